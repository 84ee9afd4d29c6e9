/-
  LOOPS, told by their heads.
-/
import Derived.Test.YtffnpkbopjjdaaaGreatDoorPart04
import Derived.ProofKit
set_option linter.unusedSectionVars false
set_option linter.unusedSimpArgs false
set_option linter.unusedVariables false
set_option maxRecDepth 100000
namespace Go.Proofs.YtffnpkbopjjdaaaGreatDoor
open Go Go.Eng
noncomputable def movsI0 (b : tBox.den) (x4 : Int) (x16 : Nat) : Cfg := ⟨.ex (pcOf F1 72 [0, 0, 1, 0, 1, 1]) ⟨(tmOf 33 [(0, (.agg [(.int .i64 (b.fst.fst)), (.int .i64 (b.fst.snd.fst)), (.int .i64 (b.snd.fst.fst)), (.int .i64 (b.snd.fst.snd.fst))])), (1, (.ptr 0 0)), (2, .nils), (3, .nils), (4, (.int .i64 x4)), (6, (.ptr 0 0)), (7, (.ptr 0 0)), (8, (.int .i64 (b.fst.fst)))]), (hpOf 1 [(0, (.cells false [(.int .i64 (b.fst.fst)), (.int .i64 (b.fst.snd.fst)), (.int .i64 (b.snd.fst.fst)), (.int .i64 (b.snd.fst.snd.fst))]))]), [], [], 33, false⟩, ⟨6, []⟩, [(.lop (pcOf F1 72 [0, 0, 1, 0, 1, 1]) 1 (tmOf 33 [(0, (.agg [(.int .i64 (b.fst.fst)), (.int .i64 (b.fst.snd.fst)), (.int .i64 (b.snd.fst.fst)), (.int .i64 (b.snd.fst.snd.fst))])), (1, (.ptr 0 0)), (2, .nils), (3, .nils), (4, (.int .i64 (b.fst.fst))), (6, (.ptr 0 0)), (7, (.ptr 0 0)), (8, (.int .i64 (b.fst.fst)))]) x16), (.blk 0), (.seq (pcOf F1 72 [1, 1, 1])), (.cal [(.tmp 2)] .top)]⟩
noncomputable def movsI1 (b : tBox.den) (x4 : Int) (x26 : Nat) (x33 : Nat) : Cfg := ⟨.ex (pcOf F1 72 [0, 0, 1, 0, 0, 1, 0, 0, 1, 0, 1, 1]) ⟨(tmOf 33 [(0, (.agg [(.int .i64 (b.fst.fst)), (.int .i64 (b.fst.snd.fst)), (.int .i64 (b.snd.fst.fst)), (.int .i64 (b.snd.fst.snd.fst))])), (1, (.ptr 0 0)), (2, .nils), (3, .nils), (4, (.int .i64 x4)), (5, (.int .i64 (b.snd.fst.fst))), (6, (.ptr 0 0)), (7, (.ptr 0 0)), (8, (.int .i64 (b.fst.fst))), (9, (.int .i64 x4)), (10, (.ptr 0 0)), (11, (.ptr 0 1)), (12, (.int .i64 (b.fst.snd.fst))), (13, (.bool (true))), (16, (.ptr 0 2)), (17, (.ptr 0 2)), (18, (.int .i64 (b.snd.fst.fst)))]), (hpOf 1 [(0, (.cells false [(.int .i64 (b.fst.fst)), (.int .i64 (b.fst.snd.fst)), (.int .i64 (b.snd.fst.fst)), (.int .i64 (b.snd.fst.snd.fst))]))]), [], [], 33, false⟩, ⟨6, []⟩, [(.lop (pcOf F1 72 [0, 0, 1, 0, 0, 1, 0, 0, 1, 0, 1, 1]) 1 (tmOf 33 [(0, (.agg [(.int .i64 (b.fst.fst)), (.int .i64 (b.fst.snd.fst)), (.int .i64 (b.snd.fst.fst)), (.int .i64 (b.snd.fst.snd.fst))])), (1, (.ptr 0 0)), (2, .nils), (3, .nils), (4, (.int .i64 x4)), (5, (.int .i64 (b.snd.fst.fst))), (6, (.ptr 0 0)), (7, (.ptr 0 0)), (8, (.int .i64 (b.fst.fst))), (9, (.int .i64 x4)), (10, (.ptr 0 0)), (11, (.ptr 0 1)), (12, (.int .i64 (b.fst.snd.fst))), (13, (.bool (true))), (16, (.ptr 0 2)), (17, (.ptr 0 2)), (18, (.int .i64 (b.snd.fst.fst)))]) x26), (.blk 2), (.blk 1), (.seq (pcOf F1 72 [1, 1, 0, 0, 1, 0, 1, 1])), (.lop (pcOf F1 72 [0, 0, 1, 0, 1, 1]) 1 (tmOf 33 [(0, (.agg [(.int .i64 (b.fst.fst)), (.int .i64 (b.fst.snd.fst)), (.int .i64 (b.snd.fst.fst)), (.int .i64 (b.snd.fst.snd.fst))])), (1, (.ptr 0 0)), (2, .nils), (3, .nils), (4, (.int .i64 (b.fst.fst))), (6, (.ptr 0 0)), (7, (.ptr 0 0)), (8, (.int .i64 (b.fst.fst)))]) x33), (.blk 0), (.seq (pcOf F1 72 [1, 1, 1])), (.cal [(.tmp 2)] .top)]⟩
noncomputable def movsI2 (b : tBox.den) (x4 : Nat) (x6 : Int) (x7 : Int) (x17 : List AV) (x29 : Nat) (x36 : Nat) : Cfg := ⟨.ex (pcOf F1 72 [0, 0, 1, 0, 0, 1, 0, 0, 1, 0, 1, 1]) ⟨(tmOf 33 [(0, (.agg [(.int .i64 (b.fst.fst)), (.int .i64 (b.fst.snd.fst)), (.int .i64 (b.snd.fst.fst)), (.int .i64 (b.snd.fst.snd.fst))])), (1, (.ptr 0 0)), (2, .nils), (3, (.sl 1 0 x4 x4 2)), (4, (.int .i64 x6)), (5, (.int .i64 x7)), (6, (.ptr 0 0)), (7, (.ptr 0 0)), (8, (.int .i64 (b.fst.fst))), (9, (.int .i64 x6)), (10, (.ptr 0 0)), (11, (.ptr 0 1)), (12, (.int .i64 (b.fst.snd.fst))), (13, (.bool (true))), (16, (.ptr 0 2)), (17, (.ptr 0 2)), (18, (.int .i64 (b.snd.fst.fst)))]), (hpOf 2 [(0, (.cells false [(.int .i64 (b.fst.fst)), (.int .i64 (b.fst.snd.fst)), (.int .i64 (b.snd.fst.fst)), (.int .i64 (b.snd.fst.snd.fst))])), (1, (.cells false x17))]), [], [], 33, false⟩, ⟨6, []⟩, [(.lop (pcOf F1 72 [0, 0, 1, 0, 0, 1, 0, 0, 1, 0, 1, 1]) 1 (tmOf 33 [(0, (.agg [(.int .i64 (b.fst.fst)), (.int .i64 (b.fst.snd.fst)), (.int .i64 (b.snd.fst.fst)), (.int .i64 (b.snd.fst.snd.fst))])), (1, (.ptr 0 0)), (2, .nils), (3, .nils), (4, (.int .i64 x6)), (5, (.int .i64 (b.snd.fst.fst))), (6, (.ptr 0 0)), (7, (.ptr 0 0)), (8, (.int .i64 (b.fst.fst))), (9, (.int .i64 x6)), (10, (.ptr 0 0)), (11, (.ptr 0 1)), (12, (.int .i64 (b.fst.snd.fst))), (13, (.bool (true))), (16, (.ptr 0 2)), (17, (.ptr 0 2)), (18, (.int .i64 (b.snd.fst.fst)))]) x29), (.blk 2), (.blk 1), (.seq (pcOf F1 72 [1, 1, 0, 0, 1, 0, 1, 1])), (.lop (pcOf F1 72 [0, 0, 1, 0, 1, 1]) 1 (tmOf 33 [(0, (.agg [(.int .i64 (b.fst.fst)), (.int .i64 (b.fst.snd.fst)), (.int .i64 (b.snd.fst.fst)), (.int .i64 (b.snd.fst.snd.fst))])), (1, (.ptr 0 0)), (2, .nils), (3, .nils), (4, (.int .i64 (b.fst.fst))), (6, (.ptr 0 0)), (7, (.ptr 0 0)), (8, (.int .i64 (b.fst.fst)))]) x36), (.blk 0), (.seq (pcOf F1 72 [1, 1, 1])), (.cal [(.tmp 2)] .top)]⟩
noncomputable def movsI3 (b : tBox.den) (x4 : Nat) (x6 : Int) (x12 : List AV) (x19 : Nat) : Cfg := ⟨.ex (pcOf F1 72 [0, 0, 1, 0, 1, 1]) ⟨(tmOf 33 [(0, (.agg [(.int .i64 (b.fst.fst)), (.int .i64 (b.fst.snd.fst)), (.int .i64 (b.snd.fst.fst)), (.int .i64 (b.snd.fst.snd.fst))])), (1, (.ptr 0 0)), (2, .nils), (3, (.sl 1 0 x4 x4 2)), (4, (.int .i64 x6)), (6, (.ptr 0 0)), (7, (.ptr 0 0)), (8, (.int .i64 (b.fst.fst)))]), (hpOf 2 [(0, (.cells false [(.int .i64 (b.fst.fst)), (.int .i64 (b.fst.snd.fst)), (.int .i64 (b.snd.fst.fst)), (.int .i64 (b.snd.fst.snd.fst))])), (1, (.cells false x12))]), [], [], 33, false⟩, ⟨6, []⟩, [(.lop (pcOf F1 72 [0, 0, 1, 0, 1, 1]) 1 (tmOf 33 [(0, (.agg [(.int .i64 (b.fst.fst)), (.int .i64 (b.fst.snd.fst)), (.int .i64 (b.snd.fst.fst)), (.int .i64 (b.snd.fst.snd.fst))])), (1, (.ptr 0 0)), (2, .nils), (3, .nils), (4, (.int .i64 (b.fst.fst))), (6, (.ptr 0 0)), (7, (.ptr 0 0)), (8, (.int .i64 (b.fst.fst)))]) x19), (.blk 0), (.seq (pcOf F1 72 [1, 1, 1])), (.cal [(.tmp 2)] .top)]⟩
noncomputable def movsI4 (b : tBox.den) (x4 : Nat) (x6 : Int) (x17 : List AV) (x31 : Nat) (x38 : Nat) : Cfg := ⟨.ex (pcOf F1 72 [0, 0, 1, 0, 0, 1, 0, 0, 1, 0, 1, 1]) ⟨(tmOf 33 [(0, (.agg [(.int .i64 (b.fst.fst)), (.int .i64 (b.fst.snd.fst)), (.int .i64 (b.snd.fst.fst)), (.int .i64 (b.snd.fst.snd.fst))])), (1, (.ptr 0 0)), (2, .nils), (3, (.sl 1 0 x4 x4 2)), (4, (.int .i64 x6)), (5, (.int .i64 (b.snd.fst.fst))), (6, (.ptr 0 0)), (7, (.ptr 0 0)), (8, (.int .i64 (b.fst.fst))), (9, (.int .i64 x6)), (10, (.ptr 0 0)), (11, (.ptr 0 1)), (12, (.int .i64 (b.fst.snd.fst))), (13, (.bool (true))), (16, (.ptr 0 2)), (17, (.ptr 0 2)), (18, (.int .i64 (b.snd.fst.fst)))]), (hpOf 2 [(0, (.cells false [(.int .i64 (b.fst.fst)), (.int .i64 (b.fst.snd.fst)), (.int .i64 (b.snd.fst.fst)), (.int .i64 (b.snd.fst.snd.fst))])), (1, (.cells false x17))]), [], [], 33, false⟩, ⟨6, []⟩, [(.lop (pcOf F1 72 [0, 0, 1, 0, 0, 1, 0, 0, 1, 0, 1, 1]) 2 (tmOf 33 [(0, (.agg [(.int .i64 (b.fst.fst)), (.int .i64 (b.fst.snd.fst)), (.int .i64 (b.snd.fst.fst)), (.int .i64 (b.snd.fst.snd.fst))])), (1, (.ptr 0 0)), (2, .nils), (3, (.sl 1 0 x4 x4 2)), (4, (.int .i64 x6)), (5, (.int .i64 (b.snd.fst.fst))), (6, (.ptr 0 0)), (7, (.ptr 0 0)), (8, (.int .i64 (b.fst.fst))), (9, (.int .i64 x6)), (10, (.ptr 0 0)), (11, (.ptr 0 1)), (12, (.int .i64 (b.fst.snd.fst))), (13, (.bool (true))), (16, (.ptr 0 2)), (17, (.ptr 0 2)), (18, (.int .i64 (b.snd.fst.fst)))]) x31), (.blk 2), (.blk 1), (.seq (pcOf F1 72 [1, 1, 0, 0, 1, 0, 1, 1])), (.lop (pcOf F1 72 [0, 0, 1, 0, 1, 1]) 1 (tmOf 33 [(0, (.agg [(.int .i64 (b.fst.fst)), (.int .i64 (b.fst.snd.fst)), (.int .i64 (b.snd.fst.fst)), (.int .i64 (b.snd.fst.snd.fst))])), (1, (.ptr 0 0)), (2, .nils), (3, .nils), (4, (.int .i64 (b.fst.fst))), (6, (.ptr 0 0)), (7, (.ptr 0 0)), (8, (.int .i64 (b.fst.fst)))]) x38), (.blk 0), (.seq (pcOf F1 72 [1, 1, 1])), (.cal [(.tmp 2)] .top)]⟩
noncomputable def movsI5 (b : tBox.den) (x4 : Nat) (x6 : Int) (x7 : Int) (x17 : List AV) (x22 : Nat) (x31 : Nat) (x38 : Nat) : Cfg := ⟨.ex (pcOf F1 72 [0, 0, 1, 0, 0, 1, 0, 0, 1, 0, 1, 1]) ⟨(tmOf 33 [(0, (.agg [(.int .i64 (b.fst.fst)), (.int .i64 (b.fst.snd.fst)), (.int .i64 (b.snd.fst.fst)), (.int .i64 (b.snd.fst.snd.fst))])), (1, (.ptr 0 0)), (2, .nils), (3, (.sl 2 0 x4 x4 2)), (4, (.int .i64 x6)), (5, (.int .i64 x7)), (6, (.ptr 0 0)), (7, (.ptr 0 0)), (8, (.int .i64 (b.fst.fst))), (9, (.int .i64 x6)), (10, (.ptr 0 0)), (11, (.ptr 0 1)), (12, (.int .i64 (b.fst.snd.fst))), (13, (.bool (true))), (16, (.ptr 0 2)), (17, (.ptr 0 2)), (18, (.int .i64 (b.snd.fst.fst)))]), (hpOf 3 [(0, (.cells false [(.int .i64 (b.fst.fst)), (.int .i64 (b.fst.snd.fst)), (.int .i64 (b.snd.fst.fst)), (.int .i64 (b.snd.fst.snd.fst))])), (1, .gone), (2, (.cells false x17))]), [], [], 33, false⟩, ⟨6, []⟩, [(.lop (pcOf F1 72 [0, 0, 1, 0, 0, 1, 0, 0, 1, 0, 1, 1]) 2 (tmOf 33 [(0, (.agg [(.int .i64 (b.fst.fst)), (.int .i64 (b.fst.snd.fst)), (.int .i64 (b.snd.fst.fst)), (.int .i64 (b.snd.fst.snd.fst))])), (1, (.ptr 0 0)), (2, .nils), (3, (.sl 1 0 x22 x22 2)), (4, (.int .i64 x6)), (5, (.int .i64 (b.snd.fst.fst))), (6, (.ptr 0 0)), (7, (.ptr 0 0)), (8, (.int .i64 (b.fst.fst))), (9, (.int .i64 x6)), (10, (.ptr 0 0)), (11, (.ptr 0 1)), (12, (.int .i64 (b.fst.snd.fst))), (13, (.bool (true))), (16, (.ptr 0 2)), (17, (.ptr 0 2)), (18, (.int .i64 (b.snd.fst.fst)))]) x31), (.blk 2), (.blk 1), (.seq (pcOf F1 72 [1, 1, 0, 0, 1, 0, 1, 1])), (.lop (pcOf F1 72 [0, 0, 1, 0, 1, 1]) 1 (tmOf 33 [(0, (.agg [(.int .i64 (b.fst.fst)), (.int .i64 (b.fst.snd.fst)), (.int .i64 (b.snd.fst.fst)), (.int .i64 (b.snd.fst.snd.fst))])), (1, (.ptr 0 0)), (2, .nils), (3, .nils), (4, (.int .i64 (b.fst.fst))), (6, (.ptr 0 0)), (7, (.ptr 0 0)), (8, (.int .i64 (b.fst.fst)))]) x38), (.blk 0), (.seq (pcOf F1 72 [1, 1, 1])), (.cal [(.tmp 2)] .top)]⟩
theorem movs_start (b : tBox.den) : adv F1 (Z1 [72]) 3000 (startC F1 72 [tBox.av b] 6) = some (.stop (movsI0 b (b.fst.fst) (1048575))) := by kernel_rfl
theorem movs_step0 (b : tBox.den) (x4 : Int) (x16 : Nat) : adv F1 (Z1 [72]) 3000 (movsI0 b x4 (x16 + 1)) = (bif ile x4 b.fst.snd.fst then some (.stop (movsI1 b (x4) (1048575) (x16 + 1))) else some (.done .nils)) := by kernel_rfl
theorem movs_step1 (b : tBox.den) (x4 : Int) (x26 : Nat) (x33 : Nat) : adv F1 (Z1 [72]) 3000 (movsI1 b x4 (x26 + 1) (x33 + 1)) = (bif ile b.snd.fst.fst b.snd.fst.snd.fst then some (.stop (movsI2 b (1) (x4) (wr IntKind.i64 (b.snd.fst.fst + 1)) ([AV.int IntKind.i64 x4, AV.int IntKind.i64 b.snd.fst.fst]) (x26) (x33 + 1))) else some (.stop (movsI0 b (wr IntKind.i64 (x4 + 1)) (x33)))) := by kernel_rfl
theorem movs_step2 (b : tBox.den) (x4 : Nat) (x6 : Int) (x7 : Int) (x17 : List AV) (x29 : Nat) (x36 : Nat) : adv F1 (Z1 [72]) 3000 (movsI2 b x4 x6 x7 x17 (x29 + 1) (x36 + 1)) = (bif ile x7 b.snd.fst.snd.fst then (bif (0 + x4 * F1.size 27).beq x17.length then (bif x4.ble 1048576 then (bif plO (AO.cells false (x17 ++ [AV.int IntKind.i64 x6, AV.int IntKind.i64 x7])) then some (.stop (movsI2 b (x4 + 1) (x6) (wr IntKind.i64 (x7 + 1)) (x17 ++ [AV.int IntKind.i64 x6, AV.int IntKind.i64 x7]) (x29) (x36 + 1))) else none) else none) else none) else (bif plO (AO.cells false x17) then some (.stop (movsI3 b (x4) (wr IntKind.i64 (x6 + 1)) (x17) (x36))) else none)) := by kernel_rfl
theorem movs_step3 (b : tBox.den) (x4 : Nat) (x6 : Int) (x12 : List AV) (x19 : Nat) : adv F1 (Z1 [72]) 3000 (movsI3 b x4 x6 x12 (x19 + 1)) = (bif ile x6 b.fst.snd.fst then some (.stop (movsI4 b (x4) (x6) (x12) (1048575) (x19 + 1))) else (bif plainL x12 then some (.done (.csl (x12) (x4))) else none)) := by kernel_rfl
theorem movs_step4 (b : tBox.den) (x4 : Nat) (x6 : Int) (x17 : List AV) (x31 : Nat) (x38 : Nat) : adv F1 (Z1 [72]) 3000 (movsI4 b x4 x6 x17 (x31 + 1) (x38 + 1)) = (bif ile b.snd.fst.fst b.snd.fst.snd.fst then (bif (0 + x4 * F1.size 27).beq x17.length then (bif x4.ble 1048576 then (bif plO (AO.cells false (x17 ++ [AV.int IntKind.i64 x6, AV.int IntKind.i64 b.snd.fst.fst])) then some (.stop (movsI5 b (x4 + 1) (x6) (wr IntKind.i64 (b.snd.fst.fst + 1)) (x17 ++ [AV.int IntKind.i64 x6, AV.int IntKind.i64 b.snd.fst.fst]) (x4) (x31) (x38 + 1))) else none) else none) else none) else (bif plO (AO.cells false x17) then some (.stop (movsI3 b (x4) (wr IntKind.i64 (x6 + 1)) (x17) (x38))) else none)) := by kernel_rfl
theorem movs_step5 (b : tBox.den) (x4 : Nat) (x6 : Int) (x7 : Int) (x17 : List AV) (x22 : Nat) (x31 : Nat) (x38 : Nat) : adv F1 (Z1 [72]) 3000 (movsI5 b x4 x6 x7 x17 x22 (x31 + 1) (x38 + 1)) = (bif ile x7 b.snd.fst.snd.fst then (bif (0 + x4 * F1.size 27).beq x17.length then (bif x4.ble 1048576 then (bif plO (AO.cells false (x17 ++ [AV.int IntKind.i64 x6, AV.int IntKind.i64 x7])) then some (.stop (movsI5 b (x4 + 1) (x6) (wr IntKind.i64 (x7 + 1)) (x17 ++ [AV.int IntKind.i64 x6, AV.int IntKind.i64 x7]) (x22) (x31) (x38 + 1))) else none) else none) else none) else (bif plO (AO.cells false x17) then some (.stop (movsI3 b (x4) (wr IntKind.i64 (x6 + 1)) (x17) (x38))) else none)) := by kernel_rfl
abbrev tView : Ty := .cons tSand (.cons tP .nil)
/-! ### All places of a box -/
theorem flatP_len (l : List tP.den) : (flat tP l).length = 2 * l.length := by
  induction l with
  | nil => rfl
  | cons a l ih => show (.int .i64 a.1 :: .int .i64 a.2.1 :: flat tP l : List AV).length = _; simp only [List.length_cons, ih]; omega
theorem flatP_plain (l : List tP.den) : plainL (flat tP l) = true := by
  induction l with
  | nil => rfl
  | cons a l ih => exact ih
theorem flatP_add (l : List tP.den) (x y : Int) : flat tP l ++ [.int .i64 x, .int .i64 y] = flat tP (l ++ [(x, y, ())]) := by
  unfold flat; rw [List.flatMap_append]; rfl
noncomputable def rowY (x y : Int) : Nat → List tP.den
  | 0 => []
  | r + 1 => (x, y, ()) :: rowY x (y + 1) r
noncomputable def ptsX (y0 : Int) (n : Nat) (x : Int) : Nat → List tP.den
  | 0 => []
  | r + 1 => rowY x y0 n ++ ptsX y0 n (x + 1) r
theorem rowY_len (x : Int) : ∀ (r : Nat) (y : Int), (rowY x y r).length = r
  | 0, _ => rfl
  | r + 1, y => by rw [rowY, List.length_cons, rowY_len x r]
theorem sizeF1 : F1.size 27 = 2 := by kernel_rfl
theorem beq_flat (l : List tP.den) : (0 + l.length * F1.size 27).beq (flat tP l).length = true := by
  rw [sizeF1, flatP_len, Nat.zero_add, Nat.mul_comm]; exact Nat.beq_refl _
section
variable (b : tBox.den) (x1 y0 y1 : Int) (n : Nat) (h1 : b.1.2.1 = x1) (h2 : b.2.1.1 = y0) (h3 : b.2.1.2.1 = y1) (hn : y0 + n = y1 + 1) (hy : -100000 ≤ y0 ∧ y1 ≤ 200000)
include h3 hy
theorem movs5 (x : Int) (hx : -200000 ≤ x ∧ x ≤ 200000) (rest : List tP.den) (M x22 : Nat) (N : Nat) (K : ∀ acc : List tP.den, acc.length ≤ N → Ans F1 (movsI3 b acc.length (x + 1) (flat tP acc) M) (.vs tP false (acc ++ rest))) (hN : N ≤ 1000000) :
    ∀ (r : Nat) (y : Int) (acc : List tP.den) (m : Nat), y + r = y1 + 1 → -200000 ≤ y → r < m → acc.length + r ≤ N → Ans F1 (movsI5 b acc.length x y (flat tP acc) x22 m (M + 1)) (.vs tP false (acc ++ (rowY x y r ++ rest)))
  | 0, y, acc, m + 1, hr, hy0, hm, hl => by
    have h := movs_step5 b acc.length x y (flat tP acc) x22 m M
    have e : ile y y1 = false := by rw [ile_iff]; simp; omega
    simp only [h3, e, cond_false, cond_true, plO, flatP_plain, wr_in (show -9223372036854775808 ≤ x + 1 by omega) (by omega)] at h
    exact .stop (Z1_ok _) F1sy h (K acc (by omega))
  | r + 1, y, acc, m + 1, hr, hy0, hm, hl => by
    have h := movs_step5 b acc.length x y (flat tP acc) x22 m M
    have e : ile y y1 = true := by rw [ile_iff]; simp; omega
    have e2 : acc.length.ble 1048576 = true := Nat.ble_eq_true_of_le (by omega)
    simp only [h3, e, e2, cond_true, plO, flatP_plain, flatP_add, wr_in (show -9223372036854775808 ≤ y + 1 by omega) (by omega)] at h
    rw [beq_flat, cond_true] at h
    have ih := movs5 x hx rest M x22 N K hN r (y + 1) (acc ++ [(x, y, ())]) m (by omega) (by omega) (by omega) (by simp; omega)
    rw [show (acc ++ [((x, y, ()) : tP.den)]).length = acc.length + 1 by simp] at ih
    refine .stopE (Z1_ok _) F1sy h ih ?_
    rw [rowY, List.append_assoc]; rfl
theorem movs2 (x : Int) (hx : -200000 ≤ x ∧ x ≤ 200000) (rest : List tP.den) (M : Nat) (N : Nat) (K : ∀ acc : List tP.den, acc.length ≤ N → Ans F1 (movsI3 b acc.length (x + 1) (flat tP acc) M) (.vs tP false (acc ++ rest))) (hN : N ≤ 1000000) :
    ∀ (r : Nat) (y : Int) (acc : List tP.den) (m : Nat), y + r = y1 + 1 → -200000 ≤ y → r < m → acc.length + r ≤ N → Ans F1 (movsI2 b acc.length x y (flat tP acc) m (M + 1)) (.vs tP false (acc ++ (rowY x y r ++ rest)))
  | 0, y, acc, m + 1, hr, hy0, hm, hl => by
    have h := movs_step2 b acc.length x y (flat tP acc) m M
    have e : ile y y1 = false := by rw [ile_iff]; simp; omega
    simp only [h3, e, cond_false, cond_true, plO, flatP_plain, wr_in (show -9223372036854775808 ≤ x + 1 by omega) (by omega)] at h
    exact .stop (Z1_ok _) F1sy h (K acc (by omega))
  | r + 1, y, acc, m + 1, hr, hy0, hm, hl => by
    have h := movs_step2 b acc.length x y (flat tP acc) m M
    have e : ile y y1 = true := by rw [ile_iff]; simp; omega
    have e2 : acc.length.ble 1048576 = true := Nat.ble_eq_true_of_le (by omega)
    simp only [h3, e, e2, cond_true, plO, flatP_plain, flatP_add, wr_in (show -9223372036854775808 ≤ y + 1 by omega) (by omega)] at h
    rw [beq_flat, cond_true] at h
    have ih := movs2 x hx rest M N K hN r (y + 1) (acc ++ [(x, y, ())]) m (by omega) (by omega) (by omega) (by simp; omega)
    rw [show (acc ++ [((x, y, ()) : tP.den)]).length = acc.length + 1 by simp] at ih
    refine .stopE (Z1_ok _) F1sy h ih ?_
    rw [rowY, List.append_assoc]; rfl
include h1 h2 hn
theorem movs3 (hn0 : 0 < n) (hn1 : n ≤ 1000) : ∀ (rx : Nat) (x : Int) (acc : List tP.den) (M : Nat), x + rx = x1 + 1 → (-200000 ≤ x ∧ x1 ≤ 199999) → rx < M → acc.length + rx * n ≤ 1000000 → Ans F1 (movsI3 b acc.length x (flat tP acc) M) (.vs tP false (acc ++ ptsX y0 n x rx))
  | 0, x, acc, M + 1, hr, hx, hm, hl => by
    have h := movs_step3 b acc.length x (flat tP acc) M
    have e : ile x x1 = false := by rw [ile_iff]; simp; omega
    simp only [h1, e, cond_false, cond_true, flatP_plain] at h
    rw [ptsX, List.append_nil]
    exact .doneT (Z1_ok _) F1sy h .csl
  | rx + 1, x, acc, M + 1, hr, hx, hm, hl => by
    have h := movs_step3 b acc.length x (flat tP acc) M
    have e : ile x x1 = true := by rw [ile_iff]; simp; omega
    simp only [h1, e, cond_true] at h
    refine .stop (Z1_ok _) F1sy h ?_
    have g := movs_step4 b acc.length x (flat tP acc) 1048574 M
    have e1 : ile y0 y1 = true := by rw [ile_iff]; simp; omega
    have hmul : (rx + 1) * n = rx * n + n := by rw [Nat.add_mul, Nat.one_mul]
    have e2 : acc.length.ble 1048576 = true := Nat.ble_eq_true_of_le (by omega)
    simp only [h2, h3, e1, e2, cond_true, plO, flatP_plain, flatP_add, wr_in (show -9223372036854775808 ≤ y0 + 1 by omega) (by omega)] at g
    rw [beq_flat, cond_true] at g
    refine .stop (Z1_ok _) F1sy g ?_
    obtain ⟨n', hn'⟩ : ∃ n', n = n' + 1 := ⟨n - 1, by omega⟩
    have key : rowY x y0 n = (x, y0, ()) :: rowY x (y0 + 1) n' := by rw [hn', rowY]
    have ih := movs5 b y0 y1 h3 hy x (by omega) (ptsX y0 n (x + 1) rx) M acc.length (acc.length + n) (fun a ha => movs3 hn0 hn1 rx (x + 1) a M (by omega) (by omega) (by omega) (by omega)) (by omega) n' (y0 + 1) (acc ++ [(x, y0, ())]) 1048574 (by omega) (by omega) (by omega) (by simp; omega)
    rw [show (acc ++ [((x, y0, ()) : tP.den)]).length = acc.length + 1 by simp] at ih
    rw [ptsX, key]
    rw [List.append_assoc] at ih
    exact ih
end
noncomputable def bK (x0 x1 y0 y1 : Int) : Bool := ile (-100000) x0 && ile x0 x1 && ile x1 100000 && ile (x1 - x0) 100 && (ile (-100000) y0 && ile y0 y1 && ile y1 100000 && ile (y1 - y0) 100)
theorem bK_iff {x0 x1 y0 y1 : Int} : bK x0 x1 y0 y1 = true ↔ (((-100000 ≤ x0 ∧ x0 ≤ x1) ∧ x1 ≤ 100000) ∧ x1 - x0 ≤ 100) ∧ (((-100000 ≤ y0 ∧ y0 ≤ y1) ∧ y1 ≤ 100000) ∧ y1 - y0 ≤ 100) := by
  simp only [bK, Bool.and_eq_true, ile_iff, decide_eq_true_eq]
noncomputable def pts (x0 x1 y0 y1 : Int) : List tP.den := ptsX y0 (y1 - y0 + 1).toNat x0 (x1 - x0 + 1).toNat
theorem movs_call (b : tBox.den) (hb : bK b.1.1 b.1.2.1 b.2.1.1 b.2.1.2.1 = true) : AnsF F1 72 [tBox.av b] (.vs tP false (pts b.1.1 b.1.2.1 b.2.1.1 b.2.1.2.1)) := by
  refine Ans.call (n := 6) (ext_none (by kernel_rfl)) (hasB_spec (by kernel_rfl)) (.stop (Z1_ok _) F1sy (movs_start b) ?_)
  obtain ⟨x0, h0⟩ : ∃ x : Int, b.1.1 = x := ⟨_, rfl⟩
  obtain ⟨x1, h1⟩ : ∃ x : Int, b.1.2.1 = x := ⟨_, rfl⟩
  obtain ⟨y0, h2⟩ : ∃ x : Int, b.2.1.1 = x := ⟨_, rfl⟩
  obtain ⟨y1, h3⟩ : ∃ x : Int, b.2.1.2.1 = x := ⟨_, rfl⟩
  rw [h0, h1, h2, h3, bK_iff] at hb
  rw [h0, h1, h2, h3]
  have a := movs_step0 b x0 1048574
  have e : ile x0 x1 = true := by rw [ile_iff]; simp; omega
  simp only [h1, e, cond_true] at a
  refine .stop (Z1_ok _) F1sy a ?_
  have g := movs_step1 b x0 1048574 1048574
  have e1 : ile y0 y1 = true := by rw [ile_iff]; simp; omega
  simp only [h2, h3, e1, cond_true, wr_in (show -9223372036854775808 ≤ y0 + 1 by omega) (by omega)] at g
  refine .stop (Z1_ok _) F1sy g ?_
  obtain ⟨ny, hny⟩ : ∃ k : Nat, (y1 - y0 + 1).toNat = k + 1 := ⟨(y1 - y0).toNat, by omega⟩
  obtain ⟨nx, hnx⟩ : ∃ k : Nat, (x1 - x0 + 1).toNat = k + 1 := ⟨(x1 - x0).toNat, by omega⟩
  have hmul : nx * (ny + 1) ≤ 100 * 101 := Nat.mul_le_mul (by omega) (by omega)
  have ih := movs2 b y0 y1 h3 (by omega) x0 (by omega) (ptsX y0 (ny + 1) (x0 + 1) nx) 1048574 (ny + 1) (fun a ha => movs3 b x1 y0 y1 (ny + 1) h1 h2 h3 (by omega) (by omega) (by omega) (by omega) nx (x0 + 1) a 1048574 (by omega) (by omega) (by omega) (by omega)) (by omega) ny (y0 + 1) [(x0, y0, ())] 1048574 (by omega) (by omega) (by omega) (by simp; omega)
  unfold pts
  rw [hny, hnx, ptsX, rowY]
  exact ih
end Go.Proofs.YtffnpkbopjjdaaaGreatDoor

/-
  LOOPS, told by their heads.
-/
set_option maxRecDepth 100000
namespace Go.Proofs.YtffnpkbopjjdaaaGreatDoor
open Go Go.Eng
noncomputable def rowoI0 (v : tView.den) (x : Int) (x3 : Int) (x16 : Int) (x17 : Int) (x40 : Nat) : Cfg := ⟨.ex (pcOf F1 131 [0, 0, 1]) ⟨(tmOf 29 [(0, (.yld 5)), (1, (.ptr 4 0)), (6, (.vs tP (v.fst.snd.fst.fst) (v.fst.snd.fst.snd))), (7, (.int .i64 (Int.ofNat v.fst.snd.fst.snd.length))), (8, (.int .i64 x3))]), (hpOf 6 [(0, (.cells false [(.str (v.fst.fst)), (.vs tP (v.fst.snd.fst.fst) (v.fst.snd.fst.snd)), (.int .i64 (v.fst.snd.snd.fst.fst.fst)), (.int .i64 (v.fst.snd.snd.fst.fst.snd.fst)), (.int .i64 (v.fst.snd.snd.fst.snd.fst.fst)), (.int .i64 (v.fst.snd.snd.fst.snd.fst.snd.fst)), (.int .i64 (v.snd.fst.fst)), (.int .i64 (v.snd.fst.snd.fst))])), (1, (.cells false [(.int .i64 (x))])), (2, (.cells false [(.int .i64 (0)), (.int .i64 (0))])), (3, (.cells false [(.int .i64 x16), (.int .i64 x17)])), (4, (.cells false [(.vs tP (v.fst.snd.fst.fst) (v.fst.snd.fst.snd))]))]), [], [⟨false, .normal⟩], 29, false⟩, ⟨9, [⟨5, 43, 10, (tmOf 43 [(0, (.agg [(.str (v.fst.fst)), (.vs tP (v.fst.snd.fst.fst) (v.fst.snd.fst.snd)), (.int .i64 (v.fst.snd.snd.fst.fst.fst)), (.int .i64 (v.fst.snd.snd.fst.fst.snd.fst)), (.int .i64 (v.fst.snd.snd.fst.snd.fst.fst)), (.int .i64 (v.fst.snd.snd.fst.snd.fst.snd.fst)), (.int .i64 (v.snd.fst.fst)), (.int .i64 (v.snd.fst.snd.fst))])), (1, (.int .i64 (x))), (2, (.ptr 0 0)), (3, (.ptr 1 0)), (4, (.ptr 2 0)), (5, (.ptr 3 0)), (9, (.ptr 0 0)), (10, (.ptr 0 2)), (11, (.ptr 0 4)), (12, (.ptr 0 4)), (13, (.int .i64 (v.fst.snd.snd.fst.snd.fst.fst))), (14, (.ptr 0 0)), (15, (.ptr 0 2)), (16, (.ptr 0 4)), (17, (.ptr 0 5)), (18, (.int .i64 (v.fst.snd.snd.fst.snd.fst.snd.fst))), (19, (.agg [(.int .i64 (v.fst.snd.snd.fst.snd.fst.fst)), (.int .i64 (v.fst.snd.snd.fst.snd.fst.snd.fst))])), (20, (.ptr 0 0)), (21, (.ptr 0 1)), (22, (.vs tP (v.fst.snd.fst.fst) (v.fst.snd.fst.snd))), (23, (.fn 131 [] [(.ptr 4 0)]))]), #[24, 25], (pcOf F1 106 [0, 0, 1, 0, 1, 1]), (pcOf F1 106 [1, 0, 1, 0, 1, 1])⟩]⟩, [(.lop (pcOf F1 131 [0, 0, 1]) 6 (tmOf 29 [(0, (.yld 5)), (1, (.ptr 4 0)), (6, (.vs tP (v.fst.snd.fst.fst) (v.fst.snd.fst.snd))), (7, (.int .i64 (Int.ofNat v.fst.snd.fst.snd.length))), (8, (.int .i64 (0)))]) x40), (.blk 0), (.cal [] (.rng (tmOf 43 [(0, (.agg [(.str (v.fst.fst)), (.vs tP (v.fst.snd.fst.fst) (v.fst.snd.fst.snd)), (.int .i64 (v.fst.snd.snd.fst.fst.fst)), (.int .i64 (v.fst.snd.snd.fst.fst.snd.fst)), (.int .i64 (v.fst.snd.snd.fst.snd.fst.fst)), (.int .i64 (v.fst.snd.snd.fst.snd.fst.snd.fst)), (.int .i64 (v.snd.fst.fst)), (.int .i64 (v.snd.fst.snd.fst))])), (1, (.int .i64 (x))), (2, (.ptr 0 0)), (3, (.ptr 1 0)), (4, (.ptr 2 0)), (5, (.ptr 3 0)), (9, (.ptr 0 0)), (10, (.ptr 0 2)), (11, (.ptr 0 4)), (12, (.ptr 0 4)), (13, (.int .i64 (v.fst.snd.snd.fst.snd.fst.fst))), (14, (.ptr 0 0)), (15, (.ptr 0 2)), (16, (.ptr 0 4)), (17, (.ptr 0 5)), (18, (.int .i64 (v.fst.snd.snd.fst.snd.fst.snd.fst))), (19, (.agg [(.int .i64 (v.fst.snd.snd.fst.snd.fst.fst)), (.int .i64 (v.fst.snd.snd.fst.snd.fst.snd.fst))])), (20, (.ptr 0 0)), (21, (.ptr 0 1)), (22, (.vs tP (v.fst.snd.fst.fst) (v.fst.snd.fst.snd))), (23, (.fn 131 [] [(.ptr 4 0)]))]) [] 43 false ⟨10, []⟩)), (.blk 0), (.seq (pcOf F1 106 [1, 1, 1])), (.cal [(.cell 4 155)] .top)]⟩
theorem rowo_start (v : tView.den) (x : Int) : adv F1 (Z1 [106, 131]) 3000 (startC F1 106 [tView.av v, .int .i64 x] 10) = some (.stop (rowoI0 v x (0) (v.fst.snd.snd.fst.snd.fst.fst) (v.fst.snd.snd.fst.snd.fst.snd.fst) (1048575))) := by kernel_rfl
theorem rowo_step0 (v : tView.den) (x : Int) (x3 : Int) (x16 : Int) (x17 : Int) (x40 : Nat) : adv F1 (Z1 [106, 131]) 3000 (rowoI0 v x x3 x16 x17 (x40 + 1)) = (let z1 := (wr IntKind.i64 ((v.fst.snd.fst.snd.getD ((wr IntKind.i64 (x3 + 1)).tmod ↑v.fst.snd.fst.snd.length).toNat tP.dflt).fst - (v.fst.snd.fst.snd.getD x3.toNat tP.dflt).fst)); let z2 := (wr IntKind.i64 (wr IntKind.i64 (wr IntKind.i64 ((v.fst.snd.fst.snd.getD ((wr IntKind.i64 (x3 + 1)).tmod ↑v.fst.snd.fst.snd.length).toNat tP.dflt).fst - (v.fst.snd.fst.snd.getD x3.toNat tP.dflt).fst) * wr IntKind.i64 (v.snd.fst.snd.fst - (v.fst.snd.fst.snd.getD x3.toNat tP.dflt).snd.fst)) - wr IntKind.i64 (wr IntKind.i64 ((v.fst.snd.fst.snd.getD ((wr IntKind.i64 (x3 + 1)).tmod ↑v.fst.snd.fst.snd.length).toNat tP.dflt).snd.fst - (v.fst.snd.fst.snd.getD x3.toNat tP.dflt).snd.fst) * wr IntKind.i64 (v.snd.fst.fst - wr IntKind.i64 ((v.fst.snd.fst.snd.getD x3.toNat tP.dflt).fst + x))))); let z3 := (wr IntKind.i64 ((v.fst.snd.fst.snd.getD ((wr IntKind.i64 (x3 + 1)).tmod ↑v.fst.snd.fst.snd.length).toNat tP.dflt).snd.fst - (v.fst.snd.fst.snd.getD x3.toNat tP.dflt).snd.fst)); let z4 := (wr IntKind.i64 (0 - wr IntKind.i64 ((v.fst.snd.fst.snd.getD ((wr IntKind.i64 (x3 + 1)).tmod ↑v.fst.snd.fst.snd.length).toNat tP.dflt).fst - (v.fst.snd.fst.snd.getD x3.toNat tP.dflt).fst))); let z5 := (wr IntKind.i64 ((v.fst.snd.fst.snd.getD x3.toNat tP.dflt).fst + x)); (bif !ile (Int.ofNat v.fst.snd.fst.snd.length) x3 then (bif inB x3 v.fst.snd.fst.snd.length then (bif ieq (↑v.fst.snd.fst.snd.length) 0 then none else (bif inB ((wr IntKind.i64 (x3 + 1)).tmod ↑v.fst.snd.fst.snd.length) v.fst.snd.fst.snd.length then (bif bbeq v.fst.snd.fst.fst v.fst.snd.fst.fst then (bif vsB tP v.fst.snd.fst.snd tP v.fst.snd.fst.snd then (bif bbeq v.fst.snd.fst.fst v.fst.snd.fst.fst then (bif vsB tP v.fst.snd.fst.snd tP v.fst.snd.fst.snd then (bif !ile z1 0 then (bif ieq z1 0 then none else (bif ieq z1 0 then none else (bif !ile 0 (z2.tmod z1) then (bif ieq x17 x17 then (bif ieq x17 x17 then (bif ieq v.snd.fst.fst v.snd.fst.fst then (bif ieq v.snd.fst.snd.fst v.snd.fst.snd.fst then (bif ieq z5 z5 then (bif ieq (v.fst.snd.fst.snd.getD x3.toNat tP.dflt).snd.fst (v.fst.snd.fst.snd.getD x3.toNat tP.dflt).snd.fst then (bif ieq z1 z1 then (bif ieq z3 z3 then (bif ieq z1 z1 then (bif ieq z3 z3 then (bif ieq z1 z1 then (bif ieq z1 z1 then (bif ieq z1 z1 then (bif ieq (v.fst.snd.fst.snd.getD ((wr IntKind.i64 (x3 + 1)).tmod ↑v.fst.snd.fst.snd.length).toNat tP.dflt).fst (v.fst.snd.fst.snd.getD ((wr IntKind.i64 (x3 + 1)).tmod ↑v.fst.snd.fst.snd.length).toNat tP.dflt).fst then (bif ieq (v.fst.snd.fst.snd.getD ((wr IntKind.i64 (x3 + 1)).tmod ↑v.fst.snd.fst.snd.length).toNat tP.dflt).snd.fst (v.fst.snd.fst.snd.getD ((wr IntKind.i64 (x3 + 1)).tmod ↑v.fst.snd.fst.snd.length).toNat tP.dflt).snd.fst then (bif ieq (v.fst.snd.fst.snd.getD x3.toNat tP.dflt).fst (v.fst.snd.fst.snd.getD x3.toNat tP.dflt).fst then (bif ieq (v.fst.snd.fst.snd.getD x3.toNat tP.dflt).snd.fst (v.fst.snd.fst.snd.getD x3.toNat tP.dflt).snd.fst then (bif ieq (v.fst.snd.fst.snd.getD x3.toNat tP.dflt).fst (v.fst.snd.fst.snd.getD x3.toNat tP.dflt).fst then (bif ieq (v.fst.snd.fst.snd.getD x3.toNat tP.dflt).snd.fst (v.fst.snd.fst.snd.getD x3.toNat tP.dflt).snd.fst then (bif ieq (v.fst.snd.fst.snd.getD x3.toNat tP.dflt).fst (v.fst.snd.fst.snd.getD x3.toNat tP.dflt).fst then (bif ieq (v.fst.snd.fst.snd.getD x3.toNat tP.dflt).snd.fst (v.fst.snd.fst.snd.getD x3.toNat tP.dflt).snd.fst then some (.stop (rowoI0 v x (wr IntKind.i64 (x3 + 1)) (x16) (bif ile x17 (wr IntKind.i64 (wr IntKind.i64 (z2.tdiv z1) - 1)) then x17 else wr IntKind.i64 (wr IntKind.i64 (z2.tdiv z1) - 1)) (x40))) else none) else none) else none) else none) else none) else none) else none) else none) else none) else none) else none) else none) else none) else none) else none) else none) else none) else none) else none) else none) else none) else (bif ieq x17 x17 then (bif ieq x17 x17 then (bif ieq v.snd.fst.fst v.snd.fst.fst then (bif ieq v.snd.fst.snd.fst v.snd.fst.snd.fst then (bif ieq z5 z5 then (bif ieq (v.fst.snd.fst.snd.getD x3.toNat tP.dflt).snd.fst (v.fst.snd.fst.snd.getD x3.toNat tP.dflt).snd.fst then (bif ieq z1 z1 then (bif ieq z3 z3 then (bif ieq z1 z1 then (bif ieq z3 z3 then (bif ieq z1 z1 then (bif ieq z1 z1 then (bif ieq z1 z1 then (bif ieq (v.fst.snd.fst.snd.getD ((wr IntKind.i64 (x3 + 1)).tmod ↑v.fst.snd.fst.snd.length).toNat tP.dflt).fst (v.fst.snd.fst.snd.getD ((wr IntKind.i64 (x3 + 1)).tmod ↑v.fst.snd.fst.snd.length).toNat tP.dflt).fst then (bif ieq (v.fst.snd.fst.snd.getD ((wr IntKind.i64 (x3 + 1)).tmod ↑v.fst.snd.fst.snd.length).toNat tP.dflt).snd.fst (v.fst.snd.fst.snd.getD ((wr IntKind.i64 (x3 + 1)).tmod ↑v.fst.snd.fst.snd.length).toNat tP.dflt).snd.fst then (bif ieq (v.fst.snd.fst.snd.getD x3.toNat tP.dflt).fst (v.fst.snd.fst.snd.getD x3.toNat tP.dflt).fst then (bif ieq (v.fst.snd.fst.snd.getD x3.toNat tP.dflt).snd.fst (v.fst.snd.fst.snd.getD x3.toNat tP.dflt).snd.fst then (bif ieq (v.fst.snd.fst.snd.getD x3.toNat tP.dflt).fst (v.fst.snd.fst.snd.getD x3.toNat tP.dflt).fst then (bif ieq (v.fst.snd.fst.snd.getD x3.toNat tP.dflt).snd.fst (v.fst.snd.fst.snd.getD x3.toNat tP.dflt).snd.fst then (bif ieq (v.fst.snd.fst.snd.getD x3.toNat tP.dflt).fst (v.fst.snd.fst.snd.getD x3.toNat tP.dflt).fst then (bif ieq (v.fst.snd.fst.snd.getD x3.toNat tP.dflt).snd.fst (v.fst.snd.fst.snd.getD x3.toNat tP.dflt).snd.fst then some (.stop (rowoI0 v x (wr IntKind.i64 (x3 + 1)) (x16) (bif ile x17 (wr IntKind.i64 (z2.tdiv z1)) then x17 else wr IntKind.i64 (z2.tdiv z1)) (x40))) else none) else none) else none) else none) else none) else none) else none) else none) else none) else none) else none) else none) else none) else none) else none) else none) else none) else none) else none) else none) else none)))) else (bif !ile 0 z1 then (bif ieq z4 0 then none else (bif ieq z4 0 then none else (bif !ile 0 (z2.tmod z4) then (bif ieq x16 x16 then (bif ieq x16 x16 then (bif ieq v.snd.fst.fst v.snd.fst.fst then (bif ieq v.snd.fst.snd.fst v.snd.fst.snd.fst then (bif ieq z5 z5 then (bif ieq (v.fst.snd.fst.snd.getD x3.toNat tP.dflt).snd.fst (v.fst.snd.fst.snd.getD x3.toNat tP.dflt).snd.fst then (bif ieq z1 z1 then (bif ieq z3 z3 then (bif ieq z1 z1 then (bif ieq z3 z3 then (bif ieq z1 z1 then (bif ieq z1 z1 then (bif ieq z1 z1 then (bif ieq (v.fst.snd.fst.snd.getD ((wr IntKind.i64 (x3 + 1)).tmod ↑v.fst.snd.fst.snd.length).toNat tP.dflt).fst (v.fst.snd.fst.snd.getD ((wr IntKind.i64 (x3 + 1)).tmod ↑v.fst.snd.fst.snd.length).toNat tP.dflt).fst then (bif ieq (v.fst.snd.fst.snd.getD ((wr IntKind.i64 (x3 + 1)).tmod ↑v.fst.snd.fst.snd.length).toNat tP.dflt).snd.fst (v.fst.snd.fst.snd.getD ((wr IntKind.i64 (x3 + 1)).tmod ↑v.fst.snd.fst.snd.length).toNat tP.dflt).snd.fst then (bif ieq (v.fst.snd.fst.snd.getD x3.toNat tP.dflt).fst (v.fst.snd.fst.snd.getD x3.toNat tP.dflt).fst then (bif ieq (v.fst.snd.fst.snd.getD x3.toNat tP.dflt).snd.fst (v.fst.snd.fst.snd.getD x3.toNat tP.dflt).snd.fst then (bif ieq (v.fst.snd.fst.snd.getD x3.toNat tP.dflt).fst (v.fst.snd.fst.snd.getD x3.toNat tP.dflt).fst then (bif ieq (v.fst.snd.fst.snd.getD x3.toNat tP.dflt).snd.fst (v.fst.snd.fst.snd.getD x3.toNat tP.dflt).snd.fst then (bif ieq (v.fst.snd.fst.snd.getD x3.toNat tP.dflt).fst (v.fst.snd.fst.snd.getD x3.toNat tP.dflt).fst then (bif ieq (v.fst.snd.fst.snd.getD x3.toNat tP.dflt).snd.fst (v.fst.snd.fst.snd.getD x3.toNat tP.dflt).snd.fst then some (.stop (rowoI0 v x (wr IntKind.i64 (x3 + 1)) (bif ile (wr IntKind.i64 (0 - wr IntKind.i64 (wr IntKind.i64 (z2.tdiv z4) - 1))) x16 then x16 else wr IntKind.i64 (0 - wr IntKind.i64 (wr IntKind.i64 (z2.tdiv z4) - 1))) (x17) (x40))) else none) else none) else none) else none) else none) else none) else none) else none) else none) else none) else none) else none) else none) else none) else none) else none) else none) else none) else none) else none) else none) else (bif ieq x16 x16 then (bif ieq x16 x16 then (bif ieq v.snd.fst.fst v.snd.fst.fst then (bif ieq v.snd.fst.snd.fst v.snd.fst.snd.fst then (bif ieq z5 z5 then (bif ieq (v.fst.snd.fst.snd.getD x3.toNat tP.dflt).snd.fst (v.fst.snd.fst.snd.getD x3.toNat tP.dflt).snd.fst then (bif ieq z1 z1 then (bif ieq z3 z3 then (bif ieq z1 z1 then (bif ieq z3 z3 then (bif ieq z1 z1 then (bif ieq z1 z1 then (bif ieq z1 z1 then (bif ieq (v.fst.snd.fst.snd.getD ((wr IntKind.i64 (x3 + 1)).tmod ↑v.fst.snd.fst.snd.length).toNat tP.dflt).fst (v.fst.snd.fst.snd.getD ((wr IntKind.i64 (x3 + 1)).tmod ↑v.fst.snd.fst.snd.length).toNat tP.dflt).fst then (bif ieq (v.fst.snd.fst.snd.getD ((wr IntKind.i64 (x3 + 1)).tmod ↑v.fst.snd.fst.snd.length).toNat tP.dflt).snd.fst (v.fst.snd.fst.snd.getD ((wr IntKind.i64 (x3 + 1)).tmod ↑v.fst.snd.fst.snd.length).toNat tP.dflt).snd.fst then (bif ieq (v.fst.snd.fst.snd.getD x3.toNat tP.dflt).fst (v.fst.snd.fst.snd.getD x3.toNat tP.dflt).fst then (bif ieq (v.fst.snd.fst.snd.getD x3.toNat tP.dflt).snd.fst (v.fst.snd.fst.snd.getD x3.toNat tP.dflt).snd.fst then (bif ieq (v.fst.snd.fst.snd.getD x3.toNat tP.dflt).fst (v.fst.snd.fst.snd.getD x3.toNat tP.dflt).fst then (bif ieq (v.fst.snd.fst.snd.getD x3.toNat tP.dflt).snd.fst (v.fst.snd.fst.snd.getD x3.toNat tP.dflt).snd.fst then (bif ieq (v.fst.snd.fst.snd.getD x3.toNat tP.dflt).fst (v.fst.snd.fst.snd.getD x3.toNat tP.dflt).fst then (bif ieq (v.fst.snd.fst.snd.getD x3.toNat tP.dflt).snd.fst (v.fst.snd.fst.snd.getD x3.toNat tP.dflt).snd.fst then some (.stop (rowoI0 v x (wr IntKind.i64 (x3 + 1)) (bif ile (wr IntKind.i64 (0 - wr IntKind.i64 (z2.tdiv z4))) x16 then x16 else wr IntKind.i64 (0 - wr IntKind.i64 (z2.tdiv z4))) (x17) (x40))) else none) else none) else none) else none) else none) else none) else none) else none) else none) else none) else none) else none) else none) else none) else none) else none) else none) else none) else none) else none) else none)))) else (bif !ile 0 z2 then (bif ieq v.snd.fst.fst v.snd.fst.fst then (bif ieq v.snd.fst.snd.fst v.snd.fst.snd.fst then (bif ieq z5 z5 then (bif ieq (v.fst.snd.fst.snd.getD x3.toNat tP.dflt).snd.fst (v.fst.snd.fst.snd.getD x3.toNat tP.dflt).snd.fst then (bif ieq z1 z1 then (bif ieq z3 z3 then (bif ieq z1 z1 then (bif ieq z3 z3 then (bif ieq z1 z1 then (bif ieq z1 z1 then (bif ieq z1 z1 then (bif ieq (v.fst.snd.fst.snd.getD ((wr IntKind.i64 (x3 + 1)).tmod ↑v.fst.snd.fst.snd.length).toNat tP.dflt).fst (v.fst.snd.fst.snd.getD ((wr IntKind.i64 (x3 + 1)).tmod ↑v.fst.snd.fst.snd.length).toNat tP.dflt).fst then (bif ieq (v.fst.snd.fst.snd.getD ((wr IntKind.i64 (x3 + 1)).tmod ↑v.fst.snd.fst.snd.length).toNat tP.dflt).snd.fst (v.fst.snd.fst.snd.getD ((wr IntKind.i64 (x3 + 1)).tmod ↑v.fst.snd.fst.snd.length).toNat tP.dflt).snd.fst then (bif ieq (v.fst.snd.fst.snd.getD x3.toNat tP.dflt).fst (v.fst.snd.fst.snd.getD x3.toNat tP.dflt).fst then (bif ieq (v.fst.snd.fst.snd.getD x3.toNat tP.dflt).snd.fst (v.fst.snd.fst.snd.getD x3.toNat tP.dflt).snd.fst then (bif ieq (v.fst.snd.fst.snd.getD x3.toNat tP.dflt).fst (v.fst.snd.fst.snd.getD x3.toNat tP.dflt).fst then (bif ieq (v.fst.snd.fst.snd.getD x3.toNat tP.dflt).snd.fst (v.fst.snd.fst.snd.getD x3.toNat tP.dflt).snd.fst then (bif ieq (v.fst.snd.fst.snd.getD x3.toNat tP.dflt).fst (v.fst.snd.fst.snd.getD x3.toNat tP.dflt).fst then (bif ieq (v.fst.snd.fst.snd.getD x3.toNat tP.dflt).snd.fst (v.fst.snd.fst.snd.getD x3.toNat tP.dflt).snd.fst then some (.stop (rowoI0 v x (wr IntKind.i64 (x3 + 1)) (x16) (wr IntKind.i64 (x16 - 1)) (x40))) else none) else none) else none) else none) else none) else none) else none) else none) else none) else none) else none) else none) else none) else none) else none) else none) else none) else none) else none) else (bif ieq v.snd.fst.fst v.snd.fst.fst then (bif ieq v.snd.fst.snd.fst v.snd.fst.snd.fst then (bif ieq z5 z5 then (bif ieq (v.fst.snd.fst.snd.getD x3.toNat tP.dflt).snd.fst (v.fst.snd.fst.snd.getD x3.toNat tP.dflt).snd.fst then (bif ieq z1 z1 then (bif ieq z3 z3 then (bif ieq z1 z1 then (bif ieq z3 z3 then (bif ieq z1 z1 then (bif ieq z1 z1 then (bif ieq z1 z1 then (bif ieq (v.fst.snd.fst.snd.getD ((wr IntKind.i64 (x3 + 1)).tmod ↑v.fst.snd.fst.snd.length).toNat tP.dflt).fst (v.fst.snd.fst.snd.getD ((wr IntKind.i64 (x3 + 1)).tmod ↑v.fst.snd.fst.snd.length).toNat tP.dflt).fst then (bif ieq (v.fst.snd.fst.snd.getD ((wr IntKind.i64 (x3 + 1)).tmod ↑v.fst.snd.fst.snd.length).toNat tP.dflt).snd.fst (v.fst.snd.fst.snd.getD ((wr IntKind.i64 (x3 + 1)).tmod ↑v.fst.snd.fst.snd.length).toNat tP.dflt).snd.fst then (bif ieq (v.fst.snd.fst.snd.getD x3.toNat tP.dflt).fst (v.fst.snd.fst.snd.getD x3.toNat tP.dflt).fst then (bif ieq (v.fst.snd.fst.snd.getD x3.toNat tP.dflt).snd.fst (v.fst.snd.fst.snd.getD x3.toNat tP.dflt).snd.fst then (bif ieq (v.fst.snd.fst.snd.getD x3.toNat tP.dflt).fst (v.fst.snd.fst.snd.getD x3.toNat tP.dflt).fst then (bif ieq (v.fst.snd.fst.snd.getD x3.toNat tP.dflt).snd.fst (v.fst.snd.fst.snd.getD x3.toNat tP.dflt).snd.fst then (bif ieq (v.fst.snd.fst.snd.getD x3.toNat tP.dflt).fst (v.fst.snd.fst.snd.getD x3.toNat tP.dflt).fst then (bif ieq (v.fst.snd.fst.snd.getD x3.toNat tP.dflt).snd.fst (v.fst.snd.fst.snd.getD x3.toNat tP.dflt).snd.fst then some (.stop (rowoI0 v x (wr IntKind.i64 (x3 + 1)) (x16) (x17) (x40))) else none) else none) else none) else none) else none) else none) else none) else none) else none) else none) else none) else none) else none) else none) else none) else none) else none) else none) else none)))) else none) else none) else none) else none) else none)) else none) else some (.done (.agg [(.int .i64 (x16)), (.int .i64 (x17))])))) := by kernel_rfl
noncomputable def liesI0 (s : tSand.den) (mv pt : tP.den) (x14 : Int) (x45 : Nat) : Cfg := ⟨.ex (pcOf F1 46 [0, 0, 1, 0, 1, 1]) ⟨(tmOf 42 [(0, (.agg [(.str (s.fst)), (.vs tP (s.snd.fst.fst) (s.snd.fst.snd)), (.int .i64 (s.snd.snd.fst.fst.fst)), (.int .i64 (s.snd.snd.fst.fst.snd.fst)), (.int .i64 (s.snd.snd.fst.snd.fst.fst)), (.int .i64 (s.snd.snd.fst.snd.fst.snd.fst))])), (1, (.agg [(.int .i64 (mv.fst)), (.int .i64 (mv.snd.fst))])), (2, (.agg [(.int .i64 (pt.fst)), (.int .i64 (pt.snd.fst))])), (3, (.ptr 0 0)), (4, (.ptr 1 0)), (5, (.ptr 2 0)), (6, (.bool (false))), (7, (.vs tP (s.snd.fst.fst) (s.snd.fst.snd))), (8, (.int .i64 x14)), (10, (.ptr 0 1)), (11, (.vs tP (s.snd.fst.fst) (s.snd.fst.snd)))]), (hpOf 3 [(0, (.cells false [(.str (s.fst)), (.vs tP (s.snd.fst.fst) (s.snd.fst.snd)), (.int .i64 (s.snd.snd.fst.fst.fst)), (.int .i64 (s.snd.snd.fst.fst.snd.fst)), (.int .i64 (s.snd.snd.fst.snd.fst.fst)), (.int .i64 (s.snd.snd.fst.snd.fst.snd.fst))])), (1, (.cells false [(.int .i64 (mv.fst)), (.int .i64 (mv.snd.fst))])), (2, (.cells false [(.int .i64 (pt.fst)), (.int .i64 (pt.snd.fst))]))]), [], [], 42, false⟩, ⟨6, []⟩, [(.lop (pcOf F1 46 [0, 0, 1, 0, 1, 1]) 3 (tmOf 42 [(0, (.agg [(.str (s.fst)), (.vs tP (s.snd.fst.fst) (s.snd.fst.snd)), (.int .i64 (s.snd.snd.fst.fst.fst)), (.int .i64 (s.snd.snd.fst.fst.snd.fst)), (.int .i64 (s.snd.snd.fst.snd.fst.fst)), (.int .i64 (s.snd.snd.fst.snd.fst.snd.fst))])), (1, (.agg [(.int .i64 (mv.fst)), (.int .i64 (mv.snd.fst))])), (2, (.agg [(.int .i64 (pt.fst)), (.int .i64 (pt.snd.fst))])), (3, (.ptr 0 0)), (4, (.ptr 1 0)), (5, (.ptr 2 0)), (6, (.bool (false))), (7, (.vs tP (s.snd.fst.fst) (s.snd.fst.snd))), (8, (.int .i64 (0))), (10, (.ptr 0 1)), (11, (.vs tP (s.snd.fst.fst) (s.snd.fst.snd)))]) x45), (.blk 0), (.seq (pcOf F1 46 [1, 1, 1])), (.cal [(.tmp 6)] .top)]⟩
theorem lies_start (s : tSand.den) (mv pt : tP.den) : adv F1 (Z1 [46]) 3000 (startC F1 46 [tSand.av s, tP.av mv, tP.av pt] 6) = some (.stop (liesI0 s mv pt (0) (1048575))) := by kernel_rfl
theorem lies_step0 (s : tSand.den) (mv pt : tP.den) (x14 : Int) (x45 : Nat) : adv F1 (Z1 [46]) 3000 (liesI0 s mv pt x14 (x45 + 1)) = (bif !ile (↑s.snd.fst.snd.length) x14 then (bif ieq (↑s.snd.fst.snd.length) 0 then none else (bif inB ((wr IntKind.i64 (x14 + 1)).tmod ↑s.snd.fst.snd.length) s.snd.fst.snd.length then (bif inB x14 s.snd.fst.snd.length then (bif inB x14 s.snd.fst.snd.length then (bif ieq mv.fst mv.fst then (bif ieq mv.snd.fst mv.snd.fst then (bif ieq mv.fst mv.fst then (bif ieq mv.snd.fst mv.snd.fst then (bif ieq pt.fst pt.fst then (bif ieq pt.snd.fst pt.snd.fst then (bif ieq pt.fst pt.fst then (bif ieq pt.snd.fst pt.snd.fst then (bif !ile 0 (wr IntKind.i64 (wr IntKind.i64 (wr IntKind.i64 ((s.snd.fst.snd.getD ((wr IntKind.i64 (x14 + 1)).tmod ↑s.snd.fst.snd.length).toNat tP.dflt).fst - (s.snd.fst.snd.getD x14.toNat tP.dflt).fst) * wr IntKind.i64 (wr IntKind.i64 (pt.snd.fst - mv.snd.fst) - (s.snd.fst.snd.getD x14.toNat tP.dflt).snd.fst)) - wr IntKind.i64 (wr IntKind.i64 ((s.snd.fst.snd.getD ((wr IntKind.i64 (x14 + 1)).tmod ↑s.snd.fst.snd.length).toNat tP.dflt).snd.fst - (s.snd.fst.snd.getD x14.toNat tP.dflt).snd.fst) * wr IntKind.i64 (wr IntKind.i64 (pt.fst - mv.fst) - (s.snd.fst.snd.getD x14.toNat tP.dflt).fst)))) then some (.done (.bool (false))) else some (.stop (liesI0 s mv pt (wr IntKind.i64 (x14 + 1)) (x45)))) else none) else none) else none) else none) else none) else none) else none) else none) else none) else none) else none)) else some (.done (.bool (true)))) := by kernel_rfl
theorem tdiv_floor {a b : Int} (hb : 0 < b) : (a.tmod b < 0 → a.tdiv b - 1 = a / b) ∧ (¬ a.tmod b < 0 → a.tdiv b = a / b) := by
  by_cases ha : 0 ≤ a
  · have h1 : a.tdiv b = a / b := Int.tdiv_eq_ediv_of_nonneg ha
    have h2 : a.tmod b = a % b := Int.tmod_eq_emod_of_nonneg ha
    have h3 := Int.emod_nonneg a (show b ≠ 0 by omega)
    exact ⟨fun h => by omega, fun _ => h1⟩
  · obtain ⟨m, rfl⟩ : ∃ m : Int, a = -m := ⟨-a, by omega⟩
    have h1 : (-m).tdiv b = -(m / b) := by rw [Int.neg_tdiv, Int.tdiv_eq_ediv_of_nonneg (by omega)]
    have h2 : (-m).tmod b = -(m % b) := by rw [Int.neg_tmod, Int.tmod_eq_emod_of_nonneg (by omega)]
    have h3 := Int.emod_nonneg m (show b ≠ 0 by omega)
    have h4 := Int.emod_lt_of_pos m hb
    have h5 := Int.mul_ediv_add_emod m b
    rw [h1, h2]
    constructor
    · intro h
      have := ((Int.ediv_emod_unique hb (a := -m) (q := -(m / b) - 1) (r := b - m % b)).2 ⟨by rw [Int.mul_sub, Int.mul_neg, Int.mul_one]; omega, by omega, by omega⟩).1
      exact this.symm
    · intro h
      have := ((Int.ediv_emod_unique hb (a := -m) (q := -(m / b)) (r := 0)).2 ⟨by rw [Int.mul_neg]; omega, by omega, by omega⟩).1
      exact this.symm
noncomputable def cutF (lo hi a l : Int) : Int × Int := bif !ile a 0 then (lo, bif ile hi (l / a) then hi else l / a) else (bif !ile 0 a then (bif ile (-(l / (-a))) lo then lo else -(l / (-a)), hi) else (bif !ile 0 l then (lo, lo - 1) else (lo, hi)))
theorem cut_mem {lo hi a l y : Int} : ((cutF lo hi a l).1 ≤ y ∧ y ≤ (cutF lo hi a l).2) ↔ (lo ≤ y ∧ y ≤ hi) ∧ a * y ≤ l := by
  unfold cutF
  cases h1 : ile a 0 with
  | false =>
    rw [ile_iff] at h1
    simp only [decide_eq_false_iff_not] at h1
    have ha : 0 < a := by omega
    have key : y ≤ l / a ↔ a * y ≤ l := by rw [Int.le_ediv_iff_mul_le ha, Int.mul_comm]
    simp only [Bool.not_false, cond_true]
    cases h2 : ile hi (l / a) with
    | true =>
      rw [ile_iff] at h2
      simp only [decide_eq_true_eq] at h2
      simp only [cond_true]
      rw [← key]; omega
    | false =>
      rw [ile_iff] at h2
      simp only [decide_eq_false_iff_not] at h2
      simp only [cond_false]
      rw [← key]; omega
  | true =>
    rw [ile_iff] at h1
    simp only [decide_eq_true_eq] at h1
    simp only [Bool.not_true, cond_false]
    cases h2 : ile 0 a with
    | false =>
      rw [ile_iff] at h2
      simp only [decide_eq_false_iff_not] at h2
      have ha : 0 < -a := by omega
      have key : -(l / (-a)) ≤ y ↔ a * y ≤ l := by
        rw [show (-(l / (-a)) ≤ y) ↔ (-y ≤ l / (-a)) by omega, Int.le_ediv_iff_mul_le ha, Int.neg_mul_neg, Int.mul_comm]
      simp only [Bool.not_false, cond_true]
      cases h3 : ile (-(l / (-a))) lo with
      | true =>
        rw [ile_iff] at h3
        simp only [decide_eq_true_eq] at h3
        simp only [cond_true]
        rw [← key]; omega
      | false =>
        rw [ile_iff] at h3
        simp only [decide_eq_false_iff_not] at h3
        simp only [cond_false]
        rw [← key]; omega
    | true =>
      rw [ile_iff] at h2
      simp only [decide_eq_true_eq] at h2
      have : a = 0 := by omega
      subst this
      simp only [Bool.not_true, cond_false]
      cases h3 : ile 0 l with
      | false =>
        rw [ile_iff] at h3
        simp only [decide_eq_false_iff_not] at h3
        simp only [Bool.not_false, cond_true, Int.zero_mul]
        omega
      | true =>
        rw [ile_iff] at h3
        simp only [decide_eq_true_eq] at h3
        simp only [Bool.not_true, cond_false, Int.zero_mul]
        omega
/-! ### The rows that bring a sand onto a place -/
noncomputable def gx (C : List tP.den) (k : Nat) : Int := (C.getD k tP.dflt).1
noncomputable def gy (C : List tP.den) (k : Nat) : Int := (C.getD k tP.dflt).2.1
noncomputable def sA (C : List tP.den) (k : Nat) : Int := gx C ((k + 1) % C.length) - gx C k
noncomputable def sB (C : List tP.den) (k : Nat) : Int := gy C ((k + 1) % C.length) - gy C k
/-- How far a place is to the left of a side. -/
noncomputable def sL (C : List tP.den) (k : Nat) (dx dy : Int) : Int := sA C k * (dy - gy C k) - sB C k * (dx - gx C k)
noncomputable def rowsF (C : List tP.den) (fx fy x : Int) : Int → Int → Nat → Nat → Int × Int
  | lo, hi, _, 0 => (lo, hi)
  | lo, hi, k, r + 1 => rowsF C fx fy x (cutF lo hi (sA C k) (sL C k (fx - x) fy)).1 (cutF lo hi (sA C k) (sL C k (fx - x) fy)).2 (k + 1) r
noncomputable def agg2 (r : Int × Int) : AV := .agg [.int .i64 r.1, .int .i64 r.2]
def inC (C : List tP.den) : Prop := ∀ k, k < C.length → (-10000 ≤ gx C k ∧ gx C k ≤ 10000) ∧ -10000 ≤ gy C k ∧ gy C k ≤ 10000
theorem div_b {l a : Int} (ha : 0 < a) (h1 : -1200000000 ≤ l) (h2 : l ≤ 1200000000) : -1200000000 ≤ l / a ∧ l / a ≤ 1200000000 := by
  constructor
  · rw [Int.le_ediv_iff_mul_le ha]; omega
  · have : l / a < 1200000001 := by rw [Int.ediv_lt_iff_lt_mul ha]; omega
    omega
theorem cut_b {lo hi a l : Int} (h1 : -1200000000 ≤ l) (h2 : l ≤ 1200000000) (h3 : -1000 ≤ lo ∧ lo ≤ 1200000000) (h4 : -1200000001 ≤ hi ∧ hi ≤ 1200000000) : (-1000 ≤ (cutF lo hi a l).1 ∧ (cutF lo hi a l).1 ≤ 1200000000) ∧ -1200000001 ≤ (cutF lo hi a l).2 ∧ (cutF lo hi a l).2 ≤ 1200000000 := by
  unfold cutF
  cases e1 : ile a 0 with
  | false =>
    rw [ile_iff] at e1
    simp only [decide_eq_false_iff_not] at e1
    have := div_b (l := l) (a := a) (by omega) h1 h2
    simp only [Bool.not_false, cond_true]
    cases e2 : ile hi (l / a) <;> (rw [ile_iff] at e2; simp at e2; simp only [cond_true, cond_false]; omega)
  | true =>
    simp only [Bool.not_true, cond_false]
    cases e2 : ile 0 a with
    | false =>
      rw [ile_iff] at e2
      simp only [decide_eq_false_iff_not] at e2
      have := div_b (l := l) (a := -a) (by omega) h1 h2
      simp only [Bool.not_false, cond_true]
      cases e3 : ile (-(l / -a)) lo <;> (rw [ile_iff] at e3; simp only [decide_eq_true_eq, decide_eq_false_iff_not] at e3; simp only [cond_true, cond_false]; omega)
    | true =>
      simp only [Bool.not_true, cond_false]
      cases e3 : ile 0 l <;> simp only [Bool.not_true, Bool.not_false, cond_true, cond_false] <;> omega
theorem side_b {C : List tP.den} (hC : inC C) {k : Nat} (hk : k < C.length) {dx dy : Int} (hx : -20000 ≤ dx ∧ dx ≤ 20000) (hy : -20000 ≤ dy ∧ dy ≤ 20000) : ((-20000 ≤ sA C k ∧ sA C k ≤ 20000) ∧ -20000 ≤ sB C k ∧ sB C k ≤ 20000) ∧
    (-600000000 ≤ sA C k * (dy - gy C k) ∧ sA C k * (dy - gy C k) ≤ 600000000) ∧ -600000000 ≤ sB C k * (dx - gx C k) ∧ sB C k * (dx - gx C k) ≤ 600000000 := by
  have h1 := hC k hk
  have h2 := hC ((k + 1) % C.length) (Nat.mod_lt _ (by omega))
  have a : (-20000 ≤ sA C k ∧ sA C k ≤ 20000) ∧ -20000 ≤ sB C k ∧ sB C k ≤ 20000 := by unfold sA sB; omega
  have p := mul_b (a := sA C k) (b := dy - gy C k) (m := 20000) (n := 30000) (by omega) (by omega) (by omega) (by omega)
  have q := mul_b (a := sB C k) (b := dx - gx C k) (m := 20000) (n := 30000) (by omega) (by omega) (by omega) (by omega)
  exact ⟨a, by omega, by omega⟩
theorem nxt_at {k n : Nat} : ((k + 1 : Nat) : Int).tmod (n : Int) = (((k + 1) % n : Nat) : Int) := by
  rw [Int.tmod_eq_emod_of_nonneg (by omega)]; rfl
theorem nat_to (k : Nat) : (k : Int).toNat = k := Int.toNat_natCast k
theorem rowo_ans (v : tView.den) (x fx fy : Int) (C : List tP.den) (hC : v.1.2.1.2 = C) (hfx : v.2.1.1 = fx) (hfy : v.2.1.2.1 = fy) (hi8 : C.length < 1000) (hin : inC C) (bx : -500 ≤ x ∧ x ≤ 500) (bfx : -10000 ≤ fx ∧ fx ≤ 10000) (bfy : -10000 ≤ fy ∧ fy ≤ 10000) :
    ∀ (r k m : Nat) (lo hi : Int), k + r = C.length → r < m → (-1000 ≤ lo ∧ lo ≤ 1200000000) → (-1200000001 ≤ hi ∧ hi ≤ 1200000000) → Ans F1 (rowoI0 v x k lo hi m) (agg2 (rowsF C fx fy x lo hi k r))
  | 0, k, m + 1, lo, hi, hk, hm, bl, bh => by
    have h := rowo_step0 v x k lo hi m
    simp only [hC, Int.ofNat_eq_natCast, ile_ge (show C.length ≤ k by omega), Bool.not_true, cond_false] at h
    exact .done (Z1_ok _) F1sy h rfl
  | r + 1, k, m + 1, lo, hi, hk, hm, bl, bh => by
    have h := rowo_step0 v x k lo hi m
    have hlt : k < C.length := by omega
    have hq : (k + 1) % C.length < C.length := Nat.mod_lt _ (by omega)
    have hne : ieq (C.length : Int) 0 = false := by rw [ieq_iff]; exact decide_eq_false (by omega)
    have s := side_b hin hlt (dx := fx - x) (dy := fy) (by omega) (by omega)
    have hb1 := hin k hlt
    have hb2 := hin _ hq
    rw [rowsF]
    generalize hL : sL C k (fx - x) fy = L
    generalize hA : sA C k = A
    have hAe : gx C ((k + 1) % C.length) - gx C k = A := hA
    have hLe : A * (fy - gy C k) - sB C k * (fx - x - gx C k) = L := by rw [← hA]; exact hL
    have hBe : gy C ((k + 1) % C.length) - gy C k = sB C k := rfl
    rw [hA] at s
    simp only [hC, hfx, hfy, Int.ofNat_eq_natCast, ile_lt hlt, inB_at hlt, nxt_at, inB_at hq, hne, nat_to, ieq_self, bbeq_self, vsB_self, wr_succ (show k < 1048577 by omega), Bool.not_false, cond_true, cond_false] at h
    have f1 : ∀ j, (C.getD j tP.dflt).1 = gx C j := fun j => rfl
    have f2 : ∀ j, (C.getD j tP.dflt).2.1 = gy C j := fun j => rfl
    simp only [f1, f2] at h
    have w1 : wr .i64 (gx C ((k + 1) % C.length) - gx C k) = A := by rw [wr_in (by omega) (by omega)]; exact hAe
    have w2 : wr .i64 (gy C ((k + 1) % C.length) - gy C k) = sB C k := by rw [wr_in (by omega) (by omega)]; rfl
    have w3 : wr .i64 (gx C k + x) = gx C k + x := wr_in (by omega) (by omega)
    have w4 : wr .i64 (fx - (gx C k + x)) = fx - x - gx C k := by rw [wr_in (by omega) (by omega)]; omega
    have w5 : wr .i64 (fy - gy C k) = fy - gy C k := wr_in (by omega) (by omega)
    have w6 : wr .i64 (A * (fy - gy C k)) = A * (fy - gy C k) := wr_in (by omega) (by omega)
    have w7 : wr .i64 (sB C k * (fx - x - gx C k)) = sB C k * (fx - x - gx C k) := wr_in (by omega) (by omega)
    have w8 : wr .i64 (A * (fy - gy C k) - sB C k * (fx - x - gx C k)) = L := by rw [wr_in (by omega) (by omega)]; exact hLe
    have w9 : wr .i64 (0 - A) = -A := by rw [wr_in (by omega) (by omega)]; omega
    simp only [w1, w2, w3, w4, w5, w6, w7, w8, w9] at h
    have bL : -1200000000 ≤ L ∧ L ≤ 1200000000 := by omega
    have cb := cut_b (a := A) bL.1 bL.2 bl bh
    have ih := rowo_ans v x fx fy C hC hfx hfy hi8 hin bx bfx bfy r (k + 1) m (cutF lo hi A L).1 (cutF lo hi A L).2 (by omega) (by omega) cb.1 cb.2
    refine .stop (Z1_ok [106, 131]) F1sy (n := 3000) ?_ ih
    rw [h]
    clear h ih cb
    unfold cutF
    cases e1 : ile A 0 with
    | false =>
      rw [ile_iff] at e1
      simp only [decide_eq_false_iff_not] at e1
      have ha : 0 < A := by omega
      have z1 : ieq A 0 = false := by rw [ieq_iff]; simp; omega
      have db := div_b ha bL.1 bL.2
      obtain ⟨t1, t2⟩ := tdiv_floor (a := L) ha
      simp only [z1, Bool.not_false, cond_true, cond_false]
      cases e2 : ile 0 (L.tmod A) with
      | false =>
        rw [ile_iff] at e2
        simp only [decide_eq_false_iff_not] at e2
        have t := t1 (by omega)
        have w : wr .i64 (wr .i64 (L.tdiv A) - 1) = L / A := by rw [wr_in (n := L.tdiv A) (by omega) (by omega), wr_in (by omega) (by omega)]; exact t
        simp only [w, Bool.not_false, cond_true]
      | true =>
        rw [ile_iff] at e2
        simp only [decide_eq_true_eq] at e2
        have t := t2 (by omega)
        have w : wr .i64 (L.tdiv A) = L / A := by rw [wr_in (by omega) (by omega)]; exact t
        simp only [w, Bool.not_true, cond_false]
    | true =>
      simp only [Bool.not_true, cond_false]
      cases e3 : ile 0 A with
      | false =>
        rw [ile_iff] at e3
        simp only [decide_eq_false_iff_not] at e3
        have ha : 0 < -A := by omega
        have z1 : ieq (-A) 0 = false := by rw [ieq_iff]; simp; omega
        have db := div_b ha bL.1 bL.2
        obtain ⟨t1, t2⟩ := tdiv_floor (a := L) ha
        simp only [z1, Bool.not_false, cond_true, cond_false]
        cases e2 : ile 0 (L.tmod (-A)) with
        | false =>
          rw [ile_iff] at e2
          simp only [decide_eq_false_iff_not] at e2
          have t := t1 (by omega)
          have w : wr .i64 (wr .i64 (L.tdiv (-A)) - 1) = L / (-A) := by rw [wr_in (n := L.tdiv (-A)) (by omega) (by omega), wr_in (by omega) (by omega)]; exact t
          have w' : wr .i64 (0 - L / (-A)) = -(L / (-A)) := by rw [wr_in (by omega) (by omega)]; omega
          simp only [w, w', Bool.not_false, cond_true]
        | true =>
          rw [ile_iff] at e2
          simp only [decide_eq_true_eq] at e2
          have t := t2 (by omega)
          have w : wr .i64 (L.tdiv (-A)) = L / (-A) := by rw [wr_in (by omega) (by omega)]; exact t
          have w' : wr .i64 (0 - L / (-A)) = -(L / (-A)) := by rw [wr_in (by omega) (by omega)]; omega
          simp only [w, w', Bool.not_true, cond_false]
      | true =>
        simp only [Bool.not_true, cond_false]
        have w : wr .i64 (lo - 1) = lo - 1 := wr_in (by omega) (by omega)
        cases e2 : ile 0 L <;> simp only [w, Bool.not_true, Bool.not_false, cond_true, cond_false]
noncomputable def cOK (C : List tP.den) : Bool := Nat.ble C.length 100 && C.all inP
theorem cOK_in {C : List tP.den} (h : cOK C = true) : C.length ≤ 100 ∧ inC C := by
  unfold cOK at h
  rw [Bool.and_eq_true] at h
  refine ⟨Nat.le_of_ble_eq_true h.1, fun k hk => ?_⟩
  have hm := List.all_eq_true.1 h.2 (C.getD k tP.dflt) (by simp [hk])
  have hm : inP (C.getD k tP.dflt) = true := hm
  simp only [inP, Bool.and_eq_true, ile_iff, decide_eq_true_eq] at hm
  show (-10000 ≤ (C.getD k tP.dflt).1 ∧ (C.getD k tP.dflt).1 ≤ 10000) ∧ -10000 ≤ (C.getD k tP.dflt).2.1 ∧ (C.getD k tP.dflt).2.1 ≤ 10000
  exact ⟨⟨hm.1.1.1, hm.1.1.2⟩, hm.1.2, hm.2⟩
noncomputable def in5 (x : Int) : Bool := ile (-500) x && ile x 500
theorem in5_iff {x : Int} : in5 x = true ↔ -500 ≤ x ∧ x ≤ 500 := by simp only [in5, Bool.and_eq_true, ile_iff, decide_eq_true_eq]
noncomputable def in10 (x : Int) : Bool := ile (-10000) x && ile x 10000
theorem in10_iff {x : Int} : in10 x = true ↔ -10000 ≤ x ∧ x ≤ 10000 := by simp only [in10, Bool.and_eq_true, ile_iff, decide_eq_true_eq]
theorem rowo_call (v : tView.den) (x : Int) (hC : cOK v.1.2.1.2 = true) (hx : in5 x = true) (h1 : in10 v.2.1.1 = true) (h2 : in10 v.2.1.2.1 = true) (h3 : in5 v.1.2.2.1.2.1.1 = true) (h4 : in5 v.1.2.2.1.2.1.2.1 = true) :
    AnsF F1 106 [tView.av v, .int .i64 x] (agg2 (rowsF v.1.2.1.2 v.2.1.1 v.2.1.2.1 x v.1.2.2.1.2.1.1 v.1.2.2.1.2.1.2.1 0 v.1.2.1.2.length)) := by
  obtain ⟨a, b⟩ := cOK_in hC
  rw [in5_iff] at hx
  refine Ans.call (n := 10) (ext_none (by kernel_rfl)) (hasB_spec (by kernel_rfl)) (.stop (Z1_ok _) F1sy (rowo_start v x) ?_)
  obtain ⟨fx, hfx⟩ : ∃ y : Int, v.2.1.1 = y := ⟨_, rfl⟩
  obtain ⟨fy, hfy⟩ : ∃ y : Int, v.2.1.2.1 = y := ⟨_, rfl⟩
  obtain ⟨lo, hlo⟩ : ∃ y : Int, v.1.2.2.1.2.1.1 = y := ⟨_, rfl⟩
  obtain ⟨hi, hhi⟩ : ∃ y : Int, v.1.2.2.1.2.1.2.1 = y := ⟨_, rfl⟩
  rw [hfx, in10_iff] at h1; rw [hfy, in10_iff] at h2; rw [hlo, in5_iff] at h3; rw [hhi, in5_iff] at h4
  rw [hfx, hfy, hlo, hhi]
  exact rowo_ans v x fx fy _ rfl hfx hfy (by omega) b hx h1 h2 _ 0 1048575 lo hi (by omega) (by omega) (by omega) (by omega)
/-! ### Is a place on a sand? -/
noncomputable def liesF (C : List tP.den) (dx dy : Int) : Nat → Nat → Bool
  | _, 0 => true
  | k, r + 1 => bif ile 0 (sL C k dx dy) then liesF C dx dy (k + 1) r else false
theorem lies_ans (s : tSand.den) (mv pt : tP.den) (mx my px py : Int) (C : List tP.den) (hC : s.2.1.2 = C) (h1 : mv.1 = mx) (h2 : mv.2.1 = my) (h3 : pt.1 = px) (h4 : pt.2.1 = py) (hi8 : C.length < 1000) (hin : inC C) (b1 : -500 ≤ mx ∧ mx ≤ 500) (b2 : -500 ≤ my ∧ my ≤ 500) (b3 : -10000 ≤ px ∧ px ≤ 10000) (b4 : -10000 ≤ py ∧ py ≤ 10000) :
    ∀ (r k m : Nat), k + r = C.length → r < m → Ans F1 (liesI0 s mv pt k m) (.bool (liesF C (px - mx) (py - my) k r))
  | 0, k, m + 1, hk, hm => by
    have h := lies_step0 s mv pt k m
    simp only [hC, ile_ge (show C.length ≤ k by omega), Bool.not_true, cond_false] at h
    exact .doneB (Z1_ok _) F1sy h rfl
  | r + 1, k, m + 1, hk, hm => by
    have h := lies_step0 s mv pt k m
    have hlt : k < C.length := by omega
    have hq : (k + 1) % C.length < C.length := Nat.mod_lt _ (by omega)
    have hne : ieq (C.length : Int) 0 = false := by rw [ieq_iff]; exact decide_eq_false (by omega)
    have s := side_b hin hlt (dx := px - mx) (dy := py - my) (by omega) (by omega)
    have hb1 := hin k hlt
    have hb2 := hin _ hq
    rw [liesF]
    generalize hL : sL C k (px - mx) (py - my) = L
    generalize hA : sA C k = A at s
    have hAe : gx C ((k + 1) % C.length) - gx C k = A := hA
    have hLe : A * (py - my - gy C k) - sB C k * (px - mx - gx C k) = L := by rw [← hA]; exact hL
    have hBe : gy C ((k + 1) % C.length) - gy C k = sB C k := rfl
    simp only [hC, h1, h2, h3, h4, ile_lt hlt, inB_at hlt, nxt_at, inB_at hq, hne, nat_to, ieq_self, bbeq_self, vsB_self, wr_succ (show k < 1048577 by omega), Bool.not_false, cond_true, cond_false] at h
    have f1 : ∀ j, (C.getD j tP.dflt).1 = gx C j := fun j => rfl
    have f2 : ∀ j, (C.getD j tP.dflt).2.1 = gy C j := fun j => rfl
    simp only [f1, f2] at h
    have w1 : wr .i64 (gx C ((k + 1) % C.length) - gx C k) = A := by rw [wr_in (by omega) (by omega)]; exact hAe
    have w2 : wr .i64 (gy C ((k + 1) % C.length) - gy C k) = sB C k := by rw [wr_in (by omega) (by omega)]; rfl
    have w3 : wr .i64 (px - mx) = px - mx := wr_in (by omega) (by omega)
    have w3' : wr .i64 (py - my) = py - my := wr_in (by omega) (by omega)
    have w4 : wr .i64 (px - mx - gx C k) = px - mx - gx C k := wr_in (by omega) (by omega)
    have w5 : wr .i64 (py - my - gy C k) = py - my - gy C k := wr_in (by omega) (by omega)
    have w6 : wr .i64 (A * (py - my - gy C k)) = A * (py - my - gy C k) := wr_in (by omega) (by omega)
    have w7 : wr .i64 (sB C k * (px - mx - gx C k)) = sB C k * (px - mx - gx C k) := wr_in (by omega) (by omega)
    have w8 : wr .i64 (A * (py - my - gy C k) - sB C k * (px - mx - gx C k)) = L := by rw [wr_in (by omega) (by omega)]; exact hLe
    simp only [w1, w2, w3, w3', w4, w5, w6, w7, w8] at h
    cases e : ile 0 L with
    | true =>
      simp only [e, Bool.not_true, cond_true, cond_false] at h ⊢
      exact .stop (Z1_ok _) F1sy h (lies_ans _ mv pt mx my px py C hC h1 h2 h3 h4 hi8 hin b1 b2 b3 b4 r (k + 1) m (by omega) (by omega))
    | false =>
      simp only [e, Bool.not_false, cond_true, cond_false] at h ⊢
      exact .doneB (Z1_ok _) F1sy h rfl
theorem lies_call (s : tSand.den) (mv pt : tP.den) (hC : cOK s.2.1.2 = true) (h1 : in5 mv.1 = true) (h2 : in5 mv.2.1 = true) (h3 : in10 pt.1 = true) (h4 : in10 pt.2.1 = true) :
    AnsF F1 46 [tSand.av s, tP.av mv, tP.av pt] (.bool (liesF s.2.1.2 (pt.1 - mv.1) (pt.2.1 - mv.2.1) 0 s.2.1.2.length)) := by
  obtain ⟨a, b⟩ := cOK_in hC
  refine Ans.call (n := 6) (ext_none (by kernel_rfl)) (hasB_spec (by kernel_rfl)) (.stop (Z1_ok _) F1sy (lies_start s mv pt) ?_)
  exact lies_ans s mv pt mv.1 mv.2.1 pt.1 pt.2.1 _ rfl rfl rfl rfl rfl (by omega) b (in5_iff.1 h1) (in5_iff.1 h2) (in10_iff.1 h3) (in10_iff.1 h4) _ 0 1048575 (by omega) (by omega)
end Go.Proofs.YtffnpkbopjjdaaaGreatDoor

/-
  LOOPS, told by their heads.
-/
set_option maxRecDepth 100000
namespace Go.Proofs.YtffnpkbopjjdaaaGreatDoor
open Go Go.Eng
noncomputable def rowX : List AV → Option (Bool × AV) := con2 tView tI (fun v x => cOK v.1.2.1.2 && in5 x && in10 v.2.1.1 && in10 v.2.1.2.1 && in5 v.1.2.2.1.2.1.1 && in5 v.1.2.2.1.2.1.2.1) (fun v x => agg2 (rowsF v.1.2.1.2 v.2.1.1 v.2.1.2.1 x v.1.2.2.1.2.1.1 v.1.2.2.1.2.1.2.1 0 v.1.2.1.2.length))
noncomputable def lieX : List AV → Option (Bool × AV) := con3 tSand tP tP (fun s mv pt => cOK s.2.1.2 && in5 mv.1 && in5 mv.2.1 && in10 pt.1 && in10 pt.2.1) (fun s mv pt => .bool (liesF s.2.1.2 (pt.1 - mv.1) (pt.2.1 - mv.2.1) 0 s.2.1.2.length))
noncomputable def movX : List AV → Option (Bool × AV) := con1 tBox (fun b => bK b.1.1 b.1.2.1 b.2.1.1 b.2.1.2.1) (fun b => .vs tP false (pts b.1.1 b.1.2.1 b.2.1.1 b.2.1.2.1))
noncomputable def LH : List Said := [(106, rowX), (46, lieX), (72, movX)]
theorem LH_ok : ∀ e ∈ LH, SaidG Tryz.prog F1.glob e :=
  saids_cons (SaidOK.g f1 xf1 nf1 tabs_ok.mix (fun _ _ h => con2_spec (t := tView) (u := tI) (fun v x hc => by
    simp only [Bool.and_eq_true] at hc
    exact rowo_call v x hc.1.1.1.1.1 hc.1.1.1.1.2 hc.1.1.1.2 hc.1.1.2 hc.1.2 hc.2) h) rfl)
  (saids_cons (SaidOK.g f1 xf1 nf1 tabs_ok.mix (fun _ _ h => con3_spec (t := tSand) (u := tP) (w := tP) (fun s mv pt hc => by
    simp only [Bool.and_eq_true] at hc
    exact lies_call s mv pt hc.1.1.1.1 hc.1.1.1.2 hc.1.1.2 hc.1.2 hc.2) h) rfl)
  (saids_cons (SaidOK.g f1 xf1 nf1 tabs_ok.mix (fun _ _ h => con1_spec (t := tBox) (fun b hb => movs_call b hb) h) rfl) saids_nil))
noncomputable def H1 : Env := F1.say (under (xOf LH))
theorem h1 : EnvOK Tryz.prog H1 := f1.say _
theorem nh1 : NameOK H1 := nf1.say _
theorem xh1 : ExtOK Tryz.prog H1 := xf1.sayL LH_ok
theorem H1sy : H1.sy = true := rfl
noncomputable def Y1 (l : List Nat) : Sy := (Z1 []).on LH l
theorem Y1_ok (l : List Nat) : (Y1 l).ok H1 := Sy.on_ok (Z1_ok _)
end Go.Proofs.YtffnpkbopjjdaaaGreatDoor

/-
  LOOPS, told by their heads.
-/
set_option maxRecDepth 100000
namespace Go.Proofs.YtffnpkbopjjdaaaGreatDoor
open Go Go.Eng
noncomputable def mvonI0 (v : tView.den) (x10 : Int) (x14 : Int) (x41 : Nat) : Cfg := ⟨.ex (pcOf H1 69 [0, 0, 1, 0, 1, 1]) ⟨(tmOf 28 [(0, (.agg [(.str (v.fst.fst)), (.vs tP (v.fst.snd.fst.fst) (v.fst.snd.fst.snd)), (.int .i64 (v.fst.snd.snd.fst.fst.fst)), (.int .i64 (v.fst.snd.snd.fst.fst.snd.fst)), (.int .i64 (v.fst.snd.snd.fst.snd.fst.fst)), (.int .i64 (v.fst.snd.snd.fst.snd.fst.snd.fst)), (.int .i64 (v.snd.fst.fst)), (.int .i64 (v.snd.fst.snd.fst))])), (1, (.ptr 0 0)), (2, (.int .i64 (0))), (3, (.int .i64 x10)), (6, (.ptr 0 0)), (7, (.ptr 0 2)), (8, (.ptr 0 2)), (9, (.agg [(.int .i64 (v.fst.snd.snd.fst.fst.fst)), (.int .i64 (v.fst.snd.snd.fst.fst.snd.fst))])), (10, (.int .i64 (wr IntKind.i64 (wr IntKind.i64 (v.fst.snd.snd.fst.fst.snd.fst - v.fst.snd.snd.fst.fst.fst) + 1)))), (11, (.int .i64 x14))]), (hpOf 2 [(0, (.cells false [(.str (v.fst.fst)), (.vs tP (v.fst.snd.fst.fst) (v.fst.snd.fst.snd)), (.int .i64 (v.fst.snd.snd.fst.fst.fst)), (.int .i64 (v.fst.snd.snd.fst.fst.snd.fst)), (.int .i64 (v.fst.snd.snd.fst.snd.fst.fst)), (.int .i64 (v.fst.snd.snd.fst.snd.fst.snd.fst)), (.int .i64 (v.snd.fst.fst)), (.int .i64 (v.snd.fst.snd.fst))])), (1, (.cells false [(.int .i64 (v.fst.snd.snd.fst.fst.fst)), (.int .i64 (v.fst.snd.snd.fst.fst.snd.fst))]))]), [], [], 28, false⟩, ⟨8, []⟩, [(.lop (pcOf H1 69 [0, 0, 1, 0, 1, 1]) 2 (tmOf 28 [(0, (.agg [(.str (v.fst.fst)), (.vs tP (v.fst.snd.fst.fst) (v.fst.snd.fst.snd)), (.int .i64 (v.fst.snd.snd.fst.fst.fst)), (.int .i64 (v.fst.snd.snd.fst.fst.snd.fst)), (.int .i64 (v.fst.snd.snd.fst.snd.fst.fst)), (.int .i64 (v.fst.snd.snd.fst.snd.fst.snd.fst)), (.int .i64 (v.snd.fst.fst)), (.int .i64 (v.snd.fst.snd.fst))])), (1, (.ptr 0 0)), (2, (.int .i64 (0))), (3, (.int .i64 (0))), (6, (.ptr 0 0)), (7, (.ptr 0 2)), (8, (.ptr 0 2)), (9, (.agg [(.int .i64 (v.fst.snd.snd.fst.fst.fst)), (.int .i64 (v.fst.snd.snd.fst.fst.snd.fst))])), (10, (.int .i64 (wr IntKind.i64 (wr IntKind.i64 (v.fst.snd.snd.fst.fst.snd.fst - v.fst.snd.snd.fst.fst.fst) + 1)))), (11, (.int .i64 (0)))]) x41), (.blk 0), (.seq (pcOf H1 69 [1, 1, 1])), (.cal [(.tmp 2)] .top)]⟩
theorem mvon_start (v : tView.den) : adv H1 (Y1 [69]) 3000 (startC H1 69 [tView.av v] 8) = some (.stop (mvonI0 v (0) (0) (1048575))) := by kernel_rfl
theorem mvon_step0 (v : tView.den) (x10 : Int) (x14 : Int) (x41 : Nat) : adv H1 (Y1 [69]) 3000 (mvonI0 v x10 x14 (x41 + 1)) = (let z1 := (wr IntKind.i64 ((rowsF v.fst.snd.fst.snd v.snd.fst.fst v.snd.fst.snd.fst (wr IntKind.i64 (v.fst.snd.snd.fst.fst.fst + x14)) v.fst.snd.snd.fst.snd.fst.fst v.fst.snd.snd.fst.snd.fst.snd.fst 0 v.fst.snd.fst.snd.length).snd - (rowsF v.fst.snd.fst.snd v.snd.fst.fst v.snd.fst.snd.fst (wr IntKind.i64 (v.fst.snd.snd.fst.fst.fst + x14)) v.fst.snd.snd.fst.snd.fst.fst v.fst.snd.snd.fst.snd.fst.snd.fst 0 v.fst.snd.fst.snd.length).fst) + 1); (bif !ile (wr IntKind.i64 (wr IntKind.i64 (v.fst.snd.snd.fst.fst.snd.fst - v.fst.snd.snd.fst.fst.fst) + 1)) x14 then (bif cOK v.fst.snd.fst.snd && in5 (wr IntKind.i64 (v.fst.snd.snd.fst.fst.fst + x14)) && in10 v.snd.fst.fst && in10 v.snd.fst.snd.fst && in5 v.fst.snd.snd.fst.snd.fst.fst && in5 v.fst.snd.snd.fst.snd.fst.snd.fst then some (.stop (mvonI0 v (wr IntKind.i64 (x10 + bif ile (wr IntKind.i64 z1) 0 then 0 else wr IntKind.i64 z1)) (wr IntKind.i64 (x14 + 1)) (x41))) else none) else some (.done (.int .i64 (x10))))) := by kernel_rfl
/-! ### How many moves bring a sand onto a place -/
theorem rows_b {C : List tP.den} (hC : inC C) {fx fy x : Int} (bx : -500 ≤ x ∧ x ≤ 500) (bfx : -10000 ≤ fx ∧ fx ≤ 10000) (bfy : -10000 ≤ fy ∧ fy ≤ 10000) : ∀ (r k : Nat) (lo hi : Int), k + r = C.length → (-1000 ≤ lo ∧ lo ≤ 1200000000) → (-1200000001 ≤ hi ∧ hi ≤ 1200000000) →
    (-1000 ≤ (rowsF C fx fy x lo hi k r).1 ∧ (rowsF C fx fy x lo hi k r).1 ≤ 1200000000) ∧ -1200000001 ≤ (rowsF C fx fy x lo hi k r).2 ∧ (rowsF C fx fy x lo hi k r).2 ≤ 1200000000
  | 0, _, _, _, _, h1, h2 => ⟨h1, h2⟩
  | r + 1, k, lo, hi, hk, h1, h2 => by
    have s := side_b hC (k := k) (by omega) (dx := fx - x) (dy := fy) (by omega) (by omega)
    have e : sL C k (fx - x) fy = sA C k * (fy - gy C k) - sB C k * (fx - x - gx C k) := rfl
    have cb := cut_b (a := sA C k) (l := sL C k (fx - x) fy) (by omega) (by omega) h1 h2
    rw [rowsF]
    exact rows_b hC bx bfx bfy r (k + 1) _ _ (by omega) cb.1 cb.2
theorem sL_sub (C : List tP.den) (k : Nat) (dx dy y : Int) : sL C k dx (dy - y) = sL C k dx dy - sA C k * y := by
  unfold sL
  rw [show dy - y - gy C k = (dy - gy C k) - y by omega, Int.mul_sub]
  omega
theorem rows_mem {C : List tP.den} {fx fy x y : Int} : ∀ (r k : Nat) (lo hi : Int), ((rowsF C fx fy x lo hi k r).1 ≤ y ∧ y ≤ (rowsF C fx fy x lo hi k r).2) ↔ (lo ≤ y ∧ y ≤ hi) ∧ liesF C (fx - x) (fy - y) k r = true
  | 0, _, _, _ => by rw [rowsF, liesF]; simp
  | r + 1, k, lo, hi => by
    rw [rowsF, rows_mem r (k + 1), cut_mem, liesF, sL_sub]
    cases e : ile 0 (sL C k (fx - x) fy - sA C k * y) with
    | true =>
      rw [ile_iff] at e
      simp only [decide_eq_true_eq] at e
      rw [cond_true]
      constructor
      · rintro ⟨⟨h1, _⟩, h2⟩; exact ⟨h1, h2⟩
      · rintro ⟨h1, h2⟩; exact ⟨⟨h1, by omega⟩, h2⟩
    | false =>
      rw [ile_iff] at e
      simp only [decide_eq_false_iff_not] at e
      rw [cond_false]
      constructor
      · rintro ⟨⟨_, h1⟩, _⟩; omega
      · rintro ⟨_, h⟩; cases h
noncomputable def cntI (r : Int × Int) : Int := bif ile (r.2 - r.1 + 1) 0 then 0 else r.2 - r.1 + 1
noncomputable def mvF (C : List tP.den) (fx fy lo hi : Int) : Int → Nat → Int
  | _, 0 => 0
  | x, r + 1 => cntI (rowsF C fx fy x lo hi 0 C.length) + mvF C fx fy lo hi (x + 1) r
theorem cnt_row {C : List tP.den} {fx fy x lo hi : Int} (h : lo ≤ hi) : (0 ≤ cntI (rowsF C fx fy x lo hi 0 C.length) ∧ cntI (rowsF C fx fy x lo hi 0 C.length) ≤ hi - lo + 1) ∧
    (cntI (rowsF C fx fy x lo hi 0 C.length) = hi - lo + 1 ↔ ∀ y, lo ≤ y → y ≤ hi → liesF C (fx - x) (fy - y) 0 C.length = true) ∧
    (0 < cntI (rowsF C fx fy x lo hi 0 C.length) ↔ ∃ y, (lo ≤ y ∧ y ≤ hi) ∧ liesF C (fx - x) (fy - y) 0 C.length = true) := by
  have hm := fun y => rows_mem (C := C) (fx := fx) (fy := fy) (x := x) (y := y) C.length 0 lo hi
  generalize rowsF C fx fy x lo hi 0 C.length = R at hm
  obtain ⟨a, b⟩ := R
  simp only at hm
  unfold cntI
  simp only
  cases e : ile (b - a + 1) 0 with
  | true =>
    rw [ile_iff] at e
    simp only [decide_eq_true_eq] at e
    rw [cond_true]
    refine ⟨⟨by omega, by omega⟩, ⟨fun h' => by omega, fun h' => ?_⟩, ⟨fun h' => by omega, ?_⟩⟩
    · have := (hm lo).2 ⟨⟨by omega, h⟩, h' lo (by omega) h⟩
      omega
    · rintro ⟨y, h1, h2⟩
      have := (hm y).2 ⟨h1, h2⟩
      omega
  | false =>
    rw [ile_iff] at e
    simp only [decide_eq_false_iff_not] at e
    rw [cond_false]
    have ha := (hm a).1 ⟨by omega, by omega⟩
    have hb := (hm b).1 ⟨by omega, by omega⟩
    refine ⟨⟨by omega, by omega⟩, ⟨fun h' y h1 h2 => ((hm y).1 ⟨by omega, by omega⟩).2, fun h' => ?_⟩, ⟨fun _ => ⟨a, ha⟩, fun _ => by omega⟩⟩
    have p := (hm lo).2 ⟨⟨by omega, h⟩, h' lo (by omega) h⟩
    have q := (hm hi).2 ⟨⟨h, by omega⟩, h' hi h (by omega)⟩
    omega
theorem mvF_b {C : List tP.den} {fx fy lo hi : Int} (h : lo ≤ hi) : ∀ (r : Nat) (x : Int), 0 ≤ mvF C fx fy lo hi x r ∧ mvF C fx fy lo hi x r ≤ r * (hi - lo + 1)
  | 0, _ => by rw [mvF]; simp
  | r + 1, x => by
    rw [mvF]
    have h1 := (cnt_row (C := C) (fx := fx) (fy := fy) (x := x) h).1
    have h2 := mvF_b (C := C) (fx := fx) (fy := fy) h r (x + 1)
    have e : ((r + 1 : Nat) : Int) * (hi - lo + 1) = (r : Int) * (hi - lo + 1) + (hi - lo + 1) := by rw [Int.natCast_add, Int.add_mul]; simp
    omega
theorem mvF_all {C : List tP.den} {fx fy lo hi : Int} (h : lo ≤ hi) : ∀ (r : Nat) (x : Int), mvF C fx fy lo hi x r = r * (hi - lo + 1) ↔ ∀ u y, (x ≤ u ∧ u < x + r) → (lo ≤ y ∧ y ≤ hi) → liesF C (fx - u) (fy - y) 0 C.length = true
  | 0, x => by
    rw [mvF]
    simp only [Int.natCast_zero, Int.zero_mul, true_iff]
    intro u y h1; omega
  | r + 1, x => by
    rw [mvF]
    obtain ⟨h1, h2, _⟩ := cnt_row (C := C) (fx := fx) (fy := fy) (x := x) h
    have h3 := mvF_b (C := C) (fx := fx) (fy := fy) h r (x + 1)
    have ih := mvF_all (C := C) (fx := fx) (fy := fy) h r (x + 1)
    have e : ((r + 1 : Nat) : Int) * (hi - lo + 1) = (r : Int) * (hi - lo + 1) + (hi - lo + 1) := by rw [Int.natCast_add, Int.add_mul]; simp
    rw [e]
    constructor
    · intro hs u y hu hy
      by_cases hux : u = x
      · rw [hux]; exact h2.1 (by omega) y hy.1 hy.2
      · exact ih.1 (by omega) u y (by omega) hy
    · intro hs
      have p := h2.2 (fun y hy1 hy2 => hs x y (by omega) ⟨hy1, hy2⟩)
      have q := ih.2 (fun u y hu hy => hs u y (by omega) hy)
      omega
theorem mvF_any {C : List tP.den} {fx fy lo hi : Int} (h : lo ≤ hi) : ∀ (r : Nat) (x : Int), 0 < mvF C fx fy lo hi x r ↔ ∃ u y, (x ≤ u ∧ u < x + r) ∧ (lo ≤ y ∧ y ≤ hi) ∧ liesF C (fx - u) (fy - y) 0 C.length = true
  | 0, x => by
    rw [mvF]
    constructor
    · intro h; omega
    · rintro ⟨u, y, h1, _⟩; omega
  | r + 1, x => by
    rw [mvF]
    obtain ⟨h1, _, h2⟩ := cnt_row (C := C) (fx := fx) (fy := fy) (x := x) h
    have h3 := mvF_b (C := C) (fx := fx) (fy := fy) h r (x + 1)
    have ih := mvF_any (C := C) (fx := fx) (fy := fy) h r (x + 1)
    constructor
    · intro hs
      by_cases hc : 0 < cntI (rowsF C fx fy x lo hi 0 C.length)
      · obtain ⟨y, hy, hl⟩ := h2.1 hc
        exact ⟨x, y, by omega, hy, hl⟩
      · obtain ⟨u, y, hu, hy, hl⟩ := ih.1 (by omega)
        exact ⟨u, y, by omega, hy, hl⟩
    · rintro ⟨u, y, hu, hy, hl⟩
      by_cases hux : u = x
      · have := h2.2 ⟨y, hy, by rw [← hux]; exact hl⟩
        omega
      · have := ih.2 ⟨u, y, by omega, hy, hl⟩
        omega
theorem mvon_ans (v : tView.den) (C : List tP.den) (fx fy xlo xhi lo hi : Int) (hC : v.1.2.1.2 = C) (e1 : v.2.1.1 = fx) (e2 : v.2.1.2.1 = fy) (e3 : v.1.2.2.1.1.1 = xlo) (e4 : v.1.2.2.1.1.2.1 = xhi) (e5 : v.1.2.2.1.2.1.1 = lo) (e6 : v.1.2.2.1.2.1.2.1 = hi)
    (hc : cOK C = true) (b1 : in10 fx = true) (b2 : in10 fy = true) (b3 : in5 xlo = true) (b4 : in5 xhi = true) (b5 : in5 lo = true) (b6 : in5 hi = true) (hlh : lo ≤ hi) (nx : Nat) (hnx : xhi - xlo + 1 = nx) :
    ∀ (r k m : Nat) (acc : Int), k + r = nx → r < m → 0 ≤ acc → acc ≤ k * (hi - lo + 1) → Ans H1 (mvonI0 v acc k m) (.int .i64 (acc + mvF C fx fy lo hi (xlo + k) r))
  | 0, k, m + 1, acc, hk, hm, ha, ha2 => by
    have h := mvon_step0 v acc k m
    rw [in5_iff] at b3 b4
    have w : wr .i64 (wr .i64 (xhi - xlo) + 1) = (nx : Int) := by rw [wr_in (n := xhi - xlo) (by omega) (by omega), wr_in (by omega) (by omega)]; exact hnx
    simp only [e3, e4, w, ile_ge (show nx ≤ k by omega), Bool.not_true, cond_false] at h
    rw [mvF, Int.add_zero]
    exact .doneI (Y1_ok _) H1sy h rfl
  | r + 1, k, m + 1, acc, hk, hm, ha, ha2 => by
    have h := mvon_step0 v acc k m
    have k3 := in5_iff.1 b3
    have k4 := in5_iff.1 b4
    have k5 := in5_iff.1 b5
    have k6 := in5_iff.1 b6
    have w : wr .i64 (wr .i64 (xhi - xlo) + 1) = (nx : Int) := by rw [wr_in (n := xhi - xlo) (by omega) (by omega), wr_in (by omega) (by omega)]; exact hnx
    have wx : wr .i64 (xlo + (k : Int)) = xlo + k := wr_in (by omega) (by omega)
    have b7 : in5 (xlo + k) = true := by rw [in5_iff]; omega
    obtain ⟨hcl, hin⟩ := cOK_in hc
    have rb := rows_b hin (fx := fx) (fy := fy) (x := xlo + k) (by omega) (in10_iff.1 b1) (in10_iff.1 b2) C.length 0 lo hi (by omega) (by omega) (by omega)
    have cr := (cnt_row (C := C) (fx := fx) (fy := fy) (x := xlo + k) hlh).1
    have hmul : (k : Int) * (hi - lo + 1) ≤ 1001 * 1001 := by
      have := mul_b (a := (k : Int)) (b := hi - lo + 1) (m := 1001) (n := 1001) (by omega) (by omega) (by omega) (by omega)
      omega
    have e : ((k + 1 : Nat) : Int) * (hi - lo + 1) = (k : Int) * (hi - lo + 1) + (hi - lo + 1) := by rw [Int.natCast_add, Int.add_mul]; simp
    simp only [hC, e1, e2, e3, e4, e5, e6, w, wx, hc, b1, b2, b5, b6, b7, ile_lt (show k < nx by omega), wr_succ (show k < 1048577 by omega), Bool.and_self, Bool.not_false, cond_true] at h
    rw [mvF]
    have ih := mvon_ans v C fx fy xlo xhi lo hi hC e1 e2 e3 e4 e5 e6 hc b1 b2 b3 b4 b5 b6 hlh nx hnx r (k + 1) m (acc + cntI (rowsF C fx fy (xlo + k) lo hi 0 C.length)) (by omega) (by omega) (by omega) (by rw [e]; omega)
    rw [show xlo + ((k + 1 : Nat) : Int) = xlo + k + 1 by omega] at ih
    generalize rowsF C fx fy (xlo + k) lo hi 0 C.length = R at h rb cr ih
    have w2 : wr .i64 (R.2 - R.1) = R.2 - R.1 := wr_in (by omega) (by omega)
    have w3 : wr .i64 (R.2 - R.1 + 1) = R.2 - R.1 + 1 := wr_in (by omega) (by omega)
    simp only [w2, w3] at h
    have hcd : (bif ile (R.2 - R.1 + 1) 0 then (0 : Int) else R.2 - R.1 + 1) = cntI R := rfl
    rw [hcd, wr_in (by omega) (by omega)] at h
    refine .stopE (Y1_ok _) H1sy h ih ?_
    rw [Int.add_assoc]
noncomputable def mvC (v : tView.den) : Bool := cOK v.1.2.1.2 && in10 v.2.1.1 && in10 v.2.1.2.1 && in5 v.1.2.2.1.1.1 && in5 v.1.2.2.1.1.2.1 && in5 v.1.2.2.1.2.1.1 && in5 v.1.2.2.1.2.1.2.1 && ile v.1.2.2.1.1.1 v.1.2.2.1.1.2.1 && ile v.1.2.2.1.2.1.1 v.1.2.2.1.2.1.2.1
noncomputable def mvS (C : List tP.den) (fx fy x0 x1 y0 y1 : Int) : Int := mvF C fx fy y0 y1 x0 (x1 - x0 + 1).toNat
theorem mvon_call (v : tView.den) (hc : mvC v = true) : AnsF H1 69 [tView.av v] (.int .i64 (mvS v.1.2.1.2 v.2.1.1 v.2.1.2.1 v.1.2.2.1.1.1 v.1.2.2.1.1.2.1 v.1.2.2.1.2.1.1 v.1.2.2.1.2.1.2.1)) := by
  unfold mvC at hc
  simp only [Bool.and_eq_true] at hc
  obtain ⟨⟨⟨⟨⟨⟨⟨⟨c1, c2⟩, c3⟩, c4⟩, c5⟩, c6⟩, c7⟩, c8⟩, c9⟩ := hc
  refine Ans.call (n := 8) (ext_none (by kernel_rfl)) (hasB_spec (by kernel_rfl)) (.stop (Y1_ok _) H1sy (mvon_start v) ?_)
  obtain ⟨xlo, e3⟩ : ∃ y : Int, v.1.2.2.1.1.1 = y := ⟨_, rfl⟩
  obtain ⟨xhi, e4⟩ : ∃ y : Int, v.1.2.2.1.1.2.1 = y := ⟨_, rfl⟩
  obtain ⟨lo, e5⟩ : ∃ y : Int, v.1.2.2.1.2.1.1 = y := ⟨_, rfl⟩
  obtain ⟨hi, e6⟩ : ∃ y : Int, v.1.2.2.1.2.1.2.1 = y := ⟨_, rfl⟩
  rw [e3] at c4 c8; rw [e4] at c5 c8; rw [e5] at c6 c9; rw [e6] at c7 c9
  rw [e3, e4, e5, e6]
  have k4 := in5_iff.1 c4
  have k5 := in5_iff.1 c5
  rw [ile_iff] at c8 c9
  simp only [decide_eq_true_eq] at c8 c9
  have ih := mvon_ans v _ _ _ xlo xhi lo hi rfl rfl rfl e3 e4 e5 e6 c1 c2 c3 c4 c5 c6 c7 c9 (xhi - xlo + 1).toNat (by omega) (xhi - xlo + 1).toNat 0 1048575 0 (by omega) (by omega) (by omega) (by simp)
  rw [show xlo + ((0 : Nat) : Int) = xlo by omega, Int.zero_add] at ih
  exact ih
noncomputable def LI : List Said := [(69, con1 tView mvC (fun v => .int .i64 (mvS v.1.2.1.2 v.2.1.1 v.2.1.2.1 v.1.2.2.1.1.1 v.1.2.2.1.1.2.1 v.1.2.2.1.2.1.1 v.1.2.2.1.2.1.2.1)))]
theorem LI_ok : ∀ e ∈ LI, SaidG Tryz.prog H1.glob e :=
  saids_cons (SaidOK.g h1 xh1 nh1 tabs_ok.mix (fun _ _ h => con1_spec (t := tView) (fun v hc => mvon_call v hc) h) rfl) saids_nil
noncomputable def H2 : Env := H1.say (under (xOf LI))
theorem h2 : EnvOK Tryz.prog H2 := h1.say _
theorem nh2 : NameOK H2 := nh1.say _
theorem xh2 : ExtOK Tryz.prog H2 := xh1.sayL LI_ok
theorem H2sy : H2.sy = true := rfl
noncomputable def Y2 (l : List Nat) : Sy := (Y1 []).on LI l
theorem Y2_ok (l : List Nat) : (Y2 l).ok H2 := Sy.on_ok (Y1_ok _)
end Go.Proofs.YtffnpkbopjjdaaaGreatDoor

/-
  LOOPS, told by their heads.
-/
set_option maxRecDepth 100000
namespace Go.Proofs.YtffnpkbopjjdaaaGreatDoor
open Go Go.Eng
noncomputable def onchI0 (c : tChart.den) (px py : Int) (x20 : Int) (x60 : Nat) : Cfg := ⟨.ex (pcOf H2 23 [0, 0, 1, 0, 1, 1]) ⟨(tmOf 53 [(0, (.agg [(.vs tMark (c.fst.fst) (c.fst.snd)), (.vs tSand (c.snd.fst.fst) (c.snd.fst.snd))])), (1, (.agg [(.int .i64 (px)), (.int .i64 (py))])), (2, (.ptr 0 0)), (3, (.ptr 1 0)), (4, .nils), (5, .nils), (6, (.int .i64 (0))), (7, (.int .i64 (0))), (11, (.agg [(.vs tMark (c.fst.fst) (c.fst.snd)), (.vs tSand (c.snd.fst.fst) (c.snd.fst.snd))])), (12, (.agg [(.int .i64 (px)), (.int .i64 (py))])), (13, (.int .i64 (0))), (14, (.int .i64 (0))), (15, (.bool (false))), (17, (.ptr 0 1)), (18, (.vs tSand (c.snd.fst.fst) (c.snd.fst.snd))), (19, (.int .i64 (Int.ofNat c.snd.fst.snd.length))), (20, (.int .i64 x20))]), (hpOf 6 [(0, (.cells false [(.vs tMark (c.fst.fst) (c.fst.snd)), (.vs tSand (c.snd.fst.fst) (c.snd.fst.snd))])), (1, (.cells false [(.int .i64 (px)), (.int .i64 (py))])), (2, (.cells false [(.vs tMark (c.fst.fst) (c.fst.snd)), (.vs tSand (c.snd.fst.fst) (c.snd.fst.snd))])), (3, (.cells false [(.int .i64 (px)), (.int .i64 (py))])), (4, (.cells false [(.vs tMark (c.fst.fst) (c.fst.snd)), (.vs tSand (c.snd.fst.fst) (c.snd.fst.snd))])), (5, (.cells true [(.int .i64 (px)), (.int .i64 (py))]))]), [], [], 53, false⟩, ⟨8, []⟩, [(.lop (pcOf H2 23 [0, 0, 1, 0, 1, 1]) 6 (tmOf 53 [(0, (.agg [(.vs tMark (c.fst.fst) (c.fst.snd)), (.vs tSand (c.snd.fst.fst) (c.snd.fst.snd))])), (1, (.agg [(.int .i64 (px)), (.int .i64 (py))])), (2, (.ptr 0 0)), (3, (.ptr 1 0)), (4, .nils), (5, .nils), (6, (.int .i64 (0))), (7, (.int .i64 (0))), (11, (.agg [(.vs tMark (c.fst.fst) (c.fst.snd)), (.vs tSand (c.snd.fst.fst) (c.snd.fst.snd))])), (12, (.agg [(.int .i64 (px)), (.int .i64 (py))])), (13, (.int .i64 (0))), (14, (.int .i64 (0))), (15, (.bool (false))), (17, (.ptr 0 1)), (18, (.vs tSand (c.snd.fst.fst) (c.snd.fst.snd))), (19, (.int .i64 (Int.ofNat c.snd.fst.snd.length))), (20, (.int .i64 (0)))]) x60), (.blk 0), (.seq (pcOf H2 23 [1, 1, 1])), (.cal [(.tmp 4), (.tmp 5), (.tmp 6)] .top)]⟩
noncomputable def onchI1 (c : tChart.den) (px py : Int) (x58 : Nat) : Cfg := ⟨.ex (pcOf H2 23 [0, 0, 1, 0, 1, 1]) ⟨(tmOf 53 [(0, (.agg [(.vs tMark (c.fst.fst) (c.fst.snd)), (.vs tSand (c.snd.fst.fst) (c.snd.fst.snd))])), (1, (.agg [(.int .i64 (px)), (.int .i64 (py))])), (2, (.ptr 0 0)), (3, (.ptr 1 0)), (4, .nils), (5, .nils), (6, (.int .i64 (0))), (7, (.int .i64 ((chkS c).snd.snd))), (11, (.agg [(.vs tMark (c.fst.fst) (c.fst.snd)), (.vs tSand (c.snd.fst.fst) (c.snd.fst.snd))])), (12, (.agg [(.int .i64 (px)), (.int .i64 (py))])), (13, (.int .i64 ((chkS c).snd.snd))), (14, (.int .i64 ((chkS c).snd.snd))), (15, (.bool (false))), (17, (.ptr 0 1)), (18, (.vs tSand (c.snd.fst.fst) (c.snd.fst.snd))), (19, (.int .i64 (Int.ofNat c.snd.fst.snd.length))), (20, (.int .i64 (0)))]), (hpOf 5 [(0, (.cells false [(.vs tMark (c.fst.fst) (c.fst.snd)), (.vs tSand (c.snd.fst.fst) (c.snd.fst.snd))])), (1, (.cells false [(.int .i64 (px)), (.int .i64 (py))])), (2, (.cells false [(.vs tMark (c.fst.fst) (c.fst.snd)), (.vs tSand (c.snd.fst.fst) (c.snd.fst.snd))])), (3, (.cells false [(.int .i64 (px)), (.int .i64 (py))])), (4, (.cells false [(.vs tMark (c.fst.fst) (c.fst.snd)), (.vs tSand (c.snd.fst.fst) (c.snd.fst.snd))]))]), [], [], 53, false⟩, ⟨8, []⟩, [(.lop (pcOf H2 23 [0, 0, 1, 0, 1, 1]) 5 (tmOf 53 [(0, (.agg [(.vs tMark (c.fst.fst) (c.fst.snd)), (.vs tSand (c.snd.fst.fst) (c.snd.fst.snd))])), (1, (.agg [(.int .i64 (px)), (.int .i64 (py))])), (2, (.ptr 0 0)), (3, (.ptr 1 0)), (4, .nils), (5, .nils), (6, (.int .i64 (0))), (7, (.int .i64 ((chkS c).snd.snd))), (11, (.agg [(.vs tMark (c.fst.fst) (c.fst.snd)), (.vs tSand (c.snd.fst.fst) (c.snd.fst.snd))])), (12, (.agg [(.int .i64 (px)), (.int .i64 (py))])), (13, (.int .i64 ((chkS c).snd.snd))), (14, (.int .i64 ((chkS c).snd.snd))), (15, (.bool (false))), (17, (.ptr 0 1)), (18, (.vs tSand (c.snd.fst.fst) (c.snd.fst.snd))), (19, (.int .i64 (Int.ofNat c.snd.fst.snd.length))), (20, (.int .i64 (0)))]) x58), (.blk 0), (.seq (pcOf H2 23 [1, 1, 1])), (.cal [(.tmp 4), (.tmp 5), (.tmp 6)] .top)]⟩
noncomputable def onchI2 (c : tChart.den) (px py : Int) (x6 : Nat) (x22 : Int) (x41 : List AV) (x63 : Nat) : Cfg := ⟨.ex (pcOf H2 23 [0, 0, 1, 0, 1, 1]) ⟨(tmOf 53 [(0, (.agg [(.vs tMark (c.fst.fst) (c.fst.snd)), (.vs tSand (c.snd.fst.fst) (c.snd.fst.snd))])), (1, (.agg [(.int .i64 (px)), (.int .i64 (py))])), (2, (.ptr 0 0)), (3, (.ptr 1 0)), (4, .nils), (5, (.sl 6 0 x6 x6 1)), (6, (.int .i64 (0))), (7, (.int .i64 (0))), (11, (.agg [(.vs tMark (c.fst.fst) (c.fst.snd)), (.vs tSand (c.snd.fst.fst) (c.snd.fst.snd))])), (12, (.agg [(.int .i64 (px)), (.int .i64 (py))])), (13, (.int .i64 (0))), (14, (.int .i64 (0))), (15, (.bool (false))), (17, (.ptr 0 1)), (18, (.vs tSand (c.snd.fst.fst) (c.snd.fst.snd))), (19, (.int .i64 (Int.ofNat c.snd.fst.snd.length))), (20, (.int .i64 x22))]), (hpOf 7 [(0, (.cells false [(.vs tMark (c.fst.fst) (c.fst.snd)), (.vs tSand (c.snd.fst.fst) (c.snd.fst.snd))])), (1, (.cells false [(.int .i64 (px)), (.int .i64 (py))])), (2, (.cells false [(.vs tMark (c.fst.fst) (c.fst.snd)), (.vs tSand (c.snd.fst.fst) (c.snd.fst.snd))])), (3, (.cells false [(.int .i64 (px)), (.int .i64 (py))])), (4, (.cells false [(.vs tMark (c.fst.fst) (c.fst.snd)), (.vs tSand (c.snd.fst.fst) (c.snd.fst.snd))])), (5, (.cells true [(.int .i64 (px)), (.int .i64 (py))])), (6, (.cells false x41))]), [], [], 53, false⟩, ⟨8, []⟩, [(.lop (pcOf H2 23 [0, 0, 1, 0, 1, 1]) 6 (tmOf 53 [(0, (.agg [(.vs tMark (c.fst.fst) (c.fst.snd)), (.vs tSand (c.snd.fst.fst) (c.snd.fst.snd))])), (1, (.agg [(.int .i64 (px)), (.int .i64 (py))])), (2, (.ptr 0 0)), (3, (.ptr 1 0)), (4, .nils), (5, .nils), (6, (.int .i64 (0))), (7, (.int .i64 (0))), (11, (.agg [(.vs tMark (c.fst.fst) (c.fst.snd)), (.vs tSand (c.snd.fst.fst) (c.snd.fst.snd))])), (12, (.agg [(.int .i64 (px)), (.int .i64 (py))])), (13, (.int .i64 (0))), (14, (.int .i64 (0))), (15, (.bool (false))), (17, (.ptr 0 1)), (18, (.vs tSand (c.snd.fst.fst) (c.snd.fst.snd))), (19, (.int .i64 (Int.ofNat c.snd.fst.snd.length))), (20, (.int .i64 (0)))]) x63), (.blk 0), (.seq (pcOf H2 23 [1, 1, 1])), (.cal [(.tmp 4), (.tmp 5), (.tmp 6)] .top)]⟩
noncomputable def onchI3 (c : tChart.den) (px py : Int) (x6 : Nat) (x22 : Int) (x41 : List AV) (x63 : Nat) : Cfg := ⟨.ex (pcOf H2 23 [0, 0, 1, 0, 1, 1]) ⟨(tmOf 53 [(0, (.agg [(.vs tMark (c.fst.fst) (c.fst.snd)), (.vs tSand (c.snd.fst.fst) (c.snd.fst.snd))])), (1, (.agg [(.int .i64 (px)), (.int .i64 (py))])), (2, (.ptr 0 0)), (3, (.ptr 1 0)), (4, (.sl 6 0 x6 x6 1)), (5, .nils), (6, (.int .i64 (0))), (7, (.int .i64 (0))), (11, (.agg [(.vs tMark (c.fst.fst) (c.fst.snd)), (.vs tSand (c.snd.fst.fst) (c.snd.fst.snd))])), (12, (.agg [(.int .i64 (px)), (.int .i64 (py))])), (13, (.int .i64 (0))), (14, (.int .i64 (0))), (15, (.bool (false))), (17, (.ptr 0 1)), (18, (.vs tSand (c.snd.fst.fst) (c.snd.fst.snd))), (19, (.int .i64 (Int.ofNat c.snd.fst.snd.length))), (20, (.int .i64 x22))]), (hpOf 7 [(0, (.cells false [(.vs tMark (c.fst.fst) (c.fst.snd)), (.vs tSand (c.snd.fst.fst) (c.snd.fst.snd))])), (1, (.cells false [(.int .i64 (px)), (.int .i64 (py))])), (2, (.cells false [(.vs tMark (c.fst.fst) (c.fst.snd)), (.vs tSand (c.snd.fst.fst) (c.snd.fst.snd))])), (3, (.cells false [(.int .i64 (px)), (.int .i64 (py))])), (4, (.cells false [(.vs tMark (c.fst.fst) (c.fst.snd)), (.vs tSand (c.snd.fst.fst) (c.snd.fst.snd))])), (5, (.cells true [(.int .i64 (px)), (.int .i64 (py))])), (6, (.cells false x41))]), [], [], 53, false⟩, ⟨8, []⟩, [(.lop (pcOf H2 23 [0, 0, 1, 0, 1, 1]) 6 (tmOf 53 [(0, (.agg [(.vs tMark (c.fst.fst) (c.fst.snd)), (.vs tSand (c.snd.fst.fst) (c.snd.fst.snd))])), (1, (.agg [(.int .i64 (px)), (.int .i64 (py))])), (2, (.ptr 0 0)), (3, (.ptr 1 0)), (4, .nils), (5, .nils), (6, (.int .i64 (0))), (7, (.int .i64 (0))), (11, (.agg [(.vs tMark (c.fst.fst) (c.fst.snd)), (.vs tSand (c.snd.fst.fst) (c.snd.fst.snd))])), (12, (.agg [(.int .i64 (px)), (.int .i64 (py))])), (13, (.int .i64 (0))), (14, (.int .i64 (0))), (15, (.bool (false))), (17, (.ptr 0 1)), (18, (.vs tSand (c.snd.fst.fst) (c.snd.fst.snd))), (19, (.int .i64 (Int.ofNat c.snd.fst.snd.length))), (20, (.int .i64 (0)))]) x63), (.blk 0), (.seq (pcOf H2 23 [1, 1, 1])), (.cal [(.tmp 4), (.tmp 5), (.tmp 6)] .top)]⟩
noncomputable def onchI4 (c : tChart.den) (px py : Int) (x6 : Nat) (x8 : Nat) (x24 : Int) (x43 : List AV) (x44 : List AV) (x66 : Nat) : Cfg := ⟨.ex (pcOf H2 23 [0, 0, 1, 0, 1, 1]) ⟨(tmOf 53 [(0, (.agg [(.vs tMark (c.fst.fst) (c.fst.snd)), (.vs tSand (c.snd.fst.fst) (c.snd.fst.snd))])), (1, (.agg [(.int .i64 (px)), (.int .i64 (py))])), (2, (.ptr 0 0)), (3, (.ptr 1 0)), (4, (.sl 7 0 x6 x6 1)), (5, (.sl 6 0 x8 x8 1)), (6, (.int .i64 (0))), (7, (.int .i64 (0))), (11, (.agg [(.vs tMark (c.fst.fst) (c.fst.snd)), (.vs tSand (c.snd.fst.fst) (c.snd.fst.snd))])), (12, (.agg [(.int .i64 (px)), (.int .i64 (py))])), (13, (.int .i64 (0))), (14, (.int .i64 (0))), (15, (.bool (false))), (17, (.ptr 0 1)), (18, (.vs tSand (c.snd.fst.fst) (c.snd.fst.snd))), (19, (.int .i64 (Int.ofNat c.snd.fst.snd.length))), (20, (.int .i64 x24))]), (hpOf 8 [(0, (.cells false [(.vs tMark (c.fst.fst) (c.fst.snd)), (.vs tSand (c.snd.fst.fst) (c.snd.fst.snd))])), (1, (.cells false [(.int .i64 (px)), (.int .i64 (py))])), (2, (.cells false [(.vs tMark (c.fst.fst) (c.fst.snd)), (.vs tSand (c.snd.fst.fst) (c.snd.fst.snd))])), (3, (.cells false [(.int .i64 (px)), (.int .i64 (py))])), (4, (.cells false [(.vs tMark (c.fst.fst) (c.fst.snd)), (.vs tSand (c.snd.fst.fst) (c.snd.fst.snd))])), (5, (.cells true [(.int .i64 (px)), (.int .i64 (py))])), (6, (.cells false x43)), (7, (.cells false x44))]), [], [], 53, false⟩, ⟨8, []⟩, [(.lop (pcOf H2 23 [0, 0, 1, 0, 1, 1]) 6 (tmOf 53 [(0, (.agg [(.vs tMark (c.fst.fst) (c.fst.snd)), (.vs tSand (c.snd.fst.fst) (c.snd.fst.snd))])), (1, (.agg [(.int .i64 (px)), (.int .i64 (py))])), (2, (.ptr 0 0)), (3, (.ptr 1 0)), (4, .nils), (5, .nils), (6, (.int .i64 (0))), (7, (.int .i64 (0))), (11, (.agg [(.vs tMark (c.fst.fst) (c.fst.snd)), (.vs tSand (c.snd.fst.fst) (c.snd.fst.snd))])), (12, (.agg [(.int .i64 (px)), (.int .i64 (py))])), (13, (.int .i64 (0))), (14, (.int .i64 (0))), (15, (.bool (false))), (17, (.ptr 0 1)), (18, (.vs tSand (c.snd.fst.fst) (c.snd.fst.snd))), (19, (.int .i64 (Int.ofNat c.snd.fst.snd.length))), (20, (.int .i64 (0)))]) x66), (.blk 0), (.seq (pcOf H2 23 [1, 1, 1])), (.cal [(.tmp 4), (.tmp 5), (.tmp 6)] .top)]⟩
theorem onch_start (c : tChart.den) (px py : Int) : adv H2 (Y2 [23]) 3000 (startC H2 23 [tChart.av c, .agg [.int .i64 px, .int .i64 py]] 8) = (bif !ieq (chkS c).snd.snd 0 then (bif !ieq (chkS c).snd.snd 0 then some (.done (.tup [.nils, .nils, (.int .i64 ((chkS c).snd.snd))])) else some (.stop (onchI1 c px py (1048575)))) else (bif !ile (-10000) px then some (.done (.tup [.nils, .nils, (.int .i64 (7))])) else (bif !ile px 10000 then some (.done (.tup [.nils, .nils, (.int .i64 (7))])) else (bif !ile (-10000) py then some (.done (.tup [.nils, .nils, (.int .i64 (7))])) else (bif !ile py 10000 then some (.done (.tup [.nils, .nils, (.int .i64 (7))])) else some (.stop (onchI0 c px py (0) (1048575)))))))) := by kernel_rfl
theorem onch_step0 (c : tChart.den) (px py : Int) (x20 : Int) (x60 : Nat) : adv H2 (Y2 [23]) 3000 (onchI0 c px py x20 (x60 + 1)) = (bif !ile (Int.ofNat c.snd.fst.snd.length) x20 then (bif inB x20 c.snd.fst.snd.length then (bif mvC (c.snd.fst.snd.getD x20.toNat tSand.dflt, (px, py, ()), ()) then (bif ieq (c.snd.fst.snd.getD x20.toNat tSand.dflt).snd.snd.fst.snd.fst.fst (c.snd.fst.snd.getD x20.toNat tSand.dflt).snd.snd.fst.snd.fst.fst then (bif ieq (c.snd.fst.snd.getD x20.toNat tSand.dflt).snd.snd.fst.snd.fst.snd.fst (c.snd.fst.snd.getD x20.toNat tSand.dflt).snd.snd.fst.snd.fst.snd.fst then (bif ieq (c.snd.fst.snd.getD x20.toNat tSand.dflt).snd.snd.fst.snd.fst.fst (c.snd.fst.snd.getD x20.toNat tSand.dflt).snd.snd.fst.snd.fst.fst then (bif ieq (c.snd.fst.snd.getD x20.toNat tSand.dflt).snd.snd.fst.snd.fst.snd.fst (c.snd.fst.snd.getD x20.toNat tSand.dflt).snd.snd.fst.snd.fst.snd.fst then (bif ieq (c.snd.fst.snd.getD x20.toNat tSand.dflt).snd.snd.fst.fst.fst (c.snd.fst.snd.getD x20.toNat tSand.dflt).snd.snd.fst.fst.fst then (bif ieq (c.snd.fst.snd.getD x20.toNat tSand.dflt).snd.snd.fst.fst.snd.fst (c.snd.fst.snd.getD x20.toNat tSand.dflt).snd.snd.fst.fst.snd.fst then (bif ieq (mvS (c.snd.fst.snd.getD x20.toNat tSand.dflt).snd.fst.snd px py (c.snd.fst.snd.getD x20.toNat tSand.dflt).snd.snd.fst.fst.fst (c.snd.fst.snd.getD x20.toNat tSand.dflt).snd.snd.fst.fst.snd.fst (c.snd.fst.snd.getD x20.toNat tSand.dflt).snd.snd.fst.snd.fst.fst (c.snd.fst.snd.getD x20.toNat tSand.dflt).snd.snd.fst.snd.fst.snd.fst) (wr IntKind.i64 (wr IntKind.i64 (wr IntKind.i64 ((c.snd.fst.snd.getD x20.toNat tSand.dflt).snd.snd.fst.fst.snd.fst - (c.snd.fst.snd.getD x20.toNat tSand.dflt).snd.snd.fst.fst.fst) + 1) * wr IntKind.i64 (wr IntKind.i64 ((c.snd.fst.snd.getD x20.toNat tSand.dflt).snd.snd.fst.snd.fst.snd.fst - (c.snd.fst.snd.getD x20.toNat tSand.dflt).snd.snd.fst.snd.fst.fst) + 1))) then (bif !ile (mvS (c.snd.fst.snd.getD x20.toNat tSand.dflt).snd.fst.snd px py (c.snd.fst.snd.getD x20.toNat tSand.dflt).snd.snd.fst.fst.fst (c.snd.fst.snd.getD x20.toNat tSand.dflt).snd.snd.fst.fst.snd.fst (c.snd.fst.snd.getD x20.toNat tSand.dflt).snd.snd.fst.snd.fst.fst (c.snd.fst.snd.getD x20.toNat tSand.dflt).snd.snd.fst.snd.fst.snd.fst) 0 then some (.stop (onchI4 c px py (1) (1) (wr IntKind.i64 (x20 + 1)) ([AV.int IntKind.i64 x20]) ([AV.int IntKind.i64 x20]) (x60))) else some (.stop (onchI3 c px py (1) (wr IntKind.i64 (x20 + 1)) ([AV.int IntKind.i64 x20]) (x60)))) else (bif !ile (mvS (c.snd.fst.snd.getD x20.toNat tSand.dflt).snd.fst.snd px py (c.snd.fst.snd.getD x20.toNat tSand.dflt).snd.snd.fst.fst.fst (c.snd.fst.snd.getD x20.toNat tSand.dflt).snd.snd.fst.fst.snd.fst (c.snd.fst.snd.getD x20.toNat tSand.dflt).snd.snd.fst.snd.fst.fst (c.snd.fst.snd.getD x20.toNat tSand.dflt).snd.snd.fst.snd.fst.snd.fst) 0 then some (.stop (onchI2 c px py (1) (wr IntKind.i64 (x20 + 1)) ([AV.int IntKind.i64 x20]) (x60))) else some (.stop (onchI0 c px py (wr IntKind.i64 (x20 + 1)) (x60))))) else none) else none) else none) else none) else none) else none) else none) else none) else some (.done (.tup [.nils, .nils, (.int .i64 (0))]))) := by kernel_rfl
theorem onch_step2 (c : tChart.den) (px py : Int) (x6 : Nat) (x22 : Int) (x41 : List AV) (x63 : Nat) : adv H2 (Y2 [23]) 3000 (onchI2 c px py x6 x22 x41 (x63 + 1)) = (bif !ile (Int.ofNat c.snd.fst.snd.length) x22 then (bif inB x22 c.snd.fst.snd.length then (bif mvC (c.snd.fst.snd.getD x22.toNat tSand.dflt, (px, py, ()), ()) then (bif ieq (c.snd.fst.snd.getD x22.toNat tSand.dflt).snd.snd.fst.snd.fst.fst (c.snd.fst.snd.getD x22.toNat tSand.dflt).snd.snd.fst.snd.fst.fst then (bif ieq (c.snd.fst.snd.getD x22.toNat tSand.dflt).snd.snd.fst.snd.fst.snd.fst (c.snd.fst.snd.getD x22.toNat tSand.dflt).snd.snd.fst.snd.fst.snd.fst then (bif ieq (c.snd.fst.snd.getD x22.toNat tSand.dflt).snd.snd.fst.snd.fst.fst (c.snd.fst.snd.getD x22.toNat tSand.dflt).snd.snd.fst.snd.fst.fst then (bif ieq (c.snd.fst.snd.getD x22.toNat tSand.dflt).snd.snd.fst.snd.fst.snd.fst (c.snd.fst.snd.getD x22.toNat tSand.dflt).snd.snd.fst.snd.fst.snd.fst then (bif ieq (c.snd.fst.snd.getD x22.toNat tSand.dflt).snd.snd.fst.fst.fst (c.snd.fst.snd.getD x22.toNat tSand.dflt).snd.snd.fst.fst.fst then (bif ieq (c.snd.fst.snd.getD x22.toNat tSand.dflt).snd.snd.fst.fst.snd.fst (c.snd.fst.snd.getD x22.toNat tSand.dflt).snd.snd.fst.fst.snd.fst then (bif ieq (mvS (c.snd.fst.snd.getD x22.toNat tSand.dflt).snd.fst.snd px py (c.snd.fst.snd.getD x22.toNat tSand.dflt).snd.snd.fst.fst.fst (c.snd.fst.snd.getD x22.toNat tSand.dflt).snd.snd.fst.fst.snd.fst (c.snd.fst.snd.getD x22.toNat tSand.dflt).snd.snd.fst.snd.fst.fst (c.snd.fst.snd.getD x22.toNat tSand.dflt).snd.snd.fst.snd.fst.snd.fst) (wr IntKind.i64 (wr IntKind.i64 (wr IntKind.i64 ((c.snd.fst.snd.getD x22.toNat tSand.dflt).snd.snd.fst.fst.snd.fst - (c.snd.fst.snd.getD x22.toNat tSand.dflt).snd.snd.fst.fst.fst) + 1) * wr IntKind.i64 (wr IntKind.i64 ((c.snd.fst.snd.getD x22.toNat tSand.dflt).snd.snd.fst.snd.fst.snd.fst - (c.snd.fst.snd.getD x22.toNat tSand.dflt).snd.snd.fst.snd.fst.fst) + 1))) then (bif !ile (mvS (c.snd.fst.snd.getD x22.toNat tSand.dflt).snd.fst.snd px py (c.snd.fst.snd.getD x22.toNat tSand.dflt).snd.snd.fst.fst.fst (c.snd.fst.snd.getD x22.toNat tSand.dflt).snd.snd.fst.fst.snd.fst (c.snd.fst.snd.getD x22.toNat tSand.dflt).snd.snd.fst.snd.fst.fst (c.snd.fst.snd.getD x22.toNat tSand.dflt).snd.snd.fst.snd.fst.snd.fst) 0 then (bif (0 + x6 * 1).beq x41.length then (bif x6.ble 1048576 then (bif plO (AO.cells false (x41 ++ [AV.int IntKind.i64 x22])) then some (.stop (onchI4 c px py (1) (x6 + 1) (wr IntKind.i64 (x22 + 1)) (x41 ++ [AV.int IntKind.i64 x22]) ([AV.int IntKind.i64 x22]) (x63))) else none) else none) else none) else (bif plO (AO.cells false x41) then some (.stop (onchI4 c px py (1) (x6) (wr IntKind.i64 (x22 + 1)) (x41) ([AV.int IntKind.i64 x22]) (x63))) else none)) else (bif !ile (mvS (c.snd.fst.snd.getD x22.toNat tSand.dflt).snd.fst.snd px py (c.snd.fst.snd.getD x22.toNat tSand.dflt).snd.snd.fst.fst.fst (c.snd.fst.snd.getD x22.toNat tSand.dflt).snd.snd.fst.fst.snd.fst (c.snd.fst.snd.getD x22.toNat tSand.dflt).snd.snd.fst.snd.fst.fst (c.snd.fst.snd.getD x22.toNat tSand.dflt).snd.snd.fst.snd.fst.snd.fst) 0 then (bif (0 + x6 * 1).beq x41.length then (bif x6.ble 1048576 then (bif plO (AO.cells false (x41 ++ [AV.int IntKind.i64 x22])) then some (.stop (onchI2 c px py (x6 + 1) (wr IntKind.i64 (x22 + 1)) (x41 ++ [AV.int IntKind.i64 x22]) (x63))) else none) else none) else none) else (bif plO (AO.cells false x41) then some (.stop (onchI2 c px py (x6) (wr IntKind.i64 (x22 + 1)) (x41) (x63))) else none))) else none) else none) else none) else none) else none) else none) else none) else none) else (bif plainL x41 then some (.done (.tup [.nils, (.csl (x41) (x6)), (.int .i64 (0))])) else none)) := by kernel_rfl
theorem onch_step3 (c : tChart.den) (px py : Int) (x6 : Nat) (x22 : Int) (x41 : List AV) (x63 : Nat) : adv H2 (Y2 [23]) 3000 (onchI3 c px py x6 x22 x41 (x63 + 1)) = (bif !ile (Int.ofNat c.snd.fst.snd.length) x22 then (bif inB x22 c.snd.fst.snd.length then (bif mvC (c.snd.fst.snd.getD x22.toNat tSand.dflt, (px, py, ()), ()) then (bif ieq (c.snd.fst.snd.getD x22.toNat tSand.dflt).snd.snd.fst.snd.fst.fst (c.snd.fst.snd.getD x22.toNat tSand.dflt).snd.snd.fst.snd.fst.fst then (bif ieq (c.snd.fst.snd.getD x22.toNat tSand.dflt).snd.snd.fst.snd.fst.snd.fst (c.snd.fst.snd.getD x22.toNat tSand.dflt).snd.snd.fst.snd.fst.snd.fst then (bif ieq (c.snd.fst.snd.getD x22.toNat tSand.dflt).snd.snd.fst.snd.fst.fst (c.snd.fst.snd.getD x22.toNat tSand.dflt).snd.snd.fst.snd.fst.fst then (bif ieq (c.snd.fst.snd.getD x22.toNat tSand.dflt).snd.snd.fst.snd.fst.snd.fst (c.snd.fst.snd.getD x22.toNat tSand.dflt).snd.snd.fst.snd.fst.snd.fst then (bif ieq (c.snd.fst.snd.getD x22.toNat tSand.dflt).snd.snd.fst.fst.fst (c.snd.fst.snd.getD x22.toNat tSand.dflt).snd.snd.fst.fst.fst then (bif ieq (c.snd.fst.snd.getD x22.toNat tSand.dflt).snd.snd.fst.fst.snd.fst (c.snd.fst.snd.getD x22.toNat tSand.dflt).snd.snd.fst.fst.snd.fst then (bif ieq (mvS (c.snd.fst.snd.getD x22.toNat tSand.dflt).snd.fst.snd px py (c.snd.fst.snd.getD x22.toNat tSand.dflt).snd.snd.fst.fst.fst (c.snd.fst.snd.getD x22.toNat tSand.dflt).snd.snd.fst.fst.snd.fst (c.snd.fst.snd.getD x22.toNat tSand.dflt).snd.snd.fst.snd.fst.fst (c.snd.fst.snd.getD x22.toNat tSand.dflt).snd.snd.fst.snd.fst.snd.fst) (wr IntKind.i64 (wr IntKind.i64 (wr IntKind.i64 ((c.snd.fst.snd.getD x22.toNat tSand.dflt).snd.snd.fst.fst.snd.fst - (c.snd.fst.snd.getD x22.toNat tSand.dflt).snd.snd.fst.fst.fst) + 1) * wr IntKind.i64 (wr IntKind.i64 ((c.snd.fst.snd.getD x22.toNat tSand.dflt).snd.snd.fst.snd.fst.snd.fst - (c.snd.fst.snd.getD x22.toNat tSand.dflt).snd.snd.fst.snd.fst.fst) + 1))) then (bif (0 + x6 * 1).beq x41.length then (bif x6.ble 1048576 then (bif !ile (mvS (c.snd.fst.snd.getD x22.toNat tSand.dflt).snd.fst.snd px py (c.snd.fst.snd.getD x22.toNat tSand.dflt).snd.snd.fst.fst.fst (c.snd.fst.snd.getD x22.toNat tSand.dflt).snd.snd.fst.fst.snd.fst (c.snd.fst.snd.getD x22.toNat tSand.dflt).snd.snd.fst.snd.fst.fst (c.snd.fst.snd.getD x22.toNat tSand.dflt).snd.snd.fst.snd.fst.snd.fst) 0 then (bif plO (AO.cells false (x41 ++ [AV.int IntKind.i64 x22])) then some (.stop (onchI4 c px py (x6 + 1) (1) (wr IntKind.i64 (x22 + 1)) ([AV.int IntKind.i64 x22]) (x41 ++ [AV.int IntKind.i64 x22]) (x63))) else none) else (bif plO (AO.cells false (x41 ++ [AV.int IntKind.i64 x22])) then some (.stop (onchI3 c px py (x6 + 1) (wr IntKind.i64 (x22 + 1)) (x41 ++ [AV.int IntKind.i64 x22]) (x63))) else none)) else none) else none) else (bif !ile (mvS (c.snd.fst.snd.getD x22.toNat tSand.dflt).snd.fst.snd px py (c.snd.fst.snd.getD x22.toNat tSand.dflt).snd.snd.fst.fst.fst (c.snd.fst.snd.getD x22.toNat tSand.dflt).snd.snd.fst.fst.snd.fst (c.snd.fst.snd.getD x22.toNat tSand.dflt).snd.snd.fst.snd.fst.fst (c.snd.fst.snd.getD x22.toNat tSand.dflt).snd.snd.fst.snd.fst.snd.fst) 0 then (bif plO (AO.cells false x41) then some (.stop (onchI4 c px py (x6) (1) (wr IntKind.i64 (x22 + 1)) ([AV.int IntKind.i64 x22]) (x41) (x63))) else none) else (bif plO (AO.cells false x41) then some (.stop (onchI3 c px py (x6) (wr IntKind.i64 (x22 + 1)) (x41) (x63))) else none))) else none) else none) else none) else none) else none) else none) else none) else none) else (bif plainL x41 then some (.done (.tup [(.csl (x41) (x6)), .nils, (.int .i64 (0))])) else none)) := by kernel_rfl
theorem onch_step4 (c : tChart.den) (px py : Int) (x6 : Nat) (x8 : Nat) (x24 : Int) (x43 : List AV) (x44 : List AV) (x66 : Nat) : adv H2 (Y2 [23]) 3000 (onchI4 c px py x6 x8 x24 x43 x44 (x66 + 1)) = (bif !ile (Int.ofNat c.snd.fst.snd.length) x24 then (bif inB x24 c.snd.fst.snd.length then (bif mvC (c.snd.fst.snd.getD x24.toNat tSand.dflt, (px, py, ()), ()) then (bif ieq (c.snd.fst.snd.getD x24.toNat tSand.dflt).snd.snd.fst.snd.fst.fst (c.snd.fst.snd.getD x24.toNat tSand.dflt).snd.snd.fst.snd.fst.fst then (bif ieq (c.snd.fst.snd.getD x24.toNat tSand.dflt).snd.snd.fst.snd.fst.snd.fst (c.snd.fst.snd.getD x24.toNat tSand.dflt).snd.snd.fst.snd.fst.snd.fst then (bif ieq (c.snd.fst.snd.getD x24.toNat tSand.dflt).snd.snd.fst.snd.fst.fst (c.snd.fst.snd.getD x24.toNat tSand.dflt).snd.snd.fst.snd.fst.fst then (bif ieq (c.snd.fst.snd.getD x24.toNat tSand.dflt).snd.snd.fst.snd.fst.snd.fst (c.snd.fst.snd.getD x24.toNat tSand.dflt).snd.snd.fst.snd.fst.snd.fst then (bif ieq (c.snd.fst.snd.getD x24.toNat tSand.dflt).snd.snd.fst.fst.fst (c.snd.fst.snd.getD x24.toNat tSand.dflt).snd.snd.fst.fst.fst then (bif ieq (c.snd.fst.snd.getD x24.toNat tSand.dflt).snd.snd.fst.fst.snd.fst (c.snd.fst.snd.getD x24.toNat tSand.dflt).snd.snd.fst.fst.snd.fst then (bif ieq (mvS (c.snd.fst.snd.getD x24.toNat tSand.dflt).snd.fst.snd px py (c.snd.fst.snd.getD x24.toNat tSand.dflt).snd.snd.fst.fst.fst (c.snd.fst.snd.getD x24.toNat tSand.dflt).snd.snd.fst.fst.snd.fst (c.snd.fst.snd.getD x24.toNat tSand.dflt).snd.snd.fst.snd.fst.fst (c.snd.fst.snd.getD x24.toNat tSand.dflt).snd.snd.fst.snd.fst.snd.fst) (wr IntKind.i64 (wr IntKind.i64 (wr IntKind.i64 ((c.snd.fst.snd.getD x24.toNat tSand.dflt).snd.snd.fst.fst.snd.fst - (c.snd.fst.snd.getD x24.toNat tSand.dflt).snd.snd.fst.fst.fst) + 1) * wr IntKind.i64 (wr IntKind.i64 ((c.snd.fst.snd.getD x24.toNat tSand.dflt).snd.snd.fst.snd.fst.snd.fst - (c.snd.fst.snd.getD x24.toNat tSand.dflt).snd.snd.fst.snd.fst.fst) + 1))) then (bif (0 + x6 * 1).beq x44.length then (bif x6.ble 1048576 then (bif !ile (mvS (c.snd.fst.snd.getD x24.toNat tSand.dflt).snd.fst.snd px py (c.snd.fst.snd.getD x24.toNat tSand.dflt).snd.snd.fst.fst.fst (c.snd.fst.snd.getD x24.toNat tSand.dflt).snd.snd.fst.fst.snd.fst (c.snd.fst.snd.getD x24.toNat tSand.dflt).snd.snd.fst.snd.fst.fst (c.snd.fst.snd.getD x24.toNat tSand.dflt).snd.snd.fst.snd.fst.snd.fst) 0 then (bif (0 + x8 * 1).beq x43.length then (bif x8.ble 1048576 then (bif plO (AO.cells false (x43 ++ [AV.int IntKind.i64 x24])) then (bif plO (AO.cells false (x44 ++ [AV.int IntKind.i64 x24])) then some (.stop (onchI4 c px py (x6 + 1) (x8 + 1) (wr IntKind.i64 (x24 + 1)) (x43 ++ [AV.int IntKind.i64 x24]) (x44 ++ [AV.int IntKind.i64 x24]) (x66))) else none) else none) else none) else none) else (bif plO (AO.cells false x43) then (bif plO (AO.cells false (x44 ++ [AV.int IntKind.i64 x24])) then some (.stop (onchI4 c px py (x6 + 1) (x8) (wr IntKind.i64 (x24 + 1)) (x43) (x44 ++ [AV.int IntKind.i64 x24]) (x66))) else none) else none)) else none) else none) else (bif !ile (mvS (c.snd.fst.snd.getD x24.toNat tSand.dflt).snd.fst.snd px py (c.snd.fst.snd.getD x24.toNat tSand.dflt).snd.snd.fst.fst.fst (c.snd.fst.snd.getD x24.toNat tSand.dflt).snd.snd.fst.fst.snd.fst (c.snd.fst.snd.getD x24.toNat tSand.dflt).snd.snd.fst.snd.fst.fst (c.snd.fst.snd.getD x24.toNat tSand.dflt).snd.snd.fst.snd.fst.snd.fst) 0 then (bif (0 + x8 * 1).beq x43.length then (bif x8.ble 1048576 then (bif plO (AO.cells false x44) then (bif plO (AO.cells false (x43 ++ [AV.int IntKind.i64 x24])) then some (.stop (onchI4 c px py (x6) (x8 + 1) (wr IntKind.i64 (x24 + 1)) (x43 ++ [AV.int IntKind.i64 x24]) (x44) (x66))) else none) else none) else none) else none) else (bif plO (AO.cells false x44) then (bif plO (AO.cells false x43) then some (.stop (onchI4 c px py (x6) (x8) (wr IntKind.i64 (x24 + 1)) (x43) (x44) (x66))) else none) else none))) else none) else none) else none) else none) else none) else none) else none) else none) else (bif plainL x44 then (bif plainL x43 then some (.done (.tup [(.csl (x44) (x6)), (.csl (x43) (x8)), (.int .i64 (0))])) else none) else none)) := by kernel_rfl
theorem Tells.tupL {a b : List AV} (h : TellsL a b) : Tells (.tup a) (.tup b) := fun V R x => by
  cases x with
  | tup _ A ha hav =>
    have k := h V A ⟨ha, hav⟩
    exact .tup _ _ k.1 k.2
theorem flatI_len (l : List Int) : (flat tI l).length = l.length := by
  induction l with
  | nil => rfl
  | cons a l ih => show (AV.int .i64 a :: flat tI l).length = _; rw [List.length_cons, ih]; rfl
theorem flatI_plain (l : List Int) : plainL (flat tI l) = true := by
  induction l with
  | nil => rfl
  | cons a l ih => exact ih
theorem flatI_add (l : List Int) (x : Int) : flat tI l ++ [.int .i64 x] = flat tI (l ++ [x]) := by
  unfold flat; rw [List.flatMap_append]; rfl
theorem beq_flatI (l : List Int) : (0 + l.length * 1).beq (flat tI l).length = true := by
  rw [flatI_len, Nat.zero_add, Nat.mul_one]; exact Nat.beq_refl _
/-! ### What valid sands are -/
theorem ieq_t' {a b : Int} (h : ieq a b = true) : a = b := by rw [ieq_iff] at h; simpa using h
theorem ieq_f' {a b : Int} (h : ieq a b = false) : a ≠ b := by rw [ieq_iff] at h; simpa using h
noncomputable def goodS (s : tSand.den) : Bool := cOK s.2.1.2 && (inB4 s.2.2.1.1.1 s.2.2.1.1.2.1 s.2.2.1.2.1.1 s.2.2.1.2.1.2.1 && fit4 s.2.2.1.1.1 s.2.2.1.1.2.1 s.2.2.1.2.1.1 s.2.2.1.2.1.2.1) && Nat.ble 3 s.2.1.2.length
theorem sandE_good {s : tSand.den} (h : sandE s = 0) : goodS s = true := by
  unfold sandE at h
  cases c1 : ile 3 (s.2.1.2.length : Int) <;> cases c2 : ile (s.2.1.2.length : Int) 8 <;> simp only [c1, c2, Bool.and_self, Bool.and_true, Bool.and_false, cond_true, cond_false] at h <;> try (exact absurd h (by decide))
  cases c3 : s.2.1.2.all inP <;> simp only [c3, cond_true, cond_false] at h
  · exact absurd h (by decide)
  unfold sandT at h
  cases c4 : inB4 s.2.2.1.1.1 s.2.2.1.1.2.1 s.2.2.1.2.1.1 s.2.2.1.2.1.2.1 <;> simp only [c4, cond_true, cond_false] at h
  · exact absurd h (by decide)
  cases c5 : fit4 s.2.2.1.1.1 s.2.2.1.1.2.1 s.2.2.1.2.1.1 s.2.2.1.2.1.2.1 <;> simp only [c5, cond_true, cond_false] at h
  · exact absurd h (by decide)
  unfold goodS cOK
  rw [c3, c4, c5, Nat.ble_eq_true_of_le (show s.2.1.2.length ≤ 100 by rw [ile_iff] at c2; simp at c2; omega), Nat.ble_eq_true_of_le (show 3 ≤ s.2.1.2.length by rw [ile_iff] at c1; simp at c1; omega)]; rfl
theorem sandN_good {mem : List Nat → Bool} {s : tSand.den} (h : sandN mem s = 0) : goodS s = true := by
  unfold sandN at h
  cases c1 : nameS s.1 <;> simp only [c1, cond_true, cond_false] at h
  · exact absurd h (by decide)
  cases c2 : mem s.1 <;> simp only [c2, cond_true, cond_false] at h
  · exact sandE_good h
  · exact absurd h (by decide)
theorem sandsS_good : ∀ {l : List tSand.den} {mem : List Nat → Bool} {i : Nat}, (sandsS mem i l).2.2 = 0 → l.all goodS = true
  | [], _, _, _ => rfl
  | s :: l, mem, i, h => by
    rw [sandsS] at h
    cases c : ieq (sandN mem s) 0 with
    | false => rw [c, cond_false] at h; exact absurd h (ieq_f' c)
    | true =>
      rw [c, cond_true] at h
      rw [List.all_cons, sandsS_good h, sandN_good (ieq_t' c)]; rfl
theorem marksS_k {k : (List Nat → Bool) → Int × Int × Int} : ∀ {l : List tMark.den} {mem : List Nat → Bool} {i : Nat}, (marksS k mem i l).2.2 = 0 → ∃ mem', marksS k mem i l = k mem'
  | [], mem, i, h => ⟨mem, rfl⟩
  | m :: l, mem, i, h => by
    rw [marksS] at h ⊢
    cases c : ieq (markE mem m) 0 with
    | false => rw [c, cond_false] at h; exact absurd h (ieq_f' c)
    | true =>
      rw [c, cond_true] at h
      obtain ⟨mem', h2⟩ := marksS_k h
      exact ⟨mem', by rw [cond_true]; exact h2⟩
theorem valid_sands {c : tChart.den} (h : (chkS c).2.2 = 0) : c.2.1.2.length ≤ 4 ∧ c.2.1.2.all goodS = true := by
  unfold chkS at h
  cases e : ile (c.1.2.length : Int) 8 <;> rw [e] at h
  · rw [cond_false] at h; exact absurd h (by decide)
  · rw [cond_true] at h
    obtain ⟨mem', h2⟩ := marksS_k h
    rw [h2] at h
    unfold sandsK at h
    cases e2 : ile (c.2.1.2.length : Int) 4 <;> rw [e2] at h
    · rw [cond_false] at h; exact absurd h (by decide)
    · rw [cond_true] at h
      refine ⟨?_, sandsS_good h⟩
      rw [ile_iff] at e2; simp at e2; omega
noncomputable def sd (c : tChart.den) (k : Nat) : tSand.den := c.2.1.2.getD k tSand.dflt
theorem sd_good {c : tChart.den} (h : (chkS c).2.2 = 0) {k : Nat} (hk : k < c.2.1.2.length) : goodS (sd c k) = true :=
  List.all_eq_true.1 (valid_sands h).2 (sd c k) (by unfold sd; simp [hk])
theorem goodS_len {s : tSand.den} (h : goodS s = true) : 3 ≤ s.2.1.2.length := by
  unfold goodS at h
  rw [Bool.and_eq_true] at h
  exact Nat.le_of_ble_eq_true h.2
theorem goodS_iff {s : tSand.den} {x0 x1 y0 y1 : Int} (h0 : s.2.2.1.1.1 = x0) (h1 : s.2.2.1.1.2.1 = x1) (h2 : s.2.2.1.2.1.1 = y0) (h3 : s.2.2.1.2.1.2.1 = y1) (h : goodS s = true) :
    cOK s.2.1.2 = true ∧ ((in5 x0 = true ∧ in5 x1 = true) ∧ in5 y0 = true ∧ in5 y1 = true) ∧ (x0 ≤ x1 ∧ x1 - x0 ≤ 40) ∧ y0 ≤ y1 ∧ y1 - y0 ≤ 40 := by
  unfold goodS at h
  rw [h0, h1, h2, h3] at h
  simp only [Bool.and_eq_true, inB4, fit4] at h
  obtain ⟨⟨a, b, c⟩, _⟩ := h
  simp only [ile_iff, decide_eq_true_eq] at b c
  refine ⟨a, ⟨⟨in5_iff.2 ?_, in5_iff.2 ?_⟩, in5_iff.2 ?_, in5_iff.2 ?_⟩, ?_, ?_⟩ <;> omega
/-! ### The sands that a place is surely on, and perhaps -/
noncomputable def mvSd (s : tSand.den) (px py : Int) : Int := mvS s.2.1.2 px py s.2.2.1.1.1 s.2.2.1.1.2.1 s.2.2.1.2.1.1 s.2.2.1.2.1.2.1
noncomputable def totSd (s : tSand.den) : Int := (s.2.2.1.1.2.1 - s.2.2.1.1.1 + 1) * (s.2.2.1.2.1.2.1 - s.2.2.1.2.1.1 + 1)
noncomputable def allS (s : tSand.den) (px py : Int) : Bool := ieq (mvSd s px py) (totSd s)
noncomputable def anyS (s : tSand.den) (px py : Int) : Bool := !ile (mvSd s px py) 0
noncomputable def onF (c : tChart.den) (px py : Int) : List Int → List Int → Nat → Nat → List Int × List Int
  | s, t, _, 0 => (s, t)
  | s, t, k, r + 1 => onF c px py (bif allS (sd c k) px py then s ++ [(k : Int)] else s) (bif anyS (sd c k) px py then t ++ [(k : Int)] else t) (k + 1) r
noncomputable def onSt (c : tChart.den) (px py : Int) (k m : Nat) (s t : List Int) : Cfg :=
  match s with
  | [] => match t with
    | [] => onchI0 c px py k m
    | _ :: _ => onchI2 c px py t.length k (flat tI t) m
  | _ :: _ => onchI4 c px py s.length t.length k (flat tI t) (flat tI s) m
noncomputable def tupS (r : (List Int × List Int) × Int) : AV := .tup [.vs tI r.1.1.isEmpty r.1.1, .vs tI r.1.2.isEmpty r.1.2, .int .i64 r.2]
theorem Tells.lst (l : List Int) (h : l ≠ []) : Tells (.csl (flat tI l) l.length) (.vs tI l.isEmpty l) := by
  cases l with
  | nil => exact absurd rfl h
  | cons a l => exact .csl
theorem on_step (c : tChart.den) (px py : Int) (k m : Nat) (s t : List Int) (hst : s ≠ [] → t ≠ []) (hs : s.length ≤ k) (ht : t.length ≤ k) (hk : k < c.2.1.2.length) (h4 : c.2.1.2.length ≤ 4) (hg : goodS (sd c k) = true) (hp : in10 px = true ∧ in10 py = true) :
    (allS (sd c k) px py = true → anyS (sd c k) px py = true) ∧ adv H2 (Y2 [23]) 3000 (onSt c px py k (m + 1) s t) = some (.stop (onSt c px py (k + 1) m (bif allS (sd c k) px py then s ++ [(k : Int)] else s) (bif anyS (sd c k) px py then t ++ [(k : Int)] else t))) := by
  obtain ⟨x0, e0⟩ : ∃ y : Int, (sd c k).2.2.1.1.1 = y := ⟨_, rfl⟩
  obtain ⟨x1, e1⟩ : ∃ y : Int, (sd c k).2.2.1.1.2.1 = y := ⟨_, rfl⟩
  obtain ⟨y0, e2⟩ : ∃ y : Int, (sd c k).2.2.1.2.1.1 = y := ⟨_, rfl⟩
  obtain ⟨y1, e3⟩ : ∃ y : Int, (sd c k).2.2.1.2.1.2.1 = y := ⟨_, rfl⟩
  obtain ⟨g1, ⟨⟨g2, g3⟩, g4, g5⟩, g6, g7⟩ := goodS_iff e0 e1 e2 e3 hg
  have i0 := in5_iff.1 g2
  have i1 := in5_iff.1 g3
  have i2 := in5_iff.1 g4
  have i3 := in5_iff.1 g5
  have hmv : mvC (sd c k, (px, py, ()), ()) = true := by
    unfold mvC
    show (cOK (sd c k).2.1.2 && in10 px && in10 py && in5 (sd c k).2.2.1.1.1 && in5 (sd c k).2.2.1.1.2.1 && in5 (sd c k).2.2.1.2.1.1 && in5 (sd c k).2.2.1.2.1.2.1 && ile (sd c k).2.2.1.1.1 (sd c k).2.2.1.1.2.1 && ile (sd c k).2.2.1.2.1.1 (sd c k).2.2.1.2.1.2.1) = true
    rw [e0, e1, e2, e3, g1, g2, g3, g4, g5, hp.1, hp.2, show ile x0 x1 = true by rw [ile_iff]; exact decide_eq_true g6.1, show ile y0 y1 = true by rw [ile_iff]; exact decide_eq_true g7.1]
    rfl
  have htot : totSd (sd c k) = (x1 - x0 + 1) * (y1 - y0 + 1) := by unfold totSd; rw [e0, e1, e2, e3]
  have hmul := mul_b (a := x1 - x0 + 1) (b := y1 - y0 + 1) (m := 41) (n := 41) (by omega) (by omega) (by omega) (by omega)
  have hpos : 0 < (x1 - x0 + 1) * (y1 - y0 + 1) := Int.mul_pos (by omega) (by omega)
  have w : wr .i64 (wr .i64 (wr .i64 (x1 - x0) + 1) * wr .i64 (wr .i64 (y1 - y0) + 1)) = totSd (sd c k) := by
    rw [wr_in (n := x1 - x0) (by omega) (by omega), wr_in (n := x1 - x0 + 1) (by omega) (by omega), wr_in (n := y1 - y0) (by omega) (by omega), wr_in (n := y1 - y0 + 1) (by omega) (by omega), wr_in (by omega) (by omega), htot]
  have hmvd : mvS (sd c k).2.1.2 px py x0 x1 y0 y1 = mvSd (sd c k) px py := by unfold mvSd; rw [e0, e1, e2, e3]
  have hall : ieq (mvSd (sd c k) px py) (totSd (sd c k)) = allS (sd c k) px py := rfl
  have hany : (!ile (mvSd (sd c k) px py) 0) = anyS (sd c k) px py := rfl
  have himp : allS (sd c k) px py = true → anyS (sd c k) px py = true := by
    intro h
    have := ieq_t' h
    unfold anyS
    rw [this, htot, ile_iff, decide_eq_false (by omega)]; rfl
  refine ⟨himp, ?_⟩
  have hsd : c.2.1.2.getD k tSand.dflt = sd c k := rfl
  have l1 : s.length.ble 1048576 = true := Nat.ble_eq_true_of_le (by omega)
  have l2 : t.length.ble 1048576 = true := Nat.ble_eq_true_of_le (by omega)
  cases s with
  | nil =>
    cases t with
    | nil =>
      have h := onch_step0 c px py k m
      simp only [Int.ofNat_eq_natCast, ile_lt hk, inB_at hk, nat_to, hsd, hmv, e0, e1, e2, e3, w, hmvd, hall, hany, ieq_self, wr_succ (show k < 1048577 by omega), Bool.not_false, cond_true] at h
      show adv H2 (Y2 [23]) 3000 (onchI0 c px py k (m + 1)) = _
      rw [h]
      cases a : allS (sd c k) px py with
      | true => rw [himp a]; rfl
      | false => cases b : anyS (sd c k) px py <;> rfl
    | cons t0 t =>
      have h := onch_step2 c px py (t0 :: t).length k (flat tI (t0 :: t)) m
      simp only [Int.ofNat_eq_natCast, ile_lt hk, inB_at hk, nat_to, hsd, hmv, e0, e1, e2, e3, w, hmvd, hall, hany, l2, plO, flatI_add, flatI_plain, ieq_self, wr_succ (show k < 1048577 by omega), Bool.not_false, cond_true] at h
      rw [beq_flatI] at h
      show adv H2 (Y2 [23]) 3000 (onchI2 c px py (t0 :: t).length k (flat tI (t0 :: t)) (m + 1)) = _
      rw [h]
      cases a : allS (sd c k) px py with
      | true => rw [himp a]; simp only [cond_true]; rw [show (t0 :: t).length + 1 = (t0 :: t ++ [(k : Int)]).length by simp]; rfl
      | false => cases b : anyS (sd c k) px py <;> (simp only [cond_true, cond_false]; first | rfl | (rw [show (t0 :: t).length + 1 = (t0 :: t ++ [(k : Int)]).length by simp]; rfl))
  | cons s0 s =>
    have h := onch_step4 c px py (s0 :: s).length t.length k (flat tI t) (flat tI (s0 :: s)) m
    simp only [Int.ofNat_eq_natCast, ile_lt hk, inB_at hk, nat_to, hsd, hmv, e0, e1, e2, e3, w, hmvd, hall, hany, l1, l2, plO, flatI_add, flatI_plain, ieq_self, wr_succ (show k < 1048577 by omega), Bool.not_false, cond_true] at h
    rw [beq_flatI (s0 :: s), beq_flatI t] at h
    show adv H2 (Y2 [23]) 3000 (onchI4 c px py (s0 :: s).length t.length k (flat tI t) (flat tI (s0 :: s)) (m + 1)) = _
    rw [h]
    have f1 : (s0 :: s).length + 1 = (s0 :: s ++ [(k : Int)]).length := by simp
    have f2 : t.length + 1 = (t ++ [(k : Int)]).length := by simp
    cases a : allS (sd c k) px py with
    | true => rw [himp a]; simp only [cond_true]; rw [f1, f2]; rfl
    | false => cases b : anyS (sd c k) px py <;> (simp only [cond_true, cond_false]; first | rfl | (rw [f2]; rfl))
theorem on_ans (c : tChart.den) (px py : Int) (hv : (chkS c).2.2 = 0) (hp : in10 px = true ∧ in10 py = true) : ∀ (r k m : Nat) (s t : List Int), k + r = c.2.1.2.length → r < m → (s ≠ [] → t ≠ []) → s.length ≤ k → t.length ≤ k → Ans H2 (onSt c px py k m s t) (tupS (onF c px py s t k r, 0))
  | 0, k, m + 1, s, t, hk, hm, hst, hs, ht => by
    have hle : c.2.1.2.length ≤ k := by omega
    rw [onF]
    cases s with
    | nil =>
      cases t with
      | nil =>
        have h := onch_step0 c px py k m
        simp only [Int.ofNat_eq_natCast, ile_ge hle, Bool.not_true, cond_false] at h
        exact .doneT (Y2_ok _) H2sy h (Tells.tupL (.cons .nils (.cons .nils (.refl _))))
      | cons t0 t =>
        have h := onch_step2 c px py (t0 :: t).length k (flat tI (t0 :: t)) m
        simp only [Int.ofNat_eq_natCast, ile_ge hle, flatI_plain, Bool.not_true, cond_true, cond_false] at h
        exact .doneT (Y2_ok _) H2sy h (Tells.tupL (.cons .nils (.cons (Tells.lst (t0 :: t) (by simp)) (.refl _))))
    | cons s0 s =>
      have h := onch_step4 c px py (s0 :: s).length t.length k (flat tI t) (flat tI (s0 :: s)) m
      simp only [Int.ofNat_eq_natCast, ile_ge hle, flatI_plain, Bool.not_true, cond_true, cond_false] at h
      exact .doneT (Y2_ok _) H2sy h (Tells.tupL (.cons (Tells.lst (s0 :: s) (by simp)) (.cons (Tells.lst t (hst (by simp))) (.refl _))))
  | r + 1, k, m + 1, s, t, hk, hm, hst, hs, ht => by
    obtain ⟨himp, h⟩ := on_step c px py k m s t hst hs ht (by omega) (valid_sands hv).1 (sd_good hv (by omega)) hp
    rw [onF]
    refine .stop (Y2_ok _) H2sy h (on_ans c px py hv hp r (k + 1) m _ _ (by omega) (by omega) ?_ ?_ ?_)
    · cases a : allS (sd c k) px py with
      | true => rw [himp a]; simp
      | false =>
        rw [cond_false]
        intro hne
        cases anyS (sd c k) px py with
        | true => simp
        | false => exact hst hne
    · cases allS (sd c k) px py <;> simp <;> omega
    · cases anyS (sd c k) px py <;> simp <;> omega
noncomputable def onS (c : tChart.den) (px py : Int) : (List Int × List Int) × Int := bif ieq (chkS c).2.2 0 then (bif in10 px && in10 py then (onF c px py [] [] 0 c.2.1.2.length, 0) else (([], []), 7)) else (([], []), (chkS c).2.2)
theorem on_call (c : tChart.den) (px py : Int) : AnsF H2 23 [tChart.av c, .agg [.int .i64 px, .int .i64 py]] (tupS (onS c px py)) := by
  refine Ans.call (n := 8) (ext_none (by kernel_rfl)) (hasB_spec (by kernel_rfl)) ?_
  have h := onch_start c px py
  unfold onS in10
  cases c1 : ieq (chkS c).2.2 0 with
  | false =>
    simp only [c1, Bool.not_false, cond_true, cond_false] at h ⊢
    exact .doneT (Y2_ok _) H2sy h (Tells.tupL (.cons .nils (.cons .nils (.refl _))))
  | true =>
    cases d1 : ile (-10000) px <;> cases d2 : ile px 10000 <;> cases d3 : ile (-10000) py <;> cases d4 : ile py 10000 <;>
      try (simp only [c1, d1, d2, d3, d4, Bool.not_false, Bool.not_true, Bool.and_self, Bool.and_true, Bool.and_false, Bool.false_and, cond_true, cond_false] at h ⊢; exact .doneT (Y2_ok _) H2sy h (Tells.tupL (.cons .nils (.cons .nils (.refl _)))))
    simp only [c1, d1, d2, d3, d4, Bool.not_true, Bool.and_self, cond_true, cond_false] at h ⊢
    have hv := ieq_t' c1
    have := (valid_sands hv).1
    exact .stop (Y2_ok _) H2sy h (on_ans c px py hv ⟨by unfold in10; rw [d1, d2]; rfl, by unfold in10; rw [d3, d4]; rfl⟩ c.2.1.2.length 0 1048575 [] [] (by omega) (by omega) (fun h => h) (by simp) (by simp))
end Go.Proofs.YtffnpkbopjjdaaaGreatDoor

/-
  LOOPS, told by their heads.
-/
set_option maxRecDepth 100000
namespace Go.Proofs.YtffnpkbopjjdaaaGreatDoor
open Go Go.Eng
theorem vali_start (c : tChart.den) : adv H2 (Y2 []) 3000 (startC H2 43 [tChart.av c] 6) = some (.done (.bool (ieq (chkS c).snd.snd 0))) := by kernel_rfl
noncomputable def haslI0 (a : (Ty.sl tI).den) (n : Int) (x4 : Int) (x10 : Nat) : Cfg := ⟨.ex (pcOf H2 48 [0, 0, 1, 0, 1]) ⟨(tmOf 18 [(0, (.vs tI (a.fst) (a.snd))), (1, (.int .i64 (n))), (4, (.bool (false))), (5, (.int .i64 x4))]), (hpOf 0 []), [], [], 18, false⟩, ⟨6, []⟩, [(.lop (pcOf H2 48 [0, 0, 1, 0, 1]) 0 (tmOf 18 [(0, (.vs tI (a.fst) (a.snd))), (1, (.int .i64 (n))), (4, (.bool (false))), (5, (.int .i64 (0)))]) x10), (.blk 0), (.seq (pcOf H2 48 [1, 1])), (.cal [(.tmp 4)] .top)]⟩
theorem hasl_start (a : (Ty.sl tI).den) (n : Int) : adv H2 (Y2 [48]) 3000 (startC H2 48 [.vs tI a.1 a.2, .int .i64 n] 6) = some (.stop (haslI0 a n (0) (1048575))) := by kernel_rfl
theorem hasl_step0 (a : (Ty.sl tI).den) (n : Int) (x4 : Int) (x10 : Nat) : adv H2 (Y2 [48]) 3000 (haslI0 a n x4 (x10 + 1)) = (bif !ile (↑a.snd.length) x4 then (bif inB x4 a.snd.length then (bif ieq (a.snd.getD x4.toNat tI.dflt) n then some (.done (.bool (true))) else some (.stop (haslI0 a n (wr IntKind.i64 (x4 + 1)) (x10)))) else none) else some (.done (.bool (false)))) := by kernel_rfl
theorem amng_start (lo hi n : Int) : adv H2 (Y2 []) 3000 (startC H2 57 [.agg [.int .i64 lo, .int .i64 hi], .int .i64 n] 6) = (bif ieq (wr IntKind.i64 (wr IntKind.i64 (hi - lo) + 1)) 0 then none else some (.done (.int .i64 (wr IntKind.i64 (lo + n.tmod (wr IntKind.i64 (wr IntKind.i64 (hi - lo) + 1))))))) := by kernel_rfl
theorem turn_start (l : (Ty.sl (.int .u16)).den) (n : Int) : adv H2 (Y2 []) 3000 (startC H2 49 [.vs (.int .u16) l.1 l.2, .int .i64 n] 6) = (bif ieq (↑l.snd.length) 0 then some (.done (.int .i64 (0))) else (bif ieq (↑l.snd.length) 0 then none else (bif inB (n.tmod ↑l.snd.length) l.snd.length then some (.done (.int .i64 (wr IntKind.i64 (l.snd.getD (n.tmod ↑l.snd.length).toNat (Ty.int IntKind.u16).dflt)))) else none))) := by kernel_rfl
noncomputable def hasS : List tI.den → Int → Bool
  | [], _ => false
  | x :: l, n => bif ieq x n then true else hasS l n
theorem hasl_ans (a : (Ty.sl tI).den) (n : Int) (hl : a.2.length < 1048576) : ∀ (r k m : Nat), k + r = a.2.length → r < m → Ans H2 (haslI0 a n k m) (.bool (hasS (a.2.drop k) n))
  | 0, k, m + 1, hk, hm => by
    have h := hasl_step0 a n k m
    simp only [ile_ge (show a.2.length ≤ k by omega), Bool.not_true, cond_false] at h
    rw [List.drop_eq_nil_of_le (by omega)]
    exact .doneB (Y2_ok _) H2sy h rfl
  | r + 1, k, m + 1, hk, hm => by
    have h := hasl_step0 a n k m
    have hlt : k < a.2.length := by omega
    simp only [ile_lt hlt, inB_at hlt, getD_at hlt, wr_succ (show k < 1048577 by omega), Bool.not_false, cond_true] at h
    rw [List.drop_eq_getElem_cons hlt, hasS]
    cases e : ieq (a.2[k]) n with
    | true => simp only [e, cond_true] at h ⊢; exact .doneB (Y2_ok _) H2sy h rfl
    | false => simp only [e, cond_false] at h ⊢; exact .stop (Y2_ok _) H2sy h (hasl_ans a n hl r (k + 1) m (by omega) (by omega))
theorem hasl_call (a : (Ty.sl tI).den) (n : Int) (hl : a.2.length < 1048575) : AnsF H2 48 [.vs tI a.1 a.2, .int .i64 n] (.bool (hasS a.2 n)) :=
  Ans.call (n := 6) (ext_none (by kernel_rfl)) (hasB_spec (by kernel_rfl)) (.stop (Y2_ok _) H2sy (hasl_start a n) (hasl_ans a n (by omega) a.2.length 0 1048575 (by omega) (by omega)))
theorem vali_call (c : tChart.den) : AnsF H2 43 [tChart.av c] (.bool (ieq (chkS c).2.2 0)) :=
  Ans.call (n := 6) (ext_none (by kernel_rfl)) (hasB_spec (by kernel_rfl)) (.doneB (Y2_ok _) H2sy (vali_start c) rfl)
/-- A number of a span. -/
noncomputable def amS (lo hi n : Int) : Int := lo + n % (hi - lo + 1)
noncomputable def amC (lo hi n : Int) : Bool := ile (-100000) lo && ile lo hi && ile hi 100000 && (ile 0 n && ile n 100000)
theorem amC_iff {lo hi n : Int} : amC lo hi n = true ↔ ((-100000 ≤ lo ∧ lo ≤ hi) ∧ hi ≤ 100000) ∧ 0 ≤ n ∧ n ≤ 100000 := by
  simp only [amC, Bool.and_eq_true, ile_iff, decide_eq_true_eq]
theorem amS_in {lo hi n : Int} (h : lo ≤ hi) : lo ≤ amS lo hi n ∧ amS lo hi n ≤ hi := by
  have h1 := Int.emod_nonneg n (show hi - lo + 1 ≠ 0 by omega)
  have h2 := Int.emod_lt_of_pos n (show 0 < hi - lo + 1 by omega)
  unfold amS
  omega
theorem amng_call (s : tP.den) (n : Int) (hc : amC s.1 s.2.1 n = true) : AnsF H2 57 [tP.av s, .int .i64 n] (.int .i64 (amS s.1 s.2.1 n)) := by
  refine Ans.call (n := 6) (ext_none (by kernel_rfl)) (hasB_spec (by kernel_rfl)) ?_
  obtain ⟨lo, hlo⟩ : ∃ x : Int, s.1 = x := ⟨_, rfl⟩
  obtain ⟨hi, hhi⟩ : ∃ x : Int, s.2.1 = x := ⟨_, rfl⟩
  have h := amng_start s.1 s.2.1 n
  rw [hlo, hhi] at hc ⊢
  rw [hlo, hhi] at h
  rw [amC_iff] at hc
  have e1 : wr .i64 (wr .i64 (hi - lo) + 1) = hi - lo + 1 := by rw [wr_in (n := hi - lo) (by omega) (by omega), wr_in (by omega) (by omega)]
  have e0 : ieq (hi - lo + 1) 0 = false := by rw [ieq_iff]; simp; omega
  have e2 : n.tmod (hi - lo + 1) = n % (hi - lo + 1) := Int.tmod_eq_emod_of_nonneg (by omega)
  have h1 := Int.emod_nonneg n (show hi - lo + 1 ≠ 0 by omega)
  have h2 := Int.emod_lt_of_pos n (show 0 < hi - lo + 1 by omega)
  simp only [e1, e0, e2, cond_false] at h
  rw [wr_in (by omega) (by omega)] at h
  subst hlo; subst hhi
  exact .doneI (S := Y2 []) (Y2_ok _) H2sy (n := 3000) h rfl
noncomputable def u16 (l : List Int) : Bool := l.all fun x => ile 0 x && ile x 65535
noncomputable def turnS (l : List Int) (n : Int) : Int := bif ieq (l.length : Int) 0 then 0 else l.getD (n % (l.length : Int)).toNat 0
theorem turnS_b {l : List Int} (h : u16 l = true) (n : Int) : 0 ≤ turnS l n ∧ turnS l n ≤ 65535 := by
  unfold turnS
  cases ieq (l.length : Int) 0 with
  | true => simp only [cond_true]; omega
  | false =>
    simp only [cond_false]
    rw [List.getD_eq_getElem?_getD]
    cases e : l[(n % (l.length : Int)).toNat]? with
    | none => simp
    | some x =>
      have hm := List.mem_of_getElem? e
      have := List.all_eq_true.1 h x hm
      simp only [Bool.and_eq_true, ile_iff, decide_eq_true_eq] at this
      exact this
theorem turn_call (l : (Ty.sl (.int .u16)).den) (n : Int) (hl : u16 l.2 = true) (hn : ile 0 n = true) : AnsF H2 49 [.vs (.int .u16) l.1 l.2, .int .i64 n] (.int .i64 (turnS l.2 n)) := by
  refine Ans.call (n := 6) (ext_none (by kernel_rfl)) (hasB_spec (by kernel_rfl)) ?_
  have h := turn_start l n
  rw [ile_iff] at hn
  simp only [decide_eq_true_eq] at hn
  have hb := turnS_b hl n
  unfold turnS at hb ⊢
  have hll : l.2.length = List.length (α := Int) l.2 := rfl
  cases c1 : ieq (l.2.length : Int) 0 with
  | true =>
    simp only [c1, cond_true] at h ⊢
    exact .doneI (Y2_ok _) H2sy h rfl
  | false =>
    have hne := ieq_f' c1
    have e : n.tmod (l.2.length : Int) = n % (l.2.length : Int) := Int.tmod_eq_emod_of_nonneg hn
    have h1 := Int.emod_nonneg n hne
    have h2 := Int.emod_lt_of_pos n (show 0 < (l.2.length : Int) by omega)
    have hin : inB (n % (l.2.length : Int)) l.2.length = true := by rw [inB_iff]; exact decide_eq_true ⟨h1, h2⟩
    simp only [c1, e, hin, cond_true, cond_false] at h hb ⊢
    have hd : l.2.getD (n % (l.2.length : Int)).toNat (Ty.int IntKind.u16).dflt = l.2.getD (n % (l.2.length : Int)).toNat (0 : Int) := rfl
    rw [hd, wr_in (by have := hb.1; omega) (by have := hb.2; omega)] at h
    exact .doneI (Y2_ok _) H2sy h rfl
noncomputable def LJ : List Said := [(43, con1 tChart (fun _ => true) (fun c => .bool (ieq (chkS c).2.2 0))), (48, con2 (.sl tI) tI (fun a _ => Nat.ble a.2.length 1000) (fun a n => .bool (hasS a.2 n))), (57, con2 tP tI (fun s n => amC s.1 s.2.1 n) (fun s n => .int .i64 (amS s.1 s.2.1 n))),
  (49, con2 (.sl (.int .u16)) tI (fun l n => u16 l.2 && ile 0 n) (fun l n => .int .i64 (turnS l.2 n))), (23, con2 tChart tP (fun _ _ => true) (fun c p => tupS (onS c p.1 p.2.1)))]
theorem LJ_ok : ∀ e ∈ LJ, SaidG Tryz.prog H2.glob e :=
  saids_cons (SaidOK.g h2 xh2 nh2 tabs_ok.mix (fun _ _ h => con1_spec (t := tChart) (fun c _ => vali_call c) h) rfl)
  (saids_cons (SaidOK.g h2 xh2 nh2 tabs_ok.mix (fun _ _ h => con2_spec (t := .sl tI) (u := tI) (fun a n hc => hasl_call a n (by have := Nat.le_of_ble_eq_true hc; omega)) h) rfl)
  (saids_cons (SaidOK.g h2 xh2 nh2 tabs_ok.mix (fun _ _ h => con2_spec (t := tP) (u := tI) (fun s n hc => amng_call s n hc) h) rfl)
  (saids_cons (SaidOK.g h2 xh2 nh2 tabs_ok.mix (fun _ _ h => con2_spec (t := .sl (.int .u16)) (u := tI) (fun l n hc => by
    rw [Bool.and_eq_true] at hc
    exact turn_call l n hc.1 hc.2) h) rfl)
  (saids_cons (SaidOK.g h2 xh2 nh2 tabs_ok.mix (fun _ _ h => con2_spec (t := tChart) (u := tP) (fun c p _ => on_call c p.1 p.2.1) h) rfl) saids_nil))))
noncomputable def H3 : Env := H2.say (under (xOf LJ))
theorem h3 : EnvOK Tryz.prog H3 := h2.say _
theorem nh3 : NameOK H3 := nh2.say _
theorem xh3 : ExtOK Tryz.prog H3 := xh2.sayL LJ_ok
theorem H3sy : H3.sy = true := rfl
noncomputable def Y3 (l : List Nat) : Sy := (Y2 []).on LJ l
theorem Y3_ok (l : List Nat) : (Y3 l).ok H3 := Sy.on_ok (Y2_ok _)
end Go.Proofs.YtffnpkbopjjdaaaGreatDoor

/-
  LOOPS, told by their heads.
-/
set_option maxRecDepth 100000
namespace Go.Proofs.YtffnpkbopjjdaaaGreatDoor
open Go Go.Eng
theorem lefO_start (a b : tP.den) : adv E0 (hdOf []) 3000 (startC E0 109 [tP.av a, tP.av b] 3) = some (.done (.int .i64 (wr IntKind.i64 (wr IntKind.i64 (a.fst * b.snd.fst) - wr IntKind.i64 (a.snd.fst * b.fst))))) := by kernel_rfl
theorem ahea_start (a b : tP.den) : adv E0 (hdOf []) 3000 (startC E0 144 [tP.av a, tP.av b] 3) = some (.done (.int .i64 (wr IntKind.i64 (wr IntKind.i64 (a.fst * b.fst) + wr IntKind.i64 (a.snd.fst * b.snd.fst))))) := by kernel_rfl
theorem squa_start (a : tP.den) : adv E0 (hdOf []) 3000 (startC E0 145 [tP.av a] 3) = some (.done (.int .i64 (wr IntKind.i64 (wr IntKind.i64 (a.fst * a.fst) + wr IntKind.i64 (a.snd.fst * a.snd.fst))))) := by kernel_rfl

noncomputable def vecS (a b : tP.den) : AV := .agg [.int .i64 (wr .i64 (b.1 - a.1)), .int .i64 (wr .i64 (b.2.1 - a.2.1))]
noncomputable def lefS (a b : tP.den) : AV := .int .i64 (wr .i64 (wr .i64 (a.1 * b.2.1) - wr .i64 (a.2.1 * b.1)))
noncomputable def aheS (a b : tP.den) : AV := .int .i64 (wr .i64 (wr .i64 (a.1 * b.1) + wr .i64 (a.2.1 * b.2.1)))
theorem vec_call (a b : tP.den) : AnsF E0 83 [tP.av a, tP.av b] (vecS a b) :=
  Ans.call (n := 3) (E0ext _ _ (by kernel_rfl)) (hasB_spec (by kernel_rfl)) (.done (hdOf_ok _) E0sy (vecTo_start a b) rfl)
theorem lef_call (a b : tP.den) : AnsF E0 109 [tP.av a, tP.av b] (lefS a b) :=
  Ans.call (n := 3) (E0ext _ _ (by kernel_rfl)) (hasB_spec (by kernel_rfl)) (.doneI (hdOf_ok _) E0sy (lefO_start a b) rfl)
theorem ahe_call (a b : tP.den) : AnsF E0 144 [tP.av a, tP.av b] (aheS a b) :=
  Ans.call (n := 3) (E0ext _ _ (by kernel_rfl)) (hasB_spec (by kernel_rfl)) (.doneI (hdOf_ok _) E0sy (ahea_start a b) rfl)
theorem squ_call (a : tP.den) : AnsF E0 145 [tP.av a] (aheS a a) :=
  Ans.call (n := 3) (E0ext _ _ (by kernel_rfl)) (hasB_spec (by kernel_rfl)) (.doneI (hdOf_ok _) E0sy (squa_start a) rfl)
noncomputable def XA (f : Nat) (args : List AV) : Option (Bool × AV) :=
  match Nat.beq f 83 with
  | true => con2 tP tP (fun _ _ => true) vecS args
  | false => match Nat.beq f 109 with
  | true => con2 tP tP (fun _ _ => true) lefS args
  | false => match Nat.beq f 144 with
  | true => con2 tP tP (fun _ _ => true) aheS args
  | false => match Nat.beq f 145 with
  | true => con1 tP (fun _ => true) (fun a => aheS a a) args
  | false => none
theorem XA_con : Con E0 (under XA) := by
  intro f args v h
  rw [under_iff] at h
  unfold XA at h
  split at h
  · rename_i e; obtain rfl := Nat.eq_of_beq_eq_true e
    exact con2_spec (t := tP) (u := tP) (fun a b _ => vec_call a b) h
  split at h
  · rename_i e; obtain rfl := Nat.eq_of_beq_eq_true e
    exact con2_spec (t := tP) (u := tP) (fun a b _ => lef_call a b) h
  split at h
  · rename_i e; obtain rfl := Nat.eq_of_beq_eq_true e
    exact con2_spec (t := tP) (u := tP) (fun a b _ => ahe_call a b) h
  split at h
  · rename_i e; obtain rfl := Nat.eq_of_beq_eq_true e
    exact con1_spec (t := tP) (fun a _ => squ_call a) h
  · cases h
/-- The tables, with these said ahead. -/
noncomputable def EA : Env := { T0.env with ext := (E0.say (under XA)).ext }
theorem eA : EnvOK Tryz.prog EA := by
  have h := tabs_ok.env
  refine ⟨fun t k ht => ?_, h.zero, h.fn, h.eqok, h.meth⟩
  obtain ⟨h1, h2⟩ := h.ty t k ht
  refine ⟨h1, ?_⟩
  cases k <;> exact h2
theorem nA : NameOK EA := tabs_ok.name
theorem xA : ExtOK Tryz.prog EA := ExtOK.sayG e0 x0 n0 tabs_ok.mix XA_con
end Go.Proofs.YtffnpkbopjjdaaaGreatDoor

/-
  THE CALLS that are said ahead.
-/
set_option maxRecDepth 100000
namespace Go.Proofs.YtffnpkbopjjdaaaGreatDoor
open Go Go.Eng
noncomputable def c0 : Ent := ⟨23, [(.agg [(.sl 10 0 2 2 4), (.sl 21 0 2 2 6)]), (.agg [(.int .i64 (150)), (.int .i64 (50))])], 23, [(7, (.cells false [(.int .i64 (0)), (.int .i64 (1)), (.int .i64 (50)), (.int .i64 (2))])), (9, (.cells false [(.int .i64 (10)), (.int .i64 (3)), (.int .i64 (90)), (.int .i64 (0))])), (10, (.cells false [(.str [99, 104, 117, 114, 99, 104]), (.int .i64 (3000)), (.int .i64 (4000)), (.sl 7 0 2 2 2), (.str [109, 105, 108, 108]), (.int .i64 (-2000)), (.int .i64 (0)), (.sl 9 0 2 2 2)])), (15, (.cells false [(.int .i64 (100)), (.int .i64 (0)), (.int .i64 (200)), (.int .i64 (0)), (.int .i64 (200)), (.int .i64 (100)), (.int .i64 (100)), (.int .i64 (100))])), (20, (.cells false [(.int .i64 (-300)), (.int .i64 (-300)), (.int .i64 (-100)), (.int .i64 (-400)), (.int .i64 (-200)), (.int .i64 (-200))])), (21, (.cells false [(.str [107, 110, 111, 108, 108]), (.sl 15 0 4 4 2), (.int .i64 (0)), (.int .i64 (10)), (.int .i64 (-5)), (.int .i64 (5)), (.str [115, 112, 105, 116]), (.sl 20 0 3 3 2), (.int .i64 (0)), (.int .i64 (0)), (.int .i64 (0)), (.int .i64 (0))]))], (.tup [(.sl 451 0 1 1 1), (.sl 453 0 1 1 1), (.int .i64 (0))]), [(451, (.cells false [(.int .i64 (0))])), (453, (.cells false [(.int .i64 (0))]))], 481⟩
noncomputable def c1 : Ent := ⟨23, [(.agg [(.sl 486 0 2 2 4), (.sl 497 0 2 2 6)]), (.agg [(.int .i64 (205)), (.int .i64 (50))])], 499, [(483, (.cells false [(.int .i64 (0)), (.int .i64 (1)), (.int .i64 (50)), (.int .i64 (2))])), (485, (.cells false [(.int .i64 (10)), (.int .i64 (3)), (.int .i64 (90)), (.int .i64 (0))])), (486, (.cells false [(.str [99, 104, 117, 114, 99, 104]), (.int .i64 (3000)), (.int .i64 (4000)), (.sl 483 0 2 2 2), (.str [109, 105, 108, 108]), (.int .i64 (-2000)), (.int .i64 (0)), (.sl 485 0 2 2 2)])), (491, (.cells false [(.int .i64 (100)), (.int .i64 (0)), (.int .i64 (200)), (.int .i64 (0)), (.int .i64 (200)), (.int .i64 (100)), (.int .i64 (100)), (.int .i64 (100))])), (496, (.cells false [(.int .i64 (-300)), (.int .i64 (-300)), (.int .i64 (-100)), (.int .i64 (-400)), (.int .i64 (-200)), (.int .i64 (-200))])), (497, (.cells false [(.str [107, 110, 111, 108, 108]), (.sl 491 0 4 4 2), (.int .i64 (0)), (.int .i64 (10)), (.int .i64 (-5)), (.int .i64 (5)), (.str [115, 112, 105, 116]), (.sl 496 0 3 3 2), (.int .i64 (0)), (.int .i64 (0)), (.int .i64 (0)), (.int .i64 (0))]))], (.tup [.nils, (.sl 927 0 1 1 1), (.int .i64 (0))]), [(927, (.cells false [(.int .i64 (0))]))], 955⟩
noncomputable def c2 : Ent := ⟨108, [(.agg [(.str [107, 110, 111, 108, 108]), (.sl 1136 0 4 4 2), (.int .i64 (0)), (.int .i64 (10)), (.int .i64 (-5)), (.int .i64 (5)), (.int .i64 (0)), (.int .i64 (0))]), (.int .i64 (100))], 1274, [(1136, (.cells false [(.int .i64 (100)), (.int .i64 (0)), (.int .i64 (200)), (.int .i64 (0)), (.int .i64 (200)), (.int .i64 (100)), (.int .i64 (100)), (.int .i64 (100))]))], (.tup [(.agg [(.int .i64 (0)), (.int .i64 (0))]), (.bool false)]), [], 6682⟩
noncomputable def c3 : Ent := ⟨108, [(.agg [(.str [107, 110, 111, 108, 108]), (.sl 6738 0 4 4 2), (.int .i64 (0)), (.int .i64 (10)), (.int .i64 (-5)), (.int .i64 (5)), (.int .i64 (0)), (.int .i64 (0))]), (.int .i64 (79))], 7004, [(6738, (.cells false [(.int .i64 (100)), (.int .i64 (0)), (.int .i64 (200)), (.int .i64 (0)), (.int .i64 (200)), (.int .i64 (100)), (.int .i64 (100)), (.int .i64 (100))]))], (.tup [(.agg [(.int .i64 (0)), (.int .i64 (0))]), (.bool false)]), [], 12412⟩
noncomputable def c4 : Ent := ⟨108, [(.agg [(.str [107, 110, 111, 108, 108]), (.sl 6738 0 4 4 2), (.int .i64 (0)), (.int .i64 (10)), (.int .i64 (-5)), (.int .i64 (5)), (.int .i64 (0)), (.int .i64 (0))]), (.int .i64 (99))], 12487, [(6738, (.cells false [(.int .i64 (100)), (.int .i64 (0)), (.int .i64 (200)), (.int .i64 (0)), (.int .i64 (200)), (.int .i64 (100)), (.int .i64 (100)), (.int .i64 (100))]))], (.tup [(.agg [(.int .i64 (0)), (.int .i64 (0))]), (.bool false)]), [], 17895⟩
noncomputable def c5 : Ent := ⟨108, [(.agg [(.str [107, 110, 111, 108, 108]), (.sl 6738 0 4 4 2), (.int .i64 (0)), (.int .i64 (10)), (.int .i64 (-5)), (.int .i64 (5)), (.int .i64 (0)), (.int .i64 (0))]), (.int .i64 (100))], 18048, [(6738, (.cells false [(.int .i64 (100)), (.int .i64 (0)), (.int .i64 (200)), (.int .i64 (0)), (.int .i64 (200)), (.int .i64 (100)), (.int .i64 (100)), (.int .i64 (100))]))], (.tup [(.agg [(.int .i64 (0)), (.int .i64 (0))]), (.bool false)]), [], 23456⟩
noncomputable def c6 : Ent := ⟨28, [(.agg [(.sl 6733 0 2 2 4), (.sl 6744 0 2 2 6)]), (.agg [(.int .i64 (0)), (.int .i64 (0))])], 6746, [(6730, (.cells false [(.int .i64 (0)), (.int .i64 (1)), (.int .i64 (50)), (.int .i64 (2))])), (6732, (.cells false [(.int .i64 (10)), (.int .i64 (3)), (.int .i64 (90)), (.int .i64 (0))])), (6733, (.cells false [(.str [99, 104, 117, 114, 99, 104]), (.int .i64 (3000)), (.int .i64 (4000)), (.sl 6730 0 2 2 2), (.str [109, 105, 108, 108]), (.int .i64 (-2000)), (.int .i64 (0)), (.sl 6732 0 2 2 2)])), (6738, (.cells false [(.int .i64 (100)), (.int .i64 (0)), (.int .i64 (200)), (.int .i64 (0)), (.int .i64 (200)), (.int .i64 (100)), (.int .i64 (100)), (.int .i64 (100))])), (6743, (.cells false [(.int .i64 (-300)), (.int .i64 (-300)), (.int .i64 (-100)), (.int .i64 (-400)), (.int .i64 (-200)), (.int .i64 (-200))])), (6744, (.cells false [(.str [107, 110, 111, 108, 108]), (.sl 6738 0 4 4 2), (.int .i64 (0)), (.int .i64 (10)), (.int .i64 (-5)), (.int .i64 (5)), (.str [115, 112, 105, 116]), (.sl 6743 0 3 3 2), (.int .i64 (0)), (.int .i64 (0)), (.int .i64 (0)), (.int .i64 (0))]))], (.tup [(.int .i64 (100)), (.int .i64 (0))]), [], 23502⟩
noncomputable def c7 : Ent := ⟨34, [(.agg [(.sl 23821 0 2 2 4), (.sl 23832 0 2 2 6)]), (.int .i64 (20)), (.int .i64 (1)), (.agg [(.int .i64 (-2010)), (.int .i64 (-1990)), (.int .i64 (0)), (.int .i64 (0))])], 23834, [(23818, (.cells false [(.int .i64 (0)), (.int .i64 (1)), (.int .i64 (50)), (.int .i64 (2))])), (23820, (.cells false [(.int .i64 (10)), (.int .i64 (3)), (.int .i64 (90)), (.int .i64 (0))])), (23821, (.cells false [(.str [99, 104, 117, 114, 99, 104]), (.int .i64 (3000)), (.int .i64 (4000)), (.sl 23818 0 2 2 2), (.str [109, 105, 108, 108]), (.int .i64 (-2000)), (.int .i64 (0)), (.sl 23820 0 2 2 2)])), (23826, (.cells false [(.int .i64 (100)), (.int .i64 (0)), (.int .i64 (200)), (.int .i64 (0)), (.int .i64 (200)), (.int .i64 (100)), (.int .i64 (100)), (.int .i64 (100))])), (23831, (.cells false [(.int .i64 (-300)), (.int .i64 (-300)), (.int .i64 (-100)), (.int .i64 (-400)), (.int .i64 (-200)), (.int .i64 (-200))])), (23832, (.cells false [(.str [107, 110, 111, 108, 108]), (.sl 23826 0 4 4 2), (.int .i64 (0)), (.int .i64 (10)), (.int .i64 (-5)), (.int .i64 (5)), (.str [115, 112, 105, 116]), (.sl 23831 0 3 3 2), (.int .i64 (0)), (.int .i64 (0)), (.int .i64 (0)), (.int .i64 (0))]))], (.tup [(.sl 25739 0 2 2 1), (.int .i64 (0))]), [(25739, (.cells false [(.int .i64 (8)), (.int .i64 (24))]))], 25740⟩
noncomputable def c8 : Ent := ⟨36, [(.agg [(.sl 25745 0 2 2 4), (.sl 25756 0 2 2 6)])], 25757, [(25742, (.cells false [(.int .i64 (0)), (.int .i64 (1)), (.int .i64 (50)), (.int .i64 (2))])), (25744, (.cells false [(.int .i64 (10)), (.int .i64 (3)), (.int .i64 (90)), (.int .i64 (0))])), (25745, (.cells false [(.str [99, 104, 117, 114, 99, 104]), (.int .i64 (3000)), (.int .i64 (4000)), (.sl 25742 0 2 2 2), (.str [109, 105, 108, 108]), (.int .i64 (-2000)), (.int .i64 (0)), (.sl 25744 0 2 2 2)])), (25750, (.cells false [(.int .i64 (100)), (.int .i64 (0)), (.int .i64 (200)), (.int .i64 (0)), (.int .i64 (200)), (.int .i64 (100)), (.int .i64 (100)), (.int .i64 (100))])), (25755, (.cells false [(.int .i64 (-300)), (.int .i64 (-300)), (.int .i64 (-100)), (.int .i64 (-400)), (.int .i64 (-200)), (.int .i64 (-200))])), (25756, (.cells false [(.str [107, 110, 111, 108, 108]), (.sl 25750 0 4 4 2), (.int .i64 (0)), (.int .i64 (10)), (.int .i64 (-5)), (.int .i64 (5)), (.str [115, 112, 105, 116]), (.sl 25755 0 3 3 2), (.int .i64 (0)), (.int .i64 (0)), (.int .i64 (0)), (.int .i64 (0))]))], (.tup [(.str [109, 97, 114, 107, 32, 99, 104, 117, 114, 99, 104, 32, 51, 48, 48, 48, 32, 52, 48, 48, 48, 32, 48, 32, 49, 32, 53, 48, 32, 50, 10, 109, 97, 114, 107, 32, 109, 105, 108, 108, 32, 45, 50, 48, 48, 48, 32, 48, 32, 49, 48, 32, 51, 32, 57, 48, 32, 48, 10, 115, 97, 110, 100, 32, 107, 110, 111, 108, 108, 32, 48, 32, 49, 48, 32, 45, 53, 32, 53, 32, 49, 48, 48, 32, 48, 32, 50, 48, 48, 32, 48, 32, 50, 48, 48, 32, 49, 48, 48, 32, 49, 48, 48, 32, 49, 48, 48, 10, 115, 97, 110, 100, 32, 115, 112, 105, 116, 32, 48, 32, 48, 32, 48, 32, 48, 32, 45, 51, 48, 48, 32, 45, 51, 48, 48, 32, 45, 49, 48, 48, 32, 45, 52, 48, 48, 32, 45, 50, 48, 48, 32, 45, 50, 48, 48, 10]), (.int .i64 (0))]), [], 25939⟩
noncomputable def c9 : Ent := ⟨115, [(.str [109, 97, 114, 107, 32, 99, 104, 117, 114, 99, 104, 32, 51, 48, 48, 48, 32, 52, 48, 48, 48, 32, 48, 32, 49, 32, 53, 48, 32, 50, 10, 109, 97, 114, 107, 32, 109, 105, 108, 108, 32, 45, 50, 48, 48, 48, 32, 48, 32, 49, 48, 32, 51, 32, 57, 48, 32, 48, 10, 115, 97, 110, 100, 32, 107, 110, 111, 108, 108, 32, 48, 32, 49, 48, 32, 45, 53, 32, 53, 32, 49, 48, 48, 32, 48, 32, 50, 48, 48, 32, 48, 32, 50, 48, 48, 32, 49, 48, 48, 32, 49, 48, 48, 32, 49, 48, 48, 10, 115, 97, 110, 100, 32, 115, 112, 105, 116, 32, 48, 32, 48, 32, 48, 32, 48, 32, 45, 51, 48, 48, 32, 45, 51, 48, 48, 32, 45, 49, 48, 48, 32, 45, 52, 48, 48, 32, 45, 50, 48, 48, 32, 45, 50, 48, 48, 10])], 25942, [], (.agg [(.sl 25967 0 2 2 4), (.sl 26004 0 2 2 6)]), [(25955, (.cells false [(.int .i64 (0)), (.int .i64 (1)), (.int .i64 (50)), (.int .i64 (2))])), (25966, (.cells false [(.int .i64 (10)), (.int .i64 (3)), (.int .i64 (90)), (.int .i64 (0))])), (25967, (.cells false [(.str [99, 104, 117, 114, 99, 104]), (.int .i64 (3000)), (.int .i64 (4000)), (.sl 25955 0 2 2 2), (.str [109, 105, 108, 108]), (.int .i64 (-2000)), (.int .i64 (0)), (.sl 25966 0 2 2 2)])), (25986, (.cells false [(.int .i64 (100)), (.int .i64 (0)), (.int .i64 (200)), (.int .i64 (0)), (.int .i64 (200)), (.int .i64 (100)), (.int .i64 (100)), (.int .i64 (100))])), (26003, (.cells false [(.int .i64 (-300)), (.int .i64 (-300)), (.int .i64 (-100)), (.int .i64 (-400)), (.int .i64 (-200)), (.int .i64 (-200))])), (26004, (.cells false [(.str [107, 110, 111, 108, 108]), (.sl 25986 0 4 4 2), (.int .i64 (0)), (.int .i64 (10)), (.int .i64 (-5)), (.int .i64 (5)), (.str [115, 112, 105, 116]), (.sl 26003 0 3 3 2), (.int .i64 (0)), (.int .i64 (0)), (.int .i64 (0)), (.int .i64 (0))]))], 26005⟩
noncomputable def c10 : Ent := ⟨36, [(.agg [(.sl 25967 0 2 2 4), (.sl 26004 0 2 2 6)])], 26006, [(25955, (.cells false [(.int .i64 (0)), (.int .i64 (1)), (.int .i64 (50)), (.int .i64 (2))])), (25966, (.cells false [(.int .i64 (10)), (.int .i64 (3)), (.int .i64 (90)), (.int .i64 (0))])), (25967, (.cells false [(.str [99, 104, 117, 114, 99, 104]), (.int .i64 (3000)), (.int .i64 (4000)), (.sl 25955 0 2 2 2), (.str [109, 105, 108, 108]), (.int .i64 (-2000)), (.int .i64 (0)), (.sl 25966 0 2 2 2)])), (25986, (.cells false [(.int .i64 (100)), (.int .i64 (0)), (.int .i64 (200)), (.int .i64 (0)), (.int .i64 (200)), (.int .i64 (100)), (.int .i64 (100)), (.int .i64 (100))])), (26003, (.cells false [(.int .i64 (-300)), (.int .i64 (-300)), (.int .i64 (-100)), (.int .i64 (-400)), (.int .i64 (-200)), (.int .i64 (-200))])), (26004, (.cells false [(.str [107, 110, 111, 108, 108]), (.sl 25986 0 4 4 2), (.int .i64 (0)), (.int .i64 (10)), (.int .i64 (-5)), (.int .i64 (5)), (.str [115, 112, 105, 116]), (.sl 26003 0 3 3 2), (.int .i64 (0)), (.int .i64 (0)), (.int .i64 (0)), (.int .i64 (0))]))], (.tup [(.str [109, 97, 114, 107, 32, 99, 104, 117, 114, 99, 104, 32, 51, 48, 48, 48, 32, 52, 48, 48, 48, 32, 48, 32, 49, 32, 53, 48, 32, 50, 10, 109, 97, 114, 107, 32, 109, 105, 108, 108, 32, 45, 50, 48, 48, 48, 32, 48, 32, 49, 48, 32, 51, 32, 57, 48, 32, 48, 10, 115, 97, 110, 100, 32, 107, 110, 111, 108, 108, 32, 48, 32, 49, 48, 32, 45, 53, 32, 53, 32, 49, 48, 48, 32, 48, 32, 50, 48, 48, 32, 48, 32, 50, 48, 48, 32, 49, 48, 48, 32, 49, 48, 48, 32, 49, 48, 48, 10, 115, 97, 110, 100, 32, 115, 112, 105, 116, 32, 48, 32, 48, 32, 48, 32, 48, 32, 45, 51, 48, 48, 32, 45, 51, 48, 48, 32, 45, 49, 48, 48, 32, 45, 52, 48, 48, 32, 45, 50, 48, 48, 32, 45, 50, 48, 48, 10]), (.int .i64 (0))]), [], 26188⟩
end Go.Proofs.YtffnpkbopjjdaaaGreatDoor

