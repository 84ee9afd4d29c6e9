/-
  THE ENGINE: one more part of it.
-/
import Derived.Test.YtffnpkbopjjdaaaGreatDoorPart04
import Derived.Test.YtffnpkbopjjdaaaGreatDoorPart03
import Derived.ProofKit
set_option linter.unusedSectionVars false
set_option linter.unusedSimpArgs false
set_option linter.unusedVariables false
set_option maxRecDepth 100000
namespace Go.Proofs.YtffnpkbopjjdaaaGreatDoor
open Go Go.Eng
noncomputable def rowoI0 (v : tView.den) (x : Int) (x3 : Int) (x16 : Int) (x17 : Int) (x40 : Nat) : Cfg := ⟨.ex (pcOf F1 131 [0, 0, 1]) ⟨(tmOf 29 [(0, (.yld 5)), (1, (.ptr 4 0)), (6, (.vs tP (v.1.2.1.1) (v.1.2.1.2))), (7, (.int .i64 (Int.ofNat v.1.2.1.2.length))), (8, (.int .i64 x3))]), (hpOf 6 [(0, (.cells false [(.str (v.1.1)), (.vs tP (v.1.2.1.1) (v.1.2.1.2)), (.int .i64 (v.1.2.2.1.1.1)), (.int .i64 (v.1.2.2.1.1.2.1)), (.int .i64 (v.1.2.2.1.2.1.1)), (.int .i64 (v.1.2.2.1.2.1.2.1)), (.int .i64 (v.2.1.1)), (.int .i64 (v.2.1.2.1))])), (1, (.cells false [(.int .i64 (x))])), (2, (.cells false [(.int .i64 (0)), (.int .i64 (0))])), (3, (.cells false [(.int .i64 x16), (.int .i64 x17)])), (4, (.cells false [(.vs tP (v.1.2.1.1) (v.1.2.1.2))]))]), [], [⟨false, .normal⟩], 29, false⟩, ⟨9, [⟨5, 43, 10, (tmOf 43 [(0, (.agg [(.str (v.1.1)), (.vs tP (v.1.2.1.1) (v.1.2.1.2)), (.int .i64 (v.1.2.2.1.1.1)), (.int .i64 (v.1.2.2.1.1.2.1)), (.int .i64 (v.1.2.2.1.2.1.1)), (.int .i64 (v.1.2.2.1.2.1.2.1)), (.int .i64 (v.2.1.1)), (.int .i64 (v.2.1.2.1))])), (1, (.int .i64 (x))), (2, (.ptr 0 0)), (3, (.ptr 1 0)), (4, (.ptr 2 0)), (5, (.ptr 3 0)), (9, (.ptr 0 0)), (10, (.ptr 0 2)), (11, (.ptr 0 4)), (12, (.ptr 0 4)), (13, (.int .i64 (v.1.2.2.1.2.1.1))), (14, (.ptr 0 0)), (15, (.ptr 0 2)), (16, (.ptr 0 4)), (17, (.ptr 0 5)), (18, (.int .i64 (v.1.2.2.1.2.1.2.1))), (19, (.agg [(.int .i64 (v.1.2.2.1.2.1.1)), (.int .i64 (v.1.2.2.1.2.1.2.1))])), (20, (.ptr 0 0)), (21, (.ptr 0 1)), (22, (.vs tP (v.1.2.1.1) (v.1.2.1.2))), (23, (.fn 131 [] [(.ptr 4 0)]))]), #[24, 25], (pcOf F1 106 [0, 0, 1, 0, 1, 1]), (pcOf F1 106 [1, 0, 1, 0, 1, 1])⟩]⟩, [(.lop (pcOf F1 131 [0, 0, 1]) 6 (tmOf 29 [(0, (.yld 5)), (1, (.ptr 4 0)), (6, (.vs tP (v.1.2.1.1) (v.1.2.1.2))), (7, (.int .i64 (Int.ofNat v.1.2.1.2.length))), (8, (.int .i64 (0)))]) x40), (.blk 0), (.cal [] (.rng (tmOf 43 [(0, (.agg [(.str (v.1.1)), (.vs tP (v.1.2.1.1) (v.1.2.1.2)), (.int .i64 (v.1.2.2.1.1.1)), (.int .i64 (v.1.2.2.1.1.2.1)), (.int .i64 (v.1.2.2.1.2.1.1)), (.int .i64 (v.1.2.2.1.2.1.2.1)), (.int .i64 (v.2.1.1)), (.int .i64 (v.2.1.2.1))])), (1, (.int .i64 (x))), (2, (.ptr 0 0)), (3, (.ptr 1 0)), (4, (.ptr 2 0)), (5, (.ptr 3 0)), (9, (.ptr 0 0)), (10, (.ptr 0 2)), (11, (.ptr 0 4)), (12, (.ptr 0 4)), (13, (.int .i64 (v.1.2.2.1.2.1.1))), (14, (.ptr 0 0)), (15, (.ptr 0 2)), (16, (.ptr 0 4)), (17, (.ptr 0 5)), (18, (.int .i64 (v.1.2.2.1.2.1.2.1))), (19, (.agg [(.int .i64 (v.1.2.2.1.2.1.1)), (.int .i64 (v.1.2.2.1.2.1.2.1))])), (20, (.ptr 0 0)), (21, (.ptr 0 1)), (22, (.vs tP (v.1.2.1.1) (v.1.2.1.2))), (23, (.fn 131 [] [(.ptr 4 0)]))]) [] 43 false ⟨10, []⟩)), (.blk 0), (.seq (pcOf F1 106 [1, 1, 1])), (.cal [(.cell 4 155)] .top)]⟩
theorem rowo_start (v : tView.den) (x : Int) : adv F1 (Z1 [106, 131]) 3000 (startC F1 106 [tView.av v, .int .i64 x] 10) = some (.stop (rowoI0 v x (0) (v.1.2.2.1.2.1.1) (v.1.2.2.1.2.1.2.1) (1048575))) := by kernel_rfl
theorem rowo_step0 (v : tView.den) (x : Int) (x3 : Int) (x16 : Int) (x17 : Int) (x40 : Nat) : adv F1 (Z1 [106, 131]) 3000 (rowoI0 v x x3 x16 x17 (x40 + 1)) = (let z1 := (wr .i64 ((v.1.2.1.2.getD ((wr .i64 (x3 + 1)).tmod ↑v.1.2.1.2.length).toNat tP.dflt).1 - (v.1.2.1.2.getD x3.toNat tP.dflt).1)); let z2 := (wr .i64 (wr .i64 (wr .i64 ((v.1.2.1.2.getD ((wr .i64 (x3 + 1)).tmod ↑v.1.2.1.2.length).toNat tP.dflt).1 - (v.1.2.1.2.getD x3.toNat tP.dflt).1) * wr .i64 (v.2.1.2.1 - (v.1.2.1.2.getD x3.toNat tP.dflt).2.1)) - wr .i64 (wr .i64 ((v.1.2.1.2.getD ((wr .i64 (x3 + 1)).tmod ↑v.1.2.1.2.length).toNat tP.dflt).2.1 - (v.1.2.1.2.getD x3.toNat tP.dflt).2.1) * wr .i64 (v.2.1.1 - wr .i64 ((v.1.2.1.2.getD x3.toNat tP.dflt).1 + x))))); let z3 := (wr .i64 ((v.1.2.1.2.getD ((wr .i64 (x3 + 1)).tmod ↑v.1.2.1.2.length).toNat tP.dflt).2.1 - (v.1.2.1.2.getD x3.toNat tP.dflt).2.1)); let z4 := (wr .i64 (0 - wr .i64 ((v.1.2.1.2.getD ((wr .i64 (x3 + 1)).tmod ↑v.1.2.1.2.length).toNat tP.dflt).1 - (v.1.2.1.2.getD x3.toNat tP.dflt).1))); let z5 := (wr .i64 ((v.1.2.1.2.getD x3.toNat tP.dflt).1 + x)); (bif !ile (Int.ofNat v.1.2.1.2.length) x3 then (bif inB x3 v.1.2.1.2.length then (bif ieq (↑v.1.2.1.2.length) 0 then none else (bif inB ((wr .i64 (x3 + 1)).tmod ↑v.1.2.1.2.length) v.1.2.1.2.length then (bif bbeq v.1.2.1.1 v.1.2.1.1 then (bif vsB tP v.1.2.1.2 tP v.1.2.1.2 then (bif bbeq v.1.2.1.1 v.1.2.1.1 then (bif vsB tP v.1.2.1.2 tP v.1.2.1.2 then (bif !ile z1 0 then (bif ieq z1 0 then none else (bif ieq z1 0 then none else (bif !ile 0 (z2.tmod z1) then (bif ieq x17 x17 then (bif ieq x17 x17 then (bif ieq v.2.1.1 v.2.1.1 then (bif ieq v.2.1.2.1 v.2.1.2.1 then (bif ieq z5 z5 then (bif ieq (v.1.2.1.2.getD x3.toNat tP.dflt).2.1 (v.1.2.1.2.getD x3.toNat tP.dflt).2.1 then (bif ieq z1 z1 then (bif ieq z3 z3 then (bif ieq z1 z1 then (bif ieq z3 z3 then (bif ieq z1 z1 then (bif ieq z1 z1 then (bif ieq z1 z1 then (bif ieq (v.1.2.1.2.getD ((wr .i64 (x3 + 1)).tmod ↑v.1.2.1.2.length).toNat tP.dflt).1 (v.1.2.1.2.getD ((wr .i64 (x3 + 1)).tmod ↑v.1.2.1.2.length).toNat tP.dflt).1 then (bif ieq (v.1.2.1.2.getD ((wr .i64 (x3 + 1)).tmod ↑v.1.2.1.2.length).toNat tP.dflt).2.1 (v.1.2.1.2.getD ((wr .i64 (x3 + 1)).tmod ↑v.1.2.1.2.length).toNat tP.dflt).2.1 then (bif ieq (v.1.2.1.2.getD x3.toNat tP.dflt).1 (v.1.2.1.2.getD x3.toNat tP.dflt).1 then (bif ieq (v.1.2.1.2.getD x3.toNat tP.dflt).2.1 (v.1.2.1.2.getD x3.toNat tP.dflt).2.1 then (bif ieq (v.1.2.1.2.getD x3.toNat tP.dflt).1 (v.1.2.1.2.getD x3.toNat tP.dflt).1 then (bif ieq (v.1.2.1.2.getD x3.toNat tP.dflt).2.1 (v.1.2.1.2.getD x3.toNat tP.dflt).2.1 then (bif ieq (v.1.2.1.2.getD x3.toNat tP.dflt).1 (v.1.2.1.2.getD x3.toNat tP.dflt).1 then (bif ieq (v.1.2.1.2.getD x3.toNat tP.dflt).2.1 (v.1.2.1.2.getD x3.toNat tP.dflt).2.1 then some (.stop (rowoI0 v x (wr .i64 (x3 + 1)) (x16) (bif ile x17 (wr .i64 (wr .i64 (z2.tdiv z1) - 1)) then x17 else wr .i64 (wr .i64 (z2.tdiv z1) - 1)) (x40))) else none) else none) else none) else none) else none) else none) else none) else none) else none) else none) else none) else none) else none) else none) else none) else none) else none) else none) else none) else none) else none) else (bif ieq x17 x17 then (bif ieq x17 x17 then (bif ieq v.2.1.1 v.2.1.1 then (bif ieq v.2.1.2.1 v.2.1.2.1 then (bif ieq z5 z5 then (bif ieq (v.1.2.1.2.getD x3.toNat tP.dflt).2.1 (v.1.2.1.2.getD x3.toNat tP.dflt).2.1 then (bif ieq z1 z1 then (bif ieq z3 z3 then (bif ieq z1 z1 then (bif ieq z3 z3 then (bif ieq z1 z1 then (bif ieq z1 z1 then (bif ieq z1 z1 then (bif ieq (v.1.2.1.2.getD ((wr .i64 (x3 + 1)).tmod ↑v.1.2.1.2.length).toNat tP.dflt).1 (v.1.2.1.2.getD ((wr .i64 (x3 + 1)).tmod ↑v.1.2.1.2.length).toNat tP.dflt).1 then (bif ieq (v.1.2.1.2.getD ((wr .i64 (x3 + 1)).tmod ↑v.1.2.1.2.length).toNat tP.dflt).2.1 (v.1.2.1.2.getD ((wr .i64 (x3 + 1)).tmod ↑v.1.2.1.2.length).toNat tP.dflt).2.1 then (bif ieq (v.1.2.1.2.getD x3.toNat tP.dflt).1 (v.1.2.1.2.getD x3.toNat tP.dflt).1 then (bif ieq (v.1.2.1.2.getD x3.toNat tP.dflt).2.1 (v.1.2.1.2.getD x3.toNat tP.dflt).2.1 then (bif ieq (v.1.2.1.2.getD x3.toNat tP.dflt).1 (v.1.2.1.2.getD x3.toNat tP.dflt).1 then (bif ieq (v.1.2.1.2.getD x3.toNat tP.dflt).2.1 (v.1.2.1.2.getD x3.toNat tP.dflt).2.1 then (bif ieq (v.1.2.1.2.getD x3.toNat tP.dflt).1 (v.1.2.1.2.getD x3.toNat tP.dflt).1 then (bif ieq (v.1.2.1.2.getD x3.toNat tP.dflt).2.1 (v.1.2.1.2.getD x3.toNat tP.dflt).2.1 then some (.stop (rowoI0 v x (wr .i64 (x3 + 1)) (x16) (bif ile x17 (wr .i64 (z2.tdiv z1)) then x17 else wr .i64 (z2.tdiv z1)) (x40))) else none) else none) else none) else none) else none) else none) else none) else none) else none) else none) else none) else none) else none) else none) else none) else none) else none) else none) else none) else none) else none)))) else (bif !ile 0 z1 then (bif ieq z4 0 then none else (bif ieq z4 0 then none else (bif !ile 0 (z2.tmod z4) then (bif ieq x16 x16 then (bif ieq x16 x16 then (bif ieq v.2.1.1 v.2.1.1 then (bif ieq v.2.1.2.1 v.2.1.2.1 then (bif ieq z5 z5 then (bif ieq (v.1.2.1.2.getD x3.toNat tP.dflt).2.1 (v.1.2.1.2.getD x3.toNat tP.dflt).2.1 then (bif ieq z1 z1 then (bif ieq z3 z3 then (bif ieq z1 z1 then (bif ieq z3 z3 then (bif ieq z1 z1 then (bif ieq z1 z1 then (bif ieq z1 z1 then (bif ieq (v.1.2.1.2.getD ((wr .i64 (x3 + 1)).tmod ↑v.1.2.1.2.length).toNat tP.dflt).1 (v.1.2.1.2.getD ((wr .i64 (x3 + 1)).tmod ↑v.1.2.1.2.length).toNat tP.dflt).1 then (bif ieq (v.1.2.1.2.getD ((wr .i64 (x3 + 1)).tmod ↑v.1.2.1.2.length).toNat tP.dflt).2.1 (v.1.2.1.2.getD ((wr .i64 (x3 + 1)).tmod ↑v.1.2.1.2.length).toNat tP.dflt).2.1 then (bif ieq (v.1.2.1.2.getD x3.toNat tP.dflt).1 (v.1.2.1.2.getD x3.toNat tP.dflt).1 then (bif ieq (v.1.2.1.2.getD x3.toNat tP.dflt).2.1 (v.1.2.1.2.getD x3.toNat tP.dflt).2.1 then (bif ieq (v.1.2.1.2.getD x3.toNat tP.dflt).1 (v.1.2.1.2.getD x3.toNat tP.dflt).1 then (bif ieq (v.1.2.1.2.getD x3.toNat tP.dflt).2.1 (v.1.2.1.2.getD x3.toNat tP.dflt).2.1 then (bif ieq (v.1.2.1.2.getD x3.toNat tP.dflt).1 (v.1.2.1.2.getD x3.toNat tP.dflt).1 then (bif ieq (v.1.2.1.2.getD x3.toNat tP.dflt).2.1 (v.1.2.1.2.getD x3.toNat tP.dflt).2.1 then some (.stop (rowoI0 v x (wr .i64 (x3 + 1)) (bif ile (wr .i64 (0 - wr .i64 (wr .i64 (z2.tdiv z4) - 1))) x16 then x16 else wr .i64 (0 - wr .i64 (wr .i64 (z2.tdiv z4) - 1))) (x17) (x40))) else none) else none) else none) else none) else none) else none) else none) else none) else none) else none) else none) else none) else none) else none) else none) else none) else none) else none) else none) else none) else none) else (bif ieq x16 x16 then (bif ieq x16 x16 then (bif ieq v.2.1.1 v.2.1.1 then (bif ieq v.2.1.2.1 v.2.1.2.1 then (bif ieq z5 z5 then (bif ieq (v.1.2.1.2.getD x3.toNat tP.dflt).2.1 (v.1.2.1.2.getD x3.toNat tP.dflt).2.1 then (bif ieq z1 z1 then (bif ieq z3 z3 then (bif ieq z1 z1 then (bif ieq z3 z3 then (bif ieq z1 z1 then (bif ieq z1 z1 then (bif ieq z1 z1 then (bif ieq (v.1.2.1.2.getD ((wr .i64 (x3 + 1)).tmod ↑v.1.2.1.2.length).toNat tP.dflt).1 (v.1.2.1.2.getD ((wr .i64 (x3 + 1)).tmod ↑v.1.2.1.2.length).toNat tP.dflt).1 then (bif ieq (v.1.2.1.2.getD ((wr .i64 (x3 + 1)).tmod ↑v.1.2.1.2.length).toNat tP.dflt).2.1 (v.1.2.1.2.getD ((wr .i64 (x3 + 1)).tmod ↑v.1.2.1.2.length).toNat tP.dflt).2.1 then (bif ieq (v.1.2.1.2.getD x3.toNat tP.dflt).1 (v.1.2.1.2.getD x3.toNat tP.dflt).1 then (bif ieq (v.1.2.1.2.getD x3.toNat tP.dflt).2.1 (v.1.2.1.2.getD x3.toNat tP.dflt).2.1 then (bif ieq (v.1.2.1.2.getD x3.toNat tP.dflt).1 (v.1.2.1.2.getD x3.toNat tP.dflt).1 then (bif ieq (v.1.2.1.2.getD x3.toNat tP.dflt).2.1 (v.1.2.1.2.getD x3.toNat tP.dflt).2.1 then (bif ieq (v.1.2.1.2.getD x3.toNat tP.dflt).1 (v.1.2.1.2.getD x3.toNat tP.dflt).1 then (bif ieq (v.1.2.1.2.getD x3.toNat tP.dflt).2.1 (v.1.2.1.2.getD x3.toNat tP.dflt).2.1 then some (.stop (rowoI0 v x (wr .i64 (x3 + 1)) (bif ile (wr .i64 (0 - wr .i64 (z2.tdiv z4))) x16 then x16 else wr .i64 (0 - wr .i64 (z2.tdiv z4))) (x17) (x40))) else none) else none) else none) else none) else none) else none) else none) else none) else none) else none) else none) else none) else none) else none) else none) else none) else none) else none) else none) else none) else none)))) else (bif !ile 0 z2 then (bif ieq v.2.1.1 v.2.1.1 then (bif ieq v.2.1.2.1 v.2.1.2.1 then (bif ieq z5 z5 then (bif ieq (v.1.2.1.2.getD x3.toNat tP.dflt).2.1 (v.1.2.1.2.getD x3.toNat tP.dflt).2.1 then (bif ieq z1 z1 then (bif ieq z3 z3 then (bif ieq z1 z1 then (bif ieq z3 z3 then (bif ieq z1 z1 then (bif ieq z1 z1 then (bif ieq z1 z1 then (bif ieq (v.1.2.1.2.getD ((wr .i64 (x3 + 1)).tmod ↑v.1.2.1.2.length).toNat tP.dflt).1 (v.1.2.1.2.getD ((wr .i64 (x3 + 1)).tmod ↑v.1.2.1.2.length).toNat tP.dflt).1 then (bif ieq (v.1.2.1.2.getD ((wr .i64 (x3 + 1)).tmod ↑v.1.2.1.2.length).toNat tP.dflt).2.1 (v.1.2.1.2.getD ((wr .i64 (x3 + 1)).tmod ↑v.1.2.1.2.length).toNat tP.dflt).2.1 then (bif ieq (v.1.2.1.2.getD x3.toNat tP.dflt).1 (v.1.2.1.2.getD x3.toNat tP.dflt).1 then (bif ieq (v.1.2.1.2.getD x3.toNat tP.dflt).2.1 (v.1.2.1.2.getD x3.toNat tP.dflt).2.1 then (bif ieq (v.1.2.1.2.getD x3.toNat tP.dflt).1 (v.1.2.1.2.getD x3.toNat tP.dflt).1 then (bif ieq (v.1.2.1.2.getD x3.toNat tP.dflt).2.1 (v.1.2.1.2.getD x3.toNat tP.dflt).2.1 then (bif ieq (v.1.2.1.2.getD x3.toNat tP.dflt).1 (v.1.2.1.2.getD x3.toNat tP.dflt).1 then (bif ieq (v.1.2.1.2.getD x3.toNat tP.dflt).2.1 (v.1.2.1.2.getD x3.toNat tP.dflt).2.1 then some (.stop (rowoI0 v x (wr .i64 (x3 + 1)) (x16) (wr .i64 (x16 - 1)) (x40))) else none) else none) else none) else none) else none) else none) else none) else none) else none) else none) else none) else none) else none) else none) else none) else none) else none) else none) else none) else (bif ieq v.2.1.1 v.2.1.1 then (bif ieq v.2.1.2.1 v.2.1.2.1 then (bif ieq z5 z5 then (bif ieq (v.1.2.1.2.getD x3.toNat tP.dflt).2.1 (v.1.2.1.2.getD x3.toNat tP.dflt).2.1 then (bif ieq z1 z1 then (bif ieq z3 z3 then (bif ieq z1 z1 then (bif ieq z3 z3 then (bif ieq z1 z1 then (bif ieq z1 z1 then (bif ieq z1 z1 then (bif ieq (v.1.2.1.2.getD ((wr .i64 (x3 + 1)).tmod ↑v.1.2.1.2.length).toNat tP.dflt).1 (v.1.2.1.2.getD ((wr .i64 (x3 + 1)).tmod ↑v.1.2.1.2.length).toNat tP.dflt).1 then (bif ieq (v.1.2.1.2.getD ((wr .i64 (x3 + 1)).tmod ↑v.1.2.1.2.length).toNat tP.dflt).2.1 (v.1.2.1.2.getD ((wr .i64 (x3 + 1)).tmod ↑v.1.2.1.2.length).toNat tP.dflt).2.1 then (bif ieq (v.1.2.1.2.getD x3.toNat tP.dflt).1 (v.1.2.1.2.getD x3.toNat tP.dflt).1 then (bif ieq (v.1.2.1.2.getD x3.toNat tP.dflt).2.1 (v.1.2.1.2.getD x3.toNat tP.dflt).2.1 then (bif ieq (v.1.2.1.2.getD x3.toNat tP.dflt).1 (v.1.2.1.2.getD x3.toNat tP.dflt).1 then (bif ieq (v.1.2.1.2.getD x3.toNat tP.dflt).2.1 (v.1.2.1.2.getD x3.toNat tP.dflt).2.1 then (bif ieq (v.1.2.1.2.getD x3.toNat tP.dflt).1 (v.1.2.1.2.getD x3.toNat tP.dflt).1 then (bif ieq (v.1.2.1.2.getD x3.toNat tP.dflt).2.1 (v.1.2.1.2.getD x3.toNat tP.dflt).2.1 then some (.stop (rowoI0 v x (wr .i64 (x3 + 1)) (x16) (x17) (x40))) else none) else none) else none) else none) else none) else none) else none) else none) else none) else none) else none) else none) else none) else none) else none) else none) else none) else none) else none)))) else none) else none) else none) else none) else none)) else none) else some (.done (.agg [(.int .i64 (x16)), (.int .i64 (x17))])))) := by kernel_rfl
noncomputable def liesI0 (s : tSand.den) (mv pt : tP.den) (x14 : Int) (x45 : Nat) : Cfg := ⟨.ex (pcOf F1 46 [0, 0, 1, 0, 1, 1]) ⟨(tmOf 42 [(0, (.agg [(.str (s.1)), (.vs tP (s.2.1.1) (s.2.1.2)), (.int .i64 (s.2.2.1.1.1)), (.int .i64 (s.2.2.1.1.2.1)), (.int .i64 (s.2.2.1.2.1.1)), (.int .i64 (s.2.2.1.2.1.2.1))])), (1, (.agg [(.int .i64 (mv.1)), (.int .i64 (mv.2.1))])), (2, (.agg [(.int .i64 (pt.1)), (.int .i64 (pt.2.1))])), (3, (.ptr 0 0)), (4, (.ptr 1 0)), (5, (.ptr 2 0)), (6, (.bool (false))), (7, (.vs tP (s.2.1.1) (s.2.1.2))), (8, (.int .i64 x14)), (10, (.ptr 0 1)), (11, (.vs tP (s.2.1.1) (s.2.1.2)))]), (hpOf 3 [(0, (.cells false [(.str (s.1)), (.vs tP (s.2.1.1) (s.2.1.2)), (.int .i64 (s.2.2.1.1.1)), (.int .i64 (s.2.2.1.1.2.1)), (.int .i64 (s.2.2.1.2.1.1)), (.int .i64 (s.2.2.1.2.1.2.1))])), (1, (.cells false [(.int .i64 (mv.1)), (.int .i64 (mv.2.1))])), (2, (.cells false [(.int .i64 (pt.1)), (.int .i64 (pt.2.1))]))]), [], [], 42, false⟩, ⟨6, []⟩, [(.lop (pcOf F1 46 [0, 0, 1, 0, 1, 1]) 3 (tmOf 42 [(0, (.agg [(.str (s.1)), (.vs tP (s.2.1.1) (s.2.1.2)), (.int .i64 (s.2.2.1.1.1)), (.int .i64 (s.2.2.1.1.2.1)), (.int .i64 (s.2.2.1.2.1.1)), (.int .i64 (s.2.2.1.2.1.2.1))])), (1, (.agg [(.int .i64 (mv.1)), (.int .i64 (mv.2.1))])), (2, (.agg [(.int .i64 (pt.1)), (.int .i64 (pt.2.1))])), (3, (.ptr 0 0)), (4, (.ptr 1 0)), (5, (.ptr 2 0)), (6, (.bool (false))), (7, (.vs tP (s.2.1.1) (s.2.1.2))), (8, (.int .i64 (0))), (10, (.ptr 0 1)), (11, (.vs tP (s.2.1.1) (s.2.1.2)))]) x45), (.blk 0), (.seq (pcOf F1 46 [1, 1, 1])), (.cal [(.tmp 6)] .top)]⟩
theorem lies_start (s : tSand.den) (mv pt : tP.den) : adv F1 (Z1 [46]) 3000 (startC F1 46 [tSand.av s, tP.av mv, tP.av pt] 6) = some (.stop (liesI0 s mv pt (0) (1048575))) := by kernel_rfl
theorem lies_step0 (s : tSand.den) (mv pt : tP.den) (x14 : Int) (x45 : Nat) : adv F1 (Z1 [46]) 3000 (liesI0 s mv pt x14 (x45 + 1)) = (bif !ile (↑s.2.1.2.length) x14 then (bif ieq (↑s.2.1.2.length) 0 then none else (bif inB ((wr .i64 (x14 + 1)).tmod ↑s.2.1.2.length) s.2.1.2.length then (bif inB x14 s.2.1.2.length then (bif inB x14 s.2.1.2.length then (bif ieq mv.1 mv.1 then (bif ieq mv.2.1 mv.2.1 then (bif ieq mv.1 mv.1 then (bif ieq mv.2.1 mv.2.1 then (bif ieq pt.1 pt.1 then (bif ieq pt.2.1 pt.2.1 then (bif ieq pt.1 pt.1 then (bif ieq pt.2.1 pt.2.1 then (bif !ile 0 (wr .i64 (wr .i64 (wr .i64 ((s.2.1.2.getD ((wr .i64 (x14 + 1)).tmod ↑s.2.1.2.length).toNat tP.dflt).1 - (s.2.1.2.getD x14.toNat tP.dflt).1) * wr .i64 (wr .i64 (pt.2.1 - mv.2.1) - (s.2.1.2.getD x14.toNat tP.dflt).2.1)) - wr .i64 (wr .i64 ((s.2.1.2.getD ((wr .i64 (x14 + 1)).tmod ↑s.2.1.2.length).toNat tP.dflt).2.1 - (s.2.1.2.getD x14.toNat tP.dflt).2.1) * wr .i64 (wr .i64 (pt.1 - mv.1) - (s.2.1.2.getD x14.toNat tP.dflt).1)))) then some (.done (.bool (false))) else some (.stop (liesI0 s mv pt (wr .i64 (x14 + 1)) (x45)))) else none) else none) else none) else none) else none) else none) else none) else none) else none) else none) else none)) else some (.done (.bool (true)))) := by kernel_rfl
theorem tdiv_floor {a b : Int} (hb : 0 < b) : (a.tmod b < 0 → a.tdiv b - 1 = a / b) ∧ (¬ a.tmod b < 0 → a.tdiv b = a / b) := by
 by_cases ha : 0 ≤ a
 · have h1 : a.tdiv b = a / b := Int.tdiv_eq_ediv_of_nonneg ha
   have h2 : a.tmod b = a % b := Int.tmod_eq_emod_of_nonneg ha
   have h3 := Int.emod_nonneg a (show b ≠ 0 by omega)
   exact ⟨fun h => by omega, fun _ => h1⟩
 · obtain ⟨m, rfl⟩ : ∃ m : Int, a = -m := ⟨-a, by omega⟩
   have h1 : (-m).tdiv b = -(m / b) := by rw [Int.neg_tdiv, Int.tdiv_eq_ediv_of_nonneg (by omega)]
   have h2 : (-m).tmod b = -(m % b) := by rw [Int.neg_tmod, Int.tmod_eq_emod_of_nonneg (by omega)]
   have h3 := Int.emod_nonneg m (show b ≠ 0 by omega)
   have h4 := Int.emod_lt_of_pos m hb
   have h5 := Int.mul_ediv_add_emod m b
   rw [h1, h2]
   constructor
   · intro h
     have := ((Int.ediv_emod_unique hb (a := -m) (q := -(m / b) - 1) (r := b - m % b)).2 ⟨by rw [Int.mul_sub, Int.mul_neg, Int.mul_one]; omega, by omega, by omega⟩).1
     exact this.symm
   · intro h
     have := ((Int.ediv_emod_unique hb (a := -m) (q := -(m / b)) (r := 0)).2 ⟨by rw [Int.mul_neg]; omega, by omega, by omega⟩).1
     exact this.symm
noncomputable def cutF (lo hi a l : Int) : Int × Int := bif !ile a 0 then (lo, bif ile hi (l / a) then hi else l / a) else (bif !ile 0 a then (bif ile (-(l / (-a))) lo then lo else -(l / (-a)), hi) else (bif !ile 0 l then (lo, lo - 1) else (lo, hi)))
noncomputable def gx (C : List tP.den) (k : Nat) : Int := (C.getD k tP.dflt).1
noncomputable def gy (C : List tP.den) (k : Nat) : Int := (C.getD k tP.dflt).2.1
noncomputable def sA (C : List tP.den) (k : Nat) : Int := gx C ((k + 1) % C.length) - gx C k
noncomputable def sB (C : List tP.den) (k : Nat) : Int := gy C ((k + 1) % C.length) - gy C k
noncomputable def sL (C : List tP.den) (k : Nat) (dx dy : Int) : Int := sA C k * (dy - gy C k) - sB C k * (dx - gx C k)
noncomputable def rowsF (C : List tP.den) (fx fy x : Int) : Int → Int → Nat → Nat → Int × Int
 | lo, hi, _, 0 => (lo, hi)
 | lo, hi, k, r + 1 => rowsF C fx fy x (cutF lo hi (sA C k) (sL C k (fx - x) fy)).1 (cutF lo hi (sA C k) (sL C k (fx - x) fy)).2 (k + 1) r
noncomputable def agg2 (r : Int × Int) : AV := .agg [.int .i64 r.1, .int .i64 r.2]
def inC (C : List tP.den) : Prop := ∀ k, k < C.length → (-10000 ≤ gx C k ∧ gx C k ≤ 10000) ∧ -10000 ≤ gy C k ∧ gy C k ≤ 10000
theorem div_b {l a : Int} (ha : 0 < a) (h1 : -1200000000 ≤ l) (h2 : l ≤ 1200000000) : -1200000000 ≤ l / a ∧ l / a ≤ 1200000000 := by
 constructor
 · rw [Int.le_ediv_iff_mul_le ha]; omega
 · have : l / a < 1200000001 := by rw [Int.ediv_lt_iff_lt_mul ha]; omega
   omega
theorem cut_b {lo hi a l : Int} (h1 : -1200000000 ≤ l) (h2 : l ≤ 1200000000) (h3 : -1000 ≤ lo ∧ lo ≤ 1200000000) (h4 : -1200000001 ≤ hi ∧ hi ≤ 1200000000) : (-1000 ≤ (cutF lo hi a l).1 ∧ (cutF lo hi a l).1 ≤ 1200000000) ∧ -1200000001 ≤ (cutF lo hi a l).2 ∧ (cutF lo hi a l).2 ≤ 1200000000 := by
 unfold cutF
 cases e1 : ile a 0 with
 | false =>
  rw [ile_iff] at e1
  simp only [decide_eq_false_iff_not] at e1
  have := div_b (l := l) (a := a) (by omega) h1 h2
  simp only [Bool.not_false, cond_true]
  cases e2 : ile hi (l / a) <;> (rw [ile_iff] at e2; simp at e2; simp only [cond_true, cond_false]; omega)
 | true =>
  simp only [Bool.not_true, cond_false]
  cases e2 : ile 0 a with
  | false =>
   rw [ile_iff] at e2
   simp only [decide_eq_false_iff_not] at e2
   have := div_b (l := l) (a := -a) (by omega) h1 h2
   simp only [Bool.not_false, cond_true]
   cases e3 : ile (-(l / -a)) lo <;> (rw [ile_iff] at e3; simp only [decide_eq_true_eq, decide_eq_false_iff_not] at e3; simp only [cond_true, cond_false]; omega)
  | true =>
   simp only [Bool.not_true, cond_false]
   cases e3 : ile 0 l <;> simp only [Bool.not_true, Bool.not_false, cond_true, cond_false] <;> omega
theorem side_b {C : List tP.den} (hC : inC C) {k : Nat} (hk : k < C.length) {dx dy : Int} (hx : -20000 ≤ dx ∧ dx ≤ 20000) (hy : -20000 ≤ dy ∧ dy ≤ 20000) : ((-20000 ≤ sA C k ∧ sA C k ≤ 20000) ∧ -20000 ≤ sB C k ∧ sB C k ≤ 20000) ∧
  (-600000000 ≤ sA C k * (dy - gy C k) ∧ sA C k * (dy - gy C k) ≤ 600000000) ∧ -600000000 ≤ sB C k * (dx - gx C k) ∧ sB C k * (dx - gx C k) ≤ 600000000 := by
 have h1 := hC k hk
 have h2 := hC ((k + 1) % C.length) (Nat.mod_lt _ (by omega))
 have a : (-20000 ≤ sA C k ∧ sA C k ≤ 20000) ∧ -20000 ≤ sB C k ∧ sB C k ≤ 20000 := by unfold sA sB; omega
 have p := mul_b (a := sA C k) (b := dy - gy C k) (m := 20000) (n := 30000) (by omega) (by omega) (by omega) (by omega)
 have q := mul_b (a := sB C k) (b := dx - gx C k) (m := 20000) (n := 30000) (by omega) (by omega) (by omega) (by omega)
 exact ⟨a, by omega, by omega⟩
theorem nxt_at {k n : Nat} : ((k + 1 : Nat) : Int).tmod (n : Int) = (((k + 1) % n : Nat) : Int) := by
 rw [Int.tmod_eq_emod_of_nonneg (by omega)]; rfl
theorem nat_to (k : Nat) : (k : Int).toNat = k := Int.toNat_natCast k
theorem rowo_ans (v : tView.den) (x fx fy : Int) (C : List tP.den) (hC : v.1.2.1.2 = C) (hfx : v.2.1.1 = fx) (hfy : v.2.1.2.1 = fy) (hi8 : C.length < 1000) (hin : inC C) (bx : -500 ≤ x ∧ x ≤ 500) (bfx : -10000 ≤ fx ∧ fx ≤ 10000) (bfy : -10000 ≤ fy ∧ fy ≤ 10000) :
  ∀ (r k m : Nat) (lo hi : Int), k + r = C.length → r < m → (-1000 ≤ lo ∧ lo ≤ 1200000000) → (-1200000001 ≤ hi ∧ hi ≤ 1200000000) → Ans F1 (rowoI0 v x k lo hi m) (agg2 (rowsF C fx fy x lo hi k r))
 | 0, k, m + 1, lo, hi, hk, hm, bl, bh => by
  have h := rowo_step0 v x k lo hi m
  simp only [hC, Int.ofNat_eq_natCast, ile_ge (show C.length ≤ k by omega), Bool.not_true, cond_false] at h
  exact .done (Z1_ok _) F1sy h rfl
 | r + 1, k, m + 1, lo, hi, hk, hm, bl, bh => by
  have h := rowo_step0 v x k lo hi m
  have hlt : k < C.length := by omega
  have hq : (k + 1) % C.length < C.length := Nat.mod_lt _ (by omega)
  have hne : ieq (C.length : Int) 0 = false := by rw [ieq_iff]; exact decide_eq_false (by omega)
  have s := side_b hin hlt (dx := fx - x) (dy := fy) (by omega) (by omega)
  have hb1 := hin k hlt
  have hb2 := hin _ hq
  rw [rowsF]
  generalize hL : sL C k (fx - x) fy = L
  generalize hA : sA C k = A
  have hAe : gx C ((k + 1) % C.length) - gx C k = A := hA
  have hLe : A * (fy - gy C k) - sB C k * (fx - x - gx C k) = L := by rw [← hA]; exact hL
  have hBe : gy C ((k + 1) % C.length) - gy C k = sB C k := rfl
  rw [hA] at s
  simp only [hC, hfx, hfy, Int.ofNat_eq_natCast, ile_lt hlt, inB_at hlt, nxt_at, inB_at hq, hne, nat_to, ieq_self, bbeq_self, vsB_self, wr_succ (show k < 1048577 by omega), Bool.not_false, cond_true, cond_false] at h
  have f1 : ∀ j, (C.getD j tP.dflt).1 = gx C j := fun j => rfl
  have f2 : ∀ j, (C.getD j tP.dflt).2.1 = gy C j := fun j => rfl
  simp only [f1, f2] at h
  have w1 : wr .i64 (gx C ((k + 1) % C.length) - gx C k) = A := by rw [wr_in (by omega) (by omega)]; exact hAe
  have w2 : wr .i64 (gy C ((k + 1) % C.length) - gy C k) = sB C k := by rw [wr_in (by omega) (by omega)]; rfl
  have w3 : wr .i64 (gx C k + x) = gx C k + x := wr_in (by omega) (by omega)
  have w4 : wr .i64 (fx - (gx C k + x)) = fx - x - gx C k := by rw [wr_in (by omega) (by omega)]; omega
  have w5 : wr .i64 (fy - gy C k) = fy - gy C k := wr_in (by omega) (by omega)
  have w6 : wr .i64 (A * (fy - gy C k)) = A * (fy - gy C k) := wr_in (by omega) (by omega)
  have w7 : wr .i64 (sB C k * (fx - x - gx C k)) = sB C k * (fx - x - gx C k) := wr_in (by omega) (by omega)
  have w8 : wr .i64 (A * (fy - gy C k) - sB C k * (fx - x - gx C k)) = L := by rw [wr_in (by omega) (by omega)]; exact hLe
  have w9 : wr .i64 (0 - A) = -A := by rw [wr_in (by omega) (by omega)]; omega
  simp only [w1, w2, w3, w4, w5, w6, w7, w8, w9] at h
  have bL : -1200000000 ≤ L ∧ L ≤ 1200000000 := by omega
  have cb := cut_b (a := A) bL.1 bL.2 bl bh
  have ih := rowo_ans v x fx fy C hC hfx hfy hi8 hin bx bfx bfy r (k + 1) m (cutF lo hi A L).1 (cutF lo hi A L).2 (by omega) (by omega) cb.1 cb.2
  refine .stop (Z1_ok [106, 131]) F1sy (n := 3000) ?_ ih
  rw [h]
  clear h ih cb
  unfold cutF
  cases e1 : ile A 0 with
  | false =>
   rw [ile_iff] at e1
   simp only [decide_eq_false_iff_not] at e1
   have ha : 0 < A := by omega
   have z1 : ieq A 0 = false := by rw [ieq_iff]; simp; omega
   have db := div_b ha bL.1 bL.2
   obtain ⟨t1, t2⟩ := tdiv_floor (a := L) ha
   simp only [z1, Bool.not_false, cond_true, cond_false]
   cases e2 : ile 0 (L.tmod A) with
   | false =>
    rw [ile_iff] at e2
    simp only [decide_eq_false_iff_not] at e2
    have t := t1 (by omega)
    have w : wr .i64 (wr .i64 (L.tdiv A) - 1) = L / A := by rw [wr_in (n := L.tdiv A) (by omega) (by omega), wr_in (by omega) (by omega)]; exact t
    simp only [w, Bool.not_false, cond_true]
   | true =>
    rw [ile_iff] at e2
    simp only [decide_eq_true_eq] at e2
    have t := t2 (by omega)
    have w : wr .i64 (L.tdiv A) = L / A := by rw [wr_in (by omega) (by omega)]; exact t
    simp only [w, Bool.not_true, cond_false]
  | true =>
   simp only [Bool.not_true, cond_false]
   cases e3 : ile 0 A with
   | false =>
    rw [ile_iff] at e3
    simp only [decide_eq_false_iff_not] at e3
    have ha : 0 < -A := by omega
    have z1 : ieq (-A) 0 = false := by rw [ieq_iff]; simp; omega
    have db := div_b ha bL.1 bL.2
    obtain ⟨t1, t2⟩ := tdiv_floor (a := L) ha
    simp only [z1, Bool.not_false, cond_true, cond_false]
    cases e2 : ile 0 (L.tmod (-A)) with
    | false =>
     rw [ile_iff] at e2
     simp only [decide_eq_false_iff_not] at e2
     have t := t1 (by omega)
     have w : wr .i64 (wr .i64 (L.tdiv (-A)) - 1) = L / (-A) := by rw [wr_in (n := L.tdiv (-A)) (by omega) (by omega), wr_in (by omega) (by omega)]; exact t
     have w' : wr .i64 (0 - L / (-A)) = -(L / (-A)) := by rw [wr_in (by omega) (by omega)]; omega
     simp only [w, w', Bool.not_false, cond_true]
    | true =>
     rw [ile_iff] at e2
     simp only [decide_eq_true_eq] at e2
     have t := t2 (by omega)
     have w : wr .i64 (L.tdiv (-A)) = L / (-A) := by rw [wr_in (by omega) (by omega)]; exact t
     have w' : wr .i64 (0 - L / (-A)) = -(L / (-A)) := by rw [wr_in (by omega) (by omega)]; omega
     simp only [w, w', Bool.not_true, cond_false]
   | true =>
    simp only [Bool.not_true, cond_false]
    have w : wr .i64 (lo - 1) = lo - 1 := wr_in (by omega) (by omega)
    cases e2 : ile 0 L <;> simp only [w, Bool.not_true, Bool.not_false, cond_true, cond_false]
noncomputable def cOK (C : List tP.den) : Bool := Nat.ble C.length 100 && C.all inP
theorem cOK_in {C : List tP.den} (h : cOK C = true) : C.length ≤ 100 ∧ inC C := by
 unfold cOK at h
 rw [Bool.and_eq_true] at h
 refine ⟨Nat.le_of_ble_eq_true h.1, fun k hk => ?_⟩
 have hm := List.all_eq_true.1 h.2 (C.getD k tP.dflt) (by simp [hk])
 have hm : inP (C.getD k tP.dflt) = true := hm
 simp only [inP, Bool.and_eq_true, ile_iff, decide_eq_true_eq] at hm
 show (-10000 ≤ (C.getD k tP.dflt).1 ∧ (C.getD k tP.dflt).1 ≤ 10000) ∧ -10000 ≤ (C.getD k tP.dflt).2.1 ∧ (C.getD k tP.dflt).2.1 ≤ 10000
 exact ⟨⟨hm.1.1.1, hm.1.1.2⟩, hm.1.2, hm.2⟩
noncomputable def in5 (x : Int) : Bool := ile (-500) x && ile x 500
theorem in5_iff {x : Int} : in5 x = true ↔ -500 ≤ x ∧ x ≤ 500 := by simp only [in5, Bool.and_eq_true, ile_iff, decide_eq_true_eq]
noncomputable def in10 (x : Int) : Bool := ile (-10000) x && ile x 10000
theorem in10_iff {x : Int} : in10 x = true ↔ -10000 ≤ x ∧ x ≤ 10000 := by simp only [in10, Bool.and_eq_true, ile_iff, decide_eq_true_eq]
theorem rowo_call (v : tView.den) (x : Int) (hC : cOK v.1.2.1.2 = true) (hx : in5 x = true) (h1 : in10 v.2.1.1 = true) (h2 : in10 v.2.1.2.1 = true) (h3 : in5 v.1.2.2.1.2.1.1 = true) (h4 : in5 v.1.2.2.1.2.1.2.1 = true) :
  AnsF F1 106 [tView.av v, .int .i64 x] (agg2 (rowsF v.1.2.1.2 v.2.1.1 v.2.1.2.1 x v.1.2.2.1.2.1.1 v.1.2.2.1.2.1.2.1 0 v.1.2.1.2.length)) := by
 obtain ⟨a, b⟩ := cOK_in hC
 rw [in5_iff] at hx
 refine Ans.call (n := 10) (ext_none (by kernel_rfl)) (hasB_spec (by kernel_rfl)) (.stop (Z1_ok _) F1sy (rowo_start v x) ?_)
 obtain ⟨fx, hfx⟩ : ∃ y : Int, v.2.1.1 = y := ⟨_, rfl⟩
 obtain ⟨fy, hfy⟩ : ∃ y : Int, v.2.1.2.1 = y := ⟨_, rfl⟩
 obtain ⟨lo, hlo⟩ : ∃ y : Int, v.1.2.2.1.2.1.1 = y := ⟨_, rfl⟩
 obtain ⟨hi, hhi⟩ : ∃ y : Int, v.1.2.2.1.2.1.2.1 = y := ⟨_, rfl⟩
 rw [hfx, in10_iff] at h1; rw [hfy, in10_iff] at h2; rw [hlo, in5_iff] at h3; rw [hhi, in5_iff] at h4
 rw [hfx, hfy, hlo, hhi]
 exact rowo_ans v x fx fy _ rfl hfx hfy (by omega) b hx h1 h2 _ 0 1048575 lo hi (by omega) (by omega) (by omega) (by omega)
noncomputable def liesF (C : List tP.den) (dx dy : Int) : Nat → Nat → Bool
 | _, 0 => true
 | k, r + 1 => bif ile 0 (sL C k dx dy) then liesF C dx dy (k + 1) r else false
theorem lies_ans (s : tSand.den) (mv pt : tP.den) (mx my px py : Int) (C : List tP.den) (hC : s.2.1.2 = C) (h1 : mv.1 = mx) (h2 : mv.2.1 = my) (h3 : pt.1 = px) (h4 : pt.2.1 = py) (hi8 : C.length < 1000) (hin : inC C) (b1 : -500 ≤ mx ∧ mx ≤ 500) (b2 : -500 ≤ my ∧ my ≤ 500) (b3 : -10000 ≤ px ∧ px ≤ 10000) (b4 : -10000 ≤ py ∧ py ≤ 10000) :
  ∀ (r k m : Nat), k + r = C.length → r < m → Ans F1 (liesI0 s mv pt k m) (.bool (liesF C (px - mx) (py - my) k r))
 | 0, k, m + 1, hk, hm => by
  have h := lies_step0 s mv pt k m
  simp only [hC, ile_ge (show C.length ≤ k by omega), Bool.not_true, cond_false] at h
  exact .doneB (Z1_ok _) F1sy h rfl
 | r + 1, k, m + 1, hk, hm => by
  have h := lies_step0 s mv pt k m
  have hlt : k < C.length := by omega
  have hq : (k + 1) % C.length < C.length := Nat.mod_lt _ (by omega)
  have hne : ieq (C.length : Int) 0 = false := by rw [ieq_iff]; exact decide_eq_false (by omega)
  have s := side_b hin hlt (dx := px - mx) (dy := py - my) (by omega) (by omega)
  have hb1 := hin k hlt
  have hb2 := hin _ hq
  rw [liesF]
  generalize hL : sL C k (px - mx) (py - my) = L
  generalize hA : sA C k = A at s
  have hAe : gx C ((k + 1) % C.length) - gx C k = A := hA
  have hLe : A * (py - my - gy C k) - sB C k * (px - mx - gx C k) = L := by rw [← hA]; exact hL
  have hBe : gy C ((k + 1) % C.length) - gy C k = sB C k := rfl
  simp only [hC, h1, h2, h3, h4, ile_lt hlt, inB_at hlt, nxt_at, inB_at hq, hne, nat_to, ieq_self, bbeq_self, vsB_self, wr_succ (show k < 1048577 by omega), Bool.not_false, cond_true, cond_false] at h
  have f1 : ∀ j, (C.getD j tP.dflt).1 = gx C j := fun j => rfl
  have f2 : ∀ j, (C.getD j tP.dflt).2.1 = gy C j := fun j => rfl
  simp only [f1, f2] at h
  have w1 : wr .i64 (gx C ((k + 1) % C.length) - gx C k) = A := by rw [wr_in (by omega) (by omega)]; exact hAe
  have w2 : wr .i64 (gy C ((k + 1) % C.length) - gy C k) = sB C k := by rw [wr_in (by omega) (by omega)]; rfl
  have w3 : wr .i64 (px - mx) = px - mx := wr_in (by omega) (by omega)
  have w3' : wr .i64 (py - my) = py - my := wr_in (by omega) (by omega)
  have w4 : wr .i64 (px - mx - gx C k) = px - mx - gx C k := wr_in (by omega) (by omega)
  have w5 : wr .i64 (py - my - gy C k) = py - my - gy C k := wr_in (by omega) (by omega)
  have w6 : wr .i64 (A * (py - my - gy C k)) = A * (py - my - gy C k) := wr_in (by omega) (by omega)
  have w7 : wr .i64 (sB C k * (px - mx - gx C k)) = sB C k * (px - mx - gx C k) := wr_in (by omega) (by omega)
  have w8 : wr .i64 (A * (py - my - gy C k) - sB C k * (px - mx - gx C k)) = L := by rw [wr_in (by omega) (by omega)]; exact hLe
  simp only [w1, w2, w3, w3', w4, w5, w6, w7, w8] at h
  cases e : ile 0 L with
  | true =>
   simp only [e, Bool.not_true, cond_true, cond_false] at h ⊢
   exact .stop (Z1_ok _) F1sy h (lies_ans _ mv pt mx my px py C hC h1 h2 h3 h4 hi8 hin b1 b2 b3 b4 r (k + 1) m (by omega) (by omega))
  | false =>
   simp only [e, Bool.not_false, cond_true, cond_false] at h ⊢
   exact .doneB (Z1_ok _) F1sy h rfl
theorem lies_call (s : tSand.den) (mv pt : tP.den) (hC : cOK s.2.1.2 = true) (h1 : in5 mv.1 = true) (h2 : in5 mv.2.1 = true) (h3 : in10 pt.1 = true) (h4 : in10 pt.2.1 = true) :
  AnsF F1 46 [tSand.av s, tP.av mv, tP.av pt] (.bool (liesF s.2.1.2 (pt.1 - mv.1) (pt.2.1 - mv.2.1) 0 s.2.1.2.length)) := by
 obtain ⟨a, b⟩ := cOK_in hC
 refine Ans.call (n := 6) (ext_none (by kernel_rfl)) (hasB_spec (by kernel_rfl)) (.stop (Z1_ok _) F1sy (lies_start s mv pt) ?_)
 exact lies_ans s mv pt mv.1 mv.2.1 pt.1 pt.2.1 _ rfl rfl rfl rfl rfl (by omega) b (in5_iff.1 h1) (in5_iff.1 h2) (in10_iff.1 h3) (in10_iff.1 h4) _ 0 1048575 (by omega) (by omega)
end Go.Proofs.YtffnpkbopjjdaaaGreatDoor


set_option maxRecDepth 100000
namespace Go.Proofs.YtffnpkbopjjdaaaGreatDoor
open Go Go.Eng
noncomputable def rowX : List AV → Option (Bool × AV) := con2 tView tI (fun v x => cOK v.1.2.1.2 && in5 x && in10 v.2.1.1 && in10 v.2.1.2.1 && in5 v.1.2.2.1.2.1.1 && in5 v.1.2.2.1.2.1.2.1) (fun v x => agg2 (rowsF v.1.2.1.2 v.2.1.1 v.2.1.2.1 x v.1.2.2.1.2.1.1 v.1.2.2.1.2.1.2.1 0 v.1.2.1.2.length))
noncomputable def lieX : List AV → Option (Bool × AV) := con3 tSand tP tP (fun s mv pt => cOK s.2.1.2 && in5 mv.1 && in5 mv.2.1 && in10 pt.1 && in10 pt.2.1) (fun s mv pt => .bool (liesF s.2.1.2 (pt.1 - mv.1) (pt.2.1 - mv.2.1) 0 s.2.1.2.length))
noncomputable def movX : List AV → Option (Bool × AV) := con1 tBox (fun b => bK b.1.1 b.1.2.1 b.2.1.1 b.2.1.2.1) (fun b => .vs tP false (pts b.1.1 b.1.2.1 b.2.1.1 b.2.1.2.1))
noncomputable def LH : List Said := [(106, rowX), (46, lieX), (72, movX)]
theorem LH_ok : ∀ e ∈ LH, SaidG Tryz.prog F1.glob e :=
 saids_cons (SaidOK.g f1 xf1 nf1 tabs_ok.mix (fun _ _ h => con2_spec (t := tView) (u := tI) (fun v x hc => by
  simp only [Bool.and_eq_true] at hc
  exact rowo_call v x hc.1.1.1.1.1 hc.1.1.1.1.2 hc.1.1.1.2 hc.1.1.2 hc.1.2 hc.2) h) rfl)
 (saids_cons (SaidOK.g f1 xf1 nf1 tabs_ok.mix (fun _ _ h => con3_spec (t := tSand) (u := tP) (w := tP) (fun s mv pt hc => by
  simp only [Bool.and_eq_true] at hc
  exact lies_call s mv pt hc.1.1.1.1 hc.1.1.1.2 hc.1.1.2 hc.1.2 hc.2) h) rfl)
 (saids_cons (SaidOK.g f1 xf1 nf1 tabs_ok.mix (fun _ _ h => con1_spec (t := tBox) (fun b hb => movs_call b hb) h) rfl) saids_nil))
noncomputable def H1 : Env := F1.say (under (xOf LH))
theorem h1 : EnvOK Tryz.prog H1 := f1.say _
theorem nh1 : NameOK H1 := nf1.say _
theorem xh1 : ExtOK Tryz.prog H1 := xf1.sayL LH_ok
theorem H1sy : H1.sy = true := rfl
noncomputable def Y1 (l : List Nat) : Sy := (Z1 []).on LH l
theorem Y1_ok (l : List Nat) : (Y1 l).ok H1 := Sy.on_ok (Z1_ok _)
end Go.Proofs.YtffnpkbopjjdaaaGreatDoor


set_option maxRecDepth 100000
namespace Go.Proofs.YtffnpkbopjjdaaaGreatDoor
open Go Go.Eng
noncomputable def cntI (r : Int × Int) : Int := bif ile (r.2 - r.1 + 1) 0 then 0 else r.2 - r.1 + 1
noncomputable def mvF (C : List tP.den) (fx fy lo hi : Int) : Int → Nat → Int
 | _, 0 => 0
 | x, r + 1 => cntI (rowsF C fx fy x lo hi 0 C.length) + mvF C fx fy lo hi (x + 1) r
noncomputable def mvC (v : tView.den) : Bool := cOK v.1.2.1.2 && in10 v.2.1.1 && in10 v.2.1.2.1 && in5 v.1.2.2.1.1.1 && in5 v.1.2.2.1.1.2.1 && in5 v.1.2.2.1.2.1.1 && in5 v.1.2.2.1.2.1.2.1 && ile v.1.2.2.1.1.1 v.1.2.2.1.1.2.1 && ile v.1.2.2.1.2.1.1 v.1.2.2.1.2.1.2.1
noncomputable def mvS (C : List tP.den) (fx fy x0 x1 y0 y1 : Int) : Int := mvF C fx fy y0 y1 x0 (x1 - x0 + 1).toNat
noncomputable def LI : List Said := [(69, con1 tView mvC (fun v => .int .i64 (mvS v.1.2.1.2 v.2.1.1 v.2.1.2.1 v.1.2.2.1.1.1 v.1.2.2.1.1.2.1 v.1.2.2.1.2.1.1 v.1.2.2.1.2.1.2.1)))]
noncomputable def H2 : Env := H1.say (under (xOf LI))
theorem h2 : EnvOK Tryz.prog H2 := h1.say _
end Go.Proofs.YtffnpkbopjjdaaaGreatDoor


set_option maxRecDepth 100000
namespace Go.Proofs.YtffnpkbopjjdaaaGreatDoor
open Go Go.Eng
theorem isnr_start (ax ay vx vy r : Int) : adv H1 (Y1 []) 3000 (startC H1 133 [.agg [.int .i64 ax, .int .i64 ay], .agg [.int .i64 vx, .int .i64 vy], .int .i64 r] 6) = (bif ile (wr .i64 (wr .i64 (ax * vx) + wr .i64 (ay * vy))) 0 then some (.done (.bool (!ile (wr .i64 (r * r)) (wr .i64 (wr .i64 (vx * vx) + wr .i64 (vy * vy)))))) else (bif ile (wr .i64 (wr .i64 (ax * ax) + wr .i64 (ay * ay))) (wr .i64 (wr .i64 (ax * vx) + wr .i64 (ay * vy))) then some (.done (.bool (!ile (wr .i64 (r * r)) (wr .i64 (wr .i64 (wr .i64 (vx - ax) * wr .i64 (vx - ax)) + wr .i64 (wr .i64 (vy - ay) * wr .i64 (vy - ay))))))) else some (.done (.bool (!ile (wr .i64 (wr .i64 (r * r) * wr .i64 (wr .i64 (ax * ax) + wr .i64 (ay * ay)))) (wr .i64 (wr .i64 (wr .i64 (ax * vy) - wr .i64 (ay * vx)) * wr .i64 (wr .i64 (ax * vy) - wr .i64 (ay * vx))))))))) := by kernel_rfl
theorem rnea_start (ax ay bx by' px py r : Int) : adv H1 (Y1 []) 3000 (startC H1 99 [.agg [.int .i64 ax, .int .i64 ay], .agg [.int .i64 bx, .int .i64 by'], .agg [.int .i64 px, .int .i64 py], .int .i64 r] 6) = (let z1 := (wr .i64 (wr .i64 (wr .i64 (bx - ax) * wr .i64 (px - ax)) + wr .i64 (wr .i64 (by' - ay) * wr .i64 (py - ay)))); let z2 := (wr .i64 (wr .i64 (bx - ax) * wr .i64 (bx - ax)) + wr .i64 (wr .i64 (by' - ay) * wr .i64 (by' - ay))); let z3 := (wr .i64 (wr .i64 (bx - ax) * wr .i64 (py - ay)) - wr .i64 (wr .i64 (by' - ay) * wr .i64 (px - ax))); (bif ieq ax ax then (bif ieq ay ay then (bif ieq ax ax then (bif ieq ay ay then (bif ieq px px then (bif ieq py py then (bif ieq px px then (bif ieq py py then (bif ieq ax ax then (bif ieq ay ay then (bif ieq bx bx then (bif ieq by' by' then (bif ile z1 0 then some (.done (.bool (!ile (wr .i64 (r * r)) (wr .i64 (wr .i64 (wr .i64 (px - ax) * wr .i64 (px - ax)) + wr .i64 (wr .i64 (py - ay) * wr .i64 (py - ay))))))) else (bif ile (wr .i64 z2) z1 then some (.done (.bool (!ile (wr .i64 (r * r)) (wr .i64 (wr .i64 (wr .i64 (px - bx) * wr .i64 (px - bx)) + wr .i64 (wr .i64 (py - by') * wr .i64 (py - by'))))))) else some (.done (.bool (!ile (wr .i64 (wr .i64 (r * r) * wr .i64 z2)) (wr .i64 (wr .i64 z3 * wr .i64 z3))))))) else none) else none) else none) else none) else none) else none) else none) else none) else none) else none) else none) else none)) := by kernel_rfl
noncomputable def nearI (ax ay vx vy r : Int) : Bool := bif ile (ax * vx + ay * vy) 0 then !ile (r * r) (vx * vx + vy * vy) else (bif ile (ax * ax + ay * ay) (ax * vx + ay * vy) then !ile (r * r) ((vx - ax) * (vx - ax) + (vy - ay) * (vy - ay)) else !ile (r * r * (ax * ax + ay * ay)) ((ax * vy - ay * vx) * (ax * vy - ay * vx)))
noncomputable def in2 (x : Int) : Bool := ile (-21000) x && ile x 21000
theorem in2_iff {x : Int} : in2 x = true ↔ -21000 ≤ x ∧ x ≤ 21000 := by simp only [in2, Bool.and_eq_true, ile_iff, decide_eq_true_eq]
noncomputable def inr (r : Int) : Bool := ile 0 r && ile r 6000
theorem inr_iff {x : Int} : inr x = true ↔ 0 ≤ x ∧ x ≤ 6000 := by simp only [inr, Bool.and_eq_true, ile_iff, decide_eq_true_eq]
theorem near_b {ax ay vx vy r : Int} (h1 : in2 ax = true) (h2 : in2 ay = true) (h3 : in2 vx = true) (h4 : in2 vy = true) (h5 : inr r = true) :
  ((wr .i64 (ax * vx) = ax * vx ∧ wr .i64 (ay * vy) = ay * vy ∧ wr .i64 (ax * vx + ay * vy) = ax * vx + ay * vy) ∧ (wr .i64 (ax * ax) = ax * ax ∧ wr .i64 (ay * ay) = ay * ay ∧ wr .i64 (ax * ax + ay * ay) = ax * ax + ay * ay) ∧
  (wr .i64 (vx * vx) = vx * vx ∧ wr .i64 (vy * vy) = vy * vy ∧ wr .i64 (vx * vx + vy * vy) = vx * vx + vy * vy)) ∧ (wr .i64 (vx - ax) = vx - ax ∧ wr .i64 (vy - ay) = vy - ay ∧
  wr .i64 ((vx - ax) * (vx - ax)) = (vx - ax) * (vx - ax) ∧ wr .i64 ((vy - ay) * (vy - ay)) = (vy - ay) * (vy - ay) ∧ wr .i64 ((vx - ax) * (vx - ax) + (vy - ay) * (vy - ay)) = (vx - ax) * (vx - ax) + (vy - ay) * (vy - ay)) ∧
  (wr .i64 (ax * vy) = ax * vy ∧ wr .i64 (ay * vx) = ay * vx ∧ wr .i64 (ax * vy - ay * vx) = ax * vy - ay * vx ∧ wr .i64 ((ax * vy - ay * vx) * (ax * vy - ay * vx)) = (ax * vy - ay * vx) * (ax * vy - ay * vx)) ∧
  (wr .i64 (r * r) = r * r ∧ wr .i64 (r * r * (ax * ax + ay * ay)) = r * r * (ax * ax + ay * ay)) := by
 rw [in2_iff] at h1 h2 h3 h4
 rw [inr_iff] at h5
 have p1 := mul_b (a := ax) (b := vx) (m := 21000) (n := 21000) (by omega) (by omega) (by omega) (by omega)
 have p2 := mul_b (a := ay) (b := vy) (m := 21000) (n := 21000) (by omega) (by omega) (by omega) (by omega)
 have p3 := mul_b (a := ax) (b := ax) (m := 21000) (n := 21000) (by omega) (by omega) (by omega) (by omega)
 have p4 := mul_b (a := ay) (b := ay) (m := 21000) (n := 21000) (by omega) (by omega) (by omega) (by omega)
 have p5 := mul_b (a := vx) (b := vx) (m := 21000) (n := 21000) (by omega) (by omega) (by omega) (by omega)
 have p6 := mul_b (a := vy) (b := vy) (m := 21000) (n := 21000) (by omega) (by omega) (by omega) (by omega)
 have p7 := mul_b (a := vx - ax) (b := vx - ax) (m := 42000) (n := 42000) (by omega) (by omega) (by omega) (by omega)
 have p8 := mul_b (a := vy - ay) (b := vy - ay) (m := 42000) (n := 42000) (by omega) (by omega) (by omega) (by omega)
 have p9 := mul_b (a := ax) (b := vy) (m := 21000) (n := 21000) (by omega) (by omega) (by omega) (by omega)
 have p10 := mul_b (a := ay) (b := vx) (m := 21000) (n := 21000) (by omega) (by omega) (by omega) (by omega)
 have p11 := mul_b (a := ax * vy - ay * vx) (b := ax * vy - ay * vx) (m := 882000000) (n := 882000000) (by omega) (by omega) (by omega) (by omega)
 have p12 := mul_b (a := r) (b := r) (m := 6000) (n := 6000) (by omega) (by omega) (by omega) (by omega)
 have p13 := mul_b (a := r * r) (b := ax * ax + ay * ay) (m := 36000000) (n := 882000000) (by omega) (by omega) (by omega) (by omega)
 refine ⟨⟨⟨wr_in ?_ ?_, wr_in ?_ ?_, wr_in ?_ ?_⟩, ⟨wr_in ?_ ?_, wr_in ?_ ?_, wr_in ?_ ?_⟩, wr_in ?_ ?_, wr_in ?_ ?_, wr_in ?_ ?_⟩, ⟨wr_in ?_ ?_, wr_in ?_ ?_, wr_in ?_ ?_, wr_in ?_ ?_, wr_in ?_ ?_⟩, ⟨wr_in ?_ ?_, wr_in ?_ ?_, wr_in ?_ ?_, wr_in ?_ ?_⟩, wr_in ?_ ?_, wr_in ?_ ?_⟩ <;> omega
noncomputable def nrB (ax ay vx vy r : Int) : Bool := in2 ax && in2 ay && in2 vx && in2 vy && inr r
theorem isnr_call (a v : tP.den) (r : Int) (hc : nrB a.1 a.2.1 v.1 v.2.1 r = true) : AnsF H1 133 [tP.av a, tP.av v, .int .i64 r] (.bool (nearI a.1 a.2.1 v.1 v.2.1 r)) := by
 refine Ans.call (n := 6) (ext_none (by kernel_rfl)) (hasB_spec (by kernel_rfl)) ?_
 have h := isnr_start a.1 a.2.1 v.1 v.2.1 r
 unfold nrB at hc
 simp only [Bool.and_eq_true] at hc
 obtain ⟨⟨⟨⟨c1, c2⟩, c3⟩, c4⟩, c5⟩ := hc
 obtain ⟨⟨⟨w1, w2, w3⟩, ⟨w4, w5, w6⟩, w7, w8, w9⟩, ⟨w10, w11, w12, w13, w14⟩, ⟨w15, w16, w17, w18⟩, w19, w20⟩ := near_b c1 c2 c3 c4 c5
 simp only [w1, w2, w3, w4, w5, w6, w7, w8, w9, w10, w11, w12, w13, w14, w15, w16, w17, w18, w19, w20] at h
 unfold nearI
 cases e1 : ile (a.1 * v.1 + a.2.1 * v.2.1) 0 with
 | true => simp only [e1, cond_true] at h ⊢; exact .doneB (Y1_ok _) H1sy h rfl
 | false =>
  cases e2 : ile (a.1 * a.1 + a.2.1 * a.2.1) (a.1 * v.1 + a.2.1 * v.2.1) <;> (simp only [e1, e2, cond_true, cond_false] at h ⊢; exact .doneB (Y1_ok _) H1sy h rfl)
theorem rnea_call (a b p : tP.den) (r : Int) (hc : (in10 a.1 && in10 a.2.1 && in10 b.1 && in10 b.2.1 && in2 (p.1 - a.1) && in2 (p.2.1 - a.2.1) && inr r) = true) : AnsF H1 99 [tP.av a, tP.av b, tP.av p, .int .i64 r] (.bool (nearI (b.1 - a.1) (b.2.1 - a.2.1) (p.1 - a.1) (p.2.1 - a.2.1) r)) := by
 refine Ans.call (n := 6) (ext_none (by kernel_rfl)) (hasB_spec (by kernel_rfl)) ?_
 have h := rnea_start a.1 a.2.1 b.1 b.2.1 p.1 p.2.1 r
 obtain ⟨a1, e1⟩ : ∃ x : Int, a.1 = x := ⟨_, rfl⟩
 obtain ⟨a2, e2⟩ : ∃ x : Int, a.2.1 = x := ⟨_, rfl⟩
 obtain ⟨b1, e3⟩ : ∃ x : Int, b.1 = x := ⟨_, rfl⟩
 obtain ⟨b2, e4⟩ : ∃ x : Int, b.2.1 = x := ⟨_, rfl⟩
 obtain ⟨p1, e5⟩ : ∃ x : Int, p.1 = x := ⟨_, rfl⟩
 obtain ⟨p2, e6⟩ : ∃ x : Int, p.2.1 = x := ⟨_, rfl⟩
 have hav : (startC H1 99 [tP.av a, tP.av b, tP.av p, .int .i64 r] 6) = startC H1 99 [.agg [.int .i64 a.1, .int .i64 a.2.1], .agg [.int .i64 b.1, .int .i64 b.2.1], .agg [.int .i64 p.1, .int .i64 p.2.1], .int .i64 r] 6 := rfl
 rw [hav]
 rw [e1, e2, e3, e4, e5, e6] at hc h ⊢
 simp only [Bool.and_eq_true] at hc
 obtain ⟨⟨⟨⟨⟨⟨c1, c2⟩, c3⟩, c4⟩, c5⟩, c6⟩, c7⟩ := hc
 have k1 := in10_iff.1 c1
 have k2 := in10_iff.1 c2
 have k3 := in10_iff.1 c3
 have k4 := in10_iff.1 c4
 have k5 := in2_iff.1 c5
 have k6 := in2_iff.1 c6
 have q1 : in2 (b1 - a1) = true := by rw [in2_iff]; omega
 have q2 : in2 (b2 - a2) = true := by rw [in2_iff]; omega
 obtain ⟨⟨⟨w1, w2, w3⟩, ⟨w4, w5, w6⟩, w7, w8, w9⟩, ⟨w10, w11, w12, w13, w14⟩, ⟨w15, w16, w17, w18⟩, w19, w20⟩ := near_b q1 q2 c5 c6 c7
 have z1 : wr .i64 (b1 - a1) = b1 - a1 := wr_in (by omega) (by omega)
 have z2 : wr .i64 (b2 - a2) = b2 - a2 := wr_in (by omega) (by omega)
 have z3 : wr .i64 (p1 - a1) = p1 - a1 := wr_in (by omega) (by omega)
 have z4 : wr .i64 (p2 - a2) = p2 - a2 := wr_in (by omega) (by omega)
 have z5 : wr .i64 (p1 - b1) = p1 - a1 - (b1 - a1) := by rw [wr_in (by omega) (by omega)]; omega
 have z6 : wr .i64 (p2 - b2) = p2 - a2 - (b2 - a2) := by rw [wr_in (by omega) (by omega)]; omega
 simp only [z1, z2, z3, z4, z5, z6, ieq_self, cond_true] at h
 simp only [w1, w2, w3, w4, w5, w6, w7, w8, w9, w12, w13, w14, w15, w16, w17, w18, w19, w20] at h
 unfold nearI
 cases f1 : ile ((b1 - a1) * (p1 - a1) + (b2 - a2) * (p2 - a2)) 0 with
 | true => simp only [f1, cond_true] at h ⊢; exact .doneB (Y1_ok _) H1sy h rfl
 | false =>
  cases f2 : ile ((b1 - a1) * (b1 - a1) + (b2 - a2) * (b2 - a2)) ((b1 - a1) * (p1 - a1) + (b2 - a2) * (p2 - a2)) <;> (simp only [f1, f2, cond_true, cond_false] at h ⊢; exact .doneB (Y1_ok _) H1sy h rfl)
noncomputable def LN : List Said := [(133, con3 tP tP tI (fun a v r => nrB a.1 a.2.1 v.1 v.2.1 r) (fun a v r => .bool (nearI a.1 a.2.1 v.1 v.2.1 r))),
 (99, con4 tP tP tP tI (fun a b p r => in10 a.1 && in10 a.2.1 && in10 b.1 && in10 b.2.1 && in2 (p.1 - a.1) && in2 (p.2.1 - a.2.1) && inr r) (fun a b p r => .bool (nearI (b.1 - a.1) (b.2.1 - a.2.1) (p.1 - a.1) (p.2.1 - a.2.1) r)))]
theorem LN_ok : ∀ e ∈ LN, SaidG Tryz.prog H1.glob e :=
 saids_cons (SaidOK.g h1 xh1 nh1 tabs_ok.mix (fun _ _ h => con3_spec (t := tP) (u := tP) (w := tI) (fun a v r hc => isnr_call a v r hc) h) rfl)
 (saids_cons (SaidOK.g h1 xh1 nh1 tabs_ok.mix (fun _ _ h => con4_spec (t := tP) (u := tP) (w := tP) (s := tI) (fun a b p r hc => rnea_call a b p r hc) h) rfl) saids_nil)
noncomputable def N1 : Env := H1.say (under (xOf LN))
theorem en1 : EnvOK Tryz.prog N1 := h1.say _
theorem nn1 : NameOK N1 := nh1.say _
theorem xn1 : ExtOK Tryz.prog N1 := xh1.sayL LN_ok
theorem N1sy : N1.sy = true := rfl
noncomputable def V1 (l : List Nat) : Sy := (Y1 []).on LN l
theorem V1_ok (l : List Nat) : (V1 l).ok N1 := Sy.on_ok (Y1_ok _)
end Go.Proofs.YtffnpkbopjjdaaaGreatDoor


set_option maxRecDepth 100000
namespace Go.Proofs.YtffnpkbopjjdaaaGreatDoor
open Go Go.Eng
noncomputable def sidnI0 (v : tView.den) (px py r : Int) (x3 : Int) (x37 : Nat) : Cfg := ⟨.ex (pcOf N1 131 [0, 0, 1]) ⟨(tmOf 29 [(0, (.yld 5)), (1, (.ptr 4 0)), (6, (.vs tP (v.1.2.1.1) (v.1.2.1.2))), (7, (.int .i64 (Int.ofNat v.1.2.1.2.length))), (8, (.int .i64 x3))]), (hpOf 6 [(0, (.cells false [(.str (v.1.1)), (.vs tP (v.1.2.1.1) (v.1.2.1.2)), (.int .i64 (v.1.2.2.1.1.1)), (.int .i64 (v.1.2.2.1.1.2.1)), (.int .i64 (v.1.2.2.1.2.1.1)), (.int .i64 (v.1.2.2.1.2.1.2.1)), (.int .i64 (v.2.1.1)), (.int .i64 (v.2.1.2.1))])), (1, (.cells false [(.int .i64 (px)), (.int .i64 (py))])), (2, (.cells false [(.int .i64 (r))])), (3, (.cells false [(.bool (false))])), (4, (.cells false [(.vs tP (v.1.2.1.1) (v.1.2.1.2))]))]), [], [⟨false, .normal⟩], 29, false⟩, ⟨7, [⟨5, 21, 8, (tmOf 21 [(0, (.agg [(.str (v.1.1)), (.vs tP (v.1.2.1.1) (v.1.2.1.2)), (.int .i64 (v.1.2.2.1.1.1)), (.int .i64 (v.1.2.2.1.1.2.1)), (.int .i64 (v.1.2.2.1.2.1.1)), (.int .i64 (v.1.2.2.1.2.1.2.1)), (.int .i64 (v.2.1.1)), (.int .i64 (v.2.1.2.1))])), (1, (.agg [(.int .i64 (px)), (.int .i64 (py))])), (2, (.int .i64 (r))), (3, (.ptr 0 0)), (4, (.ptr 1 0)), (5, (.ptr 2 0)), (6, (.ptr 3 0)), (9, (.ptr 0 0)), (10, (.ptr 0 1)), (11, (.vs tP (v.1.2.1.1) (v.1.2.1.2))), (12, (.fn 131 [] [(.ptr 4 0)]))]), #[13, 14], (pcOf N1 122 [0, 0, 1, 0, 1]), (pcOf N1 122 [1, 0, 1, 0, 1])⟩]⟩, [(.lop (pcOf N1 131 [0, 0, 1]) 6 (tmOf 29 [(0, (.yld 5)), (1, (.ptr 4 0)), (6, (.vs tP (v.1.2.1.1) (v.1.2.1.2))), (7, (.int .i64 (Int.ofNat v.1.2.1.2.length))), (8, (.int .i64 (0)))]) x37), (.blk 0), (.cal [] (.rng (tmOf 21 [(0, (.agg [(.str (v.1.1)), (.vs tP (v.1.2.1.1) (v.1.2.1.2)), (.int .i64 (v.1.2.2.1.1.1)), (.int .i64 (v.1.2.2.1.1.2.1)), (.int .i64 (v.1.2.2.1.2.1.1)), (.int .i64 (v.1.2.2.1.2.1.2.1)), (.int .i64 (v.2.1.1)), (.int .i64 (v.2.1.2.1))])), (1, (.agg [(.int .i64 (px)), (.int .i64 (py))])), (2, (.int .i64 (r))), (3, (.ptr 0 0)), (4, (.ptr 1 0)), (5, (.ptr 2 0)), (6, (.ptr 3 0)), (9, (.ptr 0 0)), (10, (.ptr 0 1)), (11, (.vs tP (v.1.2.1.1) (v.1.2.1.2))), (12, (.fn 131 [] [(.ptr 4 0)]))]) [] 21 false ⟨8, []⟩)), (.blk 0), (.seq (pcOf N1 122 [1, 1])), (.cal [(.cell 6 4)] .top)]⟩
theorem sidn_start (v : tView.den) (px py r : Int) : adv N1 (V1 [122, 131]) 3000 (startC N1 122 [tView.av v, .agg [.int .i64 px, .int .i64 py], .int .i64 r] 8) = some (.stop (sidnI0 v px py r (0) (1048575))) := by kernel_rfl
theorem sidn_step0 (v : tView.den) (px py r : Int) (x3 : Int) (x37 : Nat) : adv N1 (V1 [122, 131]) 3000 (sidnI0 v px py r x3 (x37 + 1)) = (let z1 := (wr .i64 ((v.1.2.1.2.getD ((wr .i64 (x3 + 1)).tmod ↑v.1.2.1.2.length).toNat tP.dflt).2.1 - (v.1.2.1.2.getD x3.toNat tP.dflt).2.1)); let z2 := (wr .i64 ((v.1.2.1.2.getD ((wr .i64 (x3 + 1)).tmod ↑v.1.2.1.2.length).toNat tP.dflt).1 - (v.1.2.1.2.getD x3.toNat tP.dflt).1)); (bif !ile (Int.ofNat v.1.2.1.2.length) x3 then (bif inB x3 v.1.2.1.2.length then (bif ieq (↑v.1.2.1.2.length) 0 then none else (bif inB ((wr .i64 (x3 + 1)).tmod ↑v.1.2.1.2.length) v.1.2.1.2.length then (bif bbeq v.1.2.1.1 v.1.2.1.1 then (bif vsB tP v.1.2.1.2 tP v.1.2.1.2 then (bif bbeq v.1.2.1.1 v.1.2.1.1 then (bif vsB tP v.1.2.1.2 tP v.1.2.1.2 then (bif nrB z2 z1 (wr .i64 (px - (v.1.2.1.2.getD x3.toNat tP.dflt).1)) (wr .i64 (py - (v.1.2.1.2.getD x3.toNat tP.dflt).2.1)) r then (bif ieq r r then (bif ieq r r then (bif ieq px px then (bif ieq py py then (bif ieq (v.1.2.1.2.getD x3.toNat tP.dflt).1 (v.1.2.1.2.getD x3.toNat tP.dflt).1 then (bif ieq (v.1.2.1.2.getD x3.toNat tP.dflt).2.1 (v.1.2.1.2.getD x3.toNat tP.dflt).2.1 then (bif ieq z2 z2 then (bif ieq z1 z1 then (bif ieq z2 z2 then (bif ieq z1 z1 then (bif nearI z2 z1 (wr .i64 (px - (v.1.2.1.2.getD x3.toNat tP.dflt).1)) (wr .i64 (py - (v.1.2.1.2.getD x3.toNat tP.dflt).2.1)) r then (bif ieq (v.1.2.1.2.getD ((wr .i64 (x3 + 1)).tmod ↑v.1.2.1.2.length).toNat tP.dflt).1 (v.1.2.1.2.getD ((wr .i64 (x3 + 1)).tmod ↑v.1.2.1.2.length).toNat tP.dflt).1 then (bif ieq (v.1.2.1.2.getD ((wr .i64 (x3 + 1)).tmod ↑v.1.2.1.2.length).toNat tP.dflt).2.1 (v.1.2.1.2.getD ((wr .i64 (x3 + 1)).tmod ↑v.1.2.1.2.length).toNat tP.dflt).2.1 then (bif ieq (v.1.2.1.2.getD x3.toNat tP.dflt).1 (v.1.2.1.2.getD x3.toNat tP.dflt).1 then (bif ieq (v.1.2.1.2.getD x3.toNat tP.dflt).2.1 (v.1.2.1.2.getD x3.toNat tP.dflt).2.1 then (bif ieq (v.1.2.1.2.getD x3.toNat tP.dflt).1 (v.1.2.1.2.getD x3.toNat tP.dflt).1 then (bif ieq (v.1.2.1.2.getD x3.toNat tP.dflt).2.1 (v.1.2.1.2.getD x3.toNat tP.dflt).2.1 then (bif ieq (v.1.2.1.2.getD x3.toNat tP.dflt).1 (v.1.2.1.2.getD x3.toNat tP.dflt).1 then (bif ieq (v.1.2.1.2.getD x3.toNat tP.dflt).2.1 (v.1.2.1.2.getD x3.toNat tP.dflt).2.1 then some (.done (.bool (true))) else none) else none) else none) else none) else none) else none) else none) else none) else (bif ieq (v.1.2.1.2.getD ((wr .i64 (x3 + 1)).tmod ↑v.1.2.1.2.length).toNat tP.dflt).1 (v.1.2.1.2.getD ((wr .i64 (x3 + 1)).tmod ↑v.1.2.1.2.length).toNat tP.dflt).1 then (bif ieq (v.1.2.1.2.getD ((wr .i64 (x3 + 1)).tmod ↑v.1.2.1.2.length).toNat tP.dflt).2.1 (v.1.2.1.2.getD ((wr .i64 (x3 + 1)).tmod ↑v.1.2.1.2.length).toNat tP.dflt).2.1 then (bif ieq (v.1.2.1.2.getD x3.toNat tP.dflt).1 (v.1.2.1.2.getD x3.toNat tP.dflt).1 then (bif ieq (v.1.2.1.2.getD x3.toNat tP.dflt).2.1 (v.1.2.1.2.getD x3.toNat tP.dflt).2.1 then (bif ieq (v.1.2.1.2.getD x3.toNat tP.dflt).1 (v.1.2.1.2.getD x3.toNat tP.dflt).1 then (bif ieq (v.1.2.1.2.getD x3.toNat tP.dflt).2.1 (v.1.2.1.2.getD x3.toNat tP.dflt).2.1 then (bif ieq (v.1.2.1.2.getD x3.toNat tP.dflt).1 (v.1.2.1.2.getD x3.toNat tP.dflt).1 then (bif ieq (v.1.2.1.2.getD x3.toNat tP.dflt).2.1 (v.1.2.1.2.getD x3.toNat tP.dflt).2.1 then some (.stop (sidnI0 v px py r (wr .i64 (x3 + 1)) (x37))) else none) else none) else none) else none) else none) else none) else none) else none)) else none) else none) else none) else none) else none) else none) else none) else none) else none) else none) else none) else none) else none) else none) else none) else none)) else none) else some (.done (.bool (false))))) := by kernel_rfl
noncomputable def insdI0 (s : tSand.den) (mx my px py r : Int) (x15 : Int) (x55 : Nat) : Cfg := ⟨.ex (pcOf N1 51 [0, 0, 1, 0, 1, 1, 1]) ⟨(tmOf 44 [(0, (.agg [(.str (s.1)), (.vs tP (s.2.1.1) (s.2.1.2)), (.int .i64 (s.2.2.1.1.1)), (.int .i64 (s.2.2.1.1.2.1)), (.int .i64 (s.2.2.1.2.1.1)), (.int .i64 (s.2.2.1.2.1.2.1))])), (1, (.agg [(.int .i64 (mx)), (.int .i64 (my))])), (2, (.agg [(.int .i64 (px)), (.int .i64 (py))])), (3, (.int .i64 (r))), (4, (.ptr 0 0)), (5, (.ptr 1 0)), (6, (.ptr 2 0)), (8, (.bool (false))), (9, (.vs tP (s.2.1.1) (s.2.1.2))), (10, (.int .i64 x15)), (11, (.int .i64 (r))), (12, (.bool (!ile r 0))), (13, (.bool (false))), (14, (.tup [])), (15, (.tup [])), (16, (.tup [])), (17, (.tup [])), (18, (.bool (false))), (19, (.ptr 0 1)), (20, (.vs tP (s.2.1.1) (s.2.1.2)))]), (hpOf 3 [(0, (.cells false [(.str (s.1)), (.vs tP (s.2.1.1) (s.2.1.2)), (.int .i64 (s.2.2.1.1.1)), (.int .i64 (s.2.2.1.1.2.1)), (.int .i64 (s.2.2.1.2.1.1)), (.int .i64 (s.2.2.1.2.1.2.1))])), (1, (.cells false [(.int .i64 (mx)), (.int .i64 (my))])), (2, (.cells false [(.int .i64 (px)), (.int .i64 (py))]))]), [], [], 44, false⟩, ⟨8, []⟩, [(.lop (pcOf N1 51 [0, 0, 1, 0, 1, 1, 1]) 3 (tmOf 44 [(0, (.agg [(.str (s.1)), (.vs tP (s.2.1.1) (s.2.1.2)), (.int .i64 (s.2.2.1.1.1)), (.int .i64 (s.2.2.1.1.2.1)), (.int .i64 (s.2.2.1.2.1.1)), (.int .i64 (s.2.2.1.2.1.2.1))])), (1, (.agg [(.int .i64 (mx)), (.int .i64 (my))])), (2, (.agg [(.int .i64 (px)), (.int .i64 (py))])), (3, (.int .i64 (r))), (4, (.ptr 0 0)), (5, (.ptr 1 0)), (6, (.ptr 2 0)), (8, (.bool (false))), (9, (.vs tP (s.2.1.1) (s.2.1.2))), (10, (.int .i64 (0))), (11, (.int .i64 (r))), (12, (.bool (!ile r 0))), (13, (.bool (false))), (14, (.tup [])), (15, (.tup [])), (16, (.tup [])), (17, (.tup [])), (18, (.bool (false))), (19, (.ptr 0 1)), (20, (.vs tP (s.2.1.1) (s.2.1.2)))]) x55), (.blk 0), (.seq (pcOf N1 51 [1, 1, 1, 1])), (.cal [(.tmp 8)] .top)]⟩
noncomputable def insdI1 (s : tSand.den) (mx my px py r : Int) (x15 : Int) (x79 : Nat) : Cfg := ⟨.ex (pcOf N1 51 [0, 0, 1, 0, 1, 1, 1]) ⟨(tmOf 44 [(0, (.agg [(.str (s.1)), (.vs tP (s.2.1.1) (s.2.1.2)), (.int .i64 (s.2.2.1.1.1)), (.int .i64 (s.2.2.1.1.2.1)), (.int .i64 (s.2.2.1.2.1.1)), (.int .i64 (s.2.2.1.2.1.2.1))])), (1, (.agg [(.int .i64 (mx)), (.int .i64 (my))])), (2, (.agg [(.int .i64 (px)), (.int .i64 (py))])), (3, (.int .i64 (r))), (4, (.ptr 0 0)), (5, (.ptr 1 0)), (6, (.ptr 2 0)), (8, (.bool (false))), (9, (.vs tP (s.2.1.1) (s.2.1.2))), (10, (.int .i64 x15)), (11, (.int .i64 (r))), (12, (.bool (!ile r 0))), (13, (.bool (true))), (14, (.agg [(.str (s.1)), (.vs tP (s.2.1.1) (s.2.1.2)), (.int .i64 (s.2.2.1.1.1)), (.int .i64 (s.2.2.1.1.2.1)), (.int .i64 (s.2.2.1.2.1.1)), (.int .i64 (s.2.2.1.2.1.2.1))])), (15, (.agg [(.int .i64 (mx)), (.int .i64 (my))])), (16, (.agg [(.int .i64 (px)), (.int .i64 (py))])), (17, (.bool (liesF s.2.1.2 (px - mx) (py - my) 0 s.2.1.2.length))), (18, (.bool (false))), (19, (.ptr 0 1)), (20, (.vs tP (s.2.1.1) (s.2.1.2)))]), (hpOf 3 [(0, (.cells false [(.str (s.1)), (.vs tP (s.2.1.1) (s.2.1.2)), (.int .i64 (s.2.2.1.1.1)), (.int .i64 (s.2.2.1.1.2.1)), (.int .i64 (s.2.2.1.2.1.1)), (.int .i64 (s.2.2.1.2.1.2.1))])), (1, (.cells false [(.int .i64 (mx)), (.int .i64 (my))])), (2, (.cells false [(.int .i64 (px)), (.int .i64 (py))]))]), [], [], 44, false⟩, ⟨8, []⟩, [(.lop (pcOf N1 51 [0, 0, 1, 0, 1, 1, 1]) 3 (tmOf 44 [(0, (.agg [(.str (s.1)), (.vs tP (s.2.1.1) (s.2.1.2)), (.int .i64 (s.2.2.1.1.1)), (.int .i64 (s.2.2.1.1.2.1)), (.int .i64 (s.2.2.1.2.1.1)), (.int .i64 (s.2.2.1.2.1.2.1))])), (1, (.agg [(.int .i64 (mx)), (.int .i64 (my))])), (2, (.agg [(.int .i64 (px)), (.int .i64 (py))])), (3, (.int .i64 (r))), (4, (.ptr 0 0)), (5, (.ptr 1 0)), (6, (.ptr 2 0)), (8, (.bool (false))), (9, (.vs tP (s.2.1.1) (s.2.1.2))), (10, (.int .i64 (0))), (11, (.int .i64 (r))), (12, (.bool (!ile r 0))), (13, (.bool (true))), (14, (.agg [(.str (s.1)), (.vs tP (s.2.1.1) (s.2.1.2)), (.int .i64 (s.2.2.1.1.1)), (.int .i64 (s.2.2.1.1.2.1)), (.int .i64 (s.2.2.1.2.1.1)), (.int .i64 (s.2.2.1.2.1.2.1))])), (15, (.agg [(.int .i64 (mx)), (.int .i64 (my))])), (16, (.agg [(.int .i64 (px)), (.int .i64 (py))])), (17, (.bool (liesF s.2.1.2 (px - mx) (py - my) 0 s.2.1.2.length))), (18, (.bool (false))), (19, (.ptr 0 1)), (20, (.vs tP (s.2.1.1) (s.2.1.2)))]) x79), (.blk 0), (.seq (pcOf N1 51 [1, 1, 1, 1])), (.cal [(.tmp 8)] .top)]⟩
theorem insd_start (s : tSand.den) (mx my px py r : Int) : adv N1 (V1 [51]) 3000 (startC N1 51 [tSand.av s, .agg [.int .i64 mx, .int .i64 my], .agg [.int .i64 px, .int .i64 py], .int .i64 r] 8) = (bif !ile r 0 then (bif cOK s.2.1.2 && in5 mx && in5 my && in10 px && in10 py then (bif liesF s.2.1.2 (px - mx) (py - my) 0 s.2.1.2.length then some (.done (.bool (true))) else some (.stop (insdI1 s mx my px py r (0) (1048575)))) else none) else some (.stop (insdI0 s mx my px py r (0) (1048575)))) := by kernel_rfl
theorem insd_step0 (s : tSand.den) (mx my px py r : Int) (x15 : Int) (x55 : Nat) : adv N1 (V1 [51]) 3000 (insdI0 s mx my px py r x15 (x55 + 1)) = (bif !ile (↑s.2.1.2.length) x15 then (bif inB x15 s.2.1.2.length then (bif ieq (↑s.2.1.2.length) 0 then none else (bif inB ((wr .i64 (x15 + 1)).tmod ↑s.2.1.2.length) s.2.1.2.length then (bif in10 (s.2.1.2.getD x15.toNat tP.dflt).1 && in10 (s.2.1.2.getD x15.toNat tP.dflt).2.1 && in10 (s.2.1.2.getD ((wr .i64 (x15 + 1)).tmod ↑s.2.1.2.length).toNat tP.dflt).1 && in10 (s.2.1.2.getD ((wr .i64 (x15 + 1)).tmod ↑s.2.1.2.length).toNat tP.dflt).2.1 && in2 (wr .i64 (px - mx) - (s.2.1.2.getD x15.toNat tP.dflt).1) && in2 (wr .i64 (py - my) - (s.2.1.2.getD x15.toNat tP.dflt).2.1) && inr r then (bif ieq mx mx then (bif ieq my my then (bif ieq px px then (bif ieq py py then (bif nearI ((s.2.1.2.getD ((wr .i64 (x15 + 1)).tmod ↑s.2.1.2.length).toNat tP.dflt).1 - (s.2.1.2.getD x15.toNat tP.dflt).1) ((s.2.1.2.getD ((wr .i64 (x15 + 1)).tmod ↑s.2.1.2.length).toNat tP.dflt).2.1 - (s.2.1.2.getD x15.toNat tP.dflt).2.1) (wr .i64 (px - mx) - (s.2.1.2.getD x15.toNat tP.dflt).1) (wr .i64 (py - my) - (s.2.1.2.getD x15.toNat tP.dflt).2.1) r then some (.done (.bool (true))) else some (.stop (insdI0 s mx my px py r (wr .i64 (x15 + 1)) (x55)))) else none) else none) else none) else none) else none) else none)) else none) else some (.done (.bool (false)))) := by kernel_rfl
theorem insd_step1 (s : tSand.den) (mx my px py r : Int) (x15 : Int) (x79 : Nat) : adv N1 (V1 [51]) 3000 (insdI1 s mx my px py r x15 (x79 + 1)) = (bif !ile (↑s.2.1.2.length) x15 then (bif inB x15 s.2.1.2.length then (bif ieq (↑s.2.1.2.length) 0 then none else (bif inB ((wr .i64 (x15 + 1)).tmod ↑s.2.1.2.length) s.2.1.2.length then (bif in10 (s.2.1.2.getD x15.toNat tP.dflt).1 && in10 (s.2.1.2.getD x15.toNat tP.dflt).2.1 && in10 (s.2.1.2.getD ((wr .i64 (x15 + 1)).tmod ↑s.2.1.2.length).toNat tP.dflt).1 && in10 (s.2.1.2.getD ((wr .i64 (x15 + 1)).tmod ↑s.2.1.2.length).toNat tP.dflt).2.1 && in2 (wr .i64 (px - mx) - (s.2.1.2.getD x15.toNat tP.dflt).1) && in2 (wr .i64 (py - my) - (s.2.1.2.getD x15.toNat tP.dflt).2.1) && inr r then (bif ieq mx mx then (bif ieq my my then (bif ieq px px then (bif ieq py py then (bif nearI ((s.2.1.2.getD ((wr .i64 (x15 + 1)).tmod ↑s.2.1.2.length).toNat tP.dflt).1 - (s.2.1.2.getD x15.toNat tP.dflt).1) ((s.2.1.2.getD ((wr .i64 (x15 + 1)).tmod ↑s.2.1.2.length).toNat tP.dflt).2.1 - (s.2.1.2.getD x15.toNat tP.dflt).2.1) (wr .i64 (px - mx) - (s.2.1.2.getD x15.toNat tP.dflt).1) (wr .i64 (py - my) - (s.2.1.2.getD x15.toNat tP.dflt).2.1) r then some (.done (.bool (true))) else some (.stop (insdI1 s mx my px py r (wr .i64 (x15 + 1)) (x79)))) else none) else none) else none) else none) else none) else none)) else none) else some (.done (.bool (false)))) := by kernel_rfl
noncomputable def sidF (C : List tP.den) (dx dy r : Int) : Nat → Nat → Bool
 | _, 0 => false
 | k, n + 1 => bif nearI (sA C k) (sB C k) (dx - gx C k) (dy - gy C k) r then true else sidF C dx dy r (k + 1) n
noncomputable def in11 (x : Int) : Bool := ile (-11000) x && ile x 11000
theorem in11_iff {x : Int} : in11 x = true ↔ -11000 ≤ x ∧ x ≤ 11000 := by simp only [in11, Bool.and_eq_true, ile_iff, decide_eq_true_eq]
theorem sidn_ans (v : tView.den) (px py r : Int) (C : List tP.den) (hC : v.1.2.1.2 = C) (hi8 : C.length < 1000) (hin : inC C) (b1 : in11 px = true) (b2 : in11 py = true) (b3 : inr r = true) :
  ∀ (n k m : Nat), k + n = C.length → n < m → Ans N1 (sidnI0 v px py r k m) (.bool (sidF C px py r k n))
 | 0, k, m + 1, hk, hm => by
  have h := sidn_step0 v px py r k m
  simp only [hC, Int.ofNat_eq_natCast, ile_ge (show C.length ≤ k by omega), Bool.not_true, cond_false] at h
  exact .doneB (V1_ok _) N1sy h rfl
 | n + 1, k, m + 1, hk, hm => by
  have h := sidn_step0 v px py r k m
  have hlt : k < C.length := by omega
  have hq : (k + 1) % C.length < C.length := Nat.mod_lt _ (by omega)
  have hne : ieq (C.length : Int) 0 = false := by rw [ieq_iff]; exact decide_eq_false (by omega)
  have hb1 := hin k hlt
  have hb2 := hin _ hq
  have k1 := in11_iff.1 b1
  have k2 := in11_iff.1 b2
  rw [sidF]
  simp only [hC, Int.ofNat_eq_natCast, ile_lt hlt, inB_at hlt, nxt_at, inB_at hq, hne, nat_to, ieq_self, bbeq_self, vsB_self, wr_succ (show k < 1048577 by omega), Bool.not_false, cond_true, cond_false] at h
  have f1 : ∀ j, (C.getD j tP.dflt).1 = gx C j := fun j => rfl
  have f2 : ∀ j, (C.getD j tP.dflt).2.1 = gy C j := fun j => rfl
  simp only [f1, f2] at h
  have w1 : wr .i64 (gx C ((k + 1) % C.length) - gx C k) = sA C k := by rw [wr_in (by omega) (by omega)]; rfl
  have w2 : wr .i64 (gy C ((k + 1) % C.length) - gy C k) = sB C k := by rw [wr_in (by omega) (by omega)]; rfl
  have w3 : wr .i64 (px - gx C k) = px - gx C k := wr_in (by omega) (by omega)
  have w4 : wr .i64 (py - gy C k) = py - gy C k := wr_in (by omega) (by omega)
  have hA : sA C k = gx C ((k + 1) % C.length) - gx C k := rfl
  have hB : sB C k = gy C ((k + 1) % C.length) - gy C k := rfl
  have hn : nrB (sA C k) (sB C k) (px - gx C k) (py - gy C k) r = true := by
   unfold nrB
   rw [b3, in2_iff.2 (show -21000 ≤ sA C k ∧ sA C k ≤ 21000 by omega), in2_iff.2 (show -21000 ≤ sB C k ∧ sB C k ≤ 21000 by omega), in2_iff.2 (show -21000 ≤ px - gx C k ∧ px - gx C k ≤ 21000 by omega), in2_iff.2 (show -21000 ≤ py - gy C k ∧ py - gy C k ≤ 21000 by omega)]; rfl
  simp only [w1, w2, w3, w4, hn, cond_true] at h
  cases e : nearI (sA C k) (sB C k) (px - gx C k) (py - gy C k) r with
  | true => simp only [e, cond_true] at h ⊢; exact .doneB (V1_ok _) N1sy h rfl
  | false =>
   simp only [e, cond_false] at h ⊢
   exact .stop (V1_ok _) N1sy h (sidn_ans v px py r C hC hi8 hin b1 b2 b3 n (k + 1) m (by omega) (by omega))
theorem sidn_call (v : tView.den) (p : tP.den) (r : Int) (hC : cOK v.1.2.1.2 = true) (b1 : in11 p.1 = true) (b2 : in11 p.2.1 = true) (b3 : inr r = true) : AnsF N1 122 [tView.av v, tP.av p, .int .i64 r] (.bool (sidF v.1.2.1.2 p.1 p.2.1 r 0 v.1.2.1.2.length)) := by
 obtain ⟨a, b⟩ := cOK_in hC
 exact Ans.call (n := 8) (ext_none (by kernel_rfl)) (hasB_spec (by kernel_rfl)) (.stop (V1_ok _) N1sy (sidn_start v p.1 p.2.1 r) (sidn_ans v p.1 p.2.1 r _ rfl (by omega) b b1 b2 b3 _ 0 1048575 (by omega) (by omega)))
section
variable (s : tSand.den) (mx my px py r : Int) (C : List tP.den) (hC : s.2.1.2 = C) (hi8 : C.length < 1000) (hin : inC C) (b1 : in5 mx = true) (b2 : in5 my = true) (b3 : in10 px = true) (b4 : in10 py = true) (b5 : inr r = true)
include hC hi8 hin b1 b2 b3 b4 b5
theorem insd_ans0 : ∀ (n k m : Nat), k + n = C.length → n < m → Ans N1 (insdI0 s mx my px py r k m) (.bool (sidF C (px - mx) (py - my) r k n))
 | 0, k, m + 1, hk, hm => by
  have h := insd_step0 s mx my px py r k m
  simp only [hC, ile_ge (show C.length ≤ k by omega), Bool.not_true, cond_false] at h
  exact .doneB (V1_ok _) N1sy h rfl
 | n + 1, k, m + 1, hk, hm => by
  have h := insd_step0 s mx my px py r k m
  have hlt : k < C.length := by omega
  have hq : (k + 1) % C.length < C.length := Nat.mod_lt _ (by omega)
  have hne : ieq (C.length : Int) 0 = false := by rw [ieq_iff]; exact decide_eq_false (by omega)
  have hb1 := hin k hlt
  have hb2 := hin _ hq
  have k1 := in5_iff.1 b1
  have k2 := in5_iff.1 b2
  have k3 := in10_iff.1 b3
  have k4 := in10_iff.1 b4
  rw [sidF]
  simp only [hC, ile_lt hlt, inB_at hlt, nxt_at, inB_at hq, hne, nat_to, ieq_self, wr_succ (show k < 1048577 by omega), Bool.not_false, cond_true, cond_false] at h
  have f1 : ∀ j, (C.getD j tP.dflt).1 = gx C j := fun j => rfl
  have f2 : ∀ j, (C.getD j tP.dflt).2.1 = gy C j := fun j => rfl
  simp only [f1, f2] at h
  have w1 : wr .i64 (px - mx) = px - mx := wr_in (by omega) (by omega)
  have w2 : wr .i64 (py - my) = py - my := wr_in (by omega) (by omega)
  have hA : gx C ((k + 1) % C.length) - gx C k = sA C k := rfl
  have hB : gy C ((k + 1) % C.length) - gy C k = sB C k := rfl
  simp only [w1, w2, hA, hB, b5, in10_iff.2 hb1.1, in10_iff.2 hb1.2, in10_iff.2 hb2.1, in10_iff.2 hb2.2, in2_iff.2 (show -21000 ≤ px - mx - gx C k ∧ px - mx - gx C k ≤ 21000 by omega), in2_iff.2 (show -21000 ≤ py - my - gy C k ∧ py - my - gy C k ≤ 21000 by omega), Bool.and_self, cond_true] at h
  cases e : nearI (sA C k) (sB C k) (px - mx - gx C k) (py - my - gy C k) r with
  | true => simp only [e, cond_true] at h ⊢; exact .doneB (V1_ok _) N1sy h rfl
  | false =>
   simp only [e, cond_false] at h ⊢
   exact .stop (V1_ok _) N1sy h (insd_ans0 n (k + 1) m (by omega) (by omega))
theorem insd_ans1 : ∀ (n k m : Nat), k + n = C.length → n < m → Ans N1 (insdI1 s mx my px py r k m) (.bool (sidF C (px - mx) (py - my) r k n))
 | 0, k, m + 1, hk, hm => by
  have h := insd_step1 s mx my px py r k m
  simp only [hC, ile_ge (show C.length ≤ k by omega), Bool.not_true, cond_false] at h
  exact .doneB (V1_ok _) N1sy h rfl
 | n + 1, k, m + 1, hk, hm => by
  have h := insd_step1 s mx my px py r k m
  have hlt : k < C.length := by omega
  have hq : (k + 1) % C.length < C.length := Nat.mod_lt _ (by omega)
  have hne : ieq (C.length : Int) 0 = false := by rw [ieq_iff]; exact decide_eq_false (by omega)
  have hb1 := hin k hlt
  have hb2 := hin _ hq
  have k1 := in5_iff.1 b1
  have k2 := in5_iff.1 b2
  have k3 := in10_iff.1 b3
  have k4 := in10_iff.1 b4
  rw [sidF]
  simp only [hC, ile_lt hlt, inB_at hlt, nxt_at, inB_at hq, hne, nat_to, ieq_self, wr_succ (show k < 1048577 by omega), Bool.not_false, cond_true, cond_false] at h
  have f1 : ∀ j, (C.getD j tP.dflt).1 = gx C j := fun j => rfl
  have f2 : ∀ j, (C.getD j tP.dflt).2.1 = gy C j := fun j => rfl
  simp only [f1, f2] at h
  have w1 : wr .i64 (px - mx) = px - mx := wr_in (by omega) (by omega)
  have w2 : wr .i64 (py - my) = py - my := wr_in (by omega) (by omega)
  have hA : gx C ((k + 1) % C.length) - gx C k = sA C k := rfl
  have hB : gy C ((k + 1) % C.length) - gy C k = sB C k := rfl
  simp only [w1, w2, hA, hB, b5, in10_iff.2 hb1.1, in10_iff.2 hb1.2, in10_iff.2 hb2.1, in10_iff.2 hb2.2, in2_iff.2 (show -21000 ≤ px - mx - gx C k ∧ px - mx - gx C k ≤ 21000 by omega), in2_iff.2 (show -21000 ≤ py - my - gy C k ∧ py - my - gy C k ≤ 21000 by omega), Bool.and_self, cond_true] at h
  cases e : nearI (sA C k) (sB C k) (px - mx - gx C k) (py - my - gy C k) r with
  | true => simp only [e, cond_true] at h ⊢; exact .doneB (V1_ok _) N1sy h rfl
  | false =>
   simp only [e, cond_false] at h ⊢
   exact .stop (V1_ok _) N1sy h (insd_ans1 n (k + 1) m (by omega) (by omega))
end
noncomputable def insF (C : List tP.den) (dx dy r : Int) : Bool := (bif ile r 0 then false else liesF C dx dy 0 C.length) || sidF C dx dy r 0 C.length
theorem insd_call (s : tSand.den) (mv pt : tP.den) (r : Int) (hC : cOK s.2.1.2 = true) (b1 : in5 mv.1 = true) (b2 : in5 mv.2.1 = true) (b3 : in10 pt.1 = true) (b4 : in10 pt.2.1 = true) (b5 : inr r = true) : AnsF N1 51 [tSand.av s, tP.av mv, tP.av pt, .int .i64 r] (.bool (insF s.2.1.2 (pt.1 - mv.1) (pt.2.1 - mv.2.1) r)) := by
 obtain ⟨a, b⟩ := cOK_in hC
 refine Ans.call (n := 8) (ext_none (by kernel_rfl)) (hasB_spec (by kernel_rfl)) ?_
 have h := insd_start s mv.1 mv.2.1 pt.1 pt.2.1 r
 have hav : startC N1 51 [tSand.av s, tP.av mv, tP.av pt, .int .i64 r] 8 = startC N1 51 [tSand.av s, .agg [.int .i64 mv.1, .int .i64 mv.2.1], .agg [.int .i64 pt.1, .int .i64 pt.2.1], .int .i64 r] 8 := rfl
 rw [hav]
 unfold insF
 cases e : ile r 0 with
 | true =>
  simp only [e, Bool.not_true, cond_true, cond_false, Bool.false_or] at h ⊢
  exact .stop (V1_ok _) N1sy h (insd_ans0 s mv.1 mv.2.1 pt.1 pt.2.1 r _ rfl (by omega) b b1 b2 b3 b4 b5 _ 0 1048575 (by omega) (by omega))
 | false =>
  simp only [e, hC, b1, b2, b3, b4, Bool.and_self, Bool.not_false, cond_true, cond_false] at h ⊢
  cases e2 : liesF s.2.1.2 (pt.1 - mv.1) (pt.2.1 - mv.2.1) 0 s.2.1.2.length with
  | true => simp only [e2, cond_true, Bool.true_or] at h ⊢; exact .doneB (V1_ok _) N1sy h rfl
  | false =>
   simp only [e2, cond_false, Bool.false_or] at h ⊢
   exact .stop (V1_ok _) N1sy h (insd_ans1 s mv.1 mv.2.1 pt.1 pt.2.1 r _ rfl (by omega) b b1 b2 b3 b4 b5 _ 0 1048575 (by omega) (by omega))
noncomputable def LO : List Said := [(122, con3 tView tP tI (fun v p r => cOK v.1.2.1.2 && in11 p.1 && in11 p.2.1 && inr r) (fun v p r => .bool (sidF v.1.2.1.2 p.1 p.2.1 r 0 v.1.2.1.2.length))),
 (51, con4 tSand tP tP tI (fun s mv pt r => cOK s.2.1.2 && in5 mv.1 && in5 mv.2.1 && in10 pt.1 && in10 pt.2.1 && inr r) (fun s mv pt r => .bool (insF s.2.1.2 (pt.1 - mv.1) (pt.2.1 - mv.2.1) r)))]
theorem LO_ok : ∀ e ∈ LO, SaidG Tryz.prog N1.glob e :=
 saids_cons (SaidOK.g en1 xn1 nn1 tabs_ok.mix (fun _ _ h => con3_spec (t := tView) (u := tP) (w := tI) (fun v p r hc => by
  simp only [Bool.and_eq_true] at hc
  exact sidn_call v p r hc.1.1.1 hc.1.1.2 hc.1.2 hc.2) h) rfl)
 (saids_cons (SaidOK.g en1 xn1 nn1 tabs_ok.mix (fun _ _ h => con4_spec (t := tSand) (u := tP) (w := tP) (s := tI) (fun s mv pt r hc => by
  simp only [Bool.and_eq_true] at hc
  exact insd_call s mv pt r hc.1.1.1.1.1 hc.1.1.1.1.2 hc.1.1.1.2 hc.1.1.2 hc.1.2 hc.2) h) rfl) saids_nil)
noncomputable def N2 : Env := N1.say (under (xOf LO))
theorem en2 : EnvOK Tryz.prog N2 := en1.say _
theorem nn2 : NameOK N2 := nn1.say _
theorem xn2 : ExtOK Tryz.prog N2 := xn1.sayL LO_ok
theorem N2sy : N2.sy = true := rfl
noncomputable def V2 (l : List Nat) : Sy := (V1 []).on LO l
theorem V2_ok (l : List Nat) : (V2 l).ok N2 := Sy.on_ok (V1_ok _)
end Go.Proofs.YtffnpkbopjjdaaaGreatDoor


set_option maxRecDepth 100000
namespace Go.Proofs.YtffnpkbopjjdaaaGreatDoor
open Go Go.Eng
noncomputable def fmovI0 (v : tView.den) (r : Int) (x3 : Int) (x41 : Nat) : Cfg := ⟨.ex (pcOf N2 111 [0, 0, 1]) ⟨(tmOf 33 [(0, (.yld 5)), (1, (.ptr 4 0)), (5, (.ptr 4 0)), (6, (.agg [(.int .i64 (v.1.2.2.1.1.1)), (.int .i64 (v.1.2.2.1.1.2.1))])), (7, (.int .i64 (wr .i64 (wr .i64 (v.1.2.2.1.1.2.1 - v.1.2.2.1.1.1) + 1)))), (8, (.int .i64 x3))]), (hpOf 7 [(0, (.cells false [(.str (v.1.1)), (.vs tP (v.1.2.1.1) (v.1.2.1.2)), (.int .i64 (v.1.2.2.1.1.1)), (.int .i64 (v.1.2.2.1.1.2.1)), (.int .i64 (v.1.2.2.1.2.1.1)), (.int .i64 (v.1.2.2.1.2.1.2.1)), (.int .i64 (v.2.1.1)), (.int .i64 (v.2.1.2.1))])), (1, (.cells false [(.int .i64 (r))])), (2, (.cells false [(.int .i64 (0)), (.int .i64 (0))])), (3, (.cells false [(.bool (false))])), (4, (.cells false [(.int .i64 (v.1.2.2.1.1.1)), (.int .i64 (v.1.2.2.1.1.2.1)), (.int .i64 (v.1.2.2.1.2.1.1)), (.int .i64 (v.1.2.2.1.2.1.2.1))])), (6, (.cells false [(.int .i64 (v.1.2.2.1.1.1)), (.int .i64 (v.1.2.2.1.1.2.1))]))]), [], [⟨false, .normal⟩], 33, false⟩, ⟨9, [⟨5, 38, 10, (tmOf 38 [(0, (.agg [(.str (v.1.1)), (.vs tP (v.1.2.1.1) (v.1.2.1.2)), (.int .i64 (v.1.2.2.1.1.1)), (.int .i64 (v.1.2.2.1.1.2.1)), (.int .i64 (v.1.2.2.1.2.1.1)), (.int .i64 (v.1.2.2.1.2.1.2.1)), (.int .i64 (v.2.1.1)), (.int .i64 (v.2.1.2.1))])), (1, (.int .i64 (r))), (2, (.ptr 0 0)), (3, (.ptr 1 0)), (4, (.ptr 2 0)), (5, (.ptr 3 0)), (10, (.ptr 0 0)), (11, (.ptr 0 2)), (12, (.agg [(.int .i64 (v.1.2.2.1.1.1)), (.int .i64 (v.1.2.2.1.1.2.1)), (.int .i64 (v.1.2.2.1.2.1.1)), (.int .i64 (v.1.2.2.1.2.1.2.1))])), (13, (.fn 111 [] [(.ptr 4 0)]))]), #[14], (pcOf N2 108 [0, 0, 1, 0, 1, 0, 1]), (pcOf N2 108 [1, 0, 1, 0, 1, 0, 1])⟩]⟩, [(.lop (pcOf N2 111 [0, 0, 1]) 7 (tmOf 33 [(0, (.yld 5)), (1, (.ptr 4 0)), (5, (.ptr 4 0)), (6, (.agg [(.int .i64 (v.1.2.2.1.1.1)), (.int .i64 (v.1.2.2.1.1.2.1))])), (7, (.int .i64 (wr .i64 (wr .i64 (v.1.2.2.1.1.2.1 - v.1.2.2.1.1.1) + 1)))), (8, (.int .i64 (0)))]) x41), (.blk 0), (.cal [] (.rng (tmOf 38 [(0, (.agg [(.str (v.1.1)), (.vs tP (v.1.2.1.1) (v.1.2.1.2)), (.int .i64 (v.1.2.2.1.1.1)), (.int .i64 (v.1.2.2.1.1.2.1)), (.int .i64 (v.1.2.2.1.2.1.1)), (.int .i64 (v.1.2.2.1.2.1.2.1)), (.int .i64 (v.2.1.1)), (.int .i64 (v.2.1.2.1))])), (1, (.int .i64 (r))), (2, (.ptr 0 0)), (3, (.ptr 1 0)), (4, (.ptr 2 0)), (5, (.ptr 3 0)), (10, (.ptr 0 0)), (11, (.ptr 0 2)), (12, (.agg [(.int .i64 (v.1.2.2.1.1.1)), (.int .i64 (v.1.2.2.1.1.2.1)), (.int .i64 (v.1.2.2.1.2.1.1)), (.int .i64 (v.1.2.2.1.2.1.2.1))])), (13, (.fn 111 [] [(.ptr 4 0)]))]) [] 38 false ⟨10, []⟩)), (.blk 0), (.seq (pcOf N2 108 [1, 1, 0, 1])), (.cal [(.cell 4 27), (.cell 5 4)] .top)]⟩
noncomputable def fmovI1 (v : tView.den) (r : Int) (x0 : Int) (x10 : Int) (x57 : Nat) (x62 : Nat) : Cfg := ⟨.ex (pcOf N2 111 [0, 0, 1, 1, 0, 0, 1, 1, 0, 0, 1]) ⟨(tmOf 33 [(0, (.yld 5)), (1, (.ptr 4 0)), (3, (.int .i64 x0)), (5, (.ptr 4 0)), (6, (.agg [(.int .i64 (v.1.2.2.1.1.1)), (.int .i64 (v.1.2.2.1.1.2.1))])), (7, (.int .i64 (wr .i64 (wr .i64 (v.1.2.2.1.1.2.1 - v.1.2.2.1.1.1) + 1)))), (8, (.int .i64 x0)), (9, (.bool (true))), (10, (.int .i64 x0)), (11, (.ptr 4 2)), (12, (.agg [(.int .i64 (v.1.2.2.1.2.1.1)), (.int .i64 (v.1.2.2.1.2.1.2.1))])), (13, (.int .i64 (wr .i64 (wr .i64 (v.1.2.2.1.2.1.2.1 - v.1.2.2.1.2.1.1) + 1)))), (14, (.int .i64 x10))]), (hpOf 8 [(0, (.cells false [(.str (v.1.1)), (.vs tP (v.1.2.1.1) (v.1.2.1.2)), (.int .i64 (v.1.2.2.1.1.1)), (.int .i64 (v.1.2.2.1.1.2.1)), (.int .i64 (v.1.2.2.1.2.1.1)), (.int .i64 (v.1.2.2.1.2.1.2.1)), (.int .i64 (v.2.1.1)), (.int .i64 (v.2.1.2.1))])), (1, (.cells false [(.int .i64 (r))])), (2, (.cells false [(.int .i64 (0)), (.int .i64 (0))])), (3, (.cells false [(.bool (false))])), (4, (.cells false [(.int .i64 (v.1.2.2.1.1.1)), (.int .i64 (v.1.2.2.1.1.2.1)), (.int .i64 (v.1.2.2.1.2.1.1)), (.int .i64 (v.1.2.2.1.2.1.2.1))])), (6, (.cells false [(.int .i64 (v.1.2.2.1.1.1)), (.int .i64 (v.1.2.2.1.1.2.1))])), (7, (.cells false [(.int .i64 (v.1.2.2.1.2.1.1)), (.int .i64 (v.1.2.2.1.2.1.2.1))]))]), [], [⟨false, .normal⟩], 33, false⟩, ⟨9, [⟨5, 38, 10, (tmOf 38 [(0, (.agg [(.str (v.1.1)), (.vs tP (v.1.2.1.1) (v.1.2.1.2)), (.int .i64 (v.1.2.2.1.1.1)), (.int .i64 (v.1.2.2.1.1.2.1)), (.int .i64 (v.1.2.2.1.2.1.1)), (.int .i64 (v.1.2.2.1.2.1.2.1)), (.int .i64 (v.2.1.1)), (.int .i64 (v.2.1.2.1))])), (1, (.int .i64 (r))), (2, (.ptr 0 0)), (3, (.ptr 1 0)), (4, (.ptr 2 0)), (5, (.ptr 3 0)), (10, (.ptr 0 0)), (11, (.ptr 0 2)), (12, (.agg [(.int .i64 (v.1.2.2.1.1.1)), (.int .i64 (v.1.2.2.1.1.2.1)), (.int .i64 (v.1.2.2.1.2.1.1)), (.int .i64 (v.1.2.2.1.2.1.2.1))])), (13, (.fn 111 [] [(.ptr 4 0)]))]), #[14], (pcOf N2 108 [0, 0, 1, 0, 1, 0, 1]), (pcOf N2 108 [1, 0, 1, 0, 1, 0, 1])⟩]⟩, [(.lop (pcOf N2 111 [0, 0, 1, 1, 0, 0, 1, 1, 0, 0, 1]) 8 (tmOf 33 [(0, (.yld 5)), (1, (.ptr 4 0)), (3, (.int .i64 x0)), (5, (.ptr 4 0)), (6, (.agg [(.int .i64 (v.1.2.2.1.1.1)), (.int .i64 (v.1.2.2.1.1.2.1))])), (7, (.int .i64 (wr .i64 (wr .i64 (v.1.2.2.1.1.2.1 - v.1.2.2.1.1.1) + 1)))), (8, (.int .i64 x0)), (9, (.bool (true))), (10, (.int .i64 x0)), (11, (.ptr 4 2)), (12, (.agg [(.int .i64 (v.1.2.2.1.2.1.1)), (.int .i64 (v.1.2.2.1.2.1.2.1))])), (13, (.int .i64 (wr .i64 (wr .i64 (v.1.2.2.1.2.1.2.1 - v.1.2.2.1.2.1.1) + 1)))), (14, (.int .i64 (0)))]) x57), (.blk 2), (.blk 1), (.seq (pcOf N2 111 [1, 1, 1, 0, 0, 1])), (.lop (pcOf N2 111 [0, 0, 1]) 7 (tmOf 33 [(0, (.yld 5)), (1, (.ptr 4 0)), (5, (.ptr 4 0)), (6, (.agg [(.int .i64 (v.1.2.2.1.1.1)), (.int .i64 (v.1.2.2.1.1.2.1))])), (7, (.int .i64 (wr .i64 (wr .i64 (v.1.2.2.1.1.2.1 - v.1.2.2.1.1.1) + 1)))), (8, (.int .i64 (0)))]) x62), (.blk 0), (.cal [] (.rng (tmOf 38 [(0, (.agg [(.str (v.1.1)), (.vs tP (v.1.2.1.1) (v.1.2.1.2)), (.int .i64 (v.1.2.2.1.1.1)), (.int .i64 (v.1.2.2.1.1.2.1)), (.int .i64 (v.1.2.2.1.2.1.1)), (.int .i64 (v.1.2.2.1.2.1.2.1)), (.int .i64 (v.2.1.1)), (.int .i64 (v.2.1.2.1))])), (1, (.int .i64 (r))), (2, (.ptr 0 0)), (3, (.ptr 1 0)), (4, (.ptr 2 0)), (5, (.ptr 3 0)), (10, (.ptr 0 0)), (11, (.ptr 0 2)), (12, (.agg [(.int .i64 (v.1.2.2.1.1.1)), (.int .i64 (v.1.2.2.1.1.2.1)), (.int .i64 (v.1.2.2.1.2.1.1)), (.int .i64 (v.1.2.2.1.2.1.2.1))])), (13, (.fn 111 [] [(.ptr 4 0)]))]) [] 38 false ⟨10, []⟩)), (.blk 0), (.seq (pcOf N2 108 [1, 1, 0, 1])), (.cal [(.cell 4 27), (.cell 5 4)] .top)]⟩
noncomputable def fmovI2 (v : tView.den) (r : Int) (x3 : Int) (x25 : Int) (x26 : Int) (x31 : Int) (x32 : Int) (x78 : Nat) (x116 : Int) (x117 : Int) (x163 : Nat) (x168 : Nat) : Cfg := ⟨.ex (pcOf N2 131 [0, 0, 1]) ⟨(tmOf 29 [(0, (.yld 14)), (1, (.ptr 13 0)), (6, (.vs tP (v.1.2.1.1) (v.1.2.1.2))), (7, (.int .i64 (Int.ofNat v.1.2.1.2.length))), (8, (.int .i64 x3))]), (hpOf 15 [(0, (.cells false [(.str (v.1.1)), (.vs tP (v.1.2.1.1) (v.1.2.1.2)), (.int .i64 (v.1.2.2.1.1.1)), (.int .i64 (v.1.2.2.1.1.2.1)), (.int .i64 (v.1.2.2.1.2.1.1)), (.int .i64 (v.1.2.2.1.2.1.2.1)), (.int .i64 (v.2.1.1)), (.int .i64 (v.2.1.2.1))])), (1, (.cells false [(.int .i64 (r))])), (2, (.cells false [(.int .i64 (0)), (.int .i64 (0))])), (3, (.cells false [(.bool (false))])), (4, (.cells false [(.int .i64 (v.1.2.2.1.1.1)), (.int .i64 (v.1.2.2.1.1.2.1)), (.int .i64 (v.1.2.2.1.2.1.1)), (.int .i64 (v.1.2.2.1.2.1.2.1))])), (6, (.cells false [(.int .i64 (v.1.2.2.1.1.1)), (.int .i64 (v.1.2.2.1.1.2.1))])), (7, (.cells false [(.int .i64 (v.1.2.2.1.2.1.1)), (.int .i64 (v.1.2.2.1.2.1.2.1))])), (8, (.cells false [(.int .i64 x25), (.int .i64 x26)])), (9, (.cells false [(.int .i64 x25), (.int .i64 x26)])), (10, (.cells false [(.int .i64 (v.2.1.1)), (.int .i64 (v.2.1.2.1))])), (11, (.cells false [(.int .i64 x31), (.int .i64 x32)])), (12, (.cells false [(.int .i64 x31), (.int .i64 x32)])), (13, (.cells false [(.vs tP (v.1.2.1.1) (v.1.2.1.2))]))]), [], [⟨false, .normal⟩], 29, false⟩, ⟨9, [⟨14, 38, 10, (tmOf 38 [(0, (.agg [(.str (v.1.1)), (.vs tP (v.1.2.1.1) (v.1.2.1.2)), (.int .i64 (v.1.2.2.1.1.1)), (.int .i64 (v.1.2.2.1.1.2.1)), (.int .i64 (v.1.2.2.1.2.1.1)), (.int .i64 (v.1.2.2.1.2.1.2.1)), (.int .i64 (v.2.1.1)), (.int .i64 (v.2.1.2.1))])), (1, (.int .i64 (r))), (2, (.ptr 0 0)), (3, (.ptr 1 0)), (4, (.ptr 2 0)), (5, (.ptr 3 0)), (6, (.ptr 8 0)), (7, (.ptr 12 0)), (10, (.ptr 0 0)), (11, (.ptr 0 2)), (12, (.agg [(.int .i64 (v.1.2.2.1.1.1)), (.int .i64 (v.1.2.2.1.1.2.1)), (.int .i64 (v.1.2.2.1.2.1.1)), (.int .i64 (v.1.2.2.1.2.1.2.1))])), (13, (.fn 111 [] [(.ptr 4 0)])), (14, (.agg [(.int .i64 x25), (.int .i64 x26)])), (15, (.agg [(.int .i64 x25), (.int .i64 x26)])), (16, (.ptr 0 6)), (17, (.agg [(.int .i64 (v.2.1.1)), (.int .i64 (v.2.1.2.1))])), (18, (.agg [(.int .i64 x31), (.int .i64 x32)])), (19, (.agg [(.str (v.1.1)), (.vs tP (v.1.2.1.1) (v.1.2.1.2)), (.int .i64 (v.1.2.2.1.1.1)), (.int .i64 (v.1.2.2.1.1.2.1)), (.int .i64 (v.1.2.2.1.2.1.1)), (.int .i64 (v.1.2.2.1.2.1.2.1)), (.int .i64 (v.2.1.1)), (.int .i64 (v.2.1.2.1))])), (20, (.agg [(.int .i64 x31), (.int .i64 x32)])), (21, (.int .i64 (r))), (22, (.bool (false))), (24, (.ptr 0 0)), (25, (.ptr 0 1)), (26, (.vs tP (v.1.2.1.1) (v.1.2.1.2))), (27, (.fn 131 [] [(.ptr 13 0)]))]), #[28, 29], (pcOf N2 108 [0, 0, 1, 0, 1, 1, 0, 1, 0, 1, 0, 1, 0, 1]), (pcOf N2 108 [1, 0, 1, 0, 1, 1, 0, 1, 0, 1, 0, 1, 0, 1])⟩]⟩, [(.lop (pcOf N2 131 [0, 0, 1]) 15 (tmOf 29 [(0, (.yld 14)), (1, (.ptr 13 0)), (6, (.vs tP (v.1.2.1.1) (v.1.2.1.2))), (7, (.int .i64 (Int.ofNat v.1.2.1.2.length))), (8, (.int .i64 (0)))]) x78), (.blk 0), (.cal [] (.rng (tmOf 38 [(0, (.agg [(.str (v.1.1)), (.vs tP (v.1.2.1.1) (v.1.2.1.2)), (.int .i64 (v.1.2.2.1.1.1)), (.int .i64 (v.1.2.2.1.1.2.1)), (.int .i64 (v.1.2.2.1.2.1.1)), (.int .i64 (v.1.2.2.1.2.1.2.1)), (.int .i64 (v.2.1.1)), (.int .i64 (v.2.1.2.1))])), (1, (.int .i64 (r))), (2, (.ptr 0 0)), (3, (.ptr 1 0)), (4, (.ptr 2 0)), (5, (.ptr 3 0)), (6, (.ptr 8 0)), (7, (.ptr 12 0)), (10, (.ptr 0 0)), (11, (.ptr 0 2)), (12, (.agg [(.int .i64 (v.1.2.2.1.1.1)), (.int .i64 (v.1.2.2.1.1.2.1)), (.int .i64 (v.1.2.2.1.2.1.1)), (.int .i64 (v.1.2.2.1.2.1.2.1))])), (13, (.fn 111 [] [(.ptr 4 0)])), (14, (.agg [(.int .i64 x25), (.int .i64 x26)])), (15, (.agg [(.int .i64 x25), (.int .i64 x26)])), (16, (.ptr 0 6)), (17, (.agg [(.int .i64 (v.2.1.1)), (.int .i64 (v.2.1.2.1))])), (18, (.agg [(.int .i64 x31), (.int .i64 x32)])), (19, (.agg [(.str (v.1.1)), (.vs tP (v.1.2.1.1) (v.1.2.1.2)), (.int .i64 (v.1.2.2.1.1.1)), (.int .i64 (v.1.2.2.1.1.2.1)), (.int .i64 (v.1.2.2.1.2.1.1)), (.int .i64 (v.1.2.2.1.2.1.2.1)), (.int .i64 (v.2.1.1)), (.int .i64 (v.2.1.2.1))])), (20, (.agg [(.int .i64 x31), (.int .i64 x32)])), (21, (.int .i64 (r))), (22, (.bool (false))), (24, (.ptr 0 0)), (25, (.ptr 0 1)), (26, (.vs tP (v.1.2.1.1) (v.1.2.1.2))), (27, (.fn 131 [] [(.ptr 13 0)]))]) [] 38 true ⟨10, []⟩)), (.blk 2), (.seq (pcOf N2 108 [1, 1, 1, 0, 1, 0, 1, 0, 1, 0, 1])), (.blk 1), (.rnd [] (.op (pcOf N2 111 [0, 1, 0, 0, 1, 1, 0, 0, 1, 1, 0, 0, 1, 1, 0, 0, 1]) 13 (some 29) ((opsOf (pcOf N2 111 [0, 1, 0, 0, 1, 1, 0, 0, 1, 1, 0, 0, 1, 1, 0, 0, 1]).c).toList.drop 13) (tmOf 33 [(0, (.yld 5)), (1, (.ptr 4 0)), (3, (.int .i64 x116)), (4, (.int .i64 x117)), (5, (.ptr 4 0)), (6, (.agg [(.int .i64 (v.1.2.2.1.1.1)), (.int .i64 (v.1.2.2.1.1.2.1))])), (7, (.int .i64 (wr .i64 (wr .i64 (v.1.2.2.1.1.2.1 - v.1.2.2.1.1.1) + 1)))), (8, (.int .i64 x116)), (9, (.bool (true))), (10, (.int .i64 x116)), (11, (.ptr 4 2)), (12, (.agg [(.int .i64 (v.1.2.2.1.2.1.1)), (.int .i64 (v.1.2.2.1.2.1.2.1))])), (13, (.int .i64 (wr .i64 (wr .i64 (v.1.2.2.1.2.1.2.1 - v.1.2.2.1.2.1.1) + 1)))), (14, (.int .i64 x117)), (15, (.bool (true))), (16, (.int .i64 x117)), (17, (.yld 5)), (18, (.ptr 4 0)), (19, (.ptr 4 0)), (20, (.int .i64 (v.1.2.2.1.1.1))), (21, (.int .i64 x116)), (22, (.int .i64 x25)), (23, (.ptr 4 2)), (24, (.ptr 4 2)), (25, (.int .i64 (v.1.2.2.1.2.1.1))), (26, (.int .i64 x117)), (27, (.int .i64 x26)), (28, (.agg [(.int .i64 x25), (.int .i64 x26)]))]) [] 33 false ⟨9, [⟨5, 38, 10, (tmOf 38 [(0, (.agg [(.str (v.1.1)), (.vs tP (v.1.2.1.1) (v.1.2.1.2)), (.int .i64 (v.1.2.2.1.1.1)), (.int .i64 (v.1.2.2.1.1.2.1)), (.int .i64 (v.1.2.2.1.2.1.1)), (.int .i64 (v.1.2.2.1.2.1.2.1)), (.int .i64 (v.2.1.1)), (.int .i64 (v.2.1.2.1))])), (1, (.int .i64 (r))), (2, (.ptr 0 0)), (3, (.ptr 1 0)), (4, (.ptr 2 0)), (5, (.ptr 3 0)), (10, (.ptr 0 0)), (11, (.ptr 0 2)), (12, (.agg [(.int .i64 (v.1.2.2.1.1.1)), (.int .i64 (v.1.2.2.1.1.2.1)), (.int .i64 (v.1.2.2.1.2.1.1)), (.int .i64 (v.1.2.2.1.2.1.2.1))])), (13, (.fn 111 [] [(.ptr 4 0)]))]), #[14], (pcOf N2 108 [0, 0, 1, 0, 1, 0, 1]), (pcOf N2 108 [1, 0, 1, 0, 1, 0, 1])⟩]⟩)), (.seq (pcOf N2 111 [1, 1, 0, 0, 1, 1, 0, 0, 1, 1, 0, 0, 1, 1, 0, 0, 1])), (.blk 3), (.seq (pcOf N2 111 [1, 1, 1, 0, 0, 1, 1, 0, 0, 1, 1, 0, 0, 1])), (.lop (pcOf N2 111 [0, 0, 1, 1, 0, 0, 1, 1, 0, 0, 1]) 8 (tmOf 33 [(0, (.yld 5)), (1, (.ptr 4 0)), (3, (.int .i64 x116)), (5, (.ptr 4 0)), (6, (.agg [(.int .i64 (v.1.2.2.1.1.1)), (.int .i64 (v.1.2.2.1.1.2.1))])), (7, (.int .i64 (wr .i64 (wr .i64 (v.1.2.2.1.1.2.1 - v.1.2.2.1.1.1) + 1)))), (8, (.int .i64 x116)), (9, (.bool (true))), (10, (.int .i64 x116)), (11, (.ptr 4 2)), (12, (.agg [(.int .i64 (v.1.2.2.1.2.1.1)), (.int .i64 (v.1.2.2.1.2.1.2.1))])), (13, (.int .i64 (wr .i64 (wr .i64 (v.1.2.2.1.2.1.2.1 - v.1.2.2.1.2.1.1) + 1)))), (14, (.int .i64 (0)))]) x163), (.blk 2), (.blk 1), (.seq (pcOf N2 111 [1, 1, 1, 0, 0, 1])), (.lop (pcOf N2 111 [0, 0, 1]) 7 (tmOf 33 [(0, (.yld 5)), (1, (.ptr 4 0)), (5, (.ptr 4 0)), (6, (.agg [(.int .i64 (v.1.2.2.1.1.1)), (.int .i64 (v.1.2.2.1.1.2.1))])), (7, (.int .i64 (wr .i64 (wr .i64 (v.1.2.2.1.1.2.1 - v.1.2.2.1.1.1) + 1)))), (8, (.int .i64 (0)))]) x168), (.blk 0), (.cal [] (.rng (tmOf 38 [(0, (.agg [(.str (v.1.1)), (.vs tP (v.1.2.1.1) (v.1.2.1.2)), (.int .i64 (v.1.2.2.1.1.1)), (.int .i64 (v.1.2.2.1.1.2.1)), (.int .i64 (v.1.2.2.1.2.1.1)), (.int .i64 (v.1.2.2.1.2.1.2.1)), (.int .i64 (v.2.1.1)), (.int .i64 (v.2.1.2.1))])), (1, (.int .i64 (r))), (2, (.ptr 0 0)), (3, (.ptr 1 0)), (4, (.ptr 2 0)), (5, (.ptr 3 0)), (10, (.ptr 0 0)), (11, (.ptr 0 2)), (12, (.agg [(.int .i64 (v.1.2.2.1.1.1)), (.int .i64 (v.1.2.2.1.1.2.1)), (.int .i64 (v.1.2.2.1.2.1.1)), (.int .i64 (v.1.2.2.1.2.1.2.1))])), (13, (.fn 111 [] [(.ptr 4 0)]))]) [] 38 false ⟨10, []⟩)), (.blk 0), (.seq (pcOf N2 108 [1, 1, 0, 1])), (.cal [(.cell 4 27), (.cell 5 4)] .top)]⟩
theorem fmov_start (v : tView.den) (r : Int) : adv N2 (V2 [108, 111, 131]) 3000 (startC N2 108 [tView.av v, .int .i64 r] 10) = some (.stop (fmovI0 v r (0) (1048575))) := by kernel_rfl
theorem fmov_step0 (v : tView.den) (r : Int) (x3 : Int) (x41 : Nat) : adv N2 (V2 [108, 111, 131]) 3000 (fmovI0 v r x3 (x41 + 1)) = (bif !ile (wr .i64 (wr .i64 (v.1.2.2.1.1.2.1 - v.1.2.2.1.1.1) + 1)) x3 then some (.stop (fmovI1 v r (x3) (0) (1048575) (x41 + 1))) else some (.done (.tup [(.agg [(.int .i64 (0)), (.int .i64 (0))]), (.bool (false))]))) := by kernel_rfl
theorem fmov_step1 (v : tView.den) (r : Int) (x0 : Int) (x10 : Int) (x57 : Nat) (x62 : Nat) : adv N2 (V2 [108, 111, 131]) 3000 (fmovI1 v r x0 x10 (x57 + 1) (x62 + 1)) = (let z1 := (wr .i64 (v.2.1.2.1 - wr .i64 (v.1.2.2.1.2.1.1 + x10))); let z2 := (wr .i64 (v.2.1.1 - wr .i64 (v.1.2.2.1.1.1 + x0))); (bif !ile (wr .i64 (wr .i64 (v.1.2.2.1.2.1.2.1 - v.1.2.2.1.2.1.1) + 1)) x10 then (bif cOK v.1.2.1.2 && in11 z2 && in11 z1 && inr r then (bif sidF v.1.2.1.2 z2 z1 r 0 v.1.2.1.2.length then some (.done (.tup [(.agg [(.int .i64 (wr .i64 (v.1.2.2.1.1.1 + x0))), (.int .i64 (wr .i64 (v.1.2.2.1.2.1.1 + x10)))]), (.bool (true))])) else some (.stop (fmovI2 v r (0) (wr .i64 (v.1.2.2.1.1.1 + x0)) (wr .i64 (v.1.2.2.1.2.1.1 + x10)) z2 z1 (1048575) (x0) (x10) (x57 + 1) (x62 + 1)))) else none) else some (.stop (fmovI0 v r (wr .i64 (x0 + 1)) (x62))))) := by kernel_rfl
theorem fmov_step2 (v : tView.den) (r : Int) (x3 : Int) (x25 : Int) (x26 : Int) (x31 : Int) (x32 : Int) (x78 : Nat) (x116 : Int) (x117 : Int) (x163 : Nat) (x168 : Nat) : adv N2 (V2 [108, 111, 131]) 3000 (fmovI2 v r x3 x25 x26 x31 x32 (x78 + 1) x116 x117 (x163 + 1) (x168 + 1)) = (let z1 := (wr .i64 ((v.1.2.1.2.getD ((wr .i64 (x3 + 1)).tmod ↑v.1.2.1.2.length).toNat tP.dflt).2.1 - (v.1.2.1.2.getD x3.toNat tP.dflt).2.1)); let z2 := (wr .i64 ((v.1.2.1.2.getD ((wr .i64 (x3 + 1)).tmod ↑v.1.2.1.2.length).toNat tP.dflt).1 - (v.1.2.1.2.getD x3.toNat tP.dflt).1)); (bif !ile (Int.ofNat v.1.2.1.2.length) x3 then (bif inB x3 v.1.2.1.2.length then (bif ieq (↑v.1.2.1.2.length) 0 then none else (bif inB ((wr .i64 (x3 + 1)).tmod ↑v.1.2.1.2.length) v.1.2.1.2.length then (bif bbeq v.1.2.1.1 v.1.2.1.1 then (bif vsB tP v.1.2.1.2 tP v.1.2.1.2 then (bif bbeq v.1.2.1.1 v.1.2.1.1 then (bif vsB tP v.1.2.1.2 tP v.1.2.1.2 then (bif ieq x31 x31 then (bif ieq x32 x32 then (bif ieq (v.1.2.1.2.getD x3.toNat tP.dflt).1 (v.1.2.1.2.getD x3.toNat tP.dflt).1 then (bif ieq (v.1.2.1.2.getD x3.toNat tP.dflt).2.1 (v.1.2.1.2.getD x3.toNat tP.dflt).2.1 then (bif ieq z2 z2 then (bif ieq z1 z1 then (bif ieq z2 z2 then (bif ieq z1 z1 then (bif !ile 0 (wr .i64 (wr .i64 (wr .i64 ((v.1.2.1.2.getD ((wr .i64 (x3 + 1)).tmod ↑v.1.2.1.2.length).toNat tP.dflt).1 - (v.1.2.1.2.getD x3.toNat tP.dflt).1) * wr .i64 (x32 - (v.1.2.1.2.getD x3.toNat tP.dflt).2.1)) - wr .i64 (wr .i64 ((v.1.2.1.2.getD ((wr .i64 (x3 + 1)).tmod ↑v.1.2.1.2.length).toNat tP.dflt).2.1 - (v.1.2.1.2.getD x3.toNat tP.dflt).2.1) * wr .i64 (x31 - (v.1.2.1.2.getD x3.toNat tP.dflt).1)))) then (bif ieq (v.1.2.1.2.getD ((wr .i64 (x3 + 1)).tmod ↑v.1.2.1.2.length).toNat tP.dflt).1 (v.1.2.1.2.getD ((wr .i64 (x3 + 1)).tmod ↑v.1.2.1.2.length).toNat tP.dflt).1 then (bif ieq (v.1.2.1.2.getD ((wr .i64 (x3 + 1)).tmod ↑v.1.2.1.2.length).toNat tP.dflt).2.1 (v.1.2.1.2.getD ((wr .i64 (x3 + 1)).tmod ↑v.1.2.1.2.length).toNat tP.dflt).2.1 then (bif ieq (v.1.2.1.2.getD x3.toNat tP.dflt).1 (v.1.2.1.2.getD x3.toNat tP.dflt).1 then (bif ieq (v.1.2.1.2.getD x3.toNat tP.dflt).2.1 (v.1.2.1.2.getD x3.toNat tP.dflt).2.1 then (bif ieq (v.1.2.1.2.getD x3.toNat tP.dflt).1 (v.1.2.1.2.getD x3.toNat tP.dflt).1 then (bif ieq (v.1.2.1.2.getD x3.toNat tP.dflt).2.1 (v.1.2.1.2.getD x3.toNat tP.dflt).2.1 then (bif ieq (v.1.2.1.2.getD x3.toNat tP.dflt).1 (v.1.2.1.2.getD x3.toNat tP.dflt).1 then (bif ieq (v.1.2.1.2.getD x3.toNat tP.dflt).2.1 (v.1.2.1.2.getD x3.toNat tP.dflt).2.1 then some (.stop (fmovI1 v r (x116) (wr .i64 (x117 + 1)) (x163) (x168 + 1))) else none) else none) else none) else none) else none) else none) else none) else none) else (bif ieq (v.1.2.1.2.getD ((wr .i64 (x3 + 1)).tmod ↑v.1.2.1.2.length).toNat tP.dflt).1 (v.1.2.1.2.getD ((wr .i64 (x3 + 1)).tmod ↑v.1.2.1.2.length).toNat tP.dflt).1 then (bif ieq (v.1.2.1.2.getD ((wr .i64 (x3 + 1)).tmod ↑v.1.2.1.2.length).toNat tP.dflt).2.1 (v.1.2.1.2.getD ((wr .i64 (x3 + 1)).tmod ↑v.1.2.1.2.length).toNat tP.dflt).2.1 then (bif ieq (v.1.2.1.2.getD x3.toNat tP.dflt).1 (v.1.2.1.2.getD x3.toNat tP.dflt).1 then (bif ieq (v.1.2.1.2.getD x3.toNat tP.dflt).2.1 (v.1.2.1.2.getD x3.toNat tP.dflt).2.1 then (bif ieq (v.1.2.1.2.getD x3.toNat tP.dflt).1 (v.1.2.1.2.getD x3.toNat tP.dflt).1 then (bif ieq (v.1.2.1.2.getD x3.toNat tP.dflt).2.1 (v.1.2.1.2.getD x3.toNat tP.dflt).2.1 then (bif ieq (v.1.2.1.2.getD x3.toNat tP.dflt).1 (v.1.2.1.2.getD x3.toNat tP.dflt).1 then (bif ieq (v.1.2.1.2.getD x3.toNat tP.dflt).2.1 (v.1.2.1.2.getD x3.toNat tP.dflt).2.1 then some (.stop (fmovI2 v r (wr .i64 (x3 + 1)) (x25) (x26) (x31) (x32) (x78) (x116) (x117) (x163 + 1) (x168 + 1))) else none) else none) else none) else none) else none) else none) else none) else none)) else none) else none) else none) else none) else none) else none) else none) else none) else none) else none) else none) else none) else none)) else none) else some (.done (.tup [(.agg [(.int .i64 (x25)), (.int .i64 (x26))]), (.bool (true))])))) := by kernel_rfl
noncomputable def tupM (o : Int × Int × Bool) : AV := .tup [.agg [.int .i64 o.1, .int .i64 o.2.1], .bool o.2.2]
noncomputable def incF (C : List tP.den) (dx dy r : Int) : Bool := sidF C dx dy r 0 C.length || liesF C dx dy 0 C.length
noncomputable def fmY (C : List tP.den) (fx fy r x : Int) : Int → Nat → Int × Int × Bool
 | _, 0 => (0, 0, false)
 | y, n + 1 => bif incF C (fx - x) (fy - y) r then (x, y, true) else fmY C fx fy r x (y + 1) n
noncomputable def fmX (C : List tP.den) (fx fy r y0 : Int) (ny : Nat) : Int → Nat → Int × Int × Bool
 | _, 0 => (0, 0, false)
 | x, n + 1 => bif (fmY C fx fy r x y0 ny).2.2 then fmY C fx fy r x y0 ny else fmX C fx fy r y0 ny (x + 1) n
section
variable (v : tView.den) (r : Int) (C : List tP.den) (hC : v.1.2.1.2 = C) (hi8 : C.length < 1000) (hin : inC C)
include hC hi8 hin
theorem fm2_ans (ux uy dx dy x0 x10 : Int) (my mx : Nat) (A : AV) (b1 : in11 dx = true) (b2 : in11 dy = true) :
  ∀ (n k m : Nat), k + n = C.length → n < m → (liesF C dx dy k n = true → A = tupM (ux, uy, true)) → (liesF C dx dy k n = false → Ans N2 (fmovI1 v r x0 (wr .i64 (x10 + 1)) my (mx + 1)) A) →
   Ans N2 (fmovI2 v r k ux uy dx dy m x0 x10 (my + 1) (mx + 1)) A
 | 0, k, m + 1, hk, hm, ht, hf => by
  have h := fmov_step2 v r k ux uy dx dy m x0 x10 my mx
  simp only [hC, Int.ofNat_eq_natCast, ile_ge (show C.length ≤ k by omega), Bool.not_true, cond_false] at h
  rw [ht (by trivial)]
  exact .done (V2_ok _) N2sy h rfl
 | n + 1, k, m + 1, hk, hm, ht, hf => by
  have h := fmov_step2 v r k ux uy dx dy m x0 x10 my mx
  have hlt : k < C.length := by omega
  have hq : (k + 1) % C.length < C.length := Nat.mod_lt _ (by omega)
  have hne : ieq (C.length : Int) 0 = false := by rw [ieq_iff]; exact decide_eq_false (by omega)
  have k1 := in11_iff.1 b1
  have k2 := in11_iff.1 b2
  have s := side_b hin hlt (dx := dx) (dy := dy) (by omega) (by omega)
  have hb1 := hin k hlt
  have hb2 := hin _ hq
  rw [liesF] at ht hf
  generalize hL : sL C k dx dy = L at ht hf
  generalize hA : sA C k = A' at s
  have hAe : gx C ((k + 1) % C.length) - gx C k = A' := hA
  have hLe : A' * (dy - gy C k) - sB C k * (dx - gx C k) = L := by rw [← hA]; exact hL
  simp only [hC, Int.ofNat_eq_natCast, ile_lt hlt, inB_at hlt, nxt_at, inB_at hq, hne, nat_to, ieq_self, bbeq_self, vsB_self, wr_succ (show k < 1048577 by omega), Bool.not_false, cond_true, cond_false] at h
  have f1 : ∀ j, (C.getD j tP.dflt).1 = gx C j := fun j => rfl
  have f2 : ∀ j, (C.getD j tP.dflt).2.1 = gy C j := fun j => rfl
  simp only [f1, f2] at h
  have w1 : wr .i64 (gx C ((k + 1) % C.length) - gx C k) = A' := by rw [wr_in (by omega) (by omega)]; exact hAe
  have w2 : wr .i64 (gy C ((k + 1) % C.length) - gy C k) = sB C k := by rw [wr_in (by omega) (by omega)]; rfl
  have w4 : wr .i64 (dx - gx C k) = dx - gx C k := wr_in (by omega) (by omega)
  have w5 : wr .i64 (dy - gy C k) = dy - gy C k := wr_in (by omega) (by omega)
  have w6 : wr .i64 (A' * (dy - gy C k)) = A' * (dy - gy C k) := wr_in (by omega) (by omega)
  have w7 : wr .i64 (sB C k * (dx - gx C k)) = sB C k * (dx - gx C k) := wr_in (by omega) (by omega)
  have w8 : wr .i64 (A' * (dy - gy C k) - sB C k * (dx - gx C k)) = L := by rw [wr_in (by omega) (by omega)]; exact hLe
  simp only [w1, w2, w4, w5, w6, w7, w8] at h
  cases e : ile 0 L with
  | true =>
   simp only [e, Bool.not_true, cond_true, cond_false] at h ht hf
   exact .stop (V2_ok _) N2sy h (fm2_ans ux uy dx dy x0 x10 my mx A b1 b2 n (k + 1) m (by omega) (by omega) ht hf)
  | false =>
   simp only [e, Bool.not_false, cond_true, cond_false] at h hf
   exact .stop (V2_ok _) N2sy h (hf (by trivial))
variable (fx fy x0 x1 y0 y1 : Int) (e1 : v.2.1.1 = fx) (e2 : v.2.1.2.1 = fy) (e3 : v.1.2.2.1.1.1 = x0) (e4 : v.1.2.2.1.1.2.1 = x1) (e5 : v.1.2.2.1.2.1.1 = y0) (e6 : v.1.2.2.1.2.1.2.1 = y1)
  (hcc : cOK C = true) (b1 : in10 fx = true) (b2 : in10 fy = true) (b3 : in5 x0 = true) (b4 : in5 x1 = true) (b5 : in5 y0 = true) (b6 : in5 y1 = true) (b7 : inr r = true) (nx ny : Nat) (hnx : x1 - x0 + 1 = nx) (hny : y1 - y0 + 1 = ny)
include e1 e2 e3 e4 e5 e6 hcc b1 b2 b3 b4 b5 b6 b7 hnx hny
theorem fm1_ans (i mx : Nat) (hi : i < nx) (A : AV) : ∀ (n k m : Nat), k + n = ny → n < m →
  ((fmY C fx fy r (x0 + i) (y0 + k) n).2.2 = true → A = tupM (fmY C fx fy r (x0 + i) (y0 + k) n)) →
  ((fmY C fx fy r (x0 + i) (y0 + k) n).2.2 = false → Ans N2 (fmovI0 v r (wr .i64 ((i : Int) + 1)) mx) A) → Ans N2 (fmovI1 v r i k m (mx + 1)) A
 | 0, k, m + 1, hk, hm, ht, hf => by
  have h := fmov_step1 v r i k m mx
  have k5 := in5_iff.1 b5
  have k6 := in5_iff.1 b6
  have w : wr .i64 (wr .i64 (y1 - y0) + 1) = (ny : Int) := by rw [wr_in (n := y1 - y0) (by omega) (by omega), wr_in (by omega) (by omega)]; exact hny
  simp only [e5, e6, w, ile_ge (show ny ≤ k by omega), Bool.not_true, cond_false] at h
  exact .stop (V2_ok _) N2sy h (hf (by trivial))
 | n + 1, k, m + 1, hk, hm, ht, hf => by
  have h := fmov_step1 v r i k m mx
  have k1 := in10_iff.1 b1
  have k2 := in10_iff.1 b2
  have k3 := in5_iff.1 b3
  have k4 := in5_iff.1 b4
  have k5 := in5_iff.1 b5
  have k6 := in5_iff.1 b6
  have w : wr .i64 (wr .i64 (y1 - y0) + 1) = (ny : Int) := by rw [wr_in (n := y1 - y0) (by omega) (by omega), wr_in (by omega) (by omega)]; exact hny
  have w1 : wr .i64 (x0 + (i : Int)) = x0 + i := wr_in (by omega) (by omega)
  have w2 : wr .i64 (y0 + (k : Int)) = y0 + k := wr_in (by omega) (by omega)
  have w3 : wr .i64 (fx - (x0 + (i : Int))) = fx - (x0 + i) := wr_in (by omega) (by omega)
  have w4 : wr .i64 (fy - (y0 + (k : Int))) = fy - (y0 + k) := wr_in (by omega) (by omega)
  have c1 : in11 (fx - (x0 + (i : Int))) = true := by rw [in11_iff]; omega
  have c2 : in11 (fy - (y0 + (k : Int))) = true := by rw [in11_iff]; omega
  simp only [hC, e1, e2, e3, e5, e6, w, w1, w2, w3, w4, hcc, c1, c2, b7, ile_lt (show k < ny by omega), Bool.and_self, Bool.not_false, cond_true] at h
  rw [fmY] at ht hf
  have hs : wr .i64 ((k : Int) + 1) = ((k + 1 : Nat) : Int) := wr_succ (show k < 1048577 by omega)
  have hy : y0 + (k : Int) + 1 = y0 + ((k + 1 : Nat) : Int) := by omega
  have ih := fm1_ans i mx hi A n (k + 1) m (by omega) (by omega)
  rw [← hy] at ih
  cases e : sidF C (fx - (x0 + (i : Int))) (fy - (y0 + (k : Int))) r 0 C.length with
  | true =>
   simp only [e, cond_true] at h
   simp only [incF, e, Bool.true_or, cond_true] at ht
   rw [ht (by trivial)]
   exact .done (V2_ok _) N2sy h rfl
  | false =>
   simp only [e, cond_false] at h
   simp only [incF, e, Bool.false_or] at ht hf
   refine .stop (V2_ok _) N2sy h (fm2_ans v r C hC hi8 hin _ _ _ _ i k m mx A c1 c2 C.length 0 1048575 (by omega) (by omega) (fun hl => ?_) (fun hl => ?_))
   · rw [hl] at ht; exact ht (by trivial)
   · rw [hl] at ht hf
     rw [hs]
     exact ih ht hf
theorem fm0_ans : ∀ (n i m : Nat), i + n = nx → n < m → Ans N2 (fmovI0 v r i m) (tupM (fmX C fx fy r y0 ny (x0 + i) n))
 | 0, i, m + 1, hk, hm => by
  have h := fmov_step0 v r i m
  have k3 := in5_iff.1 b3
  have k4 := in5_iff.1 b4
  have w : wr .i64 (wr .i64 (x1 - x0) + 1) = (nx : Int) := by rw [wr_in (n := x1 - x0) (by omega) (by omega), wr_in (by omega) (by omega)]; exact hnx
  simp only [e3, e4, w, ile_ge (show nx ≤ i by omega), Bool.not_true, cond_false] at h
  exact .done (V2_ok _) N2sy h rfl
 | n + 1, i, m + 1, hk, hm => by
  have h := fmov_step0 v r i m
  have k3 := in5_iff.1 b3
  have k4 := in5_iff.1 b4
  have k5 := in5_iff.1 b5
  have k6 := in5_iff.1 b6
  have w : wr .i64 (wr .i64 (x1 - x0) + 1) = (nx : Int) := by rw [wr_in (n := x1 - x0) (by omega) (by omega), wr_in (by omega) (by omega)]; exact hnx
  simp only [e3, e4, w, ile_lt (show i < nx by omega), Bool.not_false, cond_true] at h
  have hs : wr .i64 ((i : Int) + 1) = ((i + 1 : Nat) : Int) := wr_succ (show i < 1048577 by omega)
  have hx : x0 + (i : Int) + 1 = x0 + ((i + 1 : Nat) : Int) := by omega
  have ih := fm0_ans n (i + 1) m (by omega) (by omega)
  rw [← hx] at ih
  rw [fmX]
  have h1 := fm1_ans v r C hC hi8 hin fx fy x0 x1 y0 y1 e1 e2 e3 e4 e5 e6 hcc b1 b2 b3 b4 b5 b6 b7 nx ny hnx hny i m (by omega) (tupM (bif (fmY C fx fy r (x0 + i) y0 ny).2.2 then fmY C fx fy r (x0 + i) y0 ny else fmX C fx fy r y0 ny (x0 + i + 1) n)) ny 0 1048575 (by omega) (by omega)
  rw [show y0 + ((0 : Nat) : Int) = y0 by omega] at h1
  refine .stop (V2_ok _) N2sy h (h1 (fun hl => by rw [hl]; rfl) (fun hl => ?_))
  rw [hl, cond_false, hs]
  exact ih
end
noncomputable def fmS (v : tView.den) (r : Int) : Int × Int × Bool := fmX v.1.2.1.2 v.2.1.1 v.2.1.2.1 r v.1.2.2.1.2.1.1 (v.1.2.2.1.2.1.2.1 - v.1.2.2.1.2.1.1 + 1).toNat v.1.2.2.1.1.1 (v.1.2.2.1.1.2.1 - v.1.2.2.1.1.1 + 1).toNat
theorem fmov_call (v : tView.den) (r : Int) (hc : mvC v = true) (hr : inr r = true) : AnsF N2 108 [tView.av v, .int .i64 r] (tupM (fmS v r)) := by
 unfold mvC at hc
 simp only [Bool.and_eq_true] at hc
 obtain ⟨⟨⟨⟨⟨⟨⟨⟨c1, c2⟩, c3⟩, c4⟩, c5⟩, c6⟩, c7⟩, c8⟩, c9⟩ := hc
 refine Ans.call (n := 10) (ext_none (by kernel_rfl)) (hasB_spec (by kernel_rfl)) (.stop (V2_ok _) N2sy (fmov_start v r) ?_)
 obtain ⟨x0, e3⟩ : ∃ y : Int, v.1.2.2.1.1.1 = y := ⟨_, rfl⟩
 obtain ⟨x1, e4⟩ : ∃ y : Int, v.1.2.2.1.1.2.1 = y := ⟨_, rfl⟩
 obtain ⟨y0, e5⟩ : ∃ y : Int, v.1.2.2.1.2.1.1 = y := ⟨_, rfl⟩
 obtain ⟨y1, e6⟩ : ∃ y : Int, v.1.2.2.1.2.1.2.1 = y := ⟨_, rfl⟩
 unfold fmS
 rw [e3] at c4 c8; rw [e4] at c5 c8; rw [e5] at c6 c9; rw [e6] at c7 c9
 rw [e3, e4, e5, e6]
 have k4 := in5_iff.1 c4
 have k5 := in5_iff.1 c5
 have k6 := in5_iff.1 c6
 have k7 := in5_iff.1 c7
 rw [ile_iff] at c8 c9
 simp only [decide_eq_true_eq] at c8 c9
 obtain ⟨a, b⟩ := cOK_in c1
 have ih := fm0_ans v r _ rfl (by omega) b _ _ x0 x1 y0 y1 rfl rfl e3 e4 e5 e6 c1 c2 c3 c4 c5 c6 c7 hr (x1 - x0 + 1).toNat (y1 - y0 + 1).toNat (by omega) (by omega) (x1 - x0 + 1).toNat 0 1048575 (by omega) (by omega)
 rw [show x0 + ((0 : Nat) : Int) = x0 by omega] at ih
 exact ih
noncomputable def LP : List Said := [(108, con2 tView tI (fun v r => mvC v && inr r) (fun v r => .tup [.agg [.int .i64 (fmS v r).1, .int .i64 (fmS v r).2.1], .bool (fmS v r).2.2]))]
theorem LP_ok : ∀ e ∈ LP, SaidG Tryz.prog N2.glob e :=
 saids_cons (SaidOK.g en2 xn2 nn2 tabs_ok.mix (fun _ _ h => con2_spec (t := tView) (u := tI) (fun v r hc => by
  rw [Bool.and_eq_true] at hc
  exact fmov_call v r hc.1 hc.2) h) rfl) saids_nil
noncomputable def N3 : Env := N2.say (under (xOf LP))
theorem en3 : EnvOK Tryz.prog N3 := en2.say _
theorem nn3 : NameOK N3 := nn2.say _
theorem xn3 : ExtOK Tryz.prog N3 := xn2.sayL LP_ok
theorem N3sy : N3.sy = true := rfl
noncomputable def V3 (l : List Nat) : Sy := (V2 []).on LP l
theorem V3_ok (l : List Nat) : (V3 l).ok N3 := Sy.on_ok (V2_ok _)
end Go.Proofs.YtffnpkbopjjdaaaGreatDoor


set_option maxRecDepth 100000
namespace Go.Proofs.YtffnpkbopjjdaaaGreatDoor
open Go Go.Eng
theorem ieq_t' {a b : Int} (h : ieq a b = true) : a = b := by rw [ieq_iff] at h; simpa using h
theorem ieq_f' {a b : Int} (h : ieq a b = false) : a ≠ b := by rw [ieq_iff] at h; simpa using h
noncomputable def goodS (s : tSand.den) : Bool := cOK s.2.1.2 && (inB4 s.2.2.1.1.1 s.2.2.1.1.2.1 s.2.2.1.2.1.1 s.2.2.1.2.1.2.1 && fit4 s.2.2.1.1.1 s.2.2.1.1.2.1 s.2.2.1.2.1.1 s.2.2.1.2.1.2.1) && Nat.ble 3 s.2.1.2.length
theorem sandE_good {s : tSand.den} (h : sandE s = 0) : goodS s = true := by
 unfold sandE at h
 cases c1 : ile 3 (s.2.1.2.length : Int) <;> cases c2 : ile (s.2.1.2.length : Int) 8 <;> simp only [c1, c2, Bool.and_self, Bool.and_true, Bool.and_false, cond_true, cond_false] at h <;> try (exact absurd h (by decide))
 cases c3 : s.2.1.2.all inP <;> simp only [c3, cond_true, cond_false] at h
 · exact absurd h (by decide)
 unfold sandT at h
 cases c4 : inB4 s.2.2.1.1.1 s.2.2.1.1.2.1 s.2.2.1.2.1.1 s.2.2.1.2.1.2.1 <;> simp only [c4, cond_true, cond_false] at h
 · exact absurd h (by decide)
 cases c5 : fit4 s.2.2.1.1.1 s.2.2.1.1.2.1 s.2.2.1.2.1.1 s.2.2.1.2.1.2.1 <;> simp only [c5, cond_true, cond_false] at h
 · exact absurd h (by decide)
 unfold goodS cOK
 rw [c3, c4, c5, Nat.ble_eq_true_of_le (show s.2.1.2.length ≤ 100 by rw [ile_iff] at c2; simp at c2; omega), Nat.ble_eq_true_of_le (show 3 ≤ s.2.1.2.length by rw [ile_iff] at c1; simp at c1; omega)]; rfl
theorem sandN_good {mem : List Nat → Bool} {s : tSand.den} (h : sandN mem s = 0) : goodS s = true := by
 unfold sandN at h
 cases c1 : nameS s.1 <;> simp only [c1, cond_true, cond_false] at h
 · exact absurd h (by decide)
 cases c2 : mem s.1 <;> simp only [c2, cond_true, cond_false] at h
 · exact sandE_good h
 · exact absurd h (by decide)
theorem sandsS_good : ∀ {l : List tSand.den} {mem : List Nat → Bool} {i : Nat}, (sandsS mem i l).2.2 = 0 → l.all goodS = true
 | [], _, _, _ => rfl
 | s :: l, mem, i, h => by
  rw [sandsS] at h
  cases c : ieq (sandN mem s) 0 with
  | false => rw [c, cond_false] at h; exact absurd h (ieq_f' c)
  | true =>
   rw [c, cond_true] at h
   rw [List.all_cons, sandsS_good h, sandN_good (ieq_t' c)]; rfl
theorem marksS_k {k : (List Nat → Bool) → Int × Int × Int} : ∀ {l : List tMark.den} {mem : List Nat → Bool} {i : Nat}, (marksS k mem i l).2.2 = 0 → ∃ mem', marksS k mem i l = k mem'
 | [], mem, i, h => ⟨mem, rfl⟩
 | m :: l, mem, i, h => by
  rw [marksS] at h ⊢
  cases c : ieq (markE mem m) 0 with
  | false => rw [c, cond_false] at h; exact absurd h (ieq_f' c)
  | true =>
   rw [c, cond_true] at h
   obtain ⟨mem', h2⟩ := marksS_k h
   exact ⟨mem', by rw [cond_true]; exact h2⟩
theorem valid_sands {c : tChart.den} (h : (chkS c).2.2 = 0) : c.2.1.2.length ≤ 4 ∧ c.2.1.2.all goodS = true := by
 unfold chkS at h
 cases e : ile (c.1.2.length : Int) 8 <;> rw [e] at h
 · rw [cond_false] at h; exact absurd h (by decide)
 · rw [cond_true] at h
   obtain ⟨mem', h2⟩ := marksS_k h
   rw [h2] at h
   unfold sandsK at h
   cases e2 : ile (c.2.1.2.length : Int) 4 <;> rw [e2] at h
   · rw [cond_false] at h; exact absurd h (by decide)
   · rw [cond_true] at h
     refine ⟨?_, sandsS_good h⟩
     rw [ile_iff] at e2; simp at e2; omega
noncomputable def sd (c : tChart.den) (k : Nat) : tSand.den := c.2.1.2.getD k tSand.dflt
theorem sd_good {c : tChart.den} (h : (chkS c).2.2 = 0) {k : Nat} (hk : k < c.2.1.2.length) : goodS (sd c k) = true :=
 List.all_eq_true.1 (valid_sands h).2 (sd c k) (by unfold sd; simp [hk])
theorem goodS_len {s : tSand.den} (h : goodS s = true) : 3 ≤ s.2.1.2.length := by
 unfold goodS at h
 rw [Bool.and_eq_true] at h
 exact Nat.le_of_ble_eq_true h.2
theorem goodS_iff {s : tSand.den} {x0 x1 y0 y1 : Int} (h0 : s.2.2.1.1.1 = x0) (h1 : s.2.2.1.1.2.1 = x1) (h2 : s.2.2.1.2.1.1 = y0) (h3 : s.2.2.1.2.1.2.1 = y1) (h : goodS s = true) :
  cOK s.2.1.2 = true ∧ ((in5 x0 = true ∧ in5 x1 = true) ∧ in5 y0 = true ∧ in5 y1 = true) ∧ (x0 ≤ x1 ∧ x1 - x0 ≤ 40) ∧ y0 ≤ y1 ∧ y1 - y0 ≤ 40 := by
 unfold goodS at h
 rw [h0, h1, h2, h3] at h
 simp only [Bool.and_eq_true, inB4, fit4] at h
 obtain ⟨⟨a, b, c⟩, _⟩ := h
 simp only [ile_iff, decide_eq_true_eq] at b c
 refine ⟨a, ⟨⟨in5_iff.2 ?_, in5_iff.2 ?_⟩, in5_iff.2 ?_, in5_iff.2 ?_⟩, ?_, ?_⟩ <;> omega
end Go.Proofs.YtffnpkbopjjdaaaGreatDoor


set_option maxRecDepth 100000
namespace Go.Proofs.YtffnpkbopjjdaaaGreatDoor
open Go Go.Eng
noncomputable def ficcI0 (l : (Ty.sl tSand).den) (px py r : Int) (x6 : Bool) (x12 : Int) (x15 : Int) (x16 : Int) (x30 : Nat) : Cfg := ⟨.ex (pcOf N3 73 [0, 0, 1, 0, 1, 1]) ⟨(tmOf 34 [(0, (.vs tSand (l.1) (l.2))), (1, (.agg [(.int .i64 (px)), (.int .i64 (py))])), (2, (.int .i64 (r))), (4, (.ptr 0 0)), (6, (.int .i64 (0))), (7, (.ptr 1 0)), (8, (.bool x6)), (11, (.int .i64 (r))), (12, (.bool (false))), (14, (.vs tSand (l.1) (l.2))), (15, (.int .i64 (Int.ofNat l.2.length))), (16, (.int .i64 x12))]), (hpOf 2 [(0, (.cells false [(.int .i64 (px)), (.int .i64 (py))])), (1, (.cells false [(.int .i64 x15), (.int .i64 x16)]))]), [], [], 34, false⟩, ⟨12, []⟩, [(.lop (pcOf N3 73 [0, 0, 1, 0, 1, 1]) 2 (tmOf 34 [(0, (.vs tSand (l.1) (l.2))), (1, (.agg [(.int .i64 (px)), (.int .i64 (py))])), (2, (.int .i64 (r))), (4, (.ptr 0 0)), (6, (.int .i64 (0))), (7, (.ptr 1 0)), (8, (.bool (false))), (11, (.int .i64 (r))), (12, (.bool (false))), (14, (.vs tSand (l.1) (l.2))), (15, (.int .i64 (Int.ofNat l.2.length))), (16, (.int .i64 (0)))]) x30), (.blk 0), (.seq (pcOf N3 73 [1, 1, 1])), (.cal [(.tmp 6), (.cell 7 27), (.tmp 8)] .top)]⟩
theorem ficc_start (l : (Ty.sl tSand).den) (px py r : Int) : adv N3 (V3 [73]) 3000 (startC N3 73 [.vs tSand l.1 l.2, .agg [.int .i64 px, .int .i64 py], .int .i64 r] 12) = (bif ieq r 0 then some (.done (.tup [(.int .i64 (0)), (.agg [(.int .i64 (0)), (.int .i64 (0))]), (.bool (false))])) else some (.stop (ficcI0 l px py r (false) (0) (0) (0) (1048575)))) := by kernel_rfl
theorem ficc_step0 (l : (Ty.sl tSand).den) (px py r : Int) (x6 : Bool) (x12 : Int) (x15 : Int) (x16 : Int) (x30 : Nat) : adv N3 (V3 [73]) 3000 (ficcI0 l px py r x6 x12 x15 x16 (x30 + 1)) = (bif !ile (Int.ofNat l.2.length) x12 then (bif inB x12 l.2.length then (bif mvC (l.2.getD x12.toNat tSand.dflt, (px, py, ()), ()) && inr r then (bif (fmS (l.2.getD x12.toNat tSand.dflt, (px, py, ()), ()) r).2.2 then (bif ieq (fmS (l.2.getD x12.toNat tSand.dflt, (px, py, ()), ()) r).1 (fmS (l.2.getD x12.toNat tSand.dflt, (px, py, ()), ()) r).1 then (bif ieq (fmS (l.2.getD x12.toNat tSand.dflt, (px, py, ()), ()) r).2.1 (fmS (l.2.getD x12.toNat tSand.dflt, (px, py, ()), ()) r).2.1 then some (.done (.tup [(.int .i64 (x12)), (.agg [(.int .i64 ((fmS (l.2.getD x12.toNat tSand.dflt, (px, py, ()), ()) r).1)), (.int .i64 ((fmS (l.2.getD x12.toNat tSand.dflt, (px, py, ()), ()) r).2.1))]), (.bool (true))])) else none) else none) else some (.stop (ficcI0 l px py r ((fmS (l.2.getD x12.toNat tSand.dflt, (px, py, ()), ()) r).2.2) (wr .i64 (x12 + 1)) ((fmS (l.2.getD x12.toNat tSand.dflt, (px, py, ()), ()) r).1) ((fmS (l.2.getD x12.toNat tSand.dflt, (px, py, ()), ()) r).2.1) (x30)))) else none) else none) else some (.done (.tup [(.int .i64 (0)), (.agg [(.int .i64 (0)), (.int .i64 (0))]), (.bool (false))]))) := by kernel_rfl
noncomputable def rfstI0 (c : tChart.den) (px py r : Int) (x9 : Int) (x28 : Nat) : Cfg := ⟨.ex (pcOf N3 74 [0, 0, 1, 0, 1]) ⟨(tmOf 50 [(0, (.agg [(.vs tMark (c.1.1) (c.1.2)), (.vs tSand (c.2.1.1) (c.2.1.2))])), (1, (.agg [(.int .i64 (px)), (.int .i64 (py))])), (2, (.int .i64 (r))), (3, (.ptr 0 0)), (4, (.ptr 1 0)), (6, (.int .i64 (0))), (7, (.ptr 2 0)), (8, (.bool (false))), (9, (.int .i64 x9))]), (hpOf 3 [(0, (.cells false [(.vs tMark (c.1.1) (c.1.2)), (.vs tSand (c.2.1.1) (c.2.1.2))])), (1, (.cells false [(.int .i64 (px)), (.int .i64 (py))])), (2, (.cells false [(.int .i64 (0)), (.int .i64 (0))]))]), [], [], 50, false⟩, ⟨12, []⟩, [(.lop (pcOf N3 74 [0, 0, 1, 0, 1]) 3 (tmOf 50 [(0, (.agg [(.vs tMark (c.1.1) (c.1.2)), (.vs tSand (c.2.1.1) (c.2.1.2))])), (1, (.agg [(.int .i64 (px)), (.int .i64 (py))])), (2, (.int .i64 (r))), (3, (.ptr 0 0)), (4, (.ptr 1 0)), (6, (.int .i64 (0))), (7, (.ptr 2 0)), (8, (.bool (false))), (9, (.int .i64 (0)))]) x28), (.blk 0), (.seq (pcOf N3 74 [1, 1])), (.cal [(.tmp 6), (.cell 7 27), (.tmp 8)] .top)]⟩
noncomputable def rfstI1 (c : tChart.den) (px py r : Int) (x9 : Int) (x11 : List (Ty.den tP)) (x12 : Int) (x21 : List Nat) (x22 : Bool) (x23 : List (Ty.den tP)) (x24 : Int) (x25 : Int) (x26 : Int) (x27 : Int) (x90 : Nat) (x101 : Nat) : Cfg := ⟨.ex (pcOf N3 74 [0, 0, 1, 1, 0, 0, 1, 0, 0, 1, 0, 1]) ⟨(tmOf 50 [(0, (.agg [(.vs tMark (c.1.1) (c.1.2)), (.vs tSand (c.2.1.1) (c.2.1.2))])), (1, (.agg [(.int .i64 (px)), (.int .i64 (py))])), (2, (.int .i64 (r))), (3, (.ptr 0 0)), (4, (.ptr 1 0)), (6, (.int .i64 (0))), (7, (.ptr 2 0)), (8, (.bool (false))), (9, (.int .i64 x9)), (10, (.vs tP (false) x11)), (11, (.int .i64 x12)), (12, (.int .i64 x9)), (13, (.ptr 0 1)), (14, (.vs tSand (c.2.1.1) (c.2.1.2))), (15, (.int .i64 (Int.ofNat c.2.1.2.length))), (16, (.bool (true))), (19, (.ptr 0 1)), (20, (.vs tSand (c.2.1.1) (c.2.1.2))), (21, (.int .i64 x9)), (22, (.cp [(.str x21), (.vs tP x22 x23), (.int .i64 x24), (.int .i64 x25), (.int .i64 x26), (.int .i64 x27)] 0)), (23, (.cp [(.str x21), (.vs tP x22 x23), (.int .i64 x24), (.int .i64 x25), (.int .i64 x26), (.int .i64 x27)] 2)), (24, (.agg [(.int .i64 x24), (.int .i64 x25), (.int .i64 x26), (.int .i64 x27)])), (25, (.vs tP (false) x11))]), (hpOf 3 [(0, (.cells false [(.vs tMark (c.1.1) (c.1.2)), (.vs tSand (c.2.1.1) (c.2.1.2))])), (1, (.cells false [(.int .i64 (px)), (.int .i64 (py))])), (2, (.cells false [(.int .i64 (0)), (.int .i64 (0))]))]), [], [], 50, false⟩, ⟨12, []⟩, [(.lop (pcOf N3 74 [0, 0, 1, 1, 0, 0, 1, 0, 0, 1, 0, 1]) 3 (tmOf 50 [(0, (.agg [(.vs tMark (c.1.1) (c.1.2)), (.vs tSand (c.2.1.1) (c.2.1.2))])), (1, (.agg [(.int .i64 (px)), (.int .i64 (py))])), (2, (.int .i64 (r))), (3, (.ptr 0 0)), (4, (.ptr 1 0)), (6, (.int .i64 (0))), (7, (.ptr 2 0)), (8, (.bool (false))), (9, (.int .i64 x9)), (10, (.vs tP (false) x11)), (11, (.int .i64 (0))), (12, (.int .i64 x9)), (13, (.ptr 0 1)), (14, (.vs tSand (c.2.1.1) (c.2.1.2))), (15, (.int .i64 (Int.ofNat c.2.1.2.length))), (16, (.bool (true))), (19, (.ptr 0 1)), (20, (.vs tSand (c.2.1.1) (c.2.1.2))), (21, (.int .i64 x9)), (22, (.cp [(.str x21), (.vs tP x22 x23), (.int .i64 x24), (.int .i64 x25), (.int .i64 x26), (.int .i64 x27)] 0)), (23, (.cp [(.str x21), (.vs tP x22 x23), (.int .i64 x24), (.int .i64 x25), (.int .i64 x26), (.int .i64 x27)] 2)), (24, (.agg [(.int .i64 x24), (.int .i64 x25), (.int .i64 x26), (.int .i64 x27)])), (25, (.vs tP (false) x11))]) x90), (.blk 2), (.blk 1), (.seq (pcOf N3 74 [1, 1, 0, 0, 1, 0, 1])), (.lop (pcOf N3 74 [0, 0, 1, 0, 1]) 3 (tmOf 50 [(0, (.agg [(.vs tMark (c.1.1) (c.1.2)), (.vs tSand (c.2.1.1) (c.2.1.2))])), (1, (.agg [(.int .i64 (px)), (.int .i64 (py))])), (2, (.int .i64 (r))), (3, (.ptr 0 0)), (4, (.ptr 1 0)), (6, (.int .i64 (0))), (7, (.ptr 2 0)), (8, (.bool (false))), (9, (.int .i64 (0)))]) x101), (.blk 0), (.seq (pcOf N3 74 [1, 1])), (.cal [(.tmp 6), (.cell 7 27), (.tmp 8)] .top)]⟩
theorem rfst_start (c : tChart.den) (px py r : Int) : adv N3 (V3 [74]) 3000 (startC N3 74 [tChart.av c, .agg [.int .i64 px, .int .i64 py], .int .i64 r] 12) = some (.stop (rfstI0 c px py r (0) (1048575))) := by kernel_rfl
theorem rfst_step0 (c : tChart.den) (px py r : Int) (x9 : Int) (x28 : Nat) : adv N3 (V3 [74]) 3000 (rfstI0 c px py r x9 (x28 + 1)) = (bif !ile (↑c.2.1.2.length) x9 then (bif inB x9 c.2.1.2.length then (bif bK (c.2.1.2.getD x9.toNat tSand.dflt).2.2.1.1.1 (c.2.1.2.getD x9.toNat tSand.dflt).2.2.1.1.2.1 (c.2.1.2.getD x9.toNat tSand.dflt).2.2.1.2.1.1 (c.2.1.2.getD x9.toNat tSand.dflt).2.2.1.2.1.2.1 then some (.stop (rfstI1 c px py r (x9) (pts (c.2.1.2.getD x9.toNat tSand.dflt).2.2.1.1.1 (c.2.1.2.getD x9.toNat tSand.dflt).2.2.1.1.2.1 (c.2.1.2.getD x9.toNat tSand.dflt).2.2.1.2.1.1 (c.2.1.2.getD x9.toNat tSand.dflt).2.2.1.2.1.2.1) (0) ((c.2.1.2.getD x9.toNat tSand.dflt).1) ((c.2.1.2.getD x9.toNat tSand.dflt).2.1.1) ((c.2.1.2.getD x9.toNat tSand.dflt).2.1.2) ((c.2.1.2.getD x9.toNat tSand.dflt).2.2.1.1.1) ((c.2.1.2.getD x9.toNat tSand.dflt).2.2.1.1.2.1) ((c.2.1.2.getD x9.toNat tSand.dflt).2.2.1.2.1.1) ((c.2.1.2.getD x9.toNat tSand.dflt).2.2.1.2.1.2.1) (1048575) (x28 + 1))) else none) else none) else some (.done (.tup [(.int .i64 (0)), (.agg [(.int .i64 (0)), (.int .i64 (0))]), (.bool (false))]))) := by kernel_rfl
theorem rfst_step1 (c : tChart.den) (px py r : Int) (x9 : Int) (x11 : List (Ty.den tP)) (x12 : Int) (x21 : List Nat) (x22 : Bool) (x23 : List (Ty.den tP)) (x24 : Int) (x25 : Int) (x26 : Int) (x27 : Int) (x90 : Nat) (x101 : Nat) : adv N3 (V3 [74]) 3000 (rfstI1 c px py r x9 x11 x12 x21 x22 x23 x24 x25 x26 x27 (x90 + 1) (x101 + 1)) = (bif !ile (↑x11.length) x12 then (bif inB x9 c.2.1.2.length then (bif inB x12 x11.length then (bif cOK (c.2.1.2.getD x9.toNat tSand.dflt).2.1.2 && in5 (x11.getD x12.toNat tP.dflt).1 && in5 (x11.getD x12.toNat tP.dflt).2.1 && in10 px && in10 py && inr r then (bif ieq px px then (bif ieq py py then (bif bbeq c.2.1.1 c.2.1.1 then (bif vsB tSand c.2.1.2 tSand c.2.1.2 then (bif insF (c.2.1.2.getD x9.toNat tSand.dflt).2.1.2 (px - (x11.getD x12.toNat tP.dflt).1) (py - (x11.getD x12.toNat tP.dflt).2.1) r then (bif inB x12 x11.length then some (.done (.tup [(.int .i64 (x9)), (.agg [(.int .i64 ((x11.getD x12.toNat tP.dflt).1)), (.int .i64 ((x11.getD x12.toNat tP.dflt).2.1))]), (.bool (true))])) else none) else some (.stop (rfstI1 c px py r (x9) (x11) (wr .i64 (x12 + 1)) (x21) (x22) (x23) (x24) (x25) (x26) (x27) (x90) (x101 + 1)))) else none) else none) else none) else none) else none) else none) else none) else some (.stop (rfstI0 c px py r (wr .i64 (x9 + 1)) (x101)))) := by kernel_rfl
theorem rowY_inS {x : Int} : ∀ {r : Nat} {y : Int} {p : tP.den}, p ∈ rowY x y r → ∃ v : Int, p = (x, v, ()) ∧ y ≤ v ∧ v < y + r
 | 0, _, _, h => by cases h
 | r + 1, y, p, h => by
  rw [rowY, List.mem_cons] at h
  rcases h with rfl | h
  · exact ⟨y, rfl, by omega, by omega⟩
  · obtain ⟨v, h1, h2, h3⟩ := rowY_inS h
    exact ⟨v, h1, by omega, by omega⟩
theorem ptsX_inS {y0 : Int} {n : Nat} : ∀ {r : Nat} {x : Int} {p : tP.den}, p ∈ ptsX y0 n x r → ∃ u v : Int, p = (u, v, ()) ∧ (x ≤ u ∧ u < x + r) ∧ y0 ≤ v ∧ v < y0 + n
 | 0, _, _, h => by cases h
 | r + 1, x, p, h => by
  rw [ptsX, List.mem_append] at h
  rcases h with h | h
  · obtain ⟨v, h1, h2, h3⟩ := rowY_inS h
    exact ⟨x, v, h1, ⟨by omega, by omega⟩, h2, h3⟩
  · obtain ⟨u, v, h1, ⟨h2, h3⟩, h4⟩ := ptsX_inS h
    exact ⟨u, v, h1, ⟨by omega, by omega⟩, h4⟩
theorem ptsX_lenS (y0 : Int) (n : Nat) : ∀ (r : Nat) (x : Int), (ptsX y0 n x r).length = r * n
 | 0, _ => by rw [Nat.zero_mul]; rfl
 | r + 1, x => by rw [ptsX, List.length_append, rowY_len, ptsX_lenS y0 n r, Nat.add_mul, Nat.one_mul, Nat.add_comm]
theorem goodS_mv {s : tSand.den} {px py : Int} (hg : goodS s = true) (h1 : in10 px = true) (h2 : in10 py = true) : mvC (s, (px, py, ()), ()) = true := by
 obtain ⟨x0, e0⟩ : ∃ y : Int, s.2.2.1.1.1 = y := ⟨_, rfl⟩
 obtain ⟨x1, e1⟩ : ∃ y : Int, s.2.2.1.1.2.1 = y := ⟨_, rfl⟩
 obtain ⟨y0, e2⟩ : ∃ y : Int, s.2.2.1.2.1.1 = y := ⟨_, rfl⟩
 obtain ⟨y1, e3⟩ : ∃ y : Int, s.2.2.1.2.1.2.1 = y := ⟨_, rfl⟩
 obtain ⟨g1, ⟨⟨g2, g3⟩, g4, g5⟩, g6, g7⟩ := goodS_iff e0 e1 e2 e3 hg
 unfold mvC
 show (cOK s.2.1.2 && in10 px && in10 py && in5 s.2.2.1.1.1 && in5 s.2.2.1.1.2.1 && in5 s.2.2.1.2.1.1 && in5 s.2.2.1.2.1.2.1 && ile s.2.2.1.1.1 s.2.2.1.1.2.1 && ile s.2.2.1.2.1.1 s.2.2.1.2.1.2.1) = true
 rw [e0, e1, e2, e3, g1, g2, g3, g4, g5, h1, h2, show ile x0 x1 = true by rw [ile_iff]; exact decide_eq_true g6.1, show ile y0 y1 = true by rw [ile_iff]; exact decide_eq_true g7.1]
 rfl
noncomputable def tupF (o : Int × Int × Int × Bool) : AV := .tup [.int .i64 o.1, .agg [.int .i64 o.2.1, .int .i64 o.2.2.1], .bool o.2.2.2]
noncomputable def fmP (s : tSand.den) (px py r : Int) : Int × Int × Bool := fmS (s, (px, py, ()), ()) r
noncomputable def firF (S : List tSand.den) (px py r : Int) : Nat → Nat → Int × Int × Int × Bool
 | _, 0 => (0, 0, 0, false)
 | k, n + 1 => bif (fmP (S.getD k tSand.dflt) px py r).2.2 then ((k : Int), (fmP (S.getD k tSand.dflt) px py r).1, (fmP (S.getD k tSand.dflt) px py r).2.1, true) else firF S px py r (k + 1) n
noncomputable def firS (S : List tSand.den) (px py r : Int) : Int × Int × Int × Bool := bif ieq r 0 then (0, 0, 0, false) else firF S px py r 0 S.length
noncomputable def sC (S : List tSand.den) : Bool := Nat.ble S.length 4 && S.all goodS
theorem sC_iff {S : List tSand.den} (h : sC S = true) : S.length ≤ 4 ∧ ∀ k, k < S.length → goodS (S.getD k tSand.dflt) = true := by
 unfold sC at h
 rw [Bool.and_eq_true] at h
 refine ⟨Nat.le_of_ble_eq_true h.1, fun k hk => List.all_eq_true.1 h.2 _ (by simp [hk])⟩
theorem ficc_ans (l : (Ty.sl tSand).den) (px py r : Int) (S : List tSand.den) (hS : l.2 = S) (hs : sC S = true) (h1 : in10 px = true) (h2 : in10 py = true) (h3 : inr r = true) :
  ∀ (n k m : Nat) (b : Bool) (x y : Int), k + n = S.length → n < m → Ans N3 (ficcI0 l px py r b k x y m) (tupF (firF S px py r k n))
 | 0, k, m + 1, b, x, y, hk, hm => by
  have h := ficc_step0 l px py r b k x y m
  simp only [hS, Int.ofNat_eq_natCast, ile_ge (show S.length ≤ k by omega), Bool.not_true, cond_false] at h
  exact .done (V3_ok _) N3sy h rfl
 | n + 1, k, m + 1, b, x, y, hk, hm => by
  have h := ficc_step0 l px py r b k x y m
  have hlt : k < S.length := by omega
  obtain ⟨s1, s2⟩ := sC_iff hs
  have hv := goodS_mv (s2 k hlt) h1 h2
  have hp : fmS (S.getD k tSand.dflt, (px, py, ()), ()) r = fmP (S.getD k tSand.dflt) px py r := rfl
  simp only [hS, Int.ofNat_eq_natCast, ile_lt hlt, inB_at hlt, nat_to, hv, h3, hp, ieq_self, wr_succ (show k < 1048577 by omega), Bool.and_self, Bool.not_false, cond_true] at h
  rw [firF]
  cases e : (fmP (S.getD k tSand.dflt) px py r).2.2 with
  | true =>
   simp only [e, cond_true] at h ⊢
   exact .done (V3_ok _) N3sy h rfl
  | false =>
   simp only [e, cond_false] at h ⊢
   exact .stop (V3_ok _) N3sy h (ficc_ans l px py r S hS hs h1 h2 h3 n (k + 1) m _ _ _ (by omega) (by omega))
theorem ficc_call (l : (Ty.sl tSand).den) (p : tP.den) (r : Int) (hs : sC l.2 = true) (h1 : in10 p.1 = true) (h2 : in10 p.2.1 = true) (h3 : inr r = true) : AnsF N3 73 [(Ty.sl tSand).av l, tP.av p, .int .i64 r] (tupF (firS l.2 p.1 p.2.1 r)) := by
 refine Ans.call (n := 12) (ext_none (by kernel_rfl)) (hasB_spec (by kernel_rfl)) ?_
 have h := ficc_start l p.1 p.2.1 r
 have hav : startC N3 73 [(Ty.sl tSand).av l, tP.av p, .int .i64 r] 12 = startC N3 73 [.vs tSand l.1 l.2, .agg [.int .i64 p.1, .int .i64 p.2.1], .int .i64 r] 12 := rfl
 rw [hav]
 unfold firS
 obtain ⟨s1, s2⟩ := sC_iff hs
 cases e : ieq r 0 with
 | true => rw [e, cond_true] at h; rw [cond_true]; exact .done (V3_ok _) N3sy h rfl
 | false =>
  rw [e, cond_false] at h; rw [cond_false]
  exact .stop (V3_ok _) N3sy h (ficc_ans l p.1 p.2.1 r _ rfl hs h1 h2 h3 _ 0 1048575 _ _ _ (by omega) (by omega))
noncomputable def fnd (C : List tP.den) (px py r : Int) : List tP.den → Int × Int × Bool
 | [] => (0, 0, false)
 | p :: l => bif insF C (px - p.1) (py - p.2.1) r then (p.1, p.2.1, true) else fnd C px py r l
theorem fnd_app (C : List tP.den) (px py r : Int) (b : List tP.den) : ∀ a, fnd C px py r (a ++ b) = bif (fnd C px py r a).2.2 then fnd C px py r a else fnd C px py r b
 | [] => rfl
 | p :: a => by
  rw [List.cons_append, fnd, fnd, fnd_app C px py r b a]
  cases insF C (px - p.1) (py - p.2.1) r <;> rfl
theorem insF_inc {C : List tP.den} {dx dy r : Int} (h : ile r 0 = false) : insF C dx dy r = incF C dx dy r := by
 unfold insF incF; rw [h, cond_false, Bool.or_comm]
theorem fnd_row {C : List tP.den} {px py r : Int} (h : ile r 0 = false) (x : Int) : ∀ (n : Nat) (y : Int), fnd C px py r (rowY x y n) = fmY C px py r x y n
 | 0, _ => rfl
 | n + 1, y => by
  rw [rowY, fnd, fmY, fnd_row h x n (y + 1), insF_inc h]
theorem fnd_pts {C : List tP.den} {px py r : Int} (h : ile r 0 = false) (y0 : Int) (ny : Nat) : ∀ (n : Nat) (x : Int), fnd C px py r (ptsX y0 ny x n) = fmX C px py r y0 ny x n
 | 0, _ => rfl
 | n + 1, x => by
  rw [ptsX, fnd_app, fmX, fnd_pts h y0 ny n (x + 1), fnd_row h]
theorem near_zero (ax ay vx vy : Int) : nearI ax ay vx vy 0 = false := by
 have sq : ∀ a : Int, 0 ≤ a * a := fun a => by
  by_cases h : 0 ≤ a
  · exact Int.mul_nonneg h h
  · rw [← Int.neg_mul_neg]; exact Int.mul_nonneg (by omega) (by omega)
 have key : ∀ z : Int, 0 ≤ z → (!ile 0 z) = false := fun z hz => by rw [ile_iff, decide_eq_true hz]; rfl
 unfold nearI
 simp only [Int.zero_mul, Int.mul_zero]
 rw [key _ (Int.add_nonneg (sq _) (sq _)), key _ (Int.add_nonneg (sq _) (sq _)), key _ (sq _)]
 cases ile (ax * vx + ay * vy) 0 <;> cases ile (ax * ax + ay * ay) (ax * vx + ay * vy) <;> rfl
theorem sidF_zero (C : List tP.den) (dx dy : Int) : ∀ (n k : Nat), sidF C dx dy 0 k n = false
 | 0, _ => rfl
 | n + 1, k => by rw [sidF, near_zero, cond_false, sidF_zero C dx dy n (k + 1)]
theorem fnd_zero (C : List tP.den) (px py : Int) : ∀ l, fnd C px py 0 l = (0, 0, false)
 | [] => rfl
 | p :: l => by
  rw [fnd, fnd_zero C px py l]
  unfold insF
  rw [sidF_zero]; rfl
theorem rfst_ans1 (c : tChart.den) (px py r : Int) (S : List tSand.den) (hS : c.2.1.2 = S) (hs : sC S = true) (h1 : in10 px = true) (h2 : in10 py = true) (h3 : inr r = true) (i : Nat) (hi : i < S.length) (L : List tP.den) (hL : ∀ p ∈ L, in5 p.1 = true ∧ in5 p.2.1 = true) (hl : L.length ≤ 1000000) (M : Nat) (A : AV) (a1 : List Nat) (a2 : Bool) (a3 : List tP.den) (a4 a5 a6 a7 : Int) :
  ∀ (n k m : Nat), k + n = L.length → n < m → ((fnd (S.getD i tSand.dflt).2.1.2 px py r (L.drop k)).2.2 = true → A = tupF ((i : Int), fnd (S.getD i tSand.dflt).2.1.2 px py r (L.drop k))) →
   ((fnd (S.getD i tSand.dflt).2.1.2 px py r (L.drop k)).2.2 = false → Ans N3 (rfstI0 c px py r (wr .i64 ((i : Int) + 1)) M) A) → Ans N3 (rfstI1 c px py r i L k a1 a2 a3 a4 a5 a6 a7 m (M + 1)) A
 | 0, k, m + 1, hk, hm, ht, hf => by
  have h := rfst_step1 c px py r i L k a1 a2 a3 a4 a5 a6 a7 m M
  simp only [ile_ge (show L.length ≤ k by omega), Bool.not_true, cond_false] at h
  rw [List.drop_eq_nil_of_le (by omega)] at hf
  exact .stop (V3_ok _) N3sy h (hf rfl)
 | n + 1, k, m + 1, hk, hm, ht, hf => by
  have h := rfst_step1 c px py r i L k a1 a2 a3 a4 a5 a6 a7 m M
  have hlt : k < L.length := by omega
  have hd : L.drop k = L.getD k tP.dflt :: L.drop (k + 1) := by rw [List.drop_eq_getElem_cons hlt]; simp [hlt]
  have hp := hL (L.getD k tP.dflt) (by simp [hlt])
  have hg := (sC_iff hs).2 i hi
  have hcc : cOK (S.getD i tSand.dflt).2.1.2 = true := (goodS_iff rfl rfl rfl rfl hg).1
  simp only [hS, ile_lt hlt, inB_at hi, inB_at hlt, nat_to, hcc, hp.1, hp.2, h1, h2, h3, ieq_self, bbeq_self, vsB_self, wr_succ (show k < 1048577 by omega), Bool.and_self, Bool.not_false, cond_true] at h
  rw [hd, fnd] at ht hf
  cases e : insF (S.getD i tSand.dflt).2.1.2 (px - (L.getD k tP.dflt).1) (py - (L.getD k tP.dflt).2.1) r with
  | true =>
   simp only [e, cond_true] at h ht
   rw [ht (by trivial)]
   exact .done (V3_ok _) N3sy h rfl
  | false =>
   simp only [e, cond_false] at h ht hf
   exact .stop (V3_ok _) N3sy h (rfst_ans1 c px py r S hS hs h1 h2 h3 i hi L hL hl M A a1 a2 a3 a4 a5 a6 a7 n (k + 1) m (by omega) (by omega) ht hf)
theorem fnd_fm {s : tSand.den} {px py r : Int} (h3 : inr r = true) : fnd s.2.1.2 px py r (pts s.2.2.1.1.1 s.2.2.1.1.2.1 s.2.2.1.2.1.1 s.2.2.1.2.1.2.1) = bif ieq r 0 then (0, 0, false) else fmP s px py r := by
 cases e : ieq r 0 with
 | true => rw [ieq_t' e, fnd_zero]; rfl
 | false =>
  have k := inr_iff.1 h3
  have k2 := ieq_f' e
  have hr : ile r 0 = false := by rw [ile_iff]; exact decide_eq_false (by omega)
  rw [cond_false]
  exact fnd_pts hr _ _ _ _
noncomputable def firZ (S : List tSand.den) (px py r : Int) (k n : Nat) : Int × Int × Int × Bool := bif ieq r 0 then (0, 0, 0, false) else firF S px py r k n
theorem rfst_ans0 (c : tChart.den) (px py r : Int) (S : List tSand.den) (hS : c.2.1.2 = S) (hs : sC S = true) (h1 : in10 px = true) (h2 : in10 py = true) (h3 : inr r = true) :
  ∀ (n k m : Nat), k + n = S.length → n < m → Ans N3 (rfstI0 c px py r k m) (tupF (firZ S px py r k n))
 | 0, k, m + 1, hk, hm => by
  have h := rfst_step0 c px py r k m
  simp only [hS, ile_ge (show S.length ≤ k by omega), Bool.not_true, cond_false] at h
  refine .done (V3_ok _) N3sy h ?_
  unfold firZ
  cases ieq r 0 <;> rfl
 | n + 1, k, m + 1, hk, hm => by
  have h := rfst_step0 c px py r k m
  have hlt : k < S.length := by omega
  obtain ⟨s1, s2⟩ := sC_iff hs
  have hg := s2 k hlt
  have hw : wr .i64 ((k : Int) + 1) = ((k + 1 : Nat) : Int) := wr_succ (show k < 1048577 by omega)
  have ih := rfst_ans0 c px py r S hS hs h1 h2 h3 n (k + 1) m (by omega) (by omega)
  have hfm := fnd_fm (s := S.getD k tSand.dflt) (px := px) (py := py) h3
  obtain ⟨x0, e0⟩ : ∃ y : Int, (S.getD k tSand.dflt).2.2.1.1.1 = y := ⟨_, rfl⟩
  obtain ⟨x1, e1⟩ : ∃ y : Int, (S.getD k tSand.dflt).2.2.1.1.2.1 = y := ⟨_, rfl⟩
  obtain ⟨y0, e2⟩ : ∃ y : Int, (S.getD k tSand.dflt).2.2.1.2.1.1 = y := ⟨_, rfl⟩
  obtain ⟨y1, e3⟩ : ∃ y : Int, (S.getD k tSand.dflt).2.2.1.2.1.2.1 = y := ⟨_, rfl⟩
  obtain ⟨g1, ⟨⟨g2, g3⟩, g4, g5⟩, g6, g7⟩ := goodS_iff e0 e1 e2 e3 hg
  have i0 := in5_iff.1 g2
  have i1 := in5_iff.1 g3
  have i2 := in5_iff.1 g4
  have i3 := in5_iff.1 g5
  have hk' : bK x0 x1 y0 y1 = true := by rw [bK_iff]; omega
  rw [e0, e1, e2, e3] at hfm
  simp only [hS, ile_lt hlt, inB_at hlt, nat_to, e0, e1, e2, e3, hk', Bool.not_false, cond_true] at h
  have hlen : (pts x0 x1 y0 y1).length ≤ 41 * 41 := by
   unfold pts; rw [ptsX_lenS]; exact Nat.mul_le_mul (by omega) (by omega)
  refine .stop (V3_ok _) N3sy h (rfst_ans1 c px py r S hS hs h1 h2 h3 k hlt (pts x0 x1 y0 y1) (fun p hp => ?_) (by omega) m _ _ _ _ _ _ _ _ (pts x0 x1 y0 y1).length 0 1048575 (by omega) (by omega) (fun he => ?_) (fun he => ?_))
  · unfold pts at hp
    obtain ⟨u, v, rfl, ⟨q1, q2⟩, q3, q4⟩ := ptsX_inS hp
    exact ⟨in5_iff.2 (show -500 ≤ u ∧ u ≤ 500 by omega), in5_iff.2 (show -500 ≤ v ∧ v ≤ 500 by omega)⟩
  · rw [List.drop_zero, hfm] at he ⊢
    unfold firZ
    rw [firF]
    cases ez : ieq r 0 with
    | true => rw [ez, cond_true] at he; exact absurd he (by decide)
    | false =>
     rw [ez, cond_false] at he
     rw [cond_false, cond_false, he, cond_true]
     unfold tupF
     rw [he]
  · rw [List.drop_zero, hfm] at he
    have hz : firZ S px py r k (n + 1) = firZ S px py r (k + 1) n := by
     unfold firZ
     cases ez : ieq r 0 with
     | true => rfl
     | false =>
      rw [ez, cond_false] at he
      rw [cond_false, cond_false, firF, he, cond_false]
    rw [hz, hw]
    exact ih
theorem rfst_call (c : tChart.den) (p : tP.den) (r : Int) (hs : sC c.2.1.2 = true) (h1 : in10 p.1 = true) (h2 : in10 p.2.1 = true) (h3 : inr r = true) : AnsF N3 74 [tChart.av c, tP.av p, .int .i64 r] (tupF (firS c.2.1.2 p.1 p.2.1 r)) := by
 obtain ⟨s1, s2⟩ := sC_iff hs
 exact Ans.call (n := 12) (ext_none (by kernel_rfl)) (hasB_spec (by kernel_rfl)) (.stop (V3_ok _) N3sy (rfst_start c p.1 p.2.1 r) (rfst_ans0 c p.1 p.2.1 r _ rfl hs h1 h2 h3 _ 0 1048575 (by omega) (by omega)))
noncomputable def LR : List Said := [(73, con3 (.sl tSand) tP tI (fun l p r => sC l.2 && in10 p.1 && in10 p.2.1 && inr r) (fun l p r => .tup [.int .i64 (firS l.2 p.1 p.2.1 r).1, .agg [.int .i64 (firS l.2 p.1 p.2.1 r).2.1, .int .i64 (firS l.2 p.1 p.2.1 r).2.2.1], .bool (firS l.2 p.1 p.2.1 r).2.2.2])),
 (74, con3 tChart tP tI (fun c p r => sC c.2.1.2 && in10 p.1 && in10 p.2.1 && inr r) (fun c p r => .tup [.int .i64 (firS c.2.1.2 p.1 p.2.1 r).1, .agg [.int .i64 (firS c.2.1.2 p.1 p.2.1 r).2.1, .int .i64 (firS c.2.1.2 p.1 p.2.1 r).2.2.1], .bool (firS c.2.1.2 p.1 p.2.1 r).2.2.2]))]
theorem LR_ok : ∀ e ∈ LR, SaidG Tryz.prog N3.glob e :=
 saids_cons (SaidOK.g en3 xn3 nn3 tabs_ok.mix (fun _ _ h => con3_spec (t := .sl tSand) (u := tP) (w := tI) (fun l p r hc => by
  simp only [Bool.and_eq_true] at hc
  exact ficc_call l p r hc.1.1.1 hc.1.1.2 hc.1.2 hc.2) h) rfl)
 (saids_cons (SaidOK.g en3 xn3 nn3 tabs_ok.mix (fun _ _ h => con3_spec (t := tChart) (u := tP) (w := tI) (fun c p r hc => by
  simp only [Bool.and_eq_true] at hc
  exact rfst_call c p r hc.1.1.1 hc.1.1.2 hc.1.2 hc.2) h) rfl) saids_nil)
noncomputable def N4 : Env := N3.say (under (xOf LR))
theorem en4 : EnvOK Tryz.prog N4 := en3.say _
theorem nn4 : NameOK N4 := nn3.say _
theorem xn4 : ExtOK Tryz.prog N4 := xn3.sayL LR_ok
theorem N4sy : N4.sy = true := rfl
noncomputable def V4 (l : List Nat) : Sy := (V3 []).on LR l
theorem V4_ok (l : List Nat) : (V4 l).ok N4 := Sy.on_ok (V3_ok _)
end Go.Proofs.YtffnpkbopjjdaaaGreatDoor


set_option maxRecDepth 100000
namespace Go.Proofs.YtffnpkbopjjdaaaGreatDoor
open Go Go.Eng
theorem clea_start (c : tChart.den) (px py r : Int) : adv N4 (V4 [26]) 3000 (startC N4 26 [tChart.av c, .agg [.int .i64 px, .int .i64 py], .int .i64 r] 12) = (bif !ieq (chkS c).2.2 0 then (bif !ieq (chkS c).2.2 0 then some (.done (.tup [(.int .i64 (0)), (.agg [(.int .i64 (0)), (.int .i64 (0))]), (.int .i64 ((chkS c).2.2))])) else (bif !ile 0 r then some (.done (.tup [(.int .i64 (0)), (.agg [(.int .i64 (0)), (.int .i64 (0))]), (.int .i64 (7))])) else (bif !ile r 5000 then some (.done (.tup [(.int .i64 (0)), (.agg [(.int .i64 (0)), (.int .i64 (0))]), (.int .i64 (7))])) else (bif sC c.2.1.2 && in10 px && in10 py && inr r then (bif !(firS c.2.1.2 px py r).2.2.2 then some (.done (.tup [(.int .i64 (0)), (.agg [(.int .i64 (0)), (.int .i64 (0))]), (.int .i64 (4))])) else (bif ieq (firS c.2.1.2 px py r).2.1 (firS c.2.1.2 px py r).2.1 then (bif ieq (firS c.2.1.2 px py r).2.2.1 (firS c.2.1.2 px py r).2.2.1 then some (.done (.tup [(.int .i64 ((firS c.2.1.2 px py r).1)), (.agg [(.int .i64 ((firS c.2.1.2 px py r).2.1)), (.int .i64 ((firS c.2.1.2 px py r).2.2.1))]), (.int .i64 (0))])) else none) else none)) else none)))) else (bif !ile (-10000) px then some (.done (.tup [(.int .i64 (0)), (.agg [(.int .i64 (0)), (.int .i64 (0))]), (.int .i64 (7))])) else (bif !ile px 10000 then some (.done (.tup [(.int .i64 (0)), (.agg [(.int .i64 (0)), (.int .i64 (0))]), (.int .i64 (7))])) else (bif !ile (-10000) py then some (.done (.tup [(.int .i64 (0)), (.agg [(.int .i64 (0)), (.int .i64 (0))]), (.int .i64 (7))])) else (bif !ile py 10000 then some (.done (.tup [(.int .i64 (0)), (.agg [(.int .i64 (0)), (.int .i64 (0))]), (.int .i64 (7))])) else (bif !ile 0 r then some (.done (.tup [(.int .i64 (0)), (.agg [(.int .i64 (0)), (.int .i64 (0))]), (.int .i64 (7))])) else (bif !ile r 5000 then some (.done (.tup [(.int .i64 (0)), (.agg [(.int .i64 (0)), (.int .i64 (0))]), (.int .i64 (7))])) else (bif sC c.2.1.2 && in10 px && in10 py && inr r then (bif !(firS c.2.1.2 px py r).2.2.2 then some (.done (.tup [(.int .i64 (0)), (.agg [(.int .i64 (0)), (.int .i64 (0))]), (.int .i64 (4))])) else (bif ieq (firS c.2.1.2 px py r).2.1 (firS c.2.1.2 px py r).2.1 then (bif ieq (firS c.2.1.2 px py r).2.2.1 (firS c.2.1.2 px py r).2.2.1 then some (.done (.tup [(.int .i64 ((firS c.2.1.2 px py r).1)), (.agg [(.int .i64 ((firS c.2.1.2 px py r).2.1)), (.int .i64 ((firS c.2.1.2 px py r).2.2.1))]), (.int .i64 (0))])) else none) else none)) else none)))))))) := by kernel_rfl
noncomputable def radiI0 (c : tChart.den) (px py : Int) (x2 : Int) (x3 : Int) (x28 : Nat) : Cfg := ⟨.ex (pcOf N4 76 [0, 0, 0, 1, 1]) ⟨(tmOf 26 [(0, (.int .i64 (5000))), (1, (.fn 75 [] [(.ptr 0 0), (.ptr 1 0)])), (4, (.int .i64 (0))), (5, (.int .i64 x2)), (6, (.int .i64 x3)), (8, (.int .i64 (5000)))]), (hpOf 6 [(0, (.cells false [(.vs tMark (c.1.1) (c.1.2)), (.vs tSand (c.2.1.1) (c.2.1.2))])), (1, (.cells false [(.int .i64 (px)), (.int .i64 (py))])), (2, (.cells false [(.vs tMark (c.1.1) (c.1.2)), (.vs tSand (c.2.1.1) (c.2.1.2))])), (3, (.cells false [(.int .i64 (px)), (.int .i64 (py))])), (4, (.cells false [(.vs tMark (c.1.1) (c.1.2)), (.vs tSand (c.2.1.1) (c.2.1.2))])), (5, (.cells true [(.int .i64 (px)), (.int .i64 (py))]))]), [], [], 26, false⟩, ⟨11, []⟩, [(.lop (pcOf N4 76 [0, 0, 0, 1, 1]) 6 (tmOf 26 [(0, (.int .i64 (5000))), (1, (.fn 75 [] [(.ptr 0 0), (.ptr 1 0)])), (4, (.int .i64 (0))), (5, (.int .i64 (0))), (6, (.int .i64 (5000))), (8, (.int .i64 (5000)))]) x28), (.blk 0), (.seq (pcOf N4 76 [1, 1, 1])), (.cal [(.tmp 4)] (.op (pcOf N4 28 [0, 1, 1, 1]) 2 (some 16) ((opsOf (pcOf N4 28 [0, 1, 1, 1]).c).toList.drop 2) (tmOf 17 [(0, (.agg [(.vs tMark (c.1.1) (c.1.2)), (.vs tSand (c.2.1.1) (c.2.1.2))])), (1, (.agg [(.int .i64 (px)), (.int .i64 (py))])), (2, (.ptr 0 0)), (3, (.ptr 1 0)), (4, (.int .i64 (0))), (5, (.int .i64 (0))), (6, (.int .i64 (0))), (7, (.fn 75 [] [(.ptr 0 0), (.ptr 1 0)])), (8, (.agg [(.vs tMark (c.1.1) (c.1.2)), (.vs tSand (c.2.1.1) (c.2.1.2))])), (9, (.agg [(.int .i64 (px)), (.int .i64 (py))])), (10, (.int .i64 (0))), (11, (.int .i64 (0))), (12, (.bool (false))), (14, (.fn 75 [] [(.ptr 0 0), (.ptr 1 0)])), (15, (.fn 75 [] [(.ptr 0 0), (.ptr 1 0)]))]) [] 17 false ⟨12, []⟩)), (.seq (pcOf N4 28 [1, 1, 1, 1])), (.cal [(.tmp 4), (.tmp 5)] .top)]⟩
noncomputable def radiI1 (c : tChart.den) (px py : Int) (x26 : Nat) : Cfg := ⟨.ex (pcOf N4 76 [0, 0, 0, 1, 1]) ⟨(tmOf 26 [(0, (.int .i64 (5000))), (1, (.fn 75 [] [(.ptr 0 0), (.ptr 1 0)])), (4, (.int .i64 (0))), (5, (.int .i64 (0))), (6, (.int .i64 (5000))), (8, (.int .i64 (5000)))]), (hpOf 5 [(0, (.cells false [(.vs tMark (c.1.1) (c.1.2)), (.vs tSand (c.2.1.1) (c.2.1.2))])), (1, (.cells false [(.int .i64 (px)), (.int .i64 (py))])), (2, (.cells false [(.vs tMark (c.1.1) (c.1.2)), (.vs tSand (c.2.1.1) (c.2.1.2))])), (3, (.cells false [(.int .i64 (px)), (.int .i64 (py))])), (4, (.cells false [(.vs tMark (c.1.1) (c.1.2)), (.vs tSand (c.2.1.1) (c.2.1.2))]))]), [], [], 26, false⟩, ⟨11, []⟩, [(.lop (pcOf N4 76 [0, 0, 0, 1, 1]) 5 (tmOf 26 [(0, (.int .i64 (5000))), (1, (.fn 75 [] [(.ptr 0 0), (.ptr 1 0)])), (4, (.int .i64 (0))), (5, (.int .i64 (0))), (6, (.int .i64 (5000))), (8, (.int .i64 (5000)))]) x26), (.blk 0), (.seq (pcOf N4 76 [1, 1, 1])), (.cal [(.tmp 4)] (.op (pcOf N4 28 [0, 1, 1, 1]) 2 (some 16) ((opsOf (pcOf N4 28 [0, 1, 1, 1]).c).toList.drop 2) (tmOf 17 [(0, (.agg [(.vs tMark (c.1.1) (c.1.2)), (.vs tSand (c.2.1.1) (c.2.1.2))])), (1, (.agg [(.int .i64 (px)), (.int .i64 (py))])), (2, (.ptr 0 0)), (3, (.ptr 1 0)), (4, (.int .i64 (0))), (5, (.int .i64 (0))), (6, (.int .i64 ((chkS c).2.2))), (7, (.fn 75 [] [(.ptr 0 0), (.ptr 1 0)])), (8, (.agg [(.vs tMark (c.1.1) (c.1.2)), (.vs tSand (c.2.1.1) (c.2.1.2))])), (9, (.agg [(.int .i64 (px)), (.int .i64 (py))])), (10, (.int .i64 ((chkS c).2.2))), (11, (.int .i64 ((chkS c).2.2))), (12, (.bool (false))), (14, (.fn 75 [] [(.ptr 0 0), (.ptr 1 0)])), (15, (.fn 75 [] [(.ptr 0 0), (.ptr 1 0)]))]) [] 17 false ⟨12, []⟩)), (.seq (pcOf N4 28 [1, 1, 1, 1])), (.cal [(.tmp 4), (.tmp 5)] .top)]⟩
theorem radi_start (c : tChart.den) (px py : Int) : adv N4 (V4 [28, 76]) 3000 (startC N4 28 [tChart.av c, .agg [.int .i64 px, .int .i64 py]] 12) = (bif !ieq (chkS c).2.2 0 then (bif !ieq (chkS c).2.2 0 then some (.done (.tup [(.int .i64 (0)), (.int .i64 ((chkS c).2.2))])) else some (.stop (radiI1 c px py (1048575)))) else (bif !ile (-10000) px then some (.done (.tup [(.int .i64 (0)), (.int .i64 (7))])) else (bif !ile px 10000 then some (.done (.tup [(.int .i64 (0)), (.int .i64 (7))])) else (bif !ile (-10000) py then some (.done (.tup [(.int .i64 (0)), (.int .i64 (7))])) else (bif !ile py 10000 then some (.done (.tup [(.int .i64 (0)), (.int .i64 (7))])) else some (.stop (radiI0 c px py (0) (5000) (1048575)))))))) := by kernel_rfl
theorem radi_step0 (c : tChart.den) (px py : Int) (x2 : Int) (x3 : Int) (x28 : Nat) : adv N4 (V4 [28, 76]) 3000 (radiI0 c px py x2 x3 (x28 + 1)) = (let z1 := (wr .i64 (wr .i64 ((wr IntKind.u64 (wr .i64 (x2 + x3))).fdiv (2 ^ min (Int.toNat 1) IntKind.u64.bits)) + 1)); (bif !ile x3 x2 then (bif sC c.2.1.2 && in10 px && in10 py && inr z1 then (bif !(firS c.2.1.2 px py z1).2.2.2 then some (.stop (radiI0 c px py z1 (x3) (x28))) else some (.stop (radiI0 c px py (x2) (wr .i64 ((wr IntKind.u64 (wr .i64 (x2 + x3))).fdiv (2 ^ min (Int.toNat 1) IntKind.u64.bits))) (x28)))) else none) else some (.done (.tup [(.int .i64 (x2)), (.int .i64 (0))])))) := by kernel_rfl
noncomputable def cleS (c : tChart.den) (px py r : Int) : Int × Int × Int × Int := bif ieq (chkS c).2.2 0 then (bif in10 px && in10 py && (ile 0 r && ile r 5000) then
 (bif (firS c.2.1.2 px py r).2.2.2 then ((firS c.2.1.2 px py r).1, (firS c.2.1.2 px py r).2.1, (firS c.2.1.2 px py r).2.2.1, 0) else (0, 0, 0, 4)) else (0, 0, 0, 7)) else (0, 0, 0, (chkS c).2.2)
noncomputable def tupC (o : Int × Int × Int × Int) : AV := .tup [.int .i64 o.1, .agg [.int .i64 o.2.1, .int .i64 o.2.2.1], .int .i64 o.2.2.2]
theorem valid_sC {c : tChart.den} (h : (chkS c).2.2 = 0) : sC c.2.1.2 = true := by
 obtain ⟨a, b⟩ := valid_sands h
 unfold sC
 rw [b, Nat.ble_eq_true_of_le a]; rfl
theorem inr_of {r : Int} (r1 : ile 0 r = true) (r2 : ile r 5000 = true) : inr r = true := by
 rw [ile_iff, decide_eq_true_eq] at r1 r2
 rw [inr_iff]; omega
theorem clea_call (c : tChart.den) (p : tP.den) (r : Int) : AnsF N4 26 [tChart.av c, tP.av p, .int .i64 r] (tupC (cleS c p.1 p.2.1 r)) := by
 refine Ans.call (n := 12) (ext_none (by kernel_rfl)) (hasB_spec (by kernel_rfl)) ?_
 have h := clea_start c p.1 p.2.1 r
 obtain ⟨px, e1⟩ : ∃ x : Int, p.1 = x := ⟨_, rfl⟩
 obtain ⟨py, e2⟩ : ∃ x : Int, p.2.1 = x := ⟨_, rfl⟩
 have hav : startC N4 26 [tChart.av c, tP.av p, .int .i64 r] 12 = startC N4 26 [tChart.av c, .agg [.int .i64 p.1, .int .i64 p.2.1], .int .i64 r] 12 := rfl
 rw [hav]
 rw [e1, e2] at h ⊢
 unfold cleS in10
 cases c1 : ieq (chkS c).2.2 0 with
 | false =>
  simp only [c1, Bool.not_false, cond_true, cond_false] at h ⊢
  exact .done (V4_ok _) N4sy h rfl
 | true =>
  have hs := valid_sC (ieq_t' c1)
  cases d1 : ile (-10000) px <;> cases d2 : ile px 10000 <;>
   try (simp only [c1, d1, d2, Bool.not_false, Bool.not_true, Bool.and_self, Bool.and_true, Bool.and_false, Bool.false_and, cond_true, cond_false] at h ⊢; exact .done (V4_ok _) N4sy h rfl)
  cases d3 : ile (-10000) py <;> cases d4 : ile py 10000 <;>
   try (simp only [c1, d1, d2, d3, d4, Bool.not_false, Bool.not_true, Bool.and_self, Bool.and_true, Bool.and_false, Bool.false_and, cond_true, cond_false] at h ⊢; exact .done (V4_ok _) N4sy h rfl)
  cases r1 : ile 0 r <;> cases r2 : ile r 5000 <;>
   try (simp only [c1, d1, d2, d3, d4, r1, r2, Bool.not_false, Bool.not_true, Bool.and_self, Bool.and_true, Bool.and_false, Bool.false_and, cond_true, cond_false] at h ⊢; exact .done (V4_ok _) N4sy h rfl)
  have hr := inr_of r1 r2
  have h1 : in10 px = true := by unfold in10; rw [d1, d2]; rfl
  have h2 : in10 py = true := by unfold in10; rw [d3, d4]; rfl
  cases e : (firS c.2.1.2 px py r).2.2.2 <;>
   (simp only [c1, d1, d2, d3, d4, r1, r2, hs, h1, h2, hr, e, ieq_self, Bool.not_false, Bool.not_true, Bool.and_self, cond_true, cond_false] at h ⊢; exact .done (V4_ok _) N4sy h rfl)
theorem sq_mono {a b : Int} (h1 : 0 ≤ a) (h2 : a ≤ b) : a * a ≤ b * b := Int.mul_le_mul h2 h2 h1 (by omega)
theorem near_mono {ax ay vx vy r s : Int} (h1 : 0 ≤ r) (h2 : r ≤ s) (h : nearI ax ay vx vy r = true) : nearI ax ay vx vy s = true := by
 have sq : ∀ a : Int, 0 ≤ a * a := fun a => by
  by_cases h : 0 ≤ a
  · exact Int.mul_nonneg h h
  · rw [← Int.neg_mul_neg]; exact Int.mul_nonneg (by omega) (by omega)
 have k := sq_mono h1 h2
 have k2 : r * r * (ax * ax + ay * ay) ≤ s * s * (ax * ax + ay * ay) := Int.mul_le_mul_of_nonneg_right k (Int.add_nonneg (sq _) (sq _))
 have key : ∀ {a b z : Int}, a ≤ b → (!ile a z) = true → (!ile b z) = true := fun {a b z} hab hz => by
  rw [ile_iff] at hz ⊢
  rw [Bool.not_eq_true', decide_eq_false_iff_not] at hz ⊢
  omega
 unfold nearI at h ⊢
 cases e1 : ile (ax * vx + ay * vy) 0 with
 | true => rw [e1, cond_true] at h; rw [cond_true]; exact key k h
 | false =>
  rw [e1, cond_false] at h; rw [cond_false]
  cases e2 : ile (ax * ax + ay * ay) (ax * vx + ay * vy) with
  | true => rw [e2, cond_true] at h; rw [cond_true]; exact key k h
  | false => rw [e2, cond_false] at h; rw [cond_false]; exact key k2 h
theorem sidF_mono {C : List tP.den} {dx dy r s : Int} (h1 : 0 ≤ r) (h2 : r ≤ s) : ∀ (n k : Nat), sidF C dx dy r k n = true → sidF C dx dy s k n = true
 | 0, _, h => h
 | n + 1, k, h => by
  rw [sidF] at h ⊢
  cases e : nearI (sA C k) (sB C k) (dx - gx C k) (dy - gy C k) s with
  | true => rfl
  | false =>
   cases e2 : nearI (sA C k) (sB C k) (dx - gx C k) (dy - gy C k) r with
   | true => rw [near_mono h1 h2 e2] at e; exact absurd e (by decide)
   | false => rw [e2, cond_false] at h; rw [cond_false]; exact sidF_mono h1 h2 n (k + 1) h
theorem incF_mono {C : List tP.den} {dx dy r s : Int} (h1 : 0 ≤ r) (h2 : r ≤ s) (h : incF C dx dy r = true) : incF C dx dy s = true := by
 unfold incF at h ⊢
 rw [Bool.or_eq_true] at h ⊢
 exact h.imp (sidF_mono h1 h2 _ _) id
theorem fmY_mono {C : List tP.den} {fx fy r s x : Int} (h1 : 0 ≤ r) (h2 : r ≤ s) : ∀ (n : Nat) (y : Int), (fmY C fx fy r x y n).2.2 = true → (fmY C fx fy s x y n).2.2 = true
 | 0, _, h => h
 | n + 1, y, h => by
  rw [fmY] at h ⊢
  cases e : incF C (fx - x) (fy - y) s with
  | true => rfl
  | false =>
   cases e2 : incF C (fx - x) (fy - y) r with
   | true => rw [incF_mono h1 h2 e2] at e; exact absurd e (by decide)
   | false => rw [e2, cond_false] at h; rw [cond_false]; exact fmY_mono h1 h2 n (y + 1) h
theorem fmX_mono {C : List tP.den} {fx fy r s y0 : Int} {ny : Nat} (h1 : 0 ≤ r) (h2 : r ≤ s) : ∀ (n : Nat) (x : Int), (fmX C fx fy r y0 ny x n).2.2 = true → (fmX C fx fy s y0 ny x n).2.2 = true
 | 0, _, h => h
 | n + 1, x, h => by
  rw [fmX] at h ⊢
  cases e : (fmY C fx fy s x y0 ny).2.2 with
  | true => rw [cond_true]; exact e
  | false =>
   cases e2 : (fmY C fx fy r x y0 ny).2.2 with
   | true => rw [fmY_mono h1 h2 ny y0 e2] at e; exact absurd e (by decide)
   | false => rw [e2, cond_false] at h; rw [cond_false]; exact fmX_mono h1 h2 n (x + 1) h
theorem fmP_mono {s : tSand.den} {px py r q : Int} (h1 : 0 ≤ r) (h2 : r ≤ q) (h : (fmP s px py r).2.2 = true) : (fmP s px py q).2.2 = true := fmX_mono h1 h2 _ _ h
theorem firF_mono {S : List tSand.den} {px py r q : Int} (h1 : 0 ≤ r) (h2 : r ≤ q) : ∀ (n k : Nat), (firF S px py r k n).2.2.2 = true → (firF S px py q k n).2.2.2 = true
 | 0, _, h => h
 | n + 1, k, h => by
  rw [firF] at h ⊢
  cases e : (fmP (S.getD k tSand.dflt) px py q).2.2 with
  | true => rfl
  | false =>
   cases e2 : (fmP (S.getD k tSand.dflt) px py r).2.2 with
   | true => rw [fmP_mono h1 h2 e2] at e; exact absurd e (by decide)
   | false => rw [e2, cond_false] at h; rw [cond_false]; exact firF_mono h1 h2 n (k + 1) h
noncomputable def hitR (S : List tSand.den) (px py r : Int) : Bool := (firS S px py r).2.2.2
theorem hitR_mono {S : List tSand.den} {px py r q : Int} (h1 : 0 ≤ r) (h2 : r ≤ q) (h : hitR S px py r = true) : hitR S px py q = true := by
 unfold hitR firS at h ⊢
 cases e : ieq r 0 with
 | true => rw [e, cond_true] at h; exact absurd h (by decide)
 | false =>
  have e1 := ieq_f' e
  have e2 : ieq q 0 = false := by rw [ieq_iff]; exact decide_eq_false (by omega)
  rw [e, cond_false] at h
  rw [e2, cond_false]
  exact firF_mono h1 h2 _ _ h
noncomputable def upR (P : Int → Bool) : Int → Nat → Int
 | r, 0 => r
 | r, n + 1 => bif P (r + 1) then r else upR P (r + 1) n
theorem upR_is {P : Int → Bool} (mono : ∀ r q, 0 ≤ r → r ≤ q → P r = true → P q = true) : ∀ (n : Nat) (r : Int), 0 ≤ r → P r = false → (r ≤ upR P r n ∧ upR P r n ≤ r + n) ∧ ∀ x, 0 ≤ x → x ≤ r + n → (P x = true ↔ upR P r n < x)
 | 0, r, h0, hr => by
  rw [upR]
  refine ⟨by omega, fun x hx hx2 => ⟨fun h => ?_, fun h => by omega⟩⟩
  have := mono x r hx (by omega) h
  rw [hr] at this; exact absurd this (by decide)
 | n + 1, r, h0, hr => by
  rw [upR]
  cases e : P (r + 1) with
  | true =>
   rw [cond_true]
   refine ⟨by omega, fun x hx hx2 => ⟨fun h => ?_, fun h => mono (r + 1) x (by omega) (by omega) e⟩⟩
   by_cases hlt : r < x
   · exact hlt
   · have := mono x r hx (by omega) h
     rw [hr] at this; exact absurd this (by decide)
  | false =>
   rw [cond_false]
   obtain ⟨a, b⟩ := upR_is mono n (r + 1) (by omega) e
   exact ⟨by omega, fun x hx hx2 => b x hx (by omega)⟩
noncomputable def topR (S : List tSand.den) (px py : Int) : Int := upR (hitR S px py) 0 5000
theorem topR_is (S : List tSand.den) (px py : Int) : (0 ≤ topR S px py ∧ topR S px py ≤ 5000) ∧ ∀ x, 0 ≤ x → x ≤ 5000 → (hitR S px py x = true ↔ topR S px py < x) := by
 have := upR_is (P := hitR S px py) (fun r q a b c => hitR_mono a b c) 5000 0 (by omega) rfl
 unfold topR
 exact ⟨by omega, fun x hx hx2 => this.2 x hx (by omega)⟩
theorem shr1 {x : Int} (h0 : 0 ≤ x) (h1 : x ≤ 20000) : wr .i64 ((wr .u64 (wr .i64 x)).fdiv (2 ^ min (Int.toNat 1) IntKind.u64.bits)) = x / 2 := by
 have e0 : wr .i64 x = x := wr_in (by omega) (by omega)
 have e : wr .u64 x = x := by
  rw [wr_eq]
  show x % (2 ^ 64 : Int) = x
  exact Int.emod_eq_of_lt h0 (by omega)
 rw [e0, e]
 have e2 : (2 : Int) ^ min (Int.toNat 1) IntKind.u64.bits = 2 := by decide
 rw [e2, Int.fdiv_eq_ediv_of_nonneg _ (by omega), wr_in (by omega) (by omega)]
theorem radi_ans (c : tChart.den) (px py : Int) (S : List tSand.den) (hS : c.2.1.2 = S) (hs : sC S = true) (h1 : in10 px = true) (h2 : in10 py = true) :
  ∀ (n m : Nat) (lo hi : Int), hi - lo ≤ n → n < m → 0 ≤ lo → hi ≤ 5000 → lo ≤ topR S px py → topR S px py ≤ hi → Ans N4 (radiI0 c px py lo hi m) (.tup [.int .i64 (topR S px py), .int .i64 0])
 | n, m + 1, lo, hi, hd, hm, h0, h5, a, b => by
  have h := radi_step0 c px py lo hi m
  obtain ⟨⟨t0, t1⟩, t2⟩ := topR_is S px py
  by_cases hlt : lo < hi
  · have e1 : ile hi lo = false := by rw [ile_iff]; exact decide_eq_false (by omega)
    have w1 : wr .i64 ((lo + hi) / 2 + 1) = (lo + hi) / 2 + 1 := wr_in (by omega) (by omega)
    have hr : inr ((lo + hi) / 2 + 1) = true := by rw [inr_iff]; omega
    have t := t2 ((lo + hi) / 2 + 1) (by omega) (by omega)
    have hp : (firS S px py ((lo + hi) / 2 + 1)).2.2.2 = hitR S px py ((lo + hi) / 2 + 1) := rfl
    rw [shr1 (x := lo + hi) (by omega) (by omega)] at h
    simp only [hS, e1, w1, hs, h1, h2, hr, hp, Bool.and_self, Bool.not_false, cond_true] at h
    cases n with
    | zero => omega
    | succ n =>
     cases e : hitR S px py ((lo + hi) / 2 + 1) with
     | true =>
      simp only [e, Bool.not_true, cond_false] at h
      have := t.1 e
      exact .stop (V4_ok _) N4sy h (radi_ans c px py S hS hs h1 h2 n m lo _ (by omega) (by omega) h0 (by omega) a (by omega))
     | false =>
      simp only [e, Bool.not_false, cond_true] at h
      have : ¬ topR S px py < (lo + hi) / 2 + 1 := fun hx => by rw [t.2 hx] at e; exact absurd e (by decide)
      exact .stop (V4_ok _) N4sy h (radi_ans c px py S hS hs h1 h2 n m _ hi (by omega) (by omega) (by omega) h5 (by omega) b)
  · have e1 : ile hi lo = true := by rw [ile_iff]; exact decide_eq_true (by omega)
    simp only [e1, Bool.not_true, cond_false] at h
    have : lo = topR S px py := by omega
    exact .done (V4_ok _) N4sy h (by rw [this])
noncomputable def radS (c : tChart.den) (px py : Int) : Int × Int := bif ieq (chkS c).2.2 0 then (bif in10 px && in10 py then (topR c.2.1.2 px py, 0) else (0, 7)) else (0, (chkS c).2.2)
theorem radi_call (c : tChart.den) (p : tP.den) : AnsF N4 28 [tChart.av c, tP.av p] (.tup [.int .i64 (radS c p.1 p.2.1).1, .int .i64 (radS c p.1 p.2.1).2]) := by
 refine Ans.call (n := 12) (ext_none (by kernel_rfl)) (hasB_spec (by kernel_rfl)) ?_
 have h := radi_start c p.1 p.2.1
 obtain ⟨px, e1⟩ : ∃ x : Int, p.1 = x := ⟨_, rfl⟩
 obtain ⟨py, e2⟩ : ∃ x : Int, p.2.1 = x := ⟨_, rfl⟩
 have hav : startC N4 28 [tChart.av c, tP.av p] 12 = startC N4 28 [tChart.av c, .agg [.int .i64 p.1, .int .i64 p.2.1]] 12 := rfl
 rw [hav]
 rw [e1, e2] at h ⊢
 unfold radS in10
 cases c1 : ieq (chkS c).2.2 0 with
 | false =>
  simp only [c1, Bool.not_false, cond_true, cond_false] at h ⊢
  exact .done (V4_ok _) N4sy h rfl
 | true =>
  have hs := valid_sC (ieq_t' c1)
  cases d1 : ile (-10000) px <;> cases d2 : ile px 10000 <;> cases d3 : ile (-10000) py <;> cases d4 : ile py 10000 <;>
   try (simp only [c1, d1, d2, d3, d4, Bool.not_false, Bool.not_true, Bool.and_self, Bool.and_true, Bool.and_false, Bool.false_and, cond_true, cond_false] at h ⊢; exact .done (V4_ok _) N4sy h rfl)
  have h1 : in10 px = true := by unfold in10; rw [d1, d2]; rfl
  have h2 : in10 py = true := by unfold in10; rw [d3, d4]; rfl
  obtain ⟨⟨t0, t1⟩, t2⟩ := topR_is c.2.1.2 px py
  simp only [c1, d1, d2, d3, d4, Bool.not_true, Bool.and_self, cond_true, cond_false] at h ⊢
  exact .stop (V4_ok _) N4sy h (radi_ans c px py _ rfl hs h1 h2 5000 1048575 0 5000 (by omega) (by omega) (by omega) (by omega) t0 t1)
end Go.Proofs.YtffnpkbopjjdaaaGreatDoor


set_option maxRecDepth 100000
namespace Go.Proofs.YtffnpkbopjjdaaaGreatDoor
open Go Go.Eng
theorem vali_start (c : tChart.den) : adv N4 (V4 []) 3000 (startC N4 43 [tChart.av c] 6) = some (.done (.bool (ieq (chkS c).2.2 0))) := by kernel_rfl
theorem amng_start (lo hi n : Int) : adv N4 (V4 []) 3000 (startC N4 57 [.agg [.int .i64 lo, .int .i64 hi], .int .i64 n] 6) = (bif ieq (wr .i64 (wr .i64 (hi - lo) + 1)) 0 then none else some (.done (.int .i64 (wr .i64 (lo + n.tmod (wr .i64 (wr .i64 (hi - lo) + 1))))))) := by kernel_rfl
theorem turn_start (l : (Ty.sl (.int .u16)).den) (n : Int) : adv N4 (V4 []) 3000 (startC N4 49 [.vs (.int .u16) l.1 l.2, .int .i64 n] 6) = (bif ieq (↑l.2.length) 0 then some (.done (.int .i64 (0))) else (bif ieq (↑l.2.length) 0 then none else (bif inB (n.tmod ↑l.2.length) l.2.length then some (.done (.int .i64 (wr .i64 (l.2.getD (n.tmod ↑l.2.length).toNat (Ty.int IntKind.u16).dflt)))) else none))) := by kernel_rfl
theorem vali_call (c : tChart.den) : AnsF N4 43 [tChart.av c] (.bool (ieq (chkS c).2.2 0)) :=
 Ans.call (n := 6) (ext_none (by kernel_rfl)) (hasB_spec (by kernel_rfl)) (.doneB (V4_ok _) N4sy (vali_start c) rfl)
noncomputable def amS (lo hi n : Int) : Int := lo + n % (hi - lo + 1)
noncomputable def amC (lo hi n : Int) : Bool := ile (-100000) lo && ile lo hi && ile hi 100000 && (ile 0 n && ile n 100000)
theorem amC_iff {lo hi n : Int} : amC lo hi n = true ↔ ((-100000 ≤ lo ∧ lo ≤ hi) ∧ hi ≤ 100000) ∧ 0 ≤ n ∧ n ≤ 100000 := by
 simp only [amC, Bool.and_eq_true, ile_iff, decide_eq_true_eq]
theorem amS_in {lo hi n : Int} (h : lo ≤ hi) : lo ≤ amS lo hi n ∧ amS lo hi n ≤ hi := by
 have h1 := Int.emod_nonneg n (show hi - lo + 1 ≠ 0 by omega)
 have en4 := Int.emod_lt_of_pos n (show 0 < hi - lo + 1 by omega)
 unfold amS
 omega
theorem amng_call (s : tP.den) (n : Int) (hc : amC s.1 s.2.1 n = true) : AnsF N4 57 [tP.av s, .int .i64 n] (.int .i64 (amS s.1 s.2.1 n)) := by
 refine Ans.call (n := 6) (ext_none (by kernel_rfl)) (hasB_spec (by kernel_rfl)) ?_
 obtain ⟨lo, hlo⟩ : ∃ x : Int, s.1 = x := ⟨_, rfl⟩
 obtain ⟨hi, hhi⟩ : ∃ x : Int, s.2.1 = x := ⟨_, rfl⟩
 have h := amng_start s.1 s.2.1 n
 rw [hlo, hhi] at hc ⊢
 rw [hlo, hhi] at h
 rw [amC_iff] at hc
 have e1 : wr .i64 (wr .i64 (hi - lo) + 1) = hi - lo + 1 := by rw [wr_in (n := hi - lo) (by omega) (by omega), wr_in (by omega) (by omega)]
 have e0 : ieq (hi - lo + 1) 0 = false := by rw [ieq_iff]; simp; omega
 have e2 : n.tmod (hi - lo + 1) = n % (hi - lo + 1) := Int.tmod_eq_emod_of_nonneg (by omega)
 have h1 := Int.emod_nonneg n (show hi - lo + 1 ≠ 0 by omega)
 have en4 := Int.emod_lt_of_pos n (show 0 < hi - lo + 1 by omega)
 simp only [e1, e0, e2, cond_false] at h
 rw [wr_in (by omega) (by omega)] at h
 subst hlo; subst hhi
 exact .doneI (S := V4 []) (V4_ok _) N4sy (n := 3000) h rfl
noncomputable def u16 (l : List Int) : Bool := l.all fun x => ile 0 x && ile x 65535
noncomputable def turnS (l : List Int) (n : Int) : Int := bif ieq (l.length : Int) 0 then 0 else l.getD (n % (l.length : Int)).toNat 0
theorem turnS_b {l : List Int} (h : u16 l = true) (n : Int) : 0 ≤ turnS l n ∧ turnS l n ≤ 65535 := by
 unfold turnS
 cases ieq (l.length : Int) 0 with
 | true => simp only [cond_true]; omega
 | false =>
  simp only [cond_false]
  rw [List.getD_eq_getElem?_getD]
  cases e : l[(n % (l.length : Int)).toNat]? with
  | none => simp
  | some x =>
   have hm := List.mem_of_getElem? e
   have := List.all_eq_true.1 h x hm
   simp only [Bool.and_eq_true, ile_iff, decide_eq_true_eq] at this
   exact this
theorem turn_call (l : (Ty.sl (.int .u16)).den) (n : Int) (hl : u16 l.2 = true) (hn : ile 0 n = true) : AnsF N4 49 [.vs (.int .u16) l.1 l.2, .int .i64 n] (.int .i64 (turnS l.2 n)) := by
 refine Ans.call (n := 6) (ext_none (by kernel_rfl)) (hasB_spec (by kernel_rfl)) ?_
 have h := turn_start l n
 rw [ile_iff] at hn
 simp only [decide_eq_true_eq] at hn
 have hb := turnS_b hl n
 unfold turnS at hb ⊢
 have hll : l.2.length = List.length (α := Int) l.2 := rfl
 cases c1 : ieq (l.2.length : Int) 0 with
 | true =>
  simp only [c1, cond_true] at h ⊢
  exact .doneI (V4_ok _) N4sy h rfl
 | false =>
  have hne := ieq_f' c1
  have e : n.tmod (l.2.length : Int) = n % (l.2.length : Int) := Int.tmod_eq_emod_of_nonneg hn
  have h1 := Int.emod_nonneg n hne
  have en4 := Int.emod_lt_of_pos n (show 0 < (l.2.length : Int) by omega)
  have hin : inB (n % (l.2.length : Int)) l.2.length = true := by rw [inB_iff]; exact decide_eq_true ⟨h1, en4⟩
  simp only [c1, e, hin, cond_true, cond_false] at h hb ⊢
  have hd : l.2.getD (n % (l.2.length : Int)).toNat (Ty.int IntKind.u16).dflt = l.2.getD (n % (l.2.length : Int)).toNat (0 : Int) := rfl
  rw [hd, wr_in (by have := hb.1; omega) (by have := hb.2; omega)] at h
  exact .doneI (V4_ok _) N4sy h rfl
noncomputable def LJ : List Said := [(43, con1 tChart (fun _ => true) (fun c => .bool (ieq (chkS c).2.2 0))), (57, con2 tP tI (fun s n => amC s.1 s.2.1 n) (fun s n => .int .i64 (amS s.1 s.2.1 n))),
 (49, con2 (.sl (.int .u16)) tI (fun l n => u16 l.2 && ile 0 n) (fun l n => .int .i64 (turnS l.2 n)))]
theorem LJ_ok : ∀ e ∈ LJ, SaidG Tryz.prog N4.glob e :=
 saids_cons (SaidOK.g en4 xn4 nn4 tabs_ok.mix (fun _ _ h => con1_spec (t := tChart) (fun c _ => vali_call c) h) rfl)
 (saids_cons (SaidOK.g en4 xn4 nn4 tabs_ok.mix (fun _ _ h => con2_spec (t := tP) (u := tI) (fun s n hc => amng_call s n hc) h) rfl)
 (saids_cons (SaidOK.g en4 xn4 nn4 tabs_ok.mix (fun _ _ h => con2_spec (t := .sl (.int .u16)) (u := tI) (fun l n hc => by
  rw [Bool.and_eq_true] at hc
  exact turn_call l n hc.1 hc.2) h) rfl) saids_nil))
noncomputable def H3 : Env := N4.say (under (xOf LJ))
theorem h3 : EnvOK Tryz.prog H3 := en4.say _
theorem nh3 : NameOK H3 := nn4.say _
theorem xh3 : ExtOK Tryz.prog H3 := xn4.sayL LJ_ok
theorem H3sy : H3.sy = true := rfl
noncomputable def Y3 (l : List Nat) : Sy := (V4 []).on LJ l
theorem Y3_ok (l : List Nat) : (Y3 l).ok H3 := Sy.on_ok (V4_ok _)
end Go.Proofs.YtffnpkbopjjdaaaGreatDoor


set_option maxRecDepth 100000
namespace Go.Proofs.YtffnpkbopjjdaaaGreatDoor
open Go Go.Eng
theorem lefO_start (a b : tP.den) : adv E0 (hdOf []) 3000 (startC E0 109 [tP.av a, tP.av b] 3) = some (.done (.int .i64 (wr .i64 (wr .i64 (a.1 * b.2.1) - wr .i64 (a.2.1 * b.1))))) := by kernel_rfl
theorem ahea_start (a b : tP.den) : adv E0 (hdOf []) 3000 (startC E0 144 [tP.av a, tP.av b] 3) = some (.done (.int .i64 (wr .i64 (wr .i64 (a.1 * b.1) + wr .i64 (a.2.1 * b.2.1))))) := by kernel_rfl
theorem squa_start (a : tP.den) : adv E0 (hdOf []) 3000 (startC E0 145 [tP.av a] 3) = some (.done (.int .i64 (wr .i64 (wr .i64 (a.1 * a.1) + wr .i64 (a.2.1 * a.2.1))))) := by kernel_rfl
noncomputable def vecS (a b : tP.den) : AV := .agg [.int .i64 (wr .i64 (b.1 - a.1)), .int .i64 (wr .i64 (b.2.1 - a.2.1))]
noncomputable def lefS (a b : tP.den) : AV := .int .i64 (wr .i64 (wr .i64 (a.1 * b.2.1) - wr .i64 (a.2.1 * b.1)))
noncomputable def aheS (a b : tP.den) : AV := .int .i64 (wr .i64 (wr .i64 (a.1 * b.1) + wr .i64 (a.2.1 * b.2.1)))
theorem vec_call (a b : tP.den) : AnsF E0 83 [tP.av a, tP.av b] (vecS a b) :=
 Ans.call (n := 3) (E0ext _ _ (by kernel_rfl)) (hasB_spec (by kernel_rfl)) (.done (hdOf_ok _) E0sy (vecTo_start a b) rfl)
theorem lef_call (a b : tP.den) : AnsF E0 109 [tP.av a, tP.av b] (lefS a b) :=
 Ans.call (n := 3) (E0ext _ _ (by kernel_rfl)) (hasB_spec (by kernel_rfl)) (.doneI (hdOf_ok _) E0sy (lefO_start a b) rfl)
theorem ahe_call (a b : tP.den) : AnsF E0 144 [tP.av a, tP.av b] (aheS a b) :=
 Ans.call (n := 3) (E0ext _ _ (by kernel_rfl)) (hasB_spec (by kernel_rfl)) (.doneI (hdOf_ok _) E0sy (ahea_start a b) rfl)
theorem squ_call (a : tP.den) : AnsF E0 145 [tP.av a] (aheS a a) :=
 Ans.call (n := 3) (E0ext _ _ (by kernel_rfl)) (hasB_spec (by kernel_rfl)) (.doneI (hdOf_ok _) E0sy (squa_start a) rfl)
noncomputable def XA (f : Nat) (args : List AV) : Option (Bool × AV) :=
 match Nat.beq f 83 with
 | true => con2 tP tP (fun _ _ => true) vecS args
 | false => match Nat.beq f 109 with
 | true => con2 tP tP (fun _ _ => true) lefS args
 | false => match Nat.beq f 144 with
 | true => con2 tP tP (fun _ _ => true) aheS args
 | false => match Nat.beq f 145 with
 | true => con1 tP (fun _ => true) (fun a => aheS a a) args
 | false => none
theorem XA_con : Con E0 (under XA) := by
 intro f args v h
 rw [under_iff] at h
 unfold XA at h
 split at h
 · rename_i e; obtain rfl := Nat.eq_of_beq_eq_true e
   exact con2_spec (t := tP) (u := tP) (fun a b _ => vec_call a b) h
 split at h
 · rename_i e; obtain rfl := Nat.eq_of_beq_eq_true e
   exact con2_spec (t := tP) (u := tP) (fun a b _ => lef_call a b) h
 split at h
 · rename_i e; obtain rfl := Nat.eq_of_beq_eq_true e
   exact con2_spec (t := tP) (u := tP) (fun a b _ => ahe_call a b) h
 split at h
 · rename_i e; obtain rfl := Nat.eq_of_beq_eq_true e
   exact con1_spec (t := tP) (fun a _ => squ_call a) h
 · cases h
noncomputable def EA : Env := { T0.env with ext := (E0.say (under XA)).ext }
theorem eA : EnvOK Tryz.prog EA := by
 have h := tabs_ok.env
 refine ⟨fun t k ht => ?_, h.zero, h.fn, h.eqok, h.meth⟩
 obtain ⟨h1, h2⟩ := h.ty t k ht
 refine ⟨h1, ?_⟩
 cases k <;> exact h2
theorem nA : NameOK EA := tabs_ok.name
theorem xA : ExtOK Tryz.prog EA := ExtOK.sayG e0 x0 n0 tabs_ok.mix XA_con
end Go.Proofs.YtffnpkbopjjdaaaGreatDoor


set_option maxRecDepth 100000
namespace Go.Proofs.YtffnpkbopjjdaaaGreatDoor
open Go Go.Eng
noncomputable def c0 : Ent := ⟨23, [(.agg [(.sl 10 0 2 2 4), (.sl 21 0 2 2 6)]), (.agg [(.int .i64 (150)), (.int .i64 (50))])], 23, [(7, (.cells false [(.int .i64 (0)), (.int .i64 (1)), (.int .i64 (50)), (.int .i64 (2))])), (9, (.cells false [(.int .i64 (10)), (.int .i64 (3)), (.int .i64 (90)), (.int .i64 (0))])), (10, (.cells false [(.str [99, 104, 117, 114, 99, 104]), (.int .i64 (3000)), (.int .i64 (4000)), (.sl 7 0 2 2 2), (.str [109, 105, 108, 108]), (.int .i64 (-2000)), (.int .i64 (0)), (.sl 9 0 2 2 2)])), (15, (.cells false [(.int .i64 (100)), (.int .i64 (0)), (.int .i64 (200)), (.int .i64 (0)), (.int .i64 (200)), (.int .i64 (100)), (.int .i64 (100)), (.int .i64 (100))])), (20, (.cells false [(.int .i64 (-300)), (.int .i64 (-300)), (.int .i64 (-100)), (.int .i64 (-400)), (.int .i64 (-200)), (.int .i64 (-200))])), (21, (.cells false [(.str [107, 110, 111, 108, 108]), (.sl 15 0 4 4 2), (.int .i64 (0)), (.int .i64 (10)), (.int .i64 (-5)), (.int .i64 (5)), (.str [115, 112, 105, 116]), (.sl 20 0 3 3 2), (.int .i64 (0)), (.int .i64 (0)), (.int .i64 (0)), (.int .i64 (0))]))], (.tup [(.sl 451 0 1 1 1), (.sl 453 0 1 1 1), (.int .i64 (0))]), [(451, (.cells false [(.int .i64 (0))])), (453, (.cells false [(.int .i64 (0))]))], 481⟩
noncomputable def c1 : Ent := ⟨23, [(.agg [(.sl 486 0 2 2 4), (.sl 497 0 2 2 6)]), (.agg [(.int .i64 (205)), (.int .i64 (50))])], 499, [(483, (.cells false [(.int .i64 (0)), (.int .i64 (1)), (.int .i64 (50)), (.int .i64 (2))])), (485, (.cells false [(.int .i64 (10)), (.int .i64 (3)), (.int .i64 (90)), (.int .i64 (0))])), (486, (.cells false [(.str [99, 104, 117, 114, 99, 104]), (.int .i64 (3000)), (.int .i64 (4000)), (.sl 483 0 2 2 2), (.str [109, 105, 108, 108]), (.int .i64 (-2000)), (.int .i64 (0)), (.sl 485 0 2 2 2)])), (491, (.cells false [(.int .i64 (100)), (.int .i64 (0)), (.int .i64 (200)), (.int .i64 (0)), (.int .i64 (200)), (.int .i64 (100)), (.int .i64 (100)), (.int .i64 (100))])), (496, (.cells false [(.int .i64 (-300)), (.int .i64 (-300)), (.int .i64 (-100)), (.int .i64 (-400)), (.int .i64 (-200)), (.int .i64 (-200))])), (497, (.cells false [(.str [107, 110, 111, 108, 108]), (.sl 491 0 4 4 2), (.int .i64 (0)), (.int .i64 (10)), (.int .i64 (-5)), (.int .i64 (5)), (.str [115, 112, 105, 116]), (.sl 496 0 3 3 2), (.int .i64 (0)), (.int .i64 (0)), (.int .i64 (0)), (.int .i64 (0))]))], (.tup [.nils, (.sl 927 0 1 1 1), (.int .i64 (0))]), [(927, (.cells false [(.int .i64 (0))]))], 955⟩
noncomputable def c2 : Ent := ⟨108, [(.agg [(.str [107, 110, 111, 108, 108]), (.sl 1136 0 4 4 2), (.int .i64 (0)), (.int .i64 (10)), (.int .i64 (-5)), (.int .i64 (5)), (.int .i64 (0)), (.int .i64 (0))]), (.int .i64 (100))], 1274, [(1136, (.cells false [(.int .i64 (100)), (.int .i64 (0)), (.int .i64 (200)), (.int .i64 (0)), (.int .i64 (200)), (.int .i64 (100)), (.int .i64 (100)), (.int .i64 (100))]))], (.tup [(.agg [(.int .i64 (0)), (.int .i64 (0))]), (.bool false)]), [], 6682⟩
noncomputable def c3 : Ent := ⟨108, [(.agg [(.str [107, 110, 111, 108, 108]), (.sl 6738 0 4 4 2), (.int .i64 (0)), (.int .i64 (10)), (.int .i64 (-5)), (.int .i64 (5)), (.int .i64 (0)), (.int .i64 (0))]), (.int .i64 (79))], 7004, [(6738, (.cells false [(.int .i64 (100)), (.int .i64 (0)), (.int .i64 (200)), (.int .i64 (0)), (.int .i64 (200)), (.int .i64 (100)), (.int .i64 (100)), (.int .i64 (100))]))], (.tup [(.agg [(.int .i64 (0)), (.int .i64 (0))]), (.bool false)]), [], 12412⟩
noncomputable def c4 : Ent := ⟨108, [(.agg [(.str [107, 110, 111, 108, 108]), (.sl 6738 0 4 4 2), (.int .i64 (0)), (.int .i64 (10)), (.int .i64 (-5)), (.int .i64 (5)), (.int .i64 (0)), (.int .i64 (0))]), (.int .i64 (99))], 12487, [(6738, (.cells false [(.int .i64 (100)), (.int .i64 (0)), (.int .i64 (200)), (.int .i64 (0)), (.int .i64 (200)), (.int .i64 (100)), (.int .i64 (100)), (.int .i64 (100))]))], (.tup [(.agg [(.int .i64 (0)), (.int .i64 (0))]), (.bool false)]), [], 17895⟩
noncomputable def c5 : Ent := ⟨108, [(.agg [(.str [107, 110, 111, 108, 108]), (.sl 6738 0 4 4 2), (.int .i64 (0)), (.int .i64 (10)), (.int .i64 (-5)), (.int .i64 (5)), (.int .i64 (0)), (.int .i64 (0))]), (.int .i64 (100))], 18048, [(6738, (.cells false [(.int .i64 (100)), (.int .i64 (0)), (.int .i64 (200)), (.int .i64 (0)), (.int .i64 (200)), (.int .i64 (100)), (.int .i64 (100)), (.int .i64 (100))]))], (.tup [(.agg [(.int .i64 (0)), (.int .i64 (0))]), (.bool false)]), [], 23456⟩
noncomputable def c6 : Ent := ⟨28, [(.agg [(.sl 6733 0 2 2 4), (.sl 6744 0 2 2 6)]), (.agg [(.int .i64 (0)), (.int .i64 (0))])], 6746, [(6730, (.cells false [(.int .i64 (0)), (.int .i64 (1)), (.int .i64 (50)), (.int .i64 (2))])), (6732, (.cells false [(.int .i64 (10)), (.int .i64 (3)), (.int .i64 (90)), (.int .i64 (0))])), (6733, (.cells false [(.str [99, 104, 117, 114, 99, 104]), (.int .i64 (3000)), (.int .i64 (4000)), (.sl 6730 0 2 2 2), (.str [109, 105, 108, 108]), (.int .i64 (-2000)), (.int .i64 (0)), (.sl 6732 0 2 2 2)])), (6738, (.cells false [(.int .i64 (100)), (.int .i64 (0)), (.int .i64 (200)), (.int .i64 (0)), (.int .i64 (200)), (.int .i64 (100)), (.int .i64 (100)), (.int .i64 (100))])), (6743, (.cells false [(.int .i64 (-300)), (.int .i64 (-300)), (.int .i64 (-100)), (.int .i64 (-400)), (.int .i64 (-200)), (.int .i64 (-200))])), (6744, (.cells false [(.str [107, 110, 111, 108, 108]), (.sl 6738 0 4 4 2), (.int .i64 (0)), (.int .i64 (10)), (.int .i64 (-5)), (.int .i64 (5)), (.str [115, 112, 105, 116]), (.sl 6743 0 3 3 2), (.int .i64 (0)), (.int .i64 (0)), (.int .i64 (0)), (.int .i64 (0))]))], (.tup [(.int .i64 (100)), (.int .i64 (0))]), [], 23502⟩
noncomputable def c7 : Ent := ⟨34, [(.agg [(.sl 23821 0 2 2 4), (.sl 23832 0 2 2 6)]), (.int .i64 (20)), (.int .i64 (1)), (.agg [(.int .i64 (-2010)), (.int .i64 (-1990)), (.int .i64 (0)), (.int .i64 (0))])], 23834, [(23818, (.cells false [(.int .i64 (0)), (.int .i64 (1)), (.int .i64 (50)), (.int .i64 (2))])), (23820, (.cells false [(.int .i64 (10)), (.int .i64 (3)), (.int .i64 (90)), (.int .i64 (0))])), (23821, (.cells false [(.str [99, 104, 117, 114, 99, 104]), (.int .i64 (3000)), (.int .i64 (4000)), (.sl 23818 0 2 2 2), (.str [109, 105, 108, 108]), (.int .i64 (-2000)), (.int .i64 (0)), (.sl 23820 0 2 2 2)])), (23826, (.cells false [(.int .i64 (100)), (.int .i64 (0)), (.int .i64 (200)), (.int .i64 (0)), (.int .i64 (200)), (.int .i64 (100)), (.int .i64 (100)), (.int .i64 (100))])), (23831, (.cells false [(.int .i64 (-300)), (.int .i64 (-300)), (.int .i64 (-100)), (.int .i64 (-400)), (.int .i64 (-200)), (.int .i64 (-200))])), (23832, (.cells false [(.str [107, 110, 111, 108, 108]), (.sl 23826 0 4 4 2), (.int .i64 (0)), (.int .i64 (10)), (.int .i64 (-5)), (.int .i64 (5)), (.str [115, 112, 105, 116]), (.sl 23831 0 3 3 2), (.int .i64 (0)), (.int .i64 (0)), (.int .i64 (0)), (.int .i64 (0))]))], (.tup [(.sl 25739 0 2 2 1), (.int .i64 (0))]), [(25739, (.cells false [(.int .i64 (8)), (.int .i64 (24))]))], 25740⟩
noncomputable def c8 : Ent := ⟨36, [(.agg [(.sl 25745 0 2 2 4), (.sl 25756 0 2 2 6)])], 25757, [(25742, (.cells false [(.int .i64 (0)), (.int .i64 (1)), (.int .i64 (50)), (.int .i64 (2))])), (25744, (.cells false [(.int .i64 (10)), (.int .i64 (3)), (.int .i64 (90)), (.int .i64 (0))])), (25745, (.cells false [(.str [99, 104, 117, 114, 99, 104]), (.int .i64 (3000)), (.int .i64 (4000)), (.sl 25742 0 2 2 2), (.str [109, 105, 108, 108]), (.int .i64 (-2000)), (.int .i64 (0)), (.sl 25744 0 2 2 2)])), (25750, (.cells false [(.int .i64 (100)), (.int .i64 (0)), (.int .i64 (200)), (.int .i64 (0)), (.int .i64 (200)), (.int .i64 (100)), (.int .i64 (100)), (.int .i64 (100))])), (25755, (.cells false [(.int .i64 (-300)), (.int .i64 (-300)), (.int .i64 (-100)), (.int .i64 (-400)), (.int .i64 (-200)), (.int .i64 (-200))])), (25756, (.cells false [(.str [107, 110, 111, 108, 108]), (.sl 25750 0 4 4 2), (.int .i64 (0)), (.int .i64 (10)), (.int .i64 (-5)), (.int .i64 (5)), (.str [115, 112, 105, 116]), (.sl 25755 0 3 3 2), (.int .i64 (0)), (.int .i64 (0)), (.int .i64 (0)), (.int .i64 (0))]))], (.tup [(.str [109, 97, 114, 107, 32, 99, 104, 117, 114, 99, 104, 32, 51, 48, 48, 48, 32, 52, 48, 48, 48, 32, 48, 32, 49, 32, 53, 48, 32, 50, 10, 109, 97, 114, 107, 32, 109, 105, 108, 108, 32, 45, 50, 48, 48, 48, 32, 48, 32, 49, 48, 32, 51, 32, 57, 48, 32, 48, 10, 115, 97, 110, 100, 32, 107, 110, 111, 108, 108, 32, 48, 32, 49, 48, 32, 45, 53, 32, 53, 32, 49, 48, 48, 32, 48, 32, 50, 48, 48, 32, 48, 32, 50, 48, 48, 32, 49, 48, 48, 32, 49, 48, 48, 32, 49, 48, 48, 10, 115, 97, 110, 100, 32, 115, 112, 105, 116, 32, 48, 32, 48, 32, 48, 32, 48, 32, 45, 51, 48, 48, 32, 45, 51, 48, 48, 32, 45, 49, 48, 48, 32, 45, 52, 48, 48, 32, 45, 50, 48, 48, 32, 45, 50, 48, 48, 10]), (.int .i64 (0))]), [], 25939⟩
noncomputable def c9 : Ent := ⟨115, [(.str [109, 97, 114, 107, 32, 99, 104, 117, 114, 99, 104, 32, 51, 48, 48, 48, 32, 52, 48, 48, 48, 32, 48, 32, 49, 32, 53, 48, 32, 50, 10, 109, 97, 114, 107, 32, 109, 105, 108, 108, 32, 45, 50, 48, 48, 48, 32, 48, 32, 49, 48, 32, 51, 32, 57, 48, 32, 48, 10, 115, 97, 110, 100, 32, 107, 110, 111, 108, 108, 32, 48, 32, 49, 48, 32, 45, 53, 32, 53, 32, 49, 48, 48, 32, 48, 32, 50, 48, 48, 32, 48, 32, 50, 48, 48, 32, 49, 48, 48, 32, 49, 48, 48, 32, 49, 48, 48, 10, 115, 97, 110, 100, 32, 115, 112, 105, 116, 32, 48, 32, 48, 32, 48, 32, 48, 32, 45, 51, 48, 48, 32, 45, 51, 48, 48, 32, 45, 49, 48, 48, 32, 45, 52, 48, 48, 32, 45, 50, 48, 48, 32, 45, 50, 48, 48, 10])], 25942, [], (.agg [(.sl 25967 0 2 2 4), (.sl 26004 0 2 2 6)]), [(25955, (.cells false [(.int .i64 (0)), (.int .i64 (1)), (.int .i64 (50)), (.int .i64 (2))])), (25966, (.cells false [(.int .i64 (10)), (.int .i64 (3)), (.int .i64 (90)), (.int .i64 (0))])), (25967, (.cells false [(.str [99, 104, 117, 114, 99, 104]), (.int .i64 (3000)), (.int .i64 (4000)), (.sl 25955 0 2 2 2), (.str [109, 105, 108, 108]), (.int .i64 (-2000)), (.int .i64 (0)), (.sl 25966 0 2 2 2)])), (25986, (.cells false [(.int .i64 (100)), (.int .i64 (0)), (.int .i64 (200)), (.int .i64 (0)), (.int .i64 (200)), (.int .i64 (100)), (.int .i64 (100)), (.int .i64 (100))])), (26003, (.cells false [(.int .i64 (-300)), (.int .i64 (-300)), (.int .i64 (-100)), (.int .i64 (-400)), (.int .i64 (-200)), (.int .i64 (-200))])), (26004, (.cells false [(.str [107, 110, 111, 108, 108]), (.sl 25986 0 4 4 2), (.int .i64 (0)), (.int .i64 (10)), (.int .i64 (-5)), (.int .i64 (5)), (.str [115, 112, 105, 116]), (.sl 26003 0 3 3 2), (.int .i64 (0)), (.int .i64 (0)), (.int .i64 (0)), (.int .i64 (0))]))], 26005⟩
noncomputable def c10 : Ent := ⟨36, [(.agg [(.sl 25967 0 2 2 4), (.sl 26004 0 2 2 6)])], 26006, [(25955, (.cells false [(.int .i64 (0)), (.int .i64 (1)), (.int .i64 (50)), (.int .i64 (2))])), (25966, (.cells false [(.int .i64 (10)), (.int .i64 (3)), (.int .i64 (90)), (.int .i64 (0))])), (25967, (.cells false [(.str [99, 104, 117, 114, 99, 104]), (.int .i64 (3000)), (.int .i64 (4000)), (.sl 25955 0 2 2 2), (.str [109, 105, 108, 108]), (.int .i64 (-2000)), (.int .i64 (0)), (.sl 25966 0 2 2 2)])), (25986, (.cells false [(.int .i64 (100)), (.int .i64 (0)), (.int .i64 (200)), (.int .i64 (0)), (.int .i64 (200)), (.int .i64 (100)), (.int .i64 (100)), (.int .i64 (100))])), (26003, (.cells false [(.int .i64 (-300)), (.int .i64 (-300)), (.int .i64 (-100)), (.int .i64 (-400)), (.int .i64 (-200)), (.int .i64 (-200))])), (26004, (.cells false [(.str [107, 110, 111, 108, 108]), (.sl 25986 0 4 4 2), (.int .i64 (0)), (.int .i64 (10)), (.int .i64 (-5)), (.int .i64 (5)), (.str [115, 112, 105, 116]), (.sl 26003 0 3 3 2), (.int .i64 (0)), (.int .i64 (0)), (.int .i64 (0)), (.int .i64 (0))]))], (.tup [(.str [109, 97, 114, 107, 32, 99, 104, 117, 114, 99, 104, 32, 51, 48, 48, 48, 32, 52, 48, 48, 48, 32, 48, 32, 49, 32, 53, 48, 32, 50, 10, 109, 97, 114, 107, 32, 109, 105, 108, 108, 32, 45, 50, 48, 48, 48, 32, 48, 32, 49, 48, 32, 51, 32, 57, 48, 32, 48, 10, 115, 97, 110, 100, 32, 107, 110, 111, 108, 108, 32, 48, 32, 49, 48, 32, 45, 53, 32, 53, 32, 49, 48, 48, 32, 48, 32, 50, 48, 48, 32, 48, 32, 50, 48, 48, 32, 49, 48, 48, 32, 49, 48, 48, 32, 49, 48, 48, 10, 115, 97, 110, 100, 32, 115, 112, 105, 116, 32, 48, 32, 48, 32, 48, 32, 48, 32, 45, 51, 48, 48, 32, 45, 51, 48, 48, 32, 45, 49, 48, 48, 32, 45, 52, 48, 48, 32, 45, 50, 48, 48, 32, 45, 50, 48, 48, 10]), (.int .i64 (0))]), [], 26188⟩
end Go.Proofs.YtffnpkbopjjdaaaGreatDoor

