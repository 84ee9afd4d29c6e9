/-
  LOOPS, told by their heads.
-/
import Derived.Test.YtlbonihgofbanaaGreatDoorPart04
set_option linter.unusedSectionVars false
set_option linter.unusedSimpArgs false
set_option linter.unusedVariables false
set_option maxRecDepth 100000
namespace Go.Proofs.YtlbonihgofbanaaGreatDoor
open Go Go.Eng
noncomputable def pchkI0 (s : tSt.den) (x7 : Int) (x20 : List (AV × AV)) (x29 : Nat) (x69 : Nat) : Cfg := ⟨.ex (pcOf F4 82 [0, 0, 1, 0, 1]) ⟨(tmOf 24 [(0, (.vs tGr (s.fst.fst) (s.fst.snd))), (1, (.fn 83 [] [(.ptr 4 0)])), (4, (.int .i64 (0))), (5, (.int .i64 (0))), (9, (.vs tGr (s.fst.fst) (s.fst.snd))), (10, (.int .i64 (Int.ofNat s.fst.snd.length))), (11, (.int .i64 x7))]), (hpOf 5 [(0, (.cells false [(.vs tGr (s.fst.fst) (s.fst.snd)), (.int .i64 (s.snd.fst.fst)), (.int .i64 (s.snd.fst.snd.fst)), (.int .i64 (s.snd.snd.fst.fst)), (.int .i64 (s.snd.snd.fst.snd.fst))])), (1, (.cells false [(.fn 55 [] []), (.fn 56 [] [])])), (2, (.cells false [(.vs tGr (s.fst.fst) (s.fst.snd)), (.int .i64 (s.snd.fst.fst)), (.int .i64 (s.snd.fst.snd.fst)), (.int .i64 (s.snd.snd.fst.fst)), (.int .i64 (s.snd.snd.fst.snd.fst))])), (3, (.map x20)), (4, (.cells false [(.mp 3)]))]), [], [], 24, false⟩, ⟨10, []⟩, [(.lop (pcOf F4 82 [0, 0, 1, 0, 1]) 5 (tmOf 24 [(0, (.vs tGr (s.fst.fst) (s.fst.snd))), (1, (.fn 83 [] [(.ptr 4 0)])), (4, (.int .i64 (0))), (5, (.int .i64 (0))), (9, (.vs tGr (s.fst.fst) (s.fst.snd))), (10, (.int .i64 (Int.ofNat s.fst.snd.length))), (11, (.int .i64 (0)))]) x29), (.blk 0), (.seq (pcOf F4 82 [1, 1])), (.cal [(.tmp 4), (.tmp 5)] (.op (pcOf F4 56 [0, 1, 1]) 4 (some 9) ((opsOf (pcOf F4 56 [0, 1, 1]).c).toList.drop 4) (tmOf 12 [(0, (.agg [(.vs tGr (s.fst.fst) (s.fst.snd)), (.int .i64 (s.snd.fst.fst)), (.int .i64 (s.snd.fst.snd.fst)), (.int .i64 (s.snd.snd.fst.fst)), (.int .i64 (s.snd.snd.fst.snd.fst))])), (1, (.ptr 2 0)), (2, (.int .i64 (0))), (3, (.int .i64 (0))), (4, (.ptr 4 0)), (5, (.mp 3)), (6, (.ptr 2 0)), (7, (.vs tGr (s.fst.fst) (s.fst.snd))), (8, (.fn 83 [] [(.ptr 4 0)]))]) [] 12 false ⟨11, []⟩)), (.seq (pcOf F4 56 [1, 1, 1])), (.cal [(.tmp 2), (.tmp 3)] (.op (pcOf F4 23 [0, 1, 0, 0, 1, 1, 0, 0, 1, 0, 1, 1]) 3 (some 19) ((opsOf (pcOf F4 23 [0, 1, 0, 0, 1, 1, 0, 0, 1, 0, 1, 1]).c).toList.drop 3) (tmOf 29 [(0, (.agg [(.vs tGr (s.fst.fst) (s.fst.snd)), (.int .i64 (s.snd.fst.fst)), (.int .i64 (s.snd.fst.snd.fst)), (.int .i64 (s.snd.snd.fst.fst)), (.int .i64 (s.snd.snd.fst.snd.fst))])), (1, (.ptr 0 0)), (2, (.int .i64 (0))), (3, (.int .i64 (0))), (4, (.int .i64 (0))), (5, (.ptr 1 0)), (6, (.int .i64 (1))), (7, (.fn 56 [] [])), (10, (.agg [(.fn 55 [] []), (.fn 56 [] [])])), (11, (.agg [(.fn 55 [] []), (.fn 56 [] [])])), (12, (.int .i64 (1))), (13, (.bool (true))), (14, (.int .i64 (1))), (15, (.fn 56 [] [])), (17, (.fn 56 [] [])), (18, (.agg [(.vs tGr (s.fst.fst) (s.fst.snd)), (.int .i64 (s.snd.fst.fst)), (.int .i64 (s.snd.fst.snd.fst)), (.int .i64 (s.snd.snd.fst.fst)), (.int .i64 (s.snd.snd.fst.snd.fst))]))]) [] 29 false ⟨12, []⟩)), (.seq (pcOf F4 23 [1, 1, 0, 0, 1, 1, 0, 0, 1, 0, 1, 1])), (.blk 1), (.seq (pcOf F4 23 [1, 1, 1, 0, 0, 1, 0, 1, 1])), (.lop (pcOf F4 23 [0, 0, 1, 0, 1, 1]) 2 (tmOf 29 [(0, (.agg [(.vs tGr (s.fst.fst) (s.fst.snd)), (.int .i64 (s.snd.fst.fst)), (.int .i64 (s.snd.fst.snd.fst)), (.int .i64 (s.snd.snd.fst.fst)), (.int .i64 (s.snd.snd.fst.snd.fst))])), (1, (.ptr 0 0)), (2, (.int .i64 (0))), (3, (.int .i64 (0))), (4, (.int .i64 (0))), (5, (.ptr 1 0)), (10, (.agg [(.fn 55 [] []), (.fn 56 [] [])])), (11, (.agg [(.fn 55 [] []), (.fn 56 [] [])])), (12, (.int .i64 (0)))]) x69), (.blk 0), (.seq (pcOf F4 23 [1, 1, 1])), (.cal [(.tmp 2), (.tmp 3), (.tmp 4)] .top)]⟩
theorem pchk_start (s : tSt.den) : adv F4 (Z4 [82]) 3000 (startC F4 23 [tSt.av s] 12) = (bif !ile 1 ↑s.fst.snd.length then some (.done (.tup [(.int .i64 (1)), (.int .i64 (0)), (.int .i64 (3))])) else (bif !ile (↑s.fst.snd.length) 4 then some (.done (.tup [(.int .i64 (1)), (.int .i64 (0)), (.int .i64 (3))])) else (bif !ile 1 s.snd.fst.fst then some (.done (.tup [(.int .i64 (1)), (.int .i64 (0)), (.int .i64 (7))])) else (bif !ile s.snd.fst.fst 200 then some (.done (.tup [(.int .i64 (1)), (.int .i64 (0)), (.int .i64 (7))])) else (bif !ile 1 s.snd.fst.snd.fst then some (.done (.tup [(.int .i64 (1)), (.int .i64 (0)), (.int .i64 (7))])) else (bif !ile s.snd.fst.snd.fst 200 then some (.done (.tup [(.int .i64 (1)), (.int .i64 (0)), (.int .i64 (7))])) else (bif !ile 1 s.snd.snd.fst.fst then some (.done (.tup [(.int .i64 (1)), (.int .i64 (0)), (.int .i64 (7))])) else (bif !ile s.snd.snd.fst.fst 300 then some (.done (.tup [(.int .i64 (1)), (.int .i64 (0)), (.int .i64 (7))])) else (bif !ile 1 s.snd.snd.fst.snd.fst then some (.done (.tup [(.int .i64 (1)), (.int .i64 (0)), (.int .i64 (7))])) else (bif !ile s.snd.snd.fst.snd.fst 300 then some (.done (.tup [(.int .i64 (1)), (.int .i64 (0)), (.int .i64 (7))])) else (bif !ile s.snd.fst.fst s.snd.fst.snd.fst then some (.done (.tup [(.int .i64 (1)), (.int .i64 (0)), (.int .i64 (2))])) else (bif !ile s.snd.snd.fst.fst s.snd.snd.fst.snd.fst then some (.done (.tup [(.int .i64 (1)), (.int .i64 (0)), (.int .i64 (2))])) else some (.stop (pchkI0 s (0) ([]) (1048575) (1048574))))))))))))))) := by kernel_rfl
theorem pchk_step0 (s : tSt.den) (x7 : Int) (x20 : List (AV × AV)) (x29 : Nat) (x69 : Nat) : adv F4 (Z4 [82]) 3000 (pchkI0 s x7 x20 (x29 + 1) (x69 + 1)) = (bif !ile (Int.ofNat s.fst.snd.length) x7 then (bif inB x7 s.fst.snd.length then (bif !nameS (s.fst.snd.getD x7.toNat tGr.dflt).fst then some (.done (.tup [(.int .i64 (2)), (.int .i64 (x7)), (.int .i64 (6))])) else (bif okSB x20 then (bif getSB (s.fst.snd.getD x7.toNat tGr.dflt).fst x20 then some (.done (.tup [(.int .i64 (2)), (.int .i64 (x7)), (.int .i64 (5))])) else (bif okSB x20 then (bif !ile 1 (s.fst.snd.getD x7.toNat tGr.dflt).snd.fst.fst then some (.done (.tup [(.int .i64 (2)), (.int .i64 (x7)), (.int .i64 (7))])) else (bif !ile (s.fst.snd.getD x7.toNat tGr.dflt).snd.fst.fst 5000 then some (.done (.tup [(.int .i64 (2)), (.int .i64 (x7)), (.int .i64 (7))])) else (bif plO (AO.map (setSB (s.fst.snd.getD x7.toNat tGr.dflt).fst true x20)) then (bif !ile 1 (s.fst.snd.getD x7.toNat tGr.dflt).snd.fst.snd.fst then some (.done (.tup [(.int .i64 (2)), (.int .i64 (x7)), (.int .i64 (7))])) else (bif !ile (s.fst.snd.getD x7.toNat tGr.dflt).snd.fst.snd.fst 5000 then some (.done (.tup [(.int .i64 (2)), (.int .i64 (x7)), (.int .i64 (7))])) else (bif plO (AO.map (setSB (s.fst.snd.getD x7.toNat tGr.dflt).fst true x20)) then (bif !ile 0 (s.fst.snd.getD x7.toNat tGr.dflt).snd.snd.fst then some (.done (.tup [(.int .i64 (2)), (.int .i64 (x7)), (.int .i64 (7))])) else (bif !ile (s.fst.snd.getD x7.toNat tGr.dflt).snd.snd.fst 1000 then some (.done (.tup [(.int .i64 (2)), (.int .i64 (x7)), (.int .i64 (7))])) else (bif plO (AO.map (setSB (s.fst.snd.getD x7.toNat tGr.dflt).fst true x20)) then (bif !ile (s.fst.snd.getD x7.toNat tGr.dflt).snd.fst.fst (s.fst.snd.getD x7.toNat tGr.dflt).snd.fst.snd.fst then some (.done (.tup [(.int .i64 (2)), (.int .i64 (x7)), (.int .i64 (2))])) else (bif !ile (s.fst.snd.getD x7.toNat tGr.dflt).snd.fst.snd.fst (wr IntKind.i64 ((s.fst.snd.getD x7.toNat tGr.dflt).snd.fst.fst + 40)) then some (.done (.tup [(.int .i64 (2)), (.int .i64 (x7)), (.int .i64 (2))])) else (bif plO (AO.map (setSB (s.fst.snd.getD x7.toNat tGr.dflt).fst true x20)) then some (.stop (pchkI0 s (wr IntKind.i64 (x7 + 1)) (setSB (s.fst.snd.getD x7.toNat tGr.dflt).fst true x20) (x29) (x69 + 1))) else none))) else none))) else none))) else none))) else none)) else none)) else none) else some (.done (.tup [(.int .i64 (0)), (.int .i64 (0)), (.int .i64 (0))]))) := by kernel_rfl
noncomputable def rchkI0 (s : tSt.den) (x76 : Nat) : Cfg := ⟨.ex (pcOf F4 22 [0, 0, 1, 0, 1, 1, 1, 1, 1, 1]) ⟨(tmOf 83 [(0, (.agg [(.vs tGr (s.fst.fst) (s.fst.snd)), (.int .i64 (s.snd.fst.fst)), (.int .i64 (s.snd.fst.snd.fst)), (.int .i64 (s.snd.snd.fst.fst)), (.int .i64 (s.snd.snd.fst.snd.fst))])), (1, (.ptr 0 0)), (2, (.int .i64 (0))), (3, (.int .i64 (0))), (4, (.int .i64 (0))), (5, (.int .i64 (rngE s.snd.fst.fst s.snd.fst.snd.fst 1 200))), (6, (.int .i64 (rngE s.snd.snd.fst.fst s.snd.snd.fst.snd.fst 1 300))), (7, .nils), (8, (.int .i64 (0))), (10, (.ptr 0 0)), (11, (.vs tGr (s.fst.fst) (s.fst.snd))), (12, (.int .i64 (Int.ofNat s.fst.snd.length))), (13, (.bool (ile (↑s.fst.snd.length) 4))), (14, (.bool (false))), (15, (.ptr 0 1)), (16, (.agg [(.int .i64 (s.snd.fst.fst)), (.int .i64 (s.snd.fst.snd.fst))])), (17, (.int .i64 (rngE s.snd.fst.fst s.snd.fst.snd.fst 1 200))), (18, (.ptr 0 3)), (19, (.agg [(.int .i64 (s.snd.snd.fst.fst)), (.int .i64 (s.snd.snd.fst.snd.fst))])), (20, (.int .i64 (rngE s.snd.snd.fst.fst s.snd.snd.fst.snd.fst 1 300))), (21, (.int .i64 (rngE s.snd.fst.fst s.snd.fst.snd.fst 1 200))), (22, (.bool (ieq (rngE s.snd.fst.fst s.snd.fst.snd.fst 1 200) 7))), (23, (.bool (false))), (24, (.int .i64 (rngE s.snd.snd.fst.fst s.snd.snd.fst.snd.fst 1 300))), (25, (.bool (ieq (rngE s.snd.snd.fst.fst s.snd.snd.fst.snd.fst 1 300) 7))), (26, (.bool (false))), (27, (.int .i64 (rngE s.snd.fst.fst s.snd.fst.snd.fst 1 200))), (28, (.bool (!ieq (rngE s.snd.fst.fst s.snd.fst.snd.fst 1 200) 0))), (29, (.bool (false))), (30, (.int .i64 (rngE s.snd.snd.fst.fst s.snd.snd.fst.snd.fst 1 300))), (31, (.bool (!ieq (rngE s.snd.snd.fst.fst s.snd.snd.fst.snd.fst 1 300) 0))), (32, (.bool (false)))]), (hpOf 1 [(0, (.cells false [(.vs tGr (s.fst.fst) (s.fst.snd)), (.int .i64 (s.snd.fst.fst)), (.int .i64 (s.snd.fst.snd.fst)), (.int .i64 (s.snd.snd.fst.fst)), (.int .i64 (s.snd.snd.fst.snd.fst))]))]), [], [], 83, false⟩, ⟨12, []⟩, [(.lop (pcOf F4 22 [0, 0, 1, 0, 1, 1, 1, 1, 1, 1]) 1 (tmOf 83 [(0, (.agg [(.vs tGr (s.fst.fst) (s.fst.snd)), (.int .i64 (s.snd.fst.fst)), (.int .i64 (s.snd.fst.snd.fst)), (.int .i64 (s.snd.snd.fst.fst)), (.int .i64 (s.snd.snd.fst.snd.fst))])), (1, (.ptr 0 0)), (2, (.int .i64 (0))), (3, (.int .i64 (0))), (4, (.int .i64 (0))), (5, (.int .i64 (rngE s.snd.fst.fst s.snd.fst.snd.fst 1 200))), (6, (.int .i64 (rngE s.snd.snd.fst.fst s.snd.snd.fst.snd.fst 1 300))), (7, .nils), (8, (.int .i64 (0))), (10, (.ptr 0 0)), (11, (.vs tGr (s.fst.fst) (s.fst.snd))), (12, (.int .i64 (Int.ofNat s.fst.snd.length))), (13, (.bool (ile (↑s.fst.snd.length) 4))), (14, (.bool (false))), (15, (.ptr 0 1)), (16, (.agg [(.int .i64 (s.snd.fst.fst)), (.int .i64 (s.snd.fst.snd.fst))])), (17, (.int .i64 (rngE s.snd.fst.fst s.snd.fst.snd.fst 1 200))), (18, (.ptr 0 3)), (19, (.agg [(.int .i64 (s.snd.snd.fst.fst)), (.int .i64 (s.snd.snd.fst.snd.fst))])), (20, (.int .i64 (rngE s.snd.snd.fst.fst s.snd.snd.fst.snd.fst 1 300))), (21, (.int .i64 (rngE s.snd.fst.fst s.snd.fst.snd.fst 1 200))), (22, (.bool (ieq (rngE s.snd.fst.fst s.snd.fst.snd.fst 1 200) 7))), (23, (.bool (false))), (24, (.int .i64 (rngE s.snd.snd.fst.fst s.snd.snd.fst.snd.fst 1 300))), (25, (.bool (ieq (rngE s.snd.snd.fst.fst s.snd.snd.fst.snd.fst 1 300) 7))), (26, (.bool (false))), (27, (.int .i64 (rngE s.snd.fst.fst s.snd.fst.snd.fst 1 200))), (28, (.bool (!ieq (rngE s.snd.fst.fst s.snd.fst.snd.fst 1 200) 0))), (29, (.bool (false))), (30, (.int .i64 (rngE s.snd.snd.fst.fst s.snd.snd.fst.snd.fst 1 300))), (31, (.bool (!ieq (rngE s.snd.snd.fst.fst s.snd.snd.fst.snd.fst 1 300) 0))), (32, (.bool (false)))]) x76), (.blk 0), (.seq (pcOf F4 22 [1, 1, 1, 1, 1, 1, 1])), (.cal [(.tmp 2), (.tmp 3), (.tmp 4)] .top)]⟩
noncomputable def rchkI1 (s : tSt.den) (x79 : Nat) : Cfg := ⟨.ex (pcOf F4 22 [0, 0, 1, 0, 1, 1, 1, 1, 1, 1]) ⟨(tmOf 83 [(0, (.agg [(.vs tGr (s.fst.fst) (s.fst.snd)), (.int .i64 (s.snd.fst.fst)), (.int .i64 (s.snd.fst.snd.fst)), (.int .i64 (s.snd.snd.fst.fst)), (.int .i64 (s.snd.snd.fst.snd.fst))])), (1, (.ptr 0 0)), (2, (.int .i64 (0))), (3, (.int .i64 (0))), (4, (.int .i64 (0))), (5, (.int .i64 (rngE (s.fst.snd.getD (Int.toNat 0) tGr.dflt).snd.fst.fst (s.fst.snd.getD (Int.toNat 0) tGr.dflt).snd.fst.snd.fst 1 5000))), (6, (.int .i64 (rngE s.snd.snd.fst.fst s.snd.snd.fst.snd.fst 1 300))), (7, (.sl 1 0 (1) (1) 1)), (8, (.int .i64 (1))), (10, (.ptr 0 0)), (11, (.vs tGr (s.fst.fst) (s.fst.snd))), (12, (.int .i64 (Int.ofNat s.fst.snd.length))), (13, (.bool (ile (↑s.fst.snd.length) 4))), (14, (.bool (false))), (15, (.ptr 0 1)), (16, (.agg [(.int .i64 (s.snd.fst.fst)), (.int .i64 (s.snd.fst.snd.fst))])), (17, (.int .i64 (rngE s.snd.fst.fst s.snd.fst.snd.fst 1 200))), (18, (.ptr 0 3)), (19, (.agg [(.int .i64 (s.snd.snd.fst.fst)), (.int .i64 (s.snd.snd.fst.snd.fst))])), (20, (.int .i64 (rngE s.snd.snd.fst.fst s.snd.snd.fst.snd.fst 1 300))), (21, (.int .i64 (rngE s.snd.fst.fst s.snd.fst.snd.fst 1 200))), (22, (.bool (ieq (rngE s.snd.fst.fst s.snd.fst.snd.fst 1 200) 7))), (23, (.bool (false))), (24, (.int .i64 (rngE s.snd.snd.fst.fst s.snd.snd.fst.snd.fst 1 300))), (25, (.bool (ieq (rngE s.snd.snd.fst.fst s.snd.snd.fst.snd.fst 1 300) 7))), (26, (.bool (false))), (27, (.int .i64 (rngE s.snd.fst.fst s.snd.fst.snd.fst 1 200))), (28, (.bool (!ieq (rngE s.snd.fst.fst s.snd.fst.snd.fst 1 200) 0))), (29, (.bool (false))), (30, (.int .i64 (rngE s.snd.snd.fst.fst s.snd.snd.fst.snd.fst 1 300))), (31, (.bool (!ieq (rngE s.snd.snd.fst.fst s.snd.snd.fst.snd.fst 1 300) 0))), (32, (.bool (false)))]), (hpOf 2 [(0, (.cells false [(.vs tGr (s.fst.fst) (s.fst.snd)), (.int .i64 (s.snd.fst.fst)), (.int .i64 (s.snd.fst.snd.fst)), (.int .i64 (s.snd.snd.fst.fst)), (.int .i64 (s.snd.snd.fst.snd.fst))])), (1, (.cells false ([AV.str (s.fst.snd.getD (Int.toNat 0) tGr.dflt).fst])))]), [], [], 83, false⟩, ⟨12, []⟩, [(.lop (pcOf F4 22 [0, 0, 1, 0, 1, 1, 1, 1, 1, 1]) 1 (tmOf 83 [(0, (.agg [(.vs tGr (s.fst.fst) (s.fst.snd)), (.int .i64 (s.snd.fst.fst)), (.int .i64 (s.snd.fst.snd.fst)), (.int .i64 (s.snd.snd.fst.fst)), (.int .i64 (s.snd.snd.fst.snd.fst))])), (1, (.ptr 0 0)), (2, (.int .i64 (0))), (3, (.int .i64 (0))), (4, (.int .i64 (0))), (5, (.int .i64 (rngE s.snd.fst.fst s.snd.fst.snd.fst 1 200))), (6, (.int .i64 (rngE s.snd.snd.fst.fst s.snd.snd.fst.snd.fst 1 300))), (7, .nils), (8, (.int .i64 (0))), (10, (.ptr 0 0)), (11, (.vs tGr (s.fst.fst) (s.fst.snd))), (12, (.int .i64 (Int.ofNat s.fst.snd.length))), (13, (.bool (ile (↑s.fst.snd.length) 4))), (14, (.bool (false))), (15, (.ptr 0 1)), (16, (.agg [(.int .i64 (s.snd.fst.fst)), (.int .i64 (s.snd.fst.snd.fst))])), (17, (.int .i64 (rngE s.snd.fst.fst s.snd.fst.snd.fst 1 200))), (18, (.ptr 0 3)), (19, (.agg [(.int .i64 (s.snd.snd.fst.fst)), (.int .i64 (s.snd.snd.fst.snd.fst))])), (20, (.int .i64 (rngE s.snd.snd.fst.fst s.snd.snd.fst.snd.fst 1 300))), (21, (.int .i64 (rngE s.snd.fst.fst s.snd.fst.snd.fst 1 200))), (22, (.bool (ieq (rngE s.snd.fst.fst s.snd.fst.snd.fst 1 200) 7))), (23, (.bool (false))), (24, (.int .i64 (rngE s.snd.snd.fst.fst s.snd.snd.fst.snd.fst 1 300))), (25, (.bool (ieq (rngE s.snd.snd.fst.fst s.snd.snd.fst.snd.fst 1 300) 7))), (26, (.bool (false))), (27, (.int .i64 (rngE s.snd.fst.fst s.snd.fst.snd.fst 1 200))), (28, (.bool (!ieq (rngE s.snd.fst.fst s.snd.fst.snd.fst 1 200) 0))), (29, (.bool (false))), (30, (.int .i64 (rngE s.snd.snd.fst.fst s.snd.snd.fst.snd.fst 1 300))), (31, (.bool (!ieq (rngE s.snd.snd.fst.fst s.snd.snd.fst.snd.fst 1 300) 0))), (32, (.bool (false)))]) x79), (.blk 0), (.seq (pcOf F4 22 [1, 1, 1, 1, 1, 1, 1])), (.cal [(.tmp 2), (.tmp 3), (.tmp 4)] .top)]⟩
noncomputable def rchkI2 (s : tSt.den) (x9 : Int) (x11 : Nat) (x13 : Int) (x43 : List AV) (x79 : Nat) : Cfg := ⟨.ex (pcOf F4 22 [0, 0, 1, 0, 1, 1, 1, 1, 1, 1]) ⟨(tmOf 83 [(0, (.agg [(.vs tGr (s.fst.fst) (s.fst.snd)), (.int .i64 (s.snd.fst.fst)), (.int .i64 (s.snd.fst.snd.fst)), (.int .i64 (s.snd.snd.fst.fst)), (.int .i64 (s.snd.snd.fst.snd.fst))])), (1, (.ptr 0 0)), (2, (.int .i64 (0))), (3, (.int .i64 (0))), (4, (.int .i64 (0))), (5, (.int .i64 x9)), (6, (.int .i64 (rngE s.snd.snd.fst.fst s.snd.snd.fst.snd.fst 1 300))), (7, (.sl 1 0 x11 x11 1)), (8, (.int .i64 x13)), (10, (.ptr 0 0)), (11, (.vs tGr (s.fst.fst) (s.fst.snd))), (12, (.int .i64 (Int.ofNat s.fst.snd.length))), (13, (.bool (ile (↑s.fst.snd.length) 4))), (14, (.bool (false))), (15, (.ptr 0 1)), (16, (.agg [(.int .i64 (s.snd.fst.fst)), (.int .i64 (s.snd.fst.snd.fst))])), (17, (.int .i64 (rngE s.snd.fst.fst s.snd.fst.snd.fst 1 200))), (18, (.ptr 0 3)), (19, (.agg [(.int .i64 (s.snd.snd.fst.fst)), (.int .i64 (s.snd.snd.fst.snd.fst))])), (20, (.int .i64 (rngE s.snd.snd.fst.fst s.snd.snd.fst.snd.fst 1 300))), (21, (.int .i64 (rngE s.snd.fst.fst s.snd.fst.snd.fst 1 200))), (22, (.bool (ieq (rngE s.snd.fst.fst s.snd.fst.snd.fst 1 200) 7))), (23, (.bool (false))), (24, (.int .i64 (rngE s.snd.snd.fst.fst s.snd.snd.fst.snd.fst 1 300))), (25, (.bool (ieq (rngE s.snd.snd.fst.fst s.snd.snd.fst.snd.fst 1 300) 7))), (26, (.bool (false))), (27, (.int .i64 (rngE s.snd.fst.fst s.snd.fst.snd.fst 1 200))), (28, (.bool (!ieq (rngE s.snd.fst.fst s.snd.fst.snd.fst 1 200) 0))), (29, (.bool (false))), (30, (.int .i64 (rngE s.snd.snd.fst.fst s.snd.snd.fst.snd.fst 1 300))), (31, (.bool (!ieq (rngE s.snd.snd.fst.fst s.snd.snd.fst.snd.fst 1 300) 0))), (32, (.bool (false)))]), (hpOf 2 [(0, (.cells false [(.vs tGr (s.fst.fst) (s.fst.snd)), (.int .i64 (s.snd.fst.fst)), (.int .i64 (s.snd.fst.snd.fst)), (.int .i64 (s.snd.snd.fst.fst)), (.int .i64 (s.snd.snd.fst.snd.fst))])), (1, (.cells true x43))]), [], [], 83, false⟩, ⟨12, []⟩, [(.lop (pcOf F4 22 [0, 0, 1, 0, 1, 1, 1, 1, 1, 1]) 1 (tmOf 83 [(0, (.agg [(.vs tGr (s.fst.fst) (s.fst.snd)), (.int .i64 (s.snd.fst.fst)), (.int .i64 (s.snd.fst.snd.fst)), (.int .i64 (s.snd.snd.fst.fst)), (.int .i64 (s.snd.snd.fst.snd.fst))])), (1, (.ptr 0 0)), (2, (.int .i64 (0))), (3, (.int .i64 (0))), (4, (.int .i64 (0))), (5, (.int .i64 (rngE s.snd.fst.fst s.snd.fst.snd.fst 1 200))), (6, (.int .i64 (rngE s.snd.snd.fst.fst s.snd.snd.fst.snd.fst 1 300))), (7, .nils), (8, (.int .i64 (0))), (10, (.ptr 0 0)), (11, (.vs tGr (s.fst.fst) (s.fst.snd))), (12, (.int .i64 (Int.ofNat s.fst.snd.length))), (13, (.bool (ile (↑s.fst.snd.length) 4))), (14, (.bool (false))), (15, (.ptr 0 1)), (16, (.agg [(.int .i64 (s.snd.fst.fst)), (.int .i64 (s.snd.fst.snd.fst))])), (17, (.int .i64 (rngE s.snd.fst.fst s.snd.fst.snd.fst 1 200))), (18, (.ptr 0 3)), (19, (.agg [(.int .i64 (s.snd.snd.fst.fst)), (.int .i64 (s.snd.snd.fst.snd.fst))])), (20, (.int .i64 (rngE s.snd.snd.fst.fst s.snd.snd.fst.snd.fst 1 300))), (21, (.int .i64 (rngE s.snd.fst.fst s.snd.fst.snd.fst 1 200))), (22, (.bool (ieq (rngE s.snd.fst.fst s.snd.fst.snd.fst 1 200) 7))), (23, (.bool (false))), (24, (.int .i64 (rngE s.snd.snd.fst.fst s.snd.snd.fst.snd.fst 1 300))), (25, (.bool (ieq (rngE s.snd.snd.fst.fst s.snd.snd.fst.snd.fst 1 300) 7))), (26, (.bool (false))), (27, (.int .i64 (rngE s.snd.fst.fst s.snd.fst.snd.fst 1 200))), (28, (.bool (!ieq (rngE s.snd.fst.fst s.snd.fst.snd.fst 1 200) 0))), (29, (.bool (false))), (30, (.int .i64 (rngE s.snd.snd.fst.fst s.snd.snd.fst.snd.fst 1 300))), (31, (.bool (!ieq (rngE s.snd.snd.fst.fst s.snd.snd.fst.snd.fst 1 300) 0))), (32, (.bool (false)))]) x79), (.blk 0), (.seq (pcOf F4 22 [1, 1, 1, 1, 1, 1, 1])), (.cal [(.tmp 2), (.tmp 3), (.tmp 4)] .top)]⟩
theorem rchk_start (s : tSt.den) : adv F4 (Z4 [22]) 3000 (startC F4 22 [tSt.av s] 12) = (bif ile 1 ↑s.fst.snd.length then (bif !ile (↑s.fst.snd.length) 4 then some (.done (.tup [(.int .i64 (1)), (.int .i64 (0)), (.int .i64 (3))])) else (bif ieq s.snd.snd.fst.fst s.snd.snd.fst.fst then (bif ieq s.snd.snd.fst.snd.fst s.snd.snd.fst.snd.fst then (bif ieq s.snd.snd.fst.fst s.snd.snd.fst.fst then (bif ieq s.snd.snd.fst.snd.fst s.snd.snd.fst.snd.fst then (bif ieq s.snd.fst.fst s.snd.fst.fst then (bif ieq s.snd.fst.snd.fst s.snd.fst.snd.fst then (bif ieq (rngE s.snd.fst.fst s.snd.fst.snd.fst 1 200) 7 then some (.done (.tup [(.int .i64 (1)), (.int .i64 (0)), (.int .i64 (7))])) else (bif ieq (rngE s.snd.snd.fst.fst s.snd.snd.fst.snd.fst 1 300) 7 then some (.done (.tup [(.int .i64 (1)), (.int .i64 (0)), (.int .i64 (7))])) else (bif !ieq (rngE s.snd.fst.fst s.snd.fst.snd.fst 1 200) 0 then some (.done (.tup [(.int .i64 (1)), (.int .i64 (0)), (.int .i64 (2))])) else (bif !ieq (rngE s.snd.snd.fst.fst s.snd.snd.fst.snd.fst 1 300) 0 then some (.done (.tup [(.int .i64 (1)), (.int .i64 (0)), (.int .i64 (2))])) else some (.stop (rchkI0 s (1048575))))))) else none) else none) else none) else none) else none) else none)) else some (.done (.tup [(.int .i64 (1)), (.int .i64 (0)), (.int .i64 (3))]))) := by kernel_rfl
theorem rchk_step0 (s : tSt.den) (x76 : Nat) : adv F4 (Z4 [22]) 3000 (rchkI0 s (x76 + 1)) = (bif !ile (↑s.fst.snd.length) 0 then (bif inB 0 s.fst.snd.length then (bif !nameS (s.fst.snd.getD (Int.toNat 0) tGr.dflt).fst then some (.done (.tup [(.int .i64 (2)), (.int .i64 (0)), (.int .i64 (6))])) else (bif ile 0 (s.fst.snd.getD (Int.toNat 0) tGr.dflt).snd.snd.fst then (bif !ile (s.fst.snd.getD (Int.toNat 0) tGr.dflt).snd.snd.fst 1000 then some (.done (.tup [(.int .i64 (2)), (.int .i64 (0)), (.int .i64 (7))])) else (bif ieq (rngE (s.fst.snd.getD (Int.toNat 0) tGr.dflt).snd.fst.fst (s.fst.snd.getD (Int.toNat 0) tGr.dflt).snd.fst.snd.fst 1 5000) 0 then (bif !ile (s.fst.snd.getD (Int.toNat 0) tGr.dflt).snd.fst.snd.fst (wr IntKind.i64 ((s.fst.snd.getD (Int.toNat 0) tGr.dflt).snd.fst.fst + 40)) then some (.done (.tup [(.int .i64 (2)), (.int .i64 (0)), (.int .i64 (2))])) else (bif !ieq (rngE (s.fst.snd.getD (Int.toNat 0) tGr.dflt).snd.fst.fst (s.fst.snd.getD (Int.toNat 0) tGr.dflt).snd.fst.snd.fst 1 5000) 0 then some (.done (.tup [(.int .i64 (2)), (.int .i64 (0)), (.int .i64 (rngE (s.fst.snd.getD (Int.toNat 0) tGr.dflt).snd.fst.fst (s.fst.snd.getD (Int.toNat 0) tGr.dflt).snd.fst.snd.fst 1 5000))])) else some (.stop (rchkI1 s (x76))))) else (bif !ieq (rngE (s.fst.snd.getD (Int.toNat 0) tGr.dflt).snd.fst.fst (s.fst.snd.getD (Int.toNat 0) tGr.dflt).snd.fst.snd.fst 1 5000) 0 then some (.done (.tup [(.int .i64 (2)), (.int .i64 (0)), (.int .i64 (rngE (s.fst.snd.getD (Int.toNat 0) tGr.dflt).snd.fst.fst (s.fst.snd.getD (Int.toNat 0) tGr.dflt).snd.fst.snd.fst 1 5000))])) else some (.stop (rchkI1 s (x76)))))) else some (.done (.tup [(.int .i64 (2)), (.int .i64 (0)), (.int .i64 (7))])))) else none) else some (.done (.tup [(.int .i64 (0)), (.int .i64 (0)), (.int .i64 (0))]))) := by kernel_rfl
theorem rchk_step1 (s : tSt.den) (x79 : Nat) : adv F4 (Z4 [22]) 3000 (rchkI1 s (x79 + 1)) = (bif !ile (↑s.fst.snd.length) 1 then (bif inB 1 s.fst.snd.length then (bif !nameS (s.fst.snd.getD (Int.toNat 1) tGr.dflt).fst then some (.done (.tup [(.int .i64 (2)), (.int .i64 (1)), (.int .i64 (6))])) else (bif ile 0 (placeF (s.fst.snd.getD (Int.toNat 1) tGr.dflt).fst (strs (List.drop 0 [AV.str (s.fst.snd.getD (Int.toNat 0) tGr.dflt).fst])) 0) then some (.done (.tup [(.int .i64 (2)), (.int .i64 (1)), (.int .i64 (5))])) else (bif ile 0 (s.fst.snd.getD (Int.toNat 1) tGr.dflt).snd.snd.fst then (bif !ile (s.fst.snd.getD (Int.toNat 1) tGr.dflt).snd.snd.fst 1000 then some (.done (.tup [(.int .i64 (2)), (.int .i64 (1)), (.int .i64 (7))])) else (bif ieq (rngE (s.fst.snd.getD (Int.toNat 1) tGr.dflt).snd.fst.fst (s.fst.snd.getD (Int.toNat 1) tGr.dflt).snd.fst.snd.fst 1 5000) 0 then (bif !ile (s.fst.snd.getD (Int.toNat 1) tGr.dflt).snd.fst.snd.fst (wr IntKind.i64 ((s.fst.snd.getD (Int.toNat 1) tGr.dflt).snd.fst.fst + 40)) then some (.done (.tup [(.int .i64 (2)), (.int .i64 (1)), (.int .i64 (2))])) else (bif !ieq (rngE (s.fst.snd.getD (Int.toNat 1) tGr.dflt).snd.fst.fst (s.fst.snd.getD (Int.toNat 1) tGr.dflt).snd.fst.snd.fst 1 5000) 0 then some (.done (.tup [(.int .i64 (2)), (.int .i64 (1)), (.int .i64 (rngE (s.fst.snd.getD (Int.toNat 1) tGr.dflt).snd.fst.fst (s.fst.snd.getD (Int.toNat 1) tGr.dflt).snd.fst.snd.fst 1 5000))])) else some (.stop (rchkI2 s (rngE (s.fst.snd.getD (Int.toNat 1) tGr.dflt).snd.fst.fst (s.fst.snd.getD (Int.toNat 1) tGr.dflt).snd.fst.snd.fst 1 5000) (2) (2) ([AV.str (s.fst.snd.getD (Int.toNat 0) tGr.dflt).fst, AV.str (s.fst.snd.getD (Int.toNat 1) tGr.dflt).fst]) (x79))))) else (bif !ieq (rngE (s.fst.snd.getD (Int.toNat 1) tGr.dflt).snd.fst.fst (s.fst.snd.getD (Int.toNat 1) tGr.dflt).snd.fst.snd.fst 1 5000) 0 then some (.done (.tup [(.int .i64 (2)), (.int .i64 (1)), (.int .i64 (rngE (s.fst.snd.getD (Int.toNat 1) tGr.dflt).snd.fst.fst (s.fst.snd.getD (Int.toNat 1) tGr.dflt).snd.fst.snd.fst 1 5000))])) else some (.stop (rchkI2 s (rngE (s.fst.snd.getD (Int.toNat 1) tGr.dflt).snd.fst.fst (s.fst.snd.getD (Int.toNat 1) tGr.dflt).snd.fst.snd.fst 1 5000) (2) (2) ([AV.str (s.fst.snd.getD (Int.toNat 0) tGr.dflt).fst, AV.str (s.fst.snd.getD (Int.toNat 1) tGr.dflt).fst]) (x79)))))) else some (.done (.tup [(.int .i64 (2)), (.int .i64 (1)), (.int .i64 (7))]))))) else none) else some (.done (.tup [(.int .i64 (0)), (.int .i64 (0)), (.int .i64 (0))]))) := by kernel_rfl
theorem rchk_step2 (s : tSt.den) (x9 : Int) (x11 : Nat) (x13 : Int) (x43 : List AV) (x79 : Nat) : adv F4 (Z4 [22]) 3000 (rchkI2 s x9 x11 x13 x43 (x79 + 1)) = (bif !ile (↑s.fst.snd.length) x13 then (bif inB x13 s.fst.snd.length then (bif plainL x43 then (bif !nameS (s.fst.snd.getD x13.toNat tGr.dflt).fst then (bif (0 + x11 * 1).beq x43.length then (bif x11.ble 1048576 then some (.done (.tup [(.int .i64 (2)), (.int .i64 (x13)), (.int .i64 (6))])) else none) else none) else (bif (List.drop 0 x43).all isS && x11.beq (List.drop 0 x43).length && x11.ble 1000 then (bif ile 0 (placeF (s.fst.snd.getD x13.toNat tGr.dflt).fst (strs (List.drop 0 x43)) 0) then (bif (0 + x11 * 1).beq x43.length then (bif x11.ble 1048576 then some (.done (.tup [(.int .i64 (2)), (.int .i64 (x13)), (.int .i64 (5))])) else none) else none) else (bif (0 + x11 * 1).beq x43.length then (bif x11.ble 1048576 then (bif ile 0 (s.fst.snd.getD x13.toNat tGr.dflt).snd.snd.fst then (bif !ile (s.fst.snd.getD x13.toNat tGr.dflt).snd.snd.fst 1000 then some (.done (.tup [(.int .i64 (2)), (.int .i64 (x13)), (.int .i64 (7))])) else (bif ieq (rngE (s.fst.snd.getD x13.toNat tGr.dflt).snd.fst.fst (s.fst.snd.getD x13.toNat tGr.dflt).snd.fst.snd.fst 1 5000) 0 then (bif !ile (s.fst.snd.getD x13.toNat tGr.dflt).snd.fst.snd.fst (wr IntKind.i64 ((s.fst.snd.getD x13.toNat tGr.dflt).snd.fst.fst + 40)) then some (.done (.tup [(.int .i64 (2)), (.int .i64 (x13)), (.int .i64 (2))])) else (bif !ieq (rngE (s.fst.snd.getD x13.toNat tGr.dflt).snd.fst.fst (s.fst.snd.getD x13.toNat tGr.dflt).snd.fst.snd.fst 1 5000) 0 then some (.done (.tup [(.int .i64 (2)), (.int .i64 (x13)), (.int .i64 (rngE (s.fst.snd.getD x13.toNat tGr.dflt).snd.fst.fst (s.fst.snd.getD x13.toNat tGr.dflt).snd.fst.snd.fst 1 5000))])) else (bif plO (AO.cells true (x43 ++ [AV.str (s.fst.snd.getD x13.toNat tGr.dflt).fst])) then some (.stop (rchkI2 s (rngE (s.fst.snd.getD x13.toNat tGr.dflt).snd.fst.fst (s.fst.snd.getD x13.toNat tGr.dflt).snd.fst.snd.fst 1 5000) (x11 + 1) (wr IntKind.i64 (x13 + 1)) (x43 ++ [AV.str (s.fst.snd.getD x13.toNat tGr.dflt).fst]) (x79))) else none))) else (bif !ieq (rngE (s.fst.snd.getD x13.toNat tGr.dflt).snd.fst.fst (s.fst.snd.getD x13.toNat tGr.dflt).snd.fst.snd.fst 1 5000) 0 then some (.done (.tup [(.int .i64 (2)), (.int .i64 (x13)), (.int .i64 (rngE (s.fst.snd.getD x13.toNat tGr.dflt).snd.fst.fst (s.fst.snd.getD x13.toNat tGr.dflt).snd.fst.snd.fst 1 5000))])) else (bif plO (AO.cells true (x43 ++ [AV.str (s.fst.snd.getD x13.toNat tGr.dflt).fst])) then some (.stop (rchkI2 s (rngE (s.fst.snd.getD x13.toNat tGr.dflt).snd.fst.fst (s.fst.snd.getD x13.toNat tGr.dflt).snd.fst.snd.fst 1 5000) (x11 + 1) (wr IntKind.i64 (x13 + 1)) (x43 ++ [AV.str (s.fst.snd.getD x13.toNat tGr.dflt).fst]) (x79))) else none)))) else some (.done (.tup [(.int .i64 (2)), (.int .i64 (x13)), (.int .i64 (7))]))) else none) else none)) else none)) else none) else none) else some (.done (.tup [(.int .i64 (0)), (.int .i64 (0)), (.int .i64 (0))]))) := by kernel_rfl
/-! ### Stations: their errors -/
noncomputable def tup3 (r : Int × Int × Int) : AV := .tup [.int .i64 r.1, .int .i64 r.2.1, .int .i64 r.2.2]
theorem done3 {E : Env} {S : Sy} (hS : S.ok E) (hsy : E.sy = true) {n : Nat} {c : Cfg} {a b d : Int} {r : Int × Int × Int} (h : adv E S n c = some (.done (.tup [.int .i64 a, .int .i64 b, .int .i64 d]))) (e : (a, b, d) = r) : Ans E c (tup3 r) :=
  e ▸ Ans.done hS hsy h rfl
noncomputable def addM (mem : List Nat → Bool) (s : List Nat) : List Nat → Bool := fun t => lbeq t s || mem t
noncomputable def gcF (lo hi oil : Int) : Int := bif ile 1 lo && ile lo 5000 && ile 1 hi && ile hi 5000 && ile 0 oil && ile oil 1000 then (bif ile lo hi && ile hi (lo + 40) then 0 else 2) else 7
noncomputable def grE (mem : List Nat → Bool) (g : tGr.den) : Int := bif nameS g.1 then (bif mem g.1 then 5 else gcF g.2.1.1 g.2.1.2.1 g.2.2.1) else 6
noncomputable def grdsS : (List Nat → Bool) → Nat → List tGr.den → Int × Int × Int
  | _, _, [] => (0, 0, 0)
  | mem, i, g :: l => bif ieq (grE mem g) 0 then grdsS (addM mem g.1) (i + 1) l else (2, (i : Int), grE mem g)
noncomputable def staS (s : tSt.den) : Int × Int × Int := bif ile 1 (s.1.2.length : Int) && ile (s.1.2.length : Int) 4 then (bif ieq (rngE s.2.1.1 s.2.1.2.1 1 200) 7 then (1, 0, 7) else (bif ieq (rngE s.2.2.1.1 s.2.2.1.2.1 1 300) 7 then (1, 0, 7) else (bif ieq (rngE s.2.1.1 s.2.1.2.1 1 200) 0 && ieq (rngE s.2.2.1.1 s.2.2.1.2.1 1 300) 0 then grdsS (fun _ => false) 0 s.1.2 else (1, 0, 2)))) else (1, 0, 3)
theorem setSB_ok {s : List Nat} {b : Bool} : ∀ {es : List (AV × AV)}, okSB es = true → okSB (setSB s b es) = true
  | [], _ => rfl
  | (k, v) :: es, h => by
    cases k <;> cases v <;> first | (cases h; done) | skip
    simp only [okSB] at h
    simp only [setSB]
    split
    · exact h
    · exact setSB_ok h
theorem lbeq_comm (a b : List Nat) : lbeq a b = lbeq b a := by
  rw [lbeq_iff, lbeq_iff]
  by_cases h : a = b
  · subst h; rfl
  · rw [decide_eq_false h, decide_eq_false (fun e => h e.symm)]
theorem getSB_set {s t : List Nat} : ∀ {es : List (AV × AV)}, okSB es = true → getSB t (setSB s true es) = (lbeq t s || getSB t es)
  | [], _ => by simp only [setSB, getSB]; cases lbeq t s <;> rfl
  | (k, v) :: es, h => by
    cases k <;> cases v <;> first | (cases h; done) | skip
    rename_i u w
    simp only [okSB] at h
    simp only [setSB, getSB]
    cases e : lbeq s u with
    | true =>
      have : s = u := by rw [lbeq_iff] at e; simpa using e
      subst this
      simp only [getSB]
      cases lbeq t s <;> rfl
    | false =>
      simp only [getSB]
      cases e2 : lbeq t u with
      | true =>
        have : t = u := by rw [lbeq_iff] at e2; simpa using e2
        subst this
        rw [lbeq_comm t s, e]; rfl
      | false => exact getSB_set h
theorem placeF_iff {t : List Nat} : ∀ (L : List (List Nat)) (k : Nat), ile 0 (placeF t L k) = decide (t ∈ L)
  | [], k => by simp only [placeF]; rfl
  | a :: L, k => by
    rw [placeF]
    by_cases h : a = t
    · subst h
      rw [if_pos rfl, ile_iff]; simp
    · rw [if_neg h, placeF_iff L (k + 1)]
      have : ¬ t = a := fun e => h e.symm
      simp [this]
theorem placeF_add {t s : List Nat} (L : List (List Nat)) : ile 0 (placeF t (L ++ [s]) 0) = (lbeq t s || ile 0 (placeF t L 0)) := by
  rw [placeF_iff, placeF_iff, lbeq_iff]
  by_cases h1 : t = s
  · subst h1; simp
  · by_cases h2 : t ∈ L <;> simp [h1, h2]
theorem strs_add (l : List AV) (s : List Nat) : strs (l ++ [.str s]) = strs l ++ [s] := by simp [strs, strOf]
theorem plain_isS : ∀ {l : List AV}, l.all isS = true → plainL l = true
  | [], _ => rfl
  | a :: l, h => by
    simp only [List.all_cons, Bool.and_eq_true] at h
    cases a <;> first | (cases h.1; done) | exact plain_isS (l := l) h.2
theorem isS_add {l : List AV} (h : l.all isS = true) (s : List Nat) : (l ++ [AV.str s]).all isS = true := by
  rw [List.all_append, h]; rfl
theorem app_plain {l : List AV} (h : l.all isS = true) (s : List Nat) : plO (AO.cells true (l ++ [AV.str s])) = true := plain_isS (isS_add h s)
theorem ile_lt0 {n : Nat} (h : 0 < n) : ile (n : Int) 0 = false := ile_lt h
theorem ile_ge0 {n : Nat} (h : n ≤ 0) : ile (n : Int) 0 = true := ile_ge h
theorem ile_lt1 {n : Nat} (h : 1 < n) : ile (n : Int) 1 = false := ile_lt (k := 1) h
theorem ile_ge1 {n : Nat} (h : n ≤ 1) : ile (n : Int) 1 = true := ile_ge (k := 1) h
theorem inB_0 {n : Nat} (h : 0 < n) : inB 0 n = true := inB_at (k := 0) h
theorem inB_1 {n : Nat} (h : 1 < n) : inB 1 n = true := inB_at (k := 1) h
theorem getD_0 {α : Type} {l : List α} {d : α} (h : 0 < l.length) : l.getD (Int.toNat 0) d = l[0] := getD_at (k := 0) h
theorem getD_1 {α : Type} {l : List α} {d : α} (h : 1 < l.length) : l.getD (Int.toNat 1) d = l[1] := getD_at (k := 1) h
theorem one_mem (m0 : List Nat) : ∀ t, ile 0 (placeF t (strs [AV.str m0]) 0) = addM (fun _ => false) m0 t := fun t => by
  have := placeF_add (t := t) (s := m0) []
  rw [List.nil_append] at this
  exact this
theorem two_mem (m0 m1 : List Nat) : ∀ t, ile 0 (placeF t (strs [AV.str m0, AV.str m1]) 0) = addM (addM (fun _ => false) m0) m1 t := fun t => by
  have := placeF_add (t := t) (s := m1) [m0]
  have h0 := one_mem m0 t
  rw [show strs [AV.str m0] = [m0] from rfl] at h0
  rw [h0] at this
  exact this
theorem w40 {a : Int} (h1 : ile 1 a = true) (h2 : ile a 5000 = true) : wr .i64 (a + 40) = a + 40 := by
  have := ile_le h1
  have := ile_le h2
  exact wr_in (by omega) (by omega)
theorem pgr_ans (s : tSt.den) (h4 : s.1.2.length ≤ 4) : ∀ (r i m M : Nat) (es : List (AV × AV)) (mem : List Nat → Bool), i + r = s.1.2.length → r < m → okSB es = true → (∀ t, getSB t es = mem t) → Ans F4 (pchkI0 s i es m (M + 1)) (tup3 (grdsS mem i (s.1.2.drop i)))
  | 0, i, m + 1, M, es, mem, hk, hm, hes, hM => by
    have h := pchk_step0 s i es m M
    simp only [Int.ofNat_eq_natCast, ile_ge (show s.1.2.length ≤ i by omega), Bool.not_true, cond_false] at h
    rw [List.drop_eq_nil_of_le (by omega)]
    exact done3 (Z4_ok _) F4sy h rfl
  | r + 1, i, m + 1, M, es, mem, hk, hm, hes, hM => by
    have h := pchk_step0 s i es m M
    have hlt : i < s.1.2.length := by omega
    have p1 : plO (AO.map (setSB (s.1.2[i]).1 true es)) = true := setSB_ok hes
    simp only [Int.ofNat_eq_natCast, ile_lt hlt, inB_at hlt, getD_at hlt, wr_succ (show i < 1048577 by omega), hes, p1, hM, Bool.not_false, cond_true] at h
    rw [List.drop_eq_getElem_cons hlt, grdsS, grE, gcF]
    cases c : nameS (s.1.2[i]).1 with
    | false =>
      simp only [c, Bool.not_true, Bool.not_false, cond_true, cond_false, Bool.true_and, Bool.false_and, Bool.and_true, Bool.and_false, show ieq 7 0 = false from rfl, show ieq 6 0 = false from rfl, show ieq 5 0 = false from rfl, show ieq 2 0 = false from rfl, show ieq 0 0 = true from rfl] at h ⊢
      exact done3 (Z4_ok _) F4sy h rfl
    | true =>
    simp only [c, Bool.not_true, Bool.not_false, cond_true, cond_false, Bool.true_and, Bool.false_and, Bool.and_true, Bool.and_false] at h ⊢
    cases c : mem (s.1.2[i]).1 with
    | true =>
      simp only [c, Bool.not_true, Bool.not_false, cond_true, cond_false, Bool.true_and, Bool.false_and, Bool.and_true, Bool.and_false, show ieq 7 0 = false from rfl, show ieq 6 0 = false from rfl, show ieq 5 0 = false from rfl, show ieq 2 0 = false from rfl, show ieq 0 0 = true from rfl] at h ⊢
      exact done3 (Z4_ok _) F4sy h rfl
    | false =>
    simp only [c, Bool.not_true, Bool.not_false, cond_true, cond_false, Bool.true_and, Bool.false_and, Bool.and_true, Bool.and_false] at h ⊢
    cases c : ile 1 (s.1.2[i]).2.1.1 with
    | false =>
      simp only [c, Bool.not_true, Bool.not_false, cond_true, cond_false, Bool.true_and, Bool.false_and, Bool.and_true, Bool.and_false, show ieq 7 0 = false from rfl, show ieq 6 0 = false from rfl, show ieq 5 0 = false from rfl, show ieq 2 0 = false from rfl, show ieq 0 0 = true from rfl] at h ⊢
      exact done3 (Z4_ok _) F4sy h rfl
    | true =>
    simp only [c, Bool.not_true, Bool.not_false, cond_true, cond_false, Bool.true_and, Bool.false_and, Bool.and_true, Bool.and_false] at h ⊢
    have q1 := c
    cases c : ile (s.1.2[i]).2.1.1 5000 with
    | false =>
      simp only [c, Bool.not_true, Bool.not_false, cond_true, cond_false, Bool.true_and, Bool.false_and, Bool.and_true, Bool.and_false, show ieq 7 0 = false from rfl, show ieq 6 0 = false from rfl, show ieq 5 0 = false from rfl, show ieq 2 0 = false from rfl, show ieq 0 0 = true from rfl] at h ⊢
      exact done3 (Z4_ok _) F4sy h rfl
    | true =>
    simp only [c, Bool.not_true, Bool.not_false, cond_true, cond_false, Bool.true_and, Bool.false_and, Bool.and_true, Bool.and_false] at h ⊢
    have q2 := c
    rw [w40 q1 q2] at h
    cases c : ile 1 (s.1.2[i]).2.1.2.1 with
    | false =>
      simp only [c, Bool.not_true, Bool.not_false, cond_true, cond_false, Bool.true_and, Bool.false_and, Bool.and_true, Bool.and_false, show ieq 7 0 = false from rfl, show ieq 6 0 = false from rfl, show ieq 5 0 = false from rfl, show ieq 2 0 = false from rfl, show ieq 0 0 = true from rfl] at h ⊢
      exact done3 (Z4_ok _) F4sy h rfl
    | true =>
    simp only [c, Bool.not_true, Bool.not_false, cond_true, cond_false, Bool.true_and, Bool.false_and, Bool.and_true, Bool.and_false] at h ⊢
    cases c : ile (s.1.2[i]).2.1.2.1 5000 with
    | false =>
      simp only [c, Bool.not_true, Bool.not_false, cond_true, cond_false, Bool.true_and, Bool.false_and, Bool.and_true, Bool.and_false, show ieq 7 0 = false from rfl, show ieq 6 0 = false from rfl, show ieq 5 0 = false from rfl, show ieq 2 0 = false from rfl, show ieq 0 0 = true from rfl] at h ⊢
      exact done3 (Z4_ok _) F4sy h rfl
    | true =>
    simp only [c, Bool.not_true, Bool.not_false, cond_true, cond_false, Bool.true_and, Bool.false_and, Bool.and_true, Bool.and_false] at h ⊢
    cases c : ile 0 (s.1.2[i]).2.2.1 with
    | false =>
      simp only [c, Bool.not_true, Bool.not_false, cond_true, cond_false, Bool.true_and, Bool.false_and, Bool.and_true, Bool.and_false, show ieq 7 0 = false from rfl, show ieq 6 0 = false from rfl, show ieq 5 0 = false from rfl, show ieq 2 0 = false from rfl, show ieq 0 0 = true from rfl] at h ⊢
      exact done3 (Z4_ok _) F4sy h rfl
    | true =>
    simp only [c, Bool.not_true, Bool.not_false, cond_true, cond_false, Bool.true_and, Bool.false_and, Bool.and_true, Bool.and_false] at h ⊢
    cases c : ile (s.1.2[i]).2.2.1 1000 with
    | false =>
      simp only [c, Bool.not_true, Bool.not_false, cond_true, cond_false, Bool.true_and, Bool.false_and, Bool.and_true, Bool.and_false, show ieq 7 0 = false from rfl, show ieq 6 0 = false from rfl, show ieq 5 0 = false from rfl, show ieq 2 0 = false from rfl, show ieq 0 0 = true from rfl] at h ⊢
      exact done3 (Z4_ok _) F4sy h rfl
    | true =>
    simp only [c, Bool.not_true, Bool.not_false, cond_true, cond_false, Bool.true_and, Bool.false_and, Bool.and_true, Bool.and_false] at h ⊢
    cases c : ile (s.1.2[i]).2.1.1 (s.1.2[i]).2.1.2.1 with
    | false =>
      simp only [c, Bool.not_true, Bool.not_false, cond_true, cond_false, Bool.true_and, Bool.false_and, Bool.and_true, Bool.and_false, show ieq 7 0 = false from rfl, show ieq 6 0 = false from rfl, show ieq 5 0 = false from rfl, show ieq 2 0 = false from rfl, show ieq 0 0 = true from rfl] at h ⊢
      exact done3 (Z4_ok _) F4sy h rfl
    | true =>
    simp only [c, Bool.not_true, Bool.not_false, cond_true, cond_false, Bool.true_and, Bool.false_and, Bool.and_true, Bool.and_false] at h ⊢
    cases c : ile (s.1.2[i]).2.1.2.1 ((s.1.2[i]).2.1.1 + 40) with
    | false =>
      simp only [c, Bool.not_true, Bool.not_false, cond_true, cond_false, Bool.true_and, Bool.false_and, Bool.and_true, Bool.and_false, show ieq 7 0 = false from rfl, show ieq 6 0 = false from rfl, show ieq 5 0 = false from rfl, show ieq 2 0 = false from rfl, show ieq 0 0 = true from rfl] at h ⊢
      exact done3 (Z4_ok _) F4sy h rfl
    | true =>
    simp only [c, Bool.not_true, Bool.not_false, cond_true, cond_false, Bool.true_and, Bool.false_and, Bool.and_true, Bool.and_false] at h ⊢
    exact .stopE (Z4_ok _) F4sy h (pgr_ans s h4 r (i + 1) m M (setSB (s.1.2[i]).1 true es) (addM mem (s.1.2[i]).1) (by omega) (by omega) (setSB_ok hes) (fun t => by rw [getSB_set hes, hM]; rfl)) rfl
theorem rng_at {x y a b : Int} : rngE x y a b = bif ile a x && ile x b && ile a y && ile y b then (bif ile x y then 0 else 2) else 7 := rfl
theorem pchk_call (s : tSt.den) : AnsF F4 23 [tSt.av s] (tup3 (staS s)) := by
  refine Ans.call (n := 12) (ext_none (by kernel_rfl)) (hasB_spec (by kernel_rfl)) ?_
  have h := pchk_start s
  unfold staS
  rw [rng_at, rng_at]
  cases c : ile 1 (s.1.2.length : Int) with
  | false =>
    simp only [c, Bool.not_true, Bool.not_false, cond_true, cond_false, Bool.true_and, Bool.false_and, Bool.and_true, Bool.and_false, show ieq 7 0 = false from rfl, show ieq 6 0 = false from rfl, show ieq 5 0 = false from rfl, show ieq 2 0 = false from rfl, show ieq 0 0 = true from rfl] at h ⊢
    exact done3 (Z4_ok _) F4sy h rfl
  | true =>
  simp only [c, Bool.not_true, Bool.not_false, cond_true, cond_false, Bool.true_and, Bool.false_and, Bool.and_true, Bool.and_false] at h ⊢
  cases c : ile (s.1.2.length : Int) 4 with
  | false =>
    simp only [c, Bool.not_true, Bool.not_false, cond_true, cond_false, Bool.true_and, Bool.false_and, Bool.and_true, Bool.and_false, show ieq 7 0 = false from rfl, show ieq 6 0 = false from rfl, show ieq 5 0 = false from rfl, show ieq 2 0 = false from rfl, show ieq 0 0 = true from rfl] at h ⊢
    exact done3 (Z4_ok _) F4sy h rfl
  | true =>
  simp only [c, Bool.not_true, Bool.not_false, cond_true, cond_false, Bool.true_and, Bool.false_and, Bool.and_true, Bool.and_false] at h ⊢
  have q4 := c
  cases c : ile 1 s.2.1.1 with
  | false =>
    simp only [c, Bool.not_true, Bool.not_false, cond_true, cond_false, Bool.true_and, Bool.false_and, Bool.and_true, Bool.and_false, show ieq 7 0 = false from rfl, show ieq 6 0 = false from rfl, show ieq 5 0 = false from rfl, show ieq 2 0 = false from rfl, show ieq 0 0 = true from rfl, show ieq 7 7 = true from rfl, show ieq 2 7 = false from rfl, show ieq 0 7 = false from rfl] at h ⊢
    exact done3 (Z4_ok _) F4sy h rfl
  | true =>
  simp only [c, Bool.not_true, Bool.not_false, cond_true, cond_false, Bool.true_and, Bool.false_and, Bool.and_true, Bool.and_false] at h ⊢
  cases c : ile s.2.1.1 200 with
  | false =>
    simp only [c, Bool.not_true, Bool.not_false, cond_true, cond_false, Bool.true_and, Bool.false_and, Bool.and_true, Bool.and_false, show ieq 7 0 = false from rfl, show ieq 6 0 = false from rfl, show ieq 5 0 = false from rfl, show ieq 2 0 = false from rfl, show ieq 0 0 = true from rfl, show ieq 7 7 = true from rfl, show ieq 2 7 = false from rfl, show ieq 0 7 = false from rfl] at h ⊢
    exact done3 (Z4_ok _) F4sy h rfl
  | true =>
  simp only [c, Bool.not_true, Bool.not_false, cond_true, cond_false, Bool.true_and, Bool.false_and, Bool.and_true, Bool.and_false] at h ⊢
  cases c : ile 1 s.2.1.2.1 with
  | false =>
    simp only [c, Bool.not_true, Bool.not_false, cond_true, cond_false, Bool.true_and, Bool.false_and, Bool.and_true, Bool.and_false, show ieq 7 0 = false from rfl, show ieq 6 0 = false from rfl, show ieq 5 0 = false from rfl, show ieq 2 0 = false from rfl, show ieq 0 0 = true from rfl, show ieq 7 7 = true from rfl, show ieq 2 7 = false from rfl, show ieq 0 7 = false from rfl] at h ⊢
    exact done3 (Z4_ok _) F4sy h rfl
  | true =>
  simp only [c, Bool.not_true, Bool.not_false, cond_true, cond_false, Bool.true_and, Bool.false_and, Bool.and_true, Bool.and_false] at h ⊢
  cases c : ile s.2.1.2.1 200 with
  | false =>
    simp only [c, Bool.not_true, Bool.not_false, cond_true, cond_false, Bool.true_and, Bool.false_and, Bool.and_true, Bool.and_false, show ieq 7 0 = false from rfl, show ieq 6 0 = false from rfl, show ieq 5 0 = false from rfl, show ieq 2 0 = false from rfl, show ieq 0 0 = true from rfl, show ieq 7 7 = true from rfl, show ieq 2 7 = false from rfl, show ieq 0 7 = false from rfl] at h ⊢
    exact done3 (Z4_ok _) F4sy h rfl
  | true =>
  simp only [c, Bool.not_true, Bool.not_false, cond_true, cond_false, Bool.true_and, Bool.false_and, Bool.and_true, Bool.and_false] at h ⊢
  cases c : ile 1 s.2.2.1.1 with
  | false =>
    simp only [c, Bool.not_true, Bool.not_false, cond_true, cond_false, Bool.true_and, Bool.false_and, Bool.and_true, Bool.and_false, show ieq 7 0 = false from rfl, show ieq 6 0 = false from rfl, show ieq 5 0 = false from rfl, show ieq 2 0 = false from rfl, show ieq 0 0 = true from rfl, show ieq 7 7 = true from rfl, show ieq 2 7 = false from rfl, show ieq 0 7 = false from rfl] at h ⊢
    first | exact done3 (Z4_ok _) F4sy h rfl | (cases ile s.2.1.1 s.2.1.2.1 <;> exact done3 (Z4_ok _) F4sy h rfl) 
  | true =>
  simp only [c, Bool.not_true, Bool.not_false, cond_true, cond_false, Bool.true_and, Bool.false_and, Bool.and_true, Bool.and_false] at h ⊢
  cases c : ile s.2.2.1.1 300 with
  | false =>
    simp only [c, Bool.not_true, Bool.not_false, cond_true, cond_false, Bool.true_and, Bool.false_and, Bool.and_true, Bool.and_false, show ieq 7 0 = false from rfl, show ieq 6 0 = false from rfl, show ieq 5 0 = false from rfl, show ieq 2 0 = false from rfl, show ieq 0 0 = true from rfl, show ieq 7 7 = true from rfl, show ieq 2 7 = false from rfl, show ieq 0 7 = false from rfl] at h ⊢
    first | exact done3 (Z4_ok _) F4sy h rfl | (cases ile s.2.1.1 s.2.1.2.1 <;> exact done3 (Z4_ok _) F4sy h rfl) 
  | true =>
  simp only [c, Bool.not_true, Bool.not_false, cond_true, cond_false, Bool.true_and, Bool.false_and, Bool.and_true, Bool.and_false] at h ⊢
  cases c : ile 1 s.2.2.1.2.1 with
  | false =>
    simp only [c, Bool.not_true, Bool.not_false, cond_true, cond_false, Bool.true_and, Bool.false_and, Bool.and_true, Bool.and_false, show ieq 7 0 = false from rfl, show ieq 6 0 = false from rfl, show ieq 5 0 = false from rfl, show ieq 2 0 = false from rfl, show ieq 0 0 = true from rfl, show ieq 7 7 = true from rfl, show ieq 2 7 = false from rfl, show ieq 0 7 = false from rfl] at h ⊢
    first | exact done3 (Z4_ok _) F4sy h rfl | (cases ile s.2.1.1 s.2.1.2.1 <;> exact done3 (Z4_ok _) F4sy h rfl) 
  | true =>
  simp only [c, Bool.not_true, Bool.not_false, cond_true, cond_false, Bool.true_and, Bool.false_and, Bool.and_true, Bool.and_false] at h ⊢
  cases c : ile s.2.2.1.2.1 300 with
  | false =>
    simp only [c, Bool.not_true, Bool.not_false, cond_true, cond_false, Bool.true_and, Bool.false_and, Bool.and_true, Bool.and_false, show ieq 7 0 = false from rfl, show ieq 6 0 = false from rfl, show ieq 5 0 = false from rfl, show ieq 2 0 = false from rfl, show ieq 0 0 = true from rfl, show ieq 7 7 = true from rfl, show ieq 2 7 = false from rfl, show ieq 0 7 = false from rfl] at h ⊢
    first | exact done3 (Z4_ok _) F4sy h rfl | (cases ile s.2.1.1 s.2.1.2.1 <;> exact done3 (Z4_ok _) F4sy h rfl) 
  | true =>
  simp only [c, Bool.not_true, Bool.not_false, cond_true, cond_false, Bool.true_and, Bool.false_and, Bool.and_true, Bool.and_false] at h ⊢
  cases c : ile s.2.1.1 s.2.1.2.1 with
  | false =>
    simp only [c, Bool.not_true, Bool.not_false, cond_true, cond_false, Bool.true_and, Bool.false_and, Bool.and_true, Bool.and_false, show ieq 7 0 = false from rfl, show ieq 6 0 = false from rfl, show ieq 5 0 = false from rfl, show ieq 2 0 = false from rfl, show ieq 0 0 = true from rfl, show ieq 7 7 = true from rfl, show ieq 2 7 = false from rfl, show ieq 0 7 = false from rfl] at h ⊢
    cases ile s.2.2.1.1 s.2.2.1.2.1 <;> exact done3 (Z4_ok _) F4sy h rfl
  | true =>
  simp only [c, Bool.not_true, Bool.not_false, cond_true, cond_false, Bool.true_and, Bool.false_and, Bool.and_true, Bool.and_false] at h ⊢
  cases c : ile s.2.2.1.1 s.2.2.1.2.1 with
  | false =>
    simp only [c, Bool.not_true, Bool.not_false, cond_true, cond_false, Bool.true_and, Bool.false_and, Bool.and_true, Bool.and_false, show ieq 7 0 = false from rfl, show ieq 6 0 = false from rfl, show ieq 5 0 = false from rfl, show ieq 2 0 = false from rfl, show ieq 0 0 = true from rfl, show ieq 7 7 = true from rfl, show ieq 2 7 = false from rfl, show ieq 0 7 = false from rfl] at h ⊢
    exact done3 (Z4_ok _) F4sy h rfl
  | true =>
  simp only [c, Bool.not_true, Bool.not_false, cond_true, cond_false, Bool.true_and, Bool.false_and, Bool.and_true, Bool.and_false] at h ⊢
  simp only [show ieq 7 0 = false from rfl, show ieq 6 0 = false from rfl, show ieq 5 0 = false from rfl, show ieq 2 0 = false from rfl, show ieq 0 0 = true from rfl, show ieq 7 7 = true from rfl, show ieq 2 7 = false from rfl, show ieq 0 7 = false from rfl, Bool.and_self, cond_true, cond_false]
  have l4 : s.1.2.length ≤ 4 := by have := ile_le q4; omega
  exact .stopE (Z4_ok _) F4sy h (pgr_ans s l4 s.1.2.length 0 1048575 1048573 [] (fun _ => false) (by omega) (by omega) rfl (fun _ => rfl)) rfl
theorem gcR (lo hi oil : Int) : gcF lo hi oil = bif ile 0 oil && ile oil 1000 then (bif ieq (rngE lo hi 1 5000) 0 then (bif ile hi (lo + 40) then 0 else 2) else rngE lo hi 1 5000) else 7 := by
  unfold gcF rngE
  cases ile 1 lo <;> cases ile lo 5000 <;> cases ile 1 hi <;> cases ile hi 5000 <;> cases ile 0 oil <;> cases ile oil 1000 <;> cases ile lo hi <;> cases ile hi (lo + 40) <;> rfl
theorem rng_w {lo hi : Int} (h : ieq (rngE lo hi 1 5000) 0 = true) : wr .i64 (lo + 40) = lo + 40 := by
  unfold rngE at h
  cases c1 : ile 1 lo <;> cases c2 : ile lo 5000 <;> rw [c1, c2] at h <;> first | exact w40 c1 c2 | (simp only [Bool.true_and, Bool.false_and, cond_false] at h; exact absurd (ieq_t h) (by decide))
theorem rgr2 (s : tSt.den) (h4 : s.1.2.length ≤ 4) : ∀ (r i m n : Nat) (x : Int) (l : List AV) (mem : List Nat → Bool), i + r = s.1.2.length → r < m → l.length = i → l.all isS = true → n = l.length → (∀ t, ile 0 (placeF t (strs l) 0) = mem t) → Ans F4 (rchkI2 s x n i l m) (tup3 (grdsS mem i (s.1.2.drop i)))
  | 0, i, m + 1, n, x, l, mem, hk, hm, hl, hS, hn, hM => by
    have h := rchk_step2 s x n i l m
    simp only [ile_ge (show s.1.2.length ≤ i by omega), Bool.not_true, cond_false] at h
    rw [List.drop_eq_nil_of_le (by omega)]
    exact done3 (Z4_ok _) F4sy h rfl
  | r + 1, i, m + 1, n, x, l, mem, hk, hm, hl, hS, hn, hM => by
    have h := rchk_step2 s x n i l m
    subst hn
    have hlt : i < s.1.2.length := by omega
    have b1 : Nat.beq (0 + l.length * 1) l.length = true := by rw [Nat.zero_add, Nat.mul_one]; exact Nat.beq_refl _
    have b2 : Nat.ble l.length 1048576 = true := Nat.ble_eq_true_of_le (by omega)
    have b3 : Nat.ble l.length 1000 = true := Nat.ble_eq_true_of_le (by omega)
    have b4 : Nat.beq l.length l.length = true := Nat.beq_refl _
    simp only [ile_lt hlt, inB_at hlt, getD_at hlt, wr_succ (show i < 1048577 by omega), List.drop_zero, hS, plain_isS hS, app_plain hS, b1, b2, b3, b4, hM, Bool.and_self, Bool.not_false, cond_true] at h
    rw [List.drop_eq_getElem_cons hlt]
    rw [grdsS, grE, gcR]
    cases c : nameS (s.1.2[i]).1 with
    | false =>
      simp only [c, Bool.not_true, Bool.not_false, cond_true, cond_false, Bool.true_and, Bool.false_and, Bool.and_true, Bool.and_false, show ieq 7 0 = false from rfl, show ieq 6 0 = false from rfl, show ieq 5 0 = false from rfl, show ieq 2 0 = false from rfl, show ieq 0 0 = true from rfl] at h ⊢
      exact done3 (Z4_ok _) F4sy h rfl
    | true =>
    simp only [c, Bool.not_true, Bool.not_false, cond_true, cond_false, Bool.true_and, Bool.false_and, Bool.and_true, Bool.and_false] at h ⊢
    cases c : mem (s.1.2[i]).1 with
    | true =>
      simp only [c, Bool.not_true, Bool.not_false, cond_true, cond_false, Bool.true_and, Bool.false_and, Bool.and_true, Bool.and_false, show ieq 7 0 = false from rfl, show ieq 6 0 = false from rfl, show ieq 5 0 = false from rfl, show ieq 2 0 = false from rfl, show ieq 0 0 = true from rfl] at h ⊢
      exact done3 (Z4_ok _) F4sy h rfl
    | false =>
    simp only [c, Bool.not_true, Bool.not_false, cond_true, cond_false, Bool.true_and, Bool.false_and, Bool.and_true, Bool.and_false] at h ⊢
    cases c : ile 0 (s.1.2[i]).2.2.1 with
    | false =>
      simp only [c, Bool.not_true, Bool.not_false, cond_true, cond_false, Bool.true_and, Bool.false_and, Bool.and_true, Bool.and_false, show ieq 7 0 = false from rfl, show ieq 6 0 = false from rfl, show ieq 5 0 = false from rfl, show ieq 2 0 = false from rfl, show ieq 0 0 = true from rfl] at h ⊢
      exact done3 (Z4_ok _) F4sy h rfl
    | true =>
    simp only [c, Bool.not_true, Bool.not_false, cond_true, cond_false, Bool.true_and, Bool.false_and, Bool.and_true, Bool.and_false] at h ⊢
    cases c : ile (s.1.2[i]).2.2.1 1000 with
    | false =>
      simp only [c, Bool.not_true, Bool.not_false, cond_true, cond_false, Bool.true_and, Bool.false_and, Bool.and_true, Bool.and_false, show ieq 7 0 = false from rfl, show ieq 6 0 = false from rfl, show ieq 5 0 = false from rfl, show ieq 2 0 = false from rfl, show ieq 0 0 = true from rfl] at h ⊢
      exact done3 (Z4_ok _) F4sy h rfl
    | true =>
    simp only [c, Bool.not_true, Bool.not_false, cond_true, cond_false, Bool.true_and, Bool.false_and, Bool.and_true, Bool.and_false] at h ⊢
    cases c : ieq (rngE (s.1.2[i]).2.1.1 (s.1.2[i]).2.1.2.1 1 5000) 0 with
    | false =>
      simp only [c, Bool.not_true, Bool.not_false, cond_true, cond_false, Bool.true_and, Bool.false_and, Bool.and_true, Bool.and_false] at h ⊢
      exact done3 (Z4_ok _) F4sy h rfl
    | true =>
    simp only [c, Bool.not_true, Bool.not_false, cond_true, cond_false, Bool.true_and, Bool.false_and, Bool.and_true, Bool.and_false] at h ⊢
    rw [rng_w c] at h
    cases c : ile (s.1.2[i]).2.1.2.1 ((s.1.2[i]).2.1.1 + 40) with
    | false =>
      simp only [c, Bool.not_true, Bool.not_false, cond_true, cond_false, Bool.true_and, Bool.false_and, Bool.and_true, Bool.and_false, show ieq 7 0 = false from rfl, show ieq 6 0 = false from rfl, show ieq 5 0 = false from rfl, show ieq 2 0 = false from rfl, show ieq 0 0 = true from rfl] at h ⊢
      exact done3 (Z4_ok _) F4sy h rfl
    | true =>
    simp only [c, Bool.not_true, Bool.not_false, cond_true, cond_false, Bool.true_and, Bool.false_and, Bool.and_true, Bool.and_false] at h ⊢
    exact .stopE (Z4_ok _) F4sy h (rgr2 s h4 r (i + 1) m (l.length + 1) _ _ (addM mem (s.1.2[i]).1) (by omega) (by omega) (by rw [List.length_append, hl]; rfl) (isS_add hS _) (by rw [List.length_append]; rfl) (fun t => by rw [strs_add, placeF_add, hM]; rfl)) rfl
theorem rgr1 (s : tSt.den) (h4 : s.1.2.length ≤ 4) (h0 : 0 < s.1.2.length) (M : Nat) (hM1 : s.1.2.length < M + 1) : Ans F4 (rchkI1 s M) (tup3 (grdsS (addM (fun _ => false) (s.1.2[0]).1) 1 (s.1.2.drop 1))) := by
    obtain ⟨m, rfl⟩ : ∃ m, M = m + 1 := ⟨M - 1, by omega⟩
    have h := rchk_step1 s m
    by_cases hlt : 1 < s.1.2.length
    case neg =>
      simp only [ile_ge1 (show s.1.2.length ≤ 1 by omega), Bool.not_true, cond_false] at h
      rw [List.drop_eq_nil_of_le (by omega)]
      exact done3 (Z4_ok _) F4sy h rfl
    simp only [ile_lt1 hlt, inB_1 hlt, getD_1 hlt, getD_0 h0, List.drop_zero, one_mem, Bool.not_false, cond_true] at h
    rw [List.drop_eq_getElem_cons hlt]
    generalize hmem : addM (fun _ => false) (s.1.2[0]).1 = mem at h ⊢
    rw [grdsS, grE, gcR]
    cases c : nameS (s.1.2[1]).1 with
    | false =>
      simp only [c, Bool.not_true, Bool.not_false, cond_true, cond_false, Bool.true_and, Bool.false_and, Bool.and_true, Bool.and_false, show ieq 7 0 = false from rfl, show ieq 6 0 = false from rfl, show ieq 5 0 = false from rfl, show ieq 2 0 = false from rfl, show ieq 0 0 = true from rfl] at h ⊢
      exact done3 (Z4_ok _) F4sy h rfl
    | true =>
    simp only [c, Bool.not_true, Bool.not_false, cond_true, cond_false, Bool.true_and, Bool.false_and, Bool.and_true, Bool.and_false] at h ⊢
    cases c : mem (s.1.2[1]).1 with
    | true =>
      simp only [c, Bool.not_true, Bool.not_false, cond_true, cond_false, Bool.true_and, Bool.false_and, Bool.and_true, Bool.and_false, show ieq 7 0 = false from rfl, show ieq 6 0 = false from rfl, show ieq 5 0 = false from rfl, show ieq 2 0 = false from rfl, show ieq 0 0 = true from rfl] at h ⊢
      exact done3 (Z4_ok _) F4sy h rfl
    | false =>
    simp only [c, Bool.not_true, Bool.not_false, cond_true, cond_false, Bool.true_and, Bool.false_and, Bool.and_true, Bool.and_false] at h ⊢
    cases c : ile 0 (s.1.2[1]).2.2.1 with
    | false =>
      simp only [c, Bool.not_true, Bool.not_false, cond_true, cond_false, Bool.true_and, Bool.false_and, Bool.and_true, Bool.and_false, show ieq 7 0 = false from rfl, show ieq 6 0 = false from rfl, show ieq 5 0 = false from rfl, show ieq 2 0 = false from rfl, show ieq 0 0 = true from rfl] at h ⊢
      exact done3 (Z4_ok _) F4sy h rfl
    | true =>
    simp only [c, Bool.not_true, Bool.not_false, cond_true, cond_false, Bool.true_and, Bool.false_and, Bool.and_true, Bool.and_false] at h ⊢
    cases c : ile (s.1.2[1]).2.2.1 1000 with
    | false =>
      simp only [c, Bool.not_true, Bool.not_false, cond_true, cond_false, Bool.true_and, Bool.false_and, Bool.and_true, Bool.and_false, show ieq 7 0 = false from rfl, show ieq 6 0 = false from rfl, show ieq 5 0 = false from rfl, show ieq 2 0 = false from rfl, show ieq 0 0 = true from rfl] at h ⊢
      exact done3 (Z4_ok _) F4sy h rfl
    | true =>
    simp only [c, Bool.not_true, Bool.not_false, cond_true, cond_false, Bool.true_and, Bool.false_and, Bool.and_true, Bool.and_false] at h ⊢
    cases c : ieq (rngE (s.1.2[1]).2.1.1 (s.1.2[1]).2.1.2.1 1 5000) 0 with
    | false =>
      simp only [c, Bool.not_true, Bool.not_false, cond_true, cond_false, Bool.true_and, Bool.false_and, Bool.and_true, Bool.and_false] at h ⊢
      exact done3 (Z4_ok _) F4sy h rfl
    | true =>
    simp only [c, Bool.not_true, Bool.not_false, cond_true, cond_false, Bool.true_and, Bool.false_and, Bool.and_true, Bool.and_false] at h ⊢
    rw [rng_w c] at h
    cases c : ile (s.1.2[1]).2.1.2.1 ((s.1.2[1]).2.1.1 + 40) with
    | false =>
      simp only [c, Bool.not_true, Bool.not_false, cond_true, cond_false, Bool.true_and, Bool.false_and, Bool.and_true, Bool.and_false, show ieq 7 0 = false from rfl, show ieq 6 0 = false from rfl, show ieq 5 0 = false from rfl, show ieq 2 0 = false from rfl, show ieq 0 0 = true from rfl] at h ⊢
      exact done3 (Z4_ok _) F4sy h rfl
    | true =>
    simp only [c, Bool.not_true, Bool.not_false, cond_true, cond_false, Bool.true_and, Bool.false_and, Bool.and_true, Bool.and_false] at h ⊢
    exact .stopE (Z4_ok _) F4sy h (rgr2 s h4 (s.1.2.length - 2) 2 m 2 _ _ (addM mem (s.1.2[1]).1) (by omega) (by omega) rfl rfl rfl (fun t => by rw [two_mem, hmem])) rfl
theorem rgr0 (s : tSt.den) (h4 : s.1.2.length ≤ 4) (h0 : 0 < s.1.2.length) (M : Nat) (hM1 : s.1.2.length < M) : Ans F4 (rchkI0 s M) (tup3 (grdsS (fun _ => false) 0 s.1.2)) := by
    obtain ⟨m, rfl⟩ : ∃ m, M = m + 1 := ⟨M - 1, by omega⟩
    have h := rchk_step0 s m
    simp only [ile_lt0 h0, inB_0 h0, getD_0 h0, Bool.not_false, cond_true] at h
    have e := List.drop_eq_getElem_cons h0
    rw [List.drop_zero] at e
    rw [e]
    have r1 := rgr1 s h4 h0 m (by omega)
    simp only [Nat.zero_add] at r1 ⊢
    rw [grdsS, grE, gcR]
    cases c : nameS (s.1.2[0]).1 with
    | false =>
      simp only [c, Nat.zero_add, Bool.not_true, Bool.not_false, cond_true, cond_false, Bool.true_and, Bool.false_and, Bool.and_true, Bool.and_false, show ieq 7 0 = false from rfl, show ieq 6 0 = false from rfl, show ieq 5 0 = false from rfl, show ieq 2 0 = false from rfl, show ieq 0 0 = true from rfl] at h ⊢
      exact done3 (Z4_ok _) F4sy h rfl
    | true =>
    simp only [c, Nat.zero_add, Bool.not_true, Bool.not_false, cond_true, cond_false, Bool.true_and, Bool.false_and, Bool.and_true, Bool.and_false] at h ⊢
    cases c : ile 0 (s.1.2[0]).2.2.1 with
    | false =>
      simp only [c, Nat.zero_add, Bool.not_true, Bool.not_false, cond_true, cond_false, Bool.true_and, Bool.false_and, Bool.and_true, Bool.and_false, show ieq 7 0 = false from rfl, show ieq 6 0 = false from rfl, show ieq 5 0 = false from rfl, show ieq 2 0 = false from rfl, show ieq 0 0 = true from rfl] at h ⊢
      exact done3 (Z4_ok _) F4sy h rfl
    | true =>
    simp only [c, Nat.zero_add, Bool.not_true, Bool.not_false, cond_true, cond_false, Bool.true_and, Bool.false_and, Bool.and_true, Bool.and_false] at h ⊢
    cases c : ile (s.1.2[0]).2.2.1 1000 with
    | false =>
      simp only [c, Nat.zero_add, Bool.not_true, Bool.not_false, cond_true, cond_false, Bool.true_and, Bool.false_and, Bool.and_true, Bool.and_false, show ieq 7 0 = false from rfl, show ieq 6 0 = false from rfl, show ieq 5 0 = false from rfl, show ieq 2 0 = false from rfl, show ieq 0 0 = true from rfl] at h ⊢
      exact done3 (Z4_ok _) F4sy h rfl
    | true =>
    simp only [c, Nat.zero_add, Bool.not_true, Bool.not_false, cond_true, cond_false, Bool.true_and, Bool.false_and, Bool.and_true, Bool.and_false] at h ⊢
    cases c : ieq (rngE (s.1.2[0]).2.1.1 (s.1.2[0]).2.1.2.1 1 5000) 0 with
    | false =>
      simp only [c, Nat.zero_add, Bool.not_true, Bool.not_false, cond_true, cond_false, Bool.true_and, Bool.false_and, Bool.and_true, Bool.and_false] at h ⊢
      exact done3 (Z4_ok _) F4sy h rfl
    | true =>
    simp only [c, Nat.zero_add, Bool.not_true, Bool.not_false, cond_true, cond_false, Bool.true_and, Bool.false_and, Bool.and_true, Bool.and_false] at h ⊢
    rw [rng_w c] at h
    cases c : ile (s.1.2[0]).2.1.2.1 ((s.1.2[0]).2.1.1 + 40) with
    | false =>
      simp only [c, Nat.zero_add, Bool.not_true, Bool.not_false, cond_true, cond_false, Bool.true_and, Bool.false_and, Bool.and_true, Bool.and_false, show ieq 7 0 = false from rfl, show ieq 6 0 = false from rfl, show ieq 5 0 = false from rfl, show ieq 2 0 = false from rfl, show ieq 0 0 = true from rfl] at h ⊢
      exact done3 (Z4_ok _) F4sy h rfl
    | true =>
    simp only [c, Nat.zero_add, Bool.not_true, Bool.not_false, cond_true, cond_false, Bool.true_and, Bool.false_and, Bool.and_true, Bool.and_false] at h ⊢
    exact .stopE (Z4_ok _) F4sy h r1 rfl
theorem rchk_call (s : tSt.den) : AnsF F4 22 [tSt.av s] (tup3 (staS s)) := by
  refine Ans.call (n := 12) (ext_none (by kernel_rfl)) (hasB_spec (by kernel_rfl)) ?_
  have h := rchk_start s
  simp only [ieq_self, cond_true] at h
  unfold staS
  cases c : ile 1 (s.1.2.length : Int) with
  | false =>
    simp only [c, Bool.not_true, Bool.not_false, cond_true, cond_false, Bool.true_and, Bool.false_and, Bool.and_true, Bool.and_false, show ieq 7 0 = false from rfl, show ieq 6 0 = false from rfl, show ieq 5 0 = false from rfl, show ieq 2 0 = false from rfl, show ieq 0 0 = true from rfl] at h ⊢
    exact done3 (Z4_ok _) F4sy h rfl
  | true =>
  simp only [c, Bool.not_true, Bool.not_false, cond_true, cond_false, Bool.true_and, Bool.false_and, Bool.and_true, Bool.and_false] at h ⊢
  have q0 := c
  cases c : ile (s.1.2.length : Int) 4 with
  | false =>
    simp only [c, Bool.not_true, Bool.not_false, cond_true, cond_false, Bool.true_and, Bool.false_and, Bool.and_true, Bool.and_false, show ieq 7 0 = false from rfl, show ieq 6 0 = false from rfl, show ieq 5 0 = false from rfl, show ieq 2 0 = false from rfl, show ieq 0 0 = true from rfl] at h ⊢
    exact done3 (Z4_ok _) F4sy h rfl
  | true =>
  simp only [c, Bool.not_true, Bool.not_false, cond_true, cond_false, Bool.true_and, Bool.false_and, Bool.and_true, Bool.and_false] at h ⊢
  have q4 := c
  cases c : ieq (rngE s.2.1.1 s.2.1.2.1 1 200) 7 with
  | true =>
    simp only [c, Bool.not_true, Bool.not_false, cond_true, cond_false, Bool.true_and, Bool.false_and, Bool.and_true, Bool.and_false, show ieq 7 0 = false from rfl, show ieq 6 0 = false from rfl, show ieq 5 0 = false from rfl, show ieq 2 0 = false from rfl, show ieq 0 0 = true from rfl] at h ⊢
    exact done3 (Z4_ok _) F4sy h rfl
  | false =>
  simp only [c, Bool.not_true, Bool.not_false, cond_true, cond_false, Bool.true_and, Bool.false_and, Bool.and_true, Bool.and_false] at h ⊢
  cases c : ieq (rngE s.2.2.1.1 s.2.2.1.2.1 1 300) 7 with
  | true =>
    simp only [c, Bool.not_true, Bool.not_false, cond_true, cond_false, Bool.true_and, Bool.false_and, Bool.and_true, Bool.and_false, show ieq 7 0 = false from rfl, show ieq 6 0 = false from rfl, show ieq 5 0 = false from rfl, show ieq 2 0 = false from rfl, show ieq 0 0 = true from rfl] at h ⊢
    exact done3 (Z4_ok _) F4sy h rfl
  | false =>
  simp only [c, Bool.not_true, Bool.not_false, cond_true, cond_false, Bool.true_and, Bool.false_and, Bool.and_true, Bool.and_false] at h ⊢
  cases c : ieq (rngE s.2.1.1 s.2.1.2.1 1 200) 0 with
  | false =>
    simp only [c, Bool.not_true, Bool.not_false, cond_true, cond_false, Bool.true_and, Bool.false_and, Bool.and_true, Bool.and_false, show ieq 7 0 = false from rfl, show ieq 6 0 = false from rfl, show ieq 5 0 = false from rfl, show ieq 2 0 = false from rfl, show ieq 0 0 = true from rfl] at h ⊢
    exact done3 (Z4_ok _) F4sy h rfl
  | true =>
  simp only [c, Bool.not_true, Bool.not_false, cond_true, cond_false, Bool.true_and, Bool.false_and, Bool.and_true, Bool.and_false] at h ⊢
  cases c : ieq (rngE s.2.2.1.1 s.2.2.1.2.1 1 300) 0 with
  | false =>
    simp only [c, Bool.not_true, Bool.not_false, cond_true, cond_false, Bool.true_and, Bool.false_and, Bool.and_true, Bool.and_false, show ieq 7 0 = false from rfl, show ieq 6 0 = false from rfl, show ieq 5 0 = false from rfl, show ieq 2 0 = false from rfl, show ieq 0 0 = true from rfl] at h ⊢
    exact done3 (Z4_ok _) F4sy h rfl
  | true =>
  simp only [c, Bool.not_true, Bool.not_false, cond_true, cond_false, Bool.true_and, Bool.false_and, Bool.and_true, Bool.and_false] at h ⊢
  have l4 : s.1.2.length ≤ 4 := by have := ile_le q4; omega
  have l0 : 0 < s.1.2.length := by have := ile_le q0; omega
  exact .stopE (Z4_ok _) F4sy h (rgr0 s l4 l0 1048575 (by omega)) rfl
end Go.Proofs.YtlbonihgofbanaaGreatDoor

/-
  LOOPS, told by their heads.
-/
set_option maxRecDepth 100000
namespace Go.Proofs.YtlbonihgofbanaaGreatDoor
open Go Go.Eng
/-! ### The fifth level -/
noncomputable def LE : List Said := [(23, con1 tSt (fun _ => true) (fun s => tup3 (staS s))), (22, con1 tSt (fun _ => true) (fun s => tup3 (staS s)))]
theorem LE_ok : ∀ e ∈ LE, SaidG Tryz.prog F4.glob e :=
  saids_cons (SaidOK.g f4 xf4 nf4 tabs_ok.mix (fun _ _ h => con1_spec (t := tSt) (fun s _ => pchk_call s) h) rfl)
  (saids_cons (SaidOK.g f4 xf4 nf4 tabs_ok.mix (fun _ _ h => con1_spec (t := tSt) (fun s _ => rchk_call s) h) rfl) saids_nil)
noncomputable def F5 : Env := F4.say (under (xOf LE))
theorem f5 : EnvOK Tryz.prog F5 := f4.say _
theorem nf5 : NameOK F5 := nf4.say _
theorem xf5 : ExtOK Tryz.prog F5 := xf4.sayL LE_ok
theorem F5sy : F5.sy = true := rfl
noncomputable def Z5 (l : List Nat) : Sy := (Z4 []).on LE l
theorem Z5_ok (l : List Nat) : (Z5 l).ok F5 := Sy.on_ok (Z4_ok _)
end Go.Proofs.YtlbonihgofbanaaGreatDoor

/-
  LOOPS, told by their heads.
-/
set_option maxRecDepth 100000
namespace Go.Proofs.YtlbonihgofbanaaGreatDoor
open Go Go.Eng
theorem poil_start (s : tSt.den) (a b : Int) : adv F5 (Z5 []) 3000 (startC F5 20 [tSt.av s, .int .i64 a, .int .i64 b] 12) = (bif !ieq (staS s).snd.snd 0 then some (.done (.tup [(.int .i64 (0)), (.int .i64 ((staS s).snd.snd))])) else (bif !ile 0 a then some (.done (.tup [(.int .i64 (0)), (.int .i64 (4))])) else (bif !ile a (wr IntKind.i64 (↑s.fst.snd.length - 1)) then some (.done (.tup [(.int .i64 (0)), (.int .i64 (4))])) else (bif !ile 0 b then some (.done (.tup [(.int .i64 (0)), (.int .i64 (7))])) else (bif !ile b 1440 then some (.done (.tup [(.int .i64 (0)), (.int .i64 (7))])) else (bif inB a s.fst.snd.length then some (.done (.tup [(.int .i64 (wr IntKind.i64 ((wr IntKind.i64 (wr IntKind.i64 (wr IntKind.i64 ((s.fst.snd.getD a.toNat tGr.dflt).snd.snd.fst * b) + 60) - 1)).tdiv 60))), (.int .i64 (0))])) else none)))))) := by kernel_rfl
theorem roil_start (s : tSt.den) (a b : Int) : adv F5 (Z5 []) 3000 (startC F5 21 [tSt.av s, .int .i64 a, .int .i64 b] 12) = (bif ieq (staS s).snd.snd 0 then (bif ile 0 a then (bif !ile a (wr IntKind.i64 (↑s.fst.snd.length - 1)) then some (.done (.tup [(.int .i64 (0)), (.int .i64 (4))])) else (bif ieq (staS s).snd.snd 0 then (bif ile 0 b then (bif !ile b 1440 then some (.done (.tup [(.int .i64 (0)), (.int .i64 (7))])) else (bif !ieq (staS s).snd.snd 0 then some (.done (.tup [(.int .i64 (0)), (.int .i64 ((staS s).snd.snd))])) else (bif inB a s.fst.snd.length then some (.done (.tup [(.int .i64 (wr IntKind.i64 ((wr IntKind.i64 (wr IntKind.i64 ((s.fst.snd.getD a.toNat tGr.dflt).snd.snd.fst * b) + 59)).tdiv 60))), (.int .i64 (0))])) else none))) else some (.done (.tup [(.int .i64 (0)), (.int .i64 (7))]))) else (bif !ieq (staS s).snd.snd 0 then some (.done (.tup [(.int .i64 (0)), (.int .i64 ((staS s).snd.snd))])) else (bif inB a s.fst.snd.length then some (.done (.tup [(.int .i64 (wr IntKind.i64 ((wr IntKind.i64 (wr IntKind.i64 ((s.fst.snd.getD a.toNat tGr.dflt).snd.snd.fst * b) + 59)).tdiv 60))), (.int .i64 (0))])) else none)))) else some (.done (.tup [(.int .i64 (0)), (.int .i64 (4))]))) else (bif ieq (staS s).snd.snd 0 then (bif ile 0 b then (bif !ile b 1440 then some (.done (.tup [(.int .i64 (0)), (.int .i64 (7))])) else (bif !ieq (staS s).snd.snd 0 then some (.done (.tup [(.int .i64 (0)), (.int .i64 ((staS s).snd.snd))])) else (bif inB a s.fst.snd.length then some (.done (.tup [(.int .i64 (wr IntKind.i64 ((wr IntKind.i64 (wr IntKind.i64 ((s.fst.snd.getD a.toNat tGr.dflt).snd.snd.fst * b) + 59)).tdiv 60))), (.int .i64 (0))])) else none))) else some (.done (.tup [(.int .i64 (0)), (.int .i64 (7))]))) else (bif !ieq (staS s).snd.snd 0 then some (.done (.tup [(.int .i64 (0)), (.int .i64 ((staS s).snd.snd))])) else (bif inB a s.fst.snd.length then some (.done (.tup [(.int .i64 (wr IntKind.i64 ((wr IntKind.i64 (wr IntKind.i64 ((s.fst.snd.getD a.toNat tGr.dflt).snd.snd.fst * b) + 59)).tdiv 60))), (.int .i64 (0))])) else none)))) := by kernel_rfl
noncomputable def pcknI0 (s : tSt.den) (n : tNi.den) (l : (Ty.sl tRe).den) (x7 : Int) (x32 : Nat) : Cfg := ⟨.ex (pcOf F5 57 [0, 0, 1, 0, 1]) ⟨(tmOf 24 [(0, (.vs tRe (l.fst) (l.snd))), (1, (.fn 58 [] [])), (4, (.int .i64 (0))), (5, (.int .i64 (0))), (9, (.vs tRe (l.fst) (l.snd))), (10, (.int .i64 (Int.ofNat l.snd.length))), (11, (.int .i64 x7))]), (hpOf 6 [(0, (.cells false [(.vs tGr (s.fst.fst) (s.fst.snd)), (.int .i64 (s.snd.fst.fst)), (.int .i64 (s.snd.fst.snd.fst)), (.int .i64 (s.snd.snd.fst.fst)), (.int .i64 (s.snd.snd.fst.snd.fst))])), (1, (.cells false [(.int .i64 (n.fst.fst)), (.int .i64 (n.fst.snd.fst)), (.int .i64 (n.snd.fst)), (.int .i64 (n.snd.snd.fst)), (.int .i64 (n.snd.snd.snd.fst))])), (2, (.cells true [(.int .i64 (n.snd.fst))])), (3, (.cells true [(.int .i64 (n.fst.fst)), (.int .i64 (n.fst.snd.fst))])), (4, (.cells true [(.int .i64 (n.snd.snd.fst))])), (5, (.cells true [(.int .i64 (n.snd.snd.snd.fst))]))]), [], [], 24, false⟩, ⟨11, []⟩, [(.lop (pcOf F5 57 [0, 0, 1, 0, 1]) 6 (tmOf 24 [(0, (.vs tRe (l.fst) (l.snd))), (1, (.fn 58 [] [])), (4, (.int .i64 (0))), (5, (.int .i64 (0))), (9, (.vs tRe (l.fst) (l.snd))), (10, (.int .i64 (Int.ofNat l.snd.length))), (11, (.int .i64 (0)))]) x32), (.blk 0), (.seq (pcOf F5 57 [1, 1])), (.cal [(.tmp 4), (.tmp 5)] (.op (pcOf F5 24 [0, 1, 1, 1, 1, 1]) 2 (some 56) ((opsOf (pcOf F5 24 [0, 1, 1, 1, 1, 1]).c).toList.drop 2) (tmOf 59 [(0, (.agg [(.vs tGr (s.fst.fst) (s.fst.snd)), (.int .i64 (s.snd.fst.fst)), (.int .i64 (s.snd.fst.snd.fst)), (.int .i64 (s.snd.snd.fst.fst)), (.int .i64 (s.snd.snd.fst.snd.fst))])), (1, (.agg [(.int .i64 (n.fst.fst)), (.int .i64 (n.fst.snd.fst)), (.int .i64 (n.snd.fst)), (.int .i64 (n.snd.snd.fst)), (.int .i64 (n.snd.snd.snd.fst))])), (2, (.vs tRe (l.fst) (l.snd))), (3, (.ptr 0 0)), (4, (.ptr 1 0)), (6, (.int .i64 (0))), (7, (.int .i64 (0))), (8, (.int .i64 ((staS s).fst))), (9, (.int .i64 ((staS s).snd.fst))), (10, (.int .i64 ((staS s).snd.snd))), (11, (.tup [(.int .i64 ((staS s).fst)), (.int .i64 ((staS s).snd.fst)), (.int .i64 ((staS s).snd.snd))])), (12, (.agg [(.vs tGr (s.fst.fst) (s.fst.snd)), (.int .i64 (s.snd.fst.fst)), (.int .i64 (s.snd.fst.snd.fst)), (.int .i64 (s.snd.snd.fst.fst)), (.int .i64 (s.snd.snd.fst.snd.fst))])), (13, (.tup [(.int .i64 ((staS s).fst)), (.int .i64 ((staS s).snd.fst)), (.int .i64 ((staS s).snd.snd))])), (14, (.int .i64 ((staS s).fst))), (15, (.int .i64 ((staS s).snd.fst))), (16, (.int .i64 ((staS s).snd.snd))), (17, (.int .i64 ((staS s).snd.snd))), (18, (.bool (false))), (20, (.ptr 0 0)), (21, (.vs tGr (s.fst.fst) (s.fst.snd))), (22, (.int .i64 (Int.ofNat s.fst.snd.length))), (23, (.int .i64 (wr IntKind.i64 (↑s.fst.snd.length - 1)))), (24, (.ptr 1 2)), (25, (.int .i64 (n.snd.fst))), (26, (.sl 2 0 (1) (1) 1)), (27, (.bool (true))), (28, (.bool (false))), (29, (.ptr 1 0)), (30, (.ptr 1 0)), (31, (.int .i64 (n.fst.fst))), (32, (.ptr 1 0)), (33, (.ptr 1 1)), (34, (.int .i64 (n.fst.snd.fst))), (35, (.sl 3 0 (2) (2) 1)), (36, (.bool (true))), (37, (.bool (false))), (38, (.bool (false))), (39, (.ptr 1 3)), (40, (.int .i64 (n.snd.snd.fst))), (41, (.sl 4 0 (1) (1) 1)), (42, (.bool (true))), (43, (.bool (false))), (44, (.bool (false))), (45, (.bool (false))), (46, (.ptr 1 4)), (47, (.int .i64 (n.snd.snd.snd.fst))), (48, (.sl 5 0 (1) (1) 1)), (49, (.bool (true))), (50, (.bool (false))), (51, (.bool (false))), (52, (.vs tRe (l.fst) (l.snd))), (53, (.int .i64 (Int.ofNat l.snd.length))), (54, (.bool (false))), (55, (.vs tRe (l.fst) (l.snd)))]) [] 59 false ⟨12, []⟩)), (.seq (pcOf F5 24 [1, 1, 1, 1, 1, 1])), (.cal [(.tmp 6), (.tmp 7)] .top)]⟩
theorem pckn_start (s : tSt.den) (n : tNi.den) (l : (Ty.sl tRe).den) : adv F5 (Z5 [57]) 3000 (startC F5 24 [tSt.av s, tNi.av n, .vs tRe l.1 l.2] 12) = (bif !ieq (staS s).snd.snd 0 then some (.done (.tup [(.int .i64 (0)), (.int .i64 ((staS s).snd.snd))])) else (bif !ile 0 n.snd.fst then some (.done (.tup [(.int .i64 (0)), (.int .i64 (4))])) else (bif !ile n.snd.fst (wr IntKind.i64 (↑s.fst.snd.length - 1)) then some (.done (.tup [(.int .i64 (0)), (.int .i64 (4))])) else (bif !ile (-30000) n.fst.fst then some (.done (.tup [(.int .i64 (0)), (.int .i64 (7))])) else (bif !ile n.fst.fst 30000 then some (.done (.tup [(.int .i64 (0)), (.int .i64 (7))])) else (bif !ile (-30000) n.fst.snd.fst then some (.done (.tup [(.int .i64 (0)), (.int .i64 (7))])) else (bif !ile n.fst.snd.fst 30000 then some (.done (.tup [(.int .i64 (0)), (.int .i64 (7))])) else (bif !ile 0 n.snd.snd.fst then some (.done (.tup [(.int .i64 (0)), (.int .i64 (7))])) else (bif !ile n.snd.snd.fst 31 then some (.done (.tup [(.int .i64 (0)), (.int .i64 (7))])) else (bif !ile 1 n.snd.snd.snd.fst then some (.done (.tup [(.int .i64 (0)), (.int .i64 (7))])) else (bif !ile n.snd.snd.snd.fst 32 then some (.done (.tup [(.int .i64 (0)), (.int .i64 (7))])) else (bif !ile (↑l.snd.length) 8 then some (.done (.tup [(.int .i64 (0)), (.int .i64 (3))])) else some (.stop (pcknI0 s n l (0) (1048575))))))))))))))) := by kernel_rfl
theorem pckn_step0 (s : tSt.den) (n : tNi.den) (l : (Ty.sl tRe).den) (x7 : Int) (x32 : Nat) : adv F5 (Z5 [57]) 3000 (pcknI0 s n l x7 (x32 + 1)) = (bif !ile (Int.ofNat l.snd.length) x7 then (bif inB x7 l.snd.length then (bif !ile (-30000) (l.snd.getD x7.toNat tRe.dflt).fst.fst then some (.done (.tup [(.int .i64 (x7)), (.int .i64 (7))])) else (bif !ile (l.snd.getD x7.toNat tRe.dflt).fst.fst 30000 then some (.done (.tup [(.int .i64 (x7)), (.int .i64 (7))])) else (bif !ile (-30000) (l.snd.getD x7.toNat tRe.dflt).fst.snd.fst then some (.done (.tup [(.int .i64 (x7)), (.int .i64 (7))])) else (bif !ile (l.snd.getD x7.toNat tRe.dflt).fst.snd.fst 30000 then some (.done (.tup [(.int .i64 (x7)), (.int .i64 (7))])) else some (.stop (pcknI0 s n l (wr IntKind.i64 (x7 + 1)) (x32))))))) else none) else some (.done (.tup [(.int .i64 (0)), (.int .i64 (0))]))) := by kernel_rfl
/-! ### Oil -/
noncomputable def tup2 (r : Int × Int) : AV := .tup [.int .i64 r.1, .int .i64 r.2]
theorem done2 {E : Env} {S : Sy} (hS : S.ok E) (hsy : E.sy = true) {n : Nat} {c : Cfg} {a b : Int} {r : Int × Int} (h : adv E S n c = some (.done (.tup [.int .i64 a, .int .i64 b]))) (e : (a, b) = r) : Ans E c (tup2 r) :=
  e ▸ Ans.done hS hsy h rfl
noncomputable def gAt (s : tSt.den) (a : Int) : tGr.den := s.1.2.getD a.toNat tGr.dflt
noncomputable def oilS (s : tSt.den) (a b : Int) : Int × Int := bif ieq (staS s).2.2 0 then (bif ile 0 a && ile a ((s.1.2.length : Int) - 1) then (bif ile 0 b && ile b 1440 then (((gAt s a).2.2.1 * b + 59).tdiv 60, 0) else (0, 7)) else (0, 4)) else (0, (staS s).2.2)
theorem grds_ok : ∀ (l : List tGr.den) (mem : List Nat → Bool) (i : Nat), ieq (grdsS mem i l).2.2 0 = true → ∀ g ∈ l, gcF g.2.1.1 g.2.1.2.1 g.2.2.1 = 0
  | [], _, _, _, g, hg => by cases hg
  | g :: l, mem, i, h, x, hx => by
    rw [grdsS] at h
    cases c : ieq (grE mem g) 0 with
    | false => rw [c, cond_false] at h; rw [c] at h; cases h
    | true =>
      rw [c, cond_true] at h
      rcases List.mem_cons.1 hx with rfl | hx
      · have c' := ieq_t c
        unfold grE at c'
        cases c1 : nameS x.1 with
        | false => rw [c1, cond_false] at c'; exact absurd c' (by decide)
        | true =>
          rw [c1, cond_true] at c'
          cases c2 : mem x.1 with
          | true => rw [c2, cond_true] at c'; exact absurd c' (by decide)
          | false => rw [c2, cond_false] at c'; exact c'
      · exact grds_ok l _ _ h x hx
theorem gc_b {lo hi oil : Int} (h : gcF lo hi oil = 0) : (1 ≤ lo ∧ lo ≤ hi) ∧ (hi ≤ 5000 ∧ hi ≤ lo + 40) ∧ 0 ≤ oil ∧ oil ≤ 1000 := by
  unfold gcF at h
  cases c : (ile 1 lo && ile lo 5000 && ile 1 hi && ile hi 5000 && ile 0 oil && ile oil 1000) with
  | false => rw [c, cond_false] at h; exact absurd h (by decide)
  | true =>
    rw [c, cond_true] at h
    cases c2 : (ile lo hi && ile hi (lo + 40)) with
    | false => rw [c2, cond_false] at h; exact absurd h (by decide)
    | true =>
      simp only [Bool.and_eq_true, ile_iff, decide_eq_true_eq] at c c2
      omega
theorem rng_ok {x y a b : Int} (h : ieq (rngE x y a b) 0 = true) : (a ≤ x ∧ x ≤ y) ∧ y ≤ b := by
  unfold rngE at h
  cases c : (ile a x && ile x b && ile a y && ile y b) with
  | false => rw [c, cond_false] at h; exact absurd (ieq_t h) (by decide)
  | true =>
    rw [c, cond_true] at h
    cases c2 : ile x y with
    | false => rw [c2, cond_false] at h; exact absurd (ieq_t h) (by decide)
    | true =>
      simp only [Bool.and_eq_true, ile_iff, decide_eq_true_eq] at c c2
      omega
structure StaOK (s : tSt.den) : Prop where
  len : 1 ≤ s.1.2.length ∧ s.1.2.length ≤ 4
  loud : (1 ≤ (show Int from s.2.1.1) ∧ (show Int from s.2.1.1) ≤ (show Int from s.2.1.2.1)) ∧ (show Int from s.2.1.2.1) ≤ 200
  clear : (1 ≤ (show Int from s.2.2.1.1) ∧ (show Int from s.2.2.1.1) ≤ (show Int from s.2.2.1.2.1)) ∧ (show Int from s.2.2.1.2.1) ≤ 300
  gr : ∀ g ∈ s.1.2, gcF g.2.1.1 g.2.1.2.1 g.2.2.1 = 0
theorem sta_ok {s : tSt.den} (h : ieq (staS s).2.2 0 = true) : StaOK s := by
  unfold staS at h
  cases c : (ile 1 (s.1.2.length : Int) && ile (s.1.2.length : Int) 4) with
  | false => rw [c, cond_false] at h; exact absurd (ieq_t h) (by decide)
  | true =>
    rw [c, cond_true] at h
    cases c1 : ieq (rngE s.2.1.1 s.2.1.2.1 1 200) 7 with
    | true => rw [c1, cond_true] at h; exact absurd (ieq_t h) (by decide)
    | false =>
      rw [c1, cond_false] at h
      cases c2 : ieq (rngE s.2.2.1.1 s.2.2.1.2.1 1 300) 7 with
      | true => rw [c2, cond_true] at h; exact absurd (ieq_t h) (by decide)
      | false =>
        rw [c2, cond_false] at h
        cases c3 : (ieq (rngE s.2.1.1 s.2.1.2.1 1 200) 0 && ieq (rngE s.2.2.1.1 s.2.2.1.2.1 1 300) 0) with
        | false => rw [c3, cond_false] at h; exact absurd (ieq_t h) (by decide)
        | true =>
          rw [c3, cond_true] at h
          rw [Bool.and_eq_true] at c c3
          have l1 := ile_le c.1
          have l2 := ile_le c.2
          exact ⟨⟨by omega, by omega⟩, rng_ok c3.1, rng_ok c3.2, grds_ok _ _ _ h⟩
theorem gAt_mem {s : tSt.den} {a : Int} (h1 : 0 ≤ a) (h2 : a < s.1.2.length) : gAt s a ∈ s.1.2 := by
  unfold gAt
  obtain ⟨k, rfl⟩ := Int.eq_ofNat_of_zero_le h1
  rw [List.getD_eq_getElem?_getD, List.getElem?_eq_getElem (by simpa using h2)]
  exact List.getElem_mem _
theorem oil_wr {o b : Int} (h1 : 0 ≤ o) (h2 : o ≤ 1000) (h3 : 0 ≤ b) (h4 : b ≤ 1440) : wr .i64 (o * b) = o * b ∧ wr .i64 (o * b + 59) = o * b + 59 ∧ wr .i64 (wr .i64 (o * b + 60) - 1) = o * b + 59 ∧ wr .i64 ((o * b + 59).tdiv 60) = (o * b + 59).tdiv 60 ∧ 0 ≤ o * b := by
  have a := mul_b (a := o) (b := b) (m := 1000) (n := 1440) (by omega) (by omega) (by omega) (by omega)
  have p : 0 ≤ o * b := Int.mul_nonneg h1 h3
  refine ⟨wr_in (by omega) (by omega), wr_in (by omega) (by omega), ?_, ?_, p⟩
  · rw [wr_in (n := o * b + 60) (by omega) (by omega), wr_in (by omega) (by omega)]; omega
  · rw [Int.tdiv_eq_ediv_of_nonneg (by omega)]; exact wr_in (by omega) (by omega)
theorem inB_of {a : Int} {n : Nat} (h1 : 0 ≤ a) (h2 : a < n) : inB a n = true := by
  obtain ⟨k, rfl⟩ := Int.eq_ofNat_of_zero_le h1
  exact inB_at (by simpa using h2)
theorem poil_call (s : tSt.den) (a b : tI.den) : AnsF F5 20 [tSt.av s, tI.av a, tI.av b] (tup2 (oilS s a b)) := by
  refine Ans.call (n := 12) (ext_none (by kernel_rfl)) (hasB_spec (by kernel_rfl)) ?_
  have h := poil_start s a b
  unfold oilS
  cases c : ieq (staS s).2.2 0 with
  | false =>
    simp only [c, Bool.not_true, Bool.not_false, cond_true, cond_false, Bool.true_and, Bool.false_and, Bool.and_true, Bool.and_false] at h ⊢
    first | exact done2 (Z5_ok _) F5sy h rfl | (revert h; cases ile 0 b <;> cases ile b 1440 <;> (intro h; simp only [Bool.not_true, Bool.not_false, cond_true, cond_false, Bool.true_and, Bool.false_and, Bool.and_true, Bool.and_false] at h; exact done2 (Z5_ok _) F5sy h rfl))
  | true =>
  have so := sta_ok c
  simp only [c, Bool.not_true, Bool.not_false, cond_true, cond_false, Bool.true_and, Bool.false_and, Bool.and_true, Bool.and_false] at h ⊢
  have sl := so.len
  rw [wr_in (n := (s.1.2.length : Int) - 1) (by omega) (by omega)] at h
  cases c : ile 0 a with
  | false =>
    simp only [c, Bool.not_true, Bool.not_false, cond_true, cond_false, Bool.true_and, Bool.false_and, Bool.and_true, Bool.and_false, show ieq 7 0 = false from rfl, show ieq 6 0 = false from rfl, show ieq 5 0 = false from rfl, show ieq 2 0 = false from rfl, show ieq 0 0 = true from rfl] at h ⊢
    exact done2 (Z5_ok _) F5sy h rfl
  | true =>
  simp only [c, Bool.not_true, Bool.not_false, cond_true, cond_false, Bool.true_and, Bool.false_and, Bool.and_true, Bool.and_false] at h ⊢
  have a1 := ile_le c
  cases c : ile a ((s.1.2.length : Int) - 1) with
  | false =>
    simp only [c, Bool.not_true, Bool.not_false, cond_true, cond_false, Bool.true_and, Bool.false_and, Bool.and_true, Bool.and_false, show ieq 7 0 = false from rfl, show ieq 6 0 = false from rfl, show ieq 5 0 = false from rfl, show ieq 2 0 = false from rfl, show ieq 0 0 = true from rfl] at h ⊢
    exact done2 (Z5_ok _) F5sy h rfl
  | true =>
  simp only [c, Bool.not_true, Bool.not_false, cond_true, cond_false, Bool.true_and, Bool.false_and, Bool.and_true, Bool.and_false] at h ⊢
  have a2 := ile_le c
  cases c : ile 0 b with
  | false =>
    simp only [c, Bool.not_true, Bool.not_false, cond_true, cond_false, Bool.true_and, Bool.false_and, Bool.and_true, Bool.and_false, show ieq 7 0 = false from rfl, show ieq 6 0 = false from rfl, show ieq 5 0 = false from rfl, show ieq 2 0 = false from rfl, show ieq 0 0 = true from rfl] at h ⊢
    exact done2 (Z5_ok _) F5sy h rfl
  | true =>
  simp only [c, Bool.not_true, Bool.not_false, cond_true, cond_false, Bool.true_and, Bool.false_and, Bool.and_true, Bool.and_false] at h ⊢
  have b1 := ile_le c
  cases c : ile b 1440 with
  | false =>
    simp only [c, Bool.not_true, Bool.not_false, cond_true, cond_false, Bool.true_and, Bool.false_and, Bool.and_true, Bool.and_false, show ieq 7 0 = false from rfl, show ieq 6 0 = false from rfl, show ieq 5 0 = false from rfl, show ieq 2 0 = false from rfl, show ieq 0 0 = true from rfl] at h ⊢
    exact done2 (Z5_ok _) F5sy h rfl
  | true =>
  simp only [c, Bool.not_true, Bool.not_false, cond_true, cond_false, Bool.true_and, Bool.false_and, Bool.and_true, Bool.and_false] at h ⊢
  have b2 := ile_le c
  have hg := gc_b (so.gr _ (gAt_mem (s := s) a1 (by omega)))
  have hi : inB a s.1.2.length = true := inB_of a1 (by omega)
  have e : s.1.2.getD a.toNat tGr.dflt = gAt s a := rfl
  obtain ⟨w1, w2, w3, w4, _⟩ := oil_wr hg.2.2.1 hg.2.2.2 b1 b2
  simp only [hi, e, w1, w2, w3, w4, cond_true] at h
  exact done2 (Z5_ok _) F5sy h rfl
theorem roil_call (s : tSt.den) (a b : tI.den) : AnsF F5 21 [tSt.av s, tI.av a, tI.av b] (tup2 (oilS s a b)) := by
  refine Ans.call (n := 12) (ext_none (by kernel_rfl)) (hasB_spec (by kernel_rfl)) ?_
  have h := roil_start s a b
  unfold oilS
  cases c : ieq (staS s).2.2 0 with
  | false =>
    simp only [c, Bool.not_true, Bool.not_false, cond_true, cond_false, Bool.true_and, Bool.false_and, Bool.and_true, Bool.and_false] at h ⊢
    first | exact done2 (Z5_ok _) F5sy h rfl | (revert h; cases ile 0 b <;> cases ile b 1440 <;> (intro h; simp only [Bool.not_true, Bool.not_false, cond_true, cond_false, Bool.true_and, Bool.false_and, Bool.and_true, Bool.and_false] at h; exact done2 (Z5_ok _) F5sy h rfl))
  | true =>
  have so := sta_ok c
  simp only [c, Bool.not_true, Bool.not_false, cond_true, cond_false, Bool.true_and, Bool.false_and, Bool.and_true, Bool.and_false] at h ⊢
  have sl := so.len
  rw [wr_in (n := (s.1.2.length : Int) - 1) (by omega) (by omega)] at h
  cases c : ile 0 a with
  | false =>
    simp only [c, Bool.not_true, Bool.not_false, cond_true, cond_false, Bool.true_and, Bool.false_and, Bool.and_true, Bool.and_false, show ieq 7 0 = false from rfl, show ieq 6 0 = false from rfl, show ieq 5 0 = false from rfl, show ieq 2 0 = false from rfl, show ieq 0 0 = true from rfl] at h ⊢
    exact done2 (Z5_ok _) F5sy h rfl
  | true =>
  simp only [c, Bool.not_true, Bool.not_false, cond_true, cond_false, Bool.true_and, Bool.false_and, Bool.and_true, Bool.and_false] at h ⊢
  have a1 := ile_le c
  cases c : ile a ((s.1.2.length : Int) - 1) with
  | false =>
    simp only [c, Bool.not_true, Bool.not_false, cond_true, cond_false, Bool.true_and, Bool.false_and, Bool.and_true, Bool.and_false, show ieq 7 0 = false from rfl, show ieq 6 0 = false from rfl, show ieq 5 0 = false from rfl, show ieq 2 0 = false from rfl, show ieq 0 0 = true from rfl] at h ⊢
    exact done2 (Z5_ok _) F5sy h rfl
  | true =>
  simp only [c, Bool.not_true, Bool.not_false, cond_true, cond_false, Bool.true_and, Bool.false_and, Bool.and_true, Bool.and_false] at h ⊢
  have a2 := ile_le c
  cases c : ile 0 b with
  | false =>
    simp only [c, Bool.not_true, Bool.not_false, cond_true, cond_false, Bool.true_and, Bool.false_and, Bool.and_true, Bool.and_false, show ieq 7 0 = false from rfl, show ieq 6 0 = false from rfl, show ieq 5 0 = false from rfl, show ieq 2 0 = false from rfl, show ieq 0 0 = true from rfl] at h ⊢
    exact done2 (Z5_ok _) F5sy h rfl
  | true =>
  simp only [c, Bool.not_true, Bool.not_false, cond_true, cond_false, Bool.true_and, Bool.false_and, Bool.and_true, Bool.and_false] at h ⊢
  have b1 := ile_le c
  cases c : ile b 1440 with
  | false =>
    simp only [c, Bool.not_true, Bool.not_false, cond_true, cond_false, Bool.true_and, Bool.false_and, Bool.and_true, Bool.and_false, show ieq 7 0 = false from rfl, show ieq 6 0 = false from rfl, show ieq 5 0 = false from rfl, show ieq 2 0 = false from rfl, show ieq 0 0 = true from rfl] at h ⊢
    exact done2 (Z5_ok _) F5sy h rfl
  | true =>
  simp only [c, Bool.not_true, Bool.not_false, cond_true, cond_false, Bool.true_and, Bool.false_and, Bool.and_true, Bool.and_false] at h ⊢
  have b2 := ile_le c
  have hg := gc_b (so.gr _ (gAt_mem (s := s) a1 (by omega)))
  have hi : inB a s.1.2.length = true := inB_of a1 (by omega)
  have e : s.1.2.getD a.toNat tGr.dflt = gAt s a := rfl
  obtain ⟨w1, w2, w3, w4, _⟩ := oil_wr hg.2.2.1 hg.2.2.2 b1 b2
  simp only [hi, e, w1, w2, w3, w4, cond_true] at h
  exact done2 (Z5_ok _) F5sy h rfl
/-! ### Nights: their errors -/
noncomputable def in3 (x y : Int) : Bool := ile (-30000) x && ile x 30000 && ile (-30000) y && ile y 30000
noncomputable def repS : Nat → List tRe.den → Int × Int
  | _, [] => (0, 0)
  | i, r :: l => bif in3 r.1.1 r.1.2.1 then repS (i + 1) l else ((i : Int), 7)
noncomputable def nigB (n : tNi.den) : Bool := in3 n.1.1 n.1.2.1 && ile 0 n.2.2.1 && ile n.2.2.1 31 && ile 1 n.2.2.2.1 && ile n.2.2.2.1 32
noncomputable def cknS (s : tSt.den) (n : tNi.den) (l : List tRe.den) : Int × Int := bif ieq (staS s).2.2 0 then (bif ile 0 n.2.1 && ile n.2.1 ((s.1.2.length : Int) - 1) then (bif nigB n then (bif ile (l.length : Int) 8 then repS 0 l else (0, 3)) else (0, 7)) else (0, 4)) else (0, (staS s).2.2)
theorem pckn_ans (s : tSt.den) (n : tNi.den) (l : (Ty.sl tRe).den) (h8 : l.2.length ≤ 8) : ∀ (r i m : Nat), i + r = l.2.length → r < m → Ans F5 (pcknI0 s n l i m) (tup2 (repS i (l.2.drop i)))
  | 0, i, m + 1, hk, hm => by
    have h := pckn_step0 s n l i m
    simp only [Int.ofNat_eq_natCast, ile_ge (show l.2.length ≤ i by omega), Bool.not_true, cond_false] at h
    rw [List.drop_eq_nil_of_le (by omega)]
    exact done2 (Z5_ok _) F5sy h rfl
  | r + 1, i, m + 1, hk, hm => by
    have h := pckn_step0 s n l i m
    have hlt : i < l.2.length := by omega
    simp only [Int.ofNat_eq_natCast, ile_lt hlt, inB_at hlt, getD_at hlt, wr_succ (show i < 1048577 by omega), Bool.not_false, cond_true] at h
    rw [List.drop_eq_getElem_cons hlt, repS, in3]
    cases c : ile (-30000) (l.2[i]).1.1 with
    | false =>
      simp only [c, Bool.not_true, Bool.not_false, cond_true, cond_false, Bool.true_and, Bool.false_and, Bool.and_true, Bool.and_false, show ieq 7 0 = false from rfl, show ieq 6 0 = false from rfl, show ieq 5 0 = false from rfl, show ieq 2 0 = false from rfl, show ieq 0 0 = true from rfl] at h ⊢
      exact done2 (Z5_ok _) F5sy h rfl
    | true =>
    simp only [c, Bool.not_true, Bool.not_false, cond_true, cond_false, Bool.true_and, Bool.false_and, Bool.and_true, Bool.and_false] at h ⊢
    cases c : ile (l.2[i]).1.1 30000 with
    | false =>
      simp only [c, Bool.not_true, Bool.not_false, cond_true, cond_false, Bool.true_and, Bool.false_and, Bool.and_true, Bool.and_false, show ieq 7 0 = false from rfl, show ieq 6 0 = false from rfl, show ieq 5 0 = false from rfl, show ieq 2 0 = false from rfl, show ieq 0 0 = true from rfl] at h ⊢
      exact done2 (Z5_ok _) F5sy h rfl
    | true =>
    simp only [c, Bool.not_true, Bool.not_false, cond_true, cond_false, Bool.true_and, Bool.false_and, Bool.and_true, Bool.and_false] at h ⊢
    cases c : ile (-30000) (l.2[i]).1.2.1 with
    | false =>
      simp only [c, Bool.not_true, Bool.not_false, cond_true, cond_false, Bool.true_and, Bool.false_and, Bool.and_true, Bool.and_false, show ieq 7 0 = false from rfl, show ieq 6 0 = false from rfl, show ieq 5 0 = false from rfl, show ieq 2 0 = false from rfl, show ieq 0 0 = true from rfl] at h ⊢
      exact done2 (Z5_ok _) F5sy h rfl
    | true =>
    simp only [c, Bool.not_true, Bool.not_false, cond_true, cond_false, Bool.true_and, Bool.false_and, Bool.and_true, Bool.and_false] at h ⊢
    cases c : ile (l.2[i]).1.2.1 30000 with
    | false =>
      simp only [c, Bool.not_true, Bool.not_false, cond_true, cond_false, Bool.true_and, Bool.false_and, Bool.and_true, Bool.and_false, show ieq 7 0 = false from rfl, show ieq 6 0 = false from rfl, show ieq 5 0 = false from rfl, show ieq 2 0 = false from rfl, show ieq 0 0 = true from rfl] at h ⊢
      exact done2 (Z5_ok _) F5sy h rfl
    | true =>
    simp only [c, Bool.not_true, Bool.not_false, cond_true, cond_false, Bool.true_and, Bool.false_and, Bool.and_true, Bool.and_false] at h ⊢
    exact .stopE (Z5_ok _) F5sy h (pckn_ans s n l h8 r (i + 1) m (by omega) (by omega)) rfl
theorem pckn_call (s : tSt.den) (n : tNi.den) (l : (Ty.sl tRe).den) : AnsF F5 24 [tSt.av s, tNi.av n, .vs tRe l.1 l.2] (tup2 (cknS s n l.2)) := by
  refine Ans.call (n := 12) (ext_none (by kernel_rfl)) (hasB_spec (by kernel_rfl)) ?_
  have h := pckn_start s n l
  unfold cknS nigB in3
  cases c : ieq (staS s).2.2 0 with
  | false =>
    simp only [c, Bool.not_true, Bool.not_false, cond_true, cond_false, Bool.true_and, Bool.false_and, Bool.and_true, Bool.and_false] at h ⊢
    exact done2 (Z5_ok _) F5sy h rfl
  | true =>
  have so := sta_ok c
  simp only [c, Bool.not_true, Bool.not_false, cond_true, cond_false, Bool.true_and, Bool.false_and, Bool.and_true, Bool.and_false] at h ⊢
  have sl := so.len
  rw [wr_in (n := (s.1.2.length : Int) - 1) (by omega) (by omega)] at h
  cases c : ile 0 n.2.1 with
  | false =>
    simp only [c, Bool.not_true, Bool.not_false, cond_true, cond_false, Bool.true_and, Bool.false_and, Bool.and_true, Bool.and_false, show ieq 7 0 = false from rfl, show ieq 6 0 = false from rfl, show ieq 5 0 = false from rfl, show ieq 2 0 = false from rfl, show ieq 0 0 = true from rfl] at h ⊢
    exact done2 (Z5_ok _) F5sy h rfl
  | true =>
  simp only [c, Bool.not_true, Bool.not_false, cond_true, cond_false, Bool.true_and, Bool.false_and, Bool.and_true, Bool.and_false] at h ⊢
  cases c : ile n.2.1 ((s.1.2.length : Int) - 1) with
  | false =>
    simp only [c, Bool.not_true, Bool.not_false, cond_true, cond_false, Bool.true_and, Bool.false_and, Bool.and_true, Bool.and_false, show ieq 7 0 = false from rfl, show ieq 6 0 = false from rfl, show ieq 5 0 = false from rfl, show ieq 2 0 = false from rfl, show ieq 0 0 = true from rfl] at h ⊢
    exact done2 (Z5_ok _) F5sy h rfl
  | true =>
  simp only [c, Bool.not_true, Bool.not_false, cond_true, cond_false, Bool.true_and, Bool.false_and, Bool.and_true, Bool.and_false] at h ⊢
  cases c : ile (-30000) n.1.1 with
  | false =>
    simp only [c, Bool.not_true, Bool.not_false, cond_true, cond_false, Bool.true_and, Bool.false_and, Bool.and_true, Bool.and_false, show ieq 7 0 = false from rfl, show ieq 6 0 = false from rfl, show ieq 5 0 = false from rfl, show ieq 2 0 = false from rfl, show ieq 0 0 = true from rfl] at h ⊢
    exact done2 (Z5_ok _) F5sy h rfl
  | true =>
  simp only [c, Bool.not_true, Bool.not_false, cond_true, cond_false, Bool.true_and, Bool.false_and, Bool.and_true, Bool.and_false] at h ⊢
  cases c : ile n.1.1 30000 with
  | false =>
    simp only [c, Bool.not_true, Bool.not_false, cond_true, cond_false, Bool.true_and, Bool.false_and, Bool.and_true, Bool.and_false, show ieq 7 0 = false from rfl, show ieq 6 0 = false from rfl, show ieq 5 0 = false from rfl, show ieq 2 0 = false from rfl, show ieq 0 0 = true from rfl] at h ⊢
    exact done2 (Z5_ok _) F5sy h rfl
  | true =>
  simp only [c, Bool.not_true, Bool.not_false, cond_true, cond_false, Bool.true_and, Bool.false_and, Bool.and_true, Bool.and_false] at h ⊢
  cases c : ile (-30000) n.1.2.1 with
  | false =>
    simp only [c, Bool.not_true, Bool.not_false, cond_true, cond_false, Bool.true_and, Bool.false_and, Bool.and_true, Bool.and_false, show ieq 7 0 = false from rfl, show ieq 6 0 = false from rfl, show ieq 5 0 = false from rfl, show ieq 2 0 = false from rfl, show ieq 0 0 = true from rfl] at h ⊢
    exact done2 (Z5_ok _) F5sy h rfl
  | true =>
  simp only [c, Bool.not_true, Bool.not_false, cond_true, cond_false, Bool.true_and, Bool.false_and, Bool.and_true, Bool.and_false] at h ⊢
  cases c : ile n.1.2.1 30000 with
  | false =>
    simp only [c, Bool.not_true, Bool.not_false, cond_true, cond_false, Bool.true_and, Bool.false_and, Bool.and_true, Bool.and_false, show ieq 7 0 = false from rfl, show ieq 6 0 = false from rfl, show ieq 5 0 = false from rfl, show ieq 2 0 = false from rfl, show ieq 0 0 = true from rfl] at h ⊢
    exact done2 (Z5_ok _) F5sy h rfl
  | true =>
  simp only [c, Bool.not_true, Bool.not_false, cond_true, cond_false, Bool.true_and, Bool.false_and, Bool.and_true, Bool.and_false] at h ⊢
  cases c : ile 0 n.2.2.1 with
  | false =>
    simp only [c, Bool.not_true, Bool.not_false, cond_true, cond_false, Bool.true_and, Bool.false_and, Bool.and_true, Bool.and_false, show ieq 7 0 = false from rfl, show ieq 6 0 = false from rfl, show ieq 5 0 = false from rfl, show ieq 2 0 = false from rfl, show ieq 0 0 = true from rfl] at h ⊢
    exact done2 (Z5_ok _) F5sy h rfl
  | true =>
  simp only [c, Bool.not_true, Bool.not_false, cond_true, cond_false, Bool.true_and, Bool.false_and, Bool.and_true, Bool.and_false] at h ⊢
  cases c : ile n.2.2.1 31 with
  | false =>
    simp only [c, Bool.not_true, Bool.not_false, cond_true, cond_false, Bool.true_and, Bool.false_and, Bool.and_true, Bool.and_false, show ieq 7 0 = false from rfl, show ieq 6 0 = false from rfl, show ieq 5 0 = false from rfl, show ieq 2 0 = false from rfl, show ieq 0 0 = true from rfl] at h ⊢
    exact done2 (Z5_ok _) F5sy h rfl
  | true =>
  simp only [c, Bool.not_true, Bool.not_false, cond_true, cond_false, Bool.true_and, Bool.false_and, Bool.and_true, Bool.and_false] at h ⊢
  cases c : ile 1 n.2.2.2.1 with
  | false =>
    simp only [c, Bool.not_true, Bool.not_false, cond_true, cond_false, Bool.true_and, Bool.false_and, Bool.and_true, Bool.and_false, show ieq 7 0 = false from rfl, show ieq 6 0 = false from rfl, show ieq 5 0 = false from rfl, show ieq 2 0 = false from rfl, show ieq 0 0 = true from rfl] at h ⊢
    exact done2 (Z5_ok _) F5sy h rfl
  | true =>
  simp only [c, Bool.not_true, Bool.not_false, cond_true, cond_false, Bool.true_and, Bool.false_and, Bool.and_true, Bool.and_false] at h ⊢
  cases c : ile n.2.2.2.1 32 with
  | false =>
    simp only [c, Bool.not_true, Bool.not_false, cond_true, cond_false, Bool.true_and, Bool.false_and, Bool.and_true, Bool.and_false, show ieq 7 0 = false from rfl, show ieq 6 0 = false from rfl, show ieq 5 0 = false from rfl, show ieq 2 0 = false from rfl, show ieq 0 0 = true from rfl] at h ⊢
    exact done2 (Z5_ok _) F5sy h rfl
  | true =>
  simp only [c, Bool.not_true, Bool.not_false, cond_true, cond_false, Bool.true_and, Bool.false_and, Bool.and_true, Bool.and_false] at h ⊢
  cases c : ile (l.2.length : Int) 8 with
  | false =>
    simp only [c, Bool.not_true, Bool.not_false, cond_true, cond_false, Bool.true_and, Bool.false_and, Bool.and_true, Bool.and_false, show ieq 7 0 = false from rfl, show ieq 6 0 = false from rfl, show ieq 5 0 = false from rfl, show ieq 2 0 = false from rfl, show ieq 0 0 = true from rfl] at h ⊢
    exact done2 (Z5_ok _) F5sy h rfl
  | true =>
  simp only [c, Bool.not_true, Bool.not_false, cond_true, cond_false, Bool.true_and, Bool.false_and, Bool.and_true, Bool.and_false] at h ⊢
  have l8 : l.2.length ≤ 8 := by have := ile_le c; omega
  exact .stopE (Z5_ok _) F5sy h (pckn_ans s n l l8 l.2.length 0 1048575 (by omega) (by omega)) rfl
/-! ### The sixth level -/
noncomputable def LF6 : List Said := [(20, con3 tSt tI tI (fun _ _ _ => true) (fun s a b => tup2 (oilS s a b))), (21, con3 tSt tI tI (fun _ _ _ => true) (fun s a b => tup2 (oilS s a b))), (24, con3 tSt tNi (.sl tRe) (fun _ _ _ => true) (fun s n l => tup2 (cknS s n l.2)))]
theorem LF6_ok : ∀ e ∈ LF6, SaidG Tryz.prog F5.glob e :=
  saids_cons (SaidOK.g f5 xf5 nf5 tabs_ok.mix (fun _ _ h => con3_spec (t := tSt) (u := tI) (w := tI) (fun s a b _ => poil_call s a b) h) rfl)
  (saids_cons (SaidOK.g f5 xf5 nf5 tabs_ok.mix (fun _ _ h => con3_spec (t := tSt) (u := tI) (w := tI) (fun s a b _ => roil_call s a b) h) rfl)
  (saids_cons (SaidOK.g f5 xf5 nf5 tabs_ok.mix (fun _ _ h => con3_spec (t := tSt) (u := tNi) (w := .sl tRe) (fun s n l _ => pckn_call s n l) h) rfl) saids_nil))
noncomputable def F6 : Env := F5.say (under (xOf LF6))
theorem f6 : EnvOK Tryz.prog F6 := f5.say _
theorem nf6 : NameOK F6 := nf5.say _
theorem xf6 : ExtOK Tryz.prog F6 := xf5.sayL LF6_ok
theorem F6sy : F6.sy = true := rfl
noncomputable def Z6 (l : List Nat) : Sy := (Z5 []).on LF6 l
theorem Z6_ok (l : List Nat) : (Z6 l).ok F6 := Sy.on_ok (Z5_ok _)
end Go.Proofs.YtlbonihgofbanaaGreatDoor

/-
  LOOPS, told by their heads.
-/
set_option maxRecDepth 100000
namespace Go.Proofs.YtlbonihgofbanaaGreatDoor
open Go Go.Eng
/-! ### The examples -/
noncomputable def S0 : tSt.den := ((false, [([115, 112, 101, 114, 109], ((400 : Int), (420 : Int), ()), (60 : Int), ()), ([114, 97, 112, 101], ((100 : Int), (100 : Int), ()), (40 : Int), ())]), ((20 : Int), (30 : Int), ()), ((50 : Int), (120 : Int), ()), ())
noncomputable def N0 : tNi.den := (((0 : Int), (0 : Int), ()), (0 : Int), (8 : Int), (1 : Int), ())
noncomputable def rA : tRe.den := (((0 : Int), (10000 : Int), ()), false, true, ())
noncomputable def rB : tRe.den := (((13000 : Int), (0 : Int), ()), false, false, ())
noncomputable def rC : tRe.den := (((0 : Int), (10000 : Int), ()), false, false, ())
theorem sqAB0 : wr IntKind.i64 (([rA, rB].getD (Int.toNat 0) tRe.dflt).fst.fst - N0.fst.fst) * wr IntKind.i64 (([rA, rB].getD (Int.toNat 0) tRe.dflt).fst.fst - N0.fst.fst) + wr IntKind.i64 (([rA, rB].getD (Int.toNat 0) tRe.dflt).fst.snd.fst - N0.fst.snd.fst) * wr IntKind.i64 (([rA, rB].getD (Int.toNat 0) tRe.dflt).fst.snd.fst - N0.fst.snd.fst) = 100000000 := by decide +kernel
theorem sqAB1 : wr IntKind.i64 (([rA, rB].getD (wr IntKind.i64 (0 + 1)).toNat tRe.dflt).fst.fst - N0.fst.fst) * wr IntKind.i64 (([rA, rB].getD (wr IntKind.i64 (0 + 1)).toNat tRe.dflt).fst.fst - N0.fst.fst) + wr IntKind.i64 (([rA, rB].getD (wr IntKind.i64 (0 + 1)).toNat tRe.dflt).fst.snd.fst - N0.fst.snd.fst) * wr IntKind.i64 (([rA, rB].getD (wr IntKind.i64 (0 + 1)).toNat tRe.dflt).fst.snd.fst - N0.fst.snd.fst) = 169000000 := by decide +kernel
theorem sqA0 : wr IntKind.i64 (([rA].getD (Int.toNat 0) tRe.dflt).fst.fst - N0.fst.fst) * wr IntKind.i64 (([rA].getD (Int.toNat 0) tRe.dflt).fst.fst - N0.fst.fst) + wr IntKind.i64 (([rA].getD (Int.toNat 0) tRe.dflt).fst.snd.fst - N0.fst.snd.fst) * wr IntKind.i64 (([rA].getD (Int.toNat 0) tRe.dflt).fst.snd.fst - N0.fst.snd.fst) = 100000000 := by decide +kernel
theorem sqBC0 : wr IntKind.i64 (([rB, rC].getD (Int.toNat 0) tRe.dflt).fst.fst - N0.fst.fst) * wr IntKind.i64 (([rB, rC].getD (Int.toNat 0) tRe.dflt).fst.fst - N0.fst.fst) + wr IntKind.i64 (([rB, rC].getD (Int.toNat 0) tRe.dflt).fst.snd.fst - N0.fst.snd.fst) * wr IntKind.i64 (([rB, rC].getD (Int.toNat 0) tRe.dflt).fst.snd.fst - N0.fst.snd.fst) = 169000000 := by decide +kernel
theorem sqBC1 : wr IntKind.i64 (([rB, rC].getD (wr IntKind.i64 (0 + 1)).toNat tRe.dflt).fst.fst - N0.fst.fst) * wr IntKind.i64 (([rB, rC].getD (wr IntKind.i64 (0 + 1)).toNat tRe.dflt).fst.fst - N0.fst.fst) + wr IntKind.i64 (([rB, rC].getD (wr IntKind.i64 (0 + 1)).toNat tRe.dflt).fst.snd.fst - N0.fst.snd.fst) * wr IntKind.i64 (([rB, rC].getD (wr IntKind.i64 (0 + 1)).toNat tRe.dflt).fst.snd.fst - N0.fst.snd.fst) = 100000000 := by decide +kernel
theorem lc_in {i k : Nat} {q : Int} (hi : i ≤ 20) (hk : k ≤ 70) (h1 : 0 ≤ q) (h2 : q ≤ 7200000000) : lcB (400 + (i : Int)) (50 + (k : Int)) q = true := lcB_iff.2 ⟨⟨by omega, by omega⟩, ⟨by omega, by omega⟩, h1, h2⟩
end Go.Proofs.YtlbonihgofbanaaGreatDoor

/-
  LOOPS, told by their heads.
-/
set_option maxRecDepth 100000
namespace Go.Proofs.YtlbonihgofbanaaGreatDoor
open Go Go.Eng
theorem newl_start (a b : Int) : adv F6 (Z6 []) 3000 (startC F6 32 [.int .i64 a, .int .i64 b] 6) = some (.done (.agg [(.int .i64 (a)), (.int .i64 (b))])) := by kernel_rfl
theorem numb_start (l : tP.den) : adv F6 (Z6 []) 3000 (startC F6 168 [tP.av l] 6) = some (.done (.tup [(.int .i64 (l.fst)), (.int .i64 (l.snd.fst))])) := by kernel_rfl
/-! ### What is said of the examples' calls -/
theorem newl_call (a b : tI.den) : AnsF F6 32 [tI.av a, tI.av b] (.agg [.int .i64 a, .int .i64 b]) :=
  Ans.call (n := 6) (ext_none (by kernel_rfl)) (hasB_spec (by kernel_rfl)) (.done (Z6_ok _) F6sy (newl_start a b) rfl)
theorem numb_call (l : tP.den) : AnsF F6 168 [tP.av l] (.tup [.int .i64 l.1, .int .i64 l.2.1]) :=
  Ans.call (n := 6) (ext_none (by kernel_rfl)) (hasB_spec (by kernel_rfl)) (.done (Z6_ok _) F6sy (numb_start l) rfl)
noncomputable def eqS (s : tSt.den) (n : tNi.den) : Bool := avbeq (tSt.av s) (tSt.av S0) && avbeq (tNi.av n) (tNi.av N0)
noncomputable def eqR (l : (Ty.sl tRe).den) (b : Bool) (m : List tRe.den) : Bool := avbeq (.vs tRe l.1 l.2) (.vs tRe b m)
noncomputable def con5 (t u w s q : Ty) (c : t.den → u.den → w.den → s.den → q.den → Bool) (v : AV) (args : List AV) : Option (Bool × AV) :=
  match args with
  | [a1, a2, a3, a4, a5] => match rdA t a1, rdA u a2, rdA w a3, rdA s a4, rdA q a5 with
    | some (c1, x), some (c2, y), some (c3, z), some (c4, p), some (c5, o) => some (c1 && c2 && c3 && c4 && c5 && c x y z p o, v)
    | _, _, _, _, _ => none
  | _ => none
noncomputable def LZ : List Said := [(32, con2 tI tI (fun _ _ => true) (fun a b => .agg [.int .i64 a, .int .i64 b])), (168, con1 tP (fun _ => true) (fun l => .tup [.int .i64 l.1, .int .i64 l.2.1])),
  (13, con3 tSt tNi (.sl tRe) (fun s n l => eqS s n && eqR l false [rA, rB]) (fun _ _ _ => .tup [.agg [.int .i64 400, .int .i64 420], .agg [.int .i64 50, .int .i64 65], .int .i64 0])),
  (15, con5 tSt tNi (.sl tRe) tP .bool (fun s n l p h => eqS s n && eqR l false [rA] && avbeq (tP.av p) (.agg [.int .i64 0, .int .i64 12000]) && avbeq (.bool h) (.bool false)) (.tup [.int .i64 1, .int .i64 0])),
  (46, con3 tSt tNi (.sl tRe) (fun s n l => eqS s n && eqR l true []) (fun _ _ _ => .tup [.int .i64 10000, .int .i64 14491, .int .i64 0])),
  (48, con3 tSt tNi (.sl tRe) (fun s n l => eqS s n && eqR l false [rB, rC]) (fun _ _ _ => .tup [.csl [.int .i64 1] 1, .int .i64 0])),
  (47, con4 tSt tNi (.sl tRe) tI (fun s n l q => eqS s n && eqR l true [] && (ieq q 7000 || ieq q 10001)) (fun _ _ _ q => .tup [.int .i64 (bif ieq q 7000 then 1 else 0), .int .i64 (bif ieq q 7000 then 0 else 9)]))]
noncomputable def F9 : Env := F6.say (under (xOf LZ))
/-- The tables, with these said ahead. -/
noncomputable def EA : Env := { T0.env with ext := F9.ext, frz := fun f => elemN f [13, 15, 46, 47, 48] }
theorem eA : EnvOK Tryz.prog EA := by
  have h := tabs_ok.env
  refine ⟨fun t k ht => ?_, h.zero, h.fn, h.eqok, h.meth⟩
  obtain ⟨h1, h2⟩ := h.ty t k ht
  refine ⟨h1, ?_⟩
  cases k <;> exact h2
theorem nA : NameOK EA := tabs_ok.name
end Go.Proofs.YtlbonihgofbanaaGreatDoor

/-
  LOOPS, told by their heads.
-/
set_option maxRecDepth 100000
namespace Go.Proofs.YtlbonihgofbanaaGreatDoor
open Go Go.Eng
/-! ### The level of the laws -/
noncomputable def LW : List Said := [(17, say0 (.bool true))]
noncomputable def F10 : Env := F9.say (under (xOf LW))
theorem F10sy : F10.sy = true := rfl
noncomputable def Z9 (l : List Nat) : Sy := (Z6 []).on LZ l
theorem Z9_ok (l : List Nat) : (Z9 l).ok F9 := Sy.on_ok (E := F6) (L := LZ) (hd := l) (Z6_ok _)
noncomputable def Z10 (l : List Nat) : Sy := (Z9 []).on LW l
theorem Z10_ok (l : List Nat) : (Z10 l).ok F10 := Sy.on_ok (E := F9) (L := LW) (hd := l) (Z9_ok _)
abbrev tX3 : Ty := .cons (.int .u16) (.cons (.int .u16) (.cons (.int .u16) .nil))
abbrev tX4 : Ty := .cons tI (.cons tI (.cons tI (.cons tI .nil)))
abbrev tX6 : Ty := .cons (.int .u16) (.cons (.int .u16) (.cons (.int .u16) (.cons (.int .u16) (.cons (.int .u16) (.cons (.int .u16) .nil)))))
abbrev tV2 : Ty := .cons (.int .i16) (.cons (.int .i16) .nil)
end Go.Proofs.YtlbonihgofbanaaGreatDoor

/-
  LOOPS, told by their heads.
-/
set_option maxRecDepth 100000
namespace Go.Proofs.YtlbonihgofbanaaGreatDoor
open Go Go.Eng
/-! ### A level where the light is known to be seen at 10000, and is not looked into -/
theorem snW : ∃ f : Int → Int → Int → Bool, ∀ a b s, f a b s = seenF a b s := ⟨seenF, fun _ _ _ => rfl⟩
noncomputable def snO : Int → Int → Int → Bool := Classical.choose snW
theorem snO_eq (a b s : Int) : snO a b s = seenF a b s := Classical.choose_spec snW a b s
theorem lcW : ∃ f : Int → Int → Int → Bool, ∀ a b s, f a b s = lcB a b s := ⟨lcB, fun _ _ _ => rfl⟩
noncomputable def lcO : Int → Int → Int → Bool := Classical.choose lcW
theorem lcO_eq (a b s : Int) : lcO a b s = lcB a b s := Classical.choose_spec lcW a b s
noncomputable def LX : List Said := [(33, con2 tP tP (fun l s => bif ieq s.1 100000000 then lcO l.1 l.2.1 s.1 && snO l.1 l.2.1 s.1 else lcO l.1 l.2.1 s.1) (fun l s => bif ieq s.1 100000000 then .bool true else .bool (snO l.1 l.2.1 s.1)))]
theorem LX_ok : ∀ e ∈ LX, SaidG Tryz.prog F2.glob e :=
  saids_cons (SaidOK.g f2 xf2 nf2 tabs_ok.mix (fun _ _ h => con2_spec (t := tP) (u := tP) (fun l s hc => by
    dsimp only at hc ⊢
    cases e : ieq s.1 100000000 with
    | true =>
      rw [e, cond_true, Bool.and_eq_true, lcO_eq, snO_eq] at hc
      rw [cond_true]
      have := lrea_call l s hc.1
      rw [hc.2] at this
      exact this
    | false =>
      rw [e, cond_false, lcO_eq] at hc
      rw [cond_false, snO_eq]
      exact lrea_call l s hc) h) rfl) saids_nil
noncomputable def F7 : Env := F6.say (under (xOf LX))
theorem f7 : EnvOK Tryz.prog F7 := f6.say _
theorem nf7 : NameOK F7 := nf6.say _
theorem xf7 : ExtOK Tryz.prog F7 := xf6.sayL LX_ok
theorem F7sy : F7.sy = true := rfl
noncomputable def Z7 (l : List Nat) : Sy := { (Z6 []).on LX l with pl := false }
theorem Z7_ok (l : List Nat) : (Z7 l).ok F7 := Sy.on_ok (E := F6) (L := LX) (hd := l) (Z6_ok _)
theorem sn_all : ((List.range 21).all fun i => (List.range 71).all fun k => seenF (400 + (i : Int)) (50 + (k : Int)) 100000000) = true := by kernel_rfl
theorem sn_in {i k : Nat} (hi : i ≤ 20) (hk : k ≤ 70) : seenF (400 + (i : Int)) (50 + (k : Int)) 100000000 = true :=
  List.all_eq_true.1 (List.all_eq_true.1 sn_all i (List.mem_range.2 (by omega))) k (List.mem_range.2 (by omega))
end Go.Proofs.YtlbonihgofbanaaGreatDoor

/-
  LOOPS, told by their heads.
-/
set_option maxRecDepth 100000
namespace Go.Proofs.YtlbonihgofbanaaGreatDoor
open Go Go.Eng
noncomputable def fclrI0 (u : Unit) (x3 : Int) (x55 : Int) (x56 : Int) (x57 : Bool) (x58 : Int) (x59 : Int) (x60 : Bool) (x105 : Nat) : Cfg := ⟨.ex (pcOf F7 114 [0, 0, 1]) ⟨(tmOf 33 [(0, (.yld 19)), (1, (.ptr 16 0)), (2, (.ptr 17 0)), (3, (.ptr 18 0)), (7, (.agg [(.int .i64 (400)), (.int .i64 (420))])), (8, (.int .i64 (21))), (9, (.int .i64 x3))]), (hpOf 21 [(0, (.cells false [(.vs tGr (false) (S0.fst.snd)), (.int .i64 (20)), (.int .i64 (30)), (.int .i64 (50)), (.int .i64 (120))])), (1, (.cells false [(.int .i64 (0)), (.int .i64 (0)), (.int .i64 (0)), (.int .i64 (8)), (.int .i64 (1))])), (2, (.cells false [(.int .i64 (0)), (.int .i64 (0))])), (3, (.cells false [(.int .i64 (0)), (.int .i64 (0))])), (4, (.cells false [(.vs tGr (false) (S0.fst.snd)), (.int .i64 (20)), (.int .i64 (30)), (.int .i64 (50)), (.int .i64 (120))])), (5, (.cells false [(.int .i64 (0)), (.int .i64 (0)), (.int .i64 (0)), (.int .i64 (8)), (.int .i64 (1))])), (6, (.cells false [(.vs tGr (false) (S0.fst.snd)), (.int .i64 (20)), (.int .i64 (30)), (.int .i64 (50)), (.int .i64 (120))])), (7, (.cells false [(.int .i64 (0)), (.int .i64 (0)), (.int .i64 (0)), (.int .i64 (8)), (.int .i64 (1))])), (8, (.cells false [(.vs tGr (false) (S0.fst.snd)), (.int .i64 (20)), (.int .i64 (30)), (.int .i64 (50)), (.int .i64 (120)), (.int .i64 (0)), (.int .i64 (0)), (.int .i64 (0)), (.int .i64 (8)), (.int .i64 (1)), (.sl 9 0 (2) (2) 6)])), (9, (.cells false ([AV.int IntKind.i64 ([rA, rB].getD (Int.toNat 0) tRe.dflt).fst.fst, AV.int IntKind.i64 ([rA, rB].getD (Int.toNat 0) tRe.dflt).fst.snd.fst, AV.bool false, AV.bool true, AV.int IntKind.i64 100000000, AV.int IntKind.i64 (ptF (wr IntKind.i64 (([rA, rB].getD (Int.toNat 0) tRe.dflt).fst.fst - N0.fst.fst)) (wr IntKind.i64 (([rA, rB].getD (Int.toNat 0) tRe.dflt).fst.snd.fst - N0.fst.snd.fst))), AV.int IntKind.i64 ([rA, rB].getD (wr IntKind.i64 (0 + 1)).toNat tRe.dflt).fst.fst, AV.int IntKind.i64 ([rA, rB].getD (wr IntKind.i64 (0 + 1)).toNat tRe.dflt).fst.snd.fst, AV.bool false, AV.bool false, AV.int IntKind.i64 169000000, AV.int IntKind.i64 (ptF (wr IntKind.i64 (([rA, rB].getD (wr IntKind.i64 (0 + 1)).toNat tRe.dflt).fst.fst - N0.fst.fst)) (wr IntKind.i64 (([rA, rB].getD (wr IntKind.i64 (0 + 1)).toNat tRe.dflt).fst.snd.fst - N0.fst.snd.fst)))]))), (10, (.cells false [(.int .i64 x55), (.int .i64 x56), (.bool x57)])), (11, (.cells false [(.int .i64 x58), (.int .i64 x59), (.bool x60)])), (12, (.cells false [(.ptr 8 0)])), (13, (.cells false [(.bool (false))])), (15, (.cells false [(.yld 14)])), (16, (.cells false [(.int .i64 (400)), (.int .i64 (420))])), (17, (.cells false [(.int .i64 (50)), (.int .i64 (120))])), (18, (.cells false [(.fn 32 [] [])])), (20, (.cells false [(.int .i64 (400)), (.int .i64 (420))]))]), [], [⟨false, .normal⟩, ⟨false, .normal⟩], 33, false⟩, ⟨38, [⟨19, 24, 39, (tmOf 24 [(0, (.yld 14)), (1, (.ptr 12 0)), (2, (.ptr 13 0)), (3, (.ptr 15 0)), (7, (.ptr 8 0)), (8, (.bool (false))), (9, (.fn 114 [] [(.ptr 16 0), (.ptr 17 0), (.ptr 18 0)]))]), #[10], (pcOf F7 63 [0, 0, 1, 1, 0, 1]), (pcOf F7 63 [1, 0, 1, 1, 0, 1])⟩, ⟨14, 44, 40, (tmOf 44 [(0, (.agg [(.vs tGr (false) (S0.fst.snd)), (.int .i64 (20)), (.int .i64 (30)), (.int .i64 (50)), (.int .i64 (120))])), (1, (.agg [(.int .i64 (0)), (.int .i64 (0)), (.int .i64 (0)), (.int .i64 (8)), (.int .i64 (1))])), (2, (.vs tRe (false) ([rA, rB]))), (3, (.ptr 0 0)), (4, (.ptr 1 0)), (6, (.ptr 2 0)), (7, (.ptr 3 0)), (8, (.int .i64 (0))), (9, (.ptr 8 0)), (10, (.ptr 10 0)), (11, (.ptr 11 0)), (15, (.tup [(.ptr 8 0), (.int .i64 (0))])), (16, (.agg [(.vs tGr (false) (S0.fst.snd)), (.int .i64 (20)), (.int .i64 (30)), (.int .i64 (50)), (.int .i64 (120))])), (17, (.agg [(.int .i64 (0)), (.int .i64 (0)), (.int .i64 (0)), (.int .i64 (8)), (.int .i64 (1))])), (18, (.vs tRe (false) ([rA, rB]))), (19, (.tup [(.ptr 8 0), (.int .i64 (0))])), (20, (.ptr 8 0)), (21, (.int .i64 (0))), (22, (.int .i64 (0))), (23, (.bool (false))), (27, (.ptr 8 0)), (28, (.fn 63 [] [(.ptr 12 0), (.ptr 13 0)]))]), #[29], (pcOf F7 13 [0, 0, 1, 0, 1, 1, 1, 1]), (pcOf F7 13 [1, 0, 1, 0, 1, 1, 1, 1])⟩]⟩, [(.lop (pcOf F7 114 [0, 0, 1]) 21 (tmOf 33 [(0, (.yld 19)), (1, (.ptr 16 0)), (2, (.ptr 17 0)), (3, (.ptr 18 0)), (7, (.agg [(.int .i64 (400)), (.int .i64 (420))])), (8, (.int .i64 (21))), (9, (.int .i64 (0)))]) x105), (.blk 0), (.cal [] (.rng (tmOf 24 [(0, (.yld 14)), (1, (.ptr 12 0)), (2, (.ptr 13 0)), (3, (.ptr 15 0)), (7, (.ptr 8 0)), (8, (.bool (false))), (9, (.fn 114 [] [(.ptr 16 0), (.ptr 17 0), (.ptr 18 0)]))]) [] 24 false ⟨39, [⟨14, 44, 40, (tmOf 44 [(0, (.agg [(.vs tGr (false) (S0.fst.snd)), (.int .i64 (20)), (.int .i64 (30)), (.int .i64 (50)), (.int .i64 (120))])), (1, (.agg [(.int .i64 (0)), (.int .i64 (0)), (.int .i64 (0)), (.int .i64 (8)), (.int .i64 (1))])), (2, (.vs tRe (false) ([rA, rB]))), (3, (.ptr 0 0)), (4, (.ptr 1 0)), (6, (.ptr 2 0)), (7, (.ptr 3 0)), (8, (.int .i64 (0))), (9, (.ptr 8 0)), (10, (.ptr 10 0)), (11, (.ptr 11 0)), (15, (.tup [(.ptr 8 0), (.int .i64 (0))])), (16, (.agg [(.vs tGr (false) (S0.fst.snd)), (.int .i64 (20)), (.int .i64 (30)), (.int .i64 (50)), (.int .i64 (120))])), (17, (.agg [(.int .i64 (0)), (.int .i64 (0)), (.int .i64 (0)), (.int .i64 (8)), (.int .i64 (1))])), (18, (.vs tRe (false) ([rA, rB]))), (19, (.tup [(.ptr 8 0), (.int .i64 (0))])), (20, (.ptr 8 0)), (21, (.int .i64 (0))), (22, (.int .i64 (0))), (23, (.bool (false))), (27, (.ptr 8 0)), (28, (.fn 63 [] [(.ptr 12 0), (.ptr 13 0)]))]), #[29], (pcOf F7 13 [0, 0, 1, 0, 1, 1, 1, 1]), (pcOf F7 13 [1, 0, 1, 0, 1, 1, 1, 1])⟩]⟩)), (.blk 0), (.cal [] (.rng (tmOf 44 [(0, (.agg [(.vs tGr (false) (S0.fst.snd)), (.int .i64 (20)), (.int .i64 (30)), (.int .i64 (50)), (.int .i64 (120))])), (1, (.agg [(.int .i64 (0)), (.int .i64 (0)), (.int .i64 (0)), (.int .i64 (8)), (.int .i64 (1))])), (2, (.vs tRe (false) ([rA, rB]))), (3, (.ptr 0 0)), (4, (.ptr 1 0)), (6, (.ptr 2 0)), (7, (.ptr 3 0)), (8, (.int .i64 (0))), (9, (.ptr 8 0)), (10, (.ptr 10 0)), (11, (.ptr 11 0)), (15, (.tup [(.ptr 8 0), (.int .i64 (0))])), (16, (.agg [(.vs tGr (false) (S0.fst.snd)), (.int .i64 (20)), (.int .i64 (30)), (.int .i64 (50)), (.int .i64 (120))])), (17, (.agg [(.int .i64 (0)), (.int .i64 (0)), (.int .i64 (0)), (.int .i64 (8)), (.int .i64 (1))])), (18, (.vs tRe (false) ([rA, rB]))), (19, (.tup [(.ptr 8 0), (.int .i64 (0))])), (20, (.ptr 8 0)), (21, (.int .i64 (0))), (22, (.int .i64 (0))), (23, (.bool (false))), (27, (.ptr 8 0)), (28, (.fn 63 [] [(.ptr 12 0), (.ptr 13 0)]))]) [] 44 false ⟨40, []⟩)), (.blk 0), (.seq (pcOf F7 13 [1, 1, 1, 1, 1])), (.cal [(.cell 6 24), (.cell 7 24), (.tmp 8)] .top)]⟩
noncomputable def fclrI1 (u : Unit) (x0 : Int) (x10 : Int) (x62 : Int) (x63 : Int) (x64 : Bool) (x65 : Int) (x66 : Int) (x67 : Bool) (x121 : Nat) (x126 : Nat) : Cfg := ⟨.ex (pcOf F7 114 [0, 0, 1, 1, 0, 0, 1, 1, 0, 0, 1]) ⟨(tmOf 33 [(0, (.yld 19)), (1, (.ptr 16 0)), (2, (.ptr 17 0)), (3, (.ptr 18 0)), (5, (.int .i64 x0)), (7, (.agg [(.int .i64 (400)), (.int .i64 (420))])), (8, (.int .i64 (21))), (9, (.int .i64 x0)), (10, (.bool (true))), (11, (.int .i64 x0)), (12, (.agg [(.int .i64 (50)), (.int .i64 (120))])), (13, (.int .i64 (71))), (14, (.int .i64 x10))]), (hpOf 22 [(0, (.cells false [(.vs tGr (false) (S0.fst.snd)), (.int .i64 (20)), (.int .i64 (30)), (.int .i64 (50)), (.int .i64 (120))])), (1, (.cells false [(.int .i64 (0)), (.int .i64 (0)), (.int .i64 (0)), (.int .i64 (8)), (.int .i64 (1))])), (2, (.cells false [(.int .i64 (0)), (.int .i64 (0))])), (3, (.cells false [(.int .i64 (0)), (.int .i64 (0))])), (4, (.cells false [(.vs tGr (false) (S0.fst.snd)), (.int .i64 (20)), (.int .i64 (30)), (.int .i64 (50)), (.int .i64 (120))])), (5, (.cells false [(.int .i64 (0)), (.int .i64 (0)), (.int .i64 (0)), (.int .i64 (8)), (.int .i64 (1))])), (6, (.cells false [(.vs tGr (false) (S0.fst.snd)), (.int .i64 (20)), (.int .i64 (30)), (.int .i64 (50)), (.int .i64 (120))])), (7, (.cells false [(.int .i64 (0)), (.int .i64 (0)), (.int .i64 (0)), (.int .i64 (8)), (.int .i64 (1))])), (8, (.cells false [(.vs tGr (false) (S0.fst.snd)), (.int .i64 (20)), (.int .i64 (30)), (.int .i64 (50)), (.int .i64 (120)), (.int .i64 (0)), (.int .i64 (0)), (.int .i64 (0)), (.int .i64 (8)), (.int .i64 (1)), (.sl 9 0 (2) (2) 6)])), (9, (.cells false ([AV.int IntKind.i64 ([rA, rB].getD (Int.toNat 0) tRe.dflt).fst.fst, AV.int IntKind.i64 ([rA, rB].getD (Int.toNat 0) tRe.dflt).fst.snd.fst, AV.bool false, AV.bool true, AV.int IntKind.i64 100000000, AV.int IntKind.i64 (ptF (wr IntKind.i64 (([rA, rB].getD (Int.toNat 0) tRe.dflt).fst.fst - N0.fst.fst)) (wr IntKind.i64 (([rA, rB].getD (Int.toNat 0) tRe.dflt).fst.snd.fst - N0.fst.snd.fst))), AV.int IntKind.i64 ([rA, rB].getD (wr IntKind.i64 (0 + 1)).toNat tRe.dflt).fst.fst, AV.int IntKind.i64 ([rA, rB].getD (wr IntKind.i64 (0 + 1)).toNat tRe.dflt).fst.snd.fst, AV.bool false, AV.bool false, AV.int IntKind.i64 169000000, AV.int IntKind.i64 (ptF (wr IntKind.i64 (([rA, rB].getD (wr IntKind.i64 (0 + 1)).toNat tRe.dflt).fst.fst - N0.fst.fst)) (wr IntKind.i64 (([rA, rB].getD (wr IntKind.i64 (0 + 1)).toNat tRe.dflt).fst.snd.fst - N0.fst.snd.fst)))]))), (10, (.cells false [(.int .i64 x62), (.int .i64 x63), (.bool x64)])), (11, (.cells false [(.int .i64 x65), (.int .i64 x66), (.bool x67)])), (12, (.cells false [(.ptr 8 0)])), (13, (.cells false [(.bool (false))])), (15, (.cells false [(.yld 14)])), (16, (.cells false [(.int .i64 (400)), (.int .i64 (420))])), (17, (.cells false [(.int .i64 (50)), (.int .i64 (120))])), (18, (.cells false [(.fn 32 [] [])])), (20, (.cells false [(.int .i64 (400)), (.int .i64 (420))])), (21, (.cells false [(.int .i64 (50)), (.int .i64 (120))]))]), [], [⟨false, .normal⟩, ⟨false, .normal⟩], 33, false⟩, ⟨38, [⟨19, 24, 39, (tmOf 24 [(0, (.yld 14)), (1, (.ptr 12 0)), (2, (.ptr 13 0)), (3, (.ptr 15 0)), (7, (.ptr 8 0)), (8, (.bool (false))), (9, (.fn 114 [] [(.ptr 16 0), (.ptr 17 0), (.ptr 18 0)]))]), #[10], (pcOf F7 63 [0, 0, 1, 1, 0, 1]), (pcOf F7 63 [1, 0, 1, 1, 0, 1])⟩, ⟨14, 44, 40, (tmOf 44 [(0, (.agg [(.vs tGr (false) (S0.fst.snd)), (.int .i64 (20)), (.int .i64 (30)), (.int .i64 (50)), (.int .i64 (120))])), (1, (.agg [(.int .i64 (0)), (.int .i64 (0)), (.int .i64 (0)), (.int .i64 (8)), (.int .i64 (1))])), (2, (.vs tRe (false) ([rA, rB]))), (3, (.ptr 0 0)), (4, (.ptr 1 0)), (6, (.ptr 2 0)), (7, (.ptr 3 0)), (8, (.int .i64 (0))), (9, (.ptr 8 0)), (10, (.ptr 10 0)), (11, (.ptr 11 0)), (15, (.tup [(.ptr 8 0), (.int .i64 (0))])), (16, (.agg [(.vs tGr (false) (S0.fst.snd)), (.int .i64 (20)), (.int .i64 (30)), (.int .i64 (50)), (.int .i64 (120))])), (17, (.agg [(.int .i64 (0)), (.int .i64 (0)), (.int .i64 (0)), (.int .i64 (8)), (.int .i64 (1))])), (18, (.vs tRe (false) ([rA, rB]))), (19, (.tup [(.ptr 8 0), (.int .i64 (0))])), (20, (.ptr 8 0)), (21, (.int .i64 (0))), (22, (.int .i64 (0))), (23, (.bool (false))), (27, (.ptr 8 0)), (28, (.fn 63 [] [(.ptr 12 0), (.ptr 13 0)]))]), #[29], (pcOf F7 13 [0, 0, 1, 0, 1, 1, 1, 1]), (pcOf F7 13 [1, 0, 1, 0, 1, 1, 1, 1])⟩]⟩, [(.lop (pcOf F7 114 [0, 0, 1, 1, 0, 0, 1, 1, 0, 0, 1]) 22 (tmOf 33 [(0, (.yld 19)), (1, (.ptr 16 0)), (2, (.ptr 17 0)), (3, (.ptr 18 0)), (5, (.int .i64 x0)), (7, (.agg [(.int .i64 (400)), (.int .i64 (420))])), (8, (.int .i64 (21))), (9, (.int .i64 x0)), (10, (.bool (true))), (11, (.int .i64 x0)), (12, (.agg [(.int .i64 (50)), (.int .i64 (120))])), (13, (.int .i64 (71))), (14, (.int .i64 (0)))]) x121), (.blk 2), (.blk 1), (.seq (pcOf F7 114 [1, 1, 1, 0, 0, 1])), (.lop (pcOf F7 114 [0, 0, 1]) 21 (tmOf 33 [(0, (.yld 19)), (1, (.ptr 16 0)), (2, (.ptr 17 0)), (3, (.ptr 18 0)), (7, (.agg [(.int .i64 (400)), (.int .i64 (420))])), (8, (.int .i64 (21))), (9, (.int .i64 (0)))]) x126), (.blk 0), (.cal [] (.rng (tmOf 24 [(0, (.yld 14)), (1, (.ptr 12 0)), (2, (.ptr 13 0)), (3, (.ptr 15 0)), (7, (.ptr 8 0)), (8, (.bool (false))), (9, (.fn 114 [] [(.ptr 16 0), (.ptr 17 0), (.ptr 18 0)]))]) [] 24 false ⟨39, [⟨14, 44, 40, (tmOf 44 [(0, (.agg [(.vs tGr (false) (S0.fst.snd)), (.int .i64 (20)), (.int .i64 (30)), (.int .i64 (50)), (.int .i64 (120))])), (1, (.agg [(.int .i64 (0)), (.int .i64 (0)), (.int .i64 (0)), (.int .i64 (8)), (.int .i64 (1))])), (2, (.vs tRe (false) ([rA, rB]))), (3, (.ptr 0 0)), (4, (.ptr 1 0)), (6, (.ptr 2 0)), (7, (.ptr 3 0)), (8, (.int .i64 (0))), (9, (.ptr 8 0)), (10, (.ptr 10 0)), (11, (.ptr 11 0)), (15, (.tup [(.ptr 8 0), (.int .i64 (0))])), (16, (.agg [(.vs tGr (false) (S0.fst.snd)), (.int .i64 (20)), (.int .i64 (30)), (.int .i64 (50)), (.int .i64 (120))])), (17, (.agg [(.int .i64 (0)), (.int .i64 (0)), (.int .i64 (0)), (.int .i64 (8)), (.int .i64 (1))])), (18, (.vs tRe (false) ([rA, rB]))), (19, (.tup [(.ptr 8 0), (.int .i64 (0))])), (20, (.ptr 8 0)), (21, (.int .i64 (0))), (22, (.int .i64 (0))), (23, (.bool (false))), (27, (.ptr 8 0)), (28, (.fn 63 [] [(.ptr 12 0), (.ptr 13 0)]))]), #[29], (pcOf F7 13 [0, 0, 1, 0, 1, 1, 1, 1]), (pcOf F7 13 [1, 0, 1, 0, 1, 1, 1, 1])⟩]⟩)), (.blk 0), (.cal [] (.rng (tmOf 44 [(0, (.agg [(.vs tGr (false) (S0.fst.snd)), (.int .i64 (20)), (.int .i64 (30)), (.int .i64 (50)), (.int .i64 (120))])), (1, (.agg [(.int .i64 (0)), (.int .i64 (0)), (.int .i64 (0)), (.int .i64 (8)), (.int .i64 (1))])), (2, (.vs tRe (false) ([rA, rB]))), (3, (.ptr 0 0)), (4, (.ptr 1 0)), (6, (.ptr 2 0)), (7, (.ptr 3 0)), (8, (.int .i64 (0))), (9, (.ptr 8 0)), (10, (.ptr 10 0)), (11, (.ptr 11 0)), (15, (.tup [(.ptr 8 0), (.int .i64 (0))])), (16, (.agg [(.vs tGr (false) (S0.fst.snd)), (.int .i64 (20)), (.int .i64 (30)), (.int .i64 (50)), (.int .i64 (120))])), (17, (.agg [(.int .i64 (0)), (.int .i64 (0)), (.int .i64 (0)), (.int .i64 (8)), (.int .i64 (1))])), (18, (.vs tRe (false) ([rA, rB]))), (19, (.tup [(.ptr 8 0), (.int .i64 (0))])), (20, (.ptr 8 0)), (21, (.int .i64 (0))), (22, (.int .i64 (0))), (23, (.bool (false))), (27, (.ptr 8 0)), (28, (.fn 63 [] [(.ptr 12 0), (.ptr 13 0)]))]) [] 44 false ⟨40, []⟩)), (.blk 0), (.seq (pcOf F7 13 [1, 1, 1, 1, 1])), (.cal [(.cell 6 24), (.cell 7 24), (.tmp 8)] .top)]⟩
theorem fclr_start (u : Unit) : adv F7 (Z7 [114]) 3000 (startC F7 13 [tSt.av S0, tNi.av N0, .vs tRe false [rA, rB]] 40) = some (.stop (fclrI0 u (0) (0) (0) (false) (0) (0) (false) (1048575))) := by kernel_rfl
theorem fclr_step0 (u : Unit) (x3 : Int) (x55 : Int) (x56 : Int) (x57 : Bool) (x58 : Int) (x59 : Int) (x60 : Bool) (x105 : Nat) : adv F7 (Z7 [114]) 3000 (fclrI0 u x3 x55 x56 x57 x58 x59 x60 (x105 + 1)) = (bif !ile 21 x3 then some (.stop (fclrI1 u (x3) (0) (x55) (x56) (x57) (x58) (x59) (x60) (1048575) (x105 + 1))) else (bif x57 then (bif ieq x58 x58 then (bif ieq x59 x59 then (bif ieq x58 x58 then (bif ieq x59 x59 then (bif ieq x58 x58 then (bif ieq x59 x59 then (bif ieq x55 x55 then (bif ieq x56 x56 then (bif ieq x55 x55 then (bif ieq x56 x56 then some (.done (.tup [(.agg [(.int .i64 (x55)), (.int .i64 (x56))]), (.agg [(.int .i64 (x58)), (.int .i64 (x59))]), (.int .i64 (0))])) else none) else none) else none) else none) else none) else none) else none) else none) else none) else none) else (bif ieq x58 x58 then (bif ieq x59 x59 then (bif ieq x58 x58 then (bif ieq x59 x59 then (bif ieq x58 x58 then (bif ieq x59 x59 then (bif ieq x55 x55 then (bif ieq x56 x56 then (bif ieq x55 x55 then (bif ieq x56 x56 then some (.done (.tup [(.agg [(.int .i64 (x55)), (.int .i64 (x56))]), (.agg [(.int .i64 (x58)), (.int .i64 (x59))]), (.int .i64 (9))])) else none) else none) else none) else none) else none) else none) else none) else none) else none) else none))) := by kernel_rfl
theorem fclr_step1 (u : Unit) (x0 : Int) (x10 : Int) (x62 : Int) (x63 : Int) (x64 : Bool) (x65 : Int) (x66 : Int) (x67 : Bool) (x121 : Nat) (x126 : Nat) : adv F7 (Z7 [114]) 3000 (fclrI1 u x0 x10 x62 x63 x64 x65 x66 x67 (x121 + 1) (x126 + 1)) = (bif !ile 71 x10 then (bif bif ieq 100000000 100000000 then lcO (wr IntKind.i64 (400 + x0)) (wr IntKind.i64 (50 + x10)) 100000000 && snO (wr IntKind.i64 (400 + x0)) (wr IntKind.i64 (50 + x10)) 100000000 else lcO (wr IntKind.i64 (400 + x0)) (wr IntKind.i64 (50 + x10)) 100000000 then (bif bif ieq 169000000 100000000 then lcO (wr IntKind.i64 (400 + x0)) (wr IntKind.i64 (50 + x10)) 169000000 && snO (wr IntKind.i64 (400 + x0)) (wr IntKind.i64 (50 + x10)) 169000000 else lcO (wr IntKind.i64 (400 + x0)) (wr IntKind.i64 (50 + x10)) 169000000 then (bif !false == snO (wr IntKind.i64 (400 + x0)) (wr IntKind.i64 (50 + x10)) 169000000 then some (.stop (fclrI1 u (x0) (wr IntKind.i64 (x10 + 1)) (x62) (x63) (x64) (x65) (x66) (x67) (x121) (x126 + 1))) else (bif !x64 then (bif ieq (wr IntKind.i64 (400 + x0)) (wr IntKind.i64 (400 + x0)) then (bif ieq (wr IntKind.i64 (400 + x0)) (wr IntKind.i64 (400 + x0)) then (bif !x67 then (bif ieq (wr IntKind.i64 (50 + x10)) (wr IntKind.i64 (50 + x10)) then (bif ieq (wr IntKind.i64 (50 + x10)) (wr IntKind.i64 (50 + x10)) then some (.stop (fclrI1 u (x0) (wr IntKind.i64 (x10 + 1)) (bif ile (wr IntKind.i64 (400 + x0)) (wr IntKind.i64 (400 + x0)) then wr IntKind.i64 (400 + x0) else wr IntKind.i64 (400 + x0)) (bif ile (wr IntKind.i64 (400 + x0)) (wr IntKind.i64 (400 + x0)) then wr IntKind.i64 (400 + x0) else wr IntKind.i64 (400 + x0)) (true) (bif ile (wr IntKind.i64 (50 + x10)) (wr IntKind.i64 (50 + x10)) then wr IntKind.i64 (50 + x10) else wr IntKind.i64 (50 + x10)) (bif ile (wr IntKind.i64 (50 + x10)) (wr IntKind.i64 (50 + x10)) then wr IntKind.i64 (50 + x10) else wr IntKind.i64 (50 + x10)) (true) (x121) (x126 + 1))) else none) else none) else (bif ieq x66 x66 then (bif ieq x65 x65 then some (.stop (fclrI1 u (x0) (wr IntKind.i64 (x10 + 1)) (bif ile (wr IntKind.i64 (400 + x0)) (wr IntKind.i64 (400 + x0)) then wr IntKind.i64 (400 + x0) else wr IntKind.i64 (400 + x0)) (bif ile (wr IntKind.i64 (400 + x0)) (wr IntKind.i64 (400 + x0)) then wr IntKind.i64 (400 + x0) else wr IntKind.i64 (400 + x0)) (true) (bif ile x65 (wr IntKind.i64 (50 + x10)) then x65 else wr IntKind.i64 (50 + x10)) (bif ile (wr IntKind.i64 (50 + x10)) x66 then x66 else wr IntKind.i64 (50 + x10)) (x67) (x121) (x126 + 1))) else none) else none)) else none) else none) else (bif ieq x63 x63 then (bif ieq x62 x62 then (bif !x67 then (bif ieq (wr IntKind.i64 (50 + x10)) (wr IntKind.i64 (50 + x10)) then (bif ieq (wr IntKind.i64 (50 + x10)) (wr IntKind.i64 (50 + x10)) then some (.stop (fclrI1 u (x0) (wr IntKind.i64 (x10 + 1)) (bif ile x62 (wr IntKind.i64 (400 + x0)) then x62 else wr IntKind.i64 (400 + x0)) (bif ile (wr IntKind.i64 (400 + x0)) x63 then x63 else wr IntKind.i64 (400 + x0)) (x64) (bif ile (wr IntKind.i64 (50 + x10)) (wr IntKind.i64 (50 + x10)) then wr IntKind.i64 (50 + x10) else wr IntKind.i64 (50 + x10)) (bif ile (wr IntKind.i64 (50 + x10)) (wr IntKind.i64 (50 + x10)) then wr IntKind.i64 (50 + x10) else wr IntKind.i64 (50 + x10)) (true) (x121) (x126 + 1))) else none) else none) else (bif ieq x66 x66 then (bif ieq x65 x65 then some (.stop (fclrI1 u (x0) (wr IntKind.i64 (x10 + 1)) (bif ile x62 (wr IntKind.i64 (400 + x0)) then x62 else wr IntKind.i64 (400 + x0)) (bif ile (wr IntKind.i64 (400 + x0)) x63 then x63 else wr IntKind.i64 (400 + x0)) (x64) (bif ile x65 (wr IntKind.i64 (50 + x10)) then x65 else wr IntKind.i64 (50 + x10)) (bif ile (wr IntKind.i64 (50 + x10)) x66 then x66 else wr IntKind.i64 (50 + x10)) (x67) (x121) (x126 + 1))) else none) else none)) else none) else none))) else none) else none) else some (.stop (fclrI0 u (wr IntKind.i64 (x0 + 1)) (x62) (x63) (x64) (x65) (x66) (x67) (x126)))) := by kernel_rfl
/-! ### Clear, of the examples -/
abbrev En6 := Int × Int × Bool × Int × Int × Bool
noncomputable def mtL (t : Int × Int × Bool) (n : Int) : Int := bif t.2.2 then (bif ile t.1 n then t.1 else n) else (bif ile n n then n else n)
noncomputable def mtH (t : Int × Int × Bool) (n : Int) : Int := bif t.2.2 then (bif ile n t.2.1 then t.2.1 else n) else (bif ile n n then n else n)
noncomputable def clrV (t : En6) : AV := .tup [.agg [.int .i64 t.1, .int .i64 t.2.1], .agg [.int .i64 t.2.2.2.1, .int .i64 t.2.2.2.2.1], .int .i64 (bif t.2.2.1 then 0 else 9)]
/-! ### fclr -/
noncomputable def fclrS (i k : Nat) (t : En6) : En6 := bif !seenF (400 + i) (50 + k) 169000000 then (mtL (t.1, t.2.1, t.2.2.1) (400 + i), mtH (t.1, t.2.1, t.2.2.1) (400 + i), true, mtL t.2.2.2 (50 + k), mtH t.2.2.2 (50 + k), true) else t
noncomputable def fclrR (i : Nat) : Nat → Nat → En6 → En6
  | 0, _, t => t
  | r + 1, k, t => fclrR i r (k + 1) (fclrS i k t)
noncomputable def fclrA : Nat → Nat → En6 → En6
  | 0, _, t => t
  | r + 1, i, t => fclrA r (i + 1) (fclrR i 71 0 t)
theorem fclr_in {v : AV} (i : Nat) (hi : i ≤ 20) (M : Nat) : ∀ (r k m : Nat) (t : En6), k + r = 71 → r < m → Ans F7 (fclrI0 () ((i + 1 : Nat) : Int) (fclrR i r k t).1 (fclrR i r k t).2.1 (fclrR i r k t).2.2.1 (fclrR i r k t).2.2.2.1 (fclrR i r k t).2.2.2.2.1 (fclrR i r k t).2.2.2.2.2 M) v → Ans F7 (fclrI1 () i k t.1 t.2.1 t.2.2.1 t.2.2.2.1 t.2.2.2.2.1 t.2.2.2.2.2 m (M + 1)) v
  | 0, k, m + 1, t, hk, hm, K => by
    have h := fclr_step1 () i k t.1 t.2.1 t.2.2.1 t.2.2.2.1 t.2.2.2.2.1 t.2.2.2.2.2 m M
    have e : k = 71 := by omega
    subst e
    rw [show ile 71 ((71 : Nat) : Int) = true from rfl, Bool.not_true, cond_false, wr_succ (show i < 1048577 by omega)] at h
    exact .stop (Z7_ok _) F7sy h K
  | r + 1, k, m + 1, t, hk, hm, K => by
    obtain ⟨a, b, x, c, d, y⟩ := t
    have h := fclr_step1 () i k a b x c d y m M
    have e1 : ile 71 (k : Int) = false := ile_f (by omega)
    simp only [lcO_eq, snO_eq, ieq_self, show ieq 169000000 100000000 = false from rfl, cond_true, cond_false] at h
    have s0 := sn_in hi (show k ≤ 70 by omega)
    have l0 := lc_in (q := 100000000) hi (show k ≤ 70 by omega) (by decide) (by decide)
    have l1 := lc_in (q := 169000000) hi (show k ≤ 70 by omega) (by decide) (by decide)
    rw [fclrR] at K
    have ih := fclr_in i hi M r (k + 1) m _ (by omega) (by omega) K
    rw [wr_in (n := 400 + (i : Int)) (by omega) (by omega), wr_in (n := 50 + (k : Int)) (by omega) (by omega), wr_succ (show k < 1048577 by omega)] at h
    simp only [e1, s0, l0, l1, ieq_self, Bool.not_false, Bool.and_self, cond_true] at h
    clear K
    unfold fclrS mtL mtH at ih
    cases s1 : seenF (400 + i) (50 + k) 169000000 <;> cases x <;> cases y <;> simp only [s1, beq_self_eq_true, Bool.not_true, Bool.not_false, cond_true, cond_false, Bool.and_self, Bool.and_true, Bool.and_false, Bool.false_and, Bool.true_and, show (true == false) = false from rfl, show (false == true) = false from rfl] at h ih <;> exact .stop (Z7_ok _) F7sy h ih
theorem fclr_out : ∀ (r i m : Nat) (t : En6), i + r = 21 → r < m → Ans F7 (fclrI0 () i t.1 t.2.1 t.2.2.1 t.2.2.2.1 t.2.2.2.2.1 t.2.2.2.2.2 m) (clrV (fclrA r i t))
  | 0, i, m + 1, t, hi, hm => by
    obtain ⟨a, b, x, c, d, y⟩ := t
    have h := fclr_step0 () i a b x c d y m
    have e : i = 21 := by omega
    subst e
    simp only [show ile 21 ((21 : Nat) : Int) = true from rfl, Bool.not_true, cond_false, ieq_self, cond_true] at h
    cases x <;> exact .done (Z7_ok _) F7sy h rfl
  | r + 1, i, m + 1, t, hi, hm => by
    have h := fclr_step0 () i t.1 t.2.1 t.2.2.1 t.2.2.2.1 t.2.2.2.2.1 t.2.2.2.2.2 m
    rw [show ile 21 (i : Int) = false from ile_f (by omega), Bool.not_false, cond_true] at h
    exact .stop (Z7_ok _) F7sy h (fclr_in i (by omega) m 71 0 1048575 t (by omega) (by omega) (fclr_out r (i + 1) m _ (by omega) (by omega)))
theorem fclr_fin : fclrA 21 0 (0, 0, false, 0, 0, false) = (400, 420, true, 50, 65, true) := by kernel_rfl
theorem fclr_ans : Ans F7 (startC F7 13 [tSt.av S0, tNi.av N0, .vs tRe false [rA, rB]] 40) (.tup [.agg [.int .i64 400, .int .i64 420], .agg [.int .i64 50, .int .i64 65], .int .i64 0]) := by
  have h := fclr_out 21 0 1048575 (0, 0, false, 0, 0, false) (by omega) (by omega)
  rw [fclr_fin] at h
  exact .stop (Z7_ok _) F7sy (fclr_start ()) h
end Go.Proofs.YtlbonihgofbanaaGreatDoor

/-
  LOOPS, told by their heads.
-/
set_option maxRecDepth 100000
namespace Go.Proofs.YtlbonihgofbanaaGreatDoor
open Go Go.Eng
noncomputable def fcouI0 (u : Unit) (x3 : Int) (x65 : Bool) (x66 : Bool) (x127 : Nat) : Cfg := ⟨.ex (pcOf F7 114 [0, 0, 1]) ⟨(tmOf 33 [(0, (.yld 26)), (1, (.ptr 23 0)), (2, (.ptr 24 0)), (3, (.ptr 25 0)), (7, (.agg [(.int .i64 (400)), (.int .i64 (420))])), (8, (.int .i64 (21))), (9, (.int .i64 x3))]), (hpOf 28 [(0, (.cells false [(.vs tGr (false) (S0.fst.snd)), (.int .i64 (20)), (.int .i64 (30)), (.int .i64 (50)), (.int .i64 (120))])), (1, (.cells false [(.int .i64 (0)), (.int .i64 (0)), (.int .i64 (0)), (.int .i64 (8)), (.int .i64 (1))])), (2, (.cells false [(.int .i64 (0)), (.int .i64 (12000))])), (3, (.cells true [(.int .i64 (0)), (.int .i64 (12000))])), (4, (.cells false [(.fn 67 [] [(.ptr 5 0), (.ptr 6 0), (.ptr 7 0)])])), (5, (.cells false [(.int .i64 (-30000))])), (6, (.cells false [(.int .i64 (30000))])), (7, (.cells false [(.csl [(.int .i64 (0)), (.int .i64 (12000))] 2)])), (8, (.cells false [(.vs tGr (false) (S0.fst.snd)), (.int .i64 (20)), (.int .i64 (30)), (.int .i64 (50)), (.int .i64 (120))])), (9, (.cells false [(.int .i64 (0)), (.int .i64 (0)), (.int .i64 (0)), (.int .i64 (8)), (.int .i64 (1))])), (10, (.cells false [(.vs tGr (false) (S0.fst.snd)), (.int .i64 (20)), (.int .i64 (30)), (.int .i64 (50)), (.int .i64 (120))])), (11, (.cells false [(.int .i64 (0)), (.int .i64 (0)), (.int .i64 (0)), (.int .i64 (8)), (.int .i64 (1))])), (12, (.cells false [(.vs tGr (false) (S0.fst.snd)), (.int .i64 (20)), (.int .i64 (30)), (.int .i64 (50)), (.int .i64 (120)), (.int .i64 (0)), (.int .i64 (0)), (.int .i64 (0)), (.int .i64 (8)), (.int .i64 (1)), (.sl 13 0 (1) (1) 6)])), (13, (.cells false ([AV.int IntKind.i64 ([rA].getD (Int.toNat 0) tRe.dflt).fst.fst, AV.int IntKind.i64 ([rA].getD (Int.toNat 0) tRe.dflt).fst.snd.fst, AV.bool false, AV.bool true, AV.int IntKind.i64 100000000, AV.int IntKind.i64 (ptF (wr IntKind.i64 (([rA].getD (Int.toNat 0) tRe.dflt).fst.fst - N0.fst.fst)) (wr IntKind.i64 (([rA].getD (Int.toNat 0) tRe.dflt).fst.snd.fst - N0.fst.snd.fst)))]))), (14, (.cells false [(.int .i64 (0)), (.int .i64 (12000))])), (15, (.cells false [(.int .i64 (144000000)), (.int .i64 (0))])), (16, (.cells false [(.int .i64 (144000000)), (.int .i64 (0))])), (17, (.cells false [(.bool x65)])), (18, (.cells false [(.bool x66)])), (19, (.cells false [(.ptr 12 0)])), (20, (.cells false [(.bool (false))])), (22, (.cells false [(.yld 21)])), (23, (.cells false [(.int .i64 (400)), (.int .i64 (420))])), (24, (.cells false [(.int .i64 (50)), (.int .i64 (120))])), (25, (.cells false [(.fn 32 [] [])])), (27, (.cells false [(.int .i64 (400)), (.int .i64 (420))]))]), [], [⟨false, .normal⟩, ⟨false, .normal⟩], 33, false⟩, ⟨38, [⟨26, 24, 39, (tmOf 24 [(0, (.yld 21)), (1, (.ptr 19 0)), (2, (.ptr 20 0)), (3, (.ptr 22 0)), (7, (.ptr 12 0)), (8, (.bool (false))), (9, (.fn 114 [] [(.ptr 23 0), (.ptr 24 0), (.ptr 25 0)]))]), #[10], (pcOf F7 63 [0, 0, 1, 1, 0, 1]), (pcOf F7 63 [1, 0, 1, 1, 0, 1])⟩, ⟨21, 54, 40, (tmOf 54 [(0, (.agg [(.vs tGr (false) (S0.fst.snd)), (.int .i64 (20)), (.int .i64 (30)), (.int .i64 (50)), (.int .i64 (120))])), (1, (.agg [(.int .i64 (0)), (.int .i64 (0)), (.int .i64 (0)), (.int .i64 (8)), (.int .i64 (1))])), (2, (.vs tRe (false) ([rA]))), (3, (.agg [(.int .i64 (0)), (.int .i64 (12000))])), (4, (.bool (false))), (5, (.ptr 0 0)), (6, (.ptr 1 0)), (8, (.ptr 2 0)), (10, (.int .i64 (0))), (11, (.int .i64 (0))), (12, (.ptr 12 0)), (13, (.int .i64 (0))), (14, (.ptr 16 0)), (15, (.ptr 17 0)), (16, (.ptr 18 0)), (18, (.tup [(.ptr 12 0), (.int .i64 (0))])), (19, (.agg [(.vs tGr (false) (S0.fst.snd)), (.int .i64 (20)), (.int .i64 (30)), (.int .i64 (50)), (.int .i64 (120))])), (20, (.agg [(.int .i64 (0)), (.int .i64 (0)), (.int .i64 (0)), (.int .i64 (8)), (.int .i64 (1))])), (21, (.vs tRe (false) ([rA]))), (22, (.ptr 2 0)), (23, (.int .i64 (0))), (24, (.ptr 2 1)), (25, (.int .i64 (12000))), (26, (.sl 3 0 (2) (2) 1)), (27, (.fn 67 [] [(.ptr 5 0), (.ptr 6 0), (.ptr 7 0)])), (28, (.sl 4 0 (1) (1) 1)), (29, (.tup [(.ptr 12 0), (.int .i64 (0))])), (30, (.ptr 12 0)), (31, (.int .i64 (0))), (32, (.int .i64 (0))), (33, (.bool (false))), (35, (.ptr 12 0)), (36, (.agg [(.int .i64 (0)), (.int .i64 (12000))])), (37, (.agg [(.int .i64 (144000000)), (.int .i64 (0))])), (38, (.ptr 12 0)), (39, (.bool (false))), (40, (.fn 63 [] [(.ptr 19 0), (.ptr 20 0)]))]), #[41], (pcOf F7 15 [0, 0, 1, 0, 1, 1, 1, 1, 1]), (pcOf F7 15 [1, 0, 1, 0, 1, 1, 1, 1, 1])⟩]⟩, [(.lop (pcOf F7 114 [0, 0, 1]) 28 (tmOf 33 [(0, (.yld 26)), (1, (.ptr 23 0)), (2, (.ptr 24 0)), (3, (.ptr 25 0)), (7, (.agg [(.int .i64 (400)), (.int .i64 (420))])), (8, (.int .i64 (21))), (9, (.int .i64 (0)))]) x127), (.blk 0), (.cal [] (.rng (tmOf 24 [(0, (.yld 21)), (1, (.ptr 19 0)), (2, (.ptr 20 0)), (3, (.ptr 22 0)), (7, (.ptr 12 0)), (8, (.bool (false))), (9, (.fn 114 [] [(.ptr 23 0), (.ptr 24 0), (.ptr 25 0)]))]) [] 24 false ⟨39, [⟨21, 54, 40, (tmOf 54 [(0, (.agg [(.vs tGr (false) (S0.fst.snd)), (.int .i64 (20)), (.int .i64 (30)), (.int .i64 (50)), (.int .i64 (120))])), (1, (.agg [(.int .i64 (0)), (.int .i64 (0)), (.int .i64 (0)), (.int .i64 (8)), (.int .i64 (1))])), (2, (.vs tRe (false) ([rA]))), (3, (.agg [(.int .i64 (0)), (.int .i64 (12000))])), (4, (.bool (false))), (5, (.ptr 0 0)), (6, (.ptr 1 0)), (8, (.ptr 2 0)), (10, (.int .i64 (0))), (11, (.int .i64 (0))), (12, (.ptr 12 0)), (13, (.int .i64 (0))), (14, (.ptr 16 0)), (15, (.ptr 17 0)), (16, (.ptr 18 0)), (18, (.tup [(.ptr 12 0), (.int .i64 (0))])), (19, (.agg [(.vs tGr (false) (S0.fst.snd)), (.int .i64 (20)), (.int .i64 (30)), (.int .i64 (50)), (.int .i64 (120))])), (20, (.agg [(.int .i64 (0)), (.int .i64 (0)), (.int .i64 (0)), (.int .i64 (8)), (.int .i64 (1))])), (21, (.vs tRe (false) ([rA]))), (22, (.ptr 2 0)), (23, (.int .i64 (0))), (24, (.ptr 2 1)), (25, (.int .i64 (12000))), (26, (.sl 3 0 (2) (2) 1)), (27, (.fn 67 [] [(.ptr 5 0), (.ptr 6 0), (.ptr 7 0)])), (28, (.sl 4 0 (1) (1) 1)), (29, (.tup [(.ptr 12 0), (.int .i64 (0))])), (30, (.ptr 12 0)), (31, (.int .i64 (0))), (32, (.int .i64 (0))), (33, (.bool (false))), (35, (.ptr 12 0)), (36, (.agg [(.int .i64 (0)), (.int .i64 (12000))])), (37, (.agg [(.int .i64 (144000000)), (.int .i64 (0))])), (38, (.ptr 12 0)), (39, (.bool (false))), (40, (.fn 63 [] [(.ptr 19 0), (.ptr 20 0)]))]), #[41], (pcOf F7 15 [0, 0, 1, 0, 1, 1, 1, 1, 1]), (pcOf F7 15 [1, 0, 1, 0, 1, 1, 1, 1, 1])⟩]⟩)), (.blk 0), (.cal [] (.rng (tmOf 54 [(0, (.agg [(.vs tGr (false) (S0.fst.snd)), (.int .i64 (20)), (.int .i64 (30)), (.int .i64 (50)), (.int .i64 (120))])), (1, (.agg [(.int .i64 (0)), (.int .i64 (0)), (.int .i64 (0)), (.int .i64 (8)), (.int .i64 (1))])), (2, (.vs tRe (false) ([rA]))), (3, (.agg [(.int .i64 (0)), (.int .i64 (12000))])), (4, (.bool (false))), (5, (.ptr 0 0)), (6, (.ptr 1 0)), (8, (.ptr 2 0)), (10, (.int .i64 (0))), (11, (.int .i64 (0))), (12, (.ptr 12 0)), (13, (.int .i64 (0))), (14, (.ptr 16 0)), (15, (.ptr 17 0)), (16, (.ptr 18 0)), (18, (.tup [(.ptr 12 0), (.int .i64 (0))])), (19, (.agg [(.vs tGr (false) (S0.fst.snd)), (.int .i64 (20)), (.int .i64 (30)), (.int .i64 (50)), (.int .i64 (120))])), (20, (.agg [(.int .i64 (0)), (.int .i64 (0)), (.int .i64 (0)), (.int .i64 (8)), (.int .i64 (1))])), (21, (.vs tRe (false) ([rA]))), (22, (.ptr 2 0)), (23, (.int .i64 (0))), (24, (.ptr 2 1)), (25, (.int .i64 (12000))), (26, (.sl 3 0 (2) (2) 1)), (27, (.fn 67 [] [(.ptr 5 0), (.ptr 6 0), (.ptr 7 0)])), (28, (.sl 4 0 (1) (1) 1)), (29, (.tup [(.ptr 12 0), (.int .i64 (0))])), (30, (.ptr 12 0)), (31, (.int .i64 (0))), (32, (.int .i64 (0))), (33, (.bool (false))), (35, (.ptr 12 0)), (36, (.agg [(.int .i64 (0)), (.int .i64 (12000))])), (37, (.agg [(.int .i64 (144000000)), (.int .i64 (0))])), (38, (.ptr 12 0)), (39, (.bool (false))), (40, (.fn 63 [] [(.ptr 19 0), (.ptr 20 0)]))]) [] 54 false ⟨40, []⟩)), (.blk 0), (.seq (pcOf F7 15 [1, 1, 1, 1, 1, 1])), (.cal [(.tmp 10), (.tmp 11)] .top)]⟩
noncomputable def fcouI1 (u : Unit) (x0 : Int) (x10 : Int) (x72 : Bool) (x73 : Bool) (x143 : Nat) (x148 : Nat) : Cfg := ⟨.ex (pcOf F7 114 [0, 0, 1, 1, 0, 0, 1, 1, 0, 0, 1]) ⟨(tmOf 33 [(0, (.yld 26)), (1, (.ptr 23 0)), (2, (.ptr 24 0)), (3, (.ptr 25 0)), (5, (.int .i64 x0)), (7, (.agg [(.int .i64 (400)), (.int .i64 (420))])), (8, (.int .i64 (21))), (9, (.int .i64 x0)), (10, (.bool (true))), (11, (.int .i64 x0)), (12, (.agg [(.int .i64 (50)), (.int .i64 (120))])), (13, (.int .i64 (71))), (14, (.int .i64 x10))]), (hpOf 29 [(0, (.cells false [(.vs tGr (false) (S0.fst.snd)), (.int .i64 (20)), (.int .i64 (30)), (.int .i64 (50)), (.int .i64 (120))])), (1, (.cells false [(.int .i64 (0)), (.int .i64 (0)), (.int .i64 (0)), (.int .i64 (8)), (.int .i64 (1))])), (2, (.cells false [(.int .i64 (0)), (.int .i64 (12000))])), (3, (.cells true [(.int .i64 (0)), (.int .i64 (12000))])), (4, (.cells false [(.fn 67 [] [(.ptr 5 0), (.ptr 6 0), (.ptr 7 0)])])), (5, (.cells false [(.int .i64 (-30000))])), (6, (.cells false [(.int .i64 (30000))])), (7, (.cells false [(.csl [(.int .i64 (0)), (.int .i64 (12000))] 2)])), (8, (.cells false [(.vs tGr (false) (S0.fst.snd)), (.int .i64 (20)), (.int .i64 (30)), (.int .i64 (50)), (.int .i64 (120))])), (9, (.cells false [(.int .i64 (0)), (.int .i64 (0)), (.int .i64 (0)), (.int .i64 (8)), (.int .i64 (1))])), (10, (.cells false [(.vs tGr (false) (S0.fst.snd)), (.int .i64 (20)), (.int .i64 (30)), (.int .i64 (50)), (.int .i64 (120))])), (11, (.cells false [(.int .i64 (0)), (.int .i64 (0)), (.int .i64 (0)), (.int .i64 (8)), (.int .i64 (1))])), (12, (.cells false [(.vs tGr (false) (S0.fst.snd)), (.int .i64 (20)), (.int .i64 (30)), (.int .i64 (50)), (.int .i64 (120)), (.int .i64 (0)), (.int .i64 (0)), (.int .i64 (0)), (.int .i64 (8)), (.int .i64 (1)), (.sl 13 0 (1) (1) 6)])), (13, (.cells false ([AV.int IntKind.i64 ([rA].getD (Int.toNat 0) tRe.dflt).fst.fst, AV.int IntKind.i64 ([rA].getD (Int.toNat 0) tRe.dflt).fst.snd.fst, AV.bool false, AV.bool true, AV.int IntKind.i64 100000000, AV.int IntKind.i64 (ptF (wr IntKind.i64 (([rA].getD (Int.toNat 0) tRe.dflt).fst.fst - N0.fst.fst)) (wr IntKind.i64 (([rA].getD (Int.toNat 0) tRe.dflt).fst.snd.fst - N0.fst.snd.fst)))]))), (14, (.cells false [(.int .i64 (0)), (.int .i64 (12000))])), (15, (.cells false [(.int .i64 (144000000)), (.int .i64 (0))])), (16, (.cells false [(.int .i64 (144000000)), (.int .i64 (0))])), (17, (.cells false [(.bool x72)])), (18, (.cells false [(.bool x73)])), (19, (.cells false [(.ptr 12 0)])), (20, (.cells false [(.bool (false))])), (22, (.cells false [(.yld 21)])), (23, (.cells false [(.int .i64 (400)), (.int .i64 (420))])), (24, (.cells false [(.int .i64 (50)), (.int .i64 (120))])), (25, (.cells false [(.fn 32 [] [])])), (27, (.cells false [(.int .i64 (400)), (.int .i64 (420))])), (28, (.cells false [(.int .i64 (50)), (.int .i64 (120))]))]), [], [⟨false, .normal⟩, ⟨false, .normal⟩], 33, false⟩, ⟨38, [⟨26, 24, 39, (tmOf 24 [(0, (.yld 21)), (1, (.ptr 19 0)), (2, (.ptr 20 0)), (3, (.ptr 22 0)), (7, (.ptr 12 0)), (8, (.bool (false))), (9, (.fn 114 [] [(.ptr 23 0), (.ptr 24 0), (.ptr 25 0)]))]), #[10], (pcOf F7 63 [0, 0, 1, 1, 0, 1]), (pcOf F7 63 [1, 0, 1, 1, 0, 1])⟩, ⟨21, 54, 40, (tmOf 54 [(0, (.agg [(.vs tGr (false) (S0.fst.snd)), (.int .i64 (20)), (.int .i64 (30)), (.int .i64 (50)), (.int .i64 (120))])), (1, (.agg [(.int .i64 (0)), (.int .i64 (0)), (.int .i64 (0)), (.int .i64 (8)), (.int .i64 (1))])), (2, (.vs tRe (false) ([rA]))), (3, (.agg [(.int .i64 (0)), (.int .i64 (12000))])), (4, (.bool (false))), (5, (.ptr 0 0)), (6, (.ptr 1 0)), (8, (.ptr 2 0)), (10, (.int .i64 (0))), (11, (.int .i64 (0))), (12, (.ptr 12 0)), (13, (.int .i64 (0))), (14, (.ptr 16 0)), (15, (.ptr 17 0)), (16, (.ptr 18 0)), (18, (.tup [(.ptr 12 0), (.int .i64 (0))])), (19, (.agg [(.vs tGr (false) (S0.fst.snd)), (.int .i64 (20)), (.int .i64 (30)), (.int .i64 (50)), (.int .i64 (120))])), (20, (.agg [(.int .i64 (0)), (.int .i64 (0)), (.int .i64 (0)), (.int .i64 (8)), (.int .i64 (1))])), (21, (.vs tRe (false) ([rA]))), (22, (.ptr 2 0)), (23, (.int .i64 (0))), (24, (.ptr 2 1)), (25, (.int .i64 (12000))), (26, (.sl 3 0 (2) (2) 1)), (27, (.fn 67 [] [(.ptr 5 0), (.ptr 6 0), (.ptr 7 0)])), (28, (.sl 4 0 (1) (1) 1)), (29, (.tup [(.ptr 12 0), (.int .i64 (0))])), (30, (.ptr 12 0)), (31, (.int .i64 (0))), (32, (.int .i64 (0))), (33, (.bool (false))), (35, (.ptr 12 0)), (36, (.agg [(.int .i64 (0)), (.int .i64 (12000))])), (37, (.agg [(.int .i64 (144000000)), (.int .i64 (0))])), (38, (.ptr 12 0)), (39, (.bool (false))), (40, (.fn 63 [] [(.ptr 19 0), (.ptr 20 0)]))]), #[41], (pcOf F7 15 [0, 0, 1, 0, 1, 1, 1, 1, 1]), (pcOf F7 15 [1, 0, 1, 0, 1, 1, 1, 1, 1])⟩]⟩, [(.lop (pcOf F7 114 [0, 0, 1, 1, 0, 0, 1, 1, 0, 0, 1]) 29 (tmOf 33 [(0, (.yld 26)), (1, (.ptr 23 0)), (2, (.ptr 24 0)), (3, (.ptr 25 0)), (5, (.int .i64 x0)), (7, (.agg [(.int .i64 (400)), (.int .i64 (420))])), (8, (.int .i64 (21))), (9, (.int .i64 x0)), (10, (.bool (true))), (11, (.int .i64 x0)), (12, (.agg [(.int .i64 (50)), (.int .i64 (120))])), (13, (.int .i64 (71))), (14, (.int .i64 (0)))]) x143), (.blk 2), (.blk 1), (.seq (pcOf F7 114 [1, 1, 1, 0, 0, 1])), (.lop (pcOf F7 114 [0, 0, 1]) 28 (tmOf 33 [(0, (.yld 26)), (1, (.ptr 23 0)), (2, (.ptr 24 0)), (3, (.ptr 25 0)), (7, (.agg [(.int .i64 (400)), (.int .i64 (420))])), (8, (.int .i64 (21))), (9, (.int .i64 (0)))]) x148), (.blk 0), (.cal [] (.rng (tmOf 24 [(0, (.yld 21)), (1, (.ptr 19 0)), (2, (.ptr 20 0)), (3, (.ptr 22 0)), (7, (.ptr 12 0)), (8, (.bool (false))), (9, (.fn 114 [] [(.ptr 23 0), (.ptr 24 0), (.ptr 25 0)]))]) [] 24 false ⟨39, [⟨21, 54, 40, (tmOf 54 [(0, (.agg [(.vs tGr (false) (S0.fst.snd)), (.int .i64 (20)), (.int .i64 (30)), (.int .i64 (50)), (.int .i64 (120))])), (1, (.agg [(.int .i64 (0)), (.int .i64 (0)), (.int .i64 (0)), (.int .i64 (8)), (.int .i64 (1))])), (2, (.vs tRe (false) ([rA]))), (3, (.agg [(.int .i64 (0)), (.int .i64 (12000))])), (4, (.bool (false))), (5, (.ptr 0 0)), (6, (.ptr 1 0)), (8, (.ptr 2 0)), (10, (.int .i64 (0))), (11, (.int .i64 (0))), (12, (.ptr 12 0)), (13, (.int .i64 (0))), (14, (.ptr 16 0)), (15, (.ptr 17 0)), (16, (.ptr 18 0)), (18, (.tup [(.ptr 12 0), (.int .i64 (0))])), (19, (.agg [(.vs tGr (false) (S0.fst.snd)), (.int .i64 (20)), (.int .i64 (30)), (.int .i64 (50)), (.int .i64 (120))])), (20, (.agg [(.int .i64 (0)), (.int .i64 (0)), (.int .i64 (0)), (.int .i64 (8)), (.int .i64 (1))])), (21, (.vs tRe (false) ([rA]))), (22, (.ptr 2 0)), (23, (.int .i64 (0))), (24, (.ptr 2 1)), (25, (.int .i64 (12000))), (26, (.sl 3 0 (2) (2) 1)), (27, (.fn 67 [] [(.ptr 5 0), (.ptr 6 0), (.ptr 7 0)])), (28, (.sl 4 0 (1) (1) 1)), (29, (.tup [(.ptr 12 0), (.int .i64 (0))])), (30, (.ptr 12 0)), (31, (.int .i64 (0))), (32, (.int .i64 (0))), (33, (.bool (false))), (35, (.ptr 12 0)), (36, (.agg [(.int .i64 (0)), (.int .i64 (12000))])), (37, (.agg [(.int .i64 (144000000)), (.int .i64 (0))])), (38, (.ptr 12 0)), (39, (.bool (false))), (40, (.fn 63 [] [(.ptr 19 0), (.ptr 20 0)]))]), #[41], (pcOf F7 15 [0, 0, 1, 0, 1, 1, 1, 1, 1]), (pcOf F7 15 [1, 0, 1, 0, 1, 1, 1, 1, 1])⟩]⟩)), (.blk 0), (.cal [] (.rng (tmOf 54 [(0, (.agg [(.vs tGr (false) (S0.fst.snd)), (.int .i64 (20)), (.int .i64 (30)), (.int .i64 (50)), (.int .i64 (120))])), (1, (.agg [(.int .i64 (0)), (.int .i64 (0)), (.int .i64 (0)), (.int .i64 (8)), (.int .i64 (1))])), (2, (.vs tRe (false) ([rA]))), (3, (.agg [(.int .i64 (0)), (.int .i64 (12000))])), (4, (.bool (false))), (5, (.ptr 0 0)), (6, (.ptr 1 0)), (8, (.ptr 2 0)), (10, (.int .i64 (0))), (11, (.int .i64 (0))), (12, (.ptr 12 0)), (13, (.int .i64 (0))), (14, (.ptr 16 0)), (15, (.ptr 17 0)), (16, (.ptr 18 0)), (18, (.tup [(.ptr 12 0), (.int .i64 (0))])), (19, (.agg [(.vs tGr (false) (S0.fst.snd)), (.int .i64 (20)), (.int .i64 (30)), (.int .i64 (50)), (.int .i64 (120))])), (20, (.agg [(.int .i64 (0)), (.int .i64 (0)), (.int .i64 (0)), (.int .i64 (8)), (.int .i64 (1))])), (21, (.vs tRe (false) ([rA]))), (22, (.ptr 2 0)), (23, (.int .i64 (0))), (24, (.ptr 2 1)), (25, (.int .i64 (12000))), (26, (.sl 3 0 (2) (2) 1)), (27, (.fn 67 [] [(.ptr 5 0), (.ptr 6 0), (.ptr 7 0)])), (28, (.sl 4 0 (1) (1) 1)), (29, (.tup [(.ptr 12 0), (.int .i64 (0))])), (30, (.ptr 12 0)), (31, (.int .i64 (0))), (32, (.int .i64 (0))), (33, (.bool (false))), (35, (.ptr 12 0)), (36, (.agg [(.int .i64 (0)), (.int .i64 (12000))])), (37, (.agg [(.int .i64 (144000000)), (.int .i64 (0))])), (38, (.ptr 12 0)), (39, (.bool (false))), (40, (.fn 63 [] [(.ptr 19 0), (.ptr 20 0)]))]) [] 54 false ⟨40, []⟩)), (.blk 0), (.seq (pcOf F7 15 [1, 1, 1, 1, 1, 1])), (.cal [(.tmp 10), (.tmp 11)] .top)]⟩
theorem fcou_start (u : Unit) : adv F7 (Z7 [114]) 3000 (startC F7 15 [tSt.av S0, tNi.av N0, .vs tRe false [rA], .agg [.int .i64 0, .int .i64 12000], .bool false] 40) = some (.stop (fcouI0 u (0) (false) (false) (1048575))) := by kernel_rfl
theorem fcou_step0 (u : Unit) (x3 : Int) (x65 : Bool) (x66 : Bool) (x127 : Nat) : adv F7 (Z7 [114]) 3000 (fcouI0 u x3 x65 x66 (x127 + 1)) = (bif !ile 21 x3 then some (.stop (fcouI1 u (x3) (0) (x65) (x66) (1048575) (x127 + 1))) else (bif x65 then (bif x66 then some (.done (.tup [(.int .i64 (1)), (.int .i64 (0))])) else (bif x65 then some (.done (.tup [(.int .i64 (2)), (.int .i64 (0))])) else (bif x66 then some (.done (.tup [(.int .i64 (0)), (.int .i64 (0))])) else some (.done (.tup [(.int .i64 (0)), (.int .i64 (9))]))))) else (bif x65 then some (.done (.tup [(.int .i64 (2)), (.int .i64 (0))])) else (bif x66 then some (.done (.tup [(.int .i64 (0)), (.int .i64 (0))])) else some (.done (.tup [(.int .i64 (0)), (.int .i64 (9))])))))) := by kernel_rfl
theorem fcou_step1 (u : Unit) (x0 : Int) (x10 : Int) (x72 : Bool) (x73 : Bool) (x143 : Nat) (x148 : Nat) : adv F7 (Z7 [114]) 3000 (fcouI1 u x0 x10 x72 x73 (x143 + 1) (x148 + 1)) = (bif !ile 71 x10 then (bif bif ieq 100000000 100000000 then lcO (wr IntKind.i64 (400 + x0)) (wr IntKind.i64 (50 + x10)) 100000000 && snO (wr IntKind.i64 (400 + x0)) (wr IntKind.i64 (50 + x10)) 100000000 else lcO (wr IntKind.i64 (400 + x0)) (wr IntKind.i64 (50 + x10)) 100000000 then (bif bif ieq 144000000 100000000 then lcO (wr IntKind.i64 (400 + x0)) (wr IntKind.i64 (50 + x10)) 144000000 && snO (wr IntKind.i64 (400 + x0)) (wr IntKind.i64 (50 + x10)) 144000000 else lcO (wr IntKind.i64 (400 + x0)) (wr IntKind.i64 (50 + x10)) 144000000 then (bif snO (wr IntKind.i64 (400 + x0)) (wr IntKind.i64 (50 + x10)) 144000000 then some (.stop (fcouI1 u (x0) (wr IntKind.i64 (x10 + 1)) (true) (x73) (x143) (x148 + 1))) else some (.stop (fcouI1 u (x0) (wr IntKind.i64 (x10 + 1)) (x72) (true) (x143) (x148 + 1)))) else none) else none) else some (.stop (fcouI0 u (wr IntKind.i64 (x0 + 1)) (x72) (x73) (x148)))) := by kernel_rfl
/-! ### Could, of the examples -/
noncomputable def couV (t : Bool × Bool) : AV := .tup [.int .i64 (bif t.1 then (bif t.2 then 1 else 2) else 0), .int .i64 (bif t.1 || t.2 then 0 else 9)]
/-! ### fcou -/
noncomputable def fcouS (i k : Nat) (t : Bool × Bool) : Bool × Bool := bif seenF (400 + i) (50 + k) 144000000 then (true, t.2) else (t.1, true)
noncomputable def fcouR (i : Nat) : Nat → Nat → Bool × Bool → Bool × Bool
  | 0, _, t => t
  | r + 1, k, t => fcouR i r (k + 1) (fcouS i k t)
noncomputable def fcouA : Nat → Nat → Bool × Bool → Bool × Bool
  | 0, _, t => t
  | r + 1, i, t => fcouA r (i + 1) (fcouR i 71 0 t)
theorem fcou_in {v : AV} (i : Nat) (hi : i ≤ 20) (M : Nat) : ∀ (r k m : Nat) (t : Bool × Bool), k + r = 71 → r < m → Ans F7 (fcouI0 () ((i + 1 : Nat) : Int) (fcouR i r k t).1 (fcouR i r k t).2 M) v → Ans F7 (fcouI1 () i k t.1 t.2 m (M + 1)) v
  | 0, k, m + 1, t, hk, hm, K => by
    have h := fcou_step1 () i k t.1 t.2 m M
    have e : k = 71 := by omega
    subst e
    rw [show ile 71 ((71 : Nat) : Int) = true from rfl, Bool.not_true, cond_false, wr_succ (show i < 1048577 by omega)] at h
    exact .stop (Z7_ok _) F7sy h K
  | r + 1, k, m + 1, t, hk, hm, K => by
    obtain ⟨a, b⟩ := t
    have h := fcou_step1 () i k a b m M
    have e1 : ile 71 (k : Int) = false := ile_f (by omega)
    simp only [lcO_eq, snO_eq, ieq_self, show ieq 144000000 100000000 = false from rfl, cond_true, cond_false] at h
    have s0 := sn_in hi (show k ≤ 70 by omega)
    have l0 := lc_in (q := 100000000) hi (show k ≤ 70 by omega) (by decide) (by decide)
    have l1 := lc_in (q := 144000000) hi (show k ≤ 70 by omega) (by decide) (by decide)
    rw [fcouR] at K
    have ih := fcou_in i hi M r (k + 1) m _ (by omega) (by omega) K
    rw [wr_in (n := 400 + (i : Int)) (by omega) (by omega), wr_in (n := 50 + (k : Int)) (by omega) (by omega), wr_succ (show k < 1048577 by omega)] at h
    simp only [e1, s0, l0, l1, Bool.not_false, Bool.and_self, cond_true] at h
    clear K
    unfold fcouS at ih
    cases s1 : seenF (400 + i) (50 + k) 144000000 <;> simp only [s1, beq_self_eq_true, Bool.not_true, Bool.not_false, cond_true, cond_false, show (true == false) = false from rfl, show (false == true) = false from rfl] at h ih <;> exact .stop (Z7_ok _) F7sy h ih
theorem fcou_out : ∀ (r i m : Nat) (t : Bool × Bool), i + r = 21 → r < m → Ans F7 (fcouI0 () i t.1 t.2 m) (couV (fcouA r i t))
  | 0, i, m + 1, t, hi, hm => by
    obtain ⟨a, b⟩ := t
    have h := fcou_step0 () i a b m
    have e : i = 21 := by omega
    subst e
    simp only [show ile 21 ((21 : Nat) : Int) = true from rfl, Bool.not_true, cond_false] at h
    cases a <;> cases b <;> exact .done (Z7_ok _) F7sy h rfl
  | r + 1, i, m + 1, t, hi, hm => by
    have h := fcou_step0 () i t.1 t.2 m
    rw [show ile 21 (i : Int) = false from ile_f (by omega), Bool.not_false, cond_true] at h
    exact .stop (Z7_ok _) F7sy h (fcou_in i (by omega) m 71 0 1048575 t (by omega) (by omega) (fcou_out r (i + 1) m _ (by omega) (by omega)))
theorem fcou_fin : fcouA 21 0 (false, false) = (true, true) := by kernel_rfl
theorem fcou_ans : Ans F7 (startC F7 15 [tSt.av S0, tNi.av N0, .vs tRe false [rA], .agg [.int .i64 0, .int .i64 12000], .bool false] 40) (.tup [.int .i64 1, .int .i64 0]) := by
  have h := fcou_out 21 0 1048575 (false, false) (by omega) (by omega)
  rw [fcou_fin] at h
  exact .stop (Z7_ok _) F7sy (fcou_start ()) h
end Go.Proofs.YtlbonihgofbanaaGreatDoor

/-
  LOOPS, told by their heads.
-/
set_option maxRecDepth 100000
namespace Go.Proofs.YtlbonihgofbanaaGreatDoor
open Go Go.Eng
noncomputable def ffarI0 (u : Unit) (x3 : Int) (x48 : Int) (x49 : Int) (x50 : Bool) (x97 : Nat) : Cfg := ⟨.ex (pcOf F6 114 [0, 0, 1]) ⟨(tmOf 33 [(0, (.yld 15)), (1, (.ptr 12 0)), (2, (.ptr 13 0)), (3, (.ptr 14 0)), (7, (.agg [(.int .i64 (400)), (.int .i64 (420))])), (8, (.int .i64 (21))), (9, (.int .i64 x3))]), (hpOf 17 [(0, (.cells false [(.vs tGr (false) (S0.fst.snd)), (.int .i64 (20)), (.int .i64 (30)), (.int .i64 (50)), (.int .i64 (120))])), (1, (.cells false [(.int .i64 (0)), (.int .i64 (0)), (.int .i64 (0)), (.int .i64 (8)), (.int .i64 (1))])), (2, (.cells false [(.vs tGr (false) (S0.fst.snd)), (.int .i64 (20)), (.int .i64 (30)), (.int .i64 (50)), (.int .i64 (120))])), (3, (.cells false [(.int .i64 (0)), (.int .i64 (0)), (.int .i64 (0)), (.int .i64 (8)), (.int .i64 (1))])), (4, (.cells false [(.vs tGr (false) (S0.fst.snd)), (.int .i64 (20)), (.int .i64 (30)), (.int .i64 (50)), (.int .i64 (120))])), (5, (.cells false [(.int .i64 (0)), (.int .i64 (0)), (.int .i64 (0)), (.int .i64 (8)), (.int .i64 (1))])), (6, (.cells false [(.vs tGr (false) (S0.fst.snd)), (.int .i64 (20)), (.int .i64 (30)), (.int .i64 (50)), (.int .i64 (120)), (.int .i64 (0)), (.int .i64 (0)), (.int .i64 (0)), (.int .i64 (8)), (.int .i64 (1)), .nils])), (7, (.cells false [(.int .i64 x48), (.int .i64 x49), (.bool x50)])), (8, (.cells false [(.ptr 6 0)])), (9, (.cells false [(.bool (false))])), (11, (.cells false [(.yld 10)])), (12, (.cells false [(.int .i64 (400)), (.int .i64 (420))])), (13, (.cells false [(.int .i64 (50)), (.int .i64 (120))])), (14, (.cells false [(.fn 32 [] [])])), (16, (.cells false [(.int .i64 (400)), (.int .i64 (420))]))]), [], [⟨false, .normal⟩, ⟨false, .normal⟩], 33, false⟩, ⟨38, [⟨15, 24, 39, (tmOf 24 [(0, (.yld 10)), (1, (.ptr 8 0)), (2, (.ptr 9 0)), (3, (.ptr 11 0)), (7, (.ptr 6 0)), (8, (.bool (false))), (9, (.fn 114 [] [(.ptr 12 0), (.ptr 13 0), (.ptr 14 0)]))]), #[10], (pcOf F6 63 [0, 0, 1, 1, 0, 1]), (pcOf F6 63 [1, 0, 1, 1, 0, 1])⟩, ⟨10, 35, 40, (tmOf 35 [(0, (.agg [(.vs tGr (false) (S0.fst.snd)), (.int .i64 (20)), (.int .i64 (30)), (.int .i64 (50)), (.int .i64 (120))])), (1, (.agg [(.int .i64 (0)), (.int .i64 (0)), (.int .i64 (0)), (.int .i64 (8)), (.int .i64 (1))])), (2, (.vs tRe (true) ([]))), (3, (.ptr 0 0)), (4, (.ptr 1 0)), (6, (.int .i64 (0))), (7, (.int .i64 (0))), (8, (.int .i64 (0))), (9, (.ptr 6 0)), (10, (.ptr 7 0)), (12, (.tup [(.ptr 6 0), (.int .i64 (0))])), (13, (.agg [(.vs tGr (false) (S0.fst.snd)), (.int .i64 (20)), (.int .i64 (30)), (.int .i64 (50)), (.int .i64 (120))])), (14, (.agg [(.int .i64 (0)), (.int .i64 (0)), (.int .i64 (0)), (.int .i64 (8)), (.int .i64 (1))])), (15, (.vs tRe (true) ([]))), (16, (.tup [(.ptr 6 0), (.int .i64 (0))])), (17, (.ptr 6 0)), (18, (.int .i64 (0))), (19, (.int .i64 (0))), (20, (.bool (false))), (22, (.ptr 6 0)), (23, (.fn 63 [] [(.ptr 8 0), (.ptr 9 0)]))]), #[24], (pcOf F6 46 [0, 0, 1, 0, 1, 1, 1, 1]), (pcOf F6 46 [1, 0, 1, 0, 1, 1, 1, 1])⟩]⟩, [(.lop (pcOf F6 114 [0, 0, 1]) 17 (tmOf 33 [(0, (.yld 15)), (1, (.ptr 12 0)), (2, (.ptr 13 0)), (3, (.ptr 14 0)), (7, (.agg [(.int .i64 (400)), (.int .i64 (420))])), (8, (.int .i64 (21))), (9, (.int .i64 (0)))]) x97), (.blk 0), (.cal [] (.rng (tmOf 24 [(0, (.yld 10)), (1, (.ptr 8 0)), (2, (.ptr 9 0)), (3, (.ptr 11 0)), (7, (.ptr 6 0)), (8, (.bool (false))), (9, (.fn 114 [] [(.ptr 12 0), (.ptr 13 0), (.ptr 14 0)]))]) [] 24 false ⟨39, [⟨10, 35, 40, (tmOf 35 [(0, (.agg [(.vs tGr (false) (S0.fst.snd)), (.int .i64 (20)), (.int .i64 (30)), (.int .i64 (50)), (.int .i64 (120))])), (1, (.agg [(.int .i64 (0)), (.int .i64 (0)), (.int .i64 (0)), (.int .i64 (8)), (.int .i64 (1))])), (2, (.vs tRe (true) ([]))), (3, (.ptr 0 0)), (4, (.ptr 1 0)), (6, (.int .i64 (0))), (7, (.int .i64 (0))), (8, (.int .i64 (0))), (9, (.ptr 6 0)), (10, (.ptr 7 0)), (12, (.tup [(.ptr 6 0), (.int .i64 (0))])), (13, (.agg [(.vs tGr (false) (S0.fst.snd)), (.int .i64 (20)), (.int .i64 (30)), (.int .i64 (50)), (.int .i64 (120))])), (14, (.agg [(.int .i64 (0)), (.int .i64 (0)), (.int .i64 (0)), (.int .i64 (8)), (.int .i64 (1))])), (15, (.vs tRe (true) ([]))), (16, (.tup [(.ptr 6 0), (.int .i64 (0))])), (17, (.ptr 6 0)), (18, (.int .i64 (0))), (19, (.int .i64 (0))), (20, (.bool (false))), (22, (.ptr 6 0)), (23, (.fn 63 [] [(.ptr 8 0), (.ptr 9 0)]))]), #[24], (pcOf F6 46 [0, 0, 1, 0, 1, 1, 1, 1]), (pcOf F6 46 [1, 0, 1, 0, 1, 1, 1, 1])⟩]⟩)), (.blk 0), (.cal [] (.rng (tmOf 35 [(0, (.agg [(.vs tGr (false) (S0.fst.snd)), (.int .i64 (20)), (.int .i64 (30)), (.int .i64 (50)), (.int .i64 (120))])), (1, (.agg [(.int .i64 (0)), (.int .i64 (0)), (.int .i64 (0)), (.int .i64 (8)), (.int .i64 (1))])), (2, (.vs tRe (true) ([]))), (3, (.ptr 0 0)), (4, (.ptr 1 0)), (6, (.int .i64 (0))), (7, (.int .i64 (0))), (8, (.int .i64 (0))), (9, (.ptr 6 0)), (10, (.ptr 7 0)), (12, (.tup [(.ptr 6 0), (.int .i64 (0))])), (13, (.agg [(.vs tGr (false) (S0.fst.snd)), (.int .i64 (20)), (.int .i64 (30)), (.int .i64 (50)), (.int .i64 (120))])), (14, (.agg [(.int .i64 (0)), (.int .i64 (0)), (.int .i64 (0)), (.int .i64 (8)), (.int .i64 (1))])), (15, (.vs tRe (true) ([]))), (16, (.tup [(.ptr 6 0), (.int .i64 (0))])), (17, (.ptr 6 0)), (18, (.int .i64 (0))), (19, (.int .i64 (0))), (20, (.bool (false))), (22, (.ptr 6 0)), (23, (.fn 63 [] [(.ptr 8 0), (.ptr 9 0)]))]) [] 35 false ⟨40, []⟩)), (.blk 0), (.seq (pcOf F6 46 [1, 1, 1, 1, 1])), (.cal [(.tmp 6), (.tmp 7), (.tmp 8)] .top)]⟩
noncomputable def ffarI1 (u : Unit) (x0 : Int) (x10 : Int) (x55 : Int) (x56 : Int) (x57 : Bool) (x113 : Nat) (x118 : Nat) : Cfg := ⟨.ex (pcOf F6 114 [0, 0, 1, 1, 0, 0, 1, 1, 0, 0, 1]) ⟨(tmOf 33 [(0, (.yld 15)), (1, (.ptr 12 0)), (2, (.ptr 13 0)), (3, (.ptr 14 0)), (5, (.int .i64 x0)), (7, (.agg [(.int .i64 (400)), (.int .i64 (420))])), (8, (.int .i64 (21))), (9, (.int .i64 x0)), (10, (.bool (true))), (11, (.int .i64 x0)), (12, (.agg [(.int .i64 (50)), (.int .i64 (120))])), (13, (.int .i64 (71))), (14, (.int .i64 x10))]), (hpOf 18 [(0, (.cells false [(.vs tGr (false) (S0.fst.snd)), (.int .i64 (20)), (.int .i64 (30)), (.int .i64 (50)), (.int .i64 (120))])), (1, (.cells false [(.int .i64 (0)), (.int .i64 (0)), (.int .i64 (0)), (.int .i64 (8)), (.int .i64 (1))])), (2, (.cells false [(.vs tGr (false) (S0.fst.snd)), (.int .i64 (20)), (.int .i64 (30)), (.int .i64 (50)), (.int .i64 (120))])), (3, (.cells false [(.int .i64 (0)), (.int .i64 (0)), (.int .i64 (0)), (.int .i64 (8)), (.int .i64 (1))])), (4, (.cells false [(.vs tGr (false) (S0.fst.snd)), (.int .i64 (20)), (.int .i64 (30)), (.int .i64 (50)), (.int .i64 (120))])), (5, (.cells false [(.int .i64 (0)), (.int .i64 (0)), (.int .i64 (0)), (.int .i64 (8)), (.int .i64 (1))])), (6, (.cells false [(.vs tGr (false) (S0.fst.snd)), (.int .i64 (20)), (.int .i64 (30)), (.int .i64 (50)), (.int .i64 (120)), (.int .i64 (0)), (.int .i64 (0)), (.int .i64 (0)), (.int .i64 (8)), (.int .i64 (1)), .nils])), (7, (.cells false [(.int .i64 x55), (.int .i64 x56), (.bool x57)])), (8, (.cells false [(.ptr 6 0)])), (9, (.cells false [(.bool (false))])), (11, (.cells false [(.yld 10)])), (12, (.cells false [(.int .i64 (400)), (.int .i64 (420))])), (13, (.cells false [(.int .i64 (50)), (.int .i64 (120))])), (14, (.cells false [(.fn 32 [] [])])), (16, (.cells false [(.int .i64 (400)), (.int .i64 (420))])), (17, (.cells false [(.int .i64 (50)), (.int .i64 (120))]))]), [], [⟨false, .normal⟩, ⟨false, .normal⟩], 33, false⟩, ⟨38, [⟨15, 24, 39, (tmOf 24 [(0, (.yld 10)), (1, (.ptr 8 0)), (2, (.ptr 9 0)), (3, (.ptr 11 0)), (7, (.ptr 6 0)), (8, (.bool (false))), (9, (.fn 114 [] [(.ptr 12 0), (.ptr 13 0), (.ptr 14 0)]))]), #[10], (pcOf F6 63 [0, 0, 1, 1, 0, 1]), (pcOf F6 63 [1, 0, 1, 1, 0, 1])⟩, ⟨10, 35, 40, (tmOf 35 [(0, (.agg [(.vs tGr (false) (S0.fst.snd)), (.int .i64 (20)), (.int .i64 (30)), (.int .i64 (50)), (.int .i64 (120))])), (1, (.agg [(.int .i64 (0)), (.int .i64 (0)), (.int .i64 (0)), (.int .i64 (8)), (.int .i64 (1))])), (2, (.vs tRe (true) ([]))), (3, (.ptr 0 0)), (4, (.ptr 1 0)), (6, (.int .i64 (0))), (7, (.int .i64 (0))), (8, (.int .i64 (0))), (9, (.ptr 6 0)), (10, (.ptr 7 0)), (12, (.tup [(.ptr 6 0), (.int .i64 (0))])), (13, (.agg [(.vs tGr (false) (S0.fst.snd)), (.int .i64 (20)), (.int .i64 (30)), (.int .i64 (50)), (.int .i64 (120))])), (14, (.agg [(.int .i64 (0)), (.int .i64 (0)), (.int .i64 (0)), (.int .i64 (8)), (.int .i64 (1))])), (15, (.vs tRe (true) ([]))), (16, (.tup [(.ptr 6 0), (.int .i64 (0))])), (17, (.ptr 6 0)), (18, (.int .i64 (0))), (19, (.int .i64 (0))), (20, (.bool (false))), (22, (.ptr 6 0)), (23, (.fn 63 [] [(.ptr 8 0), (.ptr 9 0)]))]), #[24], (pcOf F6 46 [0, 0, 1, 0, 1, 1, 1, 1]), (pcOf F6 46 [1, 0, 1, 0, 1, 1, 1, 1])⟩]⟩, [(.lop (pcOf F6 114 [0, 0, 1, 1, 0, 0, 1, 1, 0, 0, 1]) 18 (tmOf 33 [(0, (.yld 15)), (1, (.ptr 12 0)), (2, (.ptr 13 0)), (3, (.ptr 14 0)), (5, (.int .i64 x0)), (7, (.agg [(.int .i64 (400)), (.int .i64 (420))])), (8, (.int .i64 (21))), (9, (.int .i64 x0)), (10, (.bool (true))), (11, (.int .i64 x0)), (12, (.agg [(.int .i64 (50)), (.int .i64 (120))])), (13, (.int .i64 (71))), (14, (.int .i64 (0)))]) x113), (.blk 2), (.blk 1), (.seq (pcOf F6 114 [1, 1, 1, 0, 0, 1])), (.lop (pcOf F6 114 [0, 0, 1]) 17 (tmOf 33 [(0, (.yld 15)), (1, (.ptr 12 0)), (2, (.ptr 13 0)), (3, (.ptr 14 0)), (7, (.agg [(.int .i64 (400)), (.int .i64 (420))])), (8, (.int .i64 (21))), (9, (.int .i64 (0)))]) x118), (.blk 0), (.cal [] (.rng (tmOf 24 [(0, (.yld 10)), (1, (.ptr 8 0)), (2, (.ptr 9 0)), (3, (.ptr 11 0)), (7, (.ptr 6 0)), (8, (.bool (false))), (9, (.fn 114 [] [(.ptr 12 0), (.ptr 13 0), (.ptr 14 0)]))]) [] 24 false ⟨39, [⟨10, 35, 40, (tmOf 35 [(0, (.agg [(.vs tGr (false) (S0.fst.snd)), (.int .i64 (20)), (.int .i64 (30)), (.int .i64 (50)), (.int .i64 (120))])), (1, (.agg [(.int .i64 (0)), (.int .i64 (0)), (.int .i64 (0)), (.int .i64 (8)), (.int .i64 (1))])), (2, (.vs tRe (true) ([]))), (3, (.ptr 0 0)), (4, (.ptr 1 0)), (6, (.int .i64 (0))), (7, (.int .i64 (0))), (8, (.int .i64 (0))), (9, (.ptr 6 0)), (10, (.ptr 7 0)), (12, (.tup [(.ptr 6 0), (.int .i64 (0))])), (13, (.agg [(.vs tGr (false) (S0.fst.snd)), (.int .i64 (20)), (.int .i64 (30)), (.int .i64 (50)), (.int .i64 (120))])), (14, (.agg [(.int .i64 (0)), (.int .i64 (0)), (.int .i64 (0)), (.int .i64 (8)), (.int .i64 (1))])), (15, (.vs tRe (true) ([]))), (16, (.tup [(.ptr 6 0), (.int .i64 (0))])), (17, (.ptr 6 0)), (18, (.int .i64 (0))), (19, (.int .i64 (0))), (20, (.bool (false))), (22, (.ptr 6 0)), (23, (.fn 63 [] [(.ptr 8 0), (.ptr 9 0)]))]), #[24], (pcOf F6 46 [0, 0, 1, 0, 1, 1, 1, 1]), (pcOf F6 46 [1, 0, 1, 0, 1, 1, 1, 1])⟩]⟩)), (.blk 0), (.cal [] (.rng (tmOf 35 [(0, (.agg [(.vs tGr (false) (S0.fst.snd)), (.int .i64 (20)), (.int .i64 (30)), (.int .i64 (50)), (.int .i64 (120))])), (1, (.agg [(.int .i64 (0)), (.int .i64 (0)), (.int .i64 (0)), (.int .i64 (8)), (.int .i64 (1))])), (2, (.vs tRe (true) ([]))), (3, (.ptr 0 0)), (4, (.ptr 1 0)), (6, (.int .i64 (0))), (7, (.int .i64 (0))), (8, (.int .i64 (0))), (9, (.ptr 6 0)), (10, (.ptr 7 0)), (12, (.tup [(.ptr 6 0), (.int .i64 (0))])), (13, (.agg [(.vs tGr (false) (S0.fst.snd)), (.int .i64 (20)), (.int .i64 (30)), (.int .i64 (50)), (.int .i64 (120))])), (14, (.agg [(.int .i64 (0)), (.int .i64 (0)), (.int .i64 (0)), (.int .i64 (8)), (.int .i64 (1))])), (15, (.vs tRe (true) ([]))), (16, (.tup [(.ptr 6 0), (.int .i64 (0))])), (17, (.ptr 6 0)), (18, (.int .i64 (0))), (19, (.int .i64 (0))), (20, (.bool (false))), (22, (.ptr 6 0)), (23, (.fn 63 [] [(.ptr 8 0), (.ptr 9 0)]))]) [] 35 false ⟨40, []⟩)), (.blk 0), (.seq (pcOf F6 46 [1, 1, 1, 1, 1])), (.cal [(.tmp 6), (.tmp 7), (.tmp 8)] .top)]⟩
noncomputable def ffarI2 (u : Unit) (x2 : Int) (x3 : Int) (x49 : Int) (x50 : Int) (x51 : Bool) (x61 : Int) (x62 : Int) (x73 : Nat) (x150 : Int) (x151 : Int) (x220 : Nat) (x225 : Nat) : Cfg := ⟨.ex (pcOf F6 68 [0, 0, 0, 1, 1]) ⟨(tmOf 26 [(0, (.int .i64 (60000))), (1, (.fn 69 [] [(.ptr 23 0)])), (4, (.int .i64 (0))), (5, (.int .i64 x2)), (6, (.int .i64 x3)), (8, (.int .i64 (60000)))]), (hpOf 24 [(0, (.cells false [(.vs tGr (false) (S0.fst.snd)), (.int .i64 (20)), (.int .i64 (30)), (.int .i64 (50)), (.int .i64 (120))])), (1, (.cells false [(.int .i64 (0)), (.int .i64 (0)), (.int .i64 (0)), (.int .i64 (8)), (.int .i64 (1))])), (2, (.cells false [(.vs tGr (false) (S0.fst.snd)), (.int .i64 (20)), (.int .i64 (30)), (.int .i64 (50)), (.int .i64 (120))])), (3, (.cells false [(.int .i64 (0)), (.int .i64 (0)), (.int .i64 (0)), (.int .i64 (8)), (.int .i64 (1))])), (4, (.cells false [(.vs tGr (false) (S0.fst.snd)), (.int .i64 (20)), (.int .i64 (30)), (.int .i64 (50)), (.int .i64 (120))])), (5, (.cells false [(.int .i64 (0)), (.int .i64 (0)), (.int .i64 (0)), (.int .i64 (8)), (.int .i64 (1))])), (6, (.cells false [(.vs tGr (false) (S0.fst.snd)), (.int .i64 (20)), (.int .i64 (30)), (.int .i64 (50)), (.int .i64 (120)), (.int .i64 (0)), (.int .i64 (0)), (.int .i64 (0)), (.int .i64 (8)), (.int .i64 (1)), .nils])), (7, (.cells false [(.int .i64 x49), (.int .i64 x50), (.bool x51)])), (8, (.cells false [(.ptr 6 0)])), (9, (.cells false [(.bool (false))])), (11, (.cells false [(.yld 10)])), (12, (.cells false [(.int .i64 (400)), (.int .i64 (420))])), (13, (.cells false [(.int .i64 (50)), (.int .i64 (120))])), (14, (.cells false [(.fn 32 [] [])])), (16, (.cells false [(.int .i64 (400)), (.int .i64 (420))])), (17, (.cells false [(.int .i64 (50)), (.int .i64 (120))])), (18, (.cells false [(.int .i64 x61), (.int .i64 x62)])), (19, (.cells false [(.ifc 70 (.agg [(.int .i64 x61), (.int .i64 x62)]))])), (20, (.cells false [(.ptr 6 0)])), (21, (.cells false [(.bool (false))])), (23, (.cells false [(.ifc 70 (.agg [(.int .i64 x61), (.int .i64 x62)]))]))]), [], [], 26, false⟩, ⟨39, []⟩, [(.lop (pcOf F6 68 [0, 0, 0, 1, 1]) 24 (tmOf 26 [(0, (.int .i64 (60000))), (1, (.fn 69 [] [(.ptr 23 0)])), (4, (.int .i64 (0))), (5, (.int .i64 (0))), (6, (.int .i64 (60000))), (8, (.int .i64 (60000)))]) x73), (.blk 0), (.seq (pcOf F6 68 [1, 1, 1])), (.cal [(.tmp 4)] (.op (pcOf F6 46 [0, 1, 0, 1, 0, 1, 1, 1, 1]) 2 (some 26) ((opsOf (pcOf F6 46 [0, 1, 0, 1, 0, 1, 1, 1, 1]).c).toList.drop 2) (tmOf 35 [(0, (.agg [(.vs tGr (false) (S0.fst.snd)), (.int .i64 (20)), (.int .i64 (30)), (.int .i64 (50)), (.int .i64 (120))])), (1, (.agg [(.int .i64 (0)), (.int .i64 (0)), (.int .i64 (0)), (.int .i64 (8)), (.int .i64 (1))])), (2, (.vs tRe (true) ([]))), (3, (.ptr 0 0)), (4, (.ptr 1 0)), (6, (.int .i64 (0))), (7, (.int .i64 (0))), (8, (.int .i64 (0))), (9, (.ptr 6 0)), (10, (.ptr 7 0)), (11, (.ptr 23 0)), (12, (.tup [(.ptr 6 0), (.int .i64 (0))])), (13, (.agg [(.vs tGr (false) (S0.fst.snd)), (.int .i64 (20)), (.int .i64 (30)), (.int .i64 (50)), (.int .i64 (120))])), (14, (.agg [(.int .i64 (0)), (.int .i64 (0)), (.int .i64 (0)), (.int .i64 (8)), (.int .i64 (1))])), (15, (.vs tRe (true) ([]))), (16, (.tup [(.ptr 6 0), (.int .i64 (0))])), (17, (.ptr 6 0)), (18, (.int .i64 (0))), (19, (.int .i64 (0))), (20, (.bool (false))), (22, (.ptr 6 0)), (23, (.fn 63 [] [(.ptr 8 0), (.ptr 9 0)])), (24, (.ifc 70 (.agg [(.int .i64 x61), (.int .i64 x62)]))), (25, (.fn 69 [] [(.ptr 23 0)]))]) [] 35 true ⟨40, []⟩)), (.blk 1), (.rnd [] (.op (pcOf F6 63 [0, 1, 0, 1, 0, 1, 1, 0, 1]) 3 (some 22) ((opsOf (pcOf F6 63 [0, 1, 0, 1, 0, 1, 1, 0, 1]).c).toList.drop 3) (tmOf 24 [(0, (.yld 10)), (1, (.ptr 8 0)), (2, (.ptr 9 0)), (3, (.ptr 11 0)), (4, (.ptr 19 0)), (7, (.ptr 6 0)), (8, (.bool (false))), (9, (.fn 114 [] [(.ptr 12 0), (.ptr 13 0), (.ptr 14 0)])), (10, (.ifc 70 (.agg [(.int .i64 x61), (.int .i64 x62)]))), (11, (.ptr 6 0)), (12, (.bool (false))), (13, (.fn 93 [] [(.ptr 20 0), (.ptr 21 0)])), (20, (.yld 10)), (21, (.ifc 70 (.agg [(.int .i64 x61), (.int .i64 x62)])))]) [] 24 true ⟨39, [⟨10, 35, 40, (tmOf 35 [(0, (.agg [(.vs tGr (false) (S0.fst.snd)), (.int .i64 (20)), (.int .i64 (30)), (.int .i64 (50)), (.int .i64 (120))])), (1, (.agg [(.int .i64 (0)), (.int .i64 (0)), (.int .i64 (0)), (.int .i64 (8)), (.int .i64 (1))])), (2, (.vs tRe (true) ([]))), (3, (.ptr 0 0)), (4, (.ptr 1 0)), (6, (.int .i64 (0))), (7, (.int .i64 (0))), (8, (.int .i64 (0))), (9, (.ptr 6 0)), (10, (.ptr 7 0)), (12, (.tup [(.ptr 6 0), (.int .i64 (0))])), (13, (.agg [(.vs tGr (false) (S0.fst.snd)), (.int .i64 (20)), (.int .i64 (30)), (.int .i64 (50)), (.int .i64 (120))])), (14, (.agg [(.int .i64 (0)), (.int .i64 (0)), (.int .i64 (0)), (.int .i64 (8)), (.int .i64 (1))])), (15, (.vs tRe (true) ([]))), (16, (.tup [(.ptr 6 0), (.int .i64 (0))])), (17, (.ptr 6 0)), (18, (.int .i64 (0))), (19, (.int .i64 (0))), (20, (.bool (false))), (22, (.ptr 6 0)), (23, (.fn 63 [] [(.ptr 8 0), (.ptr 9 0)]))]), #[24], (pcOf F6 46 [0, 0, 1, 0, 1, 1, 1, 1]), (pcOf F6 46 [1, 0, 1, 0, 1, 1, 1, 1])⟩]⟩)), (.seq (pcOf F6 63 [1, 1, 0, 1, 0, 1, 1, 0, 1])), (.blk 1), (.rnd [] (.op (pcOf F6 114 [0, 1, 0, 0, 1, 1, 0, 0, 1, 1, 0, 0, 1, 1, 0, 0, 1]) 13 (some 29) ((opsOf (pcOf F6 114 [0, 1, 0, 0, 1, 1, 0, 0, 1, 1, 0, 0, 1, 1, 0, 0, 1]).c).toList.drop 13) (tmOf 33 [(0, (.yld 15)), (1, (.ptr 12 0)), (2, (.ptr 13 0)), (3, (.ptr 14 0)), (5, (.int .i64 x150)), (6, (.int .i64 x151)), (7, (.agg [(.int .i64 (400)), (.int .i64 (420))])), (8, (.int .i64 (21))), (9, (.int .i64 x150)), (10, (.bool (true))), (11, (.int .i64 x150)), (12, (.agg [(.int .i64 (50)), (.int .i64 (120))])), (13, (.int .i64 (71))), (14, (.int .i64 x151)), (15, (.bool (true))), (16, (.int .i64 x151)), (17, (.yld 15)), (18, (.fn 32 [] [])), (19, (.ptr 12 0)), (20, (.int .i64 (400))), (21, (.int .i64 x150)), (22, (.int .i64 x61)), (23, (.ptr 13 0)), (24, (.int .i64 (50))), (25, (.int .i64 x151)), (26, (.int .i64 x62)), (27, (.agg [(.int .i64 x61), (.int .i64 x62)])), (28, (.ifc 70 (.agg [(.int .i64 x61), (.int .i64 x62)])))]) [] 33 false ⟨38, [⟨15, 24, 39, (tmOf 24 [(0, (.yld 10)), (1, (.ptr 8 0)), (2, (.ptr 9 0)), (3, (.ptr 11 0)), (7, (.ptr 6 0)), (8, (.bool (false))), (9, (.fn 114 [] [(.ptr 12 0), (.ptr 13 0), (.ptr 14 0)]))]), #[10], (pcOf F6 63 [0, 0, 1, 1, 0, 1]), (pcOf F6 63 [1, 0, 1, 1, 0, 1])⟩, ⟨10, 35, 40, (tmOf 35 [(0, (.agg [(.vs tGr (false) (S0.fst.snd)), (.int .i64 (20)), (.int .i64 (30)), (.int .i64 (50)), (.int .i64 (120))])), (1, (.agg [(.int .i64 (0)), (.int .i64 (0)), (.int .i64 (0)), (.int .i64 (8)), (.int .i64 (1))])), (2, (.vs tRe (true) ([]))), (3, (.ptr 0 0)), (4, (.ptr 1 0)), (6, (.int .i64 (0))), (7, (.int .i64 (0))), (8, (.int .i64 (0))), (9, (.ptr 6 0)), (10, (.ptr 7 0)), (12, (.tup [(.ptr 6 0), (.int .i64 (0))])), (13, (.agg [(.vs tGr (false) (S0.fst.snd)), (.int .i64 (20)), (.int .i64 (30)), (.int .i64 (50)), (.int .i64 (120))])), (14, (.agg [(.int .i64 (0)), (.int .i64 (0)), (.int .i64 (0)), (.int .i64 (8)), (.int .i64 (1))])), (15, (.vs tRe (true) ([]))), (16, (.tup [(.ptr 6 0), (.int .i64 (0))])), (17, (.ptr 6 0)), (18, (.int .i64 (0))), (19, (.int .i64 (0))), (20, (.bool (false))), (22, (.ptr 6 0)), (23, (.fn 63 [] [(.ptr 8 0), (.ptr 9 0)]))]), #[24], (pcOf F6 46 [0, 0, 1, 0, 1, 1, 1, 1]), (pcOf F6 46 [1, 0, 1, 0, 1, 1, 1, 1])⟩]⟩)), (.seq (pcOf F6 114 [1, 1, 0, 0, 1, 1, 0, 0, 1, 1, 0, 0, 1, 1, 0, 0, 1])), (.blk 3), (.seq (pcOf F6 114 [1, 1, 1, 0, 0, 1, 1, 0, 0, 1, 1, 0, 0, 1])), (.lop (pcOf F6 114 [0, 0, 1, 1, 0, 0, 1, 1, 0, 0, 1]) 18 (tmOf 33 [(0, (.yld 15)), (1, (.ptr 12 0)), (2, (.ptr 13 0)), (3, (.ptr 14 0)), (5, (.int .i64 x150)), (7, (.agg [(.int .i64 (400)), (.int .i64 (420))])), (8, (.int .i64 (21))), (9, (.int .i64 x150)), (10, (.bool (true))), (11, (.int .i64 x150)), (12, (.agg [(.int .i64 (50)), (.int .i64 (120))])), (13, (.int .i64 (71))), (14, (.int .i64 (0)))]) x220), (.blk 2), (.blk 1), (.seq (pcOf F6 114 [1, 1, 1, 0, 0, 1])), (.lop (pcOf F6 114 [0, 0, 1]) 17 (tmOf 33 [(0, (.yld 15)), (1, (.ptr 12 0)), (2, (.ptr 13 0)), (3, (.ptr 14 0)), (7, (.agg [(.int .i64 (400)), (.int .i64 (420))])), (8, (.int .i64 (21))), (9, (.int .i64 (0)))]) x225), (.blk 0), (.cal [] (.rng (tmOf 24 [(0, (.yld 10)), (1, (.ptr 8 0)), (2, (.ptr 9 0)), (3, (.ptr 11 0)), (7, (.ptr 6 0)), (8, (.bool (false))), (9, (.fn 114 [] [(.ptr 12 0), (.ptr 13 0), (.ptr 14 0)]))]) [] 24 false ⟨39, [⟨10, 35, 40, (tmOf 35 [(0, (.agg [(.vs tGr (false) (S0.fst.snd)), (.int .i64 (20)), (.int .i64 (30)), (.int .i64 (50)), (.int .i64 (120))])), (1, (.agg [(.int .i64 (0)), (.int .i64 (0)), (.int .i64 (0)), (.int .i64 (8)), (.int .i64 (1))])), (2, (.vs tRe (true) ([]))), (3, (.ptr 0 0)), (4, (.ptr 1 0)), (6, (.int .i64 (0))), (7, (.int .i64 (0))), (8, (.int .i64 (0))), (9, (.ptr 6 0)), (10, (.ptr 7 0)), (12, (.tup [(.ptr 6 0), (.int .i64 (0))])), (13, (.agg [(.vs tGr (false) (S0.fst.snd)), (.int .i64 (20)), (.int .i64 (30)), (.int .i64 (50)), (.int .i64 (120))])), (14, (.agg [(.int .i64 (0)), (.int .i64 (0)), (.int .i64 (0)), (.int .i64 (8)), (.int .i64 (1))])), (15, (.vs tRe (true) ([]))), (16, (.tup [(.ptr 6 0), (.int .i64 (0))])), (17, (.ptr 6 0)), (18, (.int .i64 (0))), (19, (.int .i64 (0))), (20, (.bool (false))), (22, (.ptr 6 0)), (23, (.fn 63 [] [(.ptr 8 0), (.ptr 9 0)]))]), #[24], (pcOf F6 46 [0, 0, 1, 0, 1, 1, 1, 1]), (pcOf F6 46 [1, 0, 1, 0, 1, 1, 1, 1])⟩]⟩)), (.blk 0), (.cal [] (.rng (tmOf 35 [(0, (.agg [(.vs tGr (false) (S0.fst.snd)), (.int .i64 (20)), (.int .i64 (30)), (.int .i64 (50)), (.int .i64 (120))])), (1, (.agg [(.int .i64 (0)), (.int .i64 (0)), (.int .i64 (0)), (.int .i64 (8)), (.int .i64 (1))])), (2, (.vs tRe (true) ([]))), (3, (.ptr 0 0)), (4, (.ptr 1 0)), (6, (.int .i64 (0))), (7, (.int .i64 (0))), (8, (.int .i64 (0))), (9, (.ptr 6 0)), (10, (.ptr 7 0)), (12, (.tup [(.ptr 6 0), (.int .i64 (0))])), (13, (.agg [(.vs tGr (false) (S0.fst.snd)), (.int .i64 (20)), (.int .i64 (30)), (.int .i64 (50)), (.int .i64 (120))])), (14, (.agg [(.int .i64 (0)), (.int .i64 (0)), (.int .i64 (0)), (.int .i64 (8)), (.int .i64 (1))])), (15, (.vs tRe (true) ([]))), (16, (.tup [(.ptr 6 0), (.int .i64 (0))])), (17, (.ptr 6 0)), (18, (.int .i64 (0))), (19, (.int .i64 (0))), (20, (.bool (false))), (22, (.ptr 6 0)), (23, (.fn 63 [] [(.ptr 8 0), (.ptr 9 0)]))]) [] 35 false ⟨40, []⟩)), (.blk 0), (.seq (pcOf F6 46 [1, 1, 1, 1, 1])), (.cal [(.tmp 6), (.tmp 7), (.tmp 8)] .top)]⟩
theorem ffar_start (u : Unit) : adv F6 (Z6 [68, 114]) 3000 (startC F6 46 [tSt.av S0, tNi.av N0, .vs tRe true []] 40) = some (.stop (ffarI0 u (0) (0) (0) (false) (1048575))) := by kernel_rfl
theorem ffar_step0 (u : Unit) (x3 : Int) (x48 : Int) (x49 : Int) (x50 : Bool) (x97 : Nat) : adv F6 (Z6 [68, 114]) 3000 (ffarI0 u x3 x48 x49 x50 (x97 + 1)) = (bif !ile 21 x3 then some (.stop (ffarI1 u (x3) (0) (x48) (x49) (x50) (1048575) (x97 + 1))) else (bif x50 then (bif ieq x49 x49 then (bif ieq x49 x49 then (bif ieq x48 x48 then (bif ieq x48 x48 then some (.done (.tup [(.int .i64 (x48)), (.int .i64 (x49)), (.int .i64 (0))])) else none) else none) else none) else none) else (bif ieq x49 x49 then (bif ieq x49 x49 then (bif ieq x48 x48 then (bif ieq x48 x48 then some (.done (.tup [(.int .i64 (x48)), (.int .i64 (x49)), (.int .i64 (9))])) else none) else none) else none) else none))) := by kernel_rfl
theorem ffar_step1 (u : Unit) (x0 : Int) (x10 : Int) (x55 : Int) (x56 : Int) (x57 : Bool) (x113 : Nat) (x118 : Nat) : adv F6 (Z6 [68, 114]) 3000 (ffarI1 u x0 x10 x55 x56 x57 (x113 + 1) (x118 + 1)) = (bif !ile 71 x10 then some (.stop (ffarI2 u (0) (60000) (x55) (x56) (x57) (wr IntKind.i64 (400 + x0)) (wr IntKind.i64 (50 + x10)) (1048575) (x0) (x10) (x113 + 1) (x118 + 1))) else some (.stop (ffarI0 u (wr IntKind.i64 (x0 + 1)) (x55) (x56) (x57) (x118)))) := by kernel_rfl
theorem ffar_step2 (u : Unit) (x2 : Int) (x3 : Int) (x49 : Int) (x50 : Int) (x51 : Bool) (x61 : Int) (x62 : Int) (x73 : Nat) (x150 : Int) (x151 : Int) (x220 : Nat) (x225 : Nat) : adv F6 (Z6 [68, 114]) 3000 (ffarI2 u x2 x3 x49 x50 x51 x61 x62 (x73 + 1) x150 x151 (x220 + 1) (x225 + 1)) = (let z1 := (wr IntKind.i64 ((wr IntKind.u64 (wr IntKind.i64 (x2 + x3))).fdiv (2 ^ min (Int.toNat 1) IntKind.u64.bits)) + 1); (bif !ile x3 x2 then (bif lcB x61 x62 (wr IntKind.i64 (wr IntKind.i64 z1 * wr IntKind.i64 z1)) then (bif avbeq (AV.ifc 70 (AV.agg [AV.int IntKind.i64 x61, AV.int IntKind.i64 x62])) (AV.ifc 70 (AV.agg [AV.int IntKind.i64 x61, AV.int IntKind.i64 x62])) then (bif avbeq (AV.ifc 70 (AV.agg [AV.int IntKind.i64 x61, AV.int IntKind.i64 x62])) (AV.ifc 70 (AV.agg [AV.int IntKind.i64 x61, AV.int IntKind.i64 x62])) then (bif !!seenF x61 x62 (wr IntKind.i64 (wr IntKind.i64 z1 * wr IntKind.i64 z1)) then some (.stop (ffarI2 u (wr IntKind.i64 z1) (x3) (x49) (x50) (x51) (x61) (x62) (x73) (x150) (x151) (x220 + 1) (x225 + 1))) else some (.stop (ffarI2 u (x2) (wr IntKind.i64 ((wr IntKind.u64 (wr IntKind.i64 (x2 + x3))).fdiv (2 ^ min (Int.toNat 1) IntKind.u64.bits))) (x49) (x50) (x51) (x61) (x62) (x73) (x150) (x151) (x220 + 1) (x225 + 1)))) else none) else none) else none) else (bif !x51 then (bif ieq x2 x2 then (bif ieq x2 x2 then some (.stop (ffarI1 u (x150) (wr IntKind.i64 (x151 + 1)) (bif ile x2 x2 then x2 else x2) (bif ile x2 x2 then x2 else x2) (true) (x220) (x225 + 1))) else none) else none) else (bif ieq x50 x50 then (bif ieq x49 x49 then some (.stop (ffarI1 u (x150) (wr IntKind.i64 (x151 + 1)) (bif ile x49 x2 then x49 else x2) (bif ile x2 x50 then x50 else x2) (x51) (x220) (x225 + 1))) else none) else none)))) := by kernel_rfl
/-! ### Far, of the examples -/
noncomputable def srch (c k : Int) : Nat → Int → Int → Int
  | 0, lo, _ => lo
  | r + 1, lo, hi => bif ile hi lo then lo else (bif seenF c k (((lo + hi) / 2 + 1) * ((lo + hi) / 2 + 1)) then srch c k r ((lo + hi) / 2 + 1) hi else srch c k r lo ((lo + hi) / 2))
abbrev En3 := Int × Int × Bool
noncomputable def ffarS (i k : Nat) (t : En3) : En3 := (mtL t (srch (400 + i) (50 + k) 17 0 60000), mtH t (srch (400 + i) (50 + k) 17 0 60000), true)
noncomputable def ffarR (i : Nat) : Nat → Nat → En3 → En3
  | 0, _, t => t
  | r + 1, k, t => ffarR i r (k + 1) (ffarS i k t)
noncomputable def ffarA : Nat → Nat → En3 → En3
  | 0, _, t => t
  | r + 1, i, t => ffarA r (i + 1) (ffarR i 71 0 t)
theorem avb_self (a b : Int) : avbeq (AV.ifc 70 (AV.agg [AV.int IntKind.i64 a, AV.int IntKind.i64 b])) (AV.ifc 70 (AV.agg [AV.int IntKind.i64 a, AV.int IntKind.i64 b])) = true := by
  have e : ieq a a = true := ieq_self a
  have e2 : ieq b b = true := ieq_self b
  show (bif ieq a a then _ else false) = true
  rw [e]
  show (bif ieq b b then _ else false) = true
  rw [e2]
  rfl
theorem wu_in {n : Int} (h1 : 0 ≤ n) (h2 : n ≤ 9223372036854775807) : wr .u64 n = n := by
  show IntKind.u64.wrap n = n
  simp only [IntKind.wrap, IntKind.signed, IntKind.bits]
  simp
  omega
theorem mid_eq {lo hi : Int} (h1 : 0 ≤ lo) (h2 : lo ≤ hi) (h3 : hi ≤ 60000) : wr IntKind.i64 ((wr IntKind.u64 (wr IntKind.i64 (lo + hi))).fdiv (2 ^ min (Int.toNat 1) IntKind.u64.bits)) = (lo + hi) / 2 := by
  have e1 : wr IntKind.i64 (lo + hi) = lo + hi := wr_in (by omega) (by omega)
  have e2 : wr IntKind.u64 (lo + hi) = lo + hi := wu_in (by omega) (by omega)
  have e3 : (2 : Int) ^ min (Int.toNat 1) IntKind.u64.bits = 2 := rfl
  rw [e1, e2, e3, Int.fdiv_eq_ediv_of_nonneg _ (by omega)]
  exact wr_in (by omega) (by omega)
theorem far_srch {v : AV} (i k : Nat) (hi : i ≤ 20) (hk : k ≤ 70) (a b : Int) (x : Bool) (m1 M : Nat) : ∀ (r m : Nat) (lo up : Int), r < m → 0 ≤ lo → lo ≤ up → up ≤ 60000 → up - lo < 2 ^ r → Ans F6 (ffarI1 () i ((k + 1 : Nat) : Int) (mtL (a, b, x) (srch (400 + i) (50 + k) r lo up)) (mtH (a, b, x) (srch (400 + i) (50 + k) r lo up)) true m1 (M + 1)) v → Ans F6 (ffarI2 () lo up a b x (400 + i) (50 + k) m i k (m1 + 1) (M + 1)) v
  | r, m + 1, lo, up, hr, h0, h1, h2, h3, K => by
    have h := ffar_step2 () lo up a b x (400 + i) (50 + k) m i k m1 M
    cases c : ile up lo with
    | true =>
      rw [c, Bool.not_true, cond_false] at h
      have e : srch (400 + i) (50 + k) r lo up = lo := by
        cases r with
        | zero => rfl
        | succ r => rw [srch, c, cond_true]
      rw [e] at K
      unfold mtL mtH at K
      simp only [ieq_self, wr_succ (show k < 1048577 by omega), cond_true] at h
      cases x <;> simp only [Bool.not_true, Bool.not_false, cond_true, cond_false] at h K <;> exact .stop (Z6_ok _) F6sy h K
    | false =>
      have hlt : lo < up := by rw [ile_iff, decide_eq_false_iff_not] at c; omega
      rw [c, Bool.not_false, cond_true, mid_eq h0 h1 h2] at h
      have hm : 0 ≤ (lo + up) / 2 ∧ (lo + up) / 2 < up ∧ lo ≤ (lo + up) / 2 := by omega
      have w1 : wr .i64 ((lo + up) / 2 + 1) = (lo + up) / 2 + 1 := wr_in (by omega) (by omega)
      obtain ⟨q1, q2, q3⟩ := sq6 (x := (lo + up) / 2 + 1) (by omega) (by omega)
      have l0 : lcB (400 + i) (50 + k) (((lo + up) / 2 + 1) * ((lo + up) / 2 + 1)) = true := lc_in hi hk q2 (by omega)
      simp only [w1, q1, l0, avb_self, Bool.not_not, cond_true] at h
      cases r with
      | zero => exact absurd h3 (by simp; omega)
      | succ r =>
        rw [srch, c, cond_false] at K
        rw [Int.pow_succ] at h3
        cases s0 : seenF (400 + i) (50 + k) (((lo + up) / 2 + 1) * ((lo + up) / 2 + 1)) with
        | true =>
          rw [s0, cond_true] at h K
          exact .stop (Z6_ok _) F6sy h (far_srch i k hi hk a b x m1 M r m _ _ (by omega) (by omega) (by omega) h2 (by omega) K)
        | false =>
          rw [s0, cond_false] at h K
          exact .stop (Z6_ok _) F6sy h (far_srch i k hi hk a b x m1 M r m _ _ (by omega) h0 (by omega) (by omega) (by omega) K)
theorem ffar_in {v : AV} (i : Nat) (hi : i ≤ 20) (M : Nat) : ∀ (r k m : Nat) (t : En3), k + r = 71 → r < m → Ans F6 (ffarI0 () ((i + 1 : Nat) : Int) (ffarR i r k t).1 (ffarR i r k t).2.1 (ffarR i r k t).2.2 M) v → Ans F6 (ffarI1 () i k t.1 t.2.1 t.2.2 m (M + 1)) v
  | 0, k, m + 1, t, hk, hm, K => by
    have h := ffar_step1 () i k t.1 t.2.1 t.2.2 m M
    have e : k = 71 := by omega
    subst e
    rw [show ile 71 ((71 : Nat) : Int) = true from rfl, Bool.not_true, cond_false, wr_succ (show i < 1048577 by omega)] at h
    exact .stop (Z6_ok _) F6sy h K
  | r + 1, k, m + 1, t, hk, hm, K => by
    obtain ⟨a, b, x⟩ := t
    have h := ffar_step1 () i k a b x m M
    rw [show ile 71 (k : Int) = false from ile_f (by omega), Bool.not_false, cond_true, wr_in (n := 400 + (i : Int)) (by omega) (by omega), wr_in (n := 50 + (k : Int)) (by omega) (by omega)] at h
    rw [ffarR] at K
    have K2 := ffar_in i hi M r (k + 1) m (ffarS i k (a, b, x)) (by omega) (by omega) K
    clear K
    have p17 : (60000 : Int) - 0 < 2 ^ 17 := by decide
    unfold ffarS at K2
    dsimp only at K2
    exact .stop (Z6_ok _) F6sy h (far_srch i k hi (by omega) a b x m M 17 1048575 0 60000 (by omega) (by omega) (by omega) (by omega) p17 K2)
theorem ffar_out : ∀ (r i m : Nat) (t : En3), i + r = 21 → r < m → Ans F6 (ffarI0 () i t.1 t.2.1 t.2.2 m) (.tup [.int .i64 (ffarA r i t).1, .int .i64 (ffarA r i t).2.1, .int .i64 (bif (ffarA r i t).2.2 then 0 else 9)])
  | 0, i, m + 1, t, hi, hm => by
    obtain ⟨a, b, x⟩ := t
    have h := ffar_step0 () i a b x m
    have e : i = 21 := by omega
    subst e
    simp only [show ile 21 ((21 : Nat) : Int) = true from rfl, Bool.not_true, cond_false, ieq_self, cond_true] at h
    cases x <;> exact .done (Z6_ok _) F6sy h rfl
  | r + 1, i, m + 1, t, hi, hm => by
    have h := ffar_step0 () i t.1 t.2.1 t.2.2 m
    rw [show ile 21 (i : Int) = false from ile_f (by omega), Bool.not_false, cond_true] at h
    exact .stop (Z6_ok _) F6sy h (ffar_in i (by omega) m 71 0 1048575 t (by omega) (by omega) (ffar_out r (i + 1) m _ (by omega) (by omega)))
theorem ffar_fin : ffarA 21 0 (0, 0, false) = (10000, 14491, true) := by kernel_rfl
theorem ffar_ans : Ans F6 (startC F6 46 [tSt.av S0, tNi.av N0, .vs tRe true []] 40) (.tup [.int .i64 10000, .int .i64 14491, .int .i64 0]) := by
  have h := ffar_out 21 0 1048575 (0, 0, false) (by omega) (by omega)
  rw [ffar_fin] at h
  exact .stop (Z6_ok _) F6sy (ffar_start ()) h
end Go.Proofs.YtlbonihgofbanaaGreatDoor

/-
  LOOPS, told by their heads.
-/
set_option maxRecDepth 100000
namespace Go.Proofs.YtlbonihgofbanaaGreatDoor
open Go Go.Eng
/-! ### A level where the first light is known not to be seen at 13000 -/
noncomputable def frst (a b q : Int) : Bool := ieq q 169000000 && ieq a 400 && ieq b 50
noncomputable def LY : List Said := [(33, con2 tP tP (fun l s => bif ieq s.1 100000000 then lcO l.1 l.2.1 s.1 && snO l.1 l.2.1 s.1 else (bif frst l.1 l.2.1 s.1 then lcO l.1 l.2.1 s.1 && !snO l.1 l.2.1 s.1 else lcO l.1 l.2.1 s.1)) (fun l s => bif ieq s.1 100000000 then .bool true else .bool (bif frst l.1 l.2.1 s.1 then false else snO l.1 l.2.1 s.1)))]
theorem LY_ok : ∀ e ∈ LY, SaidG Tryz.prog F2.glob e :=
  saids_cons (SaidOK.g f2 xf2 nf2 tabs_ok.mix (fun _ _ h => con2_spec (t := tP) (u := tP) (fun l s hc => by
    dsimp only at hc ⊢
    cases e : ieq s.1 100000000 with
    | true =>
      rw [e, cond_true, Bool.and_eq_true, lcO_eq, snO_eq] at hc
      rw [cond_true]
      have := lrea_call l s hc.1
      rw [hc.2] at this
      exact this
    | false =>
      rw [e, cond_false] at hc
      rw [cond_false]
      cases e2 : frst l.1 l.2.1 s.1 with
      | true =>
        rw [e2, cond_true, Bool.and_eq_true, lcO_eq, snO_eq] at hc
        rw [cond_true]
        have := lrea_call l s hc.1
        rw [show seenF l.1 l.2.1 s.1 = false by simpa using hc.2] at this
        exact this
      | false =>
        rw [e2, cond_false, lcO_eq] at hc
        rw [cond_false, snO_eq]
        exact lrea_call l s hc) h) rfl) saids_nil
noncomputable def F8 : Env := F6.say (under (xOf LY))
theorem f8 : EnvOK Tryz.prog F8 := f6.say _
theorem nf8 : NameOK F8 := nf6.say _
theorem xf8 : ExtOK Tryz.prog F8 := xf6.sayL LY_ok
theorem F8sy : F8.sy = true := rfl
noncomputable def Z8 (l : List Nat) : Sy := { (Z6 []).on LY l with pl := false }
theorem Z8_ok (l : List Nat) : (Z8 l).ok F8 := Sy.on_ok (E := F6) (L := LY) (hd := l) (Z6_ok _)
end Go.Proofs.YtlbonihgofbanaaGreatDoor

