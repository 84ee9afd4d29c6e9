/-
  THE ENGINE: one more part of it.
-/
import Derived.Test.YtpnipaimaohiaaaGreatDoorPart03
set_option linter.unusedSectionVars false
set_option linter.unusedSimpArgs false
set_option linter.unusedVariables false
set_option maxRecDepth 100000
namespace Go.Proofs.YtpnipaimaohiaaaGreatDoor
open Go Go.Eng
noncomputable def pchkk1 (z0:tSt.den):AO:=(cF [(.vs tGr (z0.1.1) (z0.1.2)),(iI (z0.2.1.1)),(iI (z0.2.1.2.1)),(iI (z0.2.2.1.1)),(iI (z0.2.2.1.2.1))])
noncomputable def pchkk0 (z0:tSt.den):AV:=(.agg [(.vs tGr (z0.1.1) (z0.1.2)),(iI (z0.2.1.1)),(iI (z0.2.1.2.1)),(iI (z0.2.2.1.1)),(iI (z0.2.2.1.2.1))])
noncomputable def pchkI0 (s:tSt.den) (x7:Int) (x20:List (AV×AV)) (x29:Nat) (x69:Nat):Cfg:=⟨.ex (pcOf F4 101 [0,0,1,0,1]) ⟨(tmOf 24 [(0,(.vs tGr (s.1.1) (s.1.2))),(1,(.fn 102 [] [(pP 4 0)])),(4,(iI 0)),(5,(iI 0)),(9,(.vs tGr (s.1.1) (s.1.2))),(10,(iI (Int.ofNat s.1.2.length))),(11,(iI x7))]),(hpOf 5 [(0,(pchkk1 s)),(1,(cF [(.fn 74 [] []),(.fn 75 [] [])])),(2,(pchkk1 s)),(3,(.map x20)),(4,(cF [(.mp 3)]))]),[],[],24,false⟩,⟨10,[]⟩,[(.lop (pcOf F4 101 [0,0,1,0,1]) 5 (tmOf 24 [(0,(.vs tGr (s.1.1) (s.1.2))),(1,(.fn 102 [] [(pP 4 0)])),(4,(iI 0)),(5,(iI 0)),(9,(.vs tGr (s.1.1) (s.1.2))),(10,(iI (Int.ofNat s.1.2.length))),(11,(iI 0))]) x29),(.blk 0),(.seq (pcOf F4 101 [1,1])),(.cal [(.tmp 4),(.tmp 5)] (.op (pcOf F4 75 [0,1,1]) 4 (some 9) ((opsOf (pcOf F4 75 [0,1,1]).c).toList.drop 4) (tmOf 12 [(0,(pchkk0 s)),(1,(pP 2 0)),(2,(iI 0)),(3,(iI 0)),(4,(pP 4 0)),(5,(.mp 3)),(6,(pP 2 0)),(7,(.vs tGr (s.1.1) (s.1.2))),(8,(.fn 102 [] [(pP 4 0)]))]) [] 12 false ⟨11,[]⟩)),(.seq (pcOf F4 75 [1,1,1])),(.cal [(.tmp 2),(.tmp 3)] (.op (pcOf F4 52 [0,1,0,0,1,1,0,0,1,0,1,1]) 3 (some 19) ((opsOf (pcOf F4 52 [0,1,0,0,1,1,0,0,1,0,1,1]).c).toList.drop 3) (tmOf 29 [(0,(pchkk0 s)),(1,(pP 0 0)),(2,(iI 0)),(3,(iI 0)),(4,(iI 0)),(5,(pP 1 0)),(6,(iI 1)),(7,(.fn 75 [] [])),(10,(.agg [(.fn 74 [] []),(.fn 75 [] [])])),(11,(.agg [(.fn 74 [] []),(.fn 75 [] [])])),(12,(iI 1)),(13,(.bool true)),(14,(iI 1)),(15,(.fn 75 [] [])),(17,(.fn 75 [] [])),(18,(pchkk0 s))]) [] 29 false ⟨12,[]⟩)),(.seq (pcOf F4 52 [1,1,0,0,1,1,0,0,1,0,1,1])),(.blk 1),(.seq (pcOf F4 52 [1,1,1,0,0,1,0,1,1])),(.lop (pcOf F4 52 [0,0,1,0,1,1]) 2 (tmOf 29 [(0,(pchkk0 s)),(1,(pP 0 0)),(2,(iI 0)),(3,(iI 0)),(4,(iI 0)),(5,(pP 1 0)),(10,(.agg [(.fn 74 [] []),(.fn 75 [] [])])),(11,(.agg [(.fn 74 [] []),(.fn 75 [] [])])),(12,(iI 0))]) x69),(.blk 0),(.seq (pcOf F4 52 [1,1,1])),(.cal [(.tmp 2),(.tmp 3),(.tmp 4)] .top)]⟩
theorem pchk_start (s:tSt.den):adv F4 (Z4 [101]) 3000 (startC F4 52 [tSt.av s] 12)=(bif !ile 1 ↑s.1.2.length then some (.done (.tup [(.int .i64 (1)),(.int .i64 (0)),(.int .i64 (3))])) else (bif !ile (↑s.1.2.length) 4 then some (.done (.tup [(.int .i64 (1)),(.int .i64 (0)),(.int .i64 (3))])) else (bif !ile 1 s.2.1.1 then some (.done (.tup [(.int .i64 (1)),(.int .i64 (0)),(.int .i64 (7))])) else (bif !ile s.2.1.1 200 then some (.done (.tup [(.int .i64 (1)),(.int .i64 (0)),(.int .i64 (7))])) else (bif !ile 1 s.2.1.2.1 then some (.done (.tup [(.int .i64 (1)),(.int .i64 (0)),(.int .i64 (7))])) else (bif !ile s.2.1.2.1 200 then some (.done (.tup [(.int .i64 (1)),(.int .i64 (0)),(.int .i64 (7))])) else (bif !ile 1 s.2.2.1.1 then some (.done (.tup [(.int .i64 (1)),(.int .i64 (0)),(.int .i64 (7))])) else (bif !ile s.2.2.1.1 300 then some (.done (.tup [(.int .i64 (1)),(.int .i64 (0)),(.int .i64 (7))])) else (bif !ile 1 s.2.2.1.2.1 then some (.done (.tup [(.int .i64 (1)),(.int .i64 (0)),(.int .i64 (7))])) else (bif !ile s.2.2.1.2.1 300 then some (.done (.tup [(.int .i64 (1)),(.int .i64 (0)),(.int .i64 (7))])) else (bif !ile s.2.1.1 s.2.1.2.1 then some (.done (.tup [(.int .i64 (1)),(.int .i64 (0)),(.int .i64 (2))])) else (bif !ile s.2.2.1.1 s.2.2.1.2.1 then some (.done (.tup [(.int .i64 (1)),(.int .i64 (0)),(.int .i64 (2))])) else some (.stop (pchkI0 s (0) ([]) (1048575) (1048574))))))))))))))):=by kernel_rfl
theorem pchk_step0 (s:tSt.den) (x7:Int) (x20:List (AV×AV)) (x29:Nat) (x69:Nat):adv F4 (Z4 [101]) 3000 (pchkI0 s x7 x20 (x29+1) (x69+1))=(bif !ile (Int.ofNat s.1.2.length) x7 then (bif inB x7 s.1.2.length then (bif !nameS (s.1.2.getD x7.toNat tGr.dflt).1 then some (.done (.tup [(.int .i64 (2)),(.int .i64 (x7)),(.int .i64 (6))])) else (bif okSB x20 then (bif getSB (s.1.2.getD x7.toNat tGr.dflt).1 x20 then some (.done (.tup [(.int .i64 (2)),(.int .i64 (x7)),(.int .i64 (5))])) else (bif okSB x20 then (bif !ile 1 (s.1.2.getD x7.toNat tGr.dflt).2.1.1 then some (.done (.tup [(.int .i64 (2)),(.int .i64 (x7)),(.int .i64 (7))])) else (bif !ile (s.1.2.getD x7.toNat tGr.dflt).2.1.1 5000 then some (.done (.tup [(.int .i64 (2)),(.int .i64 (x7)),(.int .i64 (7))])) else (bif plO (AO.map (setSB (s.1.2.getD x7.toNat tGr.dflt).1 true x20)) then (bif !ile 1 (s.1.2.getD x7.toNat tGr.dflt).2.1.2.1 then some (.done (.tup [(.int .i64 (2)),(.int .i64 (x7)),(.int .i64 (7))])) else (bif !ile (s.1.2.getD x7.toNat tGr.dflt).2.1.2.1 5000 then some (.done (.tup [(.int .i64 (2)),(.int .i64 (x7)),(.int .i64 (7))])) else (bif plO (AO.map (setSB (s.1.2.getD x7.toNat tGr.dflt).1 true x20)) then (bif !ile 0 (s.1.2.getD x7.toNat tGr.dflt).2.2.1 then some (.done (.tup [(.int .i64 (2)),(.int .i64 (x7)),(.int .i64 (7))])) else (bif !ile (s.1.2.getD x7.toNat tGr.dflt).2.2.1 1000 then some (.done (.tup [(.int .i64 (2)),(.int .i64 (x7)),(.int .i64 (7))])) else (bif plO (AO.map (setSB (s.1.2.getD x7.toNat tGr.dflt).1 true x20)) then (bif !ile (s.1.2.getD x7.toNat tGr.dflt).2.1.1 (s.1.2.getD x7.toNat tGr.dflt).2.1.2.1 then some (.done (.tup [(.int .i64 (2)),(.int .i64 (x7)),(.int .i64 (2))])) else (bif !ile (s.1.2.getD x7.toNat tGr.dflt).2.1.2.1 (wr .i64 ((s.1.2.getD x7.toNat tGr.dflt).2.1.1+40)) then some (.done (.tup [(.int .i64 (2)),(.int .i64 (x7)),(.int .i64 (2))])) else (bif plO (AO.map (setSB (s.1.2.getD x7.toNat tGr.dflt).1 true x20)) then some (.stop (pchkI0 s (wr .i64 (x7+1)) (setSB (s.1.2.getD x7.toNat tGr.dflt).1 true x20) (x29) (x69+1))) else none))) else none))) else none))) else none))) else none)) else none)) else none) else some (.done (.tup [(.int .i64 (0)),(.int .i64 (0)),(.int .i64 (0))]))):=by kernel_rfl
noncomputable def rchkk2 (z0:tSt.den):AV:=(.agg [(.vs tGr (z0.1.1) (z0.1.2)),(iI (z0.2.1.1)),(iI (z0.2.1.2.1)),(iI (z0.2.2.1.1)),(iI (z0.2.2.1.2.1))])
noncomputable def rchkk1 (z0:tSt.den):AV:=(iI (rngE z0.2.1.1 z0.2.1.2.1 1 200))
noncomputable def rchkk0 (z0:tSt.den):AV:=(iI (rngE z0.2.2.1.1 z0.2.2.1.2.1 1 300))
noncomputable def rchkQ0 (s:tSt.den):Tmps:=(tmOf 83 [(0,(rchkk2 s)),(1,(pP 0 0)),(2,(iI 0)),(3,(iI 0)),(4,(iI 0)),(5,(rchkk1 s)),(6,(rchkk0 s)),(7,.nils),(8,(iI 0)),(10,(pP 0 0)),(11,(.vs tGr (s.1.1) (s.1.2))),(12,(iI (Int.ofNat s.1.2.length))),(13,(.bool (ile (↑s.1.2.length) 4))),(14,(.bool false)),(15,(pP 0 1)),(16,(.agg [(iI (s.2.1.1)),(iI (s.2.1.2.1))])),(17,(rchkk1 s)),(18,(pP 0 3)),(19,(.agg [(iI (s.2.2.1.1)),(iI (s.2.2.1.2.1))])),(20,(rchkk0 s)),(21,(rchkk1 s)),(22,(.bool (ieq (rngE s.2.1.1 s.2.1.2.1 1 200) 7))),(23,(.bool false)),(24,(rchkk0 s)),(25,(.bool (ieq (rngE s.2.2.1.1 s.2.2.1.2.1 1 300) 7))),(26,(.bool false)),(27,(rchkk1 s)),(28,(.bool (!ieq (rngE s.2.1.1 s.2.1.2.1 1 200) 0))),(29,(.bool false)),(30,(rchkk0 s)),(31,(.bool (!ieq (rngE s.2.2.1.1 s.2.2.1.2.1 1 300) 0))),(32,(.bool false))])
noncomputable def rchkk3 (z0:tSt.den):AO:=(cF [(.vs tGr (z0.1.1) (z0.1.2)),(iI (z0.2.1.1)),(iI (z0.2.1.2.1)),(iI (z0.2.2.1.1)),(iI (z0.2.2.1.2.1))])
noncomputable def rchkI0 (s:tSt.den) (x76:Nat):Cfg:=⟨.ex (pcOf F4 34 [0,0,1,0,1,1,1,1,1,1]) ⟨(rchkQ0 s),(hpOf 1 [(0,(rchkk3 s))]),[],[],83,false⟩,⟨12,[]⟩,[(.lop (pcOf F4 34 [0,0,1,0,1,1,1,1,1,1]) 1 (rchkQ0 s) x76),(.blk 0),(.seq (pcOf F4 34 [1,1,1,1,1,1,1])),(.cal [(.tmp 2),(.tmp 3),(.tmp 4)] .top)]⟩
noncomputable def rchkI1 (s:tSt.den) (x79:Nat):Cfg:=⟨.ex (pcOf F4 34 [0,0,1,0,1,1,1,1,1,1]) ⟨(tmOf 83 [(0,(rchkk2 s)),(1,(pP 0 0)),(2,(iI 0)),(3,(iI 0)),(4,(iI 0)),(5,(iI (rngE (s.1.2.getD (Int.toNat 0) tGr.dflt).2.1.1 (s.1.2.getD (Int.toNat 0) tGr.dflt).2.1.2.1 1 5000))),(6,(rchkk0 s)),(7,(.sl 1 0 (1) (1) 1)),(8,(iI 1)),(10,(pP 0 0)),(11,(.vs tGr (s.1.1) (s.1.2))),(12,(iI (Int.ofNat s.1.2.length))),(13,(.bool (ile (↑s.1.2.length) 4))),(14,(.bool false)),(15,(pP 0 1)),(16,(.agg [(iI (s.2.1.1)),(iI (s.2.1.2.1))])),(17,(rchkk1 s)),(18,(pP 0 3)),(19,(.agg [(iI (s.2.2.1.1)),(iI (s.2.2.1.2.1))])),(20,(rchkk0 s)),(21,(rchkk1 s)),(22,(.bool (ieq (rngE s.2.1.1 s.2.1.2.1 1 200) 7))),(23,(.bool false)),(24,(rchkk0 s)),(25,(.bool (ieq (rngE s.2.2.1.1 s.2.2.1.2.1 1 300) 7))),(26,(.bool false)),(27,(rchkk1 s)),(28,(.bool (!ieq (rngE s.2.1.1 s.2.1.2.1 1 200) 0))),(29,(.bool false)),(30,(rchkk0 s)),(31,(.bool (!ieq (rngE s.2.2.1.1 s.2.2.1.2.1 1 300) 0))),(32,(.bool false))]),(hpOf 2 [(0,(rchkk3 s)),(1,(cF ([AV.str (s.1.2.getD (Int.toNat 0) tGr.dflt).1])))]),[],[],83,false⟩,⟨12,[]⟩,[(.lop (pcOf F4 34 [0,0,1,0,1,1,1,1,1,1]) 1 (rchkQ0 s) x79),(.blk 0),(.seq (pcOf F4 34 [1,1,1,1,1,1,1])),(.cal [(.tmp 2),(.tmp 3),(.tmp 4)] .top)]⟩
noncomputable def rchkI2 (s:tSt.den) (x9:Int) (x11:Nat) (x13:Int) (x43:List AV) (x79:Nat):Cfg:=⟨.ex (pcOf F4 34 [0,0,1,0,1,1,1,1,1,1]) ⟨(tmOf 83 [(0,(rchkk2 s)),(1,(pP 0 0)),(2,(iI 0)),(3,(iI 0)),(4,(iI 0)),(5,(iI x9)),(6,(rchkk0 s)),(7,(.sl 1 0 x11 x11 1)),(8,(iI x13)),(10,(pP 0 0)),(11,(.vs tGr (s.1.1) (s.1.2))),(12,(iI (Int.ofNat s.1.2.length))),(13,(.bool (ile (↑s.1.2.length) 4))),(14,(.bool false)),(15,(pP 0 1)),(16,(.agg [(iI (s.2.1.1)),(iI (s.2.1.2.1))])),(17,(rchkk1 s)),(18,(pP 0 3)),(19,(.agg [(iI (s.2.2.1.1)),(iI (s.2.2.1.2.1))])),(20,(rchkk0 s)),(21,(rchkk1 s)),(22,(.bool (ieq (rngE s.2.1.1 s.2.1.2.1 1 200) 7))),(23,(.bool false)),(24,(rchkk0 s)),(25,(.bool (ieq (rngE s.2.2.1.1 s.2.2.1.2.1 1 300) 7))),(26,(.bool false)),(27,(rchkk1 s)),(28,(.bool (!ieq (rngE s.2.1.1 s.2.1.2.1 1 200) 0))),(29,(.bool false)),(30,(rchkk0 s)),(31,(.bool (!ieq (rngE s.2.2.1.1 s.2.2.1.2.1 1 300) 0))),(32,(.bool false))]),(hpOf 2 [(0,(rchkk3 s)),(1,(.cells true x43))]),[],[],83,false⟩,⟨12,[]⟩,[(.lop (pcOf F4 34 [0,0,1,0,1,1,1,1,1,1]) 1 (rchkQ0 s) x79),(.blk 0),(.seq (pcOf F4 34 [1,1,1,1,1,1,1])),(.cal [(.tmp 2),(.tmp 3),(.tmp 4)] .top)]⟩
theorem rchk_start (s:tSt.den):adv F4 (Z4 [34]) 3000 (startC F4 34 [tSt.av s] 12)=(bif ile 1 ↑s.1.2.length then (bif !ile (↑s.1.2.length) 4 then some (.done (.tup [(.int .i64 (1)),(.int .i64 (0)),(.int .i64 (3))])) else (bif ieq s.2.2.1.1 s.2.2.1.1 then (bif ieq s.2.2.1.2.1 s.2.2.1.2.1 then (bif ieq s.2.2.1.1 s.2.2.1.1 then (bif ieq s.2.2.1.2.1 s.2.2.1.2.1 then (bif ieq s.2.1.1 s.2.1.1 then (bif ieq s.2.1.2.1 s.2.1.2.1 then (bif ieq (rngE s.2.1.1 s.2.1.2.1 1 200) 7 then some (.done (.tup [(.int .i64 (1)),(.int .i64 (0)),(.int .i64 (7))])) else (bif ieq (rngE s.2.2.1.1 s.2.2.1.2.1 1 300) 7 then some (.done (.tup [(.int .i64 (1)),(.int .i64 (0)),(.int .i64 (7))])) else (bif !ieq (rngE s.2.1.1 s.2.1.2.1 1 200) 0 then some (.done (.tup [(.int .i64 (1)),(.int .i64 (0)),(.int .i64 (2))])) else (bif !ieq (rngE s.2.2.1.1 s.2.2.1.2.1 1 300) 0 then some (.done (.tup [(.int .i64 (1)),(.int .i64 (0)),(.int .i64 (2))])) else some (.stop (rchkI0 s (1048575))))))) else none) else none) else none) else none) else none) else none)) else some (.done (.tup [(.int .i64 (1)),(.int .i64 (0)),(.int .i64 (3))]))):=by kernel_rfl
theorem rchk_step0 (s:tSt.den) (x76:Nat):adv F4 (Z4 [34]) 3000 (rchkI0 s (x76+1))=(bif !ile (↑s.1.2.length) 0 then (bif inB 0 s.1.2.length then (bif !nameS (s.1.2.getD (Int.toNat 0) tGr.dflt).1 then some (.done (.tup [(.int .i64 (2)),(.int .i64 (0)),(.int .i64 (6))])) else (bif ile 0 (s.1.2.getD (Int.toNat 0) tGr.dflt).2.2.1 then (bif !ile (s.1.2.getD (Int.toNat 0) tGr.dflt).2.2.1 1000 then some (.done (.tup [(.int .i64 (2)),(.int .i64 (0)),(.int .i64 (7))])) else (bif ieq (rngE (s.1.2.getD (Int.toNat 0) tGr.dflt).2.1.1 (s.1.2.getD (Int.toNat 0) tGr.dflt).2.1.2.1 1 5000) 0 then (bif !ile (s.1.2.getD (Int.toNat 0) tGr.dflt).2.1.2.1 (wr .i64 ((s.1.2.getD (Int.toNat 0) tGr.dflt).2.1.1+40)) then some (.done (.tup [(.int .i64 (2)),(.int .i64 (0)),(.int .i64 (2))])) else (bif !ieq (rngE (s.1.2.getD (Int.toNat 0) tGr.dflt).2.1.1 (s.1.2.getD (Int.toNat 0) tGr.dflt).2.1.2.1 1 5000) 0 then some (.done (.tup [(.int .i64 (2)),(.int .i64 (0)),(.int .i64 (rngE (s.1.2.getD (Int.toNat 0) tGr.dflt).2.1.1 (s.1.2.getD (Int.toNat 0) tGr.dflt).2.1.2.1 1 5000))])) else some (.stop (rchkI1 s (x76))))) else (bif !ieq (rngE (s.1.2.getD (Int.toNat 0) tGr.dflt).2.1.1 (s.1.2.getD (Int.toNat 0) tGr.dflt).2.1.2.1 1 5000) 0 then some (.done (.tup [(.int .i64 (2)),(.int .i64 (0)),(.int .i64 (rngE (s.1.2.getD (Int.toNat 0) tGr.dflt).2.1.1 (s.1.2.getD (Int.toNat 0) tGr.dflt).2.1.2.1 1 5000))])) else some (.stop (rchkI1 s (x76)))))) else some (.done (.tup [(.int .i64 (2)),(.int .i64 (0)),(.int .i64 (7))])))) else none) else some (.done (.tup [(.int .i64 (0)),(.int .i64 (0)),(.int .i64 (0))]))):=by kernel_rfl
theorem rchk_step1 (s:tSt.den) (x79:Nat):adv F4 (Z4 [34]) 3000 (rchkI1 s (x79+1))=(bif !ile (↑s.1.2.length) 1 then (bif inB 1 s.1.2.length then (bif !nameS (s.1.2.getD (Int.toNat 1) tGr.dflt).1 then some (.done (.tup [(.int .i64 (2)),(.int .i64 (1)),(.int .i64 (6))])) else (bif ile 0 (placeF (s.1.2.getD (Int.toNat 1) tGr.dflt).1 (strs (List.drop 0 [AV.str (s.1.2.getD (Int.toNat 0) tGr.dflt).1])) 0) then some (.done (.tup [(.int .i64 (2)),(.int .i64 (1)),(.int .i64 (5))])) else (bif ile 0 (s.1.2.getD (Int.toNat 1) tGr.dflt).2.2.1 then (bif !ile (s.1.2.getD (Int.toNat 1) tGr.dflt).2.2.1 1000 then some (.done (.tup [(.int .i64 (2)),(.int .i64 (1)),(.int .i64 (7))])) else (bif ieq (rngE (s.1.2.getD (Int.toNat 1) tGr.dflt).2.1.1 (s.1.2.getD (Int.toNat 1) tGr.dflt).2.1.2.1 1 5000) 0 then (bif !ile (s.1.2.getD (Int.toNat 1) tGr.dflt).2.1.2.1 (wr .i64 ((s.1.2.getD (Int.toNat 1) tGr.dflt).2.1.1+40)) then some (.done (.tup [(.int .i64 (2)),(.int .i64 (1)),(.int .i64 (2))])) else (bif !ieq (rngE (s.1.2.getD (Int.toNat 1) tGr.dflt).2.1.1 (s.1.2.getD (Int.toNat 1) tGr.dflt).2.1.2.1 1 5000) 0 then some (.done (.tup [(.int .i64 (2)),(.int .i64 (1)),(.int .i64 (rngE (s.1.2.getD (Int.toNat 1) tGr.dflt).2.1.1 (s.1.2.getD (Int.toNat 1) tGr.dflt).2.1.2.1 1 5000))])) else some (.stop (rchkI2 s (rngE (s.1.2.getD (Int.toNat 1) tGr.dflt).2.1.1 (s.1.2.getD (Int.toNat 1) tGr.dflt).2.1.2.1 1 5000) (2) (2) ([AV.str (s.1.2.getD (Int.toNat 0) tGr.dflt).1,AV.str (s.1.2.getD (Int.toNat 1) tGr.dflt).1]) (x79))))) else (bif !ieq (rngE (s.1.2.getD (Int.toNat 1) tGr.dflt).2.1.1 (s.1.2.getD (Int.toNat 1) tGr.dflt).2.1.2.1 1 5000) 0 then some (.done (.tup [(.int .i64 (2)),(.int .i64 (1)),(.int .i64 (rngE (s.1.2.getD (Int.toNat 1) tGr.dflt).2.1.1 (s.1.2.getD (Int.toNat 1) tGr.dflt).2.1.2.1 1 5000))])) else some (.stop (rchkI2 s (rngE (s.1.2.getD (Int.toNat 1) tGr.dflt).2.1.1 (s.1.2.getD (Int.toNat 1) tGr.dflt).2.1.2.1 1 5000) (2) (2) ([AV.str (s.1.2.getD (Int.toNat 0) tGr.dflt).1,AV.str (s.1.2.getD (Int.toNat 1) tGr.dflt).1]) (x79)))))) else some (.done (.tup [(.int .i64 (2)),(.int .i64 (1)),(.int .i64 (7))]))))) else none) else some (.done (.tup [(.int .i64 (0)),(.int .i64 (0)),(.int .i64 (0))]))):=by kernel_rfl
theorem rchk_step2 (s:tSt.den) (x9:Int) (x11:Nat) (x13:Int) (x43:List AV) (x79:Nat):adv F4 (Z4 [34]) 3000 (rchkI2 s x9 x11 x13 x43 (x79+1))=(bif !ile (↑s.1.2.length) x13 then (bif inB x13 s.1.2.length then (bif plainL x43 then (bif !nameS (s.1.2.getD x13.toNat tGr.dflt).1 then (bif (0+x11 * 1).beq x43.length then (bif x11.ble 1048576 then some (.done (.tup [(.int .i64 (2)),(.int .i64 (x13)),(.int .i64 (6))])) else none) else none) else (bif (List.drop 0 x43).all isS&&x11.beq (List.drop 0 x43).length&&x11.ble 1000 then (bif ile 0 (placeF (s.1.2.getD x13.toNat tGr.dflt).1 (strs (List.drop 0 x43)) 0) then (bif (0+x11 * 1).beq x43.length then (bif x11.ble 1048576 then some (.done (.tup [(.int .i64 (2)),(.int .i64 (x13)),(.int .i64 (5))])) else none) else none) else (bif (0+x11 * 1).beq x43.length then (bif x11.ble 1048576 then (bif ile 0 (s.1.2.getD x13.toNat tGr.dflt).2.2.1 then (bif !ile (s.1.2.getD x13.toNat tGr.dflt).2.2.1 1000 then some (.done (.tup [(.int .i64 (2)),(.int .i64 (x13)),(.int .i64 (7))])) else (bif ieq (rngE (s.1.2.getD x13.toNat tGr.dflt).2.1.1 (s.1.2.getD x13.toNat tGr.dflt).2.1.2.1 1 5000) 0 then (bif !ile (s.1.2.getD x13.toNat tGr.dflt).2.1.2.1 (wr .i64 ((s.1.2.getD x13.toNat tGr.dflt).2.1.1+40)) then some (.done (.tup [(.int .i64 (2)),(.int .i64 (x13)),(.int .i64 (2))])) else (bif !ieq (rngE (s.1.2.getD x13.toNat tGr.dflt).2.1.1 (s.1.2.getD x13.toNat tGr.dflt).2.1.2.1 1 5000) 0 then some (.done (.tup [(.int .i64 (2)),(.int .i64 (x13)),(.int .i64 (rngE (s.1.2.getD x13.toNat tGr.dflt).2.1.1 (s.1.2.getD x13.toNat tGr.dflt).2.1.2.1 1 5000))])) else (bif plO (AO.cells true (x43++[AV.str (s.1.2.getD x13.toNat tGr.dflt).1])) then some (.stop (rchkI2 s (rngE (s.1.2.getD x13.toNat tGr.dflt).2.1.1 (s.1.2.getD x13.toNat tGr.dflt).2.1.2.1 1 5000) (x11+1) (wr .i64 (x13+1)) (x43++[AV.str (s.1.2.getD x13.toNat tGr.dflt).1]) (x79))) else none))) else (bif !ieq (rngE (s.1.2.getD x13.toNat tGr.dflt).2.1.1 (s.1.2.getD x13.toNat tGr.dflt).2.1.2.1 1 5000) 0 then some (.done (.tup [(.int .i64 (2)),(.int .i64 (x13)),(.int .i64 (rngE (s.1.2.getD x13.toNat tGr.dflt).2.1.1 (s.1.2.getD x13.toNat tGr.dflt).2.1.2.1 1 5000))])) else (bif plO (AO.cells true (x43++[AV.str (s.1.2.getD x13.toNat tGr.dflt).1])) then some (.stop (rchkI2 s (rngE (s.1.2.getD x13.toNat tGr.dflt).2.1.1 (s.1.2.getD x13.toNat tGr.dflt).2.1.2.1 1 5000) (x11+1) (wr .i64 (x13+1)) (x43++[AV.str (s.1.2.getD x13.toNat tGr.dflt).1]) (x79))) else none)))) else some (.done (.tup [(.int .i64 (2)),(.int .i64 (x13)),(.int .i64 (7))]))) else none) else none)) else none)) else none) else none) else some (.done (.tup [(.int .i64 (0)),(.int .i64 (0)),(.int .i64 (0))]))):=by kernel_rfl
noncomputable def tup3 (r:Int×Int×Int):AV:=.tup [.int .i64 r.1,.int .i64 r.2.1,.int .i64 r.2.2]
theorem done3 {E:Env} {S:Sy} (hS:S.ok E) (hsy:E.sy=true) {n:Nat} {c:Cfg} {a b d:Int} {r:Int×Int×Int} (h:adv E S n c=some (.done (.tup [.int .i64 a,.int .i64 b,.int .i64 d]))) (e:(a,b,d)=r):Ans E c (tup3 r):=
 e▸Ans.done hS hsy h rfl
noncomputable def addM (mem:List Nat→Bool) (s:List Nat):List Nat→Bool:=fun t=>lbeq t s || mem t
noncomputable def gcF (lo hi oil:Int):Int:=bif ile 1 lo&&ile lo 5000&&ile 1 hi&&ile hi 5000&&ile 0 oil&&ile oil 1000 then (bif ile lo hi&&ile hi (lo+40) then 0 else 2) else 7
noncomputable def grE (mem:List Nat→Bool) (g:tGr.den):Int:=bif nameS g.1 then (bif mem g.1 then 5 else gcF g.2.1.1 g.2.1.2.1 g.2.2.1) else 6
noncomputable def grdsS:(List Nat→Bool)→Nat→List tGr.den→Int×Int×Int
 |_,_,[]=>(0,0,0)
 |mem,i,g::l=>bif ieq (grE mem g) 0 then grdsS (addM mem g.1) (i+1) l else (2,(i:Int),grE mem g)
noncomputable def staS (s:tSt.den):Int×Int×Int:=bif ile 1 (s.1.2.length:Int)&&ile (s.1.2.length:Int) 4 then (bif ieq (rngE s.2.1.1 s.2.1.2.1 1 200) 7 then (1,0,7) else (bif ieq (rngE s.2.2.1.1 s.2.2.1.2.1 1 300) 7 then (1,0,7) else (bif ieq (rngE s.2.1.1 s.2.1.2.1 1 200) 0&&ieq (rngE s.2.2.1.1 s.2.2.1.2.1 1 300) 0 then grdsS (fun _=>false) 0 s.1.2 else (1,0,2)))) else (1,0,3)
theorem setSB_ok {s:List Nat} {b:Bool}:∀ {es:List (AV×AV)},okSB es=true→okSB (setSB s b es)=true
 |[],_=>rfl
 |(k,v)::es,h=>by
  cases k<;>cases v<;>first|(cases h;done)|skip
  simp only[okSB] at h
  simp only[setSB]
  split
  · exact h
  · exact setSB_ok h
theorem lbeq_comm (a b:List Nat):lbeq a b=lbeq b a:=by
 rw[lbeq_iff,lbeq_iff]
 by_cases h:a=b
 · subst h;rfl
 · rw[decide_eq_false h,decide_eq_false (fun e=>h e.symm)]
theorem getSB_set {s t:List Nat}:∀ {es:List (AV×AV)},okSB es=true→getSB t (setSB s true es)=(lbeq t s || getSB t es)
 |[],_=>by simp only[setSB,getSB];cases lbeq t s<;>rfl
 | (k, v) :: es, h => by
  cases k<;>cases v<;>first|(cases h;done)|skip
  rename_i u w
  simp only[okSB] at h
  simp only[setSB,getSB]
  cases e:lbeq s u with
  |true=>
   have:s=u:=by rw[lbeq_iff] at e;simpa using e
   subst this
   simp only[getSB]
   cases lbeq t s<;>rfl
  | false =>
   simp only[getSB]
   cases e2:lbeq t u with
   |true=>
    have:t=u:=by rw[lbeq_iff] at e2;simpa using e2
    subst this
    rw[lbeq_comm t s,e];rfl
   |false=>exact getSB_set h
theorem placeF_iff {t:List Nat}:∀ (L:List (List Nat)) (k:Nat),ile 0 (placeF t L k)=decide (t∈L)
 |[],k=>by simp only[placeF];rfl
 |a::L,k=>by
  rw[placeF]
  by_cases h:a=t
  · subst h
    rw[if_pos rfl,ile_iff];simp
  · rw [if_neg h, placeF_iff L (k + 1)]
    have:¬ t=a:=fun e=>h e.symm
    simp[this]
theorem placeF_add {t s:List Nat} (L:List (List Nat)):ile 0 (placeF t (L++[s]) 0)=(lbeq t s || ile 0 (placeF t L 0)):=by
 rw[placeF_iff,placeF_iff,lbeq_iff]
 by_cases h1:t=s
 · subst h1;simp
 · by_cases h2:t∈L<;>simp[h1,h2]
theorem strs_add (l:List AV) (s:List Nat):strs (l++[.str s])=strs l++[s]:=by simp[strs,strOf]
theorem plain_isS:∀ {l:List AV},l.all isS=true→plainL l=true
 |[],_=>rfl
 |a::l,h=>by
  simp only[List.all_cons,Bool.and_eq_true] at h
  cases a<;>first|(cases h.1;done)|exact plain_isS (l:=l) h.2
theorem isS_add {l:List AV} (h:l.all isS=true) (s:List Nat):(l++[AV.str s]).all isS=true:=by
 rw[List.all_append,h];rfl
theorem app_plain {l:List AV} (h:l.all isS=true) (s:List Nat):plO (AO.cells true (l++[AV.str s]))=true:=plain_isS (isS_add h s)
theorem ile_lt0 {n:Nat} (h:0<n):ile (n:Int) 0=false:=ile_lt h
theorem ile_lt1 {n:Nat} (h:1<n):ile (n:Int) 1=false:=ile_lt (k:=1) h
theorem ile_ge1 {n:Nat} (h:n≤1):ile (n:Int) 1=true:=ile_ge (k:=1) h
theorem inB_0 {n:Nat} (h:0<n):inB 0 n=true:=inB_at (k:=0) h
theorem inB_1 {n:Nat} (h:1<n):inB 1 n=true:=inB_at (k:=1) h
theorem getD_0 {α:Type} {l:List α} {d:α} (h:0<l.length):l.getD (Int.toNat 0) d=l[0]:=getD_at (k:=0) h
theorem getD_1 {α:Type} {l:List α} {d:α} (h:1<l.length):l.getD (Int.toNat 1) d=l[1]:=getD_at (k:=1) h
theorem one_mem (m0:List Nat):∀ t,ile 0 (placeF t (strs [AV.str m0]) 0)=addM (fun _=>false) m0 t:=fun t=>by
 have:=placeF_add (t:=t) (s:=m0) []
 rw[List.nil_append] at this
 exact this
theorem two_mem (m0 m1:List Nat):∀ t,ile 0 (placeF t (strs [AV.str m0,AV.str m1]) 0)=addM (addM (fun _=>false) m0) m1 t:=fun t=>by
 have:=placeF_add (t:=t) (s:=m1) [m0]
 have h0:=one_mem m0 t
 rw[show strs [AV.str m0]=[m0] from rfl] at h0
 rw[h0] at this
 exact this
theorem w40 {a:Int} (h1:ile 1 a=true) (h2:ile a 5000=true):wr .i64 (a+40)=a+40:=by
 have:=ile_le h1
 have:=ile_le h2
 exact wr_in (by omega) (by omega)
theorem pgr_ans (s:tSt.den) (h4:s.1.2.length≤4):∀ (r i m M:Nat) (es:List (AV×AV)) (mem:List Nat→Bool),i+r=s.1.2.length→r<m→okSB es=true→(∀ t,getSB t es=mem t)→Ans F4 (pchkI0 s i es m (M+1)) (tup3 (grdsS mem i (s.1.2.drop i)))
 |0,i,m+1,M,es,mem,hk,hm,hes,hM=>by
  have h:=pchk_step0 s i es m M
  simp only[Int.ofNat_eq_natCast,ile_ge (show s.1.2.length≤i by omega),Bool.not_true,cond_false] at h
  rw[List.drop_eq_nil_of_le (by omega)]
  exact done3 (Z4_ok _) F4sy h rfl
 | r + 1, i, m + 1, M, es, mem, hk, hm, hes, hM => by
  have h:=pchk_step0 s i es m M
  have hlt:i<s.1.2.length:=by omega
  have p1:plO (AO.map (setSB (s.1.2[i]).1 true es))=true:=setSB_ok hes
  simp only[Int.ofNat_eq_natCast,ile_lt hlt,inB_at hlt,getD_at hlt,wr_succ (show i<1048577 by omega),hes,p1,hM,Bool.not_false,cond_true] at h
  rw[List.drop_eq_getElem_cons hlt,grdsS,grE,gcF]
  cases c:nameS (s.1.2[i]).1 with
  |false=>
   simp only[c,Bool.not_true,Bool.not_false,cond_true,cond_false,Bool.true_and,Bool.false_and,Bool.and_true,Bool.and_false,show ieq 7 0=false from rfl,show ieq 6 0=false from rfl,show ieq 5 0=false from rfl,show ieq 2 0=false from rfl,show ieq 0 0=true from rfl] at h⊢
   exact done3 (Z4_ok _) F4sy h rfl
  |true=>
  simp only[c,Bool.not_true,Bool.not_false,cond_true,cond_false,Bool.true_and,Bool.false_and,Bool.and_true,Bool.and_false] at h⊢
  cases c:mem (s.1.2[i]).1 with
  |true=>
   simp only[c,Bool.not_true,Bool.not_false,cond_true,cond_false,Bool.true_and,Bool.false_and,Bool.and_true,Bool.and_false,show ieq 7 0=false from rfl,show ieq 6 0=false from rfl,show ieq 5 0=false from rfl,show ieq 2 0=false from rfl,show ieq 0 0=true from rfl] at h⊢
   exact done3 (Z4_ok _) F4sy h rfl
  |false=>
  simp only[c,Bool.not_true,Bool.not_false,cond_true,cond_false,Bool.true_and,Bool.false_and,Bool.and_true,Bool.and_false] at h⊢
  cases c:ile 1 (s.1.2[i]).2.1.1 with
  |false=>
   simp only[c,Bool.not_true,Bool.not_false,cond_true,cond_false,Bool.true_and,Bool.false_and,Bool.and_true,Bool.and_false,show ieq 7 0=false from rfl,show ieq 6 0=false from rfl,show ieq 5 0=false from rfl,show ieq 2 0=false from rfl,show ieq 0 0=true from rfl] at h⊢
   exact done3 (Z4_ok _) F4sy h rfl
  |true=>
  simp only[c,Bool.not_true,Bool.not_false,cond_true,cond_false,Bool.true_and,Bool.false_and,Bool.and_true,Bool.and_false] at h⊢
  have q1:=c
  cases c:ile (s.1.2[i]).2.1.1 5000 with
  |false=>
   simp only[c,Bool.not_true,Bool.not_false,cond_true,cond_false,Bool.true_and,Bool.false_and,Bool.and_true,Bool.and_false,show ieq 7 0=false from rfl,show ieq 6 0=false from rfl,show ieq 5 0=false from rfl,show ieq 2 0=false from rfl,show ieq 0 0=true from rfl] at h⊢
   exact done3 (Z4_ok _) F4sy h rfl
  |true=>
  simp only[c,Bool.not_true,Bool.not_false,cond_true,cond_false,Bool.true_and,Bool.false_and,Bool.and_true,Bool.and_false] at h⊢
  have q2:=c
  rw[w40 q1 q2] at h
  cases c:ile 1 (s.1.2[i]).2.1.2.1 with
  |false=>
   simp only[c,Bool.not_true,Bool.not_false,cond_true,cond_false,Bool.true_and,Bool.false_and,Bool.and_true,Bool.and_false,show ieq 7 0=false from rfl,show ieq 6 0=false from rfl,show ieq 5 0=false from rfl,show ieq 2 0=false from rfl,show ieq 0 0=true from rfl] at h⊢
   exact done3 (Z4_ok _) F4sy h rfl
  |true=>
  simp only[c,Bool.not_true,Bool.not_false,cond_true,cond_false,Bool.true_and,Bool.false_and,Bool.and_true,Bool.and_false] at h⊢
  cases c:ile (s.1.2[i]).2.1.2.1 5000 with
  |false=>
   simp only[c,Bool.not_true,Bool.not_false,cond_true,cond_false,Bool.true_and,Bool.false_and,Bool.and_true,Bool.and_false,show ieq 7 0=false from rfl,show ieq 6 0=false from rfl,show ieq 5 0=false from rfl,show ieq 2 0=false from rfl,show ieq 0 0=true from rfl] at h⊢
   exact done3 (Z4_ok _) F4sy h rfl
  |true=>
  simp only[c,Bool.not_true,Bool.not_false,cond_true,cond_false,Bool.true_and,Bool.false_and,Bool.and_true,Bool.and_false] at h⊢
  cases c:ile 0 (s.1.2[i]).2.2.1 with
  |false=>
   simp only[c,Bool.not_true,Bool.not_false,cond_true,cond_false,Bool.true_and,Bool.false_and,Bool.and_true,Bool.and_false,show ieq 7 0=false from rfl,show ieq 6 0=false from rfl,show ieq 5 0=false from rfl,show ieq 2 0=false from rfl,show ieq 0 0=true from rfl] at h⊢
   exact done3 (Z4_ok _) F4sy h rfl
  |true=>
  simp only[c,Bool.not_true,Bool.not_false,cond_true,cond_false,Bool.true_and,Bool.false_and,Bool.and_true,Bool.and_false] at h⊢
  cases c:ile (s.1.2[i]).2.2.1 1000 with
  |false=>
   simp only[c,Bool.not_true,Bool.not_false,cond_true,cond_false,Bool.true_and,Bool.false_and,Bool.and_true,Bool.and_false,show ieq 7 0=false from rfl,show ieq 6 0=false from rfl,show ieq 5 0=false from rfl,show ieq 2 0=false from rfl,show ieq 0 0=true from rfl] at h⊢
   exact done3 (Z4_ok _) F4sy h rfl
  |true=>
  simp only[c,Bool.not_true,Bool.not_false,cond_true,cond_false,Bool.true_and,Bool.false_and,Bool.and_true,Bool.and_false] at h⊢
  cases c:ile (s.1.2[i]).2.1.1 (s.1.2[i]).2.1.2.1 with
  |false=>
   simp only[c,Bool.not_true,Bool.not_false,cond_true,cond_false,Bool.true_and,Bool.false_and,Bool.and_true,Bool.and_false,show ieq 7 0=false from rfl,show ieq 6 0=false from rfl,show ieq 5 0=false from rfl,show ieq 2 0=false from rfl,show ieq 0 0=true from rfl] at h⊢
   exact done3 (Z4_ok _) F4sy h rfl
  |true=>
  simp only[c,Bool.not_true,Bool.not_false,cond_true,cond_false,Bool.true_and,Bool.false_and,Bool.and_true,Bool.and_false] at h⊢
  cases c:ile (s.1.2[i]).2.1.2.1 ((s.1.2[i]).2.1.1+40) with
  |false=>
   simp only[c,Bool.not_true,Bool.not_false,cond_true,cond_false,Bool.true_and,Bool.false_and,Bool.and_true,Bool.and_false,show ieq 7 0=false from rfl,show ieq 6 0=false from rfl,show ieq 5 0=false from rfl,show ieq 2 0=false from rfl,show ieq 0 0=true from rfl] at h⊢
   exact done3 (Z4_ok _) F4sy h rfl
  |true=>
  simp only[c,Bool.not_true,Bool.not_false,cond_true,cond_false,Bool.true_and,Bool.false_and,Bool.and_true,Bool.and_false] at h⊢
  exact .stopE (Z4_ok _) F4sy h (pgr_ans s h4 r (i+1) m M (setSB (s.1.2[i]).1 true es) (addM mem (s.1.2[i]).1) (by omega) (by omega) (setSB_ok hes) (fun t=>by rw[getSB_set hes,hM];rfl)) rfl
theorem rng_at {x y a b:Int}:rngE x y a b=bif ile a x&&ile x b&&ile a y&&ile y b then (bif ile x y then 0 else 2) else 7:=rfl
theorem pchk_call (s:tSt.den):AnsF F4 52 [tSt.av s] (tup3 (staS s)):=by
 refine Ans.call (n:=12) (ext_none (by kernel_rfl)) (hasB_spec (by kernel_rfl)) ?_
 have h:=pchk_start s
 unfold staS
 rw[rng_at,rng_at]
 cases c:ile 1 (s.1.2.length:Int) with
 |false=>
  simp only[c,Bool.not_true,Bool.not_false,cond_true,cond_false,Bool.true_and,Bool.false_and,Bool.and_true,Bool.and_false,show ieq 7 0=false from rfl,show ieq 6 0=false from rfl,show ieq 5 0=false from rfl,show ieq 2 0=false from rfl,show ieq 0 0=true from rfl] at h⊢
  exact done3 (Z4_ok _) F4sy h rfl
 |true=>
 simp only[c,Bool.not_true,Bool.not_false,cond_true,cond_false,Bool.true_and,Bool.false_and,Bool.and_true,Bool.and_false] at h⊢
 cases c:ile (s.1.2.length:Int) 4 with
 |false=>
  simp only[c,Bool.not_true,Bool.not_false,cond_true,cond_false,Bool.true_and,Bool.false_and,Bool.and_true,Bool.and_false,show ieq 7 0=false from rfl,show ieq 6 0=false from rfl,show ieq 5 0=false from rfl,show ieq 2 0=false from rfl,show ieq 0 0=true from rfl] at h⊢
  exact done3 (Z4_ok _) F4sy h rfl
 |true=>
 simp only[c,Bool.not_true,Bool.not_false,cond_true,cond_false,Bool.true_and,Bool.false_and,Bool.and_true,Bool.and_false] at h⊢
 have q4:=c
 cases c:ile 1 s.2.1.1 with
 |false=>
  simp only[c,Bool.not_true,Bool.not_false,cond_true,cond_false,Bool.true_and,Bool.false_and,Bool.and_true,Bool.and_false,show ieq 7 0=false from rfl,show ieq 6 0=false from rfl,show ieq 5 0=false from rfl,show ieq 2 0=false from rfl,show ieq 0 0=true from rfl,show ieq 7 7=true from rfl,show ieq 2 7=false from rfl,show ieq 0 7=false from rfl] at h⊢
  exact done3 (Z4_ok _) F4sy h rfl
 |true=>
 simp only[c,Bool.not_true,Bool.not_false,cond_true,cond_false,Bool.true_and,Bool.false_and,Bool.and_true,Bool.and_false] at h⊢
 cases c:ile s.2.1.1 200 with
 |false=>
  simp only[c,Bool.not_true,Bool.not_false,cond_true,cond_false,Bool.true_and,Bool.false_and,Bool.and_true,Bool.and_false,show ieq 7 0=false from rfl,show ieq 6 0=false from rfl,show ieq 5 0=false from rfl,show ieq 2 0=false from rfl,show ieq 0 0=true from rfl,show ieq 7 7=true from rfl,show ieq 2 7=false from rfl,show ieq 0 7=false from rfl] at h⊢
  exact done3 (Z4_ok _) F4sy h rfl
 |true=>
 simp only[c,Bool.not_true,Bool.not_false,cond_true,cond_false,Bool.true_and,Bool.false_and,Bool.and_true,Bool.and_false] at h⊢
 cases c:ile 1 s.2.1.2.1 with
 |false=>
  simp only[c,Bool.not_true,Bool.not_false,cond_true,cond_false,Bool.true_and,Bool.false_and,Bool.and_true,Bool.and_false,show ieq 7 0=false from rfl,show ieq 6 0=false from rfl,show ieq 5 0=false from rfl,show ieq 2 0=false from rfl,show ieq 0 0=true from rfl,show ieq 7 7=true from rfl,show ieq 2 7=false from rfl,show ieq 0 7=false from rfl] at h⊢
  exact done3 (Z4_ok _) F4sy h rfl
 |true=>
 simp only[c,Bool.not_true,Bool.not_false,cond_true,cond_false,Bool.true_and,Bool.false_and,Bool.and_true,Bool.and_false] at h⊢
 cases c:ile s.2.1.2.1 200 with
 |false=>
  simp only[c,Bool.not_true,Bool.not_false,cond_true,cond_false,Bool.true_and,Bool.false_and,Bool.and_true,Bool.and_false,show ieq 7 0=false from rfl,show ieq 6 0=false from rfl,show ieq 5 0=false from rfl,show ieq 2 0=false from rfl,show ieq 0 0=true from rfl,show ieq 7 7=true from rfl,show ieq 2 7=false from rfl,show ieq 0 7=false from rfl] at h⊢
  exact done3 (Z4_ok _) F4sy h rfl
 |true=>
 simp only[c,Bool.not_true,Bool.not_false,cond_true,cond_false,Bool.true_and,Bool.false_and,Bool.and_true,Bool.and_false] at h⊢
 cases c:ile 1 s.2.2.1.1 with
 |false=>
  simp only[c,Bool.not_true,Bool.not_false,cond_true,cond_false,Bool.true_and,Bool.false_and,Bool.and_true,Bool.and_false,show ieq 7 0=false from rfl,show ieq 6 0=false from rfl,show ieq 5 0=false from rfl,show ieq 2 0=false from rfl,show ieq 0 0=true from rfl,show ieq 7 7=true from rfl,show ieq 2 7=false from rfl,show ieq 0 7=false from rfl] at h⊢
  first|exact done3 (Z4_ok _) F4sy h rfl|(cases ile s.2.1.1 s.2.1.2.1<;>exact done3 (Z4_ok _) F4sy h rfl)
 |true=>
 simp only[c,Bool.not_true,Bool.not_false,cond_true,cond_false,Bool.true_and,Bool.false_and,Bool.and_true,Bool.and_false] at h⊢
 cases c:ile s.2.2.1.1 300 with
 |false=>
  simp only[c,Bool.not_true,Bool.not_false,cond_true,cond_false,Bool.true_and,Bool.false_and,Bool.and_true,Bool.and_false,show ieq 7 0=false from rfl,show ieq 6 0=false from rfl,show ieq 5 0=false from rfl,show ieq 2 0=false from rfl,show ieq 0 0=true from rfl,show ieq 7 7=true from rfl,show ieq 2 7=false from rfl,show ieq 0 7=false from rfl] at h⊢
  first|exact done3 (Z4_ok _) F4sy h rfl|(cases ile s.2.1.1 s.2.1.2.1<;>exact done3 (Z4_ok _) F4sy h rfl)
 |true=>
 simp only[c,Bool.not_true,Bool.not_false,cond_true,cond_false,Bool.true_and,Bool.false_and,Bool.and_true,Bool.and_false] at h⊢
 cases c:ile 1 s.2.2.1.2.1 with
 |false=>
  simp only[c,Bool.not_true,Bool.not_false,cond_true,cond_false,Bool.true_and,Bool.false_and,Bool.and_true,Bool.and_false,show ieq 7 0=false from rfl,show ieq 6 0=false from rfl,show ieq 5 0=false from rfl,show ieq 2 0=false from rfl,show ieq 0 0=true from rfl,show ieq 7 7=true from rfl,show ieq 2 7=false from rfl,show ieq 0 7=false from rfl] at h⊢
  first|exact done3 (Z4_ok _) F4sy h rfl|(cases ile s.2.1.1 s.2.1.2.1<;>exact done3 (Z4_ok _) F4sy h rfl)
 |true=>
 simp only[c,Bool.not_true,Bool.not_false,cond_true,cond_false,Bool.true_and,Bool.false_and,Bool.and_true,Bool.and_false] at h⊢
 cases c:ile s.2.2.1.2.1 300 with
 |false=>
  simp only[c,Bool.not_true,Bool.not_false,cond_true,cond_false,Bool.true_and,Bool.false_and,Bool.and_true,Bool.and_false,show ieq 7 0=false from rfl,show ieq 6 0=false from rfl,show ieq 5 0=false from rfl,show ieq 2 0=false from rfl,show ieq 0 0=true from rfl,show ieq 7 7=true from rfl,show ieq 2 7=false from rfl,show ieq 0 7=false from rfl] at h⊢
  first|exact done3 (Z4_ok _) F4sy h rfl|(cases ile s.2.1.1 s.2.1.2.1<;>exact done3 (Z4_ok _) F4sy h rfl)
 |true=>
 simp only[c,Bool.not_true,Bool.not_false,cond_true,cond_false,Bool.true_and,Bool.false_and,Bool.and_true,Bool.and_false] at h⊢
 cases c:ile s.2.1.1 s.2.1.2.1 with
 |false=>
  simp only[c,Bool.not_true,Bool.not_false,cond_true,cond_false,Bool.true_and,Bool.false_and,Bool.and_true,Bool.and_false,show ieq 7 0=false from rfl,show ieq 6 0=false from rfl,show ieq 5 0=false from rfl,show ieq 2 0=false from rfl,show ieq 0 0=true from rfl,show ieq 7 7=true from rfl,show ieq 2 7=false from rfl,show ieq 0 7=false from rfl] at h⊢
  cases ile s.2.2.1.1 s.2.2.1.2.1<;>exact done3 (Z4_ok _) F4sy h rfl
 |true=>
 simp only[c,Bool.not_true,Bool.not_false,cond_true,cond_false,Bool.true_and,Bool.false_and,Bool.and_true,Bool.and_false] at h⊢
 cases c:ile s.2.2.1.1 s.2.2.1.2.1 with
 |false=>
  simp only[c,Bool.not_true,Bool.not_false,cond_true,cond_false,Bool.true_and,Bool.false_and,Bool.and_true,Bool.and_false,show ieq 7 0=false from rfl,show ieq 6 0=false from rfl,show ieq 5 0=false from rfl,show ieq 2 0=false from rfl,show ieq 0 0=true from rfl,show ieq 7 7=true from rfl,show ieq 2 7=false from rfl,show ieq 0 7=false from rfl] at h⊢
  exact done3 (Z4_ok _) F4sy h rfl
 |true=>
 simp only[c,Bool.not_true,Bool.not_false,cond_true,cond_false,Bool.true_and,Bool.false_and,Bool.and_true,Bool.and_false] at h⊢
 simp only[show ieq 7 0=false from rfl,show ieq 6 0=false from rfl,show ieq 5 0=false from rfl,show ieq 2 0=false from rfl,show ieq 0 0=true from rfl,show ieq 7 7=true from rfl,show ieq 2 7=false from rfl,show ieq 0 7=false from rfl,Bool.and_self,cond_true,cond_false]
 have l4:s.1.2.length≤4:=by have:=ile_le q4;omega
 exact .stopE (Z4_ok _) F4sy h (pgr_ans s l4 s.1.2.length 0 1048575 1048573 [] (fun _=>false) (by omega) (by omega) rfl (fun _=>rfl)) rfl
theorem gcR (lo hi oil:Int):gcF lo hi oil=bif ile 0 oil&&ile oil 1000 then (bif ieq (rngE lo hi 1 5000) 0 then (bif ile hi (lo+40) then 0 else 2) else rngE lo hi 1 5000) else 7:=by
 unfold gcF rngE
 cases ile 1 lo<;>cases ile lo 5000<;>cases ile 1 hi<;>cases ile hi 5000<;>cases ile 0 oil<;>cases ile oil 1000<;>cases ile lo hi<;>cases ile hi (lo+40)<;>rfl
theorem rng_w {lo hi:Int} (h:ieq (rngE lo hi 1 5000) 0=true):wr .i64 (lo+40)=lo+40:=by
 unfold rngE at h
 cases c1:ile 1 lo<;>cases c2:ile lo 5000<;>rw[c1,c2] at h<;>first|exact w40 c1 c2|(simp only[Bool.true_and,Bool.false_and,cond_false] at h;exact absurd (ieq_t h) (by decide))
theorem rgr2 (s:tSt.den) (h4:s.1.2.length≤4):∀ (r i m n:Nat) (x:Int) (l:List AV) (mem:List Nat→Bool),i+r=s.1.2.length→r<m→l.length=i→l.all isS=true→n=l.length→(∀ t,ile 0 (placeF t (strs l) 0)=mem t)→Ans F4 (rchkI2 s x n i l m) (tup3 (grdsS mem i (s.1.2.drop i)))
 |0,i,m+1,n,x,l,mem,hk,hm,hl,hS,hn,hM=>by
  have h:=rchk_step2 s x n i l m
  simp only[ile_ge (show s.1.2.length≤i by omega),Bool.not_true,cond_false] at h
  rw[List.drop_eq_nil_of_le (by omega)]
  exact done3 (Z4_ok _) F4sy h rfl
 | r + 1, i, m + 1, n, x, l, mem, hk, hm, hl, hS, hn, hM => by
  have h:=rchk_step2 s x n i l m
  subst hn
  have hlt:i<s.1.2.length:=by omega
  have b1:Nat.beq (0+l.length * 1) l.length=true:=by rw[Nat.zero_add,Nat.mul_one];exact Nat.beq_refl _
  have b2:Nat.ble l.length 1048576=true:=Nat.ble_eq_true_of_le (by omega)
  have b3:Nat.ble l.length 1000=true:=Nat.ble_eq_true_of_le (by omega)
  have b4:Nat.beq l.length l.length=true:=Nat.beq_refl _
  simp only[ile_lt hlt,inB_at hlt,getD_at hlt,wr_succ (show i<1048577 by omega),List.drop_zero,hS,plain_isS hS,app_plain hS,b1,b2,b3,b4,hM,Bool.and_self,Bool.not_false,cond_true] at h
  rw[List.drop_eq_getElem_cons hlt]
  rw[grdsS,grE,gcR]
  cases c:nameS (s.1.2[i]).1 with
  |false=>
   simp only[c,Bool.not_true,Bool.not_false,cond_true,cond_false,Bool.true_and,Bool.false_and,Bool.and_true,Bool.and_false,show ieq 7 0=false from rfl,show ieq 6 0=false from rfl,show ieq 5 0=false from rfl,show ieq 2 0=false from rfl,show ieq 0 0=true from rfl] at h⊢
   exact done3 (Z4_ok _) F4sy h rfl
  |true=>
  simp only[c,Bool.not_true,Bool.not_false,cond_true,cond_false,Bool.true_and,Bool.false_and,Bool.and_true,Bool.and_false] at h⊢
  cases c:mem (s.1.2[i]).1 with
  |true=>
   simp only[c,Bool.not_true,Bool.not_false,cond_true,cond_false,Bool.true_and,Bool.false_and,Bool.and_true,Bool.and_false,show ieq 7 0=false from rfl,show ieq 6 0=false from rfl,show ieq 5 0=false from rfl,show ieq 2 0=false from rfl,show ieq 0 0=true from rfl] at h⊢
   exact done3 (Z4_ok _) F4sy h rfl
  |false=>
  simp only[c,Bool.not_true,Bool.not_false,cond_true,cond_false,Bool.true_and,Bool.false_and,Bool.and_true,Bool.and_false] at h⊢
  cases c:ile 0 (s.1.2[i]).2.2.1 with
  |false=>
   simp only[c,Bool.not_true,Bool.not_false,cond_true,cond_false,Bool.true_and,Bool.false_and,Bool.and_true,Bool.and_false,show ieq 7 0=false from rfl,show ieq 6 0=false from rfl,show ieq 5 0=false from rfl,show ieq 2 0=false from rfl,show ieq 0 0=true from rfl] at h⊢
   exact done3 (Z4_ok _) F4sy h rfl
  |true=>
  simp only[c,Bool.not_true,Bool.not_false,cond_true,cond_false,Bool.true_and,Bool.false_and,Bool.and_true,Bool.and_false] at h⊢
  cases c:ile (s.1.2[i]).2.2.1 1000 with
  |false=>
   simp only[c,Bool.not_true,Bool.not_false,cond_true,cond_false,Bool.true_and,Bool.false_and,Bool.and_true,Bool.and_false,show ieq 7 0=false from rfl,show ieq 6 0=false from rfl,show ieq 5 0=false from rfl,show ieq 2 0=false from rfl,show ieq 0 0=true from rfl] at h⊢
   exact done3 (Z4_ok _) F4sy h rfl
  |true=>
  simp only[c,Bool.not_true,Bool.not_false,cond_true,cond_false,Bool.true_and,Bool.false_and,Bool.and_true,Bool.and_false] at h⊢
  cases c:ieq (rngE (s.1.2[i]).2.1.1 (s.1.2[i]).2.1.2.1 1 5000) 0 with
  |false=>
   simp only[c,Bool.not_true,Bool.not_false,cond_true,cond_false,Bool.true_and,Bool.false_and,Bool.and_true,Bool.and_false] at h⊢
   exact done3 (Z4_ok _) F4sy h rfl
  |true=>
  simp only[c,Bool.not_true,Bool.not_false,cond_true,cond_false,Bool.true_and,Bool.false_and,Bool.and_true,Bool.and_false] at h⊢
  rw[rng_w c] at h
  cases c:ile (s.1.2[i]).2.1.2.1 ((s.1.2[i]).2.1.1+40) with
  |false=>
   simp only[c,Bool.not_true,Bool.not_false,cond_true,cond_false,Bool.true_and,Bool.false_and,Bool.and_true,Bool.and_false,show ieq 7 0=false from rfl,show ieq 6 0=false from rfl,show ieq 5 0=false from rfl,show ieq 2 0=false from rfl,show ieq 0 0=true from rfl] at h⊢
   exact done3 (Z4_ok _) F4sy h rfl
  |true=>
  simp only[c,Bool.not_true,Bool.not_false,cond_true,cond_false,Bool.true_and,Bool.false_and,Bool.and_true,Bool.and_false] at h⊢
  exact .stopE (Z4_ok _) F4sy h (rgr2 s h4 r (i+1) m (l.length+1) _ _ (addM mem (s.1.2[i]).1) (by omega) (by omega) (by rw[List.length_append,hl];rfl) (isS_add hS _) (by rw[List.length_append];rfl) (fun t=>by rw[strs_add,placeF_add,hM];rfl)) rfl
theorem rgr1 (s:tSt.den) (h4:s.1.2.length≤4) (h0:0<s.1.2.length) (M:Nat) (hM1:s.1.2.length<M+1):Ans F4 (rchkI1 s M) (tup3 (grdsS (addM (fun _=>false) (s.1.2[0]).1) 1 (s.1.2.drop 1))):=by
  obtain⟨m,rfl⟩:∃ m,M=m+1:=⟨M-1,by omega⟩
  have h:=rchk_step1 s m
  by_cases hlt:1<s.1.2.length
  case neg=>
   simp only[ile_ge1 (show s.1.2.length≤1 by omega),Bool.not_true,cond_false] at h
   rw[List.drop_eq_nil_of_le (by omega)]
   exact done3 (Z4_ok _) F4sy h rfl
  simp only[ile_lt1 hlt,inB_1 hlt,getD_1 hlt,getD_0 h0,List.drop_zero,one_mem,Bool.not_false,cond_true] at h
  rw[List.drop_eq_getElem_cons hlt]
  generalize hmem:addM (fun _=>false) (s.1.2[0]).1=mem at h⊢
  rw[grdsS,grE,gcR]
  cases c:nameS (s.1.2[1]).1 with
  |false=>
   simp only[c,Bool.not_true,Bool.not_false,cond_true,cond_false,Bool.true_and,Bool.false_and,Bool.and_true,Bool.and_false,show ieq 7 0=false from rfl,show ieq 6 0=false from rfl,show ieq 5 0=false from rfl,show ieq 2 0=false from rfl,show ieq 0 0=true from rfl] at h⊢
   exact done3 (Z4_ok _) F4sy h rfl
  |true=>
  simp only[c,Bool.not_true,Bool.not_false,cond_true,cond_false,Bool.true_and,Bool.false_and,Bool.and_true,Bool.and_false] at h⊢
  cases c:mem (s.1.2[1]).1 with
  |true=>
   simp only[c,Bool.not_true,Bool.not_false,cond_true,cond_false,Bool.true_and,Bool.false_and,Bool.and_true,Bool.and_false,show ieq 7 0=false from rfl,show ieq 6 0=false from rfl,show ieq 5 0=false from rfl,show ieq 2 0=false from rfl,show ieq 0 0=true from rfl] at h⊢
   exact done3 (Z4_ok _) F4sy h rfl
  |false=>
  simp only[c,Bool.not_true,Bool.not_false,cond_true,cond_false,Bool.true_and,Bool.false_and,Bool.and_true,Bool.and_false] at h⊢
  cases c:ile 0 (s.1.2[1]).2.2.1 with
  |false=>
   simp only[c,Bool.not_true,Bool.not_false,cond_true,cond_false,Bool.true_and,Bool.false_and,Bool.and_true,Bool.and_false,show ieq 7 0=false from rfl,show ieq 6 0=false from rfl,show ieq 5 0=false from rfl,show ieq 2 0=false from rfl,show ieq 0 0=true from rfl] at h⊢
   exact done3 (Z4_ok _) F4sy h rfl
  |true=>
  simp only[c,Bool.not_true,Bool.not_false,cond_true,cond_false,Bool.true_and,Bool.false_and,Bool.and_true,Bool.and_false] at h⊢
  cases c:ile (s.1.2[1]).2.2.1 1000 with
  |false=>
   simp only[c,Bool.not_true,Bool.not_false,cond_true,cond_false,Bool.true_and,Bool.false_and,Bool.and_true,Bool.and_false,show ieq 7 0=false from rfl,show ieq 6 0=false from rfl,show ieq 5 0=false from rfl,show ieq 2 0=false from rfl,show ieq 0 0=true from rfl] at h⊢
   exact done3 (Z4_ok _) F4sy h rfl
  |true=>
  simp only[c,Bool.not_true,Bool.not_false,cond_true,cond_false,Bool.true_and,Bool.false_and,Bool.and_true,Bool.and_false] at h⊢
  cases c:ieq (rngE (s.1.2[1]).2.1.1 (s.1.2[1]).2.1.2.1 1 5000) 0 with
  |false=>
   simp only[c,Bool.not_true,Bool.not_false,cond_true,cond_false,Bool.true_and,Bool.false_and,Bool.and_true,Bool.and_false] at h⊢
   exact done3 (Z4_ok _) F4sy h rfl
  |true=>
  simp only[c,Bool.not_true,Bool.not_false,cond_true,cond_false,Bool.true_and,Bool.false_and,Bool.and_true,Bool.and_false] at h⊢
  rw[rng_w c] at h
  cases c:ile (s.1.2[1]).2.1.2.1 ((s.1.2[1]).2.1.1+40) with
  |false=>
   simp only[c,Bool.not_true,Bool.not_false,cond_true,cond_false,Bool.true_and,Bool.false_and,Bool.and_true,Bool.and_false,show ieq 7 0=false from rfl,show ieq 6 0=false from rfl,show ieq 5 0=false from rfl,show ieq 2 0=false from rfl,show ieq 0 0=true from rfl] at h⊢
   exact done3 (Z4_ok _) F4sy h rfl
  |true=>
  simp only[c,Bool.not_true,Bool.not_false,cond_true,cond_false,Bool.true_and,Bool.false_and,Bool.and_true,Bool.and_false] at h⊢
  exact .stopE (Z4_ok _) F4sy h (rgr2 s h4 (s.1.2.length-2) 2 m 2 _ _ (addM mem (s.1.2[1]).1) (by omega) (by omega) rfl rfl rfl (fun t=>by rw[two_mem,hmem])) rfl
theorem rgr0 (s:tSt.den) (h4:s.1.2.length≤4) (h0:0<s.1.2.length) (M:Nat) (hM1:s.1.2.length<M):Ans F4 (rchkI0 s M) (tup3 (grdsS (fun _=>false) 0 s.1.2)):=by
  obtain⟨m,rfl⟩:∃ m,M=m+1:=⟨M-1,by omega⟩
  have h:=rchk_step0 s m
  simp only[ile_lt0 h0,inB_0 h0,getD_0 h0,Bool.not_false,cond_true] at h
  have e:=List.drop_eq_getElem_cons h0
  rw[List.drop_zero] at e
  rw[e]
  have r1:=rgr1 s h4 h0 m (by omega)
  simp only[Nat.zero_add] at r1⊢
  rw[grdsS,grE,gcR]
  cases c:nameS (s.1.2[0]).1 with
  |false=>
   simp only[c,Nat.zero_add,Bool.not_true,Bool.not_false,cond_true,cond_false,Bool.true_and,Bool.false_and,Bool.and_true,Bool.and_false,show ieq 7 0=false from rfl,show ieq 6 0=false from rfl,show ieq 5 0=false from rfl,show ieq 2 0=false from rfl,show ieq 0 0=true from rfl] at h⊢
   exact done3 (Z4_ok _) F4sy h rfl
  |true=>
  simp only[c,Nat.zero_add,Bool.not_true,Bool.not_false,cond_true,cond_false,Bool.true_and,Bool.false_and,Bool.and_true,Bool.and_false] at h⊢
  cases c:ile 0 (s.1.2[0]).2.2.1 with
  |false=>
   simp only[c,Nat.zero_add,Bool.not_true,Bool.not_false,cond_true,cond_false,Bool.true_and,Bool.false_and,Bool.and_true,Bool.and_false,show ieq 7 0=false from rfl,show ieq 6 0=false from rfl,show ieq 5 0=false from rfl,show ieq 2 0=false from rfl,show ieq 0 0=true from rfl] at h⊢
   exact done3 (Z4_ok _) F4sy h rfl
  |true=>
  simp only[c,Nat.zero_add,Bool.not_true,Bool.not_false,cond_true,cond_false,Bool.true_and,Bool.false_and,Bool.and_true,Bool.and_false] at h⊢
  cases c:ile (s.1.2[0]).2.2.1 1000 with
  |false=>
   simp only[c,Nat.zero_add,Bool.not_true,Bool.not_false,cond_true,cond_false,Bool.true_and,Bool.false_and,Bool.and_true,Bool.and_false,show ieq 7 0=false from rfl,show ieq 6 0=false from rfl,show ieq 5 0=false from rfl,show ieq 2 0=false from rfl,show ieq 0 0=true from rfl] at h⊢
   exact done3 (Z4_ok _) F4sy h rfl
  |true=>
  simp only[c,Nat.zero_add,Bool.not_true,Bool.not_false,cond_true,cond_false,Bool.true_and,Bool.false_and,Bool.and_true,Bool.and_false] at h⊢
  cases c:ieq (rngE (s.1.2[0]).2.1.1 (s.1.2[0]).2.1.2.1 1 5000) 0 with
  |false=>
   simp only[c,Nat.zero_add,Bool.not_true,Bool.not_false,cond_true,cond_false,Bool.true_and,Bool.false_and,Bool.and_true,Bool.and_false] at h⊢
   exact done3 (Z4_ok _) F4sy h rfl
  |true=>
  simp only[c,Nat.zero_add,Bool.not_true,Bool.not_false,cond_true,cond_false,Bool.true_and,Bool.false_and,Bool.and_true,Bool.and_false] at h⊢
  rw[rng_w c] at h
  cases c:ile (s.1.2[0]).2.1.2.1 ((s.1.2[0]).2.1.1+40) with
  |false=>
   simp only[c,Nat.zero_add,Bool.not_true,Bool.not_false,cond_true,cond_false,Bool.true_and,Bool.false_and,Bool.and_true,Bool.and_false,show ieq 7 0=false from rfl,show ieq 6 0=false from rfl,show ieq 5 0=false from rfl,show ieq 2 0=false from rfl,show ieq 0 0=true from rfl] at h⊢
   exact done3 (Z4_ok _) F4sy h rfl
  |true=>
  simp only[c,Nat.zero_add,Bool.not_true,Bool.not_false,cond_true,cond_false,Bool.true_and,Bool.false_and,Bool.and_true,Bool.and_false] at h⊢
  exact .stopE (Z4_ok _) F4sy h r1 rfl
theorem rchk_call (s:tSt.den):AnsF F4 34 [tSt.av s] (tup3 (staS s)):=by
 refine Ans.call (n:=12) (ext_none (by kernel_rfl)) (hasB_spec (by kernel_rfl)) ?_
 have h:=rchk_start s
 simp only[ieq_self,cond_true] at h
 unfold staS
 cases c:ile 1 (s.1.2.length:Int) with
 |false=>
  simp only[c,Bool.not_true,Bool.not_false,cond_true,cond_false,Bool.true_and,Bool.false_and,Bool.and_true,Bool.and_false,show ieq 7 0=false from rfl,show ieq 6 0=false from rfl,show ieq 5 0=false from rfl,show ieq 2 0=false from rfl,show ieq 0 0=true from rfl] at h⊢
  exact done3 (Z4_ok _) F4sy h rfl
 |true=>
 simp only[c,Bool.not_true,Bool.not_false,cond_true,cond_false,Bool.true_and,Bool.false_and,Bool.and_true,Bool.and_false] at h⊢
 have q0:=c
 cases c:ile (s.1.2.length:Int) 4 with
 |false=>
  simp only[c,Bool.not_true,Bool.not_false,cond_true,cond_false,Bool.true_and,Bool.false_and,Bool.and_true,Bool.and_false,show ieq 7 0=false from rfl,show ieq 6 0=false from rfl,show ieq 5 0=false from rfl,show ieq 2 0=false from rfl,show ieq 0 0=true from rfl] at h⊢
  exact done3 (Z4_ok _) F4sy h rfl
 |true=>
 simp only[c,Bool.not_true,Bool.not_false,cond_true,cond_false,Bool.true_and,Bool.false_and,Bool.and_true,Bool.and_false] at h⊢
 have q4:=c
 cases c:ieq (rngE s.2.1.1 s.2.1.2.1 1 200) 7 with
 |true=>
  simp only[c,Bool.not_true,Bool.not_false,cond_true,cond_false,Bool.true_and,Bool.false_and,Bool.and_true,Bool.and_false,show ieq 7 0=false from rfl,show ieq 6 0=false from rfl,show ieq 5 0=false from rfl,show ieq 2 0=false from rfl,show ieq 0 0=true from rfl] at h⊢
  exact done3 (Z4_ok _) F4sy h rfl
 |false=>
 simp only[c,Bool.not_true,Bool.not_false,cond_true,cond_false,Bool.true_and,Bool.false_and,Bool.and_true,Bool.and_false] at h⊢
 cases c:ieq (rngE s.2.2.1.1 s.2.2.1.2.1 1 300) 7 with
 |true=>
  simp only[c,Bool.not_true,Bool.not_false,cond_true,cond_false,Bool.true_and,Bool.false_and,Bool.and_true,Bool.and_false,show ieq 7 0=false from rfl,show ieq 6 0=false from rfl,show ieq 5 0=false from rfl,show ieq 2 0=false from rfl,show ieq 0 0=true from rfl] at h⊢
  exact done3 (Z4_ok _) F4sy h rfl
 |false=>
 simp only[c,Bool.not_true,Bool.not_false,cond_true,cond_false,Bool.true_and,Bool.false_and,Bool.and_true,Bool.and_false] at h⊢
 cases c:ieq (rngE s.2.1.1 s.2.1.2.1 1 200) 0 with
 |false=>
  simp only[c,Bool.not_true,Bool.not_false,cond_true,cond_false,Bool.true_and,Bool.false_and,Bool.and_true,Bool.and_false,show ieq 7 0=false from rfl,show ieq 6 0=false from rfl,show ieq 5 0=false from rfl,show ieq 2 0=false from rfl,show ieq 0 0=true from rfl] at h⊢
  exact done3 (Z4_ok _) F4sy h rfl
 |true=>
 simp only[c,Bool.not_true,Bool.not_false,cond_true,cond_false,Bool.true_and,Bool.false_and,Bool.and_true,Bool.and_false] at h⊢
 cases c:ieq (rngE s.2.2.1.1 s.2.2.1.2.1 1 300) 0 with
 |false=>
  simp only[c,Bool.not_true,Bool.not_false,cond_true,cond_false,Bool.true_and,Bool.false_and,Bool.and_true,Bool.and_false,show ieq 7 0=false from rfl,show ieq 6 0=false from rfl,show ieq 5 0=false from rfl,show ieq 2 0=false from rfl,show ieq 0 0=true from rfl] at h⊢
  exact done3 (Z4_ok _) F4sy h rfl
 |true=>
 simp only[c,Bool.not_true,Bool.not_false,cond_true,cond_false,Bool.true_and,Bool.false_and,Bool.and_true,Bool.and_false] at h⊢
 have l4:s.1.2.length≤4:=by have:=ile_le q4;omega
 have l0:0<s.1.2.length:=by have:=ile_le q0;omega
 exact .stopE (Z4_ok _) F4sy h (rgr0 s l4 l0 1048575 (by omega)) rfl
end Go.Proofs.YtpnipaimaohiaaaGreatDoor


set_option maxRecDepth 100000
namespace Go.Proofs.YtpnipaimaohiaaaGreatDoor
open Go Go.Eng
noncomputable def LE:List Said:=[(52,con1 tSt (fun _=>true) (fun s=>tup3 (staS s))),(34,con1 tSt (fun _=>true) (fun s=>tup3 (staS s)))]
theorem LE_ok:∀ e∈LE,SaidG Tryz.prog F4.glob e:=
 saids_cons (SaidOK.g f4 xf4 nf4 tabs_ok.mix (fun _ _ h=>con1_spec (t:=tSt) (fun s _=>pchk_call s) h) rfl)
 (saids_cons (SaidOK.g f4 xf4 nf4 tabs_ok.mix (fun _ _ h=>con1_spec (t:=tSt) (fun s _=>rchk_call s) h) rfl) saids_nil)
noncomputable def F5:Env:=F4.say (under (xOf LE))
theorem f5:EnvOK Tryz.prog F5:=f4.say _
theorem nf5:NameOK F5:=nf4.say _
theorem xf5:ExtOK Tryz.prog F5:=xf4.sayL LE_ok
theorem F5sy:F5.sy=true:=rfl
noncomputable def Z5 (l:List Nat):Sy:=(Z4 []).on LE l
theorem Z5_ok (l:List Nat):(Z5 l).ok F5:=Sy.on_ok (Z4_ok _)
end Go.Proofs.YtpnipaimaohiaaaGreatDoor


set_option maxRecDepth 100000
namespace Go.Proofs.YtpnipaimaohiaaaGreatDoor
open Go Go.Eng
theorem poil_start (s:tSt.den) (a b:Int):adv F5 (Z5 []) 3000 (startC F5 25 [tSt.av s,.int .i64 a,.int .i64 b] 12)=(bif !ieq (staS s).2.2 0 then some (.done (.tup [(.int .i64 (0)),(.int .i64 ((staS s).2.2))])) else (bif !ile 0 a then some (.done (.tup [(.int .i64 (0)),(.int .i64 (4))])) else (bif !ile a (wr .i64 (↑s.1.2.length-1)) then some (.done (.tup [(.int .i64 (0)),(.int .i64 (4))])) else (bif !ile 0 b then some (.done (.tup [(.int .i64 (0)),(.int .i64 (7))])) else (bif !ile b 1440 then some (.done (.tup [(.int .i64 (0)),(.int .i64 (7))])) else (bif inB a s.1.2.length then some (.done (.tup [(.int .i64 (wr .i64 ((wr .i64 (wr .i64 (wr .i64 ((s.1.2.getD a.toNat tGr.dflt).2.2.1 * b)+60)-1)).tdiv 60))),(.int .i64 (0))])) else none)))))):=by kernel_rfl
noncomputable def pcknk0 (z0:tSt.den):AV:=(.agg [(.vs tGr (z0.1.1) (z0.1.2)),(iI (z0.2.1.1)),(iI (z0.2.1.2.1)),(iI (z0.2.2.1.1)),(iI (z0.2.2.1.2.1))])
noncomputable def pcknI0 (s:tSt.den) (n:tNi.den) (l:(Ty.sl tRe).den) (x7:Int) (x32:Nat):Cfg:=⟨.ex (pcOf F5 76 [0,0,1,0,1]) ⟨(tmOf 24 [(0,(.vs tRe (l.1) (l.2))),(1,(.fn 77 [] [])),(4,(iI 0)),(5,(iI 0)),(9,(.vs tRe (l.1) (l.2))),(10,(iI (Int.ofNat l.2.length))),(11,(iI x7))]),(hpOf 6 [(0,(cF [(.vs tGr (s.1.1) (s.1.2)),(iI (s.2.1.1)),(iI (s.2.1.2.1)),(iI (s.2.2.1.1)),(iI (s.2.2.1.2.1))])),(1,(cF [(iI (n.1.1)),(iI (n.1.2.1)),(iI (n.2.1)),(iI (n.2.2.1)),(iI (n.2.2.2.1))])),(2,(.cells true [(iI (n.2.1))])),(3,(.cells true [(iI (n.1.1)),(iI (n.1.2.1))])),(4,(.cells true [(iI (n.2.2.1))])),(5,(.cells true [(iI (n.2.2.2.1))]))]),[],[],24,false⟩,⟨11,[]⟩,[(.lop (pcOf F5 76 [0,0,1,0,1]) 6 (tmOf 24 [(0,(.vs tRe (l.1) (l.2))),(1,(.fn 77 [] [])),(4,(iI 0)),(5,(iI 0)),(9,(.vs tRe (l.1) (l.2))),(10,(iI (Int.ofNat l.2.length))),(11,(iI 0))]) x32),(.blk 0),(.seq (pcOf F5 76 [1,1])),(.cal [(.tmp 4),(.tmp 5)] (.op (pcOf F5 53 [0,1,1,1,1,1]) 2 (some 56) ((opsOf (pcOf F5 53 [0,1,1,1,1,1]).c).toList.drop 2) (tmOf 59 [(0,(pcknk0 s)),(1,(.agg [(iI (n.1.1)),(iI (n.1.2.1)),(iI (n.2.1)),(iI (n.2.2.1)),(iI (n.2.2.2.1))])),(2,(.vs tRe (l.1) (l.2))),(3,(pP 0 0)),(4,(pP 1 0)),(6,(iI 0)),(7,(iI 0)),(8,(iI ((staS s).1))),(9,(iI ((staS s).2.1))),(10,(iI ((staS s).2.2))),(11,(.tup [(iI ((staS s).1)),(iI ((staS s).2.1)),(iI ((staS s).2.2))])),(12,(pcknk0 s)),(13,(.tup [(iI ((staS s).1)),(iI ((staS s).2.1)),(iI ((staS s).2.2))])),(14,(iI ((staS s).1))),(15,(iI ((staS s).2.1))),(16,(iI ((staS s).2.2))),(17,(iI ((staS s).2.2))),(18,(.bool false)),(20,(pP 0 0)),(21,(.vs tGr (s.1.1) (s.1.2))),(22,(iI (Int.ofNat s.1.2.length))),(23,(iI (wr .i64 (↑s.1.2.length-1)))),(24,(pP 1 2)),(25,(iI (n.2.1))),(26,(.sl 2 0 (1) (1) 1)),(27,(.bool true)),(28,(.bool false)),(29,(pP 1 0)),(30,(pP 1 0)),(31,(iI (n.1.1))),(32,(pP 1 0)),(33,(pP 1 1)),(34,(iI (n.1.2.1))),(35,(.sl 3 0 (2) (2) 1)),(36,(.bool true)),(37,(.bool false)),(38,(.bool false)),(39,(pP 1 3)),(40,(iI (n.2.2.1))),(41,(.sl 4 0 (1) (1) 1)),(42,(.bool true)),(43,(.bool false)),(44,(.bool false)),(45,(.bool false)),(46,(pP 1 4)),(47,(iI (n.2.2.2.1))),(48,(.sl 5 0 (1) (1) 1)),(49,(.bool true)),(50,(.bool false)),(51,(.bool false)),(52,(.vs tRe (l.1) (l.2))),(53,(iI (Int.ofNat l.2.length))),(54,(.bool false)),(55,(.vs tRe (l.1) (l.2)))]) [] 59 false ⟨12,[]⟩)),(.seq (pcOf F5 53 [1,1,1,1,1,1])),(.cal [(.tmp 6),(.tmp 7)] .top)]⟩
theorem pckn_start (s:tSt.den) (n:tNi.den) (l:(Ty.sl tRe).den):adv F5 (Z5 [76]) 3000 (startC F5 53 [tSt.av s,tNi.av n,.vs tRe l.1 l.2] 12)=(bif !ieq (staS s).2.2 0 then some (.done (.tup [(.int .i64 (0)),(.int .i64 ((staS s).2.2))])) else (bif !ile 0 n.2.1 then some (.done (.tup [(.int .i64 (0)),(.int .i64 (4))])) else (bif !ile n.2.1 (wr .i64 (↑s.1.2.length-1)) then some (.done (.tup [(.int .i64 (0)),(.int .i64 (4))])) else (bif !ile (-30000) n.1.1 then some (.done (.tup [(.int .i64 (0)),(.int .i64 (7))])) else (bif !ile n.1.1 30000 then some (.done (.tup [(.int .i64 (0)),(.int .i64 (7))])) else (bif !ile (-30000) n.1.2.1 then some (.done (.tup [(.int .i64 (0)),(.int .i64 (7))])) else (bif !ile n.1.2.1 30000 then some (.done (.tup [(.int .i64 (0)),(.int .i64 (7))])) else (bif !ile 0 n.2.2.1 then some (.done (.tup [(.int .i64 (0)),(.int .i64 (7))])) else (bif !ile n.2.2.1 31 then some (.done (.tup [(.int .i64 (0)),(.int .i64 (7))])) else (bif !ile 1 n.2.2.2.1 then some (.done (.tup [(.int .i64 (0)),(.int .i64 (7))])) else (bif !ile n.2.2.2.1 32 then some (.done (.tup [(.int .i64 (0)),(.int .i64 (7))])) else (bif !ile (↑l.2.length) 8 then some (.done (.tup [(.int .i64 (0)),(.int .i64 (3))])) else some (.stop (pcknI0 s n l (0) (1048575))))))))))))))):=by kernel_rfl
theorem pckn_step0 (s:tSt.den) (n:tNi.den) (l:(Ty.sl tRe).den) (x7:Int) (x32:Nat):adv F5 (Z5 [76]) 3000 (pcknI0 s n l x7 (x32+1))=(bif !ile (Int.ofNat l.2.length) x7 then (bif inB x7 l.2.length then (bif !ile (-30000) (l.2.getD x7.toNat tRe.dflt).1.1 then some (.done (.tup [(.int .i64 (x7)),(.int .i64 (7))])) else (bif !ile (l.2.getD x7.toNat tRe.dflt).1.1 30000 then some (.done (.tup [(.int .i64 (x7)),(.int .i64 (7))])) else (bif !ile (-30000) (l.2.getD x7.toNat tRe.dflt).1.2.1 then some (.done (.tup [(.int .i64 (x7)),(.int .i64 (7))])) else (bif !ile (l.2.getD x7.toNat tRe.dflt).1.2.1 30000 then some (.done (.tup [(.int .i64 (x7)),(.int .i64 (7))])) else some (.stop (pcknI0 s n l (wr .i64 (x7+1)) (x32))))))) else none) else some (.done (.tup [(.int .i64 (0)),(.int .i64 (0))]))):=by kernel_rfl
noncomputable def tup2 (r:Int×Int):AV:=.tup [.int .i64 r.1,.int .i64 r.2]
theorem done2 {E:Env} {S:Sy} (hS:S.ok E) (hsy:E.sy=true) {n:Nat} {c:Cfg} {a b:Int} {r:Int×Int} (h:adv E S n c=some (.done (.tup [.int .i64 a,.int .i64 b]))) (e:(a,b)=r):Ans E c (tup2 r):=
 e▸Ans.done hS hsy h rfl
noncomputable def gAt (s:tSt.den) (a:Int):tGr.den:=s.1.2.getD a.toNat tGr.dflt
noncomputable def oilS (s:tSt.den) (a b:Int):Int×Int:=bif ieq (staS s).2.2 0 then (bif ile 0 a&&ile a ((s.1.2.length:Int)-1) then (bif ile 0 b&&ile b 1440 then (((gAt s a).2.2.1 * b+59).tdiv 60,0) else (0,7)) else (0,4)) else (0,(staS s).2.2)
theorem grds_ok:∀ (l:List tGr.den) (mem:List Nat→Bool) (i:Nat),ieq (grdsS mem i l).2.2 0=true→∀ g∈l,gcF g.2.1.1 g.2.1.2.1 g.2.2.1=0
 |[],_,_,_,g,hg=>by cases hg
 | g :: l, mem, i, h, x, hx => by
  rw[grdsS] at h
  cases c:ieq (grE mem g) 0 with
  |false=>rw[c,cond_false] at h;rw[c] at h;cases h
  |true=>
   rw[c,cond_true] at h
   rcases List.mem_cons.1 hx with rfl|hx
   · have c' := ieq_t c
     unfold grE at c'
     cases c1:nameS x.1 with
     |false=>rw[c1,cond_false] at c';exact absurd c' (by decide)
     |true=>
      rw[c1,cond_true] at c'
      cases c2:mem x.1 with
      |true=>rw[c2,cond_true] at c';exact absurd c' (by decide)
      |false=>rw[c2,cond_false] at c';exact c'
   · exact grds_ok l _ _ h x hx
theorem gc_b {lo hi oil:Int} (h:gcF lo hi oil=0):(1≤lo∧lo≤hi)∧(hi≤5000∧hi≤lo+40)∧0≤oil∧oil≤1000:=by
 unfold gcF at h
 cases c:(ile 1 lo&&ile lo 5000&&ile 1 hi&&ile hi 5000&&ile 0 oil&&ile oil 1000) with
 |false=>rw[c,cond_false] at h;exact absurd h (by decide)
 | true =>
  rw[c,cond_true] at h
  cases c2:(ile lo hi&&ile hi (lo+40)) with
  |false=>rw[c2,cond_false] at h;exact absurd h (by decide)
  |true=>
   simp only[Bool.and_eq_true,ile_iff,decide_eq_true_eq] at c c2
   omega
theorem rng_ok {x y a b:Int} (h:ieq (rngE x y a b) 0=true):(a≤x∧x≤y)∧y≤b:=by
 unfold rngE at h
 cases c:(ile a x&&ile x b&&ile a y&&ile y b) with
 |false=>rw[c,cond_false] at h;exact absurd (ieq_t h) (by decide)
 | true =>
  rw[c,cond_true] at h
  cases c2:ile x y with
  |false=>rw[c2,cond_false] at h;exact absurd (ieq_t h) (by decide)
  |true=>
   simp only[Bool.and_eq_true,ile_iff,decide_eq_true_eq] at c c2
   omega
structure StaOK (s:tSt.den):Prop where
 len:1≤s.1.2.length∧s.1.2.length≤4
 loud:(1≤(show Int from s.2.1.1)∧(show Int from s.2.1.1)≤(show Int from s.2.1.2.1))∧(show Int from s.2.1.2.1)≤200
 clear:(1≤(show Int from s.2.2.1.1)∧(show Int from s.2.2.1.1)≤(show Int from s.2.2.1.2.1))∧(show Int from s.2.2.1.2.1)≤300
 gr:∀ g∈s.1.2,gcF g.2.1.1 g.2.1.2.1 g.2.2.1=0
theorem sta_ok {s:tSt.den} (h:ieq (staS s).2.2 0=true):StaOK s:=by
 unfold staS at h
 cases c:(ile 1 (s.1.2.length:Int)&&ile (s.1.2.length:Int) 4) with
 |false=>rw[c,cond_false] at h;exact absurd (ieq_t h) (by decide)
 | true =>
  rw[c,cond_true] at h
  cases c1:ieq (rngE s.2.1.1 s.2.1.2.1 1 200) 7 with
  |true=>rw[c1,cond_true] at h;exact absurd (ieq_t h) (by decide)
  | false =>
   rw[c1,cond_false] at h
   cases c2:ieq (rngE s.2.2.1.1 s.2.2.1.2.1 1 300) 7 with
   |true=>rw[c2,cond_true] at h;exact absurd (ieq_t h) (by decide)
   | false =>
    rw[c2,cond_false] at h
    cases c3:(ieq (rngE s.2.1.1 s.2.1.2.1 1 200) 0&&ieq (rngE s.2.2.1.1 s.2.2.1.2.1 1 300) 0) with
    |false=>rw[c3,cond_false] at h;exact absurd (ieq_t h) (by decide)
    |true=>
     rw[c3,cond_true] at h
     rw[Bool.and_eq_true] at c c3
     have l1:=ile_le c.1
     have l2:=ile_le c.2
     exact⟨⟨by omega,by omega⟩,rng_ok c3.1,rng_ok c3.2,grds_ok _ _ _ h⟩
theorem gAt_mem {s:tSt.den} {a:Int} (h1:0≤a) (h2:a<s.1.2.length):gAt s a∈s.1.2:=by
 unfold gAt
 obtain⟨k,rfl⟩:=Int.eq_ofNat_of_zero_le h1
 rw[List.getD_eq_getElem?_getD,List.getElem?_eq_getElem (by simpa using h2)]
 exact List.getElem_mem _
theorem oil_wr {o b:Int} (h1:0≤o) (h2:o≤1000) (h3:0≤b) (h4:b≤1440):wr .i64 (o * b)=o * b∧wr .i64 (o * b+59)=o * b+59∧wr .i64 (wr .i64 (o * b+60)-1)=o * b+59∧wr .i64 ((o * b+59).tdiv 60)=(o * b+59).tdiv 60∧0≤o * b:=by
 have a:=mul_b (a:=o) (b:=b) (m:=1000) (n:=1440) (by omega) (by omega) (by omega) (by omega)
 have p:0≤o * b:=Int.mul_nonneg h1 h3
 refine⟨wr_in (by omega) (by omega),wr_in (by omega) (by omega),?_,?_,p⟩
 · rw[wr_in (n:=o * b+60) (by omega) (by omega),wr_in (by omega) (by omega)];omega
 · rw[Int.tdiv_eq_ediv_of_nonneg (by omega)];exact wr_in (by omega) (by omega)
theorem inB_of {a:Int} {n:Nat} (h1:0≤a) (h2:a<n):inB a n=true:=by
 obtain⟨k,rfl⟩:=Int.eq_ofNat_of_zero_le h1
 exact inB_at (by simpa using h2)
theorem poil_call (s:tSt.den) (a b:tI.den):AnsF F5 25 [tSt.av s,tI.av a,tI.av b] (tup2 (oilS s a b)):=by
 refine Ans.call (n:=12) (ext_none (by kernel_rfl)) (hasB_spec (by kernel_rfl)) ?_
 have h:=poil_start s a b
 unfold oilS
 cases c:ieq (staS s).2.2 0 with
 |false=>
  simp only[c,Bool.not_true,Bool.not_false,cond_true,cond_false,Bool.true_and,Bool.false_and,Bool.and_true,Bool.and_false] at h⊢
  first|exact done2 (Z5_ok _) F5sy h rfl|(revert h;cases ile 0 b<;>cases ile b 1440<;>(intro h;simp only[Bool.not_true,Bool.not_false,cond_true,cond_false,Bool.true_and,Bool.false_and,Bool.and_true,Bool.and_false] at h;exact done2 (Z5_ok _) F5sy h rfl))
 |true=>
 have so:=sta_ok c
 simp only[c,Bool.not_true,Bool.not_false,cond_true,cond_false,Bool.true_and,Bool.false_and,Bool.and_true,Bool.and_false] at h⊢
 have sl:=so.len
 rw[wr_in (n:=(s.1.2.length:Int)-1) (by omega) (by omega)] at h
 cases c:ile 0 a with
 |false=>
  simp only[c,Bool.not_true,Bool.not_false,cond_true,cond_false,Bool.true_and,Bool.false_and,Bool.and_true,Bool.and_false,show ieq 7 0=false from rfl,show ieq 6 0=false from rfl,show ieq 5 0=false from rfl,show ieq 2 0=false from rfl,show ieq 0 0=true from rfl] at h⊢
  exact done2 (Z5_ok _) F5sy h rfl
 |true=>
 simp only[c,Bool.not_true,Bool.not_false,cond_true,cond_false,Bool.true_and,Bool.false_and,Bool.and_true,Bool.and_false] at h⊢
 have a1:=ile_le c
 cases c:ile a ((s.1.2.length:Int)-1) with
 |false=>
  simp only[c,Bool.not_true,Bool.not_false,cond_true,cond_false,Bool.true_and,Bool.false_and,Bool.and_true,Bool.and_false,show ieq 7 0=false from rfl,show ieq 6 0=false from rfl,show ieq 5 0=false from rfl,show ieq 2 0=false from rfl,show ieq 0 0=true from rfl] at h⊢
  exact done2 (Z5_ok _) F5sy h rfl
 |true=>
 simp only[c,Bool.not_true,Bool.not_false,cond_true,cond_false,Bool.true_and,Bool.false_and,Bool.and_true,Bool.and_false] at h⊢
 have a2:=ile_le c
 cases c:ile 0 b with
 |false=>
  simp only[c,Bool.not_true,Bool.not_false,cond_true,cond_false,Bool.true_and,Bool.false_and,Bool.and_true,Bool.and_false,show ieq 7 0=false from rfl,show ieq 6 0=false from rfl,show ieq 5 0=false from rfl,show ieq 2 0=false from rfl,show ieq 0 0=true from rfl] at h⊢
  exact done2 (Z5_ok _) F5sy h rfl
 |true=>
 simp only[c,Bool.not_true,Bool.not_false,cond_true,cond_false,Bool.true_and,Bool.false_and,Bool.and_true,Bool.and_false] at h⊢
 have b1:=ile_le c
 cases c:ile b 1440 with
 |false=>
  simp only[c,Bool.not_true,Bool.not_false,cond_true,cond_false,Bool.true_and,Bool.false_and,Bool.and_true,Bool.and_false,show ieq 7 0=false from rfl,show ieq 6 0=false from rfl,show ieq 5 0=false from rfl,show ieq 2 0=false from rfl,show ieq 0 0=true from rfl] at h⊢
  exact done2 (Z5_ok _) F5sy h rfl
 |true=>
 simp only[c,Bool.not_true,Bool.not_false,cond_true,cond_false,Bool.true_and,Bool.false_and,Bool.and_true,Bool.and_false] at h⊢
 have b2:=ile_le c
 have hg:=gc_b (so.gr _ (gAt_mem (s:=s) a1 (by omega)))
 have hi:inB a s.1.2.length=true:=inB_of a1 (by omega)
 have e:s.1.2.getD a.toNat tGr.dflt=gAt s a:=rfl
 obtain⟨w1,w2,w3,w4,_⟩:=oil_wr hg.2.2.1 hg.2.2.2 b1 b2
 simp only[hi,e,w1,w2,w3,w4,cond_true] at h
 exact done2 (Z5_ok _) F5sy h rfl
noncomputable def in3 (x y:Int):Bool:=ile (-30000) x&&ile x 30000&&ile (-30000) y&&ile y 30000
noncomputable def repS:Nat→List tRe.den→Int×Int
 |_,[]=>(0,0)
 |i,r::l=>bif in3 r.1.1 r.1.2.1 then repS (i+1) l else ((i:Int),7)
noncomputable def nigB (n:tNi.den):Bool:=in3 n.1.1 n.1.2.1&&ile 0 n.2.2.1&&ile n.2.2.1 31&&ile 1 n.2.2.2.1&&ile n.2.2.2.1 32
noncomputable def cknS (s:tSt.den) (n:tNi.den) (l:List tRe.den):Int×Int:=bif ieq (staS s).2.2 0 then (bif ile 0 n.2.1&&ile n.2.1 ((s.1.2.length:Int)-1) then (bif nigB n then (bif ile (l.length:Int) 8 then repS 0 l else (0,3)) else (0,7)) else (0,4)) else (0,(staS s).2.2)
theorem pckn_ans (s:tSt.den) (n:tNi.den) (l:(Ty.sl tRe).den) (h8:l.2.length≤8):∀ (r i m:Nat),i+r=l.2.length→r<m→Ans F5 (pcknI0 s n l i m) (tup2 (repS i (l.2.drop i)))
 |0,i,m+1,hk,hm=>by
  have h:=pckn_step0 s n l i m
  simp only[Int.ofNat_eq_natCast,ile_ge (show l.2.length≤i by omega),Bool.not_true,cond_false] at h
  rw[List.drop_eq_nil_of_le (by omega)]
  exact done2 (Z5_ok _) F5sy h rfl
 | r + 1, i, m + 1, hk, hm => by
  have h:=pckn_step0 s n l i m
  have hlt:i<l.2.length:=by omega
  simp only[Int.ofNat_eq_natCast,ile_lt hlt,inB_at hlt,getD_at hlt,wr_succ (show i<1048577 by omega),Bool.not_false,cond_true] at h
  rw[List.drop_eq_getElem_cons hlt,repS,in3]
  cases c:ile (-30000) (l.2[i]).1.1 with
  |false=>
   simp only[c,Bool.not_true,Bool.not_false,cond_true,cond_false,Bool.true_and,Bool.false_and,Bool.and_true,Bool.and_false,show ieq 7 0=false from rfl,show ieq 6 0=false from rfl,show ieq 5 0=false from rfl,show ieq 2 0=false from rfl,show ieq 0 0=true from rfl] at h⊢
   exact done2 (Z5_ok _) F5sy h rfl
  |true=>
  simp only[c,Bool.not_true,Bool.not_false,cond_true,cond_false,Bool.true_and,Bool.false_and,Bool.and_true,Bool.and_false] at h⊢
  cases c:ile (l.2[i]).1.1 30000 with
  |false=>
   simp only[c,Bool.not_true,Bool.not_false,cond_true,cond_false,Bool.true_and,Bool.false_and,Bool.and_true,Bool.and_false,show ieq 7 0=false from rfl,show ieq 6 0=false from rfl,show ieq 5 0=false from rfl,show ieq 2 0=false from rfl,show ieq 0 0=true from rfl] at h⊢
   exact done2 (Z5_ok _) F5sy h rfl
  |true=>
  simp only[c,Bool.not_true,Bool.not_false,cond_true,cond_false,Bool.true_and,Bool.false_and,Bool.and_true,Bool.and_false] at h⊢
  cases c:ile (-30000) (l.2[i]).1.2.1 with
  |false=>
   simp only[c,Bool.not_true,Bool.not_false,cond_true,cond_false,Bool.true_and,Bool.false_and,Bool.and_true,Bool.and_false,show ieq 7 0=false from rfl,show ieq 6 0=false from rfl,show ieq 5 0=false from rfl,show ieq 2 0=false from rfl,show ieq 0 0=true from rfl] at h⊢
   exact done2 (Z5_ok _) F5sy h rfl
  |true=>
  simp only[c,Bool.not_true,Bool.not_false,cond_true,cond_false,Bool.true_and,Bool.false_and,Bool.and_true,Bool.and_false] at h⊢
  cases c:ile (l.2[i]).1.2.1 30000 with
  |false=>
   simp only[c,Bool.not_true,Bool.not_false,cond_true,cond_false,Bool.true_and,Bool.false_and,Bool.and_true,Bool.and_false,show ieq 7 0=false from rfl,show ieq 6 0=false from rfl,show ieq 5 0=false from rfl,show ieq 2 0=false from rfl,show ieq 0 0=true from rfl] at h⊢
   exact done2 (Z5_ok _) F5sy h rfl
  |true=>
  simp only[c,Bool.not_true,Bool.not_false,cond_true,cond_false,Bool.true_and,Bool.false_and,Bool.and_true,Bool.and_false] at h⊢
  exact .stopE (Z5_ok _) F5sy h (pckn_ans s n l h8 r (i+1) m (by omega) (by omega)) rfl
theorem pckn_call (s:tSt.den) (n:tNi.den) (l:(Ty.sl tRe).den):AnsF F5 53 [tSt.av s,tNi.av n,.vs tRe l.1 l.2] (tup2 (cknS s n l.2)):=by
 refine Ans.call (n:=12) (ext_none (by kernel_rfl)) (hasB_spec (by kernel_rfl)) ?_
 have h:=pckn_start s n l
 unfold cknS nigB in3
 cases c:ieq (staS s).2.2 0 with
 |false=>
  simp only[c,Bool.not_true,Bool.not_false,cond_true,cond_false,Bool.true_and,Bool.false_and,Bool.and_true,Bool.and_false] at h⊢
  exact done2 (Z5_ok _) F5sy h rfl
 |true=>
 have so:=sta_ok c
 simp only[c,Bool.not_true,Bool.not_false,cond_true,cond_false,Bool.true_and,Bool.false_and,Bool.and_true,Bool.and_false] at h⊢
 have sl:=so.len
 rw[wr_in (n:=(s.1.2.length:Int)-1) (by omega) (by omega)] at h
 cases c:ile 0 n.2.1 with
 |false=>
  simp only[c,Bool.not_true,Bool.not_false,cond_true,cond_false,Bool.true_and,Bool.false_and,Bool.and_true,Bool.and_false,show ieq 7 0=false from rfl,show ieq 6 0=false from rfl,show ieq 5 0=false from rfl,show ieq 2 0=false from rfl,show ieq 0 0=true from rfl] at h⊢
  exact done2 (Z5_ok _) F5sy h rfl
 |true=>
 simp only[c,Bool.not_true,Bool.not_false,cond_true,cond_false,Bool.true_and,Bool.false_and,Bool.and_true,Bool.and_false] at h⊢
 cases c:ile n.2.1 ((s.1.2.length:Int)-1) with
 |false=>
  simp only[c,Bool.not_true,Bool.not_false,cond_true,cond_false,Bool.true_and,Bool.false_and,Bool.and_true,Bool.and_false,show ieq 7 0=false from rfl,show ieq 6 0=false from rfl,show ieq 5 0=false from rfl,show ieq 2 0=false from rfl,show ieq 0 0=true from rfl] at h⊢
  exact done2 (Z5_ok _) F5sy h rfl
 |true=>
 simp only[c,Bool.not_true,Bool.not_false,cond_true,cond_false,Bool.true_and,Bool.false_and,Bool.and_true,Bool.and_false] at h⊢
 cases c:ile (-30000) n.1.1 with
 |false=>
  simp only[c,Bool.not_true,Bool.not_false,cond_true,cond_false,Bool.true_and,Bool.false_and,Bool.and_true,Bool.and_false,show ieq 7 0=false from rfl,show ieq 6 0=false from rfl,show ieq 5 0=false from rfl,show ieq 2 0=false from rfl,show ieq 0 0=true from rfl] at h⊢
  exact done2 (Z5_ok _) F5sy h rfl
 |true=>
 simp only[c,Bool.not_true,Bool.not_false,cond_true,cond_false,Bool.true_and,Bool.false_and,Bool.and_true,Bool.and_false] at h⊢
 cases c:ile n.1.1 30000 with
 |false=>
  simp only[c,Bool.not_true,Bool.not_false,cond_true,cond_false,Bool.true_and,Bool.false_and,Bool.and_true,Bool.and_false,show ieq 7 0=false from rfl,show ieq 6 0=false from rfl,show ieq 5 0=false from rfl,show ieq 2 0=false from rfl,show ieq 0 0=true from rfl] at h⊢
  exact done2 (Z5_ok _) F5sy h rfl
 |true=>
 simp only[c,Bool.not_true,Bool.not_false,cond_true,cond_false,Bool.true_and,Bool.false_and,Bool.and_true,Bool.and_false] at h⊢
 cases c:ile (-30000) n.1.2.1 with
 |false=>
  simp only[c,Bool.not_true,Bool.not_false,cond_true,cond_false,Bool.true_and,Bool.false_and,Bool.and_true,Bool.and_false,show ieq 7 0=false from rfl,show ieq 6 0=false from rfl,show ieq 5 0=false from rfl,show ieq 2 0=false from rfl,show ieq 0 0=true from rfl] at h⊢
  exact done2 (Z5_ok _) F5sy h rfl
 |true=>
 simp only[c,Bool.not_true,Bool.not_false,cond_true,cond_false,Bool.true_and,Bool.false_and,Bool.and_true,Bool.and_false] at h⊢
 cases c:ile n.1.2.1 30000 with
 |false=>
  simp only[c,Bool.not_true,Bool.not_false,cond_true,cond_false,Bool.true_and,Bool.false_and,Bool.and_true,Bool.and_false,show ieq 7 0=false from rfl,show ieq 6 0=false from rfl,show ieq 5 0=false from rfl,show ieq 2 0=false from rfl,show ieq 0 0=true from rfl] at h⊢
  exact done2 (Z5_ok _) F5sy h rfl
 |true=>
 simp only[c,Bool.not_true,Bool.not_false,cond_true,cond_false,Bool.true_and,Bool.false_and,Bool.and_true,Bool.and_false] at h⊢
 cases c:ile 0 n.2.2.1 with
 |false=>
  simp only[c,Bool.not_true,Bool.not_false,cond_true,cond_false,Bool.true_and,Bool.false_and,Bool.and_true,Bool.and_false,show ieq 7 0=false from rfl,show ieq 6 0=false from rfl,show ieq 5 0=false from rfl,show ieq 2 0=false from rfl,show ieq 0 0=true from rfl] at h⊢
  exact done2 (Z5_ok _) F5sy h rfl
 |true=>
 simp only[c,Bool.not_true,Bool.not_false,cond_true,cond_false,Bool.true_and,Bool.false_and,Bool.and_true,Bool.and_false] at h⊢
 cases c:ile n.2.2.1 31 with
 |false=>
  simp only[c,Bool.not_true,Bool.not_false,cond_true,cond_false,Bool.true_and,Bool.false_and,Bool.and_true,Bool.and_false,show ieq 7 0=false from rfl,show ieq 6 0=false from rfl,show ieq 5 0=false from rfl,show ieq 2 0=false from rfl,show ieq 0 0=true from rfl] at h⊢
  exact done2 (Z5_ok _) F5sy h rfl
 |true=>
 simp only[c,Bool.not_true,Bool.not_false,cond_true,cond_false,Bool.true_and,Bool.false_and,Bool.and_true,Bool.and_false] at h⊢
 cases c:ile 1 n.2.2.2.1 with
 |false=>
  simp only[c,Bool.not_true,Bool.not_false,cond_true,cond_false,Bool.true_and,Bool.false_and,Bool.and_true,Bool.and_false,show ieq 7 0=false from rfl,show ieq 6 0=false from rfl,show ieq 5 0=false from rfl,show ieq 2 0=false from rfl,show ieq 0 0=true from rfl] at h⊢
  exact done2 (Z5_ok _) F5sy h rfl
 |true=>
 simp only[c,Bool.not_true,Bool.not_false,cond_true,cond_false,Bool.true_and,Bool.false_and,Bool.and_true,Bool.and_false] at h⊢
 cases c:ile n.2.2.2.1 32 with
 |false=>
  simp only[c,Bool.not_true,Bool.not_false,cond_true,cond_false,Bool.true_and,Bool.false_and,Bool.and_true,Bool.and_false,show ieq 7 0=false from rfl,show ieq 6 0=false from rfl,show ieq 5 0=false from rfl,show ieq 2 0=false from rfl,show ieq 0 0=true from rfl] at h⊢
  exact done2 (Z5_ok _) F5sy h rfl
 |true=>
 simp only[c,Bool.not_true,Bool.not_false,cond_true,cond_false,Bool.true_and,Bool.false_and,Bool.and_true,Bool.and_false] at h⊢
 cases c:ile (l.2.length:Int) 8 with
 |false=>
  simp only[c,Bool.not_true,Bool.not_false,cond_true,cond_false,Bool.true_and,Bool.false_and,Bool.and_true,Bool.and_false,show ieq 7 0=false from rfl,show ieq 6 0=false from rfl,show ieq 5 0=false from rfl,show ieq 2 0=false from rfl,show ieq 0 0=true from rfl] at h⊢
  exact done2 (Z5_ok _) F5sy h rfl
 |true=>
 simp only[c,Bool.not_true,Bool.not_false,cond_true,cond_false,Bool.true_and,Bool.false_and,Bool.and_true,Bool.and_false] at h⊢
 have l8:l.2.length≤8:=by have:=ile_le c;omega
 exact .stopE (Z5_ok _) F5sy h (pckn_ans s n l l8 l.2.length 0 1048575 (by omega) (by omega)) rfl
noncomputable def LF6:List Said:=[(25,con3 tSt tI tI (fun _ _ _=>true) (fun s a b=>tup2 (oilS s a b))),(53,con3 tSt tNi (.sl tRe) (fun _ _ _=>true) (fun s n l=>tup2 (cknS s n l.2)))]
theorem LF6_ok:∀ e∈LF6,SaidG Tryz.prog F5.glob e:=
 saids_cons (SaidOK.g f5 xf5 nf5 tabs_ok.mix (fun _ _ h=>con3_spec (t:=tSt) (u:=tI) (w:=tI) (fun s a b _=>poil_call s a b) h) rfl)
 (saids_cons (SaidOK.g f5 xf5 nf5 tabs_ok.mix (fun _ _ h=>con3_spec (t:=tSt) (u:=tNi) (w:=.sl tRe) (fun s n l _=>pckn_call s n l) h) rfl) saids_nil)
noncomputable def F6:Env:=F5.say (under (xOf LF6))
theorem f6:EnvOK Tryz.prog F6:=f5.say _
theorem nf6:NameOK F6:=nf5.say _
theorem xf6:ExtOK Tryz.prog F6:=xf5.sayL LF6_ok
theorem F6sy:F6.sy=true:=rfl
noncomputable def Z6 (l:List Nat):Sy:=(Z5 []).on LF6 l
theorem Z6_ok (l:List Nat):(Z6 l).ok F6:=Sy.on_ok (Z5_ok _)
end Go.Proofs.YtpnipaimaohiaaaGreatDoor


set_option maxRecDepth 100000
namespace Go.Proofs.YtpnipaimaohiaaaGreatDoor
open Go Go.Eng
noncomputable def LH:List Said:=[]
theorem LH_ok:∀ e∈LH,SaidG Tryz.prog F6.glob e:=
 saids_nil
noncomputable def H1:Env:=F6.say (under (xOf LH))
theorem h1:EnvOK Tryz.prog H1:=f6.say _
theorem nh1:NameOK H1:=nf6.say _
theorem xh1:ExtOK Tryz.prog H1:=xf6.sayL LH_ok
noncomputable def Y1 (l:List Nat):Sy:=(Z6 []).on LH l
theorem Y1_ok (l:List Nat):(Y1 l).ok H1:=Sy.on_ok (Z6_ok _)
end Go.Proofs.YtpnipaimaohiaaaGreatDoor


set_option maxRecDepth 100000
namespace Go.Proofs.YtpnipaimaohiaaaGreatDoor
open Go Go.Eng
noncomputable def metF (n:tNi.den) (p t:tP.den) (h:Bool):Bool:=bif h then hrdF t.1 t.2.1 ((p.1-n.1.1) * (p.1-n.1.1)+(p.2.1-n.1.2.1) * (p.2.1-n.1.2.1)) (ptF (p.1-n.1.1) (p.2.1-n.1.2.1)) else seenF t.1 t.2.1 ((p.1-n.1.1) * (p.1-n.1.1)+(p.2.1-n.1.2.1) * (p.2.1-n.1.2.1))
noncomputable def truB (t:tP.den) (h:Bool):Bool:=bif h then ile 1 t.1&&ile t.1 200&&inV t.2.1 else ile 0 t.1&&ile t.1 5000&&ile 1 t.2.1&&ile t.2.1 300
theorem in3_iff {x y:Int}:in3 x y=true↔(-30000≤x∧x≤30000)∧-30000≤y∧y≤30000:=by
 simp only[in3,Bool.and_eq_true,ile_iff,decide_eq_true_eq,and_assoc]
theorem df3 {a b x y:Int} (h1:in3 a b=true) (h2:in3 x y=true):wr .i64 (x-a)=x-a∧wr .i64 (y-b)=y-b∧nrB (x-a) (y-b)=true:=by
 rw[in3_iff] at h1 h2
 exact⟨wr_in (by omega) (by omega),wr_in (by omega) (by omega),nrB_iff.2 ⟨⟨by omega,by omega⟩,by omega,by omega⟩⟩
noncomputable def LM:List Said:=[]
theorem LM_ok:∀ e∈LM,SaidG Tryz.prog H1.glob e:=
 saids_nil
noncomputable def H2:Env:=H1.say (under (xOf LM))
theorem h2:EnvOK Tryz.prog H2:=h1.say _
theorem nh2:NameOK H2:=nh1.say _
theorem xh2:ExtOK Tryz.prog H2:=xh1.sayL LM_ok
noncomputable def Y2 (l:List Nat):Sy:=(Y1 []).on LM l
theorem Y2_ok (l:List Nat):(Y2 l).ok H2:=Sy.on_ok (Y1_ok _)
end Go.Proofs.YtpnipaimaohiaaaGreatDoor


set_option maxRecDepth 100000
namespace Go.Proofs.YtpnipaimaohiaaaGreatDoor
open Go Go.Eng
noncomputable def agr1 (n:tNi.den) (t:tP.den) (h:Bool) (r:tRe.den):Bool:=bif r.2.1 == h then r.2.2.1 == metF n r.1 t h else true
noncomputable def agrF (n:tNi.den) (l:List tRe.den) (t:tP.den) (h:Bool):Bool:=l.all (agr1 n t h)
noncomputable def repB (l:List tRe.den):Bool:=l.all fun r=>in3 r.1.1 r.1.2.1
noncomputable def LN:List Said:=[]
theorem LN_ok:∀ e∈LN,SaidG Tryz.prog H2.glob e:=
 saids_nil
noncomputable def H3:Env:=H2.say (under (xOf LN))
theorem h3:EnvOK Tryz.prog H3:=h2.say _
theorem nh3:NameOK H3:=nh2.say _
theorem xh3:ExtOK Tryz.prog H3:=xh2.sayL LN_ok
noncomputable def Y3 (l:List Nat):Sy:=(Y2 []).on LN l
theorem Y3_ok (l:List Nat):(Y3 l).ok H3:=Sy.on_ok (Y2_ok _)
end Go.Proofs.YtpnipaimaohiaaaGreatDoor


set_option maxRecDepth 100000
namespace Go.Proofs.YtpnipaimaohiaaaGreatDoor
open Go Go.Eng
noncomputable def sI (x:Int) (o:Option Out):Option Out:=bif ieq x x then o else none
noncomputable def sB (x:Bool) (o:Option Out):Option Out:=bif bbeq x x then o else none
noncomputable def sV (t:Ty) (l:List t.den) (o:Option Out):Option Out:=bif vsB t l t l then o else none
theorem sI_eq (x:Int) (o:Option Out):sI x o=o:=by unfold sI;rw[ieq_self];rfl
theorem sB_eq (x:Bool) (o:Option Out):sB x o=o:=by unfold sB;rw[bbeq_self];rfl
theorem sV_eq (t:Ty) (l:List t.den) (o:Option Out):sV t l o=o:=by unfold sV;rw[vsB_self];rfl
abbrev En6:=Int×Int×Bool×Int×Int×Bool
noncomputable def mtL (t:Int×Int×Bool) (n:Int):Int:=bif t.2.2 then (bif ile t.1 n then t.1 else n) else (bif ile n n then n else n)
noncomputable def mtH (t:Int×Int×Bool) (n:Int):Int:=bif t.2.2 then (bif ile n t.2.1 then t.2.1 else n) else (bif ile n n then n else n)
noncomputable def clrV (t:En6):AV:=.tup [.agg [.int .i64 t.1,.int .i64 t.2.1],.agg [.int .i64 t.2.2.2.1,.int .i64 t.2.2.2.2.1],.int .i64 (bif t.2.2.1 then 0 else 9)]
end Go.Proofs.YtpnipaimaohiaaaGreatDoor


set_option maxRecDepth 100000
namespace Go.Proofs.YtpnipaimaohiaaaGreatDoor
open Go Go.Eng
noncomputable def pclrk2 (z0:tSt.den):AV:=(.agg [(.vs tGr (z0.1.1) (z0.1.2)),(iI (z0.2.1.1)),(iI (z0.2.1.2.1)),(iI (z0.2.2.1.1)),(iI (z0.2.2.1.2.1))])
noncomputable def pclrk5 (z0:tNi.den):AV:=(.agg [(iI (z0.1.1)),(iI (z0.1.2.1)),(iI (z0.2.1)),(iI (z0.2.2.1)),(iI (z0.2.2.2.1))])
noncomputable def pclrk15 (z0:tSt.den) (z1:tNi.den):AV:=(.agg [(.vs tGr (z0.1.1) (z0.1.2)),(iI (z0.2.1.1)),(iI (z0.2.1.2.1)),(iI (z0.2.2.1.1)),(iI (z0.2.2.1.2.1)),(iI (z1.1.1)),(iI (z1.1.2.1)),(iI (z1.2.1)),(iI (z1.2.2.1)),(iI (z1.2.2.2.1)),.nils])
noncomputable def pclrQ0 (s:tSt.den) (n:tNi.den) (l:(Ty.sl tRe).den):Tmps:=(tmOf 37 [(0,(pclrk2 s)),(1,(pclrk5 n)),(2,(.vs tRe (l.1) (l.2))),(3,(pP 6 0)),(4,(pP 7 0)),(6,.nilp),(7,(pP 8 0)),(10,(pclrk2 s)),(11,(pclrk5 n)),(12,(pclrk15 s n)),(13,(pP 8 0)),(14,(.vs tRe (l.1) (l.2))),(15,(iI (Int.ofNat l.2.length))),(16,(iI 0))])
noncomputable def pclrQ1 (s:tSt.den) (n:tNi.den) (l:(Ty.sl tRe).den):Tmps:=(tmOf 41 [(0,(pclrk2 s)),(1,(pclrk5 n)),(2,(.vs tRe (l.1) (l.2))),(3,.nils),(4,(pP 4 0)),(5,(pP 5 0)),(8,.nilp),(9,(iI 0)),(10,(iI ((cknS s n l.2).1))),(11,(iI ((cknS s n l.2).2))),(15,(.tup [(iI ((cknS s n l.2).1)),(iI ((cknS s n l.2).2))])),(16,(pclrk2 s)),(17,(pclrk5 n)),(18,(.vs tRe (l.1) (l.2))),(19,(.tup [(iI ((cknS s n l.2).1)),(iI ((cknS s n l.2).2))])),(20,(iI ((cknS s n l.2).1))),(21,(iI ((cknS s n l.2).2))),(22,(iI ((cknS s n l.2).2))),(23,(.bool false)),(25,.nils),(26,(iI 0)),(27,(iI 0)),(28,(.bool false)),(37,(pclrk2 s)),(38,(pclrk5 n)),(39,(.vs tRe (l.1) (l.2)))])
noncomputable def pclrQ2 (s:tSt.den) (n:tNi.den) (l:(Ty.sl tRe).den):Tmps:=(tmOf 44 [(0,(pclrk2 s)),(1,(pclrk5 n)),(2,(.vs tRe (l.1) (l.2))),(3,(pP 0 0)),(4,(pP 1 0)),(6,(pP 2 0)),(7,(pP 3 0)),(8,(iI 0)),(16,(pclrk2 s)),(17,(pclrk5 n)),(18,(.vs tRe (l.1) (l.2)))])
noncomputable def pclrk0 (z0:tSt.den):AO:=(cF [(.vs tGr (z0.1.1) (z0.1.2)),(iI (z0.2.1.1)),(iI (z0.2.1.2.1)),(iI (z0.2.2.1.1)),(iI (z0.2.2.1.2.1))])
noncomputable def pclrk1 (z0:tNi.den):AO:=(cF [(iI (z0.1.1)),(iI (z0.1.2.1)),(iI (z0.2.1)),(iI (z0.2.2.1)),(iI (z0.2.2.2.1))])
noncomputable def pclrk8 (z0:tSt.den) (z1:tNi.den):AO:=(cF [(.vs tGr (z0.1.1) (z0.1.2)),(iI (z0.2.1.1)),(iI (z0.2.1.2.1)),(iI (z0.2.2.1.1)),(iI (z0.2.2.1.2.1)),(iI (z1.1.1)),(iI (z1.1.2.1)),(iI (z1.2.1)),(iI (z1.2.2.1)),(iI (z1.2.2.2.1)),.nils])
noncomputable def pclrk13:Fm:=(.cal [(.cell 6 24),(.cell 7 24),(.tmp 8)] .top)
noncomputable def pclrI0 (s:tSt.den) (n:tNi.den) (l:(Ty.sl tRe).den) (x126:Nat):Cfg:=⟨.ex (pcOf F6 54 [0,0,1,0,1,1]) ⟨(pclrQ0 s n l),(hpOf 9 [(0,(pclrk0 s)),(1,(pclrk1 n)),(2,(cF [(iI 0),(iI 0)])),(3,(cF [(iI 0),(iI 0)])),(4,(pclrk0 s)),(5,(pclrk1 n)),(6,(pclrk0 s)),(7,(pclrk1 n)),(8,(pclrk8 s n))]),[],[],37,false⟩,⟨38,[]⟩,[(.lop (pcOf F6 54 [0,0,1,0,1,1]) 9 (pclrQ0 s n l) x126),(.blk 0),(.seq (pcOf F6 54 [1,1,1])),(.cal [(.tmp 6)] (.op (pcOf F6 28 [0,1,1,1]) 4 (some 40) ((opsOf (pcOf F6 28 [0,1,1,1]).c).toList.drop 4) (pclrQ1 s n l) [] 41 false ⟨39,[]⟩)),(.seq (pcOf F6 28 [1,1,1,1])),(.cal [(.tmp 8),(.tmp 9)] (.op (pcOf F6 7 [0,1]) 4 (some 19) ((opsOf (pcOf F6 7 [0,1]).c).toList.drop 4) (pclrQ2 s n l) [] 44 false ⟨40,[]⟩)),(.seq (pcOf F6 7 [1,1])),(pclrk13)]⟩
noncomputable def pclrQ3:Tmps:=(tmOf 24 [(0,(.yld 13)),(1,(pP 11 0)),(2,(pP 12 0)),(3,(pP 14 0)),(7,(pP 8 0)),(8,(.bool false)),(9,(.fn 106 [] [(pP 15 0),(pP 16 0),(pP 17 0)]))])
noncomputable def pclrQ4 (s:tSt.den) (n:tNi.den) (l:(Ty.sl tRe).den):Tmps:=(tmOf 44 [(0,(pclrk2 s)),(1,(pclrk5 n)),(2,(.vs tRe (l.1) (l.2))),(3,(pP 0 0)),(4,(pP 1 0)),(6,(pP 2 0)),(7,(pP 3 0)),(8,(iI 0)),(9,(pP 8 0)),(10,(pP 9 0)),(11,(pP 10 0)),(15,(.tup [(pP 8 0),(iI 0)])),(16,(pclrk2 s)),(17,(pclrk5 n)),(18,(.vs tRe (l.1) (l.2))),(19,(.tup [(pP 8 0),(iI 0)])),(20,(pP 8 0)),(21,(iI 0)),(22,(iI 0)),(23,(.bool false)),(27,(pP 8 0)),(28,(.fn 55 [] [(pP 11 0),(pP 12 0)]))])
noncomputable def pclrk20 (z0:tSt.den) (z1:tNi.den):AV:=(iI ((z0.1.2.getD (Int.toNat z1.2.1) tGr.dflt).2.1.1))
noncomputable def pclrk6 (z0:tSt.den) (z1:tNi.den):AV:=(.agg [(pclrk20 z0 z1),(iI ((z0.1.2.getD (Int.toNat z1.2.1) tGr.dflt).2.1.2.1))])
noncomputable def pclrk4 (z0:tSt.den) (z1:tNi.den):AV:=(iI (wr .i64 (wr .i64 ((z0.1.2.getD (Int.toNat z1.2.1) tGr.dflt).2.1.2.1-(z0.1.2.getD (Int.toNat z1.2.1) tGr.dflt).2.1.1)+1)))
noncomputable def pclrQ5 (s:tSt.den) (n:tNi.den):Tmps:=(tmOf 33 [(0,(.yld 18)),(1,(pP 15 0)),(2,(pP 16 0)),(3,(pP 17 0)),(7,(pclrk6 s n)),(8,(pclrk4 s n)),(9,(iI 0))])
noncomputable def pclrk3 (z0:tSt.den) (z1:tNi.den):AO:=(cF [(pclrk20 z0 z1),(iI ((z0.1.2.getD (Int.toNat z1.2.1) tGr.dflt).2.1.2.1))])
noncomputable def pclrk11 (z0:tSt.den):AO:=(cF [(iI (z0.2.2.1.1)),(iI (z0.2.2.1.2.1))])
noncomputable def pclrk17:HD:=⟨18,24,39,(pclrQ3),#[10],(pcOf F6 55 [0,0,1,1,0,1]),(pcOf F6 55 [1,0,1,1,0,1])⟩
noncomputable def pclrk9 (z0:tSt.den) (z1:tNi.den) (z2:(Ty.sl tRe).den):HD:=⟨13,44,40,(pclrQ4 z0 z1 z2),#[29],(pcOf F6 7 [0,0,1,0,1,1,1,1]),(pcOf F6 7 [1,0,1,0,1,1,1,1])⟩
noncomputable def pclrI1 (s:tSt.den) (n:tNi.den) (l:(Ty.sl tRe).den) (x3:Int) (x52:Int) (x53:Int) (x54:Bool) (x55:Int) (x56:Int) (x57:Bool) (x102:Nat):Cfg:=⟨.ex (pcOf F6 106 [0,0,1]) ⟨(tmOf 33 [(0,(.yld 18)),(1,(pP 15 0)),(2,(pP 16 0)),(3,(pP 17 0)),(7,(pclrk6 s n)),(8,(pclrk4 s n)),(9,(iI x3))]),(hpOf 20 [(0,(pclrk0 s)),(1,(pclrk1 n)),(2,(cF [(iI 0),(iI 0)])),(3,(cF [(iI 0),(iI 0)])),(4,(pclrk0 s)),(5,(pclrk1 n)),(6,(pclrk0 s)),(7,(pclrk1 n)),(8,(pclrk8 s n)),(9,(cF [(iI x52),(iI x53),(.bool x54)])),(10,(cF [(iI x55),(iI x56),(.bool x57)])),(11,(cF [(pP 8 0)])),(12,(cF [(.bool false)])),(14,(cF [(.yld 13)])),(15,(pclrk3 s n)),(16,(pclrk11 s)),(17,(cF [(.fn 39 [] [])])),(19,(pclrk3 s n))]),[],[⟨false,.normal⟩,⟨false,.normal⟩],33,false⟩,⟨38,[(pclrk17),(pclrk9 s n l)]⟩,[(.lop (pcOf F6 106 [0,0,1]) 20 (pclrQ5 s n) x102),(.blk 0),(.cal [] (.rng (pclrQ3) [] 24 false ⟨39,[(pclrk9 s n l)]⟩)),(.blk 0),(.cal [] (.rng (pclrQ4 s n l) [] 44 false ⟨40,[]⟩)),(.blk 0),(.seq (pcOf F6 7 [1,1,1,1,1])),(pclrk13)]⟩
noncomputable def pclrk7 (z0:tSt.den) (z1:tNi.den) (z2:Nat):AO:=(cF [(.vs tGr (z0.1.1) (z0.1.2)),(iI (z0.2.1.1)),(iI (z0.2.1.2.1)),(iI (z0.2.2.1.1)),(iI (z0.2.2.1.2.1)),(iI (z1.1.1)),(iI (z1.1.2.1)),(iI (z1.2.1)),(iI (z1.2.2.1)),(iI (z1.2.2.2.1)),(.sl 9 0 z2 z2 6)])
noncomputable def pclrI2 (s:tSt.den) (n:tNi.den) (l:(Ty.sl tRe).den) (x38:Int) (x87:Nat) (x89:List AV) (x129:Nat):Cfg:=⟨.ex (pcOf F6 54 [0,0,1,0,1,1]) ⟨(tmOf 37 [(0,(pclrk2 s)),(1,(pclrk5 n)),(2,(.vs tRe (l.1) (l.2))),(3,(pP 6 0)),(4,(pP 7 0)),(6,.nilp),(7,(pP 8 0)),(10,(pclrk2 s)),(11,(pclrk5 n)),(12,(pclrk15 s n)),(13,(pP 8 0)),(14,(.vs tRe (l.1) (l.2))),(15,(iI (Int.ofNat l.2.length))),(16,(iI x38))]),(hpOf 10 [(0,(pclrk0 s)),(1,(pclrk1 n)),(2,(cF [(iI 0),(iI 0)])),(3,(cF [(iI 0),(iI 0)])),(4,(pclrk0 s)),(5,(pclrk1 n)),(6,(pclrk0 s)),(7,(pclrk1 n)),(8,(pclrk7 s n x87)),(9,(cF x89))]),[],[],37,false⟩,⟨38,[]⟩,[(.lop (pcOf F6 54 [0,0,1,0,1,1]) 9 (pclrQ0 s n l) x129),(.blk 0),(.seq (pcOf F6 54 [1,1,1])),(.cal [(.tmp 6)] (.op (pcOf F6 28 [0,1,1,1]) 4 (some 40) ((opsOf (pcOf F6 28 [0,1,1,1]).c).toList.drop 4) (pclrQ1 s n l) [] 41 false ⟨39,[]⟩)),(.seq (pcOf F6 28 [1,1,1,1])),(.cal [(.tmp 8),(.tmp 9)] (.op (pcOf F6 7 [0,1]) 4 (some 19) ((opsOf (pcOf F6 7 [0,1]).c).toList.drop 4) (pclrQ2 s n l) [] 44 false ⟨40,[]⟩)),(.seq (pcOf F6 7 [1,1])),(pclrk13)]⟩
noncomputable def pclrk14 (z0:tSt.den):AV:=(.agg [(iI (z0.2.2.1.1)),(iI (z0.2.2.1.2.1))])
noncomputable def pclrk12 (z0:tSt.den):AV:=(iI (wr .i64 (wr .i64 (z0.2.2.1.2.1-z0.2.2.1.1)+1)))
noncomputable def pclrQ6 (s:tSt.den) (n:tNi.den) (y0:Int):Tmps:=(tmOf 33 [(0,(.yld 18)),(1,(pP 15 0)),(2,(pP 16 0)),(3,(pP 17 0)),(5,(iI y0)),(7,(pclrk6 s n)),(8,(pclrk4 s n)),(9,(iI y0)),(10,(.bool true)),(11,(iI y0)),(12,(pclrk14 s)),(13,(pclrk12 s)),(14,(iI 0))])
noncomputable def pclrk16:PC:=(pcOf F6 106 [0,0,1,1,0,0,1,1,0,0,1])
noncomputable def pclrI3 (s:tSt.den) (n:tNi.den) (l:(Ty.sl tRe).den) (x0:Int) (x10:Int) (x59:Int) (x60:Int) (x61:Bool) (x62:Int) (x63:Int) (x64:Bool) (x118:Nat) (x123:Nat):Cfg:=⟨.ex (pclrk16) ⟨(tmOf 33 [(0,(.yld 18)),(1,(pP 15 0)),(2,(pP 16 0)),(3,(pP 17 0)),(5,(iI x0)),(7,(pclrk6 s n)),(8,(pclrk4 s n)),(9,(iI x0)),(10,(.bool true)),(11,(iI x0)),(12,(pclrk14 s)),(13,(pclrk12 s)),(14,(iI x10))]),(hpOf 21 [(0,(pclrk0 s)),(1,(pclrk1 n)),(2,(cF [(iI 0),(iI 0)])),(3,(cF [(iI 0),(iI 0)])),(4,(pclrk0 s)),(5,(pclrk1 n)),(6,(pclrk0 s)),(7,(pclrk1 n)),(8,(pclrk8 s n)),(9,(cF [(iI x59),(iI x60),(.bool x61)])),(10,(cF [(iI x62),(iI x63),(.bool x64)])),(11,(cF [(pP 8 0)])),(12,(cF [(.bool false)])),(14,(cF [(.yld 13)])),(15,(pclrk3 s n)),(16,(pclrk11 s)),(17,(cF [(.fn 39 [] [])])),(19,(pclrk3 s n)),(20,(pclrk11 s))]),[],[⟨false,.normal⟩,⟨false,.normal⟩],33,false⟩,⟨38,[(pclrk17),(pclrk9 s n l)]⟩,[(.lop (pclrk16) 21 (pclrQ6 s n x0) x118),(.blk 2),(.blk 1),(.seq (pcOf F6 106 [1,1,1,0,0,1])),(.lop (pcOf F6 106 [0,0,1]) 20 (pclrQ5 s n) x123),(.blk 0),(.cal [] (.rng (pclrQ3) [] 24 false ⟨39,[(pclrk9 s n l)]⟩)),(.blk 0),(.cal [] (.rng (pclrQ4 s n l) [] 44 false ⟨40,[]⟩)),(.blk 0),(.seq (pcOf F6 7 [1,1,1,1,1])),(pclrk13)]⟩
noncomputable def pclrQ7:Tmps:=(tmOf 24 [(0,(.yld 14)),(1,(pP 12 0)),(2,(pP 13 0)),(3,(pP 15 0)),(7,(pP 8 0)),(8,(.bool false)),(9,(.fn 106 [] [(pP 16 0),(pP 17 0),(pP 18 0)]))])
noncomputable def pclrQ8 (s:tSt.den) (n:tNi.den) (l:(Ty.sl tRe).den):Tmps:=(tmOf 44 [(0,(pclrk2 s)),(1,(pclrk5 n)),(2,(.vs tRe (l.1) (l.2))),(3,(pP 0 0)),(4,(pP 1 0)),(6,(pP 2 0)),(7,(pP 3 0)),(8,(iI 0)),(9,(pP 8 0)),(10,(pP 10 0)),(11,(pP 11 0)),(15,(.tup [(pP 8 0),(iI 0)])),(16,(pclrk2 s)),(17,(pclrk5 n)),(18,(.vs tRe (l.1) (l.2))),(19,(.tup [(pP 8 0),(iI 0)])),(20,(pP 8 0)),(21,(iI 0)),(22,(iI 0)),(23,(.bool false)),(27,(pP 8 0)),(28,(.fn 55 [] [(pP 12 0),(pP 13 0)]))])
noncomputable def pclrQ9 (s:tSt.den) (n:tNi.den):Tmps:=(tmOf 33 [(0,(.yld 19)),(1,(pP 16 0)),(2,(pP 17 0)),(3,(pP 18 0)),(7,(pclrk6 s n)),(8,(pclrk4 s n)),(9,(iI 0))])
noncomputable def pclrk18:HD:=⟨19,24,39,(pclrQ7),#[10],(pcOf F6 55 [0,0,1,1,0,1]),(pcOf F6 55 [1,0,1,1,0,1])⟩
noncomputable def pclrk10 (z0:tSt.den) (z1:tNi.den) (z2:(Ty.sl tRe).den):HD:=⟨14,44,40,(pclrQ8 z0 z1 z2),#[29],(pcOf F6 7 [0,0,1,0,1,1,1,1]),(pcOf F6 7 [1,0,1,0,1,1,1,1])⟩
noncomputable def pclrI4 (s:tSt.den) (n:tNi.den) (l:(Ty.sl tRe).den) (x3:Int) (x52:Nat) (x54:List AV) (x55:Int) (x56:Int) (x57:Bool) (x58:Int) (x59:Int) (x60:Bool) (x105:Nat):Cfg:=⟨.ex (pcOf F6 106 [0,0,1]) ⟨(tmOf 33 [(0,(.yld 19)),(1,(pP 16 0)),(2,(pP 17 0)),(3,(pP 18 0)),(7,(pclrk6 s n)),(8,(pclrk4 s n)),(9,(iI x3))]),(hpOf 21 [(0,(pclrk0 s)),(1,(pclrk1 n)),(2,(cF [(iI 0),(iI 0)])),(3,(cF [(iI 0),(iI 0)])),(4,(pclrk0 s)),(5,(pclrk1 n)),(6,(pclrk0 s)),(7,(pclrk1 n)),(8,(pclrk7 s n x52)),(9,(cF x54)),(10,(cF [(iI x55),(iI x56),(.bool x57)])),(11,(cF [(iI x58),(iI x59),(.bool x60)])),(12,(cF [(pP 8 0)])),(13,(cF [(.bool false)])),(15,(cF [(.yld 14)])),(16,(pclrk3 s n)),(17,(pclrk11 s)),(18,(cF [(.fn 39 [] [])])),(20,(pclrk3 s n))]),[],[⟨false,.normal⟩,⟨false,.normal⟩],33,false⟩,⟨38,[(pclrk18),(pclrk10 s n l)]⟩,[(.lop (pcOf F6 106 [0,0,1]) 21 (pclrQ9 s n) x105),(.blk 0),(.cal [] (.rng (pclrQ7) [] 24 false ⟨39,[(pclrk10 s n l)]⟩)),(.blk 0),(.cal [] (.rng (pclrQ8 s n l) [] 44 false ⟨40,[]⟩)),(.blk 0),(.seq (pcOf F6 7 [1,1,1,1,1])),(pclrk13)]⟩
noncomputable def pclrQ10:Tmps:=(tmOf 29 [(0,(.yld 25)),(1,(pP 23 0)),(2,(pP 24 0)),(6,(pP 8 0)),(7,(pP 8 0)),(8,(pP 8 10)),(9,.nils),(10,(iI 0)),(11,(iI 0))])
noncomputable def pclrQ11 (y0:Int) (y1:Int):Tmps:=(tmOf 24 [(0,(.yld 13)),(1,(pP 11 0)),(2,(pP 12 0)),(3,(pP 14 0)),(4,(pP 22 0)),(7,(pP 8 0)),(8,(.bool false)),(9,(.fn 106 [] [(pP 15 0),(pP 16 0),(pP 17 0)])),(10,(.ifc 97 (.agg [(iI y0),(iI y1)]))),(11,(pP 8 0)),(12,(.bool false)),(13,(.fn 80 [] [(pP 23 0),(pP 24 0)]))])
noncomputable def pclrk19:PC:=(pcOf F6 106 [0,1,0,0,1,1,0,0,1,1,0,0,1,1,0,0,1])
noncomputable def pclrI5 (s:tSt.den) (n:tNi.den) (l:(Ty.sl tRe).den) (x50:Int) (x51:Int) (x52:Bool) (x53:Int) (x54:Int) (x55:Bool) (x65:Int) (x66:Int) (x108:Nat) (x145:Int) (x146:Int) (x213:Nat) (x218:Nat):Cfg:=⟨.ex (pcOf F6 80 [0,0,1]) ⟨(pclrQ10),(hpOf 26 [(0,(pclrk0 s)),(1,(pclrk1 n)),(2,(cF [(iI 0),(iI 0)])),(3,(cF [(iI 0),(iI 0)])),(4,(pclrk0 s)),(5,(pclrk1 n)),(6,(pclrk0 s)),(7,(pclrk1 n)),(8,(pclrk8 s n)),(9,(cF [(iI x50),(iI x51),(.bool x52)])),(10,(cF [(iI x53),(iI x54),(.bool x55)])),(11,(cF [(pP 8 0)])),(12,(cF [(.bool false)])),(14,(cF [(.yld 13)])),(15,(pclrk3 s n)),(16,(pclrk11 s)),(17,(cF [(.fn 39 [] [])])),(19,(pclrk3 s n)),(20,(pclrk11 s)),(21,(cF [(iI x65),(iI x66)])),(22,(cF [(.ifc 97 (.agg [(iI x65),(iI x66)]))])),(23,(cF [(pP 8 0)])),(24,(cF [(.bool false)]))]),[],[⟨false,.normal⟩,⟨false,.normal⟩],29,false⟩,⟨38,[⟨25,24,39,(pclrQ11 x65 x66),#[14,15],(pcOf F6 55 [0,0,1,0,0,1,0,1,1,0,1]),(pcOf F6 55 [1,0,1,0,0,1,0,1,1,0,1])⟩,(pclrk9 s n l)]⟩,[(.lop (pcOf F6 80 [0,0,1]) 26 (pclrQ10) x108),(.blk 0),(.cal [] (.rng (pclrQ11 x65 x66) [] 24 true ⟨39,[(pclrk9 s n l)]⟩)),(.blk 2),(.seq (pcOf F6 55 [1,0,1,0,1,1,0,1])),(.blk 1),(.rnd [] (.op (pclrk19) 13 (some 29) ((opsOf (pclrk19).c).toList.drop 13) (tmOf 33 [(0,(.yld 18)),(1,(pP 15 0)),(2,(pP 16 0)),(3,(pP 17 0)),(5,(iI x145)),(6,(iI x146)),(7,(pclrk6 s n)),(8,(pclrk4 s n)),(9,(iI x145)),(10,(.bool true)),(11,(iI x145)),(12,(pclrk14 s)),(13,(pclrk12 s)),(14,(iI x146)),(15,(.bool true)),(16,(iI x146)),(17,(.yld 18)),(18,(.fn 39 [] [])),(19,(pP 15 0)),(20,(pclrk20 s n)),(21,(iI x145)),(22,(iI x65)),(23,(pP 16 0)),(24,(iI (s.2.2.1.1))),(25,(iI x146)),(26,(iI x66)),(27,(.agg [(iI x65),(iI x66)])),(28,(.ifc 97 (.agg [(iI x65),(iI x66)])))]) [] 33 false ⟨38,[(pclrk17),(pclrk9 s n l)]⟩)),(.seq (pcOf F6 106 [1,1,0,0,1,1,0,0,1,1,0,0,1,1,0,0,1])),(.blk 3),(.seq (pcOf F6 106 [1,1,1,0,0,1,1,0,0,1,1,0,0,1])),(.lop (pclrk16) 21 (pclrQ6 s n x145) x213),(.blk 2),(.blk 1),(.seq (pcOf F6 106 [1,1,1,0,0,1])),(.lop (pcOf F6 106 [0,0,1]) 20 (pclrQ5 s n) x218),(.blk 0),(.cal [] (.rng (pclrQ3) [] 24 false ⟨39,[(pclrk9 s n l)]⟩)),(.blk 0),(.cal [] (.rng (pclrQ4 s n l) [] 44 false ⟨40,[]⟩)),(.blk 0),(.seq (pcOf F6 7 [1,1,1,1,1])),(pclrk13)]⟩
noncomputable def pclrQ12 (s:tSt.den) (n:tNi.den) (y0:Int):Tmps:=(tmOf 33 [(0,(.yld 19)),(1,(pP 16 0)),(2,(pP 17 0)),(3,(pP 18 0)),(5,(iI y0)),(7,(pclrk6 s n)),(8,(pclrk4 s n)),(9,(iI y0)),(10,(.bool true)),(11,(iI y0)),(12,(pclrk14 s)),(13,(pclrk12 s)),(14,(iI 0))])
noncomputable def pclrI6 (s:tSt.den) (n:tNi.den) (l:(Ty.sl tRe).den) (x0:Int) (x10:Int) (x59:Nat) (x61:List AV) (x62:Int) (x63:Int) (x64:Bool) (x65:Int) (x66:Int) (x67:Bool) (x121:Nat) (x126:Nat):Cfg:=⟨.ex (pclrk16) ⟨(tmOf 33 [(0,(.yld 19)),(1,(pP 16 0)),(2,(pP 17 0)),(3,(pP 18 0)),(5,(iI x0)),(7,(pclrk6 s n)),(8,(pclrk4 s n)),(9,(iI x0)),(10,(.bool true)),(11,(iI x0)),(12,(pclrk14 s)),(13,(pclrk12 s)),(14,(iI x10))]),(hpOf 22 [(0,(pclrk0 s)),(1,(pclrk1 n)),(2,(cF [(iI 0),(iI 0)])),(3,(cF [(iI 0),(iI 0)])),(4,(pclrk0 s)),(5,(pclrk1 n)),(6,(pclrk0 s)),(7,(pclrk1 n)),(8,(pclrk7 s n x59)),(9,(cF x61)),(10,(cF [(iI x62),(iI x63),(.bool x64)])),(11,(cF [(iI x65),(iI x66),(.bool x67)])),(12,(cF [(pP 8 0)])),(13,(cF [(.bool false)])),(15,(cF [(.yld 14)])),(16,(pclrk3 s n)),(17,(pclrk11 s)),(18,(cF [(.fn 39 [] [])])),(20,(pclrk3 s n)),(21,(pclrk11 s))]),[],[⟨false,.normal⟩,⟨false,.normal⟩],33,false⟩,⟨38,[(pclrk18),(pclrk10 s n l)]⟩,[(.lop (pclrk16) 22 (pclrQ12 s n x0) x121),(.blk 2),(.blk 1),(.seq (pcOf F6 106 [1,1,1,0,0,1])),(.lop (pcOf F6 106 [0,0,1]) 21 (pclrQ9 s n) x126),(.blk 0),(.cal [] (.rng (pclrQ7) [] 24 false ⟨39,[(pclrk10 s n l)]⟩)),(.blk 0),(.cal [] (.rng (pclrQ8 s n l) [] 44 false ⟨40,[]⟩)),(.blk 0),(.seq (pcOf F6 7 [1,1,1,1,1])),(pclrk13)]⟩
noncomputable def pclrQ13 (y0:Int) (y1:Int):Tmps:=(tmOf 24 [(0,(.yld 14)),(1,(pP 12 0)),(2,(pP 13 0)),(3,(pP 15 0)),(4,(pP 23 0)),(7,(pP 8 0)),(8,(.bool false)),(9,(.fn 106 [] [(pP 16 0),(pP 17 0),(pP 18 0)])),(10,(.ifc 97 (.agg [(iI y0),(iI y1)]))),(11,(pP 8 0)),(12,(.bool false)),(13,(.fn 80 [] [(pP 24 0),(pP 25 0)]))])
noncomputable def pclrI7 (s:tSt.den) (n:tNi.den) (l:(Ty.sl tRe).den) (x0:Nat) (x2:Int) (x3:Int) (x54:List AV) (x55:Int) (x56:Int) (x57:Bool) (x58:Int) (x59:Int) (x60:Bool) (x70:Int) (x71:Int) (x115:Nat) (x152:Int) (x153:Int) (x220:Nat) (x225:Nat):Cfg:=⟨.ex (pcOf F6 80 [0,0,1]) ⟨(tmOf 29 [(0,(.yld 26)),(1,(pP 24 0)),(2,(pP 25 0)),(6,(pP 8 0)),(7,(pP 8 0)),(8,(pP 8 10)),(9,(.sl 9 0 x0 x0 6)),(10,(iI x2)),(11,(iI x3))]),(hpOf 27 [(0,(pclrk0 s)),(1,(pclrk1 n)),(2,(cF [(iI 0),(iI 0)])),(3,(cF [(iI 0),(iI 0)])),(4,(pclrk0 s)),(5,(pclrk1 n)),(6,(pclrk0 s)),(7,(pclrk1 n)),(8,(pclrk7 s n x0)),(9,(cF x54)),(10,(cF [(iI x55),(iI x56),(.bool x57)])),(11,(cF [(iI x58),(iI x59),(.bool x60)])),(12,(cF [(pP 8 0)])),(13,(cF [(.bool false)])),(15,(cF [(.yld 14)])),(16,(pclrk3 s n)),(17,(pclrk11 s)),(18,(cF [(.fn 39 [] [])])),(20,(pclrk3 s n)),(21,(pclrk11 s)),(22,(cF [(iI x70),(iI x71)])),(23,(cF [(.ifc 97 (.agg [(iI x70),(iI x71)]))])),(24,(cF [(pP 8 0)])),(25,(cF [(.bool false)]))]),[],[⟨false,.normal⟩,⟨false,.normal⟩],29,false⟩,⟨38,[⟨26,24,39,(pclrQ13 x70 x71),#[14,15],(pcOf F6 55 [0,0,1,0,0,1,0,1,1,0,1]),(pcOf F6 55 [1,0,1,0,0,1,0,1,1,0,1])⟩,(pclrk10 s n l)]⟩,[(.lop (pcOf F6 80 [0,0,1]) 27 (tmOf 29 [(0,(.yld 26)),(1,(pP 24 0)),(2,(pP 25 0)),(6,(pP 8 0)),(7,(pP 8 0)),(8,(pP 8 10)),(9,(.sl 9 0 x0 x0 6)),(10,(iI x2)),(11,(iI 0))]) x115),(.blk 0),(.cal [] (.rng (pclrQ13 x70 x71) [] 24 true ⟨39,[(pclrk10 s n l)]⟩)),(.blk 2),(.seq (pcOf F6 55 [1,0,1,0,1,1,0,1])),(.blk 1),(.rnd [] (.op (pclrk19) 13 (some 29) ((opsOf (pclrk19).c).toList.drop 13) (tmOf 33 [(0,(.yld 19)),(1,(pP 16 0)),(2,(pP 17 0)),(3,(pP 18 0)),(5,(iI x152)),(6,(iI x153)),(7,(pclrk6 s n)),(8,(pclrk4 s n)),(9,(iI x152)),(10,(.bool true)),(11,(iI x152)),(12,(pclrk14 s)),(13,(pclrk12 s)),(14,(iI x153)),(15,(.bool true)),(16,(iI x153)),(17,(.yld 19)),(18,(.fn 39 [] [])),(19,(pP 16 0)),(20,(pclrk20 s n)),(21,(iI x152)),(22,(iI x70)),(23,(pP 17 0)),(24,(iI (s.2.2.1.1))),(25,(iI x153)),(26,(iI x71)),(27,(.agg [(iI x70),(iI x71)])),(28,(.ifc 97 (.agg [(iI x70),(iI x71)])))]) [] 33 false ⟨38,[(pclrk18),(pclrk10 s n l)]⟩)),(.seq (pcOf F6 106 [1,1,0,0,1,1,0,0,1,1,0,0,1,1,0,0,1])),(.blk 3),(.seq (pcOf F6 106 [1,1,1,0,0,1,1,0,0,1,1,0,0,1])),(.lop (pclrk16) 22 (pclrQ12 s n x152) x220),(.blk 2),(.blk 1),(.seq (pcOf F6 106 [1,1,1,0,0,1])),(.lop (pcOf F6 106 [0,0,1]) 21 (pclrQ9 s n) x225),(.blk 0),(.cal [] (.rng (pclrQ7) [] 24 false ⟨39,[(pclrk10 s n l)]⟩)),(.blk 0),(.cal [] (.rng (pclrQ8 s n l) [] 44 false ⟨40,[]⟩)),(.blk 0),(.seq (pcOf F6 7 [1,1,1,1,1])),(pclrk13)]⟩
theorem pclr_start (s:tSt.den) (n:tNi.den) (l:(Ty.sl tRe).den):adv F6 ((Z6 [54,44,80,106]).flat [9]) 3000 (startC F6 7 [tSt.av s,tNi.av n,.vs tRe l.1 l.2] 40)=(bif !ieq (cknS s n l.2).2 0 then (bif !ieq (cknS s n l.2).2 0 then some (.done (.tup [(.agg [(.int .i64 (0)),(.int .i64 (0))]),(.agg [(.int .i64 (0)),(.int .i64 (0))]),(.int .i64 ((cknS s n l.2).2))])) else none) else some (.stop (pclrI0 s n l (1048575)))):=by kernel_rfl
theorem pclr_step0 (s:tSt.den) (n:tNi.den) (l:(Ty.sl tRe).den) (x126:Nat):adv F6 ((Z6 [54,44,80,106]).flat [9]) 3000 (pclrI0 s n l (x126+1))=(bif !ile (Int.ofNat l.2.length) 0 then (bif inB 0 l.2.length then (bif nrB (wr .i64 ((l.2.getD (Int.toNat 0) tRe.dflt).1.1-n.1.1)) (wr .i64 ((l.2.getD (Int.toNat 0) tRe.dflt).1.2.1-n.1.2.1)) then (sI n.1.2.1 (sI (l.2.getD (Int.toNat 0) tRe.dflt).1.2.1 (sI n.1.1 (sI (l.2.getD (Int.toNat 0) tRe.dflt).1.1 (sI (l.2.getD (Int.toNat 0) tRe.dflt).1.1 (sI (l.2.getD (Int.toNat 0) tRe.dflt).1.2.1 (sI (l.2.getD (Int.toNat 0) tRe.dflt).1.1 (sI (l.2.getD (Int.toNat 0) tRe.dflt).1.2.1 (sB (l.2.getD (Int.toNat 0) tRe.dflt).2.1 (sB (l.2.getD (Int.toNat 0) tRe.dflt).2.2.1 (sI (l.2.getD (Int.toNat 0) tRe.dflt).1.1 (sI (l.2.getD (Int.toNat 0) tRe.dflt).1.2.1 (sB (l.2.getD (Int.toNat 0) tRe.dflt).2.1 (sB (l.2.getD (Int.toNat 0) tRe.dflt).2.2.1 (some (.stop (pclrI2 s n l (1) (1) ([AV.int IntKind.i64 (l.2.getD (Int.toNat 0) tRe.dflt).1.1,AV.int IntKind.i64 (l.2.getD (Int.toNat 0) tRe.dflt).1.2.1,AV.bool (l.2.getD (Int.toNat 0) tRe.dflt).2.1,AV.bool (l.2.getD (Int.toNat 0) tRe.dflt).2.2.1,AV.int IntKind.i64 (wr .i64 ((l.2.getD (Int.toNat 0) tRe.dflt).1.1-n.1.1) * wr .i64 ((l.2.getD (Int.toNat 0) tRe.dflt).1.1-n.1.1)+wr .i64 ((l.2.getD (Int.toNat 0) tRe.dflt).1.2.1-n.1.2.1) * wr .i64 ((l.2.getD (Int.toNat 0) tRe.dflt).1.2.1-n.1.2.1)),AV.int IntKind.i64 (ptF (wr .i64 ((l.2.getD (Int.toNat 0) tRe.dflt).1.1-n.1.1)) (wr .i64 ((l.2.getD (Int.toNat 0) tRe.dflt).1.2.1-n.1.2.1)))]) (x126)))))))))))))))))) else none) else none) else (bif inB n.2.1 s.1.2.length then (sI s.2.2.1.1 (sI s.2.2.1.2.1 (sI n.2.1 (sB s.1.1 (sV tGr s.1.2 (some (.stop (pclrI1 s n l (0) (0) (0) (false) (0) (0) (false) (1048575))))))))) else none)):=by kernel_rfl
theorem pclr_step1 (s:tSt.den) (n:tNi.den) (l:(Ty.sl tRe).den) (x3:Int) (x52:Int) (x53:Int) (x54:Bool) (x55:Int) (x56:Int) (x57:Bool) (x102:Nat):adv F6 ((Z6 [54,44,80,106]).flat [9]) 3000 (pclrI1 s n l x3 x52 x53 x54 x55 x56 x57 (x102+1))=(bif !ile (wr .i64 (wr .i64 ((s.1.2.getD (Int.toNat n.2.1) tGr.dflt).2.1.2.1-(s.1.2.getD (Int.toNat n.2.1) tGr.dflt).2.1.1)+1)) x3 then some (.stop (pclrI3 s n l (x3) (0) (x52) (x53) (x54) (x55) (x56) (x57) (1048575) (x102+1))) else (bif x54 then (sI x55 (sI x56 (sI x55 (sI x56 (sI x55 (sI x56 (sI x52 (sI x53 (sI x52 (sI x53 (some (.done (.tup [(.agg [(.int .i64 (x52)),(.int .i64 (x53))]),(.agg [(.int .i64 (x55)),(.int .i64 (x56))]),(.int .i64 (0))]))))))))))))) else (sI x55 (sI x56 (sI x55 (sI x56 (sI x55 (sI x56 (sI x52 (sI x53 (sI x52 (sI x53 (some (.done (.tup [(.agg [(.int .i64 (x52)),(.int .i64 (x53))]),(.agg [(.int .i64 (x55)),(.int .i64 (x56))]),(.int .i64 (9))]))))))))))))))):=by kernel_rfl
theorem pclr_step2 (s:tSt.den) (n:tNi.den) (l:(Ty.sl tRe).den) (x38:Int) (x87:Nat) (x89:List AV) (x129:Nat):adv F6 ((Z6 [54,44,80,106]).flat [9]) 3000 (pclrI2 s n l x38 x87 x89 (x129+1))=(bif !ile (Int.ofNat l.2.length) x38 then (bif inB x38 l.2.length then (bif nrB (wr .i64 ((l.2.getD x38.toNat tRe.dflt).1.1-n.1.1)) (wr .i64 ((l.2.getD x38.toNat tRe.dflt).1.2.1-n.1.2.1)) then (sI n.1.2.1 (sI (l.2.getD x38.toNat tRe.dflt).1.2.1 (sI n.1.1 (sI (l.2.getD x38.toNat tRe.dflt).1.1 (bif (0+x87 * 6).beq x89.length then (bif x87.ble 1048576 then (sI (l.2.getD x38.toNat tRe.dflt).1.1 (sI (l.2.getD x38.toNat tRe.dflt).1.2.1 (sI (l.2.getD x38.toNat tRe.dflt).1.1 (sI (l.2.getD x38.toNat tRe.dflt).1.2.1 (sB (l.2.getD x38.toNat tRe.dflt).2.1 (sB (l.2.getD x38.toNat tRe.dflt).2.2.1 (sI (l.2.getD x38.toNat tRe.dflt).1.1 (sI (l.2.getD x38.toNat tRe.dflt).1.2.1 (sB (l.2.getD x38.toNat tRe.dflt).2.1 (sB (l.2.getD x38.toNat tRe.dflt).2.2.1 (bif avbeq (AV.sl 9 0 x87 x87 6) (AV.sl 9 0 x87 x87 6) then (bif avbeq (AV.sl 9 0 x87 x87 6) (AV.sl 9 0 x87 x87 6) then (bif plO (AO.cells false (x89++[AV.int IntKind.i64 (l.2.getD x38.toNat tRe.dflt).1.1,AV.int IntKind.i64 (l.2.getD x38.toNat tRe.dflt).1.2.1,AV.bool (l.2.getD x38.toNat tRe.dflt).2.1,AV.bool (l.2.getD x38.toNat tRe.dflt).2.2.1,AV.int IntKind.i64 (wr .i64 ((l.2.getD x38.toNat tRe.dflt).1.1-n.1.1) * wr .i64 ((l.2.getD x38.toNat tRe.dflt).1.1-n.1.1)+wr .i64 ((l.2.getD x38.toNat tRe.dflt).1.2.1-n.1.2.1) * wr .i64 ((l.2.getD x38.toNat tRe.dflt).1.2.1-n.1.2.1)),AV.int IntKind.i64 (ptF (wr .i64 ((l.2.getD x38.toNat tRe.dflt).1.1-n.1.1)) (wr .i64 ((l.2.getD x38.toNat tRe.dflt).1.2.1-n.1.2.1)))])) then some (.stop (pclrI2 s n l (wr .i64 (x38+1)) (x87+1) (x89++[AV.int IntKind.i64 (l.2.getD x38.toNat tRe.dflt).1.1,AV.int IntKind.i64 (l.2.getD x38.toNat tRe.dflt).1.2.1,AV.bool (l.2.getD x38.toNat tRe.dflt).2.1,AV.bool (l.2.getD x38.toNat tRe.dflt).2.2.1,AV.int IntKind.i64 (wr .i64 ((l.2.getD x38.toNat tRe.dflt).1.1-n.1.1) * wr .i64 ((l.2.getD x38.toNat tRe.dflt).1.1-n.1.1)+wr .i64 ((l.2.getD x38.toNat tRe.dflt).1.2.1-n.1.2.1) * wr .i64 ((l.2.getD x38.toNat tRe.dflt).1.2.1-n.1.2.1)),AV.int IntKind.i64 (ptF (wr .i64 ((l.2.getD x38.toNat tRe.dflt).1.1-n.1.1)) (wr .i64 ((l.2.getD x38.toNat tRe.dflt).1.2.1-n.1.2.1)))]) (x129))) else none) else none) else none))))))))))) else none) else none))))) else none) else none) else (bif inB n.2.1 s.1.2.length then (sI s.2.2.1.1 (sI s.2.2.1.2.1 (sI n.2.1 (sB s.1.1 (sV tGr s.1.2 (some (.stop (pclrI4 s n l (0) (x87) (x89) (0) (0) (false) (0) (0) (false) (1048575))))))))) else none)):=by kernel_rfl
theorem pclr_step3 (s:tSt.den) (n:tNi.den) (l:(Ty.sl tRe).den) (x0:Int) (x10:Int) (x59:Int) (x60:Int) (x61:Bool) (x62:Int) (x63:Int) (x64:Bool) (x118:Nat) (x123:Nat):adv F6 ((Z6 [54,44,80,106]).flat [9]) 3000 (pclrI3 s n l x0 x10 x59 x60 x61 x62 x63 x64 (x118+1) (x123+1))=(bif !ile (wr .i64 (wr .i64 (s.2.2.1.2.1-s.2.2.1.1)+1)) x10 then some (.stop (pclrI5 s n l (x59) (x60) (x61) (x62) (x63) (x64) (wr .i64 ((s.1.2.getD (Int.toNat n.2.1) tGr.dflt).2.1.1+x0)) (wr .i64 (s.2.2.1.1+x10)) (1048575) (x0) (x10) (x118+1) (x123+1))) else some (.stop (pclrI1 s n l (wr .i64 (x0+1)) (x59) (x60) (x61) (x62) (x63) (x64) (x123)))):=by kernel_rfl
theorem pclr_step4 (s:tSt.den) (n:tNi.den) (l:(Ty.sl tRe).den) (x3:Int) (x52:Nat) (x54:List AV) (x55:Int) (x56:Int) (x57:Bool) (x58:Int) (x59:Int) (x60:Bool) (x105:Nat):adv F6 ((Z6 [54,44,80,106]).flat [9]) 3000 (pclrI4 s n l x3 x52 x54 x55 x56 x57 x58 x59 x60 (x105+1))=(bif !ile (wr .i64 (wr .i64 ((s.1.2.getD (Int.toNat n.2.1) tGr.dflt).2.1.2.1-(s.1.2.getD (Int.toNat n.2.1) tGr.dflt).2.1.1)+1)) x3 then some (.stop (pclrI6 s n l (x3) (0) (x52) (x54) (x55) (x56) (x57) (x58) (x59) (x60) (1048575) (x105+1))) else (bif x57 then (sI x58 (sI x59 (sI x58 (sI x59 (sI x58 (sI x59 (sI x55 (sI x56 (sI x55 (sI x56 (some (.done (.tup [(.agg [(.int .i64 (x55)),(.int .i64 (x56))]),(.agg [(.int .i64 (x58)),(.int .i64 (x59))]),(.int .i64 (0))]))))))))))))) else (sI x58 (sI x59 (sI x58 (sI x59 (sI x58 (sI x59 (sI x55 (sI x56 (sI x55 (sI x56 (some (.done (.tup [(.agg [(.int .i64 (x55)),(.int .i64 (x56))]),(.agg [(.int .i64 (x58)),(.int .i64 (x59))]),(.int .i64 (9))]))))))))))))))):=by kernel_rfl
theorem pclr_step5 (s:tSt.den) (n:tNi.den) (l:(Ty.sl tRe).den) (x50:Int) (x51:Int) (x52:Bool) (x53:Int) (x54:Int) (x55:Bool) (x65:Int) (x66:Int) (x108:Nat) (x145:Int) (x146:Int) (x213:Nat) (x218:Nat):adv F6 ((Z6 [54,44,80,106]).flat [9]) 3000 (pclrI5 s n l x50 x51 x52 x53 x54 x55 x65 x66 (x108+1) x145 x146 (x213+1) (x218+1))=(bif !x52 then (sI x65 (sI x65 (bif !x55 then (sI x66 (sI x66 (some (.stop (pclrI3 s n l (x145) (wr .i64 (x146+1)) (bif ile x65 x65 then x65 else x65) (bif ile x65 x65 then x65 else x65) (true) (bif ile x66 x66 then x66 else x66) (bif ile x66 x66 then x66 else x66) (true) (x213) (x218+1)))))) else (sI x54 (sI x53 (some (.stop (pclrI3 s n l (x145) (wr .i64 (x146+1)) (bif ile x65 x65 then x65 else x65) (bif ile x65 x65 then x65 else x65) (true) (bif ile x53 x66 then x53 else x66) (bif ile x66 x54 then x54 else x66) (x55) (x213) (x218+1))))))))) else (sI x51 (sI x50 (bif !x55 then (sI x66 (sI x66 (some (.stop (pclrI3 s n l (x145) (wr .i64 (x146+1)) (bif ile x50 x65 then x50 else x65) (bif ile x65 x51 then x51 else x65) (x52) (bif ile x66 x66 then x66 else x66) (bif ile x66 x66 then x66 else x66) (true) (x213) (x218+1)))))) else (sI x54 (sI x53 (some (.stop (pclrI3 s n l (x145) (wr .i64 (x146+1)) (bif ile x50 x65 then x50 else x65) (bif ile x65 x51 then x51 else x65) (x52) (bif ile x53 x66 then x53 else x66) (bif ile x66 x54 then x54 else x66) (x55) (x213) (x218+1)))))))))):=by kernel_rfl
theorem pclr_step6 (s:tSt.den) (n:tNi.den) (l:(Ty.sl tRe).den) (x0:Int) (x10:Int) (x59:Nat) (x61:List AV) (x62:Int) (x63:Int) (x64:Bool) (x65:Int) (x66:Int) (x67:Bool) (x121:Nat) (x126:Nat):adv F6 ((Z6 [54,44,80,106]).flat [9]) 3000 (pclrI6 s n l x0 x10 x59 x61 x62 x63 x64 x65 x66 x67 (x121+1) (x126+1))=(bif !ile (wr .i64 (wr .i64 (s.2.2.1.2.1-s.2.2.1.1)+1)) x10 then some (.stop (pclrI7 s n l (x59) (Int.ofNat x59) (0) (x61) (x62) (x63) (x64) (x65) (x66) (x67) (wr .i64 ((s.1.2.getD (Int.toNat n.2.1) tGr.dflt).2.1.1+x0)) (wr .i64 (s.2.2.1.1+x10)) (1048575) (x0) (x10) (x121+1) (x126+1))) else (bif plO (AO.cells false x61) then some (.stop (pclrI4 s n l (wr .i64 (x0+1)) (x59) (x61) (x62) (x63) (x64) (x65) (x66) (x67) (x126))) else none)):=by kernel_rfl
theorem pclr_step7 (s:tSt.den) (n:tNi.den) (l:(Ty.sl tRe).den) (x0:Nat) (x2:Int) (x3:Int) (x54:List AV) (x55:Int) (x56:Int) (x57:Bool) (x58:Int) (x59:Int) (x60:Bool) (x70:Int) (x71:Int) (x115:Nat) (x152:Int) (x153:Int) (x220:Nat) (x225:Nat):adv F6 ((Z6 [54,44,80,106]).flat [9]) 3000 (pclrI7 s n l x0 x2 x3 x54 x55 x56 x57 x58 x59 x60 x70 x71 (x115+1) x152 x153 (x220+1) (x225+1))=(bif !ile x2 x3 then (bif inB x3 x0 then (bif isZs x54 [AV.int IntKind.i64 0,AV.int IntKind.i64 0,AV.bool false,AV.bool false,AV.int IntKind.i64 0,AV.int IntKind.i64 0] (0+x3.toNat * 6) then (bif toB (x54.getD (0+x3.toNat * 6+1+1) AV.nili) == false then (bif lcB x70 x71 (toI (x54.getD (0+x3.toNat * 6+1+1+1+1) AV.nili)) then (sI (toI (x54.getD (0+x3.toNat * 6+1+1+1+1) AV.nili)) (sI (toI (x54.getD (0+x3.toNat * 6+1+1+1+1+1) AV.nili)) (sB (toB (x54.getD (0+x3.toNat * 6+1+1+1) AV.nili)) (sB (toB (x54.getD (0+x3.toNat * 6+1+1+1) AV.nili)) (bif !toB (x54.getD (0+x3.toNat * 6+1+1+1) AV.nili) == seenF x70 x71 (toI (x54.getD (0+x3.toNat * 6+1+1+1+1) AV.nili)) then (bif plO (AO.cells false x54) then some (.stop (pclrI6 s n l (x152) (wr .i64 (x153+1)) (x0) (x54) (x55) (x56) (x57) (x58) (x59) (x60) (x220) (x225+1))) else none) else (bif plO (AO.cells false x54) then some (.stop (pclrI7 s n l (x0) (x2) (wr .i64 (x3+1)) (x54) (x55) (x56) (x57) (x58) (x59) (x60) (x70) (x71) (x115) (x152) (x153) (x220+1) (x225+1))) else none)))))) else none) else (bif plO (AO.cells false x54) then some (.stop (pclrI7 s n l (x0) (x2) (wr .i64 (x3+1)) (x54) (x55) (x56) (x57) (x58) (x59) (x60) (x70) (x71) (x115) (x152) (x153) (x220+1) (x225+1))) else none)) else none) else none) else (bif !x57 then (sI x70 (sI x70 (bif !x60 then (sI x71 (sI x71 (bif plO (AO.cells false x54) then some (.stop (pclrI6 s n l (x152) (wr .i64 (x153+1)) (x0) (x54) (bif ile x70 x70 then x70 else x70) (bif ile x70 x70 then x70 else x70) (true) (bif ile x71 x71 then x71 else x71) (bif ile x71 x71 then x71 else x71) (true) (x220) (x225+1))) else none))) else (sI x59 (sI x58 (bif plO (AO.cells false x54) then some (.stop (pclrI6 s n l (x152) (wr .i64 (x153+1)) (x0) (x54) (bif ile x70 x70 then x70 else x70) (bif ile x70 x70 then x70 else x70) (true) (bif ile x58 x71 then x58 else x71) (bif ile x71 x59 then x59 else x71) (x60) (x220) (x225+1))) else none)))))) else (sI x56 (sI x55 (bif !x60 then (sI x71 (sI x71 (bif plO (AO.cells false x54) then some (.stop (pclrI6 s n l (x152) (wr .i64 (x153+1)) (x0) (x54) (bif ile x55 x70 then x55 else x70) (bif ile x70 x56 then x56 else x70) (x57) (bif ile x71 x71 then x71 else x71) (bif ile x71 x71 then x71 else x71) (true) (x220) (x225+1))) else none))) else (sI x59 (sI x58 (bif plO (AO.cells false x54) then some (.stop (pclrI6 s n l (x152) (wr .i64 (x153+1)) (x0) (x54) (bif ile x55 x70 then x55 else x70) (bif ile x70 x56 then x56 else x70) (x57) (bif ile x58 x71 then x58 else x71) (bif ile x71 x59 then x59 else x71) (x60) (x220) (x225+1))) else none)))))))):=by kernel_rfl
noncomputable def nGr (n:tNi.den):Int:=n.2.1
noncomputable def wLo (n:tNi.den):Int:=n.2.2.1
noncomputable def wN (n:tNi.den):Int:=n.2.2.2.1
structure NigOK (s:tSt.den) (n:tNi.den) (l:List tRe.den):Prop where
 sta:StaOK s
 g0:0≤nGr n∧nGr n<s.1.2.length
 at_:in3 n.1.1 n.1.2.1=true
 wind:(0≤wLo n∧wLo n≤31)∧1≤wN n∧wN n≤32
 len:l.length≤8
 reps:repB l=true
theorem repS_ok:∀ (l:List tRe.den) (i:Nat),ieq (repS i l).2 0=true→repB l=true
 |[],_,_=>rfl
 |r::l,i,h=>by
  rw[repS] at h
  unfold repB
  rw[List.all_cons]
  cases c:in3 r.1.1 r.1.2.1 with
  |false=>rw[c,cond_false] at h;exact absurd (ieq_t h) (show ¬ (7:Int)=0 by decide)
  |true=>rw[c,cond_true] at h;exact repS_ok l (i+1) h
theorem nig_ok {s:tSt.den} {n:tNi.den} {l:List tRe.den} (h:ieq (cknS s n l).2 0=true):NigOK s n l:=by
 unfold cknS at h
 cases c:ieq (staS s).2.2 0 with
 |false=>rw[c,cond_false] at h;rw[c] at h;cases h
 | true =>
  have so:=sta_ok c
  rw[c,cond_true] at h
  cases c1:(ile 0 n.2.1&&ile n.2.1 ((s.1.2.length:Int)-1)) with
  |false=>rw[c1,cond_false] at h;exact absurd (ieq_t h) (by decide)
  | true =>
   rw[c1,cond_true] at h
   cases c2:nigB n with
   |false=>rw[c2,cond_false] at h;exact absurd (ieq_t h) (by decide)
   | true =>
    rw[c2,cond_true] at h
    cases c3:ile (l.length:Int) 8 with
    |false=>rw[c3,cond_false] at h;exact absurd (ieq_t h) (by decide)
    |true=>
     rw[c3,cond_true] at h
     rw[Bool.and_eq_true] at c1
     unfold nigB at c2
     simp only[Bool.and_eq_true] at c2
     have a1:0≤nGr n:=ile_le c1.1
     have a2:nGr n≤(s.1.2.length:Int)-1:=ile_le c1.2
     have b1:0≤wLo n:=ile_le c2.1.1.1.2
     have b2:wLo n≤31:=ile_le c2.1.1.2
     have b3:1≤wN n:=ile_le c2.1.2
     have b4:wN n≤32:=ile_le c2.2
     have l8:=ile_le c3
     exact⟨so,⟨a1,by omega⟩,c2.1.1.1.1,⟨⟨b1,b2⟩,b3,b4⟩,by omega,repS_ok _ _ h⟩
abbrev tRp:Ty:=.cons tI (.cons tI (.cons .bool (.cons .bool (.cons tI (.cons tI .nil)))))
noncomputable def rpOf (n:tNi.den) (r:tRe.den):tRp.den:=(r.1.1,r.1.2.1,r.2.1,r.2.2.1,(r.1.1-n.1.1) * (r.1.1-n.1.1)+(r.1.2.1-n.1.2.1) * (r.1.2.1-n.1.2.1),ptF (r.1.1-n.1.1) (r.1.2.1-n.1.2.1),())
noncomputable def rps (n:tNi.den) (l:List tRe.den):List AV:=flat tRp (l.map (rpOf n))
theorem rps_len (n:tNi.den) (l:List tRe.den):(rps n l).length=l.length * 6:=by
 unfold rps
 induction l with
 |nil=>rfl
 |cons r l ih=>
  show (tRp.cells (rpOf n r)++flat tRp (l.map (rpOf n))).length=_
  rw[List.length_append,ih,List.length_cons]
  show 6+l.length * 6=_
  omega
theorem rps_plain (n:tNi.den) (l:List tRe.den):plainL (rps n l)=true:=by
 unfold rps
 induction l with
 |nil=>rfl
 |cons r l ih=>exact ih
theorem rps_plO (n:tNi.den) (l:List tRe.den):plO (.cells false (rps n l))=true:=rps_plain n l
theorem rps_beq {n:tNi.den} {l:List tRe.den} {k:Nat} (h:l.length=k):(0+k * 6).beq (rps n l).length=true:=by
 rw[rps_len,h,Nat.zero_add];exact Nat.beq_refl _
theorem rps_add (n:tNi.den) (l:List tRe.den) (r:tRe.den):rps n l++tRp.cells (rpOf n r)=rps n (l++[r]):=by
 unfold rps flat
 rw[List.map_append,List.flatMap_append];rfl
theorem isZs_app {a b:List AV}:∀ {zs:List AV} {off:Nat},isZs (a++b) zs (a.length+off)=isZs b zs off
 |[],_=>rfl
 | z :: zs, off => by
  rw[isZs,isZs,Nat.add_assoc,isZs_app (zs:=zs),List.length_append]
  have e1:(a.length+(off+1)).ble (a.length+b.length)=(off+1).ble b.length:=by
   cases h:(off+1).ble b.length with
   |true=>have:=Nat.le_of_ble_eq_true h;exact Nat.ble_eq_true_of_le (by omega)
   | false =>
    cases h2:(a.length+(off+1)).ble (a.length+b.length) with
    |false=>rfl
    |true=>
     have:=Nat.le_of_ble_eq_true h2
     rw[Nat.ble_eq_true_of_le (by omega)] at h;cases h
  have e2:(a++b).getD (a.length+off) AV.nili=b.getD off AV.nili:=by
   simp only[List.getD_eq_getElem?_getD,List.getElem?_append_right (Nat.le_add_right _ _),Nat.add_sub_cancel_left]
  rw[e1,e2]
theorem getD_app {a b:List AV} {off:Nat}:(a++b).getD (a.length+off) AV.nili=b.getD off AV.nili:=by
 simp only[List.getD_eq_getElem?_getD,List.getElem?_append_right (Nat.le_add_right _ _),Nat.add_sub_cancel_left]
theorem rps_split {n:tNi.den}:∀ {l:List tRe.den} {k:Nat} (h:k<l.length),∃ a b:List AV,rps n l=a++(tRp.cells (rpOf n l[k])++b)∧a.length=k * 6
 |r::l,0,_=>⟨[],rps n l,rfl,rfl⟩
 |r::l,k+1,h=>by
  obtain⟨a,b,e,hl⟩:=rps_split (n:=n) (l:=l) (k:=k) (by simpa using h)
  refine⟨tRp.cells (rpOf n r)++a,b,?_,?_⟩
  · show tRp.cells (rpOf n r) ++ rps n l = _
    rw[e,List.append_assoc];rfl
  · rw[List.length_append,hl];show 6+k * 6=_;omega
theorem rps_at {n:tNi.den} {l:List tRe.den} {k:Nat} (h:k<l.length):isZs (rps n l) [AV.int .i64 0,AV.int .i64 0,AV.bool false,AV.bool false,AV.int .i64 0,AV.int .i64 0] (0+(k:Int).toNat * 6)=true∧toB ((rps n l).getD (0+(k:Int).toNat * 6+1+1) AV.nili)=l[k].2.1∧toB ((rps n l).getD (0+(k:Int).toNat * 6+1+1+1) AV.nili)=l[k].2.2.1 ∧
  toI ((rps n l).getD (0+(k:Int).toNat * 6+1+1+1+1) AV.nili)=(rpOf n l[k]).2.2.2.2.1∧toI ((rps n l).getD (0+(k:Int).toNat * 6+1+1+1+1+1) AV.nili)=(rpOf n l[k]).2.2.2.2.2.1:=by
 obtain⟨a,b,e,hl⟩:=rps_split (n:=n) h
 rw[e,Int.toNat_natCast,Nat.zero_add,← hl]
 refine⟨?_,?_,?_,?_,?_⟩
 · exact (isZs_app (off:=0)).trans rfl
 · exact congrArg toB (getD_app (off:=2))
 · exact congrArg toB (getD_app (off:=3))
 · exact congrArg toI (getD_app (off:=4))
 · exact congrArg toI (getD_app (off:=5))
theorem rp_wr {n:tNi.den} {r:tRe.den} (h1:in3 n.1.1 n.1.2.1=true) (h2:in3 r.1.1 r.1.2.1=true):nrB (wr .i64 (r.1.1-n.1.1)) (wr .i64 (r.1.2.1-n.1.2.1))=true ∧
  [AV.int .i64 r.1.1,AV.int .i64 r.1.2.1,AV.bool r.2.1,AV.bool r.2.2.1,AV.int .i64 (wr .i64 (r.1.1-n.1.1) * wr .i64 (r.1.1-n.1.1)+wr .i64 (r.1.2.1-n.1.2.1) * wr .i64 (r.1.2.1-n.1.2.1)),AV.int .i64 (ptF (wr .i64 (r.1.1-n.1.1)) (wr .i64 (r.1.2.1-n.1.2.1)))]=tRp.cells (rpOf n r):=by
 obtain⟨w1,w2,hn⟩:=df3 h1 h2
 rw[w1,w2]
 exact⟨hn,rfl⟩
noncomputable def mt6 (t:En6) (p:tP.den):En6:=(mtL (t.1,t.2.1,t.2.2.1) p.1,mtH (t.1,t.2.1,t.2.2.1) p.1,true,mtL t.2.2.2 p.2.1,mtH t.2.2.2 p.2.1,true)
noncomputable def rowP (a:Int):Nat→Int→List tP.den
 |0,_=>[]
 |r+1,b=>(a,b,())::rowP a r (b+1)
noncomputable def allP (b0:Int) (nb:Nat):Nat→Int→List tP.den
 |0,_=>[]
 |r+1,a=>rowP a nb b0++allP b0 nb r (a+1)
noncomputable def lgtP (s:tSt.den) (n:tNi.den):List tP.den:=allP s.2.2.1.1 (s.2.2.1.2.1-s.2.2.1.1+1).toNat ((gAt s n.2.1).2.1.2.1-(gAt s n.2.1).2.1.1+1).toNat (gAt s n.2.1).2.1.1
noncomputable def trL (s:tSt.den) (n:tNi.den) (l:List tRe.den):List tP.den:=(lgtP s n).filter fun t=>agrF n l t false
noncomputable def clrS (s:tSt.den) (n:tNi.den) (l:List tRe.den):AV:=bif ieq (cknS s n l).2 0 then clrV ((trL s n l).foldl mt6 (0,0,false,0,0,false)) else .tup [.agg [.int .i64 0,.int .i64 0],.agg [.int .i64 0,.int .i64 0],.int .i64 (cknS s n l).2]
noncomputable def gLo (s:tSt.den) (n:tNi.den):Int:=(gAt s n.2.1).2.1.1
noncomputable def gHi (s:tSt.den) (n:tNi.den):Int:=(gAt s n.2.1).2.1.2.1
noncomputable def cLo (s:tSt.den):Int:=s.2.2.1.1
noncomputable def cHi (s:tSt.den):Int:=s.2.2.1.2.1
noncomputable def ngA (s:tSt.den) (n:tNi.den):Nat:=(gHi s n-gLo s n+1).toNat
noncomputable def nB (s:tSt.den):Nat:=(cHi s-cLo s+1).toNat
structure Rngs (s:tSt.den) (n:tNi.den):Prop where
 g:(1≤gLo s n∧gLo s n≤gHi s n)∧gHi s n≤5000∧gHi s n≤gLo s n+40
 c:(1≤cLo s∧cLo s≤cHi s)∧cHi s≤300
 wg:wr .i64 (wr .i64 (gHi s n-gLo s n)+1)=(ngA s n:Int)
 wc:wr .i64 (wr .i64 (cHi s-cLo s)+1)=(nB s:Int)
 na:ngA s n≤41
 nb:nB s≤300
theorem rngs_ok {s:tSt.den} {n:tNi.den} {l:List tRe.den} (h:NigOK s n l):Rngs s n:=by
 have g:=gc_b (h.sta.gr _ (gAt_mem (s:=s) h.g0.1 h.g0.2))
 have c:=h.sta.clear
 have g':(1≤gLo s n∧gLo s n≤gHi s n)∧gHi s n≤5000∧gHi s n≤gLo s n+40:=⟨g.1,g.2.1⟩
 have c':(1≤cLo s∧cLo s≤cHi s)∧cHi s≤300:=c
 refine⟨g',c',?_,?_,?_,?_⟩
 · unfold ngA;rw[wr_in (n:=gHi s n-gLo s n) (by omega) (by omega),wr_in (by omega) (by omega)];omega
 · unfold nB;rw[wr_in (n:=cHi s-cLo s) (by omega) (by omega),wr_in (by omega) (by omega)];omega
 · unfold ngA;omega
 · unfold nB;omega
theorem avbeq_sl6 (n:Nat):avbeq (AV.sl 9 0 n n 6) (AV.sl 9 0 n n 6)=true:=by
 simp[avbeq]
theorem Zc_ok:((Z6 [54,44,80,106]).flat [9]).ok F6:=Z6_ok [99,74,122,144]
section
variable {s:tSt.den} {n:tNi.den} {l:(Ty.sl tRe).den} {v:AV}
theorem pclr_i5 (i k m M O:Nat) (t:En6) (a b:Int) (hk:k<1048577) (K:Ans F6 (pclrI3 s n l (i:Int) ((k+1:Nat):Int) (mt6 t (a,b,())).1 (mt6 t (a,b,())).2.1 (mt6 t (a,b,())).2.2.1 (mt6 t (a,b,())).2.2.2.1 (mt6 t (a,b,())).2.2.2.2.1 (mt6 t (a,b,())).2.2.2.2.2 M (O+1)) v) :
  Ans F6 (pclrI5 s n l t.1 t.2.1 t.2.2.1 t.2.2.2.1 t.2.2.2.2.1 t.2.2.2.2.2 a b (m+1) (i:Int) (k:Int) (M+1) (O+1)) v:=by
 obtain⟨p,q,x,c,d,y⟩:=t
 have h:=pclr_step5 s n l p q x c d y a b m (i:Int) (k:Int) M O
 simp only[ieq_self,sI_eq,sB_eq,sV_eq,cond_true,wr_succ hk] at h
 unfold mt6 mtL mtH at K
 cases x<;>cases y<;>simp only[Bool.not_true,Bool.not_false,cond_true,cond_false] at h K<;>exact .stop Zc_ok F6sy h K
theorem pclr_in0 (R:Rngs s n) (i:Nat) (hi:i<ngA s n) (rest:List tP.den) (O:Nat) (K:∀ t:En6,Ans F6 (pclrI1 s n l ((i+1:Nat):Int) t.1 t.2.1 t.2.2.1 t.2.2.2.1 t.2.2.2.2.1 t.2.2.2.2.2 O) (clrV (rest.foldl mt6 t))) :
  ∀ (r k m:Nat) (t:En6) (b:Int),b=cLo s+k→k+r=nB s→r<m→Ans F6 (pclrI3 s n l (i:Int) (k:Int) t.1 t.2.1 t.2.2.1 t.2.2.2.1 t.2.2.2.2.1 t.2.2.2.2.2 m (O+1)) (clrV ((rowP (gLo s n+i) r b++rest).foldl mt6 t))
 |0,k,m+1,t,b,hb,hk,hm=>by
  have h:=pclr_step3 s n l (i:Int) (k:Int) t.1 t.2.1 t.2.2.1 t.2.2.2.1 t.2.2.2.2.1 t.2.2.2.2.2 m O
  have e:wr .i64 (wr .i64 (s.2.2.1.2.1-s.2.2.1.1)+1)=(nB s:Int):=R.wc
  have:=R.na
  rw[e,ile_t (show ((nB s:Nat):Int)≤k by omega),Bool.not_true,cond_false,wr_succ (show i<1048577 by omega)] at h
  exact .stop Zc_ok F6sy h (K t)
 |r+1,k,m+1,t,b,hb,hk,hm=>by
  have h:=pclr_step3 s n l (i:Int) (k:Int) t.1 t.2.1 t.2.2.1 t.2.2.2.1 t.2.2.2.2.1 t.2.2.2.2.2 m O
  have e:wr .i64 (wr .i64 (s.2.2.1.2.1-s.2.2.1.1)+1)=(nB s:Int):=R.wc
  have n1:=R.na
  have n2:=R.nb
  have g:=R.g
  have c:=R.c
  have nae:((ngA s n:Nat):Int)=gHi s n-gLo s n+1:=by unfold ngA;omega
  have nbe:((nB s:Nat):Int)=cHi s-cLo s+1:=by unfold nB;omega
  rw[e,ile_f (show (k:Int)<((nB s:Nat):Int) by omega),Bool.not_false,cond_true] at h
  have w1:wr .i64 ((s.1.2.getD (Int.toNat n.2.1) tGr.dflt).2.1.1+(i:Int))=gLo s n+i:=wr_in (n:=gLo s n+(i:Int)) (by omega) (by omega)
  have w2:wr .i64 (s.2.2.1.1+(k:Int))=b:=by subst hb;exact wr_in (n:=cLo s+(k:Int)) (by omega) (by omega)
  rw[w1,w2] at h
  exact .stop Zc_ok F6sy h (pclr_i5 i k 1048574 m O t _ _ (by omega) (pclr_in0 R i hi rest O K r (k+1) m _ (b+1) (by omega) (by omega) (by omega)))
theorem pclr_out0 (R:Rngs s n):∀ (r i m:Nat) (t:En6) (a:Int),a=gLo s n+i→i+r=ngA s n→r<m→Ans F6 (pclrI1 s n l (i:Int) t.1 t.2.1 t.2.2.1 t.2.2.2.1 t.2.2.2.2.1 t.2.2.2.2.2 m) (clrV ((allP (cLo s) (nB s) r a).foldl mt6 t))
 |0,i,m+1,t,a,ha,hi,hm=>by
  obtain⟨p,q,x,c,d,y⟩:=t
  have h:=pclr_step1 s n l (i:Int) p q x c d y m
  have e:wr .i64 (wr .i64 ((s.1.2.getD (Int.toNat n.2.1) tGr.dflt).2.1.2.1-(s.1.2.getD (Int.toNat n.2.1) tGr.dflt).2.1.1)+1)=(ngA s n:Int):=R.wg
  simp only[e,ile_t (show ((ngA s n:Nat):Int)≤i by omega),Bool.not_true,cond_false,ieq_self,sI_eq,sB_eq,sV_eq,cond_true] at h
  cases x<;>exact .done Zc_ok F6sy h rfl
 |r+1,i,m+1,t,a,ha,hi,hm=>by
  have h:=pclr_step1 s n l (i:Int) t.1 t.2.1 t.2.2.1 t.2.2.2.1 t.2.2.2.2.1 t.2.2.2.2.2 m
  have e:wr .i64 (wr .i64 ((s.1.2.getD (Int.toNat n.2.1) tGr.dflt).2.1.2.1-(s.1.2.getD (Int.toNat n.2.1) tGr.dflt).2.1.1)+1)=(ngA s n:Int):=R.wg
  rw[e,ile_f (show (i:Int)<((ngA s n:Nat):Int) by omega),Bool.not_false,cond_true] at h
  subst ha
  exact .stop Zc_ok F6sy h (pclr_in0 R i (by omega) _ m (fun t=>pclr_out0 R r (i+1) m t _ (by omega) (by omega) (by omega)) (nB s) 0 1048575 t (cLo s) (by omega) (by omega) (by have:=R.nb;omega))
theorem pclr_i7 (hn:in3 n.1.1 n.1.2.1=true) (h8:l.2.length≤8) (hl:repB l.2=true) (a b:Int) (ha:0≤a∧a≤5000) (hb:1≤b∧b≤300) (t:En6) (i k M O:Nat) (hk:k<1048577)
  (K1:agrF n l.2 (a,b,()) false=true→Ans F6 (pclrI6 s n l (i:Int) ((k+1:Nat):Int) l.2.length (rps n l.2) (mt6 t (a,b,())).1 (mt6 t (a,b,())).2.1 (mt6 t (a,b,())).2.2.1 (mt6 t (a,b,())).2.2.2.1 (mt6 t (a,b,())).2.2.2.2.1 (mt6 t (a,b,())).2.2.2.2.2 M (O+1)) v)
  (K0:agrF n l.2 (a,b,()) false=false→Ans F6 (pclrI6 s n l (i:Int) ((k+1:Nat):Int) l.2.length (rps n l.2) t.1 t.2.1 t.2.2.1 t.2.2.2.1 t.2.2.2.2.1 t.2.2.2.2.2 M (O+1)) v) :
  ∀ (r j m:Nat),j+r=l.2.length→r<m→agrF n l.2 (a,b,()) false=agrF n (l.2.drop j) (a,b,()) false→Ans F6 (pclrI7 s n l l.2.length (l.2.length:Int) (j:Int) (rps n l.2) t.1 t.2.1 t.2.2.1 t.2.2.2.1 t.2.2.2.2.1 t.2.2.2.2.2 a b m (i:Int) (k:Int) (M+1) (O+1)) v
 |0,j,m+1,hj,hm,hd=>by
  obtain⟨p,q,x,c,d,y⟩:=t
  have h:=pclr_step7 s n l l.2.length (l.2.length:Int) (j:Int) (rps n l.2) p q x c d y a b m (i:Int) (k:Int) M O
  rw[List.drop_eq_nil_of_le (by omega)] at hd
  have K:=K1 hd
  simp only[ile_t (show ((l.2.length:Nat):Int)≤j by omega),Bool.not_true,cond_false,ieq_self,sI_eq,sB_eq,sV_eq,cond_true,wr_succ hk,rps_plO] at h
  unfold mt6 mtL mtH at K
  clear K1 K0
  cases x<;>cases y<;>simp only[Bool.not_true,Bool.not_false,cond_true,cond_false] at h K<;>exact .stop Zc_ok F6sy h K
 | r + 1, j, m + 1, hj, hm, hd => by
  have h:=pclr_step7 s n l l.2.length (l.2.length:Int) (j:Int) (rps n l.2) t.1 t.2.1 t.2.2.1 t.2.2.2.1 t.2.2.2.2.1 t.2.2.2.2.2 a b m (i:Int) (k:Int) M O
  have hlt:j<l.2.length:=by omega
  have hr:in3 (l.2[j]).1.1 (l.2[j]).1.2.1=true:=List.all_eq_true.1 hl _ (List.getElem_mem hlt)
  obtain⟨w1,w2,hnr⟩:=df3 hn hr
  have hsq:=sq_b hnr
  obtain⟨z1,z2,z3,z4,z5⟩:=rps_at (n:=n) hlt
  have hlc:lcB a b (rpOf n l.2[j]).2.2.2.2.1=true:=lcB_iff.2 ⟨ha,hb,hsq⟩
  simp only[ile_f (show ((j:Nat):Int)<(l.2.length:Int) by omega),Bool.not_false,cond_true,inB_at hlt,z1,z2,z3,z4,hlc,ieq_self,sI_eq,sB_eq,sV_eq,bbeq_self,rps_plO,wr_succ hk,wr_succ (show j<1048577 by omega)] at h
  rw[List.drop_eq_getElem_cons hlt] at hd
  have ih:=pclr_i7 hn h8 hl a b ha hb t i k M O hk K1 K0 r (j+1) m (by omega) (by omega)
  have e:agrF n (l.2[j]::l.2.drop (j+1)) (a,b,()) false=(agr1 n (a,b,()) false l.2[j]&&agrF n (l.2.drop (j+1)) (a,b,()) false):=rfl
  rw[e] at hd
  unfold agr1 at hd
  have es:metF n (l.2[j]).1 (a,b,()) false=seenF a b (rpOf n l.2[j]).2.2.2.2.1:=rfl
  rw[es] at hd
  cases c1:(l.2[j]).2.1 == false with
  |false=>
   rw[c1,cond_false] at h
   rw[c1,cond_false,Bool.true_and] at hd
   exact .stop Zc_ok F6sy h (ih hd)
  | true =>
   rw[c1,cond_true] at h
   rw[c1,cond_true] at hd
   cases c2:(l.2[j]).2.2.1 == seenF a b (rpOf n l.2[j]).2.2.2.2.1 with
   |false=>
    rw[c2,Bool.false_and] at hd
    rw[c2,Bool.not_false,cond_true] at h
    exact .stop Zc_ok F6sy h (K0 hd)
   |true=>
    rw[c2,Bool.true_and] at hd
    rw[c2,Bool.not_true,cond_false] at h
    exact .stop Zc_ok F6sy h (ih hd)
theorem pclr_in1 (R:Rngs s n) (hn:in3 n.1.1 n.1.2.1=true) (h8:l.2.length≤8) (hl:repB l.2=true) (i:Nat) (hi:i<ngA s n) (rest:List tP.den) (O:Nat) (K:∀ t:En6,Ans F6 (pclrI4 s n l ((i+1:Nat):Int) l.2.length (rps n l.2) t.1 t.2.1 t.2.2.1 t.2.2.2.1 t.2.2.2.2.1 t.2.2.2.2.2 O) (clrV ((rest.filter fun t=>agrF n l.2 t false).foldl mt6 t))) :
  ∀ (r k m:Nat) (t:En6) (b:Int),b=cLo s+k→k+r=nB s→r<m→Ans F6 (pclrI6 s n l (i:Int) (k:Int) l.2.length (rps n l.2) t.1 t.2.1 t.2.2.1 t.2.2.2.1 t.2.2.2.2.1 t.2.2.2.2.2 m (O+1)) (clrV (((rowP (gLo s n+i) r b++rest).filter fun t=>agrF n l.2 t false).foldl mt6 t))
 |0,k,m+1,t,b,hb,hk,hm=>by
  have h:=pclr_step6 s n l (i:Int) (k:Int) l.2.length (rps n l.2) t.1 t.2.1 t.2.2.1 t.2.2.2.1 t.2.2.2.2.1 t.2.2.2.2.2 m O
  have e:wr .i64 (wr .i64 (s.2.2.1.2.1-s.2.2.1.1)+1)=(nB s:Int):=R.wc
  have:=R.na
  rw[e,ile_t (show ((nB s:Nat):Int)≤k by omega),Bool.not_true,cond_false,wr_succ (show i<1048577 by omega),rps_plO,cond_true] at h
  exact .stop Zc_ok F6sy h (K t)
 | r + 1, k, m + 1, t, b, hb, hk, hm => by
  have h:=pclr_step6 s n l (i:Int) (k:Int) l.2.length (rps n l.2) t.1 t.2.1 t.2.2.1 t.2.2.2.1 t.2.2.2.2.1 t.2.2.2.2.2 m O
  have e:wr .i64 (wr .i64 (s.2.2.1.2.1-s.2.2.1.1)+1)=(nB s:Int):=R.wc
  have n1:=R.na
  have n2:=R.nb
  have g:=R.g
  have c:=R.c
  have nae:((ngA s n:Nat):Int)=gHi s n-gLo s n+1:=by unfold ngA;omega
  have nbe:((nB s:Nat):Int)=cHi s-cLo s+1:=by unfold nB;omega
  rw[e,ile_f (show (k:Int)<((nB s:Nat):Int) by omega),Bool.not_false,cond_true] at h
  have w1:wr .i64 ((s.1.2.getD (Int.toNat n.2.1) tGr.dflt).2.1.1+(i:Int))=gLo s n+i:=wr_in (n:=gLo s n+(i:Int)) (by omega) (by omega)
  have w2:wr .i64 (s.2.2.1.1+(k:Int))=b:=by subst hb;exact wr_in (n:=cLo s+(k:Int)) (by omega) (by omega)
  rw[w1,w2] at h
  have ih:=fun t=>pclr_in1 R hn h8 hl i hi rest O K r (k+1) m t (b+1) (by omega) (by omega) (by omega)
  refine .stop Zc_ok F6sy h (pclr_i7 hn h8 hl (gLo s n+i) b (by omega) (by omega) t i k m O (by omega) (fun c=>?_) (fun c=>?_) l.2.length 0 1048575 (by omega) (by omega) rfl)
  · have e : (rowP (gLo s n + i) (r + 1) b ++ rest).filter (fun t => agrF n l.2 t false) = (gLo s n + i, b, ()) :: (rowP (gLo s n + i) r (b + 1) ++ rest).filter (fun t => agrF n l.2 t false) :=
     List.filter_cons_of_pos c
    rw[e]
    exact ih _
  · have e : (rowP (gLo s n + i) (r + 1) b ++ rest).filter (fun t => agrF n l.2 t false) = (rowP (gLo s n + i) r (b + 1) ++ rest).filter (fun t => agrF n l.2 t false) :=
     List.filter_cons_of_neg (by rw[c];decide)
    rw[e]
    exact ih _
theorem pclr_out1 (R:Rngs s n) (hn:in3 n.1.1 n.1.2.1=true) (h8:l.2.length≤8) (hl:repB l.2=true):∀ (r i m:Nat) (t:En6) (a:Int),a=gLo s n+i→i+r=ngA s n→r<m→Ans F6 (pclrI4 s n l (i:Int) l.2.length (rps n l.2) t.1 t.2.1 t.2.2.1 t.2.2.2.1 t.2.2.2.2.1 t.2.2.2.2.2 m) (clrV (((allP (cLo s) (nB s) r a).filter fun t=>agrF n l.2 t false).foldl mt6 t))
 |0,i,m+1,t,a,ha,hi,hm=>by
  obtain⟨p,q,x,c,d,y⟩:=t
  have h:=pclr_step4 s n l (i:Int) l.2.length (rps n l.2) p q x c d y m
  have e:wr .i64 (wr .i64 ((s.1.2.getD (Int.toNat n.2.1) tGr.dflt).2.1.2.1-(s.1.2.getD (Int.toNat n.2.1) tGr.dflt).2.1.1)+1)=(ngA s n:Int):=R.wg
  simp only[e,ile_t (show ((ngA s n:Nat):Int)≤i by omega),Bool.not_true,cond_false,ieq_self,sI_eq,sB_eq,sV_eq,cond_true,rps_plO] at h
  cases x<;>exact .done Zc_ok F6sy h rfl
 |r+1,i,m+1,t,a,ha,hi,hm=>by
  have h:=pclr_step4 s n l (i:Int) l.2.length (rps n l.2) t.1 t.2.1 t.2.2.1 t.2.2.2.1 t.2.2.2.2.1 t.2.2.2.2.2 m
  have e:wr .i64 (wr .i64 ((s.1.2.getD (Int.toNat n.2.1) tGr.dflt).2.1.2.1-(s.1.2.getD (Int.toNat n.2.1) tGr.dflt).2.1.1)+1)=(ngA s n:Int):=R.wg
  rw[e,ile_f (show (i:Int)<((ngA s n:Nat):Int) by omega),Bool.not_false,cond_true] at h
  subst ha
  exact .stop Zc_ok F6sy h (pclr_in1 R hn h8 hl i (by omega) _ m (fun t=>pclr_out1 R hn h8 hl r (i+1) m t _ (by omega) (by omega) (by omega)) (nB s) 0 1048575 t (cLo s) (by omega) (by omega) (by have:=R.nb;omega))
theorem pclr_nv (R:Rngs s n) (hN:NigOK s n l.2):∀ (r k m:Nat),1≤k→k+r=l.2.length→r<m→Ans F6 (pclrI2 s n l (k:Int) k (rps n (l.2.take k)) m) (clrV ((trL s n l.2).foldl mt6 (0,0,false,0,0,false)))
 |0,k,m+1,h1,hk,hm=>by
  have h:=pclr_step2 s n l (k:Int) k (rps n (l.2.take k)) m
  have h8:=hN.len
  have hi:inB n.2.1 s.1.2.length=true:=inB_of hN.g0.1 hN.g0.2
  have ek:k=l.2.length:=by omega
  subst ek
  rw[List.take_length] at h⊢
  simp only[ ile_t (show Int.ofNat l.2.length≤((l.2.length:Nat):Int) from Int.le_refl _),Bool.not_true,cond_false,ieq_self,sI_eq,sB_eq,sV_eq,bbeq_self,vsB_self,hi,rps_plO,cond_true] at h
  exact .stop Zc_ok F6sy h (pclr_out1 R hN.at_ h8 hN.reps (ngA s n) 0 1048575 (0,0,false,0,0,false) (gLo s n) (by omega) (by omega) (by have:=R.na;omega))
 | r + 1, k, m + 1, h1, hk, hm => by
  have h:=pclr_step2 s n l (k:Int) k (rps n (l.2.take k)) m
  have h8:=hN.len
  have hlt:k<l.2.length:=by omega
  have hr:in3 (l.2[k]).1.1 (l.2[k]).1.2.1=true:=List.all_eq_true.1 hN.reps _ (List.getElem_mem hlt)
  obtain⟨wn,wc⟩:=rp_wr hN.at_ hr
  have eg:l.2.getD (k:Int).toNat tRe.dflt=l.2[k]:=getD_at hlt
  have b1:(0+k * 6).beq (rps n (l.2.take k)).length=true:=rps_beq (by rw[List.length_take];omega)
  have b2:k.ble 1048576=true:=Nat.ble_eq_true_of_le (by omega)
  have pl:plO (.cells false (rps n (l.2.take (k+1))))=true:=rps_plO _ _
  have ap:rps n (l.2.take k)++tRp.cells (rpOf n l.2[k])=rps n (l.2.take (k+1)):=by
   rw[rps_add,← List.take_succ_eq_append_getElem hlt]
  have av:avbeq (AV.sl 9 0 k k 6) (AV.sl 9 0 k k 6)=true:=avbeq_sl6 k
  simp only[ile_f (show ((k:Nat):Int)<Int.ofNat l.2.length by show (k:Int)<(l.2.length:Int);omega),Bool.not_false,cond_true,inB_at hlt,eg,wn,wc,ap,pl,b1,b2,av,ieq_self,sI_eq,sB_eq,sV_eq,bbeq_self,wr_succ (show k<1048577 by omega)] at h
  exact .stop Zc_ok F6sy h (pclr_nv R hN r (k+1) m (by omega) (by omega) (by omega))
end
theorem pclr_call (s:tSt.den) (n:tNi.den) (l:(Ty.sl tRe).den):AnsF F6 7 [tSt.av s,tNi.av n,.vs tRe l.1 l.2] (clrS s n l.2):=by
 refine Ans.call (n:=40) (ext_none (by kernel_rfl)) (hasB_spec (by kernel_rfl)) ?_
 have h:=pclr_start s n l
 unfold clrS
 cases c:ieq (cknS s n l.2).2 0 with
 |false=>
  simp only[c,Bool.not_false,cond_true] at h
  rw[cond_false]
  exact .done Zc_ok F6sy h rfl
 | true =>
  simp only[c,Bool.not_true,cond_false] at h
  rw[cond_true]
  have hN:=nig_ok c
  have R:=rngs_ok hN
  have h8:=hN.len
  refine .stop Zc_ok F6sy h ?_
  have h:=pclr_step0 s n l 1048574
  have hi:inB n.2.1 s.1.2.length=true:=inB_of hN.g0.1 hN.g0.2
  cases hl:l.2 with
  |nil=>
   simp only[hl,show ile (Int.ofNat ([]:List tRe.den).length) 0=true from rfl,Bool.not_true,cond_false,ieq_self,sI_eq,sB_eq,sV_eq,bbeq_self,vsB_self,hi,cond_true] at h
   have k:=pclr_out0 (l:=l) R (ngA s n) 0 1048575 (0,0,false,0,0,false) (gLo s n) (by omega) (by omega) (by have:=R.na;omega)
   have e:trL s n []=allP (cLo s) (nB s) (ngA s n) (gLo s n):=List.filter_eq_self.2 fun _ _=>rfl
   rw[e]
   exact .stop Zc_ok F6sy h k
  | cons r q =>
   rw[← hl]
   have hlt:0<l.2.length:=by rw[hl];simp
   have hr:in3 (l.2[0]).1.1 (l.2[0]).1.2.1=true:=List.all_eq_true.1 hN.reps _ (List.getElem_mem hlt)
   obtain⟨wn,wc⟩:=rp_wr hN.at_ hr
   have eg:l.2.getD (Int.toNat 0) tRe.dflt=l.2[0]:=getD_at (k:=0) hlt
   have ap:tRp.cells (rpOf n l.2[0])=rps n (l.2.take 1):=by
    have:=rps_add n [] l.2[0]
    have t1:=List.take_succ_eq_append_getElem hlt
    rw[List.take_zero,List.nil_append] at t1
    rw[t1]
    exact this
   have i0:inB 0 l.2.length=true:=inB_at (k:=0) hlt
   simp only[ile_f (show (0:Int)<Int.ofNat l.2.length by show (0:Int)<(l.2.length:Int);omega),Bool.not_false,cond_true,i0,eg,wn,wc,ap,ieq_self,sI_eq,sB_eq,sV_eq,bbeq_self] at h
   exact .stop Zc_ok F6sy h (pclr_nv R hN (l.2.length-1) 1 1048574 (by omega) (by omega) (by omega))
end Go.Proofs.YtpnipaimaohiaaaGreatDoor


set_option maxRecDepth 100000
namespace Go.Proofs.YtpnipaimaohiaaaGreatDoor
open Go Go.Eng
noncomputable def rowW (w a:Int):Nat→Int→List tP.den
 |0,_=>[]
 |r+1,k=>(a,(w+k).tmod 32,())::rowW w a r (k+1)
noncomputable def allW (w:Int) (nw:Nat):Nat→Int→List tP.den
 |0,_=>[]
 |r+1,a=>rowW w a nw 0++allW w nw r (a+1)
noncomputable def lLo (s:tSt.den):Int:=s.2.1.1
noncomputable def lHi (s:tSt.den):Int:=s.2.1.2.1
noncomputable def nL (s:tSt.den):Nat:=(lHi s-lLo s+1).toNat
noncomputable def nW (n:tNi.den):Nat:=(wN n).toNat
noncomputable def hrnP (s:tSt.den) (n:tNi.den):List tP.den:=allW (wLo n) (nW n) (nL s) (lLo s)
noncomputable def allT2 (s:tSt.den) (n:tNi.den) (h:Bool):List tP.den:=bif h then hrnP s n else lgtP s n
structure RngW (s:tSt.den) (n:tNi.den):Prop where
 g:(1≤lLo s∧lLo s≤lHi s)∧lHi s≤200
 w:(0≤wLo n∧wLo n≤31)∧1≤wN n∧wN n≤32
theorem rngw_ok {s:tSt.den} {n:tNi.den} {l:List tRe.den} (h:NigOK s n l):RngW s n:=⟨h.sta.loud,h.wind⟩
section
variable {s:tSt.den} {n:tNi.den}
end
noncomputable def okN (s:tSt.den) (n:tNi.den) (l:List tRe.den):Bool:=ieq (cknS s n l).2 0
noncomputable def LO:List Said:=[]
theorem LO_ok:∀ e∈LO,SaidG Tryz.prog H3.glob e:=
 saids_nil
noncomputable def H4:Env:=H3.say (under (xOf LO))
theorem h4:EnvOK Tryz.prog H4:=h3.say _
theorem nh4:NameOK H4:=nh3.say _
theorem xh4:ExtOK Tryz.prog H4:=xh3.sayL LO_ok
noncomputable def Y4 (l:List Nat):Sy:=(Y3 []).on LO l
theorem Y4_ok (l:List Nat):(Y4 l).ok H4:=Sy.on_ok (Y3_ok _)
end Go.Proofs.YtpnipaimaohiaaaGreatDoor


set_option maxRecDepth 100000
namespace Go.Proofs.YtpnipaimaohiaaaGreatDoor
open Go Go.Eng
theorem w32 {w k:Int} (h1:0≤w) (h2:0≤k):inV ((w+k).tmod 32)=true:=by
 simp only[inV,Bool.and_eq_true,ile_iff,decide_eq_true_eq]
 rw[Int.tmod_eq_emod_of_nonneg (by omega)]
 omega
noncomputable def trT (s:tSt.den) (n:tNi.den) (l:List tRe.den) (h:Bool):List tP.den:=(allT2 s n h).filter fun t=>agrF n l t h
section
variable {s:tSt.den} {n:tNi.den} {l:(Ty.sl tRe).den} {h:Bool}
end
noncomputable def LT:List Said:=[]
theorem LT_ok:∀ e∈LT,SaidG Tryz.prog H4.glob e:=
 saids_nil
noncomputable def H5:Env:=H4.say (under (xOf LT))
theorem h5:EnvOK Tryz.prog H5:=h4.say _
theorem nh5:NameOK H5:=nh4.say _
theorem xh5:ExtOK Tryz.prog H5:=xh4.sayL LT_ok
theorem H5sy:H5.sy=true:=rfl
noncomputable def Y5 (l:List Nat):Sy:=(Y4 []).on LT l
theorem Y5_ok (l:List Nat):(Y5 l).ok H5:=Sy.on_ok (Y4_ok _)
end Go.Proofs.YtpnipaimaohiaaaGreatDoor


set_option maxRecDepth 100000
namespace Go.Proofs.YtpnipaimaohiaaaGreatDoor
open Go Go.Eng
theorem rin_start (a b c:Int):adv H5 (Y5 []) 20000 (startC H5 35 [.int .i64 a,.int .i64 b,.int .i64 c] 12)=(bif ile b a then some (.done (.bool (ile a c))) else some (.done (.bool (false)))):=by kernel_rfl
theorem rwith_start (v:tP.den) (m:Int):adv H5 (Y5 []) 20000 (startC H5 36 [tP.av v,.int .i64 m] 12)=(bif ile (wr .i64 (0-m)) v.1 then (bif ile v.1 m then (bif ile (wr .i64 (0-m)) v.2.1 then some (.done (.bool (ile v.2.1 m))) else some (.done (.bool (false)))) else some (.done (.bool (false)))) else some (.done (.bool (false)))):=by kernel_rfl
noncomputable def inF (n a b:Int):Bool:=ile a n&&ile n b
theorem rin_call (a b c:tI.den):AnsF H5 35 [tI.av a,tI.av b,tI.av c] (.bool (inF a b c)):=by
 refine Ans.call (n:=12) (ext_none (by kernel_rfl)) (hasB_spec (by kernel_rfl)) ?_
 have h:=rin_start a b c
 unfold inF
 cases c1:ile b a with
 |false=>rw[c1,cond_false] at h;exact .doneB (Y5_ok _) H5sy h rfl
 |true=>rw[c1,cond_true] at h;exact .doneB (Y5_ok _) H5sy h rfl
theorem rwith_call (v:tP.den) (m:tI.den) (hm:ieq m 30000=true):AnsF H5 36 [tP.av v,tI.av m] (.bool (in3 v.1 v.2.1)):=by
 have e:=ieq_t hm
 subst e
 refine Ans.call (n:=12) (ext_none (by kernel_rfl)) (hasB_spec (by kernel_rfl)) ?_
 have h:=rwith_start v 30000
 rw[show wr .i64 (0-30000)=-30000 from rfl] at h
 unfold in3
 cases c1:ile (-30000) v.1<;>cases c2:ile v.1 30000<;>cases c3:ile (-30000) v.2.1<;>simp only[c1,c2,c3,cond_true,cond_false,Bool.true_and,Bool.false_and,Bool.and_false] at h ⊢<;>exact .doneB (Y5_ok _) H5sy h rfl
noncomputable def LU:List Said:=[(35,con3 tI tI tI (fun _ _ _=>true) (fun a b c=>.bool (inF a b c))),(36,con2 tP tI (fun _ m=>ieq m 30000) (fun v _=>.bool (in3 v.1 v.2.1)))]
theorem LU_ok:∀ e∈LU,SaidG Tryz.prog H5.glob e:=
 saids_cons (SaidOK.g h5 xh5 nh5 tabs_ok.mix (fun _ _ h=>con3_spec (t:=tI) (u:=tI) (w:=tI) (fun a b c _=>rin_call a b c) h) rfl)
 (saids_cons (SaidOK.g h5 xh5 nh5 tabs_ok.mix (fun _ _ h=>con2_spec (t:=tP) (u:=tI) (fun v m hm=>rwith_call v m hm) h) rfl) saids_nil)
noncomputable def H6:Env:=H5.say (under (xOf LU))
theorem h6:EnvOK Tryz.prog H6:=h5.say _
theorem nh6:NameOK H6:=nh5.say _
theorem xh6:ExtOK Tryz.prog H6:=xh5.sayL LU_ok
theorem H6sy:H6.sy=true:=rfl
noncomputable def Y6 (l:List Nat):Sy:=(Y5 []).on LU l
theorem Y6_ok (l:List Nat):(Y6 l).ok H6:=Sy.on_ok (Y5_ok _)
end Go.Proofs.YtpnipaimaohiaaaGreatDoor


set_option maxRecDepth 100000
namespace Go.Proofs.YtpnipaimaohiaaaGreatDoor
open Go Go.Eng
noncomputable def rcknQ0 (s:tSt.den) (n:tNi.den):Hp:=(hpOf 2 [(0,(cF [(.vs tGr (s.1.1) (s.1.2)),(iI (s.2.1.1)),(iI (s.2.1.2.1)),(iI (s.2.2.1.1)),(iI (s.2.2.1.2.1))])),(1,(cF [(iI (n.1.1)),(iI (n.1.2.1)),(iI (n.2.1)),(iI (n.2.2.1)),(iI (n.2.2.2.1))]))])
noncomputable def rcknk0 (z0:tSt.den):AV:=(.agg [(.vs tGr (z0.1.1) (z0.1.2)),(iI (z0.2.1.1)),(iI (z0.2.1.2.1)),(iI (z0.2.2.1.1)),(iI (z0.2.2.1.2.1))])
noncomputable def rcknk2 (z0:tNi.den):AV:=(.agg [(iI (z0.1.1)),(iI (z0.1.2.1)),(iI (z0.2.1)),(iI (z0.2.2.1)),(iI (z0.2.2.2.1))])
noncomputable def rcknk1 (z0:tSt.den):AV:=(.tup [(iI ((staS z0).1)),(iI ((staS z0).2.1)),(iI ((staS z0).2.2))])
noncomputable def rcknI0 (s:tSt.den) (n:tNi.den) (l:(Ty.sl tRe).den) (x18:Int) (x103:Nat):Cfg:=⟨.ex (pcOf H6 12 [0,0,1,0,1,1,1,1,1]) ⟨(tmOf 76 [(0,(rcknk0 s)),(1,(rcknk2 n)),(2,(.vs tRe (l.1) (l.2))),(3,(pP 0 0)),(4,(pP 1 0)),(6,(iI 0)),(7,(iI 0)),(8,(iI ((staS s).1))),(9,(iI ((staS s).2.1))),(10,(iI ((staS s).2.2))),(11,(iI x18)),(12,(rcknk1 s)),(13,(rcknk0 s)),(14,(rcknk1 s)),(15,(iI ((staS s).1))),(16,(iI ((staS s).2.1))),(17,(iI ((staS s).2.2))),(18,(iI ((staS s).2.2))),(19,(.bool (ieq (staS s).2.2 0))),(20,(.bool false)),(21,(.tup [])),(22,(.tup [])),(23,(.tup [])),(24,(.tup [])),(25,(.tup [])),(26,(.tup [])),(27,(.tup [])),(28,(.tup [])),(29,(.bool false)),(30,(iI ((staS s).2.2))),(31,(.bool (ieq (staS s).2.2 0))),(32,(.bool false)),(33,(.tup [])),(34,(.tup [])),(35,(.tup [])),(36,(.tup [])),(37,(.tup [])),(38,(.tup [])),(39,(.tup [])),(40,(.tup [])),(41,(.tup [])),(42,(.tup [])),(43,(.tup [])),(44,(.tup [])),(45,(.tup [])),(46,(.tup [])),(47,(.tup [])),(48,(.tup [])),(49,(.bool false)),(50,(iI ((staS s).2.2))),(51,(.bool (ieq (staS s).2.2 0))),(52,(.bool false)),(53,(.tup [])),(54,(.tup [])),(55,(.tup [])),(56,(.bool false))]),(rcknQ0 s n),[],[],76,false⟩,⟨12,[]⟩,[(.lop (pcOf H6 12 [0,0,1,0,1,1,1,1,1]) 2 (tmOf 76 [(0,(rcknk0 s)),(1,(rcknk2 n)),(2,(.vs tRe (l.1) (l.2))),(3,(pP 0 0)),(4,(pP 1 0)),(6,(iI 0)),(7,(iI 0)),(8,(iI ((staS s).1))),(9,(iI ((staS s).2.1))),(10,(iI ((staS s).2.2))),(11,(iI 0)),(12,(rcknk1 s)),(13,(rcknk0 s)),(14,(rcknk1 s)),(15,(iI ((staS s).1))),(16,(iI ((staS s).2.1))),(17,(iI ((staS s).2.2))),(18,(iI ((staS s).2.2))),(19,(.bool (ieq (staS s).2.2 0))),(20,(.bool false)),(21,(.tup [])),(22,(.tup [])),(23,(.tup [])),(24,(.tup [])),(25,(.tup [])),(26,(.tup [])),(27,(.tup [])),(28,(.tup [])),(29,(.bool false)),(30,(iI ((staS s).2.2))),(31,(.bool (ieq (staS s).2.2 0))),(32,(.bool false)),(33,(.tup [])),(34,(.tup [])),(35,(.tup [])),(36,(.tup [])),(37,(.tup [])),(38,(.tup [])),(39,(.tup [])),(40,(.tup [])),(41,(.tup [])),(42,(.tup [])),(43,(.tup [])),(44,(.tup [])),(45,(.tup [])),(46,(.tup [])),(47,(.tup [])),(48,(.tup [])),(49,(.bool false)),(50,(iI ((staS s).2.2))),(51,(.bool (ieq (staS s).2.2 0))),(52,(.bool false)),(53,(.tup [])),(54,(.tup [])),(55,(.tup [])),(56,(.bool false))]) x103),(.blk 0),(.seq (pcOf H6 12 [1,1,1,1,1,1])),(.cal [(.tmp 6),(.tmp 7)] .top)]⟩
noncomputable def rcknQ1 (s:tSt.den) (n:tNi.den) (l:(Ty.sl tRe).den) (y0:Int) (y1:Bool):Tmps:=(tmOf 76 [(0,(rcknk0 s)),(1,(rcknk2 n)),(2,(.vs tRe (l.1) (l.2))),(3,(pP 0 0)),(4,(pP 1 0)),(6,(iI 0)),(7,(iI 0)),(8,(iI ((staS s).1))),(9,(iI ((staS s).2.1))),(10,(iI y0)),(11,(iI 0)),(12,(rcknk1 s)),(13,(rcknk0 s)),(14,(rcknk1 s)),(15,(iI ((staS s).1))),(16,(iI ((staS s).2.1))),(17,(iI ((staS s).2.2))),(18,(iI ((staS s).2.2))),(19,(.bool (ieq (staS s).2.2 0))),(20,(.bool false)),(21,(.tup [])),(22,(.tup [])),(23,(.tup [])),(24,(.tup [])),(25,(.tup [])),(26,(.tup [])),(27,(.tup [])),(28,(.tup [])),(29,(.bool false)),(30,(iI ((staS s).2.2))),(31,(.bool (ieq (staS s).2.2 0))),(32,(.bool false)),(33,(.tup [])),(34,(.tup [])),(35,(.tup [])),(36,(.tup [])),(37,(.tup [])),(38,(.tup [])),(39,(.tup [])),(40,(.tup [])),(41,(.tup [])),(42,(.tup [])),(43,(.tup [])),(44,(.tup [])),(45,(.tup [])),(46,(.tup [])),(47,(.tup [])),(48,(.tup [])),(49,(.bool false)),(50,(iI ((staS s).2.2))),(51,(.bool (ieq (staS s).2.2 0))),(52,(.bool true)),(53,(.vs tRe (l.1) (l.2))),(54,(iI (Int.ofNat l.2.length))),(55,(.bool (!ile (↑l.2.length) 8))),(56,(.bool y1))])
noncomputable def rcknI1 (s:tSt.den) (n:tNi.den) (l:(Ty.sl tRe).den) (x17:Int) (x49:Bool) (x111:Nat):Cfg:=⟨.ex (pcOf H6 12 [0,0,1,0,1,1,1,1,1]) ⟨(rcknQ1 s n l x17 x49),(rcknQ0 s n),[],[],76,false⟩,⟨12,[]⟩,[(.lop (pcOf H6 12 [0,0,1,0,1,1,1,1,1]) 2 (rcknQ1 s n l x17 x49) x111),(.blk 0),(.seq (pcOf H6 12 [1,1,1,1,1,1])),(.cal [(.tmp 6),(.tmp 7)] .top)]⟩
noncomputable def rcknk3 (z0:tNi.den):AV:=(.agg [(iI (z0.1.1)),(iI (z0.1.2.1))])
noncomputable def rcknQ2 (s:tSt.den) (n:tNi.den) (l:(Ty.sl tRe).den) (y0:Int) (y1:Bool) (y2:Bool):Tmps:=(tmOf 76 [(0,(rcknk0 s)),(1,(rcknk2 n)),(2,(.vs tRe (l.1) (l.2))),(3,(pP 0 0)),(4,(pP 1 0)),(6,(iI 0)),(7,(iI 0)),(8,(iI ((staS s).1))),(9,(iI ((staS s).2.1))),(10,(iI y0)),(11,(iI 0)),(12,(rcknk1 s)),(13,(rcknk0 s)),(14,(rcknk1 s)),(15,(iI ((staS s).1))),(16,(iI ((staS s).2.1))),(17,(iI ((staS s).2.2))),(18,(iI ((staS s).2.2))),(19,(.bool (ieq (staS s).2.2 0))),(20,(.bool false)),(21,(.tup [])),(22,(.tup [])),(23,(.tup [])),(24,(.tup [])),(25,(.tup [])),(26,(.tup [])),(27,(.tup [])),(28,(.tup [])),(29,(.bool false)),(30,(iI ((staS s).2.2))),(31,(.bool (ieq (staS s).2.2 0))),(32,(.bool true)),(33,(pP 1 0)),(34,(rcknk3 n)),(35,(.bool (in3 n.1.1 n.1.2.1))),(36,(.bool (!in3 n.1.1 n.1.2.1))),(37,(.bool false)),(38,(pP 1 3)),(39,(iI (n.2.2.1))),(40,(.bool (inF n.2.2.1 0 31))),(41,(.bool (!inF n.2.2.1 0 31))),(42,(.bool (!inF n.2.2.1 0 31))),(43,(.bool false)),(44,(pP 1 4)),(45,(iI (n.2.2.2.1))),(46,(.bool (inF n.2.2.2.1 1 32))),(47,(.bool (!inF n.2.2.2.1 1 32))),(48,(.bool (!inF n.2.2.2.1 1 32))),(49,(.bool y1)),(50,(iI y0)),(51,(.bool y2)),(52,(.bool false)),(53,(.tup [])),(54,(.tup [])),(55,(.tup [])),(56,(.bool false))])
noncomputable def rcknI2 (s:tSt.den) (n:tNi.den) (l:(Ty.sl tRe).den) (x17:Int) (x55:Bool) (x57:Bool) (x131:Nat):Cfg:=⟨.ex (pcOf H6 12 [0,0,1,0,1,1,1,1,1]) ⟨(rcknQ2 s n l x17 x55 x57),(rcknQ0 s n),[],[],76,false⟩,⟨12,[]⟩,[(.lop (pcOf H6 12 [0,0,1,0,1,1,1,1,1]) 2 (rcknQ2 s n l x17 x55 x57) x131),(.blk 0),(.seq (pcOf H6 12 [1,1,1,1,1,1])),(.cal [(.tmp 6),(.tmp 7)] .top)]⟩
noncomputable def rcknQ3 (s:tSt.den) (n:tNi.den) (l:(Ty.sl tRe).den) (y0:Int) (y1:Bool):Tmps:=(tmOf 76 [(0,(rcknk0 s)),(1,(rcknk2 n)),(2,(.vs tRe (l.1) (l.2))),(3,(pP 0 0)),(4,(pP 1 0)),(6,(iI 0)),(7,(iI 0)),(8,(iI ((staS s).1))),(9,(iI ((staS s).2.1))),(10,(iI y0)),(11,(iI 0)),(12,(rcknk1 s)),(13,(rcknk0 s)),(14,(rcknk1 s)),(15,(iI ((staS s).1))),(16,(iI ((staS s).2.1))),(17,(iI ((staS s).2.2))),(18,(iI ((staS s).2.2))),(19,(.bool (ieq (staS s).2.2 0))),(20,(.bool false)),(21,(.tup [])),(22,(.tup [])),(23,(.tup [])),(24,(.tup [])),(25,(.tup [])),(26,(.tup [])),(27,(.tup [])),(28,(.tup [])),(29,(.bool false)),(30,(iI ((staS s).2.2))),(31,(.bool (ieq (staS s).2.2 0))),(32,(.bool true)),(33,(pP 1 0)),(34,(rcknk3 n)),(35,(.bool (in3 n.1.1 n.1.2.1))),(36,(.bool (!in3 n.1.1 n.1.2.1))),(37,(.bool false)),(38,(pP 1 3)),(39,(iI (n.2.2.1))),(40,(.bool (inF n.2.2.1 0 31))),(41,(.bool (!inF n.2.2.1 0 31))),(42,(.bool (!inF n.2.2.1 0 31))),(43,(.bool false)),(44,(pP 1 4)),(45,(iI (n.2.2.2.1))),(46,(.bool (inF n.2.2.2.1 1 32))),(47,(.bool (!inF n.2.2.2.1 1 32))),(48,(.bool (!inF n.2.2.2.1 1 32))),(49,(.bool false)),(50,(iI ((staS s).2.2))),(51,(.bool (ieq (staS s).2.2 0))),(52,(.bool true)),(53,(.vs tRe (l.1) (l.2))),(54,(iI (Int.ofNat l.2.length))),(55,(.bool (!ile (↑l.2.length) 8))),(56,(.bool y1))])
noncomputable def rcknI3 (s:tSt.den) (n:tNi.den) (l:(Ty.sl tRe).den) (x17:Int) (x63:Bool) (x139:Nat):Cfg:=⟨.ex (pcOf H6 12 [0,0,1,0,1,1,1,1,1]) ⟨(rcknQ3 s n l x17 x63),(rcknQ0 s n),[],[],76,false⟩,⟨12,[]⟩,[(.lop (pcOf H6 12 [0,0,1,0,1,1,1,1,1]) 2 (rcknQ3 s n l x17 x63) x139),(.blk 0),(.seq (pcOf H6 12 [1,1,1,1,1,1])),(.cal [(.tmp 6),(.tmp 7)] .top)]⟩
noncomputable def rcknQ4 (s:tSt.den) (n:tNi.den) (l:(Ty.sl tRe).den):Tmps:=(tmOf 76 [(0,(rcknk0 s)),(1,(rcknk2 n)),(2,(.vs tRe (l.1) (l.2))),(3,(pP 0 0)),(4,(pP 1 0)),(6,(iI 0)),(7,(iI 0)),(8,(iI ((staS s).1))),(9,(iI ((staS s).2.1))),(10,(iI 7)),(11,(iI 0)),(12,(rcknk1 s)),(13,(rcknk0 s)),(14,(rcknk1 s)),(15,(iI ((staS s).1))),(16,(iI ((staS s).2.1))),(17,(iI ((staS s).2.2))),(18,(iI ((staS s).2.2))),(19,(.bool (ieq (staS s).2.2 0))),(20,(.bool false)),(21,(.tup [])),(22,(.tup [])),(23,(.tup [])),(24,(.tup [])),(25,(.tup [])),(26,(.tup [])),(27,(.tup [])),(28,(.tup [])),(29,(.bool false)),(30,(iI ((staS s).2.2))),(31,(.bool (ieq (staS s).2.2 0))),(32,(.bool true)),(33,(pP 1 0)),(34,(rcknk3 n)),(35,(.bool (in3 n.1.1 n.1.2.1))),(36,(.bool (!in3 n.1.1 n.1.2.1))),(37,(.bool false)),(38,(pP 1 3)),(39,(iI (n.2.2.1))),(40,(.bool (inF n.2.2.1 0 31))),(41,(.bool (!inF n.2.2.1 0 31))),(42,(.bool (!inF n.2.2.1 0 31))),(43,(.bool true)),(44,(.tup [])),(45,(.tup [])),(46,(.tup [])),(47,(.tup [])),(48,(.bool true)),(49,(.bool true)),(50,(iI 7)),(51,(.bool false)),(52,(.bool false)),(53,(.tup [])),(54,(.tup [])),(55,(.tup [])),(56,(.bool false))])
noncomputable def rcknI4 (s:tSt.den) (n:tNi.den) (l:(Ty.sl tRe).den) (x125:Nat):Cfg:=⟨.ex (pcOf H6 12 [0,0,1,0,1,1,1,1,1]) ⟨(rcknQ4 s n l),(rcknQ0 s n),[],[],76,false⟩,⟨12,[]⟩,[(.lop (pcOf H6 12 [0,0,1,0,1,1,1,1,1]) 2 (rcknQ4 s n l) x125),(.blk 0),(.seq (pcOf H6 12 [1,1,1,1,1,1])),(.cal [(.tmp 6),(.tmp 7)] .top)]⟩
noncomputable def rcknQ5 (s:tSt.den) (n:tNi.den) (l:(Ty.sl tRe).den):Tmps:=(tmOf 76 [(0,(rcknk0 s)),(1,(rcknk2 n)),(2,(.vs tRe (l.1) (l.2))),(3,(pP 0 0)),(4,(pP 1 0)),(6,(iI 0)),(7,(iI 0)),(8,(iI ((staS s).1))),(9,(iI ((staS s).2.1))),(10,(iI 7)),(11,(iI 0)),(12,(rcknk1 s)),(13,(rcknk0 s)),(14,(rcknk1 s)),(15,(iI ((staS s).1))),(16,(iI ((staS s).2.1))),(17,(iI ((staS s).2.2))),(18,(iI ((staS s).2.2))),(19,(.bool (ieq (staS s).2.2 0))),(20,(.bool false)),(21,(.tup [])),(22,(.tup [])),(23,(.tup [])),(24,(.tup [])),(25,(.tup [])),(26,(.tup [])),(27,(.tup [])),(28,(.tup [])),(29,(.bool false)),(30,(iI ((staS s).2.2))),(31,(.bool (ieq (staS s).2.2 0))),(32,(.bool true)),(33,(pP 1 0)),(34,(rcknk3 n)),(35,(.bool (in3 n.1.1 n.1.2.1))),(36,(.bool (!in3 n.1.1 n.1.2.1))),(37,(.bool true)),(38,(.tup [])),(39,(.tup [])),(40,(.tup [])),(41,(.tup [])),(42,(.bool true)),(43,(.bool true)),(44,(.tup [])),(45,(.tup [])),(46,(.tup [])),(47,(.tup [])),(48,(.bool true)),(49,(.bool true)),(50,(iI 7)),(51,(.bool false)),(52,(.bool false)),(53,(.tup [])),(54,(.tup [])),(55,(.tup [])),(56,(.bool false))])
noncomputable def rcknI5 (s:tSt.den) (n:tNi.den) (l:(Ty.sl tRe).den) (x119:Nat):Cfg:=⟨.ex (pcOf H6 12 [0,0,1,0,1,1,1,1,1]) ⟨(rcknQ5 s n l),(rcknQ0 s n),[],[],76,false⟩,⟨12,[]⟩,[(.lop (pcOf H6 12 [0,0,1,0,1,1,1,1,1]) 2 (rcknQ5 s n l) x119),(.blk 0),(.seq (pcOf H6 12 [1,1,1,1,1,1])),(.cal [(.tmp 6),(.tmp 7)] .top)]⟩
noncomputable def rcknk4 (z0:tSt.den):AV:=(iI (wr .i64 (↑z0.1.2.length-1)))
noncomputable def rcknI6 (s:tSt.den) (n:tNi.den) (l:(Ty.sl tRe).den) (x17:Int) (x18:Int) (x44:Bool) (x46:Bool) (x117:Nat):Cfg:=⟨.ex (pcOf H6 12 [0,0,1,0,1,1,1,1,1]) ⟨(tmOf 76 [(0,(rcknk0 s)),(1,(rcknk2 n)),(2,(.vs tRe (l.1) (l.2))),(3,(pP 0 0)),(4,(pP 1 0)),(6,(iI 0)),(7,(iI 0)),(8,(iI ((staS s).1))),(9,(iI ((staS s).2.1))),(10,(iI x17)),(11,(iI x18)),(12,(rcknk1 s)),(13,(rcknk0 s)),(14,(rcknk1 s)),(15,(iI ((staS s).1))),(16,(iI ((staS s).2.1))),(17,(iI ((staS s).2.2))),(18,(iI ((staS s).2.2))),(19,(.bool (ieq (staS s).2.2 0))),(20,(.bool true)),(21,(pP 1 2)),(22,(iI (n.2.1))),(23,(pP 0 0)),(24,(.vs tGr (s.1.1) (s.1.2))),(25,(iI (Int.ofNat s.1.2.length))),(26,(rcknk4 s)),(27,(.bool (inF n.2.1 0 (wr .i64 (↑s.1.2.length-1))))),(28,(.bool (!inF n.2.1 0 (wr .i64 (↑s.1.2.length-1))))),(29,(.bool x44)),(30,(iI x17)),(31,(.bool x46)),(32,(.bool false)),(33,(.tup [])),(34,(.tup [])),(35,(.tup [])),(36,(.tup [])),(37,(.tup [])),(38,(.tup [])),(39,(.tup [])),(40,(.tup [])),(41,(.tup [])),(42,(.tup [])),(43,(.tup [])),(44,(.tup [])),(45,(.tup [])),(46,(.tup [])),(47,(.tup [])),(48,(.tup [])),(49,(.bool false)),(50,(iI x17)),(51,(.bool x46)),(52,(.bool false)),(53,(.tup [])),(54,(.tup [])),(55,(.tup [])),(56,(.bool false))]),(rcknQ0 s n),[],[],76,false⟩,⟨12,[]⟩,[(.lop (pcOf H6 12 [0,0,1,0,1,1,1,1,1]) 2 (tmOf 76 [(0,(rcknk0 s)),(1,(rcknk2 n)),(2,(.vs tRe (l.1) (l.2))),(3,(pP 0 0)),(4,(pP 1 0)),(6,(iI 0)),(7,(iI 0)),(8,(iI ((staS s).1))),(9,(iI ((staS s).2.1))),(10,(iI x17)),(11,(iI 0)),(12,(rcknk1 s)),(13,(rcknk0 s)),(14,(rcknk1 s)),(15,(iI ((staS s).1))),(16,(iI ((staS s).2.1))),(17,(iI ((staS s).2.2))),(18,(iI ((staS s).2.2))),(19,(.bool (ieq (staS s).2.2 0))),(20,(.bool true)),(21,(pP 1 2)),(22,(iI (n.2.1))),(23,(pP 0 0)),(24,(.vs tGr (s.1.1) (s.1.2))),(25,(iI (Int.ofNat s.1.2.length))),(26,(rcknk4 s)),(27,(.bool (inF n.2.1 0 (wr .i64 (↑s.1.2.length-1))))),(28,(.bool (!inF n.2.1 0 (wr .i64 (↑s.1.2.length-1))))),(29,(.bool x44)),(30,(iI x17)),(31,(.bool x46)),(32,(.bool false)),(33,(.tup [])),(34,(.tup [])),(35,(.tup [])),(36,(.tup [])),(37,(.tup [])),(38,(.tup [])),(39,(.tup [])),(40,(.tup [])),(41,(.tup [])),(42,(.tup [])),(43,(.tup [])),(44,(.tup [])),(45,(.tup [])),(46,(.tup [])),(47,(.tup [])),(48,(.tup [])),(49,(.bool false)),(50,(iI x17)),(51,(.bool x46)),(52,(.bool false)),(53,(.tup [])),(54,(.tup [])),(55,(.tup [])),(56,(.bool false))]) x117),(.blk 0),(.seq (pcOf H6 12 [1,1,1,1,1,1])),(.cal [(.tmp 6),(.tmp 7)] .top)]⟩
noncomputable def rcknQ6 (s:tSt.den) (n:tNi.den) (l:(Ty.sl tRe).den) (y0:Int) (y1:Bool):Tmps:=(tmOf 76 [(0,(rcknk0 s)),(1,(rcknk2 n)),(2,(.vs tRe (l.1) (l.2))),(3,(pP 0 0)),(4,(pP 1 0)),(6,(iI 0)),(7,(iI 0)),(8,(iI ((staS s).1))),(9,(iI ((staS s).2.1))),(10,(iI y0)),(11,(iI 0)),(12,(rcknk1 s)),(13,(rcknk0 s)),(14,(rcknk1 s)),(15,(iI ((staS s).1))),(16,(iI ((staS s).2.1))),(17,(iI ((staS s).2.2))),(18,(iI ((staS s).2.2))),(19,(.bool (ieq (staS s).2.2 0))),(20,(.bool true)),(21,(pP 1 2)),(22,(iI (n.2.1))),(23,(pP 0 0)),(24,(.vs tGr (s.1.1) (s.1.2))),(25,(iI (Int.ofNat s.1.2.length))),(26,(rcknk4 s)),(27,(.bool (inF n.2.1 0 (wr .i64 (↑s.1.2.length-1))))),(28,(.bool (!inF n.2.1 0 (wr .i64 (↑s.1.2.length-1))))),(29,(.bool false)),(30,(iI ((staS s).2.2))),(31,(.bool (ieq (staS s).2.2 0))),(32,(.bool false)),(33,(.tup [])),(34,(.tup [])),(35,(.tup [])),(36,(.tup [])),(37,(.tup [])),(38,(.tup [])),(39,(.tup [])),(40,(.tup [])),(41,(.tup [])),(42,(.tup [])),(43,(.tup [])),(44,(.tup [])),(45,(.tup [])),(46,(.tup [])),(47,(.tup [])),(48,(.tup [])),(49,(.bool false)),(50,(iI ((staS s).2.2))),(51,(.bool (ieq (staS s).2.2 0))),(52,(.bool true)),(53,(.vs tRe (l.1) (l.2))),(54,(iI (Int.ofNat l.2.length))),(55,(.bool (!ile (↑l.2.length) 8))),(56,(.bool y1))])
noncomputable def rcknI7 (s:tSt.den) (n:tNi.den) (l:(Ty.sl tRe).den) (x17:Int) (x56:Bool) (x125:Nat):Cfg:=⟨.ex (pcOf H6 12 [0,0,1,0,1,1,1,1,1]) ⟨(rcknQ6 s n l x17 x56),(rcknQ0 s n),[],[],76,false⟩,⟨12,[]⟩,[(.lop (pcOf H6 12 [0,0,1,0,1,1,1,1,1]) 2 (rcknQ6 s n l x17 x56) x125),(.blk 0),(.seq (pcOf H6 12 [1,1,1,1,1,1])),(.cal [(.tmp 6),(.tmp 7)] .top)]⟩
noncomputable def rcknI8 (s:tSt.den) (n:tNi.den) (l:(Ty.sl tRe).den) (x17:Int) (x18:Int) (x62:Bool) (x64:Bool) (x145:Nat):Cfg:=⟨.ex (pcOf H6 12 [0,0,1,0,1,1,1,1,1]) ⟨(tmOf 76 [(0,(rcknk0 s)),(1,(rcknk2 n)),(2,(.vs tRe (l.1) (l.2))),(3,(pP 0 0)),(4,(pP 1 0)),(6,(iI 0)),(7,(iI 0)),(8,(iI ((staS s).1))),(9,(iI ((staS s).2.1))),(10,(iI x17)),(11,(iI x18)),(12,(rcknk1 s)),(13,(rcknk0 s)),(14,(rcknk1 s)),(15,(iI ((staS s).1))),(16,(iI ((staS s).2.1))),(17,(iI ((staS s).2.2))),(18,(iI ((staS s).2.2))),(19,(.bool (ieq (staS s).2.2 0))),(20,(.bool true)),(21,(pP 1 2)),(22,(iI (n.2.1))),(23,(pP 0 0)),(24,(.vs tGr (s.1.1) (s.1.2))),(25,(iI (Int.ofNat s.1.2.length))),(26,(rcknk4 s)),(27,(.bool (inF n.2.1 0 (wr .i64 (↑s.1.2.length-1))))),(28,(.bool (!inF n.2.1 0 (wr .i64 (↑s.1.2.length-1))))),(29,(.bool false)),(30,(iI ((staS s).2.2))),(31,(.bool (ieq (staS s).2.2 0))),(32,(.bool true)),(33,(pP 1 0)),(34,(rcknk3 n)),(35,(.bool (in3 n.1.1 n.1.2.1))),(36,(.bool (!in3 n.1.1 n.1.2.1))),(37,(.bool false)),(38,(pP 1 3)),(39,(iI (n.2.2.1))),(40,(.bool (inF n.2.2.1 0 31))),(41,(.bool (!inF n.2.2.1 0 31))),(42,(.bool (!inF n.2.2.1 0 31))),(43,(.bool false)),(44,(pP 1 4)),(45,(iI (n.2.2.2.1))),(46,(.bool (inF n.2.2.2.1 1 32))),(47,(.bool (!inF n.2.2.2.1 1 32))),(48,(.bool (!inF n.2.2.2.1 1 32))),(49,(.bool x62)),(50,(iI x17)),(51,(.bool x64)),(52,(.bool false)),(53,(.tup [])),(54,(.tup [])),(55,(.tup [])),(56,(.bool false))]),(rcknQ0 s n),[],[],76,false⟩,⟨12,[]⟩,[(.lop (pcOf H6 12 [0,0,1,0,1,1,1,1,1]) 2 (tmOf 76 [(0,(rcknk0 s)),(1,(rcknk2 n)),(2,(.vs tRe (l.1) (l.2))),(3,(pP 0 0)),(4,(pP 1 0)),(6,(iI 0)),(7,(iI 0)),(8,(iI ((staS s).1))),(9,(iI ((staS s).2.1))),(10,(iI x17)),(11,(iI 0)),(12,(rcknk1 s)),(13,(rcknk0 s)),(14,(rcknk1 s)),(15,(iI ((staS s).1))),(16,(iI ((staS s).2.1))),(17,(iI ((staS s).2.2))),(18,(iI ((staS s).2.2))),(19,(.bool (ieq (staS s).2.2 0))),(20,(.bool true)),(21,(pP 1 2)),(22,(iI (n.2.1))),(23,(pP 0 0)),(24,(.vs tGr (s.1.1) (s.1.2))),(25,(iI (Int.ofNat s.1.2.length))),(26,(rcknk4 s)),(27,(.bool (inF n.2.1 0 (wr .i64 (↑s.1.2.length-1))))),(28,(.bool (!inF n.2.1 0 (wr .i64 (↑s.1.2.length-1))))),(29,(.bool false)),(30,(iI ((staS s).2.2))),(31,(.bool (ieq (staS s).2.2 0))),(32,(.bool true)),(33,(pP 1 0)),(34,(rcknk3 n)),(35,(.bool (in3 n.1.1 n.1.2.1))),(36,(.bool (!in3 n.1.1 n.1.2.1))),(37,(.bool false)),(38,(pP 1 3)),(39,(iI (n.2.2.1))),(40,(.bool (inF n.2.2.1 0 31))),(41,(.bool (!inF n.2.2.1 0 31))),(42,(.bool (!inF n.2.2.1 0 31))),(43,(.bool false)),(44,(pP 1 4)),(45,(iI (n.2.2.2.1))),(46,(.bool (inF n.2.2.2.1 1 32))),(47,(.bool (!inF n.2.2.2.1 1 32))),(48,(.bool (!inF n.2.2.2.1 1 32))),(49,(.bool x62)),(50,(iI x17)),(51,(.bool x64)),(52,(.bool false)),(53,(.tup [])),(54,(.tup [])),(55,(.tup [])),(56,(.bool false))]) x145),(.blk 0),(.seq (pcOf H6 12 [1,1,1,1,1,1])),(.cal [(.tmp 6),(.tmp 7)] .top)]⟩
noncomputable def rcknI9 (s:tSt.den) (n:tNi.den) (l:(Ty.sl tRe).den) (x17:Int) (x18:Int) (x70:Bool) (x153:Nat):Cfg:=⟨.ex (pcOf H6 12 [0,0,1,0,1,1,1,1,1]) ⟨(tmOf 76 [(0,(rcknk0 s)),(1,(rcknk2 n)),(2,(.vs tRe (l.1) (l.2))),(3,(pP 0 0)),(4,(pP 1 0)),(6,(iI 0)),(7,(iI 0)),(8,(iI ((staS s).1))),(9,(iI ((staS s).2.1))),(10,(iI x17)),(11,(iI x18)),(12,(rcknk1 s)),(13,(rcknk0 s)),(14,(rcknk1 s)),(15,(iI ((staS s).1))),(16,(iI ((staS s).2.1))),(17,(iI ((staS s).2.2))),(18,(iI ((staS s).2.2))),(19,(.bool (ieq (staS s).2.2 0))),(20,(.bool true)),(21,(pP 1 2)),(22,(iI (n.2.1))),(23,(pP 0 0)),(24,(.vs tGr (s.1.1) (s.1.2))),(25,(iI (Int.ofNat s.1.2.length))),(26,(rcknk4 s)),(27,(.bool (inF n.2.1 0 (wr .i64 (↑s.1.2.length-1))))),(28,(.bool (!inF n.2.1 0 (wr .i64 (↑s.1.2.length-1))))),(29,(.bool false)),(30,(iI ((staS s).2.2))),(31,(.bool (ieq (staS s).2.2 0))),(32,(.bool true)),(33,(pP 1 0)),(34,(rcknk3 n)),(35,(.bool (in3 n.1.1 n.1.2.1))),(36,(.bool (!in3 n.1.1 n.1.2.1))),(37,(.bool false)),(38,(pP 1 3)),(39,(iI (n.2.2.1))),(40,(.bool (inF n.2.2.1 0 31))),(41,(.bool (!inF n.2.2.1 0 31))),(42,(.bool (!inF n.2.2.1 0 31))),(43,(.bool false)),(44,(pP 1 4)),(45,(iI (n.2.2.2.1))),(46,(.bool (inF n.2.2.2.1 1 32))),(47,(.bool (!inF n.2.2.2.1 1 32))),(48,(.bool (!inF n.2.2.2.1 1 32))),(49,(.bool false)),(50,(iI ((staS s).2.2))),(51,(.bool (ieq (staS s).2.2 0))),(52,(.bool true)),(53,(.vs tRe (l.1) (l.2))),(54,(iI (Int.ofNat l.2.length))),(55,(.bool (!ile (↑l.2.length) 8))),(56,(.bool x70))]),(rcknQ0 s n),[],[],76,false⟩,⟨12,[]⟩,[(.lop (pcOf H6 12 [0,0,1,0,1,1,1,1,1]) 2 (tmOf 76 [(0,(rcknk0 s)),(1,(rcknk2 n)),(2,(.vs tRe (l.1) (l.2))),(3,(pP 0 0)),(4,(pP 1 0)),(6,(iI 0)),(7,(iI 0)),(8,(iI ((staS s).1))),(9,(iI ((staS s).2.1))),(10,(iI x17)),(11,(iI 0)),(12,(rcknk1 s)),(13,(rcknk0 s)),(14,(rcknk1 s)),(15,(iI ((staS s).1))),(16,(iI ((staS s).2.1))),(17,(iI ((staS s).2.2))),(18,(iI ((staS s).2.2))),(19,(.bool (ieq (staS s).2.2 0))),(20,(.bool true)),(21,(pP 1 2)),(22,(iI (n.2.1))),(23,(pP 0 0)),(24,(.vs tGr (s.1.1) (s.1.2))),(25,(iI (Int.ofNat s.1.2.length))),(26,(rcknk4 s)),(27,(.bool (inF n.2.1 0 (wr .i64 (↑s.1.2.length-1))))),(28,(.bool (!inF n.2.1 0 (wr .i64 (↑s.1.2.length-1))))),(29,(.bool false)),(30,(iI ((staS s).2.2))),(31,(.bool (ieq (staS s).2.2 0))),(32,(.bool true)),(33,(pP 1 0)),(34,(rcknk3 n)),(35,(.bool (in3 n.1.1 n.1.2.1))),(36,(.bool (!in3 n.1.1 n.1.2.1))),(37,(.bool false)),(38,(pP 1 3)),(39,(iI (n.2.2.1))),(40,(.bool (inF n.2.2.1 0 31))),(41,(.bool (!inF n.2.2.1 0 31))),(42,(.bool (!inF n.2.2.1 0 31))),(43,(.bool false)),(44,(pP 1 4)),(45,(iI (n.2.2.2.1))),(46,(.bool (inF n.2.2.2.1 1 32))),(47,(.bool (!inF n.2.2.2.1 1 32))),(48,(.bool (!inF n.2.2.2.1 1 32))),(49,(.bool false)),(50,(iI ((staS s).2.2))),(51,(.bool (ieq (staS s).2.2 0))),(52,(.bool true)),(53,(.vs tRe (l.1) (l.2))),(54,(iI (Int.ofNat l.2.length))),(55,(.bool (!ile (↑l.2.length) 8))),(56,(.bool x70))]) x153),(.blk 0),(.seq (pcOf H6 12 [1,1,1,1,1,1])),(.cal [(.tmp 6),(.tmp 7)] .top)]⟩
noncomputable def rcknQ7 (s:tSt.den) (n:tNi.den) (l:(Ty.sl tRe).den):Tmps:=(tmOf 76 [(0,(rcknk0 s)),(1,(rcknk2 n)),(2,(.vs tRe (l.1) (l.2))),(3,(pP 0 0)),(4,(pP 1 0)),(6,(iI 0)),(7,(iI 0)),(8,(iI ((staS s).1))),(9,(iI ((staS s).2.1))),(10,(iI 7)),(11,(iI 0)),(12,(rcknk1 s)),(13,(rcknk0 s)),(14,(rcknk1 s)),(15,(iI ((staS s).1))),(16,(iI ((staS s).2.1))),(17,(iI ((staS s).2.2))),(18,(iI ((staS s).2.2))),(19,(.bool (ieq (staS s).2.2 0))),(20,(.bool true)),(21,(pP 1 2)),(22,(iI (n.2.1))),(23,(pP 0 0)),(24,(.vs tGr (s.1.1) (s.1.2))),(25,(iI (Int.ofNat s.1.2.length))),(26,(rcknk4 s)),(27,(.bool (inF n.2.1 0 (wr .i64 (↑s.1.2.length-1))))),(28,(.bool (!inF n.2.1 0 (wr .i64 (↑s.1.2.length-1))))),(29,(.bool false)),(30,(iI ((staS s).2.2))),(31,(.bool (ieq (staS s).2.2 0))),(32,(.bool true)),(33,(pP 1 0)),(34,(rcknk3 n)),(35,(.bool (in3 n.1.1 n.1.2.1))),(36,(.bool (!in3 n.1.1 n.1.2.1))),(37,(.bool false)),(38,(pP 1 3)),(39,(iI (n.2.2.1))),(40,(.bool (inF n.2.2.1 0 31))),(41,(.bool (!inF n.2.2.1 0 31))),(42,(.bool (!inF n.2.2.1 0 31))),(43,(.bool true)),(44,(.tup [])),(45,(.tup [])),(46,(.tup [])),(47,(.tup [])),(48,(.bool true)),(49,(.bool true)),(50,(iI 7)),(51,(.bool false)),(52,(.bool false)),(53,(.tup [])),(54,(.tup [])),(55,(.tup [])),(56,(.bool false))])
noncomputable def rcknI10 (s:tSt.den) (n:tNi.den) (l:(Ty.sl tRe).den) (x139:Nat):Cfg:=⟨.ex (pcOf H6 12 [0,0,1,0,1,1,1,1,1]) ⟨(rcknQ7 s n l),(rcknQ0 s n),[],[],76,false⟩,⟨12,[]⟩,[(.lop (pcOf H6 12 [0,0,1,0,1,1,1,1,1]) 2 (rcknQ7 s n l) x139),(.blk 0),(.seq (pcOf H6 12 [1,1,1,1,1,1])),(.cal [(.tmp 6),(.tmp 7)] .top)]⟩
noncomputable def rcknQ8 (s:tSt.den) (n:tNi.den) (l:(Ty.sl tRe).den):Tmps:=(tmOf 76 [(0,(rcknk0 s)),(1,(rcknk2 n)),(2,(.vs tRe (l.1) (l.2))),(3,(pP 0 0)),(4,(pP 1 0)),(6,(iI 0)),(7,(iI 0)),(8,(iI ((staS s).1))),(9,(iI ((staS s).2.1))),(10,(iI 7)),(11,(iI 0)),(12,(rcknk1 s)),(13,(rcknk0 s)),(14,(rcknk1 s)),(15,(iI ((staS s).1))),(16,(iI ((staS s).2.1))),(17,(iI ((staS s).2.2))),(18,(iI ((staS s).2.2))),(19,(.bool (ieq (staS s).2.2 0))),(20,(.bool true)),(21,(pP 1 2)),(22,(iI (n.2.1))),(23,(pP 0 0)),(24,(.vs tGr (s.1.1) (s.1.2))),(25,(iI (Int.ofNat s.1.2.length))),(26,(rcknk4 s)),(27,(.bool (inF n.2.1 0 (wr .i64 (↑s.1.2.length-1))))),(28,(.bool (!inF n.2.1 0 (wr .i64 (↑s.1.2.length-1))))),(29,(.bool false)),(30,(iI ((staS s).2.2))),(31,(.bool (ieq (staS s).2.2 0))),(32,(.bool true)),(33,(pP 1 0)),(34,(rcknk3 n)),(35,(.bool (in3 n.1.1 n.1.2.1))),(36,(.bool (!in3 n.1.1 n.1.2.1))),(37,(.bool true)),(38,(.tup [])),(39,(.tup [])),(40,(.tup [])),(41,(.tup [])),(42,(.bool true)),(43,(.bool true)),(44,(.tup [])),(45,(.tup [])),(46,(.tup [])),(47,(.tup [])),(48,(.bool true)),(49,(.bool true)),(50,(iI 7)),(51,(.bool false)),(52,(.bool false)),(53,(.tup [])),(54,(.tup [])),(55,(.tup [])),(56,(.bool false))])
noncomputable def rcknI11 (s:tSt.den) (n:tNi.den) (l:(Ty.sl tRe).den) (x133:Nat):Cfg:=⟨.ex (pcOf H6 12 [0,0,1,0,1,1,1,1,1]) ⟨(rcknQ8 s n l),(rcknQ0 s n),[],[],76,false⟩,⟨12,[]⟩,[(.lop (pcOf H6 12 [0,0,1,0,1,1,1,1,1]) 2 (rcknQ8 s n l) x133),(.blk 0),(.seq (pcOf H6 12 [1,1,1,1,1,1])),(.cal [(.tmp 6),(.tmp 7)] .top)]⟩
theorem rckn_start (s:tSt.den) (n:tNi.den) (l:(Ty.sl tRe).den):adv H6 (Y6 [12]) 20000 (startC H6 12 [tSt.av s,tNi.av n,.vs tRe l.1 l.2] 12)=(bif ieq (staS s).2.2 0 then (bif !inF n.2.1 0 (wr .i64 (↑s.1.2.length-1)) then some (.stop (rcknI6 s n l (4) (0) (true) (false) (1048575))) else (bif ieq (staS s).2.2 0 then (bif !in3 n.1.1 n.1.2.1 then some (.stop (rcknI11 s n l (1048575))) else (bif !inF n.2.2.1 0 31 then some (.stop (rcknI10 s n l (1048575))) else (bif !inF n.2.2.2.1 1 32 then some (.stop (rcknI8 s n l (7) (0) (true) (false) (1048575))) else (bif ieq (staS s).2.2 0 then (bif !ile (↑l.2.length) 8 then some (.stop (rcknI9 s n l (3) (0) (true) (1048575))) else some (.stop (rcknI9 s n l ((staS s).2.2) (0) (false) (1048575)))) else some (.stop (rcknI8 s n l ((staS s).2.2) (0) (false) (ieq (staS s).2.2 0) (1048575))))))) else (bif ieq (staS s).2.2 0 then (bif !ile (↑l.2.length) 8 then some (.stop (rcknI7 s n l (3) (true) (1048575))) else some (.stop (rcknI7 s n l ((staS s).2.2) (false) (1048575)))) else some (.stop (rcknI6 s n l ((staS s).2.2) (0) (false) (ieq (staS s).2.2 0) (1048575)))))) else (bif ieq (staS s).2.2 0 then (bif !in3 n.1.1 n.1.2.1 then some (.stop (rcknI5 s n l (1048575))) else (bif !inF n.2.2.1 0 31 then some (.stop (rcknI4 s n l (1048575))) else (bif !inF n.2.2.2.1 1 32 then some (.stop (rcknI2 s n l (7) (true) (false) (1048575))) else (bif ieq (staS s).2.2 0 then (bif !ile (↑l.2.length) 8 then some (.stop (rcknI3 s n l (3) (true) (1048575))) else some (.stop (rcknI3 s n l ((staS s).2.2) (false) (1048575)))) else some (.stop (rcknI2 s n l ((staS s).2.2) (false) (ieq (staS s).2.2 0) (1048575))))))) else (bif ieq (staS s).2.2 0 then (bif !ile (↑l.2.length) 8 then some (.stop (rcknI1 s n l (3) (true) (1048575))) else some (.stop (rcknI1 s n l ((staS s).2.2) (false) (1048575)))) else some (.stop (rcknI0 s n l (0) (1048575)))))):=by kernel_rfl
theorem rckn_step0 (s:tSt.den) (n:tNi.den) (l:(Ty.sl tRe).den) (x18:Int) (x103:Nat):adv H6 (Y6 [12]) 20000 (rcknI0 s n l x18 (x103+1))=(bif !ile (↑l.2.length) x18 then (bif ieq (staS s).2.2 0 then (bif inB x18 l.2.length then (bif !in3 (l.2.getD x18.toNat tRe.dflt).1.1 (l.2.getD x18.toNat tRe.dflt).1.2.1 then some (.done (.tup [(.int .i64 (x18)),(.int .i64 (7))])) else some (.stop (rcknI0 s n l (wr .i64 (x18+1)) (x103)))) else none) else some (.done (.tup [(.int .i64 (0)),(.int .i64 ((staS s).2.2))]))) else some (.done (.tup [(.int .i64 (0)),(.int .i64 ((staS s).2.2))]))):=by kernel_rfl
theorem rckn_step6 (s:tSt.den) (n:tNi.den) (l:(Ty.sl tRe).den) (x17:Int) (x18:Int) (x44:Bool) (x46:Bool) (x117:Nat):adv H6 (Y6 [12]) 20000 (rcknI6 s n l x17 x18 x44 x46 (x117+1))=(bif !ile (↑l.2.length) x18 then (bif ieq x17 0 then (bif inB x18 l.2.length then (bif !in3 (l.2.getD x18.toNat tRe.dflt).1.1 (l.2.getD x18.toNat tRe.dflt).1.2.1 then some (.done (.tup [(.int .i64 (x18)),(.int .i64 (7))])) else some (.stop (rcknI6 s n l (x17) (wr .i64 (x18+1)) (x44) (x46) (x117)))) else none) else some (.done (.tup [(.int .i64 (0)),(.int .i64 (x17))]))) else some (.done (.tup [(.int .i64 (0)),(.int .i64 (x17))]))):=by kernel_rfl
theorem rckn_step8 (s:tSt.den) (n:tNi.den) (l:(Ty.sl tRe).den) (x17:Int) (x18:Int) (x62:Bool) (x64:Bool) (x145:Nat):adv H6 (Y6 [12]) 20000 (rcknI8 s n l x17 x18 x62 x64 (x145+1))=(bif !ile (↑l.2.length) x18 then (bif ieq x17 0 then (bif inB x18 l.2.length then (bif !in3 (l.2.getD x18.toNat tRe.dflt).1.1 (l.2.getD x18.toNat tRe.dflt).1.2.1 then some (.done (.tup [(.int .i64 (x18)),(.int .i64 (7))])) else some (.stop (rcknI8 s n l (x17) (wr .i64 (x18+1)) (x62) (x64) (x145)))) else none) else some (.done (.tup [(.int .i64 (0)),(.int .i64 (x17))]))) else some (.done (.tup [(.int .i64 (0)),(.int .i64 (x17))]))):=by kernel_rfl
theorem rckn_step9 (s:tSt.den) (n:tNi.den) (l:(Ty.sl tRe).den) (x17:Int) (x18:Int) (x70:Bool) (x153:Nat):adv H6 (Y6 [12]) 20000 (rcknI9 s n l x17 x18 x70 (x153+1))=(bif !ile (↑l.2.length) x18 then (bif ieq x17 0 then (bif inB x18 l.2.length then (bif !in3 (l.2.getD x18.toNat tRe.dflt).1.1 (l.2.getD x18.toNat tRe.dflt).1.2.1 then some (.done (.tup [(.int .i64 (x18)),(.int .i64 (7))])) else some (.stop (rcknI9 s n l (x17) (wr .i64 (x18+1)) (x70) (x153)))) else none) else some (.done (.tup [(.int .i64 (0)),(.int .i64 (x17))]))) else some (.done (.tup [(.int .i64 (0)),(.int .i64 (x17))]))):=by kernel_rfl
theorem rckn_step10 (s:tSt.den) (n:tNi.den) (l:(Ty.sl tRe).den) (x139:Nat):adv H6 (Y6 [12]) 20000 (rcknI10 s n l (x139+1))=(bif !ile (↑l.2.length) 0 then some (.done (.tup [(.int .i64 (0)),(.int .i64 (7))])) else some (.done (.tup [(.int .i64 (0)),(.int .i64 (7))]))):=by kernel_rfl
theorem rckn_step11 (s:tSt.den) (n:tNi.den) (l:(Ty.sl tRe).den) (x133:Nat):adv H6 (Y6 [12]) 20000 (rcknI11 s n l (x133+1))=(bif !ile (↑l.2.length) 0 then some (.done (.tup [(.int .i64 (0)),(.int .i64 (7))])) else some (.done (.tup [(.int .i64 (0)),(.int .i64 (7))]))):=by kernel_rfl
theorem rckn_9 (s:tSt.den) (n:tNi.den) (l:(Ty.sl tRe).den) (h8:l.2.length≤8) (e0:Int) (he:e0=0) (x:Bool):∀ (r i m:Nat),i+r=l.2.length→r<m→Ans H6 (rcknI9 s n l e0 (i:Int) x m) (tup2 (repS i (l.2.drop i)))
 |0,i,m+1,hk,hm=>by
  have h:=rckn_step9 s n l e0 (i:Int) x m
  rw[ile_t (show ((l.2.length:Nat):Int)≤i by omega),Bool.not_true,cond_false] at h
  rw[List.drop_eq_nil_of_le (by omega)]
  subst he
  exact done2 (Y6_ok _) H6sy h rfl
 | r + 1, i, m + 1, hk, hm => by
  have h:=rckn_step9 s n l e0 (i:Int) x m
  have hlt:i<l.2.length:=by omega
  have z:ieq e0 0=true:=by subst he;rfl
  simp only[ile_f (show ((i:Nat):Int)<(l.2.length:Int) by omega),Bool.not_false,cond_true,z,inB_at hlt,getD_at hlt,wr_succ (show i<1048577 by omega)] at h
  rw[List.drop_eq_getElem_cons hlt,repS]
  cases c:in3 (l.2[i]).1.1 (l.2[i]).1.2.1 with
  |false=>
   rw[c,Bool.not_false,cond_true] at h
   rw[cond_false]
   exact done2 (Y6_ok _) H6sy h rfl
  |true=>
   rw[c,Bool.not_true,cond_false] at h
   rw[cond_true]
   exact .stop (Y6_ok _) H6sy h (rckn_9 s n l h8 e0 he x r (i+1) m (by omega) (by omega))
theorem rckn_call (s:tSt.den) (n:tNi.den) (l:(Ty.sl tRe).den):AnsF H6 12 [tSt.av s,tNi.av n,.vs tRe l.1 l.2] (tup2 (cknS s n l.2)):=by
 refine Ans.call (n:=12) (ext_none (by kernel_rfl)) (hasB_spec (by kernel_rfl)) ?_
 have h:=rckn_start s n l
 unfold cknS
 cases c:ieq (staS s).2.2 0 with
 |false=>
  simp only[c,cond_false] at h
  rw[cond_false]
  refine .stop (Y6_ok _) H6sy h ?_
  have h:=rckn_step0 s n l 0 1048574
  simp only[c,cond_false] at h
  cases c1:ile (l.2.length:Int) 0<;>rw[c1] at h<;>exact done2 (Y6_ok _) H6sy h rfl
 | true =>
  have so:=(sta_ok c).len
  simp only[c,cond_true] at h
  rw[cond_true]
  have w:wr .i64 ((s.1.2.length:Int)-1)=(s.1.2.length:Int)-1:=wr_in (by omega) (by omega)
  rw[w] at h
  cases c1:inF n.2.1 0 ((s.1.2.length:Int)-1) with
  |false=>
   rw[c1,Bool.not_false,cond_true] at h
   rw[show (ile 0 n.2.1&&ile n.2.1 ((s.1.2.length:Int)-1))=false from c1,cond_false]
   refine .stop (Y6_ok _) H6sy h ?_
   have h:=rckn_step6 s n l 4 0 true false 1048574
   simp only[show ieq 4 0=false from rfl,cond_false] at h
   cases c1:ile (l.2.length:Int) 0<;>rw[c1] at h<;>exact done2 (Y6_ok _) H6sy h rfl
  | true =>
   rw[c1,Bool.not_true,cond_false] at h
   rw[show (ile 0 n.2.1&&ile n.2.1 ((s.1.2.length:Int)-1))=true from c1,cond_true]
   unfold nigB
   cases c2:in3 n.1.1 n.1.2.1 with
   |false=>
    rw[c2,Bool.not_false,cond_true] at h
    refine .stop (Y6_ok _) H6sy h ?_
    have h:=rckn_step11 s n l 1048574
    cases c1:ile (l.2.length:Int) 0<;>rw[c1] at h<;>exact done2 (Y6_ok _) H6sy h rfl
   | true =>
    rw[c2,Bool.not_true,cond_false] at h
    cases c3:inF n.2.2.1 0 31 with
    |false=>
     rw[c3,Bool.not_false,cond_true] at h
     rw[Bool.true_and,show (ile 0 n.2.2.1&&ile n.2.2.1 31)=false from c3]
     refine .stop (Y6_ok _) H6sy h ?_
     have h:=rckn_step10 s n l 1048574
     cases c1:ile (l.2.length:Int) 0<;>rw[c1] at h<;>exact done2 (Y6_ok _) H6sy h rfl
    | true =>
     rw[c3,Bool.not_true,cond_false] at h
     rw[Bool.true_and,show (ile 0 n.2.2.1&&ile n.2.2.1 31)=true from c3,Bool.true_and]
     cases c4:inF n.2.2.2.1 1 32 with
     |false=>
      rw[c4,Bool.not_false,cond_true] at h
      rw[show (ile 1 n.2.2.2.1&&ile n.2.2.2.1 32)=false from c4]
      refine .stop (Y6_ok _) H6sy h ?_
      have h:=rckn_step8 s n l 7 0 true false 1048574
      simp only[show ieq 7 0=false from rfl,cond_false] at h
      cases c1:ile (l.2.length:Int) 0<;>rw[c1] at h<;>exact done2 (Y6_ok _) H6sy h rfl
     | true =>
      rw[c4,Bool.not_true,cond_false] at h
      rw[show (ile 1 n.2.2.2.1&&ile n.2.2.2.1 32)=true from c4,cond_true]
      cases c5:ile (l.2.length:Int) 8 with
      |false=>
       rw[c5,Bool.not_false,cond_true] at h
       rw[cond_false]
       refine .stop (Y6_ok _) H6sy h ?_
       have h:=rckn_step9 s n l 3 0 true 1048574
       simp only[show ieq 3 0=false from rfl,cond_false] at h
       cases c1:ile (l.2.length:Int) 0<;>rw[c1] at h<;>exact done2 (Y6_ok _) H6sy h rfl
      |true=>
       rw[c5,Bool.not_true,cond_false] at h
       rw[cond_true]
       have h8:=ile_le c5
       have k:=rckn_9 s n l (by omega) (staS s).2.2 (ieq_t c) false l.2.length 0 1048575 (by omega) (by omega)
       exact .stop (Y6_ok _) H6sy h k
noncomputable def LV:List Said:=[(12,con3 tSt tNi (.sl tRe) (fun _ _ _=>true) (fun s n l=>tup2 (cknS s n l.2)))]
theorem LV_ok:∀ e∈LV,SaidG Tryz.prog H6.glob e:=
 saids_cons (SaidOK.g h6 xh6 nh6 tabs_ok.mix (fun _ _ h=>con3_spec (t:=tSt) (u:=tNi) (w:=.sl tRe) (fun s n l _=>rckn_call s n l) h) rfl) saids_nil
noncomputable def H7:Env:=H6.say (under (xOf LV))
theorem h7:EnvOK Tryz.prog H7:=h6.say _
theorem nh7:NameOK H7:=nh6.say _
theorem xh7:ExtOK Tryz.prog H7:=xh6.sayL LV_ok
theorem H7sy:H7.sy=true:=rfl
noncomputable def Y7 (l:List Nat):Sy:=(Y6 []).on LV l
theorem Y7_ok (l:List Nat):(Y7 l).ok H7:=Sy.on_ok (Y6_ok _)
end Go.Proofs.YtpnipaimaohiaaaGreatDoor


set_option maxRecDepth 100000
namespace Go.Proofs.YtpnipaimaohiaaaGreatDoor
open Go Go.Eng
theorem Tells.tupL {a b:List AV} (h:TellsL a b):Tells (.tup a) (.tup b):=fun V R x=>by
 cases x with
 |tup _ A ha hav=>
  have k:=h V A ⟨ha,hav⟩
  exact .tup _ _ k.1 k.2
noncomputable def bl (B:List Bool):List AV:=B.map AV.bool
theorem bl_len (B:List Bool):(bl B).length=B.length:=by simp[bl]
theorem bl_get {B:List Bool} {k:Nat} (h:k<B.length):(bl B).getD k .nili=.bool (B.getD k false):=by
 unfold bl;simp[h]
theorem bl_set (B:List Bool) (k:Nat):(bl B).set k (.bool true)=bl (B.set k true):=by
 unfold bl;rw[List.map_set]
theorem bl_plain:∀ B:List Bool,plainL (bl B)=true
 |[]=>rfl
 |_::B=>bl_plain B
theorem bl_isZs {B:List Bool}:∀ (n off:Nat),off+n≤B.length→isZs (bl B) (repl n [AV.bool false]) off=true
 |0,_,_=>rfl
 |n+1,off,h=>by
  show (Nat.ble (off+1) (bl B).length&&(isZ (AV.bool false) ((bl B).getD off .nili)&&isZs (bl B) (repl n [AV.bool false]) (off+1)))=true
  rw[bl_get (by omega),bl_isZs n (off+1) (by omega),bl_len,Nat.ble_eq_true_of_le (by omega)];rfl
theorem repl_len (n:Nat) (z:AV):(repl n [z]).length=n:=by
 induction n with
 |zero=>rfl
 |succ n ih=>show (z::repl n [z]).length=_;rw[List.length_cons,ih]
theorem bl_asZs {B:List Bool} (h:B.length=32):asZs (bl B) (repl 32 [AV.bool false]) 0=bl B:=by
 rw[← isZs_take (bl_isZs 32 0 (by omega)),List.drop_zero,repl_len]
 exact List.take_of_length_le (by rw[bl_len];omega)
theorem bl_rep:∀ n:Nat,repl n [AV.bool false]=bl (List.replicate n false)
 |0=>rfl
 |n+1=>by show AV.bool false::repl n [AV.bool false]=_;rw[bl_rep n];rfl
theorem bl_at {B:List Bool} {k:Nat} (h:k<B.length):isZs (bl B) [AV.bool false] ((k:Int).toNat * 1)=true∧toB ((bl B).getD ((k:Int).toNat * 1) .nili)=B.getD k false:=by
 have e:(k:Int).toNat * 1=k:=by simp
 rw[e]
 refine⟨bl_isZs 1 k (by omega),?_⟩
 rw[bl_get h];rfl
theorem flatI_len (l:List Int):(flat tI l).length=l.length:=by
 induction l with
 |nil=>rfl
 |cons a l ih=>show (AV.int .i64 a::flat tI l).length=_;rw[List.length_cons,ih];rfl
theorem flatI_plain (l:List Int):plainL (flat tI l)=true:=by
 induction l with
 |nil=>rfl
 |cons a l ih=>exact ih
theorem flatI_add (l:List Int) (x:Int):flat tI l++[.int .i64 x]=flat tI (l++[x]):=by
 unfold flat;rw[List.flatMap_append];rfl
theorem beq_flatI (l:List Int):(0+l.length * 1).beq (flat tI l).length=true:=by
 rw[flatI_len,Nat.zero_add,Nat.mul_one];exact Nat.beq_refl _
noncomputable def outG (B:List Bool):Nat→Nat→List Int
 |_,0=>[]
 |k,r+1=>bif B.getD k false then (k:Int)::outG B (k+1) r else outG B (k+1) r
noncomputable def vsI (L:List Int):AV:=.vs tI L.isEmpty L
abbrev W3:=(Int×Int×Bool)×List Bool
noncomputable def mtW (x:W3) (p:tP.den):W3:=((mtL x.1 p.1,mtH x.1 p.1,true),x.2.set p.2.1.toNat true)
noncomputable def wtup (a b:Int) (L:List Int) (e:Int):AV:=.tup [.agg [.int .i64 a,.int .i64 b],vsI L,.int .i64 e]
noncomputable def wndV (x:W3):AV:=wtup x.1.1 x.1.2.1 (outG x.2 0 32) (bif x.1.2.2 then 0 else 9)
noncomputable def wnd0:W3:=((0,0,false),List.replicate 32 false)
noncomputable def wndS (s:tSt.den) (n:tNi.den) (l:List tRe.den):AV:=bif ieq (cknS s n l).2 0 then wndV ((trT s n l true).foldl mtW wnd0) else wtup 0 0 [] (cknS s n l).2
theorem mtW_len (x:W3) (p:tP.den):(mtW x p).2.length=x.2.length:=by simp[mtW]
theorem doneW0 {E:Env} {S:Sy} (hS:S.ok E) (hsy:E.sy=true) {n:Nat} {c:Cfg} {a b e:Int} (h:adv E S n c=some (.done (.tup [.agg [.int .i64 a,.int .i64 b],.nils,.int .i64 e]))):Ans E c (wtup a b [] e):=
 .doneT hS hsy h (Tells.tupL (.cons (.refl _) (.cons .nils (.refl _))))
theorem doneW1 {E:Env} {S:Sy} (hS:S.ok E) (hsy:E.sy=true) {n:Nat} {c:Cfg} {a b e:Int} {L:List Int} (hL:L≠[]) (h:adv E S n c=some (.done (.tup [.agg [.int .i64 a,.int .i64 b],.csl (flat tI L) L.length,.int .i64 e]))):Ans E c (wtup a b L e):=by
 refine .doneT hS hsy h (Tells.tupL (.cons (.refl _) (.cons ?_ (.refl _))))
 unfold vsI
 rw[show L.isEmpty=false by cases L;exact absurd rfl hL;rfl]
 exact Tells.csl
end Go.Proofs.YtpnipaimaohiaaaGreatDoor

