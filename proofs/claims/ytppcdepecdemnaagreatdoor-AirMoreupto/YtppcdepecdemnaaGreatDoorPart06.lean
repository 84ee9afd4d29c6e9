/-
  What is proved: norelaw06.AirMore returns true for every station, night, reports and further report, and a place by two numbers, that hold together at most 1048576 values and letters. Conditions: that bound, and none but those of the given card (package-level variables start as the program's text lays them).
-/
import Derived.Test.YtppcdepecdemnaaGreatDoorPart05
import Derived.Test.YtppcdepecdemnaaGreatDoorPart03
import Derived.Test.YtppcdepecdemnaaGreatDoorRows
import Derived.Test.YtppcdepecdemnaaGreatDoorCards
import Derived.Test.YtppcdepecdemnaaGreatDoorTie
import Derived.ProofKit
import Derived.LaidMore
import Derived.OpenShut
import Derived.Stop.Joined
import Derived.Lay
import Derived.SevenTiedAt
import Derived.Deep.DeepHandedRow
set_option linter.unusedSectionVars false
set_option linter.unusedSimpArgs false
set_option linter.unusedVariables false
set_option maxRecDepth 100000
namespace Go.Proofs.YtppcdepecdemnaaGreatDoor
open Go Go.Eng
noncomputable def nN (t:tTd.den) (x:tFu.den):List tRe.den:=unf (rd tRe) (0+t.2.1.2.length+1) ([]++flat tRe t.2.1.2++[AV.int .i64 x.1.1.1,AV.int .i64 x.1.1.2.1,AV.bool x.1.2.1,AV.bool x.1.2.2.1])
noncomputable def nE (x:tFu.den):List tRe.den:=unf (rd tRe) (0+1) [AV.int .i64 x.1.1.1,AV.int .i64 x.1.1.2.1,AV.bool x.1.2.1,AV.bool x.1.2.2.1]
noncomputable def fM (t:tTd.den) (x:tFu.den):Bool:=isF (rd tRe) (0+t.2.1.2.length+1) ([]++flat tRe t.2.1.2++[AV.int .i64 x.1.1.1,AV.int .i64 x.1.1.2.1,AV.bool x.1.2.1,AV.bool x.1.2.2.1])&&true
noncomputable def pM (t:tTd.den) (x:tFu.den):Bool:=plainL ([]++flat tRe t.2.1.2++[AV.int .i64 x.1.1.1,AV.int .i64 x.1.1.2.1,AV.bool x.1.2.1,AV.bool x.1.2.2.1])
noncomputable def oM (t:tTd.den) (x:tFu.den):Bool:=plO (AO.cells true ([]++flat tRe t.2.1.2++[AV.int .i64 x.1.1.1,AV.int .i64 x.1.1.2.1,AV.bool x.1.2.1,AV.bool x.1.2.2.1]))
noncomputable def gM (t:tTd.den):Bool:=t.2.1.2.length.ble 1048576&&oneAll (flat tRe t.2.1.2)&&(H9.bytes 35).ble 65536
noncomputable def lM (t:tTd.den):Bool:=(0+(0+t.2.1.2.length) * 4).beq (List.drop 0 (repl 0 (AV.agg [AV.int .i64 0,AV.int .i64 0,AV.bool false,AV.bool false]).cells)++flat tRe t.2.1.2).length
noncomputable def qM (s:tSt.den) (t:tTd.den) (x:tFu.den) (N:List tRe.den) (b:Int):Int×Int:=couS s t.1 N (spF t.1.1.1 x.2.1.1,spF t.1.1.2.1 x.2.1.2.1,()) (ieq b 1)
noncomputable def fO:Option Out:=some (.done (.bool false))
noncomputable def tO:Option Out:=some (.done (.bool true))
noncomputable def stA (W V:List Int) (o:Bool) (a:Int) (nx ex:Option Out):Option Out:=bif !ile (V.length:Int) a then (bif inB a V.length then (bif W.length.ble 1000 then (bif !hasF W (V.getD a.toNat tI.dflt) then fO else (bif o then nx else none)) else none) else none) else ex
noncomputable def stB (b:Int) (p f o:Bool) (q' q:Int×Int) (nx:Option Out):Option Out:=bif !ile 2 b then (bif p then (bif f then (bif ieq q'.2 0 then (bif !ieq q.2 0 then fO else (bif !ieq q.1 1 then (bif !ieq q'.1 q.1 then fO else (bif !ieq q'.2 0 then (bif !ieq q'.2 9 then fO else (bif o then nx else none)) else (bif o then nx else none))) else (bif !ieq q'.2 0 then (bif !ieq q'.2 9 then fO else (bif o then nx else none)) else (bif o then nx else none)))) else (bif !ieq q'.2 0 then (bif !ieq q'.2 9 then fO else (bif o then nx else none)) else (bif o then nx else none))) else none) else none) else tO
noncomputable def tlW (p f:Bool) (w w':Q4) (a b:Cfg):Option Out:=bif p then (bif f then (bif ieq w'.2.2.2 0 then (bif !ieq w.2.2.2 0 then fO else (bif !ile w.1 w'.1 then fO else (bif !ile w'.2.1 w.2.1 then fO else some (.stop a)))) else some (.stop b)) else none) else none
noncomputable def tlM (s:tSt.den) (t:tTd.den) (N:List tRe.den) (p f:Bool) (c3 c2 c1 c0:Cfg):Option Out:=bif !okN s t.1 N then tO else (bif p then (bif f then (bif ieq (clrQ s t.1 N).2.2.2.2 0 then (bif !ieq (clrQ s t.1 t.2.1.2).2.2.2.2 0 then fO else (bif !ile (clrQ s t.1 t.2.1.2).1 (clrQ s t.1 N).1 then fO else (bif !ile (clrQ s t.1 N).2.1 (clrQ s t.1 t.2.1.2).2.1 then fO else (bif !ile (clrQ s t.1 t.2.1.2).2.2.1 (clrQ s t.1 N).2.2.1 then fO else (bif !ile (clrQ s t.1 N).2.2.2.1 (clrQ s t.1 t.2.1.2).2.2.2.1 then fO else tlW p f (wndQ s t.1 t.2.1.2) (wndQ s t.1 N) c3 c2))))) else tlW p f (wndQ s t.1 t.2.1.2) (wndQ s t.1 N) c1 c0) else none) else none)
noncomputable def lmork51 (z0:tSt.den):AO:=(cF [(.vs tGr (z0.1.1) (z0.1.2)),(iI (z0.2.1.1)),(iI (z0.2.1.2.1)),(iI (z0.2.2.1.1)),(iI (z0.2.2.1.2.1))])
noncomputable def lmork49 (z0:tTd.den):AO:=(cF [(iI (z0.1.1.1)),(iI (z0.1.1.2.1)),(iI (z0.1.2.1)),(iI (z0.1.2.2.1)),(iI (z0.1.2.2.2.1)),(.vs tRe (z0.2.1.1) (z0.2.1.2))])
noncomputable def lmork50 (z0:tFu.den):AO:=(cF [(iI (z0.1.1.1)),(iI (z0.1.1.2.1)),(.bool (z0.1.2.1)),(.bool (z0.1.2.2.1)),(.int .u16 (z0.2.1.1)),(.int .u16 (z0.2.1.2.1))])
noncomputable def lmork52 (z0:tTd.den):AO:=(cF [(iI (z0.1.1.1)),(iI (z0.1.1.2.1)),(iI (z0.1.2.1)),(iI (z0.1.2.2.1)),(iI (z0.1.2.2.2.1))])
noncomputable def lmork53 (z0:tFu.den):AO:=(cF ([AV.int IntKind.i64 z0.1.1.1,AV.int IntKind.i64 z0.1.1.2.1,AV.bool z0.1.2.1,AV.bool z0.1.2.2.1]))
noncomputable def lmork58 (z0:tTd.den) (z1:tFu.den):AO:=(.cells true ([]++flat tRe z0.2.1.2++[AV.int IntKind.i64 z1.1.1.1,AV.int IntKind.i64 z1.1.1.2.1,AV.bool z1.1.2.1,AV.bool z1.1.2.2.1]))
noncomputable def lmork56 (z0:tSt.den) (z1:tTd.den):AO:=(cF [(iI ((clrQ z0 z1.1 z1.2.1.2).1)),(iI ((clrQ z0 z1.1 z1.2.1.2).2.1))])
noncomputable def lmork46 (z0:tSt.den) (z1:tTd.den):AV:=(iI ((clrQ z0 z1.1 z1.2.1.2).2.2.1))
noncomputable def lmork45 (z0:tSt.den) (z1:tTd.den):AV:=(iI ((clrQ z0 z1.1 z1.2.1.2).2.2.2.1))
noncomputable def lmork33 (z0:tSt.den) (z1:tTd.den) (z2:tFu.den):AV:=(iI ((clrQ z0 z1.1 (nN z1 z2)).1))
noncomputable def lmork31 (z0:tSt.den) (z1:tTd.den) (z2:tFu.den):AV:=(iI ((clrQ z0 z1.1 (nN z1 z2)).2.1))
noncomputable def lmork30 (z0:tSt.den) (z1:tTd.den) (z2:tFu.den):AV:=(iI ((clrQ z0 z1.1 (nN z1 z2)).2.2.1))
noncomputable def lmork29 (z0:tSt.den) (z1:tTd.den) (z2:tFu.den):AV:=(iI ((clrQ z0 z1.1 (nN z1 z2)).2.2.2.1))
noncomputable def lmork57 (z0:tSt.den) (z1:tTd.den):AO:=(cF [(iI ((wndQ z0 z1.1 z1.2.1.2).1)),(iI ((wndQ z0 z1.1 z1.2.1.2).2.1))])
noncomputable def lmork34 (z0:tSt.den) (z1:tTd.den) (z2:tFu.den):AV:=(iI ((wndQ z0 z1.1 (nN z1 z2)).1))
noncomputable def lmork32 (z0:tSt.den) (z1:tTd.den) (z2:tFu.den):AV:=(iI ((wndQ z0 z1.1 (nN z1 z2)).2.1))
noncomputable def lmorg9 (s:tSt.den) (t:tTd.den) (x:tFu.den):List (Nat×AO):=[(0,(lmork51 s)),(1,(lmork49 t)),(2,(lmork50 x)),(3,(lmork52 t)),(4,.gone),(5,(lmork53 x)),(6,.gone),(7,(lmork58 t x)),(8,(lmork56 s t)),(9,(cF [(lmork46 s t),(lmork45 s t)])),(10,(cF [(lmork33 s t x),(lmork31 s t x)])),(11,(cF [(lmork30 s t x),(lmork29 s t x)])),(12,(lmork57 s t)),(13,(cF [(lmork34 s t x),(lmork32 s t x)]))]
noncomputable def lmorQ0 (s:tSt.den) (t:tTd.den) (x:tFu.den):Hp:=(hpOf 14 (lmorg9 s t x))
noncomputable def lmork47:PC:=(pcOf H9 3 [0,0,1,0,1,1,1,1,1,1,1,1,1,1])
noncomputable def lmork4 (z0:tSt.den):AV:=(.agg [(.vs tGr (z0.1.1) (z0.1.2)),(iI (z0.2.1.1)),(iI (z0.2.1.2.1)),(iI (z0.2.2.1.1)),(iI (z0.2.2.1.2.1))])
noncomputable def lmork21 (z0:tTd.den):AV:=(.agg [(iI (z0.1.1.1)),(iI (z0.1.1.2.1)),(iI (z0.1.2.1)),(iI (z0.1.2.2.1)),(iI (z0.1.2.2.2.1)),(.vs tRe (z0.2.1.1) (z0.2.1.2))])
noncomputable def lmork22 (z0:tFu.den):AV:=(.agg [(iI (z0.1.1.1)),(iI (z0.1.1.2.1)),(.bool (z0.1.2.1)),(.bool (z0.1.2.2.1)),(.int .u16 (z0.2.1.1)),(.int .u16 (z0.2.1.2.1))])
noncomputable def lmork25 (z0:tSt.den) (z1:tTd.den):AV:=(iI ((clrQ z0 z1.1 z1.2.1.2).2.2.2.2))
noncomputable def lmork10 (z0:tSt.den) (z1:tTd.den) (z2:tFu.den):AV:=(iI ((clrQ z0 z1.1 (nN z1 z2)).2.2.2.2))
noncomputable def lmork17 (z0:tSt.den) (z1:tTd.den):AV:=(.vs tI ((wndQ z0 z1.1 z1.2.1.2).2.2.1.isEmpty) ((wndQ z0 z1.1 z1.2.1.2).2.2.1))
noncomputable def lmork26 (z0:tSt.den) (z1:tTd.den):AV:=(iI ((wndQ z0 z1.1 z1.2.1.2).2.2.2))
noncomputable def lmork6 (z0:tSt.den) (z1:tTd.den) (z2:tFu.den):AV:=(.vs tI ((wndQ z0 z1.1 (nN z1 z2)).2.2.1.isEmpty) ((wndQ z0 z1.1 (nN z1 z2)).2.2.1))
noncomputable def lmork11 (z0:tSt.den) (z1:tTd.den) (z2:tFu.den):AV:=(iI ((wndQ z0 z1.1 (nN z1 z2)).2.2.2))
noncomputable def lmork5 (z0:tTd.den):AV:=(.agg [(iI (z0.1.1.1)),(iI (z0.1.1.2.1)),(iI (z0.1.2.1)),(iI (z0.1.2.2.1)),(iI (z0.1.2.2.2.1))])
noncomputable def lmork24 (z0:tFu.den):AV:=(.agg [(iI (z0.1.1.1)),(iI (z0.1.1.2.1)),(.bool (z0.1.2.1)),(.bool (z0.1.2.2.1))])
noncomputable def lmork27 (z0:tSt.den) (z1:tTd.den):AV:=(.agg [(iI ((clrQ z0 z1.1 z1.2.1.2).1)),(iI ((clrQ z0 z1.1 z1.2.1.2).2.1))])
noncomputable def lmork23 (z0:tSt.den) (z1:tTd.den):AV:=(.agg [(lmork46 z0 z1),(lmork45 z0 z1)])
noncomputable def lmork7 (z0:tSt.den) (z1:tTd.den):AV:=(.tup [(lmork27 z0 z1),(lmork23 z0 z1),(lmork25 z0 z1)])
noncomputable def lmork15 (z0:tSt.den) (z1:tTd.den) (z2:tFu.den):AV:=(.agg [(lmork33 z0 z1 z2),(lmork31 z0 z1 z2)])
noncomputable def lmork14 (z0:tSt.den) (z1:tTd.den) (z2:tFu.den):AV:=(.agg [(lmork30 z0 z1 z2),(lmork29 z0 z1 z2)])
noncomputable def lmork0 (z0:tSt.den) (z1:tTd.den) (z2:tFu.den):AV:=(.tup [(lmork15 z0 z1 z2),(lmork14 z0 z1 z2),(lmork10 z0 z1 z2)])
noncomputable def lmork28 (z0:tSt.den) (z1:tTd.den):AV:=(.agg [(iI ((wndQ z0 z1.1 z1.2.1.2).1)),(iI ((wndQ z0 z1.1 z1.2.1.2).2.1))])
noncomputable def lmork8 (z0:tSt.den) (z1:tTd.den):AV:=(.tup [(lmork28 z0 z1),(lmork17 z0 z1),(lmork26 z0 z1)])
noncomputable def lmork16 (z0:tSt.den) (z1:tTd.den) (z2:tFu.den):AV:=(.agg [(lmork34 z0 z1 z2),(lmork32 z0 z1 z2)])
noncomputable def lmork1 (z0:tSt.den) (z1:tTd.den) (z2:tFu.den):AV:=(.tup [(lmork16 z0 z1 z2),(lmork6 z0 z1 z2),(lmork11 z0 z1 z2)])
noncomputable def lmork55:Fm:=(.seq (pcOf H9 3 [1,1,1,1,1,1,1,1,1,1,1]))
noncomputable def lmorg0 (s:tSt.den) (t:tTd.den) (x:tFu.den):List (Nat×AV):=[(0,(lmork4 s)),(1,(lmork21 t)),(2,(lmork22 x)),(3,(pP 0 0)),(4,(pP 1 0)),(5,(pP 2 0)),(6,(.bool false)),(7,(pP 3 0)),(8,(.vs tRe (t.2.1.1) (t.2.1.2))),(12,(lmork25 s t)),(17,(lmork17 s t)),(18,(lmork26 s t)),(29,(pP 1 0)),(30,(lmork5 t)),(31,(pP 1 5)),(32,(.vs tRe (t.2.1.1) (t.2.1.2))),(33,(.sl 4 0 (0) (0) 4)),(34,(.vs tRe (t.2.1.1) (t.2.1.2))),(36,(pP 2 0)),(37,(lmork24 x)),(38,(.sl 5 0 (1) (1) 4)),(40,(lmork4 s)),(41,(lmork5 t)),(44,(.bool false)),(46,(lmork7 s t)),(47,(lmork4 s)),(48,(lmork5 t)),(49,(.vs tRe (t.2.1.1) (t.2.1.2))),(50,(lmork7 s t)),(51,(lmork27 s t)),(52,(lmork23 s t)),(53,(lmork25 s t)),(55,(lmork4 s)),(56,(lmork5 t)),(95,(.bool false)),(96,(lmork8 s t)),(97,(lmork4 s)),(98,(lmork5 t)),(99,(.vs tRe (t.2.1.1) (t.2.1.2))),(100,(lmork8 s t)),(101,(lmork28 s t)),(102,(lmork17 s t)),(103,(lmork26 s t)),(105,(lmork4 s)),(106,(lmork5 t)),(131,(.bool false)),(9,(.sl 7 0 (0+t.2.1.2.length+1) (0+t.2.1.2.length+1) 4)),(10,(pP 8 0)),(11,(pP 9 0)),(13,(pP 10 0)),(14,(pP 11 0)),(15,(lmork10 s t x)),(16,(pP 12 0)),(19,(pP 13 0)),(20,(lmork6 s t x)),(21,(lmork11 s t x)),(35,(.sl 6 0 (0+t.2.1.2.length) (0+t.2.1.2.length) 4)),(39,(.sl 7 0 (0+t.2.1.2.length+1) (0+t.2.1.2.length+1) 4)),(42,(.sl 7 0 (0+t.2.1.2.length+1) (0+t.2.1.2.length+1) 4)),(43,(.bool (okN s t.1 (nN t x)))),(54,(lmork0 s t x)),(57,(.sl 7 0 (0+t.2.1.2.length+1) (0+t.2.1.2.length+1) 4)),(58,(lmork0 s t x)),(59,(lmork15 s t x)),(60,(lmork14 s t x)),(61,(lmork10 s t x)),(62,(lmork10 s t x)),(63,(.bool (ieq (clrQ s t.1 (nN t x)).2.2.2.2 0))),(104,(lmork1 s t x)),(107,(.sl 7 0 (0+t.2.1.2.length+1) (0+t.2.1.2.length+1) 4)),(108,(lmork1 s t x)),(109,(lmork16 s t x)),(110,(lmork6 s t x)),(111,(lmork11 s t x)),(112,(lmork11 s t x)),(113,(.bool (ieq (wndQ s t.1 (nN t x)).2.2.2 0)))]
noncomputable def lmorg6:List (Nat×AV):=[(64,(.bool false)),(65,(.tup [])),(66,(.tup [])),(67,(.tup [])),(68,(.tup [])),(69,(.tup [])),(70,(.tup [])),(71,(.tup [])),(72,(.tup [])),(73,(.tup [])),(74,(.tup [])),(75,(.tup [])),(76,(.tup [])),(77,(.tup [])),(78,(.tup [])),(79,(.tup [])),(80,(.tup [])),(81,(.tup [])),(82,(.tup [])),(83,(.tup [])),(84,(.tup [])),(85,(.tup [])),(86,(.tup [])),(87,(.tup [])),(88,(.tup [])),(89,(.tup [])),(90,(.tup [])),(91,(.tup [])),(92,(.tup [])),(93,(.tup [])),(94,(.tup []))]
noncomputable def lmorg7:List (Nat×AV):=[(114,(.bool false)),(115,(.tup [])),(116,(.tup [])),(117,(.tup [])),(118,(.tup [])),(119,(.tup [])),(120,(.tup [])),(121,(.tup [])),(122,(.tup [])),(123,(.tup [])),(124,(.tup [])),(125,(.tup [])),(126,(.tup [])),(127,(.tup [])),(128,(.tup [])),(129,(.tup [])),(130,(.tup []))]
noncomputable def lmorI0 (s:tSt.den) (t:tTd.den) (x:tFu.den) (x32:Int) (x416:Nat):Cfg:=⟨.ex (lmork47) ⟨(tmOf 202 (lmorg0 s t x++lmorg6++lmorg7++[(22,(iI x32))])),(lmorQ0 s t x),[],[],202,false⟩,⟨40,[]⟩,[(.lop (lmork47) 14 (tmOf 202 (lmorg0 s t x++lmorg6++lmorg7++[(22,(iI 0))])) x416),(.blk 0),(lmork55),(.cal [(.tmp 6)] .top)]⟩
noncomputable def lmorg4 (s:tSt.den) (t:tTd.den) (x:tFu.den):List (Nat×AV):=[(114,(.bool true)),(115,(lmork26 s t)),(116,(.bool (!ieq (wndQ s t.1 t.2.1.2).2.2.2 0))),(117,(.bool false)),(121,(iI ((wndQ s t.1 t.2.1.2).1))),(124,(.bool false)),(128,(iI ((wndQ s t.1 t.2.1.2).2.1))),(118,(pP 13 0)),(119,(lmork34 s t x)),(120,(pP 12 0)),(122,(.bool (!ile (wndQ s t.1 t.2.1.2).1 (wndQ s t.1 (nN t x)).1))),(123,(.bool (!ile (wndQ s t.1 t.2.1.2).1 (wndQ s t.1 (nN t x)).1))),(125,(pP 13 1)),(126,(lmork32 s t x)),(127,(pP 12 1)),(129,(.bool (!ile (wndQ s t.1 (nN t x)).2.1 (wndQ s t.1 t.2.1.2).2.1))),(130,(.bool (!ile (wndQ s t.1 (nN t x)).2.1 (wndQ s t.1 t.2.1.2).2.1)))]
noncomputable def lmorI1 (s:tSt.den) (t:tTd.den) (x:tFu.den) (x32:Int) (x440:Nat):Cfg:=⟨.ex (lmork47) ⟨(tmOf 202 (lmorg0 s t x++lmorg6++lmorg4 s t x++[(22,(iI x32))])),(lmorQ0 s t x),[],[],202,false⟩,⟨40,[]⟩,[(.lop (lmork47) 14 (tmOf 202 (lmorg0 s t x++lmorg6++lmorg4 s t x++[(22,(iI 0))])) x440),(.blk 0),(lmork55),(.cal [(.tmp 6)] .top)]⟩
noncomputable def lmorg2 (s:tSt.den) (t:tTd.den) (x:tFu.den):List (Nat×AV):=[(64,(.bool true)),(65,(lmork25 s t)),(66,(.bool (!ieq (clrQ s t.1 t.2.1.2).2.2.2.2 0))),(67,(.bool false)),(71,(iI ((clrQ s t.1 t.2.1.2).1))),(74,(.bool false)),(78,(iI ((clrQ s t.1 t.2.1.2).2.1))),(81,(.bool false)),(85,(lmork46 s t)),(88,(.bool false)),(92,(lmork45 s t)),(68,(pP 10 0)),(69,(lmork33 s t x)),(70,(pP 8 0)),(72,(.bool (!ile (clrQ s t.1 t.2.1.2).1 (clrQ s t.1 (nN t x)).1))),(73,(.bool (!ile (clrQ s t.1 t.2.1.2).1 (clrQ s t.1 (nN t x)).1))),(75,(pP 10 1)),(76,(lmork31 s t x)),(77,(pP 8 1)),(79,(.bool (!ile (clrQ s t.1 (nN t x)).2.1 (clrQ s t.1 t.2.1.2).2.1))),(80,(.bool (!ile (clrQ s t.1 (nN t x)).2.1 (clrQ s t.1 t.2.1.2).2.1))),(82,(pP 11 0)),(83,(lmork30 s t x)),(84,(pP 9 0)),(86,(.bool (!ile (clrQ s t.1 t.2.1.2).2.2.1 (clrQ s t.1 (nN t x)).2.2.1))),(87,(.bool (!ile (clrQ s t.1 t.2.1.2).2.2.1 (clrQ s t.1 (nN t x)).2.2.1))),(89,(pP 11 1)),(90,(lmork29 s t x)),(91,(pP 9 1)),(93,(.bool (!ile (clrQ s t.1 (nN t x)).2.2.2.1 (clrQ s t.1 t.2.1.2).2.2.2.1))),(94,(.bool (!ile (clrQ s t.1 (nN t x)).2.2.2.1 (clrQ s t.1 t.2.1.2).2.2.2.1)))]
noncomputable def lmorI2 (s:tSt.den) (t:tTd.den) (x:tFu.den) (x32:Int) (x460:Nat):Cfg:=⟨.ex (lmork47) ⟨(tmOf 202 (lmorg0 s t x++lmorg2 s t x++lmorg7++[(22,(iI x32))])),(lmorQ0 s t x),[],[],202,false⟩,⟨40,[]⟩,[(.lop (lmork47) 14 (tmOf 202 (lmorg0 s t x++lmorg2 s t x++lmorg7++[(22,(iI 0))])) x460),(.blk 0),(lmork55),(.cal [(.tmp 6)] .top)]⟩
noncomputable def lmorI3 (s:tSt.den) (t:tTd.den) (x:tFu.den) (x32:Int) (x484:Nat):Cfg:=⟨.ex (lmork47) ⟨(tmOf 202 (lmorg0 s t x++lmorg2 s t x++lmorg4 s t x++[(22,(iI x32))])),(lmorQ0 s t x),[],[],202,false⟩,⟨40,[]⟩,[(.lop (lmork47) 14 (tmOf 202 (lmorg0 s t x++lmorg2 s t x++lmorg4 s t x++[(22,(iI 0))])) x484),(.blk 0),(lmork55),(.cal [(.tmp 6)] .top)]⟩
noncomputable def lmork59 (z0:tFu.den):AO:=(.cells true ([AV.int IntKind.i64 z0.1.1.1,AV.int IntKind.i64 z0.1.1.2.1,AV.bool z0.1.2.1,AV.bool z0.1.2.2.1]))
noncomputable def lmork40 (z0:tSt.den) (z1:tTd.den) (z2:tFu.den):AV:=(iI ((clrQ z0 z1.1 (nE z2)).1))
noncomputable def lmork38 (z0:tSt.den) (z1:tTd.den) (z2:tFu.den):AV:=(iI ((clrQ z0 z1.1 (nE z2)).2.1))
noncomputable def lmork37 (z0:tSt.den) (z1:tTd.den) (z2:tFu.den):AV:=(iI ((clrQ z0 z1.1 (nE z2)).2.2.1))
noncomputable def lmork35 (z0:tSt.den) (z1:tTd.den) (z2:tFu.den):AV:=(iI ((clrQ z0 z1.1 (nE z2)).2.2.2.1))
noncomputable def lmork41 (z0:tSt.den) (z1:tTd.den) (z2:tFu.den):AV:=(iI ((wndQ z0 z1.1 (nE z2)).1))
noncomputable def lmork39 (z0:tSt.den) (z1:tTd.den) (z2:tFu.den):AV:=(iI ((wndQ z0 z1.1 (nE z2)).2.1))
noncomputable def lmorg10 (s:tSt.den) (t:tTd.den) (x:tFu.den):List (Nat×AO):=[(0,(lmork51 s)),(1,(lmork49 t)),(2,(lmork50 x)),(3,(lmork52 t)),(4,.gone),(5,(lmork53 x)),(6,(lmork59 x)),(7,(lmork56 s t)),(8,(cF [(lmork46 s t),(lmork45 s t)])),(9,(cF [(lmork40 s t x),(lmork38 s t x)])),(10,(cF [(lmork37 s t x),(lmork35 s t x)])),(11,(lmork57 s t)),(12,(cF [(lmork41 s t x),(lmork39 s t x)]))]
noncomputable def lmorQ1 (s:tSt.den) (t:tTd.den) (x:tFu.den):Hp:=(hpOf 13 (lmorg10 s t x))
noncomputable def lmork12 (z0:tSt.den) (z1:tTd.den) (z2:tFu.den):AV:=(iI ((clrQ z0 z1.1 (nE z2)).2.2.2.2))
noncomputable def lmork9 (z0:tSt.den) (z1:tTd.den) (z2:tFu.den):AV:=(.vs tI ((wndQ z0 z1.1 (nE z2)).2.2.1.isEmpty) ((wndQ z0 z1.1 (nE z2)).2.2.1))
noncomputable def lmork13 (z0:tSt.den) (z1:tTd.den) (z2:tFu.den):AV:=(iI ((wndQ z0 z1.1 (nE z2)).2.2.2))
noncomputable def lmork19 (z0:tSt.den) (z1:tTd.den) (z2:tFu.den):AV:=(.agg [(lmork40 z0 z1 z2),(lmork38 z0 z1 z2)])
noncomputable def lmork18 (z0:tSt.den) (z1:tTd.den) (z2:tFu.den):AV:=(.agg [(lmork37 z0 z1 z2),(lmork35 z0 z1 z2)])
noncomputable def lmork2 (z0:tSt.den) (z1:tTd.den) (z2:tFu.den):AV:=(.tup [(lmork19 z0 z1 z2),(lmork18 z0 z1 z2),(lmork12 z0 z1 z2)])
noncomputable def lmork20 (z0:tSt.den) (z1:tTd.den) (z2:tFu.den):AV:=(.agg [(lmork41 z0 z1 z2),(lmork39 z0 z1 z2)])
noncomputable def lmork3 (z0:tSt.den) (z1:tTd.den) (z2:tFu.den):AV:=(.tup [(lmork20 z0 z1 z2),(lmork9 z0 z1 z2),(lmork13 z0 z1 z2)])
noncomputable def lmorg1 (s:tSt.den) (t:tTd.den) (x:tFu.den):List (Nat×AV):=[(0,(lmork4 s)),(1,(lmork21 t)),(2,(lmork22 x)),(3,(pP 0 0)),(4,(pP 1 0)),(5,(pP 2 0)),(6,(.bool false)),(7,(pP 3 0)),(8,(.vs tRe (t.2.1.1) (t.2.1.2))),(12,(lmork25 s t)),(17,(lmork17 s t)),(18,(lmork26 s t)),(29,(pP 1 0)),(30,(lmork5 t)),(31,(pP 1 5)),(32,(.vs tRe (t.2.1.1) (t.2.1.2))),(33,(.sl 4 0 (0) (0) 4)),(34,(.vs tRe (t.2.1.1) (t.2.1.2))),(36,(pP 2 0)),(37,(lmork24 x)),(38,(.sl 5 0 (1) (1) 4)),(40,(lmork4 s)),(41,(lmork5 t)),(44,(.bool false)),(46,(lmork7 s t)),(47,(lmork4 s)),(48,(lmork5 t)),(49,(.vs tRe (t.2.1.1) (t.2.1.2))),(50,(lmork7 s t)),(51,(lmork27 s t)),(52,(lmork23 s t)),(53,(lmork25 s t)),(55,(lmork4 s)),(56,(lmork5 t)),(95,(.bool false)),(96,(lmork8 s t)),(97,(lmork4 s)),(98,(lmork5 t)),(99,(.vs tRe (t.2.1.1) (t.2.1.2))),(100,(lmork8 s t)),(101,(lmork28 s t)),(102,(lmork17 s t)),(103,(lmork26 s t)),(105,(lmork4 s)),(106,(lmork5 t)),(131,(.bool false)),(9,(.sl 6 0 (1) (1) 4)),(10,(pP 7 0)),(11,(pP 8 0)),(13,(pP 9 0)),(14,(pP 10 0)),(15,(lmork12 s t x)),(16,(pP 11 0)),(19,(pP 12 0)),(20,(lmork9 s t x)),(21,(lmork13 s t x)),(35,(.sl 4 0 (0) (0) 4)),(39,(.sl 6 0 (1) (1) 4)),(42,(.sl 6 0 (1) (1) 4)),(43,(.bool (okN s t.1 (nE x)))),(54,(lmork2 s t x)),(57,(.sl 6 0 (1) (1) 4)),(58,(lmork2 s t x)),(59,(lmork19 s t x)),(60,(lmork18 s t x)),(61,(lmork12 s t x)),(62,(lmork12 s t x)),(63,(.bool (ieq (clrQ s t.1 (nE x)).2.2.2.2 0))),(104,(lmork3 s t x)),(107,(.sl 6 0 (1) (1) 4)),(108,(lmork3 s t x)),(109,(lmork20 s t x)),(110,(lmork9 s t x)),(111,(lmork13 s t x)),(112,(lmork13 s t x)),(113,(.bool (ieq (wndQ s t.1 (nE x)).2.2.2 0)))]
noncomputable def lmorI4 (s:tSt.den) (t:tTd.den) (x:tFu.den) (x32:Int) (x416:Nat):Cfg:=⟨.ex (lmork47) ⟨(tmOf 202 (lmorg1 s t x++lmorg6++lmorg7++[(22,(iI x32))])),(lmorQ1 s t x),[],[],202,false⟩,⟨40,[]⟩,[(.lop (lmork47) 13 (tmOf 202 (lmorg1 s t x++lmorg6++lmorg7++[(22,(iI 0))])) x416),(.blk 0),(lmork55),(.cal [(.tmp 6)] .top)]⟩
noncomputable def lmorg5 (s:tSt.den) (t:tTd.den) (x:tFu.den):List (Nat×AV):=[(114,(.bool true)),(115,(lmork26 s t)),(116,(.bool (!ieq (wndQ s t.1 t.2.1.2).2.2.2 0))),(117,(.bool false)),(121,(iI ((wndQ s t.1 t.2.1.2).1))),(124,(.bool false)),(128,(iI ((wndQ s t.1 t.2.1.2).2.1))),(118,(pP 12 0)),(119,(lmork41 s t x)),(120,(pP 11 0)),(122,(.bool (!ile (wndQ s t.1 t.2.1.2).1 (wndQ s t.1 (nE x)).1))),(123,(.bool (!ile (wndQ s t.1 t.2.1.2).1 (wndQ s t.1 (nE x)).1))),(125,(pP 12 1)),(126,(lmork39 s t x)),(127,(pP 11 1)),(129,(.bool (!ile (wndQ s t.1 (nE x)).2.1 (wndQ s t.1 t.2.1.2).2.1))),(130,(.bool (!ile (wndQ s t.1 (nE x)).2.1 (wndQ s t.1 t.2.1.2).2.1)))]
noncomputable def lmorI5 (s:tSt.den) (t:tTd.den) (x:tFu.den) (x32:Int) (x440:Nat):Cfg:=⟨.ex (lmork47) ⟨(tmOf 202 (lmorg1 s t x++lmorg6++lmorg5 s t x++[(22,(iI x32))])),(lmorQ1 s t x),[],[],202,false⟩,⟨40,[]⟩,[(.lop (lmork47) 13 (tmOf 202 (lmorg1 s t x++lmorg6++lmorg5 s t x++[(22,(iI 0))])) x440),(.blk 0),(lmork55),(.cal [(.tmp 6)] .top)]⟩
noncomputable def lmorg3 (s:tSt.den) (t:tTd.den) (x:tFu.den):List (Nat×AV):=[(64,(.bool true)),(65,(lmork25 s t)),(66,(.bool (!ieq (clrQ s t.1 t.2.1.2).2.2.2.2 0))),(67,(.bool false)),(71,(iI ((clrQ s t.1 t.2.1.2).1))),(74,(.bool false)),(78,(iI ((clrQ s t.1 t.2.1.2).2.1))),(81,(.bool false)),(85,(lmork46 s t)),(88,(.bool false)),(92,(lmork45 s t)),(68,(pP 9 0)),(69,(lmork40 s t x)),(70,(pP 7 0)),(72,(.bool (!ile (clrQ s t.1 t.2.1.2).1 (clrQ s t.1 (nE x)).1))),(73,(.bool (!ile (clrQ s t.1 t.2.1.2).1 (clrQ s t.1 (nE x)).1))),(75,(pP 9 1)),(76,(lmork38 s t x)),(77,(pP 7 1)),(79,(.bool (!ile (clrQ s t.1 (nE x)).2.1 (clrQ s t.1 t.2.1.2).2.1))),(80,(.bool (!ile (clrQ s t.1 (nE x)).2.1 (clrQ s t.1 t.2.1.2).2.1))),(82,(pP 10 0)),(83,(lmork37 s t x)),(84,(pP 8 0)),(86,(.bool (!ile (clrQ s t.1 t.2.1.2).2.2.1 (clrQ s t.1 (nE x)).2.2.1))),(87,(.bool (!ile (clrQ s t.1 t.2.1.2).2.2.1 (clrQ s t.1 (nE x)).2.2.1))),(89,(pP 10 1)),(90,(lmork35 s t x)),(91,(pP 8 1)),(93,(.bool (!ile (clrQ s t.1 (nE x)).2.2.2.1 (clrQ s t.1 t.2.1.2).2.2.2.1))),(94,(.bool (!ile (clrQ s t.1 (nE x)).2.2.2.1 (clrQ s t.1 t.2.1.2).2.2.2.1)))]
noncomputable def lmorI6 (s:tSt.den) (t:tTd.den) (x:tFu.den) (x32:Int) (x460:Nat):Cfg:=⟨.ex (lmork47) ⟨(tmOf 202 (lmorg1 s t x++lmorg3 s t x++lmorg7++[(22,(iI x32))])),(lmorQ1 s t x),[],[],202,false⟩,⟨40,[]⟩,[(.lop (lmork47) 13 (tmOf 202 (lmorg1 s t x++lmorg3 s t x++lmorg7++[(22,(iI 0))])) x460),(.blk 0),(lmork55),(.cal [(.tmp 6)] .top)]⟩
noncomputable def lmorI7 (s:tSt.den) (t:tTd.den) (x:tFu.den) (x32:Int) (x484:Nat):Cfg:=⟨.ex (lmork47) ⟨(tmOf 202 (lmorg1 s t x++lmorg3 s t x++lmorg5 s t x++[(22,(iI x32))])),(lmorQ1 s t x),[],[],202,false⟩,⟨40,[]⟩,[(.lop (lmork47) 13 (tmOf 202 (lmorg1 s t x++lmorg3 s t x++lmorg5 s t x++[(22,(iI 0))])) x484),(.blk 0),(lmork55),(.cal [(.tmp 6)] .top)]⟩
noncomputable def lmorQ2 (s:tSt.den) (t:tTd.den) (x:tFu.den):Hp:=(hpOf 15 (lmorg9 s t x++[(14,(cF [(iI (spF t.1.1.1 x.2.1.1)),(iI (spF t.1.1.2.1 x.2.1.2.1))]))]))
noncomputable def lmork44:PC:=(pcOf H9 3 [0,0,1,0,1,1,1,1,1,1,1,1,1,1,1,1])
noncomputable def lmork36 (z0:tSt.den) (z1:tTd.den) (z2:tFu.den):AV:=(iI (Int.ofNat (wndQ z0 z1.1 (nN z1 z2)).2.2.1.length))
noncomputable def lmork48 (z0:tTd.den):AV:=(.agg [(iI (z0.1.1.1)),(iI (z0.1.1.2.1))])
noncomputable def lmork43 (z0:tTd.den) (z1:tFu.den):AV:=(.agg [(iI (spF z0.1.1.1 z1.2.1.1)),(iI (spF z0.1.1.2.1 z1.2.1.2.1))])
noncomputable def lmork54:Fm:=(.seq (pcOf H9 3 [1,1,1,1,1,1,1,1,1,1,1,1,1]))
noncomputable def lmorg8 (x32:Int) (t:tTd.den) (x:tFu.den):List (Nat×AV):=[(22,(iI x32)),(132,(iI x32)),(135,(.bool false)),(145,(pP 3 0)),(146,(lmork48 t)),(147,(pP 2 4)),(148,(pP 2 4)),(149,(.int .u16 (x.2.1.1))),(150,(pP 2 4)),(151,(pP 2 5)),(152,(.int .u16 (x.2.1.2.1))),(153,(lmork43 t x))]
noncomputable def lmorg12 (s:tSt.den) (t:tTd.den) (x:tFu.den):List (Nat×AV):=[(23,(pP 14 0)),(133,(lmork6 s t x)),(134,(lmork36 s t x))]
noncomputable def lmorI8 (s:tSt.den) (t:tTd.den) (x:tFu.den) (x32:Int) (x33:Int) (x442:Nat):Cfg:=⟨.ex (lmork44) ⟨(tmOf 202 (lmorg0 s t x++lmorg8 x32 t x++lmorg12 s t x++lmorg6++lmorg7++[(24,(iI x33))])),(lmorQ2 s t x),[],[],202,false⟩,⟨40,[]⟩,[(.lop (lmork44) 15 (tmOf 202 (lmorg0 s t x++lmorg8 x32 t x++lmorg12 s t x++lmorg6++lmorg7++[(24,(iI 0))])) x442),(.blk 2),(lmork54),(.cal [(.tmp 6)] .top)]⟩
noncomputable def lmorI9 (s:tSt.den) (t:tTd.den) (x:tFu.den) (x32:Int) (x33:Int) (x466:Nat):Cfg:=⟨.ex (lmork44) ⟨(tmOf 202 (lmorg0 s t x++lmorg8 x32 t x++lmorg12 s t x++lmorg6++lmorg4 s t x++[(24,(iI x33))])),(lmorQ2 s t x),[],[],202,false⟩,⟨40,[]⟩,[(.lop (lmork44) 15 (tmOf 202 (lmorg0 s t x++lmorg8 x32 t x++lmorg12 s t x++lmorg6++lmorg4 s t x++[(24,(iI 0))])) x466),(.blk 2),(lmork54),(.cal [(.tmp 6)] .top)]⟩
noncomputable def lmorI10 (s:tSt.den) (t:tTd.den) (x:tFu.den) (x32:Int) (x33:Int) (x486:Nat):Cfg:=⟨.ex (lmork44) ⟨(tmOf 202 (lmorg0 s t x++lmorg8 x32 t x++lmorg12 s t x++lmorg2 s t x++lmorg7++[(24,(iI x33))])),(lmorQ2 s t x),[],[],202,false⟩,⟨40,[]⟩,[(.lop (lmork44) 15 (tmOf 202 (lmorg0 s t x++lmorg8 x32 t x++lmorg12 s t x++lmorg2 s t x++lmorg7++[(24,(iI 0))])) x486),(.blk 2),(lmork54),(.cal [(.tmp 6)] .top)]⟩
noncomputable def lmorI11 (s:tSt.den) (t:tTd.den) (x:tFu.den) (x32:Int) (x33:Int) (x510:Nat):Cfg:=⟨.ex (lmork44) ⟨(tmOf 202 (lmorg0 s t x++lmorg8 x32 t x++lmorg12 s t x++lmorg2 s t x++lmorg4 s t x++[(24,(iI x33))])),(lmorQ2 s t x),[],[],202,false⟩,⟨40,[]⟩,[(.lop (lmork44) 15 (tmOf 202 (lmorg0 s t x++lmorg8 x32 t x++lmorg12 s t x++lmorg2 s t x++lmorg4 s t x++[(24,(iI 0))])) x510),(.blk 2),(lmork54),(.cal [(.tmp 6)] .top)]⟩
noncomputable def lmorQ3 (s:tSt.den) (t:tTd.den) (x:tFu.den):Hp:=(hpOf 14 (lmorg10 s t x++[(13,(cF [(iI (spF t.1.1.1 x.2.1.1)),(iI (spF t.1.1.2.1 x.2.1.2.1))]))]))
noncomputable def lmork42 (z0:tSt.den) (z1:tTd.den) (z2:tFu.den):AV:=(iI (Int.ofNat (wndQ z0 z1.1 (nE z2)).2.2.1.length))
noncomputable def lmorg11 (s:tSt.den) (t:tTd.den) (x:tFu.den):List (Nat×AV):=[(23,(pP 13 0)),(133,(lmork9 s t x)),(134,(lmork42 s t x))]
noncomputable def lmorI12 (s:tSt.den) (t:tTd.den) (x:tFu.den) (x32:Int) (x33:Int) (x442:Nat):Cfg:=⟨.ex (lmork44) ⟨(tmOf 202 (lmorg1 s t x++lmorg8 x32 t x++lmorg11 s t x++lmorg6++lmorg7++[(24,(iI x33))])),(lmorQ3 s t x),[],[],202,false⟩,⟨40,[]⟩,[(.lop (lmork44) 14 (tmOf 202 (lmorg1 s t x++lmorg8 x32 t x++lmorg11 s t x++lmorg6++lmorg7++[(24,(iI 0))])) x442),(.blk 2),(lmork54),(.cal [(.tmp 6)] .top)]⟩
noncomputable def lmorI13 (s:tSt.den) (t:tTd.den) (x:tFu.den) (x32:Int) (x33:Int) (x466:Nat):Cfg:=⟨.ex (lmork44) ⟨(tmOf 202 (lmorg1 s t x++lmorg8 x32 t x++lmorg11 s t x++lmorg6++lmorg5 s t x++[(24,(iI x33))])),(lmorQ3 s t x),[],[],202,false⟩,⟨40,[]⟩,[(.lop (lmork44) 14 (tmOf 202 (lmorg1 s t x++lmorg8 x32 t x++lmorg11 s t x++lmorg6++lmorg5 s t x++[(24,(iI 0))])) x466),(.blk 2),(lmork54),(.cal [(.tmp 6)] .top)]⟩
noncomputable def lmorI14 (s:tSt.den) (t:tTd.den) (x:tFu.den) (x32:Int) (x33:Int) (x486:Nat):Cfg:=⟨.ex (lmork44) ⟨(tmOf 202 (lmorg1 s t x++lmorg8 x32 t x++lmorg11 s t x++lmorg3 s t x++lmorg7++[(24,(iI x33))])),(lmorQ3 s t x),[],[],202,false⟩,⟨40,[]⟩,[(.lop (lmork44) 14 (tmOf 202 (lmorg1 s t x++lmorg8 x32 t x++lmorg11 s t x++lmorg3 s t x++lmorg7++[(24,(iI 0))])) x486),(.blk 2),(lmork54),(.cal [(.tmp 6)] .top)]⟩
noncomputable def lmorI15 (s:tSt.den) (t:tTd.den) (x:tFu.den) (x32:Int) (x33:Int) (x510:Nat):Cfg:=⟨.ex (lmork44) ⟨(tmOf 202 (lmorg1 s t x++lmorg8 x32 t x++lmorg11 s t x++lmorg3 s t x++lmorg5 s t x++[(24,(iI x33))])),(lmorQ3 s t x),[],[],202,false⟩,⟨40,[]⟩,[(.lop (lmork44) 14 (tmOf 202 (lmorg1 s t x++lmorg8 x32 t x++lmorg11 s t x++lmorg3 s t x++lmorg5 s t x++[(24,(iI 0))])) x510),(.blk 2),(lmork54),(.cal [(.tmp 6)] .top)]⟩
theorem lmor_start (s:tSt.den) (t:tTd.den) (x:tFu.den):adv H9 (Y9 [3]) 20000 (startC H9 3 [tSt.av s,tTd.av t,tFu.av x] 40)=(sB t.2.1.1 (sV tRe t.2.1.2 (sB t.2.1.1 (sV tRe t.2.1.2 (sI t.1.1.1 (sI t.1.1.2.1 (sI t.1.2.1 (sI t.1.2.2.1 (sI t.1.2.2.2.1 (bif gM t then (bif t.2.1.2.length.beq 0 then (sI x.1.1.1 (sI x.1.1.2.1 (sB x.1.2.1 (sB x.1.2.2.1 (sI x.1.1.1 (sI x.1.1.2.1 (sB x.1.2.1 (sB x.1.2.2.1 (tlM s t (nE x) true true (lmorI7 s t x 0 1048575) (lmorI6 s t x 0 1048575) (lmorI5 s t x 0 1048575) (lmorI4 s t x 0 1048575)))))))))) else (bif lM t then (bif (0+t.2.1.2.length).ble 1048576 then (sI x.1.1.1 (sI x.1.1.2.1 (sB x.1.2.1 (sB x.1.2.2.1 (sI x.1.1.1 (sI x.1.1.2.1 (sB x.1.2.1 (sB x.1.2.2.1 (bif pM t x then (bif fM t x then (tlM s t (nN t x) (pM t x) (fM t x) (lmorI3 s t x 0 1048575) (lmorI2 s t x 0 1048575) (lmorI1 s t x 0 1048575) (lmorI0 s t x 0 1048575)) else none) else none))))))))) else none) else none)) else none)))))))))):=by kernel_rfl
theorem lmor_step0 (s:tSt.den) (t:tTd.den) (x:tFu.den) (a:Int) (f:Nat):adv H9 (Y9 [3]) 20000 (lmorI0 s t x a (f+1))=stA (wndQ s t.1 t.2.1.2).2.2.1 (wndQ s t.1 (nN t x)).2.2.1 (oM t x) a (some (.stop (lmorI0 s t x (wr .i64 (a+1)) f))) (some (.stop (lmorI8 s t x a 0 1048575))):=by kernel_rfl
theorem lmor_step1 (s:tSt.den) (t:tTd.den) (x:tFu.den) (a:Int) (f:Nat):adv H9 (Y9 [3]) 20000 (lmorI1 s t x a (f+1))=stA (wndQ s t.1 t.2.1.2).2.2.1 (wndQ s t.1 (nN t x)).2.2.1 (oM t x) a (some (.stop (lmorI1 s t x (wr .i64 (a+1)) f))) (some (.stop (lmorI9 s t x a 0 1048575))):=by kernel_rfl
theorem lmor_step2 (s:tSt.den) (t:tTd.den) (x:tFu.den) (a:Int) (f:Nat):adv H9 (Y9 [3]) 20000 (lmorI2 s t x a (f+1))=stA (wndQ s t.1 t.2.1.2).2.2.1 (wndQ s t.1 (nN t x)).2.2.1 (oM t x) a (some (.stop (lmorI2 s t x (wr .i64 (a+1)) f))) (some (.stop (lmorI10 s t x a 0 1048575))):=by kernel_rfl
theorem lmor_step3 (s:tSt.den) (t:tTd.den) (x:tFu.den) (a:Int) (f:Nat):adv H9 (Y9 [3]) 20000 (lmorI3 s t x a (f+1))=stA (wndQ s t.1 t.2.1.2).2.2.1 (wndQ s t.1 (nN t x)).2.2.1 (oM t x) a (some (.stop (lmorI3 s t x (wr .i64 (a+1)) f))) (some (.stop (lmorI11 s t x a 0 1048575))):=by kernel_rfl
theorem lmor_step4 (s:tSt.den) (t:tTd.den) (x:tFu.den) (a:Int) (f:Nat):adv H9 (Y9 [3]) 20000 (lmorI4 s t x a (f+1))=stA (wndQ s t.1 t.2.1.2).2.2.1 (wndQ s t.1 (nE x)).2.2.1 true a (some (.stop (lmorI4 s t x (wr .i64 (a+1)) f))) (some (.stop (lmorI12 s t x a 0 1048575))):=by kernel_rfl
theorem lmor_step5 (s:tSt.den) (t:tTd.den) (x:tFu.den) (a:Int) (f:Nat):adv H9 (Y9 [3]) 20000 (lmorI5 s t x a (f+1))=stA (wndQ s t.1 t.2.1.2).2.2.1 (wndQ s t.1 (nE x)).2.2.1 true a (some (.stop (lmorI5 s t x (wr .i64 (a+1)) f))) (some (.stop (lmorI13 s t x a 0 1048575))):=by kernel_rfl
theorem lmor_step6 (s:tSt.den) (t:tTd.den) (x:tFu.den) (a:Int) (f:Nat):adv H9 (Y9 [3]) 20000 (lmorI6 s t x a (f+1))=stA (wndQ s t.1 t.2.1.2).2.2.1 (wndQ s t.1 (nE x)).2.2.1 true a (some (.stop (lmorI6 s t x (wr .i64 (a+1)) f))) (some (.stop (lmorI14 s t x a 0 1048575))):=by kernel_rfl
theorem lmor_step7 (s:tSt.den) (t:tTd.den) (x:tFu.den) (a:Int) (f:Nat):adv H9 (Y9 [3]) 20000 (lmorI7 s t x a (f+1))=stA (wndQ s t.1 t.2.1.2).2.2.1 (wndQ s t.1 (nE x)).2.2.1 true a (some (.stop (lmorI7 s t x (wr .i64 (a+1)) f))) (some (.stop (lmorI15 s t x a 0 1048575))):=by kernel_rfl
theorem lmor_step8 (s:tSt.den) (t:tTd.den) (x:tFu.den) (a b:Int) (f:Nat):adv H9 (Y9 [3]) 20000 (lmorI8 s t x a b (f+1))=stB b (pM t x) (fM t x) (oM t x) (qM s t x (nN t x) b) (qM s t x t.2.1.2 b) (some (.stop (lmorI8 s t x a (wr .i64 (b+1)) f))):=by kernel_rfl
theorem lmor_step9 (s:tSt.den) (t:tTd.den) (x:tFu.den) (a b:Int) (f:Nat):adv H9 (Y9 [3]) 20000 (lmorI9 s t x a b (f+1))=stB b (pM t x) (fM t x) (oM t x) (qM s t x (nN t x) b) (qM s t x t.2.1.2 b) (some (.stop (lmorI9 s t x a (wr .i64 (b+1)) f))):=by kernel_rfl
theorem lmor_step10 (s:tSt.den) (t:tTd.den) (x:tFu.den) (a b:Int) (f:Nat):adv H9 (Y9 [3]) 20000 (lmorI10 s t x a b (f+1))=stB b (pM t x) (fM t x) (oM t x) (qM s t x (nN t x) b) (qM s t x t.2.1.2 b) (some (.stop (lmorI10 s t x a (wr .i64 (b+1)) f))):=by kernel_rfl
theorem lmor_step11 (s:tSt.den) (t:tTd.den) (x:tFu.den) (a b:Int) (f:Nat):adv H9 (Y9 [3]) 20000 (lmorI11 s t x a b (f+1))=stB b (pM t x) (fM t x) (oM t x) (qM s t x (nN t x) b) (qM s t x t.2.1.2 b) (some (.stop (lmorI11 s t x a (wr .i64 (b+1)) f))):=by kernel_rfl
theorem lmor_step12 (s:tSt.den) (t:tTd.den) (x:tFu.den) (a b:Int) (f:Nat):adv H9 (Y9 [3]) 20000 (lmorI12 s t x a b (f+1))=stB b true true true (qM s t x (nE x) b) (qM s t x t.2.1.2 b) (some (.stop (lmorI12 s t x a (wr .i64 (b+1)) f))):=by kernel_rfl
theorem lmor_step13 (s:tSt.den) (t:tTd.den) (x:tFu.den) (a b:Int) (f:Nat):adv H9 (Y9 [3]) 20000 (lmorI13 s t x a b (f+1))=stB b true true true (qM s t x (nE x) b) (qM s t x t.2.1.2 b) (some (.stop (lmorI13 s t x a (wr .i64 (b+1)) f))):=by kernel_rfl
theorem lmor_step14 (s:tSt.den) (t:tTd.den) (x:tFu.den) (a b:Int) (f:Nat):adv H9 (Y9 [3]) 20000 (lmorI14 s t x a b (f+1))=stB b true true true (qM s t x (nE x) b) (qM s t x t.2.1.2 b) (some (.stop (lmorI14 s t x a (wr .i64 (b+1)) f))):=by kernel_rfl
theorem lmor_step15 (s:tSt.den) (t:tTd.den) (x:tFu.den) (a b:Int) (f:Nat):adv H9 (Y9 [3]) 20000 (lmorI15 s t x a b (f+1))=stB b true true true (qM s t x (nE x) b) (qM s t x t.2.1.2 b) (some (.stop (lmorI15 s t x a (wr .i64 (b+1)) f))):=by kernel_rfl
end Go.Proofs.YtppcdepecdemnaaGreatDoor


set_option maxRecDepth 100000
namespace Go.Proofs.YtppcdepecdemnaaGreatDoor
open Go Go.Eng
noncomputable def mt3 (t:Int×Int×Bool) (n:Int):Int×Int×Bool:=(mtL t n,mtH t n,true)
theorem mt3_fold:∀ (L:List Int) (t:Int×Int×Bool),t.2.2=true→(L.foldl mt3 t).1≤t.1∧t.2.1≤(L.foldl mt3 t).2.1∧(∀ n∈L,(L.foldl mt3 t).1≤n∧n≤(L.foldl mt3 t).2.1)∧((L.foldl mt3 t).1=t.1∨(L.foldl mt3 t).1∈L)∧((L.foldl mt3 t).2.1=t.2.1∨(L.foldl mt3 t).2.1∈L)
 |[],t,_=>⟨Int.le_refl _,Int.le_refl _,(fun _ h=>by cases h),.inl rfl,.inl rfl⟩
 | n :: L, t, ht => by
  obtain⟨h1,h2,h3,h4,h5⟩:=mt3_fold L (mt3 t n) rfl
  have a1:(mt3 t n).1≤t.1∧(mt3 t n).1≤n∧((mt3 t n).1=t.1∨(mt3 t n).1=n):=by
   show mtL t n≤_∧mtL t n≤_∧(mtL t n=_∨mtL t n=_)
   unfold mtL
   rw[ht,cond_true]
   cases c:ile t.1 n with
   |true=>rw[cond_true];rw[ile_iff] at c;have:=of_decide_eq_true c;omega
   |false=>rw[cond_false];rw[ile_iff] at c;have:=of_decide_eq_false c;omega
  have a2:t.2.1≤(mt3 t n).2.1∧n≤(mt3 t n).2.1∧((mt3 t n).2.1=t.2.1∨(mt3 t n).2.1=n):=by
   show _≤mtH t n∧_≤mtH t n∧(mtH t n=_∨mtH t n=_)
   unfold mtH
   rw[ht,cond_true]
   cases c:ile n t.2.1 with
   |true=>rw[cond_true];rw[ile_iff] at c;have:=of_decide_eq_true c;omega
   |false=>rw[cond_false];rw[ile_iff] at c;have:=of_decide_eq_false c;omega
  rw[List.foldl_cons]
  refine⟨by omega,by omega,fun m hm=>?_,?_,?_⟩
  · rcases List.mem_cons.1 hm with e | e
    · subst e;omega
    · exact h3 m e
  · rcases h4 with e | e
    · rcases a1.2.2 with e' | e'
      · exact .inl (e.trans e')
      · exact .inr (by rw[e,e'];exact List.mem_cons_self)
    · exact .inr (List.mem_cons_of_mem _ e)
  · rcases h5 with e | e
    · rcases a2.2.2 with e' | e'
      · exact .inl (e.trans e')
      · exact .inr (by rw[e,e'];exact List.mem_cons_self)
    · exact .inr (List.mem_cons_of_mem _ e)
theorem mt3_all:∀ (L:List Int) (t:Int×Int×Bool),t.2.2=false→L≠[]→(∀ n∈L,(L.foldl mt3 t).1≤n∧n≤(L.foldl mt3 t).2.1)∧(L.foldl mt3 t).1∈L∧(L.foldl mt3 t).2.1∈L
 |[],_,_,h=>absurd rfl h
 | n :: L, t, ht, _ => by
  have e:mt3 t n=(n,n,true):=by
   unfold mt3 mtL mtH
   rw[ht,cond_false,cond_false];cases ile n n<;>rfl
  rw[List.foldl_cons,e]
  obtain⟨h1,h2,h3,h4,h5⟩:=mt3_fold L (n,n,true) rfl
  refine⟨fun m hm=>?_,?_,?_⟩
  · rcases List.mem_cons.1 hm with e | e
    · subst e;exact⟨h1,h2⟩
    · exact h3 m e
  · rcases h4 with e | e
    · rw[e];exact List.mem_cons_self
    · exact List.mem_cons_of_mem _ e
  · rcases h5 with e | e
    · rw[e];exact List.mem_cons_self
    · exact List.mem_cons_of_mem _ e
theorem mt3_sub {L M:List Int} {t:Int×Int×Bool} (ht:t.2.2=false) (hs:∀ n∈M,n∈L) (hM:M≠[]):(L.foldl mt3 t).1≤(M.foldl mt3 t).1∧(M.foldl mt3 t).2.1≤(L.foldl mt3 t).2.1:=by
 have hL:L≠[]:=fun e=>by
  subst e
  cases M with
  |nil=>exact hM rfl
  |cons m M=>exact absurd (hs m List.mem_cons_self) (by simp)
 obtain⟨h1,_,_⟩:=mt3_all L t ht hL
 obtain⟨_,h2,h3⟩:=mt3_all M t ht hM
 exact⟨(h1 _ (hs _ h2)).1,(h1 _ (hs _ h3)).2⟩
theorem mt6_fold:∀ (T:List tP.den) (t:En6),(T.foldl mt6 t).1=((T.map (·.1)).foldl mt3 (t.1,t.2.1,t.2.2.1)).1∧(T.foldl mt6 t).2.1=((T.map (·.1)).foldl mt3 (t.1,t.2.1,t.2.2.1)).2.1∧(T.foldl mt6 t).2.2.2.1=((T.map (·.2.1)).foldl mt3 t.2.2.2).1∧(T.foldl mt6 t).2.2.2.2.1=((T.map (·.2.1)).foldl mt3 t.2.2.2).2.1
 |[],_=>⟨rfl,rfl,rfl,rfl⟩
 |p::T,t=>mt6_fold T (mt6 t p)
theorem mtW_fold:∀ (T:List tP.den) (x:W3),(T.foldl mtW x).1=(T.map (·.1)).foldl mt3 x.1
 |[],_=>rfl
 |p::T,x=>mtW_fold T (mtW x p)
theorem okN_less {s:tSt.den} {n:tNi.den} {l:List tRe.den} {r:tRe.den} (h:okN s n (l++[r])=true):okN s n l=true:=by
 have hN:=nig_ok h
 have h8:=hN.len
 have hl:repB l=true:=by
  have:=hN.reps
  unfold repB at this⊢
  rw[List.all_append,Bool.and_eq_true] at this
  exact this.1
 unfold okN at h⊢
 unfold cknS at h⊢
 cases c:ieq (staS s).2.2 0 with
 |false=>rw[c,cond_false] at h;rw[c] at h;cases h
 | true =>
  rw[c,cond_true] at h
  rw[cond_true]
  cases c1:(ile 0 n.2.1&&ile n.2.1 ((s.1.2.length:Int)-1)) with
  |false=>rw[c1,cond_false] at h;exact absurd (ieq_t h) (show ¬ (4:Int)=0 by decide)
  | true =>
   rw[c1,cond_true] at h
   rw[cond_true]
   cases c2:nigB n with
   |false=>rw[c2,cond_false] at h;exact absurd (ieq_t h) (show ¬ (7:Int)=0 by decide)
   |true=>
    have:l.length≤8:=by rw[List.length_append] at h8;omega
    rw[cond_true,ile_t (show ((l.length:Nat):Int)≤8 by omega),cond_true,repS_all _ _ hl];rfl
theorem trT_sub {s:tSt.den} {n:tNi.den} {l:List tRe.den} {r:tRe.den} {h:Bool}:∀ p∈trT s n (l++[r]) h,p∈trT s n l h:=fun p hp=>by
 rw[trT_more] at hp;exact (List.mem_filter.1 hp).1
theorem ne_of_err {T:List tP.den} (h:ieq (bif T.isEmpty then 9 else 0) 0=true):T≠[]:=fun e=>by subst e;exact absurd (ieq_t h) (by decide)
theorem err0 {T:List tP.den} (h:T≠[]):ieq (bif T.isEmpty then 9 else 0) 0=true:=by
 cases T with
 |nil=>exact absurd rfl h
 |cons p T=>rfl
theorem ne_sub {L M:List tP.den} (hs:∀ n∈M,n∈L) (hM:M≠[]):L≠[]:=fun e=>by
 subst e
 cases M with
 |nil=>exact hM rfl
 |cons m M=>exact absurd (hs m List.mem_cons_self) (by simp)
theorem map_ne {L:List tP.den} {f:tP.den→Int} (h:L≠[]):L.map f≠[]:=fun e=>h (List.map_eq_nil_iff.1 e)
theorem map_sub {L M:List tP.den} {f:tP.den→Int} (hs:∀ n∈M,n∈L):∀ n∈M.map f,n∈L.map f:=fun n hn=>by
 obtain⟨m,hm,e⟩:=List.mem_map.1 hn
 exact List.mem_map.2 ⟨m,hs m hm,e⟩
theorem clr_sub {s:tSt.den} {n:tNi.den} {l:List tRe.den} {r:tRe.den} (ho:okN s n (l++[r])=true) (he:ieq (clrQ s n (l++[r])).2.2.2.2 0=true) :
  ieq (clrQ s n l).2.2.2.2 0=true∧ile (clrQ s n l).1 (clrQ s n (l++[r])).1=true∧ile (clrQ s n (l++[r])).2.1 (clrQ s n l).2.1=true∧ile (clrQ s n l).2.2.1 (clrQ s n (l++[r])).2.2.1=true∧ile (clrQ s n (l++[r])).2.2.2.1 (clrQ s n l).2.2.2.1=true:=by
 have hl:=okN_less ho
 rw[clr_err ho] at he
 have hM:=ne_of_err he
 have hs:=trT_sub (s:=s) (n:=n) (l:=l) (r:=r) (h:=false)
 have hL:=ne_sub hs hM
 refine⟨by rw[clr_err hl];exact err0 hL,?_⟩
 unfold clrQ
 rw[show ieq (cknS s n l).2 0=true from hl,show ieq (cknS s n (l++[r])).2 0=true from ho,cond_true,cond_true]
 show ile ((trT s n l false).foldl mt6 (0,0,false,0,0,false)).1 ((trT s n (l++[r]) false).foldl mt6 (0,0,false,0,0,false)).1=true∧ile ((trT s n (l++[r]) false).foldl mt6 (0,0,false,0,0,false)).2.1 ((trT s n l false).foldl mt6 (0,0,false,0,0,false)).2.1=true∧ile ((trT s n l false).foldl mt6 (0,0,false,0,0,false)).2.2.2.1 ((trT s n (l++[r]) false).foldl mt6 (0,0,false,0,0,false)).2.2.2.1=true∧ile ((trT s n (l++[r]) false).foldl mt6 (0,0,false,0,0,false)).2.2.2.2.1 ((trT s n l false).foldl mt6 (0,0,false,0,0,false)).2.2.2.2.1=true
 obtain⟨a1,a2,a3,a4⟩:=mt6_fold (trT s n l false) (0,0,false,0,0,false)
 obtain⟨b1,b2,b3,b4⟩:=mt6_fold (trT s n (l++[r]) false) (0,0,false,0,0,false)
 rw[a1,a2,a3,a4,b1,b2,b3,b4]
 have u:=mt3_sub (t:=(0,0,false)) rfl (map_sub (f:=(·.1)) hs) (map_ne hM)
 have v:=mt3_sub (t:=(0,0,false)) rfl (map_sub (f:=(·.2.1)) hs) (map_ne hM)
 exact⟨ile_t u.1,ile_t u.2,ile_t v.1,ile_t v.2⟩
theorem wnd_sub {s:tSt.den} {n:tNi.den} {l:List tRe.den} {r:tRe.den} (ho:okN s n (l++[r])=true) (he:ieq (wndQ s n (l++[r])).2.2.2 0=true) :
  ieq (wndQ s n l).2.2.2 0=true∧ile (wndQ s n l).1 (wndQ s n (l++[r])).1=true∧ile (wndQ s n (l++[r])).2.1 (wndQ s n l).2.1=true:=by
 have hl:=okN_less ho
 rw[wnd_err ho] at he
 have hM:=ne_of_err he
 have hs:=trT_sub (s:=s) (n:=n) (l:=l) (r:=r) (h:=true)
 have hL:=ne_sub hs hM
 refine⟨by rw[wnd_err hl];exact err0 hL,?_⟩
 unfold wndQ
 rw[show ieq (cknS s n l).2 0=true from hl,show ieq (cknS s n (l++[r])).2 0=true from ho,cond_true,cond_true]
 show ile ((trT s n l true).foldl mtW wnd0).1.1 ((trT s n (l++[r]) true).foldl mtW wnd0).1.1=true∧ile ((trT s n (l++[r]) true).foldl mtW wnd0).1.2.1 ((trT s n l true).foldl mtW wnd0).1.2.1=true
 rw[mtW_fold,mtW_fold]
 have u:=mt3_sub (t:=wnd0.1) rfl (map_sub (f:=(·.1)) hs) (map_ne hM)
 exact⟨ile_t u.1,ile_t u.2⟩
theorem outG_mem (B:List Bool) (a:Int):∀ (r k:Nat),a∈outG B k r↔∃ j,k≤j∧j<k+r∧B.getD j false=true∧a=(j:Int)
 |0,k=>⟨fun h=>(by cases h),fun ⟨j,h1,h2,_⟩=>by omega⟩
 | r + 1, k => by
  have ih:=outG_mem B a r (k+1)
  rw[outG]
  cases c:B.getD k false with
  |false=>
   rw[cond_false,ih]
   exact⟨fun ⟨j,h1,h2,h3,h4⟩=>⟨j,by omega,by omega,h3,h4⟩,fun ⟨j,h1,h2,h3,h4⟩=>⟨j,Nat.lt_of_le_of_ne h1 (fun e=>by subst e;rw[c] at h3;cases h3),by omega,h3,h4⟩⟩
  |true=>
   rw[cond_true,List.mem_cons,ih]
   constructor
   · rintro (e | ⟨j, h1, h2, h3, h4⟩)
     · exact⟨k,Nat.le_refl _,by omega,c,e⟩
     · exact⟨j,by omega,by omega,h3,h4⟩
   · rintro ⟨j, h1, h2, h3, h4⟩
     rcases Nat.eq_or_lt_of_le h1 with e|e
     · subst e;exact .inl h4
     · exact .inr ⟨j,e,by omega,h3,h4⟩
theorem mtW_bit:∀ (T:List tP.den) (x:W3) (j:Nat),(T.foldl mtW x).2.getD j false=true↔x.2.getD j false=true∨(j<x.2.length∧∃ p∈T,p.2.1.toNat=j)
 |[],_,_=>by simp
 | p :: T, x, j => by
  rw[List.foldl_cons,mtW_bit T (mtW x p) j,mtW_len]
  have e:(mtW x p).2.getD j false=true↔x.2.getD j false=true∨(j<x.2.length∧p.2.1.toNat=j):=by
   show (x.2.set p.2.1.toNat true).getD j false=true↔_
   simp only[List.getD_eq_getElem?_getD,List.getElem?_set]
   by_cases h:p.2.1.toNat=j
   · subst h
     by_cases h2:p.2.1.toNat<x.2.length
     · simp[h2]
     · simp[h2]
   · simp[h]
  rw[e]
  constructor
  · rintro ((a | ⟨a, b⟩) | ⟨a, q, b, c⟩)
    · exact .inl a
    · exact .inr ⟨a,p,List.mem_cons_self,b⟩
    · exact .inr ⟨a,q,List.mem_cons_of_mem _ b,c⟩
  · rintro (a | ⟨a, q, b, c⟩)
    · exact .inl (.inl a)
    · rcases List.mem_cons.1 b with e | e
      · subst e;exact .inl (.inr ⟨a,c⟩)
      · exact .inr ⟨a,q,e,c⟩
theorem wnd_has {s:tSt.den} {n:tNi.den} {l:List tRe.den} {r:tRe.den} (ho:okN s n (l++[r])=true) {a:Int} (h:a∈(wndQ s n (l++[r])).2.2.1):hasF (wndQ s n l).2.2.1 a=true:=by
 have hl:=okN_less ho
 have hs:=trT_sub (s:=s) (n:=n) (l:=l) (r:=r) (h:=true)
 unfold wndQ at h⊢
 rw[show ieq (cknS s n (l++[r])).2 0=true from ho,cond_true] at h
 rw[show ieq (cknS s n l).2 0=true from hl,cond_true]
 obtain⟨j,h1,h2,h3,h4⟩:=(outG_mem _ _ _ _).1 h
 rw[mtW_bit] at h3
 unfold hasF
 rw[List.any_eq_true]
 refine⟨a,(outG_mem _ _ _ _).2 ⟨j,h1,h2,(mtW_bit _ _ _).2 ?_,h4⟩,by rw[ieq_iff];exact decide_eq_true rfl⟩
 rcases h3 with e|⟨e,p,hp,e2⟩
 · exact .inl e
 · exact .inr ⟨e,p,hs p hp,e2⟩
theorem cou_sub {s:tSt.den} {n:tNi.den} {l:List tRe.den} {r:tRe.den} {p:tP.den} {h:Bool} (ho:okN s n (l++[r])=true) (hp:in3 p.1 p.2.1=true) :
  ∃ a b a' b':Bool,couS s n l p h=couR (a,b)∧couS s n (l++[r]) p h=couR (a',b')∧(a'=true→a=true)∧(b'=true→b=true):=by
 have hs:=trT_sub (s:=s) (n:=n) (l:=l) (r:=r) (h:=h)
 refine⟨_,_,_,_,cou_ok (okN_less ho) hp,cou_ok ho hp,?_,?_⟩
 · intro e
   rw[List.any_eq_true] at e⊢
   obtain⟨q,h1,h2⟩:=e
   exact⟨q,hs q h1,h2⟩
 · intro e
   rw[List.any_eq_true] at e⊢
   obtain⟨q,h1,h2⟩:=e
   exact⟨q,hs q h1,h2⟩
theorem stB_go {b:Int} {nx:Option Out} {a1 b1 a2 b2:Bool} (hb:ile 2 b=false) (h1:a2=true→a1=true) (h2:b2=true→b1=true):stB b true true true (couR (a2,b2)) (couR (a1,b1)) nx=nx:=by
 unfold stB
 rw[hb]
 cases a2<;>cases b2<;>cases a1<;>cases b1<;>first|(exact absurd (h1 rfl) (by decide))|(exact absurd (h2 rfl) (by decide))|rfl
theorem stB_end {q' q:Int×Int} {nx:Option Out} {p f o:Bool}:stB 2 p f o q' q nx=tO:=rfl
theorem loopB {s:tSt.den} {t:tTd.den} {x:tFu.den} {N:List tRe.den} {r:tRe.den} {p f o:Bool} {c:Int→Int→Nat→Cfg}
  (hst:∀ a b k,adv H9 (Y9 [3]) 20000 (c a b (k+1))=stB b p f o (qM s t x N b) (qM s t x t.2.1.2 b) (some (.stop (c a (wr .i64 (b+1)) k))))
  (hN:N=t.2.1.2++[r]) (hp:p=true) (hf:f=true) (ho:o=true) (hk:okN s t.1 N=true) (a:Int):AnsB H9 (c a 0 1048575) true:=by
 subst hp;subst hf;subst ho;subst hN
 have go:∀ b k,ile 2 b=false→adv H9 (Y9 [3]) 20000 (c a b (k+1))=some (.stop (c a (wr .i64 (b+1)) k)):=fun b k hb=>by
  obtain⟨a1,b1,a2,b2,e1,e2,h1,h2⟩:=cou_sub (s:=s) (n:=t.1) (l:=t.2.1.2) (r:=r) (p:=(spF t.1.1.1 x.2.1.1,spF t.1.1.2.1 x.2.1.2.1,())) (h:=ieq b 1) hk (sp_in3 _ _ _ _)
  rw[hst]
  unfold qM
  rw[e1,e2]
  exact stB_go hb h1 h2
 refine .stop (Y9_ok _) H9sy (go 0 _ rfl) (.stop (Y9_ok _) H9sy (go 1 _ rfl) ?_)
 have h:=hst a 2 1048572
 exact .doneB (Y9_ok _) H9sy (h.trans stB_end) rfl
theorem loopA {W V:List Int} {o:Bool} {c:Int→Nat→Cfg} {d:Int→Cfg}
  (hst:∀ a k,adv H9 (Y9 [3]) 20000 (c a (k+1))=stA W V o a (some (.stop (c (wr .i64 (a+1)) k))) (some (.stop (d a))))
  (ho:o=true) (hV:V.length≤32) (hW:W.length≤32) (hh:∀ n∈V,hasF W n=true) (hd:∀ a,AnsB H9 (d a) true):∀ (r k f:Nat),k+r=V.length→r<f→AnsB H9 (c k f) true
 |0,k,f+1,hk,_=>by
  have h:=hst k f
  unfold stA at h
  rw[ile_t (show ((V.length:Nat):Int)≤k by omega)] at h
  exact .stop (Y9_ok _) H9sy h (hd _)
 |r+1,k,f+1,hk,hf=>by
  have h:=hst k f
  have hlt:k<V.length:=by omega
  have eg:V.getD (k:Int).toNat tI.dflt=V[k]:=getD_at hlt
  unfold stA at h
  rw[ile_f (show (k:Int)<((V.length:Nat):Int) by omega),inB_at hlt,eg,hh _ (List.getElem_mem hlt),Nat.ble_eq_true_of_le (show W.length≤1000 by omega),ho,wr_succ (show k<1048577 by omega)] at h
  exact .stop (Y9_ok _) H9sy h (loopA hst ho hV hW hh hd r (k+1) f (by omega) (by omega))
theorem tlW_go {w w':Q4} {a b:Cfg} {n:Nat} {c:Cfg} (h:adv H9 (Y9 [3]) n c=tlW true true w w' a b) (hw:ieq w'.2.2.2 0=true→ieq w.2.2.2 0=true∧ile w.1 w'.1=true∧ile w'.2.1 w.2.1=true) (ha:AnsB H9 a true) (hb:AnsB H9 b true):AnsB H9 c true:=by
 unfold tlW at h
 rw[cond_true,cond_true] at h
 cases e:ieq w'.2.2.2 0 with
 |false=>rw[e] at h;exact .stop (Y9_ok _) H9sy h hb
 |true=>
  obtain⟨h1,h2,h3⟩:=hw e
  rw[e,h1,h2,h3] at h
  exact .stop (Y9_ok _) H9sy h ha
theorem tlM_go {s:tSt.den} {t:tTd.den} {N:List tRe.den} {r:tRe.den} {p f:Bool} {c3 c2 c1 c0 c:Cfg} {n:Nat} (h:adv H9 (Y9 [3]) n c=tlM s t N p f c3 c2 c1 c0)
  (hN:N=t.2.1.2++[r]) (hp:p=true) (hf:f=true) (H:okN s t.1 N=true→AnsB H9 c3 true∧AnsB H9 c2 true∧AnsB H9 c1 true∧AnsB H9 c0 true):AnsB H9 c true:=by
 subst hp;subst hf;subst hN
 unfold tlM at h
 cases ho:okN s t.1 (t.2.1.2++[r]) with
 |false=>rw[ho] at h;exact .doneB (Y9_ok _) H9sy h rfl
 | true =>
  obtain⟨k3,k2,k1,k0⟩:=H ho
  rw[ho,Bool.not_true,cond_false,cond_true,cond_true] at h
  cases e:ieq (clrQ s t.1 (t.2.1.2++[r])).2.2.2.2 0 with
  |false=>rw[e,cond_false] at h;exact tlW_go h (wnd_sub ho) k1 k0
  |true=>
   obtain⟨h1,h2,h3,h4,h5⟩:=clr_sub ho e
   rw[e,h1,h2,h3,h4,h5] at h
   exact tlW_go h (wnd_sub ho) k3 k2
theorem lenW {s:tSt.den} {t:tTd.den} (l:List tRe.den):(wndQ s t.1 l).2.2.1.length≤32:=wndQ_len _ _ _
theorem loopAB {s:tSt.den} {t:tTd.den} {x:tFu.den} {N:List tRe.den} {r:tRe.den} {p f o:Bool} {c:Int→Nat→Cfg} {d:Int→Int→Nat→Cfg}
  (hA:∀ a k,adv H9 (Y9 [3]) 20000 (c a (k+1))=stA (wndQ s t.1 t.2.1.2).2.2.1 (wndQ s t.1 N).2.2.1 o a (some (.stop (c (wr .i64 (a+1)) k))) (some (.stop (d a 0 1048575))))
  (hB:∀ a b k,adv H9 (Y9 [3]) 20000 (d a b (k+1))=stB b p f o (qM s t x N b) (qM s t x t.2.1.2 b) (some (.stop (d a (wr .i64 (b+1)) k))))
  (hN:N=t.2.1.2++[r]) (hp:p=true) (hf:f=true) (ho:o=true) (hk:okN s t.1 N=true):AnsB H9 (c 0 1048575) true:=
 loopA (c:=c) (d:=fun a=>d a 0 1048575) hA ho (lenW (s:=s) (t:=t) _) (lenW (s:=s) (t:=t) _) (fun n hn=>by subst hN;exact wnd_has hk hn) (fun a=>loopB hB hN hp hf ho hk a) (wndQ s t.1 N).2.2.1.length 0 1048575 (Nat.zero_add _) (Nat.lt_of_le_of_lt (lenW (s:=s) (t:=t) N) (by decide))
theorem bytes35:(H9.bytes 35).ble 65536=true:=by kernel_rfl
theorem nE_is (x:tFu.den):nE x=[x.1]:=(rowR_is _ _ _ _).2
theorem nN_is (t:tTd.den) (x:tFu.den):nN t x=t.2.1.2++[x.1]∧pM t x=true∧fM t x=true∧oM t x=true:=by
 obtain⟨h1,h2,h3⟩:=moreR_is t.2.1.2 x.1.1.1 x.1.1.2.1 x.1.2.1 x.1.2.2.1
 exact⟨h2,h3,by unfold fM;rw[h1];rfl,h3⟩
theorem lmo_true (s:tSt.den) (t:tTd.den) (x:tFu.den) (h8:t.2.1.2.length≤1048576):∃ σ,callN H9 (40+1) 3 [tSt.av s,tTd.av t,tFu.av x] .empty [] []=some (.bool true,σ,[]):=by
 refine AnsB.call (ext_none (by kernel_rfl)) (hasB_spec (by kernel_rfl)) ?_
 have h:=lmor_start s t x
 simp only[sI_eq,sB_eq,sV_eq] at h
 have g1:gM t=true:=by
  unfold gM;rw[Nat.ble_eq_true_of_le h8,oneR,bytes35];rfl
 have g2:lM t=true:=by
  unfold lM
  rw[show List.drop 0 (repl 0 (AV.agg [AV.int .i64 0,AV.int .i64 0,AV.bool false,AV.bool false]).cells)=[] from rfl,List.nil_append,flatR_len,show 0+(0+t.2.1.2.length) * 4=t.2.1.2.length * 4 by omega]
  exact Nat.beq_refl _
 have g3:(0+t.2.1.2.length).ble 1048576=true:=Nat.ble_eq_true_of_le (by omega)
 obtain⟨n1,p1,f1,o1⟩:=nN_is t x
 rw[g1,cond_true] at h
 cases cE:t.2.1.2.length.beq 0 with
 |true=>
  rw[cE,cond_true] at h
  have hl:t.2.1.2=[]:=List.eq_nil_of_length_eq_zero (Nat.eq_of_beq_eq_true cE)
  have hN:nE x=t.2.1.2++[x.1]:=by rw[hl,nE_is];rfl
  exact tlM_go h hN rfl rfl fun hk=>⟨loopAB (lmor_step7 s t x) (lmor_step15 s t x) hN rfl rfl rfl hk,loopAB (lmor_step6 s t x) (lmor_step14 s t x) hN rfl rfl rfl hk,loopAB (lmor_step5 s t x) (lmor_step13 s t x) hN rfl rfl rfl hk,loopAB (lmor_step4 s t x) (lmor_step12 s t x) hN rfl rfl rfl hk⟩
 |false=>
  rw[cE,cond_false,g2,g3,cond_true,cond_true,p1,f1,cond_true,cond_true] at h
  exact tlM_go h n1 rfl rfl fun hk=>⟨loopAB (lmor_step3 s t x) (lmor_step11 s t x) n1 p1 f1 o1 hk,loopAB (lmor_step2 s t x) (lmor_step10 s t x) n1 p1 f1 o1 hk,loopAB (lmor_step1 s t x) (lmor_step9 s t x) n1 p1 f1 o1 hk,loopAB (lmor_step0 s t x) (lmor_step8 s t x) n1 p1 f1 o1 hk⟩
end Go.Proofs.YtppcdepecdemnaaGreatDoor


namespace Go.Proofs.YtppcdepecdemnaaGreatDoor
open Go Go.Eng
theorem one_bk {H:Type} (d:DataW H):1≤Rows.uptoBulk d:=by
 cases d with
 |lit l=>cases l<;>simp[Rows.uptoBulk]
 |nil=>simp[Rows.uptoBulk]
 |ptr d=>simp[Rows.uptoBulk]
 |slice elems spare=>simp[Rows.uptoBulk]
 |agg parts=>simp[Rows.uptoBulk]
 |iface t d=>simp[Rows.uptoBulk]
 |map entries=>simp[Rows.uptoBulk]
 |held h=>simp[Rows.uptoBulk]
noncomputable def tyBk:(t:Ty)→t.den→Nat
 |.int _,_=>1
 |.bool,_=>1
 |.str,_=>1
 |.nil,_=>0
 |.cons t ts,d=>tyBk t d.1+tyBk ts d.2
 |.sl t,d=>1+(d.2.map fun x=>tyBk t x).sum
mutual
noncomputable def fits2 (P:Program):Ty→TypeId→Bool
 |.int _,_=>true
 |.bool,_=>true
 |.str,_=>true
 |.nil,_=>true
 | .cons a b, T => match P.underlying T with
  |some (.struct fs)=>match fs.toList with
   |f::fs=>Nat.beq f.offset 0&&fits2 P a f.type&&Nat.beq a.size (P.cellsOf f.type)&&fitsF2 P b a.size fs&&Nat.beq (a.size+b.size) (P.cellsOf T)
   |[]=>false
  |_=>false
 |.sl t,T=>match P.underlying T with
  |some (.slice e)=>fits2 P t e&&Nat.beq t.size (P.cellsOf e)&&Nat.ble 1 t.size
  |_=>false
noncomputable def fitsF2 (P:Program):Ty→Nat→List Field→Bool
 |.nil,_,_=>true
 |.cons a b,off,fs=>match fs with
  |f::fs=>Nat.beq f.offset off&&fits2 P a f.type&&Nat.beq a.size (P.cellsOf f.type)&&fitsF2 P b (off+a.size) fs
  |[]=>false
 |_,_,_=>false
end
theorem VRs.split {V:View} {a b:List AV} {L:List Value} (h:VRs V (a++b) L):VRs V a (L.take a.length)∧VRs V b (L.drop a.length):=by
 obtain⟨h1,h2⟩:=h
 rw[List.length_append] at h1
 refine⟨⟨by rw[List.length_take];omega,fun i hi hj=>?_⟩,⟨by rw[List.length_drop];omega,fun i hi hj=>?_⟩⟩
 · have := h2 i (by rw [List.length_append]; omega) (by omega)
   rw[List.getElem_append_left hi] at this
   rw[List.getElem_take];exact this
 · have := h2 (a.length + i) (by rw [List.length_append]; omega) (by omega)
   rw[List.getElem_append_right (by omega)] at this
   simp only[Nat.add_sub_cancel_left] at this
   rw[List.getElem_drop];exact this
section
variable {H:Type} {P:Program} {enc:TypeId×Value→H} {w:World} {base:Nat} {spare:Nat→Bool} {held:Bool}
theorem lies_bk {g:List Value→Option (DataW H×List MemPlace)} {t:Ty} (ih:∀ cs d p (x:t.den),g cs=some (d,p)→VRs (Go.Eng.seen w) (t.cells x) cs→tyBk t x≤Rows.uptoBulk d) (a:Addr) (hs:a.spot=none) :
  ∀ (i:Nat) (xs:List (DataW H×List MemPlace)) (l:List t.den),l.length=xs.length→(∀ j,j<xs.length→(w.cells? base (a.add ((i+j) * t.size)) t.size).bind g=xs[j]?)→Lies w a.block (a.off+i * t.size) (flat t l)→(l.map fun x=>tyBk t x).sum≤Rows.uptoBulkAll (xs.map (·.1))
 |i,[],l,hn,_,_=>by
  have:l=[]:=List.eq_nil_of_length_eq_zero (by simpa using hn)
  subst this
  simp
 | i, x :: xs, l, hn, h, hL => by
  cases l with
  |nil=>simp at hn
  | cons y l =>
   have hx:=h 0 (by simp)
   rw[List.getElem?_cons_zero,Option.bind_eq_some_iff] at hx
   obtain⟨cs,hc,hx⟩:=hx
   obtain⟨c1,c2⟩:=cells?_get hc
   have e:flat t (y::l)=t.cells y++flat t l:=rfl
   rw[e] at hL
   have hsz:=Ty.cells_length t y
   have hy:VRs (Go.Eng.seen w) (t.cells y) cs:=⟨by omega,fun k hk hk'=>by
    obtain⟨v,h1,h2⟩:=hL k (by rw[List.length_append];omega)
    rw[List.getElem_append_left hk] at h2
    have:=c2 k (by omega)
    rw[Nat.add_zero,spot_add2 hs,spot_add hs,List.getElem?_eq_getElem hk'] at this
    rw[show a.off+(i * t.size+k)=a.off+i * t.size+k by omega,h1] at this
    rw[← Option.some.inj this];exact h2⟩
   have h1:=ih _ x.1 x.2 y hx hy
   have h2:=lies_bk ih a hs (i+1) xs l (by simpa using hn) (fun j hj=>by have:=h (j+1) (by simpa using hj);rw[show i+1+j=i+(j+1) by omega];simpa using this) (fun k hk=>by
    obtain⟨v,h1,h2⟩:=hL (t.size+k) (by rw[List.length_append];omega)
    rw[List.getElem_append_right (by omega)] at h2
    simp only[hsz,Nat.add_sub_cancel_left] at h2
    refine⟨v,?_,h2⟩
    rw[← h1,Nat.add_mul,Nat.one_mul]
    congr 2
    omega)
   simp only[List.map_cons,List.sum_cons,Rows.uptoBulkAll]
   omega
mutual
theorem bk_ty : ∀ (t : Ty) (T : TypeId) (m : Nat) (cs : List Value) (d : DataW H) (p : List MemPlace) (x : t.den), fits2 P t T = true → DataW.trod enc P w base spare held m T cs = some (d, p) → VRs (Go.Eng.seen w) (t.cells x) cs → tyBk t x ≤ Rows.uptoBulk d
 |.int _,_,_,_,d,_,_,_,_,_=>one_bk d
 |.bool,_,_,_,d,_,_,_,_,_=>one_bk d
 |.str,_,_,_,d,_,_,_,_,_=>one_bk d
 |.nil,_,_,_,d,_,_,_,_,_=>Nat.zero_le _
 | .cons a b, T, m, cs, d, p, x, hf, h, hv => by
  simp only[fits2] at hf
  split at hf
  · rename_i fs hu
    split at hf
    · rename_i f fs' hfs
      simp only[Bool.and_eq_true] at hf
      obtain⟨⟨⟨⟨f1,f2⟩,f3⟩,f4⟩,f5⟩:=hf
      have f1:=Nat.eq_of_beq_eq_true f1
      have f3:=Nat.eq_of_beq_eq_true f3
      have f5:=Nat.eq_of_beq_eq_true f5
      obtain⟨xs,k,rfl,hx,hlen,hxl,h1⟩:=DataW.trod_struct hu h
      simp only[Prod.mk.injEq] at hx
      obtain⟨rfl,_⟩:=hx
      have hi0 := h1 0 f (by have : fs[0]? = some f := by rw [← Array.getElem?_toList, hfs]; rfl
                             exact this)
      cases xs with
      | nil =>
       exfalso
       have h0:fs.toList.length=0:=by
        have:=hxl
        simp at this
        simp[this]
       rw[hfs] at h0;simp at h0
      | cons y ys =>
       rw[List.getElem?_cons_zero] at hi0
       have hv':VRs (Go.Eng.seen w) (a.cells x.1++b.cells x.2) cs:=hv
       obtain⟨v1,v2⟩:=VRs.split hv'
       rw[Ty.cells_length] at v1 v2
       have e1:=bk_ty a _ _ _ y.1 y.2 x.1 f2 hi0 (by rw[f1,← f3,List.drop_zero];exact v1)
       have hl2:fs'.length=ys.length:=by
        have h0:fs.toList.length=fs'.length+1:=by rw[hfs];rfl
        have:=hxl
        simp at this h0
        omega
       have e2:=bk_tyF b k a.size fs' ys cs x.2 hl2 (fun i g hg=>by
        have:=h1 (i+1) g (by rw[← Array.getElem?_toList,hfs];simpa using hg)
        simpa using this) f4 (by
         have hl:cs.length=a.size+b.size:=by rw[f5];exact hlen
         rw[List.take_of_length_le (by rw[List.length_drop];omega)];exact v2)
       simp only[tyBk,List.map_cons,Rows.uptoBulk,Rows.uptoBulkAll]
       omega
    · cases hf
  · cases hf
 | .sl t, T, m, cs, d, p, x, hf, h, hv => by
  simp only[fits2] at hf
  split at hf
  · rename_i e hu
    simp only[Bool.and_eq_true] at hf
    obtain⟨⟨f1,f2⟩,f3⟩:=hf
    have f2:=Nat.eq_of_beq_eq_true f2
    have hz:=Nat.le_of_ble_eq_true f3
    have hv':VRs (Go.Eng.seen w) [.vs t x.1 x.2] cs:=hv
    obtain⟨V,Vs,ecs,hV,hVs⟩:=hv'.cons_inv
    have hVs0:=hVs.nil_inv
    subst hVs0
    rcases DataW.trod_slice hu h with ⟨rfl,hx⟩|⟨a,len,cap,els,rest,k,rfl,rfl,hx,hb,hlc,_,hlen,h1,h2,_⟩
    · simp only [List.cons.injEq, and_true] at ecs
      subst ecs
      rcases hV.vs_inv with ⟨_,e2,_⟩|⟨_,e2⟩
      · have := one_bk d
        simp only[tyBk,e2]
        simpa using this
      · cases e2
    · simp only [List.cons.injEq, and_true] at ecs
      subst ecs
      simp only[Prod.mk.injEq] at hx
      obtain⟨rfl,_⟩:=hx
      obtain⟨nl,l⟩:=x
      simp only at hV
      have key:(l.map fun x=>tyBk t x).sum≤Rows.uptoBulkAll (els.map (·.1)):=by
       cases hV with
       | vs _ _ blk o _ A f hk hvv hc ha =>
        by_cases hl0:l=[]
        · subst hl0;simp
        · have hpos : 0 < l.length := List.length_pos_iff.2 hl0
          rcases ha with ha|ha
          · omega
          · subst ha
            refine lies_bk (fun cs d p x h hv=>bk_ty t e k cs d p x f1 h hv) ⟨blk,o,none⟩ rfl 0 els l hlen.symm (fun j hj=>by rw[Nat.zero_add,f2];exact h1 j (by omega)) (fun i hi=>⟨f i,?_,hvv i hi⟩)
            show w.cell? ⟨blk,o+0 * t.size+i,none⟩=_
            rw[Nat.zero_mul,Nat.add_zero]
            exact hk i hi
      simp only[tyBk,Rows.uptoBulk]
      omega
  · cases hf
theorem bk_tyF:∀ (t:Ty) (m off:Nat) (fs:List Field) (xs:List (DataW H×List MemPlace)) (cs:List Value) (x:t.den),fs.length=xs.length→(∀ (i:Nat) (f:Field),fs[i]?=some f→DataW.trod enc P w base spare held m f.type ((cs.drop f.offset).take (P.cellsOf f.type))=xs[i]?)→fitsF2 P t off fs=true →
  VRs (Go.Eng.seen w) (t.cells x) ((cs.drop off).take t.size)→tyBk t x≤Rows.uptoBulkAll (xs.map (·.1))
 |.nil,_,_,_,_,_,_,_,_,_,_=>Nat.zero_le _
 |.cons a b,m,off,fs,xs,cs,x,hn,h,hf,hv=>by
  simp only[fitsF2] at hf
  split at hf
  · rename_i f fs
    simp only[Bool.and_eq_true] at hf
    obtain⟨⟨⟨f1,f2⟩,f3⟩,f4⟩:=hf
    have f1:=Nat.eq_of_beq_eq_true f1
    have f3:=Nat.eq_of_beq_eq_true f3
    have hi0:=h 0 f rfl
    cases xs with
    |nil=>
     exfalso
     simp at hn
    | cons y ys =>
     rw[List.getElem?_cons_zero] at hi0
     have hv':VRs (Go.Eng.seen w) (a.cells x.1++b.cells x.2) ((cs.drop off).take (a.size+b.size)):=hv
     rw[List.take_add,List.drop_drop] at hv'
     obtain⟨v1,v2⟩:=VRs.split hv'
     have hl0:=hv'.1
     rw[Ty.cells_length] at v1 v2
     have la:((cs.drop off).take a.size).length=a.size:=by
      have:=v1.1
      rw[Ty.cells_length,List.length_take] at this
      have h3:=hl0
      rw[List.length_append,List.length_append,Ty.cells_length,Ty.cells_length] at h3
      have h4:((cs.drop (off+a.size)).take b.size).length≤b.size:=List.length_take_le _ _
      have h5:((cs.drop off).take a.size).length≤a.size:=List.length_take_le _ _
      omega
     rw[List.take_append_of_le_length (by omega),List.take_of_length_le (by omega)] at v1
     rw[List.drop_append_of_le_length (by omega),List.drop_of_length_le (by omega),List.nil_append] at v2
     have e1:=bk_ty a _ _ _ y.1 y.2 x.1 f2 hi0 (by rw[f1,← f3];exact v1)
     have e2:=bk_tyF b m (off+a.size) fs ys cs x.2 (by simpa using hn) (fun i g hg=>by
      have:=h (i+1) g (by simpa using hg)
      simpa using this) f4 v2
     simp only[tyBk,List.map_cons,Rows.uptoBulkAll]
     omega
  · cases hf
 |.int _,_,_,_,_,_,_,_,_,hf,_=>by simp[fitsF2] at hf
 |.bool,_,_,_,_,_,_,_,_,hf,_=>by simp[fitsF2] at hf
 |.str,_,_,_,_,_,_,_,_,hf,_=>by simp[fitsF2] at hf
 |.sl _,_,_,_,_,_,_,_,_,hf,_=>by simp[fitsF2] at hf
end
theorem sum_len {t:Ty} {n:Nat} (h:∀ x:t.den,n≤tyBk t x):∀ l:List t.den,n * l.length≤(l.map fun x=>tyBk t x).sum
 |[]=>by simp
 |x::l=>by
  have h1:=h x
  have h2:=sum_len h l
  simp only[List.length_cons,List.map_cons,List.sum_cons,Nat.mul_add,Nat.mul_one]
  omega
end
end Go.Proofs.YtppcdepecdemnaaGreatDoor


namespace Go.Proofs.YtppcdepecdemnaaGreatDoor
open Go Go.ChangeShapes Go.WideShapes Go.Eng
theorem kOwn:ownKnob Tryz.prog.godebug=none:=by kernel_rfl
theorem kPlain:(Rows.airMoreUptoRow.laid.all fun x=>x.2.handleName?.isNone)=true:=by kernel_rfl
theorem kLaid:allT (glB Tryz.prog Rows.airMoreUptoRow.laid) T0.gl (fun k=>k)=true:=by kernel_rfl
theorem kParams:Tryz.f3.params=#[26,33,39]:=by kernel_rfl
theorem kResults:Tryz.f3.resultTypes=#[4]:=by kernel_rfl
theorem kLaidOut:laidOutB Tryz.prog=true:=by kernel_rfl
theorem kRead:Tryz.f3.params.toList.all (fun t=>Tryz.prog.readableRec t&&decide (t<Tryz.prog.types.size))=true:=by kernel_rfl
theorem kFit1:fits Tryz.prog (tSt) 26=true:=by kernel_rfl
theorem kFit2:fits Tryz.prog (tTd) 33=true:=by kernel_rfl
theorem kFit3:fits Tryz.prog (tFu) 39=true:=by kernel_rfl
theorem kFitB:fits2 Tryz.prog (tTd) 33=true:=by kernel_rfl
theorem kGlob:H9.glob=T0.gl.get:=rfl
theorem kExt (c1:(tSt).den) (c2:(tTd).den) (c3:(tFu).den):H9.ext 3 [tSt.av c1,tTd.av c2,tFu.av c3]=none:=ext_none (by kernel_rfl)
theorem szR_of {c:tTd.den} (h:tyBk tTd c≤1048576):c.2.1.2.length≤1048576:=by
 have e:tyBk tTd c=tyBk tNi c.1+((1+(c.2.1.2.map fun x=>tyBk tRe x).sum)+0):=rfl
 have h1:=sum_len (t:=tRe) (n:=1) (fun x=>by
  have:tyBk tRe x=(1+(1+0))+(1+(1+0)):=rfl
  omega) c.2.1.2
 omega
noncomputable def kWit:Array Value:=#[.agg #[.slice none 0 0,.int .i64 0,.int .i64 0,.int .i64 0,.int .i64 0],.agg #[.int .i64 0,.int .i64 0,.int .i64 0,.int .i64 0,.int .i64 0,.slice none 0 0],.agg #[.int .i64 0,.int .i64 0,.bool false,.bool false,.int .u16 0,.int .u16 0]]
theorem kReads (os:Os) {H:Type} (enc:TypeId×Value→H):∃ places,DataW.whole enc Tryz.prog ((World.laidAll Tryz.prog os Rows.airMoreUptoRow.laid).forCall (fun _ _=>0) ⟨#[],kWit,[]⟩).memory Tryz.f3.params.toList Rows.airMoreSpec.vars false kWit.toList 8 =
  some ([.agg [.nil,.agg [.lit (.int .i64 0),.lit (.int .i64 0)],.agg [.lit (.int .i64 0),.lit (.int .i64 0)]],.agg [.agg [.agg [.lit (.int .i64 0),.lit (.int .i64 0)],.lit (.int .i64 0),.lit (.int .i64 0),.lit (.int .i64 0)],.nil],.agg [.agg [.agg [.lit (.int .i64 0),.lit (.int .i64 0)],.lit (.bool false),.lit (.bool false)],.agg [.lit (.int .u16 0),.lit (.int .u16 0)]]],[],places):=⟨[],by kernel_rfl⟩
set_option maxRecDepth 100000 in
theorem kLifted (os:Os) (started:os.Started) (H:Type) (enc:TypeId×Value→H) (F:Stop.Interp) :
  ReturnsInHanded {} Tryz.checked os 3 .any ((Rows.OpenSpec.upto Rows.airMoreSpec).preRow enc Tryz.prog Tryz.f3 Rows.airMoreUptoRow.domain false Rows.airMoreUptoRow.laid)
   (((Rows.OpenSpec.upto Rows.airMoreSpec).at F).post enc Tryz.prog Tryz.f3 false true false false):=by
 obtain⟨places,hx⟩:=kReads os enc
 refine returnsInHanded_of_row (C:=Tryz.checked) (s:=Rows.OpenSpec.upto Rows.airMoreSpec) kOwn started (by kernel_rfl) Tryz.func3
  (witness_row_at (enc := enc) (C := Tryz.checked) false (World.laidAll Tryz.prog os Rows.airMoreUptoRow.laid) kWit (World.laidAll_os _ _ _) (by kernel_rfl) (by kernel_rfl) (by kernel_rfl)
   (OpenSpec.preRow_of_cond 8 hx (by kernel_rfl) (fun k hk=>by cases hk;kernel_rfl) (by kernel_rfl) (by rw[MakeChecks.laidMetH_plain _ _ _ kPlain];exact laidMet_laidAll _ (by kernel_rfl) (by kernel_rfl)))) ?_
 intro W base args ds gs before hok hW _ hcond _ hL _ _
 have hL':laidMet Tryz.prog Rows.airMoreUptoRow.laid W:=by rw[← MakeChecks.laidMetH_plain _ _ _ kPlain];exact hL
 have hW':=hW
 have hk:=hcond _ rfl
 obtain⟨p,q,hA,_⟩:=hW
 rw[kParams] at hA
 obtain⟨v1,v2,v3,d1,d2,d3,p1,p2,p3,e1',e2',hp,t1,t2,t3⟩:=trodAll_three hA
 subst e1';subst e2'
 rw[kParams] at hok
 obtain⟨c1,h1,w1⟩:=arg_ty (t:=tSt) (hok 0 26 v1 rfl rfl) kFit1 t1
 obtain⟨c2,h2,w2⟩:=arg_ty (t:=tTd) (hok 1 33 v2 rfl rfl) kFit2 t2
 obtain⟨c3,h3,w3⟩:=arg_ty (t:=tFu) (hok 2 39 v3 rfl rfl) kFit3 t3
 have hb:tyBk tTd c2≤1048576:=by
  have hk2:Rows.uptoBulkAll ([d1,d2,d3]++gs)≤1048576:=of_decide_eq_true hk
  simp only[List.cons_append,Rows.uptoBulkAll] at hk2
  obtain⟨fuel,t2'⟩:=t2
  have h2':VRs (Go.Eng.seen W) (tTd.cells c2) v2.cells.toList:=by
   obtain⟨L,e,hL⟩:=VR.agg_inv (show VR (Go.Eng.seen W) (.agg (tTd.cells c2)) v2 from h2)
   subst e
   exact hL
  have:=bk_ty tTd 33 fuel _ d2 p2 c2 kFitB t2' h2'
  omega
 obtain⟨σ,hrun⟩:=lmo_true c1 c2 c3 (szR_of hb)
 refine (law_run (A:=[v1,v2,v3]) (V:=Go.Eng.seen W) h9 xh9 nh9 tabs_ok.mix (kExt c1 c2 c3) hrun (.cons h1 (.cons h2 (.cons h3 (.nil _)))) (by kernel_rfl) (fun _ _ _ h=>h) (glob_of kGlob kLaid hL')).mono fun e W' ⟨he,hf⟩=>?_
 subst he
 exact⟨_,rfl,post_law (s:=Rows.airMoreSpec) kLaidOut kRead kResults Tryz.underlying4 rfl rfl hW' hf⟩
theorem kHolds:Rows.AirMoreUptoSaid:=
 OpenClaim.holds_of_cond 3 Tryz.f3 rfl rfl rfl rfl rfl rfl rfl ⟨rfl,rfl,rfl,rfl,rfl⟩ rfl rfl rfl rfl rfl (by kernel_rfl) Tryz.func3 (by kernel_rfl)
  (of_decide_eq_true (by kernel_rfl)) (by unfold Func.isWrapper;first|(rw[if_pos (by decide +kernel)];kernel_rfl)|(rw[if_neg (by decide +kernel)];exact⟨rfl,rfl⟩))
  (fun os started H enc _ F=>by rw[OpenClaim.pre_eq_preRow];exact kLifted os started H enc F)
theorem airMoreUpto_holds:Rows.AirMoreUptoCardSaid:=
 Claim7.holds_tied_plain_at .later [] Rows.airMoreUptoCard.laidKinds true Rows.airMoreUptoCard.stood.harness false
  kHolds (fun _ h=>by cases h) (by kernel_rfl) (fun _ h=>by cases h) airMoreUpto_row_tie rfl ⟨rfl,rfl⟩ (by kernel_rfl) rfl
  (fun f fn hf hfn => by
   obtain rfl : f = 3 := Option.some.inj ((show Tryz.prog.funcNamed "nore/norelaw06.AirMore" = some 3 by kernel_rfl).symm.trans hf) |>.symm
   obtain rfl:fn=Tryz.f3:=(Option.some.inj (Tryz.func3.symm.trans hfn)).symm
   exact⟨by kernel_rfl,fun j t ht=>by
    rw[kParams] at ht
    rcases j with _|_|_|j<;>simp at ht<;>subst ht<;>kernel_rfl⟩)
  (by kernel_rfl)
#print axioms airMoreUpto_holds
end Go.Proofs.YtppcdepecdemnaaGreatDoor

