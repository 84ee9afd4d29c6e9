/-
  THE ENGINE: one more part of it.
-/
import Derived.Test.YtpnipaimaohiaaaGreatDoorPart04
set_option linter.unusedSectionVars false
set_option linter.unusedSimpArgs false
set_option linter.unusedVariables false
set_option maxRecDepth 100000
namespace Go.Proofs.YtpnipaimaohiaaaGreatDoor
open Go Go.Eng
noncomputable def pwnak0 (z0:tSt.den):AV:=(.agg [(.vs tGr (z0.1.1) (z0.1.2)),(iI (z0.2.1.1)),(iI (z0.2.1.2.1)),(iI (z0.2.2.1.1)),(iI (z0.2.2.1.2.1))])
noncomputable def pwnak2 (z0:tNi.den):AV:=(.agg [(iI (z0.1.1)),(iI (z0.1.2.1)),(iI (z0.2.1)),(iI (z0.2.2.1)),(iI (z0.2.2.2.1))])
noncomputable def pwnaQ0 (s:tSt.den) (n:tNi.den) (b:Bool):Tmps:=(tmOf 37 [(0,(pwnak0 s)),(1,(pwnak2 n)),(2,(.vs tRe (b) ([]))),(3,(pP 5 0)),(4,(pP 6 0)),(6,.nilp),(7,(pP 7 0)),(10,(pwnak0 s)),(11,(pwnak2 n)),(12,(.agg [(.vs tGr (s.1.1) (s.1.2)),(iI (s.2.1.1)),(iI (s.2.1.2.1)),(iI (s.2.2.1.1)),(iI (s.2.2.1.2.1)),(iI (n.1.1)),(iI (n.1.2.1)),(iI (n.2.1)),(iI (n.2.2.1)),(iI (n.2.2.2.1)),.nils])),(13,(pP 7 0)),(14,(.vs tRe (b) ([]))),(15,(iI 0)),(16,(iI 0))])
noncomputable def pwnak1 (z0:tSt.den):AO:=(cF [(.vs tGr (z0.1.1) (z0.1.2)),(iI (z0.2.1.1)),(iI (z0.2.1.2.1)),(iI (z0.2.2.1.1)),(iI (z0.2.2.1.2.1))])
noncomputable def pwnak3 (z0:tNi.den):AO:=(cF [(iI (z0.1.1)),(iI (z0.1.2.1)),(iI (z0.2.1)),(iI (z0.2.2.1)),(iI (z0.2.2.2.1))])
noncomputable def pwnak4 (z0:tSt.den) (z1:tNi.den):AO:=(cF [(.vs tGr (z0.1.1) (z0.1.2)),(iI (z0.2.1.1)),(iI (z0.2.1.2.1)),(iI (z0.2.2.1.1)),(iI (z0.2.2.1.2.1)),(iI (z1.1.1)),(iI (z1.1.2.1)),(iI (z1.2.1)),(iI (z1.2.2.1)),(iI (z1.2.2.2.1)),.nils])
noncomputable def pwnak10:Fm:=(.cal [(.cell 6 24),(.tmp 7),(.tmp 8)] .top)
noncomputable def pwnaI0 (s:tSt.den) (n:tNi.den) (b:Bool) (x124:Nat):Cfg:=⟨.ex (pcOf F6 54 [0,0,1,0,1,1]) ⟨(pwnaQ0 s n b),(hpOf 8 [(0,(pwnak1 s)),(1,(pwnak3 n)),(2,(cF [(iI 0),(iI 0)])),(3,(pwnak1 s)),(4,(pwnak3 n)),(5,(pwnak1 s)),(6,(pwnak3 n)),(7,(pwnak4 s n))]),[],[],37,false⟩,⟨38,[]⟩,[(.lop (pcOf F6 54 [0,0,1,0,1,1]) 8 (pwnaQ0 s n b) x124),(.blk 0),(.seq (pcOf F6 54 [1,1,1])),(.cal [(.tmp 6)] (.op (pcOf F6 28 [0,1,1,1]) 4 (some 40) ((opsOf (pcOf F6 28 [0,1,1,1]).c).toList.drop 4) (tmOf 41 [(0,(pwnak0 s)),(1,(pwnak2 n)),(2,(.vs tRe (b) ([]))),(3,.nils),(4,(pP 3 0)),(5,(pP 4 0)),(8,.nilp),(9,(iI 0)),(10,(iI ((cknS s n []).1))),(11,(iI ((cknS s n []).2))),(15,(.tup [(iI ((cknS s n []).1)),(iI ((cknS s n []).2))])),(16,(pwnak0 s)),(17,(pwnak2 n)),(18,(.vs tRe (b) ([]))),(19,(.tup [(iI ((cknS s n []).1)),(iI ((cknS s n []).2))])),(20,(iI ((cknS s n []).1))),(21,(iI ((cknS s n []).2))),(22,(iI ((cknS s n []).2))),(23,(.bool false)),(25,.nils),(26,(iI 0)),(27,(iI 0)),(28,(.bool false)),(37,(pwnak0 s)),(38,(pwnak2 n)),(39,(.vs tRe (b) ([])))]) [] 41 false ⟨39,[]⟩)),(.seq (pcOf F6 28 [1,1,1,1])),(.cal [(.tmp 8),(.tmp 9)] (.op (pcOf F6 8 [0,1]) 4 (some 21) ((opsOf (pcOf F6 8 [0,1]).c).toList.drop 4) (tmOf 55 [(0,(pwnak0 s)),(1,(pwnak2 n)),(2,(.vs tRe (b) ([]))),(3,(pP 0 0)),(4,(pP 1 0)),(6,(pP 2 0)),(7,.nils),(8,(iI 0)),(18,(pwnak0 s)),(19,(pwnak2 n)),(20,(.vs tRe (b) ([])))]) [] 55 false ⟨40,[]⟩)),(.seq (pcOf F6 8 [1,1])),(pwnak10)]⟩
noncomputable def pwnak7 (z0:tSt.den):AO:=(cF [(iI (z0.2.1.1)),(iI (z0.2.1.2.1))])
noncomputable def pwnak6 (z0:tNi.den):AV:=(iI (wr .i64 (wr .i64 (z0.2.2.1+z0.2.2.2.1)-1)))
noncomputable def pwnaQ1 (s:tSt.den) (n:tNi.den) (y0:Int) (y1:Int) (y2:Bool) (y3:List AV):Hp:=(hpOf 19 [(0,(pwnak1 s)),(1,(pwnak3 n)),(2,(cF [(iI 0),(iI 0)])),(3,(pwnak1 s)),(4,(pwnak3 n)),(5,(pwnak1 s)),(6,(pwnak3 n)),(7,(pwnak4 s n)),(8,(cF [(iI y0),(iI y1),(.bool y2)])),(9,(cF y3)),(10,(cF [(pP 7 0)])),(11,(cF [(.bool true)])),(13,(cF [(.yld 12)])),(14,(pwnak7 s)),(15,(cF [(iI (n.2.2.1)),(pwnak6 n)])),(16,(cF [(.fn 42 [] [])])),(18,(pwnak7 s))])
noncomputable def pwnaQ2:Tmps:=(tmOf 24 [(0,(.yld 12)),(1,(pP 10 0)),(2,(pP 11 0)),(3,(pP 13 0)),(7,(pP 7 0)),(8,(.bool true)),(9,(.fn 104 [] [(pP 14 0),(pP 15 0),(pP 16 0)]))])
noncomputable def pwnaQ3 (s:tSt.den) (n:tNi.den) (b:Bool):Tmps:=(tmOf 55 [(0,(pwnak0 s)),(1,(pwnak2 n)),(2,(.vs tRe (b) ([]))),(3,(pP 0 0)),(4,(pP 1 0)),(6,(pP 2 0)),(7,.nils),(8,(iI 0)),(9,(pP 7 0)),(10,(pP 8 0)),(11,(pP 9 0)),(17,(.tup [(pP 7 0),(iI 0)])),(18,(pwnak0 s)),(19,(pwnak2 n)),(20,(.vs tRe (b) ([]))),(21,(.tup [(pP 7 0),(iI 0)])),(22,(pP 7 0)),(23,(iI 0)),(24,(iI 0)),(25,(.bool false)),(28,(pP 7 0)),(29,(.fn 55 [] [(pP 10 0),(pP 11 0)]))])
noncomputable def pwnak12 (z0:tSt.den):AV:=(.agg [(iI (z0.2.1.1)),(iI (z0.2.1.2.1))])
noncomputable def pwnak8 (z0:tSt.den):AV:=(iI (wr .i64 (wr .i64 (z0.2.1.2.1-z0.2.1.1)+1)))
noncomputable def pwnaQ4 (s:tSt.den):Tmps:=(tmOf 33 [(0,(.yld 17)),(1,(pP 14 0)),(2,(pP 15 0)),(3,(pP 16 0)),(7,(pwnak12 s)),(8,(pwnak8 s)),(9,(iI 0))])
noncomputable def pwnak11:HD:=⟨17,24,39,(pwnaQ2),#[10],(pcOf F6 55 [0,0,1,1,0,1]),(pcOf F6 55 [1,0,1,1,0,1])⟩
noncomputable def pwnak5 (z0:tSt.den) (z1:tNi.den) (z2:Bool):HD:=⟨12,55,40,(pwnaQ3 z0 z1 z2),#[30],(pcOf F6 8 [0,0,1,0,1,1,1,1,1]),(pcOf F6 8 [1,0,1,0,1,1,1,1,1])⟩
noncomputable def pwnaI1 (s:tSt.den) (n:tNi.den) (b:Bool) (x3:Int) (x50:Int) (x51:Int) (x52:Bool) (x53:List AV) (x98:Nat):Cfg:=⟨.ex (pcOf F6 104 [0,0,1]) ⟨(tmOf 33 [(0,(.yld 17)),(1,(pP 14 0)),(2,(pP 15 0)),(3,(pP 16 0)),(7,(pwnak12 s)),(8,(pwnak8 s)),(9,(iI x3))]),(pwnaQ1 s n x50 x51 x52 x53),[],[⟨false,.normal⟩,⟨false,.normal⟩],33,false⟩,⟨38,[(pwnak11),(pwnak5 s n b)]⟩,[(.lop (pcOf F6 104 [0,0,1]) 19 (pwnaQ4 s) x98),(.blk 0),(.cal [] (.rng (pwnaQ2) [] 24 false ⟨39,[(pwnak5 s n b)]⟩)),(.blk 0),(.cal [] (.rng (pwnaQ3 s n b) [] 55 false ⟨40,[]⟩)),(.blk 0),(.seq (pcOf F6 8 [1,1,1,1,1,1])),(pwnak10)]⟩
noncomputable def pwnak9 (z0:tNi.den):AV:=(iI (wr .i64 (wr .i64 (wr .i64 (wr .i64 (z0.2.2.1+z0.2.2.2.1)-1)-z0.2.2.1)+1)))
noncomputable def pwnaQ5 (s:tSt.den) (n:tNi.den) (y0:Int):Tmps:=(tmOf 33 [(0,(.yld 17)),(1,(pP 14 0)),(2,(pP 15 0)),(3,(pP 16 0)),(5,(iI y0)),(7,(pwnak12 s)),(8,(pwnak8 s)),(9,(iI y0)),(10,(.bool true)),(11,(iI y0)),(12,(.agg [(iI (n.2.2.1)),(pwnak6 n)])),(13,(pwnak9 n)),(14,(iI 0))])
noncomputable def pwnaI3 (s:tSt.den) (n:tNi.den) (b:Bool) (x0:Int) (x10:Int) (x57:Int) (x58:Int) (x59:Bool) (x60:List AV) (x114:Nat) (x119:Nat):Cfg:=⟨.ex (pcOf F6 104 [0,0,1,1,0,0,1,1,0,0,1]) ⟨(tmOf 33 [(0,(.yld 17)),(1,(pP 14 0)),(2,(pP 15 0)),(3,(pP 16 0)),(5,(iI x0)),(7,(pwnak12 s)),(8,(pwnak8 s)),(9,(iI x0)),(10,(.bool true)),(11,(iI x0)),(12,(.agg [(iI (n.2.2.1)),(pwnak6 n)])),(13,(pwnak9 n)),(14,(iI x10))]),(hpOf 20 [(0,(pwnak1 s)),(1,(pwnak3 n)),(2,(cF [(iI 0),(iI 0)])),(3,(pwnak1 s)),(4,(pwnak3 n)),(5,(pwnak1 s)),(6,(pwnak3 n)),(7,(pwnak4 s n)),(8,(cF [(iI x57),(iI x58),(.bool x59)])),(9,(cF x60)),(10,(cF [(pP 7 0)])),(11,(cF [(.bool true)])),(13,(cF [(.yld 12)])),(14,(pwnak7 s)),(15,(cF [(iI (n.2.2.1)),(pwnak6 n)])),(16,(cF [(.fn 42 [] [])])),(18,(pwnak7 s)),(19,(cF [(iI (n.2.2.1)),(pwnak6 n)]))]),[],[⟨false,.normal⟩,⟨false,.normal⟩],33,false⟩,⟨38,[(pwnak11),(pwnak5 s n b)]⟩,[(.lop (pcOf F6 104 [0,0,1,1,0,0,1,1,0,0,1]) 20 (pwnaQ5 s n x0) x114),(.blk 2),(.blk 1),(.seq (pcOf F6 104 [1,1,1,0,0,1])),(.lop (pcOf F6 104 [0,0,1]) 19 (pwnaQ4 s) x119),(.blk 0),(.cal [] (.rng (pwnaQ2) [] 24 false ⟨39,[(pwnak5 s n b)]⟩)),(.blk 0),(.cal [] (.rng (pwnaQ3 s n b) [] 55 false ⟨40,[]⟩)),(.blk 0),(.seq (pcOf F6 8 [1,1,1,1,1,1])),(pwnak10)]⟩
noncomputable def pwnaQ6:Tmps:=(tmOf 29 [(0,(.yld 24)),(1,(pP 22 0)),(2,(pP 23 0)),(6,(pP 7 0)),(7,(pP 7 0)),(8,(pP 7 10)),(9,.nils),(10,(iI 0)),(11,(iI 0))])
noncomputable def pwnaQ7 (y0:Int) (y1:Int):Tmps:=(tmOf 24 [(0,(.yld 12)),(1,(pP 10 0)),(2,(pP 11 0)),(3,(pP 13 0)),(4,(pP 21 0)),(7,(pP 7 0)),(8,(.bool true)),(9,(.fn 104 [] [(pP 14 0),(pP 15 0),(pP 16 0)])),(10,(.ifc 100 (.agg [(iI y0),(iI y1)]))),(11,(pP 7 0)),(12,(.bool true)),(13,(.fn 80 [] [(pP 22 0),(pP 23 0)]))])
noncomputable def pwnaI5 (s:tSt.den) (n:tNi.den) (b:Bool) (x48:Int) (x49:Int) (x50:Bool) (x51:List AV) (x61:Int) (x62:Int) (x104:Nat) (x141:Int) (x142:Int) (x160:Int) (x209:Nat) (x214:Nat):Cfg:=⟨.ex (pcOf F6 80 [0,0,1]) ⟨(pwnaQ6),(hpOf 25 [(0,(pwnak1 s)),(1,(pwnak3 n)),(2,(cF [(iI 0),(iI 0)])),(3,(pwnak1 s)),(4,(pwnak3 n)),(5,(pwnak1 s)),(6,(pwnak3 n)),(7,(pwnak4 s n)),(8,(cF [(iI x48),(iI x49),(.bool x50)])),(9,(cF x51)),(10,(cF [(pP 7 0)])),(11,(cF [(.bool true)])),(13,(cF [(.yld 12)])),(14,(pwnak7 s)),(15,(cF [(iI (n.2.2.1)),(pwnak6 n)])),(16,(cF [(.fn 42 [] [])])),(18,(pwnak7 s)),(19,(cF [(iI (n.2.2.1)),(pwnak6 n)])),(20,(cF [(iI x61),(iI x62)])),(21,(cF [(.ifc 100 (.agg [(iI x61),(iI x62)]))])),(22,(cF [(pP 7 0)])),(23,(cF [(.bool true)]))]),[],[⟨false,.normal⟩,⟨false,.normal⟩],29,false⟩,⟨38,[⟨24,24,39,(pwnaQ7 x61 x62),#[14,15],(pcOf F6 55 [0,0,1,0,0,1,0,1,1,0,1]),(pcOf F6 55 [1,0,1,0,0,1,0,1,1,0,1])⟩,(pwnak5 s n b)]⟩,[(.lop (pcOf F6 80 [0,0,1]) 25 (pwnaQ6) x104),(.blk 0),(.cal [] (.rng (pwnaQ7 x61 x62) [] 24 true ⟨39,[(pwnak5 s n b)]⟩)),(.blk 2),(.seq (pcOf F6 55 [1,0,1,0,1,1,0,1])),(.blk 1),(.rnd [] (.op (pcOf F6 104 [0,1,0,0,1,1,0,0,1,1,0,0,1,1,0,0,1]) 13 (some 29) ((opsOf (pcOf F6 104 [0,1,0,0,1,1,0,0,1,1,0,0,1,1,0,0,1]).c).toList.drop 13) (tmOf 33 [(0,(.yld 17)),(1,(pP 14 0)),(2,(pP 15 0)),(3,(pP 16 0)),(5,(iI x141)),(6,(iI x142)),(7,(pwnak12 s)),(8,(pwnak8 s)),(9,(iI x141)),(10,(.bool true)),(11,(iI x141)),(12,(.agg [(iI (n.2.2.1)),(pwnak6 n)])),(13,(pwnak9 n)),(14,(iI x142)),(15,(.bool true)),(16,(iI x142)),(17,(.yld 17)),(18,(.fn 42 [] [])),(19,(pP 14 0)),(20,(iI (s.2.1.1))),(21,(iI x141)),(22,(iI x61)),(23,(pP 15 0)),(24,(iI (n.2.2.1))),(25,(iI x142)),(26,(iI x160)),(27,(.agg [(iI x61),(iI x62)])),(28,(.ifc 100 (.agg [(iI x61),(iI x62)])))]) [] 33 false ⟨38,[(pwnak11),(pwnak5 s n b)]⟩)),(.seq (pcOf F6 104 [1,1,0,0,1,1,0,0,1,1,0,0,1,1,0,0,1])),(.blk 3),(.seq (pcOf F6 104 [1,1,1,0,0,1,1,0,0,1,1,0,0,1])),(.lop (pcOf F6 104 [0,0,1,1,0,0,1,1,0,0,1]) 20 (pwnaQ5 s n x141) x209),(.blk 2),(.blk 1),(.seq (pcOf F6 104 [1,1,1,0,0,1])),(.lop (pcOf F6 104 [0,0,1]) 19 (pwnaQ4 s) x214),(.blk 0),(.cal [] (.rng (pwnaQ2) [] 24 false ⟨39,[(pwnak5 s n b)]⟩)),(.blk 0),(.cal [] (.rng (pwnaQ3 s n b) [] 55 false ⟨40,[]⟩)),(.blk 0),(.seq (pcOf F6 8 [1,1,1,1,1,1])),(pwnak10)]⟩
noncomputable def pwnaQ8 (s:tSt.den) (n:tNi.den) (b:Bool) (y0:List AV):Tmps:=(tmOf 55 [(0,(pwnak0 s)),(1,(pwnak2 n)),(2,(.vs tRe (b) ([]))),(3,(pP 0 0)),(4,(pP 1 0)),(6,(pP 2 0)),(7,.nils),(8,(iI 0)),(9,(pP 7 0)),(10,(pP 8 0)),(11,(pP 9 0)),(17,(.tup [(pP 7 0),(iI 0)])),(18,(pwnak0 s)),(19,(pwnak2 n)),(20,(.vs tRe (b) ([]))),(21,(.tup [(pP 7 0),(iI 0)])),(22,(pP 7 0)),(23,(iI 0)),(24,(iI 0)),(25,(.bool false)),(28,(pP 7 0)),(29,(.fn 55 [] [(pP 10 0),(pP 11 0)])),(40,(.agg (asZs y0 (repl 32 [AV.bool false]) 0))),(41,(iI 0))])
noncomputable def pwnaI6 (s:tSt.den) (n:tNi.den) (b:Bool) (x32:List AV) (x33:Int) (x80:Int) (x81:Int) (x82:Bool) (x125:Nat):Cfg:=⟨.ex (pcOf F6 8 [0,0,1,0,1,1,1,1,1,1]) ⟨(tmOf 55 [(0,(pwnak0 s)),(1,(pwnak2 n)),(2,(.vs tRe (b) ([]))),(3,(pP 0 0)),(4,(pP 1 0)),(6,(pP 2 0)),(7,.nils),(8,(iI 0)),(9,(pP 7 0)),(10,(pP 8 0)),(11,(pP 9 0)),(17,(.tup [(pP 7 0),(iI 0)])),(18,(pwnak0 s)),(19,(pwnak2 n)),(20,(.vs tRe (b) ([]))),(21,(.tup [(pP 7 0),(iI 0)])),(22,(pP 7 0)),(23,(iI 0)),(24,(iI 0)),(25,(.bool false)),(28,(pP 7 0)),(29,(.fn 55 [] [(pP 10 0),(pP 11 0)])),(40,(.agg (asZs x32 (repl 32 [AV.bool false]) 0))),(41,(iI x33))]),(pwnaQ1 s n x80 x81 x82 x32),[],[],55,false⟩,⟨40,[]⟩,[(.lop (pcOf F6 8 [0,0,1,0,1,1,1,1,1,1]) 19 (pwnaQ8 s n b x32) x125),(.blk 2),(.seq (pcOf F6 8 [1,1,1,1,1,1,1])),(pwnak10)]⟩
noncomputable def pwnaI7 (s:tSt.den) (n:tNi.den) (b:Bool) (x13:Nat) (x34:List AV) (x35:Int) (x82:Int) (x83:Int) (x84:Bool) (x93:List AV) (x128:Nat):Cfg:=⟨.ex (pcOf F6 8 [0,0,1,0,1,1,1,1,1,1]) ⟨(tmOf 55 [(0,(pwnak0 s)),(1,(pwnak2 n)),(2,(.vs tRe (b) ([]))),(3,(pP 0 0)),(4,(pP 1 0)),(6,(pP 2 0)),(7,(.sl 19 0 x13 x13 1)),(8,(iI 0)),(9,(pP 7 0)),(10,(pP 8 0)),(11,(pP 9 0)),(17,(.tup [(pP 7 0),(iI 0)])),(18,(pwnak0 s)),(19,(pwnak2 n)),(20,(.vs tRe (b) ([]))),(21,(.tup [(pP 7 0),(iI 0)])),(22,(pP 7 0)),(23,(iI 0)),(24,(iI 0)),(25,(.bool false)),(28,(pP 7 0)),(29,(.fn 55 [] [(pP 10 0),(pP 11 0)])),(40,(.agg (asZs x34 (repl 32 [AV.bool false]) 0))),(41,(iI x35))]),(hpOf 20 [(0,(pwnak1 s)),(1,(pwnak3 n)),(2,(cF [(iI 0),(iI 0)])),(3,(pwnak1 s)),(4,(pwnak3 n)),(5,(pwnak1 s)),(6,(pwnak3 n)),(7,(pwnak4 s n)),(8,(cF [(iI x82),(iI x83),(.bool x84)])),(9,(cF x34)),(10,(cF [(pP 7 0)])),(11,(cF [(.bool true)])),(13,(cF [(.yld 12)])),(14,(pwnak7 s)),(15,(cF [(iI (n.2.2.1)),(pwnak6 n)])),(16,(cF [(.fn 42 [] [])])),(18,(pwnak7 s)),(19,(cF x93))]),[],[],55,false⟩,⟨40,[]⟩,[(.lop (pcOf F6 8 [0,0,1,0,1,1,1,1,1,1]) 19 (pwnaQ8 s n b x34) x128),(.blk 2),(.seq (pcOf F6 8 [1,1,1,1,1,1,1])),(pwnak10)]⟩
theorem pwna_start (s:tSt.den) (n:tNi.den) (b:Bool):adv F6 ((Z6 [54,80,104,8]).flat [8,9]) 20000 (startC F6 8 [tSt.av s,tNi.av n,.vs tRe b []] 40)=(bif !ieq (cknS s n []).2 0 then (bif !ieq (cknS s n []).2 0 then some (.done (.tup [(.agg [(.int .i64 (0)),(.int .i64 (0))]),.nils,(.int .i64 ((cknS s n []).2))])) else none) else some (.stop (pwnaI0 s n b (1048575)))):=by kernel_rfl
theorem pwna_step0 (s:tSt.den) (n:tNi.den) (b:Bool) (x124:Nat):adv F6 ((Z6 [54,80,104,8]).flat [8,9]) 20000 (pwnaI0 s n b (x124+1))=(sI n.2.2.2.1 (sI n.2.2.1 (sI n.2.2.1 (sI s.2.1.1 (sI s.2.1.2.1 (some (.stop (pwnaI1 s n b (0) (0) (0) (false) (repl 32 [AV.bool false]) (1048575))))))))):=by kernel_rfl
theorem pwna_step1 (s:tSt.den) (n:tNi.den) (b:Bool) (x3:Int) (x50:Int) (x51:Int) (x52:Bool) (x53:List AV) (x98:Nat):adv F6 ((Z6 [54,80,104,8]).flat [8,9]) 20000 (pwnaI1 s n b x3 x50 x51 x52 x53 (x98+1))=(bif !ile (wr .i64 (wr .i64 (s.2.1.2.1-s.2.1.1)+1)) x3 then some (.stop (pwnaI3 s n b (x3) (0) (x50) (x51) (x52) (x53) (1048575) (x98+1))) else (bif isZs x53 (repl 32 [AV.bool false]) 0 then some (.stop (pwnaI6 s n b (x53) (0) (x50) (x51) (x52) (1048575))) else none)):=by kernel_rfl
theorem pwna_step3 (s:tSt.den) (n:tNi.den) (b:Bool) (x0:Int) (x10:Int) (x57:Int) (x58:Int) (x59:Bool) (x60:List AV) (x114:Nat) (x119:Nat):adv F6 ((Z6 [54,80,104,8]).flat [8,9]) 20000 (pwnaI3 s n b x0 x10 x57 x58 x59 x60 (x114+1) (x119+1))=(bif !ile (wr .i64 (wr .i64 (wr .i64 (wr .i64 (n.2.2.1+n.2.2.2.1)-1)-n.2.2.1)+1)) x10 then some (.stop (pwnaI5 s n b (x57) (x58) (x59) (x60) (wr .i64 (s.2.1.1+x0)) ((wr .i64 (n.2.2.1+x10)).tmod 32) (1048575) (x0) (x10) (wr .i64 (n.2.2.1+x10)) (x114+1) (x119+1))) else (bif plO (AO.cells false x60) then some (.stop (pwnaI1 s n b (wr .i64 (x0+1)) (x57) (x58) (x59) (x60) (x119))) else none)):=by kernel_rfl
theorem pwna_step5 (s:tSt.den) (n:tNi.den) (b:Bool) (x48:Int) (x49:Int) (x50:Bool) (x51:List AV) (x61:Int) (x62:Int) (x104:Nat) (x141:Int) (x142:Int) (x160:Int) (x209:Nat) (x214:Nat):adv F6 ((Z6 [54,80,104,8]).flat [8,9]) 20000 (pwnaI5 s n b x48 x49 x50 x51 x61 x62 (x104+1) x141 x142 x160 (x209+1) (x214+1))=(bif !x50 then (sI x61 (sI x61 (bif inB x62 32 then (bif (0+x62.toNat * 1+1).ble x51.length then (bif plO (AO.cells false (x51.set (0+x62.toNat * 1) (AV.bool true))) then some (.stop (pwnaI3 s n b (x141) (wr .i64 (x142+1)) (bif ile x61 x61 then x61 else x61) (bif ile x61 x61 then x61 else x61) (true) (x51.set (0+x62.toNat * 1) (AV.bool true)) (x209) (x214+1))) else none) else none) else none))) else (sI x49 (sI x48 (bif inB x62 32 then (bif (0+x62.toNat * 1+1).ble x51.length then (bif plO (AO.cells false (x51.set (0+x62.toNat * 1) (AV.bool true))) then some (.stop (pwnaI3 s n b (x141) (wr .i64 (x142+1)) (bif ile x48 x61 then x48 else x61) (bif ile x61 x49 then x49 else x61) (x50) (x51.set (0+x62.toNat * 1) (AV.bool true)) (x209) (x214+1))) else none) else none) else none)))):=by kernel_rfl
theorem pwna_step6 (s:tSt.den) (n:tNi.den) (b:Bool) (x32:List AV) (x33:Int) (x80:Int) (x81:Int) (x82:Bool) (x125:Nat):adv F6 ((Z6 [54,80,104,8]).flat [8,9]) 20000 (pwnaI6 s n b x32 x33 x80 x81 x82 (x125+1))=(bif !ile 32 x33 then (bif inB x33 32 then (bif isZs (asZs x32 (repl 32 [AV.bool false]) 0) [AV.bool false] (x33.toNat * 1) then (bif toB ((asZs x32 (repl 32 [AV.bool false]) 0).getD (x33.toNat * 1) AV.nili) then (bif plO (AO.cells false x32) then some (.stop (pwnaI7 s n b (1) (x32) (wr .i64 (x33+1)) (x80) (x81) (x82) ([AV.int IntKind.i64 x33]) (x125))) else none) else (bif plO (AO.cells false x32) then some (.stop (pwnaI6 s n b (x32) (wr .i64 (x33+1)) (x80) (x81) (x82) (x125))) else none)) else none) else none) else (bif x82 then (sI x80 (sI x81 (sI x80 (sI x81 (some (.done (.tup [(.agg [(.int .i64 (x80)),(.int .i64 (x81))]),.nils,(.int .i64 (0))]))))))) else (sI x80 (sI x81 (sI x80 (sI x81 (some (.done (.tup [(.agg [(.int .i64 (x80)),(.int .i64 (x81))]),.nils,(.int .i64 (9))]))))))))):=by kernel_rfl
theorem pwna_step7 (s:tSt.den) (n:tNi.den) (b:Bool) (x13:Nat) (x34:List AV) (x35:Int) (x82:Int) (x83:Int) (x84:Bool) (x93:List AV) (x128:Nat):adv F6 ((Z6 [54,80,104,8]).flat [8,9]) 20000 (pwnaI7 s n b x13 x34 x35 x82 x83 x84 x93 (x128+1))=(bif !ile 32 x35 then (bif inB x35 32 then (bif isZs (asZs x34 (repl 32 [AV.bool false]) 0) [AV.bool false] (x35.toNat * 1) then (bif toB ((asZs x34 (repl 32 [AV.bool false]) 0).getD (x35.toNat * 1) AV.nili) then (bif (0+x13 * 1).beq x93.length then (bif x13.ble 1048576 then (bif plO (AO.cells false (x93++[AV.int IntKind.i64 x35])) then (bif plO (AO.cells false x34) then some (.stop (pwnaI7 s n b (x13+1) (x34) (wr .i64 (x35+1)) (x82) (x83) (x84) (x93++[AV.int IntKind.i64 x35]) (x128))) else none) else none) else none) else none) else (bif plO (AO.cells false x93) then (bif plO (AO.cells false x34) then some (.stop (pwnaI7 s n b (x13) (x34) (wr .i64 (x35+1)) (x82) (x83) (x84) (x93) (x128))) else none) else none)) else none) else none) else (bif x84 then (sI x82 (sI x83 (sI x82 (sI x83 (bif plainL x93 then some (.done (.tup [(.agg [(.int .i64 (x82)),(.int .i64 (x83))]),(.csl (x93) (x13)),(.int .i64 (0))])) else none))))) else (sI x82 (sI x83 (sI x82 (sI x83 (bif plainL x93 then some (.done (.tup [(.agg [(.int .i64 (x82)),(.int .i64 (x83))]),(.csl (x93) (x13)),(.int .i64 (9))])) else none))))))):=by kernel_rfl
noncomputable def pwnbk0 (z0:tSt.den):AV:=(.agg [(.vs tGr (z0.1.1) (z0.1.2)),(iI (z0.2.1.1)),(iI (z0.2.1.2.1)),(iI (z0.2.2.1.1)),(iI (z0.2.2.1.2.1))])
noncomputable def pwnbk2 (z0:tNi.den):AV:=(.agg [(iI (z0.1.1)),(iI (z0.1.2.1)),(iI (z0.2.1)),(iI (z0.2.2.1)),(iI (z0.2.2.2.1))])
noncomputable def pwnbk12 (z0:tSt.den) (z1:tNi.den):AV:=(.agg [(.vs tGr (z0.1.1) (z0.1.2)),(iI (z0.2.1.1)),(iI (z0.2.1.2.1)),(iI (z0.2.2.1.1)),(iI (z0.2.2.1.2.1)),(iI (z1.1.1)),(iI (z1.1.2.1)),(iI (z1.2.1)),(iI (z1.2.2.1)),(iI (z1.2.2.2.1)),.nils])
noncomputable def pwnbQ0 (s:tSt.den) (n:tNi.den) (l:(Ty.sl tRe).den):Tmps:=(tmOf 37 [(0,(pwnbk0 s)),(1,(pwnbk2 n)),(2,(.vs tRe (l.1) (l.2))),(3,(pP 5 0)),(4,(pP 6 0)),(6,.nilp),(7,(pP 7 0)),(10,(pwnbk0 s)),(11,(pwnbk2 n)),(12,(pwnbk12 s n)),(13,(pP 7 0)),(14,(.vs tRe (l.1) (l.2))),(15,(iI (Int.ofNat l.2.length))),(16,(iI 0))])
noncomputable def pwnbQ1 (s:tSt.den) (n:tNi.den) (l:(Ty.sl tRe).den):Tmps:=(tmOf 41 [(0,(pwnbk0 s)),(1,(pwnbk2 n)),(2,(.vs tRe (l.1) (l.2))),(3,.nils),(4,(pP 3 0)),(5,(pP 4 0)),(8,.nilp),(9,(iI 0)),(10,(iI ((cknS s n l.2).1))),(11,(iI ((cknS s n l.2).2))),(15,(.tup [(iI ((cknS s n l.2).1)),(iI ((cknS s n l.2).2))])),(16,(pwnbk0 s)),(17,(pwnbk2 n)),(18,(.vs tRe (l.1) (l.2))),(19,(.tup [(iI ((cknS s n l.2).1)),(iI ((cknS s n l.2).2))])),(20,(iI ((cknS s n l.2).1))),(21,(iI ((cknS s n l.2).2))),(22,(iI ((cknS s n l.2).2))),(23,(.bool false)),(25,.nils),(26,(iI 0)),(27,(iI 0)),(28,(.bool false)),(37,(pwnbk0 s)),(38,(pwnbk2 n)),(39,(.vs tRe (l.1) (l.2)))])
noncomputable def pwnbQ2 (s:tSt.den) (n:tNi.den) (l:(Ty.sl tRe).den):Tmps:=(tmOf 55 [(0,(pwnbk0 s)),(1,(pwnbk2 n)),(2,(.vs tRe (l.1) (l.2))),(3,(pP 0 0)),(4,(pP 1 0)),(6,(pP 2 0)),(7,.nils),(8,(iI 0)),(18,(pwnbk0 s)),(19,(pwnbk2 n)),(20,(.vs tRe (l.1) (l.2)))])
noncomputable def pwnbk1 (z0:tSt.den):AO:=(cF [(.vs tGr (z0.1.1) (z0.1.2)),(iI (z0.2.1.1)),(iI (z0.2.1.2.1)),(iI (z0.2.2.1.1)),(iI (z0.2.2.1.2.1))])
noncomputable def pwnbk3 (z0:tNi.den):AO:=(cF [(iI (z0.1.1)),(iI (z0.1.2.1)),(iI (z0.2.1)),(iI (z0.2.2.1)),(iI (z0.2.2.2.1))])
noncomputable def pwnbk13 (z0:tSt.den) (z1:tNi.den):AO:=(cF [(.vs tGr (z0.1.1) (z0.1.2)),(iI (z0.2.1.1)),(iI (z0.2.1.2.1)),(iI (z0.2.2.1.1)),(iI (z0.2.2.1.2.1)),(iI (z1.1.1)),(iI (z1.1.2.1)),(iI (z1.2.1)),(iI (z1.2.2.1)),(iI (z1.2.2.2.1)),.nils])
noncomputable def pwnbk11:Fm:=(.cal [(.cell 6 24),(.tmp 7),(.tmp 8)] .top)
noncomputable def pwnbI0 (s:tSt.den) (n:tNi.den) (l:(Ty.sl tRe).den) (x124:Nat):Cfg:=⟨.ex (pcOf F6 54 [0,0,1,0,1,1]) ⟨(pwnbQ0 s n l),(hpOf 8 [(0,(pwnbk1 s)),(1,(pwnbk3 n)),(2,(cF [(iI 0),(iI 0)])),(3,(pwnbk1 s)),(4,(pwnbk3 n)),(5,(pwnbk1 s)),(6,(pwnbk3 n)),(7,(pwnbk13 s n))]),[],[],37,false⟩,⟨38,[]⟩,[(.lop (pcOf F6 54 [0,0,1,0,1,1]) 8 (pwnbQ0 s n l) x124),(.blk 0),(.seq (pcOf F6 54 [1,1,1])),(.cal [(.tmp 6)] (.op (pcOf F6 28 [0,1,1,1]) 4 (some 40) ((opsOf (pcOf F6 28 [0,1,1,1]).c).toList.drop 4) (pwnbQ1 s n l) [] 41 false ⟨39,[]⟩)),(.seq (pcOf F6 28 [1,1,1,1])),(.cal [(.tmp 8),(.tmp 9)] (.op (pcOf F6 8 [0,1]) 4 (some 21) ((opsOf (pcOf F6 8 [0,1]).c).toList.drop 4) (pwnbQ2 s n l) [] 55 false ⟨40,[]⟩)),(.seq (pcOf F6 8 [1,1])),(pwnbk11)]⟩
noncomputable def pwnbk10 (z0:tSt.den):AV:=(.agg [(iI (z0.2.1.1)),(iI (z0.2.1.2.1))])
noncomputable def pwnbk7 (z0:tSt.den):AV:=(iI (wr .i64 (wr .i64 (z0.2.1.2.1-z0.2.1.1)+1)))
noncomputable def pwnbQ3 (s:tSt.den):Tmps:=(tmOf 33 [(0,(.yld 17)),(1,(pP 14 0)),(2,(pP 15 0)),(3,(pP 16 0)),(7,(pwnbk10 s)),(8,(pwnbk7 s)),(9,(iI 0))])
noncomputable def pwnbk8 (z0:tSt.den):AO:=(cF [(iI (z0.2.1.1)),(iI (z0.2.1.2.1))])
noncomputable def pwnbk6 (z0:tNi.den):AV:=(iI (wr .i64 (wr .i64 (z0.2.2.1+z0.2.2.2.1)-1)))
noncomputable def pwnbQ4 (s:tSt.den) (n:tNi.den):Hp:=(hpOf 19 [(0,(pwnbk1 s)),(1,(pwnbk3 n)),(2,(cF [(iI 0),(iI 0)])),(3,(pwnbk1 s)),(4,(pwnbk3 n)),(5,(pwnbk1 s)),(6,(pwnbk3 n)),(7,(pwnbk13 s n)),(8,(cF [(iI 0),(iI 0),(.bool false)])),(9,(cF (repl 32 [AV.bool false]))),(10,(cF [(pP 7 0)])),(11,(cF [(.bool true)])),(13,(cF [(.yld 12)])),(14,(pwnbk8 s)),(15,(cF [(iI (n.2.2.1)),(pwnbk6 n)])),(16,(cF [(.fn 42 [] [])])),(18,(pwnbk8 s))])
noncomputable def pwnbQ5:Tmps:=(tmOf 24 [(0,(.yld 12)),(1,(pP 10 0)),(2,(pP 11 0)),(3,(pP 13 0)),(7,(pP 7 0)),(8,(.bool true)),(9,(.fn 104 [] [(pP 14 0),(pP 15 0),(pP 16 0)]))])
noncomputable def pwnbQ6 (s:tSt.den) (n:tNi.den) (l:(Ty.sl tRe).den):Tmps:=(tmOf 55 [(0,(pwnbk0 s)),(1,(pwnbk2 n)),(2,(.vs tRe (l.1) (l.2))),(3,(pP 0 0)),(4,(pP 1 0)),(6,(pP 2 0)),(7,.nils),(8,(iI 0)),(9,(pP 7 0)),(10,(pP 8 0)),(11,(pP 9 0)),(17,(.tup [(pP 7 0),(iI 0)])),(18,(pwnbk0 s)),(19,(pwnbk2 n)),(20,(.vs tRe (l.1) (l.2))),(21,(.tup [(pP 7 0),(iI 0)])),(22,(pP 7 0)),(23,(iI 0)),(24,(iI 0)),(25,(.bool false)),(28,(pP 7 0)),(29,(.fn 55 [] [(pP 10 0),(pP 11 0)]))])
noncomputable def pwnbI1 (s:tSt.den) (n:tNi.den) (l:(Ty.sl tRe).den) (x98:Nat):Cfg:=⟨.ex (pcOf F6 104 [0,0,1]) ⟨(pwnbQ3 s),(pwnbQ4 s n),[],[⟨false,.normal⟩,⟨false,.normal⟩],33,false⟩,⟨38,[⟨17,24,39,(pwnbQ5),#[10],(pcOf F6 55 [0,0,1,1,0,1]),(pcOf F6 55 [1,0,1,1,0,1])⟩,⟨12,55,40,(pwnbQ6 s n l),#[30],(pcOf F6 8 [0,0,1,0,1,1,1,1,1]),(pcOf F6 8 [1,0,1,0,1,1,1,1,1])⟩]⟩,[(.lop (pcOf F6 104 [0,0,1]) 19 (pwnbQ3 s) x98),(.blk 0),(.cal [] (.rng (pwnbQ5) [] 24 false ⟨39,[⟨12,55,40,(pwnbQ6 s n l),#[30],(pcOf F6 8 [0,0,1,0,1,1,1,1,1]),(pcOf F6 8 [1,0,1,0,1,1,1,1,1])⟩]⟩)),(.blk 0),(.cal [] (.rng (pwnbQ6 s n l) [] 55 false ⟨40,[]⟩)),(.blk 0),(.seq (pcOf F6 8 [1,1,1,1,1,1])),(pwnbk11)]⟩
noncomputable def pwnbk4 (z0:tSt.den) (z1:tNi.den) (z2:Nat):AO:=(cF [(.vs tGr (z0.1.1) (z0.1.2)),(iI (z0.2.1.1)),(iI (z0.2.1.2.1)),(iI (z0.2.2.1.1)),(iI (z0.2.2.1.2.1)),(iI (z1.1.1)),(iI (z1.1.2.1)),(iI (z1.2.1)),(iI (z1.2.2.1)),(iI (z1.2.2.2.1)),(.sl 8 0 z2 z2 6)])
noncomputable def pwnbI2 (s:tSt.den) (n:tNi.den) (l:(Ty.sl tRe).den) (x38:Int) (x85:Nat) (x87:List AV) (x127:Nat):Cfg:=⟨.ex (pcOf F6 54 [0,0,1,0,1,1]) ⟨(tmOf 37 [(0,(pwnbk0 s)),(1,(pwnbk2 n)),(2,(.vs tRe (l.1) (l.2))),(3,(pP 5 0)),(4,(pP 6 0)),(6,.nilp),(7,(pP 7 0)),(10,(pwnbk0 s)),(11,(pwnbk2 n)),(12,(pwnbk12 s n)),(13,(pP 7 0)),(14,(.vs tRe (l.1) (l.2))),(15,(iI (Int.ofNat l.2.length))),(16,(iI x38))]),(hpOf 9 [(0,(pwnbk1 s)),(1,(pwnbk3 n)),(2,(cF [(iI 0),(iI 0)])),(3,(pwnbk1 s)),(4,(pwnbk3 n)),(5,(pwnbk1 s)),(6,(pwnbk3 n)),(7,(pwnbk4 s n x85)),(8,(cF x87))]),[],[],37,false⟩,⟨38,[]⟩,[(.lop (pcOf F6 54 [0,0,1,0,1,1]) 8 (pwnbQ0 s n l) x127),(.blk 0),(.seq (pcOf F6 54 [1,1,1])),(.cal [(.tmp 6)] (.op (pcOf F6 28 [0,1,1,1]) 4 (some 40) ((opsOf (pcOf F6 28 [0,1,1,1]).c).toList.drop 4) (pwnbQ1 s n l) [] 41 false ⟨39,[]⟩)),(.seq (pcOf F6 28 [1,1,1,1])),(.cal [(.tmp 8),(.tmp 9)] (.op (pcOf F6 8 [0,1]) 4 (some 21) ((opsOf (pcOf F6 8 [0,1]).c).toList.drop 4) (pwnbQ2 s n l) [] 55 false ⟨40,[]⟩)),(.seq (pcOf F6 8 [1,1])),(pwnbk11)]⟩
noncomputable def pwnbk9 (z0:tNi.den):AV:=(iI (wr .i64 (wr .i64 (wr .i64 (wr .i64 (z0.2.2.1+z0.2.2.2.1)-1)-z0.2.2.1)+1)))
noncomputable def pwnbQ9 (s:tSt.den) (n:tNi.den) (y0:Nat) (y1:List AV) (y2:Int) (y3:Int) (y4:Bool) (y5:List AV):Hp:=(hpOf 20 [(0,(pwnbk1 s)),(1,(pwnbk3 n)),(2,(cF [(iI 0),(iI 0)])),(3,(pwnbk1 s)),(4,(pwnbk3 n)),(5,(pwnbk1 s)),(6,(pwnbk3 n)),(7,(pwnbk4 s n y0)),(8,(cF y1)),(9,(cF [(iI y2),(iI y3),(.bool y4)])),(10,(cF y5)),(11,(cF [(pP 7 0)])),(12,(cF [(.bool true)])),(14,(cF [(.yld 13)])),(15,(pwnbk8 s)),(16,(cF [(iI (n.2.2.1)),(pwnbk6 n)])),(17,(cF [(.fn 42 [] [])])),(19,(pwnbk8 s))])
noncomputable def pwnbQ10:Tmps:=(tmOf 24 [(0,(.yld 13)),(1,(pP 11 0)),(2,(pP 12 0)),(3,(pP 14 0)),(7,(pP 7 0)),(8,(.bool true)),(9,(.fn 104 [] [(pP 15 0),(pP 16 0),(pP 17 0)]))])
noncomputable def pwnbQ11 (s:tSt.den) (n:tNi.den) (l:(Ty.sl tRe).den):Tmps:=(tmOf 55 [(0,(pwnbk0 s)),(1,(pwnbk2 n)),(2,(.vs tRe (l.1) (l.2))),(3,(pP 0 0)),(4,(pP 1 0)),(6,(pP 2 0)),(7,.nils),(8,(iI 0)),(9,(pP 7 0)),(10,(pP 9 0)),(11,(pP 10 0)),(17,(.tup [(pP 7 0),(iI 0)])),(18,(pwnbk0 s)),(19,(pwnbk2 n)),(20,(.vs tRe (l.1) (l.2))),(21,(.tup [(pP 7 0),(iI 0)])),(22,(pP 7 0)),(23,(iI 0)),(24,(iI 0)),(25,(.bool false)),(28,(pP 7 0)),(29,(.fn 55 [] [(pP 11 0),(pP 12 0)]))])
noncomputable def pwnbQ12 (s:tSt.den):Tmps:=(tmOf 33 [(0,(.yld 18)),(1,(pP 15 0)),(2,(pP 16 0)),(3,(pP 17 0)),(7,(pwnbk10 s)),(8,(pwnbk7 s)),(9,(iI 0))])
noncomputable def pwnbk14:HD:=⟨18,24,39,(pwnbQ10),#[10],(pcOf F6 55 [0,0,1,1,0,1]),(pcOf F6 55 [1,0,1,1,0,1])⟩
noncomputable def pwnbk5 (z0:tSt.den) (z1:tNi.den) (z2:(Ty.sl tRe).den):HD:=⟨13,55,40,(pwnbQ11 z0 z1 z2),#[30],(pcOf F6 8 [0,0,1,0,1,1,1,1,1]),(pcOf F6 8 [1,0,1,0,1,1,1,1,1])⟩
noncomputable def pwnbI5 (s:tSt.den) (n:tNi.den) (l:(Ty.sl tRe).den) (x3:Int) (x50:Nat) (x52:List AV) (x53:Int) (x54:Int) (x55:Bool) (x56:List AV) (x101:Nat):Cfg:=⟨.ex (pcOf F6 104 [0,0,1]) ⟨(tmOf 33 [(0,(.yld 18)),(1,(pP 15 0)),(2,(pP 16 0)),(3,(pP 17 0)),(7,(pwnbk10 s)),(8,(pwnbk7 s)),(9,(iI x3))]),(pwnbQ9 s n x50 x52 x53 x54 x55 x56),[],[⟨false,.normal⟩,⟨false,.normal⟩],33,false⟩,⟨38,[(pwnbk14),(pwnbk5 s n l)]⟩,[(.lop (pcOf F6 104 [0,0,1]) 20 (pwnbQ12 s) x101),(.blk 0),(.cal [] (.rng (pwnbQ10) [] 24 false ⟨39,[(pwnbk5 s n l)]⟩)),(.blk 0),(.cal [] (.rng (pwnbQ11 s n l) [] 55 false ⟨40,[]⟩)),(.blk 0),(.seq (pcOf F6 8 [1,1,1,1,1,1])),(pwnbk11)]⟩
noncomputable def pwnbQ15 (s:tSt.den) (n:tNi.den) (y0:Int):Tmps:=(tmOf 33 [(0,(.yld 18)),(1,(pP 15 0)),(2,(pP 16 0)),(3,(pP 17 0)),(5,(iI y0)),(7,(pwnbk10 s)),(8,(pwnbk7 s)),(9,(iI y0)),(10,(.bool true)),(11,(iI y0)),(12,(.agg [(iI (n.2.2.1)),(pwnbk6 n)])),(13,(pwnbk9 n)),(14,(iI 0))])
noncomputable def pwnbI8 (s:tSt.den) (n:tNi.den) (l:(Ty.sl tRe).den) (x0:Int) (x10:Int) (x57:Nat) (x59:List AV) (x60:Int) (x61:Int) (x62:Bool) (x63:List AV) (x117:Nat) (x122:Nat):Cfg:=⟨.ex (pcOf F6 104 [0,0,1,1,0,0,1,1,0,0,1]) ⟨(tmOf 33 [(0,(.yld 18)),(1,(pP 15 0)),(2,(pP 16 0)),(3,(pP 17 0)),(5,(iI x0)),(7,(pwnbk10 s)),(8,(pwnbk7 s)),(9,(iI x0)),(10,(.bool true)),(11,(iI x0)),(12,(.agg [(iI (n.2.2.1)),(pwnbk6 n)])),(13,(pwnbk9 n)),(14,(iI x10))]),(hpOf 21 [(0,(pwnbk1 s)),(1,(pwnbk3 n)),(2,(cF [(iI 0),(iI 0)])),(3,(pwnbk1 s)),(4,(pwnbk3 n)),(5,(pwnbk1 s)),(6,(pwnbk3 n)),(7,(pwnbk4 s n x57)),(8,(cF x59)),(9,(cF [(iI x60),(iI x61),(.bool x62)])),(10,(cF x63)),(11,(cF [(pP 7 0)])),(12,(cF [(.bool true)])),(14,(cF [(.yld 13)])),(15,(pwnbk8 s)),(16,(cF [(iI (n.2.2.1)),(pwnbk6 n)])),(17,(cF [(.fn 42 [] [])])),(19,(pwnbk8 s)),(20,(cF [(iI (n.2.2.1)),(pwnbk6 n)]))]),[],[⟨false,.normal⟩,⟨false,.normal⟩],33,false⟩,⟨38,[(pwnbk14),(pwnbk5 s n l)]⟩,[(.lop (pcOf F6 104 [0,0,1,1,0,0,1,1,0,0,1]) 21 (pwnbQ15 s n x0) x117),(.blk 2),(.blk 1),(.seq (pcOf F6 104 [1,1,1,0,0,1])),(.lop (pcOf F6 104 [0,0,1]) 20 (pwnbQ12 s) x122),(.blk 0),(.cal [] (.rng (pwnbQ10) [] 24 false ⟨39,[(pwnbk5 s n l)]⟩)),(.blk 0),(.cal [] (.rng (pwnbQ11 s n l) [] 55 false ⟨40,[]⟩)),(.blk 0),(.seq (pcOf F6 8 [1,1,1,1,1,1])),(pwnbk11)]⟩
noncomputable def pwnbQ16 (y0:Int) (y1:Int):Tmps:=(tmOf 24 [(0,(.yld 13)),(1,(pP 11 0)),(2,(pP 12 0)),(3,(pP 14 0)),(4,(pP 22 0)),(7,(pP 7 0)),(8,(.bool true)),(9,(.fn 104 [] [(pP 15 0),(pP 16 0),(pP 17 0)])),(10,(.ifc 100 (.agg [(iI y0),(iI y1)]))),(11,(pP 7 0)),(12,(.bool true)),(13,(.fn 80 [] [(pP 23 0),(pP 24 0)]))])
noncomputable def pwnbI10 (s:tSt.den) (n:tNi.den) (l:(Ty.sl tRe).den) (x0:Nat) (x2:Int) (x3:Int) (x52:List AV) (x53:Int) (x54:Int) (x55:Bool) (x56:List AV) (x66:Int) (x67:Int) (x111:Nat) (x148:Int) (x149:Int) (x167:Int) (x216:Nat) (x221:Nat):Cfg:=⟨.ex (pcOf F6 80 [0,0,1]) ⟨(tmOf 29 [(0,(.yld 25)),(1,(pP 23 0)),(2,(pP 24 0)),(6,(pP 7 0)),(7,(pP 7 0)),(8,(pP 7 10)),(9,(.sl 8 0 x0 x0 6)),(10,(iI x2)),(11,(iI x3))]),(hpOf 26 [(0,(pwnbk1 s)),(1,(pwnbk3 n)),(2,(cF [(iI 0),(iI 0)])),(3,(pwnbk1 s)),(4,(pwnbk3 n)),(5,(pwnbk1 s)),(6,(pwnbk3 n)),(7,(pwnbk4 s n x0)),(8,(cF x52)),(9,(cF [(iI x53),(iI x54),(.bool x55)])),(10,(cF x56)),(11,(cF [(pP 7 0)])),(12,(cF [(.bool true)])),(14,(cF [(.yld 13)])),(15,(pwnbk8 s)),(16,(cF [(iI (n.2.2.1)),(pwnbk6 n)])),(17,(cF [(.fn 42 [] [])])),(19,(pwnbk8 s)),(20,(cF [(iI (n.2.2.1)),(pwnbk6 n)])),(21,(cF [(iI x66),(iI x67)])),(22,(cF [(.ifc 100 (.agg [(iI x66),(iI x67)]))])),(23,(cF [(pP 7 0)])),(24,(cF [(.bool true)]))]),[],[⟨false,.normal⟩,⟨false,.normal⟩],29,false⟩,⟨38,[⟨25,24,39,(pwnbQ16 x66 x67),#[14,15],(pcOf F6 55 [0,0,1,0,0,1,0,1,1,0,1]),(pcOf F6 55 [1,0,1,0,0,1,0,1,1,0,1])⟩,(pwnbk5 s n l)]⟩,[(.lop (pcOf F6 80 [0,0,1]) 26 (tmOf 29 [(0,(.yld 25)),(1,(pP 23 0)),(2,(pP 24 0)),(6,(pP 7 0)),(7,(pP 7 0)),(8,(pP 7 10)),(9,(.sl 8 0 x0 x0 6)),(10,(iI x2)),(11,(iI 0))]) x111),(.blk 0),(.cal [] (.rng (pwnbQ16 x66 x67) [] 24 true ⟨39,[(pwnbk5 s n l)]⟩)),(.blk 2),(.seq (pcOf F6 55 [1,0,1,0,1,1,0,1])),(.blk 1),(.rnd [] (.op (pcOf F6 104 [0,1,0,0,1,1,0,0,1,1,0,0,1,1,0,0,1]) 13 (some 29) ((opsOf (pcOf F6 104 [0,1,0,0,1,1,0,0,1,1,0,0,1,1,0,0,1]).c).toList.drop 13) (tmOf 33 [(0,(.yld 18)),(1,(pP 15 0)),(2,(pP 16 0)),(3,(pP 17 0)),(5,(iI x148)),(6,(iI x149)),(7,(pwnbk10 s)),(8,(pwnbk7 s)),(9,(iI x148)),(10,(.bool true)),(11,(iI x148)),(12,(.agg [(iI (n.2.2.1)),(pwnbk6 n)])),(13,(pwnbk9 n)),(14,(iI x149)),(15,(.bool true)),(16,(iI x149)),(17,(.yld 18)),(18,(.fn 42 [] [])),(19,(pP 15 0)),(20,(iI (s.2.1.1))),(21,(iI x148)),(22,(iI x66)),(23,(pP 16 0)),(24,(iI (n.2.2.1))),(25,(iI x149)),(26,(iI x167)),(27,(.agg [(iI x66),(iI x67)])),(28,(.ifc 100 (.agg [(iI x66),(iI x67)])))]) [] 33 false ⟨38,[(pwnbk14),(pwnbk5 s n l)]⟩)),(.seq (pcOf F6 104 [1,1,0,0,1,1,0,0,1,1,0,0,1,1,0,0,1])),(.blk 3),(.seq (pcOf F6 104 [1,1,1,0,0,1,1,0,0,1,1,0,0,1])),(.lop (pcOf F6 104 [0,0,1,1,0,0,1,1,0,0,1]) 21 (pwnbQ15 s n x148) x216),(.blk 2),(.blk 1),(.seq (pcOf F6 104 [1,1,1,0,0,1])),(.lop (pcOf F6 104 [0,0,1]) 20 (pwnbQ12 s) x221),(.blk 0),(.cal [] (.rng (pwnbQ10) [] 24 false ⟨39,[(pwnbk5 s n l)]⟩)),(.blk 0),(.cal [] (.rng (pwnbQ11 s n l) [] 55 false ⟨40,[]⟩)),(.blk 0),(.seq (pcOf F6 8 [1,1,1,1,1,1])),(pwnbk11)]⟩
noncomputable def pwnbQ17 (s:tSt.den) (n:tNi.den) (l:(Ty.sl tRe).den) (y0:List AV):Tmps:=(tmOf 55 [(0,(pwnbk0 s)),(1,(pwnbk2 n)),(2,(.vs tRe (l.1) (l.2))),(3,(pP 0 0)),(4,(pP 1 0)),(6,(pP 2 0)),(7,.nils),(8,(iI 0)),(9,(pP 7 0)),(10,(pP 9 0)),(11,(pP 10 0)),(17,(.tup [(pP 7 0),(iI 0)])),(18,(pwnbk0 s)),(19,(pwnbk2 n)),(20,(.vs tRe (l.1) (l.2))),(21,(.tup [(pP 7 0),(iI 0)])),(22,(pP 7 0)),(23,(iI 0)),(24,(iI 0)),(25,(.bool false)),(28,(pP 7 0)),(29,(.fn 55 [] [(pP 11 0),(pP 12 0)])),(40,(.agg (asZs y0 (repl 32 [AV.bool false]) 0))),(41,(iI 0))])
noncomputable def pwnbI11 (s:tSt.den) (n:tNi.den) (l:(Ty.sl tRe).den) (x32:List AV) (x33:Int) (x80:Nat) (x82:List AV) (x83:Int) (x84:Int) (x85:Bool) (x128:Nat):Cfg:=⟨.ex (pcOf F6 8 [0,0,1,0,1,1,1,1,1,1]) ⟨(tmOf 55 [(0,(pwnbk0 s)),(1,(pwnbk2 n)),(2,(.vs tRe (l.1) (l.2))),(3,(pP 0 0)),(4,(pP 1 0)),(6,(pP 2 0)),(7,.nils),(8,(iI 0)),(9,(pP 7 0)),(10,(pP 9 0)),(11,(pP 10 0)),(17,(.tup [(pP 7 0),(iI 0)])),(18,(pwnbk0 s)),(19,(pwnbk2 n)),(20,(.vs tRe (l.1) (l.2))),(21,(.tup [(pP 7 0),(iI 0)])),(22,(pP 7 0)),(23,(iI 0)),(24,(iI 0)),(25,(.bool false)),(28,(pP 7 0)),(29,(.fn 55 [] [(pP 11 0),(pP 12 0)])),(40,(.agg (asZs x32 (repl 32 [AV.bool false]) 0))),(41,(iI x33))]),(pwnbQ9 s n x80 x82 x83 x84 x85 x32),[],[],55,false⟩,⟨40,[]⟩,[(.lop (pcOf F6 8 [0,0,1,0,1,1,1,1,1,1]) 20 (pwnbQ17 s n l x32) x128),(.blk 2),(.seq (pcOf F6 8 [1,1,1,1,1,1,1])),(pwnbk11)]⟩
noncomputable def pwnbI12 (s:tSt.den) (n:tNi.den) (l:(Ty.sl tRe).den) (x13:Nat) (x34:List AV) (x35:Int) (x82:Nat) (x84:List AV) (x85:Int) (x86:Int) (x87:Bool) (x96:List AV) (x131:Nat):Cfg:=⟨.ex (pcOf F6 8 [0,0,1,0,1,1,1,1,1,1]) ⟨(tmOf 55 [(0,(pwnbk0 s)),(1,(pwnbk2 n)),(2,(.vs tRe (l.1) (l.2))),(3,(pP 0 0)),(4,(pP 1 0)),(6,(pP 2 0)),(7,(.sl 20 0 x13 x13 1)),(8,(iI 0)),(9,(pP 7 0)),(10,(pP 9 0)),(11,(pP 10 0)),(17,(.tup [(pP 7 0),(iI 0)])),(18,(pwnbk0 s)),(19,(pwnbk2 n)),(20,(.vs tRe (l.1) (l.2))),(21,(.tup [(pP 7 0),(iI 0)])),(22,(pP 7 0)),(23,(iI 0)),(24,(iI 0)),(25,(.bool false)),(28,(pP 7 0)),(29,(.fn 55 [] [(pP 11 0),(pP 12 0)])),(40,(.agg (asZs x34 (repl 32 [AV.bool false]) 0))),(41,(iI x35))]),(hpOf 21 [(0,(pwnbk1 s)),(1,(pwnbk3 n)),(2,(cF [(iI 0),(iI 0)])),(3,(pwnbk1 s)),(4,(pwnbk3 n)),(5,(pwnbk1 s)),(6,(pwnbk3 n)),(7,(pwnbk4 s n x82)),(8,(cF x84)),(9,(cF [(iI x85),(iI x86),(.bool x87)])),(10,(cF x34)),(11,(cF [(pP 7 0)])),(12,(cF [(.bool true)])),(14,(cF [(.yld 13)])),(15,(pwnbk8 s)),(16,(cF [(iI (n.2.2.1)),(pwnbk6 n)])),(17,(cF [(.fn 42 [] [])])),(19,(pwnbk8 s)),(20,(cF x96))]),[],[],55,false⟩,⟨40,[]⟩,[(.lop (pcOf F6 8 [0,0,1,0,1,1,1,1,1,1]) 20 (pwnbQ17 s n l x34) x131),(.blk 2),(.seq (pcOf F6 8 [1,1,1,1,1,1,1])),(pwnbk11)]⟩
theorem pwnb_start (s:tSt.den) (n:tNi.den) (l:(Ty.sl tRe).den):adv F6 ((Z6 [54,80,104,8]).flat [8,10]) 20000 (startC F6 8 [tSt.av s,tNi.av n,.vs tRe l.1 l.2] 40)=(bif !ieq (cknS s n l.2).2 0 then (bif !ieq (cknS s n l.2).2 0 then some (.done (.tup [(.agg [(.int .i64 (0)),(.int .i64 (0))]),.nils,(.int .i64 ((cknS s n l.2).2))])) else none) else some (.stop (pwnbI0 s n l (1048575)))):=by kernel_rfl
theorem pwnb_step0 (s:tSt.den) (n:tNi.den) (l:(Ty.sl tRe).den) (x124:Nat):adv F6 ((Z6 [54,80,104,8]).flat [8,10]) 20000 (pwnbI0 s n l (x124+1))=(bif !ile (Int.ofNat l.2.length) 0 then (bif inB 0 l.2.length then (bif nrB (wr .i64 ((l.2.getD (Int.toNat 0) tRe.dflt).1.1-n.1.1)) (wr .i64 ((l.2.getD (Int.toNat 0) tRe.dflt).1.2.1-n.1.2.1)) then (sI n.1.2.1 (sI (l.2.getD (Int.toNat 0) tRe.dflt).1.2.1 (sI n.1.1 (sI (l.2.getD (Int.toNat 0) tRe.dflt).1.1 (sI (l.2.getD (Int.toNat 0) tRe.dflt).1.1 (sI (l.2.getD (Int.toNat 0) tRe.dflt).1.2.1 (sI (l.2.getD (Int.toNat 0) tRe.dflt).1.1 (sI (l.2.getD (Int.toNat 0) tRe.dflt).1.2.1 (sB (l.2.getD (Int.toNat 0) tRe.dflt).2.1 (sB (l.2.getD (Int.toNat 0) tRe.dflt).2.2.1 (sI (l.2.getD (Int.toNat 0) tRe.dflt).1.1 (sI (l.2.getD (Int.toNat 0) tRe.dflt).1.2.1 (sB (l.2.getD (Int.toNat 0) tRe.dflt).2.1 (sB (l.2.getD (Int.toNat 0) tRe.dflt).2.2.1 (some (.stop (pwnbI2 s n l (1) (1) ([AV.int IntKind.i64 (l.2.getD (Int.toNat 0) tRe.dflt).1.1,AV.int IntKind.i64 (l.2.getD (Int.toNat 0) tRe.dflt).1.2.1,AV.bool (l.2.getD (Int.toNat 0) tRe.dflt).2.1,AV.bool (l.2.getD (Int.toNat 0) tRe.dflt).2.2.1,AV.int IntKind.i64 (wr .i64 ((l.2.getD (Int.toNat 0) tRe.dflt).1.1-n.1.1) * wr .i64 ((l.2.getD (Int.toNat 0) tRe.dflt).1.1-n.1.1)+wr .i64 ((l.2.getD (Int.toNat 0) tRe.dflt).1.2.1-n.1.2.1) * wr .i64 ((l.2.getD (Int.toNat 0) tRe.dflt).1.2.1-n.1.2.1)),AV.int IntKind.i64 (ptF (wr .i64 ((l.2.getD (Int.toNat 0) tRe.dflt).1.1-n.1.1)) (wr .i64 ((l.2.getD (Int.toNat 0) tRe.dflt).1.2.1-n.1.2.1)))]) (x124)))))))))))))))))) else none) else none) else (sI n.2.2.2.1 (sI n.2.2.1 (sI n.2.2.1 (sI s.2.1.1 (sI s.2.1.2.1 (some (.stop (pwnbI1 s n l (1048575)))))))))):=by kernel_rfl
theorem pwnb_step2 (s:tSt.den) (n:tNi.den) (l:(Ty.sl tRe).den) (x38:Int) (x85:Nat) (x87:List AV) (x127:Nat):adv F6 ((Z6 [54,80,104,8]).flat [8,10]) 20000 (pwnbI2 s n l x38 x85 x87 (x127+1))=(bif !ile (Int.ofNat l.2.length) x38 then (bif inB x38 l.2.length then (bif nrB (wr .i64 ((l.2.getD x38.toNat tRe.dflt).1.1-n.1.1)) (wr .i64 ((l.2.getD x38.toNat tRe.dflt).1.2.1-n.1.2.1)) then (sI n.1.2.1 (sI (l.2.getD x38.toNat tRe.dflt).1.2.1 (sI n.1.1 (sI (l.2.getD x38.toNat tRe.dflt).1.1 (bif (0+x85 * 6).beq x87.length then (bif x85.ble 1048576 then (sI (l.2.getD x38.toNat tRe.dflt).1.1 (sI (l.2.getD x38.toNat tRe.dflt).1.2.1 (sI (l.2.getD x38.toNat tRe.dflt).1.1 (sI (l.2.getD x38.toNat tRe.dflt).1.2.1 (sB (l.2.getD x38.toNat tRe.dflt).2.1 (sB (l.2.getD x38.toNat tRe.dflt).2.2.1 (sI (l.2.getD x38.toNat tRe.dflt).1.1 (sI (l.2.getD x38.toNat tRe.dflt).1.2.1 (sB (l.2.getD x38.toNat tRe.dflt).2.1 (sB (l.2.getD x38.toNat tRe.dflt).2.2.1 (bif avbeq (AV.sl 8 0 x85 x85 6) (AV.sl 8 0 x85 x85 6) then (bif avbeq (AV.sl 8 0 x85 x85 6) (AV.sl 8 0 x85 x85 6) then (bif plO (AO.cells false (x87++[AV.int IntKind.i64 (l.2.getD x38.toNat tRe.dflt).1.1,AV.int IntKind.i64 (l.2.getD x38.toNat tRe.dflt).1.2.1,AV.bool (l.2.getD x38.toNat tRe.dflt).2.1,AV.bool (l.2.getD x38.toNat tRe.dflt).2.2.1,AV.int IntKind.i64 (wr .i64 ((l.2.getD x38.toNat tRe.dflt).1.1-n.1.1) * wr .i64 ((l.2.getD x38.toNat tRe.dflt).1.1-n.1.1)+wr .i64 ((l.2.getD x38.toNat tRe.dflt).1.2.1-n.1.2.1) * wr .i64 ((l.2.getD x38.toNat tRe.dflt).1.2.1-n.1.2.1)),AV.int IntKind.i64 (ptF (wr .i64 ((l.2.getD x38.toNat tRe.dflt).1.1-n.1.1)) (wr .i64 ((l.2.getD x38.toNat tRe.dflt).1.2.1-n.1.2.1)))])) then some (.stop (pwnbI2 s n l (wr .i64 (x38+1)) (x85+1) (x87++[AV.int IntKind.i64 (l.2.getD x38.toNat tRe.dflt).1.1,AV.int IntKind.i64 (l.2.getD x38.toNat tRe.dflt).1.2.1,AV.bool (l.2.getD x38.toNat tRe.dflt).2.1,AV.bool (l.2.getD x38.toNat tRe.dflt).2.2.1,AV.int IntKind.i64 (wr .i64 ((l.2.getD x38.toNat tRe.dflt).1.1-n.1.1) * wr .i64 ((l.2.getD x38.toNat tRe.dflt).1.1-n.1.1)+wr .i64 ((l.2.getD x38.toNat tRe.dflt).1.2.1-n.1.2.1) * wr .i64 ((l.2.getD x38.toNat tRe.dflt).1.2.1-n.1.2.1)),AV.int IntKind.i64 (ptF (wr .i64 ((l.2.getD x38.toNat tRe.dflt).1.1-n.1.1)) (wr .i64 ((l.2.getD x38.toNat tRe.dflt).1.2.1-n.1.2.1)))]) (x127))) else none) else none) else none))))))))))) else none) else none))))) else none) else none) else (sI n.2.2.2.1 (sI n.2.2.1 (sI n.2.2.1 (sI s.2.1.1 (sI s.2.1.2.1 (some (.stop (pwnbI5 s n l (0) (x85) (x87) (0) (0) (false) (repl 32 [AV.bool false]) (1048575)))))))))):=by kernel_rfl
theorem pwnb_step5 (s:tSt.den) (n:tNi.den) (l:(Ty.sl tRe).den) (x3:Int) (x50:Nat) (x52:List AV) (x53:Int) (x54:Int) (x55:Bool) (x56:List AV) (x101:Nat):adv F6 ((Z6 [54,80,104,8]).flat [8,10]) 20000 (pwnbI5 s n l x3 x50 x52 x53 x54 x55 x56 (x101+1))=(bif !ile (wr .i64 (wr .i64 (s.2.1.2.1-s.2.1.1)+1)) x3 then some (.stop (pwnbI8 s n l (x3) (0) (x50) (x52) (x53) (x54) (x55) (x56) (1048575) (x101+1))) else (bif isZs x56 (repl 32 [AV.bool false]) 0 then some (.stop (pwnbI11 s n l (x56) (0) (x50) (x52) (x53) (x54) (x55) (1048575))) else none)):=by kernel_rfl
theorem pwnb_step8 (s:tSt.den) (n:tNi.den) (l:(Ty.sl tRe).den) (x0:Int) (x10:Int) (x57:Nat) (x59:List AV) (x60:Int) (x61:Int) (x62:Bool) (x63:List AV) (x117:Nat) (x122:Nat):adv F6 ((Z6 [54,80,104,8]).flat [8,10]) 20000 (pwnbI8 s n l x0 x10 x57 x59 x60 x61 x62 x63 (x117+1) (x122+1))=(bif !ile (wr .i64 (wr .i64 (wr .i64 (wr .i64 (n.2.2.1+n.2.2.2.1)-1)-n.2.2.1)+1)) x10 then some (.stop (pwnbI10 s n l (x57) (Int.ofNat x57) (0) (x59) (x60) (x61) (x62) (x63) (wr .i64 (s.2.1.1+x0)) ((wr .i64 (n.2.2.1+x10)).tmod 32) (1048575) (x0) (x10) (wr .i64 (n.2.2.1+x10)) (x117+1) (x122+1))) else (bif plO (AO.cells false x63) then (bif plO (AO.cells false x59) then some (.stop (pwnbI5 s n l (wr .i64 (x0+1)) (x57) (x59) (x60) (x61) (x62) (x63) (x122))) else none) else none)):=by kernel_rfl
theorem pwnb_step10 (s:tSt.den) (n:tNi.den) (l:(Ty.sl tRe).den) (x0:Nat) (x2:Int) (x3:Int) (x52:List AV) (x53:Int) (x54:Int) (x55:Bool) (x56:List AV) (x66:Int) (x67:Int) (x111:Nat) (x148:Int) (x149:Int) (x167:Int) (x216:Nat) (x221:Nat):adv F6 ((Z6 [54,80,104,8]).flat [8,10]) 20000 (pwnbI10 s n l x0 x2 x3 x52 x53 x54 x55 x56 x66 x67 (x111+1) x148 x149 x167 (x216+1) (x221+1))=(bif !ile x2 x3 then (bif inB x3 x0 then (bif isZs x52 [AV.int IntKind.i64 0,AV.int IntKind.i64 0,AV.bool false,AV.bool false,AV.int IntKind.i64 0,AV.int IntKind.i64 0] (0+x3.toNat * 6) then (bif toB (x52.getD (0+x3.toNat * 6+1+1) AV.nili) == true then (bif hcB x66 x67 (toI (x52.getD (0+x3.toNat * 6+1+1+1+1+1) AV.nili)) then (sI (toI (x52.getD (0+x3.toNat * 6+1+1+1+1) AV.nili)) (sI (toI (x52.getD (0+x3.toNat * 6+1+1+1+1+1) AV.nili)) (sB (toB (x52.getD (0+x3.toNat * 6+1+1+1) AV.nili)) (sB (toB (x52.getD (0+x3.toNat * 6+1+1+1) AV.nili)) (bif !toB (x52.getD (0+x3.toNat * 6+1+1+1) AV.nili) == hrdF x66 x67 (toI (x52.getD (0+x3.toNat * 6+1+1+1+1) AV.nili)) (toI (x52.getD (0+x3.toNat * 6+1+1+1+1+1) AV.nili)) then (bif plO (AO.cells false x56) then (bif plO (AO.cells false x52) then some (.stop (pwnbI8 s n l (x148) (wr .i64 (x149+1)) (x0) (x52) (x53) (x54) (x55) (x56) (x216) (x221+1))) else none) else none) else (bif plO (AO.cells false x56) then (bif plO (AO.cells false x52) then some (.stop (pwnbI10 s n l (x0) (x2) (wr .i64 (x3+1)) (x52) (x53) (x54) (x55) (x56) (x66) (x67) (x111) (x148) (x149) (x167) (x216+1) (x221+1))) else none) else none)))))) else none) else (bif plO (AO.cells false x56) then (bif plO (AO.cells false x52) then some (.stop (pwnbI10 s n l (x0) (x2) (wr .i64 (x3+1)) (x52) (x53) (x54) (x55) (x56) (x66) (x67) (x111) (x148) (x149) (x167) (x216+1) (x221+1))) else none) else none)) else none) else none) else (bif !x55 then (sI x66 (sI x66 (bif inB x67 32 then (bif (0+x67.toNat * 1+1).ble x56.length then (bif plO (AO.cells false (x56.set (0+x67.toNat * 1) (AV.bool true))) then (bif plO (AO.cells false x52) then some (.stop (pwnbI8 s n l (x148) (wr .i64 (x149+1)) (x0) (x52) (bif ile x66 x66 then x66 else x66) (bif ile x66 x66 then x66 else x66) (true) (x56.set (0+x67.toNat * 1) (AV.bool true)) (x216) (x221+1))) else none) else none) else none) else none))) else (sI x54 (sI x53 (bif inB x67 32 then (bif (0+x67.toNat * 1+1).ble x56.length then (bif plO (AO.cells false (x56.set (0+x67.toNat * 1) (AV.bool true))) then (bif plO (AO.cells false x52) then some (.stop (pwnbI8 s n l (x148) (wr .i64 (x149+1)) (x0) (x52) (bif ile x53 x66 then x53 else x66) (bif ile x66 x54 then x54 else x66) (x55) (x56.set (0+x67.toNat * 1) (AV.bool true)) (x216) (x221+1))) else none) else none) else none) else none))))):=by kernel_rfl
theorem pwnb_step11 (s:tSt.den) (n:tNi.den) (l:(Ty.sl tRe).den) (x32:List AV) (x33:Int) (x80:Nat) (x82:List AV) (x83:Int) (x84:Int) (x85:Bool) (x128:Nat):adv F6 ((Z6 [54,80,104,8]).flat [8,10]) 20000 (pwnbI11 s n l x32 x33 x80 x82 x83 x84 x85 (x128+1))=(bif !ile 32 x33 then (bif inB x33 32 then (bif isZs (asZs x32 (repl 32 [AV.bool false]) 0) [AV.bool false] (x33.toNat * 1) then (bif toB ((asZs x32 (repl 32 [AV.bool false]) 0).getD (x33.toNat * 1) AV.nili) then (bif plO (AO.cells false x32) then (bif plO (AO.cells false x82) then some (.stop (pwnbI12 s n l (1) (x32) (wr .i64 (x33+1)) (x80) (x82) (x83) (x84) (x85) ([AV.int IntKind.i64 x33]) (x128))) else none) else none) else (bif plO (AO.cells false x32) then (bif plO (AO.cells false x82) then some (.stop (pwnbI11 s n l (x32) (wr .i64 (x33+1)) (x80) (x82) (x83) (x84) (x85) (x128))) else none) else none)) else none) else none) else (bif x85 then (sI x83 (sI x84 (sI x83 (sI x84 (some (.done (.tup [(.agg [(.int .i64 (x83)),(.int .i64 (x84))]),.nils,(.int .i64 (0))]))))))) else (sI x83 (sI x84 (sI x83 (sI x84 (some (.done (.tup [(.agg [(.int .i64 (x83)),(.int .i64 (x84))]),.nils,(.int .i64 (9))]))))))))):=by kernel_rfl
theorem pwnb_step12 (s:tSt.den) (n:tNi.den) (l:(Ty.sl tRe).den) (x13:Nat) (x34:List AV) (x35:Int) (x82:Nat) (x84:List AV) (x85:Int) (x86:Int) (x87:Bool) (x96:List AV) (x131:Nat):adv F6 ((Z6 [54,80,104,8]).flat [8,10]) 20000 (pwnbI12 s n l x13 x34 x35 x82 x84 x85 x86 x87 x96 (x131+1))=(bif !ile 32 x35 then (bif inB x35 32 then (bif isZs (asZs x34 (repl 32 [AV.bool false]) 0) [AV.bool false] (x35.toNat * 1) then (bif toB ((asZs x34 (repl 32 [AV.bool false]) 0).getD (x35.toNat * 1) AV.nili) then (bif (0+x13 * 1).beq x96.length then (bif x13.ble 1048576 then (bif plO (AO.cells false (x96++[AV.int IntKind.i64 x35])) then (bif plO (AO.cells false x34) then (bif plO (AO.cells false x84) then some (.stop (pwnbI12 s n l (x13+1) (x34) (wr .i64 (x35+1)) (x82) (x84) (x85) (x86) (x87) (x96++[AV.int IntKind.i64 x35]) (x131))) else none) else none) else none) else none) else none) else (bif plO (AO.cells false x96) then (bif plO (AO.cells false x34) then (bif plO (AO.cells false x84) then some (.stop (pwnbI12 s n l (x13) (x34) (wr .i64 (x35+1)) (x82) (x84) (x85) (x86) (x87) (x96) (x131))) else none) else none) else none)) else none) else none) else (bif x87 then (sI x85 (sI x86 (sI x85 (sI x86 (bif plainL x96 then some (.done (.tup [(.agg [(.int .i64 (x85)),(.int .i64 (x86))]),(.csl (x96) (x13)),(.int .i64 (0))])) else none))))) else (sI x85 (sI x86 (sI x85 (sI x86 (bif plainL x96 then some (.done (.tup [(.agg [(.int .i64 (x85)),(.int .i64 (x86))]),(.csl (x96) (x13)),(.int .i64 (9))])) else none))))))):=by kernel_rfl
section
variable {s:tSt.den} {n:tNi.den} {b:Bool}
theorem Zwa_ok:((Z6 [54,80,104,8]).flat [8,9]).ok F6:=Z6_ok [99,122,142,19]
theorem Zwb_ok:((Z6 [54,80,104,8]).flat [8,10]).ok F6:=Z6_ok [99,122,142,19]
theorem pwna_o2 (lo hi:Int) (y:Bool) (B:List Bool) (hB:B.length=32):∀ (r k m:Nat) (L:List Int),k+r=32→r<m→L.length≤k→L≠[]→Ans F6 (pwnaI7 s n b L.length (bl B) (k:Int) lo hi y (flat tI L) m) (wtup lo hi (L++outG B k r) (bif y then 0 else 9))
 |0,k,m+1,L,hk,hm,hl,hn=>by
  have h:=pwna_step7 s n b L.length (bl B) (k:Int) lo hi y (flat tI L) m
  simp only[ile_t (show (32:Int)≤k by omega),Bool.not_true,cond_false,ieq_self,sI_eq,sB_eq,sV_eq,bbeq_self,vsB_self,flatI_plain,cond_true] at h
  rw[outG,List.append_nil]
  cases y<;>exact doneW1 Zwa_ok F6sy hn h
 | r + 1, k, m + 1, L, hk, hm, hl, hn => by
  have h:=pwna_step7 s n b L.length (bl B) (k:Int) lo hi y (flat tI L) m
  obtain⟨z1,z2⟩:=bl_at (B:=B) (k:=k) (by omega)
  have p1:plO (.cells false (bl B))=true:=bl_plain B
  have p2:plO (.cells false (flat tI L))=true:=flatI_plain L
  have p3:plO (.cells false (flat tI (L++[(k:Int)])))=true:=flatI_plain _
  have b1:=beq_flatI L
  have b2:L.length.ble 1048576=true:=Nat.ble_eq_true_of_le (by omega)
  simp only[ile_f (show (k:Int)<(32:Int) by omega),Bool.not_false,cond_true,inB_at (show k<32 by omega),bl_asZs hB,z1,z2,wr_succ (show k<1048577 by omega)] at h
  rw[outG]
  cases c:B.getD k false with
  |false=>
   simp only[c,cond_false,p1,p2,cond_true] at h
   rw[cond_false]
   exact .stop Zwa_ok F6sy h (pwna_o2 lo hi y B hB r (k+1) m L (by omega) (by omega) (by omega) hn)
  |true=>
   simp only[c,cond_true,b1,b2,p1,flatI_add,p3,cond_true] at h
   rw[cond_true]
   have ih:=pwna_o2 lo hi y B hB r (k+1) m (L++[(k:Int)]) (by omega) (by omega) (by rw[List.length_append];show L.length+1≤_;omega) (by simp)
   rw[show (L++[(k:Int)]).length=L.length+1 from List.length_append,List.append_assoc] at ih
   exact .stop Zwa_ok F6sy h ih
theorem pwna_o1 (lo hi:Int) (y:Bool) (B:List Bool) (hB:B.length=32):∀ (r k m:Nat),k+r=32→r<m→Ans F6 (pwnaI6 s n b (bl B) (k:Int) lo hi y m) (wtup lo hi (outG B k r) (bif y then 0 else 9))
 |0,k,m+1,hk,hm=>by
  have h:=pwna_step6 s n b (bl B) (k:Int) lo hi y m
  simp only[ile_t (show (32:Int)≤k by omega),Bool.not_true,cond_false,ieq_self,sI_eq,sB_eq,sV_eq,bbeq_self,vsB_self,cond_true] at h
  cases y<;>exact doneW0 Zwa_ok F6sy h
 | r + 1, k, m + 1, hk, hm => by
  have h:=pwna_step6 s n b (bl B) (k:Int) lo hi y m
  obtain⟨z1,z2⟩:=bl_at (B:=B) (k:=k) (by omega)
  have p1:plO (.cells false (bl B))=true:=bl_plain B
  simp only[ile_f (show (k:Int)<(32:Int) by omega),Bool.not_false,cond_true,inB_at (show k<32 by omega),bl_asZs hB,z1,z2,wr_succ (show k<1048577 by omega)] at h
  rw[outG]
  cases c:B.getD k false with
  |false=>
   simp only[c,cond_false,p1,cond_true] at h
   rw[cond_false]
   exact .stop Zwa_ok F6sy h (pwna_o1 lo hi y B hB r (k+1) m (by omega) (by omega))
  |true=>
   simp only[c,cond_true,p1,cond_true] at h
   rw[cond_true]
   have ih:=pwna_o2 (s:=s) (n:=n) (b:=b) lo hi y B hB r (k+1) m [(k:Int)] (by omega) (by omega) (by show 1≤_;omega) (by simp)
   exact .stop Zwa_ok F6sy h ih
structure RngV (s:tSt.den) (n:tNi.den):Prop where
 w:RngW s n
 wl:wr .i64 (wr .i64 (lHi s-lLo s)+1)=(nL s:Int)
 ww:wr .i64 (wr .i64 (wr .i64 (wr .i64 (wLo n+wN n)-1)-wLo n)+1)=(nW n:Int)
 nl:nL s≤200
 nw:nW n≤32
theorem rngv_ok {l:List tRe.den} (hN:NigOK s n l):RngV s n:=by
 have R:=rngw_ok hN
 have g:=R.g
 have w:=R.w
 refine⟨R,?_,?_,?_,?_⟩
 · unfold nL;rw[wr_in (n:=lHi s-lLo s) (by omega) (by omega),wr_in (by omega) (by omega)];omega
 · unfold nW;rw[wr_in (n:=wLo n+wN n) (by omega) (by omega),wr_in (n:=wLo n+wN n-1) (by omega) (by omega),wr_in (n:=wLo n+wN n-1-wLo n) (by omega) (by omega),wr_in (by omega) (by omega)];omega
 · unfold nL;omega
 · unfold nW;omega
theorem met_at {B:List Bool} (hB:B.length=32) {p:Int} (hv:inV p=true):inB p 32=true∧(0+Int.toNat p * 1+1).ble (bl B).length=true∧(bl B).set (0+Int.toNat p * 1) (AV.bool true)=bl (B.set p.toNat true)∧plO (.cells false (bl (B.set p.toNat true)))=true:=by
 simp only[inV,Bool.and_eq_true,ile_iff,decide_eq_true_eq] at hv
 refine⟨inB_of hv.1 (by show p<32;omega),?_,?_,bl_plain _⟩
 · rw[bl_len,hB];exact Nat.ble_eq_true_of_le (by omega)
 · rw[show 0+Int.toNat p * 1=p.toNat by omega,bl_set]
theorem pwna_i5 {v:AV} (i k m M O:Nat) (x:W3) (hB:x.2.length=32) (a p z:Int) (hv:inV p=true) (hk:k<1048577) (K:Ans F6 (pwnaI3 s n b (i:Int) ((k+1:Nat):Int) (mtW x (a,p,())).1.1 (mtW x (a,p,())).1.2.1 (mtW x (a,p,())).1.2.2 (bl (mtW x (a,p,())).2) M (O+1)) v) :
  Ans F6 (pwnaI5 s n b x.1.1 x.1.2.1 x.1.2.2 (bl x.2) a p (m+1) (i:Int) (k:Int) z (M+1) (O+1)) v:=by
 obtain⟨⟨lo,hi,y⟩,B⟩:=x
 have h:=pwna_step5 s n b lo hi y (bl B) a p m (i:Int) (k:Int) z M O
 obtain⟨z1,z2,z3,z4⟩:=met_at hB hv
 simp only[ieq_self,sI_eq,sB_eq,sV_eq,cond_true,wr_succ hk,z1,z2,z3,z4] at h
 unfold mtW mtL mtH at K
 cases y<;>simp only[Bool.not_true,Bool.not_false,cond_true,cond_false] at h K<;>exact .stop Zwa_ok F6sy h K
theorem pwna_in (R:RngV s n) (i:Nat) (hi:i<nL s) (rest:List tP.den) (O:Nat) (K:∀ x:W3,x.2.length=32→Ans F6 (pwnaI1 s n b ((i+1:Nat):Int) x.1.1 x.1.2.1 x.1.2.2 (bl x.2) O) (wndV (rest.foldl mtW x))) :
  ∀ (r k m:Nat) (x:W3),x.2.length=32→k+r=nW n→r<m→Ans F6 (pwnaI3 s n b (i:Int) (k:Int) x.1.1 x.1.2.1 x.1.2.2 (bl x.2) m (O+1)) (wndV ((rowW (wLo n) (lLo s+i) r k++rest).foldl mtW x))
 |0,k,m+1,x,hB,hk,hm=>by
  have h:=pwna_step3 s n b (i:Int) (k:Int) x.1.1 x.1.2.1 x.1.2.2 (bl x.2) m O
  have e:wr .i64 (wr .i64 (wr .i64 (wr .i64 (n.2.2.1+n.2.2.2.1)-1)-n.2.2.1)+1)=(nW n:Int):=R.ww
  have:=R.nl
  have p1:plO (.cells false (bl x.2))=true:=bl_plain _
  rw[e,ile_t (show ((nW n:Nat):Int)≤k by omega),Bool.not_true,cond_false,wr_succ (show i<1048577 by omega),p1,cond_true] at h
  exact .stop Zwa_ok F6sy h (K x hB)
 |r+1,k,m+1,x,hB,hk,hm=>by
  have h:=pwna_step3 s n b (i:Int) (k:Int) x.1.1 x.1.2.1 x.1.2.2 (bl x.2) m O
  have e:wr .i64 (wr .i64 (wr .i64 (wr .i64 (n.2.2.1+n.2.2.2.1)-1)-n.2.2.1)+1)=(nW n:Int):=R.ww
  have n1:=R.nl
  have n2:=R.nw
  have g:=R.w.g
  have w:=R.w.w
  have nle:((nL s:Nat):Int)=lHi s-lLo s+1:=by unfold nL;omega
  rw[e,ile_f (show (k:Int)<((nW n:Nat):Int) by omega),Bool.not_false,cond_true] at h
  have w1:wr .i64 (s.2.1.1+(i:Int))=lLo s+i:=wr_in (n:=lLo s+(i:Int)) (by omega) (by omega)
  have w2:wr .i64 (n.2.2.1+(k:Int))=wLo n+k:=wr_in (n:=wLo n+(k:Int)) (by omega) (by omega)
  rw[w1,w2] at h
  exact .stop Zwa_ok F6sy h (pwna_i5 i k 1048574 m O x hB _ _ _ (w32 w.1.1 (by omega)) (by omega) (pwna_in R i hi rest O K r (k+1) m _ (by rw[mtW_len];exact hB) (by omega) (by omega)))
theorem pwna_out (R:RngV s n):∀ (r i m:Nat) (x:W3) (a:Int),x.2.length=32→a=lLo s+i→i+r=nL s→r<m→Ans F6 (pwnaI1 s n b (i:Int) x.1.1 x.1.2.1 x.1.2.2 (bl x.2) m) (wndV ((allW (wLo n) (nW n) r a).foldl mtW x))
 |0,i,m+1,x,a,hB,ha,hi,hm=>by
  have h:=pwna_step1 s n b (i:Int) x.1.1 x.1.2.1 x.1.2.2 (bl x.2) m
  have e:wr .i64 (wr .i64 (s.2.1.2.1-s.2.1.1)+1)=(nL s:Int):=R.wl
  rw[e,ile_t (show ((nL s:Nat):Int)≤i by omega),Bool.not_true,cond_false,bl_isZs 32 0 (by omega),cond_true] at h
  exact .stop Zwa_ok F6sy h (pwna_o1 x.1.1 x.1.2.1 x.1.2.2 x.2 hB 32 0 1048575 (by omega) (by omega))
 |r+1,i,m+1,x,a,hB,ha,hi,hm=>by
  have h:=pwna_step1 s n b (i:Int) x.1.1 x.1.2.1 x.1.2.2 (bl x.2) m
  have e:wr .i64 (wr .i64 (s.2.1.2.1-s.2.1.1)+1)=(nL s:Int):=R.wl
  rw[e,ile_f (show (i:Int)<((nL s:Nat):Int) by omega),Bool.not_false,cond_true] at h
  subst ha
  exact .stop Zwa_ok F6sy h (pwna_in R i (by omega) _ m (fun x hx=>pwna_out R r (i+1) m x _ hx (by omega) (by omega) (by omega)) (nW n) 0 1048575 x hB (by omega) (by have:=R.nw;omega))
end
section
variable {s:tSt.den} {n:tNi.den} {l:(Ty.sl tRe).den}
theorem pwnb_o2 (lo hi:Int) (y:Bool) (B:List Bool) (hB:B.length=32):∀ (r k m:Nat) (L:List Int),k+r=32→r<m→L.length≤k→L≠[]→Ans F6 (pwnbI12 s n l L.length (bl B) (k:Int) l.2.length (rps n l.2) lo hi y (flat tI L) m) (wtup lo hi (L++outG B k r) (bif y then 0 else 9))
 |0,k,m+1,L,hk,hm,hl,hn=>by
  have h:=pwnb_step12 s n l L.length (bl B) (k:Int) l.2.length (rps n l.2) lo hi y (flat tI L) m
  simp only[ile_t (show (32:Int)≤k by omega),Bool.not_true,cond_false,ieq_self,sI_eq,sB_eq,sV_eq,bbeq_self,vsB_self,flatI_plain,cond_true] at h
  rw[outG,List.append_nil]
  cases y<;>exact doneW1 Zwb_ok F6sy hn h
 | r + 1, k, m + 1, L, hk, hm, hl, hn => by
  have h:=pwnb_step12 s n l L.length (bl B) (k:Int) l.2.length (rps n l.2) lo hi y (flat tI L) m
  obtain⟨z1,z2⟩:=bl_at (B:=B) (k:=k) (by omega)
  have p1:plO (.cells false (bl B))=true:=bl_plain B
  have p2:plO (.cells false (flat tI L))=true:=flatI_plain L
  have p3:plO (.cells false (flat tI (L++[(k:Int)])))=true:=flatI_plain _
  have b1:=beq_flatI L
  have b2:L.length.ble 1048576=true:=Nat.ble_eq_true_of_le (by omega)
  simp only[ile_f (show (k:Int)<(32:Int) by omega),Bool.not_false,cond_true,inB_at (show k<32 by omega),bl_asZs hB,z1,z2,wr_succ (show k<1048577 by omega)] at h
  rw[outG]
  cases c:B.getD k false with
  |false=>
   simp only[c,cond_false,p1,p2,rps_plO,cond_true] at h
   rw[cond_false]
   exact .stop Zwb_ok F6sy h (pwnb_o2 lo hi y B hB r (k+1) m L (by omega) (by omega) (by omega) hn)
  |true=>
   simp only[c,cond_true,b1,b2,p1,flatI_add,p3,rps_plO,cond_true] at h
   rw[cond_true]
   have ih:=pwnb_o2 lo hi y B hB r (k+1) m (L++[(k:Int)]) (by omega) (by omega) (by rw[List.length_append];show L.length+1≤_;omega) (by simp)
   rw[show (L++[(k:Int)]).length=L.length+1 from List.length_append,List.append_assoc] at ih
   exact .stop Zwb_ok F6sy h ih
theorem pwnb_o1 (lo hi:Int) (y:Bool) (B:List Bool) (hB:B.length=32):∀ (r k m:Nat),k+r=32→r<m→Ans F6 (pwnbI11 s n l (bl B) (k:Int) l.2.length (rps n l.2) lo hi y m) (wtup lo hi (outG B k r) (bif y then 0 else 9))
 |0,k,m+1,hk,hm=>by
  have h:=pwnb_step11 s n l (bl B) (k:Int) l.2.length (rps n l.2) lo hi y m
  simp only[ile_t (show (32:Int)≤k by omega),Bool.not_true,cond_false,ieq_self,sI_eq,sB_eq,sV_eq,bbeq_self,vsB_self,cond_true] at h
  cases y<;>exact doneW0 Zwb_ok F6sy h
 | r + 1, k, m + 1, hk, hm => by
  have h:=pwnb_step11 s n l (bl B) (k:Int) l.2.length (rps n l.2) lo hi y m
  obtain⟨z1,z2⟩:=bl_at (B:=B) (k:=k) (by omega)
  have p1:plO (.cells false (bl B))=true:=bl_plain B
  simp only[ile_f (show (k:Int)<(32:Int) by omega),Bool.not_false,cond_true,inB_at (show k<32 by omega),bl_asZs hB,z1,z2,wr_succ (show k<1048577 by omega)] at h
  rw[outG]
  cases c:B.getD k false with
  |false=>
   simp only[c,cond_false,p1,rps_plO,cond_true] at h
   rw[cond_false]
   exact .stop Zwb_ok F6sy h (pwnb_o1 lo hi y B hB r (k+1) m (by omega) (by omega))
  |true=>
   simp only[c,cond_true,p1,rps_plO,cond_true] at h
   rw[cond_true]
   have ih:=pwnb_o2 (s:=s) (n:=n) (l:=l) lo hi y B hB r (k+1) m [(k:Int)] (by omega) (by omega) (by show 1≤_;omega) (by simp)
   exact .stop Zwb_ok F6sy h ih
theorem pwnb_i10 {v:AV} (hn:in3 n.1.1 n.1.2.1=true) (h8:l.2.length≤8) (hl:repB l.2=true) (a p z:Int) (ha:1≤a∧a≤200) (hv:inV p=true) (x:W3) (hB:x.2.length=32) (i k M O:Nat) (hk:k<1048577)
  (K1:agrF n l.2 (a,p,()) true=true→Ans F6 (pwnbI8 s n l (i:Int) ((k+1:Nat):Int) l.2.length (rps n l.2) (mtW x (a,p,())).1.1 (mtW x (a,p,())).1.2.1 (mtW x (a,p,())).1.2.2 (bl (mtW x (a,p,())).2) M (O+1)) v)
  (K0:agrF n l.2 (a,p,()) true=false→Ans F6 (pwnbI8 s n l (i:Int) ((k+1:Nat):Int) l.2.length (rps n l.2) x.1.1 x.1.2.1 x.1.2.2 (bl x.2) M (O+1)) v) :
  ∀ (r j m:Nat),j+r=l.2.length→r<m→agrF n l.2 (a,p,()) true=agrF n (l.2.drop j) (a,p,()) true→Ans F6 (pwnbI10 s n l l.2.length (l.2.length:Int) (j:Int) (rps n l.2) x.1.1 x.1.2.1 x.1.2.2 (bl x.2) a p m (i:Int) (k:Int) z (M+1) (O+1)) v
 |0,j,m+1,hj,hm,hd=>by
  obtain⟨⟨lo,hi,y⟩,B⟩:=x
  have h:=pwnb_step10 s n l l.2.length (l.2.length:Int) (j:Int) (rps n l.2) lo hi y (bl B) a p m (i:Int) (k:Int) z M O
  rw[List.drop_eq_nil_of_le (by omega)] at hd
  have K:=K1 hd
  obtain⟨z1,z2,z3,z4⟩:=met_at hB hv
  simp only[ile_t (show ((l.2.length:Nat):Int)≤j by omega),Bool.not_true,cond_false,ieq_self,sI_eq,sB_eq,sV_eq,cond_true,wr_succ hk,z1,z2,z3,z4,rps_plO] at h
  unfold mtW mtL mtH at K
  clear K1 K0
  cases y<;>simp only[Bool.not_true,Bool.not_false,cond_true,cond_false] at h K<;>exact .stop Zwb_ok F6sy h K
 | r + 1, j, m + 1, hj, hm, hd => by
  have h:=pwnb_step10 s n l l.2.length (l.2.length:Int) (j:Int) (rps n l.2) x.1.1 x.1.2.1 x.1.2.2 (bl x.2) a p m (i:Int) (k:Int) z M O
  have hlt:j<l.2.length:=by omega
  have hr:in3 (l.2[j]).1.1 (l.2[j]).1.2.1=true:=List.all_eq_true.1 hl _ (List.getElem_mem hlt)
  obtain⟨z1,z2,z3,z4,z5⟩:=rps_at (n:=n) hlt
  have hpt:inV (rpOf n l.2[j]).2.2.2.2.2.1=true:=ptF_b _ _
  have hcb:hcB a p (rpOf n l.2[j]).2.2.2.2.2.1=true:=by
   unfold hcB;rw[ile_t ha.1,ile_t ha.2,hv,hpt];rfl
  have p1:plO (.cells false (bl x.2))=true:=bl_plain _
  simp only[ile_f (show ((j:Nat):Int)<(l.2.length:Int) by omega),Bool.not_false,cond_true,inB_at hlt,z1,z2,z3,z4,z5,hcb,ieq_self,sI_eq,sB_eq,sV_eq,bbeq_self,rps_plO,p1,wr_succ hk,wr_succ (show j<1048577 by omega)] at h
  rw[List.drop_eq_getElem_cons hlt] at hd
  have ih:=pwnb_i10 hn h8 hl a p z ha hv x hB i k M O hk K1 K0 r (j+1) m (by omega) (by omega)
  have e:agrF n (l.2[j]::l.2.drop (j+1)) (a,p,()) true=(agr1 n (a,p,()) true l.2[j]&&agrF n (l.2.drop (j+1)) (a,p,()) true):=rfl
  rw[e] at hd
  unfold agr1 at hd
  have es:metF n (l.2[j]).1 (a,p,()) true=hrdF a p (rpOf n l.2[j]).2.2.2.2.1 (rpOf n l.2[j]).2.2.2.2.2.1:=rfl
  rw[es] at hd
  cases c1:(l.2[j]).2.1 == true with
  |false=>
   rw[c1,cond_false] at h
   rw[c1,cond_false,Bool.true_and] at hd
   exact .stop Zwb_ok F6sy h (ih hd)
  | true =>
   rw[c1,cond_true] at h
   rw[c1,cond_true] at hd
   cases c2:(l.2[j]).2.2.1 == hrdF a p (rpOf n l.2[j]).2.2.2.2.1 (rpOf n l.2[j]).2.2.2.2.2.1 with
   |false=>
    rw[c2,Bool.false_and] at hd
    rw[c2,Bool.not_false,cond_true] at h
    exact .stop Zwb_ok F6sy h (K0 hd)
   |true=>
    rw[c2,Bool.true_and] at hd
    rw[c2,Bool.not_true,cond_false] at h
    exact .stop Zwb_ok F6sy h (ih hd)
theorem pwnb_in (R:RngV s n) (hn:in3 n.1.1 n.1.2.1=true) (h8:l.2.length≤8) (hl:repB l.2=true) (i:Nat) (hi:i<nL s) (rest:List tP.den) (O:Nat) (K:∀ x:W3,x.2.length=32→Ans F6 (pwnbI5 s n l ((i+1:Nat):Int) l.2.length (rps n l.2) x.1.1 x.1.2.1 x.1.2.2 (bl x.2) O) (wndV ((rest.filter fun t=>agrF n l.2 t true).foldl mtW x))) :
  ∀ (r k m:Nat) (x:W3),x.2.length=32→k+r=nW n→r<m→Ans F6 (pwnbI8 s n l (i:Int) (k:Int) l.2.length (rps n l.2) x.1.1 x.1.2.1 x.1.2.2 (bl x.2) m (O+1)) (wndV (((rowW (wLo n) (lLo s+i) r k++rest).filter fun t=>agrF n l.2 t true).foldl mtW x))
 |0,k,m+1,x,hB,hk,hm=>by
  have h:=pwnb_step8 s n l (i:Int) (k:Int) l.2.length (rps n l.2) x.1.1 x.1.2.1 x.1.2.2 (bl x.2) m O
  have e:wr .i64 (wr .i64 (wr .i64 (wr .i64 (n.2.2.1+n.2.2.2.1)-1)-n.2.2.1)+1)=(nW n:Int):=R.ww
  have:=R.nl
  have p1:plO (.cells false (bl x.2))=true:=bl_plain _
  rw[e,ile_t (show ((nW n:Nat):Int)≤k by omega),Bool.not_true,cond_false,wr_succ (show i<1048577 by omega),p1,cond_true,rps_plO,cond_true] at h
  exact .stop Zwb_ok F6sy h (K x hB)
 | r + 1, k, m + 1, x, hB, hk, hm => by
  have h:=pwnb_step8 s n l (i:Int) (k:Int) l.2.length (rps n l.2) x.1.1 x.1.2.1 x.1.2.2 (bl x.2) m O
  have e:wr .i64 (wr .i64 (wr .i64 (wr .i64 (n.2.2.1+n.2.2.2.1)-1)-n.2.2.1)+1)=(nW n:Int):=R.ww
  have n1:=R.nl
  have n2:=R.nw
  have g:=R.w.g
  have w:=R.w.w
  have nle:((nL s:Nat):Int)=lHi s-lLo s+1:=by unfold nL;omega
  rw[e,ile_f (show (k:Int)<((nW n:Nat):Int) by omega),Bool.not_false,cond_true] at h
  have w1:wr .i64 (s.2.1.1+(i:Int))=lLo s+i:=wr_in (n:=lLo s+(i:Int)) (by omega) (by omega)
  have w2:wr .i64 (n.2.2.1+(k:Int))=wLo n+k:=wr_in (n:=wLo n+(k:Int)) (by omega) (by omega)
  rw[w1,w2] at h
  have ih:=fun x hx=>pwnb_in R hn h8 hl i hi rest O K r (k+1) m x hx (by omega) (by omega)
  refine .stop Zwb_ok F6sy h (pwnb_i10 hn h8 hl (lLo s+i) ((wLo n+k).tmod 32) _ (by omega) (w32 w.1.1 (by omega)) x hB i k m O (by omega) (fun c=>?_) (fun c=>?_) l.2.length 0 1048575 (by omega) (by omega) rfl)
  · have e : (rowW (wLo n) (lLo s + i) (r + 1) k ++ rest).filter (fun t => agrF n l.2 t true) = (lLo s + i, (wLo n + k).tmod 32, ()) :: (rowW (wLo n) (lLo s + i) r (k + 1) ++ rest).filter (fun t => agrF n l.2 t true) :=
     List.filter_cons_of_pos c
    rw[e]
    exact ih _ (by rw[mtW_len];exact hB)
  · have e : (rowW (wLo n) (lLo s + i) (r + 1) k ++ rest).filter (fun t => agrF n l.2 t true) = (rowW (wLo n) (lLo s + i) r (k + 1) ++ rest).filter (fun t => agrF n l.2 t true) :=
     List.filter_cons_of_neg (by rw[c];decide)
    rw[e]
    exact ih _ hB
theorem pwnb_out (R:RngV s n) (hn:in3 n.1.1 n.1.2.1=true) (h8:l.2.length≤8) (hl:repB l.2=true):∀ (r i m:Nat) (x:W3) (a:Int),x.2.length=32→a=lLo s+i→i+r=nL s→r<m→Ans F6 (pwnbI5 s n l (i:Int) l.2.length (rps n l.2) x.1.1 x.1.2.1 x.1.2.2 (bl x.2) m) (wndV (((allW (wLo n) (nW n) r a).filter fun t=>agrF n l.2 t true).foldl mtW x))
 |0,i,m+1,x,a,hB,ha,hi,hm=>by
  have h:=pwnb_step5 s n l (i:Int) l.2.length (rps n l.2) x.1.1 x.1.2.1 x.1.2.2 (bl x.2) m
  have e:wr .i64 (wr .i64 (s.2.1.2.1-s.2.1.1)+1)=(nL s:Int):=R.wl
  rw[e,ile_t (show ((nL s:Nat):Int)≤i by omega),Bool.not_true,cond_false,bl_isZs 32 0 (by omega),cond_true] at h
  exact .stop Zwb_ok F6sy h (pwnb_o1 x.1.1 x.1.2.1 x.1.2.2 x.2 hB 32 0 1048575 (by omega) (by omega))
 |r+1,i,m+1,x,a,hB,ha,hi,hm=>by
  have h:=pwnb_step5 s n l (i:Int) l.2.length (rps n l.2) x.1.1 x.1.2.1 x.1.2.2 (bl x.2) m
  have e:wr .i64 (wr .i64 (s.2.1.2.1-s.2.1.1)+1)=(nL s:Int):=R.wl
  rw[e,ile_f (show (i:Int)<((nL s:Nat):Int) by omega),Bool.not_false,cond_true] at h
  subst ha
  exact .stop Zwb_ok F6sy h (pwnb_in R hn h8 hl i (by omega) _ m (fun x hx=>pwnb_out R hn h8 hl r (i+1) m x _ hx (by omega) (by omega) (by omega)) (nW n) 0 1048575 x hB (by omega) (by have:=R.nw;omega))
theorem avbeq_sl8 (n:Nat):avbeq (AV.sl 8 0 n n 6) (AV.sl 8 0 n n 6)=true:=by
 simp[avbeq]
theorem pwnb_nv (R:RngV s n) (hN:NigOK s n l.2):∀ (r k m:Nat),1≤k→k+r=l.2.length→r<m→Ans F6 (pwnbI2 s n l (k:Int) k (rps n (l.2.take k)) m) (wndV ((trT s n l.2 true).foldl mtW wnd0))
 |0,k,m+1,h1,hk,hm=>by
  have h:=pwnb_step2 s n l (k:Int) k (rps n (l.2.take k)) m
  have h8:=hN.len
  have ek:k=l.2.length:=by omega
  subst ek
  rw[List.take_length] at h⊢
  rw[bl_rep] at h
  simp only[ile_t (show Int.ofNat l.2.length≤((l.2.length:Nat):Int) from Int.le_refl _),Bool.not_true,cond_false,ieq_self,sI_eq,sB_eq,sV_eq,bbeq_self,vsB_self,rps_plO,cond_true] at h
  exact .stop Zwb_ok F6sy h (pwnb_out R hN.at_ h8 hN.reps (nL s) 0 1048575 wnd0 (lLo s) (by simp[wnd0]) (by omega) (by omega) (by have:=R.nl;omega))
 | r + 1, k, m + 1, h1, hk, hm => by
  have h:=pwnb_step2 s n l (k:Int) k (rps n (l.2.take k)) m
  have h8:=hN.len
  have hlt:k<l.2.length:=by omega
  have hr:in3 (l.2[k]).1.1 (l.2[k]).1.2.1=true:=List.all_eq_true.1 hN.reps _ (List.getElem_mem hlt)
  obtain⟨wn,wc⟩:=rp_wr hN.at_ hr
  have eg:l.2.getD (k:Int).toNat tRe.dflt=l.2[k]:=getD_at hlt
  have b1:(0+k * 6).beq (rps n (l.2.take k)).length=true:=rps_beq (by rw[List.length_take];omega)
  have b2:k.ble 1048576=true:=Nat.ble_eq_true_of_le (by omega)
  have pl:plO (.cells false (rps n (l.2.take (k+1))))=true:=rps_plO _ _
  have ap:rps n (l.2.take k)++tRp.cells (rpOf n l.2[k])=rps n (l.2.take (k+1)):=by
   rw[rps_add,← List.take_succ_eq_append_getElem hlt]
  have av:=avbeq_sl8 k
  simp only[ile_f (show ((k:Nat):Int)<Int.ofNat l.2.length by show (k:Int)<(l.2.length:Int);omega),Bool.not_false,cond_true,inB_at hlt,eg,wn,wc,ap,pl,b1,b2,av,ieq_self,sI_eq,sB_eq,sV_eq,bbeq_self,wr_succ (show k<1048577 by omega)] at h
  exact .stop Zwb_ok F6sy h (pwnb_nv R hN r (k+1) m (by omega) (by omega) (by omega))
end
theorem pwnd_call (s:tSt.den) (n:tNi.den) (l:(Ty.sl tRe).den):AnsF F6 8 [tSt.av s,tNi.av n,.vs tRe l.1 l.2] (wndS s n l.2):=by
 refine Ans.call (n:=40) (ext_none (by kernel_rfl)) (hasB_spec (by kernel_rfl)) ?_
 have h:=pwnb_start s n l
 unfold wndS
 cases c:ieq (cknS s n l.2).2 0 with
 |false=>
  simp only[c,Bool.not_false,cond_true] at h
  rw[cond_false]
  exact doneW0 Zwb_ok F6sy h
 | true =>
  simp only[c,Bool.not_true,cond_false] at h
  rw[cond_true]
  have hN:=nig_ok c
  have R:=rngv_ok hN
  have h8:=hN.len
  cases hl:l.2 with
  |nil=>
   clear h
   rw[hl] at c hN
   have h:=pwna_start s n l.1
   simp only[c,Bool.not_true,cond_false] at h
   refine .stop Zwa_ok F6sy h ?_
   have h:=pwna_step0 s n l.1 1048574
   rw[bl_rep] at h
   simp only[ieq_self,sI_eq,sB_eq,sV_eq,bbeq_self,vsB_self,cond_true] at h
   have k:=pwna_out (b:=l.1) R (nL s) 0 1048575 wnd0 (lLo s) (by simp[wnd0]) (by omega) (by omega) (by have:=R.nl;omega)
   have e:trT s n [] true=allW (wLo n) (nW n) (nL s) (lLo s):=List.filter_eq_self.2 fun _ _=>rfl
   rw[e]
   exact .stop Zwa_ok F6sy h k
  | cons r q =>
   rw[← hl]
   refine .stop Zwb_ok F6sy h ?_
   have h:=pwnb_step0 s n l 1048574
   have hlt:0<l.2.length:=by rw[hl];simp
   have hr:in3 (l.2[0]).1.1 (l.2[0]).1.2.1=true:=List.all_eq_true.1 hN.reps _ (List.getElem_mem hlt)
   obtain⟨wn,wc⟩:=rp_wr hN.at_ hr
   have eg:l.2.getD (Int.toNat 0) tRe.dflt=l.2[0]:=getD_at (k:=0) hlt
   have ap:tRp.cells (rpOf n l.2[0])=rps n (l.2.take 1):=by
    have:=rps_add n [] l.2[0]
    have t1:=List.take_succ_eq_append_getElem hlt
    rw[List.take_zero,List.nil_append] at t1
    rw[t1]
    exact this
   have i0:inB 0 l.2.length=true:=inB_at (k:=0) hlt
   simp only[ile_f (show (0:Int)<Int.ofNat l.2.length by show (0:Int)<(l.2.length:Int);omega),Bool.not_false,cond_true,i0,eg,wn,wc,ap,ieq_self,sI_eq,sB_eq,sV_eq,bbeq_self] at h
   exact .stop Zwb_ok F6sy h (pwnb_nv R hN (l.2.length-1) 1 1048574 (by omega) (by omega) (by omega))
end Go.Proofs.YtpnipaimaohiaaaGreatDoor


set_option maxRecDepth 100000
namespace Go.Proofs.YtpnipaimaohiaaaGreatDoor
open Go Go.Eng
abbrev Q5:=Int×Int×Int×Int×Int
noncomputable def clrQ (s:tSt.den) (n:tNi.den) (l:List tRe.den):Q5:=bif ieq (cknS s n l).2 0 then (let t:=(trL s n l).foldl mt6 (0,0,false,0,0,false);(t.1,t.2.1,t.2.2.2.1,t.2.2.2.2.1,bif t.2.2.1 then 0 else 9)) else (0,0,0,0,(cknS s n l).2)
noncomputable def clrW (q:Q5):AV:=.tup [.agg [.int .i64 q.1,.int .i64 q.2.1],.agg [.int .i64 q.2.2.1,.int .i64 q.2.2.2.1],.int .i64 q.2.2.2.2]
theorem clrS_eq (s:tSt.den) (n:tNi.den) (l:List tRe.den):clrS s n l=clrW (clrQ s n l):=by
 unfold clrS clrQ
 cases ieq (cknS s n l).2 0<;>rfl
abbrev Q4:=Int×Int×List Int×Int
noncomputable def wndQ (s:tSt.den) (n:tNi.den) (l:List tRe.den):Q4:=bif ieq (cknS s n l).2 0 then (let x:=(trT s n l true).foldl mtW wnd0;(x.1.1,x.1.2.1,outG x.2 0 32,bif x.1.2.2 then 0 else 9)) else (0,0,[],(cknS s n l).2)
noncomputable def wndW (q:Q4):AV:=wtup q.1 q.2.1 q.2.2.1 q.2.2.2
theorem wndS_eq (s:tSt.den) (n:tNi.den) (l:List tRe.den):wndS s n l=wndW (wndQ s n l):=by
 unfold wndS wndQ
 cases ieq (cknS s n l).2 0<;>rfl
theorem outG_len (B:List Bool):∀ (r k:Nat),(outG B k r).length≤r
 |0,_=>Nat.le_refl _
 |r+1,k=>by
  rw[outG]
  have:=outG_len B r (k+1)
  cases B.getD k false with
  |false=>rw[cond_false];omega
  |true=>rw[cond_true,List.length_cons];omega
theorem wndQ_len (s:tSt.den) (n:tNi.den) (l:List tRe.den):(wndQ s n l).2.2.1.length≤32:=by
 unfold wndQ
 cases ieq (cknS s n l).2 0 with
 |false=>exact Nat.zero_le _
 |true=>exact outG_len _ 32 0
end Go.Proofs.YtpnipaimaohiaaaGreatDoor


set_option maxRecDepth 100000
namespace Go.Proofs.YtpnipaimaohiaaaGreatDoor
open Go Go.Eng
noncomputable def pcolk0 (z0:tSt.den):AV:=(.agg [(.vs tGr (z0.1.1) (z0.1.2)),(iI (z0.2.1.1)),(iI (z0.2.1.2.1)),(iI (z0.2.2.1.1)),(iI (z0.2.2.1.2.1))])
noncomputable def pcolk4 (z0:tNi.den):AV:=(.agg [(iI (z0.1.1)),(iI (z0.1.2.1)),(iI (z0.2.1)),(iI (z0.2.2.1)),(iI (z0.2.2.2.1))])
noncomputable def pcolk20 (z0:tSt.den) (z1:tNi.den):AV:=(.agg [(.vs tGr (z0.1.1) (z0.1.2)),(iI (z0.2.1.1)),(iI (z0.2.1.2.1)),(iI (z0.2.2.1.1)),(iI (z0.2.2.1.2.1)),(iI (z1.1.1)),(iI (z1.1.2.1)),(iI (z1.2.1)),(iI (z1.2.2.1)),(iI (z1.2.2.2.1)),.nils])
noncomputable def pcolQ0 (s:tSt.den) (n:tNi.den) (l:(Ty.sl tRe).den):Tmps:=(tmOf 37 [(0,(pcolk0 s)),(1,(pcolk4 n)),(2,(.vs tRe (l.1) (l.2))),(3,(pP 10 0)),(4,(pP 11 0)),(6,.nilp),(7,(pP 12 0)),(10,(pcolk0 s)),(11,(pcolk4 n)),(12,(pcolk20 s n)),(13,(pP 12 0)),(14,(.vs tRe (l.1) (l.2))),(15,(iI (Int.ofNat l.2.length))),(16,(iI 0))])
noncomputable def pcolQ1 (s:tSt.den) (n:tNi.den) (l:(Ty.sl tRe).den):Tmps:=(tmOf 41 [(0,(pcolk0 s)),(1,(pcolk4 n)),(2,(.vs tRe (l.1) (l.2))),(3,(.sl 4 0 (1) (1) 1)),(4,(pP 8 0)),(5,(pP 9 0)),(8,.nilp),(9,(iI 0)),(10,(iI ((cknS s n l.2).1))),(11,(iI ((cknS s n l.2).2))),(15,(.tup [(iI ((cknS s n l.2).1)),(iI ((cknS s n l.2).2))])),(16,(pcolk0 s)),(17,(pcolk4 n)),(18,(.vs tRe (l.1) (l.2))),(19,(.tup [(iI ((cknS s n l.2).1)),(iI ((cknS s n l.2).2))])),(20,(iI ((cknS s n l.2).1))),(21,(iI ((cknS s n l.2).2))),(22,(iI ((cknS s n l.2).2))),(23,(.bool false)),(25,(.sl 4 0 (1) (1) 1)),(26,(iI 1)),(27,(iI 1)),(28,(.bool false)),(37,(pcolk0 s)),(38,(pcolk4 n)),(39,(.vs tRe (l.1) (l.2)))])
noncomputable def pcolk1 (z0:tSt.den):AO:=(cF [(.vs tGr (z0.1.1) (z0.1.2)),(iI (z0.2.1.1)),(iI (z0.2.1.2.1)),(iI (z0.2.2.1.1)),(iI (z0.2.2.1.2.1))])
noncomputable def pcolk3 (z0:tNi.den):AO:=(cF [(iI (z0.1.1)),(iI (z0.1.2.1)),(iI (z0.2.1)),(iI (z0.2.2.1)),(iI (z0.2.2.2.1))])
noncomputable def pcolk18 (z0:tP.den):AO:=(.cells true [(iI (z0.1)),(iI (z0.2.1))])
noncomputable def pcolk16 (z0:tP.den):AO:=(cF [(.csl [(iI (z0.1)),(iI (z0.2.1))] 2)])
noncomputable def pcolQ2 (s:tSt.den) (n:tNi.den) (p:tP.den):Hp:=(hpOf 8 [(0,(pcolk1 s)),(1,(pcolk3 n)),(2,(cF [(iI (p.1)),(iI (p.2.1))])),(3,(pcolk18 p)),(5,(cF [(iI (-30000))])),(6,(cF [(iI 30000)])),(7,(pcolk16 p))])
noncomputable def pcolQ3 (s:tSt.den) (n:tNi.den) (p:tP.den):Hp:=(hpOf 5 [(0,(pcolk1 s)),(1,(pcolk3 n)),(2,(cF [(iI (p.1)),(iI (p.2.1))]))])
noncomputable def pcolQ4 (s:tSt.den) (n:tNi.den) (l:(Ty.sl tRe).den) (p:tP.den):Tmps:=(tmOf 54 [(0,(pcolk0 s)),(1,(pcolk4 n)),(2,(.vs tRe (l.1) (l.2))),(3,(.agg [(iI (p.1)),(iI (p.2.1))])),(4,(.bool false)),(5,(pP 0 0)),(6,(pP 1 0)),(8,(pP 2 0)),(10,(iI 0)),(11,(iI 0)),(19,(pcolk0 s)),(20,(pcolk4 n)),(21,(.vs tRe (l.1) (l.2))),(22,(pP 2 0)),(23,(iI (p.1))),(24,(pP 2 1))])
noncomputable def pcolQ5 (s:tSt.den) (n:tNi.den) (l:(Ty.sl tRe).den) (p:tP.den):Tmps:=(tmOf 54 [(0,(pcolk0 s)),(1,(pcolk4 n)),(2,(.vs tRe (l.1) (l.2))),(3,(.agg [(iI (p.1)),(iI (p.2.1))])),(4,(.bool false)),(5,(pP 0 0)),(6,(pP 1 0)),(8,(pP 2 0)),(10,(iI 0)),(11,(iI 0)),(19,(pcolk0 s)),(20,(pcolk4 n)),(21,(.vs tRe (l.1) (l.2))),(22,(pP 2 0)),(23,(iI (p.1))),(24,(pP 2 1)),(25,(iI (p.2.1)))])
noncomputable def pcolQ6 (s:tSt.den) (n:tNi.den) (l:(Ty.sl tRe).den) (p:tP.den):Tmps:=(tmOf 54 [(0,(pcolk0 s)),(1,(pcolk4 n)),(2,(.vs tRe (l.1) (l.2))),(3,(.agg [(iI (p.1)),(iI (p.2.1))])),(4,(.bool false)),(5,(pP 0 0)),(6,(pP 1 0)),(8,(pP 2 0)),(10,(iI 0)),(11,(iI 0)),(19,(pcolk0 s)),(20,(pcolk4 n)),(21,(.vs tRe (l.1) (l.2))),(22,(pP 2 0))])
noncomputable def pcolQ7 (s:tSt.den) (n:tNi.den) (l:(Ty.sl tRe).den) (p:tP.den):Tmps:=(tmOf 54 [(0,(pcolk0 s)),(1,(pcolk4 n)),(2,(.vs tRe (l.1) (l.2))),(3,(.agg [(iI (p.1)),(iI (p.2.1))])),(4,(.bool false)),(5,(pP 0 0)),(6,(pP 1 0)),(8,(pP 2 0)),(10,(iI 0)),(11,(iI 0)),(19,(pcolk0 s)),(20,(pcolk4 n)),(21,(.vs tRe (l.1) (l.2))),(22,(pP 2 0)),(23,(iI (p.1)))])
noncomputable def pcolQ8 (s:tSt.den) (n:tNi.den) (l:(Ty.sl tRe).den) (p:tP.den):Tmps:=(tmOf 54 [(0,(pcolk0 s)),(1,(pcolk4 n)),(2,(.vs tRe (l.1) (l.2))),(3,(.agg [(iI (p.1)),(iI (p.2.1))])),(4,(.bool false)),(5,(pP 0 0)),(6,(pP 1 0)),(8,(pP 2 0)),(10,(iI 0)),(11,(iI 0)),(19,(pcolk0 s))])
noncomputable def pcolQ9 (s:tSt.den) (n:tNi.den) (l:(Ty.sl tRe).den) (p:tP.den):Tmps:=(tmOf 54 [(0,(pcolk0 s)),(1,(pcolk4 n)),(2,(.vs tRe (l.1) (l.2))),(3,(.agg [(iI (p.1)),(iI (p.2.1))])),(4,(.bool false)),(5,(pP 0 0)),(6,(pP 1 0)),(8,(pP 2 0)),(10,(iI 0)),(11,(iI 0)),(19,(pcolk0 s)),(20,(pcolk4 n))])
noncomputable def pcolQ10 (s:tSt.den) (n:tNi.den) (l:(Ty.sl tRe).den) (p:tP.den):Tmps:=(tmOf 54 [(0,(pcolk0 s)),(1,(pcolk4 n)),(2,(.vs tRe (l.1) (l.2))),(3,(.agg [(iI (p.1)),(iI (p.2.1))])),(4,(.bool false)),(5,(pP 0 0)),(6,(pP 1 0)),(8,(pP 2 0)),(10,(iI 0)),(11,(iI 0))])
noncomputable def pcolQ11 (s:tSt.den) (n:tNi.den) (l:(Ty.sl tRe).den) (p:tP.den):Tmps:=(tmOf 54 [(0,(pcolk0 s)),(1,(pcolk4 n)),(2,(.vs tRe (l.1) (l.2))),(3,(.agg [(iI (p.1)),(iI (p.2.1))])),(4,(.bool false)),(5,(pP 0 0)),(6,(pP 1 0)),(8,(pP 2 0)),(10,(iI 0)),(11,(iI 0)),(19,(pcolk0 s)),(20,(pcolk4 n)),(21,(.vs tRe (l.1) (l.2))),(22,(pP 2 0)),(23,(iI (p.1))),(24,(pP 2 1)),(25,(iI (p.2.1))),(26,(.sl 3 0 (2) (2) 1)),(27,(.fn 59 [] [(pP 5 0),(pP 6 0),(pP 7 0)])),(28,(.sl 4 0 (1) (1) 1))])
noncomputable def pcolk17:AO:=(cF [(.fn 59 [] [(pP 5 0),(pP 6 0),(pP 7 0)])])
noncomputable def pcolk9 (z0:tSt.den) (z1:tNi.den):AO:=(cF [(.vs tGr (z0.1.1) (z0.1.2)),(iI (z0.2.1.1)),(iI (z0.2.1.2.1)),(iI (z0.2.2.1.1)),(iI (z0.2.2.1.2.1)),(iI (z1.1.1)),(iI (z1.1.2.1)),(iI (z1.2.1)),(iI (z1.2.2.1)),(iI (z1.2.2.2.1)),.nils])
noncomputable def pcolk10 (z0:tSt.den) (z1:tNi.den) (z2:tP.den) (z3:(Ty.sl tRe).den):Fm:=(.cal [(.tmp 8),(.tmp 9)] (.dr ⟨(pcOf F6 11 [0,1]),opsD (pcOf F6 11 [0,1]).c,3,(opsD (pcOf F6 11 [0,1]).c).toList.drop 11,(fsD (pcOf F6 11 [0,1]).c).drop 11,10,[((pcolQ2 z0 z1 z2),248,(some 8)),((pcolQ3 z0 z1 z2),0,none)],[((opsD (pcOf F6 11 [0,1]).c).getD 6 default,6,32,(pcolQ4 z0 z1 z3 z2),(pcolQ5 z0 z1 z3 z2)),((opsD (pcOf F6 11 [0,1]).c).getD 4 default,4,8,(pcolQ6 z0 z1 z3 z2),(pcolQ7 z0 z1 z3 z2)),((opsD (pcOf F6 11 [0,1]).c).getD 1 default,1,0,(pcolQ8 z0 z1 z3 z2),(pcolQ9 z0 z1 z3 z2)),((opsD (pcOf F6 11 [0,1]).c).getD 0 default,0,0,(pcolQ10 z0 z1 z3 z2),(pcolQ8 z0 z1 z3 z2))],false⟩ ((opsD (pcOf F6 11 [0,1]).c).getD 10 default) ((fsD (pcOf F6 11 [0,1]).c).getD 10 default) (pcolQ11 z0 z1 z3 z2) [] 54 false ⟨40,[]⟩))
noncomputable def pcolI0 (s:tSt.den) (n:tNi.den) (l:(Ty.sl tRe).den) (p:tP.den) (x130:Nat):Cfg:=⟨.ex (pcOf F6 54 [0,0,1,0,1,1]) ⟨(pcolQ0 s n l),(hpOf 13 [(0,(pcolk1 s)),(1,(pcolk3 n)),(2,(cF [(iI (p.1)),(iI (p.2.1))])),(3,(pcolk18 p)),(4,(pcolk17)),(5,(cF [(iI (-30000))])),(6,(cF [(iI 30000)])),(7,(pcolk16 p)),(8,(pcolk1 s)),(9,(pcolk3 n)),(10,(pcolk1 s)),(11,(pcolk3 n)),(12,(pcolk9 s n))]),[],[],37,false⟩,⟨38,[]⟩,[(.lop (pcOf F6 54 [0,0,1,0,1,1]) 13 (pcolQ0 s n l) x130),(.blk 0),(.seq (pcOf F6 54 [1,1,1])),(.cal [(.tmp 6)] (.op (pcOf F6 28 [0,1,1,1]) 4 (some 40) ((opsOf (pcOf F6 28 [0,1,1,1]).c).toList.drop 4) (pcolQ1 s n l) [] 41 false ⟨39,[]⟩)),(.seq (pcOf F6 28 [1,1,1,1])),(pcolk10 s n p l),(.seq (pcOf F6 11 [1,1])),(.cal [(.tmp 10),(.tmp 11)] .top)]⟩
noncomputable def pcolQ12:Tmps:=(tmOf 24 [(0,(.yld 20)),(1,(pP 18 0)),(2,(pP 19 0)),(3,(pP 21 0)),(7,(pP 12 0)),(8,(.bool false)),(9,(.fn 106 [] [(pP 22 0),(pP 23 0),(pP 24 0)]))])
noncomputable def pcolk15 (z0:tP.den) (z1:tNi.den):AV:=(iI (wr .i64 (z0.1-z1.1.1) * wr .i64 (z0.1-z1.1.1)+wr .i64 (z0.2.1-z1.1.2.1) * wr .i64 (z0.2.1-z1.1.2.1)))
noncomputable def pcolk25 (z0:tP.den) (z1:tNi.den):AV:=(iI (ptF (wr .i64 (z0.1-z1.1.1)) (wr .i64 (z0.2.1-z1.1.2.1))))
noncomputable def pcolQ13 (s:tSt.den) (n:tNi.den) (l:(Ty.sl tRe).den) (p:tP.den):Tmps:=(tmOf 54 [(0,(pcolk0 s)),(1,(pcolk4 n)),(2,(.vs tRe (l.1) (l.2))),(3,(.agg [(iI (p.1)),(iI (p.2.1))])),(4,(.bool false)),(5,(pP 0 0)),(6,(pP 1 0)),(8,(pP 2 0)),(10,(iI 0)),(11,(iI 0)),(12,(pP 12 0)),(13,(iI 0)),(14,(pP 15 0)),(15,(pP 16 0)),(16,(pP 17 0)),(18,(.tup [(pP 12 0),(iI 0)])),(19,(pcolk0 s)),(20,(pcolk4 n)),(21,(.vs tRe (l.1) (l.2))),(22,(pP 2 0)),(23,(iI (p.1))),(24,(pP 2 1)),(25,(iI (p.2.1))),(26,(.sl 3 0 (2) (2) 1)),(27,(.fn 59 [] [(pP 5 0),(pP 6 0),(pP 7 0)])),(28,(.sl 4 0 (1) (1) 1)),(29,(.tup [(pP 12 0),(iI 0)])),(30,(pP 12 0)),(31,(iI 0)),(32,(iI 0)),(33,(.bool false)),(35,(pP 12 0)),(36,(.agg [(iI (p.1)),(iI (p.2.1))])),(37,(.agg [(pcolk15 p n),(pcolk25 p n)])),(38,(pP 12 0)),(39,(.bool false)),(40,(.fn 55 [] [(pP 18 0),(pP 19 0)]))])
noncomputable def pcolk26 (z0:tSt.den) (z1:tNi.den):AV:=(iI ((z0.1.2.getD (Int.toNat z1.2.1) tGr.dflt).2.1.1))
noncomputable def pcolk7 (z0:tSt.den) (z1:tNi.den):AV:=(.agg [(pcolk26 z0 z1),(iI ((z0.1.2.getD (Int.toNat z1.2.1) tGr.dflt).2.1.2.1))])
noncomputable def pcolk6 (z0:tSt.den) (z1:tNi.den):AV:=(iI (wr .i64 (wr .i64 ((z0.1.2.getD (Int.toNat z1.2.1) tGr.dflt).2.1.2.1-(z0.1.2.getD (Int.toNat z1.2.1) tGr.dflt).2.1.1)+1)))
noncomputable def pcolQ14 (s:tSt.den) (n:tNi.den):Tmps:=(tmOf 33 [(0,(.yld 25)),(1,(pP 22 0)),(2,(pP 23 0)),(3,(pP 24 0)),(7,(pcolk7 s n)),(8,(pcolk6 s n)),(9,(iI 0))])
noncomputable def pcolk2 (z0:tP.den) (z1:tNi.den):AO:=(cF [(pcolk15 z0 z1),(pcolk25 z0 z1)])
noncomputable def pcolk5 (z0:tSt.den) (z1:tNi.den):AO:=(cF [(pcolk26 z0 z1),(iI ((z0.1.2.getD (Int.toNat z1.2.1) tGr.dflt).2.1.2.1))])
noncomputable def pcolk13 (z0:tSt.den):AO:=(cF [(iI (z0.2.2.1.1)),(iI (z0.2.2.1.2.1))])
noncomputable def pcolk22:HD:=⟨25,24,39,(pcolQ12),#[10],(pcOf F6 55 [0,0,1,1,0,1]),(pcOf F6 55 [1,0,1,1,0,1])⟩
noncomputable def pcolk11 (z0:tSt.den) (z1:tNi.den) (z2:(Ty.sl tRe).den) (z3:tP.den):HD:=⟨20,54,40,(pcolQ13 z0 z1 z2 z3),#[41],(pcOf F6 11 [0,0,1,0,1,1,1,1,1]),(pcOf F6 11 [1,0,1,0,1,1,1,1,1])⟩
noncomputable def pcolI1 (s:tSt.den) (n:tNi.den) (l:(Ty.sl tRe).den) (p:tP.den) (x3:Int) (x62:Bool) (x63:Bool) (x124:Nat):Cfg:=⟨.ex (pcOf F6 106 [0,0,1]) ⟨(tmOf 33 [(0,(.yld 25)),(1,(pP 22 0)),(2,(pP 23 0)),(3,(pP 24 0)),(7,(pcolk7 s n)),(8,(pcolk6 s n)),(9,(iI x3))]),(hpOf 27 [(0,(pcolk1 s)),(1,(pcolk3 n)),(2,(cF [(iI (p.1)),(iI (p.2.1))])),(3,(pcolk18 p)),(4,(pcolk17)),(5,(cF [(iI (-30000))])),(6,(cF [(iI 30000)])),(7,(pcolk16 p)),(8,(pcolk1 s)),(9,(pcolk3 n)),(10,(pcolk1 s)),(11,(pcolk3 n)),(12,(pcolk9 s n)),(13,(cF [(iI (p.1)),(iI (p.2.1))])),(14,(pcolk2 p n)),(15,(pcolk2 p n)),(16,(cF [(.bool x62)])),(17,(cF [(.bool x63)])),(18,(cF [(pP 12 0)])),(19,(cF [(.bool false)])),(21,(cF [(.yld 20)])),(22,(pcolk5 s n)),(23,(pcolk13 s)),(24,(cF [(.fn 39 [] [])])),(26,(pcolk5 s n))]),[],[⟨false,.normal⟩,⟨false,.normal⟩],33,false⟩,⟨38,[(pcolk22),(pcolk11 s n l p)]⟩,[(.lop (pcOf F6 106 [0,0,1]) 27 (pcolQ14 s n) x124),(.blk 0),(.cal [] (.rng (pcolQ12) [] 24 false ⟨39,[(pcolk11 s n l p)]⟩)),(.blk 0),(.cal [] (.rng (pcolQ13 s n l p) [] 54 false ⟨40,[]⟩)),(.blk 0),(.seq (pcOf F6 11 [1,1,1,1,1,1])),(.cal [(.tmp 10),(.tmp 11)] .top)]⟩
noncomputable def pcolk8 (z0:tSt.den) (z1:tNi.den) (z2:Nat):AO:=(cF [(.vs tGr (z0.1.1) (z0.1.2)),(iI (z0.2.1.1)),(iI (z0.2.1.2.1)),(iI (z0.2.2.1.1)),(iI (z0.2.2.1.2.1)),(iI (z1.1.1)),(iI (z1.1.2.1)),(iI (z1.2.1)),(iI (z1.2.2.1)),(iI (z1.2.2.2.1)),(.sl 13 0 z2 z2 6)])
noncomputable def pcolI2 (s:tSt.den) (n:tNi.den) (l:(Ty.sl tRe).den) (p:tP.den) (x38:Int) (x91:Nat) (x93:List AV) (x133:Nat):Cfg:=⟨.ex (pcOf F6 54 [0,0,1,0,1,1]) ⟨(tmOf 37 [(0,(pcolk0 s)),(1,(pcolk4 n)),(2,(.vs tRe (l.1) (l.2))),(3,(pP 10 0)),(4,(pP 11 0)),(6,.nilp),(7,(pP 12 0)),(10,(pcolk0 s)),(11,(pcolk4 n)),(12,(pcolk20 s n)),(13,(pP 12 0)),(14,(.vs tRe (l.1) (l.2))),(15,(iI (Int.ofNat l.2.length))),(16,(iI x38))]),(hpOf 14 [(0,(pcolk1 s)),(1,(pcolk3 n)),(2,(cF [(iI (p.1)),(iI (p.2.1))])),(3,(pcolk18 p)),(4,(pcolk17)),(5,(cF [(iI (-30000))])),(6,(cF [(iI 30000)])),(7,(pcolk16 p)),(8,(pcolk1 s)),(9,(pcolk3 n)),(10,(pcolk1 s)),(11,(pcolk3 n)),(12,(pcolk8 s n x91)),(13,(cF x93))]),[],[],37,false⟩,⟨38,[]⟩,[(.lop (pcOf F6 54 [0,0,1,0,1,1]) 13 (pcolQ0 s n l) x133),(.blk 0),(.seq (pcOf F6 54 [1,1,1])),(.cal [(.tmp 6)] (.op (pcOf F6 28 [0,1,1,1]) 4 (some 40) ((opsOf (pcOf F6 28 [0,1,1,1]).c).toList.drop 4) (pcolQ1 s n l) [] 41 false ⟨39,[]⟩)),(.seq (pcOf F6 28 [1,1,1,1])),(pcolk10 s n p l),(.seq (pcOf F6 11 [1,1])),(.cal [(.tmp 10),(.tmp 11)] .top)]⟩
noncomputable def pcolk19 (z0:tSt.den):AV:=(.agg [(iI (z0.2.2.1.1)),(iI (z0.2.2.1.2.1))])
noncomputable def pcolk14 (z0:tSt.den):AV:=(iI (wr .i64 (wr .i64 (z0.2.2.1.2.1-z0.2.2.1.1)+1)))
noncomputable def pcolQ15 (s:tSt.den) (n:tNi.den) (y0:Int):Tmps:=(tmOf 33 [(0,(.yld 25)),(1,(pP 22 0)),(2,(pP 23 0)),(3,(pP 24 0)),(5,(iI y0)),(7,(pcolk7 s n)),(8,(pcolk6 s n)),(9,(iI y0)),(10,(.bool true)),(11,(iI y0)),(12,(pcolk19 s)),(13,(pcolk14 s)),(14,(iI 0))])
noncomputable def pcolk21:PC:=(pcOf F6 106 [0,0,1,1,0,0,1,1,0,0,1])
noncomputable def pcolI3 (s:tSt.den) (n:tNi.den) (l:(Ty.sl tRe).den) (p:tP.den) (x0:Int) (x10:Int) (x69:Bool) (x70:Bool) (x140:Nat) (x145:Nat):Cfg:=⟨.ex (pcolk21) ⟨(tmOf 33 [(0,(.yld 25)),(1,(pP 22 0)),(2,(pP 23 0)),(3,(pP 24 0)),(5,(iI x0)),(7,(pcolk7 s n)),(8,(pcolk6 s n)),(9,(iI x0)),(10,(.bool true)),(11,(iI x0)),(12,(pcolk19 s)),(13,(pcolk14 s)),(14,(iI x10))]),(hpOf 28 [(0,(pcolk1 s)),(1,(pcolk3 n)),(2,(cF [(iI (p.1)),(iI (p.2.1))])),(3,(pcolk18 p)),(4,(pcolk17)),(5,(cF [(iI (-30000))])),(6,(cF [(iI 30000)])),(7,(pcolk16 p)),(8,(pcolk1 s)),(9,(pcolk3 n)),(10,(pcolk1 s)),(11,(pcolk3 n)),(12,(pcolk9 s n)),(13,(cF [(iI (p.1)),(iI (p.2.1))])),(14,(pcolk2 p n)),(15,(pcolk2 p n)),(16,(cF [(.bool x69)])),(17,(cF [(.bool x70)])),(18,(cF [(pP 12 0)])),(19,(cF [(.bool false)])),(21,(cF [(.yld 20)])),(22,(pcolk5 s n)),(23,(pcolk13 s)),(24,(cF [(.fn 39 [] [])])),(26,(pcolk5 s n)),(27,(pcolk13 s))]),[],[⟨false,.normal⟩,⟨false,.normal⟩],33,false⟩,⟨38,[(pcolk22),(pcolk11 s n l p)]⟩,[(.lop (pcolk21) 28 (pcolQ15 s n x0) x140),(.blk 2),(.blk 1),(.seq (pcOf F6 106 [1,1,1,0,0,1])),(.lop (pcOf F6 106 [0,0,1]) 27 (pcolQ14 s n) x145),(.blk 0),(.cal [] (.rng (pcolQ12) [] 24 false ⟨39,[(pcolk11 s n l p)]⟩)),(.blk 0),(.cal [] (.rng (pcolQ13 s n l p) [] 54 false ⟨40,[]⟩)),(.blk 0),(.seq (pcOf F6 11 [1,1,1,1,1,1])),(.cal [(.tmp 10),(.tmp 11)] .top)]⟩
noncomputable def pcolQ16:Tmps:=(tmOf 24 [(0,(.yld 21)),(1,(pP 19 0)),(2,(pP 20 0)),(3,(pP 22 0)),(7,(pP 12 0)),(8,(.bool false)),(9,(.fn 106 [] [(pP 23 0),(pP 24 0),(pP 25 0)]))])
noncomputable def pcolQ17 (s:tSt.den) (n:tNi.den) (l:(Ty.sl tRe).den) (p:tP.den):Tmps:=(tmOf 54 [(0,(pcolk0 s)),(1,(pcolk4 n)),(2,(.vs tRe (l.1) (l.2))),(3,(.agg [(iI (p.1)),(iI (p.2.1))])),(4,(.bool false)),(5,(pP 0 0)),(6,(pP 1 0)),(8,(pP 2 0)),(10,(iI 0)),(11,(iI 0)),(12,(pP 12 0)),(13,(iI 0)),(14,(pP 16 0)),(15,(pP 17 0)),(16,(pP 18 0)),(18,(.tup [(pP 12 0),(iI 0)])),(19,(pcolk0 s)),(20,(pcolk4 n)),(21,(.vs tRe (l.1) (l.2))),(22,(pP 2 0)),(23,(iI (p.1))),(24,(pP 2 1)),(25,(iI (p.2.1))),(26,(.sl 3 0 (2) (2) 1)),(27,(.fn 59 [] [(pP 5 0),(pP 6 0),(pP 7 0)])),(28,(.sl 4 0 (1) (1) 1)),(29,(.tup [(pP 12 0),(iI 0)])),(30,(pP 12 0)),(31,(iI 0)),(32,(iI 0)),(33,(.bool false)),(35,(pP 12 0)),(36,(.agg [(iI (p.1)),(iI (p.2.1))])),(37,(.agg [(pcolk15 p n),(pcolk25 p n)])),(38,(pP 12 0)),(39,(.bool false)),(40,(.fn 55 [] [(pP 19 0),(pP 20 0)]))])
noncomputable def pcolQ18 (s:tSt.den) (n:tNi.den):Tmps:=(tmOf 33 [(0,(.yld 26)),(1,(pP 23 0)),(2,(pP 24 0)),(3,(pP 25 0)),(7,(pcolk7 s n)),(8,(pcolk6 s n)),(9,(iI 0))])
noncomputable def pcolk23:HD:=⟨26,24,39,(pcolQ16),#[10],(pcOf F6 55 [0,0,1,1,0,1]),(pcOf F6 55 [1,0,1,1,0,1])⟩
noncomputable def pcolk12 (z0:tSt.den) (z1:tNi.den) (z2:(Ty.sl tRe).den) (z3:tP.den):HD:=⟨21,54,40,(pcolQ17 z0 z1 z2 z3),#[41],(pcOf F6 11 [0,0,1,0,1,1,1,1,1]),(pcOf F6 11 [1,0,1,0,1,1,1,1,1])⟩
noncomputable def pcolI4 (s:tSt.den) (n:tNi.den) (l:(Ty.sl tRe).den) (p:tP.den) (x3:Int) (x56:Nat) (x58:List AV) (x65:Bool) (x66:Bool) (x127:Nat):Cfg:=⟨.ex (pcOf F6 106 [0,0,1]) ⟨(tmOf 33 [(0,(.yld 26)),(1,(pP 23 0)),(2,(pP 24 0)),(3,(pP 25 0)),(7,(pcolk7 s n)),(8,(pcolk6 s n)),(9,(iI x3))]),(hpOf 28 [(0,(pcolk1 s)),(1,(pcolk3 n)),(2,(cF [(iI (p.1)),(iI (p.2.1))])),(3,(pcolk18 p)),(4,(pcolk17)),(5,(cF [(iI (-30000))])),(6,(cF [(iI 30000)])),(7,(pcolk16 p)),(8,(pcolk1 s)),(9,(pcolk3 n)),(10,(pcolk1 s)),(11,(pcolk3 n)),(12,(pcolk8 s n x56)),(13,(cF x58)),(14,(cF [(iI (p.1)),(iI (p.2.1))])),(15,(pcolk2 p n)),(16,(pcolk2 p n)),(17,(cF [(.bool x65)])),(18,(cF [(.bool x66)])),(19,(cF [(pP 12 0)])),(20,(cF [(.bool false)])),(22,(cF [(.yld 21)])),(23,(pcolk5 s n)),(24,(pcolk13 s)),(25,(cF [(.fn 39 [] [])])),(27,(pcolk5 s n))]),[],[⟨false,.normal⟩,⟨false,.normal⟩],33,false⟩,⟨38,[(pcolk23),(pcolk12 s n l p)]⟩,[(.lop (pcOf F6 106 [0,0,1]) 28 (pcolQ18 s n) x127),(.blk 0),(.cal [] (.rng (pcolQ16) [] 24 false ⟨39,[(pcolk12 s n l p)]⟩)),(.blk 0),(.cal [] (.rng (pcolQ17 s n l p) [] 54 false ⟨40,[]⟩)),(.blk 0),(.seq (pcOf F6 11 [1,1,1,1,1,1])),(.cal [(.tmp 10),(.tmp 11)] .top)]⟩
noncomputable def pcolQ19:Tmps:=(tmOf 29 [(0,(.yld 32)),(1,(pP 30 0)),(2,(pP 31 0)),(6,(pP 12 0)),(7,(pP 12 0)),(8,(pP 12 10)),(9,.nils),(10,(iI 0)),(11,(iI 0))])
noncomputable def pcolQ20 (y0:Int) (y1:Int):Tmps:=(tmOf 24 [(0,(.yld 20)),(1,(pP 18 0)),(2,(pP 19 0)),(3,(pP 21 0)),(4,(pP 29 0)),(7,(pP 12 0)),(8,(.bool false)),(9,(.fn 106 [] [(pP 22 0),(pP 23 0),(pP 24 0)])),(10,(.ifc 97 (.agg [(iI y0),(iI y1)]))),(11,(pP 12 0)),(12,(.bool false)),(13,(.fn 80 [] [(pP 30 0),(pP 31 0)]))])
noncomputable def pcolk24:PC:=(pcOf F6 106 [0,1,0,0,1,1,0,0,1,1,0,0,1,1,0,0,1])
noncomputable def pcolI5 (s:tSt.den) (n:tNi.den) (l:(Ty.sl tRe).den) (p:tP.den) (x60:Bool) (x61:Bool) (x71:Int) (x72:Int) (x130:Nat) (x183:Int) (x184:Int) (x267:Nat) (x272:Nat):Cfg:=⟨.ex (pcOf F6 80 [0,0,1]) ⟨(pcolQ19),(hpOf 33 [(0,(pcolk1 s)),(1,(pcolk3 n)),(2,(cF [(iI (p.1)),(iI (p.2.1))])),(3,(pcolk18 p)),(4,(pcolk17)),(5,(cF [(iI (-30000))])),(6,(cF [(iI 30000)])),(7,(pcolk16 p)),(8,(pcolk1 s)),(9,(pcolk3 n)),(10,(pcolk1 s)),(11,(pcolk3 n)),(12,(pcolk9 s n)),(13,(cF [(iI (p.1)),(iI (p.2.1))])),(14,(pcolk2 p n)),(15,(pcolk2 p n)),(16,(cF [(.bool x60)])),(17,(cF [(.bool x61)])),(18,(cF [(pP 12 0)])),(19,(cF [(.bool false)])),(21,(cF [(.yld 20)])),(22,(pcolk5 s n)),(23,(pcolk13 s)),(24,(cF [(.fn 39 [] [])])),(26,(pcolk5 s n)),(27,(pcolk13 s)),(28,(cF [(iI x71),(iI x72)])),(29,(cF [(.ifc 97 (.agg [(iI x71),(iI x72)]))])),(30,(cF [(pP 12 0)])),(31,(cF [(.bool false)]))]),[],[⟨false,.normal⟩,⟨false,.normal⟩],29,false⟩,⟨38,[⟨32,24,39,(pcolQ20 x71 x72),#[14,15],(pcOf F6 55 [0,0,1,0,0,1,0,1,1,0,1]),(pcOf F6 55 [1,0,1,0,0,1,0,1,1,0,1])⟩,(pcolk11 s n l p)]⟩,[(.lop (pcOf F6 80 [0,0,1]) 33 (pcolQ19) x130),(.blk 0),(.cal [] (.rng (pcolQ20 x71 x72) [] 24 true ⟨39,[(pcolk11 s n l p)]⟩)),(.blk 2),(.seq (pcOf F6 55 [1,0,1,0,1,1,0,1])),(.blk 1),(.rnd [] (.op (pcolk24) 13 (some 29) ((opsOf (pcolk24).c).toList.drop 13) (tmOf 33 [(0,(.yld 25)),(1,(pP 22 0)),(2,(pP 23 0)),(3,(pP 24 0)),(5,(iI x183)),(6,(iI x184)),(7,(pcolk7 s n)),(8,(pcolk6 s n)),(9,(iI x183)),(10,(.bool true)),(11,(iI x183)),(12,(pcolk19 s)),(13,(pcolk14 s)),(14,(iI x184)),(15,(.bool true)),(16,(iI x184)),(17,(.yld 25)),(18,(.fn 39 [] [])),(19,(pP 22 0)),(20,(pcolk26 s n)),(21,(iI x183)),(22,(iI x71)),(23,(pP 23 0)),(24,(iI (s.2.2.1.1))),(25,(iI x184)),(26,(iI x72)),(27,(.agg [(iI x71),(iI x72)])),(28,(.ifc 97 (.agg [(iI x71),(iI x72)])))]) [] 33 false ⟨38,[(pcolk22),(pcolk11 s n l p)]⟩)),(.seq (pcOf F6 106 [1,1,0,0,1,1,0,0,1,1,0,0,1,1,0,0,1])),(.blk 3),(.seq (pcOf F6 106 [1,1,1,0,0,1,1,0,0,1,1,0,0,1])),(.lop (pcolk21) 28 (pcolQ15 s n x183) x267),(.blk 2),(.blk 1),(.seq (pcOf F6 106 [1,1,1,0,0,1])),(.lop (pcOf F6 106 [0,0,1]) 27 (pcolQ14 s n) x272),(.blk 0),(.cal [] (.rng (pcolQ12) [] 24 false ⟨39,[(pcolk11 s n l p)]⟩)),(.blk 0),(.cal [] (.rng (pcolQ13 s n l p) [] 54 false ⟨40,[]⟩)),(.blk 0),(.seq (pcOf F6 11 [1,1,1,1,1,1])),(.cal [(.tmp 10),(.tmp 11)] .top)]⟩
noncomputable def pcolQ21 (s:tSt.den) (n:tNi.den) (y0:Int):Tmps:=(tmOf 33 [(0,(.yld 26)),(1,(pP 23 0)),(2,(pP 24 0)),(3,(pP 25 0)),(5,(iI y0)),(7,(pcolk7 s n)),(8,(pcolk6 s n)),(9,(iI y0)),(10,(.bool true)),(11,(iI y0)),(12,(pcolk19 s)),(13,(pcolk14 s)),(14,(iI 0))])
noncomputable def pcolI6 (s:tSt.den) (n:tNi.den) (l:(Ty.sl tRe).den) (p:tP.den) (x0:Int) (x10:Int) (x63:Nat) (x65:List AV) (x72:Bool) (x73:Bool) (x143:Nat) (x148:Nat):Cfg:=⟨.ex (pcolk21) ⟨(tmOf 33 [(0,(.yld 26)),(1,(pP 23 0)),(2,(pP 24 0)),(3,(pP 25 0)),(5,(iI x0)),(7,(pcolk7 s n)),(8,(pcolk6 s n)),(9,(iI x0)),(10,(.bool true)),(11,(iI x0)),(12,(pcolk19 s)),(13,(pcolk14 s)),(14,(iI x10))]),(hpOf 29 [(0,(pcolk1 s)),(1,(pcolk3 n)),(2,(cF [(iI (p.1)),(iI (p.2.1))])),(3,(pcolk18 p)),(4,(pcolk17)),(5,(cF [(iI (-30000))])),(6,(cF [(iI 30000)])),(7,(pcolk16 p)),(8,(pcolk1 s)),(9,(pcolk3 n)),(10,(pcolk1 s)),(11,(pcolk3 n)),(12,(pcolk8 s n x63)),(13,(cF x65)),(14,(cF [(iI (p.1)),(iI (p.2.1))])),(15,(pcolk2 p n)),(16,(pcolk2 p n)),(17,(cF [(.bool x72)])),(18,(cF [(.bool x73)])),(19,(cF [(pP 12 0)])),(20,(cF [(.bool false)])),(22,(cF [(.yld 21)])),(23,(pcolk5 s n)),(24,(pcolk13 s)),(25,(cF [(.fn 39 [] [])])),(27,(pcolk5 s n)),(28,(pcolk13 s))]),[],[⟨false,.normal⟩,⟨false,.normal⟩],33,false⟩,⟨38,[(pcolk23),(pcolk12 s n l p)]⟩,[(.lop (pcolk21) 29 (pcolQ21 s n x0) x143),(.blk 2),(.blk 1),(.seq (pcOf F6 106 [1,1,1,0,0,1])),(.lop (pcOf F6 106 [0,0,1]) 28 (pcolQ18 s n) x148),(.blk 0),(.cal [] (.rng (pcolQ16) [] 24 false ⟨39,[(pcolk12 s n l p)]⟩)),(.blk 0),(.cal [] (.rng (pcolQ17 s n l p) [] 54 false ⟨40,[]⟩)),(.blk 0),(.seq (pcOf F6 11 [1,1,1,1,1,1])),(.cal [(.tmp 10),(.tmp 11)] .top)]⟩
noncomputable def pcolQ22 (y0:Int) (y1:Int):Tmps:=(tmOf 24 [(0,(.yld 21)),(1,(pP 19 0)),(2,(pP 20 0)),(3,(pP 22 0)),(4,(pP 30 0)),(7,(pP 12 0)),(8,(.bool false)),(9,(.fn 106 [] [(pP 23 0),(pP 24 0),(pP 25 0)])),(10,(.ifc 97 (.agg [(iI y0),(iI y1)]))),(11,(pP 12 0)),(12,(.bool false)),(13,(.fn 80 [] [(pP 31 0),(pP 32 0)]))])
noncomputable def pcolI7 (s:tSt.den) (n:tNi.den) (l:(Ty.sl tRe).den) (p:tP.den) (x0:Nat) (x2:Int) (x3:Int) (x58:List AV) (x65:Bool) (x66:Bool) (x76:Int) (x77:Int) (x137:Nat) (x190:Int) (x191:Int) (x274:Nat) (x279:Nat):Cfg:=⟨.ex (pcOf F6 80 [0,0,1]) ⟨(tmOf 29 [(0,(.yld 33)),(1,(pP 31 0)),(2,(pP 32 0)),(6,(pP 12 0)),(7,(pP 12 0)),(8,(pP 12 10)),(9,(.sl 13 0 x0 x0 6)),(10,(iI x2)),(11,(iI x3))]),(hpOf 34 [(0,(pcolk1 s)),(1,(pcolk3 n)),(2,(cF [(iI (p.1)),(iI (p.2.1))])),(3,(pcolk18 p)),(4,(pcolk17)),(5,(cF [(iI (-30000))])),(6,(cF [(iI 30000)])),(7,(pcolk16 p)),(8,(pcolk1 s)),(9,(pcolk3 n)),(10,(pcolk1 s)),(11,(pcolk3 n)),(12,(pcolk8 s n x0)),(13,(cF x58)),(14,(cF [(iI (p.1)),(iI (p.2.1))])),(15,(pcolk2 p n)),(16,(pcolk2 p n)),(17,(cF [(.bool x65)])),(18,(cF [(.bool x66)])),(19,(cF [(pP 12 0)])),(20,(cF [(.bool false)])),(22,(cF [(.yld 21)])),(23,(pcolk5 s n)),(24,(pcolk13 s)),(25,(cF [(.fn 39 [] [])])),(27,(pcolk5 s n)),(28,(pcolk13 s)),(29,(cF [(iI x76),(iI x77)])),(30,(cF [(.ifc 97 (.agg [(iI x76),(iI x77)]))])),(31,(cF [(pP 12 0)])),(32,(cF [(.bool false)]))]),[],[⟨false,.normal⟩,⟨false,.normal⟩],29,false⟩,⟨38,[⟨33,24,39,(pcolQ22 x76 x77),#[14,15],(pcOf F6 55 [0,0,1,0,0,1,0,1,1,0,1]),(pcOf F6 55 [1,0,1,0,0,1,0,1,1,0,1])⟩,(pcolk12 s n l p)]⟩,[(.lop (pcOf F6 80 [0,0,1]) 34 (tmOf 29 [(0,(.yld 33)),(1,(pP 31 0)),(2,(pP 32 0)),(6,(pP 12 0)),(7,(pP 12 0)),(8,(pP 12 10)),(9,(.sl 13 0 x0 x0 6)),(10,(iI x2)),(11,(iI 0))]) x137),(.blk 0),(.cal [] (.rng (pcolQ22 x76 x77) [] 24 true ⟨39,[(pcolk12 s n l p)]⟩)),(.blk 2),(.seq (pcOf F6 55 [1,0,1,0,1,1,0,1])),(.blk 1),(.rnd [] (.op (pcolk24) 13 (some 29) ((opsOf (pcolk24).c).toList.drop 13) (tmOf 33 [(0,(.yld 26)),(1,(pP 23 0)),(2,(pP 24 0)),(3,(pP 25 0)),(5,(iI x190)),(6,(iI x191)),(7,(pcolk7 s n)),(8,(pcolk6 s n)),(9,(iI x190)),(10,(.bool true)),(11,(iI x190)),(12,(pcolk19 s)),(13,(pcolk14 s)),(14,(iI x191)),(15,(.bool true)),(16,(iI x191)),(17,(.yld 26)),(18,(.fn 39 [] [])),(19,(pP 23 0)),(20,(pcolk26 s n)),(21,(iI x190)),(22,(iI x76)),(23,(pP 24 0)),(24,(iI (s.2.2.1.1))),(25,(iI x191)),(26,(iI x77)),(27,(.agg [(iI x76),(iI x77)])),(28,(.ifc 97 (.agg [(iI x76),(iI x77)])))]) [] 33 false ⟨38,[(pcolk23),(pcolk12 s n l p)]⟩)),(.seq (pcOf F6 106 [1,1,0,0,1,1,0,0,1,1,0,0,1,1,0,0,1])),(.blk 3),(.seq (pcOf F6 106 [1,1,1,0,0,1,1,0,0,1,1,0,0,1])),(.lop (pcolk21) 29 (pcolQ21 s n x190) x274),(.blk 2),(.blk 1),(.seq (pcOf F6 106 [1,1,1,0,0,1])),(.lop (pcOf F6 106 [0,0,1]) 28 (pcolQ18 s n) x279),(.blk 0),(.cal [] (.rng (pcolQ16) [] 24 false ⟨39,[(pcolk12 s n l p)]⟩)),(.blk 0),(.cal [] (.rng (pcolQ17 s n l p) [] 54 false ⟨40,[]⟩)),(.blk 0),(.seq (pcOf F6 11 [1,1,1,1,1,1])),(.cal [(.tmp 10),(.tmp 11)] .top)]⟩
theorem pcol_start (s:tSt.den) (n:tNi.den) (l:(Ty.sl tRe).den) (p:tP.den):adv F6 ({ (Z6 [54,80,106]).flat [13] with nf:=[4] }:Sy) 20000 (startC F6 11 [tSt.av s,tNi.av n,.vs tRe l.1 l.2,tP.av p,.bool false] 40)=(bif !ieq (cknS s n l.2).2 0 then (sI p.2.1 (sI p.1 (sI n.1.1 (sI n.1.2.1 (sI n.2.1 (sI n.2.2.1 (sI n.2.2.2.1 (sI n.1.1 (sI n.1.2.1 (sI n.2.1 (sI n.2.2.1 (sI n.2.2.2.1 (sB s.1.1 (sV tGr s.1.2 (sI s.2.1.1 (sI s.2.1.2.1 (sI s.2.2.1.1 (sI s.2.2.1.2.1 (sB s.1.1 (sV tGr s.1.2 (sI s.2.1.1 (sI s.2.1.2.1 (sI s.2.2.1.1 (sI s.2.2.1.2.1 (bif !ieq (cknS s n l.2).2 0 then some (.done (.tup [(.int .i64 (0)),(.int .i64 ((cknS s n l.2).2))])) else none))))))))))))))))))))))))) else (bif !ile (-30000) p.1 then (sI p.2.1 (sI p.1 (sI n.1.1 (sI n.1.2.1 (sI n.2.1 (sI n.2.2.1 (sI n.2.2.2.1 (sI n.1.1 (sI n.1.2.1 (sI n.2.1 (sI n.2.2.1 (sI n.2.2.2.1 (sB s.1.1 (sV tGr s.1.2 (sI s.2.1.1 (sI s.2.1.2.1 (sI s.2.2.1.1 (sI s.2.2.1.2.1 (sB s.1.1 (sV tGr s.1.2 (sI s.2.1.1 (sI s.2.1.2.1 (sI s.2.2.1.1 (sI s.2.2.1.2.1 (some (.done (.tup [(.int .i64 (0)),(.int .i64 (7))]))))))))))))))))))))))))))) else (bif !ile p.1 30000 then (sI p.2.1 (sI p.1 (sI n.1.1 (sI n.1.2.1 (sI n.2.1 (sI n.2.2.1 (sI n.2.2.2.1 (sI n.1.1 (sI n.1.2.1 (sI n.2.1 (sI n.2.2.1 (sI n.2.2.2.1 (sB s.1.1 (sV tGr s.1.2 (sI s.2.1.1 (sI s.2.1.2.1 (sI s.2.2.1.1 (sI s.2.2.1.2.1 (sB s.1.1 (sV tGr s.1.2 (sI s.2.1.1 (sI s.2.1.2.1 (sI s.2.2.1.1 (sI s.2.2.1.2.1 (some (.done (.tup [(.int .i64 (0)),(.int .i64 (7))]))))))))))))))))))))))))))) else (bif !ile (-30000) p.2.1 then (sI p.2.1 (sI p.1 (sI n.1.1 (sI n.1.2.1 (sI n.2.1 (sI n.2.2.1 (sI n.2.2.2.1 (sI n.1.1 (sI n.1.2.1 (sI n.2.1 (sI n.2.2.1 (sI n.2.2.2.1 (sB s.1.1 (sV tGr s.1.2 (sI s.2.1.1 (sI s.2.1.2.1 (sI s.2.2.1.1 (sI s.2.2.1.2.1 (sB s.1.1 (sV tGr s.1.2 (sI s.2.1.1 (sI s.2.1.2.1 (sI s.2.2.1.1 (sI s.2.2.1.2.1 (some (.done (.tup [(.int .i64 (0)),(.int .i64 (7))]))))))))))))))))))))))))))) else (bif !ile p.2.1 30000 then (sI p.2.1 (sI p.1 (sI n.1.1 (sI n.1.2.1 (sI n.2.1 (sI n.2.2.1 (sI n.2.2.2.1 (sI n.1.1 (sI n.1.2.1 (sI n.2.1 (sI n.2.2.1 (sI n.2.2.2.1 (sB s.1.1 (sV tGr s.1.2 (sI s.2.1.1 (sI s.2.1.2.1 (sI s.2.2.1.1 (sI s.2.2.1.2.1 (sB s.1.1 (sV tGr s.1.2 (sI s.2.1.1 (sI s.2.1.2.1 (sI s.2.2.1.1 (sI s.2.2.1.2.1 (some (.done (.tup [(.int .i64 (0)),(.int .i64 (7))]))))))))))))))))))))))))))) else some (.stop (pcolI0 s n l p (1048575)))))))):=by kernel_rfl
theorem pcol_step0 (s:tSt.den) (n:tNi.den) (l:(Ty.sl tRe).den) (p:tP.den) (x130:Nat):adv F6 ({ (Z6 [54,80,106]).flat [13] with nf:=[4] }:Sy) 20000 (pcolI0 s n l p (x130+1))=(bif !ile (Int.ofNat l.2.length) 0 then (bif inB 0 l.2.length then (bif nrB (wr .i64 ((l.2.getD (Int.toNat 0) tRe.dflt).1.1-n.1.1)) (wr .i64 ((l.2.getD (Int.toNat 0) tRe.dflt).1.2.1-n.1.2.1)) then (sI n.1.2.1 (sI (l.2.getD (Int.toNat 0) tRe.dflt).1.2.1 (sI n.1.1 (sI (l.2.getD (Int.toNat 0) tRe.dflt).1.1 (sI (l.2.getD (Int.toNat 0) tRe.dflt).1.1 (sI (l.2.getD (Int.toNat 0) tRe.dflt).1.2.1 (sI (l.2.getD (Int.toNat 0) tRe.dflt).1.1 (sI (l.2.getD (Int.toNat 0) tRe.dflt).1.2.1 (sB (l.2.getD (Int.toNat 0) tRe.dflt).2.1 (sB (l.2.getD (Int.toNat 0) tRe.dflt).2.2.1 (sI (l.2.getD (Int.toNat 0) tRe.dflt).1.1 (sI (l.2.getD (Int.toNat 0) tRe.dflt).1.2.1 (sB (l.2.getD (Int.toNat 0) tRe.dflt).2.1 (sB (l.2.getD (Int.toNat 0) tRe.dflt).2.2.1 (some (.stop (pcolI2 s n l p (1) (1) ([AV.int IntKind.i64 (l.2.getD (Int.toNat 0) tRe.dflt).1.1,AV.int IntKind.i64 (l.2.getD (Int.toNat 0) tRe.dflt).1.2.1,AV.bool (l.2.getD (Int.toNat 0) tRe.dflt).2.1,AV.bool (l.2.getD (Int.toNat 0) tRe.dflt).2.2.1,AV.int IntKind.i64 (wr .i64 ((l.2.getD (Int.toNat 0) tRe.dflt).1.1-n.1.1) * wr .i64 ((l.2.getD (Int.toNat 0) tRe.dflt).1.1-n.1.1)+wr .i64 ((l.2.getD (Int.toNat 0) tRe.dflt).1.2.1-n.1.2.1) * wr .i64 ((l.2.getD (Int.toNat 0) tRe.dflt).1.2.1-n.1.2.1)),AV.int IntKind.i64 (ptF (wr .i64 ((l.2.getD (Int.toNat 0) tRe.dflt).1.1-n.1.1)) (wr .i64 ((l.2.getD (Int.toNat 0) tRe.dflt).1.2.1-n.1.2.1)))]) (x130)))))))))))))))))) else none) else none) else (sI p.2.1 (sI p.1 (sI n.1.1 (sI n.1.2.1 (sI n.2.1 (sI n.2.2.1 (sI n.2.2.2.1 (sI n.1.1 (sI n.1.2.1 (sI n.2.1 (sI n.2.2.1 (sI n.2.2.2.1 (sB s.1.1 (sV tGr s.1.2 (sI s.2.1.1 (sI s.2.1.2.1 (sI s.2.2.1.1 (sI s.2.2.1.2.1 (sB s.1.1 (sV tGr s.1.2 (sI s.2.1.1 (sI s.2.1.2.1 (sI s.2.2.1.1 (sI s.2.2.1.2.1 (bif nrB (wr .i64 (p.1-n.1.1)) (wr .i64 (p.2.1-n.1.2.1)) then (sI n.1.2.1 (sI p.2.1 (sI n.1.1 (sI p.1 (bif inB n.2.1 s.1.2.length then (sI s.2.2.1.1 (sI s.2.2.1.2.1 (sI n.2.1 (sB s.1.1 (sV tGr s.1.2 (some (.stop (pcolI1 s n l p (0) (false) (false) (1048575))))))))) else none))))) else none)))))))))))))))))))))))))):=by kernel_rfl
theorem pcol_step1 (s:tSt.den) (n:tNi.den) (l:(Ty.sl tRe).den) (p:tP.den) (x3:Int) (x62:Bool) (x63:Bool) (x124:Nat):adv F6 ({ (Z6 [54,80,106]).flat [13] with nf:=[4] }:Sy) 20000 (pcolI1 s n l p x3 x62 x63 (x124+1))=(bif !ile (wr .i64 (wr .i64 ((s.1.2.getD (Int.toNat n.2.1) tGr.dflt).2.1.2.1-(s.1.2.getD (Int.toNat n.2.1) tGr.dflt).2.1.1)+1)) x3 then some (.stop (pcolI3 s n l p (x3) (0) (x62) (x63) (1048575) (x124+1))) else (bif x62 then (bif x63 then some (.done (.tup [(.int .i64 (1)),(.int .i64 (0))])) else (bif x62 then some (.done (.tup [(.int .i64 (2)),(.int .i64 (0))])) else (bif x63 then some (.done (.tup [(.int .i64 (0)),(.int .i64 (0))])) else some (.done (.tup [(.int .i64 (0)),(.int .i64 (9))]))))) else (bif x62 then some (.done (.tup [(.int .i64 (2)),(.int .i64 (0))])) else (bif x63 then some (.done (.tup [(.int .i64 (0)),(.int .i64 (0))])) else some (.done (.tup [(.int .i64 (0)),(.int .i64 (9))])))))):=by kernel_rfl
theorem pcol_step2 (s:tSt.den) (n:tNi.den) (l:(Ty.sl tRe).den) (p:tP.den) (x38:Int) (x91:Nat) (x93:List AV) (x133:Nat):adv F6 ({ (Z6 [54,80,106]).flat [13] with nf:=[4] }:Sy) 20000 (pcolI2 s n l p x38 x91 x93 (x133+1))=(bif !ile (Int.ofNat l.2.length) x38 then (bif inB x38 l.2.length then (bif nrB (wr .i64 ((l.2.getD x38.toNat tRe.dflt).1.1-n.1.1)) (wr .i64 ((l.2.getD x38.toNat tRe.dflt).1.2.1-n.1.2.1)) then (sI n.1.2.1 (sI (l.2.getD x38.toNat tRe.dflt).1.2.1 (sI n.1.1 (sI (l.2.getD x38.toNat tRe.dflt).1.1 (bif (0+x91 * 6).beq x93.length then (bif x91.ble 1048576 then (sI (l.2.getD x38.toNat tRe.dflt).1.1 (sI (l.2.getD x38.toNat tRe.dflt).1.2.1 (sI (l.2.getD x38.toNat tRe.dflt).1.1 (sI (l.2.getD x38.toNat tRe.dflt).1.2.1 (sB (l.2.getD x38.toNat tRe.dflt).2.1 (sB (l.2.getD x38.toNat tRe.dflt).2.2.1 (sI (l.2.getD x38.toNat tRe.dflt).1.1 (sI (l.2.getD x38.toNat tRe.dflt).1.2.1 (sB (l.2.getD x38.toNat tRe.dflt).2.1 (sB (l.2.getD x38.toNat tRe.dflt).2.2.1 (bif avbeq (AV.sl 13 0 x91 x91 6) (AV.sl 13 0 x91 x91 6) then (bif avbeq (AV.sl 13 0 x91 x91 6) (AV.sl 13 0 x91 x91 6) then (bif plO (AO.cells false (x93++[AV.int IntKind.i64 (l.2.getD x38.toNat tRe.dflt).1.1,AV.int IntKind.i64 (l.2.getD x38.toNat tRe.dflt).1.2.1,AV.bool (l.2.getD x38.toNat tRe.dflt).2.1,AV.bool (l.2.getD x38.toNat tRe.dflt).2.2.1,AV.int IntKind.i64 (wr .i64 ((l.2.getD x38.toNat tRe.dflt).1.1-n.1.1) * wr .i64 ((l.2.getD x38.toNat tRe.dflt).1.1-n.1.1)+wr .i64 ((l.2.getD x38.toNat tRe.dflt).1.2.1-n.1.2.1) * wr .i64 ((l.2.getD x38.toNat tRe.dflt).1.2.1-n.1.2.1)),AV.int IntKind.i64 (ptF (wr .i64 ((l.2.getD x38.toNat tRe.dflt).1.1-n.1.1)) (wr .i64 ((l.2.getD x38.toNat tRe.dflt).1.2.1-n.1.2.1)))])) then some (.stop (pcolI2 s n l p (wr .i64 (x38+1)) (x91+1) (x93++[AV.int IntKind.i64 (l.2.getD x38.toNat tRe.dflt).1.1,AV.int IntKind.i64 (l.2.getD x38.toNat tRe.dflt).1.2.1,AV.bool (l.2.getD x38.toNat tRe.dflt).2.1,AV.bool (l.2.getD x38.toNat tRe.dflt).2.2.1,AV.int IntKind.i64 (wr .i64 ((l.2.getD x38.toNat tRe.dflt).1.1-n.1.1) * wr .i64 ((l.2.getD x38.toNat tRe.dflt).1.1-n.1.1)+wr .i64 ((l.2.getD x38.toNat tRe.dflt).1.2.1-n.1.2.1) * wr .i64 ((l.2.getD x38.toNat tRe.dflt).1.2.1-n.1.2.1)),AV.int IntKind.i64 (ptF (wr .i64 ((l.2.getD x38.toNat tRe.dflt).1.1-n.1.1)) (wr .i64 ((l.2.getD x38.toNat tRe.dflt).1.2.1-n.1.2.1)))]) (x133))) else none) else none) else none))))))))))) else none) else none))))) else none) else none) else (sI p.2.1 (sI p.1 (sI n.1.1 (sI n.1.2.1 (sI n.2.1 (sI n.2.2.1 (sI n.2.2.2.1 (sI n.1.1 (sI n.1.2.1 (sI n.2.1 (sI n.2.2.1 (sI n.2.2.2.1 (sB s.1.1 (sV tGr s.1.2 (sI s.2.1.1 (sI s.2.1.2.1 (sI s.2.2.1.1 (sI s.2.2.1.2.1 (sB s.1.1 (sV tGr s.1.2 (sI s.2.1.1 (sI s.2.1.2.1 (sI s.2.2.1.1 (sI s.2.2.1.2.1 (bif nrB (wr .i64 (p.1-n.1.1)) (wr .i64 (p.2.1-n.1.2.1)) then (sI n.1.2.1 (sI p.2.1 (sI n.1.1 (sI p.1 (bif inB n.2.1 s.1.2.length then (sI s.2.2.1.1 (sI s.2.2.1.2.1 (sI n.2.1 (sB s.1.1 (sV tGr s.1.2 (some (.stop (pcolI4 s n l p (0) (x91) (x93) (false) (false) (1048575))))))))) else none))))) else none)))))))))))))))))))))))))):=by kernel_rfl
theorem pcol_step3 (s:tSt.den) (n:tNi.den) (l:(Ty.sl tRe).den) (p:tP.den) (x0:Int) (x10:Int) (x69:Bool) (x70:Bool) (x140:Nat) (x145:Nat):adv F6 ({ (Z6 [54,80,106]).flat [13] with nf:=[4] }:Sy) 20000 (pcolI3 s n l p x0 x10 x69 x70 (x140+1) (x145+1))=(bif !ile (wr .i64 (wr .i64 (s.2.2.1.2.1-s.2.2.1.1)+1)) x10 then some (.stop (pcolI5 s n l p (x69) (x70) (wr .i64 ((s.1.2.getD (Int.toNat n.2.1) tGr.dflt).2.1.1+x0)) (wr .i64 (s.2.2.1.1+x10)) (1048575) (x0) (x10) (x140+1) (x145+1))) else some (.stop (pcolI1 s n l p (wr .i64 (x0+1)) (x69) (x70) (x145)))):=by kernel_rfl
theorem pcol_step4 (s:tSt.den) (n:tNi.den) (l:(Ty.sl tRe).den) (p:tP.den) (x3:Int) (x56:Nat) (x58:List AV) (x65:Bool) (x66:Bool) (x127:Nat):adv F6 ({ (Z6 [54,80,106]).flat [13] with nf:=[4] }:Sy) 20000 (pcolI4 s n l p x3 x56 x58 x65 x66 (x127+1))=(bif !ile (wr .i64 (wr .i64 ((s.1.2.getD (Int.toNat n.2.1) tGr.dflt).2.1.2.1-(s.1.2.getD (Int.toNat n.2.1) tGr.dflt).2.1.1)+1)) x3 then some (.stop (pcolI6 s n l p (x3) (0) (x56) (x58) (x65) (x66) (1048575) (x127+1))) else (bif x65 then (bif x66 then some (.done (.tup [(.int .i64 (1)),(.int .i64 (0))])) else (bif x65 then some (.done (.tup [(.int .i64 (2)),(.int .i64 (0))])) else (bif x66 then some (.done (.tup [(.int .i64 (0)),(.int .i64 (0))])) else some (.done (.tup [(.int .i64 (0)),(.int .i64 (9))]))))) else (bif x65 then some (.done (.tup [(.int .i64 (2)),(.int .i64 (0))])) else (bif x66 then some (.done (.tup [(.int .i64 (0)),(.int .i64 (0))])) else some (.done (.tup [(.int .i64 (0)),(.int .i64 (9))])))))):=by kernel_rfl
theorem pcol_step5 (s:tSt.den) (n:tNi.den) (l:(Ty.sl tRe).den) (p:tP.den) (x60:Bool) (x61:Bool) (x71:Int) (x72:Int) (x130:Nat) (x183:Int) (x184:Int) (x267:Nat) (x272:Nat):adv F6 ({ (Z6 [54,80,106]).flat [13] with nf:=[4] }:Sy) 20000 (pcolI5 s n l p x60 x61 x71 x72 (x130+1) x183 x184 (x267+1) (x272+1))=(bif lcB x71 x72 (wr .i64 (p.1-n.1.1) * wr .i64 (p.1-n.1.1)+wr .i64 (p.2.1-n.1.2.1) * wr .i64 (p.2.1-n.1.2.1)) then (bif seenF x71 x72 (wr .i64 (p.1-n.1.1) * wr .i64 (p.1-n.1.1)+wr .i64 (p.2.1-n.1.2.1) * wr .i64 (p.2.1-n.1.2.1)) then some (.stop (pcolI3 s n l p (x183) (wr .i64 (x184+1)) (true) (x61) (x267) (x272+1))) else some (.stop (pcolI3 s n l p (x183) (wr .i64 (x184+1)) (x60) (true) (x267) (x272+1)))) else none):=by kernel_rfl
theorem pcol_step6 (s:tSt.den) (n:tNi.den) (l:(Ty.sl tRe).den) (p:tP.den) (x0:Int) (x10:Int) (x63:Nat) (x65:List AV) (x72:Bool) (x73:Bool) (x143:Nat) (x148:Nat):adv F6 ({ (Z6 [54,80,106]).flat [13] with nf:=[4] }:Sy) 20000 (pcolI6 s n l p x0 x10 x63 x65 x72 x73 (x143+1) (x148+1))=(bif !ile (wr .i64 (wr .i64 (s.2.2.1.2.1-s.2.2.1.1)+1)) x10 then some (.stop (pcolI7 s n l p (x63) (Int.ofNat x63) (0) (x65) (x72) (x73) (wr .i64 ((s.1.2.getD (Int.toNat n.2.1) tGr.dflt).2.1.1+x0)) (wr .i64 (s.2.2.1.1+x10)) (1048575) (x0) (x10) (x143+1) (x148+1))) else (bif plO (AO.cells false x65) then some (.stop (pcolI4 s n l p (wr .i64 (x0+1)) (x63) (x65) (x72) (x73) (x148))) else none)):=by kernel_rfl
theorem pcol_step7 (s:tSt.den) (n:tNi.den) (l:(Ty.sl tRe).den) (p:tP.den) (x0:Nat) (x2:Int) (x3:Int) (x58:List AV) (x65:Bool) (x66:Bool) (x76:Int) (x77:Int) (x137:Nat) (x190:Int) (x191:Int) (x274:Nat) (x279:Nat):adv F6 ({ (Z6 [54,80,106]).flat [13] with nf:=[4] }:Sy) 20000 (pcolI7 s n l p x0 x2 x3 x58 x65 x66 x76 x77 (x137+1) x190 x191 (x274+1) (x279+1))=(bif !ile x2 x3 then (bif inB x3 x0 then (bif isZs x58 [AV.int IntKind.i64 0,AV.int IntKind.i64 0,AV.bool false,AV.bool false,AV.int IntKind.i64 0,AV.int IntKind.i64 0] (0+x3.toNat * 6) then (bif toB (x58.getD (0+x3.toNat * 6+1+1) AV.nili) == false then (bif lcB x76 x77 (toI (x58.getD (0+x3.toNat * 6+1+1+1+1) AV.nili)) then (sI (toI (x58.getD (0+x3.toNat * 6+1+1+1+1) AV.nili)) (sI (toI (x58.getD (0+x3.toNat * 6+1+1+1+1+1) AV.nili)) (sB (toB (x58.getD (0+x3.toNat * 6+1+1+1) AV.nili)) (sB (toB (x58.getD (0+x3.toNat * 6+1+1+1) AV.nili)) (bif !toB (x58.getD (0+x3.toNat * 6+1+1+1) AV.nili) == seenF x76 x77 (toI (x58.getD (0+x3.toNat * 6+1+1+1+1) AV.nili)) then (bif plO (AO.cells false x58) then some (.stop (pcolI6 s n l p (x190) (wr .i64 (x191+1)) (x0) (x58) (x65) (x66) (x274) (x279+1))) else none) else (bif plO (AO.cells false x58) then some (.stop (pcolI7 s n l p (x0) (x2) (wr .i64 (x3+1)) (x58) (x65) (x66) (x76) (x77) (x137) (x190) (x191) (x274+1) (x279+1))) else none)))))) else none) else (bif plO (AO.cells false x58) then some (.stop (pcolI7 s n l p (x0) (x2) (wr .i64 (x3+1)) (x58) (x65) (x66) (x76) (x77) (x137) (x190) (x191) (x274+1) (x279+1))) else none)) else none) else none) else (bif lcB x76 x77 (wr .i64 (p.1-n.1.1) * wr .i64 (p.1-n.1.1)+wr .i64 (p.2.1-n.1.2.1) * wr .i64 (p.2.1-n.1.2.1)) then (bif seenF x76 x77 (wr .i64 (p.1-n.1.1) * wr .i64 (p.1-n.1.1)+wr .i64 (p.2.1-n.1.2.1) * wr .i64 (p.2.1-n.1.2.1)) then (bif plO (AO.cells false x58) then some (.stop (pcolI6 s n l p (x190) (wr .i64 (x191+1)) (x0) (x58) (true) (x66) (x274) (x279+1))) else none) else (bif plO (AO.cells false x58) then some (.stop (pcolI6 s n l p (x190) (wr .i64 (x191+1)) (x0) (x58) (x65) (true) (x274) (x279+1))) else none)) else none)):=by kernel_rfl
noncomputable def stC (n:tNi.den) (p:tP.den) (h:Bool) (x:Bool×Bool) (t:tP.den):Bool×Bool:=bif metF n p t h then (true,x.2) else (x.1,true)
noncomputable def couR (x:Bool×Bool):Int×Int:=bif x.1 then (bif x.2 then (1,0) else (2,0)) else (bif x.2 then (0,0) else (0,9))
noncomputable def couS (s:tSt.den) (n:tNi.den) (l:List tRe.den) (p:tP.den) (h:Bool):Int×Int:=bif ieq (cknS s n l).2 0 then (bif in3 p.1 p.2.1 then couR ((trT s n l h).foldl (stC n p h) (false,false)) else (0,7)) else (0,(cknS s n l).2)
theorem cnd_l {a b:Int} (ht:truB (a,b,()) false=true) {x y:Int} (hn:nrB x y=true):lcB a b (x * x+y * y)=true:=by
 simp only[truB,cond_false,Bool.and_eq_true] at ht
 exact lcB_iff.2 ⟨⟨ile_le ht.1.1.1,ile_le ht.1.1.2⟩,⟨ile_le ht.1.2,ile_le ht.2⟩,sq_b hn⟩
theorem cnd_h {a b:Int} (ht:truB (a,b,()) true=true) (x y:Int):hcB a b (ptF x y)=true:=by
 simp only[truB,cond_true,Bool.and_eq_true] at ht
 unfold hcB;rw[ht.1.1,ht.1.2,ht.2,ptF_b];rfl
theorem Zcl_ok:({ (Z6 [54,80,106]).flat [13] with nf:=[4] }:Sy).ok F6:=Z6_ok [99,122,144]
theorem Zch_ok:({ (Z6 [54,80,104]).flat [13] with nf:=[4] }:Sy).ok F6:=Z6_ok [99,122,142]
theorem avbeq_sl13 (n:Nat):avbeq (AV.sl 13 0 n n 6) (AV.sl 13 0 n n 6)=true:=by
 simp[avbeq]
section
variable {s:tSt.den} {n:tNi.den} {l:(Ty.sl tRe).den} {p:tP.den} {v:AV}
theorem pcol_i5 (hn:in3 n.1.1 n.1.2.1=true) (hp:in3 p.1 p.2.1=true) (i k m M O:Nat) (x:Bool×Bool) (a b:Int) (ht:truB (a,b,()) false=true) (hk:k<1048577) (K:Ans F6 (pcolI3 s n l p (i:Int) ((k+1:Nat):Int) (stC n p false x (a,b,())).1 (stC n p false x (a,b,())).2 M (O+1)) v) :
  Ans F6 (pcolI5 s n l p x.1 x.2 a b (m+1) (i:Int) (k:Int) (M+1) (O+1)) v:=by
 obtain⟨y,z'⟩:=x
 have h:=pcol_step5 s n l p y z' a b m (i:Int) (k:Int) M O
 obtain⟨w1,w2,hnr⟩:=df3 hn hp
 have hc:=cnd_l ht hnr
 simp only[w1,w2,hc,wr_succ hk,cond_true] at h
 unfold stC at K
 cases c:metF n p (a,b,()) false with
 |false=>
  rw[c,cond_false] at K
  rw[show seenF a b ((p.1-n.1.1) * (p.1-n.1.1)+(p.2.1-n.1.2.1) * (p.2.1-n.1.2.1))=false from c,cond_false] at h
  exact .stop Zcl_ok F6sy h K
 |true=>
  rw[c,cond_true] at K
  rw[show seenF a b ((p.1-n.1.1) * (p.1-n.1.1)+(p.2.1-n.1.2.1) * (p.2.1-n.1.2.1))=true from c,cond_true] at h
  exact .stop Zcl_ok F6sy h K
theorem pcol_in0 (R:Rngs s n) (hn:in3 n.1.1 n.1.2.1=true) (hp:in3 p.1 p.2.1=true) (i:Nat) (hi:i<ngA s n) (rest:List tP.den) (O:Nat) (K:∀ x:Bool×Bool,Ans F6 (pcolI1 s n l p ((i+1:Nat):Int) x.1 x.2 O) (tup2 (couR (rest.foldl (stC n p false) x)))) :
  ∀ (r k m:Nat) (x:Bool×Bool) (b:Int),b=cLo s+k→k+r=nB s→r<m→Ans F6 (pcolI3 s n l p (i:Int) (k:Int) x.1 x.2 m (O+1)) (tup2 (couR ((rowP (gLo s n+i) r b++rest).foldl (stC n p false) x)))
 |0,k,m+1,x,b,hb,hk,hm=>by
  have h:=pcol_step3 s n l p (i:Int) (k:Int) x.1 x.2 m O
  have e:wr .i64 (wr .i64 (s.2.2.1.2.1-s.2.2.1.1)+1)=(nB s:Int):=R.wc
  have:=R.na
  rw[e,ile_t (show ((nB s:Nat):Int)≤k by omega),Bool.not_true,cond_false,wr_succ (show i<1048577 by omega)] at h
  exact .stop Zcl_ok F6sy h (K x)
 | r + 1, k, m + 1, x, b, hb, hk, hm => by
  have h:=pcol_step3 s n l p (i:Int) (k:Int) x.1 x.2 m O
  have e:wr .i64 (wr .i64 (s.2.2.1.2.1-s.2.2.1.1)+1)=(nB s:Int):=R.wc
  have n1:=R.na
  have n2:=R.nb
  have g:=R.g
  have c:=R.c
  have nae:((ngA s n:Nat):Int)=gHi s n-gLo s n+1:=by unfold ngA;omega
  have nbe:((nB s:Nat):Int)=cHi s-cLo s+1:=by unfold nB;omega
  have w1:wr .i64 ((s.1.2.getD (Int.toNat n.2.1) tGr.dflt).2.1.1+(i:Int))=gLo s n+i:=wr_in (n:=gLo s n+(i:Int)) (by omega) (by omega)
  have w2:wr .i64 (s.2.2.1.1+(k:Int))=b:=by subst hb;exact wr_in (n:=cLo s+(k:Int)) (by omega) (by omega)
  have ht:truB (gLo s n+i,b,()) false=true:=by
   show (ile 0 (gLo s n+i)&&ile (gLo s n+i) 5000&&ile 1 b&&ile b 300)=true
   rw[ile_t (show 0≤gLo s n+(i:Int) by omega),ile_t (show gLo s n+(i:Int)≤5000 by omega),ile_t (show 1≤b by omega),ile_t (show b≤300 by omega)];rfl
  rw[e,ile_f (show (k:Int)<((nB s:Nat):Int) by omega),Bool.not_false,cond_true] at h
  rw[w1,w2] at h
  exact .stop Zcl_ok F6sy h (pcol_i5 hn hp i k 1048574 m O x _ _ ht (by omega) (pcol_in0 R hn hp i hi rest O K r (k+1) m _ (b+1) (by omega) (by omega) (by omega)))
theorem pcol_out0 (R:Rngs s n) (hn:in3 n.1.1 n.1.2.1=true) (hp:in3 p.1 p.2.1=true):∀ (r i m:Nat) (x:Bool×Bool) (a:Int),a=gLo s n+i→i+r=ngA s n→r<m→Ans F6 (pcolI1 s n l p (i:Int) x.1 x.2 m) (tup2 (couR ((allP (cLo s) (nB s) r a).foldl (stC n p false) x)))
 |0,i,m+1,x,a,ha,hi,hm=>by
  obtain⟨y,z'⟩:=x
  have h:=pcol_step1 s n l p (i:Int) y z' m
  have e:wr .i64 (wr .i64 ((s.1.2.getD (Int.toNat n.2.1) tGr.dflt).2.1.2.1-(s.1.2.getD (Int.toNat n.2.1) tGr.dflt).2.1.1)+1)=(ngA s n:Int):=R.wg
  rw[e,ile_t (show ((ngA s n:Nat):Int)≤i by omega),Bool.not_true,cond_false] at h
  cases y<;>cases z'<;>exact done2 Zcl_ok F6sy h rfl
 |r+1,i,m+1,x,a,ha,hi,hm=>by
  have h:=pcol_step1 s n l p (i:Int) x.1 x.2 m
  have e:wr .i64 (wr .i64 ((s.1.2.getD (Int.toNat n.2.1) tGr.dflt).2.1.2.1-(s.1.2.getD (Int.toNat n.2.1) tGr.dflt).2.1.1)+1)=(ngA s n:Int):=R.wg
  rw[e,ile_f (show (i:Int)<((ngA s n:Nat):Int) by omega),Bool.not_false,cond_true] at h
  subst ha
  exact .stop Zcl_ok F6sy h (pcol_in0 R hn hp i (by omega) _ m (fun x=>pcol_out0 R hn hp r (i+1) m x _ (by omega) (by omega) (by omega)) (nB s) 0 1048575 x (cLo s) (by omega) (by omega) (by have:=R.nb;omega))
theorem pcol_i7 (hn:in3 n.1.1 n.1.2.1=true) (hp:in3 p.1 p.2.1=true) (h8:l.2.length≤8) (hl:repB l.2=true) (a b:Int) (ht:truB (a,b,()) false=true) (x:Bool×Bool) (i k M O:Nat) (hk:k<1048577)
  (K1:agrF n l.2 (a,b,()) false=true→Ans F6 (pcolI6 s n l p (i:Int) ((k+1:Nat):Int) l.2.length (rps n l.2) (stC n p false x (a,b,())).1 (stC n p false x (a,b,())).2 M (O+1)) v)
  (K0:agrF n l.2 (a,b,()) false=false→Ans F6 (pcolI6 s n l p (i:Int) ((k+1:Nat):Int) l.2.length (rps n l.2) x.1 x.2 M (O+1)) v) :
  ∀ (r j m:Nat),j+r=l.2.length→r<m→agrF n l.2 (a,b,()) false=agrF n (l.2.drop j) (a,b,()) false→Ans F6 (pcolI7 s n l p l.2.length (l.2.length:Int) (j:Int) (rps n l.2) x.1 x.2 a b m (i:Int) (k:Int) (M+1) (O+1)) v
 | 0, j, m + 1, hj, hm, hd => by
  obtain⟨y,z'⟩:=x
  have h:=pcol_step7 s n l p l.2.length (l.2.length:Int) (j:Int) (rps n l.2) y z' a b m (i:Int) (k:Int) M O
  rw[List.drop_eq_nil_of_le (by omega)] at hd
  have K:=K1 hd
  obtain⟨w1,w2,hnr⟩:=df3 hn hp
  have hc:=cnd_l ht hnr
  simp only[ile_t (show ((l.2.length:Nat):Int)≤j by omega),Bool.not_true,cond_false,w1,w2,hc,cond_true,wr_succ hk,rps_plO] at h
  unfold stC at K
  clear K1 K0
  cases c:metF n p (a,b,()) false with
  |false=>
   rw[c,cond_false] at K
   rw[show seenF a b ((p.1-n.1.1) * (p.1-n.1.1)+(p.2.1-n.1.2.1) * (p.2.1-n.1.2.1))=false from c,cond_false] at h
   exact .stop Zcl_ok F6sy h K
  |true=>
   rw[c,cond_true] at K
   rw[show seenF a b ((p.1-n.1.1) * (p.1-n.1.1)+(p.2.1-n.1.2.1) * (p.2.1-n.1.2.1))=true from c,cond_true] at h
   exact .stop Zcl_ok F6sy h K
 | r + 1, j, m + 1, hj, hm, hd => by
  have h:=pcol_step7 s n l p l.2.length (l.2.length:Int) (j:Int) (rps n l.2) x.1 x.2 a b m (i:Int) (k:Int) M O
  have hlt:j<l.2.length:=by omega
  have hr:in3 (l.2[j]).1.1 (l.2[j]).1.2.1=true:=List.all_eq_true.1 hl _ (List.getElem_mem hlt)
  obtain⟨w1,w2,hnr⟩:=df3 hn hr
  obtain⟨z1,z2,z3,z4,z5⟩:=rps_at (n:=n) hlt
  have hc:lcB a b (rpOf n l.2[j]).2.2.2.2.1=true:=cnd_l ht hnr
  simp only[ile_f (show ((j:Nat):Int)<(l.2.length:Int) by omega),Bool.not_false,cond_true,inB_at hlt,z1,z2,z3,z4,z5,hc,ieq_self,sI_eq,sB_eq,sV_eq,bbeq_self,rps_plO,wr_succ hk,wr_succ (show j<1048577 by omega)] at h
  rw[List.drop_eq_getElem_cons hlt] at hd
  have ih:=pcol_i7 hn hp h8 hl a b ht x i k M O hk K1 K0 r (j+1) m (by omega) (by omega)
  have e:agrF n (l.2[j]::l.2.drop (j+1)) (a,b,()) false=(agr1 n (a,b,()) false l.2[j]&&agrF n (l.2.drop (j+1)) (a,b,()) false):=rfl
  rw[e] at hd
  unfold agr1 at hd
  have es:metF n (l.2[j]).1 (a,b,()) false=seenF a b (rpOf n l.2[j]).2.2.2.2.1:=rfl
  rw[es] at hd
  cases c1:(l.2[j]).2.1 == false with
  |false=>
   rw[c1,cond_false] at h
   rw[c1,cond_false,Bool.true_and] at hd
   exact .stop Zcl_ok F6sy h (ih hd)
  | true =>
   rw[c1,cond_true] at h
   rw[c1,cond_true] at hd
   cases c2:(l.2[j]).2.2.1 == seenF a b (rpOf n l.2[j]).2.2.2.2.1 with
   |false=>
    rw[c2,Bool.false_and] at hd
    rw[c2,Bool.not_false,cond_true] at h
    exact .stop Zcl_ok F6sy h (K0 hd)
   |true=>
    rw[c2,Bool.true_and] at hd
    rw[c2,Bool.not_true,cond_false] at h
    exact .stop Zcl_ok F6sy h (ih hd)
theorem pcol_in1 (R:Rngs s n) (hn:in3 n.1.1 n.1.2.1=true) (hp:in3 p.1 p.2.1=true) (h8:l.2.length≤8) (hl:repB l.2=true) (i:Nat) (hi:i<ngA s n) (rest:List tP.den) (O:Nat) (K:∀ x:Bool×Bool,Ans F6 (pcolI4 s n l p ((i+1:Nat):Int) l.2.length (rps n l.2) x.1 x.2 O) (tup2 (couR ((rest.filter fun t=>agrF n l.2 t false).foldl (stC n p false) x)))) :
  ∀ (r k m:Nat) (x:Bool×Bool) (b:Int),b=cLo s+k→k+r=nB s→r<m→Ans F6 (pcolI6 s n l p (i:Int) (k:Int) l.2.length (rps n l.2) x.1 x.2 m (O+1)) (tup2 (couR (((rowP (gLo s n+i) r b++rest).filter fun t=>agrF n l.2 t false).foldl (stC n p false) x)))
 |0,k,m+1,x,b,hb,hk,hm=>by
  have h:=pcol_step6 s n l p (i:Int) (k:Int) l.2.length (rps n l.2) x.1 x.2 m O
  have e:wr .i64 (wr .i64 (s.2.2.1.2.1-s.2.2.1.1)+1)=(nB s:Int):=R.wc
  have:=R.na
  rw[e,ile_t (show ((nB s:Nat):Int)≤k by omega),Bool.not_true,cond_false,wr_succ (show i<1048577 by omega),rps_plO,cond_true] at h
  exact .stop Zcl_ok F6sy h (K x)
 | r + 1, k, m + 1, x, b, hb, hk, hm => by
  have h:=pcol_step6 s n l p (i:Int) (k:Int) l.2.length (rps n l.2) x.1 x.2 m O
  have e:wr .i64 (wr .i64 (s.2.2.1.2.1-s.2.2.1.1)+1)=(nB s:Int):=R.wc
  have n1:=R.na
  have n2:=R.nb
  have g:=R.g
  have c:=R.c
  have nae:((ngA s n:Nat):Int)=gHi s n-gLo s n+1:=by unfold ngA;omega
  have nbe:((nB s:Nat):Int)=cHi s-cLo s+1:=by unfold nB;omega
  have w1:wr .i64 ((s.1.2.getD (Int.toNat n.2.1) tGr.dflt).2.1.1+(i:Int))=gLo s n+i:=wr_in (n:=gLo s n+(i:Int)) (by omega) (by omega)
  have w2:wr .i64 (s.2.2.1.1+(k:Int))=b:=by subst hb;exact wr_in (n:=cLo s+(k:Int)) (by omega) (by omega)
  have ht:truB (gLo s n+i,b,()) false=true:=by
   show (ile 0 (gLo s n+i)&&ile (gLo s n+i) 5000&&ile 1 b&&ile b 300)=true
   rw[ile_t (show 0≤gLo s n+(i:Int) by omega),ile_t (show gLo s n+(i:Int)≤5000 by omega),ile_t (show 1≤b by omega),ile_t (show b≤300 by omega)];rfl
  rw[e,ile_f (show (k:Int)<((nB s:Nat):Int) by omega),Bool.not_false,cond_true] at h
  rw[w1,w2] at h
  have ih:=fun x=>pcol_in1 R hn hp h8 hl i hi rest O K r (k+1) m x (b+1) (by omega) (by omega) (by omega)
  refine .stop Zcl_ok F6sy h (pcol_i7 hn hp h8 hl _ _ ht x i k m O (by omega) (fun c=>?_) (fun c=>?_) l.2.length 0 1048575 (by omega) (by omega) rfl)
  · have e : (rowP (gLo s n + i) (r + 1) b ++ rest).filter (fun t => agrF n l.2 t false) = (gLo s n + i, b, ()) :: (rowP (gLo s n + i) r (b + 1) ++ rest).filter (fun t => agrF n l.2 t false) :=
     List.filter_cons_of_pos c
    rw[e]
    exact ih _
  · have e : (rowP (gLo s n + i) (r + 1) b ++ rest).filter (fun t => agrF n l.2 t false) = (rowP (gLo s n + i) r (b + 1) ++ rest).filter (fun t => agrF n l.2 t false) :=
     List.filter_cons_of_neg (by rw[c];decide)
    rw[e]
    exact ih _
theorem pcol_out1 (R:Rngs s n) (hn:in3 n.1.1 n.1.2.1=true) (hp:in3 p.1 p.2.1=true) (h8:l.2.length≤8) (hl:repB l.2=true):∀ (r i m:Nat) (x:Bool×Bool) (a:Int),a=gLo s n+i→i+r=ngA s n→r<m→Ans F6 (pcolI4 s n l p (i:Int) l.2.length (rps n l.2) x.1 x.2 m) (tup2 (couR (((allP (cLo s) (nB s) r a).filter fun t=>agrF n l.2 t false).foldl (stC n p false) x)))
 |0,i,m+1,x,a,ha,hi,hm=>by
  obtain⟨y,z'⟩:=x
  have h:=pcol_step4 s n l p (i:Int) l.2.length (rps n l.2) y z' m
  have e:wr .i64 (wr .i64 ((s.1.2.getD (Int.toNat n.2.1) tGr.dflt).2.1.2.1-(s.1.2.getD (Int.toNat n.2.1) tGr.dflt).2.1.1)+1)=(ngA s n:Int):=R.wg
  rw[e,ile_t (show ((ngA s n:Nat):Int)≤i by omega),Bool.not_true,cond_false] at h
  cases y<;>cases z'<;>exact done2 Zcl_ok F6sy h rfl
 |r+1,i,m+1,x,a,ha,hi,hm=>by
  have h:=pcol_step4 s n l p (i:Int) l.2.length (rps n l.2) x.1 x.2 m
  have e:wr .i64 (wr .i64 ((s.1.2.getD (Int.toNat n.2.1) tGr.dflt).2.1.2.1-(s.1.2.getD (Int.toNat n.2.1) tGr.dflt).2.1.1)+1)=(ngA s n:Int):=R.wg
  rw[e,ile_f (show (i:Int)<((ngA s n:Nat):Int) by omega),Bool.not_false,cond_true] at h
  subst ha
  exact .stop Zcl_ok F6sy h (pcol_in1 R hn hp h8 hl i (by omega) _ m (fun x=>pcol_out1 R hn hp h8 hl r (i+1) m x _ (by omega) (by omega) (by omega)) (nB s) 0 1048575 x (cLo s) (by omega) (by omega) (by have:=R.nb;omega))
theorem pcol_nv (R:Rngs s n) (hN:NigOK s n l.2) (hp:in3 p.1 p.2.1=true):∀ (r k m:Nat),1≤k→k+r=l.2.length→r<m→Ans F6 (pcolI2 s n l p (k:Int) k (rps n (l.2.take k)) m) (tup2 (couR ((trT s n l.2 false).foldl (stC n p false) (false,false))))
 |0,k,m+1,h1,hk,hm=>by
  have h:=pcol_step2 s n l p (k:Int) k (rps n (l.2.take k)) m
  have h8:=hN.len
  have hi:inB n.2.1 s.1.2.length=true:=inB_of hN.g0.1 hN.g0.2
  obtain⟨w1,w2,hnr⟩:=df3 hN.at_ hp
  have ek:k=l.2.length:=by omega
  subst ek
  rw[List.take_length] at h⊢
  simp only[ile_t (show Int.ofNat l.2.length≤((l.2.length:Nat):Int) from Int.le_refl _),Bool.not_true,cond_false,ieq_self,sI_eq,sB_eq,sV_eq,bbeq_self,vsB_self,hi,w1,w2,hnr,rps_plO,avbeq_sl13,cond_true] at h
  exact .stop Zcl_ok F6sy h (pcol_out1 R hN.at_ hp h8 hN.reps (ngA s n) 0 1048575 (false,false) (gLo s n) (by omega) (by omega) (by have:=R.na;omega))
 | r + 1, k, m + 1, h1, hk, hm => by
  have h:=pcol_step2 s n l p (k:Int) k (rps n (l.2.take k)) m
  have h8:=hN.len
  have hlt:k<l.2.length:=by omega
  have hr:in3 (l.2[k]).1.1 (l.2[k]).1.2.1=true:=List.all_eq_true.1 hN.reps _ (List.getElem_mem hlt)
  obtain⟨wn,wc⟩:=rp_wr hN.at_ hr
  have eg:l.2.getD (k:Int).toNat tRe.dflt=l.2[k]:=getD_at hlt
  have b1:(0+k * 6).beq (rps n (l.2.take k)).length=true:=rps_beq (by rw[List.length_take];omega)
  have b2:k.ble 1048576=true:=Nat.ble_eq_true_of_le (by omega)
  have pl:plO (.cells false (rps n (l.2.take (k+1))))=true:=rps_plO _ _
  have ap:rps n (l.2.take k)++tRp.cells (rpOf n l.2[k])=rps n (l.2.take (k+1)):=by
   rw[rps_add,← List.take_succ_eq_append_getElem hlt]
  have av:=avbeq_sl13 k
  simp only[ile_f (show ((k:Nat):Int)<Int.ofNat l.2.length by show (k:Int)<(l.2.length:Int);omega),Bool.not_false,cond_true,inB_at hlt,eg,wn,wc,ap,pl,b1,b2,av,ieq_self,sI_eq,sB_eq,sV_eq,bbeq_self,wr_succ (show k<1048577 by omega)] at h
  exact .stop Zcl_ok F6sy h (pcol_nv R hN hp r (k+1) m (by omega) (by omega) (by omega))
end
theorem pcol_call (s:tSt.den) (n:tNi.den) (l:(Ty.sl tRe).den) (p:tP.den):AnsF F6 11 [tSt.av s,tNi.av n,.vs tRe l.1 l.2,tP.av p,.bool false] (tup2 (couS s n l.2 p false)):=by
 refine Ans.call (n:=40) (ext_none (by kernel_rfl)) (hasB_spec (by kernel_rfl)) ?_
 have h:=pcol_start s n l p
 unfold couS
 simp only[ieq_self,sI_eq,sB_eq,sV_eq,bbeq_self,vsB_self,cond_true] at h
 cases c:ieq (cknS s n l.2).2 0 with
 |false=>
  simp only[c,Bool.not_false,cond_true] at h
  rw[cond_false]
  exact done2 Zcl_ok F6sy h rfl
 | true =>
  simp only[c,Bool.not_true,cond_false] at h
  rw[cond_true]
  cases hp:in3 p.1 p.2.1 with
  |false=>
   rw[cond_false]
   unfold in3 at hp
   cases q1:ile (-30000) p.1<;>cases q2:ile p.1 30000<;>cases q3:ile (-30000) p.2.1<;>cases q4:ile p.2.1 30000<;>simp only[q1,q2,q3,q4,Bool.not_true,Bool.not_false,cond_true,cond_false,Bool.true_and] at h hp<;>first|exact done2 Zcl_ok F6sy h rfl|cases hp
  |true=>
  rw[cond_true]
  have hp4:=hp
  unfold in3 at hp4
  simp only[Bool.and_eq_true] at hp4
  simp only[hp4.1.1.1,hp4.1.1.2,hp4.1.2,hp4.2,Bool.not_true,cond_false] at h
  have hN:=nig_ok c
  have R:=rngs_ok hN
  have h8:=hN.len
  obtain⟨w1,w2,hnr⟩:=df3 hN.at_ hp
  refine .stop Zcl_ok F6sy h ?_
  have h:=pcol_step0 s n l p 1048574
  have hi:inB n.2.1 s.1.2.length=true:=inB_of hN.g0.1 hN.g0.2
  cases hl:l.2 with
  |nil=>
   simp only[hl,show ile (Int.ofNat ([]:List tRe.den).length) 0=true from rfl,Bool.not_true,cond_false,ieq_self,sI_eq,sB_eq,sV_eq,bbeq_self,vsB_self,hi,w1,w2,hnr,cond_true] at h
   have k:=pcol_out0 (l:=l) R hN.at_ hp (ngA s n) 0 1048575 (false,false) (gLo s n) (by omega) (by omega) (by have:=R.na;omega)
   have e:trT s n [] false=allP (cLo s) (nB s) (ngA s n) (gLo s n):=List.filter_eq_self.2 fun _ _=>rfl
   rw[e]
   exact .stop Zcl_ok F6sy h k
  | cons r q =>
   rw[← hl]
   have hlt:0<l.2.length:=by rw[hl];simp
   have hr:in3 (l.2[0]).1.1 (l.2[0]).1.2.1=true:=List.all_eq_true.1 hN.reps _ (List.getElem_mem hlt)
   obtain⟨wn,wc⟩:=rp_wr hN.at_ hr
   have eg:l.2.getD (Int.toNat 0) tRe.dflt=l.2[0]:=getD_at (k:=0) hlt
   have ap:tRp.cells (rpOf n l.2[0])=rps n (l.2.take 1):=by
    have:=rps_add n [] l.2[0]
    have t1:=List.take_succ_eq_append_getElem hlt
    rw[List.take_zero,List.nil_append] at t1
    rw[t1]
    exact this
   have i0:inB 0 l.2.length=true:=inB_at (k:=0) hlt
   simp only[ile_f (show (0:Int)<Int.ofNat l.2.length by show (0:Int)<(l.2.length:Int);omega),Bool.not_false,cond_true,i0,eg,wn,wc,ap,ieq_self,sI_eq,sB_eq,sV_eq,bbeq_self] at h
   exact .stop Zcl_ok F6sy h (pcol_nv R hN hp (l.2.length-1) 1 1048574 (by omega) (by omega) (by omega))
end Go.Proofs.YtpnipaimaohiaaaGreatDoor


set_option maxRecDepth 100000
namespace Go.Proofs.YtpnipaimaohiaaaGreatDoor
open Go Go.Eng
noncomputable def pcohk0 (z0:tSt.den):AV:=(.agg [(.vs tGr (z0.1.1) (z0.1.2)),(iI (z0.2.1.1)),(iI (z0.2.1.2.1)),(iI (z0.2.2.1.1)),(iI (z0.2.2.1.2.1))])
noncomputable def pcohk4 (z0:tNi.den):AV:=(.agg [(iI (z0.1.1)),(iI (z0.1.2.1)),(iI (z0.2.1)),(iI (z0.2.2.1)),(iI (z0.2.2.2.1))])
noncomputable def pcohk19 (z0:tSt.den) (z1:tNi.den):AV:=(.agg [(.vs tGr (z0.1.1) (z0.1.2)),(iI (z0.2.1.1)),(iI (z0.2.1.2.1)),(iI (z0.2.2.1.1)),(iI (z0.2.2.1.2.1)),(iI (z1.1.1)),(iI (z1.1.2.1)),(iI (z1.2.1)),(iI (z1.2.2.1)),(iI (z1.2.2.2.1)),.nils])
noncomputable def pcohQ0 (s:tSt.den) (n:tNi.den) (l:(Ty.sl tRe).den):Tmps:=(tmOf 37 [(0,(pcohk0 s)),(1,(pcohk4 n)),(2,(.vs tRe (l.1) (l.2))),(3,(pP 10 0)),(4,(pP 11 0)),(6,.nilp),(7,(pP 12 0)),(10,(pcohk0 s)),(11,(pcohk4 n)),(12,(pcohk19 s n)),(13,(pP 12 0)),(14,(.vs tRe (l.1) (l.2))),(15,(iI (Int.ofNat l.2.length))),(16,(iI 0))])
noncomputable def pcohQ1 (s:tSt.den) (n:tNi.den) (l:(Ty.sl tRe).den):Tmps:=(tmOf 41 [(0,(pcohk0 s)),(1,(pcohk4 n)),(2,(.vs tRe (l.1) (l.2))),(3,(.sl 4 0 (1) (1) 1)),(4,(pP 8 0)),(5,(pP 9 0)),(8,.nilp),(9,(iI 0)),(10,(iI ((cknS s n l.2).1))),(11,(iI ((cknS s n l.2).2))),(15,(.tup [(iI ((cknS s n l.2).1)),(iI ((cknS s n l.2).2))])),(16,(pcohk0 s)),(17,(pcohk4 n)),(18,(.vs tRe (l.1) (l.2))),(19,(.tup [(iI ((cknS s n l.2).1)),(iI ((cknS s n l.2).2))])),(20,(iI ((cknS s n l.2).1))),(21,(iI ((cknS s n l.2).2))),(22,(iI ((cknS s n l.2).2))),(23,(.bool false)),(25,(.sl 4 0 (1) (1) 1)),(26,(iI 1)),(27,(iI 1)),(28,(.bool false)),(37,(pcohk0 s)),(38,(pcohk4 n)),(39,(.vs tRe (l.1) (l.2)))])
noncomputable def pcohk1 (z0:tSt.den):AO:=(cF [(.vs tGr (z0.1.1) (z0.1.2)),(iI (z0.2.1.1)),(iI (z0.2.1.2.1)),(iI (z0.2.2.1.1)),(iI (z0.2.2.1.2.1))])
noncomputable def pcohk3 (z0:tNi.den):AO:=(cF [(iI (z0.1.1)),(iI (z0.1.2.1)),(iI (z0.2.1)),(iI (z0.2.2.1)),(iI (z0.2.2.2.1))])
noncomputable def pcohk18 (z0:tP.den):AO:=(.cells true [(iI (z0.1)),(iI (z0.2.1))])
noncomputable def pcohk16 (z0:tP.den):AO:=(cF [(.csl [(iI (z0.1)),(iI (z0.2.1))] 2)])
noncomputable def pcohQ2 (s:tSt.den) (n:tNi.den) (p:tP.den):Hp:=(hpOf 8 [(0,(pcohk1 s)),(1,(pcohk3 n)),(2,(cF [(iI (p.1)),(iI (p.2.1))])),(3,(pcohk18 p)),(5,(cF [(iI (-30000))])),(6,(cF [(iI 30000)])),(7,(pcohk16 p))])
noncomputable def pcohQ3 (s:tSt.den) (n:tNi.den) (p:tP.den):Hp:=(hpOf 5 [(0,(pcohk1 s)),(1,(pcohk3 n)),(2,(cF [(iI (p.1)),(iI (p.2.1))]))])
noncomputable def pcohQ4 (s:tSt.den) (n:tNi.den) (l:(Ty.sl tRe).den) (p:tP.den):Tmps:=(tmOf 54 [(0,(pcohk0 s)),(1,(pcohk4 n)),(2,(.vs tRe (l.1) (l.2))),(3,(.agg [(iI (p.1)),(iI (p.2.1))])),(4,(.bool true)),(5,(pP 0 0)),(6,(pP 1 0)),(8,(pP 2 0)),(10,(iI 0)),(11,(iI 0)),(19,(pcohk0 s)),(20,(pcohk4 n)),(21,(.vs tRe (l.1) (l.2))),(22,(pP 2 0)),(23,(iI (p.1))),(24,(pP 2 1))])
noncomputable def pcohQ5 (s:tSt.den) (n:tNi.den) (l:(Ty.sl tRe).den) (p:tP.den):Tmps:=(tmOf 54 [(0,(pcohk0 s)),(1,(pcohk4 n)),(2,(.vs tRe (l.1) (l.2))),(3,(.agg [(iI (p.1)),(iI (p.2.1))])),(4,(.bool true)),(5,(pP 0 0)),(6,(pP 1 0)),(8,(pP 2 0)),(10,(iI 0)),(11,(iI 0)),(19,(pcohk0 s)),(20,(pcohk4 n)),(21,(.vs tRe (l.1) (l.2))),(22,(pP 2 0)),(23,(iI (p.1))),(24,(pP 2 1)),(25,(iI (p.2.1)))])
noncomputable def pcohQ6 (s:tSt.den) (n:tNi.den) (l:(Ty.sl tRe).den) (p:tP.den):Tmps:=(tmOf 54 [(0,(pcohk0 s)),(1,(pcohk4 n)),(2,(.vs tRe (l.1) (l.2))),(3,(.agg [(iI (p.1)),(iI (p.2.1))])),(4,(.bool true)),(5,(pP 0 0)),(6,(pP 1 0)),(8,(pP 2 0)),(10,(iI 0)),(11,(iI 0)),(19,(pcohk0 s)),(20,(pcohk4 n)),(21,(.vs tRe (l.1) (l.2))),(22,(pP 2 0))])
noncomputable def pcohQ7 (s:tSt.den) (n:tNi.den) (l:(Ty.sl tRe).den) (p:tP.den):Tmps:=(tmOf 54 [(0,(pcohk0 s)),(1,(pcohk4 n)),(2,(.vs tRe (l.1) (l.2))),(3,(.agg [(iI (p.1)),(iI (p.2.1))])),(4,(.bool true)),(5,(pP 0 0)),(6,(pP 1 0)),(8,(pP 2 0)),(10,(iI 0)),(11,(iI 0)),(19,(pcohk0 s)),(20,(pcohk4 n)),(21,(.vs tRe (l.1) (l.2))),(22,(pP 2 0)),(23,(iI (p.1)))])
noncomputable def pcohQ8 (s:tSt.den) (n:tNi.den) (l:(Ty.sl tRe).den) (p:tP.den):Tmps:=(tmOf 54 [(0,(pcohk0 s)),(1,(pcohk4 n)),(2,(.vs tRe (l.1) (l.2))),(3,(.agg [(iI (p.1)),(iI (p.2.1))])),(4,(.bool true)),(5,(pP 0 0)),(6,(pP 1 0)),(8,(pP 2 0)),(10,(iI 0)),(11,(iI 0)),(19,(pcohk0 s))])
noncomputable def pcohQ9 (s:tSt.den) (n:tNi.den) (l:(Ty.sl tRe).den) (p:tP.den):Tmps:=(tmOf 54 [(0,(pcohk0 s)),(1,(pcohk4 n)),(2,(.vs tRe (l.1) (l.2))),(3,(.agg [(iI (p.1)),(iI (p.2.1))])),(4,(.bool true)),(5,(pP 0 0)),(6,(pP 1 0)),(8,(pP 2 0)),(10,(iI 0)),(11,(iI 0)),(19,(pcohk0 s)),(20,(pcohk4 n))])
noncomputable def pcohQ10 (s:tSt.den) (n:tNi.den) (l:(Ty.sl tRe).den) (p:tP.den):Tmps:=(tmOf 54 [(0,(pcohk0 s)),(1,(pcohk4 n)),(2,(.vs tRe (l.1) (l.2))),(3,(.agg [(iI (p.1)),(iI (p.2.1))])),(4,(.bool true)),(5,(pP 0 0)),(6,(pP 1 0)),(8,(pP 2 0)),(10,(iI 0)),(11,(iI 0))])
noncomputable def pcohQ11 (s:tSt.den) (n:tNi.den) (l:(Ty.sl tRe).den) (p:tP.den):Tmps:=(tmOf 54 [(0,(pcohk0 s)),(1,(pcohk4 n)),(2,(.vs tRe (l.1) (l.2))),(3,(.agg [(iI (p.1)),(iI (p.2.1))])),(4,(.bool true)),(5,(pP 0 0)),(6,(pP 1 0)),(8,(pP 2 0)),(10,(iI 0)),(11,(iI 0)),(19,(pcohk0 s)),(20,(pcohk4 n)),(21,(.vs tRe (l.1) (l.2))),(22,(pP 2 0)),(23,(iI (p.1))),(24,(pP 2 1)),(25,(iI (p.2.1))),(26,(.sl 3 0 (2) (2) 1)),(27,(.fn 59 [] [(pP 5 0),(pP 6 0),(pP 7 0)])),(28,(.sl 4 0 (1) (1) 1))])
noncomputable def pcohk17:AO:=(cF [(.fn 59 [] [(pP 5 0),(pP 6 0),(pP 7 0)])])
noncomputable def pcohk7 (z0:tSt.den) (z1:tNi.den):AO:=(cF [(.vs tGr (z0.1.1) (z0.1.2)),(iI (z0.2.1.1)),(iI (z0.2.1.2.1)),(iI (z0.2.2.1.1)),(iI (z0.2.2.1.2.1)),(iI (z1.1.1)),(iI (z1.1.2.1)),(iI (z1.2.1)),(iI (z1.2.2.1)),(iI (z1.2.2.2.1)),.nils])
noncomputable def pcohk8 (z0:tSt.den) (z1:tNi.den) (z2:tP.den) (z3:(Ty.sl tRe).den):Fm:=(.cal [(.tmp 8),(.tmp 9)] (.dr ⟨(pcOf F6 11 [0,1]),opsD (pcOf F6 11 [0,1]).c,3,(opsD (pcOf F6 11 [0,1]).c).toList.drop 11,(fsD (pcOf F6 11 [0,1]).c).drop 11,10,[((pcohQ2 z0 z1 z2),248,(some 8)),((pcohQ3 z0 z1 z2),0,none)],[((opsD (pcOf F6 11 [0,1]).c).getD 6 default,6,32,(pcohQ4 z0 z1 z3 z2),(pcohQ5 z0 z1 z3 z2)),((opsD (pcOf F6 11 [0,1]).c).getD 4 default,4,8,(pcohQ6 z0 z1 z3 z2),(pcohQ7 z0 z1 z3 z2)),((opsD (pcOf F6 11 [0,1]).c).getD 1 default,1,0,(pcohQ8 z0 z1 z3 z2),(pcohQ9 z0 z1 z3 z2)),((opsD (pcOf F6 11 [0,1]).c).getD 0 default,0,0,(pcohQ10 z0 z1 z3 z2),(pcohQ8 z0 z1 z3 z2))],false⟩ ((opsD (pcOf F6 11 [0,1]).c).getD 10 default) ((fsD (pcOf F6 11 [0,1]).c).getD 10 default) (pcohQ11 z0 z1 z3 z2) [] 54 false ⟨40,[]⟩))
noncomputable def pcohI0 (s:tSt.den) (n:tNi.den) (l:(Ty.sl tRe).den) (p:tP.den) (x130:Nat):Cfg:=⟨.ex (pcOf F6 54 [0,0,1,0,1,1]) ⟨(pcohQ0 s n l),(hpOf 13 [(0,(pcohk1 s)),(1,(pcohk3 n)),(2,(cF [(iI (p.1)),(iI (p.2.1))])),(3,(pcohk18 p)),(4,(pcohk17)),(5,(cF [(iI (-30000))])),(6,(cF [(iI 30000)])),(7,(pcohk16 p)),(8,(pcohk1 s)),(9,(pcohk3 n)),(10,(pcohk1 s)),(11,(pcohk3 n)),(12,(pcohk7 s n))]),[],[],37,false⟩,⟨38,[]⟩,[(.lop (pcOf F6 54 [0,0,1,0,1,1]) 13 (pcohQ0 s n l) x130),(.blk 0),(.seq (pcOf F6 54 [1,1,1])),(.cal [(.tmp 6)] (.op (pcOf F6 28 [0,1,1,1]) 4 (some 40) ((opsOf (pcOf F6 28 [0,1,1,1]).c).toList.drop 4) (pcohQ1 s n l) [] 41 false ⟨39,[]⟩)),(.seq (pcOf F6 28 [1,1,1,1])),(pcohk8 s n p l),(.seq (pcOf F6 11 [1,1])),(.cal [(.tmp 10),(.tmp 11)] .top)]⟩
noncomputable def pcohQ12:Tmps:=(tmOf 24 [(0,(.yld 20)),(1,(pP 18 0)),(2,(pP 19 0)),(3,(pP 21 0)),(7,(pP 12 0)),(8,(.bool true)),(9,(.fn 104 [] [(pP 22 0),(pP 23 0),(pP 24 0)]))])
noncomputable def pcohk15 (z0:tP.den) (z1:tNi.den):AV:=(iI (wr .i64 (z0.1-z1.1.1) * wr .i64 (z0.1-z1.1.1)+wr .i64 (z0.2.1-z1.1.2.1) * wr .i64 (z0.2.1-z1.1.2.1)))
noncomputable def pcohk24 (z0:tP.den) (z1:tNi.den):AV:=(iI (ptF (wr .i64 (z0.1-z1.1.1)) (wr .i64 (z0.2.1-z1.1.2.1))))
noncomputable def pcohQ13 (s:tSt.den) (n:tNi.den) (l:(Ty.sl tRe).den) (p:tP.den):Tmps:=(tmOf 54 [(0,(pcohk0 s)),(1,(pcohk4 n)),(2,(.vs tRe (l.1) (l.2))),(3,(.agg [(iI (p.1)),(iI (p.2.1))])),(4,(.bool true)),(5,(pP 0 0)),(6,(pP 1 0)),(8,(pP 2 0)),(10,(iI 0)),(11,(iI 0)),(12,(pP 12 0)),(13,(iI 0)),(14,(pP 15 0)),(15,(pP 16 0)),(16,(pP 17 0)),(18,(.tup [(pP 12 0),(iI 0)])),(19,(pcohk0 s)),(20,(pcohk4 n)),(21,(.vs tRe (l.1) (l.2))),(22,(pP 2 0)),(23,(iI (p.1))),(24,(pP 2 1)),(25,(iI (p.2.1))),(26,(.sl 3 0 (2) (2) 1)),(27,(.fn 59 [] [(pP 5 0),(pP 6 0),(pP 7 0)])),(28,(.sl 4 0 (1) (1) 1)),(29,(.tup [(pP 12 0),(iI 0)])),(30,(pP 12 0)),(31,(iI 0)),(32,(iI 0)),(33,(.bool false)),(35,(pP 12 0)),(36,(.agg [(iI (p.1)),(iI (p.2.1))])),(37,(.agg [(pcohk15 p n),(pcohk24 p n)])),(38,(pP 12 0)),(39,(.bool true)),(40,(.fn 55 [] [(pP 18 0),(pP 19 0)]))])
noncomputable def pcohk14 (z0:tSt.den):AV:=(.agg [(iI (z0.2.1.1)),(iI (z0.2.1.2.1))])
noncomputable def pcohk12 (z0:tSt.den):AV:=(iI (wr .i64 (wr .i64 (z0.2.1.2.1-z0.2.1.1)+1)))
noncomputable def pcohQ14 (s:tSt.den):Tmps:=(tmOf 33 [(0,(.yld 25)),(1,(pP 22 0)),(2,(pP 23 0)),(3,(pP 24 0)),(7,(pcohk14 s)),(8,(pcohk12 s)),(9,(iI 0))])
noncomputable def pcohk2 (z0:tP.den) (z1:tNi.den):AO:=(cF [(pcohk15 z0 z1),(pcohk24 z0 z1)])
noncomputable def pcohk13 (z0:tSt.den):AO:=(cF [(iI (z0.2.1.1)),(iI (z0.2.1.2.1))])
noncomputable def pcohk5 (z0:tNi.den):AV:=(iI (wr .i64 (wr .i64 (z0.2.2.1+z0.2.2.2.1)-1)))
noncomputable def pcohk21:HD:=⟨25,24,39,(pcohQ12),#[10],(pcOf F6 55 [0,0,1,1,0,1]),(pcOf F6 55 [1,0,1,1,0,1])⟩
noncomputable def pcohk9 (z0:tSt.den) (z1:tNi.den) (z2:(Ty.sl tRe).den) (z3:tP.den):HD:=⟨20,54,40,(pcohQ13 z0 z1 z2 z3),#[41],(pcOf F6 11 [0,0,1,0,1,1,1,1,1]),(pcOf F6 11 [1,0,1,0,1,1,1,1,1])⟩
noncomputable def pcohI1 (s:tSt.den) (n:tNi.den) (l:(Ty.sl tRe).den) (p:tP.den) (x3:Int) (x62:Bool) (x63:Bool) (x124:Nat):Cfg:=⟨.ex (pcOf F6 104 [0,0,1]) ⟨(tmOf 33 [(0,(.yld 25)),(1,(pP 22 0)),(2,(pP 23 0)),(3,(pP 24 0)),(7,(pcohk14 s)),(8,(pcohk12 s)),(9,(iI x3))]),(hpOf 27 [(0,(pcohk1 s)),(1,(pcohk3 n)),(2,(cF [(iI (p.1)),(iI (p.2.1))])),(3,(pcohk18 p)),(4,(pcohk17)),(5,(cF [(iI (-30000))])),(6,(cF [(iI 30000)])),(7,(pcohk16 p)),(8,(pcohk1 s)),(9,(pcohk3 n)),(10,(pcohk1 s)),(11,(pcohk3 n)),(12,(pcohk7 s n)),(13,(cF [(iI (p.1)),(iI (p.2.1))])),(14,(pcohk2 p n)),(15,(pcohk2 p n)),(16,(cF [(.bool x62)])),(17,(cF [(.bool x63)])),(18,(cF [(pP 12 0)])),(19,(cF [(.bool true)])),(21,(cF [(.yld 20)])),(22,(pcohk13 s)),(23,(cF [(iI (n.2.2.1)),(pcohk5 n)])),(24,(cF [(.fn 42 [] [])])),(26,(pcohk13 s))]),[],[⟨false,.normal⟩,⟨false,.normal⟩],33,false⟩,⟨38,[(pcohk21),(pcohk9 s n l p)]⟩,[(.lop (pcOf F6 104 [0,0,1]) 27 (pcohQ14 s) x124),(.blk 0),(.cal [] (.rng (pcohQ12) [] 24 false ⟨39,[(pcohk9 s n l p)]⟩)),(.blk 0),(.cal [] (.rng (pcohQ13 s n l p) [] 54 false ⟨40,[]⟩)),(.blk 0),(.seq (pcOf F6 11 [1,1,1,1,1,1])),(.cal [(.tmp 10),(.tmp 11)] .top)]⟩
noncomputable def pcohk6 (z0:tSt.den) (z1:tNi.den) (z2:Nat):AO:=(cF [(.vs tGr (z0.1.1) (z0.1.2)),(iI (z0.2.1.1)),(iI (z0.2.1.2.1)),(iI (z0.2.2.1.1)),(iI (z0.2.2.1.2.1)),(iI (z1.1.1)),(iI (z1.1.2.1)),(iI (z1.2.1)),(iI (z1.2.2.1)),(iI (z1.2.2.2.1)),(.sl 13 0 z2 z2 6)])
noncomputable def pcohI2 (s:tSt.den) (n:tNi.den) (l:(Ty.sl tRe).den) (p:tP.den) (x38:Int) (x91:Nat) (x93:List AV) (x133:Nat):Cfg:=⟨.ex (pcOf F6 54 [0,0,1,0,1,1]) ⟨(tmOf 37 [(0,(pcohk0 s)),(1,(pcohk4 n)),(2,(.vs tRe (l.1) (l.2))),(3,(pP 10 0)),(4,(pP 11 0)),(6,.nilp),(7,(pP 12 0)),(10,(pcohk0 s)),(11,(pcohk4 n)),(12,(pcohk19 s n)),(13,(pP 12 0)),(14,(.vs tRe (l.1) (l.2))),(15,(iI (Int.ofNat l.2.length))),(16,(iI x38))]),(hpOf 14 [(0,(pcohk1 s)),(1,(pcohk3 n)),(2,(cF [(iI (p.1)),(iI (p.2.1))])),(3,(pcohk18 p)),(4,(pcohk17)),(5,(cF [(iI (-30000))])),(6,(cF [(iI 30000)])),(7,(pcohk16 p)),(8,(pcohk1 s)),(9,(pcohk3 n)),(10,(pcohk1 s)),(11,(pcohk3 n)),(12,(pcohk6 s n x91)),(13,(cF x93))]),[],[],37,false⟩,⟨38,[]⟩,[(.lop (pcOf F6 54 [0,0,1,0,1,1]) 13 (pcohQ0 s n l) x133),(.blk 0),(.seq (pcOf F6 54 [1,1,1])),(.cal [(.tmp 6)] (.op (pcOf F6 28 [0,1,1,1]) 4 (some 40) ((opsOf (pcOf F6 28 [0,1,1,1]).c).toList.drop 4) (pcohQ1 s n l) [] 41 false ⟨39,[]⟩)),(.seq (pcOf F6 28 [1,1,1,1])),(pcohk8 s n p l),(.seq (pcOf F6 11 [1,1])),(.cal [(.tmp 10),(.tmp 11)] .top)]⟩
noncomputable def pcohk11 (z0:tNi.den):AV:=(iI (wr .i64 (wr .i64 (wr .i64 (wr .i64 (z0.2.2.1+z0.2.2.2.1)-1)-z0.2.2.1)+1)))
noncomputable def pcohQ15 (s:tSt.den) (n:tNi.den) (y0:Int):Tmps:=(tmOf 33 [(0,(.yld 25)),(1,(pP 22 0)),(2,(pP 23 0)),(3,(pP 24 0)),(5,(iI y0)),(7,(pcohk14 s)),(8,(pcohk12 s)),(9,(iI y0)),(10,(.bool true)),(11,(iI y0)),(12,(.agg [(iI (n.2.2.1)),(pcohk5 n)])),(13,(pcohk11 n)),(14,(iI 0))])
noncomputable def pcohk20:PC:=(pcOf F6 104 [0,0,1,1,0,0,1,1,0,0,1])
noncomputable def pcohI3 (s:tSt.den) (n:tNi.den) (l:(Ty.sl tRe).den) (p:tP.den) (x0:Int) (x10:Int) (x69:Bool) (x70:Bool) (x140:Nat) (x145:Nat):Cfg:=⟨.ex (pcohk20) ⟨(tmOf 33 [(0,(.yld 25)),(1,(pP 22 0)),(2,(pP 23 0)),(3,(pP 24 0)),(5,(iI x0)),(7,(pcohk14 s)),(8,(pcohk12 s)),(9,(iI x0)),(10,(.bool true)),(11,(iI x0)),(12,(.agg [(iI (n.2.2.1)),(pcohk5 n)])),(13,(pcohk11 n)),(14,(iI x10))]),(hpOf 28 [(0,(pcohk1 s)),(1,(pcohk3 n)),(2,(cF [(iI (p.1)),(iI (p.2.1))])),(3,(pcohk18 p)),(4,(pcohk17)),(5,(cF [(iI (-30000))])),(6,(cF [(iI 30000)])),(7,(pcohk16 p)),(8,(pcohk1 s)),(9,(pcohk3 n)),(10,(pcohk1 s)),(11,(pcohk3 n)),(12,(pcohk7 s n)),(13,(cF [(iI (p.1)),(iI (p.2.1))])),(14,(pcohk2 p n)),(15,(pcohk2 p n)),(16,(cF [(.bool x69)])),(17,(cF [(.bool x70)])),(18,(cF [(pP 12 0)])),(19,(cF [(.bool true)])),(21,(cF [(.yld 20)])),(22,(pcohk13 s)),(23,(cF [(iI (n.2.2.1)),(pcohk5 n)])),(24,(cF [(.fn 42 [] [])])),(26,(pcohk13 s)),(27,(cF [(iI (n.2.2.1)),(pcohk5 n)]))]),[],[⟨false,.normal⟩,⟨false,.normal⟩],33,false⟩,⟨38,[(pcohk21),(pcohk9 s n l p)]⟩,[(.lop (pcohk20) 28 (pcohQ15 s n x0) x140),(.blk 2),(.blk 1),(.seq (pcOf F6 104 [1,1,1,0,0,1])),(.lop (pcOf F6 104 [0,0,1]) 27 (pcohQ14 s) x145),(.blk 0),(.cal [] (.rng (pcohQ12) [] 24 false ⟨39,[(pcohk9 s n l p)]⟩)),(.blk 0),(.cal [] (.rng (pcohQ13 s n l p) [] 54 false ⟨40,[]⟩)),(.blk 0),(.seq (pcOf F6 11 [1,1,1,1,1,1])),(.cal [(.tmp 10),(.tmp 11)] .top)]⟩
noncomputable def pcohQ16:Tmps:=(tmOf 24 [(0,(.yld 21)),(1,(pP 19 0)),(2,(pP 20 0)),(3,(pP 22 0)),(7,(pP 12 0)),(8,(.bool true)),(9,(.fn 104 [] [(pP 23 0),(pP 24 0),(pP 25 0)]))])
noncomputable def pcohQ17 (s:tSt.den) (n:tNi.den) (l:(Ty.sl tRe).den) (p:tP.den):Tmps:=(tmOf 54 [(0,(pcohk0 s)),(1,(pcohk4 n)),(2,(.vs tRe (l.1) (l.2))),(3,(.agg [(iI (p.1)),(iI (p.2.1))])),(4,(.bool true)),(5,(pP 0 0)),(6,(pP 1 0)),(8,(pP 2 0)),(10,(iI 0)),(11,(iI 0)),(12,(pP 12 0)),(13,(iI 0)),(14,(pP 16 0)),(15,(pP 17 0)),(16,(pP 18 0)),(18,(.tup [(pP 12 0),(iI 0)])),(19,(pcohk0 s)),(20,(pcohk4 n)),(21,(.vs tRe (l.1) (l.2))),(22,(pP 2 0)),(23,(iI (p.1))),(24,(pP 2 1)),(25,(iI (p.2.1))),(26,(.sl 3 0 (2) (2) 1)),(27,(.fn 59 [] [(pP 5 0),(pP 6 0),(pP 7 0)])),(28,(.sl 4 0 (1) (1) 1)),(29,(.tup [(pP 12 0),(iI 0)])),(30,(pP 12 0)),(31,(iI 0)),(32,(iI 0)),(33,(.bool false)),(35,(pP 12 0)),(36,(.agg [(iI (p.1)),(iI (p.2.1))])),(37,(.agg [(pcohk15 p n),(pcohk24 p n)])),(38,(pP 12 0)),(39,(.bool true)),(40,(.fn 55 [] [(pP 19 0),(pP 20 0)]))])
noncomputable def pcohQ18 (s:tSt.den):Tmps:=(tmOf 33 [(0,(.yld 26)),(1,(pP 23 0)),(2,(pP 24 0)),(3,(pP 25 0)),(7,(pcohk14 s)),(8,(pcohk12 s)),(9,(iI 0))])
noncomputable def pcohk22:HD:=⟨26,24,39,(pcohQ16),#[10],(pcOf F6 55 [0,0,1,1,0,1]),(pcOf F6 55 [1,0,1,1,0,1])⟩
noncomputable def pcohk10 (z0:tSt.den) (z1:tNi.den) (z2:(Ty.sl tRe).den) (z3:tP.den):HD:=⟨21,54,40,(pcohQ17 z0 z1 z2 z3),#[41],(pcOf F6 11 [0,0,1,0,1,1,1,1,1]),(pcOf F6 11 [1,0,1,0,1,1,1,1,1])⟩
noncomputable def pcohI4 (s:tSt.den) (n:tNi.den) (l:(Ty.sl tRe).den) (p:tP.den) (x3:Int) (x56:Nat) (x58:List AV) (x65:Bool) (x66:Bool) (x127:Nat):Cfg:=⟨.ex (pcOf F6 104 [0,0,1]) ⟨(tmOf 33 [(0,(.yld 26)),(1,(pP 23 0)),(2,(pP 24 0)),(3,(pP 25 0)),(7,(pcohk14 s)),(8,(pcohk12 s)),(9,(iI x3))]),(hpOf 28 [(0,(pcohk1 s)),(1,(pcohk3 n)),(2,(cF [(iI (p.1)),(iI (p.2.1))])),(3,(pcohk18 p)),(4,(pcohk17)),(5,(cF [(iI (-30000))])),(6,(cF [(iI 30000)])),(7,(pcohk16 p)),(8,(pcohk1 s)),(9,(pcohk3 n)),(10,(pcohk1 s)),(11,(pcohk3 n)),(12,(pcohk6 s n x56)),(13,(cF x58)),(14,(cF [(iI (p.1)),(iI (p.2.1))])),(15,(pcohk2 p n)),(16,(pcohk2 p n)),(17,(cF [(.bool x65)])),(18,(cF [(.bool x66)])),(19,(cF [(pP 12 0)])),(20,(cF [(.bool true)])),(22,(cF [(.yld 21)])),(23,(pcohk13 s)),(24,(cF [(iI (n.2.2.1)),(pcohk5 n)])),(25,(cF [(.fn 42 [] [])])),(27,(pcohk13 s))]),[],[⟨false,.normal⟩,⟨false,.normal⟩],33,false⟩,⟨38,[(pcohk22),(pcohk10 s n l p)]⟩,[(.lop (pcOf F6 104 [0,0,1]) 28 (pcohQ18 s) x127),(.blk 0),(.cal [] (.rng (pcohQ16) [] 24 false ⟨39,[(pcohk10 s n l p)]⟩)),(.blk 0),(.cal [] (.rng (pcohQ17 s n l p) [] 54 false ⟨40,[]⟩)),(.blk 0),(.seq (pcOf F6 11 [1,1,1,1,1,1])),(.cal [(.tmp 10),(.tmp 11)] .top)]⟩
noncomputable def pcohQ19:Tmps:=(tmOf 29 [(0,(.yld 32)),(1,(pP 30 0)),(2,(pP 31 0)),(6,(pP 12 0)),(7,(pP 12 0)),(8,(pP 12 10)),(9,.nils),(10,(iI 0)),(11,(iI 0))])
noncomputable def pcohQ20 (y0:Int) (y1:Int):Tmps:=(tmOf 24 [(0,(.yld 20)),(1,(pP 18 0)),(2,(pP 19 0)),(3,(pP 21 0)),(4,(pP 29 0)),(7,(pP 12 0)),(8,(.bool true)),(9,(.fn 104 [] [(pP 22 0),(pP 23 0),(pP 24 0)])),(10,(.ifc 100 (.agg [(iI y0),(iI y1)]))),(11,(pP 12 0)),(12,(.bool true)),(13,(.fn 80 [] [(pP 30 0),(pP 31 0)]))])
noncomputable def pcohk23:PC:=(pcOf F6 104 [0,1,0,0,1,1,0,0,1,1,0,0,1,1,0,0,1])
noncomputable def pcohI5 (s:tSt.den) (n:tNi.den) (l:(Ty.sl tRe).den) (p:tP.den) (x60:Bool) (x61:Bool) (x71:Int) (x72:Int) (x130:Nat) (x183:Int) (x184:Int) (x202:Int) (x267:Nat) (x272:Nat):Cfg:=⟨.ex (pcOf F6 80 [0,0,1]) ⟨(pcohQ19),(hpOf 33 [(0,(pcohk1 s)),(1,(pcohk3 n)),(2,(cF [(iI (p.1)),(iI (p.2.1))])),(3,(pcohk18 p)),(4,(pcohk17)),(5,(cF [(iI (-30000))])),(6,(cF [(iI 30000)])),(7,(pcohk16 p)),(8,(pcohk1 s)),(9,(pcohk3 n)),(10,(pcohk1 s)),(11,(pcohk3 n)),(12,(pcohk7 s n)),(13,(cF [(iI (p.1)),(iI (p.2.1))])),(14,(pcohk2 p n)),(15,(pcohk2 p n)),(16,(cF [(.bool x60)])),(17,(cF [(.bool x61)])),(18,(cF [(pP 12 0)])),(19,(cF [(.bool true)])),(21,(cF [(.yld 20)])),(22,(pcohk13 s)),(23,(cF [(iI (n.2.2.1)),(pcohk5 n)])),(24,(cF [(.fn 42 [] [])])),(26,(pcohk13 s)),(27,(cF [(iI (n.2.2.1)),(pcohk5 n)])),(28,(cF [(iI x71),(iI x72)])),(29,(cF [(.ifc 100 (.agg [(iI x71),(iI x72)]))])),(30,(cF [(pP 12 0)])),(31,(cF [(.bool true)]))]),[],[⟨false,.normal⟩,⟨false,.normal⟩],29,false⟩,⟨38,[⟨32,24,39,(pcohQ20 x71 x72),#[14,15],(pcOf F6 55 [0,0,1,0,0,1,0,1,1,0,1]),(pcOf F6 55 [1,0,1,0,0,1,0,1,1,0,1])⟩,(pcohk9 s n l p)]⟩,[(.lop (pcOf F6 80 [0,0,1]) 33 (pcohQ19) x130),(.blk 0),(.cal [] (.rng (pcohQ20 x71 x72) [] 24 true ⟨39,[(pcohk9 s n l p)]⟩)),(.blk 2),(.seq (pcOf F6 55 [1,0,1,0,1,1,0,1])),(.blk 1),(.rnd [] (.op (pcohk23) 13 (some 29) ((opsOf (pcohk23).c).toList.drop 13) (tmOf 33 [(0,(.yld 25)),(1,(pP 22 0)),(2,(pP 23 0)),(3,(pP 24 0)),(5,(iI x183)),(6,(iI x184)),(7,(pcohk14 s)),(8,(pcohk12 s)),(9,(iI x183)),(10,(.bool true)),(11,(iI x183)),(12,(.agg [(iI (n.2.2.1)),(pcohk5 n)])),(13,(pcohk11 n)),(14,(iI x184)),(15,(.bool true)),(16,(iI x184)),(17,(.yld 25)),(18,(.fn 42 [] [])),(19,(pP 22 0)),(20,(iI (s.2.1.1))),(21,(iI x183)),(22,(iI x71)),(23,(pP 23 0)),(24,(iI (n.2.2.1))),(25,(iI x184)),(26,(iI x202)),(27,(.agg [(iI x71),(iI x72)])),(28,(.ifc 100 (.agg [(iI x71),(iI x72)])))]) [] 33 false ⟨38,[(pcohk21),(pcohk9 s n l p)]⟩)),(.seq (pcOf F6 104 [1,1,0,0,1,1,0,0,1,1,0,0,1,1,0,0,1])),(.blk 3),(.seq (pcOf F6 104 [1,1,1,0,0,1,1,0,0,1,1,0,0,1])),(.lop (pcohk20) 28 (pcohQ15 s n x183) x267),(.blk 2),(.blk 1),(.seq (pcOf F6 104 [1,1,1,0,0,1])),(.lop (pcOf F6 104 [0,0,1]) 27 (pcohQ14 s) x272),(.blk 0),(.cal [] (.rng (pcohQ12) [] 24 false ⟨39,[(pcohk9 s n l p)]⟩)),(.blk 0),(.cal [] (.rng (pcohQ13 s n l p) [] 54 false ⟨40,[]⟩)),(.blk 0),(.seq (pcOf F6 11 [1,1,1,1,1,1])),(.cal [(.tmp 10),(.tmp 11)] .top)]⟩
noncomputable def pcohQ21 (s:tSt.den) (n:tNi.den) (y0:Int):Tmps:=(tmOf 33 [(0,(.yld 26)),(1,(pP 23 0)),(2,(pP 24 0)),(3,(pP 25 0)),(5,(iI y0)),(7,(pcohk14 s)),(8,(pcohk12 s)),(9,(iI y0)),(10,(.bool true)),(11,(iI y0)),(12,(.agg [(iI (n.2.2.1)),(pcohk5 n)])),(13,(pcohk11 n)),(14,(iI 0))])
noncomputable def pcohI6 (s:tSt.den) (n:tNi.den) (l:(Ty.sl tRe).den) (p:tP.den) (x0:Int) (x10:Int) (x63:Nat) (x65:List AV) (x72:Bool) (x73:Bool) (x143:Nat) (x148:Nat):Cfg:=⟨.ex (pcohk20) ⟨(tmOf 33 [(0,(.yld 26)),(1,(pP 23 0)),(2,(pP 24 0)),(3,(pP 25 0)),(5,(iI x0)),(7,(pcohk14 s)),(8,(pcohk12 s)),(9,(iI x0)),(10,(.bool true)),(11,(iI x0)),(12,(.agg [(iI (n.2.2.1)),(pcohk5 n)])),(13,(pcohk11 n)),(14,(iI x10))]),(hpOf 29 [(0,(pcohk1 s)),(1,(pcohk3 n)),(2,(cF [(iI (p.1)),(iI (p.2.1))])),(3,(pcohk18 p)),(4,(pcohk17)),(5,(cF [(iI (-30000))])),(6,(cF [(iI 30000)])),(7,(pcohk16 p)),(8,(pcohk1 s)),(9,(pcohk3 n)),(10,(pcohk1 s)),(11,(pcohk3 n)),(12,(pcohk6 s n x63)),(13,(cF x65)),(14,(cF [(iI (p.1)),(iI (p.2.1))])),(15,(pcohk2 p n)),(16,(pcohk2 p n)),(17,(cF [(.bool x72)])),(18,(cF [(.bool x73)])),(19,(cF [(pP 12 0)])),(20,(cF [(.bool true)])),(22,(cF [(.yld 21)])),(23,(pcohk13 s)),(24,(cF [(iI (n.2.2.1)),(pcohk5 n)])),(25,(cF [(.fn 42 [] [])])),(27,(pcohk13 s)),(28,(cF [(iI (n.2.2.1)),(pcohk5 n)]))]),[],[⟨false,.normal⟩,⟨false,.normal⟩],33,false⟩,⟨38,[(pcohk22),(pcohk10 s n l p)]⟩,[(.lop (pcohk20) 29 (pcohQ21 s n x0) x143),(.blk 2),(.blk 1),(.seq (pcOf F6 104 [1,1,1,0,0,1])),(.lop (pcOf F6 104 [0,0,1]) 28 (pcohQ18 s) x148),(.blk 0),(.cal [] (.rng (pcohQ16) [] 24 false ⟨39,[(pcohk10 s n l p)]⟩)),(.blk 0),(.cal [] (.rng (pcohQ17 s n l p) [] 54 false ⟨40,[]⟩)),(.blk 0),(.seq (pcOf F6 11 [1,1,1,1,1,1])),(.cal [(.tmp 10),(.tmp 11)] .top)]⟩
noncomputable def pcohQ22 (y0:Int) (y1:Int):Tmps:=(tmOf 24 [(0,(.yld 21)),(1,(pP 19 0)),(2,(pP 20 0)),(3,(pP 22 0)),(4,(pP 30 0)),(7,(pP 12 0)),(8,(.bool true)),(9,(.fn 104 [] [(pP 23 0),(pP 24 0),(pP 25 0)])),(10,(.ifc 100 (.agg [(iI y0),(iI y1)]))),(11,(pP 12 0)),(12,(.bool true)),(13,(.fn 80 [] [(pP 31 0),(pP 32 0)]))])
noncomputable def pcohI7 (s:tSt.den) (n:tNi.den) (l:(Ty.sl tRe).den) (p:tP.den) (x0:Nat) (x2:Int) (x3:Int) (x58:List AV) (x65:Bool) (x66:Bool) (x76:Int) (x77:Int) (x137:Nat) (x190:Int) (x191:Int) (x209:Int) (x274:Nat) (x279:Nat):Cfg:=⟨.ex (pcOf F6 80 [0,0,1]) ⟨(tmOf 29 [(0,(.yld 33)),(1,(pP 31 0)),(2,(pP 32 0)),(6,(pP 12 0)),(7,(pP 12 0)),(8,(pP 12 10)),(9,(.sl 13 0 x0 x0 6)),(10,(iI x2)),(11,(iI x3))]),(hpOf 34 [(0,(pcohk1 s)),(1,(pcohk3 n)),(2,(cF [(iI (p.1)),(iI (p.2.1))])),(3,(pcohk18 p)),(4,(pcohk17)),(5,(cF [(iI (-30000))])),(6,(cF [(iI 30000)])),(7,(pcohk16 p)),(8,(pcohk1 s)),(9,(pcohk3 n)),(10,(pcohk1 s)),(11,(pcohk3 n)),(12,(pcohk6 s n x0)),(13,(cF x58)),(14,(cF [(iI (p.1)),(iI (p.2.1))])),(15,(pcohk2 p n)),(16,(pcohk2 p n)),(17,(cF [(.bool x65)])),(18,(cF [(.bool x66)])),(19,(cF [(pP 12 0)])),(20,(cF [(.bool true)])),(22,(cF [(.yld 21)])),(23,(pcohk13 s)),(24,(cF [(iI (n.2.2.1)),(pcohk5 n)])),(25,(cF [(.fn 42 [] [])])),(27,(pcohk13 s)),(28,(cF [(iI (n.2.2.1)),(pcohk5 n)])),(29,(cF [(iI x76),(iI x77)])),(30,(cF [(.ifc 100 (.agg [(iI x76),(iI x77)]))])),(31,(cF [(pP 12 0)])),(32,(cF [(.bool true)]))]),[],[⟨false,.normal⟩,⟨false,.normal⟩],29,false⟩,⟨38,[⟨33,24,39,(pcohQ22 x76 x77),#[14,15],(pcOf F6 55 [0,0,1,0,0,1,0,1,1,0,1]),(pcOf F6 55 [1,0,1,0,0,1,0,1,1,0,1])⟩,(pcohk10 s n l p)]⟩,[(.lop (pcOf F6 80 [0,0,1]) 34 (tmOf 29 [(0,(.yld 33)),(1,(pP 31 0)),(2,(pP 32 0)),(6,(pP 12 0)),(7,(pP 12 0)),(8,(pP 12 10)),(9,(.sl 13 0 x0 x0 6)),(10,(iI x2)),(11,(iI 0))]) x137),(.blk 0),(.cal [] (.rng (pcohQ22 x76 x77) [] 24 true ⟨39,[(pcohk10 s n l p)]⟩)),(.blk 2),(.seq (pcOf F6 55 [1,0,1,0,1,1,0,1])),(.blk 1),(.rnd [] (.op (pcohk23) 13 (some 29) ((opsOf (pcohk23).c).toList.drop 13) (tmOf 33 [(0,(.yld 26)),(1,(pP 23 0)),(2,(pP 24 0)),(3,(pP 25 0)),(5,(iI x190)),(6,(iI x191)),(7,(pcohk14 s)),(8,(pcohk12 s)),(9,(iI x190)),(10,(.bool true)),(11,(iI x190)),(12,(.agg [(iI (n.2.2.1)),(pcohk5 n)])),(13,(pcohk11 n)),(14,(iI x191)),(15,(.bool true)),(16,(iI x191)),(17,(.yld 26)),(18,(.fn 42 [] [])),(19,(pP 23 0)),(20,(iI (s.2.1.1))),(21,(iI x190)),(22,(iI x76)),(23,(pP 24 0)),(24,(iI (n.2.2.1))),(25,(iI x191)),(26,(iI x209)),(27,(.agg [(iI x76),(iI x77)])),(28,(.ifc 100 (.agg [(iI x76),(iI x77)])))]) [] 33 false ⟨38,[(pcohk22),(pcohk10 s n l p)]⟩)),(.seq (pcOf F6 104 [1,1,0,0,1,1,0,0,1,1,0,0,1,1,0,0,1])),(.blk 3),(.seq (pcOf F6 104 [1,1,1,0,0,1,1,0,0,1,1,0,0,1])),(.lop (pcohk20) 29 (pcohQ21 s n x190) x274),(.blk 2),(.blk 1),(.seq (pcOf F6 104 [1,1,1,0,0,1])),(.lop (pcOf F6 104 [0,0,1]) 28 (pcohQ18 s) x279),(.blk 0),(.cal [] (.rng (pcohQ16) [] 24 false ⟨39,[(pcohk10 s n l p)]⟩)),(.blk 0),(.cal [] (.rng (pcohQ17 s n l p) [] 54 false ⟨40,[]⟩)),(.blk 0),(.seq (pcOf F6 11 [1,1,1,1,1,1])),(.cal [(.tmp 10),(.tmp 11)] .top)]⟩
theorem pcoh_start (s:tSt.den) (n:tNi.den) (l:(Ty.sl tRe).den) (p:tP.den):adv F6 ({ (Z6 [54,80,104]).flat [13] with nf:=[4] }:Sy) 20000 (startC F6 11 [tSt.av s,tNi.av n,.vs tRe l.1 l.2,tP.av p,.bool true] 40)=(bif !ieq (cknS s n l.2).2 0 then (sI p.2.1 (sI p.1 (sI n.1.1 (sI n.1.2.1 (sI n.2.1 (sI n.2.2.1 (sI n.2.2.2.1 (sI n.1.1 (sI n.1.2.1 (sI n.2.1 (sI n.2.2.1 (sI n.2.2.2.1 (sB s.1.1 (sV tGr s.1.2 (sI s.2.1.1 (sI s.2.1.2.1 (sI s.2.2.1.1 (sI s.2.2.1.2.1 (sB s.1.1 (sV tGr s.1.2 (sI s.2.1.1 (sI s.2.1.2.1 (sI s.2.2.1.1 (sI s.2.2.1.2.1 (bif !ieq (cknS s n l.2).2 0 then some (.done (.tup [(.int .i64 (0)),(.int .i64 ((cknS s n l.2).2))])) else none))))))))))))))))))))))))) else (bif !ile (-30000) p.1 then (sI p.2.1 (sI p.1 (sI n.1.1 (sI n.1.2.1 (sI n.2.1 (sI n.2.2.1 (sI n.2.2.2.1 (sI n.1.1 (sI n.1.2.1 (sI n.2.1 (sI n.2.2.1 (sI n.2.2.2.1 (sB s.1.1 (sV tGr s.1.2 (sI s.2.1.1 (sI s.2.1.2.1 (sI s.2.2.1.1 (sI s.2.2.1.2.1 (sB s.1.1 (sV tGr s.1.2 (sI s.2.1.1 (sI s.2.1.2.1 (sI s.2.2.1.1 (sI s.2.2.1.2.1 (some (.done (.tup [(.int .i64 (0)),(.int .i64 (7))]))))))))))))))))))))))))))) else (bif !ile p.1 30000 then (sI p.2.1 (sI p.1 (sI n.1.1 (sI n.1.2.1 (sI n.2.1 (sI n.2.2.1 (sI n.2.2.2.1 (sI n.1.1 (sI n.1.2.1 (sI n.2.1 (sI n.2.2.1 (sI n.2.2.2.1 (sB s.1.1 (sV tGr s.1.2 (sI s.2.1.1 (sI s.2.1.2.1 (sI s.2.2.1.1 (sI s.2.2.1.2.1 (sB s.1.1 (sV tGr s.1.2 (sI s.2.1.1 (sI s.2.1.2.1 (sI s.2.2.1.1 (sI s.2.2.1.2.1 (some (.done (.tup [(.int .i64 (0)),(.int .i64 (7))]))))))))))))))))))))))))))) else (bif !ile (-30000) p.2.1 then (sI p.2.1 (sI p.1 (sI n.1.1 (sI n.1.2.1 (sI n.2.1 (sI n.2.2.1 (sI n.2.2.2.1 (sI n.1.1 (sI n.1.2.1 (sI n.2.1 (sI n.2.2.1 (sI n.2.2.2.1 (sB s.1.1 (sV tGr s.1.2 (sI s.2.1.1 (sI s.2.1.2.1 (sI s.2.2.1.1 (sI s.2.2.1.2.1 (sB s.1.1 (sV tGr s.1.2 (sI s.2.1.1 (sI s.2.1.2.1 (sI s.2.2.1.1 (sI s.2.2.1.2.1 (some (.done (.tup [(.int .i64 (0)),(.int .i64 (7))]))))))))))))))))))))))))))) else (bif !ile p.2.1 30000 then (sI p.2.1 (sI p.1 (sI n.1.1 (sI n.1.2.1 (sI n.2.1 (sI n.2.2.1 (sI n.2.2.2.1 (sI n.1.1 (sI n.1.2.1 (sI n.2.1 (sI n.2.2.1 (sI n.2.2.2.1 (sB s.1.1 (sV tGr s.1.2 (sI s.2.1.1 (sI s.2.1.2.1 (sI s.2.2.1.1 (sI s.2.2.1.2.1 (sB s.1.1 (sV tGr s.1.2 (sI s.2.1.1 (sI s.2.1.2.1 (sI s.2.2.1.1 (sI s.2.2.1.2.1 (some (.done (.tup [(.int .i64 (0)),(.int .i64 (7))]))))))))))))))))))))))))))) else some (.stop (pcohI0 s n l p (1048575)))))))):=by kernel_rfl
theorem pcoh_step0 (s:tSt.den) (n:tNi.den) (l:(Ty.sl tRe).den) (p:tP.den) (x130:Nat):adv F6 ({ (Z6 [54,80,104]).flat [13] with nf:=[4] }:Sy) 20000 (pcohI0 s n l p (x130+1))=(bif !ile (Int.ofNat l.2.length) 0 then (bif inB 0 l.2.length then (bif nrB (wr .i64 ((l.2.getD (Int.toNat 0) tRe.dflt).1.1-n.1.1)) (wr .i64 ((l.2.getD (Int.toNat 0) tRe.dflt).1.2.1-n.1.2.1)) then (sI n.1.2.1 (sI (l.2.getD (Int.toNat 0) tRe.dflt).1.2.1 (sI n.1.1 (sI (l.2.getD (Int.toNat 0) tRe.dflt).1.1 (sI (l.2.getD (Int.toNat 0) tRe.dflt).1.1 (sI (l.2.getD (Int.toNat 0) tRe.dflt).1.2.1 (sI (l.2.getD (Int.toNat 0) tRe.dflt).1.1 (sI (l.2.getD (Int.toNat 0) tRe.dflt).1.2.1 (sB (l.2.getD (Int.toNat 0) tRe.dflt).2.1 (sB (l.2.getD (Int.toNat 0) tRe.dflt).2.2.1 (sI (l.2.getD (Int.toNat 0) tRe.dflt).1.1 (sI (l.2.getD (Int.toNat 0) tRe.dflt).1.2.1 (sB (l.2.getD (Int.toNat 0) tRe.dflt).2.1 (sB (l.2.getD (Int.toNat 0) tRe.dflt).2.2.1 (some (.stop (pcohI2 s n l p (1) (1) ([AV.int IntKind.i64 (l.2.getD (Int.toNat 0) tRe.dflt).1.1,AV.int IntKind.i64 (l.2.getD (Int.toNat 0) tRe.dflt).1.2.1,AV.bool (l.2.getD (Int.toNat 0) tRe.dflt).2.1,AV.bool (l.2.getD (Int.toNat 0) tRe.dflt).2.2.1,AV.int IntKind.i64 (wr .i64 ((l.2.getD (Int.toNat 0) tRe.dflt).1.1-n.1.1) * wr .i64 ((l.2.getD (Int.toNat 0) tRe.dflt).1.1-n.1.1)+wr .i64 ((l.2.getD (Int.toNat 0) tRe.dflt).1.2.1-n.1.2.1) * wr .i64 ((l.2.getD (Int.toNat 0) tRe.dflt).1.2.1-n.1.2.1)),AV.int IntKind.i64 (ptF (wr .i64 ((l.2.getD (Int.toNat 0) tRe.dflt).1.1-n.1.1)) (wr .i64 ((l.2.getD (Int.toNat 0) tRe.dflt).1.2.1-n.1.2.1)))]) (x130)))))))))))))))))) else none) else none) else (sI p.2.1 (sI p.1 (sI n.1.1 (sI n.1.2.1 (sI n.2.1 (sI n.2.2.1 (sI n.2.2.2.1 (sI n.1.1 (sI n.1.2.1 (sI n.2.1 (sI n.2.2.1 (sI n.2.2.2.1 (sB s.1.1 (sV tGr s.1.2 (sI s.2.1.1 (sI s.2.1.2.1 (sI s.2.2.1.1 (sI s.2.2.1.2.1 (sB s.1.1 (sV tGr s.1.2 (sI s.2.1.1 (sI s.2.1.2.1 (sI s.2.2.1.1 (sI s.2.2.1.2.1 (bif nrB (wr .i64 (p.1-n.1.1)) (wr .i64 (p.2.1-n.1.2.1)) then (sI n.1.2.1 (sI p.2.1 (sI n.1.1 (sI p.1 (sI n.2.2.2.1 (sI n.2.2.1 (sI n.2.2.1 (sI s.2.1.1 (sI s.2.1.2.1 (some (.stop (pcohI1 s n l p (0) (false) (false) (1048575))))))))))))) else none)))))))))))))))))))))))))):=by kernel_rfl
theorem pcoh_step1 (s:tSt.den) (n:tNi.den) (l:(Ty.sl tRe).den) (p:tP.den) (x3:Int) (x62:Bool) (x63:Bool) (x124:Nat):adv F6 ({ (Z6 [54,80,104]).flat [13] with nf:=[4] }:Sy) 20000 (pcohI1 s n l p x3 x62 x63 (x124+1))=(bif !ile (wr .i64 (wr .i64 (s.2.1.2.1-s.2.1.1)+1)) x3 then some (.stop (pcohI3 s n l p (x3) (0) (x62) (x63) (1048575) (x124+1))) else (bif x62 then (bif x63 then some (.done (.tup [(.int .i64 (1)),(.int .i64 (0))])) else (bif x62 then some (.done (.tup [(.int .i64 (2)),(.int .i64 (0))])) else (bif x63 then some (.done (.tup [(.int .i64 (0)),(.int .i64 (0))])) else some (.done (.tup [(.int .i64 (0)),(.int .i64 (9))]))))) else (bif x62 then some (.done (.tup [(.int .i64 (2)),(.int .i64 (0))])) else (bif x63 then some (.done (.tup [(.int .i64 (0)),(.int .i64 (0))])) else some (.done (.tup [(.int .i64 (0)),(.int .i64 (9))])))))):=by kernel_rfl
theorem pcoh_step2 (s:tSt.den) (n:tNi.den) (l:(Ty.sl tRe).den) (p:tP.den) (x38:Int) (x91:Nat) (x93:List AV) (x133:Nat):adv F6 ({ (Z6 [54,80,104]).flat [13] with nf:=[4] }:Sy) 20000 (pcohI2 s n l p x38 x91 x93 (x133+1))=(bif !ile (Int.ofNat l.2.length) x38 then (bif inB x38 l.2.length then (bif nrB (wr .i64 ((l.2.getD x38.toNat tRe.dflt).1.1-n.1.1)) (wr .i64 ((l.2.getD x38.toNat tRe.dflt).1.2.1-n.1.2.1)) then (sI n.1.2.1 (sI (l.2.getD x38.toNat tRe.dflt).1.2.1 (sI n.1.1 (sI (l.2.getD x38.toNat tRe.dflt).1.1 (bif (0+x91 * 6).beq x93.length then (bif x91.ble 1048576 then (sI (l.2.getD x38.toNat tRe.dflt).1.1 (sI (l.2.getD x38.toNat tRe.dflt).1.2.1 (sI (l.2.getD x38.toNat tRe.dflt).1.1 (sI (l.2.getD x38.toNat tRe.dflt).1.2.1 (sB (l.2.getD x38.toNat tRe.dflt).2.1 (sB (l.2.getD x38.toNat tRe.dflt).2.2.1 (sI (l.2.getD x38.toNat tRe.dflt).1.1 (sI (l.2.getD x38.toNat tRe.dflt).1.2.1 (sB (l.2.getD x38.toNat tRe.dflt).2.1 (sB (l.2.getD x38.toNat tRe.dflt).2.2.1 (bif avbeq (AV.sl 13 0 x91 x91 6) (AV.sl 13 0 x91 x91 6) then (bif avbeq (AV.sl 13 0 x91 x91 6) (AV.sl 13 0 x91 x91 6) then (bif plO (AO.cells false (x93++[AV.int IntKind.i64 (l.2.getD x38.toNat tRe.dflt).1.1,AV.int IntKind.i64 (l.2.getD x38.toNat tRe.dflt).1.2.1,AV.bool (l.2.getD x38.toNat tRe.dflt).2.1,AV.bool (l.2.getD x38.toNat tRe.dflt).2.2.1,AV.int IntKind.i64 (wr .i64 ((l.2.getD x38.toNat tRe.dflt).1.1-n.1.1) * wr .i64 ((l.2.getD x38.toNat tRe.dflt).1.1-n.1.1)+wr .i64 ((l.2.getD x38.toNat tRe.dflt).1.2.1-n.1.2.1) * wr .i64 ((l.2.getD x38.toNat tRe.dflt).1.2.1-n.1.2.1)),AV.int IntKind.i64 (ptF (wr .i64 ((l.2.getD x38.toNat tRe.dflt).1.1-n.1.1)) (wr .i64 ((l.2.getD x38.toNat tRe.dflt).1.2.1-n.1.2.1)))])) then some (.stop (pcohI2 s n l p (wr .i64 (x38+1)) (x91+1) (x93++[AV.int IntKind.i64 (l.2.getD x38.toNat tRe.dflt).1.1,AV.int IntKind.i64 (l.2.getD x38.toNat tRe.dflt).1.2.1,AV.bool (l.2.getD x38.toNat tRe.dflt).2.1,AV.bool (l.2.getD x38.toNat tRe.dflt).2.2.1,AV.int IntKind.i64 (wr .i64 ((l.2.getD x38.toNat tRe.dflt).1.1-n.1.1) * wr .i64 ((l.2.getD x38.toNat tRe.dflt).1.1-n.1.1)+wr .i64 ((l.2.getD x38.toNat tRe.dflt).1.2.1-n.1.2.1) * wr .i64 ((l.2.getD x38.toNat tRe.dflt).1.2.1-n.1.2.1)),AV.int IntKind.i64 (ptF (wr .i64 ((l.2.getD x38.toNat tRe.dflt).1.1-n.1.1)) (wr .i64 ((l.2.getD x38.toNat tRe.dflt).1.2.1-n.1.2.1)))]) (x133))) else none) else none) else none))))))))))) else none) else none))))) else none) else none) else (sI p.2.1 (sI p.1 (sI n.1.1 (sI n.1.2.1 (sI n.2.1 (sI n.2.2.1 (sI n.2.2.2.1 (sI n.1.1 (sI n.1.2.1 (sI n.2.1 (sI n.2.2.1 (sI n.2.2.2.1 (sB s.1.1 (sV tGr s.1.2 (sI s.2.1.1 (sI s.2.1.2.1 (sI s.2.2.1.1 (sI s.2.2.1.2.1 (sB s.1.1 (sV tGr s.1.2 (sI s.2.1.1 (sI s.2.1.2.1 (sI s.2.2.1.1 (sI s.2.2.1.2.1 (bif nrB (wr .i64 (p.1-n.1.1)) (wr .i64 (p.2.1-n.1.2.1)) then (sI n.1.2.1 (sI p.2.1 (sI n.1.1 (sI p.1 (sI n.2.2.2.1 (sI n.2.2.1 (sI n.2.2.1 (sI s.2.1.1 (sI s.2.1.2.1 (some (.stop (pcohI4 s n l p (0) (x91) (x93) (false) (false) (1048575))))))))))))) else none)))))))))))))))))))))))))):=by kernel_rfl
theorem pcoh_step3 (s:tSt.den) (n:tNi.den) (l:(Ty.sl tRe).den) (p:tP.den) (x0:Int) (x10:Int) (x69:Bool) (x70:Bool) (x140:Nat) (x145:Nat):adv F6 ({ (Z6 [54,80,104]).flat [13] with nf:=[4] }:Sy) 20000 (pcohI3 s n l p x0 x10 x69 x70 (x140+1) (x145+1))=(bif !ile (wr .i64 (wr .i64 (wr .i64 (wr .i64 (n.2.2.1+n.2.2.2.1)-1)-n.2.2.1)+1)) x10 then some (.stop (pcohI5 s n l p (x69) (x70) (wr .i64 (s.2.1.1+x0)) ((wr .i64 (n.2.2.1+x10)).tmod 32) (1048575) (x0) (x10) (wr .i64 (n.2.2.1+x10)) (x140+1) (x145+1))) else some (.stop (pcohI1 s n l p (wr .i64 (x0+1)) (x69) (x70) (x145)))):=by kernel_rfl
theorem pcoh_step4 (s:tSt.den) (n:tNi.den) (l:(Ty.sl tRe).den) (p:tP.den) (x3:Int) (x56:Nat) (x58:List AV) (x65:Bool) (x66:Bool) (x127:Nat):adv F6 ({ (Z6 [54,80,104]).flat [13] with nf:=[4] }:Sy) 20000 (pcohI4 s n l p x3 x56 x58 x65 x66 (x127+1))=(bif !ile (wr .i64 (wr .i64 (s.2.1.2.1-s.2.1.1)+1)) x3 then some (.stop (pcohI6 s n l p (x3) (0) (x56) (x58) (x65) (x66) (1048575) (x127+1))) else (bif x65 then (bif x66 then some (.done (.tup [(.int .i64 (1)),(.int .i64 (0))])) else (bif x65 then some (.done (.tup [(.int .i64 (2)),(.int .i64 (0))])) else (bif x66 then some (.done (.tup [(.int .i64 (0)),(.int .i64 (0))])) else some (.done (.tup [(.int .i64 (0)),(.int .i64 (9))]))))) else (bif x65 then some (.done (.tup [(.int .i64 (2)),(.int .i64 (0))])) else (bif x66 then some (.done (.tup [(.int .i64 (0)),(.int .i64 (0))])) else some (.done (.tup [(.int .i64 (0)),(.int .i64 (9))])))))):=by kernel_rfl
theorem pcoh_step5 (s:tSt.den) (n:tNi.den) (l:(Ty.sl tRe).den) (p:tP.den) (x60:Bool) (x61:Bool) (x71:Int) (x72:Int) (x130:Nat) (x183:Int) (x184:Int) (x202:Int) (x267:Nat) (x272:Nat):adv F6 ({ (Z6 [54,80,104]).flat [13] with nf:=[4] }:Sy) 20000 (pcohI5 s n l p x60 x61 x71 x72 (x130+1) x183 x184 x202 (x267+1) (x272+1))=(bif hcB x71 x72 (ptF (wr .i64 (p.1-n.1.1)) (wr .i64 (p.2.1-n.1.2.1))) then (bif hrdF x71 x72 (wr .i64 (p.1-n.1.1) * wr .i64 (p.1-n.1.1)+wr .i64 (p.2.1-n.1.2.1) * wr .i64 (p.2.1-n.1.2.1)) (ptF (wr .i64 (p.1-n.1.1)) (wr .i64 (p.2.1-n.1.2.1))) then some (.stop (pcohI3 s n l p (x183) (wr .i64 (x184+1)) (true) (x61) (x267) (x272+1))) else some (.stop (pcohI3 s n l p (x183) (wr .i64 (x184+1)) (x60) (true) (x267) (x272+1)))) else none):=by kernel_rfl
theorem pcoh_step6 (s:tSt.den) (n:tNi.den) (l:(Ty.sl tRe).den) (p:tP.den) (x0:Int) (x10:Int) (x63:Nat) (x65:List AV) (x72:Bool) (x73:Bool) (x143:Nat) (x148:Nat):adv F6 ({ (Z6 [54,80,104]).flat [13] with nf:=[4] }:Sy) 20000 (pcohI6 s n l p x0 x10 x63 x65 x72 x73 (x143+1) (x148+1))=(bif !ile (wr .i64 (wr .i64 (wr .i64 (wr .i64 (n.2.2.1+n.2.2.2.1)-1)-n.2.2.1)+1)) x10 then some (.stop (pcohI7 s n l p (x63) (Int.ofNat x63) (0) (x65) (x72) (x73) (wr .i64 (s.2.1.1+x0)) ((wr .i64 (n.2.2.1+x10)).tmod 32) (1048575) (x0) (x10) (wr .i64 (n.2.2.1+x10)) (x143+1) (x148+1))) else (bif plO (AO.cells false x65) then some (.stop (pcohI4 s n l p (wr .i64 (x0+1)) (x63) (x65) (x72) (x73) (x148))) else none)):=by kernel_rfl
theorem pcoh_step7 (s:tSt.den) (n:tNi.den) (l:(Ty.sl tRe).den) (p:tP.den) (x0:Nat) (x2:Int) (x3:Int) (x58:List AV) (x65:Bool) (x66:Bool) (x76:Int) (x77:Int) (x137:Nat) (x190:Int) (x191:Int) (x209:Int) (x274:Nat) (x279:Nat):adv F6 ({ (Z6 [54,80,104]).flat [13] with nf:=[4] }:Sy) 20000 (pcohI7 s n l p x0 x2 x3 x58 x65 x66 x76 x77 (x137+1) x190 x191 x209 (x274+1) (x279+1))=(bif !ile x2 x3 then (bif inB x3 x0 then (bif isZs x58 [AV.int IntKind.i64 0,AV.int IntKind.i64 0,AV.bool false,AV.bool false,AV.int IntKind.i64 0,AV.int IntKind.i64 0] (0+x3.toNat * 6) then (bif toB (x58.getD (0+x3.toNat * 6+1+1) AV.nili) == true then (bif hcB x76 x77 (toI (x58.getD (0+x3.toNat * 6+1+1+1+1+1) AV.nili)) then (sI (toI (x58.getD (0+x3.toNat * 6+1+1+1+1) AV.nili)) (sI (toI (x58.getD (0+x3.toNat * 6+1+1+1+1+1) AV.nili)) (sB (toB (x58.getD (0+x3.toNat * 6+1+1+1) AV.nili)) (sB (toB (x58.getD (0+x3.toNat * 6+1+1+1) AV.nili)) (bif !toB (x58.getD (0+x3.toNat * 6+1+1+1) AV.nili) == hrdF x76 x77 (toI (x58.getD (0+x3.toNat * 6+1+1+1+1) AV.nili)) (toI (x58.getD (0+x3.toNat * 6+1+1+1+1+1) AV.nili)) then (bif plO (AO.cells false x58) then some (.stop (pcohI6 s n l p (x190) (wr .i64 (x191+1)) (x0) (x58) (x65) (x66) (x274) (x279+1))) else none) else (bif plO (AO.cells false x58) then some (.stop (pcohI7 s n l p (x0) (x2) (wr .i64 (x3+1)) (x58) (x65) (x66) (x76) (x77) (x137) (x190) (x191) (x209) (x274+1) (x279+1))) else none)))))) else none) else (bif plO (AO.cells false x58) then some (.stop (pcohI7 s n l p (x0) (x2) (wr .i64 (x3+1)) (x58) (x65) (x66) (x76) (x77) (x137) (x190) (x191) (x209) (x274+1) (x279+1))) else none)) else none) else none) else (bif hcB x76 x77 (ptF (wr .i64 (p.1-n.1.1)) (wr .i64 (p.2.1-n.1.2.1))) then (bif hrdF x76 x77 (wr .i64 (p.1-n.1.1) * wr .i64 (p.1-n.1.1)+wr .i64 (p.2.1-n.1.2.1) * wr .i64 (p.2.1-n.1.2.1)) (ptF (wr .i64 (p.1-n.1.1)) (wr .i64 (p.2.1-n.1.2.1))) then (bif plO (AO.cells false x58) then some (.stop (pcohI6 s n l p (x190) (wr .i64 (x191+1)) (x0) (x58) (true) (x66) (x274) (x279+1))) else none) else (bif plO (AO.cells false x58) then some (.stop (pcohI6 s n l p (x190) (wr .i64 (x191+1)) (x0) (x58) (x65) (true) (x274) (x279+1))) else none)) else none)):=by kernel_rfl
section
variable {s:tSt.den} {n:tNi.den} {l:(Ty.sl tRe).den} {p:tP.den} {v:AV}
theorem pcoh_i5 (hn:in3 n.1.1 n.1.2.1=true) (hp:in3 p.1 p.2.1=true) (i k m M O:Nat) (x:Bool×Bool) (a b z:Int) (ht:truB (a,b,()) true=true) (hk:k<1048577) (K:Ans F6 (pcohI3 s n l p (i:Int) ((k+1:Nat):Int) (stC n p true x (a,b,())).1 (stC n p true x (a,b,())).2 M (O+1)) v) :
  Ans F6 (pcohI5 s n l p x.1 x.2 a b (m+1) (i:Int) (k:Int) z (M+1) (O+1)) v:=by
 obtain⟨y,z'⟩:=x
 have h:=pcoh_step5 s n l p y z' a b m (i:Int) (k:Int) z M O
 obtain⟨w1,w2,hnr⟩:=df3 hn hp
 have hc:=cnd_h ht (p.1-n.1.1) (p.2.1-n.1.2.1)
 simp only[w1,w2,hc,wr_succ hk,cond_true] at h
 unfold stC at K
 cases c:metF n p (a,b,()) true with
 |false=>
  rw[c,cond_false] at K
  rw[show hrdF a b ((p.1-n.1.1) * (p.1-n.1.1)+(p.2.1-n.1.2.1) * (p.2.1-n.1.2.1)) (ptF (p.1-n.1.1) (p.2.1-n.1.2.1))=false from c,cond_false] at h
  exact .stop Zch_ok F6sy h K
 |true=>
  rw[c,cond_true] at K
  rw[show hrdF a b ((p.1-n.1.1) * (p.1-n.1.1)+(p.2.1-n.1.2.1) * (p.2.1-n.1.2.1)) (ptF (p.1-n.1.1) (p.2.1-n.1.2.1))=true from c,cond_true] at h
  exact .stop Zch_ok F6sy h K
theorem pcoh_in0 (R:RngV s n) (hn:in3 n.1.1 n.1.2.1=true) (hp:in3 p.1 p.2.1=true) (i:Nat) (hi:i<nL s) (rest:List tP.den) (O:Nat) (K:∀ x:Bool×Bool,Ans F6 (pcohI1 s n l p ((i+1:Nat):Int) x.1 x.2 O) (tup2 (couR (rest.foldl (stC n p true) x)))) :
  ∀ (r k m:Nat) (x:Bool×Bool) (b:Int),b=k→k+r=nW n→r<m→Ans F6 (pcohI3 s n l p (i:Int) (k:Int) x.1 x.2 m (O+1)) (tup2 (couR ((rowW (wLo n) (lLo s+i) r b++rest).foldl (stC n p true) x)))
 |0,k,m+1,x,b,hb,hk,hm=>by
  have h:=pcoh_step3 s n l p (i:Int) (k:Int) x.1 x.2 m O
  have e:wr .i64 (wr .i64 (wr .i64 (wr .i64 (n.2.2.1+n.2.2.2.1)-1)-n.2.2.1)+1)=(nW n:Int):=R.ww
  have:=R.nl
  rw[e,ile_t (show ((nW n:Nat):Int)≤k by omega),Bool.not_true,cond_false,wr_succ (show i<1048577 by omega)] at h
  exact .stop Zch_ok F6sy h (K x)
 | r + 1, k, m + 1, x, b, hb, hk, hm => by
  have h:=pcoh_step3 s n l p (i:Int) (k:Int) x.1 x.2 m O
  have e:wr .i64 (wr .i64 (wr .i64 (wr .i64 (n.2.2.1+n.2.2.2.1)-1)-n.2.2.1)+1)=(nW n:Int):=R.ww
  have n1:=R.nl
  have n2:=R.nw
  have g:=R.w.g
  have w:=R.w.w
  have nle:((nL s:Nat):Int)=lHi s-lLo s+1:=by unfold nL;omega
  have nwe:((nW n:Nat):Int)=wN n:=by unfold nW;omega
  have w1:wr .i64 (s.2.1.1+(i:Int))=lLo s+i:=wr_in (n:=lLo s+(i:Int)) (by omega) (by omega)
  have w2:wr .i64 (n.2.2.1+(k:Int))=wLo n+b:=by subst hb;exact wr_in (n:=wLo n+(k:Int)) (by omega) (by omega)
  have ht:truB (lLo s+i,(wLo n+b).tmod 32,()) true=true:=by
   show (ile 1 (lLo s+i)&&ile (lLo s+i) 200&&inV ((wLo n+b).tmod 32))=true
   rw[ile_t (show 1≤lLo s+(i:Int) by omega),ile_t (show lLo s+(i:Int)≤200 by omega),w32 w.1.1 (show 0≤b by omega)];rfl
  rw[e,ile_f (show (k:Int)<((nW n:Nat):Int) by omega),Bool.not_false,cond_true] at h
  rw[w1,w2] at h
  exact .stop Zch_ok F6sy h (pcoh_i5 hn hp i k 1048574 m O x _ _ _ ht (by omega) (pcoh_in0 R hn hp i hi rest O K r (k+1) m _ (b+1) (by omega) (by omega) (by omega)))
theorem pcoh_out0 (R:RngV s n) (hn:in3 n.1.1 n.1.2.1=true) (hp:in3 p.1 p.2.1=true):∀ (r i m:Nat) (x:Bool×Bool) (a:Int),a=lLo s+i→i+r=nL s→r<m→Ans F6 (pcohI1 s n l p (i:Int) x.1 x.2 m) (tup2 (couR ((allW (wLo n) (nW n) r a).foldl (stC n p true) x)))
 |0,i,m+1,x,a,ha,hi,hm=>by
  obtain⟨y,z'⟩:=x
  have h:=pcoh_step1 s n l p (i:Int) y z' m
  have e:wr .i64 (wr .i64 (s.2.1.2.1-s.2.1.1)+1)=(nL s:Int):=R.wl
  rw[e,ile_t (show ((nL s:Nat):Int)≤i by omega),Bool.not_true,cond_false] at h
  cases y<;>cases z'<;>exact done2 Zch_ok F6sy h rfl
 |r+1,i,m+1,x,a,ha,hi,hm=>by
  have h:=pcoh_step1 s n l p (i:Int) x.1 x.2 m
  have e:wr .i64 (wr .i64 (s.2.1.2.1-s.2.1.1)+1)=(nL s:Int):=R.wl
  rw[e,ile_f (show (i:Int)<((nL s:Nat):Int) by omega),Bool.not_false,cond_true] at h
  subst ha
  exact .stop Zch_ok F6sy h (pcoh_in0 R hn hp i (by omega) _ m (fun x=>pcoh_out0 R hn hp r (i+1) m x _ (by omega) (by omega) (by omega)) (nW n) 0 1048575 x (0) (by omega) (by omega) (by have:=R.nw;omega))
theorem pcoh_i7 (hn:in3 n.1.1 n.1.2.1=true) (hp:in3 p.1 p.2.1=true) (h8:l.2.length≤8) (hl:repB l.2=true) (a b z:Int) (ht:truB (a,b,()) true=true) (x:Bool×Bool) (i k M O:Nat) (hk:k<1048577)
  (K1:agrF n l.2 (a,b,()) true=true→Ans F6 (pcohI6 s n l p (i:Int) ((k+1:Nat):Int) l.2.length (rps n l.2) (stC n p true x (a,b,())).1 (stC n p true x (a,b,())).2 M (O+1)) v)
  (K0:agrF n l.2 (a,b,()) true=false→Ans F6 (pcohI6 s n l p (i:Int) ((k+1:Nat):Int) l.2.length (rps n l.2) x.1 x.2 M (O+1)) v) :
  ∀ (r j m:Nat),j+r=l.2.length→r<m→agrF n l.2 (a,b,()) true=agrF n (l.2.drop j) (a,b,()) true→Ans F6 (pcohI7 s n l p l.2.length (l.2.length:Int) (j:Int) (rps n l.2) x.1 x.2 a b m (i:Int) (k:Int) z (M+1) (O+1)) v
 | 0, j, m + 1, hj, hm, hd => by
  obtain⟨y,z'⟩:=x
  have h:=pcoh_step7 s n l p l.2.length (l.2.length:Int) (j:Int) (rps n l.2) y z' a b m (i:Int) (k:Int) z M O
  rw[List.drop_eq_nil_of_le (by omega)] at hd
  have K:=K1 hd
  obtain⟨w1,w2,hnr⟩:=df3 hn hp
  have hc:=cnd_h ht (p.1-n.1.1) (p.2.1-n.1.2.1)
  simp only[ile_t (show ((l.2.length:Nat):Int)≤j by omega),Bool.not_true,cond_false,w1,w2,hc,cond_true,wr_succ hk,rps_plO] at h
  unfold stC at K
  clear K1 K0
  cases c:metF n p (a,b,()) true with
  |false=>
   rw[c,cond_false] at K
   rw[show hrdF a b ((p.1-n.1.1) * (p.1-n.1.1)+(p.2.1-n.1.2.1) * (p.2.1-n.1.2.1)) (ptF (p.1-n.1.1) (p.2.1-n.1.2.1))=false from c,cond_false] at h
   exact .stop Zch_ok F6sy h K
  |true=>
   rw[c,cond_true] at K
   rw[show hrdF a b ((p.1-n.1.1) * (p.1-n.1.1)+(p.2.1-n.1.2.1) * (p.2.1-n.1.2.1)) (ptF (p.1-n.1.1) (p.2.1-n.1.2.1))=true from c,cond_true] at h
   exact .stop Zch_ok F6sy h K
 | r + 1, j, m + 1, hj, hm, hd => by
  have h:=pcoh_step7 s n l p l.2.length (l.2.length:Int) (j:Int) (rps n l.2) x.1 x.2 a b m (i:Int) (k:Int) z M O
  have hlt:j<l.2.length:=by omega
  have hr:in3 (l.2[j]).1.1 (l.2[j]).1.2.1=true:=List.all_eq_true.1 hl _ (List.getElem_mem hlt)
  obtain⟨w1,w2,hnr⟩:=df3 hn hr
  obtain⟨z1,z2,z3,z4,z5⟩:=rps_at (n:=n) hlt
  have hc:hcB a b (rpOf n l.2[j]).2.2.2.2.2.1=true:=cnd_h ht _ _
  simp only[ile_f (show ((j:Nat):Int)<(l.2.length:Int) by omega),Bool.not_false,cond_true,inB_at hlt,z1,z2,z3,z4,z5,hc,ieq_self,sI_eq,sB_eq,sV_eq,bbeq_self,rps_plO,wr_succ hk,wr_succ (show j<1048577 by omega)] at h
  rw[List.drop_eq_getElem_cons hlt] at hd
  have ih:=pcoh_i7 hn hp h8 hl a b z ht x i k M O hk K1 K0 r (j+1) m (by omega) (by omega)
  have e:agrF n (l.2[j]::l.2.drop (j+1)) (a,b,()) true=(agr1 n (a,b,()) true l.2[j]&&agrF n (l.2.drop (j+1)) (a,b,()) true):=rfl
  rw[e] at hd
  unfold agr1 at hd
  have es:metF n (l.2[j]).1 (a,b,()) true=hrdF a b (rpOf n l.2[j]).2.2.2.2.1 (rpOf n l.2[j]).2.2.2.2.2.1:=rfl
  rw[es] at hd
  cases c1:(l.2[j]).2.1 == true with
  |false=>
   rw[c1,cond_false] at h
   rw[c1,cond_false,Bool.true_and] at hd
   exact .stop Zch_ok F6sy h (ih hd)
  | true =>
   rw[c1,cond_true] at h
   rw[c1,cond_true] at hd
   cases c2:(l.2[j]).2.2.1 == hrdF a b (rpOf n l.2[j]).2.2.2.2.1 (rpOf n l.2[j]).2.2.2.2.2.1 with
   |false=>
    rw[c2,Bool.false_and] at hd
    rw[c2,Bool.not_false,cond_true] at h
    exact .stop Zch_ok F6sy h (K0 hd)
   |true=>
    rw[c2,Bool.true_and] at hd
    rw[c2,Bool.not_true,cond_false] at h
    exact .stop Zch_ok F6sy h (ih hd)
theorem pcoh_in1 (R:RngV s n) (hn:in3 n.1.1 n.1.2.1=true) (hp:in3 p.1 p.2.1=true) (h8:l.2.length≤8) (hl:repB l.2=true) (i:Nat) (hi:i<nL s) (rest:List tP.den) (O:Nat) (K:∀ x:Bool×Bool,Ans F6 (pcohI4 s n l p ((i+1:Nat):Int) l.2.length (rps n l.2) x.1 x.2 O) (tup2 (couR ((rest.filter fun t=>agrF n l.2 t true).foldl (stC n p true) x)))) :
  ∀ (r k m:Nat) (x:Bool×Bool) (b:Int),b=k→k+r=nW n→r<m→Ans F6 (pcohI6 s n l p (i:Int) (k:Int) l.2.length (rps n l.2) x.1 x.2 m (O+1)) (tup2 (couR (((rowW (wLo n) (lLo s+i) r b++rest).filter fun t=>agrF n l.2 t true).foldl (stC n p true) x)))
 |0,k,m+1,x,b,hb,hk,hm=>by
  have h:=pcoh_step6 s n l p (i:Int) (k:Int) l.2.length (rps n l.2) x.1 x.2 m O
  have e:wr .i64 (wr .i64 (wr .i64 (wr .i64 (n.2.2.1+n.2.2.2.1)-1)-n.2.2.1)+1)=(nW n:Int):=R.ww
  have:=R.nl
  rw[e,ile_t (show ((nW n:Nat):Int)≤k by omega),Bool.not_true,cond_false,wr_succ (show i<1048577 by omega),rps_plO,cond_true] at h
  exact .stop Zch_ok F6sy h (K x)
 | r + 1, k, m + 1, x, b, hb, hk, hm => by
  have h:=pcoh_step6 s n l p (i:Int) (k:Int) l.2.length (rps n l.2) x.1 x.2 m O
  have e:wr .i64 (wr .i64 (wr .i64 (wr .i64 (n.2.2.1+n.2.2.2.1)-1)-n.2.2.1)+1)=(nW n:Int):=R.ww
  have n1:=R.nl
  have n2:=R.nw
  have g:=R.w.g
  have w:=R.w.w
  have nle:((nL s:Nat):Int)=lHi s-lLo s+1:=by unfold nL;omega
  have nwe:((nW n:Nat):Int)=wN n:=by unfold nW;omega
  have w1:wr .i64 (s.2.1.1+(i:Int))=lLo s+i:=wr_in (n:=lLo s+(i:Int)) (by omega) (by omega)
  have w2:wr .i64 (n.2.2.1+(k:Int))=wLo n+b:=by subst hb;exact wr_in (n:=wLo n+(k:Int)) (by omega) (by omega)
  have ht:truB (lLo s+i,(wLo n+b).tmod 32,()) true=true:=by
   show (ile 1 (lLo s+i)&&ile (lLo s+i) 200&&inV ((wLo n+b).tmod 32))=true
   rw[ile_t (show 1≤lLo s+(i:Int) by omega),ile_t (show lLo s+(i:Int)≤200 by omega),w32 w.1.1 (show 0≤b by omega)];rfl
  rw[e,ile_f (show (k:Int)<((nW n:Nat):Int) by omega),Bool.not_false,cond_true] at h
  rw[w1,w2] at h
  have ih:=fun x=>pcoh_in1 R hn hp h8 hl i hi rest O K r (k+1) m x (b+1) (by omega) (by omega) (by omega)
  refine .stop Zch_ok F6sy h (pcoh_i7 hn hp h8 hl _ _ _ ht x i k m O (by omega) (fun c=>?_) (fun c=>?_) l.2.length 0 1048575 (by omega) (by omega) rfl)
  · have e : (rowW (wLo n) (lLo s + i) (r + 1) b ++ rest).filter (fun t => agrF n l.2 t true) = (lLo s + i, (wLo n + b).tmod 32, ()) :: (rowW (wLo n) (lLo s + i) r (b + 1) ++ rest).filter (fun t => agrF n l.2 t true) :=
     List.filter_cons_of_pos c
    rw[e]
    exact ih _
  · have e : (rowW (wLo n) (lLo s + i) (r + 1) b ++ rest).filter (fun t => agrF n l.2 t true) = (rowW (wLo n) (lLo s + i) r (b + 1) ++ rest).filter (fun t => agrF n l.2 t true) :=
     List.filter_cons_of_neg (by rw[c];decide)
    rw[e]
    exact ih _
theorem pcoh_out1 (R:RngV s n) (hn:in3 n.1.1 n.1.2.1=true) (hp:in3 p.1 p.2.1=true) (h8:l.2.length≤8) (hl:repB l.2=true):∀ (r i m:Nat) (x:Bool×Bool) (a:Int),a=lLo s+i→i+r=nL s→r<m→Ans F6 (pcohI4 s n l p (i:Int) l.2.length (rps n l.2) x.1 x.2 m) (tup2 (couR (((allW (wLo n) (nW n) r a).filter fun t=>agrF n l.2 t true).foldl (stC n p true) x)))
 |0,i,m+1,x,a,ha,hi,hm=>by
  obtain⟨y,z'⟩:=x
  have h:=pcoh_step4 s n l p (i:Int) l.2.length (rps n l.2) y z' m
  have e:wr .i64 (wr .i64 (s.2.1.2.1-s.2.1.1)+1)=(nL s:Int):=R.wl
  rw[e,ile_t (show ((nL s:Nat):Int)≤i by omega),Bool.not_true,cond_false] at h
  cases y<;>cases z'<;>exact done2 Zch_ok F6sy h rfl
 |r+1,i,m+1,x,a,ha,hi,hm=>by
  have h:=pcoh_step4 s n l p (i:Int) l.2.length (rps n l.2) x.1 x.2 m
  have e:wr .i64 (wr .i64 (s.2.1.2.1-s.2.1.1)+1)=(nL s:Int):=R.wl
  rw[e,ile_f (show (i:Int)<((nL s:Nat):Int) by omega),Bool.not_false,cond_true] at h
  subst ha
  exact .stop Zch_ok F6sy h (pcoh_in1 R hn hp h8 hl i (by omega) _ m (fun x=>pcoh_out1 R hn hp h8 hl r (i+1) m x _ (by omega) (by omega) (by omega)) (nW n) 0 1048575 x (0) (by omega) (by omega) (by have:=R.nw;omega))
theorem pcoh_nv (R:RngV s n) (hN:NigOK s n l.2) (hp:in3 p.1 p.2.1=true):∀ (r k m:Nat),1≤k→k+r=l.2.length→r<m→Ans F6 (pcohI2 s n l p (k:Int) k (rps n (l.2.take k)) m) (tup2 (couR ((trT s n l.2 true).foldl (stC n p true) (false,false))))
 |0,k,m+1,h1,hk,hm=>by
  have h:=pcoh_step2 s n l p (k:Int) k (rps n (l.2.take k)) m
  have h8:=hN.len
  have hi:inB n.2.1 s.1.2.length=true:=inB_of hN.g0.1 hN.g0.2
  obtain⟨w1,w2,hnr⟩:=df3 hN.at_ hp
  have ek:k=l.2.length:=by omega
  subst ek
  rw[List.take_length] at h⊢
  simp only[ile_t (show Int.ofNat l.2.length≤((l.2.length:Nat):Int) from Int.le_refl _),Bool.not_true,cond_false,ieq_self,sI_eq,sB_eq,sV_eq,bbeq_self,vsB_self,hi,w1,w2,hnr,rps_plO,avbeq_sl13,cond_true] at h
  exact .stop Zch_ok F6sy h (pcoh_out1 R hN.at_ hp h8 hN.reps (nL s) 0 1048575 (false,false) (lLo s) (by omega) (by omega) (by have:=R.nl;omega))
 | r + 1, k, m + 1, h1, hk, hm => by
  have h:=pcoh_step2 s n l p (k:Int) k (rps n (l.2.take k)) m
  have h8:=hN.len
  have hlt:k<l.2.length:=by omega
  have hr:in3 (l.2[k]).1.1 (l.2[k]).1.2.1=true:=List.all_eq_true.1 hN.reps _ (List.getElem_mem hlt)
  obtain⟨wn,wc⟩:=rp_wr hN.at_ hr
  have eg:l.2.getD (k:Int).toNat tRe.dflt=l.2[k]:=getD_at hlt
  have b1:(0+k * 6).beq (rps n (l.2.take k)).length=true:=rps_beq (by rw[List.length_take];omega)
  have b2:k.ble 1048576=true:=Nat.ble_eq_true_of_le (by omega)
  have pl:plO (.cells false (rps n (l.2.take (k+1))))=true:=rps_plO _ _
  have ap:rps n (l.2.take k)++tRp.cells (rpOf n l.2[k])=rps n (l.2.take (k+1)):=by
   rw[rps_add,← List.take_succ_eq_append_getElem hlt]
  have av:=avbeq_sl13 k
  simp only[ile_f (show ((k:Nat):Int)<Int.ofNat l.2.length by show (k:Int)<(l.2.length:Int);omega),Bool.not_false,cond_true,inB_at hlt,eg,wn,wc,ap,pl,b1,b2,av,ieq_self,sI_eq,sB_eq,sV_eq,bbeq_self,wr_succ (show k<1048577 by omega)] at h
  exact .stop Zch_ok F6sy h (pcoh_nv R hN hp r (k+1) m (by omega) (by omega) (by omega))
end
theorem pcoh_call (s:tSt.den) (n:tNi.den) (l:(Ty.sl tRe).den) (p:tP.den):AnsF F6 11 [tSt.av s,tNi.av n,.vs tRe l.1 l.2,tP.av p,.bool true] (tup2 (couS s n l.2 p true)):=by
 refine Ans.call (n:=40) (ext_none (by kernel_rfl)) (hasB_spec (by kernel_rfl)) ?_
 have h:=pcoh_start s n l p
 unfold couS
 simp only[ieq_self,sI_eq,sB_eq,sV_eq,bbeq_self,vsB_self,cond_true] at h
 cases c:ieq (cknS s n l.2).2 0 with
 |false=>
  simp only[c,Bool.not_false,cond_true] at h
  rw[cond_false]
  exact done2 Zch_ok F6sy h rfl
 | true =>
  simp only[c,Bool.not_true,cond_false] at h
  rw[cond_true]
  cases hp:in3 p.1 p.2.1 with
  |false=>
   rw[cond_false]
   unfold in3 at hp
   cases q1:ile (-30000) p.1<;>cases q2:ile p.1 30000<;>cases q3:ile (-30000) p.2.1<;>cases q4:ile p.2.1 30000<;>simp only[q1,q2,q3,q4,Bool.not_true,Bool.not_false,cond_true,cond_false,Bool.true_and] at h hp<;>first|exact done2 Zch_ok F6sy h rfl|cases hp
  |true=>
  rw[cond_true]
  have hp4:=hp
  unfold in3 at hp4
  simp only[Bool.and_eq_true] at hp4
  simp only[hp4.1.1.1,hp4.1.1.2,hp4.1.2,hp4.2,Bool.not_true,cond_false] at h
  have hN:=nig_ok c
  have R:=rngv_ok hN
  have h8:=hN.len
  obtain⟨w1,w2,hnr⟩:=df3 hN.at_ hp
  refine .stop Zch_ok F6sy h ?_
  have h:=pcoh_step0 s n l p 1048574
  have hi:inB n.2.1 s.1.2.length=true:=inB_of hN.g0.1 hN.g0.2
  cases hl:l.2 with
  |nil=>
   simp only[hl,show ile (Int.ofNat ([]:List tRe.den).length) 0=true from rfl,Bool.not_true,cond_false,ieq_self,sI_eq,sB_eq,sV_eq,bbeq_self,vsB_self,hi,w1,w2,hnr,cond_true] at h
   have k:=pcoh_out0 (l:=l) R hN.at_ hp (nL s) 0 1048575 (false,false) (lLo s) (by omega) (by omega) (by have:=R.nl;omega)
   have e:trT s n [] true=allW (wLo n) (nW n) (nL s) (lLo s):=List.filter_eq_self.2 fun _ _=>rfl
   rw[e]
   exact .stop Zch_ok F6sy h k
  | cons r q =>
   rw[← hl]
   have hlt:0<l.2.length:=by rw[hl];simp
   have hr:in3 (l.2[0]).1.1 (l.2[0]).1.2.1=true:=List.all_eq_true.1 hN.reps _ (List.getElem_mem hlt)
   obtain⟨wn,wc⟩:=rp_wr hN.at_ hr
   have eg:l.2.getD (Int.toNat 0) tRe.dflt=l.2[0]:=getD_at (k:=0) hlt
   have ap:tRp.cells (rpOf n l.2[0])=rps n (l.2.take 1):=by
    have:=rps_add n [] l.2[0]
    have t1:=List.take_succ_eq_append_getElem hlt
    rw[List.take_zero,List.nil_append] at t1
    rw[t1]
    exact this
   have i0:inB 0 l.2.length=true:=inB_at (k:=0) hlt
   simp only[ile_f (show (0:Int)<Int.ofNat l.2.length by show (0:Int)<(l.2.length:Int);omega),Bool.not_false,cond_true,i0,eg,wn,wc,ap,ieq_self,sI_eq,sB_eq,sV_eq,bbeq_self] at h
   exact .stop Zch_ok F6sy h (pcoh_nv R hN hp (l.2.length-1) 1 1048574 (by omega) (by omega) (by omega))
end Go.Proofs.YtpnipaimaohiaaaGreatDoor


set_option maxRecDepth 100000
namespace Go.Proofs.YtpnipaimaohiaaaGreatDoor
open Go Go.Eng
noncomputable def S0:tSt.den:=((false,[([115,112,101,114,109],((400:Int),(420:Int),()),(60:Int),()),([114,97,112,101],((100:Int),(100:Int),()),(40:Int),())]),((20:Int),(30:Int),()),((50:Int),(120:Int),()),())
noncomputable def N0:tNi.den:=(((0:Int),(0:Int),()),(0:Int),(8:Int),(1:Int),())
noncomputable def rA:tRe.den:=(((0:Int),(10000:Int),()),false,true,())
noncomputable def rB:tRe.den:=(((13000:Int),(0:Int),()),false,false,())
noncomputable def rC:tRe.den:=(((0:Int),(10000:Int),()),false,false,())
theorem lc_in {i k:Nat} {q:Int} (hi:i≤20) (hk:k≤70) (h1:0≤q) (h2:q≤7200000000):lcB (400+(i:Int)) (50+(k:Int)) q=true:=lcB_iff.2 ⟨⟨by omega,by omega⟩,⟨by omega,by omega⟩,h1,h2⟩
end Go.Proofs.YtpnipaimaohiaaaGreatDoor


set_option maxRecDepth 100000
namespace Go.Proofs.YtpnipaimaohiaaaGreatDoor
open Go Go.Eng
theorem newl_start (a b:Int):adv F6 (Z6 []) 3000 (startC F6 39 [.int .i64 a,.int .i64 b] 6)=some (.done (.agg [(.int .i64 (a)),(.int .i64 (b))])):=by kernel_rfl
theorem numb_start (l:tP.den):adv F6 (Z6 []) 3000 (startC F6 148 [tP.av l] 6)=some (.done (.tup [(.int .i64 (l.1)),(.int .i64 (l.2.1))])):=by kernel_rfl
theorem newl_call (a b:tI.den):AnsF F6 39 [tI.av a,tI.av b] (.agg [.int .i64 a,.int .i64 b]):=
 Ans.call (n:=6) (ext_none (by kernel_rfl)) (hasB_spec (by kernel_rfl)) (.done (Z6_ok _) F6sy (newl_start a b) rfl)
theorem numb_call (l:tP.den):AnsF F6 148 [tP.av l] (.tup [.int .i64 l.1,.int .i64 l.2.1]):=
 Ans.call (n:=6) (ext_none (by kernel_rfl)) (hasB_spec (by kernel_rfl)) (.done (Z6_ok _) F6sy (numb_start l) rfl)
noncomputable def eqS (s:tSt.den) (n:tNi.den):Bool:=avbeq (tSt.av s) (tSt.av S0)&&avbeq (tNi.av n) (tNi.av N0)
noncomputable def eqR (l:(Ty.sl tRe).den) (b:Bool) (m:List tRe.den):Bool:=avbeq (.vs tRe l.1 l.2) (.vs tRe b m)
noncomputable def con5 (t u w s q:Ty) (c:t.den→u.den→w.den→s.den→q.den→Bool) (v:AV) (args:List AV):Option (Bool×AV):=
 match args with
 |[a1,a2,a3,a4,a5]=>match rdA t a1,rdA u a2,rdA w a3,rdA s a4,rdA q a5 with
  |some (c1,x),some (c2,y),some (c3,z),some (c4,p),some (c5,o)=>some (c1&&c2&&c3&&c4&&c5&&c x y z p o,v)
  |_,_,_,_,_=>none
 |_=>none
noncomputable def LZ:List Said:=[(39,con2 tI tI (fun _ _=>true) (fun a b=>.agg [.int .i64 a,.int .i64 b])),(148,con1 tP (fun _=>true) (fun l=>.tup [.int .i64 l.1,.int .i64 l.2.1])),
 (7,con3 tSt tNi (.sl tRe) (fun s n l=>eqS s n&&eqR l false [rA,rB]) (fun _ _ _=>.tup [.agg [.int .i64 400,.int .i64 420],.agg [.int .i64 50,.int .i64 65],.int .i64 0])),
 (11,con5 tSt tNi (.sl tRe) tP .bool (fun s n l p h=>eqS s n&&eqR l false [rA]&&avbeq (tP.av p) (.agg [.int .i64 0,.int .i64 12000])&&avbeq (.bool h) (.bool false)) (.tup [.int .i64 1,.int .i64 0])),
 (21,con3 tSt tNi (.sl tRe) (fun s n l=>eqS s n&&eqR l true []) (fun _ _ _=>.tup [.int .i64 10000,.int .i64 14491,.int .i64 0])),
 (23,con3 tSt tNi (.sl tRe) (fun s n l=>eqS s n&&eqR l false [rB,rC]) (fun _ _ _=>.tup [.csl [.int .i64 1] 1,.int .i64 0])),
 (22,con4 tSt tNi (.sl tRe) tI (fun s n l q=>eqS s n&&eqR l true []&&(ieq q 7000 || ieq q 10001)) (fun _ _ _ q=>.tup [.int .i64 (bif ieq q 7000 then 1 else 0),.int .i64 (bif ieq q 7000 then 0 else 9)]))]
noncomputable def F9:Env:=F6.say (under (xOf LZ))
noncomputable def EA:Env:={ T0.env with ext:=F9.ext,frz:=fun f=>elemN f [7,11,21,22,23] }
theorem eA:EnvOK Tryz.prog EA:=by
 have h:=tabs_ok.env
 refine⟨fun t k ht=>?_,h.zero,h.fn,h.eqok,h.meth⟩
 obtain⟨h1,h2⟩:=h.ty t k ht
 refine⟨h1,?_⟩
 cases k<;>exact h2
theorem nA:NameOK EA:=tabs_ok.name
end Go.Proofs.YtpnipaimaohiaaaGreatDoor


set_option maxRecDepth 100000
namespace Go.Proofs.YtpnipaimaohiaaaGreatDoor
open Go Go.Eng
noncomputable def LW:List Said:=[(5,say0 (.bool true))]
noncomputable def F10:Env:=F9.say (under (xOf LW))
end Go.Proofs.YtpnipaimaohiaaaGreatDoor


set_option maxRecDepth 100000
namespace Go.Proofs.YtpnipaimaohiaaaGreatDoor
open Go Go.Eng
theorem snW:∃ f:Int→Int→Int→Bool,∀ a b s,f a b s=seenF a b s:=⟨seenF,fun _ _ _=>rfl⟩
noncomputable def snO:Int→Int→Int→Bool:=Classical.choose snW
theorem snO_eq (a b s:Int):snO a b s=seenF a b s:=Classical.choose_spec snW a b s
theorem lcW:∃ f:Int→Int→Int→Bool,∀ a b s,f a b s=lcB a b s:=⟨lcB,fun _ _ _=>rfl⟩
noncomputable def lcO:Int→Int→Int→Bool:=Classical.choose lcW
theorem lcO_eq (a b s:Int):lcO a b s=lcB a b s:=Classical.choose_spec lcW a b s
noncomputable def LX:List Said:=[(40,con2 tP tP (fun l s=>bif ieq s.1 100000000 then lcO l.1 l.2.1 s.1&&snO l.1 l.2.1 s.1 else lcO l.1 l.2.1 s.1) (fun l s=>bif ieq s.1 100000000 then .bool true else .bool (snO l.1 l.2.1 s.1)))]
theorem LX_ok:∀ e∈LX,SaidG Tryz.prog F2.glob e:=
 saids_cons (SaidOK.g f2 xf2 nf2 tabs_ok.mix (fun _ _ h=>con2_spec (t:=tP) (u:=tP) (fun l s hc=>by
  dsimp only at hc⊢
  cases e:ieq s.1 100000000 with
  |true=>
   rw[e,cond_true,Bool.and_eq_true,lcO_eq,snO_eq] at hc
   rw[cond_true]
   have:=lrea_call l s hc.1
   rw[hc.2] at this
   exact this
  |false=>
   rw[e,cond_false,lcO_eq] at hc
   rw[cond_false,snO_eq]
   exact lrea_call l s hc) h) rfl) saids_nil
noncomputable def F7:Env:=F6.say (under (xOf LX))
theorem f7:EnvOK Tryz.prog F7:=f6.say _
theorem nf7:NameOK F7:=nf6.say _
theorem xf7:ExtOK Tryz.prog F7:=xf6.sayL LX_ok
theorem F7sy:F7.sy=true:=rfl
noncomputable def Z7 (l:List Nat):Sy:={ (Z6 []).on LX l with pl:=false }
theorem Z7_ok (l:List Nat):(Z7 l).ok F7:=Sy.on_ok (E:=F6) (L:=LX) (hd:=l) (Z6_ok _)
theorem sn_all:((List.range 21).all fun i=>(List.range 71).all fun k=>seenF (400+(i:Int)) (50+(k:Int)) 100000000)=true:=by kernel_rfl
theorem sn_in {i k:Nat} (hi:i≤20) (hk:k≤70):seenF (400+(i:Int)) (50+(k:Int)) 100000000=true:=
 List.all_eq_true.1 (List.all_eq_true.1 sn_all i (List.mem_range.2 (by omega))) k (List.mem_range.2 (by omega))
end Go.Proofs.YtpnipaimaohiaaaGreatDoor


set_option maxRecDepth 100000
namespace Go.Proofs.YtpnipaimaohiaaaGreatDoor
open Go Go.Eng
noncomputable def fclrQ0:Tmps:=(tmOf 24 [(0,(.yld 14)),(1,(pP 12 0)),(2,(pP 13 0)),(3,(pP 15 0)),(7,(pP 8 0)),(8,(.bool false)),(9,(.fn 106 [] [(pP 16 0),(pP 17 0),(pP 18 0)]))])
noncomputable def fclrQ1:Tmps:=(tmOf 44 [(0,(.agg [(.vs tGr (false) (S0.1.2)),(iI 20),(iI 30),(iI 50),(iI 120)])),(1,(.agg [(iI 0),(iI 0),(iI 0),(iI 8),(iI 1)])),(2,(.vs tRe (false) ([rA,rB]))),(3,(pP 0 0)),(4,(pP 1 0)),(6,(pP 2 0)),(7,(pP 3 0)),(8,(iI 0)),(9,(pP 8 0)),(10,(pP 10 0)),(11,(pP 11 0)),(15,(.tup [(pP 8 0),(iI 0)])),(16,(.agg [(.vs tGr (false) (S0.1.2)),(iI 20),(iI 30),(iI 50),(iI 120)])),(17,(.agg [(iI 0),(iI 0),(iI 0),(iI 8),(iI 1)])),(18,(.vs tRe (false) ([rA,rB]))),(19,(.tup [(pP 8 0),(iI 0)])),(20,(pP 8 0)),(21,(iI 0)),(22,(iI 0)),(23,(.bool false)),(27,(pP 8 0)),(28,(.fn 55 [] [(pP 12 0),(pP 13 0)]))])
noncomputable def fclrQ2:Tmps:=(tmOf 33 [(0,(.yld 19)),(1,(pP 16 0)),(2,(pP 17 0)),(3,(pP 18 0)),(7,(.agg [(iI 400),(iI 420)])),(8,(iI 21)),(9,(iI 0))])
noncomputable def fclrk1:AO:=(cF [(.vs tGr (false) (S0.1.2)),(iI 20),(iI 30),(iI 50),(iI 120)])
noncomputable def fclrk3:AO:=(cF [(iI 0),(iI 0),(iI 0),(iI 8),(iI 1)])
noncomputable def fclrk4:AO:=(cF [(.vs tGr (false) (S0.1.2)),(iI 20),(iI 30),(iI 50),(iI 120),(iI 0),(iI 0),(iI 0),(iI 8),(iI 1),(.sl 9 0 (2) (2) 6)])
noncomputable def fclrk0:AO:=(cF ([AV.int IntKind.i64 ([rA,rB].getD (Int.toNat 0) tRe.dflt).1.1,AV.int IntKind.i64 ([rA,rB].getD (Int.toNat 0) tRe.dflt).1.2.1,AV.bool false,AV.bool true,AV.int IntKind.i64 100000000,AV.int IntKind.i64 (ptF (wr .i64 (([rA,rB].getD (Int.toNat 0) tRe.dflt).1.1-N0.1.1)) (wr .i64 (([rA,rB].getD (Int.toNat 0) tRe.dflt).1.2.1-N0.1.2.1))),AV.int IntKind.i64 ([rA,rB].getD (wr .i64 (0+1)).toNat tRe.dflt).1.1,AV.int IntKind.i64 ([rA,rB].getD (wr .i64 (0+1)).toNat tRe.dflt).1.2.1,AV.bool false,AV.bool false,AV.int IntKind.i64 169000000,AV.int IntKind.i64 (ptF (wr .i64 (([rA,rB].getD (wr .i64 (0+1)).toNat tRe.dflt).1.1-N0.1.1)) (wr .i64 (([rA,rB].getD (wr .i64 (0+1)).toNat tRe.dflt).1.2.1-N0.1.2.1)))]))
noncomputable def fclrk2:HD:=⟨14,44,40,(fclrQ1),#[29],(pcOf F7 7 [0,0,1,0,1,1,1,1]),(pcOf F7 7 [1,0,1,0,1,1,1,1])⟩
noncomputable def fclrI0 (u:Unit) (x3:Int) (x55:Int) (x56:Int) (x57:Bool) (x58:Int) (x59:Int) (x60:Bool) (x105:Nat):Cfg:=⟨.ex (pcOf F7 106 [0,0,1]) ⟨(tmOf 33 [(0,(.yld 19)),(1,(pP 16 0)),(2,(pP 17 0)),(3,(pP 18 0)),(7,(.agg [(iI 400),(iI 420)])),(8,(iI 21)),(9,(iI x3))]),(hpOf 21 [(0,(fclrk1)),(1,(fclrk3)),(2,(cF [(iI 0),(iI 0)])),(3,(cF [(iI 0),(iI 0)])),(4,(fclrk1)),(5,(fclrk3)),(6,(fclrk1)),(7,(fclrk3)),(8,(fclrk4)),(9,(fclrk0)),(10,(cF [(iI x55),(iI x56),(.bool x57)])),(11,(cF [(iI x58),(iI x59),(.bool x60)])),(12,(cF [(pP 8 0)])),(13,(cF [(.bool false)])),(15,(cF [(.yld 14)])),(16,(cF [(iI 400),(iI 420)])),(17,(cF [(iI 50),(iI 120)])),(18,(cF [(.fn 39 [] [])])),(20,(cF [(iI 400),(iI 420)]))]),[],[⟨false,.normal⟩,⟨false,.normal⟩],33,false⟩,⟨38,[⟨19,24,39,(fclrQ0),#[10],(pcOf F7 55 [0,0,1,1,0,1]),(pcOf F7 55 [1,0,1,1,0,1])⟩,(fclrk2)]⟩,[(.lop (pcOf F7 106 [0,0,1]) 21 (fclrQ2) x105),(.blk 0),(.cal [] (.rng (fclrQ0) [] 24 false ⟨39,[(fclrk2)]⟩)),(.blk 0),(.cal [] (.rng (fclrQ1) [] 44 false ⟨40,[]⟩)),(.blk 0),(.seq (pcOf F7 7 [1,1,1,1,1])),(.cal [(.cell 6 24),(.cell 7 24),(.tmp 8)] .top)]⟩
noncomputable def fclrI1 (u:Unit) (x0:Int) (x10:Int) (x62:Int) (x63:Int) (x64:Bool) (x65:Int) (x66:Int) (x67:Bool) (x121:Nat) (x126:Nat):Cfg:=⟨.ex (pcOf F7 106 [0,0,1,1,0,0,1,1,0,0,1]) ⟨(tmOf 33 [(0,(.yld 19)),(1,(pP 16 0)),(2,(pP 17 0)),(3,(pP 18 0)),(5,(iI x0)),(7,(.agg [(iI 400),(iI 420)])),(8,(iI 21)),(9,(iI x0)),(10,(.bool true)),(11,(iI x0)),(12,(.agg [(iI 50),(iI 120)])),(13,(iI 71)),(14,(iI x10))]),(hpOf 22 [(0,(fclrk1)),(1,(fclrk3)),(2,(cF [(iI 0),(iI 0)])),(3,(cF [(iI 0),(iI 0)])),(4,(fclrk1)),(5,(fclrk3)),(6,(fclrk1)),(7,(fclrk3)),(8,(fclrk4)),(9,(fclrk0)),(10,(cF [(iI x62),(iI x63),(.bool x64)])),(11,(cF [(iI x65),(iI x66),(.bool x67)])),(12,(cF [(pP 8 0)])),(13,(cF [(.bool false)])),(15,(cF [(.yld 14)])),(16,(cF [(iI 400),(iI 420)])),(17,(cF [(iI 50),(iI 120)])),(18,(cF [(.fn 39 [] [])])),(20,(cF [(iI 400),(iI 420)])),(21,(cF [(iI 50),(iI 120)]))]),[],[⟨false,.normal⟩,⟨false,.normal⟩],33,false⟩,⟨38,[⟨19,24,39,(fclrQ0),#[10],(pcOf F7 55 [0,0,1,1,0,1]),(pcOf F7 55 [1,0,1,1,0,1])⟩,(fclrk2)]⟩,[(.lop (pcOf F7 106 [0,0,1,1,0,0,1,1,0,0,1]) 22 (tmOf 33 [(0,(.yld 19)),(1,(pP 16 0)),(2,(pP 17 0)),(3,(pP 18 0)),(5,(iI x0)),(7,(.agg [(iI 400),(iI 420)])),(8,(iI 21)),(9,(iI x0)),(10,(.bool true)),(11,(iI x0)),(12,(.agg [(iI 50),(iI 120)])),(13,(iI 71)),(14,(iI 0))]) x121),(.blk 2),(.blk 1),(.seq (pcOf F7 106 [1,1,1,0,0,1])),(.lop (pcOf F7 106 [0,0,1]) 21 (fclrQ2) x126),(.blk 0),(.cal [] (.rng (fclrQ0) [] 24 false ⟨39,[(fclrk2)]⟩)),(.blk 0),(.cal [] (.rng (fclrQ1) [] 44 false ⟨40,[]⟩)),(.blk 0),(.seq (pcOf F7 7 [1,1,1,1,1])),(.cal [(.cell 6 24),(.cell 7 24),(.tmp 8)] .top)]⟩
theorem fclr_start (u:Unit):adv F7 (Z7 [106]) 3000 (startC F7 7 [tSt.av S0,tNi.av N0,.vs tRe false [rA,rB]] 40)=some (.stop (fclrI0 u (0) (0) (0) (false) (0) (0) (false) (1048575))):=by kernel_rfl
theorem fclr_step0 (u:Unit) (x3:Int) (x55:Int) (x56:Int) (x57:Bool) (x58:Int) (x59:Int) (x60:Bool) (x105:Nat):adv F7 (Z7 [106]) 3000 (fclrI0 u x3 x55 x56 x57 x58 x59 x60 (x105+1))=(bif !ile 21 x3 then some (.stop (fclrI1 u (x3) (0) (x55) (x56) (x57) (x58) (x59) (x60) (1048575) (x105+1))) else (bif x57 then (bif ieq x58 x58 then (bif ieq x59 x59 then (bif ieq x58 x58 then (bif ieq x59 x59 then (bif ieq x58 x58 then (bif ieq x59 x59 then (bif ieq x55 x55 then (bif ieq x56 x56 then (bif ieq x55 x55 then (bif ieq x56 x56 then some (.done (.tup [(.agg [(.int .i64 (x55)),(.int .i64 (x56))]),(.agg [(.int .i64 (x58)),(.int .i64 (x59))]),(.int .i64 (0))])) else none) else none) else none) else none) else none) else none) else none) else none) else none) else none) else (bif ieq x58 x58 then (bif ieq x59 x59 then (bif ieq x58 x58 then (bif ieq x59 x59 then (bif ieq x58 x58 then (bif ieq x59 x59 then (bif ieq x55 x55 then (bif ieq x56 x56 then (bif ieq x55 x55 then (bif ieq x56 x56 then some (.done (.tup [(.agg [(.int .i64 (x55)),(.int .i64 (x56))]),(.agg [(.int .i64 (x58)),(.int .i64 (x59))]),(.int .i64 (9))])) else none) else none) else none) else none) else none) else none) else none) else none) else none) else none))):=by kernel_rfl
theorem fclr_step1 (u:Unit) (x0:Int) (x10:Int) (x62:Int) (x63:Int) (x64:Bool) (x65:Int) (x66:Int) (x67:Bool) (x121:Nat) (x126:Nat):adv F7 (Z7 [106]) 3000 (fclrI1 u x0 x10 x62 x63 x64 x65 x66 x67 (x121+1) (x126+1))=(bif !ile 71 x10 then (bif bif ieq 100000000 100000000 then lcO (wr .i64 (400+x0)) (wr .i64 (50+x10)) 100000000&&snO (wr .i64 (400+x0)) (wr .i64 (50+x10)) 100000000 else lcO (wr .i64 (400+x0)) (wr .i64 (50+x10)) 100000000 then (bif bif ieq 169000000 100000000 then lcO (wr .i64 (400+x0)) (wr .i64 (50+x10)) 169000000&&snO (wr .i64 (400+x0)) (wr .i64 (50+x10)) 169000000 else lcO (wr .i64 (400+x0)) (wr .i64 (50+x10)) 169000000 then (bif !false == snO (wr .i64 (400+x0)) (wr .i64 (50+x10)) 169000000 then some (.stop (fclrI1 u (x0) (wr .i64 (x10+1)) (x62) (x63) (x64) (x65) (x66) (x67) (x121) (x126+1))) else (bif !x64 then (bif ieq (wr .i64 (400+x0)) (wr .i64 (400+x0)) then (bif ieq (wr .i64 (400+x0)) (wr .i64 (400+x0)) then (bif !x67 then (bif ieq (wr .i64 (50+x10)) (wr .i64 (50+x10)) then (bif ieq (wr .i64 (50+x10)) (wr .i64 (50+x10)) then some (.stop (fclrI1 u (x0) (wr .i64 (x10+1)) (bif ile (wr .i64 (400+x0)) (wr .i64 (400+x0)) then wr .i64 (400+x0) else wr .i64 (400+x0)) (bif ile (wr .i64 (400+x0)) (wr .i64 (400+x0)) then wr .i64 (400+x0) else wr .i64 (400+x0)) (true) (bif ile (wr .i64 (50+x10)) (wr .i64 (50+x10)) then wr .i64 (50+x10) else wr .i64 (50+x10)) (bif ile (wr .i64 (50+x10)) (wr .i64 (50+x10)) then wr .i64 (50+x10) else wr .i64 (50+x10)) (true) (x121) (x126+1))) else none) else none) else (bif ieq x66 x66 then (bif ieq x65 x65 then some (.stop (fclrI1 u (x0) (wr .i64 (x10+1)) (bif ile (wr .i64 (400+x0)) (wr .i64 (400+x0)) then wr .i64 (400+x0) else wr .i64 (400+x0)) (bif ile (wr .i64 (400+x0)) (wr .i64 (400+x0)) then wr .i64 (400+x0) else wr .i64 (400+x0)) (true) (bif ile x65 (wr .i64 (50+x10)) then x65 else wr .i64 (50+x10)) (bif ile (wr .i64 (50+x10)) x66 then x66 else wr .i64 (50+x10)) (x67) (x121) (x126+1))) else none) else none)) else none) else none) else (bif ieq x63 x63 then (bif ieq x62 x62 then (bif !x67 then (bif ieq (wr .i64 (50+x10)) (wr .i64 (50+x10)) then (bif ieq (wr .i64 (50+x10)) (wr .i64 (50+x10)) then some (.stop (fclrI1 u (x0) (wr .i64 (x10+1)) (bif ile x62 (wr .i64 (400+x0)) then x62 else wr .i64 (400+x0)) (bif ile (wr .i64 (400+x0)) x63 then x63 else wr .i64 (400+x0)) (x64) (bif ile (wr .i64 (50+x10)) (wr .i64 (50+x10)) then wr .i64 (50+x10) else wr .i64 (50+x10)) (bif ile (wr .i64 (50+x10)) (wr .i64 (50+x10)) then wr .i64 (50+x10) else wr .i64 (50+x10)) (true) (x121) (x126+1))) else none) else none) else (bif ieq x66 x66 then (bif ieq x65 x65 then some (.stop (fclrI1 u (x0) (wr .i64 (x10+1)) (bif ile x62 (wr .i64 (400+x0)) then x62 else wr .i64 (400+x0)) (bif ile (wr .i64 (400+x0)) x63 then x63 else wr .i64 (400+x0)) (x64) (bif ile x65 (wr .i64 (50+x10)) then x65 else wr .i64 (50+x10)) (bif ile (wr .i64 (50+x10)) x66 then x66 else wr .i64 (50+x10)) (x67) (x121) (x126+1))) else none) else none)) else none) else none))) else none) else none) else some (.stop (fclrI0 u (wr .i64 (x0+1)) (x62) (x63) (x64) (x65) (x66) (x67) (x126)))):=by kernel_rfl
noncomputable def fclrS (i k:Nat) (t:En6):En6:=bif !seenF (400+i) (50+k) 169000000 then (mtL (t.1,t.2.1,t.2.2.1) (400+i),mtH (t.1,t.2.1,t.2.2.1) (400+i),true,mtL t.2.2.2 (50+k),mtH t.2.2.2 (50+k),true) else t
noncomputable def fclrR (i:Nat):Nat→Nat→En6→En6
 |0,_,t=>t
 |r+1,k,t=>fclrR i r (k+1) (fclrS i k t)
noncomputable def fclrA:Nat→Nat→En6→En6
 |0,_,t=>t
 |r+1,i,t=>fclrA r (i+1) (fclrR i 71 0 t)
theorem fclr_in {v:AV} (i:Nat) (hi:i≤20) (M:Nat):∀ (r k m:Nat) (t:En6),k+r=71→r<m→Ans F7 (fclrI0 () ((i+1:Nat):Int) (fclrR i r k t).1 (fclrR i r k t).2.1 (fclrR i r k t).2.2.1 (fclrR i r k t).2.2.2.1 (fclrR i r k t).2.2.2.2.1 (fclrR i r k t).2.2.2.2.2 M) v→Ans F7 (fclrI1 () i k t.1 t.2.1 t.2.2.1 t.2.2.2.1 t.2.2.2.2.1 t.2.2.2.2.2 m (M+1)) v
 |0,k,m+1,t,hk,hm,K=>by
  have h:=fclr_step1 () i k t.1 t.2.1 t.2.2.1 t.2.2.2.1 t.2.2.2.2.1 t.2.2.2.2.2 m M
  have e:k=71:=by omega
  subst e
  rw[show ile 71 ((71:Nat):Int)=true from rfl,Bool.not_true,cond_false,wr_succ (show i<1048577 by omega)] at h
  exact .stop (Z7_ok _) F7sy h K
 |r+1,k,m+1,t,hk,hm,K=>by
  obtain⟨a,b,x,c,d,y⟩:=t
  have h:=fclr_step1 () i k a b x c d y m M
  have e1:ile 71 (k:Int)=false:=ile_f (by omega)
  simp only[lcO_eq,snO_eq,ieq_self,show ieq 169000000 100000000=false from rfl,cond_true,cond_false] at h
  have s0:=sn_in hi (show k≤70 by omega)
  have l0:=lc_in (q:=100000000) hi (show k≤70 by omega) (by decide) (by decide)
  have l1:=lc_in (q:=169000000) hi (show k≤70 by omega) (by decide) (by decide)
  rw[fclrR] at K
  have ih:=fclr_in i hi M r (k+1) m _ (by omega) (by omega) K
  rw[wr_in (n:=400+(i:Int)) (by omega) (by omega),wr_in (n:=50+(k:Int)) (by omega) (by omega),wr_succ (show k<1048577 by omega)] at h
  simp only[e1,s0,l0,l1,ieq_self,Bool.not_false,Bool.and_self,cond_true] at h
  clear K
  unfold fclrS mtL mtH at ih
  cases s1:seenF (400+i) (50+k) 169000000<;>cases x<;>cases y<;>simp only[s1,beq_self_eq_true,Bool.not_true,Bool.not_false,cond_true,cond_false,Bool.and_self,Bool.and_true,Bool.and_false,Bool.false_and,Bool.true_and,show (true == false)=false from rfl,show (false == true)=false from rfl] at h ih<;>exact .stop (Z7_ok _) F7sy h ih
theorem fclr_out:∀ (r i m:Nat) (t:En6),i+r=21→r<m→Ans F7 (fclrI0 () i t.1 t.2.1 t.2.2.1 t.2.2.2.1 t.2.2.2.2.1 t.2.2.2.2.2 m) (clrV (fclrA r i t))
 |0,i,m+1,t,hi,hm=>by
  obtain⟨a,b,x,c,d,y⟩:=t
  have h:=fclr_step0 () i a b x c d y m
  have e:i=21:=by omega
  subst e
  simp only[show ile 21 ((21:Nat):Int)=true from rfl,Bool.not_true,cond_false,ieq_self,cond_true] at h
  cases x<;>exact .done (Z7_ok _) F7sy h rfl
 |r+1,i,m+1,t,hi,hm=>by
  have h:=fclr_step0 () i t.1 t.2.1 t.2.2.1 t.2.2.2.1 t.2.2.2.2.1 t.2.2.2.2.2 m
  rw[show ile 21 (i:Int)=false from ile_f (by omega),Bool.not_false,cond_true] at h
  exact .stop (Z7_ok _) F7sy h (fclr_in i (by omega) m 71 0 1048575 t (by omega) (by omega) (fclr_out r (i+1) m _ (by omega) (by omega)))
theorem fclr_fin:fclrA 21 0 (0,0,false,0,0,false)=(400,420,true,50,65,true):=by kernel_rfl
theorem fclr_ans:Ans F7 (startC F7 7 [tSt.av S0,tNi.av N0,.vs tRe false [rA,rB]] 40) (.tup [.agg [.int .i64 400,.int .i64 420],.agg [.int .i64 50,.int .i64 65],.int .i64 0]):=by
 have h:=fclr_out 21 0 1048575 (0,0,false,0,0,false) (by omega) (by omega)
 rw[fclr_fin] at h
 exact .stop (Z7_ok _) F7sy (fclr_start ()) h
end Go.Proofs.YtpnipaimaohiaaaGreatDoor


set_option maxRecDepth 100000
namespace Go.Proofs.YtpnipaimaohiaaaGreatDoor
open Go Go.Eng
noncomputable def fcouQ0:Tmps:=(tmOf 24 [(0,(.yld 21)),(1,(pP 19 0)),(2,(pP 20 0)),(3,(pP 22 0)),(7,(pP 12 0)),(8,(.bool false)),(9,(.fn 106 [] [(pP 23 0),(pP 24 0),(pP 25 0)]))])
noncomputable def fcouQ1:Tmps:=(tmOf 54 [(0,(.agg [(.vs tGr (false) (S0.1.2)),(iI 20),(iI 30),(iI 50),(iI 120)])),(1,(.agg [(iI 0),(iI 0),(iI 0),(iI 8),(iI 1)])),(2,(.vs tRe (false) ([rA]))),(3,(.agg [(iI 0),(iI 12000)])),(4,(.bool false)),(5,(pP 0 0)),(6,(pP 1 0)),(8,(pP 2 0)),(10,(iI 0)),(11,(iI 0)),(12,(pP 12 0)),(13,(iI 0)),(14,(pP 16 0)),(15,(pP 17 0)),(16,(pP 18 0)),(18,(.tup [(pP 12 0),(iI 0)])),(19,(.agg [(.vs tGr (false) (S0.1.2)),(iI 20),(iI 30),(iI 50),(iI 120)])),(20,(.agg [(iI 0),(iI 0),(iI 0),(iI 8),(iI 1)])),(21,(.vs tRe (false) ([rA]))),(22,(pP 2 0)),(23,(iI 0)),(24,(pP 2 1)),(25,(iI 12000)),(26,(.sl 3 0 (2) (2) 1)),(27,(.fn 59 [] [(pP 5 0),(pP 6 0),(pP 7 0)])),(28,(.sl 4 0 (1) (1) 1)),(29,(.tup [(pP 12 0),(iI 0)])),(30,(pP 12 0)),(31,(iI 0)),(32,(iI 0)),(33,(.bool false)),(35,(pP 12 0)),(36,(.agg [(iI 0),(iI 12000)])),(37,(.agg [(iI 144000000),(iI 0)])),(38,(pP 12 0)),(39,(.bool false)),(40,(.fn 55 [] [(pP 19 0),(pP 20 0)]))])
noncomputable def fcouQ2:Tmps:=(tmOf 33 [(0,(.yld 26)),(1,(pP 23 0)),(2,(pP 24 0)),(3,(pP 25 0)),(7,(.agg [(iI 400),(iI 420)])),(8,(iI 21)),(9,(iI 0))])
noncomputable def fcouk1:AO:=(cF [(.vs tGr (false) (S0.1.2)),(iI 20),(iI 30),(iI 50),(iI 120)])
noncomputable def fcouk3:AO:=(cF [(iI 0),(iI 0),(iI 0),(iI 8),(iI 1)])
noncomputable def fcouk4:AO:=(cF [(.vs tGr (false) (S0.1.2)),(iI 20),(iI 30),(iI 50),(iI 120),(iI 0),(iI 0),(iI 0),(iI 8),(iI 1),(.sl 13 0 (1) (1) 6)])
noncomputable def fcouk0:AO:=(cF ([AV.int IntKind.i64 ([rA].getD (Int.toNat 0) tRe.dflt).1.1,AV.int IntKind.i64 ([rA].getD (Int.toNat 0) tRe.dflt).1.2.1,AV.bool false,AV.bool true,AV.int IntKind.i64 100000000,AV.int IntKind.i64 (ptF (wr .i64 (([rA].getD (Int.toNat 0) tRe.dflt).1.1-N0.1.1)) (wr .i64 (([rA].getD (Int.toNat 0) tRe.dflt).1.2.1-N0.1.2.1)))]))
noncomputable def fcouk2:HD:=⟨21,54,40,(fcouQ1),#[41],(pcOf F7 11 [0,0,1,0,1,1,1,1,1]),(pcOf F7 11 [1,0,1,0,1,1,1,1,1])⟩
noncomputable def fcouI0 (u:Unit) (x3:Int) (x65:Bool) (x66:Bool) (x127:Nat):Cfg:=⟨.ex (pcOf F7 106 [0,0,1]) ⟨(tmOf 33 [(0,(.yld 26)),(1,(pP 23 0)),(2,(pP 24 0)),(3,(pP 25 0)),(7,(.agg [(iI 400),(iI 420)])),(8,(iI 21)),(9,(iI x3))]),(hpOf 28 [(0,(fcouk1)),(1,(fcouk3)),(2,(cF [(iI 0),(iI 12000)])),(3,(.cells true [(iI 0),(iI 12000)])),(4,(cF [(.fn 59 [] [(pP 5 0),(pP 6 0),(pP 7 0)])])),(5,(cF [(iI (-30000))])),(6,(cF [(iI 30000)])),(7,(cF [(.csl [(iI 0),(iI 12000)] 2)])),(8,(fcouk1)),(9,(fcouk3)),(10,(fcouk1)),(11,(fcouk3)),(12,(fcouk4)),(13,(fcouk0)),(14,(cF [(iI 0),(iI 12000)])),(15,(cF [(iI 144000000),(iI 0)])),(16,(cF [(iI 144000000),(iI 0)])),(17,(cF [(.bool x65)])),(18,(cF [(.bool x66)])),(19,(cF [(pP 12 0)])),(20,(cF [(.bool false)])),(22,(cF [(.yld 21)])),(23,(cF [(iI 400),(iI 420)])),(24,(cF [(iI 50),(iI 120)])),(25,(cF [(.fn 39 [] [])])),(27,(cF [(iI 400),(iI 420)]))]),[],[⟨false,.normal⟩,⟨false,.normal⟩],33,false⟩,⟨38,[⟨26,24,39,(fcouQ0),#[10],(pcOf F7 55 [0,0,1,1,0,1]),(pcOf F7 55 [1,0,1,1,0,1])⟩,(fcouk2)]⟩,[(.lop (pcOf F7 106 [0,0,1]) 28 (fcouQ2) x127),(.blk 0),(.cal [] (.rng (fcouQ0) [] 24 false ⟨39,[(fcouk2)]⟩)),(.blk 0),(.cal [] (.rng (fcouQ1) [] 54 false ⟨40,[]⟩)),(.blk 0),(.seq (pcOf F7 11 [1,1,1,1,1,1])),(.cal [(.tmp 10),(.tmp 11)] .top)]⟩
noncomputable def fcouI1 (u:Unit) (x0:Int) (x10:Int) (x72:Bool) (x73:Bool) (x143:Nat) (x148:Nat):Cfg:=⟨.ex (pcOf F7 106 [0,0,1,1,0,0,1,1,0,0,1]) ⟨(tmOf 33 [(0,(.yld 26)),(1,(pP 23 0)),(2,(pP 24 0)),(3,(pP 25 0)),(5,(iI x0)),(7,(.agg [(iI 400),(iI 420)])),(8,(iI 21)),(9,(iI x0)),(10,(.bool true)),(11,(iI x0)),(12,(.agg [(iI 50),(iI 120)])),(13,(iI 71)),(14,(iI x10))]),(hpOf 29 [(0,(fcouk1)),(1,(fcouk3)),(2,(cF [(iI 0),(iI 12000)])),(3,(.cells true [(iI 0),(iI 12000)])),(4,(cF [(.fn 59 [] [(pP 5 0),(pP 6 0),(pP 7 0)])])),(5,(cF [(iI (-30000))])),(6,(cF [(iI 30000)])),(7,(cF [(.csl [(iI 0),(iI 12000)] 2)])),(8,(fcouk1)),(9,(fcouk3)),(10,(fcouk1)),(11,(fcouk3)),(12,(fcouk4)),(13,(fcouk0)),(14,(cF [(iI 0),(iI 12000)])),(15,(cF [(iI 144000000),(iI 0)])),(16,(cF [(iI 144000000),(iI 0)])),(17,(cF [(.bool x72)])),(18,(cF [(.bool x73)])),(19,(cF [(pP 12 0)])),(20,(cF [(.bool false)])),(22,(cF [(.yld 21)])),(23,(cF [(iI 400),(iI 420)])),(24,(cF [(iI 50),(iI 120)])),(25,(cF [(.fn 39 [] [])])),(27,(cF [(iI 400),(iI 420)])),(28,(cF [(iI 50),(iI 120)]))]),[],[⟨false,.normal⟩,⟨false,.normal⟩],33,false⟩,⟨38,[⟨26,24,39,(fcouQ0),#[10],(pcOf F7 55 [0,0,1,1,0,1]),(pcOf F7 55 [1,0,1,1,0,1])⟩,(fcouk2)]⟩,[(.lop (pcOf F7 106 [0,0,1,1,0,0,1,1,0,0,1]) 29 (tmOf 33 [(0,(.yld 26)),(1,(pP 23 0)),(2,(pP 24 0)),(3,(pP 25 0)),(5,(iI x0)),(7,(.agg [(iI 400),(iI 420)])),(8,(iI 21)),(9,(iI x0)),(10,(.bool true)),(11,(iI x0)),(12,(.agg [(iI 50),(iI 120)])),(13,(iI 71)),(14,(iI 0))]) x143),(.blk 2),(.blk 1),(.seq (pcOf F7 106 [1,1,1,0,0,1])),(.lop (pcOf F7 106 [0,0,1]) 28 (fcouQ2) x148),(.blk 0),(.cal [] (.rng (fcouQ0) [] 24 false ⟨39,[(fcouk2)]⟩)),(.blk 0),(.cal [] (.rng (fcouQ1) [] 54 false ⟨40,[]⟩)),(.blk 0),(.seq (pcOf F7 11 [1,1,1,1,1,1])),(.cal [(.tmp 10),(.tmp 11)] .top)]⟩
theorem fcou_start (u:Unit):adv F7 (Z7 [106]) 3000 (startC F7 11 [tSt.av S0,tNi.av N0,.vs tRe false [rA],.agg [.int .i64 0,.int .i64 12000],.bool false] 40)=some (.stop (fcouI0 u (0) (false) (false) (1048575))):=by kernel_rfl
theorem fcou_step0 (u:Unit) (x3:Int) (x65:Bool) (x66:Bool) (x127:Nat):adv F7 (Z7 [106]) 3000 (fcouI0 u x3 x65 x66 (x127+1))=(bif !ile 21 x3 then some (.stop (fcouI1 u (x3) (0) (x65) (x66) (1048575) (x127+1))) else (bif x65 then (bif x66 then some (.done (.tup [(.int .i64 (1)),(.int .i64 (0))])) else (bif x65 then some (.done (.tup [(.int .i64 (2)),(.int .i64 (0))])) else (bif x66 then some (.done (.tup [(.int .i64 (0)),(.int .i64 (0))])) else some (.done (.tup [(.int .i64 (0)),(.int .i64 (9))]))))) else (bif x65 then some (.done (.tup [(.int .i64 (2)),(.int .i64 (0))])) else (bif x66 then some (.done (.tup [(.int .i64 (0)),(.int .i64 (0))])) else some (.done (.tup [(.int .i64 (0)),(.int .i64 (9))])))))):=by kernel_rfl
theorem fcou_step1 (u:Unit) (x0:Int) (x10:Int) (x72:Bool) (x73:Bool) (x143:Nat) (x148:Nat):adv F7 (Z7 [106]) 3000 (fcouI1 u x0 x10 x72 x73 (x143+1) (x148+1))=(bif !ile 71 x10 then (bif bif ieq 100000000 100000000 then lcO (wr .i64 (400+x0)) (wr .i64 (50+x10)) 100000000&&snO (wr .i64 (400+x0)) (wr .i64 (50+x10)) 100000000 else lcO (wr .i64 (400+x0)) (wr .i64 (50+x10)) 100000000 then (bif bif ieq 144000000 100000000 then lcO (wr .i64 (400+x0)) (wr .i64 (50+x10)) 144000000&&snO (wr .i64 (400+x0)) (wr .i64 (50+x10)) 144000000 else lcO (wr .i64 (400+x0)) (wr .i64 (50+x10)) 144000000 then (bif snO (wr .i64 (400+x0)) (wr .i64 (50+x10)) 144000000 then some (.stop (fcouI1 u (x0) (wr .i64 (x10+1)) (true) (x73) (x143) (x148+1))) else some (.stop (fcouI1 u (x0) (wr .i64 (x10+1)) (x72) (true) (x143) (x148+1)))) else none) else none) else some (.stop (fcouI0 u (wr .i64 (x0+1)) (x72) (x73) (x148)))):=by kernel_rfl
noncomputable def couV (t:Bool×Bool):AV:=.tup [.int .i64 (bif t.1 then (bif t.2 then 1 else 2) else 0),.int .i64 (bif t.1 || t.2 then 0 else 9)]
noncomputable def fcouS (i k:Nat) (t:Bool×Bool):Bool×Bool:=bif seenF (400+i) (50+k) 144000000 then (true,t.2) else (t.1,true)
noncomputable def fcouR (i:Nat):Nat→Nat→Bool×Bool→Bool×Bool
 |0,_,t=>t
 |r+1,k,t=>fcouR i r (k+1) (fcouS i k t)
noncomputable def fcouA:Nat→Nat→Bool×Bool→Bool×Bool
 |0,_,t=>t
 |r+1,i,t=>fcouA r (i+1) (fcouR i 71 0 t)
theorem fcou_in {v:AV} (i:Nat) (hi:i≤20) (M:Nat):∀ (r k m:Nat) (t:Bool×Bool),k+r=71→r<m→Ans F7 (fcouI0 () ((i+1:Nat):Int) (fcouR i r k t).1 (fcouR i r k t).2 M) v→Ans F7 (fcouI1 () i k t.1 t.2 m (M+1)) v
 |0,k,m+1,t,hk,hm,K=>by
  have h:=fcou_step1 () i k t.1 t.2 m M
  have e:k=71:=by omega
  subst e
  rw[show ile 71 ((71:Nat):Int)=true from rfl,Bool.not_true,cond_false,wr_succ (show i<1048577 by omega)] at h
  exact .stop (Z7_ok _) F7sy h K
 |r+1,k,m+1,t,hk,hm,K=>by
  obtain⟨a,b⟩:=t
  have h:=fcou_step1 () i k a b m M
  have e1:ile 71 (k:Int)=false:=ile_f (by omega)
  simp only[lcO_eq,snO_eq,ieq_self,show ieq 144000000 100000000=false from rfl,cond_true,cond_false] at h
  have s0:=sn_in hi (show k≤70 by omega)
  have l0:=lc_in (q:=100000000) hi (show k≤70 by omega) (by decide) (by decide)
  have l1:=lc_in (q:=144000000) hi (show k≤70 by omega) (by decide) (by decide)
  rw[fcouR] at K
  have ih:=fcou_in i hi M r (k+1) m _ (by omega) (by omega) K
  rw[wr_in (n:=400+(i:Int)) (by omega) (by omega),wr_in (n:=50+(k:Int)) (by omega) (by omega),wr_succ (show k<1048577 by omega)] at h
  simp only[e1,s0,l0,l1,Bool.not_false,Bool.and_self,cond_true] at h
  clear K
  unfold fcouS at ih
  cases s1:seenF (400+i) (50+k) 144000000<;>simp only[s1,beq_self_eq_true,Bool.not_true,Bool.not_false,cond_true,cond_false,show (true == false)=false from rfl,show (false == true)=false from rfl] at h ih<;>exact .stop (Z7_ok _) F7sy h ih
theorem fcou_out:∀ (r i m:Nat) (t:Bool×Bool),i+r=21→r<m→Ans F7 (fcouI0 () i t.1 t.2 m) (couV (fcouA r i t))
 |0,i,m+1,t,hi,hm=>by
  obtain⟨a,b⟩:=t
  have h:=fcou_step0 () i a b m
  have e:i=21:=by omega
  subst e
  simp only[show ile 21 ((21:Nat):Int)=true from rfl,Bool.not_true,cond_false] at h
  cases a<;>cases b<;>exact .done (Z7_ok _) F7sy h rfl
 |r+1,i,m+1,t,hi,hm=>by
  have h:=fcou_step0 () i t.1 t.2 m
  rw[show ile 21 (i:Int)=false from ile_f (by omega),Bool.not_false,cond_true] at h
  exact .stop (Z7_ok _) F7sy h (fcou_in i (by omega) m 71 0 1048575 t (by omega) (by omega) (fcou_out r (i+1) m _ (by omega) (by omega)))
theorem fcou_fin:fcouA 21 0 (false,false)=(true,true):=by kernel_rfl
theorem fcou_ans:Ans F7 (startC F7 11 [tSt.av S0,tNi.av N0,.vs tRe false [rA],.agg [.int .i64 0,.int .i64 12000],.bool false] 40) (.tup [.int .i64 1,.int .i64 0]):=by
 have h:=fcou_out 21 0 1048575 (false,false) (by omega) (by omega)
 rw[fcou_fin] at h
 exact .stop (Z7_ok _) F7sy (fcou_start ()) h
end Go.Proofs.YtpnipaimaohiaaaGreatDoor


set_option maxRecDepth 100000
namespace Go.Proofs.YtpnipaimaohiaaaGreatDoor
open Go Go.Eng
noncomputable def ffarQ0:Tmps:=(tmOf 24 [(0,(.yld 10)),(1,(pP 8 0)),(2,(pP 9 0)),(3,(pP 11 0)),(7,(pP 6 0)),(8,(.bool false)),(9,(.fn 106 [] [(pP 12 0),(pP 13 0),(pP 14 0)]))])
noncomputable def ffark4:AV:=(.agg [(.vs tGr (false) (S0.1.2)),(iI 20),(iI 30),(iI 50),(iI 120)])
noncomputable def ffarQ1:Tmps:=(tmOf 35 [(0,(ffark4)),(1,(.agg [(iI 0),(iI 0),(iI 0),(iI 8),(iI 1)])),(2,(.vs tRe (true) ([]))),(3,(pP 0 0)),(4,(pP 1 0)),(6,(iI 0)),(7,(iI 0)),(8,(iI 0)),(9,(pP 6 0)),(10,(pP 7 0)),(12,(.tup [(pP 6 0),(iI 0)])),(13,(ffark4)),(14,(.agg [(iI 0),(iI 0),(iI 0),(iI 8),(iI 1)])),(15,(.vs tRe (true) ([]))),(16,(.tup [(pP 6 0),(iI 0)])),(17,(pP 6 0)),(18,(iI 0)),(19,(iI 0)),(20,(.bool false)),(22,(pP 6 0)),(23,(.fn 55 [] [(pP 8 0),(pP 9 0)]))])
noncomputable def ffarQ2:Tmps:=(tmOf 33 [(0,(.yld 15)),(1,(pP 12 0)),(2,(pP 13 0)),(3,(pP 14 0)),(7,(.agg [(iI 400),(iI 420)])),(8,(iI 21)),(9,(iI 0))])
noncomputable def ffark1:AO:=(cF [(.vs tGr (false) (S0.1.2)),(iI 20),(iI 30),(iI 50),(iI 120)])
noncomputable def ffark2:AO:=(cF [(iI 0),(iI 0),(iI 0),(iI 8),(iI 1)])
noncomputable def ffark3:AO:=(cF [(.vs tGr (false) (S0.1.2)),(iI 20),(iI 30),(iI 50),(iI 120),(iI 0),(iI 0),(iI 0),(iI 8),(iI 1),.nils])
noncomputable def ffark5:HD:=⟨15,24,39,(ffarQ0),#[10],(pcOf F6 55 [0,0,1,1,0,1]),(pcOf F6 55 [1,0,1,1,0,1])⟩
noncomputable def ffark0:HD:=⟨10,35,40,(ffarQ1),#[24],(pcOf F6 21 [0,0,1,0,1,1,1,1]),(pcOf F6 21 [1,0,1,0,1,1,1,1])⟩
noncomputable def ffarI0 (u:Unit) (x3:Int) (x48:Int) (x49:Int) (x50:Bool) (x97:Nat):Cfg:=⟨.ex (pcOf F6 106 [0,0,1]) ⟨(tmOf 33 [(0,(.yld 15)),(1,(pP 12 0)),(2,(pP 13 0)),(3,(pP 14 0)),(7,(.agg [(iI 400),(iI 420)])),(8,(iI 21)),(9,(iI x3))]),(hpOf 17 [(0,(ffark1)),(1,(ffark2)),(2,(ffark1)),(3,(ffark2)),(4,(ffark1)),(5,(ffark2)),(6,(ffark3)),(7,(cF [(iI x48),(iI x49),(.bool x50)])),(8,(cF [(pP 6 0)])),(9,(cF [(.bool false)])),(11,(cF [(.yld 10)])),(12,(cF [(iI 400),(iI 420)])),(13,(cF [(iI 50),(iI 120)])),(14,(cF [(.fn 39 [] [])])),(16,(cF [(iI 400),(iI 420)]))]),[],[⟨false,.normal⟩,⟨false,.normal⟩],33,false⟩,⟨38,[(ffark5),(ffark0)]⟩,[(.lop (pcOf F6 106 [0,0,1]) 17 (ffarQ2) x97),(.blk 0),(.cal [] (.rng (ffarQ0) [] 24 false ⟨39,[(ffark0)]⟩)),(.blk 0),(.cal [] (.rng (ffarQ1) [] 35 false ⟨40,[]⟩)),(.blk 0),(.seq (pcOf F6 21 [1,1,1,1,1])),(.cal [(.tmp 6),(.tmp 7),(.tmp 8)] .top)]⟩
noncomputable def ffarQ3 (y0:Int):Tmps:=(tmOf 33 [(0,(.yld 15)),(1,(pP 12 0)),(2,(pP 13 0)),(3,(pP 14 0)),(5,(iI y0)),(7,(.agg [(iI 400),(iI 420)])),(8,(iI 21)),(9,(iI y0)),(10,(.bool true)),(11,(iI y0)),(12,(.agg [(iI 50),(iI 120)])),(13,(iI 71)),(14,(iI 0))])
noncomputable def ffarI1 (u:Unit) (x0:Int) (x10:Int) (x55:Int) (x56:Int) (x57:Bool) (x113:Nat) (x118:Nat):Cfg:=⟨.ex (pcOf F6 106 [0,0,1,1,0,0,1,1,0,0,1]) ⟨(tmOf 33 [(0,(.yld 15)),(1,(pP 12 0)),(2,(pP 13 0)),(3,(pP 14 0)),(5,(iI x0)),(7,(.agg [(iI 400),(iI 420)])),(8,(iI 21)),(9,(iI x0)),(10,(.bool true)),(11,(iI x0)),(12,(.agg [(iI 50),(iI 120)])),(13,(iI 71)),(14,(iI x10))]),(hpOf 18 [(0,(ffark1)),(1,(ffark2)),(2,(ffark1)),(3,(ffark2)),(4,(ffark1)),(5,(ffark2)),(6,(ffark3)),(7,(cF [(iI x55),(iI x56),(.bool x57)])),(8,(cF [(pP 6 0)])),(9,(cF [(.bool false)])),(11,(cF [(.yld 10)])),(12,(cF [(iI 400),(iI 420)])),(13,(cF [(iI 50),(iI 120)])),(14,(cF [(.fn 39 [] [])])),(16,(cF [(iI 400),(iI 420)])),(17,(cF [(iI 50),(iI 120)]))]),[],[⟨false,.normal⟩,⟨false,.normal⟩],33,false⟩,⟨38,[(ffark5),(ffark0)]⟩,[(.lop (pcOf F6 106 [0,0,1,1,0,0,1,1,0,0,1]) 18 (ffarQ3 x0) x113),(.blk 2),(.blk 1),(.seq (pcOf F6 106 [1,1,1,0,0,1])),(.lop (pcOf F6 106 [0,0,1]) 17 (ffarQ2) x118),(.blk 0),(.cal [] (.rng (ffarQ0) [] 24 false ⟨39,[(ffark0)]⟩)),(.blk 0),(.cal [] (.rng (ffarQ1) [] 35 false ⟨40,[]⟩)),(.blk 0),(.seq (pcOf F6 21 [1,1,1,1,1])),(.cal [(.tmp 6),(.tmp 7),(.tmp 8)] .top)]⟩
noncomputable def ffarI2 (u:Unit) (x2:Int) (x3:Int) (x49:Int) (x50:Int) (x51:Bool) (x61:Int) (x62:Int) (x73:Nat) (x150:Int) (x151:Int) (x220:Nat) (x225:Nat):Cfg:=⟨.ex (pcOf F6 44 [0,0,0,1,1]) ⟨(tmOf 26 [(0,(iI 60000)),(1,(.fn 45 [] [(pP 23 0)])),(4,(iI 0)),(5,(iI x2)),(6,(iI x3)),(8,(iI 60000))]),(hpOf 24 [(0,(ffark1)),(1,(ffark2)),(2,(ffark1)),(3,(ffark2)),(4,(ffark1)),(5,(ffark2)),(6,(ffark3)),(7,(cF [(iI x49),(iI x50),(.bool x51)])),(8,(cF [(pP 6 0)])),(9,(cF [(.bool false)])),(11,(cF [(.yld 10)])),(12,(cF [(iI 400),(iI 420)])),(13,(cF [(iI 50),(iI 120)])),(14,(cF [(.fn 39 [] [])])),(16,(cF [(iI 400),(iI 420)])),(17,(cF [(iI 50),(iI 120)])),(18,(cF [(iI x61),(iI x62)])),(19,(cF [(.ifc 97 (.agg [(iI x61),(iI x62)]))])),(20,(cF [(pP 6 0)])),(21,(cF [(.bool false)])),(23,(cF [(.ifc 97 (.agg [(iI x61),(iI x62)]))]))]),[],[],26,false⟩,⟨39,[]⟩,[(.lop (pcOf F6 44 [0,0,0,1,1]) 24 (tmOf 26 [(0,(iI 60000)),(1,(.fn 45 [] [(pP 23 0)])),(4,(iI 0)),(5,(iI 0)),(6,(iI 60000)),(8,(iI 60000))]) x73),(.blk 0),(.seq (pcOf F6 44 [1,1,1])),(.cal [(.tmp 4)] (.op (pcOf F6 21 [0,1,0,1,0,1,1,1,1]) 2 (some 26) ((opsOf (pcOf F6 21 [0,1,0,1,0,1,1,1,1]).c).toList.drop 2) (tmOf 35 [(0,(ffark4)),(1,(.agg [(iI 0),(iI 0),(iI 0),(iI 8),(iI 1)])),(2,(.vs tRe (true) ([]))),(3,(pP 0 0)),(4,(pP 1 0)),(6,(iI 0)),(7,(iI 0)),(8,(iI 0)),(9,(pP 6 0)),(10,(pP 7 0)),(11,(pP 23 0)),(12,(.tup [(pP 6 0),(iI 0)])),(13,(ffark4)),(14,(.agg [(iI 0),(iI 0),(iI 0),(iI 8),(iI 1)])),(15,(.vs tRe (true) ([]))),(16,(.tup [(pP 6 0),(iI 0)])),(17,(pP 6 0)),(18,(iI 0)),(19,(iI 0)),(20,(.bool false)),(22,(pP 6 0)),(23,(.fn 55 [] [(pP 8 0),(pP 9 0)])),(24,(.ifc 97 (.agg [(iI x61),(iI x62)]))),(25,(.fn 45 [] [(pP 23 0)]))]) [] 35 true ⟨40,[]⟩)),(.blk 1),(.rnd [] (.op (pcOf F6 55 [0,1,0,1,0,1,1,0,1]) 3 (some 22) ((opsOf (pcOf F6 55 [0,1,0,1,0,1,1,0,1]).c).toList.drop 3) (tmOf 24 [(0,(.yld 10)),(1,(pP 8 0)),(2,(pP 9 0)),(3,(pP 11 0)),(4,(pP 19 0)),(7,(pP 6 0)),(8,(.bool false)),(9,(.fn 106 [] [(pP 12 0),(pP 13 0),(pP 14 0)])),(10,(.ifc 97 (.agg [(iI x61),(iI x62)]))),(11,(pP 6 0)),(12,(.bool false)),(13,(.fn 80 [] [(pP 20 0),(pP 21 0)])),(20,(.yld 10)),(21,(.ifc 97 (.agg [(iI x61),(iI x62)])))]) [] 24 true ⟨39,[(ffark0)]⟩)),(.seq (pcOf F6 55 [1,1,0,1,0,1,1,0,1])),(.blk 1),(.rnd [] (.op (pcOf F6 106 [0,1,0,0,1,1,0,0,1,1,0,0,1,1,0,0,1]) 13 (some 29) ((opsOf (pcOf F6 106 [0,1,0,0,1,1,0,0,1,1,0,0,1,1,0,0,1]).c).toList.drop 13) (tmOf 33 [(0,(.yld 15)),(1,(pP 12 0)),(2,(pP 13 0)),(3,(pP 14 0)),(5,(iI x150)),(6,(iI x151)),(7,(.agg [(iI 400),(iI 420)])),(8,(iI 21)),(9,(iI x150)),(10,(.bool true)),(11,(iI x150)),(12,(.agg [(iI 50),(iI 120)])),(13,(iI 71)),(14,(iI x151)),(15,(.bool true)),(16,(iI x151)),(17,(.yld 15)),(18,(.fn 39 [] [])),(19,(pP 12 0)),(20,(iI 400)),(21,(iI x150)),(22,(iI x61)),(23,(pP 13 0)),(24,(iI 50)),(25,(iI x151)),(26,(iI x62)),(27,(.agg [(iI x61),(iI x62)])),(28,(.ifc 97 (.agg [(iI x61),(iI x62)])))]) [] 33 false ⟨38,[(ffark5),(ffark0)]⟩)),(.seq (pcOf F6 106 [1,1,0,0,1,1,0,0,1,1,0,0,1,1,0,0,1])),(.blk 3),(.seq (pcOf F6 106 [1,1,1,0,0,1,1,0,0,1,1,0,0,1])),(.lop (pcOf F6 106 [0,0,1,1,0,0,1,1,0,0,1]) 18 (ffarQ3 x150) x220),(.blk 2),(.blk 1),(.seq (pcOf F6 106 [1,1,1,0,0,1])),(.lop (pcOf F6 106 [0,0,1]) 17 (ffarQ2) x225),(.blk 0),(.cal [] (.rng (ffarQ0) [] 24 false ⟨39,[(ffark0)]⟩)),(.blk 0),(.cal [] (.rng (ffarQ1) [] 35 false ⟨40,[]⟩)),(.blk 0),(.seq (pcOf F6 21 [1,1,1,1,1])),(.cal [(.tmp 6),(.tmp 7),(.tmp 8)] .top)]⟩
theorem ffar_start (u:Unit):adv F6 (Z6 [44,106]) 3000 (startC F6 21 [tSt.av S0,tNi.av N0,.vs tRe true []] 40)=some (.stop (ffarI0 u (0) (0) (0) (false) (1048575))):=by kernel_rfl
theorem ffar_step0 (u:Unit) (x3:Int) (x48:Int) (x49:Int) (x50:Bool) (x97:Nat):adv F6 (Z6 [44,106]) 3000 (ffarI0 u x3 x48 x49 x50 (x97+1))=(bif !ile 21 x3 then some (.stop (ffarI1 u (x3) (0) (x48) (x49) (x50) (1048575) (x97+1))) else (bif x50 then (bif ieq x49 x49 then (bif ieq x49 x49 then (bif ieq x48 x48 then (bif ieq x48 x48 then some (.done (.tup [(.int .i64 (x48)),(.int .i64 (x49)),(.int .i64 (0))])) else none) else none) else none) else none) else (bif ieq x49 x49 then (bif ieq x49 x49 then (bif ieq x48 x48 then (bif ieq x48 x48 then some (.done (.tup [(.int .i64 (x48)),(.int .i64 (x49)),(.int .i64 (9))])) else none) else none) else none) else none))):=by kernel_rfl
theorem ffar_step1 (u:Unit) (x0:Int) (x10:Int) (x55:Int) (x56:Int) (x57:Bool) (x113:Nat) (x118:Nat):adv F6 (Z6 [44,106]) 3000 (ffarI1 u x0 x10 x55 x56 x57 (x113+1) (x118+1))=(bif !ile 71 x10 then some (.stop (ffarI2 u (0) (60000) (x55) (x56) (x57) (wr .i64 (400+x0)) (wr .i64 (50+x10)) (1048575) (x0) (x10) (x113+1) (x118+1))) else some (.stop (ffarI0 u (wr .i64 (x0+1)) (x55) (x56) (x57) (x118)))):=by kernel_rfl
theorem ffar_step2 (u:Unit) (x2:Int) (x3:Int) (x49:Int) (x50:Int) (x51:Bool) (x61:Int) (x62:Int) (x73:Nat) (x150:Int) (x151:Int) (x220:Nat) (x225:Nat):adv F6 (Z6 [44,106]) 3000 (ffarI2 u x2 x3 x49 x50 x51 x61 x62 (x73+1) x150 x151 (x220+1) (x225+1))=(let z1:=(wr .i64 ((wr IntKind.u64 (wr .i64 (x2+x3))).fdiv (2 ^ min (Int.toNat 1) IntKind.u64.bits))+1);(bif !ile x3 x2 then (bif lcB x61 x62 (wr .i64 (wr .i64 z1 * wr .i64 z1)) then (bif avbeq (AV.ifc 97 (AV.agg [AV.int IntKind.i64 x61,AV.int IntKind.i64 x62])) (AV.ifc 97 (AV.agg [AV.int IntKind.i64 x61,AV.int IntKind.i64 x62])) then (bif avbeq (AV.ifc 97 (AV.agg [AV.int IntKind.i64 x61,AV.int IntKind.i64 x62])) (AV.ifc 97 (AV.agg [AV.int IntKind.i64 x61,AV.int IntKind.i64 x62])) then (bif !!seenF x61 x62 (wr .i64 (wr .i64 z1 * wr .i64 z1)) then some (.stop (ffarI2 u (wr .i64 z1) (x3) (x49) (x50) (x51) (x61) (x62) (x73) (x150) (x151) (x220+1) (x225+1))) else some (.stop (ffarI2 u (x2) (wr .i64 ((wr IntKind.u64 (wr .i64 (x2+x3))).fdiv (2 ^ min (Int.toNat 1) IntKind.u64.bits))) (x49) (x50) (x51) (x61) (x62) (x73) (x150) (x151) (x220+1) (x225+1)))) else none) else none) else none) else (bif !x51 then (bif ieq x2 x2 then (bif ieq x2 x2 then some (.stop (ffarI1 u (x150) (wr .i64 (x151+1)) (bif ile x2 x2 then x2 else x2) (bif ile x2 x2 then x2 else x2) (true) (x220) (x225+1))) else none) else none) else (bif ieq x50 x50 then (bif ieq x49 x49 then some (.stop (ffarI1 u (x150) (wr .i64 (x151+1)) (bif ile x49 x2 then x49 else x2) (bif ile x2 x50 then x50 else x2) (x51) (x220) (x225+1))) else none) else none)))):=by kernel_rfl
noncomputable def srch (c k:Int):Nat→Int→Int→Int
 |0,lo,_=>lo
 |r+1,lo,hi=>bif ile hi lo then lo else (bif seenF c k (((lo+hi) / 2+1) * ((lo+hi) / 2+1)) then srch c k r ((lo+hi) / 2+1) hi else srch c k r lo ((lo+hi) / 2))
abbrev En3:=Int×Int×Bool
noncomputable def ffarS (i k:Nat) (t:En3):En3:=(mtL t (srch (400+i) (50+k) 17 0 60000),mtH t (srch (400+i) (50+k) 17 0 60000),true)
noncomputable def ffarR (i:Nat):Nat→Nat→En3→En3
 |0,_,t=>t
 |r+1,k,t=>ffarR i r (k+1) (ffarS i k t)
noncomputable def ffarA:Nat→Nat→En3→En3
 |0,_,t=>t
 |r+1,i,t=>ffarA r (i+1) (ffarR i 71 0 t)
theorem avb_self (a b:Int):avbeq (AV.ifc 97 (AV.agg [AV.int IntKind.i64 a,AV.int IntKind.i64 b])) (AV.ifc 97 (AV.agg [AV.int IntKind.i64 a,AV.int IntKind.i64 b]))=true:=by
 have e:ieq a a=true:=ieq_self a
 have e2:ieq b b=true:=ieq_self b
 show (bif ieq a a then _ else false)=true
 rw[e]
 show (bif ieq b b then _ else false)=true
 rw[e2]
 rfl
theorem wu_in {n:Int} (h1:0≤n) (h2:n≤9223372036854775807):wr .u64 n=n:=by
 show IntKind.u64.wrap n=n
 simp only[IntKind.wrap,IntKind.signed,IntKind.bits]
 simp
 omega
theorem mid_eq {lo hi:Int} (h1:0≤lo) (h2:lo≤hi) (h3:hi≤60000):wr .i64 ((wr IntKind.u64 (wr .i64 (lo+hi))).fdiv (2 ^ min (Int.toNat 1) IntKind.u64.bits))=(lo+hi) / 2:=by
 have e1:wr .i64 (lo+hi)=lo+hi:=wr_in (by omega) (by omega)
 have e2:wr IntKind.u64 (lo+hi)=lo+hi:=wu_in (by omega) (by omega)
 have e3:(2:Int) ^ min (Int.toNat 1) IntKind.u64.bits=2:=rfl
 rw[e1,e2,e3,Int.fdiv_eq_ediv_of_nonneg _ (by omega)]
 exact wr_in (by omega) (by omega)
theorem far_srch {v:AV} (i k:Nat) (hi:i≤20) (hk:k≤70) (a b:Int) (x:Bool) (m1 M:Nat):∀ (r m:Nat) (lo up:Int),r<m→0≤lo→lo≤up→up≤60000→up-lo<2 ^ r→Ans F6 (ffarI1 () i ((k+1:Nat):Int) (mtL (a,b,x) (srch (400+i) (50+k) r lo up)) (mtH (a,b,x) (srch (400+i) (50+k) r lo up)) true m1 (M+1)) v→Ans F6 (ffarI2 () lo up a b x (400+i) (50+k) m i k (m1+1) (M+1)) v
 | r, m + 1, lo, up, hr, h0, h1, h2, h3, K => by
  have h:=ffar_step2 () lo up a b x (400+i) (50+k) m i k m1 M
  cases c:ile up lo with
  | true =>
   rw[c,Bool.not_true,cond_false] at h
   have e:srch (400+i) (50+k) r lo up=lo:=by
    cases r with
    |zero=>rfl
    |succ r=>rw[srch,c,cond_true]
   rw[e] at K
   unfold mtL mtH at K
   simp only[ieq_self,wr_succ (show k<1048577 by omega),cond_true] at h
   cases x<;>simp only[Bool.not_true,Bool.not_false,cond_true,cond_false] at h K<;>exact .stop (Z6_ok _) F6sy h K
  | false =>
   have hlt:lo<up:=by rw[ile_iff,decide_eq_false_iff_not] at c;omega
   rw[c,Bool.not_false,cond_true,mid_eq h0 h1 h2] at h
   have hm:0≤(lo+up) / 2∧(lo+up) / 2<up∧lo≤(lo+up) / 2:=by omega
   have w1:wr .i64 ((lo+up) / 2+1)=(lo+up) / 2+1:=wr_in (by omega) (by omega)
   obtain⟨q1,q2,q3⟩:=sq6 (x:=(lo+up) / 2+1) (by omega) (by omega)
   have l0:lcB (400+i) (50+k) (((lo+up) / 2+1) * ((lo+up) / 2+1))=true:=lc_in hi hk q2 (by omega)
   simp only[w1,q1,l0,avb_self,Bool.not_not,cond_true] at h
   cases r with
   |zero=>exact absurd h3 (by simp;omega)
   | succ r =>
    rw[srch,c,cond_false] at K
    rw[Int.pow_succ] at h3
    cases s0:seenF (400+i) (50+k) (((lo+up) / 2+1) * ((lo+up) / 2+1)) with
    |true=>
     rw[s0,cond_true] at h K
     exact .stop (Z6_ok _) F6sy h (far_srch i k hi hk a b x m1 M r m _ _ (by omega) (by omega) (by omega) h2 (by omega) K)
    |false=>
     rw[s0,cond_false] at h K
     exact .stop (Z6_ok _) F6sy h (far_srch i k hi hk a b x m1 M r m _ _ (by omega) h0 (by omega) (by omega) (by omega) K)
theorem ffar_in {v:AV} (i:Nat) (hi:i≤20) (M:Nat):∀ (r k m:Nat) (t:En3),k+r=71→r<m→Ans F6 (ffarI0 () ((i+1:Nat):Int) (ffarR i r k t).1 (ffarR i r k t).2.1 (ffarR i r k t).2.2 M) v→Ans F6 (ffarI1 () i k t.1 t.2.1 t.2.2 m (M+1)) v
 |0,k,m+1,t,hk,hm,K=>by
  have h:=ffar_step1 () i k t.1 t.2.1 t.2.2 m M
  have e:k=71:=by omega
  subst e
  rw[show ile 71 ((71:Nat):Int)=true from rfl,Bool.not_true,cond_false,wr_succ (show i<1048577 by omega)] at h
  exact .stop (Z6_ok _) F6sy h K
 |r+1,k,m+1,t,hk,hm,K=>by
  obtain⟨a,b,x⟩:=t
  have h:=ffar_step1 () i k a b x m M
  rw[show ile 71 (k:Int)=false from ile_f (by omega),Bool.not_false,cond_true,wr_in (n:=400+(i:Int)) (by omega) (by omega),wr_in (n:=50+(k:Int)) (by omega) (by omega)] at h
  rw[ffarR] at K
  have K2:=ffar_in i hi M r (k+1) m (ffarS i k (a,b,x)) (by omega) (by omega) K
  clear K
  have p17:(60000:Int)-0<2 ^ 17:=by decide
  unfold ffarS at K2
  dsimp only at K2
  exact .stop (Z6_ok _) F6sy h (far_srch i k hi (by omega) a b x m M 17 1048575 0 60000 (by omega) (by omega) (by omega) (by omega) p17 K2)
theorem ffar_out:∀ (r i m:Nat) (t:En3),i+r=21→r<m→Ans F6 (ffarI0 () i t.1 t.2.1 t.2.2 m) (.tup [.int .i64 (ffarA r i t).1,.int .i64 (ffarA r i t).2.1,.int .i64 (bif (ffarA r i t).2.2 then 0 else 9)])
 |0,i,m+1,t,hi,hm=>by
  obtain⟨a,b,x⟩:=t
  have h:=ffar_step0 () i a b x m
  have e:i=21:=by omega
  subst e
  simp only[show ile 21 ((21:Nat):Int)=true from rfl,Bool.not_true,cond_false,ieq_self,cond_true] at h
  cases x<;>exact .done (Z6_ok _) F6sy h rfl
 |r+1,i,m+1,t,hi,hm=>by
  have h:=ffar_step0 () i t.1 t.2.1 t.2.2 m
  rw[show ile 21 (i:Int)=false from ile_f (by omega),Bool.not_false,cond_true] at h
  exact .stop (Z6_ok _) F6sy h (ffar_in i (by omega) m 71 0 1048575 t (by omega) (by omega) (ffar_out r (i+1) m _ (by omega) (by omega)))
theorem ffar_fin:ffarA 21 0 (0,0,false)=(10000,14491,true):=by kernel_rfl
theorem ffar_ans:Ans F6 (startC F6 21 [tSt.av S0,tNi.av N0,.vs tRe true []] 40) (.tup [.int .i64 10000,.int .i64 14491,.int .i64 0]):=by
 have h:=ffar_out 21 0 1048575 (0,0,false) (by omega) (by omega)
 rw[ffar_fin] at h
 exact .stop (Z6_ok _) F6sy (ffar_start ()) h
end Go.Proofs.YtpnipaimaohiaaaGreatDoor


set_option maxRecDepth 100000
namespace Go.Proofs.YtpnipaimaohiaaaGreatDoor
open Go Go.Eng
noncomputable def frst (a b q:Int):Bool:=ieq q 169000000&&ieq a 400&&ieq b 50
noncomputable def LY:List Said:=[(40,con2 tP tP (fun l s=>bif ieq s.1 100000000 then lcO l.1 l.2.1 s.1&&snO l.1 l.2.1 s.1 else (bif frst l.1 l.2.1 s.1 then lcO l.1 l.2.1 s.1&&!snO l.1 l.2.1 s.1 else lcO l.1 l.2.1 s.1)) (fun l s=>bif ieq s.1 100000000 then .bool true else .bool (bif frst l.1 l.2.1 s.1 then false else snO l.1 l.2.1 s.1)))]
theorem LY_ok:∀ e∈LY,SaidG Tryz.prog F2.glob e:=
 saids_cons (SaidOK.g f2 xf2 nf2 tabs_ok.mix (fun _ _ h=>con2_spec (t:=tP) (u:=tP) (fun l s hc=>by
  dsimp only at hc⊢
  cases e:ieq s.1 100000000 with
  |true=>
   rw[e,cond_true,Bool.and_eq_true,lcO_eq,snO_eq] at hc
   rw[cond_true]
   have:=lrea_call l s hc.1
   rw[hc.2] at this
   exact this
  | false =>
   rw[e,cond_false] at hc
   rw[cond_false]
   cases e2:frst l.1 l.2.1 s.1 with
   |true=>
    rw[e2,cond_true,Bool.and_eq_true,lcO_eq,snO_eq] at hc
    rw[cond_true]
    have:=lrea_call l s hc.1
    rw[show seenF l.1 l.2.1 s.1=false by simpa using hc.2] at this
    exact this
   |false=>
    rw[e2,cond_false,lcO_eq] at hc
    rw[cond_false,snO_eq]
    exact lrea_call l s hc) h) rfl) saids_nil
noncomputable def F8:Env:=F6.say (under (xOf LY))
theorem f8:EnvOK Tryz.prog F8:=f6.say _
theorem nf8:NameOK F8:=nf6.say _
theorem xf8:ExtOK Tryz.prog F8:=xf6.sayL LY_ok
theorem F8sy:F8.sy=true:=rfl
noncomputable def Z8 (l:List Nat):Sy:={ (Z6 []).on LY l with pl:=false }
theorem Z8_ok (l:List Nat):(Z8 l).ok F8:=Sy.on_ok (E:=F6) (L:=LY) (hd:=l) (Z6_ok _)
end Go.Proofs.YtpnipaimaohiaaaGreatDoor

