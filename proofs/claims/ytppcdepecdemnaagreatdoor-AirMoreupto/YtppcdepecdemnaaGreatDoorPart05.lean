/-
  THE ENGINE: one more part of it.
-/
import Derived.Test.YtppcdepecdemnaaGreatDoorPart04
import Derived.Test.YtppcdepecdemnaaGreatDoorPart03
set_option linter.unusedSectionVars false
set_option linter.unusedSimpArgs false
set_option linter.unusedVariables false
set_option maxRecDepth 100000
namespace Go.Proofs.YtppcdepecdemnaaGreatDoor
open Go Go.Eng
noncomputable def pcolk0 (z0:tSt.den):AV:=(.agg [(.vs tGr (z0.1.1) (z0.1.2)),(iI (z0.2.1.1)),(iI (z0.2.1.2.1)),(iI (z0.2.2.1.1)),(iI (z0.2.2.1.2.1))])
noncomputable def pcolk4 (z0:tNi.den):AV:=(.agg [(iI (z0.1.1)),(iI (z0.1.2.1)),(iI (z0.2.1)),(iI (z0.2.2.1)),(iI (z0.2.2.2.1))])
noncomputable def pcolk20 (z0:tSt.den) (z1:tNi.den):AV:=(.agg [(.vs tGr (z0.1.1) (z0.1.2)),(iI (z0.2.1.1)),(iI (z0.2.1.2.1)),(iI (z0.2.2.1.1)),(iI (z0.2.2.1.2.1)),(iI (z1.1.1)),(iI (z1.1.2.1)),(iI (z1.2.1)),(iI (z1.2.2.1)),(iI (z1.2.2.2.1)),.nils])
noncomputable def pcolg9 (s:tSt.den) (n:tNi.den) (l:(Ty.sl tRe).den):List (Nat×AV):=[(0,(pcolk0 s)),(1,(pcolk4 n)),(2,(.vs tRe (l.1) (l.2))),(3,(pP 10 0)),(4,(pP 11 0)),(6,.nilp),(10,(pcolk0 s)),(11,(pcolk4 n)),(12,(pcolk20 s n)),(13,(pP 12 0)),(14,(.vs tRe (l.1) (l.2))),(15,(iI (Int.ofNat l.2.length))),(7,(pP 12 0))]
noncomputable def pcolQ0 (s:tSt.den) (n:tNi.den) (l:(Ty.sl tRe).den):Tmps:=(tmOf 37 (pcolg9 s n l++[(16,(iI 0))]))
noncomputable def pcolQ1 (s:tSt.den) (n:tNi.den) (l:(Ty.sl tRe).den):Tmps:=(tmOf 41 [(0,(pcolk0 s)),(1,(pcolk4 n)),(2,(.vs tRe (l.1) (l.2))),(3,(.sl 4 0 (1) (1) 1)),(4,(pP 8 0)),(5,(pP 9 0)),(8,.nilp),(9,(iI 0)),(10,(iI ((cknS s n l.2).1))),(11,(iI ((cknS s n l.2).2))),(15,(.tup [(iI ((cknS s n l.2).1)),(iI ((cknS s n l.2).2))])),(16,(pcolk0 s)),(17,(pcolk4 n)),(18,(.vs tRe (l.1) (l.2))),(19,(.tup [(iI ((cknS s n l.2).1)),(iI ((cknS s n l.2).2))])),(20,(iI ((cknS s n l.2).1))),(21,(iI ((cknS s n l.2).2))),(22,(iI ((cknS s n l.2).2))),(23,(.bool false)),(25,(.sl 4 0 (1) (1) 1)),(26,(iI 1)),(27,(iI 1)),(28,(.bool false)),(37,(pcolk0 s)),(38,(pcolk4 n)),(39,(.vs tRe (l.1) (l.2)))])
noncomputable def pcolk1 (z0:tSt.den):AO:=(cF [(.vs tGr (z0.1.1) (z0.1.2)),(iI (z0.2.1.1)),(iI (z0.2.1.2.1)),(iI (z0.2.2.1.1)),(iI (z0.2.2.1.2.1))])
noncomputable def pcolk3 (z0:tNi.den):AO:=(cF [(iI (z0.1.1)),(iI (z0.1.2.1)),(iI (z0.2.1)),(iI (z0.2.2.1)),(iI (z0.2.2.2.1))])
noncomputable def pcolk18 (z0:tP.den):AO:=(.cells true [(iI (z0.1)),(iI (z0.2.1))])
noncomputable def pcolk16 (z0:tP.den):AO:=(cF [(.csl [(iI (z0.1)),(iI (z0.2.1))] 2)])
noncomputable def pcolQ2 (s:tSt.den) (n:tNi.den) (p:tP.den):Hp:=(hpOf 8 [(0,(pcolk1 s)),(1,(pcolk3 n)),(2,(cF [(iI (p.1)),(iI (p.2.1))])),(3,(pcolk18 p)),(5,(cF [(iI (-30000))])),(6,(cF [(iI 30000)])),(7,(pcolk16 p))])
noncomputable def pcolQ3 (s:tSt.den) (n:tNi.den) (p:tP.den):Hp:=(hpOf 5 [(0,(pcolk1 s)),(1,(pcolk3 n)),(2,(cF [(iI (p.1)),(iI (p.2.1))]))])
noncomputable def pcolg0 (s:tSt.den) (n:tNi.den) (l:(Ty.sl tRe).den) (p:tP.den):List (Nat×AV):=[(0,(pcolk0 s)),(1,(pcolk4 n)),(2,(.vs tRe (l.1) (l.2))),(3,(.agg [(iI (p.1)),(iI (p.2.1))])),(4,(.bool false)),(5,(pP 0 0)),(6,(pP 1 0)),(8,(pP 2 0)),(10,(iI 0)),(11,(iI 0))]
noncomputable def pcolg6 (s:tSt.den) (n:tNi.den) (l:(Ty.sl tRe).den):List (Nat×AV):=[(19,(pcolk0 s)),(20,(pcolk4 n)),(21,(.vs tRe (l.1) (l.2))),(22,(pP 2 0))]
noncomputable def pcolQ4 (s:tSt.den) (n:tNi.den) (l:(Ty.sl tRe).den) (p:tP.den):Tmps:=(tmOf 54 (pcolg0 s n l p++pcolg6 s n l++[(23,(iI (p.1))),(24,(pP 2 1))]))
noncomputable def pcolQ5 (s:tSt.den) (n:tNi.den) (l:(Ty.sl tRe).den) (p:tP.den):Tmps:=(tmOf 54 (pcolg0 s n l p++pcolg6 s n l++[(23,(iI (p.1))),(24,(pP 2 1)),(25,(iI (p.2.1)))]))
noncomputable def pcolQ6 (s:tSt.den) (n:tNi.den) (l:(Ty.sl tRe).den) (p:tP.den):Tmps:=(tmOf 54 (pcolg0 s n l p++pcolg6 s n l))
noncomputable def pcolQ7 (s:tSt.den) (n:tNi.den) (l:(Ty.sl tRe).den) (p:tP.den):Tmps:=(tmOf 54 (pcolg0 s n l p++pcolg6 s n l++[(23,(iI (p.1)))]))
noncomputable def pcolQ8 (s:tSt.den) (n:tNi.den) (l:(Ty.sl tRe).den) (p:tP.den):Tmps:=(tmOf 54 (pcolg0 s n l p++[(19,(pcolk0 s))]))
noncomputable def pcolQ9 (s:tSt.den) (n:tNi.den) (l:(Ty.sl tRe).den) (p:tP.den):Tmps:=(tmOf 54 (pcolg0 s n l p++[(19,(pcolk0 s)),(20,(pcolk4 n))]))
noncomputable def pcolQ10 (s:tSt.den) (n:tNi.den) (l:(Ty.sl tRe).den) (p:tP.den):Tmps:=(tmOf 54 (pcolg0 s n l p))
noncomputable def pcolQ11 (s:tSt.den) (n:tNi.den) (l:(Ty.sl tRe).den) (p:tP.den):Tmps:=(tmOf 54 (pcolg0 s n l p++pcolg6 s n l++[(23,(iI (p.1))),(24,(pP 2 1)),(25,(iI (p.2.1))),(26,(.sl 3 0 (2) (2) 1)),(27,(.fn 58 [] [(pP 5 0),(pP 6 0),(pP 7 0)])),(28,(.sl 4 0 (1) (1) 1))]))
noncomputable def pcolk17:AO:=(cF [(.fn 58 [] [(pP 5 0),(pP 6 0),(pP 7 0)])])
noncomputable def pcolk9 (z0:tSt.den) (z1:tNi.den):AO:=(cF [(.vs tGr (z0.1.1) (z0.1.2)),(iI (z0.2.1.1)),(iI (z0.2.1.2.1)),(iI (z0.2.2.1.1)),(iI (z0.2.2.1.2.1)),(iI (z1.1.1)),(iI (z1.1.2.1)),(iI (z1.2.1)),(iI (z1.2.2.1)),(iI (z1.2.2.2.1)),.nils])
noncomputable def pcolk10 (z0:tSt.den) (z1:tNi.den) (z2:tP.den) (z3:(Ty.sl tRe).den):Fm:=(.cal [(.tmp 8),(.tmp 9)] (.dr ⟨(pcOf F6 10 [0,1]),opsD (pcOf F6 10 [0,1]).c,3,(opsD (pcOf F6 10 [0,1]).c).toList.drop 11,(fsD (pcOf F6 10 [0,1]).c).drop 11,10,[((pcolQ2 z0 z1 z2),248,(some 8)),((pcolQ3 z0 z1 z2),0,none)],[((opsD (pcOf F6 10 [0,1]).c).getD 6 default,6,32,(pcolQ4 z0 z1 z3 z2),(pcolQ5 z0 z1 z3 z2)),((opsD (pcOf F6 10 [0,1]).c).getD 4 default,4,8,(pcolQ6 z0 z1 z3 z2),(pcolQ7 z0 z1 z3 z2)),((opsD (pcOf F6 10 [0,1]).c).getD 1 default,1,0,(pcolQ8 z0 z1 z3 z2),(pcolQ9 z0 z1 z3 z2)),((opsD (pcOf F6 10 [0,1]).c).getD 0 default,0,0,(pcolQ10 z0 z1 z3 z2),(pcolQ8 z0 z1 z3 z2))],false⟩ ((opsD (pcOf F6 10 [0,1]).c).getD 10 default) ((fsD (pcOf F6 10 [0,1]).c).getD 10 default) (pcolQ11 z0 z1 z3 z2) [] 54 false ⟨40,[]⟩))
noncomputable def pcolg1 (s:tSt.den) (n:tNi.den) (p:tP.den):List (Nat×AO):=[(0,(pcolk1 s)),(1,(pcolk3 n)),(2,(cF [(iI (p.1)),(iI (p.2.1))])),(3,(pcolk18 p)),(5,(cF [(iI (-30000))])),(6,(cF [(iI 30000)])),(7,(pcolk16 p)),(4,(pcolk17)),(8,(pcolk1 s)),(9,(pcolk3 n)),(10,(pcolk1 s)),(11,(pcolk3 n))]
noncomputable def pcolI0 (s:tSt.den) (n:tNi.den) (l:(Ty.sl tRe).den) (p:tP.den) (x130:Nat):Cfg:=⟨.ex (pcOf F6 53 [0,0,1,0,1,1]) ⟨(pcolQ0 s n l),(hpOf 13 (pcolg1 s n p++[(12,(pcolk9 s n))])),[],[],37,false⟩,⟨38,[]⟩,[(.lop (pcOf F6 53 [0,0,1,0,1,1]) 13 (pcolQ0 s n l) x130),(.blk 0),(.seq (pcOf F6 53 [1,1,1])),(.cal [(.tmp 6)] (.op (pcOf F6 27 [0,1,1,1]) 4 (some 40) ((opsOf (pcOf F6 27 [0,1,1,1]).c).toList.drop 4) (pcolQ1 s n l) [] 41 false ⟨39,[]⟩)),(.seq (pcOf F6 27 [1,1,1,1])),(pcolk10 s n p l),(.seq (pcOf F6 10 [1,1])),(.cal [(.tmp 10),(.tmp 11)] .top)]⟩
noncomputable def pcolg10:List (Nat×AV):=[(7,(pP 12 0)),(0,(.yld 20)),(1,(pP 18 0)),(2,(pP 19 0)),(3,(pP 21 0)),(9,(.fn 105 [] [(pP 22 0),(pP 23 0),(pP 24 0)])),(8,(.bool false))]
noncomputable def pcolQ12:Tmps:=(tmOf 24 (pcolg10))
noncomputable def pcolk15 (z0:tP.den) (z1:tNi.den):AV:=(iI (wr .i64 (z0.1-z1.1.1) * wr .i64 (z0.1-z1.1.1)+wr .i64 (z0.2.1-z1.1.2.1) * wr .i64 (z0.2.1-z1.1.2.1)))
noncomputable def pcolk25 (z0:tP.den) (z1:tNi.den):AV:=(iI (ptF (wr .i64 (z0.1-z1.1.1)) (wr .i64 (z0.2.1-z1.1.2.1))))
noncomputable def pcolg2 (s:tSt.den) (n:tNi.den) (l:(Ty.sl tRe).den) (p:tP.den):List (Nat×AV):=[(19,(pcolk0 s)),(20,(pcolk4 n)),(21,(.vs tRe (l.1) (l.2))),(22,(pP 2 0)),(23,(iI (p.1))),(24,(pP 2 1)),(25,(iI (p.2.1))),(26,(.sl 3 0 (2) (2) 1)),(27,(.fn 58 [] [(pP 5 0),(pP 6 0),(pP 7 0)])),(28,(.sl 4 0 (1) (1) 1)),(12,(pP 12 0)),(13,(iI 0)),(18,(.tup [(pP 12 0),(iI 0)])),(29,(.tup [(pP 12 0),(iI 0)])),(30,(pP 12 0)),(31,(iI 0)),(32,(iI 0)),(33,(.bool false)),(35,(pP 12 0)),(36,(.agg [(iI (p.1)),(iI (p.2.1))])),(37,(.agg [(pcolk15 p n),(pcolk25 p n)])),(38,(pP 12 0)),(39,(.bool false))]
noncomputable def pcolQ13 (s:tSt.den) (n:tNi.den) (l:(Ty.sl tRe).den) (p:tP.den):Tmps:=(tmOf 54 (pcolg0 s n l p++pcolg2 s n l p++[(14,(pP 15 0)),(15,(pP 16 0)),(16,(pP 17 0)),(40,(.fn 54 [] [(pP 18 0),(pP 19 0)]))]))
noncomputable def pcolk26 (z0:tSt.den) (z1:tNi.den):AV:=(iI ((z0.1.2.getD (Int.toNat z1.2.1) tGr.dflt).2.1.1))
noncomputable def pcolk7 (z0:tSt.den) (z1:tNi.den):AV:=(.agg [(pcolk26 z0 z1),(iI ((z0.1.2.getD (Int.toNat z1.2.1) tGr.dflt).2.1.2.1))])
noncomputable def pcolk6 (z0:tSt.den) (z1:tNi.den):AV:=(iI (wr .i64 (wr .i64 ((z0.1.2.getD (Int.toNat z1.2.1) tGr.dflt).2.1.2.1-(z0.1.2.getD (Int.toNat z1.2.1) tGr.dflt).2.1.1)+1)))
noncomputable def pcolg8:List (Nat×AV):=[(0,(.yld 25)),(1,(pP 22 0)),(2,(pP 23 0)),(3,(pP 24 0))]
noncomputable def pcolQ14 (s:tSt.den) (n:tNi.den):Tmps:=(tmOf 33 (pcolg8++[(7,(pcolk7 s n)),(8,(pcolk6 s n)),(9,(iI 0))]))
noncomputable def pcolk2 (z0:tP.den) (z1:tNi.den):AO:=(cF [(pcolk15 z0 z1),(pcolk25 z0 z1)])
noncomputable def pcolk5 (z0:tSt.den) (z1:tNi.den):AO:=(cF [(pcolk26 z0 z1),(iI ((z0.1.2.getD (Int.toNat z1.2.1) tGr.dflt).2.1.2.1))])
noncomputable def pcolk13 (z0:tSt.den):AO:=(cF [(iI (z0.2.2.1.1)),(iI (z0.2.2.1.2.1))])
noncomputable def pcolk22:HD:=⟨25,24,39,(pcolQ12),#[10],(pcOf F6 54 [0,0,1,1,0,1]),(pcOf F6 54 [1,0,1,1,0,1])⟩
noncomputable def pcolk11 (z0:tSt.den) (z1:tNi.den) (z2:(Ty.sl tRe).den) (z3:tP.den):HD:=⟨20,54,40,(pcolQ13 z0 z1 z2 z3),#[41],(pcOf F6 10 [0,0,1,0,1,1,1,1,1]),(pcOf F6 10 [1,0,1,0,1,1,1,1,1])⟩
noncomputable def pcolg3 (s:tSt.den) (n:tNi.den) (p:tP.den):List (Nat×AO):=[(12,(pcolk9 s n)),(13,(cF [(iI (p.1)),(iI (p.2.1))])),(14,(pcolk2 p n)),(18,(cF [(pP 12 0)])),(19,(cF [(.bool false)])),(21,(cF [(.yld 20)])),(22,(pcolk5 s n)),(23,(pcolk13 s)),(24,(cF [(.fn 38 [] [])])),(26,(pcolk5 s n)),(15,(pcolk2 p n))]
noncomputable def pcolI1 (s:tSt.den) (n:tNi.den) (l:(Ty.sl tRe).den) (p:tP.den) (x3:Int) (x62:Bool) (x63:Bool) (x124:Nat):Cfg:=⟨.ex (pcOf F6 105 [0,0,1]) ⟨(tmOf 33 (pcolg8++[(7,(pcolk7 s n)),(8,(pcolk6 s n)),(9,(iI x3))])),(hpOf 27 (pcolg1 s n p++pcolg3 s n p++[(16,(cF [(.bool x62)])),(17,(cF [(.bool x63)]))])),[],[⟨false,.normal⟩,⟨false,.normal⟩],33,false⟩,⟨38,[(pcolk22),(pcolk11 s n l p)]⟩,[(.lop (pcOf F6 105 [0,0,1]) 27 (pcolQ14 s n) x124),(.blk 0),(.cal [] (.rng (pcolQ12) [] 24 false ⟨39,[(pcolk11 s n l p)]⟩)),(.blk 0),(.cal [] (.rng (pcolQ13 s n l p) [] 54 false ⟨40,[]⟩)),(.blk 0),(.seq (pcOf F6 10 [1,1,1,1,1,1])),(.cal [(.tmp 10),(.tmp 11)] .top)]⟩
noncomputable def pcolk8 (z0:tSt.den) (z1:tNi.den) (z2:Nat):AO:=(cF [(.vs tGr (z0.1.1) (z0.1.2)),(iI (z0.2.1.1)),(iI (z0.2.1.2.1)),(iI (z0.2.2.1.1)),(iI (z0.2.2.1.2.1)),(iI (z1.1.1)),(iI (z1.1.2.1)),(iI (z1.2.1)),(iI (z1.2.2.1)),(iI (z1.2.2.2.1)),(.sl 13 0 z2 z2 6)])
noncomputable def pcolI2 (s:tSt.den) (n:tNi.den) (l:(Ty.sl tRe).den) (p:tP.den) (x38:Int) (x91:Nat) (x93:List AV) (x133:Nat):Cfg:=⟨.ex (pcOf F6 53 [0,0,1,0,1,1]) ⟨(tmOf 37 (pcolg9 s n l++[(16,(iI x38))])),(hpOf 14 (pcolg1 s n p++[(12,(pcolk8 s n x91)),(13,(cF x93))])),[],[],37,false⟩,⟨38,[]⟩,[(.lop (pcOf F6 53 [0,0,1,0,1,1]) 13 (pcolQ0 s n l) x133),(.blk 0),(.seq (pcOf F6 53 [1,1,1])),(.cal [(.tmp 6)] (.op (pcOf F6 27 [0,1,1,1]) 4 (some 40) ((opsOf (pcOf F6 27 [0,1,1,1]).c).toList.drop 4) (pcolQ1 s n l) [] 41 false ⟨39,[]⟩)),(.seq (pcOf F6 27 [1,1,1,1])),(pcolk10 s n p l),(.seq (pcOf F6 10 [1,1])),(.cal [(.tmp 10),(.tmp 11)] .top)]⟩
noncomputable def pcolk19 (z0:tSt.den):AV:=(.agg [(iI (z0.2.2.1.1)),(iI (z0.2.2.1.2.1))])
noncomputable def pcolk14 (z0:tSt.den):AV:=(iI (wr .i64 (wr .i64 (z0.2.2.1.2.1-z0.2.2.1.1)+1)))
noncomputable def pcolg5 (s:tSt.den) (n:tNi.den):List (Nat×AV):=[(7,(pcolk7 s n)),(8,(pcolk6 s n)),(10,(.bool true)),(12,(pcolk19 s)),(13,(pcolk14 s))]
noncomputable def pcolQ15 (s:tSt.den) (n:tNi.den) (y0:Int):Tmps:=(tmOf 33 (pcolg8++pcolg5 s n++[(5,(iI y0)),(9,(iI y0)),(11,(iI y0)),(14,(iI 0))]))
noncomputable def pcolk21:PC:=(pcOf F6 105 [0,0,1,1,0,0,1,1,0,0,1])
noncomputable def pcolI3 (s:tSt.den) (n:tNi.den) (l:(Ty.sl tRe).den) (p:tP.den) (x0:Int) (x10:Int) (x69:Bool) (x70:Bool) (x140:Nat) (x145:Nat):Cfg:=⟨.ex (pcolk21) ⟨(tmOf 33 (pcolg8++pcolg5 s n++[(5,(iI x0)),(9,(iI x0)),(11,(iI x0)),(14,(iI x10))])),(hpOf 28 (pcolg1 s n p++pcolg3 s n p++[(16,(cF [(.bool x69)])),(17,(cF [(.bool x70)])),(27,(pcolk13 s))])),[],[⟨false,.normal⟩,⟨false,.normal⟩],33,false⟩,⟨38,[(pcolk22),(pcolk11 s n l p)]⟩,[(.lop (pcolk21) 28 (pcolQ15 s n x0) x140),(.blk 2),(.blk 1),(.seq (pcOf F6 105 [1,1,1,0,0,1])),(.lop (pcOf F6 105 [0,0,1]) 27 (pcolQ14 s n) x145),(.blk 0),(.cal [] (.rng (pcolQ12) [] 24 false ⟨39,[(pcolk11 s n l p)]⟩)),(.blk 0),(.cal [] (.rng (pcolQ13 s n l p) [] 54 false ⟨40,[]⟩)),(.blk 0),(.seq (pcOf F6 10 [1,1,1,1,1,1])),(.cal [(.tmp 10),(.tmp 11)] .top)]⟩
noncomputable def pcolg11:List (Nat×AV):=[(7,(pP 12 0)),(8,(.bool false)),(0,(.yld 21)),(1,(pP 19 0)),(2,(pP 20 0)),(3,(pP 22 0)),(9,(.fn 105 [] [(pP 23 0),(pP 24 0),(pP 25 0)]))]
noncomputable def pcolQ16:Tmps:=(tmOf 24 (pcolg11))
noncomputable def pcolQ17 (s:tSt.den) (n:tNi.den) (l:(Ty.sl tRe).den) (p:tP.den):Tmps:=(tmOf 54 (pcolg0 s n l p++pcolg2 s n l p++[(14,(pP 16 0)),(15,(pP 17 0)),(16,(pP 18 0)),(40,(.fn 54 [] [(pP 19 0),(pP 20 0)]))]))
noncomputable def pcolg7:List (Nat×AV):=[(0,(.yld 26)),(1,(pP 23 0)),(2,(pP 24 0)),(3,(pP 25 0))]
noncomputable def pcolQ18 (s:tSt.den) (n:tNi.den):Tmps:=(tmOf 33 (pcolg7++[(7,(pcolk7 s n)),(8,(pcolk6 s n)),(9,(iI 0))]))
noncomputable def pcolk23:HD:=⟨26,24,39,(pcolQ16),#[10],(pcOf F6 54 [0,0,1,1,0,1]),(pcOf F6 54 [1,0,1,1,0,1])⟩
noncomputable def pcolk12 (z0:tSt.den) (z1:tNi.den) (z2:(Ty.sl tRe).den) (z3:tP.den):HD:=⟨21,54,40,(pcolQ17 z0 z1 z2 z3),#[41],(pcOf F6 10 [0,0,1,0,1,1,1,1,1]),(pcOf F6 10 [1,0,1,0,1,1,1,1,1])⟩
noncomputable def pcolg4 (n:tNi.den) (p:tP.den) (s:tSt.den):List (Nat×AO):=[(15,(pcolk2 p n)),(14,(cF [(iI (p.1)),(iI (p.2.1))])),(16,(pcolk2 p n)),(19,(cF [(pP 12 0)])),(20,(cF [(.bool false)])),(22,(cF [(.yld 21)])),(23,(pcolk5 s n)),(24,(pcolk13 s)),(25,(cF [(.fn 38 [] [])])),(27,(pcolk5 s n))]
noncomputable def pcolI4 (s:tSt.den) (n:tNi.den) (l:(Ty.sl tRe).den) (p:tP.den) (x3:Int) (x56:Nat) (x58:List AV) (x65:Bool) (x66:Bool) (x127:Nat):Cfg:=⟨.ex (pcOf F6 105 [0,0,1]) ⟨(tmOf 33 (pcolg7++[(7,(pcolk7 s n)),(8,(pcolk6 s n)),(9,(iI x3))])),(hpOf 28 (pcolg1 s n p++pcolg4 n p s++[(12,(pcolk8 s n x56)),(13,(cF x58)),(17,(cF [(.bool x65)])),(18,(cF [(.bool x66)]))])),[],[⟨false,.normal⟩,⟨false,.normal⟩],33,false⟩,⟨38,[(pcolk23),(pcolk12 s n l p)]⟩,[(.lop (pcOf F6 105 [0,0,1]) 28 (pcolQ18 s n) x127),(.blk 0),(.cal [] (.rng (pcolQ16) [] 24 false ⟨39,[(pcolk12 s n l p)]⟩)),(.blk 0),(.cal [] (.rng (pcolQ17 s n l p) [] 54 false ⟨40,[]⟩)),(.blk 0),(.seq (pcOf F6 10 [1,1,1,1,1,1])),(.cal [(.tmp 10),(.tmp 11)] .top)]⟩
noncomputable def pcolQ19:Tmps:=(tmOf 29 [(0,(.yld 32)),(1,(pP 30 0)),(2,(pP 31 0)),(6,(pP 12 0)),(7,(pP 12 0)),(8,(pP 12 10)),(9,.nils),(10,(iI 0)),(11,(iI 0))])
noncomputable def pcolQ20 (y0:Int) (y1:Int):Tmps:=(tmOf 24 (pcolg10++[(4,(pP 29 0)),(10,(.ifc 98 (.agg [(iI y0),(iI y1)]))),(11,(pP 12 0)),(12,(.bool false)),(13,(.fn 79 [] [(pP 30 0),(pP 31 0)]))]))
noncomputable def pcolk24:PC:=(pcOf F6 105 [0,1,0,0,1,1,0,0,1,1,0,0,1,1,0,0,1])
noncomputable def pcolI5 (s:tSt.den) (n:tNi.den) (l:(Ty.sl tRe).den) (p:tP.den) (x60:Bool) (x61:Bool) (x71:Int) (x72:Int) (x130:Nat) (x183:Int) (x184:Int) (x267:Nat) (x272:Nat):Cfg:=⟨.ex (pcOf F6 79 [0,0,1]) ⟨(pcolQ19),(hpOf 33 (pcolg1 s n p++pcolg3 s n p++[(16,(cF [(.bool x60)])),(17,(cF [(.bool x61)])),(27,(pcolk13 s)),(28,(cF [(iI x71),(iI x72)])),(29,(cF [(.ifc 98 (.agg [(iI x71),(iI x72)]))])),(30,(cF [(pP 12 0)])),(31,(cF [(.bool false)]))])),[],[⟨false,.normal⟩,⟨false,.normal⟩],29,false⟩,⟨38,[⟨32,24,39,(pcolQ20 x71 x72),#[14,15],(pcOf F6 54 [0,0,1,0,0,1,0,1,1,0,1]),(pcOf F6 54 [1,0,1,0,0,1,0,1,1,0,1])⟩,(pcolk11 s n l p)]⟩,[(.lop (pcOf F6 79 [0,0,1]) 33 (pcolQ19) x130),(.blk 0),(.cal [] (.rng (pcolQ20 x71 x72) [] 24 true ⟨39,[(pcolk11 s n l p)]⟩)),(.blk 2),(.seq (pcOf F6 54 [1,0,1,0,1,1,0,1])),(.blk 1),(.rnd [] (.op (pcolk24) 13 (some 29) ((opsOf (pcolk24).c).toList.drop 13) (tmOf 33 (pcolg8++pcolg5 s n++[(5,(iI x183)),(6,(iI x184)),(9,(iI x183)),(11,(iI x183)),(14,(iI x184)),(15,(.bool true)),(16,(iI x184)),(17,(.yld 25)),(18,(.fn 38 [] [])),(19,(pP 22 0)),(20,(pcolk26 s n)),(21,(iI x183)),(22,(iI x71)),(23,(pP 23 0)),(24,(iI (s.2.2.1.1))),(25,(iI x184)),(26,(iI x72)),(27,(.agg [(iI x71),(iI x72)])),(28,(.ifc 98 (.agg [(iI x71),(iI x72)])))])) [] 33 false ⟨38,[(pcolk22),(pcolk11 s n l p)]⟩)),(.seq (pcOf F6 105 [1,1,0,0,1,1,0,0,1,1,0,0,1,1,0,0,1])),(.blk 3),(.seq (pcOf F6 105 [1,1,1,0,0,1,1,0,0,1,1,0,0,1])),(.lop (pcolk21) 28 (pcolQ15 s n x183) x267),(.blk 2),(.blk 1),(.seq (pcOf F6 105 [1,1,1,0,0,1])),(.lop (pcOf F6 105 [0,0,1]) 27 (pcolQ14 s n) x272),(.blk 0),(.cal [] (.rng (pcolQ12) [] 24 false ⟨39,[(pcolk11 s n l p)]⟩)),(.blk 0),(.cal [] (.rng (pcolQ13 s n l p) [] 54 false ⟨40,[]⟩)),(.blk 0),(.seq (pcOf F6 10 [1,1,1,1,1,1])),(.cal [(.tmp 10),(.tmp 11)] .top)]⟩
noncomputable def pcolQ21 (s:tSt.den) (n:tNi.den) (y0:Int):Tmps:=(tmOf 33 (pcolg7++pcolg5 s n++[(5,(iI y0)),(9,(iI y0)),(11,(iI y0)),(14,(iI 0))]))
noncomputable def pcolI6 (s:tSt.den) (n:tNi.den) (l:(Ty.sl tRe).den) (p:tP.den) (x0:Int) (x10:Int) (x63:Nat) (x65:List AV) (x72:Bool) (x73:Bool) (x143:Nat) (x148:Nat):Cfg:=⟨.ex (pcolk21) ⟨(tmOf 33 (pcolg7++pcolg5 s n++[(5,(iI x0)),(9,(iI x0)),(11,(iI x0)),(14,(iI x10))])),(hpOf 29 (pcolg1 s n p++pcolg4 n p s++[(12,(pcolk8 s n x63)),(13,(cF x65)),(17,(cF [(.bool x72)])),(18,(cF [(.bool x73)])),(28,(pcolk13 s))])),[],[⟨false,.normal⟩,⟨false,.normal⟩],33,false⟩,⟨38,[(pcolk23),(pcolk12 s n l p)]⟩,[(.lop (pcolk21) 29 (pcolQ21 s n x0) x143),(.blk 2),(.blk 1),(.seq (pcOf F6 105 [1,1,1,0,0,1])),(.lop (pcOf F6 105 [0,0,1]) 28 (pcolQ18 s n) x148),(.blk 0),(.cal [] (.rng (pcolQ16) [] 24 false ⟨39,[(pcolk12 s n l p)]⟩)),(.blk 0),(.cal [] (.rng (pcolQ17 s n l p) [] 54 false ⟨40,[]⟩)),(.blk 0),(.seq (pcOf F6 10 [1,1,1,1,1,1])),(.cal [(.tmp 10),(.tmp 11)] .top)]⟩
noncomputable def pcolQ22 (y0:Int) (y1:Int):Tmps:=(tmOf 24 (pcolg11++[(4,(pP 30 0)),(10,(.ifc 98 (.agg [(iI y0),(iI y1)]))),(11,(pP 12 0)),(12,(.bool false)),(13,(.fn 79 [] [(pP 31 0),(pP 32 0)]))]))
noncomputable def pcolI7 (s:tSt.den) (n:tNi.den) (l:(Ty.sl tRe).den) (p:tP.den) (x0:Nat) (x2:Int) (x3:Int) (x58:List AV) (x65:Bool) (x66:Bool) (x76:Int) (x77:Int) (x137:Nat) (x190:Int) (x191:Int) (x274:Nat) (x279:Nat):Cfg:=⟨.ex (pcOf F6 79 [0,0,1]) ⟨(tmOf 29 [(0,(.yld 33)),(1,(pP 31 0)),(2,(pP 32 0)),(6,(pP 12 0)),(7,(pP 12 0)),(8,(pP 12 10)),(9,(.sl 13 0 x0 x0 6)),(10,(iI x2)),(11,(iI x3))]),(hpOf 34 (pcolg1 s n p++pcolg4 n p s++[(12,(pcolk8 s n x0)),(13,(cF x58)),(17,(cF [(.bool x65)])),(18,(cF [(.bool x66)])),(28,(pcolk13 s)),(29,(cF [(iI x76),(iI x77)])),(30,(cF [(.ifc 98 (.agg [(iI x76),(iI x77)]))])),(31,(cF [(pP 12 0)])),(32,(cF [(.bool false)]))])),[],[⟨false,.normal⟩,⟨false,.normal⟩],29,false⟩,⟨38,[⟨33,24,39,(pcolQ22 x76 x77),#[14,15],(pcOf F6 54 [0,0,1,0,0,1,0,1,1,0,1]),(pcOf F6 54 [1,0,1,0,0,1,0,1,1,0,1])⟩,(pcolk12 s n l p)]⟩,[(.lop (pcOf F6 79 [0,0,1]) 34 (tmOf 29 [(0,(.yld 33)),(1,(pP 31 0)),(2,(pP 32 0)),(6,(pP 12 0)),(7,(pP 12 0)),(8,(pP 12 10)),(9,(.sl 13 0 x0 x0 6)),(10,(iI x2)),(11,(iI 0))]) x137),(.blk 0),(.cal [] (.rng (pcolQ22 x76 x77) [] 24 true ⟨39,[(pcolk12 s n l p)]⟩)),(.blk 2),(.seq (pcOf F6 54 [1,0,1,0,1,1,0,1])),(.blk 1),(.rnd [] (.op (pcolk24) 13 (some 29) ((opsOf (pcolk24).c).toList.drop 13) (tmOf 33 (pcolg7++pcolg5 s n++[(5,(iI x190)),(6,(iI x191)),(9,(iI x190)),(11,(iI x190)),(14,(iI x191)),(15,(.bool true)),(16,(iI x191)),(17,(.yld 26)),(18,(.fn 38 [] [])),(19,(pP 23 0)),(20,(pcolk26 s n)),(21,(iI x190)),(22,(iI x76)),(23,(pP 24 0)),(24,(iI (s.2.2.1.1))),(25,(iI x191)),(26,(iI x77)),(27,(.agg [(iI x76),(iI x77)])),(28,(.ifc 98 (.agg [(iI x76),(iI x77)])))])) [] 33 false ⟨38,[(pcolk23),(pcolk12 s n l p)]⟩)),(.seq (pcOf F6 105 [1,1,0,0,1,1,0,0,1,1,0,0,1,1,0,0,1])),(.blk 3),(.seq (pcOf F6 105 [1,1,1,0,0,1,1,0,0,1,1,0,0,1])),(.lop (pcolk21) 29 (pcolQ21 s n x190) x274),(.blk 2),(.blk 1),(.seq (pcOf F6 105 [1,1,1,0,0,1])),(.lop (pcOf F6 105 [0,0,1]) 28 (pcolQ18 s n) x279),(.blk 0),(.cal [] (.rng (pcolQ16) [] 24 false ⟨39,[(pcolk12 s n l p)]⟩)),(.blk 0),(.cal [] (.rng (pcolQ17 s n l p) [] 54 false ⟨40,[]⟩)),(.blk 0),(.seq (pcOf F6 10 [1,1,1,1,1,1])),(.cal [(.tmp 10),(.tmp 11)] .top)]⟩
theorem pcol_start (s:tSt.den) (n:tNi.den) (l:(Ty.sl tRe).den) (p:tP.den):adv F6 ({ (Z6 [53,79,105]).flat [13] with nf:=[4] }:Sy) 20000 (startC F6 10 [tSt.av s,tNi.av n,.vs tRe l.1 l.2,tP.av p,.bool false] 40)=(bif !ieq (cknS s n l.2).2 0 then (sI p.2.1 (sI p.1 (sI n.1.1 (sI n.1.2.1 (sI n.2.1 (sI n.2.2.1 (sI n.2.2.2.1 (sI n.1.1 (sI n.1.2.1 (sI n.2.1 (sI n.2.2.1 (sI n.2.2.2.1 (sB s.1.1 (sV tGr s.1.2 (sI s.2.1.1 (sI s.2.1.2.1 (sI s.2.2.1.1 (sI s.2.2.1.2.1 (sB s.1.1 (sV tGr s.1.2 (sI s.2.1.1 (sI s.2.1.2.1 (sI s.2.2.1.1 (sI s.2.2.1.2.1 (bif !ieq (cknS s n l.2).2 0 then some (.done (.tup [(.int .i64 (0)),(.int .i64 ((cknS s n l.2).2))])) else none))))))))))))))))))))))))) else (bif !ile (-30000) p.1 then (sI p.2.1 (sI p.1 (sI n.1.1 (sI n.1.2.1 (sI n.2.1 (sI n.2.2.1 (sI n.2.2.2.1 (sI n.1.1 (sI n.1.2.1 (sI n.2.1 (sI n.2.2.1 (sI n.2.2.2.1 (sB s.1.1 (sV tGr s.1.2 (sI s.2.1.1 (sI s.2.1.2.1 (sI s.2.2.1.1 (sI s.2.2.1.2.1 (sB s.1.1 (sV tGr s.1.2 (sI s.2.1.1 (sI s.2.1.2.1 (sI s.2.2.1.1 (sI s.2.2.1.2.1 (some (.done (.tup [(.int .i64 (0)),(.int .i64 (7))]))))))))))))))))))))))))))) else (bif !ile p.1 30000 then (sI p.2.1 (sI p.1 (sI n.1.1 (sI n.1.2.1 (sI n.2.1 (sI n.2.2.1 (sI n.2.2.2.1 (sI n.1.1 (sI n.1.2.1 (sI n.2.1 (sI n.2.2.1 (sI n.2.2.2.1 (sB s.1.1 (sV tGr s.1.2 (sI s.2.1.1 (sI s.2.1.2.1 (sI s.2.2.1.1 (sI s.2.2.1.2.1 (sB s.1.1 (sV tGr s.1.2 (sI s.2.1.1 (sI s.2.1.2.1 (sI s.2.2.1.1 (sI s.2.2.1.2.1 (some (.done (.tup [(.int .i64 (0)),(.int .i64 (7))]))))))))))))))))))))))))))) else (bif !ile (-30000) p.2.1 then (sI p.2.1 (sI p.1 (sI n.1.1 (sI n.1.2.1 (sI n.2.1 (sI n.2.2.1 (sI n.2.2.2.1 (sI n.1.1 (sI n.1.2.1 (sI n.2.1 (sI n.2.2.1 (sI n.2.2.2.1 (sB s.1.1 (sV tGr s.1.2 (sI s.2.1.1 (sI s.2.1.2.1 (sI s.2.2.1.1 (sI s.2.2.1.2.1 (sB s.1.1 (sV tGr s.1.2 (sI s.2.1.1 (sI s.2.1.2.1 (sI s.2.2.1.1 (sI s.2.2.1.2.1 (some (.done (.tup [(.int .i64 (0)),(.int .i64 (7))]))))))))))))))))))))))))))) else (bif !ile p.2.1 30000 then (sI p.2.1 (sI p.1 (sI n.1.1 (sI n.1.2.1 (sI n.2.1 (sI n.2.2.1 (sI n.2.2.2.1 (sI n.1.1 (sI n.1.2.1 (sI n.2.1 (sI n.2.2.1 (sI n.2.2.2.1 (sB s.1.1 (sV tGr s.1.2 (sI s.2.1.1 (sI s.2.1.2.1 (sI s.2.2.1.1 (sI s.2.2.1.2.1 (sB s.1.1 (sV tGr s.1.2 (sI s.2.1.1 (sI s.2.1.2.1 (sI s.2.2.1.1 (sI s.2.2.1.2.1 (some (.done (.tup [(.int .i64 (0)),(.int .i64 (7))]))))))))))))))))))))))))))) else some (.stop (pcolI0 s n l p (1048575)))))))):=by kernel_rfl
theorem pcol_step0 (s:tSt.den) (n:tNi.den) (l:(Ty.sl tRe).den) (p:tP.den) (x130:Nat):adv F6 ({ (Z6 [53,79,105]).flat [13] with nf:=[4] }:Sy) 20000 (pcolI0 s n l p (x130+1))=(bif !ile (Int.ofNat l.2.length) 0 then (bif inB 0 l.2.length then (bif nrB (wr .i64 ((l.2.getD (Int.toNat 0) tRe.dflt).1.1-n.1.1)) (wr .i64 ((l.2.getD (Int.toNat 0) tRe.dflt).1.2.1-n.1.2.1)) then (sI n.1.2.1 (sI (l.2.getD (Int.toNat 0) tRe.dflt).1.2.1 (sI n.1.1 (sI (l.2.getD (Int.toNat 0) tRe.dflt).1.1 (sI (l.2.getD (Int.toNat 0) tRe.dflt).1.1 (sI (l.2.getD (Int.toNat 0) tRe.dflt).1.2.1 (sI (l.2.getD (Int.toNat 0) tRe.dflt).1.1 (sI (l.2.getD (Int.toNat 0) tRe.dflt).1.2.1 (sB (l.2.getD (Int.toNat 0) tRe.dflt).2.1 (sB (l.2.getD (Int.toNat 0) tRe.dflt).2.2.1 (sI (l.2.getD (Int.toNat 0) tRe.dflt).1.1 (sI (l.2.getD (Int.toNat 0) tRe.dflt).1.2.1 (sB (l.2.getD (Int.toNat 0) tRe.dflt).2.1 (sB (l.2.getD (Int.toNat 0) tRe.dflt).2.2.1 (some (.stop (pcolI2 s n l p (1) (1) ([AV.int IntKind.i64 (l.2.getD (Int.toNat 0) tRe.dflt).1.1,AV.int IntKind.i64 (l.2.getD (Int.toNat 0) tRe.dflt).1.2.1,AV.bool (l.2.getD (Int.toNat 0) tRe.dflt).2.1,AV.bool (l.2.getD (Int.toNat 0) tRe.dflt).2.2.1,AV.int IntKind.i64 (wr .i64 ((l.2.getD (Int.toNat 0) tRe.dflt).1.1-n.1.1) * wr .i64 ((l.2.getD (Int.toNat 0) tRe.dflt).1.1-n.1.1)+wr .i64 ((l.2.getD (Int.toNat 0) tRe.dflt).1.2.1-n.1.2.1) * wr .i64 ((l.2.getD (Int.toNat 0) tRe.dflt).1.2.1-n.1.2.1)),AV.int IntKind.i64 (ptF (wr .i64 ((l.2.getD (Int.toNat 0) tRe.dflt).1.1-n.1.1)) (wr .i64 ((l.2.getD (Int.toNat 0) tRe.dflt).1.2.1-n.1.2.1)))]) (x130)))))))))))))))))) else none) else none) else (sI p.2.1 (sI p.1 (sI n.1.1 (sI n.1.2.1 (sI n.2.1 (sI n.2.2.1 (sI n.2.2.2.1 (sI n.1.1 (sI n.1.2.1 (sI n.2.1 (sI n.2.2.1 (sI n.2.2.2.1 (sB s.1.1 (sV tGr s.1.2 (sI s.2.1.1 (sI s.2.1.2.1 (sI s.2.2.1.1 (sI s.2.2.1.2.1 (sB s.1.1 (sV tGr s.1.2 (sI s.2.1.1 (sI s.2.1.2.1 (sI s.2.2.1.1 (sI s.2.2.1.2.1 (bif nrB (wr .i64 (p.1-n.1.1)) (wr .i64 (p.2.1-n.1.2.1)) then (sI n.1.2.1 (sI p.2.1 (sI n.1.1 (sI p.1 (bif inB n.2.1 s.1.2.length then (sI s.2.2.1.1 (sI s.2.2.1.2.1 (sI n.2.1 (sB s.1.1 (sV tGr s.1.2 (some (.stop (pcolI1 s n l p (0) (false) (false) (1048575))))))))) else none))))) else none)))))))))))))))))))))))))):=by kernel_rfl
theorem pcol_step1 (s:tSt.den) (n:tNi.den) (l:(Ty.sl tRe).den) (p:tP.den) (x3:Int) (x62:Bool) (x63:Bool) (x124:Nat):adv F6 ({ (Z6 [53,79,105]).flat [13] with nf:=[4] }:Sy) 20000 (pcolI1 s n l p x3 x62 x63 (x124+1))=(bif !ile (wr .i64 (wr .i64 ((s.1.2.getD (Int.toNat n.2.1) tGr.dflt).2.1.2.1-(s.1.2.getD (Int.toNat n.2.1) tGr.dflt).2.1.1)+1)) x3 then some (.stop (pcolI3 s n l p (x3) (0) (x62) (x63) (1048575) (x124+1))) else (bif x62 then (bif x63 then some (.done (.tup [(.int .i64 (1)),(.int .i64 (0))])) else (bif x62 then some (.done (.tup [(.int .i64 (2)),(.int .i64 (0))])) else (bif x63 then some (.done (.tup [(.int .i64 (0)),(.int .i64 (0))])) else some (.done (.tup [(.int .i64 (0)),(.int .i64 (9))]))))) else (bif x62 then some (.done (.tup [(.int .i64 (2)),(.int .i64 (0))])) else (bif x63 then some (.done (.tup [(.int .i64 (0)),(.int .i64 (0))])) else some (.done (.tup [(.int .i64 (0)),(.int .i64 (9))])))))):=by kernel_rfl
theorem pcol_step2 (s:tSt.den) (n:tNi.den) (l:(Ty.sl tRe).den) (p:tP.den) (x38:Int) (x91:Nat) (x93:List AV) (x133:Nat):adv F6 ({ (Z6 [53,79,105]).flat [13] with nf:=[4] }:Sy) 20000 (pcolI2 s n l p x38 x91 x93 (x133+1))=(bif !ile (Int.ofNat l.2.length) x38 then (bif inB x38 l.2.length then (bif nrB (wr .i64 ((l.2.getD x38.toNat tRe.dflt).1.1-n.1.1)) (wr .i64 ((l.2.getD x38.toNat tRe.dflt).1.2.1-n.1.2.1)) then (sI n.1.2.1 (sI (l.2.getD x38.toNat tRe.dflt).1.2.1 (sI n.1.1 (sI (l.2.getD x38.toNat tRe.dflt).1.1 (bif (0+x91 * 6).beq x93.length then (bif x91.ble 1048576 then (sI (l.2.getD x38.toNat tRe.dflt).1.1 (sI (l.2.getD x38.toNat tRe.dflt).1.2.1 (sI (l.2.getD x38.toNat tRe.dflt).1.1 (sI (l.2.getD x38.toNat tRe.dflt).1.2.1 (sB (l.2.getD x38.toNat tRe.dflt).2.1 (sB (l.2.getD x38.toNat tRe.dflt).2.2.1 (sI (l.2.getD x38.toNat tRe.dflt).1.1 (sI (l.2.getD x38.toNat tRe.dflt).1.2.1 (sB (l.2.getD x38.toNat tRe.dflt).2.1 (sB (l.2.getD x38.toNat tRe.dflt).2.2.1 (bif avbeq (AV.sl 13 0 x91 x91 6) (AV.sl 13 0 x91 x91 6) then (bif avbeq (AV.sl 13 0 x91 x91 6) (AV.sl 13 0 x91 x91 6) then (bif plO (AO.cells false (x93++[AV.int IntKind.i64 (l.2.getD x38.toNat tRe.dflt).1.1,AV.int IntKind.i64 (l.2.getD x38.toNat tRe.dflt).1.2.1,AV.bool (l.2.getD x38.toNat tRe.dflt).2.1,AV.bool (l.2.getD x38.toNat tRe.dflt).2.2.1,AV.int IntKind.i64 (wr .i64 ((l.2.getD x38.toNat tRe.dflt).1.1-n.1.1) * wr .i64 ((l.2.getD x38.toNat tRe.dflt).1.1-n.1.1)+wr .i64 ((l.2.getD x38.toNat tRe.dflt).1.2.1-n.1.2.1) * wr .i64 ((l.2.getD x38.toNat tRe.dflt).1.2.1-n.1.2.1)),AV.int IntKind.i64 (ptF (wr .i64 ((l.2.getD x38.toNat tRe.dflt).1.1-n.1.1)) (wr .i64 ((l.2.getD x38.toNat tRe.dflt).1.2.1-n.1.2.1)))])) then some (.stop (pcolI2 s n l p (wr .i64 (x38+1)) (x91+1) (x93++[AV.int IntKind.i64 (l.2.getD x38.toNat tRe.dflt).1.1,AV.int IntKind.i64 (l.2.getD x38.toNat tRe.dflt).1.2.1,AV.bool (l.2.getD x38.toNat tRe.dflt).2.1,AV.bool (l.2.getD x38.toNat tRe.dflt).2.2.1,AV.int IntKind.i64 (wr .i64 ((l.2.getD x38.toNat tRe.dflt).1.1-n.1.1) * wr .i64 ((l.2.getD x38.toNat tRe.dflt).1.1-n.1.1)+wr .i64 ((l.2.getD x38.toNat tRe.dflt).1.2.1-n.1.2.1) * wr .i64 ((l.2.getD x38.toNat tRe.dflt).1.2.1-n.1.2.1)),AV.int IntKind.i64 (ptF (wr .i64 ((l.2.getD x38.toNat tRe.dflt).1.1-n.1.1)) (wr .i64 ((l.2.getD x38.toNat tRe.dflt).1.2.1-n.1.2.1)))]) (x133))) else none) else none) else none))))))))))) else none) else none))))) else none) else none) else (sI p.2.1 (sI p.1 (sI n.1.1 (sI n.1.2.1 (sI n.2.1 (sI n.2.2.1 (sI n.2.2.2.1 (sI n.1.1 (sI n.1.2.1 (sI n.2.1 (sI n.2.2.1 (sI n.2.2.2.1 (sB s.1.1 (sV tGr s.1.2 (sI s.2.1.1 (sI s.2.1.2.1 (sI s.2.2.1.1 (sI s.2.2.1.2.1 (sB s.1.1 (sV tGr s.1.2 (sI s.2.1.1 (sI s.2.1.2.1 (sI s.2.2.1.1 (sI s.2.2.1.2.1 (bif nrB (wr .i64 (p.1-n.1.1)) (wr .i64 (p.2.1-n.1.2.1)) then (sI n.1.2.1 (sI p.2.1 (sI n.1.1 (sI p.1 (bif inB n.2.1 s.1.2.length then (sI s.2.2.1.1 (sI s.2.2.1.2.1 (sI n.2.1 (sB s.1.1 (sV tGr s.1.2 (some (.stop (pcolI4 s n l p (0) (x91) (x93) (false) (false) (1048575))))))))) else none))))) else none)))))))))))))))))))))))))):=by kernel_rfl
theorem pcol_step3 (s:tSt.den) (n:tNi.den) (l:(Ty.sl tRe).den) (p:tP.den) (x0:Int) (x10:Int) (x69:Bool) (x70:Bool) (x140:Nat) (x145:Nat):adv F6 ({ (Z6 [53,79,105]).flat [13] with nf:=[4] }:Sy) 20000 (pcolI3 s n l p x0 x10 x69 x70 (x140+1) (x145+1))=(bif !ile (wr .i64 (wr .i64 (s.2.2.1.2.1-s.2.2.1.1)+1)) x10 then some (.stop (pcolI5 s n l p (x69) (x70) (wr .i64 ((s.1.2.getD (Int.toNat n.2.1) tGr.dflt).2.1.1+x0)) (wr .i64 (s.2.2.1.1+x10)) (1048575) (x0) (x10) (x140+1) (x145+1))) else some (.stop (pcolI1 s n l p (wr .i64 (x0+1)) (x69) (x70) (x145)))):=by kernel_rfl
theorem pcol_step4 (s:tSt.den) (n:tNi.den) (l:(Ty.sl tRe).den) (p:tP.den) (x3:Int) (x56:Nat) (x58:List AV) (x65:Bool) (x66:Bool) (x127:Nat):adv F6 ({ (Z6 [53,79,105]).flat [13] with nf:=[4] }:Sy) 20000 (pcolI4 s n l p x3 x56 x58 x65 x66 (x127+1))=(bif !ile (wr .i64 (wr .i64 ((s.1.2.getD (Int.toNat n.2.1) tGr.dflt).2.1.2.1-(s.1.2.getD (Int.toNat n.2.1) tGr.dflt).2.1.1)+1)) x3 then some (.stop (pcolI6 s n l p (x3) (0) (x56) (x58) (x65) (x66) (1048575) (x127+1))) else (bif x65 then (bif x66 then some (.done (.tup [(.int .i64 (1)),(.int .i64 (0))])) else (bif x65 then some (.done (.tup [(.int .i64 (2)),(.int .i64 (0))])) else (bif x66 then some (.done (.tup [(.int .i64 (0)),(.int .i64 (0))])) else some (.done (.tup [(.int .i64 (0)),(.int .i64 (9))]))))) else (bif x65 then some (.done (.tup [(.int .i64 (2)),(.int .i64 (0))])) else (bif x66 then some (.done (.tup [(.int .i64 (0)),(.int .i64 (0))])) else some (.done (.tup [(.int .i64 (0)),(.int .i64 (9))])))))):=by kernel_rfl
theorem pcol_step5 (s:tSt.den) (n:tNi.den) (l:(Ty.sl tRe).den) (p:tP.den) (x60:Bool) (x61:Bool) (x71:Int) (x72:Int) (x130:Nat) (x183:Int) (x184:Int) (x267:Nat) (x272:Nat):adv F6 ({ (Z6 [53,79,105]).flat [13] with nf:=[4] }:Sy) 20000 (pcolI5 s n l p x60 x61 x71 x72 (x130+1) x183 x184 (x267+1) (x272+1))=(bif lcB x71 x72 (wr .i64 (p.1-n.1.1) * wr .i64 (p.1-n.1.1)+wr .i64 (p.2.1-n.1.2.1) * wr .i64 (p.2.1-n.1.2.1)) then (bif seenF x71 x72 (wr .i64 (p.1-n.1.1) * wr .i64 (p.1-n.1.1)+wr .i64 (p.2.1-n.1.2.1) * wr .i64 (p.2.1-n.1.2.1)) then some (.stop (pcolI3 s n l p (x183) (wr .i64 (x184+1)) (true) (x61) (x267) (x272+1))) else some (.stop (pcolI3 s n l p (x183) (wr .i64 (x184+1)) (x60) (true) (x267) (x272+1)))) else none):=by kernel_rfl
theorem pcol_step6 (s:tSt.den) (n:tNi.den) (l:(Ty.sl tRe).den) (p:tP.den) (x0:Int) (x10:Int) (x63:Nat) (x65:List AV) (x72:Bool) (x73:Bool) (x143:Nat) (x148:Nat):adv F6 ({ (Z6 [53,79,105]).flat [13] with nf:=[4] }:Sy) 20000 (pcolI6 s n l p x0 x10 x63 x65 x72 x73 (x143+1) (x148+1))=(bif !ile (wr .i64 (wr .i64 (s.2.2.1.2.1-s.2.2.1.1)+1)) x10 then some (.stop (pcolI7 s n l p (x63) (Int.ofNat x63) (0) (x65) (x72) (x73) (wr .i64 ((s.1.2.getD (Int.toNat n.2.1) tGr.dflt).2.1.1+x0)) (wr .i64 (s.2.2.1.1+x10)) (1048575) (x0) (x10) (x143+1) (x148+1))) else (bif plO (AO.cells false x65) then some (.stop (pcolI4 s n l p (wr .i64 (x0+1)) (x63) (x65) (x72) (x73) (x148))) else none)):=by kernel_rfl
theorem pcol_step7 (s:tSt.den) (n:tNi.den) (l:(Ty.sl tRe).den) (p:tP.den) (x0:Nat) (x2:Int) (x3:Int) (x58:List AV) (x65:Bool) (x66:Bool) (x76:Int) (x77:Int) (x137:Nat) (x190:Int) (x191:Int) (x274:Nat) (x279:Nat):adv F6 ({ (Z6 [53,79,105]).flat [13] with nf:=[4] }:Sy) 20000 (pcolI7 s n l p x0 x2 x3 x58 x65 x66 x76 x77 (x137+1) x190 x191 (x274+1) (x279+1))=(bif !ile x2 x3 then (bif inB x3 x0 then (bif isZs x58 [AV.int IntKind.i64 0,AV.int IntKind.i64 0,AV.bool false,AV.bool false,AV.int IntKind.i64 0,AV.int IntKind.i64 0] (0+x3.toNat * 6) then (bif toB (x58.getD (0+x3.toNat * 6+1+1) AV.nili) == false then (bif lcB x76 x77 (toI (x58.getD (0+x3.toNat * 6+1+1+1+1) AV.nili)) then (sI (toI (x58.getD (0+x3.toNat * 6+1+1+1+1) AV.nili)) (sI (toI (x58.getD (0+x3.toNat * 6+1+1+1+1+1) AV.nili)) (sB (toB (x58.getD (0+x3.toNat * 6+1+1+1) AV.nili)) (sB (toB (x58.getD (0+x3.toNat * 6+1+1+1) AV.nili)) (bif !toB (x58.getD (0+x3.toNat * 6+1+1+1) AV.nili) == seenF x76 x77 (toI (x58.getD (0+x3.toNat * 6+1+1+1+1) AV.nili)) then (bif plO (AO.cells false x58) then some (.stop (pcolI6 s n l p (x190) (wr .i64 (x191+1)) (x0) (x58) (x65) (x66) (x274) (x279+1))) else none) else (bif plO (AO.cells false x58) then some (.stop (pcolI7 s n l p (x0) (x2) (wr .i64 (x3+1)) (x58) (x65) (x66) (x76) (x77) (x137) (x190) (x191) (x274+1) (x279+1))) else none)))))) else none) else (bif plO (AO.cells false x58) then some (.stop (pcolI7 s n l p (x0) (x2) (wr .i64 (x3+1)) (x58) (x65) (x66) (x76) (x77) (x137) (x190) (x191) (x274+1) (x279+1))) else none)) else none) else none) else (bif lcB x76 x77 (wr .i64 (p.1-n.1.1) * wr .i64 (p.1-n.1.1)+wr .i64 (p.2.1-n.1.2.1) * wr .i64 (p.2.1-n.1.2.1)) then (bif seenF x76 x77 (wr .i64 (p.1-n.1.1) * wr .i64 (p.1-n.1.1)+wr .i64 (p.2.1-n.1.2.1) * wr .i64 (p.2.1-n.1.2.1)) then (bif plO (AO.cells false x58) then some (.stop (pcolI6 s n l p (x190) (wr .i64 (x191+1)) (x0) (x58) (true) (x66) (x274) (x279+1))) else none) else (bif plO (AO.cells false x58) then some (.stop (pcolI6 s n l p (x190) (wr .i64 (x191+1)) (x0) (x58) (x65) (true) (x274) (x279+1))) else none)) else none)):=by kernel_rfl
noncomputable def stC (n:tNi.den) (p:tP.den) (h:Bool) (x:Bool×Bool) (t:tP.den):Bool×Bool:=bif metF n p t h then (true,x.2) else (x.1,true)
noncomputable def couR (x:Bool×Bool):Int×Int:=bif x.1 then (bif x.2 then (1,0) else (2,0)) else (bif x.2 then (0,0) else (0,9))
noncomputable def couS (s:tSt.den) (n:tNi.den) (l:List tRe.den) (p:tP.den) (h:Bool):Int×Int:=bif ieq (cknS s n l).2 0 then (bif in3 p.1 p.2.1 then couR ((trT s n l h).foldl (stC n p h) (false,false)) else (0,7)) else (0,(cknS s n l).2)
theorem cnd_l {a b:Int} (ht:truB (a,b,()) false=true) {x y:Int} (hn:nrB x y=true):lcB a b (x * x+y * y)=true:=by
 simp only[truB,cond_false,Bool.and_eq_true] at ht
 exact lcB_iff.2 ⟨⟨ile_le ht.1.1.1,ile_le ht.1.1.2⟩,⟨ile_le ht.1.2,ile_le ht.2⟩,sq_b hn⟩
theorem cnd_h {a b:Int} (ht:truB (a,b,()) true=true) (x y:Int):hcB a b (ptF x y)=true:=by
 simp only[truB,cond_true,Bool.and_eq_true] at ht
 unfold hcB;rw[ht.1.1,ht.1.2,ht.2,ptF_b];rfl
theorem Zcl_ok:({ (Z6 [53,79,105]).flat [13] with nf:=[4] }:Sy).ok F6:=Z6_ok [99,122,144]
theorem Zch_ok:({ (Z6 [53,79,103]).flat [13] with nf:=[4] }:Sy).ok F6:=Z6_ok [99,122,142]
theorem avbeq_sl13 (n:Nat):avbeq (AV.sl 13 0 n n 6) (AV.sl 13 0 n n 6)=true:=by
 simp[avbeq]
section
variable {s:tSt.den} {n:tNi.den} {l:(Ty.sl tRe).den} {p:tP.den} {v:AV}
theorem pcol_i5 (hn:in3 n.1.1 n.1.2.1=true) (hp:in3 p.1 p.2.1=true) (i k m M O:Nat) (x:Bool×Bool) (a b:Int) (ht:truB (a,b,()) false=true) (hk:k<1048577) (K:Ans F6 (pcolI3 s n l p (i:Int) ((k+1:Nat):Int) (stC n p false x (a,b,())).1 (stC n p false x (a,b,())).2 M (O+1)) v) :
  Ans F6 (pcolI5 s n l p x.1 x.2 a b (m+1) (i:Int) (k:Int) (M+1) (O+1)) v:=by
 obtain⟨y,z'⟩:=x
 have h:=pcol_step5 s n l p y z' a b m (i:Int) (k:Int) M O
 obtain⟨w1,w2,hnr⟩:=df3 hn hp
 have hc:=cnd_l ht hnr
 simp only[w1,w2,hc,wr_succ hk,cond_true] at h
 unfold stC at K
 cases c:metF n p (a,b,()) false with
 |false=>
  rw[c,cond_false] at K
  rw[show seenF a b ((p.1-n.1.1) * (p.1-n.1.1)+(p.2.1-n.1.2.1) * (p.2.1-n.1.2.1))=false from c,cond_false] at h
  exact .stop Zcl_ok F6sy h K
 |true=>
  rw[c,cond_true] at K
  rw[show seenF a b ((p.1-n.1.1) * (p.1-n.1.1)+(p.2.1-n.1.2.1) * (p.2.1-n.1.2.1))=true from c,cond_true] at h
  exact .stop Zcl_ok F6sy h K
theorem pcol_in0 (R:Rngs s n) (hn:in3 n.1.1 n.1.2.1=true) (hp:in3 p.1 p.2.1=true) (i:Nat) (hi:i<ngA s n) (rest:List tP.den) (O:Nat) (K:∀ x:Bool×Bool,Ans F6 (pcolI1 s n l p ((i+1:Nat):Int) x.1 x.2 O) (tup2 (couR (rest.foldl (stC n p false) x)))) :
  ∀ (r k m:Nat) (x:Bool×Bool) (b:Int),b=cLo s+k→k+r=nB s→r<m→Ans F6 (pcolI3 s n l p (i:Int) (k:Int) x.1 x.2 m (O+1)) (tup2 (couR ((rowP (gLo s n+i) r b++rest).foldl (stC n p false) x)))
 |0,k,m+1,x,b,hb,hk,hm=>by
  have h:=pcol_step3 s n l p (i:Int) (k:Int) x.1 x.2 m O
  have e:wr .i64 (wr .i64 (s.2.2.1.2.1-s.2.2.1.1)+1)=(nB s:Int):=R.wc
  have:=R.na
  rw[e,ile_t (show ((nB s:Nat):Int)≤k by omega),Bool.not_true,cond_false,wr_succ (show i<1048577 by omega)] at h
  exact .stop Zcl_ok F6sy h (K x)
 | r + 1, k, m + 1, x, b, hb, hk, hm => by
  have h:=pcol_step3 s n l p (i:Int) (k:Int) x.1 x.2 m O
  have e:wr .i64 (wr .i64 (s.2.2.1.2.1-s.2.2.1.1)+1)=(nB s:Int):=R.wc
  have n1:=R.na
  have n2:=R.nb
  have g:=R.g
  have c:=R.c
  have nae:((ngA s n:Nat):Int)=gHi s n-gLo s n+1:=by unfold ngA;omega
  have nbe:((nB s:Nat):Int)=cHi s-cLo s+1:=by unfold nB;omega
  have w1:wr .i64 ((s.1.2.getD (Int.toNat n.2.1) tGr.dflt).2.1.1+(i:Int))=gLo s n+i:=wr_in (n:=gLo s n+(i:Int)) (by omega) (by omega)
  have w2:wr .i64 (s.2.2.1.1+(k:Int))=b:=by subst hb;exact wr_in (n:=cLo s+(k:Int)) (by omega) (by omega)
  have ht:truB (gLo s n+i,b,()) false=true:=by
   show (ile 0 (gLo s n+i)&&ile (gLo s n+i) 5000&&ile 1 b&&ile b 300)=true
   rw[ile_t (show 0≤gLo s n+(i:Int) by omega),ile_t (show gLo s n+(i:Int)≤5000 by omega),ile_t (show 1≤b by omega),ile_t (show b≤300 by omega)];rfl
  rw[e,ile_f (show (k:Int)<((nB s:Nat):Int) by omega),Bool.not_false,cond_true] at h
  rw[w1,w2] at h
  exact .stop Zcl_ok F6sy h (pcol_i5 hn hp i k 1048574 m O x _ _ ht (by omega) (pcol_in0 R hn hp i hi rest O K r (k+1) m _ (b+1) (by omega) (by omega) (by omega)))
theorem pcol_out0 (R:Rngs s n) (hn:in3 n.1.1 n.1.2.1=true) (hp:in3 p.1 p.2.1=true):∀ (r i m:Nat) (x:Bool×Bool) (a:Int),a=gLo s n+i→i+r=ngA s n→r<m→Ans F6 (pcolI1 s n l p (i:Int) x.1 x.2 m) (tup2 (couR ((allP (cLo s) (nB s) r a).foldl (stC n p false) x)))
 |0,i,m+1,x,a,ha,hi,hm=>by
  obtain⟨y,z'⟩:=x
  have h:=pcol_step1 s n l p (i:Int) y z' m
  have e:wr .i64 (wr .i64 ((s.1.2.getD (Int.toNat n.2.1) tGr.dflt).2.1.2.1-(s.1.2.getD (Int.toNat n.2.1) tGr.dflt).2.1.1)+1)=(ngA s n:Int):=R.wg
  rw[e,ile_t (show ((ngA s n:Nat):Int)≤i by omega),Bool.not_true,cond_false] at h
  cases y<;>cases z'<;>exact done2 Zcl_ok F6sy h rfl
 |r+1,i,m+1,x,a,ha,hi,hm=>by
  have h:=pcol_step1 s n l p (i:Int) x.1 x.2 m
  have e:wr .i64 (wr .i64 ((s.1.2.getD (Int.toNat n.2.1) tGr.dflt).2.1.2.1-(s.1.2.getD (Int.toNat n.2.1) tGr.dflt).2.1.1)+1)=(ngA s n:Int):=R.wg
  rw[e,ile_f (show (i:Int)<((ngA s n:Nat):Int) by omega),Bool.not_false,cond_true] at h
  subst ha
  exact .stop Zcl_ok F6sy h (pcol_in0 R hn hp i (by omega) _ m (fun x=>pcol_out0 R hn hp r (i+1) m x _ (by omega) (by omega) (by omega)) (nB s) 0 1048575 x (cLo s) (by omega) (by omega) (by have:=R.nb;omega))
theorem pcol_i7 (hn:in3 n.1.1 n.1.2.1=true) (hp:in3 p.1 p.2.1=true) (h8:l.2.length≤8) (hl:repB l.2=true) (a b:Int) (ht:truB (a,b,()) false=true) (x:Bool×Bool) (i k M O:Nat) (hk:k<1048577)
  (K1:agrF n l.2 (a,b,()) false=true→Ans F6 (pcolI6 s n l p (i:Int) ((k+1:Nat):Int) l.2.length (rps n l.2) (stC n p false x (a,b,())).1 (stC n p false x (a,b,())).2 M (O+1)) v)
  (K0:agrF n l.2 (a,b,()) false=false→Ans F6 (pcolI6 s n l p (i:Int) ((k+1:Nat):Int) l.2.length (rps n l.2) x.1 x.2 M (O+1)) v) :
  ∀ (r j m:Nat),j+r=l.2.length→r<m→agrF n l.2 (a,b,()) false=agrF n (l.2.drop j) (a,b,()) false→Ans F6 (pcolI7 s n l p l.2.length (l.2.length:Int) (j:Int) (rps n l.2) x.1 x.2 a b m (i:Int) (k:Int) (M+1) (O+1)) v
 | 0, j, m + 1, hj, hm, hd => by
  obtain⟨y,z'⟩:=x
  have h:=pcol_step7 s n l p l.2.length (l.2.length:Int) (j:Int) (rps n l.2) y z' a b m (i:Int) (k:Int) M O
  rw[List.drop_eq_nil_of_le (by omega)] at hd
  have K:=K1 hd
  obtain⟨w1,w2,hnr⟩:=df3 hn hp
  have hc:=cnd_l ht hnr
  simp only[ile_t (show ((l.2.length:Nat):Int)≤j by omega),Bool.not_true,cond_false,w1,w2,hc,cond_true,wr_succ hk,rps_plO] at h
  unfold stC at K
  clear K1 K0
  cases c:metF n p (a,b,()) false with
  |false=>
   rw[c,cond_false] at K
   rw[show seenF a b ((p.1-n.1.1) * (p.1-n.1.1)+(p.2.1-n.1.2.1) * (p.2.1-n.1.2.1))=false from c,cond_false] at h
   exact .stop Zcl_ok F6sy h K
  |true=>
   rw[c,cond_true] at K
   rw[show seenF a b ((p.1-n.1.1) * (p.1-n.1.1)+(p.2.1-n.1.2.1) * (p.2.1-n.1.2.1))=true from c,cond_true] at h
   exact .stop Zcl_ok F6sy h K
 | r + 1, j, m + 1, hj, hm, hd => by
  have h:=pcol_step7 s n l p l.2.length (l.2.length:Int) (j:Int) (rps n l.2) x.1 x.2 a b m (i:Int) (k:Int) M O
  have hlt:j<l.2.length:=by omega
  have hr:in3 (l.2[j]).1.1 (l.2[j]).1.2.1=true:=List.all_eq_true.1 hl _ (List.getElem_mem hlt)
  obtain⟨w1,w2,hnr⟩:=df3 hn hr
  obtain⟨z1,z2,z3,z4,z5⟩:=rps_at (n:=n) hlt
  have hc:lcB a b (rpOf n l.2[j]).2.2.2.2.1=true:=cnd_l ht hnr
  simp only[ile_f (show ((j:Nat):Int)<(l.2.length:Int) by omega),Bool.not_false,cond_true,inB_at hlt,z1,z2,z3,z4,z5,hc,ieq_self,sI_eq,sB_eq,sV_eq,bbeq_self,rps_plO,wr_succ hk,wr_succ (show j<1048577 by omega)] at h
  rw[List.drop_eq_getElem_cons hlt] at hd
  have ih:=pcol_i7 hn hp h8 hl a b ht x i k M O hk K1 K0 r (j+1) m (by omega) (by omega)
  have e:agrF n (l.2[j]::l.2.drop (j+1)) (a,b,()) false=(agr1 n (a,b,()) false l.2[j]&&agrF n (l.2.drop (j+1)) (a,b,()) false):=rfl
  rw[e] at hd
  unfold agr1 at hd
  have es:metF n (l.2[j]).1 (a,b,()) false=seenF a b (rpOf n l.2[j]).2.2.2.2.1:=rfl
  rw[es] at hd
  cases c1:(l.2[j]).2.1 == false with
  |false=>
   rw[c1,cond_false] at h
   rw[c1,cond_false,Bool.true_and] at hd
   exact .stop Zcl_ok F6sy h (ih hd)
  | true =>
   rw[c1,cond_true] at h
   rw[c1,cond_true] at hd
   cases c2:(l.2[j]).2.2.1 == seenF a b (rpOf n l.2[j]).2.2.2.2.1 with
   |false=>
    rw[c2,Bool.false_and] at hd
    rw[c2,Bool.not_false,cond_true] at h
    exact .stop Zcl_ok F6sy h (K0 hd)
   |true=>
    rw[c2,Bool.true_and] at hd
    rw[c2,Bool.not_true,cond_false] at h
    exact .stop Zcl_ok F6sy h (ih hd)
theorem pcol_in1 (R:Rngs s n) (hn:in3 n.1.1 n.1.2.1=true) (hp:in3 p.1 p.2.1=true) (h8:l.2.length≤8) (hl:repB l.2=true) (i:Nat) (hi:i<ngA s n) (rest:List tP.den) (O:Nat) (K:∀ x:Bool×Bool,Ans F6 (pcolI4 s n l p ((i+1:Nat):Int) l.2.length (rps n l.2) x.1 x.2 O) (tup2 (couR ((rest.filter fun t=>agrF n l.2 t false).foldl (stC n p false) x)))) :
  ∀ (r k m:Nat) (x:Bool×Bool) (b:Int),b=cLo s+k→k+r=nB s→r<m→Ans F6 (pcolI6 s n l p (i:Int) (k:Int) l.2.length (rps n l.2) x.1 x.2 m (O+1)) (tup2 (couR (((rowP (gLo s n+i) r b++rest).filter fun t=>agrF n l.2 t false).foldl (stC n p false) x)))
 |0,k,m+1,x,b,hb,hk,hm=>by
  have h:=pcol_step6 s n l p (i:Int) (k:Int) l.2.length (rps n l.2) x.1 x.2 m O
  have e:wr .i64 (wr .i64 (s.2.2.1.2.1-s.2.2.1.1)+1)=(nB s:Int):=R.wc
  have:=R.na
  rw[e,ile_t (show ((nB s:Nat):Int)≤k by omega),Bool.not_true,cond_false,wr_succ (show i<1048577 by omega),rps_plO,cond_true] at h
  exact .stop Zcl_ok F6sy h (K x)
 | r + 1, k, m + 1, x, b, hb, hk, hm => by
  have h:=pcol_step6 s n l p (i:Int) (k:Int) l.2.length (rps n l.2) x.1 x.2 m O
  have e:wr .i64 (wr .i64 (s.2.2.1.2.1-s.2.2.1.1)+1)=(nB s:Int):=R.wc
  have n1:=R.na
  have n2:=R.nb
  have g:=R.g
  have c:=R.c
  have nae:((ngA s n:Nat):Int)=gHi s n-gLo s n+1:=by unfold ngA;omega
  have nbe:((nB s:Nat):Int)=cHi s-cLo s+1:=by unfold nB;omega
  have w1:wr .i64 ((s.1.2.getD (Int.toNat n.2.1) tGr.dflt).2.1.1+(i:Int))=gLo s n+i:=wr_in (n:=gLo s n+(i:Int)) (by omega) (by omega)
  have w2:wr .i64 (s.2.2.1.1+(k:Int))=b:=by subst hb;exact wr_in (n:=cLo s+(k:Int)) (by omega) (by omega)
  have ht:truB (gLo s n+i,b,()) false=true:=by
   show (ile 0 (gLo s n+i)&&ile (gLo s n+i) 5000&&ile 1 b&&ile b 300)=true
   rw[ile_t (show 0≤gLo s n+(i:Int) by omega),ile_t (show gLo s n+(i:Int)≤5000 by omega),ile_t (show 1≤b by omega),ile_t (show b≤300 by omega)];rfl
  rw[e,ile_f (show (k:Int)<((nB s:Nat):Int) by omega),Bool.not_false,cond_true] at h
  rw[w1,w2] at h
  have ih:=fun x=>pcol_in1 R hn hp h8 hl i hi rest O K r (k+1) m x (b+1) (by omega) (by omega) (by omega)
  refine .stop Zcl_ok F6sy h (pcol_i7 hn hp h8 hl _ _ ht x i k m O (by omega) (fun c=>?_) (fun c=>?_) l.2.length 0 1048575 (by omega) (by omega) rfl)
  · have e : (rowP (gLo s n + i) (r + 1) b ++ rest).filter (fun t => agrF n l.2 t false) = (gLo s n + i, b, ()) :: (rowP (gLo s n + i) r (b + 1) ++ rest).filter (fun t => agrF n l.2 t false) :=
     List.filter_cons_of_pos c
    rw[e]
    exact ih _
  · have e : (rowP (gLo s n + i) (r + 1) b ++ rest).filter (fun t => agrF n l.2 t false) = (rowP (gLo s n + i) r (b + 1) ++ rest).filter (fun t => agrF n l.2 t false) :=
     List.filter_cons_of_neg (by rw[c];decide)
    rw[e]
    exact ih _
theorem pcol_out1 (R:Rngs s n) (hn:in3 n.1.1 n.1.2.1=true) (hp:in3 p.1 p.2.1=true) (h8:l.2.length≤8) (hl:repB l.2=true):∀ (r i m:Nat) (x:Bool×Bool) (a:Int),a=gLo s n+i→i+r=ngA s n→r<m→Ans F6 (pcolI4 s n l p (i:Int) l.2.length (rps n l.2) x.1 x.2 m) (tup2 (couR (((allP (cLo s) (nB s) r a).filter fun t=>agrF n l.2 t false).foldl (stC n p false) x)))
 |0,i,m+1,x,a,ha,hi,hm=>by
  obtain⟨y,z'⟩:=x
  have h:=pcol_step4 s n l p (i:Int) l.2.length (rps n l.2) y z' m
  have e:wr .i64 (wr .i64 ((s.1.2.getD (Int.toNat n.2.1) tGr.dflt).2.1.2.1-(s.1.2.getD (Int.toNat n.2.1) tGr.dflt).2.1.1)+1)=(ngA s n:Int):=R.wg
  rw[e,ile_t (show ((ngA s n:Nat):Int)≤i by omega),Bool.not_true,cond_false] at h
  cases y<;>cases z'<;>exact done2 Zcl_ok F6sy h rfl
 |r+1,i,m+1,x,a,ha,hi,hm=>by
  have h:=pcol_step4 s n l p (i:Int) l.2.length (rps n l.2) x.1 x.2 m
  have e:wr .i64 (wr .i64 ((s.1.2.getD (Int.toNat n.2.1) tGr.dflt).2.1.2.1-(s.1.2.getD (Int.toNat n.2.1) tGr.dflt).2.1.1)+1)=(ngA s n:Int):=R.wg
  rw[e,ile_f (show (i:Int)<((ngA s n:Nat):Int) by omega),Bool.not_false,cond_true] at h
  subst ha
  exact .stop Zcl_ok F6sy h (pcol_in1 R hn hp h8 hl i (by omega) _ m (fun x=>pcol_out1 R hn hp h8 hl r (i+1) m x _ (by omega) (by omega) (by omega)) (nB s) 0 1048575 x (cLo s) (by omega) (by omega) (by have:=R.nb;omega))
theorem pcol_nv (R:Rngs s n) (hN:NigOK s n l.2) (hp:in3 p.1 p.2.1=true):∀ (r k m:Nat),1≤k→k+r=l.2.length→r<m→Ans F6 (pcolI2 s n l p (k:Int) k (rps n (l.2.take k)) m) (tup2 (couR ((trT s n l.2 false).foldl (stC n p false) (false,false))))
 |0,k,m+1,h1,hk,hm=>by
  have h:=pcol_step2 s n l p (k:Int) k (rps n (l.2.take k)) m
  have h8:=hN.len
  have hi:inB n.2.1 s.1.2.length=true:=inB_of hN.g0.1 hN.g0.2
  obtain⟨w1,w2,hnr⟩:=df3 hN.at_ hp
  have ek:k=l.2.length:=by omega
  subst ek
  rw[List.take_length] at h⊢
  simp only[ile_t (show Int.ofNat l.2.length≤((l.2.length:Nat):Int) from Int.le_refl _),Bool.not_true,cond_false,ieq_self,sI_eq,sB_eq,sV_eq,bbeq_self,vsB_self,hi,w1,w2,hnr,rps_plO,avbeq_sl13,cond_true] at h
  exact .stop Zcl_ok F6sy h (pcol_out1 R hN.at_ hp h8 hN.reps (ngA s n) 0 1048575 (false,false) (gLo s n) (by omega) (by omega) (by have:=R.na;omega))
 | r + 1, k, m + 1, h1, hk, hm => by
  have h:=pcol_step2 s n l p (k:Int) k (rps n (l.2.take k)) m
  have h8:=hN.len
  have hlt:k<l.2.length:=by omega
  have hr:in3 (l.2[k]).1.1 (l.2[k]).1.2.1=true:=List.all_eq_true.1 hN.reps _ (List.getElem_mem hlt)
  obtain⟨wn,wc⟩:=rp_wr hN.at_ hr
  have eg:l.2.getD (k:Int).toNat tRe.dflt=l.2[k]:=getD_at hlt
  have b1:(0+k * 6).beq (rps n (l.2.take k)).length=true:=rps_beq (by rw[List.length_take];omega)
  have b2:k.ble 1048576=true:=Nat.ble_eq_true_of_le (by omega)
  have pl:plO (.cells false (rps n (l.2.take (k+1))))=true:=rps_plO _ _
  have ap:rps n (l.2.take k)++tRp.cells (rpOf n l.2[k])=rps n (l.2.take (k+1)):=by
   rw[rps_add,← List.take_succ_eq_append_getElem hlt]
  have av:=avbeq_sl13 k
  simp only[ile_f (show ((k:Nat):Int)<Int.ofNat l.2.length by show (k:Int)<(l.2.length:Int);omega),Bool.not_false,cond_true,inB_at hlt,eg,wn,wc,ap,pl,b1,b2,av,ieq_self,sI_eq,sB_eq,sV_eq,bbeq_self,wr_succ (show k<1048577 by omega)] at h
  exact .stop Zcl_ok F6sy h (pcol_nv R hN hp r (k+1) m (by omega) (by omega) (by omega))
end
theorem pcol_call (s:tSt.den) (n:tNi.den) (l:(Ty.sl tRe).den) (p:tP.den):AnsF F6 10 [tSt.av s,tNi.av n,.vs tRe l.1 l.2,tP.av p,.bool false] (tup2 (couS s n l.2 p false)):=by
 refine Ans.call (n:=40) (ext_none (by kernel_rfl)) (hasB_spec (by kernel_rfl)) ?_
 have h:=pcol_start s n l p
 unfold couS
 simp only[ieq_self,sI_eq,sB_eq,sV_eq,bbeq_self,vsB_self,cond_true] at h
 cases c:ieq (cknS s n l.2).2 0 with
 |false=>
  simp only[c,Bool.not_false,cond_true] at h
  rw[cond_false]
  exact done2 Zcl_ok F6sy h rfl
 | true =>
  simp only[c,Bool.not_true,cond_false] at h
  rw[cond_true]
  cases hp:in3 p.1 p.2.1 with
  |false=>
   rw[cond_false]
   unfold in3 at hp
   cases q1:ile (-30000) p.1<;>cases q2:ile p.1 30000<;>cases q3:ile (-30000) p.2.1<;>cases q4:ile p.2.1 30000<;>simp only[q1,q2,q3,q4,Bool.not_true,Bool.not_false,cond_true,cond_false,Bool.true_and] at h hp<;>first|exact done2 Zcl_ok F6sy h rfl|cases hp
  |true=>
  rw[cond_true]
  have hp4:=hp
  unfold in3 at hp4
  simp only[Bool.and_eq_true] at hp4
  simp only[hp4.1.1.1,hp4.1.1.2,hp4.1.2,hp4.2,Bool.not_true,cond_false] at h
  have hN:=nig_ok c
  have R:=rngs_ok hN
  have h8:=hN.len
  obtain⟨w1,w2,hnr⟩:=df3 hN.at_ hp
  refine .stop Zcl_ok F6sy h ?_
  have h:=pcol_step0 s n l p 1048574
  have hi:inB n.2.1 s.1.2.length=true:=inB_of hN.g0.1 hN.g0.2
  cases hl:l.2 with
  |nil=>
   simp only[hl,show ile (Int.ofNat ([]:List tRe.den).length) 0=true from rfl,Bool.not_true,cond_false,ieq_self,sI_eq,sB_eq,sV_eq,bbeq_self,vsB_self,hi,w1,w2,hnr,cond_true] at h
   have k:=pcol_out0 (l:=l) R hN.at_ hp (ngA s n) 0 1048575 (false,false) (gLo s n) (by omega) (by omega) (by have:=R.na;omega)
   have e:trT s n [] false=allP (cLo s) (nB s) (ngA s n) (gLo s n):=List.filter_eq_self.2 fun _ _=>rfl
   rw[e]
   exact .stop Zcl_ok F6sy h k
  | cons r q =>
   rw[← hl]
   have hlt:0<l.2.length:=by rw[hl];simp
   have hr:in3 (l.2[0]).1.1 (l.2[0]).1.2.1=true:=List.all_eq_true.1 hN.reps _ (List.getElem_mem hlt)
   obtain⟨wn,wc⟩:=rp_wr hN.at_ hr
   have eg:l.2.getD (Int.toNat 0) tRe.dflt=l.2[0]:=getD_at (k:=0) hlt
   have ap:tRp.cells (rpOf n l.2[0])=rps n (l.2.take 1):=by
    have:=rps_add n [] l.2[0]
    have t1:=List.take_succ_eq_append_getElem hlt
    rw[List.take_zero,List.nil_append] at t1
    rw[t1]
    exact this
   have i0:inB 0 l.2.length=true:=inB_at (k:=0) hlt
   simp only[ile_f (show (0:Int)<Int.ofNat l.2.length by show (0:Int)<(l.2.length:Int);omega),Bool.not_false,cond_true,i0,eg,wn,wc,ap,ieq_self,sI_eq,sB_eq,sV_eq,bbeq_self] at h
   exact .stop Zcl_ok F6sy h (pcol_nv R hN hp (l.2.length-1) 1 1048574 (by omega) (by omega) (by omega))
end Go.Proofs.YtppcdepecdemnaaGreatDoor


set_option maxRecDepth 100000
namespace Go.Proofs.YtppcdepecdemnaaGreatDoor
open Go Go.Eng
noncomputable def pcohk0 (z0:tSt.den):AV:=(.agg [(.vs tGr (z0.1.1) (z0.1.2)),(iI (z0.2.1.1)),(iI (z0.2.1.2.1)),(iI (z0.2.2.1.1)),(iI (z0.2.2.1.2.1))])
noncomputable def pcohk4 (z0:tNi.den):AV:=(.agg [(iI (z0.1.1)),(iI (z0.1.2.1)),(iI (z0.2.1)),(iI (z0.2.2.1)),(iI (z0.2.2.2.1))])
noncomputable def pcohk19 (z0:tSt.den) (z1:tNi.den):AV:=(.agg [(.vs tGr (z0.1.1) (z0.1.2)),(iI (z0.2.1.1)),(iI (z0.2.1.2.1)),(iI (z0.2.2.1.1)),(iI (z0.2.2.1.2.1)),(iI (z1.1.1)),(iI (z1.1.2.1)),(iI (z1.2.1)),(iI (z1.2.2.1)),(iI (z1.2.2.2.1)),.nils])
noncomputable def pcohg9 (s:tSt.den) (n:tNi.den) (l:(Ty.sl tRe).den):List (Nat×AV):=[(0,(pcohk0 s)),(1,(pcohk4 n)),(2,(.vs tRe (l.1) (l.2))),(3,(pP 10 0)),(4,(pP 11 0)),(6,.nilp),(10,(pcohk0 s)),(11,(pcohk4 n)),(12,(pcohk19 s n)),(13,(pP 12 0)),(14,(.vs tRe (l.1) (l.2))),(15,(iI (Int.ofNat l.2.length))),(7,(pP 12 0))]
noncomputable def pcohQ0 (s:tSt.den) (n:tNi.den) (l:(Ty.sl tRe).den):Tmps:=(tmOf 37 (pcohg9 s n l++[(16,(iI 0))]))
noncomputable def pcohQ1 (s:tSt.den) (n:tNi.den) (l:(Ty.sl tRe).den):Tmps:=(tmOf 41 [(0,(pcohk0 s)),(1,(pcohk4 n)),(2,(.vs tRe (l.1) (l.2))),(3,(.sl 4 0 (1) (1) 1)),(4,(pP 8 0)),(5,(pP 9 0)),(8,.nilp),(9,(iI 0)),(10,(iI ((cknS s n l.2).1))),(11,(iI ((cknS s n l.2).2))),(15,(.tup [(iI ((cknS s n l.2).1)),(iI ((cknS s n l.2).2))])),(16,(pcohk0 s)),(17,(pcohk4 n)),(18,(.vs tRe (l.1) (l.2))),(19,(.tup [(iI ((cknS s n l.2).1)),(iI ((cknS s n l.2).2))])),(20,(iI ((cknS s n l.2).1))),(21,(iI ((cknS s n l.2).2))),(22,(iI ((cknS s n l.2).2))),(23,(.bool false)),(25,(.sl 4 0 (1) (1) 1)),(26,(iI 1)),(27,(iI 1)),(28,(.bool false)),(37,(pcohk0 s)),(38,(pcohk4 n)),(39,(.vs tRe (l.1) (l.2)))])
noncomputable def pcohk1 (z0:tSt.den):AO:=(cF [(.vs tGr (z0.1.1) (z0.1.2)),(iI (z0.2.1.1)),(iI (z0.2.1.2.1)),(iI (z0.2.2.1.1)),(iI (z0.2.2.1.2.1))])
noncomputable def pcohk3 (z0:tNi.den):AO:=(cF [(iI (z0.1.1)),(iI (z0.1.2.1)),(iI (z0.2.1)),(iI (z0.2.2.1)),(iI (z0.2.2.2.1))])
noncomputable def pcohk18 (z0:tP.den):AO:=(.cells true [(iI (z0.1)),(iI (z0.2.1))])
noncomputable def pcohk16 (z0:tP.den):AO:=(cF [(.csl [(iI (z0.1)),(iI (z0.2.1))] 2)])
noncomputable def pcohQ2 (s:tSt.den) (n:tNi.den) (p:tP.den):Hp:=(hpOf 8 [(0,(pcohk1 s)),(1,(pcohk3 n)),(2,(cF [(iI (p.1)),(iI (p.2.1))])),(3,(pcohk18 p)),(5,(cF [(iI (-30000))])),(6,(cF [(iI 30000)])),(7,(pcohk16 p))])
noncomputable def pcohQ3 (s:tSt.den) (n:tNi.den) (p:tP.den):Hp:=(hpOf 5 [(0,(pcohk1 s)),(1,(pcohk3 n)),(2,(cF [(iI (p.1)),(iI (p.2.1))]))])
noncomputable def pcohg0 (s:tSt.den) (n:tNi.den) (l:(Ty.sl tRe).den) (p:tP.den):List (Nat×AV):=[(0,(pcohk0 s)),(1,(pcohk4 n)),(2,(.vs tRe (l.1) (l.2))),(3,(.agg [(iI (p.1)),(iI (p.2.1))])),(4,(.bool true)),(5,(pP 0 0)),(6,(pP 1 0)),(8,(pP 2 0)),(10,(iI 0)),(11,(iI 0))]
noncomputable def pcohg6 (s:tSt.den) (n:tNi.den) (l:(Ty.sl tRe).den):List (Nat×AV):=[(19,(pcohk0 s)),(20,(pcohk4 n)),(21,(.vs tRe (l.1) (l.2))),(22,(pP 2 0))]
noncomputable def pcohQ4 (s:tSt.den) (n:tNi.den) (l:(Ty.sl tRe).den) (p:tP.den):Tmps:=(tmOf 54 (pcohg0 s n l p++pcohg6 s n l++[(23,(iI (p.1))),(24,(pP 2 1))]))
noncomputable def pcohQ5 (s:tSt.den) (n:tNi.den) (l:(Ty.sl tRe).den) (p:tP.den):Tmps:=(tmOf 54 (pcohg0 s n l p++pcohg6 s n l++[(23,(iI (p.1))),(24,(pP 2 1)),(25,(iI (p.2.1)))]))
noncomputable def pcohQ6 (s:tSt.den) (n:tNi.den) (l:(Ty.sl tRe).den) (p:tP.den):Tmps:=(tmOf 54 (pcohg0 s n l p++pcohg6 s n l))
noncomputable def pcohQ7 (s:tSt.den) (n:tNi.den) (l:(Ty.sl tRe).den) (p:tP.den):Tmps:=(tmOf 54 (pcohg0 s n l p++pcohg6 s n l++[(23,(iI (p.1)))]))
noncomputable def pcohQ8 (s:tSt.den) (n:tNi.den) (l:(Ty.sl tRe).den) (p:tP.den):Tmps:=(tmOf 54 (pcohg0 s n l p++[(19,(pcohk0 s))]))
noncomputable def pcohQ9 (s:tSt.den) (n:tNi.den) (l:(Ty.sl tRe).den) (p:tP.den):Tmps:=(tmOf 54 (pcohg0 s n l p++[(19,(pcohk0 s)),(20,(pcohk4 n))]))
noncomputable def pcohQ10 (s:tSt.den) (n:tNi.den) (l:(Ty.sl tRe).den) (p:tP.den):Tmps:=(tmOf 54 (pcohg0 s n l p))
noncomputable def pcohQ11 (s:tSt.den) (n:tNi.den) (l:(Ty.sl tRe).den) (p:tP.den):Tmps:=(tmOf 54 (pcohg0 s n l p++pcohg6 s n l++[(23,(iI (p.1))),(24,(pP 2 1)),(25,(iI (p.2.1))),(26,(.sl 3 0 (2) (2) 1)),(27,(.fn 58 [] [(pP 5 0),(pP 6 0),(pP 7 0)])),(28,(.sl 4 0 (1) (1) 1))]))
noncomputable def pcohk17:AO:=(cF [(.fn 58 [] [(pP 5 0),(pP 6 0),(pP 7 0)])])
noncomputable def pcohk7 (z0:tSt.den) (z1:tNi.den):AO:=(cF [(.vs tGr (z0.1.1) (z0.1.2)),(iI (z0.2.1.1)),(iI (z0.2.1.2.1)),(iI (z0.2.2.1.1)),(iI (z0.2.2.1.2.1)),(iI (z1.1.1)),(iI (z1.1.2.1)),(iI (z1.2.1)),(iI (z1.2.2.1)),(iI (z1.2.2.2.1)),.nils])
noncomputable def pcohk8 (z0:tSt.den) (z1:tNi.den) (z2:tP.den) (z3:(Ty.sl tRe).den):Fm:=(.cal [(.tmp 8),(.tmp 9)] (.dr ⟨(pcOf F6 10 [0,1]),opsD (pcOf F6 10 [0,1]).c,3,(opsD (pcOf F6 10 [0,1]).c).toList.drop 11,(fsD (pcOf F6 10 [0,1]).c).drop 11,10,[((pcohQ2 z0 z1 z2),248,(some 8)),((pcohQ3 z0 z1 z2),0,none)],[((opsD (pcOf F6 10 [0,1]).c).getD 6 default,6,32,(pcohQ4 z0 z1 z3 z2),(pcohQ5 z0 z1 z3 z2)),((opsD (pcOf F6 10 [0,1]).c).getD 4 default,4,8,(pcohQ6 z0 z1 z3 z2),(pcohQ7 z0 z1 z3 z2)),((opsD (pcOf F6 10 [0,1]).c).getD 1 default,1,0,(pcohQ8 z0 z1 z3 z2),(pcohQ9 z0 z1 z3 z2)),((opsD (pcOf F6 10 [0,1]).c).getD 0 default,0,0,(pcohQ10 z0 z1 z3 z2),(pcohQ8 z0 z1 z3 z2))],false⟩ ((opsD (pcOf F6 10 [0,1]).c).getD 10 default) ((fsD (pcOf F6 10 [0,1]).c).getD 10 default) (pcohQ11 z0 z1 z3 z2) [] 54 false ⟨40,[]⟩))
noncomputable def pcohg1 (s:tSt.den) (n:tNi.den) (p:tP.den):List (Nat×AO):=[(0,(pcohk1 s)),(1,(pcohk3 n)),(2,(cF [(iI (p.1)),(iI (p.2.1))])),(3,(pcohk18 p)),(5,(cF [(iI (-30000))])),(6,(cF [(iI 30000)])),(7,(pcohk16 p)),(4,(pcohk17)),(8,(pcohk1 s)),(9,(pcohk3 n)),(10,(pcohk1 s)),(11,(pcohk3 n))]
noncomputable def pcohI0 (s:tSt.den) (n:tNi.den) (l:(Ty.sl tRe).den) (p:tP.den) (x130:Nat):Cfg:=⟨.ex (pcOf F6 53 [0,0,1,0,1,1]) ⟨(pcohQ0 s n l),(hpOf 13 (pcohg1 s n p++[(12,(pcohk7 s n))])),[],[],37,false⟩,⟨38,[]⟩,[(.lop (pcOf F6 53 [0,0,1,0,1,1]) 13 (pcohQ0 s n l) x130),(.blk 0),(.seq (pcOf F6 53 [1,1,1])),(.cal [(.tmp 6)] (.op (pcOf F6 27 [0,1,1,1]) 4 (some 40) ((opsOf (pcOf F6 27 [0,1,1,1]).c).toList.drop 4) (pcohQ1 s n l) [] 41 false ⟨39,[]⟩)),(.seq (pcOf F6 27 [1,1,1,1])),(pcohk8 s n p l),(.seq (pcOf F6 10 [1,1])),(.cal [(.tmp 10),(.tmp 11)] .top)]⟩
noncomputable def pcohg10:List (Nat×AV):=[(7,(pP 12 0)),(0,(.yld 20)),(1,(pP 18 0)),(2,(pP 19 0)),(3,(pP 21 0)),(9,(.fn 103 [] [(pP 22 0),(pP 23 0),(pP 24 0)])),(8,(.bool true))]
noncomputable def pcohQ12:Tmps:=(tmOf 24 (pcohg10))
noncomputable def pcohk15 (z0:tP.den) (z1:tNi.den):AV:=(iI (wr .i64 (z0.1-z1.1.1) * wr .i64 (z0.1-z1.1.1)+wr .i64 (z0.2.1-z1.1.2.1) * wr .i64 (z0.2.1-z1.1.2.1)))
noncomputable def pcohk24 (z0:tP.den) (z1:tNi.den):AV:=(iI (ptF (wr .i64 (z0.1-z1.1.1)) (wr .i64 (z0.2.1-z1.1.2.1))))
noncomputable def pcohg4 (s:tSt.den) (n:tNi.den) (l:(Ty.sl tRe).den) (p:tP.den):List (Nat×AV):=[(19,(pcohk0 s)),(20,(pcohk4 n)),(21,(.vs tRe (l.1) (l.2))),(22,(pP 2 0)),(23,(iI (p.1))),(24,(pP 2 1)),(25,(iI (p.2.1))),(26,(.sl 3 0 (2) (2) 1)),(27,(.fn 58 [] [(pP 5 0),(pP 6 0),(pP 7 0)])),(28,(.sl 4 0 (1) (1) 1)),(12,(pP 12 0)),(13,(iI 0)),(18,(.tup [(pP 12 0),(iI 0)])),(29,(.tup [(pP 12 0),(iI 0)])),(30,(pP 12 0)),(31,(iI 0)),(32,(iI 0)),(33,(.bool false)),(35,(pP 12 0)),(36,(.agg [(iI (p.1)),(iI (p.2.1))])),(37,(.agg [(pcohk15 p n),(pcohk24 p n)])),(38,(pP 12 0)),(39,(.bool true))]
noncomputable def pcohQ13 (s:tSt.den) (n:tNi.den) (l:(Ty.sl tRe).den) (p:tP.den):Tmps:=(tmOf 54 (pcohg0 s n l p++pcohg4 s n l p++[(14,(pP 15 0)),(15,(pP 16 0)),(16,(pP 17 0)),(40,(.fn 54 [] [(pP 18 0),(pP 19 0)]))]))
noncomputable def pcohk14 (z0:tSt.den):AV:=(.agg [(iI (z0.2.1.1)),(iI (z0.2.1.2.1))])
noncomputable def pcohk12 (z0:tSt.den):AV:=(iI (wr .i64 (wr .i64 (z0.2.1.2.1-z0.2.1.1)+1)))
noncomputable def pcohg8:List (Nat×AV):=[(0,(.yld 25)),(1,(pP 22 0)),(2,(pP 23 0)),(3,(pP 24 0))]
noncomputable def pcohQ14 (s:tSt.den):Tmps:=(tmOf 33 (pcohg8++[(7,(pcohk14 s)),(8,(pcohk12 s)),(9,(iI 0))]))
noncomputable def pcohk2 (z0:tP.den) (z1:tNi.den):AO:=(cF [(pcohk15 z0 z1),(pcohk24 z0 z1)])
noncomputable def pcohk13 (z0:tSt.den):AO:=(cF [(iI (z0.2.1.1)),(iI (z0.2.1.2.1))])
noncomputable def pcohk5 (z0:tNi.den):AV:=(iI (wr .i64 (wr .i64 (z0.2.2.1+z0.2.2.2.1)-1)))
noncomputable def pcohk21:HD:=⟨25,24,39,(pcohQ12),#[10],(pcOf F6 54 [0,0,1,1,0,1]),(pcOf F6 54 [1,0,1,1,0,1])⟩
noncomputable def pcohk9 (z0:tSt.den) (z1:tNi.den) (z2:(Ty.sl tRe).den) (z3:tP.den):HD:=⟨20,54,40,(pcohQ13 z0 z1 z2 z3),#[41],(pcOf F6 10 [0,0,1,0,1,1,1,1,1]),(pcOf F6 10 [1,0,1,0,1,1,1,1,1])⟩
noncomputable def pcohg3 (s:tSt.den) (n:tNi.den) (p:tP.den):List (Nat×AO):=[(12,(pcohk7 s n)),(13,(cF [(iI (p.1)),(iI (p.2.1))])),(14,(pcohk2 p n)),(18,(cF [(pP 12 0)])),(19,(cF [(.bool true)])),(21,(cF [(.yld 20)])),(22,(pcohk13 s)),(23,(cF [(iI (n.2.2.1)),(pcohk5 n)])),(24,(cF [(.fn 41 [] [])])),(26,(pcohk13 s)),(15,(pcohk2 p n))]
noncomputable def pcohI1 (s:tSt.den) (n:tNi.den) (l:(Ty.sl tRe).den) (p:tP.den) (x3:Int) (x62:Bool) (x63:Bool) (x124:Nat):Cfg:=⟨.ex (pcOf F6 103 [0,0,1]) ⟨(tmOf 33 (pcohg8++[(7,(pcohk14 s)),(8,(pcohk12 s)),(9,(iI x3))])),(hpOf 27 (pcohg1 s n p++pcohg3 s n p++[(16,(cF [(.bool x62)])),(17,(cF [(.bool x63)]))])),[],[⟨false,.normal⟩,⟨false,.normal⟩],33,false⟩,⟨38,[(pcohk21),(pcohk9 s n l p)]⟩,[(.lop (pcOf F6 103 [0,0,1]) 27 (pcohQ14 s) x124),(.blk 0),(.cal [] (.rng (pcohQ12) [] 24 false ⟨39,[(pcohk9 s n l p)]⟩)),(.blk 0),(.cal [] (.rng (pcohQ13 s n l p) [] 54 false ⟨40,[]⟩)),(.blk 0),(.seq (pcOf F6 10 [1,1,1,1,1,1])),(.cal [(.tmp 10),(.tmp 11)] .top)]⟩
noncomputable def pcohk6 (z0:tSt.den) (z1:tNi.den) (z2:Nat):AO:=(cF [(.vs tGr (z0.1.1) (z0.1.2)),(iI (z0.2.1.1)),(iI (z0.2.1.2.1)),(iI (z0.2.2.1.1)),(iI (z0.2.2.1.2.1)),(iI (z1.1.1)),(iI (z1.1.2.1)),(iI (z1.2.1)),(iI (z1.2.2.1)),(iI (z1.2.2.2.1)),(.sl 13 0 z2 z2 6)])
noncomputable def pcohI2 (s:tSt.den) (n:tNi.den) (l:(Ty.sl tRe).den) (p:tP.den) (x38:Int) (x91:Nat) (x93:List AV) (x133:Nat):Cfg:=⟨.ex (pcOf F6 53 [0,0,1,0,1,1]) ⟨(tmOf 37 (pcohg9 s n l++[(16,(iI x38))])),(hpOf 14 (pcohg1 s n p++[(12,(pcohk6 s n x91)),(13,(cF x93))])),[],[],37,false⟩,⟨38,[]⟩,[(.lop (pcOf F6 53 [0,0,1,0,1,1]) 13 (pcohQ0 s n l) x133),(.blk 0),(.seq (pcOf F6 53 [1,1,1])),(.cal [(.tmp 6)] (.op (pcOf F6 27 [0,1,1,1]) 4 (some 40) ((opsOf (pcOf F6 27 [0,1,1,1]).c).toList.drop 4) (pcohQ1 s n l) [] 41 false ⟨39,[]⟩)),(.seq (pcOf F6 27 [1,1,1,1])),(pcohk8 s n p l),(.seq (pcOf F6 10 [1,1])),(.cal [(.tmp 10),(.tmp 11)] .top)]⟩
noncomputable def pcohk11 (z0:tNi.den):AV:=(iI (wr .i64 (wr .i64 (wr .i64 (wr .i64 (z0.2.2.1+z0.2.2.2.1)-1)-z0.2.2.1)+1)))
noncomputable def pcohg2 (s:tSt.den) (n:tNi.den):List (Nat×AV):=[(7,(pcohk14 s)),(8,(pcohk12 s)),(10,(.bool true)),(12,(.agg [(iI (n.2.2.1)),(pcohk5 n)])),(13,(pcohk11 n))]
noncomputable def pcohQ15 (s:tSt.den) (n:tNi.den) (y0:Int):Tmps:=(tmOf 33 (pcohg8++pcohg2 s n++[(5,(iI y0)),(9,(iI y0)),(11,(iI y0)),(14,(iI 0))]))
noncomputable def pcohk20:PC:=(pcOf F6 103 [0,0,1,1,0,0,1,1,0,0,1])
noncomputable def pcohI3 (s:tSt.den) (n:tNi.den) (l:(Ty.sl tRe).den) (p:tP.den) (x0:Int) (x10:Int) (x69:Bool) (x70:Bool) (x140:Nat) (x145:Nat):Cfg:=⟨.ex (pcohk20) ⟨(tmOf 33 (pcohg8++pcohg2 s n++[(5,(iI x0)),(9,(iI x0)),(11,(iI x0)),(14,(iI x10))])),(hpOf 28 (pcohg1 s n p++pcohg3 s n p++[(16,(cF [(.bool x69)])),(17,(cF [(.bool x70)])),(27,(cF [(iI (n.2.2.1)),(pcohk5 n)]))])),[],[⟨false,.normal⟩,⟨false,.normal⟩],33,false⟩,⟨38,[(pcohk21),(pcohk9 s n l p)]⟩,[(.lop (pcohk20) 28 (pcohQ15 s n x0) x140),(.blk 2),(.blk 1),(.seq (pcOf F6 103 [1,1,1,0,0,1])),(.lop (pcOf F6 103 [0,0,1]) 27 (pcohQ14 s) x145),(.blk 0),(.cal [] (.rng (pcohQ12) [] 24 false ⟨39,[(pcohk9 s n l p)]⟩)),(.blk 0),(.cal [] (.rng (pcohQ13 s n l p) [] 54 false ⟨40,[]⟩)),(.blk 0),(.seq (pcOf F6 10 [1,1,1,1,1,1])),(.cal [(.tmp 10),(.tmp 11)] .top)]⟩
noncomputable def pcohg11:List (Nat×AV):=[(7,(pP 12 0)),(8,(.bool true)),(0,(.yld 21)),(1,(pP 19 0)),(2,(pP 20 0)),(3,(pP 22 0)),(9,(.fn 103 [] [(pP 23 0),(pP 24 0),(pP 25 0)]))]
noncomputable def pcohQ16:Tmps:=(tmOf 24 (pcohg11))
noncomputable def pcohQ17 (s:tSt.den) (n:tNi.den) (l:(Ty.sl tRe).den) (p:tP.den):Tmps:=(tmOf 54 (pcohg0 s n l p++pcohg4 s n l p++[(14,(pP 16 0)),(15,(pP 17 0)),(16,(pP 18 0)),(40,(.fn 54 [] [(pP 19 0),(pP 20 0)]))]))
noncomputable def pcohg7:List (Nat×AV):=[(0,(.yld 26)),(1,(pP 23 0)),(2,(pP 24 0)),(3,(pP 25 0))]
noncomputable def pcohQ18 (s:tSt.den):Tmps:=(tmOf 33 (pcohg7++[(7,(pcohk14 s)),(8,(pcohk12 s)),(9,(iI 0))]))
noncomputable def pcohk22:HD:=⟨26,24,39,(pcohQ16),#[10],(pcOf F6 54 [0,0,1,1,0,1]),(pcOf F6 54 [1,0,1,1,0,1])⟩
noncomputable def pcohk10 (z0:tSt.den) (z1:tNi.den) (z2:(Ty.sl tRe).den) (z3:tP.den):HD:=⟨21,54,40,(pcohQ17 z0 z1 z2 z3),#[41],(pcOf F6 10 [0,0,1,0,1,1,1,1,1]),(pcOf F6 10 [1,0,1,0,1,1,1,1,1])⟩
noncomputable def pcohg5 (n:tNi.den) (p:tP.den) (s:tSt.den):List (Nat×AO):=[(15,(pcohk2 p n)),(14,(cF [(iI (p.1)),(iI (p.2.1))])),(16,(pcohk2 p n)),(19,(cF [(pP 12 0)])),(20,(cF [(.bool true)])),(22,(cF [(.yld 21)])),(23,(pcohk13 s)),(24,(cF [(iI (n.2.2.1)),(pcohk5 n)])),(25,(cF [(.fn 41 [] [])])),(27,(pcohk13 s))]
noncomputable def pcohI4 (s:tSt.den) (n:tNi.den) (l:(Ty.sl tRe).den) (p:tP.den) (x3:Int) (x56:Nat) (x58:List AV) (x65:Bool) (x66:Bool) (x127:Nat):Cfg:=⟨.ex (pcOf F6 103 [0,0,1]) ⟨(tmOf 33 (pcohg7++[(7,(pcohk14 s)),(8,(pcohk12 s)),(9,(iI x3))])),(hpOf 28 (pcohg1 s n p++pcohg5 n p s++[(12,(pcohk6 s n x56)),(13,(cF x58)),(17,(cF [(.bool x65)])),(18,(cF [(.bool x66)]))])),[],[⟨false,.normal⟩,⟨false,.normal⟩],33,false⟩,⟨38,[(pcohk22),(pcohk10 s n l p)]⟩,[(.lop (pcOf F6 103 [0,0,1]) 28 (pcohQ18 s) x127),(.blk 0),(.cal [] (.rng (pcohQ16) [] 24 false ⟨39,[(pcohk10 s n l p)]⟩)),(.blk 0),(.cal [] (.rng (pcohQ17 s n l p) [] 54 false ⟨40,[]⟩)),(.blk 0),(.seq (pcOf F6 10 [1,1,1,1,1,1])),(.cal [(.tmp 10),(.tmp 11)] .top)]⟩
noncomputable def pcohQ19:Tmps:=(tmOf 29 [(0,(.yld 32)),(1,(pP 30 0)),(2,(pP 31 0)),(6,(pP 12 0)),(7,(pP 12 0)),(8,(pP 12 10)),(9,.nils),(10,(iI 0)),(11,(iI 0))])
noncomputable def pcohQ20 (y0:Int) (y1:Int):Tmps:=(tmOf 24 (pcohg10++[(4,(pP 29 0)),(10,(.ifc 101 (.agg [(iI y0),(iI y1)]))),(11,(pP 12 0)),(12,(.bool true)),(13,(.fn 79 [] [(pP 30 0),(pP 31 0)]))]))
noncomputable def pcohk23:PC:=(pcOf F6 103 [0,1,0,0,1,1,0,0,1,1,0,0,1,1,0,0,1])
noncomputable def pcohI5 (s:tSt.den) (n:tNi.den) (l:(Ty.sl tRe).den) (p:tP.den) (x60:Bool) (x61:Bool) (x71:Int) (x72:Int) (x130:Nat) (x183:Int) (x184:Int) (x202:Int) (x267:Nat) (x272:Nat):Cfg:=⟨.ex (pcOf F6 79 [0,0,1]) ⟨(pcohQ19),(hpOf 33 (pcohg1 s n p++pcohg3 s n p++[(16,(cF [(.bool x60)])),(17,(cF [(.bool x61)])),(27,(cF [(iI (n.2.2.1)),(pcohk5 n)])),(28,(cF [(iI x71),(iI x72)])),(29,(cF [(.ifc 101 (.agg [(iI x71),(iI x72)]))])),(30,(cF [(pP 12 0)])),(31,(cF [(.bool true)]))])),[],[⟨false,.normal⟩,⟨false,.normal⟩],29,false⟩,⟨38,[⟨32,24,39,(pcohQ20 x71 x72),#[14,15],(pcOf F6 54 [0,0,1,0,0,1,0,1,1,0,1]),(pcOf F6 54 [1,0,1,0,0,1,0,1,1,0,1])⟩,(pcohk9 s n l p)]⟩,[(.lop (pcOf F6 79 [0,0,1]) 33 (pcohQ19) x130),(.blk 0),(.cal [] (.rng (pcohQ20 x71 x72) [] 24 true ⟨39,[(pcohk9 s n l p)]⟩)),(.blk 2),(.seq (pcOf F6 54 [1,0,1,0,1,1,0,1])),(.blk 1),(.rnd [] (.op (pcohk23) 13 (some 29) ((opsOf (pcohk23).c).toList.drop 13) (tmOf 33 (pcohg8++pcohg2 s n++[(5,(iI x183)),(6,(iI x184)),(9,(iI x183)),(11,(iI x183)),(14,(iI x184)),(15,(.bool true)),(16,(iI x184)),(17,(.yld 25)),(18,(.fn 41 [] [])),(19,(pP 22 0)),(20,(iI (s.2.1.1))),(21,(iI x183)),(22,(iI x71)),(23,(pP 23 0)),(24,(iI (n.2.2.1))),(25,(iI x184)),(26,(iI x202)),(27,(.agg [(iI x71),(iI x72)])),(28,(.ifc 101 (.agg [(iI x71),(iI x72)])))])) [] 33 false ⟨38,[(pcohk21),(pcohk9 s n l p)]⟩)),(.seq (pcOf F6 103 [1,1,0,0,1,1,0,0,1,1,0,0,1,1,0,0,1])),(.blk 3),(.seq (pcOf F6 103 [1,1,1,0,0,1,1,0,0,1,1,0,0,1])),(.lop (pcohk20) 28 (pcohQ15 s n x183) x267),(.blk 2),(.blk 1),(.seq (pcOf F6 103 [1,1,1,0,0,1])),(.lop (pcOf F6 103 [0,0,1]) 27 (pcohQ14 s) x272),(.blk 0),(.cal [] (.rng (pcohQ12) [] 24 false ⟨39,[(pcohk9 s n l p)]⟩)),(.blk 0),(.cal [] (.rng (pcohQ13 s n l p) [] 54 false ⟨40,[]⟩)),(.blk 0),(.seq (pcOf F6 10 [1,1,1,1,1,1])),(.cal [(.tmp 10),(.tmp 11)] .top)]⟩
noncomputable def pcohQ21 (s:tSt.den) (n:tNi.den) (y0:Int):Tmps:=(tmOf 33 (pcohg7++pcohg2 s n++[(5,(iI y0)),(9,(iI y0)),(11,(iI y0)),(14,(iI 0))]))
noncomputable def pcohI6 (s:tSt.den) (n:tNi.den) (l:(Ty.sl tRe).den) (p:tP.den) (x0:Int) (x10:Int) (x63:Nat) (x65:List AV) (x72:Bool) (x73:Bool) (x143:Nat) (x148:Nat):Cfg:=⟨.ex (pcohk20) ⟨(tmOf 33 (pcohg7++pcohg2 s n++[(5,(iI x0)),(9,(iI x0)),(11,(iI x0)),(14,(iI x10))])),(hpOf 29 (pcohg1 s n p++pcohg5 n p s++[(12,(pcohk6 s n x63)),(13,(cF x65)),(17,(cF [(.bool x72)])),(18,(cF [(.bool x73)])),(28,(cF [(iI (n.2.2.1)),(pcohk5 n)]))])),[],[⟨false,.normal⟩,⟨false,.normal⟩],33,false⟩,⟨38,[(pcohk22),(pcohk10 s n l p)]⟩,[(.lop (pcohk20) 29 (pcohQ21 s n x0) x143),(.blk 2),(.blk 1),(.seq (pcOf F6 103 [1,1,1,0,0,1])),(.lop (pcOf F6 103 [0,0,1]) 28 (pcohQ18 s) x148),(.blk 0),(.cal [] (.rng (pcohQ16) [] 24 false ⟨39,[(pcohk10 s n l p)]⟩)),(.blk 0),(.cal [] (.rng (pcohQ17 s n l p) [] 54 false ⟨40,[]⟩)),(.blk 0),(.seq (pcOf F6 10 [1,1,1,1,1,1])),(.cal [(.tmp 10),(.tmp 11)] .top)]⟩
noncomputable def pcohQ22 (y0:Int) (y1:Int):Tmps:=(tmOf 24 (pcohg11++[(4,(pP 30 0)),(10,(.ifc 101 (.agg [(iI y0),(iI y1)]))),(11,(pP 12 0)),(12,(.bool true)),(13,(.fn 79 [] [(pP 31 0),(pP 32 0)]))]))
noncomputable def pcohI7 (s:tSt.den) (n:tNi.den) (l:(Ty.sl tRe).den) (p:tP.den) (x0:Nat) (x2:Int) (x3:Int) (x58:List AV) (x65:Bool) (x66:Bool) (x76:Int) (x77:Int) (x137:Nat) (x190:Int) (x191:Int) (x209:Int) (x274:Nat) (x279:Nat):Cfg:=⟨.ex (pcOf F6 79 [0,0,1]) ⟨(tmOf 29 [(0,(.yld 33)),(1,(pP 31 0)),(2,(pP 32 0)),(6,(pP 12 0)),(7,(pP 12 0)),(8,(pP 12 10)),(9,(.sl 13 0 x0 x0 6)),(10,(iI x2)),(11,(iI x3))]),(hpOf 34 (pcohg1 s n p++pcohg5 n p s++[(12,(pcohk6 s n x0)),(13,(cF x58)),(17,(cF [(.bool x65)])),(18,(cF [(.bool x66)])),(28,(cF [(iI (n.2.2.1)),(pcohk5 n)])),(29,(cF [(iI x76),(iI x77)])),(30,(cF [(.ifc 101 (.agg [(iI x76),(iI x77)]))])),(31,(cF [(pP 12 0)])),(32,(cF [(.bool true)]))])),[],[⟨false,.normal⟩,⟨false,.normal⟩],29,false⟩,⟨38,[⟨33,24,39,(pcohQ22 x76 x77),#[14,15],(pcOf F6 54 [0,0,1,0,0,1,0,1,1,0,1]),(pcOf F6 54 [1,0,1,0,0,1,0,1,1,0,1])⟩,(pcohk10 s n l p)]⟩,[(.lop (pcOf F6 79 [0,0,1]) 34 (tmOf 29 [(0,(.yld 33)),(1,(pP 31 0)),(2,(pP 32 0)),(6,(pP 12 0)),(7,(pP 12 0)),(8,(pP 12 10)),(9,(.sl 13 0 x0 x0 6)),(10,(iI x2)),(11,(iI 0))]) x137),(.blk 0),(.cal [] (.rng (pcohQ22 x76 x77) [] 24 true ⟨39,[(pcohk10 s n l p)]⟩)),(.blk 2),(.seq (pcOf F6 54 [1,0,1,0,1,1,0,1])),(.blk 1),(.rnd [] (.op (pcohk23) 13 (some 29) ((opsOf (pcohk23).c).toList.drop 13) (tmOf 33 (pcohg7++pcohg2 s n++[(5,(iI x190)),(6,(iI x191)),(9,(iI x190)),(11,(iI x190)),(14,(iI x191)),(15,(.bool true)),(16,(iI x191)),(17,(.yld 26)),(18,(.fn 41 [] [])),(19,(pP 23 0)),(20,(iI (s.2.1.1))),(21,(iI x190)),(22,(iI x76)),(23,(pP 24 0)),(24,(iI (n.2.2.1))),(25,(iI x191)),(26,(iI x209)),(27,(.agg [(iI x76),(iI x77)])),(28,(.ifc 101 (.agg [(iI x76),(iI x77)])))])) [] 33 false ⟨38,[(pcohk22),(pcohk10 s n l p)]⟩)),(.seq (pcOf F6 103 [1,1,0,0,1,1,0,0,1,1,0,0,1,1,0,0,1])),(.blk 3),(.seq (pcOf F6 103 [1,1,1,0,0,1,1,0,0,1,1,0,0,1])),(.lop (pcohk20) 29 (pcohQ21 s n x190) x274),(.blk 2),(.blk 1),(.seq (pcOf F6 103 [1,1,1,0,0,1])),(.lop (pcOf F6 103 [0,0,1]) 28 (pcohQ18 s) x279),(.blk 0),(.cal [] (.rng (pcohQ16) [] 24 false ⟨39,[(pcohk10 s n l p)]⟩)),(.blk 0),(.cal [] (.rng (pcohQ17 s n l p) [] 54 false ⟨40,[]⟩)),(.blk 0),(.seq (pcOf F6 10 [1,1,1,1,1,1])),(.cal [(.tmp 10),(.tmp 11)] .top)]⟩
theorem pcoh_start (s:tSt.den) (n:tNi.den) (l:(Ty.sl tRe).den) (p:tP.den):adv F6 ({ (Z6 [53,79,103]).flat [13] with nf:=[4] }:Sy) 20000 (startC F6 10 [tSt.av s,tNi.av n,.vs tRe l.1 l.2,tP.av p,.bool true] 40)=(bif !ieq (cknS s n l.2).2 0 then (sI p.2.1 (sI p.1 (sI n.1.1 (sI n.1.2.1 (sI n.2.1 (sI n.2.2.1 (sI n.2.2.2.1 (sI n.1.1 (sI n.1.2.1 (sI n.2.1 (sI n.2.2.1 (sI n.2.2.2.1 (sB s.1.1 (sV tGr s.1.2 (sI s.2.1.1 (sI s.2.1.2.1 (sI s.2.2.1.1 (sI s.2.2.1.2.1 (sB s.1.1 (sV tGr s.1.2 (sI s.2.1.1 (sI s.2.1.2.1 (sI s.2.2.1.1 (sI s.2.2.1.2.1 (bif !ieq (cknS s n l.2).2 0 then some (.done (.tup [(.int .i64 (0)),(.int .i64 ((cknS s n l.2).2))])) else none))))))))))))))))))))))))) else (bif !ile (-30000) p.1 then (sI p.2.1 (sI p.1 (sI n.1.1 (sI n.1.2.1 (sI n.2.1 (sI n.2.2.1 (sI n.2.2.2.1 (sI n.1.1 (sI n.1.2.1 (sI n.2.1 (sI n.2.2.1 (sI n.2.2.2.1 (sB s.1.1 (sV tGr s.1.2 (sI s.2.1.1 (sI s.2.1.2.1 (sI s.2.2.1.1 (sI s.2.2.1.2.1 (sB s.1.1 (sV tGr s.1.2 (sI s.2.1.1 (sI s.2.1.2.1 (sI s.2.2.1.1 (sI s.2.2.1.2.1 (some (.done (.tup [(.int .i64 (0)),(.int .i64 (7))]))))))))))))))))))))))))))) else (bif !ile p.1 30000 then (sI p.2.1 (sI p.1 (sI n.1.1 (sI n.1.2.1 (sI n.2.1 (sI n.2.2.1 (sI n.2.2.2.1 (sI n.1.1 (sI n.1.2.1 (sI n.2.1 (sI n.2.2.1 (sI n.2.2.2.1 (sB s.1.1 (sV tGr s.1.2 (sI s.2.1.1 (sI s.2.1.2.1 (sI s.2.2.1.1 (sI s.2.2.1.2.1 (sB s.1.1 (sV tGr s.1.2 (sI s.2.1.1 (sI s.2.1.2.1 (sI s.2.2.1.1 (sI s.2.2.1.2.1 (some (.done (.tup [(.int .i64 (0)),(.int .i64 (7))]))))))))))))))))))))))))))) else (bif !ile (-30000) p.2.1 then (sI p.2.1 (sI p.1 (sI n.1.1 (sI n.1.2.1 (sI n.2.1 (sI n.2.2.1 (sI n.2.2.2.1 (sI n.1.1 (sI n.1.2.1 (sI n.2.1 (sI n.2.2.1 (sI n.2.2.2.1 (sB s.1.1 (sV tGr s.1.2 (sI s.2.1.1 (sI s.2.1.2.1 (sI s.2.2.1.1 (sI s.2.2.1.2.1 (sB s.1.1 (sV tGr s.1.2 (sI s.2.1.1 (sI s.2.1.2.1 (sI s.2.2.1.1 (sI s.2.2.1.2.1 (some (.done (.tup [(.int .i64 (0)),(.int .i64 (7))]))))))))))))))))))))))))))) else (bif !ile p.2.1 30000 then (sI p.2.1 (sI p.1 (sI n.1.1 (sI n.1.2.1 (sI n.2.1 (sI n.2.2.1 (sI n.2.2.2.1 (sI n.1.1 (sI n.1.2.1 (sI n.2.1 (sI n.2.2.1 (sI n.2.2.2.1 (sB s.1.1 (sV tGr s.1.2 (sI s.2.1.1 (sI s.2.1.2.1 (sI s.2.2.1.1 (sI s.2.2.1.2.1 (sB s.1.1 (sV tGr s.1.2 (sI s.2.1.1 (sI s.2.1.2.1 (sI s.2.2.1.1 (sI s.2.2.1.2.1 (some (.done (.tup [(.int .i64 (0)),(.int .i64 (7))]))))))))))))))))))))))))))) else some (.stop (pcohI0 s n l p (1048575)))))))):=by kernel_rfl
theorem pcoh_step0 (s:tSt.den) (n:tNi.den) (l:(Ty.sl tRe).den) (p:tP.den) (x130:Nat):adv F6 ({ (Z6 [53,79,103]).flat [13] with nf:=[4] }:Sy) 20000 (pcohI0 s n l p (x130+1))=(bif !ile (Int.ofNat l.2.length) 0 then (bif inB 0 l.2.length then (bif nrB (wr .i64 ((l.2.getD (Int.toNat 0) tRe.dflt).1.1-n.1.1)) (wr .i64 ((l.2.getD (Int.toNat 0) tRe.dflt).1.2.1-n.1.2.1)) then (sI n.1.2.1 (sI (l.2.getD (Int.toNat 0) tRe.dflt).1.2.1 (sI n.1.1 (sI (l.2.getD (Int.toNat 0) tRe.dflt).1.1 (sI (l.2.getD (Int.toNat 0) tRe.dflt).1.1 (sI (l.2.getD (Int.toNat 0) tRe.dflt).1.2.1 (sI (l.2.getD (Int.toNat 0) tRe.dflt).1.1 (sI (l.2.getD (Int.toNat 0) tRe.dflt).1.2.1 (sB (l.2.getD (Int.toNat 0) tRe.dflt).2.1 (sB (l.2.getD (Int.toNat 0) tRe.dflt).2.2.1 (sI (l.2.getD (Int.toNat 0) tRe.dflt).1.1 (sI (l.2.getD (Int.toNat 0) tRe.dflt).1.2.1 (sB (l.2.getD (Int.toNat 0) tRe.dflt).2.1 (sB (l.2.getD (Int.toNat 0) tRe.dflt).2.2.1 (some (.stop (pcohI2 s n l p (1) (1) ([AV.int IntKind.i64 (l.2.getD (Int.toNat 0) tRe.dflt).1.1,AV.int IntKind.i64 (l.2.getD (Int.toNat 0) tRe.dflt).1.2.1,AV.bool (l.2.getD (Int.toNat 0) tRe.dflt).2.1,AV.bool (l.2.getD (Int.toNat 0) tRe.dflt).2.2.1,AV.int IntKind.i64 (wr .i64 ((l.2.getD (Int.toNat 0) tRe.dflt).1.1-n.1.1) * wr .i64 ((l.2.getD (Int.toNat 0) tRe.dflt).1.1-n.1.1)+wr .i64 ((l.2.getD (Int.toNat 0) tRe.dflt).1.2.1-n.1.2.1) * wr .i64 ((l.2.getD (Int.toNat 0) tRe.dflt).1.2.1-n.1.2.1)),AV.int IntKind.i64 (ptF (wr .i64 ((l.2.getD (Int.toNat 0) tRe.dflt).1.1-n.1.1)) (wr .i64 ((l.2.getD (Int.toNat 0) tRe.dflt).1.2.1-n.1.2.1)))]) (x130)))))))))))))))))) else none) else none) else (sI p.2.1 (sI p.1 (sI n.1.1 (sI n.1.2.1 (sI n.2.1 (sI n.2.2.1 (sI n.2.2.2.1 (sI n.1.1 (sI n.1.2.1 (sI n.2.1 (sI n.2.2.1 (sI n.2.2.2.1 (sB s.1.1 (sV tGr s.1.2 (sI s.2.1.1 (sI s.2.1.2.1 (sI s.2.2.1.1 (sI s.2.2.1.2.1 (sB s.1.1 (sV tGr s.1.2 (sI s.2.1.1 (sI s.2.1.2.1 (sI s.2.2.1.1 (sI s.2.2.1.2.1 (bif nrB (wr .i64 (p.1-n.1.1)) (wr .i64 (p.2.1-n.1.2.1)) then (sI n.1.2.1 (sI p.2.1 (sI n.1.1 (sI p.1 (sI n.2.2.2.1 (sI n.2.2.1 (sI n.2.2.1 (sI s.2.1.1 (sI s.2.1.2.1 (some (.stop (pcohI1 s n l p (0) (false) (false) (1048575))))))))))))) else none)))))))))))))))))))))))))):=by kernel_rfl
theorem pcoh_step1 (s:tSt.den) (n:tNi.den) (l:(Ty.sl tRe).den) (p:tP.den) (x3:Int) (x62:Bool) (x63:Bool) (x124:Nat):adv F6 ({ (Z6 [53,79,103]).flat [13] with nf:=[4] }:Sy) 20000 (pcohI1 s n l p x3 x62 x63 (x124+1))=(bif !ile (wr .i64 (wr .i64 (s.2.1.2.1-s.2.1.1)+1)) x3 then some (.stop (pcohI3 s n l p (x3) (0) (x62) (x63) (1048575) (x124+1))) else (bif x62 then (bif x63 then some (.done (.tup [(.int .i64 (1)),(.int .i64 (0))])) else (bif x62 then some (.done (.tup [(.int .i64 (2)),(.int .i64 (0))])) else (bif x63 then some (.done (.tup [(.int .i64 (0)),(.int .i64 (0))])) else some (.done (.tup [(.int .i64 (0)),(.int .i64 (9))]))))) else (bif x62 then some (.done (.tup [(.int .i64 (2)),(.int .i64 (0))])) else (bif x63 then some (.done (.tup [(.int .i64 (0)),(.int .i64 (0))])) else some (.done (.tup [(.int .i64 (0)),(.int .i64 (9))])))))):=by kernel_rfl
theorem pcoh_step2 (s:tSt.den) (n:tNi.den) (l:(Ty.sl tRe).den) (p:tP.den) (x38:Int) (x91:Nat) (x93:List AV) (x133:Nat):adv F6 ({ (Z6 [53,79,103]).flat [13] with nf:=[4] }:Sy) 20000 (pcohI2 s n l p x38 x91 x93 (x133+1))=(bif !ile (Int.ofNat l.2.length) x38 then (bif inB x38 l.2.length then (bif nrB (wr .i64 ((l.2.getD x38.toNat tRe.dflt).1.1-n.1.1)) (wr .i64 ((l.2.getD x38.toNat tRe.dflt).1.2.1-n.1.2.1)) then (sI n.1.2.1 (sI (l.2.getD x38.toNat tRe.dflt).1.2.1 (sI n.1.1 (sI (l.2.getD x38.toNat tRe.dflt).1.1 (bif (0+x91 * 6).beq x93.length then (bif x91.ble 1048576 then (sI (l.2.getD x38.toNat tRe.dflt).1.1 (sI (l.2.getD x38.toNat tRe.dflt).1.2.1 (sI (l.2.getD x38.toNat tRe.dflt).1.1 (sI (l.2.getD x38.toNat tRe.dflt).1.2.1 (sB (l.2.getD x38.toNat tRe.dflt).2.1 (sB (l.2.getD x38.toNat tRe.dflt).2.2.1 (sI (l.2.getD x38.toNat tRe.dflt).1.1 (sI (l.2.getD x38.toNat tRe.dflt).1.2.1 (sB (l.2.getD x38.toNat tRe.dflt).2.1 (sB (l.2.getD x38.toNat tRe.dflt).2.2.1 (bif avbeq (AV.sl 13 0 x91 x91 6) (AV.sl 13 0 x91 x91 6) then (bif avbeq (AV.sl 13 0 x91 x91 6) (AV.sl 13 0 x91 x91 6) then (bif plO (AO.cells false (x93++[AV.int IntKind.i64 (l.2.getD x38.toNat tRe.dflt).1.1,AV.int IntKind.i64 (l.2.getD x38.toNat tRe.dflt).1.2.1,AV.bool (l.2.getD x38.toNat tRe.dflt).2.1,AV.bool (l.2.getD x38.toNat tRe.dflt).2.2.1,AV.int IntKind.i64 (wr .i64 ((l.2.getD x38.toNat tRe.dflt).1.1-n.1.1) * wr .i64 ((l.2.getD x38.toNat tRe.dflt).1.1-n.1.1)+wr .i64 ((l.2.getD x38.toNat tRe.dflt).1.2.1-n.1.2.1) * wr .i64 ((l.2.getD x38.toNat tRe.dflt).1.2.1-n.1.2.1)),AV.int IntKind.i64 (ptF (wr .i64 ((l.2.getD x38.toNat tRe.dflt).1.1-n.1.1)) (wr .i64 ((l.2.getD x38.toNat tRe.dflt).1.2.1-n.1.2.1)))])) then some (.stop (pcohI2 s n l p (wr .i64 (x38+1)) (x91+1) (x93++[AV.int IntKind.i64 (l.2.getD x38.toNat tRe.dflt).1.1,AV.int IntKind.i64 (l.2.getD x38.toNat tRe.dflt).1.2.1,AV.bool (l.2.getD x38.toNat tRe.dflt).2.1,AV.bool (l.2.getD x38.toNat tRe.dflt).2.2.1,AV.int IntKind.i64 (wr .i64 ((l.2.getD x38.toNat tRe.dflt).1.1-n.1.1) * wr .i64 ((l.2.getD x38.toNat tRe.dflt).1.1-n.1.1)+wr .i64 ((l.2.getD x38.toNat tRe.dflt).1.2.1-n.1.2.1) * wr .i64 ((l.2.getD x38.toNat tRe.dflt).1.2.1-n.1.2.1)),AV.int IntKind.i64 (ptF (wr .i64 ((l.2.getD x38.toNat tRe.dflt).1.1-n.1.1)) (wr .i64 ((l.2.getD x38.toNat tRe.dflt).1.2.1-n.1.2.1)))]) (x133))) else none) else none) else none))))))))))) else none) else none))))) else none) else none) else (sI p.2.1 (sI p.1 (sI n.1.1 (sI n.1.2.1 (sI n.2.1 (sI n.2.2.1 (sI n.2.2.2.1 (sI n.1.1 (sI n.1.2.1 (sI n.2.1 (sI n.2.2.1 (sI n.2.2.2.1 (sB s.1.1 (sV tGr s.1.2 (sI s.2.1.1 (sI s.2.1.2.1 (sI s.2.2.1.1 (sI s.2.2.1.2.1 (sB s.1.1 (sV tGr s.1.2 (sI s.2.1.1 (sI s.2.1.2.1 (sI s.2.2.1.1 (sI s.2.2.1.2.1 (bif nrB (wr .i64 (p.1-n.1.1)) (wr .i64 (p.2.1-n.1.2.1)) then (sI n.1.2.1 (sI p.2.1 (sI n.1.1 (sI p.1 (sI n.2.2.2.1 (sI n.2.2.1 (sI n.2.2.1 (sI s.2.1.1 (sI s.2.1.2.1 (some (.stop (pcohI4 s n l p (0) (x91) (x93) (false) (false) (1048575))))))))))))) else none)))))))))))))))))))))))))):=by kernel_rfl
theorem pcoh_step3 (s:tSt.den) (n:tNi.den) (l:(Ty.sl tRe).den) (p:tP.den) (x0:Int) (x10:Int) (x69:Bool) (x70:Bool) (x140:Nat) (x145:Nat):adv F6 ({ (Z6 [53,79,103]).flat [13] with nf:=[4] }:Sy) 20000 (pcohI3 s n l p x0 x10 x69 x70 (x140+1) (x145+1))=(bif !ile (wr .i64 (wr .i64 (wr .i64 (wr .i64 (n.2.2.1+n.2.2.2.1)-1)-n.2.2.1)+1)) x10 then some (.stop (pcohI5 s n l p (x69) (x70) (wr .i64 (s.2.1.1+x0)) ((wr .i64 (n.2.2.1+x10)).tmod 32) (1048575) (x0) (x10) (wr .i64 (n.2.2.1+x10)) (x140+1) (x145+1))) else some (.stop (pcohI1 s n l p (wr .i64 (x0+1)) (x69) (x70) (x145)))):=by kernel_rfl
theorem pcoh_step4 (s:tSt.den) (n:tNi.den) (l:(Ty.sl tRe).den) (p:tP.den) (x3:Int) (x56:Nat) (x58:List AV) (x65:Bool) (x66:Bool) (x127:Nat):adv F6 ({ (Z6 [53,79,103]).flat [13] with nf:=[4] }:Sy) 20000 (pcohI4 s n l p x3 x56 x58 x65 x66 (x127+1))=(bif !ile (wr .i64 (wr .i64 (s.2.1.2.1-s.2.1.1)+1)) x3 then some (.stop (pcohI6 s n l p (x3) (0) (x56) (x58) (x65) (x66) (1048575) (x127+1))) else (bif x65 then (bif x66 then some (.done (.tup [(.int .i64 (1)),(.int .i64 (0))])) else (bif x65 then some (.done (.tup [(.int .i64 (2)),(.int .i64 (0))])) else (bif x66 then some (.done (.tup [(.int .i64 (0)),(.int .i64 (0))])) else some (.done (.tup [(.int .i64 (0)),(.int .i64 (9))]))))) else (bif x65 then some (.done (.tup [(.int .i64 (2)),(.int .i64 (0))])) else (bif x66 then some (.done (.tup [(.int .i64 (0)),(.int .i64 (0))])) else some (.done (.tup [(.int .i64 (0)),(.int .i64 (9))])))))):=by kernel_rfl
theorem pcoh_step5 (s:tSt.den) (n:tNi.den) (l:(Ty.sl tRe).den) (p:tP.den) (x60:Bool) (x61:Bool) (x71:Int) (x72:Int) (x130:Nat) (x183:Int) (x184:Int) (x202:Int) (x267:Nat) (x272:Nat):adv F6 ({ (Z6 [53,79,103]).flat [13] with nf:=[4] }:Sy) 20000 (pcohI5 s n l p x60 x61 x71 x72 (x130+1) x183 x184 x202 (x267+1) (x272+1))=(bif hcB x71 x72 (ptF (wr .i64 (p.1-n.1.1)) (wr .i64 (p.2.1-n.1.2.1))) then (bif hrdF x71 x72 (wr .i64 (p.1-n.1.1) * wr .i64 (p.1-n.1.1)+wr .i64 (p.2.1-n.1.2.1) * wr .i64 (p.2.1-n.1.2.1)) (ptF (wr .i64 (p.1-n.1.1)) (wr .i64 (p.2.1-n.1.2.1))) then some (.stop (pcohI3 s n l p (x183) (wr .i64 (x184+1)) (true) (x61) (x267) (x272+1))) else some (.stop (pcohI3 s n l p (x183) (wr .i64 (x184+1)) (x60) (true) (x267) (x272+1)))) else none):=by kernel_rfl
theorem pcoh_step6 (s:tSt.den) (n:tNi.den) (l:(Ty.sl tRe).den) (p:tP.den) (x0:Int) (x10:Int) (x63:Nat) (x65:List AV) (x72:Bool) (x73:Bool) (x143:Nat) (x148:Nat):adv F6 ({ (Z6 [53,79,103]).flat [13] with nf:=[4] }:Sy) 20000 (pcohI6 s n l p x0 x10 x63 x65 x72 x73 (x143+1) (x148+1))=(bif !ile (wr .i64 (wr .i64 (wr .i64 (wr .i64 (n.2.2.1+n.2.2.2.1)-1)-n.2.2.1)+1)) x10 then some (.stop (pcohI7 s n l p (x63) (Int.ofNat x63) (0) (x65) (x72) (x73) (wr .i64 (s.2.1.1+x0)) ((wr .i64 (n.2.2.1+x10)).tmod 32) (1048575) (x0) (x10) (wr .i64 (n.2.2.1+x10)) (x143+1) (x148+1))) else (bif plO (AO.cells false x65) then some (.stop (pcohI4 s n l p (wr .i64 (x0+1)) (x63) (x65) (x72) (x73) (x148))) else none)):=by kernel_rfl
theorem pcoh_step7 (s:tSt.den) (n:tNi.den) (l:(Ty.sl tRe).den) (p:tP.den) (x0:Nat) (x2:Int) (x3:Int) (x58:List AV) (x65:Bool) (x66:Bool) (x76:Int) (x77:Int) (x137:Nat) (x190:Int) (x191:Int) (x209:Int) (x274:Nat) (x279:Nat):adv F6 ({ (Z6 [53,79,103]).flat [13] with nf:=[4] }:Sy) 20000 (pcohI7 s n l p x0 x2 x3 x58 x65 x66 x76 x77 (x137+1) x190 x191 x209 (x274+1) (x279+1))=(bif !ile x2 x3 then (bif inB x3 x0 then (bif isZs x58 [AV.int IntKind.i64 0,AV.int IntKind.i64 0,AV.bool false,AV.bool false,AV.int IntKind.i64 0,AV.int IntKind.i64 0] (0+x3.toNat * 6) then (bif toB (x58.getD (0+x3.toNat * 6+1+1) AV.nili) == true then (bif hcB x76 x77 (toI (x58.getD (0+x3.toNat * 6+1+1+1+1+1) AV.nili)) then (sI (toI (x58.getD (0+x3.toNat * 6+1+1+1+1) AV.nili)) (sI (toI (x58.getD (0+x3.toNat * 6+1+1+1+1+1) AV.nili)) (sB (toB (x58.getD (0+x3.toNat * 6+1+1+1) AV.nili)) (sB (toB (x58.getD (0+x3.toNat * 6+1+1+1) AV.nili)) (bif !toB (x58.getD (0+x3.toNat * 6+1+1+1) AV.nili) == hrdF x76 x77 (toI (x58.getD (0+x3.toNat * 6+1+1+1+1) AV.nili)) (toI (x58.getD (0+x3.toNat * 6+1+1+1+1+1) AV.nili)) then (bif plO (AO.cells false x58) then some (.stop (pcohI6 s n l p (x190) (wr .i64 (x191+1)) (x0) (x58) (x65) (x66) (x274) (x279+1))) else none) else (bif plO (AO.cells false x58) then some (.stop (pcohI7 s n l p (x0) (x2) (wr .i64 (x3+1)) (x58) (x65) (x66) (x76) (x77) (x137) (x190) (x191) (x209) (x274+1) (x279+1))) else none)))))) else none) else (bif plO (AO.cells false x58) then some (.stop (pcohI7 s n l p (x0) (x2) (wr .i64 (x3+1)) (x58) (x65) (x66) (x76) (x77) (x137) (x190) (x191) (x209) (x274+1) (x279+1))) else none)) else none) else none) else (bif hcB x76 x77 (ptF (wr .i64 (p.1-n.1.1)) (wr .i64 (p.2.1-n.1.2.1))) then (bif hrdF x76 x77 (wr .i64 (p.1-n.1.1) * wr .i64 (p.1-n.1.1)+wr .i64 (p.2.1-n.1.2.1) * wr .i64 (p.2.1-n.1.2.1)) (ptF (wr .i64 (p.1-n.1.1)) (wr .i64 (p.2.1-n.1.2.1))) then (bif plO (AO.cells false x58) then some (.stop (pcohI6 s n l p (x190) (wr .i64 (x191+1)) (x0) (x58) (true) (x66) (x274) (x279+1))) else none) else (bif plO (AO.cells false x58) then some (.stop (pcohI6 s n l p (x190) (wr .i64 (x191+1)) (x0) (x58) (x65) (true) (x274) (x279+1))) else none)) else none)):=by kernel_rfl
section
variable {s:tSt.den} {n:tNi.den} {l:(Ty.sl tRe).den} {p:tP.den} {v:AV}
theorem pcoh_i5 (hn:in3 n.1.1 n.1.2.1=true) (hp:in3 p.1 p.2.1=true) (i k m M O:Nat) (x:Bool×Bool) (a b z:Int) (ht:truB (a,b,()) true=true) (hk:k<1048577) (K:Ans F6 (pcohI3 s n l p (i:Int) ((k+1:Nat):Int) (stC n p true x (a,b,())).1 (stC n p true x (a,b,())).2 M (O+1)) v) :
  Ans F6 (pcohI5 s n l p x.1 x.2 a b (m+1) (i:Int) (k:Int) z (M+1) (O+1)) v:=by
 obtain⟨y,z'⟩:=x
 have h:=pcoh_step5 s n l p y z' a b m (i:Int) (k:Int) z M O
 obtain⟨w1,w2,hnr⟩:=df3 hn hp
 have hc:=cnd_h ht (p.1-n.1.1) (p.2.1-n.1.2.1)
 simp only[w1,w2,hc,wr_succ hk,cond_true] at h
 unfold stC at K
 cases c:metF n p (a,b,()) true with
 |false=>
  rw[c,cond_false] at K
  rw[show hrdF a b ((p.1-n.1.1) * (p.1-n.1.1)+(p.2.1-n.1.2.1) * (p.2.1-n.1.2.1)) (ptF (p.1-n.1.1) (p.2.1-n.1.2.1))=false from c,cond_false] at h
  exact .stop Zch_ok F6sy h K
 |true=>
  rw[c,cond_true] at K
  rw[show hrdF a b ((p.1-n.1.1) * (p.1-n.1.1)+(p.2.1-n.1.2.1) * (p.2.1-n.1.2.1)) (ptF (p.1-n.1.1) (p.2.1-n.1.2.1))=true from c,cond_true] at h
  exact .stop Zch_ok F6sy h K
theorem pcoh_in0 (R:RngV s n) (hn:in3 n.1.1 n.1.2.1=true) (hp:in3 p.1 p.2.1=true) (i:Nat) (hi:i<nL s) (rest:List tP.den) (O:Nat) (K:∀ x:Bool×Bool,Ans F6 (pcohI1 s n l p ((i+1:Nat):Int) x.1 x.2 O) (tup2 (couR (rest.foldl (stC n p true) x)))) :
  ∀ (r k m:Nat) (x:Bool×Bool) (b:Int),b=k→k+r=nW n→r<m→Ans F6 (pcohI3 s n l p (i:Int) (k:Int) x.1 x.2 m (O+1)) (tup2 (couR ((rowW (wLo n) (lLo s+i) r b++rest).foldl (stC n p true) x)))
 |0,k,m+1,x,b,hb,hk,hm=>by
  have h:=pcoh_step3 s n l p (i:Int) (k:Int) x.1 x.2 m O
  have e:wr .i64 (wr .i64 (wr .i64 (wr .i64 (n.2.2.1+n.2.2.2.1)-1)-n.2.2.1)+1)=(nW n:Int):=R.ww
  have:=R.nl
  rw[e,ile_t (show ((nW n:Nat):Int)≤k by omega),Bool.not_true,cond_false,wr_succ (show i<1048577 by omega)] at h
  exact .stop Zch_ok F6sy h (K x)
 | r + 1, k, m + 1, x, b, hb, hk, hm => by
  have h:=pcoh_step3 s n l p (i:Int) (k:Int) x.1 x.2 m O
  have e:wr .i64 (wr .i64 (wr .i64 (wr .i64 (n.2.2.1+n.2.2.2.1)-1)-n.2.2.1)+1)=(nW n:Int):=R.ww
  have n1:=R.nl
  have n2:=R.nw
  have g:=R.w.g
  have w:=R.w.w
  have nle:((nL s:Nat):Int)=lHi s-lLo s+1:=by unfold nL;omega
  have nwe:((nW n:Nat):Int)=wN n:=by unfold nW;omega
  have w1:wr .i64 (s.2.1.1+(i:Int))=lLo s+i:=wr_in (n:=lLo s+(i:Int)) (by omega) (by omega)
  have w2:wr .i64 (n.2.2.1+(k:Int))=wLo n+b:=by subst hb;exact wr_in (n:=wLo n+(k:Int)) (by omega) (by omega)
  have ht:truB (lLo s+i,(wLo n+b).tmod 32,()) true=true:=by
   show (ile 1 (lLo s+i)&&ile (lLo s+i) 200&&inV ((wLo n+b).tmod 32))=true
   rw[ile_t (show 1≤lLo s+(i:Int) by omega),ile_t (show lLo s+(i:Int)≤200 by omega),w32 w.1.1 (show 0≤b by omega)];rfl
  rw[e,ile_f (show (k:Int)<((nW n:Nat):Int) by omega),Bool.not_false,cond_true] at h
  rw[w1,w2] at h
  exact .stop Zch_ok F6sy h (pcoh_i5 hn hp i k 1048574 m O x _ _ _ ht (by omega) (pcoh_in0 R hn hp i hi rest O K r (k+1) m _ (b+1) (by omega) (by omega) (by omega)))
theorem pcoh_out0 (R:RngV s n) (hn:in3 n.1.1 n.1.2.1=true) (hp:in3 p.1 p.2.1=true):∀ (r i m:Nat) (x:Bool×Bool) (a:Int),a=lLo s+i→i+r=nL s→r<m→Ans F6 (pcohI1 s n l p (i:Int) x.1 x.2 m) (tup2 (couR ((allW (wLo n) (nW n) r a).foldl (stC n p true) x)))
 |0,i,m+1,x,a,ha,hi,hm=>by
  obtain⟨y,z'⟩:=x
  have h:=pcoh_step1 s n l p (i:Int) y z' m
  have e:wr .i64 (wr .i64 (s.2.1.2.1-s.2.1.1)+1)=(nL s:Int):=R.wl
  rw[e,ile_t (show ((nL s:Nat):Int)≤i by omega),Bool.not_true,cond_false] at h
  cases y<;>cases z'<;>exact done2 Zch_ok F6sy h rfl
 |r+1,i,m+1,x,a,ha,hi,hm=>by
  have h:=pcoh_step1 s n l p (i:Int) x.1 x.2 m
  have e:wr .i64 (wr .i64 (s.2.1.2.1-s.2.1.1)+1)=(nL s:Int):=R.wl
  rw[e,ile_f (show (i:Int)<((nL s:Nat):Int) by omega),Bool.not_false,cond_true] at h
  subst ha
  exact .stop Zch_ok F6sy h (pcoh_in0 R hn hp i (by omega) _ m (fun x=>pcoh_out0 R hn hp r (i+1) m x _ (by omega) (by omega) (by omega)) (nW n) 0 1048575 x (0) (by omega) (by omega) (by have:=R.nw;omega))
theorem pcoh_i7 (hn:in3 n.1.1 n.1.2.1=true) (hp:in3 p.1 p.2.1=true) (h8:l.2.length≤8) (hl:repB l.2=true) (a b z:Int) (ht:truB (a,b,()) true=true) (x:Bool×Bool) (i k M O:Nat) (hk:k<1048577)
  (K1:agrF n l.2 (a,b,()) true=true→Ans F6 (pcohI6 s n l p (i:Int) ((k+1:Nat):Int) l.2.length (rps n l.2) (stC n p true x (a,b,())).1 (stC n p true x (a,b,())).2 M (O+1)) v)
  (K0:agrF n l.2 (a,b,()) true=false→Ans F6 (pcohI6 s n l p (i:Int) ((k+1:Nat):Int) l.2.length (rps n l.2) x.1 x.2 M (O+1)) v) :
  ∀ (r j m:Nat),j+r=l.2.length→r<m→agrF n l.2 (a,b,()) true=agrF n (l.2.drop j) (a,b,()) true→Ans F6 (pcohI7 s n l p l.2.length (l.2.length:Int) (j:Int) (rps n l.2) x.1 x.2 a b m (i:Int) (k:Int) z (M+1) (O+1)) v
 | 0, j, m + 1, hj, hm, hd => by
  obtain⟨y,z'⟩:=x
  have h:=pcoh_step7 s n l p l.2.length (l.2.length:Int) (j:Int) (rps n l.2) y z' a b m (i:Int) (k:Int) z M O
  rw[List.drop_eq_nil_of_le (by omega)] at hd
  have K:=K1 hd
  obtain⟨w1,w2,hnr⟩:=df3 hn hp
  have hc:=cnd_h ht (p.1-n.1.1) (p.2.1-n.1.2.1)
  simp only[ile_t (show ((l.2.length:Nat):Int)≤j by omega),Bool.not_true,cond_false,w1,w2,hc,cond_true,wr_succ hk,rps_plO] at h
  unfold stC at K
  clear K1 K0
  cases c:metF n p (a,b,()) true with
  |false=>
   rw[c,cond_false] at K
   rw[show hrdF a b ((p.1-n.1.1) * (p.1-n.1.1)+(p.2.1-n.1.2.1) * (p.2.1-n.1.2.1)) (ptF (p.1-n.1.1) (p.2.1-n.1.2.1))=false from c,cond_false] at h
   exact .stop Zch_ok F6sy h K
  |true=>
   rw[c,cond_true] at K
   rw[show hrdF a b ((p.1-n.1.1) * (p.1-n.1.1)+(p.2.1-n.1.2.1) * (p.2.1-n.1.2.1)) (ptF (p.1-n.1.1) (p.2.1-n.1.2.1))=true from c,cond_true] at h
   exact .stop Zch_ok F6sy h K
 | r + 1, j, m + 1, hj, hm, hd => by
  have h:=pcoh_step7 s n l p l.2.length (l.2.length:Int) (j:Int) (rps n l.2) x.1 x.2 a b m (i:Int) (k:Int) z M O
  have hlt:j<l.2.length:=by omega
  have hr:in3 (l.2[j]).1.1 (l.2[j]).1.2.1=true:=List.all_eq_true.1 hl _ (List.getElem_mem hlt)
  obtain⟨w1,w2,hnr⟩:=df3 hn hr
  obtain⟨z1,z2,z3,z4,z5⟩:=rps_at (n:=n) hlt
  have hc:hcB a b (rpOf n l.2[j]).2.2.2.2.2.1=true:=cnd_h ht _ _
  simp only[ile_f (show ((j:Nat):Int)<(l.2.length:Int) by omega),Bool.not_false,cond_true,inB_at hlt,z1,z2,z3,z4,z5,hc,ieq_self,sI_eq,sB_eq,sV_eq,bbeq_self,rps_plO,wr_succ hk,wr_succ (show j<1048577 by omega)] at h
  rw[List.drop_eq_getElem_cons hlt] at hd
  have ih:=pcoh_i7 hn hp h8 hl a b z ht x i k M O hk K1 K0 r (j+1) m (by omega) (by omega)
  have e:agrF n (l.2[j]::l.2.drop (j+1)) (a,b,()) true=(agr1 n (a,b,()) true l.2[j]&&agrF n (l.2.drop (j+1)) (a,b,()) true):=rfl
  rw[e] at hd
  unfold agr1 at hd
  have es:metF n (l.2[j]).1 (a,b,()) true=hrdF a b (rpOf n l.2[j]).2.2.2.2.1 (rpOf n l.2[j]).2.2.2.2.2.1:=rfl
  rw[es] at hd
  cases c1:(l.2[j]).2.1 == true with
  |false=>
   rw[c1,cond_false] at h
   rw[c1,cond_false,Bool.true_and] at hd
   exact .stop Zch_ok F6sy h (ih hd)
  | true =>
   rw[c1,cond_true] at h
   rw[c1,cond_true] at hd
   cases c2:(l.2[j]).2.2.1 == hrdF a b (rpOf n l.2[j]).2.2.2.2.1 (rpOf n l.2[j]).2.2.2.2.2.1 with
   |false=>
    rw[c2,Bool.false_and] at hd
    rw[c2,Bool.not_false,cond_true] at h
    exact .stop Zch_ok F6sy h (K0 hd)
   |true=>
    rw[c2,Bool.true_and] at hd
    rw[c2,Bool.not_true,cond_false] at h
    exact .stop Zch_ok F6sy h (ih hd)
theorem pcoh_in1 (R:RngV s n) (hn:in3 n.1.1 n.1.2.1=true) (hp:in3 p.1 p.2.1=true) (h8:l.2.length≤8) (hl:repB l.2=true) (i:Nat) (hi:i<nL s) (rest:List tP.den) (O:Nat) (K:∀ x:Bool×Bool,Ans F6 (pcohI4 s n l p ((i+1:Nat):Int) l.2.length (rps n l.2) x.1 x.2 O) (tup2 (couR ((rest.filter fun t=>agrF n l.2 t true).foldl (stC n p true) x)))) :
  ∀ (r k m:Nat) (x:Bool×Bool) (b:Int),b=k→k+r=nW n→r<m→Ans F6 (pcohI6 s n l p (i:Int) (k:Int) l.2.length (rps n l.2) x.1 x.2 m (O+1)) (tup2 (couR (((rowW (wLo n) (lLo s+i) r b++rest).filter fun t=>agrF n l.2 t true).foldl (stC n p true) x)))
 |0,k,m+1,x,b,hb,hk,hm=>by
  have h:=pcoh_step6 s n l p (i:Int) (k:Int) l.2.length (rps n l.2) x.1 x.2 m O
  have e:wr .i64 (wr .i64 (wr .i64 (wr .i64 (n.2.2.1+n.2.2.2.1)-1)-n.2.2.1)+1)=(nW n:Int):=R.ww
  have:=R.nl
  rw[e,ile_t (show ((nW n:Nat):Int)≤k by omega),Bool.not_true,cond_false,wr_succ (show i<1048577 by omega),rps_plO,cond_true] at h
  exact .stop Zch_ok F6sy h (K x)
 | r + 1, k, m + 1, x, b, hb, hk, hm => by
  have h:=pcoh_step6 s n l p (i:Int) (k:Int) l.2.length (rps n l.2) x.1 x.2 m O
  have e:wr .i64 (wr .i64 (wr .i64 (wr .i64 (n.2.2.1+n.2.2.2.1)-1)-n.2.2.1)+1)=(nW n:Int):=R.ww
  have n1:=R.nl
  have n2:=R.nw
  have g:=R.w.g
  have w:=R.w.w
  have nle:((nL s:Nat):Int)=lHi s-lLo s+1:=by unfold nL;omega
  have nwe:((nW n:Nat):Int)=wN n:=by unfold nW;omega
  have w1:wr .i64 (s.2.1.1+(i:Int))=lLo s+i:=wr_in (n:=lLo s+(i:Int)) (by omega) (by omega)
  have w2:wr .i64 (n.2.2.1+(k:Int))=wLo n+b:=by subst hb;exact wr_in (n:=wLo n+(k:Int)) (by omega) (by omega)
  have ht:truB (lLo s+i,(wLo n+b).tmod 32,()) true=true:=by
   show (ile 1 (lLo s+i)&&ile (lLo s+i) 200&&inV ((wLo n+b).tmod 32))=true
   rw[ile_t (show 1≤lLo s+(i:Int) by omega),ile_t (show lLo s+(i:Int)≤200 by omega),w32 w.1.1 (show 0≤b by omega)];rfl
  rw[e,ile_f (show (k:Int)<((nW n:Nat):Int) by omega),Bool.not_false,cond_true] at h
  rw[w1,w2] at h
  have ih:=fun x=>pcoh_in1 R hn hp h8 hl i hi rest O K r (k+1) m x (b+1) (by omega) (by omega) (by omega)
  refine .stop Zch_ok F6sy h (pcoh_i7 hn hp h8 hl _ _ _ ht x i k m O (by omega) (fun c=>?_) (fun c=>?_) l.2.length 0 1048575 (by omega) (by omega) rfl)
  · have e : (rowW (wLo n) (lLo s + i) (r + 1) b ++ rest).filter (fun t => agrF n l.2 t true) = (lLo s + i, (wLo n + b).tmod 32, ()) :: (rowW (wLo n) (lLo s + i) r (b + 1) ++ rest).filter (fun t => agrF n l.2 t true) :=
     List.filter_cons_of_pos c
    rw[e]
    exact ih _
  · have e : (rowW (wLo n) (lLo s + i) (r + 1) b ++ rest).filter (fun t => agrF n l.2 t true) = (rowW (wLo n) (lLo s + i) r (b + 1) ++ rest).filter (fun t => agrF n l.2 t true) :=
     List.filter_cons_of_neg (by rw[c];decide)
    rw[e]
    exact ih _
theorem pcoh_out1 (R:RngV s n) (hn:in3 n.1.1 n.1.2.1=true) (hp:in3 p.1 p.2.1=true) (h8:l.2.length≤8) (hl:repB l.2=true):∀ (r i m:Nat) (x:Bool×Bool) (a:Int),a=lLo s+i→i+r=nL s→r<m→Ans F6 (pcohI4 s n l p (i:Int) l.2.length (rps n l.2) x.1 x.2 m) (tup2 (couR (((allW (wLo n) (nW n) r a).filter fun t=>agrF n l.2 t true).foldl (stC n p true) x)))
 |0,i,m+1,x,a,ha,hi,hm=>by
  obtain⟨y,z'⟩:=x
  have h:=pcoh_step4 s n l p (i:Int) l.2.length (rps n l.2) y z' m
  have e:wr .i64 (wr .i64 (s.2.1.2.1-s.2.1.1)+1)=(nL s:Int):=R.wl
  rw[e,ile_t (show ((nL s:Nat):Int)≤i by omega),Bool.not_true,cond_false] at h
  cases y<;>cases z'<;>exact done2 Zch_ok F6sy h rfl
 |r+1,i,m+1,x,a,ha,hi,hm=>by
  have h:=pcoh_step4 s n l p (i:Int) l.2.length (rps n l.2) x.1 x.2 m
  have e:wr .i64 (wr .i64 (s.2.1.2.1-s.2.1.1)+1)=(nL s:Int):=R.wl
  rw[e,ile_f (show (i:Int)<((nL s:Nat):Int) by omega),Bool.not_false,cond_true] at h
  subst ha
  exact .stop Zch_ok F6sy h (pcoh_in1 R hn hp h8 hl i (by omega) _ m (fun x=>pcoh_out1 R hn hp h8 hl r (i+1) m x _ (by omega) (by omega) (by omega)) (nW n) 0 1048575 x (0) (by omega) (by omega) (by have:=R.nw;omega))
theorem pcoh_nv (R:RngV s n) (hN:NigOK s n l.2) (hp:in3 p.1 p.2.1=true):∀ (r k m:Nat),1≤k→k+r=l.2.length→r<m→Ans F6 (pcohI2 s n l p (k:Int) k (rps n (l.2.take k)) m) (tup2 (couR ((trT s n l.2 true).foldl (stC n p true) (false,false))))
 |0,k,m+1,h1,hk,hm=>by
  have h:=pcoh_step2 s n l p (k:Int) k (rps n (l.2.take k)) m
  have h8:=hN.len
  have hi:inB n.2.1 s.1.2.length=true:=inB_of hN.g0.1 hN.g0.2
  obtain⟨w1,w2,hnr⟩:=df3 hN.at_ hp
  have ek:k=l.2.length:=by omega
  subst ek
  rw[List.take_length] at h⊢
  simp only[ile_t (show Int.ofNat l.2.length≤((l.2.length:Nat):Int) from Int.le_refl _),Bool.not_true,cond_false,ieq_self,sI_eq,sB_eq,sV_eq,bbeq_self,vsB_self,hi,w1,w2,hnr,rps_plO,avbeq_sl13,cond_true] at h
  exact .stop Zch_ok F6sy h (pcoh_out1 R hN.at_ hp h8 hN.reps (nL s) 0 1048575 (false,false) (lLo s) (by omega) (by omega) (by have:=R.nl;omega))
 | r + 1, k, m + 1, h1, hk, hm => by
  have h:=pcoh_step2 s n l p (k:Int) k (rps n (l.2.take k)) m
  have h8:=hN.len
  have hlt:k<l.2.length:=by omega
  have hr:in3 (l.2[k]).1.1 (l.2[k]).1.2.1=true:=List.all_eq_true.1 hN.reps _ (List.getElem_mem hlt)
  obtain⟨wn,wc⟩:=rp_wr hN.at_ hr
  have eg:l.2.getD (k:Int).toNat tRe.dflt=l.2[k]:=getD_at hlt
  have b1:(0+k * 6).beq (rps n (l.2.take k)).length=true:=rps_beq (by rw[List.length_take];omega)
  have b2:k.ble 1048576=true:=Nat.ble_eq_true_of_le (by omega)
  have pl:plO (.cells false (rps n (l.2.take (k+1))))=true:=rps_plO _ _
  have ap:rps n (l.2.take k)++tRp.cells (rpOf n l.2[k])=rps n (l.2.take (k+1)):=by
   rw[rps_add,← List.take_succ_eq_append_getElem hlt]
  have av:=avbeq_sl13 k
  simp only[ile_f (show ((k:Nat):Int)<Int.ofNat l.2.length by show (k:Int)<(l.2.length:Int);omega),Bool.not_false,cond_true,inB_at hlt,eg,wn,wc,ap,pl,b1,b2,av,ieq_self,sI_eq,sB_eq,sV_eq,bbeq_self,wr_succ (show k<1048577 by omega)] at h
  exact .stop Zch_ok F6sy h (pcoh_nv R hN hp r (k+1) m (by omega) (by omega) (by omega))
end
theorem pcoh_call (s:tSt.den) (n:tNi.den) (l:(Ty.sl tRe).den) (p:tP.den):AnsF F6 10 [tSt.av s,tNi.av n,.vs tRe l.1 l.2,tP.av p,.bool true] (tup2 (couS s n l.2 p true)):=by
 refine Ans.call (n:=40) (ext_none (by kernel_rfl)) (hasB_spec (by kernel_rfl)) ?_
 have h:=pcoh_start s n l p
 unfold couS
 simp only[ieq_self,sI_eq,sB_eq,sV_eq,bbeq_self,vsB_self,cond_true] at h
 cases c:ieq (cknS s n l.2).2 0 with
 |false=>
  simp only[c,Bool.not_false,cond_true] at h
  rw[cond_false]
  exact done2 Zch_ok F6sy h rfl
 | true =>
  simp only[c,Bool.not_true,cond_false] at h
  rw[cond_true]
  cases hp:in3 p.1 p.2.1 with
  |false=>
   rw[cond_false]
   unfold in3 at hp
   cases q1:ile (-30000) p.1<;>cases q2:ile p.1 30000<;>cases q3:ile (-30000) p.2.1<;>cases q4:ile p.2.1 30000<;>simp only[q1,q2,q3,q4,Bool.not_true,Bool.not_false,cond_true,cond_false,Bool.true_and] at h hp<;>first|exact done2 Zch_ok F6sy h rfl|cases hp
  |true=>
  rw[cond_true]
  have hp4:=hp
  unfold in3 at hp4
  simp only[Bool.and_eq_true] at hp4
  simp only[hp4.1.1.1,hp4.1.1.2,hp4.1.2,hp4.2,Bool.not_true,cond_false] at h
  have hN:=nig_ok c
  have R:=rngv_ok hN
  have h8:=hN.len
  obtain⟨w1,w2,hnr⟩:=df3 hN.at_ hp
  refine .stop Zch_ok F6sy h ?_
  have h:=pcoh_step0 s n l p 1048574
  have hi:inB n.2.1 s.1.2.length=true:=inB_of hN.g0.1 hN.g0.2
  cases hl:l.2 with
  |nil=>
   simp only[hl,show ile (Int.ofNat ([]:List tRe.den).length) 0=true from rfl,Bool.not_true,cond_false,ieq_self,sI_eq,sB_eq,sV_eq,bbeq_self,vsB_self,hi,w1,w2,hnr,cond_true] at h
   have k:=pcoh_out0 (l:=l) R hN.at_ hp (nL s) 0 1048575 (false,false) (lLo s) (by omega) (by omega) (by have:=R.nl;omega)
   have e:trT s n [] true=allW (wLo n) (nW n) (nL s) (lLo s):=List.filter_eq_self.2 fun _ _=>rfl
   rw[e]
   exact .stop Zch_ok F6sy h k
  | cons r q =>
   rw[← hl]
   have hlt:0<l.2.length:=by rw[hl];simp
   have hr:in3 (l.2[0]).1.1 (l.2[0]).1.2.1=true:=List.all_eq_true.1 hN.reps _ (List.getElem_mem hlt)
   obtain⟨wn,wc⟩:=rp_wr hN.at_ hr
   have eg:l.2.getD (Int.toNat 0) tRe.dflt=l.2[0]:=getD_at (k:=0) hlt
   have ap:tRp.cells (rpOf n l.2[0])=rps n (l.2.take 1):=by
    have:=rps_add n [] l.2[0]
    have t1:=List.take_succ_eq_append_getElem hlt
    rw[List.take_zero,List.nil_append] at t1
    rw[t1]
    exact this
   have i0:inB 0 l.2.length=true:=inB_at (k:=0) hlt
   simp only[ile_f (show (0:Int)<Int.ofNat l.2.length by show (0:Int)<(l.2.length:Int);omega),Bool.not_false,cond_true,i0,eg,wn,wc,ap,ieq_self,sI_eq,sB_eq,sV_eq,bbeq_self] at h
   exact .stop Zch_ok F6sy h (pcoh_nv R hN hp (l.2.length-1) 1 1048574 (by omega) (by omega) (by omega))
end Go.Proofs.YtppcdepecdemnaaGreatDoor


set_option maxRecDepth 100000
namespace Go.Proofs.YtppcdepecdemnaaGreatDoor
open Go Go.Eng
noncomputable def S0:tSt.den:=((false,[([115,112,101,114,109],((400:Int),(420:Int),()),(60:Int),()),([114,97,112,101],((100:Int),(100:Int),()),(40:Int),())]),((20:Int),(30:Int),()),((50:Int),(120:Int),()),())
noncomputable def N0:tNi.den:=(((0:Int),(0:Int),()),(0:Int),(8:Int),(1:Int),())
noncomputable def rA:tRe.den:=(((0:Int),(10000:Int),()),false,true,())
noncomputable def rB:tRe.den:=(((13000:Int),(0:Int),()),false,false,())
noncomputable def rC:tRe.den:=(((0:Int),(10000:Int),()),false,false,())
theorem lc_in {i k:Nat} {q:Int} (hi:i≤20) (hk:k≤70) (h1:0≤q) (h2:q≤7200000000):lcB (400+(i:Int)) (50+(k:Int)) q=true:=lcB_iff.2 ⟨⟨by omega,by omega⟩,⟨by omega,by omega⟩,h1,h2⟩
end Go.Proofs.YtppcdepecdemnaaGreatDoor


set_option maxRecDepth 100000
namespace Go.Proofs.YtppcdepecdemnaaGreatDoor
open Go Go.Eng
theorem newl_start (a b:Int):adv F6 (Z6 []) 3000 (startC F6 38 [.int .i64 a,.int .i64 b] 6)=some (.done (.agg [(.int .i64 (a)),(.int .i64 (b))])):=by kernel_rfl
theorem numb_start (l:tP.den):adv F6 (Z6 []) 3000 (startC F6 147 [tP.av l] 6)=some (.done (.tup [(.int .i64 (l.1)),(.int .i64 (l.2.1))])):=by kernel_rfl
theorem newl_call (a b:tI.den):AnsF F6 38 [tI.av a,tI.av b] (.agg [.int .i64 a,.int .i64 b]):=
 Ans.call (n:=6) (ext_none (by kernel_rfl)) (hasB_spec (by kernel_rfl)) (.done (Z6_ok _) F6sy (newl_start a b) rfl)
theorem numb_call (l:tP.den):AnsF F6 147 [tP.av l] (.tup [.int .i64 l.1,.int .i64 l.2.1]):=
 Ans.call (n:=6) (ext_none (by kernel_rfl)) (hasB_spec (by kernel_rfl)) (.done (Z6_ok _) F6sy (numb_start l) rfl)
noncomputable def eqS (s:tSt.den) (n:tNi.den):Bool:=avbeq (tSt.av s) (tSt.av S0)&&avbeq (tNi.av n) (tNi.av N0)
noncomputable def eqR (l:(Ty.sl tRe).den) (b:Bool) (m:List tRe.den):Bool:=avbeq (.vs tRe l.1 l.2) (.vs tRe b m)
noncomputable def con5 (t u w s q:Ty) (c:t.den→u.den→w.den→s.den→q.den→Bool) (v:AV) (args:List AV):Option (Bool×AV):=
 match args with
 |[a1,a2,a3,a4,a5]=>match rdA t a1,rdA u a2,rdA w a3,rdA s a4,rdA q a5 with
  |some (c1,x),some (c2,y),some (c3,z),some (c4,p),some (c5,o)=>some (c1&&c2&&c3&&c4&&c5&&c x y z p o,v)
  |_,_,_,_,_=>none
 |_=>none
noncomputable def LZ:List Said:=[(38,con2 tI tI (fun _ _=>true) (fun a b=>.agg [.int .i64 a,.int .i64 b])),(147,con1 tP (fun _=>true) (fun l=>.tup [.int .i64 l.1,.int .i64 l.2.1])),
 (6,con3 tSt tNi (.sl tRe) (fun s n l=>eqS s n&&eqR l false [rA,rB]) (fun _ _ _=>.tup [.agg [.int .i64 400,.int .i64 420],.agg [.int .i64 50,.int .i64 65],.int .i64 0])),
 (10,con5 tSt tNi (.sl tRe) tP .bool (fun s n l p h=>eqS s n&&eqR l false [rA]&&avbeq (tP.av p) (.agg [.int .i64 0,.int .i64 12000])&&avbeq (.bool h) (.bool false)) (.tup [.int .i64 1,.int .i64 0])),
 (20,con3 tSt tNi (.sl tRe) (fun s n l=>eqS s n&&eqR l true []) (fun _ _ _=>.tup [.int .i64 10000,.int .i64 14491,.int .i64 0])),
 (22,con3 tSt tNi (.sl tRe) (fun s n l=>eqS s n&&eqR l false [rB,rC]) (fun _ _ _=>.tup [.csl [.int .i64 1] 1,.int .i64 0])),
 (21,con4 tSt tNi (.sl tRe) tI (fun s n l q=>eqS s n&&eqR l true []&&(ieq q 7000 || ieq q 10001)) (fun _ _ _ q=>.tup [.int .i64 (bif ieq q 7000 then 1 else 0),.int .i64 (bif ieq q 7000 then 0 else 9)]))]
noncomputable def F9:Env:=F6.say (under (xOf LZ))
noncomputable def EA:Env:={ T0.env with ext:=F9.ext,frz:=fun f=>elemN f [6,10,20,21,22] }
theorem eA:EnvOK Tryz.prog EA:=by
 have h:=tabs_ok.env
 refine⟨fun t k ht=>?_,h.zero,h.fn,h.eqok,h.meth⟩
 obtain⟨h1,h2⟩:=h.ty t k ht
 refine⟨h1,?_⟩
 cases k<;>exact h2
theorem nA:NameOK EA:=tabs_ok.name
end Go.Proofs.YtppcdepecdemnaaGreatDoor


set_option maxRecDepth 100000
namespace Go.Proofs.YtppcdepecdemnaaGreatDoor
open Go Go.Eng
noncomputable def LW:List Said:=[(5,say0 (.bool true))]
noncomputable def F10:Env:=F9.say (under (xOf LW))
end Go.Proofs.YtppcdepecdemnaaGreatDoor


set_option maxRecDepth 100000
namespace Go.Proofs.YtppcdepecdemnaaGreatDoor
open Go Go.Eng
theorem snW:∃ f:Int→Int→Int→Bool,∀ a b s,f a b s=seenF a b s:=⟨seenF,fun _ _ _=>rfl⟩
noncomputable def snO:Int→Int→Int→Bool:=Classical.choose snW
theorem snO_eq (a b s:Int):snO a b s=seenF a b s:=Classical.choose_spec snW a b s
theorem lcW:∃ f:Int→Int→Int→Bool,∀ a b s,f a b s=lcB a b s:=⟨lcB,fun _ _ _=>rfl⟩
noncomputable def lcO:Int→Int→Int→Bool:=Classical.choose lcW
theorem lcO_eq (a b s:Int):lcO a b s=lcB a b s:=Classical.choose_spec lcW a b s
noncomputable def LX:List Said:=[(39,con2 tP tP (fun l s=>bif ieq s.1 100000000 then lcO l.1 l.2.1 s.1&&snO l.1 l.2.1 s.1 else lcO l.1 l.2.1 s.1) (fun l s=>bif ieq s.1 100000000 then .bool true else .bool (snO l.1 l.2.1 s.1)))]
theorem LX_ok:∀ e∈LX,SaidG Tryz.prog F2.glob e:=
 saids_cons (SaidOK.g f2 xf2 nf2 tabs_ok.mix (fun _ _ h=>con2_spec (t:=tP) (u:=tP) (fun l s hc=>by
  dsimp only at hc⊢
  cases e:ieq s.1 100000000 with
  |true=>
   rw[e,cond_true,Bool.and_eq_true,lcO_eq,snO_eq] at hc
   rw[cond_true]
   have:=lrea_call l s hc.1
   rw[hc.2] at this
   exact this
  |false=>
   rw[e,cond_false,lcO_eq] at hc
   rw[cond_false,snO_eq]
   exact lrea_call l s hc) h) rfl) saids_nil
noncomputable def F7:Env:=F6.say (under (xOf LX))
theorem f7:EnvOK Tryz.prog F7:=f6.say _
theorem nf7:NameOK F7:=nf6.say _
theorem xf7:ExtOK Tryz.prog F7:=xf6.sayL LX_ok
theorem F7sy:F7.sy=true:=rfl
noncomputable def Z7 (l:List Nat):Sy:={ (Z6 []).on LX l with pl:=false }
theorem Z7_ok (l:List Nat):(Z7 l).ok F7:=Sy.on_ok (E:=F6) (L:=LX) (hd:=l) (Z6_ok _)
theorem sn_all:((List.range 21).all fun i=>(List.range 71).all fun k=>seenF (400+(i:Int)) (50+(k:Int)) 100000000)=true:=by kernel_rfl
theorem sn_in {i k:Nat} (hi:i≤20) (hk:k≤70):seenF (400+(i:Int)) (50+(k:Int)) 100000000=true:=
 List.all_eq_true.1 (List.all_eq_true.1 sn_all i (List.mem_range.2 (by omega))) k (List.mem_range.2 (by omega))
end Go.Proofs.YtppcdepecdemnaaGreatDoor


set_option maxRecDepth 100000
namespace Go.Proofs.YtppcdepecdemnaaGreatDoor
open Go Go.Eng
noncomputable def fclrQ0:Tmps:=(tmOf 24 [(0,(.yld 14)),(1,(pP 12 0)),(2,(pP 13 0)),(3,(pP 15 0)),(7,(pP 8 0)),(8,(.bool false)),(9,(.fn 105 [] [(pP 16 0),(pP 17 0),(pP 18 0)]))])
noncomputable def fclrQ1:Tmps:=(tmOf 44 [(0,(.agg [(.vs tGr (false) (S0.1.2)),(iI 20),(iI 30),(iI 50),(iI 120)])),(1,(.agg [(iI 0),(iI 0),(iI 0),(iI 8),(iI 1)])),(2,(.vs tRe (false) ([rA,rB]))),(3,(pP 0 0)),(4,(pP 1 0)),(6,(pP 2 0)),(7,(pP 3 0)),(8,(iI 0)),(9,(pP 8 0)),(10,(pP 10 0)),(11,(pP 11 0)),(15,(.tup [(pP 8 0),(iI 0)])),(16,(.agg [(.vs tGr (false) (S0.1.2)),(iI 20),(iI 30),(iI 50),(iI 120)])),(17,(.agg [(iI 0),(iI 0),(iI 0),(iI 8),(iI 1)])),(18,(.vs tRe (false) ([rA,rB]))),(19,(.tup [(pP 8 0),(iI 0)])),(20,(pP 8 0)),(21,(iI 0)),(22,(iI 0)),(23,(.bool false)),(27,(pP 8 0)),(28,(.fn 54 [] [(pP 12 0),(pP 13 0)]))])
noncomputable def fclrg1:List (Nat×AV):=[(0,(.yld 19)),(1,(pP 16 0)),(2,(pP 17 0)),(3,(pP 18 0)),(7,(.agg [(iI 400),(iI 420)])),(8,(iI 21))]
noncomputable def fclrQ2:Tmps:=(tmOf 33 (fclrg1++[(9,(iI 0))]))
noncomputable def fclrk1:AO:=(cF [(.vs tGr (false) (S0.1.2)),(iI 20),(iI 30),(iI 50),(iI 120)])
noncomputable def fclrk3:AO:=(cF [(iI 0),(iI 0),(iI 0),(iI 8),(iI 1)])
noncomputable def fclrk4:AO:=(cF [(.vs tGr (false) (S0.1.2)),(iI 20),(iI 30),(iI 50),(iI 120),(iI 0),(iI 0),(iI 0),(iI 8),(iI 1),(.sl 9 0 (2) (2) 6)])
noncomputable def fclrk0:AO:=(cF ([AV.int IntKind.i64 ([rA,rB].getD (Int.toNat 0) tRe.dflt).1.1,AV.int IntKind.i64 ([rA,rB].getD (Int.toNat 0) tRe.dflt).1.2.1,AV.bool false,AV.bool true,AV.int IntKind.i64 100000000,AV.int IntKind.i64 (ptF (wr .i64 (([rA,rB].getD (Int.toNat 0) tRe.dflt).1.1-N0.1.1)) (wr .i64 (([rA,rB].getD (Int.toNat 0) tRe.dflt).1.2.1-N0.1.2.1))),AV.int IntKind.i64 ([rA,rB].getD (wr .i64 (0+1)).toNat tRe.dflt).1.1,AV.int IntKind.i64 ([rA,rB].getD (wr .i64 (0+1)).toNat tRe.dflt).1.2.1,AV.bool false,AV.bool false,AV.int IntKind.i64 169000000,AV.int IntKind.i64 (ptF (wr .i64 (([rA,rB].getD (wr .i64 (0+1)).toNat tRe.dflt).1.1-N0.1.1)) (wr .i64 (([rA,rB].getD (wr .i64 (0+1)).toNat tRe.dflt).1.2.1-N0.1.2.1)))]))
noncomputable def fclrk2:HD:=⟨14,44,40,(fclrQ1),#[29],(pcOf F7 6 [0,0,1,0,1,1,1,1]),(pcOf F7 6 [1,0,1,0,1,1,1,1])⟩
noncomputable def fclrg0:List (Nat×AO):=[(0,(fclrk1)),(1,(fclrk3)),(2,(cF [(iI 0),(iI 0)])),(3,(cF [(iI 0),(iI 0)])),(4,(fclrk1)),(5,(fclrk3)),(6,(fclrk1)),(7,(fclrk3)),(8,(fclrk4)),(9,(fclrk0)),(12,(cF [(pP 8 0)])),(13,(cF [(.bool false)])),(15,(cF [(.yld 14)])),(16,(cF [(iI 400),(iI 420)])),(17,(cF [(iI 50),(iI 120)])),(18,(cF [(.fn 38 [] [])])),(20,(cF [(iI 400),(iI 420)]))]
noncomputable def fclrI0 (u:Unit) (x3:Int) (x55:Int) (x56:Int) (x57:Bool) (x58:Int) (x59:Int) (x60:Bool) (x105:Nat):Cfg:=⟨.ex (pcOf F7 105 [0,0,1]) ⟨(tmOf 33 (fclrg1++[(9,(iI x3))])),(hpOf 21 (fclrg0++[(10,(cF [(iI x55),(iI x56),(.bool x57)])),(11,(cF [(iI x58),(iI x59),(.bool x60)]))])),[],[⟨false,.normal⟩,⟨false,.normal⟩],33,false⟩,⟨38,[⟨19,24,39,(fclrQ0),#[10],(pcOf F7 54 [0,0,1,1,0,1]),(pcOf F7 54 [1,0,1,1,0,1])⟩,(fclrk2)]⟩,[(.lop (pcOf F7 105 [0,0,1]) 21 (fclrQ2) x105),(.blk 0),(.cal [] (.rng (fclrQ0) [] 24 false ⟨39,[(fclrk2)]⟩)),(.blk 0),(.cal [] (.rng (fclrQ1) [] 44 false ⟨40,[]⟩)),(.blk 0),(.seq (pcOf F7 6 [1,1,1,1,1])),(.cal [(.cell 6 24),(.cell 7 24),(.tmp 8)] .top)]⟩
noncomputable def fclrI1 (u:Unit) (x0:Int) (x10:Int) (x62:Int) (x63:Int) (x64:Bool) (x65:Int) (x66:Int) (x67:Bool) (x121:Nat) (x126:Nat):Cfg:=⟨.ex (pcOf F7 105 [0,0,1,1,0,0,1,1,0,0,1]) ⟨(tmOf 33 (fclrg1++[(5,(iI x0)),(9,(iI x0)),(10,(.bool true)),(11,(iI x0)),(12,(.agg [(iI 50),(iI 120)])),(13,(iI 71)),(14,(iI x10))])),(hpOf 22 (fclrg0++[(10,(cF [(iI x62),(iI x63),(.bool x64)])),(11,(cF [(iI x65),(iI x66),(.bool x67)])),(21,(cF [(iI 50),(iI 120)]))])),[],[⟨false,.normal⟩,⟨false,.normal⟩],33,false⟩,⟨38,[⟨19,24,39,(fclrQ0),#[10],(pcOf F7 54 [0,0,1,1,0,1]),(pcOf F7 54 [1,0,1,1,0,1])⟩,(fclrk2)]⟩,[(.lop (pcOf F7 105 [0,0,1,1,0,0,1,1,0,0,1]) 22 (tmOf 33 (fclrg1++[(5,(iI x0)),(9,(iI x0)),(10,(.bool true)),(11,(iI x0)),(12,(.agg [(iI 50),(iI 120)])),(13,(iI 71)),(14,(iI 0))])) x121),(.blk 2),(.blk 1),(.seq (pcOf F7 105 [1,1,1,0,0,1])),(.lop (pcOf F7 105 [0,0,1]) 21 (fclrQ2) x126),(.blk 0),(.cal [] (.rng (fclrQ0) [] 24 false ⟨39,[(fclrk2)]⟩)),(.blk 0),(.cal [] (.rng (fclrQ1) [] 44 false ⟨40,[]⟩)),(.blk 0),(.seq (pcOf F7 6 [1,1,1,1,1])),(.cal [(.cell 6 24),(.cell 7 24),(.tmp 8)] .top)]⟩
theorem fclr_start (u:Unit):adv F7 (Z7 [105]) 3000 (startC F7 6 [tSt.av S0,tNi.av N0,.vs tRe false [rA,rB]] 40)=some (.stop (fclrI0 u (0) (0) (0) (false) (0) (0) (false) (1048575))):=by kernel_rfl
theorem fclr_step0 (u:Unit) (x3:Int) (x55:Int) (x56:Int) (x57:Bool) (x58:Int) (x59:Int) (x60:Bool) (x105:Nat):adv F7 (Z7 [105]) 3000 (fclrI0 u x3 x55 x56 x57 x58 x59 x60 (x105+1))=(bif !ile 21 x3 then some (.stop (fclrI1 u (x3) (0) (x55) (x56) (x57) (x58) (x59) (x60) (1048575) (x105+1))) else (bif x57 then (bif ieq x58 x58 then (bif ieq x59 x59 then (bif ieq x58 x58 then (bif ieq x59 x59 then (bif ieq x58 x58 then (bif ieq x59 x59 then (bif ieq x55 x55 then (bif ieq x56 x56 then (bif ieq x55 x55 then (bif ieq x56 x56 then some (.done (.tup [(.agg [(.int .i64 (x55)),(.int .i64 (x56))]),(.agg [(.int .i64 (x58)),(.int .i64 (x59))]),(.int .i64 (0))])) else none) else none) else none) else none) else none) else none) else none) else none) else none) else none) else (bif ieq x58 x58 then (bif ieq x59 x59 then (bif ieq x58 x58 then (bif ieq x59 x59 then (bif ieq x58 x58 then (bif ieq x59 x59 then (bif ieq x55 x55 then (bif ieq x56 x56 then (bif ieq x55 x55 then (bif ieq x56 x56 then some (.done (.tup [(.agg [(.int .i64 (x55)),(.int .i64 (x56))]),(.agg [(.int .i64 (x58)),(.int .i64 (x59))]),(.int .i64 (9))])) else none) else none) else none) else none) else none) else none) else none) else none) else none) else none))):=by kernel_rfl
theorem fclr_step1 (u:Unit) (x0:Int) (x10:Int) (x62:Int) (x63:Int) (x64:Bool) (x65:Int) (x66:Int) (x67:Bool) (x121:Nat) (x126:Nat):adv F7 (Z7 [105]) 3000 (fclrI1 u x0 x10 x62 x63 x64 x65 x66 x67 (x121+1) (x126+1))=(bif !ile 71 x10 then (bif bif ieq 100000000 100000000 then lcO (wr .i64 (400+x0)) (wr .i64 (50+x10)) 100000000&&snO (wr .i64 (400+x0)) (wr .i64 (50+x10)) 100000000 else lcO (wr .i64 (400+x0)) (wr .i64 (50+x10)) 100000000 then (bif bif ieq 169000000 100000000 then lcO (wr .i64 (400+x0)) (wr .i64 (50+x10)) 169000000&&snO (wr .i64 (400+x0)) (wr .i64 (50+x10)) 169000000 else lcO (wr .i64 (400+x0)) (wr .i64 (50+x10)) 169000000 then (bif !false == snO (wr .i64 (400+x0)) (wr .i64 (50+x10)) 169000000 then some (.stop (fclrI1 u (x0) (wr .i64 (x10+1)) (x62) (x63) (x64) (x65) (x66) (x67) (x121) (x126+1))) else (bif !x64 then (bif ieq (wr .i64 (400+x0)) (wr .i64 (400+x0)) then (bif ieq (wr .i64 (400+x0)) (wr .i64 (400+x0)) then (bif !x67 then (bif ieq (wr .i64 (50+x10)) (wr .i64 (50+x10)) then (bif ieq (wr .i64 (50+x10)) (wr .i64 (50+x10)) then some (.stop (fclrI1 u (x0) (wr .i64 (x10+1)) (bif ile (wr .i64 (400+x0)) (wr .i64 (400+x0)) then wr .i64 (400+x0) else wr .i64 (400+x0)) (bif ile (wr .i64 (400+x0)) (wr .i64 (400+x0)) then wr .i64 (400+x0) else wr .i64 (400+x0)) (true) (bif ile (wr .i64 (50+x10)) (wr .i64 (50+x10)) then wr .i64 (50+x10) else wr .i64 (50+x10)) (bif ile (wr .i64 (50+x10)) (wr .i64 (50+x10)) then wr .i64 (50+x10) else wr .i64 (50+x10)) (true) (x121) (x126+1))) else none) else none) else (bif ieq x66 x66 then (bif ieq x65 x65 then some (.stop (fclrI1 u (x0) (wr .i64 (x10+1)) (bif ile (wr .i64 (400+x0)) (wr .i64 (400+x0)) then wr .i64 (400+x0) else wr .i64 (400+x0)) (bif ile (wr .i64 (400+x0)) (wr .i64 (400+x0)) then wr .i64 (400+x0) else wr .i64 (400+x0)) (true) (bif ile x65 (wr .i64 (50+x10)) then x65 else wr .i64 (50+x10)) (bif ile (wr .i64 (50+x10)) x66 then x66 else wr .i64 (50+x10)) (x67) (x121) (x126+1))) else none) else none)) else none) else none) else (bif ieq x63 x63 then (bif ieq x62 x62 then (bif !x67 then (bif ieq (wr .i64 (50+x10)) (wr .i64 (50+x10)) then (bif ieq (wr .i64 (50+x10)) (wr .i64 (50+x10)) then some (.stop (fclrI1 u (x0) (wr .i64 (x10+1)) (bif ile x62 (wr .i64 (400+x0)) then x62 else wr .i64 (400+x0)) (bif ile (wr .i64 (400+x0)) x63 then x63 else wr .i64 (400+x0)) (x64) (bif ile (wr .i64 (50+x10)) (wr .i64 (50+x10)) then wr .i64 (50+x10) else wr .i64 (50+x10)) (bif ile (wr .i64 (50+x10)) (wr .i64 (50+x10)) then wr .i64 (50+x10) else wr .i64 (50+x10)) (true) (x121) (x126+1))) else none) else none) else (bif ieq x66 x66 then (bif ieq x65 x65 then some (.stop (fclrI1 u (x0) (wr .i64 (x10+1)) (bif ile x62 (wr .i64 (400+x0)) then x62 else wr .i64 (400+x0)) (bif ile (wr .i64 (400+x0)) x63 then x63 else wr .i64 (400+x0)) (x64) (bif ile x65 (wr .i64 (50+x10)) then x65 else wr .i64 (50+x10)) (bif ile (wr .i64 (50+x10)) x66 then x66 else wr .i64 (50+x10)) (x67) (x121) (x126+1))) else none) else none)) else none) else none))) else none) else none) else some (.stop (fclrI0 u (wr .i64 (x0+1)) (x62) (x63) (x64) (x65) (x66) (x67) (x126)))):=by kernel_rfl
noncomputable def fclrS (i k:Nat) (t:En6):En6:=bif !seenF (400+i) (50+k) 169000000 then (mtL (t.1,t.2.1,t.2.2.1) (400+i),mtH (t.1,t.2.1,t.2.2.1) (400+i),true,mtL t.2.2.2 (50+k),mtH t.2.2.2 (50+k),true) else t
noncomputable def fclrR (i:Nat):Nat→Nat→En6→En6
 |0,_,t=>t
 |r+1,k,t=>fclrR i r (k+1) (fclrS i k t)
noncomputable def fclrA:Nat→Nat→En6→En6
 |0,_,t=>t
 |r+1,i,t=>fclrA r (i+1) (fclrR i 71 0 t)
theorem fclr_in {v:AV} (i:Nat) (hi:i≤20) (M:Nat):∀ (r k m:Nat) (t:En6),k+r=71→r<m→Ans F7 (fclrI0 () ((i+1:Nat):Int) (fclrR i r k t).1 (fclrR i r k t).2.1 (fclrR i r k t).2.2.1 (fclrR i r k t).2.2.2.1 (fclrR i r k t).2.2.2.2.1 (fclrR i r k t).2.2.2.2.2 M) v→Ans F7 (fclrI1 () i k t.1 t.2.1 t.2.2.1 t.2.2.2.1 t.2.2.2.2.1 t.2.2.2.2.2 m (M+1)) v
 |0,k,m+1,t,hk,hm,K=>by
  have h:=fclr_step1 () i k t.1 t.2.1 t.2.2.1 t.2.2.2.1 t.2.2.2.2.1 t.2.2.2.2.2 m M
  have e:k=71:=by omega
  subst e
  rw[show ile 71 ((71:Nat):Int)=true from rfl,Bool.not_true,cond_false,wr_succ (show i<1048577 by omega)] at h
  exact .stop (Z7_ok _) F7sy h K
 |r+1,k,m+1,t,hk,hm,K=>by
  obtain⟨a,b,x,c,d,y⟩:=t
  have h:=fclr_step1 () i k a b x c d y m M
  have e1:ile 71 (k:Int)=false:=ile_f (by omega)
  simp only[lcO_eq,snO_eq,ieq_self,show ieq 169000000 100000000=false from rfl,cond_true,cond_false] at h
  have s0:=sn_in hi (show k≤70 by omega)
  have l0:=lc_in (q:=100000000) hi (show k≤70 by omega) (by decide) (by decide)
  have l1:=lc_in (q:=169000000) hi (show k≤70 by omega) (by decide) (by decide)
  rw[fclrR] at K
  have ih:=fclr_in i hi M r (k+1) m _ (by omega) (by omega) K
  rw[wr_in (n:=400+(i:Int)) (by omega) (by omega),wr_in (n:=50+(k:Int)) (by omega) (by omega),wr_succ (show k<1048577 by omega)] at h
  simp only[e1,s0,l0,l1,ieq_self,Bool.not_false,Bool.and_self,cond_true] at h
  clear K
  unfold fclrS mtL mtH at ih
  cases s1:seenF (400+i) (50+k) 169000000<;>cases x<;>cases y<;>simp only[s1,beq_self_eq_true,Bool.not_true,Bool.not_false,cond_true,cond_false,Bool.and_self,Bool.and_true,Bool.and_false,Bool.false_and,Bool.true_and,show (true == false)=false from rfl,show (false == true)=false from rfl] at h ih<;>exact .stop (Z7_ok _) F7sy h ih
theorem fclr_out:∀ (r i m:Nat) (t:En6),i+r=21→r<m→Ans F7 (fclrI0 () i t.1 t.2.1 t.2.2.1 t.2.2.2.1 t.2.2.2.2.1 t.2.2.2.2.2 m) (clrV (fclrA r i t))
 |0,i,m+1,t,hi,hm=>by
  obtain⟨a,b,x,c,d,y⟩:=t
  have h:=fclr_step0 () i a b x c d y m
  have e:i=21:=by omega
  subst e
  simp only[show ile 21 ((21:Nat):Int)=true from rfl,Bool.not_true,cond_false,ieq_self,cond_true] at h
  cases x<;>exact .done (Z7_ok _) F7sy h rfl
 |r+1,i,m+1,t,hi,hm=>by
  have h:=fclr_step0 () i t.1 t.2.1 t.2.2.1 t.2.2.2.1 t.2.2.2.2.1 t.2.2.2.2.2 m
  rw[show ile 21 (i:Int)=false from ile_f (by omega),Bool.not_false,cond_true] at h
  exact .stop (Z7_ok _) F7sy h (fclr_in i (by omega) m 71 0 1048575 t (by omega) (by omega) (fclr_out r (i+1) m _ (by omega) (by omega)))
theorem fclr_fin:fclrA 21 0 (0,0,false,0,0,false)=(400,420,true,50,65,true):=by kernel_rfl
theorem fclr_ans:Ans F7 (startC F7 6 [tSt.av S0,tNi.av N0,.vs tRe false [rA,rB]] 40) (.tup [.agg [.int .i64 400,.int .i64 420],.agg [.int .i64 50,.int .i64 65],.int .i64 0]):=by
 have h:=fclr_out 21 0 1048575 (0,0,false,0,0,false) (by omega) (by omega)
 rw[fclr_fin] at h
 exact .stop (Z7_ok _) F7sy (fclr_start ()) h
end Go.Proofs.YtppcdepecdemnaaGreatDoor


set_option maxRecDepth 100000
namespace Go.Proofs.YtppcdepecdemnaaGreatDoor
open Go Go.Eng
noncomputable def fcouQ0:Tmps:=(tmOf 24 [(0,(.yld 21)),(1,(pP 19 0)),(2,(pP 20 0)),(3,(pP 22 0)),(7,(pP 12 0)),(8,(.bool false)),(9,(.fn 105 [] [(pP 23 0),(pP 24 0),(pP 25 0)]))])
noncomputable def fcouQ1:Tmps:=(tmOf 54 [(0,(.agg [(.vs tGr (false) (S0.1.2)),(iI 20),(iI 30),(iI 50),(iI 120)])),(1,(.agg [(iI 0),(iI 0),(iI 0),(iI 8),(iI 1)])),(2,(.vs tRe (false) ([rA]))),(3,(.agg [(iI 0),(iI 12000)])),(4,(.bool false)),(5,(pP 0 0)),(6,(pP 1 0)),(8,(pP 2 0)),(10,(iI 0)),(11,(iI 0)),(12,(pP 12 0)),(13,(iI 0)),(14,(pP 16 0)),(15,(pP 17 0)),(16,(pP 18 0)),(18,(.tup [(pP 12 0),(iI 0)])),(19,(.agg [(.vs tGr (false) (S0.1.2)),(iI 20),(iI 30),(iI 50),(iI 120)])),(20,(.agg [(iI 0),(iI 0),(iI 0),(iI 8),(iI 1)])),(21,(.vs tRe (false) ([rA]))),(22,(pP 2 0)),(23,(iI 0)),(24,(pP 2 1)),(25,(iI 12000)),(26,(.sl 3 0 (2) (2) 1)),(27,(.fn 58 [] [(pP 5 0),(pP 6 0),(pP 7 0)])),(28,(.sl 4 0 (1) (1) 1)),(29,(.tup [(pP 12 0),(iI 0)])),(30,(pP 12 0)),(31,(iI 0)),(32,(iI 0)),(33,(.bool false)),(35,(pP 12 0)),(36,(.agg [(iI 0),(iI 12000)])),(37,(.agg [(iI 144000000),(iI 0)])),(38,(pP 12 0)),(39,(.bool false)),(40,(.fn 54 [] [(pP 19 0),(pP 20 0)]))])
noncomputable def fcoug1:List (Nat×AV):=[(0,(.yld 26)),(1,(pP 23 0)),(2,(pP 24 0)),(3,(pP 25 0)),(7,(.agg [(iI 400),(iI 420)])),(8,(iI 21))]
noncomputable def fcouQ2:Tmps:=(tmOf 33 (fcoug1++[(9,(iI 0))]))
noncomputable def fcouk1:AO:=(cF [(.vs tGr (false) (S0.1.2)),(iI 20),(iI 30),(iI 50),(iI 120)])
noncomputable def fcouk3:AO:=(cF [(iI 0),(iI 0),(iI 0),(iI 8),(iI 1)])
noncomputable def fcouk4:AO:=(cF [(.vs tGr (false) (S0.1.2)),(iI 20),(iI 30),(iI 50),(iI 120),(iI 0),(iI 0),(iI 0),(iI 8),(iI 1),(.sl 13 0 (1) (1) 6)])
noncomputable def fcouk0:AO:=(cF ([AV.int IntKind.i64 ([rA].getD (Int.toNat 0) tRe.dflt).1.1,AV.int IntKind.i64 ([rA].getD (Int.toNat 0) tRe.dflt).1.2.1,AV.bool false,AV.bool true,AV.int IntKind.i64 100000000,AV.int IntKind.i64 (ptF (wr .i64 (([rA].getD (Int.toNat 0) tRe.dflt).1.1-N0.1.1)) (wr .i64 (([rA].getD (Int.toNat 0) tRe.dflt).1.2.1-N0.1.2.1)))]))
noncomputable def fcouk2:HD:=⟨21,54,40,(fcouQ1),#[41],(pcOf F7 10 [0,0,1,0,1,1,1,1,1]),(pcOf F7 10 [1,0,1,0,1,1,1,1,1])⟩
noncomputable def fcoug0:List (Nat×AO):=[(0,(fcouk1)),(1,(fcouk3)),(2,(cF [(iI 0),(iI 12000)])),(3,(.cells true [(iI 0),(iI 12000)])),(4,(cF [(.fn 58 [] [(pP 5 0),(pP 6 0),(pP 7 0)])])),(5,(cF [(iI (-30000))])),(6,(cF [(iI 30000)])),(7,(cF [(.csl [(iI 0),(iI 12000)] 2)])),(8,(fcouk1)),(9,(fcouk3)),(10,(fcouk1)),(11,(fcouk3)),(12,(fcouk4)),(13,(fcouk0)),(14,(cF [(iI 0),(iI 12000)])),(15,(cF [(iI 144000000),(iI 0)])),(16,(cF [(iI 144000000),(iI 0)])),(19,(cF [(pP 12 0)])),(20,(cF [(.bool false)])),(22,(cF [(.yld 21)])),(23,(cF [(iI 400),(iI 420)])),(24,(cF [(iI 50),(iI 120)])),(25,(cF [(.fn 38 [] [])])),(27,(cF [(iI 400),(iI 420)]))]
noncomputable def fcouI0 (u:Unit) (x3:Int) (x65:Bool) (x66:Bool) (x127:Nat):Cfg:=⟨.ex (pcOf F7 105 [0,0,1]) ⟨(tmOf 33 (fcoug1++[(9,(iI x3))])),(hpOf 28 (fcoug0++[(17,(cF [(.bool x65)])),(18,(cF [(.bool x66)]))])),[],[⟨false,.normal⟩,⟨false,.normal⟩],33,false⟩,⟨38,[⟨26,24,39,(fcouQ0),#[10],(pcOf F7 54 [0,0,1,1,0,1]),(pcOf F7 54 [1,0,1,1,0,1])⟩,(fcouk2)]⟩,[(.lop (pcOf F7 105 [0,0,1]) 28 (fcouQ2) x127),(.blk 0),(.cal [] (.rng (fcouQ0) [] 24 false ⟨39,[(fcouk2)]⟩)),(.blk 0),(.cal [] (.rng (fcouQ1) [] 54 false ⟨40,[]⟩)),(.blk 0),(.seq (pcOf F7 10 [1,1,1,1,1,1])),(.cal [(.tmp 10),(.tmp 11)] .top)]⟩
noncomputable def fcouI1 (u:Unit) (x0:Int) (x10:Int) (x72:Bool) (x73:Bool) (x143:Nat) (x148:Nat):Cfg:=⟨.ex (pcOf F7 105 [0,0,1,1,0,0,1,1,0,0,1]) ⟨(tmOf 33 (fcoug1++[(5,(iI x0)),(9,(iI x0)),(10,(.bool true)),(11,(iI x0)),(12,(.agg [(iI 50),(iI 120)])),(13,(iI 71)),(14,(iI x10))])),(hpOf 29 (fcoug0++[(17,(cF [(.bool x72)])),(18,(cF [(.bool x73)])),(28,(cF [(iI 50),(iI 120)]))])),[],[⟨false,.normal⟩,⟨false,.normal⟩],33,false⟩,⟨38,[⟨26,24,39,(fcouQ0),#[10],(pcOf F7 54 [0,0,1,1,0,1]),(pcOf F7 54 [1,0,1,1,0,1])⟩,(fcouk2)]⟩,[(.lop (pcOf F7 105 [0,0,1,1,0,0,1,1,0,0,1]) 29 (tmOf 33 (fcoug1++[(5,(iI x0)),(9,(iI x0)),(10,(.bool true)),(11,(iI x0)),(12,(.agg [(iI 50),(iI 120)])),(13,(iI 71)),(14,(iI 0))])) x143),(.blk 2),(.blk 1),(.seq (pcOf F7 105 [1,1,1,0,0,1])),(.lop (pcOf F7 105 [0,0,1]) 28 (fcouQ2) x148),(.blk 0),(.cal [] (.rng (fcouQ0) [] 24 false ⟨39,[(fcouk2)]⟩)),(.blk 0),(.cal [] (.rng (fcouQ1) [] 54 false ⟨40,[]⟩)),(.blk 0),(.seq (pcOf F7 10 [1,1,1,1,1,1])),(.cal [(.tmp 10),(.tmp 11)] .top)]⟩
theorem fcou_start (u:Unit):adv F7 (Z7 [105]) 3000 (startC F7 10 [tSt.av S0,tNi.av N0,.vs tRe false [rA],.agg [.int .i64 0,.int .i64 12000],.bool false] 40)=some (.stop (fcouI0 u (0) (false) (false) (1048575))):=by kernel_rfl
theorem fcou_step0 (u:Unit) (x3:Int) (x65:Bool) (x66:Bool) (x127:Nat):adv F7 (Z7 [105]) 3000 (fcouI0 u x3 x65 x66 (x127+1))=(bif !ile 21 x3 then some (.stop (fcouI1 u (x3) (0) (x65) (x66) (1048575) (x127+1))) else (bif x65 then (bif x66 then some (.done (.tup [(.int .i64 (1)),(.int .i64 (0))])) else (bif x65 then some (.done (.tup [(.int .i64 (2)),(.int .i64 (0))])) else (bif x66 then some (.done (.tup [(.int .i64 (0)),(.int .i64 (0))])) else some (.done (.tup [(.int .i64 (0)),(.int .i64 (9))]))))) else (bif x65 then some (.done (.tup [(.int .i64 (2)),(.int .i64 (0))])) else (bif x66 then some (.done (.tup [(.int .i64 (0)),(.int .i64 (0))])) else some (.done (.tup [(.int .i64 (0)),(.int .i64 (9))])))))):=by kernel_rfl
theorem fcou_step1 (u:Unit) (x0:Int) (x10:Int) (x72:Bool) (x73:Bool) (x143:Nat) (x148:Nat):adv F7 (Z7 [105]) 3000 (fcouI1 u x0 x10 x72 x73 (x143+1) (x148+1))=(bif !ile 71 x10 then (bif bif ieq 100000000 100000000 then lcO (wr .i64 (400+x0)) (wr .i64 (50+x10)) 100000000&&snO (wr .i64 (400+x0)) (wr .i64 (50+x10)) 100000000 else lcO (wr .i64 (400+x0)) (wr .i64 (50+x10)) 100000000 then (bif bif ieq 144000000 100000000 then lcO (wr .i64 (400+x0)) (wr .i64 (50+x10)) 144000000&&snO (wr .i64 (400+x0)) (wr .i64 (50+x10)) 144000000 else lcO (wr .i64 (400+x0)) (wr .i64 (50+x10)) 144000000 then (bif snO (wr .i64 (400+x0)) (wr .i64 (50+x10)) 144000000 then some (.stop (fcouI1 u (x0) (wr .i64 (x10+1)) (true) (x73) (x143) (x148+1))) else some (.stop (fcouI1 u (x0) (wr .i64 (x10+1)) (x72) (true) (x143) (x148+1)))) else none) else none) else some (.stop (fcouI0 u (wr .i64 (x0+1)) (x72) (x73) (x148)))):=by kernel_rfl
noncomputable def couV (t:Bool×Bool):AV:=.tup [.int .i64 (bif t.1 then (bif t.2 then 1 else 2) else 0),.int .i64 (bif t.1 || t.2 then 0 else 9)]
noncomputable def fcouS (i k:Nat) (t:Bool×Bool):Bool×Bool:=bif seenF (400+i) (50+k) 144000000 then (true,t.2) else (t.1,true)
noncomputable def fcouR (i:Nat):Nat→Nat→Bool×Bool→Bool×Bool
 |0,_,t=>t
 |r+1,k,t=>fcouR i r (k+1) (fcouS i k t)
noncomputable def fcouA:Nat→Nat→Bool×Bool→Bool×Bool
 |0,_,t=>t
 |r+1,i,t=>fcouA r (i+1) (fcouR i 71 0 t)
theorem fcou_in {v:AV} (i:Nat) (hi:i≤20) (M:Nat):∀ (r k m:Nat) (t:Bool×Bool),k+r=71→r<m→Ans F7 (fcouI0 () ((i+1:Nat):Int) (fcouR i r k t).1 (fcouR i r k t).2 M) v→Ans F7 (fcouI1 () i k t.1 t.2 m (M+1)) v
 |0,k,m+1,t,hk,hm,K=>by
  have h:=fcou_step1 () i k t.1 t.2 m M
  have e:k=71:=by omega
  subst e
  rw[show ile 71 ((71:Nat):Int)=true from rfl,Bool.not_true,cond_false,wr_succ (show i<1048577 by omega)] at h
  exact .stop (Z7_ok _) F7sy h K
 |r+1,k,m+1,t,hk,hm,K=>by
  obtain⟨a,b⟩:=t
  have h:=fcou_step1 () i k a b m M
  have e1:ile 71 (k:Int)=false:=ile_f (by omega)
  simp only[lcO_eq,snO_eq,ieq_self,show ieq 144000000 100000000=false from rfl,cond_true,cond_false] at h
  have s0:=sn_in hi (show k≤70 by omega)
  have l0:=lc_in (q:=100000000) hi (show k≤70 by omega) (by decide) (by decide)
  have l1:=lc_in (q:=144000000) hi (show k≤70 by omega) (by decide) (by decide)
  rw[fcouR] at K
  have ih:=fcou_in i hi M r (k+1) m _ (by omega) (by omega) K
  rw[wr_in (n:=400+(i:Int)) (by omega) (by omega),wr_in (n:=50+(k:Int)) (by omega) (by omega),wr_succ (show k<1048577 by omega)] at h
  simp only[e1,s0,l0,l1,Bool.not_false,Bool.and_self,cond_true] at h
  clear K
  unfold fcouS at ih
  cases s1:seenF (400+i) (50+k) 144000000<;>simp only[s1,beq_self_eq_true,Bool.not_true,Bool.not_false,cond_true,cond_false,show (true == false)=false from rfl,show (false == true)=false from rfl] at h ih<;>exact .stop (Z7_ok _) F7sy h ih
theorem fcou_out:∀ (r i m:Nat) (t:Bool×Bool),i+r=21→r<m→Ans F7 (fcouI0 () i t.1 t.2 m) (couV (fcouA r i t))
 |0,i,m+1,t,hi,hm=>by
  obtain⟨a,b⟩:=t
  have h:=fcou_step0 () i a b m
  have e:i=21:=by omega
  subst e
  simp only[show ile 21 ((21:Nat):Int)=true from rfl,Bool.not_true,cond_false] at h
  cases a<;>cases b<;>exact .done (Z7_ok _) F7sy h rfl
 |r+1,i,m+1,t,hi,hm=>by
  have h:=fcou_step0 () i t.1 t.2 m
  rw[show ile 21 (i:Int)=false from ile_f (by omega),Bool.not_false,cond_true] at h
  exact .stop (Z7_ok _) F7sy h (fcou_in i (by omega) m 71 0 1048575 t (by omega) (by omega) (fcou_out r (i+1) m _ (by omega) (by omega)))
theorem fcou_fin:fcouA 21 0 (false,false)=(true,true):=by kernel_rfl
theorem fcou_ans:Ans F7 (startC F7 10 [tSt.av S0,tNi.av N0,.vs tRe false [rA],.agg [.int .i64 0,.int .i64 12000],.bool false] 40) (.tup [.int .i64 1,.int .i64 0]):=by
 have h:=fcou_out 21 0 1048575 (false,false) (by omega) (by omega)
 rw[fcou_fin] at h
 exact .stop (Z7_ok _) F7sy (fcou_start ()) h
end Go.Proofs.YtppcdepecdemnaaGreatDoor


set_option maxRecDepth 100000
namespace Go.Proofs.YtppcdepecdemnaaGreatDoor
open Go Go.Eng
noncomputable def ffarg3:List (Nat×AV):=[(0,(.yld 10)),(1,(pP 8 0)),(2,(pP 9 0)),(3,(pP 11 0)),(7,(pP 6 0)),(8,(.bool false)),(9,(.fn 105 [] [(pP 12 0),(pP 13 0),(pP 14 0)]))]
noncomputable def ffarQ0:Tmps:=(tmOf 24 (ffarg3))
noncomputable def ffark4:AV:=(.agg [(.vs tGr (false) (S0.1.2)),(iI 20),(iI 30),(iI 50),(iI 120)])
noncomputable def ffarg1:List (Nat×AV):=[(0,(ffark4)),(1,(.agg [(iI 0),(iI 0),(iI 0),(iI 8),(iI 1)])),(2,(.vs tRe (true) ([]))),(3,(pP 0 0)),(4,(pP 1 0)),(6,(iI 0)),(7,(iI 0)),(8,(iI 0)),(9,(pP 6 0)),(10,(pP 7 0)),(12,(.tup [(pP 6 0),(iI 0)])),(13,(ffark4)),(14,(.agg [(iI 0),(iI 0),(iI 0),(iI 8),(iI 1)])),(15,(.vs tRe (true) ([]))),(16,(.tup [(pP 6 0),(iI 0)])),(17,(pP 6 0)),(18,(iI 0)),(19,(iI 0)),(20,(.bool false)),(22,(pP 6 0)),(23,(.fn 54 [] [(pP 8 0),(pP 9 0)]))]
noncomputable def ffarQ1:Tmps:=(tmOf 35 (ffarg1))
noncomputable def ffarg2:List (Nat×AV):=[(0,(.yld 15)),(1,(pP 12 0)),(2,(pP 13 0)),(3,(pP 14 0)),(7,(.agg [(iI 400),(iI 420)])),(8,(iI 21))]
noncomputable def ffarQ2:Tmps:=(tmOf 33 (ffarg2++[(9,(iI 0))]))
noncomputable def ffark1:AO:=(cF [(.vs tGr (false) (S0.1.2)),(iI 20),(iI 30),(iI 50),(iI 120)])
noncomputable def ffark2:AO:=(cF [(iI 0),(iI 0),(iI 0),(iI 8),(iI 1)])
noncomputable def ffark3:AO:=(cF [(.vs tGr (false) (S0.1.2)),(iI 20),(iI 30),(iI 50),(iI 120),(iI 0),(iI 0),(iI 0),(iI 8),(iI 1),.nils])
noncomputable def ffark5:HD:=⟨15,24,39,(ffarQ0),#[10],(pcOf F6 54 [0,0,1,1,0,1]),(pcOf F6 54 [1,0,1,1,0,1])⟩
noncomputable def ffark0:HD:=⟨10,35,40,(ffarQ1),#[24],(pcOf F6 20 [0,0,1,0,1,1,1,1]),(pcOf F6 20 [1,0,1,0,1,1,1,1])⟩
noncomputable def ffarg0:List (Nat×AO):=[(0,(ffark1)),(1,(ffark2)),(2,(ffark1)),(3,(ffark2)),(4,(ffark1)),(5,(ffark2)),(6,(ffark3)),(8,(cF [(pP 6 0)])),(9,(cF [(.bool false)])),(11,(cF [(.yld 10)])),(12,(cF [(iI 400),(iI 420)])),(13,(cF [(iI 50),(iI 120)])),(14,(cF [(.fn 38 [] [])])),(16,(cF [(iI 400),(iI 420)]))]
noncomputable def ffarI0 (u:Unit) (x3:Int) (x48:Int) (x49:Int) (x50:Bool) (x97:Nat):Cfg:=⟨.ex (pcOf F6 105 [0,0,1]) ⟨(tmOf 33 (ffarg2++[(9,(iI x3))])),(hpOf 17 (ffarg0++[(7,(cF [(iI x48),(iI x49),(.bool x50)]))])),[],[⟨false,.normal⟩,⟨false,.normal⟩],33,false⟩,⟨38,[(ffark5),(ffark0)]⟩,[(.lop (pcOf F6 105 [0,0,1]) 17 (ffarQ2) x97),(.blk 0),(.cal [] (.rng (ffarQ0) [] 24 false ⟨39,[(ffark0)]⟩)),(.blk 0),(.cal [] (.rng (ffarQ1) [] 35 false ⟨40,[]⟩)),(.blk 0),(.seq (pcOf F6 20 [1,1,1,1,1])),(.cal [(.tmp 6),(.tmp 7),(.tmp 8)] .top)]⟩
noncomputable def ffarQ3 (y0:Int):Tmps:=(tmOf 33 (ffarg2++[(5,(iI y0)),(9,(iI y0)),(10,(.bool true)),(11,(iI y0)),(12,(.agg [(iI 50),(iI 120)])),(13,(iI 71)),(14,(iI 0))]))
noncomputable def ffarI1 (u:Unit) (x0:Int) (x10:Int) (x55:Int) (x56:Int) (x57:Bool) (x113:Nat) (x118:Nat):Cfg:=⟨.ex (pcOf F6 105 [0,0,1,1,0,0,1,1,0,0,1]) ⟨(tmOf 33 (ffarg2++[(5,(iI x0)),(9,(iI x0)),(10,(.bool true)),(11,(iI x0)),(12,(.agg [(iI 50),(iI 120)])),(13,(iI 71)),(14,(iI x10))])),(hpOf 18 (ffarg0++[(7,(cF [(iI x55),(iI x56),(.bool x57)])),(17,(cF [(iI 50),(iI 120)]))])),[],[⟨false,.normal⟩,⟨false,.normal⟩],33,false⟩,⟨38,[(ffark5),(ffark0)]⟩,[(.lop (pcOf F6 105 [0,0,1,1,0,0,1,1,0,0,1]) 18 (ffarQ3 x0) x113),(.blk 2),(.blk 1),(.seq (pcOf F6 105 [1,1,1,0,0,1])),(.lop (pcOf F6 105 [0,0,1]) 17 (ffarQ2) x118),(.blk 0),(.cal [] (.rng (ffarQ0) [] 24 false ⟨39,[(ffark0)]⟩)),(.blk 0),(.cal [] (.rng (ffarQ1) [] 35 false ⟨40,[]⟩)),(.blk 0),(.seq (pcOf F6 20 [1,1,1,1,1])),(.cal [(.tmp 6),(.tmp 7),(.tmp 8)] .top)]⟩
noncomputable def ffarI2 (u:Unit) (x2:Int) (x3:Int) (x49:Int) (x50:Int) (x51:Bool) (x61:Int) (x62:Int) (x73:Nat) (x150:Int) (x151:Int) (x220:Nat) (x225:Nat):Cfg:=⟨.ex (pcOf F6 43 [0,0,0,1,1]) ⟨(tmOf 26 [(0,(iI 60000)),(1,(.fn 44 [] [(pP 23 0)])),(4,(iI 0)),(5,(iI x2)),(6,(iI x3)),(8,(iI 60000))]),(hpOf 24 (ffarg0++[(7,(cF [(iI x49),(iI x50),(.bool x51)])),(17,(cF [(iI 50),(iI 120)])),(18,(cF [(iI x61),(iI x62)])),(19,(cF [(.ifc 98 (.agg [(iI x61),(iI x62)]))])),(20,(cF [(pP 6 0)])),(21,(cF [(.bool false)])),(23,(cF [(.ifc 98 (.agg [(iI x61),(iI x62)]))]))])),[],[],26,false⟩,⟨39,[]⟩,[(.lop (pcOf F6 43 [0,0,0,1,1]) 24 (tmOf 26 [(0,(iI 60000)),(1,(.fn 44 [] [(pP 23 0)])),(4,(iI 0)),(5,(iI 0)),(6,(iI 60000)),(8,(iI 60000))]) x73),(.blk 0),(.seq (pcOf F6 43 [1,1,1])),(.cal [(.tmp 4)] (.op (pcOf F6 20 [0,1,0,1,0,1,1,1,1]) 2 (some 26) ((opsOf (pcOf F6 20 [0,1,0,1,0,1,1,1,1]).c).toList.drop 2) (tmOf 35 (ffarg1++[(11,(pP 23 0)),(24,(.ifc 98 (.agg [(iI x61),(iI x62)]))),(25,(.fn 44 [] [(pP 23 0)]))])) [] 35 true ⟨40,[]⟩)),(.blk 1),(.rnd [] (.op (pcOf F6 54 [0,1,0,1,0,1,1,0,1]) 3 (some 22) ((opsOf (pcOf F6 54 [0,1,0,1,0,1,1,0,1]).c).toList.drop 3) (tmOf 24 (ffarg3++[(4,(pP 19 0)),(10,(.ifc 98 (.agg [(iI x61),(iI x62)]))),(11,(pP 6 0)),(12,(.bool false)),(13,(.fn 79 [] [(pP 20 0),(pP 21 0)])),(20,(.yld 10)),(21,(.ifc 98 (.agg [(iI x61),(iI x62)])))])) [] 24 true ⟨39,[(ffark0)]⟩)),(.seq (pcOf F6 54 [1,1,0,1,0,1,1,0,1])),(.blk 1),(.rnd [] (.op (pcOf F6 105 [0,1,0,0,1,1,0,0,1,1,0,0,1,1,0,0,1]) 13 (some 29) ((opsOf (pcOf F6 105 [0,1,0,0,1,1,0,0,1,1,0,0,1,1,0,0,1]).c).toList.drop 13) (tmOf 33 (ffarg2++[(5,(iI x150)),(6,(iI x151)),(9,(iI x150)),(10,(.bool true)),(11,(iI x150)),(12,(.agg [(iI 50),(iI 120)])),(13,(iI 71)),(14,(iI x151)),(15,(.bool true)),(16,(iI x151)),(17,(.yld 15)),(18,(.fn 38 [] [])),(19,(pP 12 0)),(20,(iI 400)),(21,(iI x150)),(22,(iI x61)),(23,(pP 13 0)),(24,(iI 50)),(25,(iI x151)),(26,(iI x62)),(27,(.agg [(iI x61),(iI x62)])),(28,(.ifc 98 (.agg [(iI x61),(iI x62)])))])) [] 33 false ⟨38,[(ffark5),(ffark0)]⟩)),(.seq (pcOf F6 105 [1,1,0,0,1,1,0,0,1,1,0,0,1,1,0,0,1])),(.blk 3),(.seq (pcOf F6 105 [1,1,1,0,0,1,1,0,0,1,1,0,0,1])),(.lop (pcOf F6 105 [0,0,1,1,0,0,1,1,0,0,1]) 18 (ffarQ3 x150) x220),(.blk 2),(.blk 1),(.seq (pcOf F6 105 [1,1,1,0,0,1])),(.lop (pcOf F6 105 [0,0,1]) 17 (ffarQ2) x225),(.blk 0),(.cal [] (.rng (ffarQ0) [] 24 false ⟨39,[(ffark0)]⟩)),(.blk 0),(.cal [] (.rng (ffarQ1) [] 35 false ⟨40,[]⟩)),(.blk 0),(.seq (pcOf F6 20 [1,1,1,1,1])),(.cal [(.tmp 6),(.tmp 7),(.tmp 8)] .top)]⟩
theorem ffar_start (u:Unit):adv F6 (Z6 [43,105]) 3000 (startC F6 20 [tSt.av S0,tNi.av N0,.vs tRe true []] 40)=some (.stop (ffarI0 u (0) (0) (0) (false) (1048575))):=by kernel_rfl
theorem ffar_step0 (u:Unit) (x3:Int) (x48:Int) (x49:Int) (x50:Bool) (x97:Nat):adv F6 (Z6 [43,105]) 3000 (ffarI0 u x3 x48 x49 x50 (x97+1))=(bif !ile 21 x3 then some (.stop (ffarI1 u (x3) (0) (x48) (x49) (x50) (1048575) (x97+1))) else (bif x50 then (bif ieq x49 x49 then (bif ieq x49 x49 then (bif ieq x48 x48 then (bif ieq x48 x48 then some (.done (.tup [(.int .i64 (x48)),(.int .i64 (x49)),(.int .i64 (0))])) else none) else none) else none) else none) else (bif ieq x49 x49 then (bif ieq x49 x49 then (bif ieq x48 x48 then (bif ieq x48 x48 then some (.done (.tup [(.int .i64 (x48)),(.int .i64 (x49)),(.int .i64 (9))])) else none) else none) else none) else none))):=by kernel_rfl
theorem ffar_step1 (u:Unit) (x0:Int) (x10:Int) (x55:Int) (x56:Int) (x57:Bool) (x113:Nat) (x118:Nat):adv F6 (Z6 [43,105]) 3000 (ffarI1 u x0 x10 x55 x56 x57 (x113+1) (x118+1))=(bif !ile 71 x10 then some (.stop (ffarI2 u (0) (60000) (x55) (x56) (x57) (wr .i64 (400+x0)) (wr .i64 (50+x10)) (1048575) (x0) (x10) (x113+1) (x118+1))) else some (.stop (ffarI0 u (wr .i64 (x0+1)) (x55) (x56) (x57) (x118)))):=by kernel_rfl
theorem ffar_step2 (u:Unit) (x2:Int) (x3:Int) (x49:Int) (x50:Int) (x51:Bool) (x61:Int) (x62:Int) (x73:Nat) (x150:Int) (x151:Int) (x220:Nat) (x225:Nat):adv F6 (Z6 [43,105]) 3000 (ffarI2 u x2 x3 x49 x50 x51 x61 x62 (x73+1) x150 x151 (x220+1) (x225+1))=(let z1:=(wr .i64 ((wr IntKind.u64 (wr .i64 (x2+x3))).fdiv (2 ^ min (Int.toNat 1) IntKind.u64.bits))+1);(bif !ile x3 x2 then (bif lcB x61 x62 (wr .i64 (wr .i64 z1 * wr .i64 z1)) then (bif avbeq (AV.ifc 98 (AV.agg [AV.int IntKind.i64 x61,AV.int IntKind.i64 x62])) (AV.ifc 98 (AV.agg [AV.int IntKind.i64 x61,AV.int IntKind.i64 x62])) then (bif avbeq (AV.ifc 98 (AV.agg [AV.int IntKind.i64 x61,AV.int IntKind.i64 x62])) (AV.ifc 98 (AV.agg [AV.int IntKind.i64 x61,AV.int IntKind.i64 x62])) then (bif !!seenF x61 x62 (wr .i64 (wr .i64 z1 * wr .i64 z1)) then some (.stop (ffarI2 u (wr .i64 z1) (x3) (x49) (x50) (x51) (x61) (x62) (x73) (x150) (x151) (x220+1) (x225+1))) else some (.stop (ffarI2 u (x2) (wr .i64 ((wr IntKind.u64 (wr .i64 (x2+x3))).fdiv (2 ^ min (Int.toNat 1) IntKind.u64.bits))) (x49) (x50) (x51) (x61) (x62) (x73) (x150) (x151) (x220+1) (x225+1)))) else none) else none) else none) else (bif !x51 then (bif ieq x2 x2 then (bif ieq x2 x2 then some (.stop (ffarI1 u (x150) (wr .i64 (x151+1)) (bif ile x2 x2 then x2 else x2) (bif ile x2 x2 then x2 else x2) (true) (x220) (x225+1))) else none) else none) else (bif ieq x50 x50 then (bif ieq x49 x49 then some (.stop (ffarI1 u (x150) (wr .i64 (x151+1)) (bif ile x49 x2 then x49 else x2) (bif ile x2 x50 then x50 else x2) (x51) (x220) (x225+1))) else none) else none)))):=by kernel_rfl
noncomputable def srch (c k:Int):Nat→Int→Int→Int
 |0,lo,_=>lo
 |r+1,lo,hi=>bif ile hi lo then lo else (bif seenF c k (((lo+hi) / 2+1) * ((lo+hi) / 2+1)) then srch c k r ((lo+hi) / 2+1) hi else srch c k r lo ((lo+hi) / 2))
abbrev En3:=Int×Int×Bool
noncomputable def ffarS (i k:Nat) (t:En3):En3:=(mtL t (srch (400+i) (50+k) 17 0 60000),mtH t (srch (400+i) (50+k) 17 0 60000),true)
noncomputable def ffarR (i:Nat):Nat→Nat→En3→En3
 |0,_,t=>t
 |r+1,k,t=>ffarR i r (k+1) (ffarS i k t)
noncomputable def ffarA:Nat→Nat→En3→En3
 |0,_,t=>t
 |r+1,i,t=>ffarA r (i+1) (ffarR i 71 0 t)
theorem avb_self (a b:Int):avbeq (AV.ifc 98 (AV.agg [AV.int IntKind.i64 a,AV.int IntKind.i64 b])) (AV.ifc 98 (AV.agg [AV.int IntKind.i64 a,AV.int IntKind.i64 b]))=true:=by
 have e:ieq a a=true:=ieq_self a
 have e2:ieq b b=true:=ieq_self b
 show (bif ieq a a then _ else false)=true
 rw[e]
 show (bif ieq b b then _ else false)=true
 rw[e2]
 rfl
theorem wu_in {n:Int} (h1:0≤n) (h2:n≤9223372036854775807):wr .u64 n=n:=by
 show IntKind.u64.wrap n=n
 simp only[IntKind.wrap,IntKind.signed,IntKind.bits]
 simp
 omega
theorem mid_eq {lo hi:Int} (h1:0≤lo) (h2:lo≤hi) (h3:hi≤60000):wr .i64 ((wr IntKind.u64 (wr .i64 (lo+hi))).fdiv (2 ^ min (Int.toNat 1) IntKind.u64.bits))=(lo+hi) / 2:=by
 have e1:wr .i64 (lo+hi)=lo+hi:=wr_in (by omega) (by omega)
 have e2:wr IntKind.u64 (lo+hi)=lo+hi:=wu_in (by omega) (by omega)
 have e3:(2:Int) ^ min (Int.toNat 1) IntKind.u64.bits=2:=rfl
 rw[e1,e2,e3,Int.fdiv_eq_ediv_of_nonneg _ (by omega)]
 exact wr_in (by omega) (by omega)
theorem far_srch {v:AV} (i k:Nat) (hi:i≤20) (hk:k≤70) (a b:Int) (x:Bool) (m1 M:Nat):∀ (r m:Nat) (lo up:Int),r<m→0≤lo→lo≤up→up≤60000→up-lo<2 ^ r→Ans F6 (ffarI1 () i ((k+1:Nat):Int) (mtL (a,b,x) (srch (400+i) (50+k) r lo up)) (mtH (a,b,x) (srch (400+i) (50+k) r lo up)) true m1 (M+1)) v→Ans F6 (ffarI2 () lo up a b x (400+i) (50+k) m i k (m1+1) (M+1)) v
 | r, m + 1, lo, up, hr, h0, h1, h2, h3, K => by
  have h:=ffar_step2 () lo up a b x (400+i) (50+k) m i k m1 M
  cases c:ile up lo with
  | true =>
   rw[c,Bool.not_true,cond_false] at h
   have e:srch (400+i) (50+k) r lo up=lo:=by
    cases r with
    |zero=>rfl
    |succ r=>rw[srch,c,cond_true]
   rw[e] at K
   unfold mtL mtH at K
   simp only[ieq_self,wr_succ (show k<1048577 by omega),cond_true] at h
   cases x<;>simp only[Bool.not_true,Bool.not_false,cond_true,cond_false] at h K<;>exact .stop (Z6_ok _) F6sy h K
  | false =>
   have hlt:lo<up:=by rw[ile_iff,decide_eq_false_iff_not] at c;omega
   rw[c,Bool.not_false,cond_true,mid_eq h0 h1 h2] at h
   have hm:0≤(lo+up) / 2∧(lo+up) / 2<up∧lo≤(lo+up) / 2:=by omega
   have w1:wr .i64 ((lo+up) / 2+1)=(lo+up) / 2+1:=wr_in (by omega) (by omega)
   obtain⟨q1,q2,q3⟩:=sq6 (x:=(lo+up) / 2+1) (by omega) (by omega)
   have l0:lcB (400+i) (50+k) (((lo+up) / 2+1) * ((lo+up) / 2+1))=true:=lc_in hi hk q2 (by omega)
   simp only[w1,q1,l0,avb_self,Bool.not_not,cond_true] at h
   cases r with
   |zero=>exact absurd h3 (by simp;omega)
   | succ r =>
    rw[srch,c,cond_false] at K
    rw[Int.pow_succ] at h3
    cases s0:seenF (400+i) (50+k) (((lo+up) / 2+1) * ((lo+up) / 2+1)) with
    |true=>
     rw[s0,cond_true] at h K
     exact .stop (Z6_ok _) F6sy h (far_srch i k hi hk a b x m1 M r m _ _ (by omega) (by omega) (by omega) h2 (by omega) K)
    |false=>
     rw[s0,cond_false] at h K
     exact .stop (Z6_ok _) F6sy h (far_srch i k hi hk a b x m1 M r m _ _ (by omega) h0 (by omega) (by omega) (by omega) K)
theorem ffar_in {v:AV} (i:Nat) (hi:i≤20) (M:Nat):∀ (r k m:Nat) (t:En3),k+r=71→r<m→Ans F6 (ffarI0 () ((i+1:Nat):Int) (ffarR i r k t).1 (ffarR i r k t).2.1 (ffarR i r k t).2.2 M) v→Ans F6 (ffarI1 () i k t.1 t.2.1 t.2.2 m (M+1)) v
 |0,k,m+1,t,hk,hm,K=>by
  have h:=ffar_step1 () i k t.1 t.2.1 t.2.2 m M
  have e:k=71:=by omega
  subst e
  rw[show ile 71 ((71:Nat):Int)=true from rfl,Bool.not_true,cond_false,wr_succ (show i<1048577 by omega)] at h
  exact .stop (Z6_ok _) F6sy h K
 |r+1,k,m+1,t,hk,hm,K=>by
  obtain⟨a,b,x⟩:=t
  have h:=ffar_step1 () i k a b x m M
  rw[show ile 71 (k:Int)=false from ile_f (by omega),Bool.not_false,cond_true,wr_in (n:=400+(i:Int)) (by omega) (by omega),wr_in (n:=50+(k:Int)) (by omega) (by omega)] at h
  rw[ffarR] at K
  have K2:=ffar_in i hi M r (k+1) m (ffarS i k (a,b,x)) (by omega) (by omega) K
  clear K
  have p17:(60000:Int)-0<2 ^ 17:=by decide
  unfold ffarS at K2
  dsimp only at K2
  exact .stop (Z6_ok _) F6sy h (far_srch i k hi (by omega) a b x m M 17 1048575 0 60000 (by omega) (by omega) (by omega) (by omega) p17 K2)
theorem ffar_out:∀ (r i m:Nat) (t:En3),i+r=21→r<m→Ans F6 (ffarI0 () i t.1 t.2.1 t.2.2 m) (.tup [.int .i64 (ffarA r i t).1,.int .i64 (ffarA r i t).2.1,.int .i64 (bif (ffarA r i t).2.2 then 0 else 9)])
 |0,i,m+1,t,hi,hm=>by
  obtain⟨a,b,x⟩:=t
  have h:=ffar_step0 () i a b x m
  have e:i=21:=by omega
  subst e
  simp only[show ile 21 ((21:Nat):Int)=true from rfl,Bool.not_true,cond_false,ieq_self,cond_true] at h
  cases x<;>exact .done (Z6_ok _) F6sy h rfl
 |r+1,i,m+1,t,hi,hm=>by
  have h:=ffar_step0 () i t.1 t.2.1 t.2.2 m
  rw[show ile 21 (i:Int)=false from ile_f (by omega),Bool.not_false,cond_true] at h
  exact .stop (Z6_ok _) F6sy h (ffar_in i (by omega) m 71 0 1048575 t (by omega) (by omega) (ffar_out r (i+1) m _ (by omega) (by omega)))
theorem ffar_fin:ffarA 21 0 (0,0,false)=(10000,14491,true):=by kernel_rfl
theorem ffar_ans:Ans F6 (startC F6 20 [tSt.av S0,tNi.av N0,.vs tRe true []] 40) (.tup [.int .i64 10000,.int .i64 14491,.int .i64 0]):=by
 have h:=ffar_out 21 0 1048575 (0,0,false) (by omega) (by omega)
 rw[ffar_fin] at h
 exact .stop (Z6_ok _) F6sy (ffar_start ()) h
end Go.Proofs.YtppcdepecdemnaaGreatDoor


set_option maxRecDepth 100000
namespace Go.Proofs.YtppcdepecdemnaaGreatDoor
open Go Go.Eng
noncomputable def frst (a b q:Int):Bool:=ieq q 169000000&&ieq a 400&&ieq b 50
noncomputable def LY:List Said:=[(39,con2 tP tP (fun l s=>bif ieq s.1 100000000 then lcO l.1 l.2.1 s.1&&snO l.1 l.2.1 s.1 else (bif frst l.1 l.2.1 s.1 then lcO l.1 l.2.1 s.1&&!snO l.1 l.2.1 s.1 else lcO l.1 l.2.1 s.1)) (fun l s=>bif ieq s.1 100000000 then .bool true else .bool (bif frst l.1 l.2.1 s.1 then false else snO l.1 l.2.1 s.1)))]
theorem LY_ok:∀ e∈LY,SaidG Tryz.prog F2.glob e:=
 saids_cons (SaidOK.g f2 xf2 nf2 tabs_ok.mix (fun _ _ h=>con2_spec (t:=tP) (u:=tP) (fun l s hc=>by
  dsimp only at hc⊢
  cases e:ieq s.1 100000000 with
  |true=>
   rw[e,cond_true,Bool.and_eq_true,lcO_eq,snO_eq] at hc
   rw[cond_true]
   have:=lrea_call l s hc.1
   rw[hc.2] at this
   exact this
  | false =>
   rw[e,cond_false] at hc
   rw[cond_false]
   cases e2:frst l.1 l.2.1 s.1 with
   |true=>
    rw[e2,cond_true,Bool.and_eq_true,lcO_eq,snO_eq] at hc
    rw[cond_true]
    have:=lrea_call l s hc.1
    rw[show seenF l.1 l.2.1 s.1=false by simpa using hc.2] at this
    exact this
   |false=>
    rw[e2,cond_false,lcO_eq] at hc
    rw[cond_false,snO_eq]
    exact lrea_call l s hc) h) rfl) saids_nil
noncomputable def F8:Env:=F6.say (under (xOf LY))
theorem f8:EnvOK Tryz.prog F8:=f6.say _
theorem nf8:NameOK F8:=nf6.say _
theorem xf8:ExtOK Tryz.prog F8:=xf6.sayL LY_ok
theorem F8sy:F8.sy=true:=rfl
noncomputable def Z8 (l:List Nat):Sy:={ (Z6 []).on LY l with pl:=false }
theorem Z8_ok (l:List Nat):(Z8 l).ok F8:=Sy.on_ok (E:=F6) (L:=LY) (hd:=l) (Z6_ok _)
end Go.Proofs.YtppcdepecdemnaaGreatDoor


set_option maxRecDepth 100000
namespace Go.Proofs.YtppcdepecdemnaaGreatDoor
open Go Go.Eng
noncomputable def ffalQ0:Tmps:=(tmOf 33 [(0,(.yld 16)),(1,(pP 13 0)),(2,(pP 14 0)),(3,(pP 15 0)),(7,(.agg [(iI 400),(iI 420)])),(8,(iI 21)),(9,(iI 0))])
noncomputable def ffalQ1:Tmps:=(tmOf 45 [(0,(pP 6 0)),(1,(.bool false)),(2,(pP 8 0)),(3,(pP 9 0)),(4,.nils),(5,(pP 11 0)),(6,(pP 12 0)),(12,(.mp 10)),(13,(pP 6 0)),(14,(.bool false)),(15,(.fn 105 [] [(pP 13 0),(pP 14 0),(pP 15 0)]))])
noncomputable def ffalQ2:Tmps:=(tmOf 29 [(0,(.agg [(.vs tGr (false) (S0.1.2)),(iI 20),(iI 30),(iI 50),(iI 120)])),(1,(.agg [(iI 0),(iI 0),(iI 0),(iI 8),(iI 1)])),(2,(.vs tRe (false) ([rB,rC]))),(3,(pP 0 0)),(4,(pP 1 0)),(6,.nils),(7,(iI 0)),(8,(pP 6 0)),(9,(iI 0)),(11,(.tup [(pP 6 0),(iI 0)])),(12,(.agg [(.vs tGr (false) (S0.1.2)),(iI 20),(iI 30),(iI 50),(iI 120)])),(13,(.agg [(iI 0),(iI 0),(iI 0),(iI 8),(iI 1)])),(14,(.vs tRe (false) ([rB,rC]))),(15,(.tup [(pP 6 0),(iI 0)])),(16,(pP 6 0)),(17,(iI 0)),(18,(iI 0)),(19,(.bool false)),(21,(pP 6 0))])
noncomputable def ffalk1:AO:=(cF [(.vs tGr (false) (S0.1.2)),(iI 20),(iI 30),(iI 50),(iI 120)])
noncomputable def ffalk4:AO:=(cF [(iI 0),(iI 0),(iI 0),(iI 8),(iI 1)])
noncomputable def ffalk3:AO:=(cF [(.vs tGr (false) (S0.1.2)),(iI 20),(iI 30),(iI 50),(iI 120),(iI 0),(iI 0),(iI 0),(iI 8),(iI 1),(.sl 7 0 (2) (2) 6)])
noncomputable def ffalk0:AO:=(cF ([AV.int IntKind.i64 ([rB,rC].getD (Int.toNat 0) tRe.dflt).1.1,  AV.int IntKind.i64 ([rB,rC].getD (Int.toNat 0) tRe.dflt).1.2.1,AV.bool false,AV.bool false,  AV.int IntKind.i64     (wr .i64 (([rB,rC].getD (Int.toNat 0) tRe.dflt).1.1-N0.1.1) *         wr .i64 (([rB,rC].getD (Int.toNat 0) tRe.dflt).1.1-N0.1.1) +       wr .i64 (([rB,rC].getD (Int.toNat 0) tRe.dflt).1.2.1-N0.1.2.1) *         wr .i64 (([rB,rC].getD (Int.toNat 0) tRe.dflt).1.2.1-N0.1.2.1)),  AV.int IntKind.i64     (ptF (wr .i64 (([rB,rC].getD (Int.toNat 0) tRe.dflt).1.1-N0.1.1))       (wr .i64 (([rB,rC].getD (Int.toNat 0) tRe.dflt).1.2.1-N0.1.2.1))),  AV.int IntKind.i64 ([rB,rC].getD (wr .i64 (0+1)).toNat tRe.dflt).1.1,  AV.int IntKind.i64 ([rB,rC].getD (wr .i64 (0+1)).toNat tRe.dflt).1.2.1,AV.bool false,AV.bool false,  AV.int IntKind.i64     (wr .i64 (([rB,rC].getD (wr .i64 (0+1)).toNat tRe.dflt).1.1-N0.1.1) *         wr .i64 (([rB,rC].getD (wr .i64 (0+1)).toNat tRe.dflt).1.1-N0.1.1) +       wr .i64 (([rB,rC].getD (wr .i64 (0+1)).toNat tRe.dflt).1.2.1-N0.1.2.1) *         wr .i64 (([rB,rC].getD (wr .i64 (0+1)).toNat tRe.dflt).1.2.1-N0.1.2.1)),  AV.int IntKind.i64     (ptF (wr .i64 (([rB,rC].getD (wr .i64 (0+1)).toNat tRe.dflt).1.1-N0.1.1))       (wr .i64 (([rB,rC].getD (wr .i64 (0+1)).toNat tRe.dflt).1.2.1-N0.1.2.1)))]))
noncomputable def ffalk5:HD:=⟨16,45,39,(ffalQ1),#[16],(pcOf F8 49 [0,0,1,0,1,1,1]),(pcOf F8 49 [1,0,1,0,1,1,1])⟩
noncomputable def ffalk9 (z0:Nat):Fm:=(.lop (pcOf F8 105 [0,0,1]) 18 (ffalQ0) z0)
noncomputable def ffalk8:Fm:=(.cal [] (.rng (ffalQ1) [] 45 false ⟨39,[]⟩))
noncomputable def ffalk2:Fm:=(.cal [(.tmp 4)] (.op (pcOf F8 22 [0,1,1,1]) 2 (some 22) ((opsOf (pcOf F8 22 [0,1,1,1]).c).toList.drop 2) (ffalQ2) [] 29 false ⟨40,[]⟩))
noncomputable def ffalg0:List (Nat×AO):=[(0,(ffalk1)),(1,(ffalk4)),(2,(ffalk1)),(3,(ffalk4)),(4,(ffalk1)),(5,(ffalk4)),(6,(ffalk3)),(7,(ffalk0)),(8,(cF [(pP 6 0)])),(9,(cF [(.bool false)])),(11,(cF [(.mp 10)])),(13,(cF [(iI 400),(iI 420)])),(14,(cF [(iI 50),(iI 120)])),(15,(cF [(.fn 38 [] [])])),(17,(cF [(iI 400),(iI 420)]))]
noncomputable def ffalI0 (u:Unit) (x63:Nat):Cfg:=⟨.ex (pcOf F8 105 [0,0,1]) ⟨(ffalQ0),(hpOf 18 (ffalg0++[(10,(.map ([]))),(12,(cF [.nils]))])),[],[⟨false,.normal⟩],33,false⟩,⟨38,[(ffalk5)]⟩,[(ffalk9 x63),(.blk 0),(ffalk8),(.blk 0),(.seq (pcOf F8 49 [1,1,1,1])),(ffalk2),(.seq (pcOf F8 22 [1,1,1,1])),(.cal [(.tmp 6),(.tmp 7)] .top)]⟩
noncomputable def ffalg2:List (Nat×AV):=[(0,(.yld 16)),(1,(pP 13 0)),(2,(pP 14 0)),(3,(pP 15 0)),(7,(.agg [(iI 400),(iI 420)])),(8,(iI 21)),(10,(.bool true)),(12,(.agg [(iI 50),(iI 120)])),(13,(iI 71))]
noncomputable def ffalQ3:Tmps:=(tmOf 33 (ffalg2++[(5,(iI 0)),(9,(iI 0)),(11,(iI 0)),(14,(iI 0))]))
noncomputable def ffalk7:PC:=(pcOf F8 105 [0,0,1,1,0,0,1,1,0,0,1])
noncomputable def ffalI1 (u:Unit) (x79:Nat) (x84:Nat):Cfg:=⟨.ex (ffalk7) ⟨(ffalQ3),(hpOf 19 (ffalg0++[(10,(.map ([]))),(12,(cF [.nils])),(18,(cF [(iI 50),(iI 120)]))])),[],[⟨false,.normal⟩],33,false⟩,⟨38,[(ffalk5)]⟩,[(.lop (ffalk7) 19 (ffalQ3) x79),(.blk 2),(.blk 1),(.seq (pcOf F8 105 [1,1,1,0,0,1])),(ffalk9 x84),(.blk 0),(ffalk8),(.blk 0),(.seq (pcOf F8 49 [1,1,1,1])),(ffalk2),(.seq (pcOf F8 22 [1,1,1,1])),(.cal [(.tmp 6),(.tmp 7)] .top)]⟩
noncomputable def ffalQ4 (y0:Int):Tmps:=(tmOf 33 (ffalg2++[(5,(iI 0)),(9,(iI 0)),(11,(iI 0)),(14,(iI y0))]))
noncomputable def ffalg3:List (Nat×AO):=[(10,(.map ([(AV.int IntKind.u64       (IntKind.u64.wrap         ↑(BitVec.ofInt IntKind.u64.bits 0 |||               BitVec.ofInt IntKind.u64.bits (IntKind.u64.wrap (1 * 2 ^ min (Int.toNat 0) IntKind.u64.bits))).toNat),    AV.bool true)])))]
noncomputable def ffalI2 (u:Unit) (x10:Int) (x81:Nat) (x86:Nat):Cfg:=⟨.ex (ffalk7) ⟨(ffalQ4 x10),(hpOf 20 (ffalg0++ffalg3++[(12,(cF [(.sl 19 0 (1) (1) 1)])),(18,(cF [(iI 50),(iI 120)])),(19,(cF ([AV.csl [AV.int IntKind.i64 (wr .i64 (0+1))] 1])))])),[],[⟨false,.normal⟩],33,false⟩,⟨38,[(ffalk5)]⟩,[(.lop (ffalk7) 19 (ffalQ3) x81),(.blk 2),(.blk 1),(.seq (pcOf F8 105 [1,1,1,0,0,1])),(ffalk9 x86),(.blk 0),(ffalk8),(.blk 0),(.seq (pcOf F8 49 [1,1,1,1])),(ffalk2),(.seq (pcOf F8 22 [1,1,1,1])),(.cal [(.tmp 6),(.tmp 7)] .top)]⟩
noncomputable def ffalk6:AO:=(cF ([AV.csl [AV.int IntKind.i64 (wr .i64 (0+1))] 1,  AV.csl [AV.int IntKind.i64 0,AV.int IntKind.i64 (wr .i64 (0+1))] (1+1)]))
noncomputable def ffalg1:List (Nat×AO):=[(10,(.map ([(AV.int IntKind.u64       (IntKind.u64.wrap         ↑(BitVec.ofInt IntKind.u64.bits 0 |||               BitVec.ofInt IntKind.u64.bits (IntKind.u64.wrap (1 * 2 ^ min (Int.toNat 0) IntKind.u64.bits))).toNat),    AV.bool true),  (AV.int IntKind.u64 0,AV.bool true)])))]
noncomputable def ffalI3 (u:Unit) (x10:Int) (x81:Nat) (x86:Nat):Cfg:=⟨.ex (ffalk7) ⟨(ffalQ4 x10),(hpOf 20 (ffalg0++ffalg1++[(12,(cF [(.sl 19 0 (2) (2) 1)])),(18,(cF [(iI 50),(iI 120)])),(19,(ffalk6))])),[],[⟨false,.normal⟩],33,false⟩,⟨38,[(ffalk5)]⟩,[(.lop (ffalk7) 19 (ffalQ3) x81),(.blk 2),(.blk 1),(.seq (pcOf F8 105 [1,1,1,0,0,1])),(ffalk9 x86),(.blk 0),(ffalk8),(.blk 0),(.seq (pcOf F8 49 [1,1,1,1])),(ffalk2),(.seq (pcOf F8 22 [1,1,1,1])),(.cal [(.tmp 6),(.tmp 7)] .top)]⟩
noncomputable def ffalQ5 (y0:Int):Tmps:=(tmOf 33 [(0,(.yld 16)),(1,(pP 13 0)),(2,(pP 14 0)),(3,(pP 15 0)),(7,(.agg [(iI 400),(iI 420)])),(8,(iI 21)),(9,(iI y0))])
noncomputable def ffalI4 (u:Unit) (x3:Int) (x65:Nat):Cfg:=⟨.ex (pcOf F8 105 [0,0,1]) ⟨(ffalQ5 x3),(hpOf 19 (ffalg0++ffalg3++[(12,(cF [(.sl 18 0 (1) (1) 1)])),(18,(cF ([AV.csl [AV.int IntKind.i64 (wr .i64 (0+1))] 1])))])),[],[⟨false,.normal⟩],33,false⟩,⟨38,[(ffalk5)]⟩,[(ffalk9 x65),(.blk 0),(ffalk8),(.blk 0),(.seq (pcOf F8 49 [1,1,1,1])),(ffalk2),(.seq (pcOf F8 22 [1,1,1,1])),(.cal [(.tmp 6),(.tmp 7)] .top)]⟩
noncomputable def ffalI5 (u:Unit) (x3:Int) (x65:Nat):Cfg:=⟨.ex (pcOf F8 105 [0,0,1]) ⟨(ffalQ5 x3),(hpOf 19 (ffalg0++ffalg1++[(12,(cF [(.sl 18 0 (2) (2) 1)])),(18,(ffalk6))])),[],[⟨false,.normal⟩],33,false⟩,⟨38,[(ffalk5)]⟩,[(ffalk9 x65),(.blk 0),(ffalk8),(.blk 0),(.seq (pcOf F8 49 [1,1,1,1])),(ffalk2),(.seq (pcOf F8 22 [1,1,1,1])),(.cal [(.tmp 6),(.tmp 7)] .top)]⟩
noncomputable def ffalQ6 (y0:Int) (y1:Int):Tmps:=(tmOf 33 (ffalg2++[(5,(iI y0)),(9,(iI y0)),(11,(iI y0)),(14,(iI y1))]))
noncomputable def ffalQ7 (y0:Int):Tmps:=(tmOf 33 (ffalg2++[(5,(iI y0)),(9,(iI y0)),(11,(iI y0)),(14,(iI 0))]))
noncomputable def ffalI6 (u:Unit) (x0:Int) (x10:Int) (x81:Nat) (x86:Nat):Cfg:=⟨.ex (ffalk7) ⟨(ffalQ6 x0 x10),(hpOf 20 (ffalg0++ffalg3++[(12,(cF [(.sl 18 0 (1) (1) 1)])),(18,(cF ([AV.csl [AV.int IntKind.i64 (wr .i64 (0+1))] 1]))),(19,(cF [(iI 50),(iI 120)]))])),[],[⟨false,.normal⟩],33,false⟩,⟨38,[(ffalk5)]⟩,[(.lop (ffalk7) 20 (ffalQ7 x0) x81),(.blk 2),(.blk 1),(.seq (pcOf F8 105 [1,1,1,0,0,1])),(ffalk9 x86),(.blk 0),(ffalk8),(.blk 0),(.seq (pcOf F8 49 [1,1,1,1])),(ffalk2),(.seq (pcOf F8 22 [1,1,1,1])),(.cal [(.tmp 6),(.tmp 7)] .top)]⟩
noncomputable def ffalI7 (u:Unit) (x0:Int) (x10:Int) (x81:Nat) (x86:Nat):Cfg:=⟨.ex (ffalk7) ⟨(ffalQ6 x0 x10),(hpOf 20 (ffalg0++ffalg1++[(12,(cF [(.sl 18 0 (2) (2) 1)])),(18,(ffalk6)),(19,(cF [(iI 50),(iI 120)]))])),[],[⟨false,.normal⟩],33,false⟩,⟨38,[(ffalk5)]⟩,[(.lop (ffalk7) 20 (ffalQ7 x0) x81),(.blk 2),(.blk 1),(.seq (pcOf F8 105 [1,1,1,0,0,1])),(ffalk9 x86),(.blk 0),(ffalk8),(.blk 0),(.seq (pcOf F8 49 [1,1,1,1])),(ffalk2),(.seq (pcOf F8 22 [1,1,1,1])),(.cal [(.tmp 6),(.tmp 7)] .top)]⟩
noncomputable def ffalI8 (u:Unit) (x0:Int) (x10:Int) (x81:Nat) (x86:Nat):Cfg:=⟨.ex (ffalk7) ⟨(ffalQ6 x0 x10),(hpOf 21 (ffalg0++ffalg1++[(12,(cF [(.sl 20 0 (2) (2) 1)])),(18,.gone),(19,(cF [(iI 50),(iI 120)])),(20,(ffalk6))])),[],[⟨false,.normal⟩],33,false⟩,⟨38,[(ffalk5)]⟩,[(.lop (ffalk7) 20 (ffalQ7 x0) x81),(.blk 2),(.blk 1),(.seq (pcOf F8 105 [1,1,1,0,0,1])),(ffalk9 x86),(.blk 0),(ffalk8),(.blk 0),(.seq (pcOf F8 49 [1,1,1,1])),(ffalk2),(.seq (pcOf F8 22 [1,1,1,1])),(.cal [(.tmp 6),(.tmp 7)] .top)]⟩
theorem ffal_start (u:Unit):adv F8 (Z8 [105]) 30000 (startC F8 22 [tSt.av S0,tNi.av N0,.vs tRe false [rB,rC]] 40)=some (.stop (ffalI0 u (1048575))):=by kernel_rfl
theorem ffal_step0 (u:Unit) (x63:Nat):adv F8 (Z8 [105]) 30000 (ffalI0 u (x63+1))=some (.stop (ffalI1 u (1048575) (x63+1))):=by kernel_rfl
theorem ffal_step1 (u:Unit) (x79:Nat) (x84:Nat):adv F8 (Z8 [105]) 30000 (ffalI1 u (x79+1) (x84+1))=(bif bif ieq 169000000 100000000 then lcO (wr .i64 (400+0)) (wr .i64 (50+0)) 169000000&&snO (wr .i64 (400+0)) (wr .i64 (50+0)) 169000000 else bif frst (wr .i64 (400+0)) (wr .i64 (50+0)) 169000000 then lcO (wr .i64 (400+0)) (wr .i64 (50+0)) 169000000&&!snO (wr .i64 (400+0)) (wr .i64 (50+0)) 169000000 else lcO (wr .i64 (400+0)) (wr .i64 (50+0)) 169000000 then (bif bif ieq 100000000 100000000 then lcO (wr .i64 (400+0)) (wr .i64 (50+0)) 100000000&&snO (wr .i64 (400+0)) (wr .i64 (50+0)) 100000000 else bif frst (wr .i64 (400+0)) (wr .i64 (50+0)) 100000000 then lcO (wr .i64 (400+0)) (wr .i64 (50+0)) 100000000&&!snO (wr .i64 (400+0)) (wr .i64 (50+0)) 100000000 else lcO (wr .i64 (400+0)) (wr .i64 (50+0)) 100000000 then some (.stop (ffalI2 u (1) (x79) (x84+1))) else none) else none):=by kernel_rfl
theorem ffal_step2 (u:Unit) (x10:Int) (x81:Nat) (x86:Nat):adv F8 (Z8 [105]) 30000 (ffalI2 u x10 (x81+1) (x86+1))=(bif !ile 71 x10 then (bif bif ieq 169000000 100000000 then lcO (wr .i64 (400+0)) (wr .i64 (50+x10)) 169000000&&snO (wr .i64 (400+0)) (wr .i64 (50+x10)) 169000000 else bif frst (wr .i64 (400+0)) (wr .i64 (50+x10)) 169000000 then lcO (wr .i64 (400+0)) (wr .i64 (50+x10)) 169000000&&!snO (wr .i64 (400+0)) (wr .i64 (50+x10)) 169000000 else lcO (wr .i64 (400+0)) (wr .i64 (50+x10)) 169000000 then (bif false == bif frst (wr .i64 (400+0)) (wr .i64 (50+x10)) 169000000 then false else snO (wr .i64 (400+0)) (wr .i64 (50+x10)) 169000000 then (bif bif ieq 100000000 100000000 then lcO (wr .i64 (400+0)) (wr .i64 (50+x10)) 100000000&&snO (wr .i64 (400+0)) (wr .i64 (50+x10)) 100000000 else bif frst (wr .i64 (400+0)) (wr .i64 (50+x10)) 100000000 then lcO (wr .i64 (400+0)) (wr .i64 (50+x10)) 100000000&&!snO (wr .i64 (400+0)) (wr .i64 (50+x10)) 100000000 else lcO (wr .i64 (400+0)) (wr .i64 (50+x10)) 100000000 then some (.stop (ffalI2 u (wr .i64 (x10+1)) (x81) (x86+1))) else none) else (bif bif ieq 100000000 100000000 then lcO (wr .i64 (400+0)) (wr .i64 (50+x10)) 100000000&&snO (wr .i64 (400+0)) (wr .i64 (50+x10)) 100000000 else bif frst (wr .i64 (400+0)) (wr .i64 (50+x10)) 100000000 then lcO (wr .i64 (400+0)) (wr .i64 (50+x10)) 100000000&&!snO (wr .i64 (400+0)) (wr .i64 (50+x10)) 100000000 else lcO (wr .i64 (400+0)) (wr .i64 (50+x10)) 100000000 then some (.stop (ffalI3 u (wr .i64 (x10+1)) (x81) (x86+1))) else none)) else none) else some (.stop (ffalI4 u (1) (x86)))):=by kernel_rfl
theorem ffal_step3 (u:Unit) (x10:Int) (x81:Nat) (x86:Nat):adv F8 (Z8 [105]) 30000 (ffalI3 u x10 (x81+1) (x86+1))=(bif !ile 71 x10 then (bif bif ieq 169000000 100000000 then lcO (wr .i64 (400+0)) (wr .i64 (50+x10)) 169000000&&snO (wr .i64 (400+0)) (wr .i64 (50+x10)) 169000000 else bif frst (wr .i64 (400+0)) (wr .i64 (50+x10)) 169000000 then lcO (wr .i64 (400+0)) (wr .i64 (50+x10)) 169000000&&!snO (wr .i64 (400+0)) (wr .i64 (50+x10)) 169000000 else lcO (wr .i64 (400+0)) (wr .i64 (50+x10)) 169000000 then (bif false == bif frst (wr .i64 (400+0)) (wr .i64 (50+x10)) 169000000 then false else snO (wr .i64 (400+0)) (wr .i64 (50+x10)) 169000000 then (bif bif ieq 100000000 100000000 then lcO (wr .i64 (400+0)) (wr .i64 (50+x10)) 100000000&&snO (wr .i64 (400+0)) (wr .i64 (50+x10)) 100000000 else bif frst (wr .i64 (400+0)) (wr .i64 (50+x10)) 100000000 then lcO (wr .i64 (400+0)) (wr .i64 (50+x10)) 100000000&&!snO (wr .i64 (400+0)) (wr .i64 (50+x10)) 100000000 else lcO (wr .i64 (400+0)) (wr .i64 (50+x10)) 100000000 then some (.stop (ffalI3 u (wr .i64 (x10+1)) (x81) (x86+1))) else none) else (bif bif ieq 100000000 100000000 then lcO (wr .i64 (400+0)) (wr .i64 (50+x10)) 100000000&&snO (wr .i64 (400+0)) (wr .i64 (50+x10)) 100000000 else bif frst (wr .i64 (400+0)) (wr .i64 (50+x10)) 100000000 then lcO (wr .i64 (400+0)) (wr .i64 (50+x10)) 100000000&&!snO (wr .i64 (400+0)) (wr .i64 (50+x10)) 100000000 else lcO (wr .i64 (400+0)) (wr .i64 (50+x10)) 100000000 then some (.stop (ffalI3 u (wr .i64 (x10+1)) (x81) (x86+1))) else none)) else none) else some (.stop (ffalI5 u (1) (x86)))):=by kernel_rfl
theorem ffal_step4 (u:Unit) (x3:Int) (x65:Nat):adv F8 (Z8 [105]) 30000 (ffalI4 u x3 (x65+1))=(bif !ile 21 x3 then some (.stop (ffalI6 u (x3) (0) (1048575) (x65+1))) else some (.done (.tup [(.csl [(.int .i64 (1))] 1),(.int .i64 (0))]))):=by kernel_rfl
theorem ffal_step5 (u:Unit) (x3:Int) (x65:Nat):adv F8 (Z8 [105]) 30000 (ffalI5 u x3 (x65+1))=(bif !ile 21 x3 then some (.stop (ffalI7 u (x3) (0) (1048575) (x65+1))) else some (.done (.tup [(.csl [(.int .i64 (1))] 1),(.int .i64 (0))]))):=by kernel_rfl
theorem ffal_step6 (u:Unit) (x0:Int) (x10:Int) (x81:Nat) (x86:Nat):adv F8 (Z8 [105]) 30000 (ffalI6 u x0 x10 (x81+1) (x86+1))=(bif !ile 71 x10 then (bif bif ieq 169000000 100000000 then lcO (wr .i64 (400+x0)) (wr .i64 (50+x10)) 169000000&&snO (wr .i64 (400+x0)) (wr .i64 (50+x10)) 169000000 else bif frst (wr .i64 (400+x0)) (wr .i64 (50+x10)) 169000000 then lcO (wr .i64 (400+x0)) (wr .i64 (50+x10)) 169000000&&!snO (wr .i64 (400+x0)) (wr .i64 (50+x10)) 169000000 else lcO (wr .i64 (400+x0)) (wr .i64 (50+x10)) 169000000 then (bif false == bif frst (wr .i64 (400+x0)) (wr .i64 (50+x10)) 169000000 then false else snO (wr .i64 (400+x0)) (wr .i64 (50+x10)) 169000000 then (bif bif ieq 100000000 100000000 then lcO (wr .i64 (400+x0)) (wr .i64 (50+x10)) 100000000&&snO (wr .i64 (400+x0)) (wr .i64 (50+x10)) 100000000 else bif frst (wr .i64 (400+x0)) (wr .i64 (50+x10)) 100000000 then lcO (wr .i64 (400+x0)) (wr .i64 (50+x10)) 100000000&&!snO (wr .i64 (400+x0)) (wr .i64 (50+x10)) 100000000 else lcO (wr .i64 (400+x0)) (wr .i64 (50+x10)) 100000000 then some (.stop (ffalI6 u (x0) (wr .i64 (x10+1)) (x81) (x86+1))) else none) else (bif bif ieq 100000000 100000000 then lcO (wr .i64 (400+x0)) (wr .i64 (50+x10)) 100000000&&snO (wr .i64 (400+x0)) (wr .i64 (50+x10)) 100000000 else bif frst (wr .i64 (400+x0)) (wr .i64 (50+x10)) 100000000 then lcO (wr .i64 (400+x0)) (wr .i64 (50+x10)) 100000000&&!snO (wr .i64 (400+x0)) (wr .i64 (50+x10)) 100000000 else lcO (wr .i64 (400+x0)) (wr .i64 (50+x10)) 100000000 then some (.stop (ffalI8 u (x0) (wr .i64 (x10+1)) (x81) (x86+1))) else none)) else none) else some (.stop (ffalI4 u (wr .i64 (x0+1)) (x86)))):=by kernel_rfl
theorem ffal_step7 (u:Unit) (x0:Int) (x10:Int) (x81:Nat) (x86:Nat):adv F8 (Z8 [105]) 30000 (ffalI7 u x0 x10 (x81+1) (x86+1))=(bif !ile 71 x10 then (bif bif ieq 169000000 100000000 then lcO (wr .i64 (400+x0)) (wr .i64 (50+x10)) 169000000&&snO (wr .i64 (400+x0)) (wr .i64 (50+x10)) 169000000 else bif frst (wr .i64 (400+x0)) (wr .i64 (50+x10)) 169000000 then lcO (wr .i64 (400+x0)) (wr .i64 (50+x10)) 169000000&&!snO (wr .i64 (400+x0)) (wr .i64 (50+x10)) 169000000 else lcO (wr .i64 (400+x0)) (wr .i64 (50+x10)) 169000000 then (bif false == bif frst (wr .i64 (400+x0)) (wr .i64 (50+x10)) 169000000 then false else snO (wr .i64 (400+x0)) (wr .i64 (50+x10)) 169000000 then (bif bif ieq 100000000 100000000 then lcO (wr .i64 (400+x0)) (wr .i64 (50+x10)) 100000000&&snO (wr .i64 (400+x0)) (wr .i64 (50+x10)) 100000000 else bif frst (wr .i64 (400+x0)) (wr .i64 (50+x10)) 100000000 then lcO (wr .i64 (400+x0)) (wr .i64 (50+x10)) 100000000&&!snO (wr .i64 (400+x0)) (wr .i64 (50+x10)) 100000000 else lcO (wr .i64 (400+x0)) (wr .i64 (50+x10)) 100000000 then some (.stop (ffalI7 u (x0) (wr .i64 (x10+1)) (x81) (x86+1))) else none) else (bif bif ieq 100000000 100000000 then lcO (wr .i64 (400+x0)) (wr .i64 (50+x10)) 100000000&&snO (wr .i64 (400+x0)) (wr .i64 (50+x10)) 100000000 else bif frst (wr .i64 (400+x0)) (wr .i64 (50+x10)) 100000000 then lcO (wr .i64 (400+x0)) (wr .i64 (50+x10)) 100000000&&!snO (wr .i64 (400+x0)) (wr .i64 (50+x10)) 100000000 else lcO (wr .i64 (400+x0)) (wr .i64 (50+x10)) 100000000 then some (.stop (ffalI7 u (x0) (wr .i64 (x10+1)) (x81) (x86+1))) else none)) else none) else some (.stop (ffalI5 u (wr .i64 (x0+1)) (x86)))):=by kernel_rfl
theorem ffal_step8 (u:Unit) (x0:Int) (x10:Int) (x81:Nat) (x86:Nat):adv F8 (Z8 [105]) 30000 (ffalI8 u x0 x10 (x81+1) (x86+1))=(bif !ile 71 x10 then (bif bif ieq 169000000 100000000 then lcO (wr .i64 (400+x0)) (wr .i64 (50+x10)) 169000000&&snO (wr .i64 (400+x0)) (wr .i64 (50+x10)) 169000000 else bif frst (wr .i64 (400+x0)) (wr .i64 (50+x10)) 169000000 then lcO (wr .i64 (400+x0)) (wr .i64 (50+x10)) 169000000&&!snO (wr .i64 (400+x0)) (wr .i64 (50+x10)) 169000000 else lcO (wr .i64 (400+x0)) (wr .i64 (50+x10)) 169000000 then (bif false == bif frst (wr .i64 (400+x0)) (wr .i64 (50+x10)) 169000000 then false else snO (wr .i64 (400+x0)) (wr .i64 (50+x10)) 169000000 then (bif bif ieq 100000000 100000000 then lcO (wr .i64 (400+x0)) (wr .i64 (50+x10)) 100000000&&snO (wr .i64 (400+x0)) (wr .i64 (50+x10)) 100000000 else bif frst (wr .i64 (400+x0)) (wr .i64 (50+x10)) 100000000 then lcO (wr .i64 (400+x0)) (wr .i64 (50+x10)) 100000000&&!snO (wr .i64 (400+x0)) (wr .i64 (50+x10)) 100000000 else lcO (wr .i64 (400+x0)) (wr .i64 (50+x10)) 100000000 then some (.stop (ffalI8 u (x0) (wr .i64 (x10+1)) (x81) (x86+1))) else none) else (bif bif ieq 100000000 100000000 then lcO (wr .i64 (400+x0)) (wr .i64 (50+x10)) 100000000&&snO (wr .i64 (400+x0)) (wr .i64 (50+x10)) 100000000 else bif frst (wr .i64 (400+x0)) (wr .i64 (50+x10)) 100000000 then lcO (wr .i64 (400+x0)) (wr .i64 (50+x10)) 100000000&&!snO (wr .i64 (400+x0)) (wr .i64 (50+x10)) 100000000 else lcO (wr .i64 (400+x0)) (wr .i64 (50+x10)) 100000000 then some (.stop (ffalI8 u (x0) (wr .i64 (x10+1)) (x81) (x86+1))) else none)) else none) else some (.stop (ffalI5 u (wr .i64 (x0+1)) (x86)))):=by kernel_rfl
theorem sn_fst:seenF 400 50 169000000=false:=by kernel_rfl
theorem fr_ok {i k:Nat} (hi:i≤20) (hk:k≤70):(bif frst (400+(i:Int)) (50+(k:Int)) 169000000 then lcO (400+(i:Int)) (50+(k:Int)) 169000000&&!snO (400+(i:Int)) (50+(k:Int)) 169000000 else lcO (400+(i:Int)) (50+(k:Int)) 169000000)=true:=by
 have l:=lc_in (q:=169000000) hi hk (by decide) (by decide)
 rw[lcO_eq,snO_eq,l]
 cases e:frst (400+(i:Int)) (50+(k:Int)) 169000000 with
 |false=>rfl
 |true=>
  unfold frst at e
  simp only[Bool.and_eq_true] at e
  rw[ieq_t e.1.2,ieq_t e.2,sn_fst];rfl
theorem sn_ok {i k:Nat} (hi:i≤20) (hk:k≤70):(lcO (400+(i:Int)) (50+(k:Int)) 100000000&&snO (400+(i:Int)) (50+(k:Int)) 100000000)=true:=by
 rw[lcO_eq,snO_eq,lc_in (q:=100000000) hi hk (by decide) (by decide),sn_in hi hk];rfl
noncomputable def falV:AV:=.tup [.csl [.int .i64 1] 1,.int .i64 0]
theorem w400:wr .i64 (400+0)=400+((0:Nat):Int):=rfl
theorem w50:wr .i64 (50+0)=50+((0:Nat):Int):=rfl
theorem fal3 (M:Nat) (ke:Ans F8 (ffalI5 () ((1:Nat):Int) M) falV):∀ (r k m:Nat),k+r=71→r<m→Ans F8 (ffalI3 () k m (M+1)) falV
 |0,k,m+1,hk,hm=>by
  have h:=ffal_step3 () k m M
  have e:k=71:=by omega
  subst e
  rw[show ile 71 ((71:Nat):Int)=true from rfl,Bool.not_true,cond_false] at h
  exact .stop (Z8_ok _) F8sy h ke
 | r + 1, k, m + 1, hk, hm => by
  have h:=ffal_step3 () k m M
  have e1:ile 71 (k:Int)=false:=ile_f (by omega)
  rw[wr_succ (show k<1048577 by omega),wr_in (n:=50+(k:Int)) (by omega) (by omega)] at h
  simp only[w400,e1,show ieq 169000000 100000000=false from rfl,ieq_self,fr_ok (i:=0) (show (0:Nat)≤20 by omega) (show k≤70 by omega),sn_ok (i:=0) (show (0:Nat)≤20 by omega) (show k≤70 by omega),Bool.not_false,cond_true,cond_false] at h
  generalize (bif frst (400+((0:Nat):Int)) (50+(k:Int)) 169000000 then false else snO (400+((0:Nat):Int)) (50+(k:Int)) 169000000)=b at h
  cases b with
  |false=>
   rw[show (false == false)=true from rfl,cond_true] at h
   exact .stop (Z8_ok _) F8sy h (fal3 M ke r (k+1) m (by omega) (by omega))
  |true=>
   rw[show (false == true)=false from rfl,cond_false] at h
   exact .stop (Z8_ok _) F8sy h (fal3 M ke r (k+1) m (by omega) (by omega))
theorem fal2 (M:Nat) (ke:Ans F8 (ffalI4 () ((1:Nat):Int) M) falV) (ko:∀ (r k m:Nat),k+r=71→r<m→Ans F8 (ffalI3 () k m (M+1)) falV):∀ (r k m:Nat),k+r=71→r<m→Ans F8 (ffalI2 () k m (M+1)) falV
 |0,k,m+1,hk,hm=>by
  have h:=ffal_step2 () k m M
  have e:k=71:=by omega
  subst e
  rw[show ile 71 ((71:Nat):Int)=true from rfl,Bool.not_true,cond_false] at h
  exact .stop (Z8_ok _) F8sy h ke
 | r + 1, k, m + 1, hk, hm => by
  have h:=ffal_step2 () k m M
  have e1:ile 71 (k:Int)=false:=ile_f (by omega)
  rw[wr_succ (show k<1048577 by omega),wr_in (n:=50+(k:Int)) (by omega) (by omega)] at h
  simp only[w400,e1,show ieq 169000000 100000000=false from rfl,ieq_self,fr_ok (i:=0) (show (0:Nat)≤20 by omega) (show k≤70 by omega),sn_ok (i:=0) (show (0:Nat)≤20 by omega) (show k≤70 by omega),Bool.not_false,cond_true,cond_false] at h
  generalize (bif frst (400+((0:Nat):Int)) (50+(k:Int)) 169000000 then false else snO (400+((0:Nat):Int)) (50+(k:Int)) 169000000)=b at h
  cases b with
  |false=>
   rw[show (false == false)=true from rfl,cond_true] at h
   exact .stop (Z8_ok _) F8sy h (fal2 M ke ko r (k+1) m (by omega) (by omega))
  |true=>
   rw[show (false == true)=false from rfl,cond_false] at h
   exact .stop (Z8_ok _) F8sy h (ko r (k+1) m (by omega) (by omega))
theorem fal8 (i:Nat) (hi:i≤20) (M:Nat) (ke:Ans F8 (ffalI5 () ((i+1:Nat):Int) M) falV):∀ (r k m:Nat),k+r=71→r<m→Ans F8 (ffalI8 () i k m (M+1)) falV
 |0,k,m+1,hk,hm=>by
  have h:=ffal_step8 () i k m M
  have e:k=71:=by omega
  subst e
  rw[show ile 71 ((71:Nat):Int)=true from rfl,Bool.not_true,cond_false,wr_succ (show i<1048577 by omega)] at h
  exact .stop (Z8_ok _) F8sy h ke
 | r + 1, k, m + 1, hk, hm => by
  have h:=ffal_step8 () i k m M
  have e1:ile 71 (k:Int)=false:=ile_f (by omega)
  rw[wr_succ (show k<1048577 by omega),wr_in (n:=50+(k:Int)) (by omega) (by omega)] at h
  simp only[wr_in (n:=400+(i:Int)) (by omega) (by omega),e1,show ieq 169000000 100000000=false from rfl,ieq_self,fr_ok (i:=i) hi (show k≤70 by omega),sn_ok (i:=i) hi (show k≤70 by omega),Bool.not_false,cond_true,cond_false] at h
  generalize (bif frst (400+((i:Nat):Int)) (50+(k:Int)) 169000000 then false else snO (400+((i:Nat):Int)) (50+(k:Int)) 169000000)=b at h
  cases b with
  |false=>
   rw[show (false == false)=true from rfl,cond_true] at h
   exact .stop (Z8_ok _) F8sy h (fal8 i hi M ke r (k+1) m (by omega) (by omega))
  |true=>
   rw[show (false == true)=false from rfl,cond_false] at h
   exact .stop (Z8_ok _) F8sy h (fal8 i hi M ke r (k+1) m (by omega) (by omega))
theorem fal7 (i:Nat) (hi:i≤20) (M:Nat) (ke:Ans F8 (ffalI5 () ((i+1:Nat):Int) M) falV):∀ (r k m:Nat),k+r=71→r<m→Ans F8 (ffalI7 () i k m (M+1)) falV
 |0,k,m+1,hk,hm=>by
  have h:=ffal_step7 () i k m M
  have e:k=71:=by omega
  subst e
  rw[show ile 71 ((71:Nat):Int)=true from rfl,Bool.not_true,cond_false,wr_succ (show i<1048577 by omega)] at h
  exact .stop (Z8_ok _) F8sy h ke
 | r + 1, k, m + 1, hk, hm => by
  have h:=ffal_step7 () i k m M
  have e1:ile 71 (k:Int)=false:=ile_f (by omega)
  rw[wr_succ (show k<1048577 by omega),wr_in (n:=50+(k:Int)) (by omega) (by omega)] at h
  simp only[wr_in (n:=400+(i:Int)) (by omega) (by omega),e1,show ieq 169000000 100000000=false from rfl,ieq_self,fr_ok (i:=i) hi (show k≤70 by omega),sn_ok (i:=i) hi (show k≤70 by omega),Bool.not_false,cond_true,cond_false] at h
  generalize (bif frst (400+((i:Nat):Int)) (50+(k:Int)) 169000000 then false else snO (400+((i:Nat):Int)) (50+(k:Int)) 169000000)=b at h
  cases b with
  |false=>
   rw[show (false == false)=true from rfl,cond_true] at h
   exact .stop (Z8_ok _) F8sy h (fal7 i hi M ke r (k+1) m (by omega) (by omega))
  |true=>
   rw[show (false == true)=false from rfl,cond_false] at h
   exact .stop (Z8_ok _) F8sy h (fal7 i hi M ke r (k+1) m (by omega) (by omega))
theorem fal6 (i:Nat) (hi:i≤20) (M:Nat) (ke:Ans F8 (ffalI4 () ((i+1:Nat):Int) M) falV) (ko:∀ (r k m:Nat),k+r=71→r<m→Ans F8 (ffalI8 () i k m (M+1)) falV):∀ (r k m:Nat),k+r=71→r<m→Ans F8 (ffalI6 () i k m (M+1)) falV
 |0,k,m+1,hk,hm=>by
  have h:=ffal_step6 () i k m M
  have e:k=71:=by omega
  subst e
  rw[show ile 71 ((71:Nat):Int)=true from rfl,Bool.not_true,cond_false,wr_succ (show i<1048577 by omega)] at h
  exact .stop (Z8_ok _) F8sy h ke
 | r + 1, k, m + 1, hk, hm => by
  have h:=ffal_step6 () i k m M
  have e1:ile 71 (k:Int)=false:=ile_f (by omega)
  rw[wr_succ (show k<1048577 by omega),wr_in (n:=50+(k:Int)) (by omega) (by omega)] at h
  simp only[wr_in (n:=400+(i:Int)) (by omega) (by omega),e1,show ieq 169000000 100000000=false from rfl,ieq_self,fr_ok (i:=i) hi (show k≤70 by omega),sn_ok (i:=i) hi (show k≤70 by omega),Bool.not_false,cond_true,cond_false] at h
  generalize (bif frst (400+((i:Nat):Int)) (50+(k:Int)) 169000000 then false else snO (400+((i:Nat):Int)) (50+(k:Int)) 169000000)=b at h
  cases b with
  |false=>
   rw[show (false == false)=true from rfl,cond_true] at h
   exact .stop (Z8_ok _) F8sy h (fal6 i hi M ke ko r (k+1) m (by omega) (by omega))
  |true=>
   rw[show (false == true)=false from rfl,cond_false] at h
   exact .stop (Z8_ok _) F8sy h (ko r (k+1) m (by omega) (by omega))
theorem fal_out:∀ (r i:Nat),i+r=21→1≤i→(∀ m,r<m→Ans F8 (ffalI4 () i m) falV)∧(∀ m,r<m→Ans F8 (ffalI5 () i m) falV)
 |0,i,hi,h1=>by
  have e:i=21:=by omega
  subst e
  constructor
  · intro m hm
    obtain⟨m,rfl⟩:∃ m',m=m'+1:=⟨m-1,by omega⟩
    have h:=ffal_step4 () ((21:Nat):Int) m
    rw[show ile 21 ((21:Nat):Int)=true from rfl,Bool.not_true,cond_false] at h
    exact .done (Z8_ok _) F8sy h rfl
  · intro m hm
    obtain⟨m,rfl⟩:∃ m',m=m'+1:=⟨m-1,by omega⟩
    have h:=ffal_step5 () ((21:Nat):Int) m
    rw[show ile 21 ((21:Nat):Int)=true from rfl,Bool.not_true,cond_false] at h
    exact .done (Z8_ok _) F8sy h rfl
 |r+1,i,hi,h1=>by
  obtain⟨k4,k5⟩:=fal_out r (i+1) (by omega) (by omega)
  constructor
  · intro m hm
    obtain⟨m,rfl⟩:∃ m',m=m'+1:=⟨m-1,by omega⟩
    have h:=ffal_step4 () (i:Int) m
    rw[show ile 21 (i:Int)=false from ile_f (by omega),Bool.not_false,cond_true] at h
    exact .stop (Z8_ok _) F8sy h (fal6 i (by omega) m (k4 m (by omega)) (fun r k m' a b=>fal8 i (by omega) m (k5 m (by omega)) r k m' a b) 71 0 1048575 (by omega) (by omega))
  · intro m hm
    obtain⟨m,rfl⟩:∃ m',m=m'+1:=⟨m-1,by omega⟩
    have h:=ffal_step5 () (i:Int) m
    rw[show ile 21 (i:Int)=false from ile_f (by omega),Bool.not_false,cond_true] at h
    exact .stop (Z8_ok _) F8sy h (fal7 i (by omega) m (k5 m (by omega)) 71 0 1048575 (by omega) (by omega))
theorem ffal_ans:Ans F8 (startC F8 22 [tSt.av S0,tNi.av N0,.vs tRe false [rB,rC]] 40) falV:=by
 obtain⟨k4,k5⟩:=fal_out 20 1 (by omega) (by omega)
 have h0:=ffal_step0 () 1048574
 have h1:=ffal_step1 () 1048574 1048574
 simp only[w400,w50,show ieq 169000000 100000000=false from rfl,ieq_self,fr_ok (i:=0) (k:=0) (by omega) (by omega),sn_ok (i:=0) (k:=0) (by omega) (by omega),cond_true,cond_false] at h1
 exact .stop (Z8_ok _) F8sy (ffal_start ()) (.stop (Z8_ok _) F8sy h0 (.stop (Z8_ok _) F8sy h1 (fal2 1048574 (k4 _ (by omega)) (fun r k m' a b=>fal3 1048574 (k5 _ (by omega)) r k m' a b) 70 1 1048574 (by omega) (by omega))))
end Go.Proofs.YtppcdepecdemnaaGreatDoor


set_option maxRecDepth 100000
namespace Go.Proofs.YtppcdepecdemnaaGreatDoor
open Go Go.Eng
noncomputable def LG:List Said:=[(39,con2 tP tP (fun l s=>lcO l.1 l.2.1 s.1) (fun l s=>.bool (snO l.1 l.2.1 s.1)))]
theorem LG_ok:∀ e∈LG,SaidG Tryz.prog F2.glob e:=
 saids_cons (SaidOK.g f2 xf2 nf2 tabs_ok.mix (fun _ _ h=>con2_spec (t:=tP) (u:=tP) (fun l s hc=>by
  rw[lcO_eq] at hc
  rw[snO_eq]
  exact lrea_call l s hc) h) rfl) saids_nil
noncomputable def FG:Env:=F6.say (under (xOf LG))
noncomputable def F11:Env:={ FG with iv:=some 98 }
theorem f11:EnvOK Tryz.prog F11:=by
 have h:EnvOK Tryz.prog FG:=f6.say _
 refine⟨fun t k ht=>?_,h.zero,h.fn,h.eqok,h.meth⟩
 obtain⟨h1,h2⟩:=h.ty t k ht
 refine⟨h1,?_⟩
 cases k<;>exact h2
theorem nf11:NameOK F11:=nf6.say (under (xOf LG))
theorem xf11:ExtOK Tryz.prog F11:=xf6.sayL (L:=LG) LG_ok
theorem F11sy:F11.sy=true:=rfl
noncomputable def Z11 (l:List Nat):Sy:={ (Z6 []).on LG l with pl:=false }
theorem Z11_ok (l:List Nat):(Z11 l).ok F11:=Sy.on_ok (E:=F6) (L:=LG) (hd:=l) (Z6_ok _)
noncomputable def ZP (l:List Nat):Sy:={ (Z6 []).on LG l with nf:=[3] }
theorem ZP_ok (l:List Nat):(ZP l).ok F11:=Sy.on_ok (E:=F6) (L:=LG) (hd:=l) (Z6_ok _)
noncomputable def ZQ (l:List Nat):Sy:=(ZP l).flat [22,23,24,28,29,30,31,32,33,34]
theorem ZQ_ok (l:List Nat):(ZQ l).ok F11:=ZP_ok l
end Go.Proofs.YtppcdepecdemnaaGreatDoor


set_option maxRecDepth 100000
namespace Go.Proofs.YtppcdepecdemnaaGreatDoor
open Go Go.Eng
noncomputable def fgrsQ0:Tmps:=(tmOf 33 [(0,(.yld 20)),(1,(pP 17 0)),(2,(pP 18 0)),(3,(pP 19 0)),(7,(.agg [(iI 400),(iI 420)])),(8,(iI 21)),(9,(iI 0))])
noncomputable def fgrsQ1:Tmps:=(tmOf 24 [(0,(.yld 15)),(1,(pP 12 0)),(2,(pP 13 0)),(3,(pP 16 0)),(7,(pP 11 0)),(8,(.bool false)),(9,(.fn 105 [] [(pP 17 0),(pP 18 0),(pP 19 0)]))])
noncomputable def fgrsQ2:Tmps:=(tmOf 13 [(0,.nils),(1,(.fn 54 [] [(pP 12 0),(pP 13 0)])),(2,(pP 14 0)),(4,.nils),(6,(.fn 54 [] [(pP 12 0),(pP 13 0)]))])
noncomputable def fgrsk0:AO:=(cF [(.vs tGr (false) (S0.1.2)),(iI 20),(iI 30),(iI 50),(iI 120)])
noncomputable def fgrsI0 (q:Int) (x64:Nat):Cfg:=⟨.ex (pcOf F11 105 [0,0,1]) ⟨(fgrsQ0),(hpOf 22 [(0,(fgrsk0)),(1,(cF [(iI 0),(iI 0),(iI 0),(iI 8),(iI 1)])),(2,(.cells true [(iI (q))])),(3,(cF [(.fn 58 [] [(pP 4 0),(pP 5 0),(pP 6 0)])])),(4,(cF [(iI 0)])),(5,(cF [(iI 60000)])),(6,(cF [(.csl [(iI (q))] 1)])),(7,(fgrsk0)),(8,(cF [(iI 0),(iI 0),(iI 0),(iI 8),(iI 1)])),(9,(fgrsk0)),(10,(cF [(iI 0),(iI 0),(iI 0),(iI 8),(iI 1)])),(11,(cF [(.vs tGr (false) (S0.1.2)),(iI 20),(iI 30),(iI 50),(iI 120),(iI 0),(iI 0),(iI 0),(iI 8),(iI 1),.nils])),(12,(cF [(pP 11 0)])),(13,(cF [(.bool false)])),(14,(cF [.nils])),(16,(cF [(.yld 15)])),(17,(cF [(iI 400),(iI 420)])),(18,(cF [(iI 50),(iI 120)])),(19,(cF [(.fn 38 [] [])])),(21,(cF [(iI 400),(iI 420)]))]),[],[⟨false,.normal⟩,⟨false,.normal⟩],33,false⟩,⟨36,[⟨20,24,37,(fgrsQ1),#[10],(pcOf F11 54 [0,0,1,1,0,1]),(pcOf F11 54 [1,0,1,1,0,1])⟩,⟨15,13,38,(fgrsQ2),#[7],(pcOf F11 63 [0,0,1,0,1]),(pcOf F11 63 [1,0,1,0,1])⟩]⟩,[(.lop (pcOf F11 105 [0,0,1]) 22 (fgrsQ0) x64),(.blk 0),(.cal [] (.rng (fgrsQ1) [] 24 false ⟨37,[⟨15,13,38,(fgrsQ2),#[7],(pcOf F11 63 [0,0,1,0,1]),(pcOf F11 63 [1,0,1,0,1])⟩]⟩)),(.blk 0),(.cal [] (.rng (fgrsQ2) [] 13 false ⟨38,[]⟩)),(.blk 0),(.seq (pcOf F11 63 [1,1])),(.cal [(.tmp 4)] (.op (pcOf F11 46 [0,1]) 2 (some 4) ((opsOf (pcOf F11 46 [0,1]).c).toList.drop 2) (tmOf 5 [(0,(.fn 54 [] [(pP 12 0),(pP 13 0)])),(2,.nils),(3,(.fn 54 [] [(pP 12 0),(pP 13 0)]))]) [] 5 false ⟨39,[]⟩)),(.seq (pcOf F11 46 [1,1])),(.cal [(.tmp 2)] (.op (pcOf F11 21 [0,1,1,1]) 3 (some 31) ((opsOf (pcOf F11 21 [0,1,1,1]).c).toList.drop 3) (tmOf 50 [(0,(.agg [(.vs tGr (false) (S0.1.2)),(iI 20),(iI 30),(iI 50),(iI 120)])),(1,(.agg [(iI 0),(iI 0),(iI 0),(iI 8),(iI 1)])),(2,(.vs tRe (true) ([]))),(3,(iI (q))),(4,(pP 0 0)),(5,(pP 1 0)),(8,(iI 0)),(9,(iI 0)),(10,(pP 11 0)),(11,(iI 0)),(15,(.tup [(pP 11 0),(iI 0)])),(16,(.agg [(.vs tGr (false) (S0.1.2)),(iI 20),(iI 30),(iI 50),(iI 120)])),(17,(.agg [(iI 0),(iI 0),(iI 0),(iI 8),(iI 1)])),(18,(.vs tRe (true) ([]))),(19,(iI (q))),(20,(.sl 2 0 (1) (1) 1)),(21,(.fn 58 [] [(pP 4 0),(pP 5 0),(pP 6 0)])),(22,(.sl 3 0 (1) (1) 1)),(23,(.tup [(pP 11 0),(iI 0)])),(24,(pP 11 0)),(25,(iI 0)),(26,(iI 0)),(27,(.bool false)),(29,(pP 11 0)),(30,(.fn 54 [] [(pP 12 0),(pP 13 0)]))]) [] 50 false ⟨40,[]⟩)),(.seq (pcOf F11 21 [1,1,1,1])),(.cal [(.tmp 8),(.tmp 9)] .top)]⟩
theorem fgrs_start (q:Int):adv F11 (Z11 [105]) 3000 (startC F11 21 [tSt.av S0,tNi.av N0,.vs tRe true [],.int .i64 q] 40)=(bif !ile 0 q then some (.done (.tup [(.int .i64 (0)),(.int .i64 (7))])) else (bif !ile q 60000 then some (.done (.tup [(.int .i64 (0)),(.int .i64 (7))])) else some (.stop (fgrsI0 q (1048575))))):=by kernel_rfl
end Go.Proofs.YtppcdepecdemnaaGreatDoor


set_option maxRecDepth 100000
namespace Go.Proofs.YtppcdepecdemnaaGreatDoor
open Go Go.Eng
noncomputable def fgrag1:List (Nat×AV):=[(0,(.yld 20)),(1,(pP 17 0)),(2,(pP 18 0)),(3,(pP 19 0)),(7,(.agg [(iI 400),(iI 420)])),(8,(iI 21)),(10,(.bool true)),(12,(.agg [(iI 50),(iI 120)])),(13,(iI 71))]
noncomputable def fgraQ0:Tmps:=(tmOf 33 (fgrag1++[(5,(iI 0)),(9,(iI 0)),(11,(iI 0)),(14,(iI 0))]))
noncomputable def fgraQ1:Tmps:=(tmOf 24 [(0,(.yld 15)),(1,(pP 12 0)),(2,(pP 13 0)),(3,(pP 16 0)),(7,(pP 11 0)),(8,(.bool false)),(9,(.fn 105 [] [(pP 17 0),(pP 18 0),(pP 19 0)]))])
noncomputable def fgraQ2:Tmps:=(tmOf 13 [(0,.nils),(1,(.fn 54 [] [(pP 12 0),(pP 13 0)])),(2,(pP 14 0)),(4,.nils),(6,(.fn 54 [] [(pP 12 0),(pP 13 0)]))])
noncomputable def fgraQ3:Tmps:=(tmOf 33 [(0,(.yld 20)),(1,(pP 17 0)),(2,(pP 18 0)),(3,(pP 19 0)),(7,(.agg [(iI 400),(iI 420)])),(8,(iI 21)),(9,(iI 0))])
noncomputable def fgraQ4 (q:Int):Tmps:=(tmOf 50 [(0,(.agg [(.vs tGr (false) (S0.1.2)),(iI 20),(iI 30),(iI 50),(iI 120)])),(1,(.agg [(iI 0),(iI 0),(iI 0),(iI 8),(iI 1)])),(2,(.vs tRe (true) ([]))),(3,(iI (q))),(4,(pP 0 0)),(5,(pP 1 0)),(8,(iI 0)),(9,(iI 0)),(10,(pP 11 0)),(11,(iI 0)),(15,(.tup [(pP 11 0),(iI 0)])),(16,(.agg [(.vs tGr (false) (S0.1.2)),(iI 20),(iI 30),(iI 50),(iI 120)])),(17,(.agg [(iI 0),(iI 0),(iI 0),(iI 8),(iI 1)])),(18,(.vs tRe (true) ([]))),(19,(iI (q))),(20,(.sl 2 0 (1) (1) 1)),(21,(.fn 58 [] [(pP 4 0),(pP 5 0),(pP 6 0)])),(22,(.sl 3 0 (1) (1) 1)),(23,(.tup [(pP 11 0),(iI 0)])),(24,(pP 11 0)),(25,(iI 0)),(26,(iI 0)),(27,(.bool false)),(29,(pP 11 0)),(30,(.fn 54 [] [(pP 12 0),(pP 13 0)]))])
noncomputable def fgrak7:PC:=(pcOf F11 105 [0,0,1,1,0,0,1,1,0,0,1])
noncomputable def fgrak0:AO:=(cF [(.vs tGr (false) (S0.1.2)),(iI 20),(iI 30),(iI 50),(iI 120)])
noncomputable def fgrak4:AO:=(cF [(iI 0),(iI 0),(iI 0),(iI 8),(iI 1)])
noncomputable def fgrak9:AO:=(cF [(.fn 58 [] [(pP 4 0),(pP 5 0),(pP 6 0)])])
noncomputable def fgrak5:AO:=(cF [(.vs tGr (false) (S0.1.2)),(iI 20),(iI 30),(iI 50),(iI 120),(iI 0),(iI 0),(iI 0),(iI 8),(iI 1),.nils])
noncomputable def fgrak6:HD:=⟨20,24,37,(fgraQ1),#[10],(pcOf F11 54 [0,0,1,1,0,1]),(pcOf F11 54 [1,0,1,1,0,1])⟩
noncomputable def fgrak2:HD:=⟨15,13,38,(fgraQ2),#[7],(pcOf F11 63 [0,0,1,0,1]),(pcOf F11 63 [1,0,1,0,1])⟩
noncomputable def fgrak11 (z0:Nat):Fm:=(.lop (pcOf F11 105 [0,0,1]) 22 (fgraQ3) z0)
noncomputable def fgrak8:Fm:=(.cal [] (.rng (fgraQ1) [] 24 false ⟨37,[(fgrak2)]⟩))
noncomputable def fgrak10:Fm:=(.cal [] (.rng (fgraQ2) [] 13 false ⟨38,[]⟩))
noncomputable def fgrak1:Fm:=(.cal [(.tmp 4)] (.op (pcOf F11 46 [0,1]) 2 (some 4) ((opsOf (pcOf F11 46 [0,1]).c).toList.drop 2) (tmOf 5 [(0,(.fn 54 [] [(pP 12 0),(pP 13 0)])),(2,.nils),(3,(.fn 54 [] [(pP 12 0),(pP 13 0)]))]) [] 5 false ⟨39,[]⟩))
noncomputable def fgrak3 (z0:Int):Fm:=(.cal [(.tmp 2)] (.op (pcOf F11 21 [0,1,1,1]) 3 (some 31) ((opsOf (pcOf F11 21 [0,1,1,1]).c).toList.drop 3) (fgraQ4 z0) [] 50 false ⟨40,[]⟩))
noncomputable def fgrag0 (q:Int):List (Nat×AO):=[(0,(fgrak0)),(1,(fgrak4)),(2,(.cells true [(iI (q))])),(3,(fgrak9)),(4,(cF [(iI 0)])),(5,(cF [(iI 60000)])),(6,(cF [(.csl [(iI (q))] 1)])),(7,(fgrak0)),(8,(fgrak4)),(9,(fgrak0)),(10,(fgrak4)),(11,(fgrak5)),(12,(cF [(pP 11 0)])),(13,(cF [(.bool false)])),(16,(cF [(.yld 15)])),(17,(cF [(iI 400),(iI 420)])),(18,(cF [(iI 50),(iI 120)])),(19,(cF [(.fn 38 [] [])])),(21,(cF [(iI 400),(iI 420)]))]
noncomputable def fgraI0 (q:Int) (x80:Nat):Cfg:=⟨.ex (fgrak7) ⟨(fgraQ0),(hpOf 23 (fgrag0 q++[(14,(cF [.nils])),(22,(cF [(iI 50),(iI 120)]))])),[],[⟨false,.normal⟩,⟨false,.normal⟩],33,false⟩,⟨36,[(fgrak6),(fgrak2)]⟩,[(.lop (fgrak7) 23 (fgraQ0) x80),(.blk 2),(.blk 1),(.seq (pcOf F11 105 [1,1,1,0,0,1])),(fgrak11 x80),(.blk 0),(fgrak8),(.blk 0),(fgrak10),(.blk 0),(.seq (pcOf F11 63 [1,1])),(fgrak1),(.seq (pcOf F11 46 [1,1])),(fgrak3 q),(.seq (pcOf F11 21 [1,1,1,1])),(.cal [(.tmp 8),(.tmp 9)] .top)]⟩
noncomputable def fgraI1 (q:Int) (x10:Int) (x60:Nat) (x70:List AV) (x83:Nat) (x88:Nat):Cfg:=⟨.ex (fgrak7) ⟨(tmOf 33 (fgrag1++[(5,(iI 0)),(9,(iI 0)),(11,(iI 0)),(14,(iI x10))])),(hpOf 24 (fgrag0 q++[(14,(cF [(.sl 23 0 x60 x60 1)])),(22,(cF [(iI 50),(iI 120)])),(23,(cF x70))])),[],[⟨false,.normal⟩,⟨false,.normal⟩],33,false⟩,⟨36,[(fgrak6),(fgrak2)]⟩,[(.lop (fgrak7) 23 (fgraQ0) x83),(.blk 2),(.blk 1),(.seq (pcOf F11 105 [1,1,1,0,0,1])),(fgrak11 x88),(.blk 0),(fgrak8),(.blk 0),(fgrak10),(.blk 0),(.seq (pcOf F11 63 [1,1])),(fgrak1),(.seq (pcOf F11 46 [1,1])),(fgrak3 q),(.seq (pcOf F11 21 [1,1,1,1])),(.cal [(.tmp 8),(.tmp 9)] .top)]⟩
noncomputable def fgraI2 (q:Int) (x3:Int) (x53:Nat) (x61:List AV) (x67:Nat):Cfg:=⟨.ex (pcOf F11 105 [0,0,1]) ⟨(tmOf 33 [(0,(.yld 20)),(1,(pP 17 0)),(2,(pP 18 0)),(3,(pP 19 0)),(7,(.agg [(iI 400),(iI 420)])),(8,(iI 21)),(9,(iI x3))]),(hpOf 23 (fgrag0 q++[(14,(cF [(.sl 22 0 x53 x53 1)])),(22,(cF x61))])),[],[⟨false,.normal⟩,⟨false,.normal⟩],33,false⟩,⟨36,[(fgrak6),(fgrak2)]⟩,[(fgrak11 x67),(.blk 0),(fgrak8),(.blk 0),(fgrak10),(.blk 0),(.seq (pcOf F11 63 [1,1])),(fgrak1),(.seq (pcOf F11 46 [1,1])),(fgrak3 q),(.seq (pcOf F11 21 [1,1,1,1])),(.cal [(.tmp 8),(.tmp 9)] .top)]⟩
noncomputable def fgraQ5 (y0:Int):Tmps:=(tmOf 33 (fgrag1++[(5,(iI y0)),(9,(iI y0)),(11,(iI y0)),(14,(iI 0))]))
noncomputable def fgraI3 (q:Int) (x0:Int) (x60:Nat) (x68:List AV) (x83:Nat) (x88:Nat):Cfg:=⟨.ex (fgrak7) ⟨(fgraQ5 x0),(hpOf 24 (fgrag0 q++[(14,(cF [(.sl 22 0 x60 x60 1)])),(22,(cF x68)),(23,(cF [(iI 50),(iI 120)]))])),[],[⟨false,.normal⟩,⟨false,.normal⟩],33,false⟩,⟨36,[(fgrak6),(fgrak2)]⟩,[(.lop (fgrak7) 24 (fgraQ5 x0) x83),(.blk 2),(.blk 1),(.seq (pcOf F11 105 [1,1,1,0,0,1])),(fgrak11 x88),(.blk 0),(fgrak8),(.blk 0),(fgrak10),(.blk 0),(.seq (pcOf F11 63 [1,1])),(fgrak1),(.seq (pcOf F11 46 [1,1])),(fgrak3 q),(.seq (pcOf F11 21 [1,1,1,1])),(.cal [(.tmp 8),(.tmp 9)] .top)]⟩
noncomputable def fgraI4 (q:Int) (x0:Int) (x10:Int) (x60:Nat) (x70:List AV) (x83:Nat) (x88:Nat):Cfg:=⟨.ex (fgrak7) ⟨(tmOf 33 (fgrag1++[(5,(iI x0)),(9,(iI x0)),(11,(iI x0)),(14,(iI x10))])),(hpOf 25 (fgrag0 q++[(14,(cF [(.sl 24 0 x60 x60 1)])),(22,.gone),(23,(cF [(iI 50),(iI 120)])),(24,(cF x70))])),[],[⟨false,.normal⟩,⟨false,.normal⟩],33,false⟩,⟨36,[(fgrak6),(fgrak2)]⟩,[(.lop (fgrak7) 24 (fgraQ5 x0) x83),(.blk 2),(.blk 1),(.seq (pcOf F11 105 [1,1,1,0,0,1])),(fgrak11 x88),(.blk 0),(fgrak8),(.blk 0),(fgrak10),(.blk 0),(.seq (pcOf F11 63 [1,1])),(fgrak1),(.seq (pcOf F11 46 [1,1])),(fgrak3 q),(.seq (pcOf F11 21 [1,1,1,1])),(.cal [(.tmp 8),(.tmp 9)] .top)]⟩
theorem fgra_start (q:Int):adv F11 (ZQ [105,48]) 6000 (fgrsI0 q 1048575)=some (.stop (fgraI0 q (1048575))):=by kernel_rfl
theorem fgra_step0 (q:Int) (x80:Nat):adv F11 (ZQ [105,48]) 6000 (fgraI0 q (x80+1))=some (.stop (fgraI1 q (1) (1) ([AV.ifc 98 (AV.agg [AV.int IntKind.i64 (wr .i64 (400+0)),AV.int IntKind.i64 (wr .i64 (50+0))])]) (x80) (x80+1))):=by kernel_rfl
theorem fgra_step1 (q:Int) (x10:Int) (x60:Nat) (x70:List AV) (x83:Nat) (x88:Nat):adv F11 (ZQ [105,48]) 6000 (fgraI1 q x10 x60 x70 (x83+1) (x88+1))=(bif !ile 71 x10 then (bif (0+x60 * 1).beq x70.length then (bif x60.ble 1048576 then (bif plO (AO.cells false (x70++[AV.ifc 98 (AV.agg [AV.int IntKind.i64 (wr .i64 (400+0)),AV.int IntKind.i64 (wr .i64 (50+x10))])])) then some (.stop (fgraI1 q (wr .i64 (x10+1)) (x60+1) (x70++[AV.ifc 98 (AV.agg [AV.int IntKind.i64 (wr .i64 (400+0)),AV.int IntKind.i64 (wr .i64 (50+x10))])]) (x83) (x88+1))) else none) else none) else none) else (bif plO (AO.cells false x70) then some (.stop (fgraI2 q (1) (x60) (x70) (x88))) else none)):=by kernel_rfl
theorem fgra_step2 (q:Int) (x3:Int) (x53:Nat) (x61:List AV) (x67:Nat):adv F11 (ZQ [105,48]) 6000 (fgraI2 q x3 x53 x61 (x67+1))=(bif !ile 21 x3 then some (.stop (fgraI3 q (x3) (x53) (x61) (1048575) (x67+1))) else (bif ieq (↑x53) 0 then some (.done (.tup [(.int .i64 (0)),(.int .i64 (9))])) else none)):=by kernel_rfl
theorem fgra_step3 (q:Int) (x0:Int) (x60:Nat) (x68:List AV) (x83:Nat) (x88:Nat):adv F11 (ZQ [105,48]) 6000 (fgraI3 q x0 x60 x68 (x83+1) (x88+1))=(bif (0+x60 * 1).beq x68.length then (bif x60.ble 1048576 then (bif plO (AO.cells false (x68++[AV.ifc 98 (AV.agg [AV.int IntKind.i64 (wr .i64 (400+x0)),AV.int IntKind.i64 (wr .i64 (50+0))])])) then some (.stop (fgraI4 q (x0) (1) (x60+1) (x68++[AV.ifc 98 (AV.agg [AV.int IntKind.i64 (wr .i64 (400+x0)),AV.int IntKind.i64 (wr .i64 (50+0))])]) (x83) (x88+1))) else none) else none) else none):=by kernel_rfl
theorem fgra_step4 (q:Int) (x0:Int) (x10:Int) (x60:Nat) (x70:List AV) (x83:Nat) (x88:Nat):adv F11 (ZQ [105,48]) 6000 (fgraI4 q x0 x10 x60 x70 (x83+1) (x88+1))=(bif !ile 71 x10 then (bif (0+x60 * 1).beq x70.length then (bif x60.ble 1048576 then (bif plO (AO.cells false (x70++[AV.ifc 98 (AV.agg [AV.int IntKind.i64 (wr .i64 (400+x0)),AV.int IntKind.i64 (wr .i64 (50+x10))])])) then some (.stop (fgraI4 q (x0) (wr .i64 (x10+1)) (x60+1) (x70++[AV.ifc 98 (AV.agg [AV.int IntKind.i64 (wr .i64 (400+x0)),AV.int IntKind.i64 (wr .i64 (50+x10))])]) (x83) (x88+1))) else none) else none) else none) else (bif plO (AO.cells false x70) then some (.stop (fgraI2 q (wr .i64 (x0+1)) (x60) (x70) (x88))) else none)):=by kernel_rfl
noncomputable def fgrbk4:AO:=(cF [(.vs tGr (false) (S0.1.2)),(iI 20),(iI 30),(iI 50),(iI 120)])
noncomputable def fgrbQ0 (q:Int) (n:Nat) (L:List AV):Hp:=(hpOf 27 [(0,(fgrbk4)),(1,(cF [(iI 0),(iI 0),(iI 0),(iI 8),(iI 1)])),(2,(.cells true [(iI (q))])),(3,(cF [(.fn 58 [] [(pP 4 0),(pP 5 0),(pP 6 0)])])),(4,(cF [(iI 0)])),(5,(cF [(iI 60000)])),(6,(cF [(.csl [(iI (q))] 1)])),(7,(fgrbk4)),(8,(cF [(iI 0),(iI 0),(iI 0),(iI 8),(iI 1)])),(9,(fgrbk4)),(10,(cF [(iI 0),(iI 0),(iI 0),(iI 8),(iI 1)])),(11,(cF [(.vs tGr (false) (S0.1.2)),(iI 20),(iI 30),(iI 50),(iI 120),(iI 0),(iI 0),(iI 0),(iI 8),(iI 1),.nils])),(12,(cF [(pP 11 0)])),(13,(cF [(.bool false)])),(14,(cF [(.sl 22 0 (n) (n) 1)])),(16,(cF [(.yld 15)])),(17,(cF [(iI 400),(iI 420)])),(18,(cF [(iI 50),(iI 120)])),(19,(cF [(.fn 38 [] [])])),(21,(cF [(iI 400),(iI 420)])),(22,(cF (L))),(23,(cF [(pP 11 0)])),(24,(cF [(iI 1),(iI 0)])),(25,(cF [(iI (wr .i64 (q * q))),(iI 0)])),(26,(cF [(iI (wr .i64 (q * q))),(iI 0)]))])
noncomputable def fgrbk0:AV:=(.agg [(.vs tGr (false) (S0.1.2)),(iI 20),(iI 30),(iI 50),(iI 120)])
noncomputable def fgrbk1:AV:=(.agg [(iI 0),(iI 0),(iI 0),(iI 8),(iI 1)])
noncomputable def fgrbg0 (q:Int) (n:Nat):List (Nat×AV):=[(0,(fgrbk0)),(1,(fgrbk1)),(2,(.vs tRe (true) ([]))),(3,(iI (q))),(4,(pP 0 0)),(5,(pP 1 0)),(8,(iI 0)),(9,(iI 0)),(10,(pP 11 0)),(11,(iI 0)),(12,(.sl 22 0 (n) (n) 1)),(15,(.tup [(pP 11 0),(iI 0)])),(16,(fgrbk0)),(17,(fgrbk1)),(18,(.vs tRe (true) ([]))),(19,(iI (q))),(20,(.sl 2 0 (1) (1) 1)),(21,(.fn 58 [] [(pP 4 0),(pP 5 0),(pP 6 0)])),(22,(.sl 3 0 (1) (1) 1)),(23,(.tup [(pP 11 0),(iI 0)])),(24,(pP 11 0)),(25,(iI 0)),(26,(iI 0)),(27,(.bool false)),(29,(pP 11 0)),(30,(.fn 54 [] [(pP 12 0),(pP 13 0)])),(31,(.sl 22 0 (n) (n) 1)),(32,(.sl 22 0 (n) (n) 1)),(33,(iI (Int.ofNat n))),(34,(.bool false)),(35,(pP 11 0)),(36,(.sl 24 0 (2) (2) 1)),(37,(iI 2))]
noncomputable def fgrbQ1 (q:Int) (n:Nat):Tmps:=(tmOf 50 (fgrbg0 q n++[(38,(iI 0))]))
noncomputable def fgrbk2 (z0:Int):AV:=(.agg [(iI (wr .i64 (z0 * z0))),(iI 0)])
noncomputable def fgrbk3:PC:=(pcOf F11 21 [0,1,0,0,1,1,0,0,1,0,1,1,1,1,1])
noncomputable def fgrbg1 (q:Int) (n:Nat):List (Nat×AV):=[(0,(pP 11 0)),(2,(fgrbk2 q)),(3,(.sl 22 0 (n) (n) 1)),(6,(pP 26 0)),(8,(.bool false)),(13,(.sl 22 0 (n) (n) 1)),(14,(iI (Int.ofNat n)))]
noncomputable def fgrbI0 (q:Int) (n:Nat) (L:List AV) (m:Nat) (x9:Int) (x84:Nat) (x198:Nat):Cfg:=⟨.ex (pcOf F11 48 [0,0,1,0,1]) ⟨(tmOf 49 (fgrbg1 q n++[(1,(iI 1)),(15,(iI x9))])),(fgrbQ0 q n L),[],[],49,false⟩,⟨39,[]⟩,[(.lop (pcOf F11 48 [0,0,1,0,1]) 27 (tmOf 49 (fgrbg1 q n++[(1,(iI 1)),(15,(iI 0))])) x84),(.blk 0),(.seq (pcOf F11 48 [1,1])),(.cal [(.tmp 8)] (.op (fgrbk3) 6 (some 47) ((opsOf (fgrbk3).c).toList.drop 6) (tmOf 50 (fgrbg0 q n++[(14,(iI 1)),(38,(iI 0)),(39,(.bool true)),(40,(pP 24 0)),(41,(iI 1)),(42,(pP 11 0)),(43,(iI 1)),(44,(iI (q))),(45,(fgrbk2 q)),(46,(.sl 22 0 (n) (n) 1))])) [] 50 false ⟨40,[]⟩)),(.seq (pcOf F11 21 [1,1,0,0,1,1,0,0,1,0,1,1,1,1,1])),(.blk 1),(.seq (pcOf F11 21 [1,1,1,0,0,1,0,1,1,1,1,1])),(.lop (pcOf F11 21 [0,0,1,0,1,1,1,1,1]) 25 (fgrbQ1 q n) x198),(.blk 0),(.seq (pcOf F11 21 [1,1,1,1,1,1])),(.cal [(.tmp 8),(.tmp 9)] .top)]⟩
noncomputable def fgrbI1 (q:Int) (n:Nat) (L:List AV) (m:Nat) (x9:Int) (x84:Nat) (x198:Nat):Cfg:=⟨.ex (pcOf F11 48 [0,0,1,0,1]) ⟨(tmOf 49 (fgrbg1 q n++[(1,(iI 0)),(15,(iI x9))])),(fgrbQ0 q n L),[],[],49,false⟩,⟨39,[]⟩,[(.lop (pcOf F11 48 [0,0,1,0,1]) 27 (tmOf 49 (fgrbg1 q n++[(1,(iI 0)),(15,(iI 0))])) x84),(.blk 0),(.seq (pcOf F11 48 [1,1])),(.cal [(.tmp 8)] (.op (fgrbk3) 6 (some 47) ((opsOf (fgrbk3).c).toList.drop 6) (tmOf 50 (fgrbg0 q n++[(14,(iI 0)),(38,(iI 1)),(39,(.bool true)),(40,(pP 24 1)),(41,(iI 0)),(42,(pP 11 0)),(43,(iI 0)),(44,(iI (q))),(45,(fgrbk2 q)),(46,(.sl 22 0 (n) (n) 1))])) [] 50 false ⟨40,[]⟩)),(.seq (pcOf F11 21 [1,1,0,0,1,1,0,0,1,0,1,1,1,1,1])),(.blk 1),(.seq (pcOf F11 21 [1,1,1,0,0,1,0,1,1,1,1,1])),(.lop (pcOf F11 21 [0,0,1,0,1,1,1,1,1]) 25 (fgrbQ1 q n) x198),(.blk 0),(.seq (pcOf F11 21 [1,1,1,1,1,1])),(.cal [(.tmp 8),(.tmp 9)] .top)]⟩
theorem fgrb_start (q:Int) (n:Nat) (L:List AV) (m:Nat):adv F11 (ZP [48]) 20000 (fgraI2 q 21 n L (m+1))=(bif ieq (↑n) 0 then some (.done (.tup [(.int .i64 (0)),(.int .i64 (9))])) else (bif plO (AO.cells false L) then (bif plO (AO.cells false L) then (bif plO (AO.cells false L) then (bif plO (AO.cells false L) then some (.stop (fgrbI0 q n L m (0) (1048575) (1048575))) else none) else none) else none) else none)):=by kernel_rfl
theorem fgrb_step0 (q:Int) (n:Nat) (L:List AV) (m:Nat) (x9:Int) (x84:Nat) (x198:Nat):adv F11 (ZP [48]) 20000 (fgrbI0 q n L m x9 (x84+1) (x198+1))=(bif !ile (Int.ofNat n) x9 then (bif inB x9 n then (bif (0+x9.toNat * 1+1).ble L.length&&isI 98 [AV.int IntKind.i64 0,AV.int IntKind.i64 0] (L.getD (0+x9.toNat * 1) AV.nili) then (bif lcO 100 (toI ((payI (L.getD (0+x9.toNat * 1) AV.nili)).getD (0+1) AV.nili)) (wr .i64 (q * q)) then (bif !snO 100 (toI ((payI (L.getD (0+x9.toNat * 1) AV.nili)).getD (0+1) AV.nili)) (wr .i64 (q * q)) then (bif plO (AO.cells false L) then some (.stop (fgrbI1 q n L m (0) (1048575) (x198))) else none) else (bif plO (AO.cells false L) then some (.stop (fgrbI0 q n L m (wr .i64 (x9+1)) (x84) (x198+1))) else none)) else none) else none) else none) else some (.done (.tup [(.int .i64 (1)),(.int .i64 (0))]))):=by kernel_rfl
theorem fgrb_step1 (q:Int) (n:Nat) (L:List AV) (m:Nat) (x9:Int) (x84:Nat) (x198:Nat):adv F11 (ZP [48]) 20000 (fgrbI1 q n L m x9 (x84+1) (x198+1))=(bif !ile (Int.ofNat n) x9 then (bif inB x9 n then (bif (0+x9.toNat * 1+1).ble L.length&&isI 98 [AV.int IntKind.i64 0,AV.int IntKind.i64 0] (L.getD (0+x9.toNat * 1) AV.nili) then (bif lcO (toI ((payI (L.getD (0+x9.toNat * 1) AV.nili)).getD 0 AV.nili)) (toI ((payI (L.getD (0+x9.toNat * 1) AV.nili)).getD (0+1) AV.nili)) (wr .i64 (q * q)) then (bif !snO (toI ((payI (L.getD (0+x9.toNat * 1) AV.nili)).getD 0 AV.nili)) (toI ((payI (L.getD (0+x9.toNat * 1) AV.nili)).getD (0+1) AV.nili)) (wr .i64 (q * q)) then (bif plO (AO.cells false L) then some (.done (.tup [(.int .i64 (0)),(.int .i64 (9))])) else none) else (bif plO (AO.cells false L) then some (.stop (fgrbI1 q n L m (wr .i64 (x9+1)) (x84) (x198+1))) else none)) else none) else none) else none) else some (.done (.tup [(.int .i64 (0)),(.int .i64 (0))]))):=by kernel_rfl
noncomputable def sgC (c k:Int):AV:=.ifc 98 (.agg [.int .i64 c,.int .i64 k])
theorem plain_app {c k:Int}:∀ {L:List AV},plainL L=true→plainL (L++[sgC c k])=true
 |[],_=>rfl
 | v :: l, h => by
  cases v<;>first|(cases h;done)|skip
  case ifc t w=>
   cases w<;>first|(cases h;done)|skip
   simp only[plainL,Bool.and_eq_true] at h
   simp only[List.cons_append,plainL,Bool.and_eq_true]
   exact⟨h.1,plain_app h.2⟩
  all_goals exact plain_app (L:=l) h
structure Inv (L:List AV):Prop where
 pl:plainL L=true
 hd:∃ t,L=sgC 400 50::t
 sg:∀ x∈L,∃ i k:Nat,(i≤20∧k≤70)∧x=sgC (400+(i:Int)) (50+(k:Int))
theorem inv_app {L:List AV} (h:Inv L) {i k:Nat} (hi:i≤20) (hk:k≤70):Inv (L++[sgC (400+(i:Int)) (50+(k:Int))]):=by
 obtain⟨t,ht⟩:=h.hd
 refine⟨plain_app h.pl,⟨t++[sgC (400+(i:Int)) (50+(k:Int))],by rw[ht];rfl⟩,fun x hx=>?_⟩
 rcases List.mem_append.1 hx with hx|hx
 · exact h.sg x hx
 · rw [List.mem_singleton] at hx
   exact⟨i,k,⟨hi,hk⟩,hx⟩
theorem inv_one:Inv [sgC 400 50]:=⟨rfl,⟨[],rfl⟩,fun x hx=>by
 rw[List.mem_singleton] at hx
 exact⟨0,0,⟨by omega,by omega⟩,hx⟩⟩
theorem b1L (L:List AV):(0+L.length * 1).beq L.length=true:=by rw[Nat.zero_add,Nat.mul_one];exact Nat.beq_refl _
theorem g400:wr .i64 (400+0)=400+((0:Nat):Int):=rfl
theorem g50:wr .i64 (50+0)=50+((0:Nat):Int):=rfl
theorem len_app (L:List AV) (x:AV):L.length+1=(L++[x]).length:=by rw[List.length_append];rfl
theorem col1 {v:AV} (q:Int) (M:Nat) (K:∀ L,Inv L→L.length≤71→Ans F11 (fgraI2 q ((1:Nat):Int) L.length L M) v):∀ (r k m:Nat) (L:List AV),k+r=71→r<m→Inv L→L.length≤k→Ans F11 (fgraI1 q k L.length L m (M+1)) v
 |0,k,m+1,L,hk,hm,hL,hl=>by
  have h:=fgra_step1 q k L.length L m M
  have e:k=71:=by omega
  subst e
  rw[show ile 71 ((71:Nat):Int)=true from rfl,Bool.not_true,cond_false,show plO (AO.cells false L)=true from hL.pl,cond_true] at h
  exact .stop (ZQ_ok _) F11sy h (K L hL hl)
 |r+1,k,m+1,L,hk,hm,hL,hl=>by
  have h:=fgra_step1 q k L.length L m M
  have b2:Nat.ble L.length 1048576=true:=Nat.ble_eq_true_of_le (by omega)
  have hA:=inv_app hL (i:=0) (k:=k) (by omega) (by omega)
  rw[show ile 71 (k:Int)=false from ile_f (by omega),Bool.not_false,cond_true,b1L,b2,cond_true,cond_true,g400,wr_in (n:=50+(k:Int)) (by omega) (by omega),wr_succ (show k<1048577 by omega)] at h
  rw[show plO (AO.cells false (L++[AV.ifc 98 (AV.agg [AV.int IntKind.i64 (400+((0:Nat):Int)),AV.int IntKind.i64 (50+(k:Int))])]))=true from hA.pl,cond_true] at h
  have ih:=col1 q M K r (k+1) m _ (by omega) (by omega) hA (by rw[List.length_append];simp;omega)
  rw[← len_app] at ih
  exact .stop (ZQ_ok _) F11sy h ih
theorem col4 {v:AV} (q:Int) (i:Nat) (hi:i≤20) (M:Nat) (K:∀ L,Inv L→L.length≤71 * (i+1)→Ans F11 (fgraI2 q ((i+1:Nat):Int) L.length L M) v):∀ (r k m:Nat) (L:List AV),k+r=71→r<m→Inv L→L.length≤71 * i+k→Ans F11 (fgraI4 q i k L.length L m (M+1)) v
 |0,k,m+1,L,hk,hm,hL,hl=>by
  have h:=fgra_step4 q i k L.length L m M
  have e:k=71:=by omega
  subst e
  rw[show ile 71 ((71:Nat):Int)=true from rfl,Bool.not_true,cond_false,show plO (AO.cells false L)=true from hL.pl,cond_true,wr_succ (show i<1048577 by omega)] at h
  exact .stop (ZQ_ok _) F11sy h (K L hL (by omega))
 |r+1,k,m+1,L,hk,hm,hL,hl=>by
  have h:=fgra_step4 q i k L.length L m M
  have b2:Nat.ble L.length 1048576=true:=Nat.ble_eq_true_of_le (by omega)
  have hA:=inv_app hL (i:=i) (k:=k) (by omega) (by omega)
  rw[show ile 71 (k:Int)=false from ile_f (by omega),Bool.not_false,cond_true,b1L,b2,cond_true,cond_true,wr_in (n:=400+(i:Int)) (by omega) (by omega),wr_in (n:=50+(k:Int)) (by omega) (by omega),wr_succ (show k<1048577 by omega)] at h
  rw[show plO (AO.cells false (L++[AV.ifc 98 (AV.agg [AV.int IntKind.i64 (400+(i:Int)),AV.int IntKind.i64 (50+(k:Int))])]))=true from hA.pl,cond_true] at h
  have ih:=col4 q i hi M K r (k+1) m _ (by omega) (by omega) hA (by rw[List.length_append];simp;omega)
  rw[← len_app] at ih
  exact .stop (ZQ_ok _) F11sy h ih
theorem col_out {v:AV} (q:Int) (K:∀ L m,Inv L→L.length≤1491→Ans F11 (fgraI2 q ((21:Nat):Int) L.length L (m+1)) v):∀ (r i m:Nat) (L:List AV),i+r=21→r<m→Inv L→L.length≤71 * i→Ans F11 (fgraI2 q i L.length L m) v
 |0,i,m+1,L,hi,hm,hL,hl=>by
  have e:i=21:=by omega
  subst e
  exact K L m hL hl
 |r+1,i,m+1,L,hi,hm,hL,hl=>by
  have h:=fgra_step2 q i L.length L m
  rw[show ile 21 (i:Int)=false from ile_f (by omega),Bool.not_false,cond_true] at h
  have h3:=fgra_step3 q i L.length L 1048574 m
  have b2:Nat.ble L.length 1048576=true:=Nat.ble_eq_true_of_le (by omega)
  have hA:=inv_app hL (i:=i) (k:=0) (by omega) (by omega)
  rw[b1L,b2,cond_true,cond_true,wr_in (n:=400+(i:Int)) (by omega) (by omega),g50] at h3
  rw[show plO (AO.cells false (L++[AV.ifc 98 (AV.agg [AV.int IntKind.i64 (400+(i:Int)),AV.int IntKind.i64 (50+((0:Nat):Int))])]))=true from hA.pl,cond_true] at h3
  have k4:=col4 q i (by omega) m (fun L' hL' hl'=>col_out q K r (i+1) m L' (by omega) (by omega) hL' hl') 70 1 1048574 _ (by omega) (by omega) hA (by rw[List.length_append];simp;omega)
  rw[← len_app] at k4
  exact .stop (ZQ_ok _) F11sy h (.stop (ZQ_ok _) F11sy h3 k4)
theorem gra_col {v:AV} (q:Int) (h0:0≤q) (h1:q≤60000) (K:∀ L m,Inv L→L.length≤1491→Ans F11 (fgraI2 q ((21:Nat):Int) L.length L (m+1)) v):Ans F11 (startC F11 21 [tSt.av S0,tNi.av N0,.vs tRe true [],.int .i64 q] 40) v:=by
 have h:=fgrs_start q
 rw[ile_t h0,ile_t h1,Bool.not_true,cond_false,cond_false] at h
 have ha:=fgra_step0 q 1048574
 have k1:=col1 q 1048574 (fun L hL hl=>col_out q K 20 1 1048574 L (by omega) (by omega) hL (by omega)) 70 1 1048574 [sgC 400 50] (by omega) (by omega) inv_one (by simp)
 exact .stop (Z11_ok _) F11sy h (.stop (ZQ_ok _) F11sy (fgra_start q) (.stop (ZQ_ok _) F11sy ha k1))
theorem inv_pos {L:List AV} (h:Inv L):0<L.length:=by obtain⟨t,rfl⟩:=h.hd;simp
theorem isI_sg (c k:Int):isI 98 [AV.int IntKind.i64 0,AV.int IntKind.i64 0] (sgC c k)=true:=rfl
theorem sn7_all:((List.range 71).all fun k=>seenF 100 (50+(k:Int)) 49000000)=true:=by kernel_rfl
theorem lc1 {k:Nat} {q:Int} (hk:k≤70) (h1:0≤q) (h2:q≤7200000000):lcB 100 (50+(k:Int)) q=true:=lcB_iff.2 ⟨⟨by omega,by omega⟩,⟨by omega,by omega⟩,h1,h2⟩
theorem gra7_ans (L:List AV) (hL:Inv L) (hl:L.length≤1491) (m0:Nat):∀ (r j m M:Nat),j+r=L.length→r<m→Ans F11 (fgrbI0 7000 L.length L m0 j m (M+1)) (.tup [.int .i64 1,.int .i64 0])
 |0,j,m+1,M,hj,hm=>by
  have h:=fgrb_step0 7000 L.length L m0 j m M
  simp only[Int.ofNat_eq_natCast,ile_ge (show L.length≤j by omega),Bool.not_true,cond_false] at h
  exact .done (ZP_ok _) F11sy h rfl
 | r + 1, j, m + 1, M, hj, hm => by
  have h:=fgrb_step0 7000 L.length L m0 j m M
  have hlt:j<L.length:=by omega
  obtain⟨i,k,⟨hi,hk⟩,hx⟩:=hL.sg L[j] (List.getElem_mem hlt)
  have e1:L.getD (0+(j:Int).toNat * 1) AV.nili=sgC (400+(i:Int)) (50+(k:Int)):=by
   rw[← hx];simp[hlt]
  have e2:Nat.ble (0+(j:Int).toNat * 1+1) L.length=true:=Nat.ble_eq_true_of_le (by simp;omega)
  have e3:toI ((payI (sgC (400+(i:Int)) (50+(k:Int)))).getD (0+1) AV.nili)=50+(k:Int):=rfl
  have s1:seenF 100 (50+(k:Int)) 49000000=true:=List.all_eq_true.1 sn7_all k (List.mem_range.2 (by omega))
  have l1:=lc1 (q:=49000000) hk (by decide) (by decide)
  simp only[Int.ofNat_eq_natCast,ile_lt hlt,inB_at hlt,e1,e2,isI_sg,e3,show wr .i64 (7000 * 7000)=49000000 from rfl,lcO_eq,snO_eq,l1,s1,show plO (AO.cells false L)=true from hL.pl,wr_succ (show j<1048577 by omega),Bool.and_self,Bool.not_false,Bool.not_true,cond_true,cond_false] at h
  exact .stop (ZP_ok _) F11sy h (gra7_ans L hL hl m0 r (j+1) m M (by omega) (by omega))
theorem grb_go {q:Int} {L:List AV} (hL:Inv L) (m:Nat):adv F11 (ZP [48]) 20000 (fgraI2 q 21 L.length L (m+1))=some (.stop (fgrbI0 q L.length L m 0 1048575 1048575)):=by
 have h:=fgrb_start q L.length L m
 rw[show ieq (L.length:Int) 0=false by rw[ieq_iff];exact decide_eq_false (by have:=inv_pos hL;omega),cond_false,show plO (AO.cells false L)=true from hL.pl] at h
 exact h
theorem gra7:Ans F11 (startC F11 21 [tSt.av S0,tNi.av N0,.vs tRe true [],.int .i64 7000] 40) (.tup [.int .i64 1,.int .i64 0]):=
 gra_col 7000 (by decide) (by decide) (fun L m hL hl=>.stop (ZP_ok _) F11sy (grb_go hL m) (gra7_ans L hL hl m L.length 0 1048575 1048574 (by omega) (by omega)))
theorem sn1a:seenF 100 50 100020001=false:=by kernel_rfl
theorem sn1b:seenF 400 50 100020001=false:=by kernel_rfl
theorem gra1:Ans F11 (startC F11 21 [tSt.av S0,tNi.av N0,.vs tRe true [],.int .i64 10001] 40) (.tup [.int .i64 0,.int .i64 9]):=
 gra_col 10001 (by decide) (by decide) (fun L m hL hl=>by
  have hp:=inv_pos hL
  have h0:=fgrb_step0 10001 L.length L m ((0:Nat):Int) 1048574 1048574
  have h1:=fgrb_step1 10001 L.length L m ((0:Nat):Int) 1048574 1048573
  have e1:L.getD (0+((0:Nat):Int).toNat * 1) AV.nili=sgC 400 50:=by obtain⟨t,rfl⟩:=hL.hd;rfl
  have e2:Nat.ble (0+((0:Nat):Int).toNat * 1+1) L.length=true:=Nat.ble_eq_true_of_le (by simp;omega)
  have e3:toI ((payI (sgC 400 50)).getD (0+1) AV.nili)=50:=rfl
  have e4:toI ((payI (sgC 400 50)).getD 0 AV.nili)=400:=rfl
  have l1:lcB 100 50 100020001=true:=by kernel_rfl
  have l2:lcB 400 50 100020001=true:=by kernel_rfl
  simp only[Int.ofNat_eq_natCast,ile_lt hp,inB_at hp,e1,e2,isI_sg,e3,e4,show wr .i64 (10001 * 10001)=100020001 from rfl,lcO_eq,snO_eq,l1,l2,sn1a,sn1b,show plO (AO.cells false L)=true from hL.pl,Bool.and_self,Bool.not_false,cond_true] at h0 h1
  exact .stop (ZP_ok _) F11sy (grb_go hL m) (.stop (ZP_ok _) F11sy h0 (.done (ZP_ok _) F11sy h1 rfl)))
end Go.Proofs.YtppcdepecdemnaaGreatDoor


set_option maxRecDepth 100000
namespace Go.Proofs.YtppcdepecdemnaaGreatDoor
open Go Go.Eng
theorem con5_spec {E:Env} {f:Nat} {t u w s q:Ty} {c:t.den→u.den→w.den→s.den→q.den→Bool} {v:AV} (h:∀ x y z p o,c x y z p o=true→AnsF E f [t.av x,u.av y,w.av z,s.av p,q.av o] v) {args:List AV} {r:AV} (hc:con5 t u w s q c v args=some (true,r)):∃ args',TellsL args args'∧args'.all (closedA 9)=true∧AnsF E f args' r:=by
 unfold con5 at hc
 split at hc
 · split at hc
   · rename_i c1 x c2 y c3 z c4 p c5 o hx hy hz hp ho
     simp only[Option.some.injEq,Prod.mk.injEq,Bool.and_eq_true] at hc
     obtain⟨⟨⟨⟨⟨⟨rfl,rfl⟩,rfl⟩,rfl⟩,rfl⟩,hcc⟩,rfl⟩:=hc
     exact⟨[t.av x,u.av y,w.av z,s.av p,q.av o],.cons (rdA_spec _ hx) (.cons (rdA_spec _ hy) (.cons (rdA_spec _ hz) (.cons (rdA_spec _ hp) (.cons (rdA_spec _ ho) .nil)))),by simp[av_closed],h x y z p o hcc⟩
   · cases hc
 · cases hc
theorem eqS_eq {s:tSt.den} {n:tNi.den} (h:eqS s n=true):tSt.av s=tSt.av S0∧tNi.av n=tNi.av N0:=by
 unfold eqS at h
 rw[Bool.and_eq_true] at h
 exact⟨avbeq_eq _ _ h.1,avbeq_eq _ _ h.2⟩
theorem eqR_eq {l:(Ty.sl tRe).den} {b:Bool} {m:List tRe.den} (h:eqR l b m=true):(Ty.sl tRe).av l=.vs tRe b m:=avbeq_eq _ _ h
theorem LZ_ok:∀ e∈LZ,SaidG Tryz.prog F6.glob e:=
 saids_cons (SaidOK.g f6 xf6 nf6 tabs_ok.mix (fun _ _ h=>con2_spec (t:=tI) (u:=tI) (fun a b _=>newl_call a b) h) rfl)
 (saids_cons (SaidOK.g f6 xf6 nf6 tabs_ok.mix (fun _ _ h=>con1_spec (t:=tP) (fun l _=>numb_call l) h) rfl)
 (saids_cons (SaidOK.g f7 xf7 nf7 tabs_ok.mix (fun _ _ h=>con3_spec (t:=tSt) (u:=tNi) (w:=.sl tRe) (fun s n l hc=>by
   rw[Bool.and_eq_true] at hc
   rw[(eqS_eq hc.1).1,(eqS_eq hc.1).2,eqR_eq hc.2]
   exact Ans.call (n:=40) (ext_none (by kernel_rfl)) (hasB_spec (by kernel_rfl)) fclr_ans) h) rfl)
 (saids_cons (SaidOK.g f7 xf7 nf7 tabs_ok.mix (fun _ _ h=>con5_spec (t:=tSt) (u:=tNi) (w:=.sl tRe) (s:=tP) (q:=.bool) (fun s n l p o hc=>by
   simp only[Bool.and_eq_true] at hc
   obtain⟨⟨⟨h1,h2⟩,h3⟩,h4⟩:=hc
   rw[(eqS_eq h1).1,(eqS_eq h1).2,eqR_eq h2,avbeq_eq _ _ h3,show Ty.av .bool o=AV.bool false from avbeq_eq _ _ h4]
   exact Ans.call (n:=40) (ext_none (by kernel_rfl)) (hasB_spec (by kernel_rfl)) fcou_ans) h) rfl)
 (saids_cons (SaidOK.g f6 xf6 nf6 tabs_ok.mix (fun _ _ h=>con3_spec (t:=tSt) (u:=tNi) (w:=.sl tRe) (fun s n l hc=>by
   rw[Bool.and_eq_true] at hc
   rw[(eqS_eq hc.1).1,(eqS_eq hc.1).2,eqR_eq hc.2]
   exact Ans.call (n:=40) (ext_none (by kernel_rfl)) (hasB_spec (by kernel_rfl)) ffar_ans) h) rfl)
 (saids_cons (SaidOK.g f8 xf8 nf8 tabs_ok.mix (fun _ _ h=>con3_spec (t:=tSt) (u:=tNi) (w:=.sl tRe) (fun s n l hc=>by
   rw[Bool.and_eq_true] at hc
   rw[(eqS_eq hc.1).1,(eqS_eq hc.1).2,eqR_eq hc.2]
   exact Ans.call (n:=40) (ext_none (by kernel_rfl)) (hasB_spec (by kernel_rfl)) ffal_ans) h) rfl)
 (saids_cons (SaidOK.g f11 xf11 nf11 tabs_ok.mix (fun _ _ h=>con4_spec (t:=tSt) (u:=tNi) (w:=.sl tRe) (s:=tI) (fun s n l q hc=>by
   simp only[Bool.and_eq_true,Bool.or_eq_true] at hc
   obtain⟨⟨h1,h2⟩,h3⟩:=hc
   rw[(eqS_eq h1).1,(eqS_eq h1).2,eqR_eq h2]
   rcases h3 with h3|h3
   · have e := ieq_t h3
     subst e
     exact Ans.call (n:=40) (ext_none (by kernel_rfl)) (hasB_spec (by kernel_rfl)) gra7
   · have e := ieq_t h3
     subst e
     exact Ans.call (n:=40) (ext_none (by kernel_rfl)) (hasB_spec (by kernel_rfl)) gra1) h) rfl) saids_nil))))))
theorem f9:EnvOK Tryz.prog F9:=f6.say _
theorem xA:ExtOK Tryz.prog EA:=xf6.sayL LZ_ok
theorem kn_true:isTrueT EA [] 40 5=true:=by kernel_rfl
theorem f10:EnvOK Tryz.prog F10:=f9.say _
end Go.Proofs.YtppcdepecdemnaaGreatDoor


set_option maxRecDepth 100000
namespace Go.Proofs.YtppcdepecdemnaaGreatDoor
open Go Go.Eng
noncomputable def lhasI0 (l:(Ty.sl tI).den) (m:Int) (x4:Int) (x10:Nat):Cfg:=⟨.ex (pcOf H7 8 [0,0,1,0,1]) ⟨(tmOf 18 [(0,(.vs tI (l.1) (l.2))),(1,(.int .i64 (m))),(4,(.bool (false))),(5,(.int .i64 x4))]),(hpOf 0 []),[],[],18,false⟩,⟨6,[]⟩,[(.lop (pcOf H7 8 [0,0,1,0,1]) 0 (tmOf 18 [(0,(.vs tI (l.1) (l.2))),(1,(.int .i64 (m))),(4,(.bool (false))),(5,(.int .i64 (0)))]) x10),(.blk 0),(.seq (pcOf H7 8 [1,1])),(.cal [(.tmp 4)] .top)]⟩
theorem lhas_start (l:(Ty.sl tI).den) (m:Int):adv H7 (Y7 [8]) 20000 (startC H7 8 [.vs tI l.1 l.2,.int .i64 m] 6)=some (.stop (lhasI0 l m (0) (1048575))):=by kernel_rfl
theorem lhas_step0 (l:(Ty.sl tI).den) (m:Int) (x4:Int) (x10:Nat):adv H7 (Y7 [8]) 20000 (lhasI0 l m x4 (x10+1))=(bif !ile (↑l.2.length) x4 then (bif inB x4 l.2.length then (bif ieq (l.2.getD x4.toNat tI.dflt) m then some (.done (.bool (true))) else some (.stop (lhasI0 l m (wr .i64 (x4+1)) (x10)))) else none) else some (.done (.bool (false)))):=by kernel_rfl
theorem lspt_start (p:tP.den) (x y:Int):adv H7 (Y7 []) 20000 (startC H7 9 [tP.av p,.int .u16 x,.int .u16 y] 6)=some (.done (.agg [(.int .i64 (bif ile (bif ile 30000 (wr .i64 (wr .i64 (p.1+wr .i64 x)-32768)) then 30000 else wr .i64 (wr .i64 (p.1+wr .i64 x)-32768)) (-30000) then -30000 else bif ile 30000 (wr .i64 (wr .i64 (p.1+wr .i64 x)-32768)) then 30000 else wr .i64 (wr .i64 (p.1+wr .i64 x)-32768))),(.int .i64 (bif ile (bif ile 30000 (wr .i64 (wr .i64 (p.2.1+wr .i64 y)-32768)) then 30000 else wr .i64 (wr .i64 (p.2.1+wr .i64 y)-32768)) (-30000) then -30000 else bif ile 30000 (wr .i64 (wr .i64 (p.2.1+wr .i64 y)-32768)) then 30000 else wr .i64 (wr .i64 (p.2.1+wr .i64 y)-32768)))])):=by kernel_rfl
theorem lgod_start (s:tSt.den) (n:tNi.den) (l:(Ty.sl tRe).den):adv H7 (Y7 []) 20000 (startC H7 4 [tSt.av s,tNi.av n,.vs tRe l.1 l.2] 6)=some (.done (.bool (ieq (cknS s n l.2).2 0))):=by kernel_rfl
noncomputable def hasF (l:List Int) (m:Int):Bool:=l.any fun x=>ieq x m
theorem lhas_ans (l:(Ty.sl tI).den) (m:Int) (hl:l.2.length≤1000):∀ (r k f:Nat),k+r=l.2.length→r<f→Ans H7 (lhasI0 l m k f) (.bool (hasF (l.2.drop k) m))
 |0,k,f+1,hk,hf=>by
  have h:=lhas_step0 l m k f
  simp only[ile_t (show ((l.2.length:Nat):Int)≤k by omega),Bool.not_true,cond_false] at h
  rw[List.drop_eq_nil_of_le (by omega)]
  exact .doneB (Y7_ok _) H7sy h rfl
 |r+1,k,f+1,hk,hf=>by
  have h:=lhas_step0 l m k f
  have hlt:k<l.2.length:=by omega
  have eg:l.2.getD (k:Int).toNat tI.dflt=l.2[k]:=getD_at hlt
  simp only[ile_f (show (k:Int)<((l.2.length:Nat):Int) by omega),Bool.not_false,cond_true,inB_at hlt,eg,wr_succ (show k<1048577 by omega)] at h
  rw[List.drop_eq_getElem_cons hlt]
  show Ans H7 _ (.bool (ieq l.2[k] m || hasF (l.2.drop (k+1)) m))
  cases c:ieq l.2[k] m with
  |true=>rw[c,cond_true] at h;exact .doneB (Y7_ok _) H7sy h rfl
  |false=>rw[c,cond_false] at h;exact .stop (Y7_ok _) H7sy h (lhas_ans l m hl r (k+1) f (by omega) (by omega))
theorem lhas_call (l:(Ty.sl tI).den) (m:tI.den) (hc:Nat.ble l.2.length 1000=true):AnsF H7 8 [(Ty.sl tI).av l,tI.av m] (.bool (hasF l.2 m)):=by
 have hl:=Nat.le_of_ble_eq_true hc
 exact Ans.call (n:=6) (ext_none (by kernel_rfl)) (hasB_spec (by kernel_rfl)) (.stop (Y7_ok _) H7sy (lhas_start l m) (lhas_ans l m hl l.2.length 0 1048575 (by omega) (by omega)))
noncomputable def spF (a x:Int):Int:=bif ile (bif ile 30000 (wr .i64 (wr .i64 (a+wr .i64 x)-32768)) then 30000 else wr .i64 (wr .i64 (a+wr .i64 x)-32768)) (-30000) then -30000 else bif ile 30000 (wr .i64 (wr .i64 (a+wr .i64 x)-32768)) then 30000 else wr .i64 (wr .i64 (a+wr .i64 x)-32768)
theorem spF_b (a x:Int):-30000≤spF a x∧spF a x≤30000:=by
 unfold spF
 cases c:ile 30000 (wr .i64 (wr .i64 (a+wr .i64 x)-32768)) with
 |true=>rw[cond_true,show ile 30000 (-30000)=false from rfl,cond_false];omega
 | false =>
  rw[cond_false]
  have c':=c
  rw[ile_iff] at c'
  have c1:=of_decide_eq_false c'
  cases d:ile (wr .i64 (wr .i64 (a+wr .i64 x)-32768)) (-30000) with
  |true=>rw[cond_true];omega
  |false=>
   rw[cond_false]
   rw[ile_iff] at d
   have d1:=of_decide_eq_false d
   omega
theorem sp_in3 (a b x y:Int):in3 (spF a x) (spF b y)=true:=in3_iff.2 ⟨spF_b a x,spF_b b y⟩
theorem lspt_call (p:tP.den) (x y:(Ty.int .u16).den):AnsF H7 9 [tP.av p,(Ty.int .u16).av x,(Ty.int .u16).av y] (.agg [.int .i64 (spF p.1 x),.int .i64 (spF p.2.1 y)]):=
 Ans.call (n:=6) (ext_none (by kernel_rfl)) (hasB_spec (by kernel_rfl)) (.done (Y7_ok _) H7sy (lspt_start p x y) rfl)
theorem lgod_call (s:tSt.den) (n:tNi.den) (l:(Ty.sl tRe).den):AnsF H7 4 [tSt.av s,tNi.av n,(Ty.sl tRe).av l] (.bool (okN s n l.2)):=by
 refine Ans.call (n:=6) (ext_none (by kernel_rfl)) (hasB_spec (by kernel_rfl)) ?_
 have h:=lgod_start s n l
 exact .doneB (Y7_ok _) H7sy h rfl
theorem pcou_call (s:tSt.den) (n:tNi.den) (l:(Ty.sl tRe).den) (p:tP.den) (h:Bool):AnsF F6 10 [tSt.av s,tNi.av n,(Ty.sl tRe).av l,tP.av p,Ty.av .bool h] (tup2 (couS s n l.2 p h)):=by
 cases h with
 |false=>exact pcol_call s n l p
 |true=>exact pcoh_call s n l p
noncomputable def co5 (t u w s q:Ty) (v:t.den→u.den→w.den→s.den→q.den→AV) (args:List AV):Option (Bool×AV):=
 match args with
 |[a1,a2,a3,a4,a5]=>match rdA t a1,rdA u a2,rdA w a3,rdA s a4,rdA q a5 with
  |some (c1,x),some (c2,y),some (c3,z),some (c4,p),some (c5,o)=>some (c1&&(c2&&(c3&&(c4&&c5))),v x y z p o)
  |_,_,_,_,_=>none
 |_=>none
theorem co5_spec {E:Env} {f:Nat} {t u w s q:Ty} {v:t.den→u.den→w.den→s.den→q.den→AV} (h:∀ x y z p o,AnsF E f [t.av x,u.av y,w.av z,s.av p,q.av o] (v x y z p o)) {args:List AV} {r:AV} (hc:co5 t u w s q v args=some (true,r)):∃ args',TellsL args args'∧args'.all (closedA 9)=true∧AnsF E f args' r:=by
 unfold co5 at hc
 split at hc
 · split at hc
   · rename_i c1 x c2 y c3 z c4 p c5 o hx hy hz hp ho
     simp only[Option.some.injEq,Prod.mk.injEq,Bool.and_eq_true] at hc
     obtain⟨⟨rfl,rfl,rfl,rfl,rfl⟩,rfl⟩:=hc
     exact⟨[t.av x,u.av y,w.av z,s.av p,q.av o],.cons (rdA_spec _ hx) (.cons (rdA_spec _ hy) (.cons (rdA_spec _ hz) (.cons (rdA_spec _ hp) (.cons (rdA_spec _ ho) .nil)))),by simp[av_closed],h x y z p o⟩
   · cases hc
 · cases hc
noncomputable def LP:List Said:=[(6,con3 tSt tNi (.sl tRe) (fun _ _ _=>true) (fun s n l=>clrW (clrQ s n l.2))),(7,con3 tSt tNi (.sl tRe) (fun _ _ _=>true) (fun s n l=>wndW (wndQ s n l.2))),
 (10,co5 tSt tNi (.sl tRe) tP .bool (fun s n l p h=>tup2 (couS s n l.2 p h))),(8,con2 (.sl tI) tI (fun l _=>Nat.ble l.2.length 1000) (fun l m=>.bool (hasF l.2 m))),
 (9,con3 tP (.int .u16) (.int .u16) (fun _ _ _=>true) (fun p x y=>.agg [.int .i64 (spF p.1 x),.int .i64 (spF p.2.1 y)])),(4,con3 tSt tNi (.sl tRe) (fun _ _ _=>true) (fun s n l=>.bool (okN s n l.2))),(5,say0 (.bool true))]
theorem LP_ok:∀ e∈LP,SaidG Tryz.prog H7.glob e:=
 saids_cons (SaidOK.g f6 xf6 nf6 tabs_ok.mix (fun _ _ h=>con3_spec (t:=tSt) (u:=tNi) (w:=.sl tRe) (fun s n l _=>by rw[← clrS_eq];exact pclr_call s n l) h) rfl)
 (saids_cons (SaidOK.g f6 xf6 nf6 tabs_ok.mix (fun _ _ h=>con3_spec (t:=tSt) (u:=tNi) (w:=.sl tRe) (fun s n l _=>by rw[← wndS_eq];exact pwnd_call s n l) h) rfl)
 (saids_cons (SaidOK.g f6 xf6 nf6 tabs_ok.mix (fun _ _ h=>co5_spec (t:=tSt) (u:=tNi) (w:=.sl tRe) (s:=tP) (q:=.bool) (fun s n l p b=>pcou_call s n l p b) h) rfl)
 (saids_cons (SaidOK.g h7 xh7 nh7 tabs_ok.mix (fun _ _ h=>con2_spec (t:=.sl tI) (u:=tI) (fun l m hc=>lhas_call l m hc) h) rfl)
 (saids_cons (SaidOK.g h7 xh7 nh7 tabs_ok.mix (fun _ _ h=>con3_spec (t:=tP) (u:=.int .u16) (w:=.int .u16) (fun p x y _=>lspt_call p x y) h) rfl)
 (saids_cons (SaidOK.g h7 xh7 nh7 tabs_ok.mix (fun _ _ h=>con3_spec (t:=tSt) (u:=tNi) (w:=.sl tRe) (fun s n l _=>lgod_call s n l) h) rfl)
 (saids_cons (XG.g (XG.closedT eA xA nA tabs_ok.mix ents_nil kn_true) rfl) saids_nil))))))
noncomputable def H9:Env:=H7.say (under (xOf LP))
theorem h9:EnvOK Tryz.prog H9:=h7.say _
theorem nh9:NameOK H9:=nh7.say _
theorem xh9:ExtOK Tryz.prog H9:=xh7.sayL LP_ok
theorem H9sy:H9.sy=true:=rfl
noncomputable def Y9 (l:List Nat):Sy:=(Y7 []).on LP l
theorem Y9_ok (l:List Nat):(Y9 l).ok H9:=Sy.on_ok (Y7_ok _)
abbrev tTd:Ty:=.cons tNi (.cons (.sl tRe) .nil)
abbrev tW2:Ty:=.cons (.int .u16) (.cons (.int .u16) .nil)
abbrev tFu:Ty:=.cons tRe (.cons tW2 .nil)
end Go.Proofs.YtppcdepecdemnaaGreatDoor


set_option maxRecDepth 100000
namespace Go.Proofs.YtppcdepecdemnaaGreatDoor
open Go Go.Eng
theorem isF_app {t:Ty} (k:Nat) (r:List AV):∀ (L:List t.den),isF (rd t) (L.length+k) (flat t L++r)=isF (rd t) k r∧unf (rd t) (L.length+k) (flat t L++r)=L++unf (rd t) k r
 |[]=>by rw[List.length_nil,Nat.zero_add];exact⟨rfl,rfl⟩
 |d::L=>by
  obtain⟨h1,h2⟩:=isF_app k r L
  have e:flat t (d::L)++r=t.cells d++(flat t L++r):=by rw[← List.append_assoc];rfl
  rw[e,List.length_cons,show L.length+1+k=(L.length+k)+1 by omega]
  exact⟨by simp only[isF,rd_cells,h1,Bool.true_and],by simp only[unf,rd_cells,h2,List.cons_append]⟩
theorem rowR_is (a b:Int) (h y:Bool):isF (rd tRe) 1 [AV.int .i64 a,AV.int .i64 b,AV.bool h,AV.bool y]=true∧unf (rd tRe) 1 [AV.int .i64 a,AV.int .i64 b,AV.bool h,AV.bool y]=[((a,b,()),h,y,())]:=⟨by kernel_rfl,by kernel_rfl⟩
theorem plainR (r:List AV):∀ L:List tRe.den,plainL (flat tRe L++r)=plainL r
 |[]=>rfl
 |_::L=>plainR r L
theorem oneR:∀ L:List tRe.den,oneAll (flat tRe L)=true
 |[]=>rfl
 |_::L=>oneR L
theorem flatR_len:∀ L:List tRe.den,(flat tRe L).length=L.length * 4
 |[]=>rfl
 |d::L=>by
  show (tRe.cells d++flat tRe L).length=_
  rw[List.length_append,flatR_len L,List.length_cons];show 4+L.length * 4=_;omega
theorem moreR_is (L:List tRe.den) (a b:Int) (h y:Bool):isF (rd tRe) (0+L.length+1) ([]++flat tRe L++[AV.int .i64 a,AV.int .i64 b,AV.bool h,AV.bool y])=true∧unf (rd tRe) (0+L.length+1) ([]++flat tRe L++[AV.int .i64 a,AV.int .i64 b,AV.bool h,AV.bool y])=L++[((a,b,()),h,y,())]∧plainL ([]++flat tRe L++[AV.int .i64 a,AV.int .i64 b,AV.bool h,AV.bool y])=true:=by
 rw[Nat.zero_add,List.nil_append]
 obtain⟨h1,h2⟩:=isF_app 1 [AV.int .i64 a,AV.int .i64 b,AV.bool h,AV.bool y] L
 obtain⟨h3,h4⟩:=rowR_is a b h y
 exact⟨h1.trans h3,by rw[h2,h4],(plainR _ L).trans rfl⟩
theorem agrF_more (n:tNi.den) (l:List tRe.den) (r:tRe.den) (t:tP.den) (h:Bool):agrF n (l++[r]) t h=(agrF n l t h&&agr1 n t h r):=by
 unfold agrF;rw[List.all_append];simp
theorem trT_more (s:tSt.den) (n:tNi.den) (l:List tRe.den) (r:tRe.den) (h:Bool):trT s n (l++[r]) h=(trT s n l h).filter fun t=>agr1 n t h r:=by
 unfold trT
 rw[List.filter_filter]
 congr 1
 funext t
 rw[agrF_more,Bool.and_comm]
theorem repS_all:∀ (l:List tRe.den) (i:Nat),repB l=true→repS i l=(0,0)
 |[],_,_=>rfl
 |r::l,i,h=>by
  unfold repB at h
  rw[List.all_cons,Bool.and_eq_true] at h
  rw[repS,h.1,cond_true]
  exact repS_all l (i+1) h.2
theorem mt6_flag:∀ (T:List tP.den) (t:En6),(T.foldl mt6 t).2.2.1=(t.2.2.1 || !T.isEmpty)
 |[],t=>by simp
 |p::T,t=>by
  rw[List.foldl_cons,mt6_flag T]
  show (true || _)=_
  simp
theorem clr_err {s:tSt.den} {n:tNi.den} {l:List tRe.den} (h:okN s n l=true):(clrQ s n l).2.2.2.2=bif (trT s n l false).isEmpty then 9 else 0:=by
 unfold clrQ
 rw[show ieq (cknS s n l).2 0=true from h,cond_true]
 show (bif ((trT s n l false).foldl mt6 (0,0,false,0,0,false)).2.2.1 then (0:Int) else 9)=_
 rw[mt6_flag]
 cases (trT s n l false).isEmpty<;>rfl
theorem mtW_flag:∀ (T:List tP.den) (x:W3),(T.foldl mtW x).1.2.2=(x.1.2.2 || !T.isEmpty)
 |[],t=>by simp
 |p::T,t=>by
  rw[List.foldl_cons,mtW_flag T]
  show (true || _)=_
  simp
theorem wnd_err {s:tSt.den} {n:tNi.den} {l:List tRe.den} (h:okN s n l=true):(wndQ s n l).2.2.2=bif (trT s n l true).isEmpty then 9 else 0:=by
 unfold wndQ
 rw[show ieq (cknS s n l).2 0=true from h,cond_true]
 show (bif ((trT s n l true).foldl mtW wnd0).1.2.2 then (0:Int) else 9)=_
 rw[mtW_flag]
 cases (trT s n l true).isEmpty<;>rfl
theorem stC_fold (n:tNi.den) (p:tP.den) (h:Bool):∀ (T:List tP.den) (x:Bool×Bool),T.foldl (stC n p h) x=(x.1 || T.any fun t=>metF n p t h,x.2 || T.any fun t=>!metF n p t h)
 |[],x=>by simp
 |t::T,x=>by
  rw[List.foldl_cons,stC_fold n p h T]
  unfold stC
  cases c:metF n p t h<;>simp[c]
theorem cou_ok {s:tSt.den} {n:tNi.den} {l:List tRe.den} {p:tP.den} {h:Bool} (ho:okN s n l=true) (hp:in3 p.1 p.2.1=true):couS s n l p h=couR ((trT s n l h).any fun t=>metF n p t h,(trT s n l h).any fun t=>!metF n p t h):=by
 unfold couS
 rw[show ieq (cknS s n l).2 0=true from ho,cond_true,hp,cond_true,stC_fold]
 simp
noncomputable def anyM (s:tSt.den) (n:tNi.den) (l:List tRe.den) (p:tP.den) (h y:Bool):Bool:=(trT s n l h).any fun t=>y == metF n p t h
end Go.Proofs.YtppcdepecdemnaaGreatDoor

