/-
  What is proved: norelaw06.AirReached returns true for any station, night and reports; which place, by two numbers, and whether it is asked of the horn. Conditions: none but those of the given card (package-level variables start as the program's text lays them).
-/
import Derived.Test.YtelbaokiepcilaaGreatDoorPart05
import Derived.Test.YtelbaokiepcilaaGreatDoorPart03
import Derived.Test.YtelbaokiepcilaaGreatDoorRows
import Derived.Test.YtelbaokiepcilaaGreatDoorCards
import Derived.Test.YtelbaokiepcilaaGreatDoorTie
import Derived.ProofKit
import Derived.LaidMore
import Derived.OpenShut
import Derived.Stop.Joined
import Derived.Lay
import Derived.SevenTiedAt
set_option linter.unusedSectionVars false
set_option linter.unusedSimpArgs false
set_option linter.unusedVariables false
set_option maxRecDepth 100000
namespace Go.Proofs.YtelbaokiepcilaaGreatDoor
open Go Go.Eng
noncomputable def ffalQ0:Tmps:=(tmOf 33 [(0,(.yld 16)),(1,(pP 13 0)),(2,(pP 14 0)),(3,(pP 15 0)),(7,(.agg [(iI 400),(iI 420)])),(8,(iI 21)),(9,(iI 0))])
noncomputable def ffalQ1:Tmps:=(tmOf 45 [(0,(pP 6 0)),(1,(.bool false)),(2,(pP 8 0)),(3,(pP 9 0)),(4,.nils),(5,(pP 11 0)),(6,(pP 12 0)),(12,(.mp 10)),(13,(pP 6 0)),(14,(.bool false)),(15,(.fn 111 [] [(pP 13 0),(pP 14 0),(pP 15 0)]))])
noncomputable def ffalQ2:Tmps:=(tmOf 29 [(0,(.agg [(.vs tGr (false) (S0.1.2)),(iI 20),(iI 30),(iI 50),(iI 120)])),(1,(.agg [(iI 0),(iI 0),(iI 0),(iI 8),(iI 1)])),(2,(.vs tRe (false) ([rB,rC]))),(3,(pP 0 0)),(4,(pP 1 0)),(6,.nils),(7,(iI 0)),(8,(pP 6 0)),(9,(iI 0)),(11,(.tup [(pP 6 0),(iI 0)])),(12,(.agg [(.vs tGr (false) (S0.1.2)),(iI 20),(iI 30),(iI 50),(iI 120)])),(13,(.agg [(iI 0),(iI 0),(iI 0),(iI 8),(iI 1)])),(14,(.vs tRe (false) ([rB,rC]))),(15,(.tup [(pP 6 0),(iI 0)])),(16,(pP 6 0)),(17,(iI 0)),(18,(iI 0)),(19,(.bool false)),(21,(pP 6 0))])
noncomputable def ffalk1:AO:=(cF [(.vs tGr (false) (S0.1.2)),(iI 20),(iI 30),(iI 50),(iI 120)])
noncomputable def ffalk4:AO:=(cF [(iI 0),(iI 0),(iI 0),(iI 8),(iI 1)])
noncomputable def ffalk3:AO:=(cF [(.vs tGr (false) (S0.1.2)),(iI 20),(iI 30),(iI 50),(iI 120),(iI 0),(iI 0),(iI 0),(iI 8),(iI 1),(.sl 7 0 (2) (2) 6)])
noncomputable def ffalk0:AO:=(cF ([AV.int IntKind.i64 ([rB,rC].getD (Int.toNat 0) tRe.dflt).1.1,  AV.int IntKind.i64 ([rB,rC].getD (Int.toNat 0) tRe.dflt).1.2.1,AV.bool false,AV.bool false,  AV.int IntKind.i64     (wr .i64 (([rB,rC].getD (Int.toNat 0) tRe.dflt).1.1-N0.1.1) *         wr .i64 (([rB,rC].getD (Int.toNat 0) tRe.dflt).1.1-N0.1.1) +       wr .i64 (([rB,rC].getD (Int.toNat 0) tRe.dflt).1.2.1-N0.1.2.1) *         wr .i64 (([rB,rC].getD (Int.toNat 0) tRe.dflt).1.2.1-N0.1.2.1)),  AV.int IntKind.i64     (ptF (wr .i64 (([rB,rC].getD (Int.toNat 0) tRe.dflt).1.1-N0.1.1))       (wr .i64 (([rB,rC].getD (Int.toNat 0) tRe.dflt).1.2.1-N0.1.2.1))),  AV.int IntKind.i64 ([rB,rC].getD (wr .i64 (0+1)).toNat tRe.dflt).1.1,  AV.int IntKind.i64 ([rB,rC].getD (wr .i64 (0+1)).toNat tRe.dflt).1.2.1,AV.bool false,AV.bool false,  AV.int IntKind.i64     (wr .i64 (([rB,rC].getD (wr .i64 (0+1)).toNat tRe.dflt).1.1-N0.1.1) *         wr .i64 (([rB,rC].getD (wr .i64 (0+1)).toNat tRe.dflt).1.1-N0.1.1) +       wr .i64 (([rB,rC].getD (wr .i64 (0+1)).toNat tRe.dflt).1.2.1-N0.1.2.1) *         wr .i64 (([rB,rC].getD (wr .i64 (0+1)).toNat tRe.dflt).1.2.1-N0.1.2.1)),  AV.int IntKind.i64     (ptF (wr .i64 (([rB,rC].getD (wr .i64 (0+1)).toNat tRe.dflt).1.1-N0.1.1))       (wr .i64 (([rB,rC].getD (wr .i64 (0+1)).toNat tRe.dflt).1.2.1-N0.1.2.1)))]))
noncomputable def ffalk5:HD:=⟨16,45,39,(ffalQ1),#[16],(pcOf F8 51 [0,0,1,0,1,1,1]),(pcOf F8 51 [1,0,1,0,1,1,1])⟩
noncomputable def ffalk9 (z0:Nat):Fm:=(.lop (pcOf F8 111 [0,0,1]) 18 (ffalQ0) z0)
noncomputable def ffalk8:Fm:=(.cal [] (.rng (ffalQ1) [] 45 false ⟨39,[]⟩))
noncomputable def ffalk2:Fm:=(.cal [(.tmp 4)] (.op (pcOf F8 22 [0,1,1,1]) 2 (some 22) ((opsOf (pcOf F8 22 [0,1,1,1]).c).toList.drop 2) (ffalQ2) [] 29 false ⟨40,[]⟩))
noncomputable def ffalI0 (u:Unit) (x63:Nat):Cfg:=⟨.ex (pcOf F8 111 [0,0,1]) ⟨(ffalQ0),(hpOf 18 [(0,(ffalk1)),(1,(ffalk4)),(2,(ffalk1)),(3,(ffalk4)),(4,(ffalk1)),(5,(ffalk4)),(6,(ffalk3)),(7,(ffalk0)),(8,(cF [(pP 6 0)])),(9,(cF [(.bool false)])),(10,(.map ([]))),(11,(cF [(.mp 10)])),(12,(cF [.nils])),(13,(cF [(iI 400),(iI 420)])),(14,(cF [(iI 50),(iI 120)])),(15,(cF [(.fn 40 [] [])])),(17,(cF [(iI 400),(iI 420)]))]),[],[⟨false,.normal⟩],33,false⟩,⟨38,[(ffalk5)]⟩,[(ffalk9 x63),(.blk 0),(ffalk8),(.blk 0),(.seq (pcOf F8 51 [1,1,1,1])),(ffalk2),(.seq (pcOf F8 22 [1,1,1,1])),(.cal [(.tmp 6),(.tmp 7)] .top)]⟩
noncomputable def ffalQ3:Tmps:=(tmOf 33 [(0,(.yld 16)),(1,(pP 13 0)),(2,(pP 14 0)),(3,(pP 15 0)),(5,(iI 0)),(7,(.agg [(iI 400),(iI 420)])),(8,(iI 21)),(9,(iI 0)),(10,(.bool true)),(11,(iI 0)),(12,(.agg [(iI 50),(iI 120)])),(13,(iI 71)),(14,(iI 0))])
noncomputable def ffalk7:PC:=(pcOf F8 111 [0,0,1,1,0,0,1,1,0,0,1])
noncomputable def ffalI1 (u:Unit) (x79:Nat) (x84:Nat):Cfg:=⟨.ex (ffalk7) ⟨(ffalQ3),(hpOf 19 [(0,(ffalk1)),(1,(ffalk4)),(2,(ffalk1)),(3,(ffalk4)),(4,(ffalk1)),(5,(ffalk4)),(6,(ffalk3)),(7,(ffalk0)),(8,(cF [(pP 6 0)])),(9,(cF [(.bool false)])),(10,(.map ([]))),(11,(cF [(.mp 10)])),(12,(cF [.nils])),(13,(cF [(iI 400),(iI 420)])),(14,(cF [(iI 50),(iI 120)])),(15,(cF [(.fn 40 [] [])])),(17,(cF [(iI 400),(iI 420)])),(18,(cF [(iI 50),(iI 120)]))]),[],[⟨false,.normal⟩],33,false⟩,⟨38,[(ffalk5)]⟩,[(.lop (ffalk7) 19 (ffalQ3) x79),(.blk 2),(.blk 1),(.seq (pcOf F8 111 [1,1,1,0,0,1])),(ffalk9 x84),(.blk 0),(ffalk8),(.blk 0),(.seq (pcOf F8 51 [1,1,1,1])),(ffalk2),(.seq (pcOf F8 22 [1,1,1,1])),(.cal [(.tmp 6),(.tmp 7)] .top)]⟩
noncomputable def ffalQ4 (y0:Int):Tmps:=(tmOf 33 [(0,(.yld 16)),(1,(pP 13 0)),(2,(pP 14 0)),(3,(pP 15 0)),(5,(iI 0)),(7,(.agg [(iI 400),(iI 420)])),(8,(iI 21)),(9,(iI 0)),(10,(.bool true)),(11,(iI 0)),(12,(.agg [(iI 50),(iI 120)])),(13,(iI 71)),(14,(iI y0))])
noncomputable def ffalI2 (u:Unit) (x10:Int) (x81:Nat) (x86:Nat):Cfg:=⟨.ex (ffalk7) ⟨(ffalQ4 x10),(hpOf 20 [(0,(ffalk1)),(1,(ffalk4)),(2,(ffalk1)),(3,(ffalk4)),(4,(ffalk1)),(5,(ffalk4)),(6,(ffalk3)),(7,(ffalk0)),(8,(cF [(pP 6 0)])),(9,(cF [(.bool false)])),(10,(.map ([(AV.int IntKind.u64       (IntKind.u64.wrap         ↑(BitVec.ofInt IntKind.u64.bits 0 |||               BitVec.ofInt IntKind.u64.bits (IntKind.u64.wrap (1 * 2 ^ min (Int.toNat 0) IntKind.u64.bits))).toNat),    AV.bool true)]))),(11,(cF [(.mp 10)])),(12,(cF [(.sl 19 0 (1) (1) 1)])),(13,(cF [(iI 400),(iI 420)])),(14,(cF [(iI 50),(iI 120)])),(15,(cF [(.fn 40 [] [])])),(17,(cF [(iI 400),(iI 420)])),(18,(cF [(iI 50),(iI 120)])),(19,(cF ([AV.csl [AV.int IntKind.i64 (wr .i64 (0+1))] 1])))]),[],[⟨false,.normal⟩],33,false⟩,⟨38,[(ffalk5)]⟩,[(.lop (ffalk7) 19 (ffalQ3) x81),(.blk 2),(.blk 1),(.seq (pcOf F8 111 [1,1,1,0,0,1])),(ffalk9 x86),(.blk 0),(ffalk8),(.blk 0),(.seq (pcOf F8 51 [1,1,1,1])),(ffalk2),(.seq (pcOf F8 22 [1,1,1,1])),(.cal [(.tmp 6),(.tmp 7)] .top)]⟩
noncomputable def ffalk6:AO:=(cF ([AV.csl [AV.int IntKind.i64 (wr .i64 (0+1))] 1,  AV.csl [AV.int IntKind.i64 0,AV.int IntKind.i64 (wr .i64 (0+1))] (1+1)]))
noncomputable def ffalI3 (u:Unit) (x10:Int) (x81:Nat) (x86:Nat):Cfg:=⟨.ex (ffalk7) ⟨(ffalQ4 x10),(hpOf 20 [(0,(ffalk1)),(1,(ffalk4)),(2,(ffalk1)),(3,(ffalk4)),(4,(ffalk1)),(5,(ffalk4)),(6,(ffalk3)),(7,(ffalk0)),(8,(cF [(pP 6 0)])),(9,(cF [(.bool false)])),(10,(.map ([(AV.int IntKind.u64       (IntKind.u64.wrap         ↑(BitVec.ofInt IntKind.u64.bits 0 |||               BitVec.ofInt IntKind.u64.bits (IntKind.u64.wrap (1 * 2 ^ min (Int.toNat 0) IntKind.u64.bits))).toNat),    AV.bool true),  (AV.int IntKind.u64 0,AV.bool true)]))),(11,(cF [(.mp 10)])),(12,(cF [(.sl 19 0 (2) (2) 1)])),(13,(cF [(iI 400),(iI 420)])),(14,(cF [(iI 50),(iI 120)])),(15,(cF [(.fn 40 [] [])])),(17,(cF [(iI 400),(iI 420)])),(18,(cF [(iI 50),(iI 120)])),(19,(ffalk6))]),[],[⟨false,.normal⟩],33,false⟩,⟨38,[(ffalk5)]⟩,[(.lop (ffalk7) 19 (ffalQ3) x81),(.blk 2),(.blk 1),(.seq (pcOf F8 111 [1,1,1,0,0,1])),(ffalk9 x86),(.blk 0),(ffalk8),(.blk 0),(.seq (pcOf F8 51 [1,1,1,1])),(ffalk2),(.seq (pcOf F8 22 [1,1,1,1])),(.cal [(.tmp 6),(.tmp 7)] .top)]⟩
noncomputable def ffalQ5 (y0:Int):Tmps:=(tmOf 33 [(0,(.yld 16)),(1,(pP 13 0)),(2,(pP 14 0)),(3,(pP 15 0)),(7,(.agg [(iI 400),(iI 420)])),(8,(iI 21)),(9,(iI y0))])
noncomputable def ffalI4 (u:Unit) (x3:Int) (x65:Nat):Cfg:=⟨.ex (pcOf F8 111 [0,0,1]) ⟨(ffalQ5 x3),(hpOf 19 [(0,(ffalk1)),(1,(ffalk4)),(2,(ffalk1)),(3,(ffalk4)),(4,(ffalk1)),(5,(ffalk4)),(6,(ffalk3)),(7,(ffalk0)),(8,(cF [(pP 6 0)])),(9,(cF [(.bool false)])),(10,(.map ([(AV.int IntKind.u64       (IntKind.u64.wrap         ↑(BitVec.ofInt IntKind.u64.bits 0 |||               BitVec.ofInt IntKind.u64.bits (IntKind.u64.wrap (1 * 2 ^ min (Int.toNat 0) IntKind.u64.bits))).toNat),    AV.bool true)]))),(11,(cF [(.mp 10)])),(12,(cF [(.sl 18 0 (1) (1) 1)])),(13,(cF [(iI 400),(iI 420)])),(14,(cF [(iI 50),(iI 120)])),(15,(cF [(.fn 40 [] [])])),(17,(cF [(iI 400),(iI 420)])),(18,(cF ([AV.csl [AV.int IntKind.i64 (wr .i64 (0+1))] 1])))]),[],[⟨false,.normal⟩],33,false⟩,⟨38,[(ffalk5)]⟩,[(ffalk9 x65),(.blk 0),(ffalk8),(.blk 0),(.seq (pcOf F8 51 [1,1,1,1])),(ffalk2),(.seq (pcOf F8 22 [1,1,1,1])),(.cal [(.tmp 6),(.tmp 7)] .top)]⟩
noncomputable def ffalI5 (u:Unit) (x3:Int) (x65:Nat):Cfg:=⟨.ex (pcOf F8 111 [0,0,1]) ⟨(ffalQ5 x3),(hpOf 19 [(0,(ffalk1)),(1,(ffalk4)),(2,(ffalk1)),(3,(ffalk4)),(4,(ffalk1)),(5,(ffalk4)),(6,(ffalk3)),(7,(ffalk0)),(8,(cF [(pP 6 0)])),(9,(cF [(.bool false)])),(10,(.map ([(AV.int IntKind.u64       (IntKind.u64.wrap         ↑(BitVec.ofInt IntKind.u64.bits 0 |||               BitVec.ofInt IntKind.u64.bits (IntKind.u64.wrap (1 * 2 ^ min (Int.toNat 0) IntKind.u64.bits))).toNat),    AV.bool true),  (AV.int IntKind.u64 0,AV.bool true)]))),(11,(cF [(.mp 10)])),(12,(cF [(.sl 18 0 (2) (2) 1)])),(13,(cF [(iI 400),(iI 420)])),(14,(cF [(iI 50),(iI 120)])),(15,(cF [(.fn 40 [] [])])),(17,(cF [(iI 400),(iI 420)])),(18,(ffalk6))]),[],[⟨false,.normal⟩],33,false⟩,⟨38,[(ffalk5)]⟩,[(ffalk9 x65),(.blk 0),(ffalk8),(.blk 0),(.seq (pcOf F8 51 [1,1,1,1])),(ffalk2),(.seq (pcOf F8 22 [1,1,1,1])),(.cal [(.tmp 6),(.tmp 7)] .top)]⟩
noncomputable def ffalQ6 (y0:Int) (y1:Int):Tmps:=(tmOf 33 [(0,(.yld 16)),(1,(pP 13 0)),(2,(pP 14 0)),(3,(pP 15 0)),(5,(iI y0)),(7,(.agg [(iI 400),(iI 420)])),(8,(iI 21)),(9,(iI y0)),(10,(.bool true)),(11,(iI y0)),(12,(.agg [(iI 50),(iI 120)])),(13,(iI 71)),(14,(iI y1))])
noncomputable def ffalQ7 (y0:Int):Tmps:=(tmOf 33 [(0,(.yld 16)),(1,(pP 13 0)),(2,(pP 14 0)),(3,(pP 15 0)),(5,(iI y0)),(7,(.agg [(iI 400),(iI 420)])),(8,(iI 21)),(9,(iI y0)),(10,(.bool true)),(11,(iI y0)),(12,(.agg [(iI 50),(iI 120)])),(13,(iI 71)),(14,(iI 0))])
noncomputable def ffalI6 (u:Unit) (x0:Int) (x10:Int) (x81:Nat) (x86:Nat):Cfg:=⟨.ex (ffalk7) ⟨(ffalQ6 x0 x10),(hpOf 20 [(0,(ffalk1)),(1,(ffalk4)),(2,(ffalk1)),(3,(ffalk4)),(4,(ffalk1)),(5,(ffalk4)),(6,(ffalk3)),(7,(ffalk0)),(8,(cF [(pP 6 0)])),(9,(cF [(.bool false)])),(10,(.map ([(AV.int IntKind.u64       (IntKind.u64.wrap         ↑(BitVec.ofInt IntKind.u64.bits 0 |||               BitVec.ofInt IntKind.u64.bits (IntKind.u64.wrap (1 * 2 ^ min (Int.toNat 0) IntKind.u64.bits))).toNat),    AV.bool true)]))),(11,(cF [(.mp 10)])),(12,(cF [(.sl 18 0 (1) (1) 1)])),(13,(cF [(iI 400),(iI 420)])),(14,(cF [(iI 50),(iI 120)])),(15,(cF [(.fn 40 [] [])])),(17,(cF [(iI 400),(iI 420)])),(18,(cF ([AV.csl [AV.int IntKind.i64 (wr .i64 (0+1))] 1]))),(19,(cF [(iI 50),(iI 120)]))]),[],[⟨false,.normal⟩],33,false⟩,⟨38,[(ffalk5)]⟩,[(.lop (ffalk7) 20 (ffalQ7 x0) x81),(.blk 2),(.blk 1),(.seq (pcOf F8 111 [1,1,1,0,0,1])),(ffalk9 x86),(.blk 0),(ffalk8),(.blk 0),(.seq (pcOf F8 51 [1,1,1,1])),(ffalk2),(.seq (pcOf F8 22 [1,1,1,1])),(.cal [(.tmp 6),(.tmp 7)] .top)]⟩
noncomputable def ffalI7 (u:Unit) (x0:Int) (x10:Int) (x81:Nat) (x86:Nat):Cfg:=⟨.ex (ffalk7) ⟨(ffalQ6 x0 x10),(hpOf 20 [(0,(ffalk1)),(1,(ffalk4)),(2,(ffalk1)),(3,(ffalk4)),(4,(ffalk1)),(5,(ffalk4)),(6,(ffalk3)),(7,(ffalk0)),(8,(cF [(pP 6 0)])),(9,(cF [(.bool false)])),(10,(.map ([(AV.int IntKind.u64       (IntKind.u64.wrap         ↑(BitVec.ofInt IntKind.u64.bits 0 |||               BitVec.ofInt IntKind.u64.bits (IntKind.u64.wrap (1 * 2 ^ min (Int.toNat 0) IntKind.u64.bits))).toNat),    AV.bool true),  (AV.int IntKind.u64 0,AV.bool true)]))),(11,(cF [(.mp 10)])),(12,(cF [(.sl 18 0 (2) (2) 1)])),(13,(cF [(iI 400),(iI 420)])),(14,(cF [(iI 50),(iI 120)])),(15,(cF [(.fn 40 [] [])])),(17,(cF [(iI 400),(iI 420)])),(18,(ffalk6)),(19,(cF [(iI 50),(iI 120)]))]),[],[⟨false,.normal⟩],33,false⟩,⟨38,[(ffalk5)]⟩,[(.lop (ffalk7) 20 (ffalQ7 x0) x81),(.blk 2),(.blk 1),(.seq (pcOf F8 111 [1,1,1,0,0,1])),(ffalk9 x86),(.blk 0),(ffalk8),(.blk 0),(.seq (pcOf F8 51 [1,1,1,1])),(ffalk2),(.seq (pcOf F8 22 [1,1,1,1])),(.cal [(.tmp 6),(.tmp 7)] .top)]⟩
noncomputable def ffalI8 (u:Unit) (x0:Int) (x10:Int) (x81:Nat) (x86:Nat):Cfg:=⟨.ex (ffalk7) ⟨(ffalQ6 x0 x10),(hpOf 21 [(0,(ffalk1)),(1,(ffalk4)),(2,(ffalk1)),(3,(ffalk4)),(4,(ffalk1)),(5,(ffalk4)),(6,(ffalk3)),(7,(ffalk0)),(8,(cF [(pP 6 0)])),(9,(cF [(.bool false)])),(10,(.map ([(AV.int IntKind.u64       (IntKind.u64.wrap         ↑(BitVec.ofInt IntKind.u64.bits 0 |||               BitVec.ofInt IntKind.u64.bits (IntKind.u64.wrap (1 * 2 ^ min (Int.toNat 0) IntKind.u64.bits))).toNat),    AV.bool true),  (AV.int IntKind.u64 0,AV.bool true)]))),(11,(cF [(.mp 10)])),(12,(cF [(.sl 20 0 (2) (2) 1)])),(13,(cF [(iI 400),(iI 420)])),(14,(cF [(iI 50),(iI 120)])),(15,(cF [(.fn 40 [] [])])),(17,(cF [(iI 400),(iI 420)])),(18,.gone),(19,(cF [(iI 50),(iI 120)])),(20,(ffalk6))]),[],[⟨false,.normal⟩],33,false⟩,⟨38,[(ffalk5)]⟩,[(.lop (ffalk7) 20 (ffalQ7 x0) x81),(.blk 2),(.blk 1),(.seq (pcOf F8 111 [1,1,1,0,0,1])),(ffalk9 x86),(.blk 0),(ffalk8),(.blk 0),(.seq (pcOf F8 51 [1,1,1,1])),(ffalk2),(.seq (pcOf F8 22 [1,1,1,1])),(.cal [(.tmp 6),(.tmp 7)] .top)]⟩
theorem ffal_start (u:Unit):adv F8 (Z8 [111]) 30000 (startC F8 22 [tSt.av S0,tNi.av N0,.vs tRe false [rB,rC]] 40)=some (.stop (ffalI0 u (1048575))):=by kernel_rfl
theorem ffal_step0 (u:Unit) (x63:Nat):adv F8 (Z8 [111]) 30000 (ffalI0 u (x63+1))=some (.stop (ffalI1 u (1048575) (x63+1))):=by kernel_rfl
theorem ffal_step1 (u:Unit) (x79:Nat) (x84:Nat):adv F8 (Z8 [111]) 30000 (ffalI1 u (x79+1) (x84+1))=(bif bif ieq 169000000 100000000 then lcO (wr .i64 (400+0)) (wr .i64 (50+0)) 169000000&&snO (wr .i64 (400+0)) (wr .i64 (50+0)) 169000000 else bif frst (wr .i64 (400+0)) (wr .i64 (50+0)) 169000000 then lcO (wr .i64 (400+0)) (wr .i64 (50+0)) 169000000&&!snO (wr .i64 (400+0)) (wr .i64 (50+0)) 169000000 else lcO (wr .i64 (400+0)) (wr .i64 (50+0)) 169000000 then (bif bif ieq 100000000 100000000 then lcO (wr .i64 (400+0)) (wr .i64 (50+0)) 100000000&&snO (wr .i64 (400+0)) (wr .i64 (50+0)) 100000000 else bif frst (wr .i64 (400+0)) (wr .i64 (50+0)) 100000000 then lcO (wr .i64 (400+0)) (wr .i64 (50+0)) 100000000&&!snO (wr .i64 (400+0)) (wr .i64 (50+0)) 100000000 else lcO (wr .i64 (400+0)) (wr .i64 (50+0)) 100000000 then some (.stop (ffalI2 u (1) (x79) (x84+1))) else none) else none):=by kernel_rfl
theorem ffal_step2 (u:Unit) (x10:Int) (x81:Nat) (x86:Nat):adv F8 (Z8 [111]) 30000 (ffalI2 u x10 (x81+1) (x86+1))=(bif !ile 71 x10 then (bif bif ieq 169000000 100000000 then lcO (wr .i64 (400+0)) (wr .i64 (50+x10)) 169000000&&snO (wr .i64 (400+0)) (wr .i64 (50+x10)) 169000000 else bif frst (wr .i64 (400+0)) (wr .i64 (50+x10)) 169000000 then lcO (wr .i64 (400+0)) (wr .i64 (50+x10)) 169000000&&!snO (wr .i64 (400+0)) (wr .i64 (50+x10)) 169000000 else lcO (wr .i64 (400+0)) (wr .i64 (50+x10)) 169000000 then (bif false == bif frst (wr .i64 (400+0)) (wr .i64 (50+x10)) 169000000 then false else snO (wr .i64 (400+0)) (wr .i64 (50+x10)) 169000000 then (bif bif ieq 100000000 100000000 then lcO (wr .i64 (400+0)) (wr .i64 (50+x10)) 100000000&&snO (wr .i64 (400+0)) (wr .i64 (50+x10)) 100000000 else bif frst (wr .i64 (400+0)) (wr .i64 (50+x10)) 100000000 then lcO (wr .i64 (400+0)) (wr .i64 (50+x10)) 100000000&&!snO (wr .i64 (400+0)) (wr .i64 (50+x10)) 100000000 else lcO (wr .i64 (400+0)) (wr .i64 (50+x10)) 100000000 then some (.stop (ffalI2 u (wr .i64 (x10+1)) (x81) (x86+1))) else none) else (bif bif ieq 100000000 100000000 then lcO (wr .i64 (400+0)) (wr .i64 (50+x10)) 100000000&&snO (wr .i64 (400+0)) (wr .i64 (50+x10)) 100000000 else bif frst (wr .i64 (400+0)) (wr .i64 (50+x10)) 100000000 then lcO (wr .i64 (400+0)) (wr .i64 (50+x10)) 100000000&&!snO (wr .i64 (400+0)) (wr .i64 (50+x10)) 100000000 else lcO (wr .i64 (400+0)) (wr .i64 (50+x10)) 100000000 then some (.stop (ffalI3 u (wr .i64 (x10+1)) (x81) (x86+1))) else none)) else none) else some (.stop (ffalI4 u (1) (x86)))):=by kernel_rfl
theorem ffal_step3 (u:Unit) (x10:Int) (x81:Nat) (x86:Nat):adv F8 (Z8 [111]) 30000 (ffalI3 u x10 (x81+1) (x86+1))=(bif !ile 71 x10 then (bif bif ieq 169000000 100000000 then lcO (wr .i64 (400+0)) (wr .i64 (50+x10)) 169000000&&snO (wr .i64 (400+0)) (wr .i64 (50+x10)) 169000000 else bif frst (wr .i64 (400+0)) (wr .i64 (50+x10)) 169000000 then lcO (wr .i64 (400+0)) (wr .i64 (50+x10)) 169000000&&!snO (wr .i64 (400+0)) (wr .i64 (50+x10)) 169000000 else lcO (wr .i64 (400+0)) (wr .i64 (50+x10)) 169000000 then (bif false == bif frst (wr .i64 (400+0)) (wr .i64 (50+x10)) 169000000 then false else snO (wr .i64 (400+0)) (wr .i64 (50+x10)) 169000000 then (bif bif ieq 100000000 100000000 then lcO (wr .i64 (400+0)) (wr .i64 (50+x10)) 100000000&&snO (wr .i64 (400+0)) (wr .i64 (50+x10)) 100000000 else bif frst (wr .i64 (400+0)) (wr .i64 (50+x10)) 100000000 then lcO (wr .i64 (400+0)) (wr .i64 (50+x10)) 100000000&&!snO (wr .i64 (400+0)) (wr .i64 (50+x10)) 100000000 else lcO (wr .i64 (400+0)) (wr .i64 (50+x10)) 100000000 then some (.stop (ffalI3 u (wr .i64 (x10+1)) (x81) (x86+1))) else none) else (bif bif ieq 100000000 100000000 then lcO (wr .i64 (400+0)) (wr .i64 (50+x10)) 100000000&&snO (wr .i64 (400+0)) (wr .i64 (50+x10)) 100000000 else bif frst (wr .i64 (400+0)) (wr .i64 (50+x10)) 100000000 then lcO (wr .i64 (400+0)) (wr .i64 (50+x10)) 100000000&&!snO (wr .i64 (400+0)) (wr .i64 (50+x10)) 100000000 else lcO (wr .i64 (400+0)) (wr .i64 (50+x10)) 100000000 then some (.stop (ffalI3 u (wr .i64 (x10+1)) (x81) (x86+1))) else none)) else none) else some (.stop (ffalI5 u (1) (x86)))):=by kernel_rfl
theorem ffal_step4 (u:Unit) (x3:Int) (x65:Nat):adv F8 (Z8 [111]) 30000 (ffalI4 u x3 (x65+1))=(bif !ile 21 x3 then some (.stop (ffalI6 u (x3) (0) (1048575) (x65+1))) else some (.done (.tup [(.csl [(.int .i64 (1))] 1),(.int .i64 (0))]))):=by kernel_rfl
theorem ffal_step5 (u:Unit) (x3:Int) (x65:Nat):adv F8 (Z8 [111]) 30000 (ffalI5 u x3 (x65+1))=(bif !ile 21 x3 then some (.stop (ffalI7 u (x3) (0) (1048575) (x65+1))) else some (.done (.tup [(.csl [(.int .i64 (1))] 1),(.int .i64 (0))]))):=by kernel_rfl
theorem ffal_step6 (u:Unit) (x0:Int) (x10:Int) (x81:Nat) (x86:Nat):adv F8 (Z8 [111]) 30000 (ffalI6 u x0 x10 (x81+1) (x86+1))=(bif !ile 71 x10 then (bif bif ieq 169000000 100000000 then lcO (wr .i64 (400+x0)) (wr .i64 (50+x10)) 169000000&&snO (wr .i64 (400+x0)) (wr .i64 (50+x10)) 169000000 else bif frst (wr .i64 (400+x0)) (wr .i64 (50+x10)) 169000000 then lcO (wr .i64 (400+x0)) (wr .i64 (50+x10)) 169000000&&!snO (wr .i64 (400+x0)) (wr .i64 (50+x10)) 169000000 else lcO (wr .i64 (400+x0)) (wr .i64 (50+x10)) 169000000 then (bif false == bif frst (wr .i64 (400+x0)) (wr .i64 (50+x10)) 169000000 then false else snO (wr .i64 (400+x0)) (wr .i64 (50+x10)) 169000000 then (bif bif ieq 100000000 100000000 then lcO (wr .i64 (400+x0)) (wr .i64 (50+x10)) 100000000&&snO (wr .i64 (400+x0)) (wr .i64 (50+x10)) 100000000 else bif frst (wr .i64 (400+x0)) (wr .i64 (50+x10)) 100000000 then lcO (wr .i64 (400+x0)) (wr .i64 (50+x10)) 100000000&&!snO (wr .i64 (400+x0)) (wr .i64 (50+x10)) 100000000 else lcO (wr .i64 (400+x0)) (wr .i64 (50+x10)) 100000000 then some (.stop (ffalI6 u (x0) (wr .i64 (x10+1)) (x81) (x86+1))) else none) else (bif bif ieq 100000000 100000000 then lcO (wr .i64 (400+x0)) (wr .i64 (50+x10)) 100000000&&snO (wr .i64 (400+x0)) (wr .i64 (50+x10)) 100000000 else bif frst (wr .i64 (400+x0)) (wr .i64 (50+x10)) 100000000 then lcO (wr .i64 (400+x0)) (wr .i64 (50+x10)) 100000000&&!snO (wr .i64 (400+x0)) (wr .i64 (50+x10)) 100000000 else lcO (wr .i64 (400+x0)) (wr .i64 (50+x10)) 100000000 then some (.stop (ffalI8 u (x0) (wr .i64 (x10+1)) (x81) (x86+1))) else none)) else none) else some (.stop (ffalI4 u (wr .i64 (x0+1)) (x86)))):=by kernel_rfl
theorem ffal_step7 (u:Unit) (x0:Int) (x10:Int) (x81:Nat) (x86:Nat):adv F8 (Z8 [111]) 30000 (ffalI7 u x0 x10 (x81+1) (x86+1))=(bif !ile 71 x10 then (bif bif ieq 169000000 100000000 then lcO (wr .i64 (400+x0)) (wr .i64 (50+x10)) 169000000&&snO (wr .i64 (400+x0)) (wr .i64 (50+x10)) 169000000 else bif frst (wr .i64 (400+x0)) (wr .i64 (50+x10)) 169000000 then lcO (wr .i64 (400+x0)) (wr .i64 (50+x10)) 169000000&&!snO (wr .i64 (400+x0)) (wr .i64 (50+x10)) 169000000 else lcO (wr .i64 (400+x0)) (wr .i64 (50+x10)) 169000000 then (bif false == bif frst (wr .i64 (400+x0)) (wr .i64 (50+x10)) 169000000 then false else snO (wr .i64 (400+x0)) (wr .i64 (50+x10)) 169000000 then (bif bif ieq 100000000 100000000 then lcO (wr .i64 (400+x0)) (wr .i64 (50+x10)) 100000000&&snO (wr .i64 (400+x0)) (wr .i64 (50+x10)) 100000000 else bif frst (wr .i64 (400+x0)) (wr .i64 (50+x10)) 100000000 then lcO (wr .i64 (400+x0)) (wr .i64 (50+x10)) 100000000&&!snO (wr .i64 (400+x0)) (wr .i64 (50+x10)) 100000000 else lcO (wr .i64 (400+x0)) (wr .i64 (50+x10)) 100000000 then some (.stop (ffalI7 u (x0) (wr .i64 (x10+1)) (x81) (x86+1))) else none) else (bif bif ieq 100000000 100000000 then lcO (wr .i64 (400+x0)) (wr .i64 (50+x10)) 100000000&&snO (wr .i64 (400+x0)) (wr .i64 (50+x10)) 100000000 else bif frst (wr .i64 (400+x0)) (wr .i64 (50+x10)) 100000000 then lcO (wr .i64 (400+x0)) (wr .i64 (50+x10)) 100000000&&!snO (wr .i64 (400+x0)) (wr .i64 (50+x10)) 100000000 else lcO (wr .i64 (400+x0)) (wr .i64 (50+x10)) 100000000 then some (.stop (ffalI7 u (x0) (wr .i64 (x10+1)) (x81) (x86+1))) else none)) else none) else some (.stop (ffalI5 u (wr .i64 (x0+1)) (x86)))):=by kernel_rfl
theorem ffal_step8 (u:Unit) (x0:Int) (x10:Int) (x81:Nat) (x86:Nat):adv F8 (Z8 [111]) 30000 (ffalI8 u x0 x10 (x81+1) (x86+1))=(bif !ile 71 x10 then (bif bif ieq 169000000 100000000 then lcO (wr .i64 (400+x0)) (wr .i64 (50+x10)) 169000000&&snO (wr .i64 (400+x0)) (wr .i64 (50+x10)) 169000000 else bif frst (wr .i64 (400+x0)) (wr .i64 (50+x10)) 169000000 then lcO (wr .i64 (400+x0)) (wr .i64 (50+x10)) 169000000&&!snO (wr .i64 (400+x0)) (wr .i64 (50+x10)) 169000000 else lcO (wr .i64 (400+x0)) (wr .i64 (50+x10)) 169000000 then (bif false == bif frst (wr .i64 (400+x0)) (wr .i64 (50+x10)) 169000000 then false else snO (wr .i64 (400+x0)) (wr .i64 (50+x10)) 169000000 then (bif bif ieq 100000000 100000000 then lcO (wr .i64 (400+x0)) (wr .i64 (50+x10)) 100000000&&snO (wr .i64 (400+x0)) (wr .i64 (50+x10)) 100000000 else bif frst (wr .i64 (400+x0)) (wr .i64 (50+x10)) 100000000 then lcO (wr .i64 (400+x0)) (wr .i64 (50+x10)) 100000000&&!snO (wr .i64 (400+x0)) (wr .i64 (50+x10)) 100000000 else lcO (wr .i64 (400+x0)) (wr .i64 (50+x10)) 100000000 then some (.stop (ffalI8 u (x0) (wr .i64 (x10+1)) (x81) (x86+1))) else none) else (bif bif ieq 100000000 100000000 then lcO (wr .i64 (400+x0)) (wr .i64 (50+x10)) 100000000&&snO (wr .i64 (400+x0)) (wr .i64 (50+x10)) 100000000 else bif frst (wr .i64 (400+x0)) (wr .i64 (50+x10)) 100000000 then lcO (wr .i64 (400+x0)) (wr .i64 (50+x10)) 100000000&&!snO (wr .i64 (400+x0)) (wr .i64 (50+x10)) 100000000 else lcO (wr .i64 (400+x0)) (wr .i64 (50+x10)) 100000000 then some (.stop (ffalI8 u (x0) (wr .i64 (x10+1)) (x81) (x86+1))) else none)) else none) else some (.stop (ffalI5 u (wr .i64 (x0+1)) (x86)))):=by kernel_rfl
theorem sn_fst:seenF 400 50 169000000=false:=by kernel_rfl
theorem fr_ok {i k:Nat} (hi:i≤20) (hk:k≤70):(bif frst (400+(i:Int)) (50+(k:Int)) 169000000 then lcO (400+(i:Int)) (50+(k:Int)) 169000000&&!snO (400+(i:Int)) (50+(k:Int)) 169000000 else lcO (400+(i:Int)) (50+(k:Int)) 169000000)=true:=by
 have l:=lc_in (q:=169000000) hi hk (by decide) (by decide)
 rw[lcO_eq,snO_eq,l]
 cases e:frst (400+(i:Int)) (50+(k:Int)) 169000000 with
 |false=>rfl
 |true=>
  unfold frst at e
  simp only[Bool.and_eq_true] at e
  rw[ieq_t e.1.2,ieq_t e.2,sn_fst];rfl
theorem sn_ok {i k:Nat} (hi:i≤20) (hk:k≤70):(lcO (400+(i:Int)) (50+(k:Int)) 100000000&&snO (400+(i:Int)) (50+(k:Int)) 100000000)=true:=by
 rw[lcO_eq,snO_eq,lc_in (q:=100000000) hi hk (by decide) (by decide),sn_in hi hk];rfl
noncomputable def falV:AV:=.tup [.csl [.int .i64 1] 1,.int .i64 0]
theorem w400:wr .i64 (400+0)=400+((0:Nat):Int):=rfl
theorem w50:wr .i64 (50+0)=50+((0:Nat):Int):=rfl
theorem fal3 (M:Nat) (ke:Ans F8 (ffalI5 () ((1:Nat):Int) M) falV):∀ (r k m:Nat),k+r=71→r<m→Ans F8 (ffalI3 () k m (M+1)) falV
 |0,k,m+1,hk,hm=>by
  have h:=ffal_step3 () k m M
  have e:k=71:=by omega
  subst e
  rw[show ile 71 ((71:Nat):Int)=true from rfl,Bool.not_true,cond_false] at h
  exact .stop (Z8_ok _) F8sy h ke
 | r + 1, k, m + 1, hk, hm => by
  have h:=ffal_step3 () k m M
  have e1:ile 71 (k:Int)=false:=ile_f (by omega)
  rw[wr_succ (show k<1048577 by omega),wr_in (n:=50+(k:Int)) (by omega) (by omega)] at h
  simp only[w400,e1,show ieq 169000000 100000000=false from rfl,ieq_self,fr_ok (i:=0) (show (0:Nat)≤20 by omega) (show k≤70 by omega),sn_ok (i:=0) (show (0:Nat)≤20 by omega) (show k≤70 by omega),Bool.not_false,cond_true,cond_false] at h
  generalize (bif frst (400+((0:Nat):Int)) (50+(k:Int)) 169000000 then false else snO (400+((0:Nat):Int)) (50+(k:Int)) 169000000)=b at h
  cases b with
  |false=>
   rw[show (false == false)=true from rfl,cond_true] at h
   exact .stop (Z8_ok _) F8sy h (fal3 M ke r (k+1) m (by omega) (by omega))
  |true=>
   rw[show (false == true)=false from rfl,cond_false] at h
   exact .stop (Z8_ok _) F8sy h (fal3 M ke r (k+1) m (by omega) (by omega))
theorem fal2 (M:Nat) (ke:Ans F8 (ffalI4 () ((1:Nat):Int) M) falV) (ko:∀ (r k m:Nat),k+r=71→r<m→Ans F8 (ffalI3 () k m (M+1)) falV):∀ (r k m:Nat),k+r=71→r<m→Ans F8 (ffalI2 () k m (M+1)) falV
 |0,k,m+1,hk,hm=>by
  have h:=ffal_step2 () k m M
  have e:k=71:=by omega
  subst e
  rw[show ile 71 ((71:Nat):Int)=true from rfl,Bool.not_true,cond_false] at h
  exact .stop (Z8_ok _) F8sy h ke
 | r + 1, k, m + 1, hk, hm => by
  have h:=ffal_step2 () k m M
  have e1:ile 71 (k:Int)=false:=ile_f (by omega)
  rw[wr_succ (show k<1048577 by omega),wr_in (n:=50+(k:Int)) (by omega) (by omega)] at h
  simp only[w400,e1,show ieq 169000000 100000000=false from rfl,ieq_self,fr_ok (i:=0) (show (0:Nat)≤20 by omega) (show k≤70 by omega),sn_ok (i:=0) (show (0:Nat)≤20 by omega) (show k≤70 by omega),Bool.not_false,cond_true,cond_false] at h
  generalize (bif frst (400+((0:Nat):Int)) (50+(k:Int)) 169000000 then false else snO (400+((0:Nat):Int)) (50+(k:Int)) 169000000)=b at h
  cases b with
  |false=>
   rw[show (false == false)=true from rfl,cond_true] at h
   exact .stop (Z8_ok _) F8sy h (fal2 M ke ko r (k+1) m (by omega) (by omega))
  |true=>
   rw[show (false == true)=false from rfl,cond_false] at h
   exact .stop (Z8_ok _) F8sy h (ko r (k+1) m (by omega) (by omega))
theorem fal8 (i:Nat) (hi:i≤20) (M:Nat) (ke:Ans F8 (ffalI5 () ((i+1:Nat):Int) M) falV):∀ (r k m:Nat),k+r=71→r<m→Ans F8 (ffalI8 () i k m (M+1)) falV
 |0,k,m+1,hk,hm=>by
  have h:=ffal_step8 () i k m M
  have e:k=71:=by omega
  subst e
  rw[show ile 71 ((71:Nat):Int)=true from rfl,Bool.not_true,cond_false,wr_succ (show i<1048577 by omega)] at h
  exact .stop (Z8_ok _) F8sy h ke
 | r + 1, k, m + 1, hk, hm => by
  have h:=ffal_step8 () i k m M
  have e1:ile 71 (k:Int)=false:=ile_f (by omega)
  rw[wr_succ (show k<1048577 by omega),wr_in (n:=50+(k:Int)) (by omega) (by omega)] at h
  simp only[wr_in (n:=400+(i:Int)) (by omega) (by omega),e1,show ieq 169000000 100000000=false from rfl,ieq_self,fr_ok (i:=i) hi (show k≤70 by omega),sn_ok (i:=i) hi (show k≤70 by omega),Bool.not_false,cond_true,cond_false] at h
  generalize (bif frst (400+((i:Nat):Int)) (50+(k:Int)) 169000000 then false else snO (400+((i:Nat):Int)) (50+(k:Int)) 169000000)=b at h
  cases b with
  |false=>
   rw[show (false == false)=true from rfl,cond_true] at h
   exact .stop (Z8_ok _) F8sy h (fal8 i hi M ke r (k+1) m (by omega) (by omega))
  |true=>
   rw[show (false == true)=false from rfl,cond_false] at h
   exact .stop (Z8_ok _) F8sy h (fal8 i hi M ke r (k+1) m (by omega) (by omega))
theorem fal7 (i:Nat) (hi:i≤20) (M:Nat) (ke:Ans F8 (ffalI5 () ((i+1:Nat):Int) M) falV):∀ (r k m:Nat),k+r=71→r<m→Ans F8 (ffalI7 () i k m (M+1)) falV
 |0,k,m+1,hk,hm=>by
  have h:=ffal_step7 () i k m M
  have e:k=71:=by omega
  subst e
  rw[show ile 71 ((71:Nat):Int)=true from rfl,Bool.not_true,cond_false,wr_succ (show i<1048577 by omega)] at h
  exact .stop (Z8_ok _) F8sy h ke
 | r + 1, k, m + 1, hk, hm => by
  have h:=ffal_step7 () i k m M
  have e1:ile 71 (k:Int)=false:=ile_f (by omega)
  rw[wr_succ (show k<1048577 by omega),wr_in (n:=50+(k:Int)) (by omega) (by omega)] at h
  simp only[wr_in (n:=400+(i:Int)) (by omega) (by omega),e1,show ieq 169000000 100000000=false from rfl,ieq_self,fr_ok (i:=i) hi (show k≤70 by omega),sn_ok (i:=i) hi (show k≤70 by omega),Bool.not_false,cond_true,cond_false] at h
  generalize (bif frst (400+((i:Nat):Int)) (50+(k:Int)) 169000000 then false else snO (400+((i:Nat):Int)) (50+(k:Int)) 169000000)=b at h
  cases b with
  |false=>
   rw[show (false == false)=true from rfl,cond_true] at h
   exact .stop (Z8_ok _) F8sy h (fal7 i hi M ke r (k+1) m (by omega) (by omega))
  |true=>
   rw[show (false == true)=false from rfl,cond_false] at h
   exact .stop (Z8_ok _) F8sy h (fal7 i hi M ke r (k+1) m (by omega) (by omega))
theorem fal6 (i:Nat) (hi:i≤20) (M:Nat) (ke:Ans F8 (ffalI4 () ((i+1:Nat):Int) M) falV) (ko:∀ (r k m:Nat),k+r=71→r<m→Ans F8 (ffalI8 () i k m (M+1)) falV):∀ (r k m:Nat),k+r=71→r<m→Ans F8 (ffalI6 () i k m (M+1)) falV
 |0,k,m+1,hk,hm=>by
  have h:=ffal_step6 () i k m M
  have e:k=71:=by omega
  subst e
  rw[show ile 71 ((71:Nat):Int)=true from rfl,Bool.not_true,cond_false,wr_succ (show i<1048577 by omega)] at h
  exact .stop (Z8_ok _) F8sy h ke
 | r + 1, k, m + 1, hk, hm => by
  have h:=ffal_step6 () i k m M
  have e1:ile 71 (k:Int)=false:=ile_f (by omega)
  rw[wr_succ (show k<1048577 by omega),wr_in (n:=50+(k:Int)) (by omega) (by omega)] at h
  simp only[wr_in (n:=400+(i:Int)) (by omega) (by omega),e1,show ieq 169000000 100000000=false from rfl,ieq_self,fr_ok (i:=i) hi (show k≤70 by omega),sn_ok (i:=i) hi (show k≤70 by omega),Bool.not_false,cond_true,cond_false] at h
  generalize (bif frst (400+((i:Nat):Int)) (50+(k:Int)) 169000000 then false else snO (400+((i:Nat):Int)) (50+(k:Int)) 169000000)=b at h
  cases b with
  |false=>
   rw[show (false == false)=true from rfl,cond_true] at h
   exact .stop (Z8_ok _) F8sy h (fal6 i hi M ke ko r (k+1) m (by omega) (by omega))
  |true=>
   rw[show (false == true)=false from rfl,cond_false] at h
   exact .stop (Z8_ok _) F8sy h (ko r (k+1) m (by omega) (by omega))
theorem fal_out:∀ (r i:Nat),i+r=21→1≤i→(∀ m,r<m→Ans F8 (ffalI4 () i m) falV)∧(∀ m,r<m→Ans F8 (ffalI5 () i m) falV)
 |0,i,hi,h1=>by
  have e:i=21:=by omega
  subst e
  constructor
  · intro m hm
    obtain⟨m,rfl⟩:∃ m',m=m'+1:=⟨m-1,by omega⟩
    have h:=ffal_step4 () ((21:Nat):Int) m
    rw[show ile 21 ((21:Nat):Int)=true from rfl,Bool.not_true,cond_false] at h
    exact .done (Z8_ok _) F8sy h rfl
  · intro m hm
    obtain⟨m,rfl⟩:∃ m',m=m'+1:=⟨m-1,by omega⟩
    have h:=ffal_step5 () ((21:Nat):Int) m
    rw[show ile 21 ((21:Nat):Int)=true from rfl,Bool.not_true,cond_false] at h
    exact .done (Z8_ok _) F8sy h rfl
 |r+1,i,hi,h1=>by
  obtain⟨k4,k5⟩:=fal_out r (i+1) (by omega) (by omega)
  constructor
  · intro m hm
    obtain⟨m,rfl⟩:∃ m',m=m'+1:=⟨m-1,by omega⟩
    have h:=ffal_step4 () (i:Int) m
    rw[show ile 21 (i:Int)=false from ile_f (by omega),Bool.not_false,cond_true] at h
    exact .stop (Z8_ok _) F8sy h (fal6 i (by omega) m (k4 m (by omega)) (fun r k m' a b=>fal8 i (by omega) m (k5 m (by omega)) r k m' a b) 71 0 1048575 (by omega) (by omega))
  · intro m hm
    obtain⟨m,rfl⟩:∃ m',m=m'+1:=⟨m-1,by omega⟩
    have h:=ffal_step5 () (i:Int) m
    rw[show ile 21 (i:Int)=false from ile_f (by omega),Bool.not_false,cond_true] at h
    exact .stop (Z8_ok _) F8sy h (fal7 i (by omega) m (k5 m (by omega)) 71 0 1048575 (by omega) (by omega))
theorem ffal_ans:Ans F8 (startC F8 22 [tSt.av S0,tNi.av N0,.vs tRe false [rB,rC]] 40) falV:=by
 obtain⟨k4,k5⟩:=fal_out 20 1 (by omega) (by omega)
 have h0:=ffal_step0 () 1048574
 have h1:=ffal_step1 () 1048574 1048574
 simp only[w400,w50,show ieq 169000000 100000000=false from rfl,ieq_self,fr_ok (i:=0) (k:=0) (by omega) (by omega),sn_ok (i:=0) (k:=0) (by omega) (by omega),cond_true,cond_false] at h1
 exact .stop (Z8_ok _) F8sy (ffal_start ()) (.stop (Z8_ok _) F8sy h0 (.stop (Z8_ok _) F8sy h1 (fal2 1048574 (k4 _ (by omega)) (fun r k m' a b=>fal3 1048574 (k5 _ (by omega)) r k m' a b) 70 1 1048574 (by omega) (by omega))))
end Go.Proofs.YtelbaokiepcilaaGreatDoor


set_option maxRecDepth 100000
namespace Go.Proofs.YtelbaokiepcilaaGreatDoor
open Go Go.Eng
noncomputable def LG:List Said:=[(41,con2 tP tP (fun l s=>lcO l.1 l.2.1 s.1) (fun l s=>.bool (snO l.1 l.2.1 s.1)))]
theorem LG_ok:∀ e∈LG,SaidG Tryz.prog F2.glob e:=
 saids_cons (SaidOK.g f2 xf2 nf2 tabs_ok.mix (fun _ _ h=>con2_spec (t:=tP) (u:=tP) (fun l s hc=>by
  rw[lcO_eq] at hc
  rw[snO_eq]
  exact lrea_call l s hc) h) rfl) saids_nil
noncomputable def FG:Env:=F6.say (under (xOf LG))
noncomputable def F11:Env:={ FG with iv:=some 101 }
theorem f11:EnvOK Tryz.prog F11:=by
 have h:EnvOK Tryz.prog FG:=f6.say _
 refine⟨fun t k ht=>?_,h.zero,h.fn,h.eqok,h.meth⟩
 obtain⟨h1,h2⟩:=h.ty t k ht
 refine⟨h1,?_⟩
 cases k<;>exact h2
theorem nf11:NameOK F11:=nf6.say (under (xOf LG))
theorem xf11:ExtOK Tryz.prog F11:=xf6.sayL (L:=LG) LG_ok
theorem F11sy:F11.sy=true:=rfl
noncomputable def Z11 (l:List Nat):Sy:={ (Z6 []).on LG l with pl:=false }
theorem Z11_ok (l:List Nat):(Z11 l).ok F11:=Sy.on_ok (E:=F6) (L:=LG) (hd:=l) (Z6_ok _)
noncomputable def ZP (l:List Nat):Sy:={ (Z6 []).on LG l with nf:=[3] }
theorem ZP_ok (l:List Nat):(ZP l).ok F11:=Sy.on_ok (E:=F6) (L:=LG) (hd:=l) (Z6_ok _)
noncomputable def ZQ (l:List Nat):Sy:=(ZP l).flat [22,23,24,28,29,30,31,32,33,34]
theorem ZQ_ok (l:List Nat):(ZQ l).ok F11:=ZP_ok l
end Go.Proofs.YtelbaokiepcilaaGreatDoor


set_option maxRecDepth 100000
namespace Go.Proofs.YtelbaokiepcilaaGreatDoor
open Go Go.Eng
noncomputable def fgrsQ0:Tmps:=(tmOf 33 [(0,(.yld 20)),(1,(pP 17 0)),(2,(pP 18 0)),(3,(pP 19 0)),(7,(.agg [(iI 400),(iI 420)])),(8,(iI 21)),(9,(iI 0))])
noncomputable def fgrsQ1:Tmps:=(tmOf 24 [(0,(.yld 15)),(1,(pP 12 0)),(2,(pP 13 0)),(3,(pP 16 0)),(7,(pP 11 0)),(8,(.bool false)),(9,(.fn 111 [] [(pP 17 0),(pP 18 0),(pP 19 0)]))])
noncomputable def fgrsQ2:Tmps:=(tmOf 13 [(0,.nils),(1,(.fn 57 [] [(pP 12 0),(pP 13 0)])),(2,(pP 14 0)),(4,.nils),(6,(.fn 57 [] [(pP 12 0),(pP 13 0)]))])
noncomputable def fgrsk0:AO:=(cF [(.vs tGr (false) (S0.1.2)),(iI 20),(iI 30),(iI 50),(iI 120)])
noncomputable def fgrsI0 (q:Int) (x64:Nat):Cfg:=⟨.ex (pcOf F11 111 [0,0,1]) ⟨(fgrsQ0),(hpOf 22 [(0,(fgrsk0)),(1,(cF [(iI 0),(iI 0),(iI 0),(iI 8),(iI 1)])),(2,(.cells true [(iI (q))])),(3,(cF [(.fn 56 [] [(pP 4 0),(pP 5 0),(pP 6 0)])])),(4,(cF [(iI 0)])),(5,(cF [(iI 60000)])),(6,(cF [(.csl [(iI (q))] 1)])),(7,(fgrsk0)),(8,(cF [(iI 0),(iI 0),(iI 0),(iI 8),(iI 1)])),(9,(fgrsk0)),(10,(cF [(iI 0),(iI 0),(iI 0),(iI 8),(iI 1)])),(11,(cF [(.vs tGr (false) (S0.1.2)),(iI 20),(iI 30),(iI 50),(iI 120),(iI 0),(iI 0),(iI 0),(iI 8),(iI 1),.nils])),(12,(cF [(pP 11 0)])),(13,(cF [(.bool false)])),(14,(cF [.nils])),(16,(cF [(.yld 15)])),(17,(cF [(iI 400),(iI 420)])),(18,(cF [(iI 50),(iI 120)])),(19,(cF [(.fn 40 [] [])])),(21,(cF [(iI 400),(iI 420)]))]),[],[⟨false,.normal⟩,⟨false,.normal⟩],33,false⟩,⟨36,[⟨20,24,37,(fgrsQ1),#[10],(pcOf F11 57 [0,0,1,1,0,1]),(pcOf F11 57 [1,0,1,1,0,1])⟩,⟨15,13,38,(fgrsQ2),#[7],(pcOf F11 66 [0,0,1,0,1]),(pcOf F11 66 [1,0,1,0,1])⟩]⟩,[(.lop (pcOf F11 111 [0,0,1]) 22 (fgrsQ0) x64),(.blk 0),(.cal [] (.rng (fgrsQ1) [] 24 false ⟨37,[⟨15,13,38,(fgrsQ2),#[7],(pcOf F11 66 [0,0,1,0,1]),(pcOf F11 66 [1,0,1,0,1])⟩]⟩)),(.blk 0),(.cal [] (.rng (fgrsQ2) [] 13 false ⟨38,[]⟩)),(.blk 0),(.seq (pcOf F11 66 [1,1])),(.cal [(.tmp 4)] (.op (pcOf F11 48 [0,1]) 2 (some 4) ((opsOf (pcOf F11 48 [0,1]).c).toList.drop 2) (tmOf 5 [(0,(.fn 57 [] [(pP 12 0),(pP 13 0)])),(2,.nils),(3,(.fn 57 [] [(pP 12 0),(pP 13 0)]))]) [] 5 false ⟨39,[]⟩)),(.seq (pcOf F11 48 [1,1])),(.cal [(.tmp 2)] (.op (pcOf F11 21 [0,1,1,1]) 3 (some 31) ((opsOf (pcOf F11 21 [0,1,1,1]).c).toList.drop 3) (tmOf 50 [(0,(.agg [(.vs tGr (false) (S0.1.2)),(iI 20),(iI 30),(iI 50),(iI 120)])),(1,(.agg [(iI 0),(iI 0),(iI 0),(iI 8),(iI 1)])),(2,(.vs tRe (true) ([]))),(3,(iI (q))),(4,(pP 0 0)),(5,(pP 1 0)),(8,(iI 0)),(9,(iI 0)),(10,(pP 11 0)),(11,(iI 0)),(15,(.tup [(pP 11 0),(iI 0)])),(16,(.agg [(.vs tGr (false) (S0.1.2)),(iI 20),(iI 30),(iI 50),(iI 120)])),(17,(.agg [(iI 0),(iI 0),(iI 0),(iI 8),(iI 1)])),(18,(.vs tRe (true) ([]))),(19,(iI (q))),(20,(.sl 2 0 (1) (1) 1)),(21,(.fn 56 [] [(pP 4 0),(pP 5 0),(pP 6 0)])),(22,(.sl 3 0 (1) (1) 1)),(23,(.tup [(pP 11 0),(iI 0)])),(24,(pP 11 0)),(25,(iI 0)),(26,(iI 0)),(27,(.bool false)),(29,(pP 11 0)),(30,(.fn 57 [] [(pP 12 0),(pP 13 0)]))]) [] 50 false ⟨40,[]⟩)),(.seq (pcOf F11 21 [1,1,1,1])),(.cal [(.tmp 8),(.tmp 9)] .top)]⟩
theorem fgrs_start (q:Int):adv F11 (Z11 [111]) 3000 (startC F11 21 [tSt.av S0,tNi.av N0,.vs tRe true [],.int .i64 q] 40)=(bif !ile 0 q then some (.done (.tup [(.int .i64 (0)),(.int .i64 (7))])) else (bif !ile q 60000 then some (.done (.tup [(.int .i64 (0)),(.int .i64 (7))])) else some (.stop (fgrsI0 q (1048575))))):=by kernel_rfl
end Go.Proofs.YtelbaokiepcilaaGreatDoor


set_option maxRecDepth 100000
namespace Go.Proofs.YtelbaokiepcilaaGreatDoor
open Go Go.Eng
noncomputable def fgraQ0:Tmps:=(tmOf 33 [(0,(.yld 20)),(1,(pP 17 0)),(2,(pP 18 0)),(3,(pP 19 0)),(5,(iI 0)),(7,(.agg [(iI 400),(iI 420)])),(8,(iI 21)),(9,(iI 0)),(10,(.bool true)),(11,(iI 0)),(12,(.agg [(iI 50),(iI 120)])),(13,(iI 71)),(14,(iI 0))])
noncomputable def fgraQ1:Tmps:=(tmOf 24 [(0,(.yld 15)),(1,(pP 12 0)),(2,(pP 13 0)),(3,(pP 16 0)),(7,(pP 11 0)),(8,(.bool false)),(9,(.fn 111 [] [(pP 17 0),(pP 18 0),(pP 19 0)]))])
noncomputable def fgraQ2:Tmps:=(tmOf 13 [(0,.nils),(1,(.fn 57 [] [(pP 12 0),(pP 13 0)])),(2,(pP 14 0)),(4,.nils),(6,(.fn 57 [] [(pP 12 0),(pP 13 0)]))])
noncomputable def fgraQ3:Tmps:=(tmOf 33 [(0,(.yld 20)),(1,(pP 17 0)),(2,(pP 18 0)),(3,(pP 19 0)),(7,(.agg [(iI 400),(iI 420)])),(8,(iI 21)),(9,(iI 0))])
noncomputable def fgraQ4 (q:Int):Tmps:=(tmOf 50 [(0,(.agg [(.vs tGr (false) (S0.1.2)),(iI 20),(iI 30),(iI 50),(iI 120)])),(1,(.agg [(iI 0),(iI 0),(iI 0),(iI 8),(iI 1)])),(2,(.vs tRe (true) ([]))),(3,(iI (q))),(4,(pP 0 0)),(5,(pP 1 0)),(8,(iI 0)),(9,(iI 0)),(10,(pP 11 0)),(11,(iI 0)),(15,(.tup [(pP 11 0),(iI 0)])),(16,(.agg [(.vs tGr (false) (S0.1.2)),(iI 20),(iI 30),(iI 50),(iI 120)])),(17,(.agg [(iI 0),(iI 0),(iI 0),(iI 8),(iI 1)])),(18,(.vs tRe (true) ([]))),(19,(iI (q))),(20,(.sl 2 0 (1) (1) 1)),(21,(.fn 56 [] [(pP 4 0),(pP 5 0),(pP 6 0)])),(22,(.sl 3 0 (1) (1) 1)),(23,(.tup [(pP 11 0),(iI 0)])),(24,(pP 11 0)),(25,(iI 0)),(26,(iI 0)),(27,(.bool false)),(29,(pP 11 0)),(30,(.fn 57 [] [(pP 12 0),(pP 13 0)]))])
noncomputable def fgrak7:PC:=(pcOf F11 111 [0,0,1,1,0,0,1,1,0,0,1])
noncomputable def fgrak0:AO:=(cF [(.vs tGr (false) (S0.1.2)),(iI 20),(iI 30),(iI 50),(iI 120)])
noncomputable def fgrak4:AO:=(cF [(iI 0),(iI 0),(iI 0),(iI 8),(iI 1)])
noncomputable def fgrak9:AO:=(cF [(.fn 56 [] [(pP 4 0),(pP 5 0),(pP 6 0)])])
noncomputable def fgrak5:AO:=(cF [(.vs tGr (false) (S0.1.2)),(iI 20),(iI 30),(iI 50),(iI 120),(iI 0),(iI 0),(iI 0),(iI 8),(iI 1),.nils])
noncomputable def fgrak6:HD:=⟨20,24,37,(fgraQ1),#[10],(pcOf F11 57 [0,0,1,1,0,1]),(pcOf F11 57 [1,0,1,1,0,1])⟩
noncomputable def fgrak2:HD:=⟨15,13,38,(fgraQ2),#[7],(pcOf F11 66 [0,0,1,0,1]),(pcOf F11 66 [1,0,1,0,1])⟩
noncomputable def fgrak11 (z0:Nat):Fm:=(.lop (pcOf F11 111 [0,0,1]) 22 (fgraQ3) z0)
noncomputable def fgrak8:Fm:=(.cal [] (.rng (fgraQ1) [] 24 false ⟨37,[(fgrak2)]⟩))
noncomputable def fgrak10:Fm:=(.cal [] (.rng (fgraQ2) [] 13 false ⟨38,[]⟩))
noncomputable def fgrak1:Fm:=(.cal [(.tmp 4)] (.op (pcOf F11 48 [0,1]) 2 (some 4) ((opsOf (pcOf F11 48 [0,1]).c).toList.drop 2) (tmOf 5 [(0,(.fn 57 [] [(pP 12 0),(pP 13 0)])),(2,.nils),(3,(.fn 57 [] [(pP 12 0),(pP 13 0)]))]) [] 5 false ⟨39,[]⟩))
noncomputable def fgrak3 (z0:Int):Fm:=(.cal [(.tmp 2)] (.op (pcOf F11 21 [0,1,1,1]) 3 (some 31) ((opsOf (pcOf F11 21 [0,1,1,1]).c).toList.drop 3) (fgraQ4 z0) [] 50 false ⟨40,[]⟩))
noncomputable def fgraI0 (q:Int) (x80:Nat):Cfg:=⟨.ex (fgrak7) ⟨(fgraQ0),(hpOf 23 [(0,(fgrak0)),(1,(fgrak4)),(2,(.cells true [(iI (q))])),(3,(fgrak9)),(4,(cF [(iI 0)])),(5,(cF [(iI 60000)])),(6,(cF [(.csl [(iI (q))] 1)])),(7,(fgrak0)),(8,(fgrak4)),(9,(fgrak0)),(10,(fgrak4)),(11,(fgrak5)),(12,(cF [(pP 11 0)])),(13,(cF [(.bool false)])),(14,(cF [.nils])),(16,(cF [(.yld 15)])),(17,(cF [(iI 400),(iI 420)])),(18,(cF [(iI 50),(iI 120)])),(19,(cF [(.fn 40 [] [])])),(21,(cF [(iI 400),(iI 420)])),(22,(cF [(iI 50),(iI 120)]))]),[],[⟨false,.normal⟩,⟨false,.normal⟩],33,false⟩,⟨36,[(fgrak6),(fgrak2)]⟩,[(.lop (fgrak7) 23 (fgraQ0) x80),(.blk 2),(.blk 1),(.seq (pcOf F11 111 [1,1,1,0,0,1])),(fgrak11 x80),(.blk 0),(fgrak8),(.blk 0),(fgrak10),(.blk 0),(.seq (pcOf F11 66 [1,1])),(fgrak1),(.seq (pcOf F11 48 [1,1])),(fgrak3 q),(.seq (pcOf F11 21 [1,1,1,1])),(.cal [(.tmp 8),(.tmp 9)] .top)]⟩
noncomputable def fgraI1 (q:Int) (x10:Int) (x60:Nat) (x70:List AV) (x83:Nat) (x88:Nat):Cfg:=⟨.ex (fgrak7) ⟨(tmOf 33 [(0,(.yld 20)),(1,(pP 17 0)),(2,(pP 18 0)),(3,(pP 19 0)),(5,(iI 0)),(7,(.agg [(iI 400),(iI 420)])),(8,(iI 21)),(9,(iI 0)),(10,(.bool true)),(11,(iI 0)),(12,(.agg [(iI 50),(iI 120)])),(13,(iI 71)),(14,(iI x10))]),(hpOf 24 [(0,(fgrak0)),(1,(fgrak4)),(2,(.cells true [(iI (q))])),(3,(fgrak9)),(4,(cF [(iI 0)])),(5,(cF [(iI 60000)])),(6,(cF [(.csl [(iI (q))] 1)])),(7,(fgrak0)),(8,(fgrak4)),(9,(fgrak0)),(10,(fgrak4)),(11,(fgrak5)),(12,(cF [(pP 11 0)])),(13,(cF [(.bool false)])),(14,(cF [(.sl 23 0 x60 x60 1)])),(16,(cF [(.yld 15)])),(17,(cF [(iI 400),(iI 420)])),(18,(cF [(iI 50),(iI 120)])),(19,(cF [(.fn 40 [] [])])),(21,(cF [(iI 400),(iI 420)])),(22,(cF [(iI 50),(iI 120)])),(23,(cF x70))]),[],[⟨false,.normal⟩,⟨false,.normal⟩],33,false⟩,⟨36,[(fgrak6),(fgrak2)]⟩,[(.lop (fgrak7) 23 (fgraQ0) x83),(.blk 2),(.blk 1),(.seq (pcOf F11 111 [1,1,1,0,0,1])),(fgrak11 x88),(.blk 0),(fgrak8),(.blk 0),(fgrak10),(.blk 0),(.seq (pcOf F11 66 [1,1])),(fgrak1),(.seq (pcOf F11 48 [1,1])),(fgrak3 q),(.seq (pcOf F11 21 [1,1,1,1])),(.cal [(.tmp 8),(.tmp 9)] .top)]⟩
noncomputable def fgraI2 (q:Int) (x3:Int) (x53:Nat) (x61:List AV) (x67:Nat):Cfg:=⟨.ex (pcOf F11 111 [0,0,1]) ⟨(tmOf 33 [(0,(.yld 20)),(1,(pP 17 0)),(2,(pP 18 0)),(3,(pP 19 0)),(7,(.agg [(iI 400),(iI 420)])),(8,(iI 21)),(9,(iI x3))]),(hpOf 23 [(0,(fgrak0)),(1,(fgrak4)),(2,(.cells true [(iI (q))])),(3,(fgrak9)),(4,(cF [(iI 0)])),(5,(cF [(iI 60000)])),(6,(cF [(.csl [(iI (q))] 1)])),(7,(fgrak0)),(8,(fgrak4)),(9,(fgrak0)),(10,(fgrak4)),(11,(fgrak5)),(12,(cF [(pP 11 0)])),(13,(cF [(.bool false)])),(14,(cF [(.sl 22 0 x53 x53 1)])),(16,(cF [(.yld 15)])),(17,(cF [(iI 400),(iI 420)])),(18,(cF [(iI 50),(iI 120)])),(19,(cF [(.fn 40 [] [])])),(21,(cF [(iI 400),(iI 420)])),(22,(cF x61))]),[],[⟨false,.normal⟩,⟨false,.normal⟩],33,false⟩,⟨36,[(fgrak6),(fgrak2)]⟩,[(fgrak11 x67),(.blk 0),(fgrak8),(.blk 0),(fgrak10),(.blk 0),(.seq (pcOf F11 66 [1,1])),(fgrak1),(.seq (pcOf F11 48 [1,1])),(fgrak3 q),(.seq (pcOf F11 21 [1,1,1,1])),(.cal [(.tmp 8),(.tmp 9)] .top)]⟩
noncomputable def fgraQ5 (y0:Int):Tmps:=(tmOf 33 [(0,(.yld 20)),(1,(pP 17 0)),(2,(pP 18 0)),(3,(pP 19 0)),(5,(iI y0)),(7,(.agg [(iI 400),(iI 420)])),(8,(iI 21)),(9,(iI y0)),(10,(.bool true)),(11,(iI y0)),(12,(.agg [(iI 50),(iI 120)])),(13,(iI 71)),(14,(iI 0))])
noncomputable def fgraI3 (q:Int) (x0:Int) (x60:Nat) (x68:List AV) (x83:Nat) (x88:Nat):Cfg:=⟨.ex (fgrak7) ⟨(fgraQ5 x0),(hpOf 24 [(0,(fgrak0)),(1,(fgrak4)),(2,(.cells true [(iI (q))])),(3,(fgrak9)),(4,(cF [(iI 0)])),(5,(cF [(iI 60000)])),(6,(cF [(.csl [(iI (q))] 1)])),(7,(fgrak0)),(8,(fgrak4)),(9,(fgrak0)),(10,(fgrak4)),(11,(fgrak5)),(12,(cF [(pP 11 0)])),(13,(cF [(.bool false)])),(14,(cF [(.sl 22 0 x60 x60 1)])),(16,(cF [(.yld 15)])),(17,(cF [(iI 400),(iI 420)])),(18,(cF [(iI 50),(iI 120)])),(19,(cF [(.fn 40 [] [])])),(21,(cF [(iI 400),(iI 420)])),(22,(cF x68)),(23,(cF [(iI 50),(iI 120)]))]),[],[⟨false,.normal⟩,⟨false,.normal⟩],33,false⟩,⟨36,[(fgrak6),(fgrak2)]⟩,[(.lop (fgrak7) 24 (fgraQ5 x0) x83),(.blk 2),(.blk 1),(.seq (pcOf F11 111 [1,1,1,0,0,1])),(fgrak11 x88),(.blk 0),(fgrak8),(.blk 0),(fgrak10),(.blk 0),(.seq (pcOf F11 66 [1,1])),(fgrak1),(.seq (pcOf F11 48 [1,1])),(fgrak3 q),(.seq (pcOf F11 21 [1,1,1,1])),(.cal [(.tmp 8),(.tmp 9)] .top)]⟩
noncomputable def fgraI4 (q:Int) (x0:Int) (x10:Int) (x60:Nat) (x70:List AV) (x83:Nat) (x88:Nat):Cfg:=⟨.ex (fgrak7) ⟨(tmOf 33 [(0,(.yld 20)),(1,(pP 17 0)),(2,(pP 18 0)),(3,(pP 19 0)),(5,(iI x0)),(7,(.agg [(iI 400),(iI 420)])),(8,(iI 21)),(9,(iI x0)),(10,(.bool true)),(11,(iI x0)),(12,(.agg [(iI 50),(iI 120)])),(13,(iI 71)),(14,(iI x10))]),(hpOf 25 [(0,(fgrak0)),(1,(fgrak4)),(2,(.cells true [(iI (q))])),(3,(fgrak9)),(4,(cF [(iI 0)])),(5,(cF [(iI 60000)])),(6,(cF [(.csl [(iI (q))] 1)])),(7,(fgrak0)),(8,(fgrak4)),(9,(fgrak0)),(10,(fgrak4)),(11,(fgrak5)),(12,(cF [(pP 11 0)])),(13,(cF [(.bool false)])),(14,(cF [(.sl 24 0 x60 x60 1)])),(16,(cF [(.yld 15)])),(17,(cF [(iI 400),(iI 420)])),(18,(cF [(iI 50),(iI 120)])),(19,(cF [(.fn 40 [] [])])),(21,(cF [(iI 400),(iI 420)])),(22,.gone),(23,(cF [(iI 50),(iI 120)])),(24,(cF x70))]),[],[⟨false,.normal⟩,⟨false,.normal⟩],33,false⟩,⟨36,[(fgrak6),(fgrak2)]⟩,[(.lop (fgrak7) 24 (fgraQ5 x0) x83),(.blk 2),(.blk 1),(.seq (pcOf F11 111 [1,1,1,0,0,1])),(fgrak11 x88),(.blk 0),(fgrak8),(.blk 0),(fgrak10),(.blk 0),(.seq (pcOf F11 66 [1,1])),(fgrak1),(.seq (pcOf F11 48 [1,1])),(fgrak3 q),(.seq (pcOf F11 21 [1,1,1,1])),(.cal [(.tmp 8),(.tmp 9)] .top)]⟩
theorem fgra_start (q:Int):adv F11 (ZQ [111,50]) 6000 (fgrsI0 q 1048575)=some (.stop (fgraI0 q (1048575))):=by kernel_rfl
theorem fgra_step0 (q:Int) (x80:Nat):adv F11 (ZQ [111,50]) 6000 (fgraI0 q (x80+1))=some (.stop (fgraI1 q (1) (1) ([AV.ifc 101 (AV.agg [AV.int IntKind.i64 (wr .i64 (400+0)),AV.int IntKind.i64 (wr .i64 (50+0))])]) (x80) (x80+1))):=by kernel_rfl
theorem fgra_step1 (q:Int) (x10:Int) (x60:Nat) (x70:List AV) (x83:Nat) (x88:Nat):adv F11 (ZQ [111,50]) 6000 (fgraI1 q x10 x60 x70 (x83+1) (x88+1))=(bif !ile 71 x10 then (bif (0+x60 * 1).beq x70.length then (bif x60.ble 1048576 then (bif plO (AO.cells false (x70++[AV.ifc 101 (AV.agg [AV.int IntKind.i64 (wr .i64 (400+0)),AV.int IntKind.i64 (wr .i64 (50+x10))])])) then some (.stop (fgraI1 q (wr .i64 (x10+1)) (x60+1) (x70++[AV.ifc 101 (AV.agg [AV.int IntKind.i64 (wr .i64 (400+0)),AV.int IntKind.i64 (wr .i64 (50+x10))])]) (x83) (x88+1))) else none) else none) else none) else (bif plO (AO.cells false x70) then some (.stop (fgraI2 q (1) (x60) (x70) (x88))) else none)):=by kernel_rfl
theorem fgra_step2 (q:Int) (x3:Int) (x53:Nat) (x61:List AV) (x67:Nat):adv F11 (ZQ [111,50]) 6000 (fgraI2 q x3 x53 x61 (x67+1))=(bif !ile 21 x3 then some (.stop (fgraI3 q (x3) (x53) (x61) (1048575) (x67+1))) else (bif ieq (↑x53) 0 then some (.done (.tup [(.int .i64 (0)),(.int .i64 (9))])) else none)):=by kernel_rfl
theorem fgra_step3 (q:Int) (x0:Int) (x60:Nat) (x68:List AV) (x83:Nat) (x88:Nat):adv F11 (ZQ [111,50]) 6000 (fgraI3 q x0 x60 x68 (x83+1) (x88+1))=(bif (0+x60 * 1).beq x68.length then (bif x60.ble 1048576 then (bif plO (AO.cells false (x68++[AV.ifc 101 (AV.agg [AV.int IntKind.i64 (wr .i64 (400+x0)),AV.int IntKind.i64 (wr .i64 (50+0))])])) then some (.stop (fgraI4 q (x0) (1) (x60+1) (x68++[AV.ifc 101 (AV.agg [AV.int IntKind.i64 (wr .i64 (400+x0)),AV.int IntKind.i64 (wr .i64 (50+0))])]) (x83) (x88+1))) else none) else none) else none):=by kernel_rfl
theorem fgra_step4 (q:Int) (x0:Int) (x10:Int) (x60:Nat) (x70:List AV) (x83:Nat) (x88:Nat):adv F11 (ZQ [111,50]) 6000 (fgraI4 q x0 x10 x60 x70 (x83+1) (x88+1))=(bif !ile 71 x10 then (bif (0+x60 * 1).beq x70.length then (bif x60.ble 1048576 then (bif plO (AO.cells false (x70++[AV.ifc 101 (AV.agg [AV.int IntKind.i64 (wr .i64 (400+x0)),AV.int IntKind.i64 (wr .i64 (50+x10))])])) then some (.stop (fgraI4 q (x0) (wr .i64 (x10+1)) (x60+1) (x70++[AV.ifc 101 (AV.agg [AV.int IntKind.i64 (wr .i64 (400+x0)),AV.int IntKind.i64 (wr .i64 (50+x10))])]) (x83) (x88+1))) else none) else none) else none) else (bif plO (AO.cells false x70) then some (.stop (fgraI2 q (wr .i64 (x0+1)) (x60) (x70) (x88))) else none)):=by kernel_rfl
noncomputable def fgrbk4:AO:=(cF [(.vs tGr (false) (S0.1.2)),(iI 20),(iI 30),(iI 50),(iI 120)])
noncomputable def fgrbQ0 (q:Int) (n:Nat) (L:List AV):Hp:=(hpOf 27 [(0,(fgrbk4)),(1,(cF [(iI 0),(iI 0),(iI 0),(iI 8),(iI 1)])),(2,(.cells true [(iI (q))])),(3,(cF [(.fn 56 [] [(pP 4 0),(pP 5 0),(pP 6 0)])])),(4,(cF [(iI 0)])),(5,(cF [(iI 60000)])),(6,(cF [(.csl [(iI (q))] 1)])),(7,(fgrbk4)),(8,(cF [(iI 0),(iI 0),(iI 0),(iI 8),(iI 1)])),(9,(fgrbk4)),(10,(cF [(iI 0),(iI 0),(iI 0),(iI 8),(iI 1)])),(11,(cF [(.vs tGr (false) (S0.1.2)),(iI 20),(iI 30),(iI 50),(iI 120),(iI 0),(iI 0),(iI 0),(iI 8),(iI 1),.nils])),(12,(cF [(pP 11 0)])),(13,(cF [(.bool false)])),(14,(cF [(.sl 22 0 (n) (n) 1)])),(16,(cF [(.yld 15)])),(17,(cF [(iI 400),(iI 420)])),(18,(cF [(iI 50),(iI 120)])),(19,(cF [(.fn 40 [] [])])),(21,(cF [(iI 400),(iI 420)])),(22,(cF (L))),(23,(cF [(pP 11 0)])),(24,(cF [(iI 1),(iI 0)])),(25,(cF [(iI (wr .i64 (q * q))),(iI 0)])),(26,(cF [(iI (wr .i64 (q * q))),(iI 0)]))])
noncomputable def fgrbk0:AV:=(.agg [(.vs tGr (false) (S0.1.2)),(iI 20),(iI 30),(iI 50),(iI 120)])
noncomputable def fgrbk1:AV:=(.agg [(iI 0),(iI 0),(iI 0),(iI 8),(iI 1)])
noncomputable def fgrbQ1 (q:Int) (n:Nat):Tmps:=(tmOf 50 [(0,(fgrbk0)),(1,(fgrbk1)),(2,(.vs tRe (true) ([]))),(3,(iI (q))),(4,(pP 0 0)),(5,(pP 1 0)),(8,(iI 0)),(9,(iI 0)),(10,(pP 11 0)),(11,(iI 0)),(12,(.sl 22 0 (n) (n) 1)),(15,(.tup [(pP 11 0),(iI 0)])),(16,(fgrbk0)),(17,(fgrbk1)),(18,(.vs tRe (true) ([]))),(19,(iI (q))),(20,(.sl 2 0 (1) (1) 1)),(21,(.fn 56 [] [(pP 4 0),(pP 5 0),(pP 6 0)])),(22,(.sl 3 0 (1) (1) 1)),(23,(.tup [(pP 11 0),(iI 0)])),(24,(pP 11 0)),(25,(iI 0)),(26,(iI 0)),(27,(.bool false)),(29,(pP 11 0)),(30,(.fn 57 [] [(pP 12 0),(pP 13 0)])),(31,(.sl 22 0 (n) (n) 1)),(32,(.sl 22 0 (n) (n) 1)),(33,(iI (Int.ofNat n))),(34,(.bool false)),(35,(pP 11 0)),(36,(.sl 24 0 (2) (2) 1)),(37,(iI 2)),(38,(iI 0))])
noncomputable def fgrbk2 (z0:Int):AV:=(.agg [(iI (wr .i64 (z0 * z0))),(iI 0)])
noncomputable def fgrbk3:PC:=(pcOf F11 21 [0,1,0,0,1,1,0,0,1,0,1,1,1,1,1])
noncomputable def fgrbI0 (q:Int) (n:Nat) (L:List AV) (m:Nat) (x9:Int) (x84:Nat) (x198:Nat):Cfg:=⟨.ex (pcOf F11 50 [0,0,1,0,1]) ⟨(tmOf 49 [(0,(pP 11 0)),(1,(iI 1)),(2,(fgrbk2 q)),(3,(.sl 22 0 (n) (n) 1)),(6,(pP 26 0)),(8,(.bool false)),(13,(.sl 22 0 (n) (n) 1)),(14,(iI (Int.ofNat n))),(15,(iI x9))]),(fgrbQ0 q n L),[],[],49,false⟩,⟨39,[]⟩,[(.lop (pcOf F11 50 [0,0,1,0,1]) 27 (tmOf 49 [(0,(pP 11 0)),(1,(iI 1)),(2,(fgrbk2 q)),(3,(.sl 22 0 (n) (n) 1)),(6,(pP 26 0)),(8,(.bool false)),(13,(.sl 22 0 (n) (n) 1)),(14,(iI (Int.ofNat n))),(15,(iI 0))]) x84),(.blk 0),(.seq (pcOf F11 50 [1,1])),(.cal [(.tmp 8)] (.op (fgrbk3) 6 (some 47) ((opsOf (fgrbk3).c).toList.drop 6) (tmOf 50 [(0,(fgrbk0)),(1,(fgrbk1)),(2,(.vs tRe (true) ([]))),(3,(iI (q))),(4,(pP 0 0)),(5,(pP 1 0)),(8,(iI 0)),(9,(iI 0)),(10,(pP 11 0)),(11,(iI 0)),(12,(.sl 22 0 (n) (n) 1)),(14,(iI 1)),(15,(.tup [(pP 11 0),(iI 0)])),(16,(fgrbk0)),(17,(fgrbk1)),(18,(.vs tRe (true) ([]))),(19,(iI (q))),(20,(.sl 2 0 (1) (1) 1)),(21,(.fn 56 [] [(pP 4 0),(pP 5 0),(pP 6 0)])),(22,(.sl 3 0 (1) (1) 1)),(23,(.tup [(pP 11 0),(iI 0)])),(24,(pP 11 0)),(25,(iI 0)),(26,(iI 0)),(27,(.bool false)),(29,(pP 11 0)),(30,(.fn 57 [] [(pP 12 0),(pP 13 0)])),(31,(.sl 22 0 (n) (n) 1)),(32,(.sl 22 0 (n) (n) 1)),(33,(iI (Int.ofNat n))),(34,(.bool false)),(35,(pP 11 0)),(36,(.sl 24 0 (2) (2) 1)),(37,(iI 2)),(38,(iI 0)),(39,(.bool true)),(40,(pP 24 0)),(41,(iI 1)),(42,(pP 11 0)),(43,(iI 1)),(44,(iI (q))),(45,(fgrbk2 q)),(46,(.sl 22 0 (n) (n) 1))]) [] 50 false ⟨40,[]⟩)),(.seq (pcOf F11 21 [1,1,0,0,1,1,0,0,1,0,1,1,1,1,1])),(.blk 1),(.seq (pcOf F11 21 [1,1,1,0,0,1,0,1,1,1,1,1])),(.lop (pcOf F11 21 [0,0,1,0,1,1,1,1,1]) 25 (fgrbQ1 q n) x198),(.blk 0),(.seq (pcOf F11 21 [1,1,1,1,1,1])),(.cal [(.tmp 8),(.tmp 9)] .top)]⟩
noncomputable def fgrbI1 (q:Int) (n:Nat) (L:List AV) (m:Nat) (x9:Int) (x84:Nat) (x198:Nat):Cfg:=⟨.ex (pcOf F11 50 [0,0,1,0,1]) ⟨(tmOf 49 [(0,(pP 11 0)),(1,(iI 0)),(2,(fgrbk2 q)),(3,(.sl 22 0 (n) (n) 1)),(6,(pP 26 0)),(8,(.bool false)),(13,(.sl 22 0 (n) (n) 1)),(14,(iI (Int.ofNat n))),(15,(iI x9))]),(fgrbQ0 q n L),[],[],49,false⟩,⟨39,[]⟩,[(.lop (pcOf F11 50 [0,0,1,0,1]) 27 (tmOf 49 [(0,(pP 11 0)),(1,(iI 0)),(2,(fgrbk2 q)),(3,(.sl 22 0 (n) (n) 1)),(6,(pP 26 0)),(8,(.bool false)),(13,(.sl 22 0 (n) (n) 1)),(14,(iI (Int.ofNat n))),(15,(iI 0))]) x84),(.blk 0),(.seq (pcOf F11 50 [1,1])),(.cal [(.tmp 8)] (.op (fgrbk3) 6 (some 47) ((opsOf (fgrbk3).c).toList.drop 6) (tmOf 50 [(0,(fgrbk0)),(1,(fgrbk1)),(2,(.vs tRe (true) ([]))),(3,(iI (q))),(4,(pP 0 0)),(5,(pP 1 0)),(8,(iI 0)),(9,(iI 0)),(10,(pP 11 0)),(11,(iI 0)),(12,(.sl 22 0 (n) (n) 1)),(14,(iI 0)),(15,(.tup [(pP 11 0),(iI 0)])),(16,(fgrbk0)),(17,(fgrbk1)),(18,(.vs tRe (true) ([]))),(19,(iI (q))),(20,(.sl 2 0 (1) (1) 1)),(21,(.fn 56 [] [(pP 4 0),(pP 5 0),(pP 6 0)])),(22,(.sl 3 0 (1) (1) 1)),(23,(.tup [(pP 11 0),(iI 0)])),(24,(pP 11 0)),(25,(iI 0)),(26,(iI 0)),(27,(.bool false)),(29,(pP 11 0)),(30,(.fn 57 [] [(pP 12 0),(pP 13 0)])),(31,(.sl 22 0 (n) (n) 1)),(32,(.sl 22 0 (n) (n) 1)),(33,(iI (Int.ofNat n))),(34,(.bool false)),(35,(pP 11 0)),(36,(.sl 24 0 (2) (2) 1)),(37,(iI 2)),(38,(iI 1)),(39,(.bool true)),(40,(pP 24 1)),(41,(iI 0)),(42,(pP 11 0)),(43,(iI 0)),(44,(iI (q))),(45,(fgrbk2 q)),(46,(.sl 22 0 (n) (n) 1))]) [] 50 false ⟨40,[]⟩)),(.seq (pcOf F11 21 [1,1,0,0,1,1,0,0,1,0,1,1,1,1,1])),(.blk 1),(.seq (pcOf F11 21 [1,1,1,0,0,1,0,1,1,1,1,1])),(.lop (pcOf F11 21 [0,0,1,0,1,1,1,1,1]) 25 (fgrbQ1 q n) x198),(.blk 0),(.seq (pcOf F11 21 [1,1,1,1,1,1])),(.cal [(.tmp 8),(.tmp 9)] .top)]⟩
theorem fgrb_start (q:Int) (n:Nat) (L:List AV) (m:Nat):adv F11 (ZP [50]) 20000 (fgraI2 q 21 n L (m+1))=(bif ieq (↑n) 0 then some (.done (.tup [(.int .i64 (0)),(.int .i64 (9))])) else (bif plO (AO.cells false L) then (bif plO (AO.cells false L) then (bif plO (AO.cells false L) then (bif plO (AO.cells false L) then some (.stop (fgrbI0 q n L m (0) (1048575) (1048575))) else none) else none) else none) else none)):=by kernel_rfl
theorem fgrb_step0 (q:Int) (n:Nat) (L:List AV) (m:Nat) (x9:Int) (x84:Nat) (x198:Nat):adv F11 (ZP [50]) 20000 (fgrbI0 q n L m x9 (x84+1) (x198+1))=(bif !ile (Int.ofNat n) x9 then (bif inB x9 n then (bif (0+x9.toNat * 1+1).ble L.length&&isI 101 [AV.int IntKind.i64 0,AV.int IntKind.i64 0] (L.getD (0+x9.toNat * 1) AV.nili) then (bif lcO 100 (toI ((payI (L.getD (0+x9.toNat * 1) AV.nili)).getD (0+1) AV.nili)) (wr .i64 (q * q)) then (bif !snO 100 (toI ((payI (L.getD (0+x9.toNat * 1) AV.nili)).getD (0+1) AV.nili)) (wr .i64 (q * q)) then (bif plO (AO.cells false L) then some (.stop (fgrbI1 q n L m (0) (1048575) (x198))) else none) else (bif plO (AO.cells false L) then some (.stop (fgrbI0 q n L m (wr .i64 (x9+1)) (x84) (x198+1))) else none)) else none) else none) else none) else some (.done (.tup [(.int .i64 (1)),(.int .i64 (0))]))):=by kernel_rfl
theorem fgrb_step1 (q:Int) (n:Nat) (L:List AV) (m:Nat) (x9:Int) (x84:Nat) (x198:Nat):adv F11 (ZP [50]) 20000 (fgrbI1 q n L m x9 (x84+1) (x198+1))=(bif !ile (Int.ofNat n) x9 then (bif inB x9 n then (bif (0+x9.toNat * 1+1).ble L.length&&isI 101 [AV.int IntKind.i64 0,AV.int IntKind.i64 0] (L.getD (0+x9.toNat * 1) AV.nili) then (bif lcO (toI ((payI (L.getD (0+x9.toNat * 1) AV.nili)).getD 0 AV.nili)) (toI ((payI (L.getD (0+x9.toNat * 1) AV.nili)).getD (0+1) AV.nili)) (wr .i64 (q * q)) then (bif !snO (toI ((payI (L.getD (0+x9.toNat * 1) AV.nili)).getD 0 AV.nili)) (toI ((payI (L.getD (0+x9.toNat * 1) AV.nili)).getD (0+1) AV.nili)) (wr .i64 (q * q)) then (bif plO (AO.cells false L) then some (.done (.tup [(.int .i64 (0)),(.int .i64 (9))])) else none) else (bif plO (AO.cells false L) then some (.stop (fgrbI1 q n L m (wr .i64 (x9+1)) (x84) (x198+1))) else none)) else none) else none) else none) else some (.done (.tup [(.int .i64 (0)),(.int .i64 (0))]))):=by kernel_rfl
noncomputable def sgC (c k:Int):AV:=.ifc 101 (.agg [.int .i64 c,.int .i64 k])
theorem plain_app {c k:Int}:∀ {L:List AV},plainL L=true→plainL (L++[sgC c k])=true
 |[],_=>rfl
 | v :: l, h => by
  cases v<;>first|(cases h;done)|skip
  case ifc t w=>
   cases w<;>first|(cases h;done)|skip
   simp only[plainL,Bool.and_eq_true] at h
   simp only[List.cons_append,plainL,Bool.and_eq_true]
   exact⟨h.1,plain_app h.2⟩
  all_goals exact plain_app (L:=l) h
structure Inv (L:List AV):Prop where
 pl:plainL L=true
 hd:∃ t,L=sgC 400 50::t
 sg:∀ x∈L,∃ i k:Nat,(i≤20∧k≤70)∧x=sgC (400+(i:Int)) (50+(k:Int))
theorem inv_app {L:List AV} (h:Inv L) {i k:Nat} (hi:i≤20) (hk:k≤70):Inv (L++[sgC (400+(i:Int)) (50+(k:Int))]):=by
 obtain⟨t,ht⟩:=h.hd
 refine⟨plain_app h.pl,⟨t++[sgC (400+(i:Int)) (50+(k:Int))],by rw[ht];rfl⟩,fun x hx=>?_⟩
 rcases List.mem_append.1 hx with hx|hx
 · exact h.sg x hx
 · rw [List.mem_singleton] at hx
   exact⟨i,k,⟨hi,hk⟩,hx⟩
theorem inv_one:Inv [sgC 400 50]:=⟨rfl,⟨[],rfl⟩,fun x hx=>by
 rw[List.mem_singleton] at hx
 exact⟨0,0,⟨by omega,by omega⟩,hx⟩⟩
theorem b1L (L:List AV):(0+L.length * 1).beq L.length=true:=by rw[Nat.zero_add,Nat.mul_one];exact Nat.beq_refl _
theorem g400:wr .i64 (400+0)=400+((0:Nat):Int):=rfl
theorem g50:wr .i64 (50+0)=50+((0:Nat):Int):=rfl
theorem len_app (L:List AV) (x:AV):L.length+1=(L++[x]).length:=by rw[List.length_append];rfl
theorem col1 {v:AV} (q:Int) (M:Nat) (K:∀ L,Inv L→L.length≤71→Ans F11 (fgraI2 q ((1:Nat):Int) L.length L M) v):∀ (r k m:Nat) (L:List AV),k+r=71→r<m→Inv L→L.length≤k→Ans F11 (fgraI1 q k L.length L m (M+1)) v
 |0,k,m+1,L,hk,hm,hL,hl=>by
  have h:=fgra_step1 q k L.length L m M
  have e:k=71:=by omega
  subst e
  rw[show ile 71 ((71:Nat):Int)=true from rfl,Bool.not_true,cond_false,show plO (AO.cells false L)=true from hL.pl,cond_true] at h
  exact .stop (ZQ_ok _) F11sy h (K L hL hl)
 |r+1,k,m+1,L,hk,hm,hL,hl=>by
  have h:=fgra_step1 q k L.length L m M
  have b2:Nat.ble L.length 1048576=true:=Nat.ble_eq_true_of_le (by omega)
  have hA:=inv_app hL (i:=0) (k:=k) (by omega) (by omega)
  rw[show ile 71 (k:Int)=false from ile_f (by omega),Bool.not_false,cond_true,b1L,b2,cond_true,cond_true,g400,wr_in (n:=50+(k:Int)) (by omega) (by omega),wr_succ (show k<1048577 by omega)] at h
  rw[show plO (AO.cells false (L++[AV.ifc 101 (AV.agg [AV.int IntKind.i64 (400+((0:Nat):Int)),AV.int IntKind.i64 (50+(k:Int))])]))=true from hA.pl,cond_true] at h
  have ih:=col1 q M K r (k+1) m _ (by omega) (by omega) hA (by rw[List.length_append];simp;omega)
  rw[← len_app] at ih
  exact .stop (ZQ_ok _) F11sy h ih
theorem col4 {v:AV} (q:Int) (i:Nat) (hi:i≤20) (M:Nat) (K:∀ L,Inv L→L.length≤71 * (i+1)→Ans F11 (fgraI2 q ((i+1:Nat):Int) L.length L M) v):∀ (r k m:Nat) (L:List AV),k+r=71→r<m→Inv L→L.length≤71 * i+k→Ans F11 (fgraI4 q i k L.length L m (M+1)) v
 |0,k,m+1,L,hk,hm,hL,hl=>by
  have h:=fgra_step4 q i k L.length L m M
  have e:k=71:=by omega
  subst e
  rw[show ile 71 ((71:Nat):Int)=true from rfl,Bool.not_true,cond_false,show plO (AO.cells false L)=true from hL.pl,cond_true,wr_succ (show i<1048577 by omega)] at h
  exact .stop (ZQ_ok _) F11sy h (K L hL (by omega))
 |r+1,k,m+1,L,hk,hm,hL,hl=>by
  have h:=fgra_step4 q i k L.length L m M
  have b2:Nat.ble L.length 1048576=true:=Nat.ble_eq_true_of_le (by omega)
  have hA:=inv_app hL (i:=i) (k:=k) (by omega) (by omega)
  rw[show ile 71 (k:Int)=false from ile_f (by omega),Bool.not_false,cond_true,b1L,b2,cond_true,cond_true,wr_in (n:=400+(i:Int)) (by omega) (by omega),wr_in (n:=50+(k:Int)) (by omega) (by omega),wr_succ (show k<1048577 by omega)] at h
  rw[show plO (AO.cells false (L++[AV.ifc 101 (AV.agg [AV.int IntKind.i64 (400+(i:Int)),AV.int IntKind.i64 (50+(k:Int))])]))=true from hA.pl,cond_true] at h
  have ih:=col4 q i hi M K r (k+1) m _ (by omega) (by omega) hA (by rw[List.length_append];simp;omega)
  rw[← len_app] at ih
  exact .stop (ZQ_ok _) F11sy h ih
theorem col_out {v:AV} (q:Int) (K:∀ L m,Inv L→L.length≤1491→Ans F11 (fgraI2 q ((21:Nat):Int) L.length L (m+1)) v):∀ (r i m:Nat) (L:List AV),i+r=21→r<m→Inv L→L.length≤71 * i→Ans F11 (fgraI2 q i L.length L m) v
 |0,i,m+1,L,hi,hm,hL,hl=>by
  have e:i=21:=by omega
  subst e
  exact K L m hL hl
 |r+1,i,m+1,L,hi,hm,hL,hl=>by
  have h:=fgra_step2 q i L.length L m
  rw[show ile 21 (i:Int)=false from ile_f (by omega),Bool.not_false,cond_true] at h
  have h3:=fgra_step3 q i L.length L 1048574 m
  have b2:Nat.ble L.length 1048576=true:=Nat.ble_eq_true_of_le (by omega)
  have hA:=inv_app hL (i:=i) (k:=0) (by omega) (by omega)
  rw[b1L,b2,cond_true,cond_true,wr_in (n:=400+(i:Int)) (by omega) (by omega),g50] at h3
  rw[show plO (AO.cells false (L++[AV.ifc 101 (AV.agg [AV.int IntKind.i64 (400+(i:Int)),AV.int IntKind.i64 (50+((0:Nat):Int))])]))=true from hA.pl,cond_true] at h3
  have k4:=col4 q i (by omega) m (fun L' hL' hl'=>col_out q K r (i+1) m L' (by omega) (by omega) hL' hl') 70 1 1048574 _ (by omega) (by omega) hA (by rw[List.length_append];simp;omega)
  rw[← len_app] at k4
  exact .stop (ZQ_ok _) F11sy h (.stop (ZQ_ok _) F11sy h3 k4)
theorem gra_col {v:AV} (q:Int) (h0:0≤q) (h1:q≤60000) (K:∀ L m,Inv L→L.length≤1491→Ans F11 (fgraI2 q ((21:Nat):Int) L.length L (m+1)) v):Ans F11 (startC F11 21 [tSt.av S0,tNi.av N0,.vs tRe true [],.int .i64 q] 40) v:=by
 have h:=fgrs_start q
 rw[ile_t h0,ile_t h1,Bool.not_true,cond_false,cond_false] at h
 have ha:=fgra_step0 q 1048574
 have k1:=col1 q 1048574 (fun L hL hl=>col_out q K 20 1 1048574 L (by omega) (by omega) hL (by omega)) 70 1 1048574 [sgC 400 50] (by omega) (by omega) inv_one (by simp)
 exact .stop (Z11_ok _) F11sy h (.stop (ZQ_ok _) F11sy (fgra_start q) (.stop (ZQ_ok _) F11sy ha k1))
theorem inv_pos {L:List AV} (h:Inv L):0<L.length:=by obtain⟨t,rfl⟩:=h.hd;simp
theorem isI_sg (c k:Int):isI 101 [AV.int IntKind.i64 0,AV.int IntKind.i64 0] (sgC c k)=true:=rfl
theorem sn7_all:((List.range 71).all fun k=>seenF 100 (50+(k:Int)) 49000000)=true:=by kernel_rfl
theorem lc1 {k:Nat} {q:Int} (hk:k≤70) (h1:0≤q) (h2:q≤7200000000):lcB 100 (50+(k:Int)) q=true:=lcB_iff.2 ⟨⟨by omega,by omega⟩,⟨by omega,by omega⟩,h1,h2⟩
theorem gra7_ans (L:List AV) (hL:Inv L) (hl:L.length≤1491) (m0:Nat):∀ (r j m M:Nat),j+r=L.length→r<m→Ans F11 (fgrbI0 7000 L.length L m0 j m (M+1)) (.tup [.int .i64 1,.int .i64 0])
 |0,j,m+1,M,hj,hm=>by
  have h:=fgrb_step0 7000 L.length L m0 j m M
  simp only[Int.ofNat_eq_natCast,ile_ge (show L.length≤j by omega),Bool.not_true,cond_false] at h
  exact .done (ZP_ok _) F11sy h rfl
 | r + 1, j, m + 1, M, hj, hm => by
  have h:=fgrb_step0 7000 L.length L m0 j m M
  have hlt:j<L.length:=by omega
  obtain⟨i,k,⟨hi,hk⟩,hx⟩:=hL.sg L[j] (List.getElem_mem hlt)
  have e1:L.getD (0+(j:Int).toNat * 1) AV.nili=sgC (400+(i:Int)) (50+(k:Int)):=by
   rw[← hx];simp[hlt]
  have e2:Nat.ble (0+(j:Int).toNat * 1+1) L.length=true:=Nat.ble_eq_true_of_le (by simp;omega)
  have e3:toI ((payI (sgC (400+(i:Int)) (50+(k:Int)))).getD (0+1) AV.nili)=50+(k:Int):=rfl
  have s1:seenF 100 (50+(k:Int)) 49000000=true:=List.all_eq_true.1 sn7_all k (List.mem_range.2 (by omega))
  have l1:=lc1 (q:=49000000) hk (by decide) (by decide)
  simp only[Int.ofNat_eq_natCast,ile_lt hlt,inB_at hlt,e1,e2,isI_sg,e3,show wr .i64 (7000 * 7000)=49000000 from rfl,lcO_eq,snO_eq,l1,s1,show plO (AO.cells false L)=true from hL.pl,wr_succ (show j<1048577 by omega),Bool.and_self,Bool.not_false,Bool.not_true,cond_true,cond_false] at h
  exact .stop (ZP_ok _) F11sy h (gra7_ans L hL hl m0 r (j+1) m M (by omega) (by omega))
theorem grb_go {q:Int} {L:List AV} (hL:Inv L) (m:Nat):adv F11 (ZP [50]) 20000 (fgraI2 q 21 L.length L (m+1))=some (.stop (fgrbI0 q L.length L m 0 1048575 1048575)):=by
 have h:=fgrb_start q L.length L m
 rw[show ieq (L.length:Int) 0=false by rw[ieq_iff];exact decide_eq_false (by have:=inv_pos hL;omega),cond_false,show plO (AO.cells false L)=true from hL.pl] at h
 exact h
theorem gra7:Ans F11 (startC F11 21 [tSt.av S0,tNi.av N0,.vs tRe true [],.int .i64 7000] 40) (.tup [.int .i64 1,.int .i64 0]):=
 gra_col 7000 (by decide) (by decide) (fun L m hL hl=>.stop (ZP_ok _) F11sy (grb_go hL m) (gra7_ans L hL hl m L.length 0 1048575 1048574 (by omega) (by omega)))
theorem sn1a:seenF 100 50 100020001=false:=by kernel_rfl
theorem sn1b:seenF 400 50 100020001=false:=by kernel_rfl
theorem gra1:Ans F11 (startC F11 21 [tSt.av S0,tNi.av N0,.vs tRe true [],.int .i64 10001] 40) (.tup [.int .i64 0,.int .i64 9]):=
 gra_col 10001 (by decide) (by decide) (fun L m hL hl=>by
  have hp:=inv_pos hL
  have h0:=fgrb_step0 10001 L.length L m ((0:Nat):Int) 1048574 1048574
  have h1:=fgrb_step1 10001 L.length L m ((0:Nat):Int) 1048574 1048573
  have e1:L.getD (0+((0:Nat):Int).toNat * 1) AV.nili=sgC 400 50:=by obtain⟨t,rfl⟩:=hL.hd;rfl
  have e2:Nat.ble (0+((0:Nat):Int).toNat * 1+1) L.length=true:=Nat.ble_eq_true_of_le (by simp;omega)
  have e3:toI ((payI (sgC 400 50)).getD (0+1) AV.nili)=50:=rfl
  have e4:toI ((payI (sgC 400 50)).getD 0 AV.nili)=400:=rfl
  have l1:lcB 100 50 100020001=true:=by kernel_rfl
  have l2:lcB 400 50 100020001=true:=by kernel_rfl
  simp only[Int.ofNat_eq_natCast,ile_lt hp,inB_at hp,e1,e2,isI_sg,e3,e4,show wr .i64 (10001 * 10001)=100020001 from rfl,lcO_eq,snO_eq,l1,l2,sn1a,sn1b,show plO (AO.cells false L)=true from hL.pl,Bool.and_self,Bool.not_false,cond_true] at h0 h1
  exact .stop (ZP_ok _) F11sy (grb_go hL m) (.stop (ZP_ok _) F11sy h0 (.done (ZP_ok _) F11sy h1 rfl)))
end Go.Proofs.YtelbaokiepcilaaGreatDoor


set_option maxRecDepth 100000
namespace Go.Proofs.YtelbaokiepcilaaGreatDoor
open Go Go.Eng
theorem con5_spec {E:Env} {f:Nat} {t u w s q:Ty} {c:t.den→u.den→w.den→s.den→q.den→Bool} {v:AV} (h:∀ x y z p o,c x y z p o=true→AnsF E f [t.av x,u.av y,w.av z,s.av p,q.av o] v) {args:List AV} {r:AV} (hc:con5 t u w s q c v args=some (true,r)):∃ args',TellsL args args'∧args'.all (closedA 9)=true∧AnsF E f args' r:=by
 unfold con5 at hc
 split at hc
 · split at hc
   · rename_i c1 x c2 y c3 z c4 p c5 o hx hy hz hp ho
     simp only[Option.some.injEq,Prod.mk.injEq,Bool.and_eq_true] at hc
     obtain⟨⟨⟨⟨⟨⟨rfl,rfl⟩,rfl⟩,rfl⟩,rfl⟩,hcc⟩,rfl⟩:=hc
     exact⟨[t.av x,u.av y,w.av z,s.av p,q.av o],.cons (rdA_spec _ hx) (.cons (rdA_spec _ hy) (.cons (rdA_spec _ hz) (.cons (rdA_spec _ hp) (.cons (rdA_spec _ ho) .nil)))),by simp[av_closed],h x y z p o hcc⟩
   · cases hc
 · cases hc
theorem eqS_eq {s:tSt.den} {n:tNi.den} (h:eqS s n=true):tSt.av s=tSt.av S0∧tNi.av n=tNi.av N0:=by
 unfold eqS at h
 rw[Bool.and_eq_true] at h
 exact⟨avbeq_eq _ _ h.1,avbeq_eq _ _ h.2⟩
theorem eqR_eq {l:(Ty.sl tRe).den} {b:Bool} {m:List tRe.den} (h:eqR l b m=true):(Ty.sl tRe).av l=.vs tRe b m:=avbeq_eq _ _ h
theorem LZ_ok:∀ e∈LZ,SaidG Tryz.prog F6.glob e:=
 saids_cons (SaidOK.g f6 xf6 nf6 tabs_ok.mix (fun _ _ h=>con2_spec (t:=tI) (u:=tI) (fun a b _=>newl_call a b) h) rfl)
 (saids_cons (SaidOK.g f6 xf6 nf6 tabs_ok.mix (fun _ _ h=>con1_spec (t:=tP) (fun l _=>numb_call l) h) rfl)
 (saids_cons (SaidOK.g f7 xf7 nf7 tabs_ok.mix (fun _ _ h=>con3_spec (t:=tSt) (u:=tNi) (w:=.sl tRe) (fun s n l hc=>by
   rw[Bool.and_eq_true] at hc
   rw[(eqS_eq hc.1).1,(eqS_eq hc.1).2,eqR_eq hc.2]
   exact Ans.call (n:=40) (ext_none (by kernel_rfl)) (hasB_spec (by kernel_rfl)) fclr_ans) h) rfl)
 (saids_cons (SaidOK.g f7 xf7 nf7 tabs_ok.mix (fun _ _ h=>con5_spec (t:=tSt) (u:=tNi) (w:=.sl tRe) (s:=tP) (q:=.bool) (fun s n l p o hc=>by
   simp only[Bool.and_eq_true] at hc
   obtain⟨⟨⟨h1,h2⟩,h3⟩,h4⟩:=hc
   rw[(eqS_eq h1).1,(eqS_eq h1).2,eqR_eq h2,avbeq_eq _ _ h3,show Ty.av .bool o=AV.bool false from avbeq_eq _ _ h4]
   exact Ans.call (n:=40) (ext_none (by kernel_rfl)) (hasB_spec (by kernel_rfl)) fcou_ans) h) rfl)
 (saids_cons (SaidOK.g f6 xf6 nf6 tabs_ok.mix (fun _ _ h=>con3_spec (t:=tSt) (u:=tNi) (w:=.sl tRe) (fun s n l hc=>by
   rw[Bool.and_eq_true] at hc
   rw[(eqS_eq hc.1).1,(eqS_eq hc.1).2,eqR_eq hc.2]
   exact Ans.call (n:=40) (ext_none (by kernel_rfl)) (hasB_spec (by kernel_rfl)) ffar_ans) h) rfl)
 (saids_cons (SaidOK.g f8 xf8 nf8 tabs_ok.mix (fun _ _ h=>con3_spec (t:=tSt) (u:=tNi) (w:=.sl tRe) (fun s n l hc=>by
   rw[Bool.and_eq_true] at hc
   rw[(eqS_eq hc.1).1,(eqS_eq hc.1).2,eqR_eq hc.2]
   exact Ans.call (n:=40) (ext_none (by kernel_rfl)) (hasB_spec (by kernel_rfl)) ffal_ans) h) rfl)
 (saids_cons (SaidOK.g f11 xf11 nf11 tabs_ok.mix (fun _ _ h=>con4_spec (t:=tSt) (u:=tNi) (w:=.sl tRe) (s:=tI) (fun s n l q hc=>by
   simp only[Bool.and_eq_true,Bool.or_eq_true] at hc
   obtain⟨⟨h1,h2⟩,h3⟩:=hc
   rw[(eqS_eq h1).1,(eqS_eq h1).2,eqR_eq h2]
   rcases h3 with h3|h3
   · have e := ieq_t h3
     subst e
     exact Ans.call (n:=40) (ext_none (by kernel_rfl)) (hasB_spec (by kernel_rfl)) gra7
   · have e := ieq_t h3
     subst e
     exact Ans.call (n:=40) (ext_none (by kernel_rfl)) (hasB_spec (by kernel_rfl)) gra1) h) rfl) saids_nil))))))
theorem f9:EnvOK Tryz.prog F9:=f6.say _
theorem xA:ExtOK Tryz.prog EA:=xf6.sayL LZ_ok
theorem kn_true:isTrueT EA [] 40 5=true:=by kernel_rfl
theorem f10:EnvOK Tryz.prog F10:=f9.say _
end Go.Proofs.YtelbaokiepcilaaGreatDoor


set_option maxRecDepth 100000
namespace Go.Proofs.YtelbaokiepcilaaGreatDoor
open Go Go.Eng
theorem lspt_start (p:tP.den) (x y:Int):adv H7 (Y7 []) 20000 (startC H7 6 [tP.av p,.int .u16 x,.int .u16 y] 6)=some (.done (.agg [(.int .i64 (bif ile (bif ile 30000 (wr .i64 (wr .i64 (p.1+wr .i64 x)-32768)) then 30000 else wr .i64 (wr .i64 (p.1+wr .i64 x)-32768)) (-30000) then -30000 else bif ile 30000 (wr .i64 (wr .i64 (p.1+wr .i64 x)-32768)) then 30000 else wr .i64 (wr .i64 (p.1+wr .i64 x)-32768))),(.int .i64 (bif ile (bif ile 30000 (wr .i64 (wr .i64 (p.2.1+wr .i64 y)-32768)) then 30000 else wr .i64 (wr .i64 (p.2.1+wr .i64 y)-32768)) (-30000) then -30000 else bif ile 30000 (wr .i64 (wr .i64 (p.2.1+wr .i64 y)-32768)) then 30000 else wr .i64 (wr .i64 (p.2.1+wr .i64 y)-32768)))])):=by kernel_rfl
theorem lgod_start (s:tSt.den) (n:tNi.den) (l:(Ty.sl tRe).den):adv H7 (Y7 []) 20000 (startC H7 4 [tSt.av s,tNi.av n,.vs tRe l.1 l.2] 6)=some (.done (.bool (ieq (cknS s n l.2).2 0))):=by kernel_rfl
noncomputable def spF (a x:Int):Int:=bif ile (bif ile 30000 (wr .i64 (wr .i64 (a+wr .i64 x)-32768)) then 30000 else wr .i64 (wr .i64 (a+wr .i64 x)-32768)) (-30000) then -30000 else bif ile 30000 (wr .i64 (wr .i64 (a+wr .i64 x)-32768)) then 30000 else wr .i64 (wr .i64 (a+wr .i64 x)-32768)
theorem spF_b (a x:Int):-30000≤spF a x∧spF a x≤30000:=by
 unfold spF
 cases c:ile 30000 (wr .i64 (wr .i64 (a+wr .i64 x)-32768)) with
 |true=>rw[cond_true,show ile 30000 (-30000)=false from rfl,cond_false];omega
 | false =>
  rw[cond_false]
  have c':=c
  rw[ile_iff] at c'
  have c1:=of_decide_eq_false c'
  cases d:ile (wr .i64 (wr .i64 (a+wr .i64 x)-32768)) (-30000) with
  |true=>rw[cond_true];omega
  |false=>
   rw[cond_false]
   rw[ile_iff] at d
   have d1:=of_decide_eq_false d
   omega
theorem sp_in3 (a b x y:Int):in3 (spF a x) (spF b y)=true:=in3_iff.2 ⟨spF_b a x,spF_b b y⟩
theorem lspt_call (p:tP.den) (x y:(Ty.int .u16).den):AnsF H7 6 [tP.av p,(Ty.int .u16).av x,(Ty.int .u16).av y] (.agg [.int .i64 (spF p.1 x),.int .i64 (spF p.2.1 y)]):=
 Ans.call (n:=6) (ext_none (by kernel_rfl)) (hasB_spec (by kernel_rfl)) (.done (Y7_ok _) H7sy (lspt_start p x y) rfl)
theorem lgod_call (s:tSt.den) (n:tNi.den) (l:(Ty.sl tRe).den):AnsF H7 4 [tSt.av s,tNi.av n,(Ty.sl tRe).av l] (.bool (okN s n l.2)):=by
 refine Ans.call (n:=6) (ext_none (by kernel_rfl)) (hasB_spec (by kernel_rfl)) ?_
 have h:=lgod_start s n l
 exact .doneB (Y7_ok _) H7sy h rfl
theorem pcou_call (s:tSt.den) (n:tNi.den) (l:(Ty.sl tRe).den) (p:tP.den) (h:Bool):AnsF F6 7 [tSt.av s,tNi.av n,(Ty.sl tRe).av l,tP.av p,Ty.av .bool h] (tup2 (couS s n l.2 p h)):=by
 cases h with
 |false=>exact pcol_call s n l p
 |true=>exact pcoh_call s n l p
noncomputable def co5 (t u w s q:Ty) (v:t.den→u.den→w.den→s.den→q.den→AV) (args:List AV):Option (Bool×AV):=
 match args with
 |[a1,a2,a3,a4,a5]=>match rdA t a1,rdA u a2,rdA w a3,rdA s a4,rdA q a5 with
  |some (c1,x),some (c2,y),some (c3,z),some (c4,p),some (c5,o)=>some (c1&&(c2&&(c3&&(c4&&c5))),v x y z p o)
  |_,_,_,_,_=>none
 |_=>none
theorem co5_spec {E:Env} {f:Nat} {t u w s q:Ty} {v:t.den→u.den→w.den→s.den→q.den→AV} (h:∀ x y z p o,AnsF E f [t.av x,u.av y,w.av z,s.av p,q.av o] (v x y z p o)) {args:List AV} {r:AV} (hc:co5 t u w s q v args=some (true,r)):∃ args',TellsL args args'∧args'.all (closedA 9)=true∧AnsF E f args' r:=by
 unfold co5 at hc
 split at hc
 · split at hc
   · rename_i c1 x c2 y c3 z c4 p c5 o hx hy hz hp ho
     simp only[Option.some.injEq,Prod.mk.injEq,Bool.and_eq_true] at hc
     obtain⟨⟨rfl,rfl,rfl,rfl,rfl⟩,rfl⟩:=hc
     exact⟨[t.av x,u.av y,w.av z,s.av p,q.av o],.cons (rdA_spec _ hx) (.cons (rdA_spec _ hy) (.cons (rdA_spec _ hz) (.cons (rdA_spec _ hp) (.cons (rdA_spec _ ho) .nil)))),by simp[av_closed],h x y z p o⟩
   · cases hc
 · cases hc
noncomputable def LP:List Said:=[(10,con3 tSt tNi (.sl tRe) (fun _ _ _=>true) (fun s n l=>clrW (clrQ s n l.2))),(9,con3 tSt tNi (.sl tRe) (fun _ _ _=>true) (fun s n l=>wndW (wndQ s n l.2))),
 (7,co5 tSt tNi (.sl tRe) tP .bool (fun s n l p h=>tup2 (couS s n l.2 p h))),
 (6,con3 tP (.int .u16) (.int .u16) (fun _ _ _=>true) (fun p x y=>.agg [.int .i64 (spF p.1 x),.int .i64 (spF p.2.1 y)])),(4,con3 tSt tNi (.sl tRe) (fun _ _ _=>true) (fun s n l=>.bool (okN s n l.2))),(5,say0 (.bool true))]
theorem LP_ok:∀ e∈LP,SaidG Tryz.prog H7.glob e:=
 saids_cons (SaidOK.g f6 xf6 nf6 tabs_ok.mix (fun _ _ h=>con3_spec (t:=tSt) (u:=tNi) (w:=.sl tRe) (fun s n l _=>by rw[← clrS_eq];exact pclr_call s n l) h) rfl)
 (saids_cons (SaidOK.g f6 xf6 nf6 tabs_ok.mix (fun _ _ h=>con3_spec (t:=tSt) (u:=tNi) (w:=.sl tRe) (fun s n l _=>by rw[← wndS_eq];exact pwnd_call s n l) h) rfl)
 (saids_cons (SaidOK.g f6 xf6 nf6 tabs_ok.mix (fun _ _ h=>co5_spec (t:=tSt) (u:=tNi) (w:=.sl tRe) (s:=tP) (q:=.bool) (fun s n l p b=>pcou_call s n l p b) h) rfl)
 (saids_cons (SaidOK.g h7 xh7 nh7 tabs_ok.mix (fun _ _ h=>con3_spec (t:=tP) (u:=.int .u16) (w:=.int .u16) (fun p x y _=>lspt_call p x y) h) rfl)
 (saids_cons (SaidOK.g h7 xh7 nh7 tabs_ok.mix (fun _ _ h=>con3_spec (t:=tSt) (u:=tNi) (w:=.sl tRe) (fun s n l _=>lgod_call s n l) h) rfl)
 (saids_cons (XG.g (XG.closedT eA xA nA tabs_ok.mix ents_nil kn_true) rfl) saids_nil)))))
noncomputable def H9:Env:=H7.say (under (xOf LP))
theorem h9:EnvOK Tryz.prog H9:=h7.say _
theorem nh9:NameOK H9:=nh7.say _
theorem xh9:ExtOK Tryz.prog H9:=xh7.sayL LP_ok
theorem H9sy:H9.sy=true:=rfl
noncomputable def Y9 (l:List Nat):Sy:=(Y7 []).on LP l
theorem Y9_ok (l:List Nat):(Y9 l).ok H9:=Sy.on_ok (Y7_ok _)
abbrev tTd:Ty:=.cons tNi (.cons (.sl tRe) .nil)
abbrev tW3:Ty:=.cons (.int .u16) (.cons (.int .u16) (.cons (.int .u16) .nil))
end Go.Proofs.YtelbaokiepcilaaGreatDoor


set_option maxRecDepth 100000
namespace Go.Proofs.YtelbaokiepcilaaGreatDoor
open Go Go.Eng
theorem isF_app {t:Ty} (k:Nat) (r:List AV):∀ (L:List t.den),isF (rd t) (L.length+k) (flat t L++r)=isF (rd t) k r∧unf (rd t) (L.length+k) (flat t L++r)=L++unf (rd t) k r
 |[]=>by rw[List.length_nil,Nat.zero_add];exact⟨rfl,rfl⟩
 |d::L=>by
  obtain⟨h1,h2⟩:=isF_app k r L
  have e:flat t (d::L)++r=t.cells d++(flat t L++r):=by rw[← List.append_assoc];rfl
  rw[e,List.length_cons,show L.length+1+k=(L.length+k)+1 by omega]
  exact⟨by simp only[isF,rd_cells,h1,Bool.true_and],by simp only[unf,rd_cells,h2,List.cons_append]⟩
theorem rowR_is (a b:Int) (h y:Bool):isF (rd tRe) 1 [AV.int .i64 a,AV.int .i64 b,AV.bool h,AV.bool y]=true∧unf (rd tRe) 1 [AV.int .i64 a,AV.int .i64 b,AV.bool h,AV.bool y]=[((a,b,()),h,y,())]:=⟨by kernel_rfl,by kernel_rfl⟩
theorem plainR (r:List AV):∀ L:List tRe.den,plainL (flat tRe L++r)=plainL r
 |[]=>rfl
 |_::L=>plainR r L
theorem oneR:∀ L:List tRe.den,oneAll (flat tRe L)=true
 |[]=>rfl
 |_::L=>oneR L
theorem flatR_len:∀ L:List tRe.den,(flat tRe L).length=L.length * 4
 |[]=>rfl
 |d::L=>by
  show (tRe.cells d++flat tRe L).length=_
  rw[List.length_append,flatR_len L,List.length_cons];show 4+L.length * 4=_;omega
theorem moreR_is (L:List tRe.den) (a b:Int) (h y:Bool):isF (rd tRe) (0+L.length+1) ([]++flat tRe L++[AV.int .i64 a,AV.int .i64 b,AV.bool h,AV.bool y])=true∧unf (rd tRe) (0+L.length+1) ([]++flat tRe L++[AV.int .i64 a,AV.int .i64 b,AV.bool h,AV.bool y])=L++[((a,b,()),h,y,())]∧plainL ([]++flat tRe L++[AV.int .i64 a,AV.int .i64 b,AV.bool h,AV.bool y])=true:=by
 rw[Nat.zero_add,List.nil_append]
 obtain⟨h1,h2⟩:=isF_app 1 [AV.int .i64 a,AV.int .i64 b,AV.bool h,AV.bool y] L
 obtain⟨h3,h4⟩:=rowR_is a b h y
 exact⟨h1.trans h3,by rw[h2,h4],(plainR _ L).trans rfl⟩
theorem agrF_more (n:tNi.den) (l:List tRe.den) (r:tRe.den) (t:tP.den) (h:Bool):agrF n (l++[r]) t h=(agrF n l t h&&agr1 n t h r):=by
 unfold agrF;rw[List.all_append];simp
theorem trT_more (s:tSt.den) (n:tNi.den) (l:List tRe.den) (r:tRe.den) (h:Bool):trT s n (l++[r]) h=(trT s n l h).filter fun t=>agr1 n t h r:=by
 unfold trT
 rw[List.filter_filter]
 congr 1
 funext t
 rw[agrF_more,Bool.and_comm]
theorem repS_all:∀ (l:List tRe.den) (i:Nat),repB l=true→repS i l=(0,0)
 |[],_,_=>rfl
 |r::l,i,h=>by
  unfold repB at h
  rw[List.all_cons,Bool.and_eq_true] at h
  rw[repS,h.1,cond_true]
  exact repS_all l (i+1) h.2
theorem okN_more {s:tSt.den} {n:tNi.den} {l:List tRe.den} {r:tRe.den} (h:okN s n l=true) (h8:l.length+1≤8) (hr:in3 r.1.1 r.1.2.1=true):okN s n (l++[r])=true:=by
 have hN:=nig_ok h
 have hl:repB (l++[r])=true:=by
  have:=hN.reps
  unfold repB at this⊢
  rw[List.all_append,this];simp[hr]
 unfold okN at h⊢
 unfold cknS at h⊢
 cases c:ieq (staS s).2.2 0 with
 |false=>rw[c,cond_false] at h;rw[c] at h;cases h
 | true =>
  rw[c,cond_true] at h
  rw[cond_true]
  cases c1:(ile 0 n.2.1&&ile n.2.1 ((s.1.2.length:Int)-1)) with
  |false=>rw[c1,cond_false] at h;exact absurd (ieq_t h) (show ¬ (4:Int)=0 by decide)
  | true =>
   rw[c1,cond_true] at h
   rw[cond_true]
   cases c2:nigB n with
   |false=>rw[c2,cond_false] at h;exact absurd (ieq_t h) (show ¬ (7:Int)=0 by decide)
   |true=>
    rw[cond_true,ile_t (show (((l++[r]).length:Nat):Int)≤8 by rw[List.length_append];show ((l.length+1:Nat):Int)≤8;omega),cond_true,repS_all _ _ hl];rfl
theorem mt6_flag:∀ (T:List tP.den) (t:En6),(T.foldl mt6 t).2.2.1=(t.2.2.1 || !T.isEmpty)
 |[],t=>by simp
 |p::T,t=>by
  rw[List.foldl_cons,mt6_flag T]
  show (true || _)=_
  simp
theorem clr_err {s:tSt.den} {n:tNi.den} {l:List tRe.den} (h:okN s n l=true):(clrQ s n l).2.2.2.2=bif (trT s n l false).isEmpty then 9 else 0:=by
 unfold clrQ
 rw[show ieq (cknS s n l).2 0=true from h,cond_true]
 show (bif ((trT s n l false).foldl mt6 (0,0,false,0,0,false)).2.2.1 then (0:Int) else 9)=_
 rw[mt6_flag]
 cases (trT s n l false).isEmpty<;>rfl
theorem mtW_flag:∀ (T:List tP.den) (x:W3),(T.foldl mtW x).1.2.2=(x.1.2.2 || !T.isEmpty)
 |[],t=>by simp
 |p::T,t=>by
  rw[List.foldl_cons,mtW_flag T]
  show (true || _)=_
  simp
theorem wnd_err {s:tSt.den} {n:tNi.den} {l:List tRe.den} (h:okN s n l=true):(wndQ s n l).2.2.2=bif (trT s n l true).isEmpty then 9 else 0:=by
 unfold wndQ
 rw[show ieq (cknS s n l).2 0=true from h,cond_true]
 show (bif ((trT s n l true).foldl mtW wnd0).1.2.2 then (0:Int) else 9)=_
 rw[mtW_flag]
 cases (trT s n l true).isEmpty<;>rfl
theorem stC_fold (n:tNi.den) (p:tP.den) (h:Bool):∀ (T:List tP.den) (x:Bool×Bool),T.foldl (stC n p h) x=(x.1 || T.any fun t=>metF n p t h,x.2 || T.any fun t=>!metF n p t h)
 |[],x=>by simp
 |t::T,x=>by
  rw[List.foldl_cons,stC_fold n p h T]
  unfold stC
  cases c:metF n p t h<;>simp[c]
theorem cou_ok {s:tSt.den} {n:tNi.den} {l:List tRe.den} {p:tP.den} {h:Bool} (ho:okN s n l=true) (hp:in3 p.1 p.2.1=true):couS s n l p h=couR ((trT s n l h).any fun t=>metF n p t h,(trT s n l h).any fun t=>!metF n p t h):=by
 unfold couS
 rw[show ieq (cknS s n l).2 0=true from ho,cond_true,hp,cond_true,stC_fold]
 simp
theorem fil_true (n:tNi.den) (p:tP.den) (h y:Bool):∀ T:List tP.den,(T.filter fun t=>agr1 n t h (p,h,y,())).isEmpty=!(T.any fun t=>y == metF n p t h)
 |[]=>rfl
 |t::T=>by
  have ih:=fil_true n p h y T
  have e:agr1 n t h (p,h,y,())=(y == metF n p t h):=by unfold agr1;simp
  rw[List.any_cons]
  cases c:y == metF n p t h with
  |true=>rw[List.filter_cons_of_pos (p:=fun t=>agr1 n t h (p,h,y,())) (by rw[e];exact c)];rfl
  |false=>rw[List.filter_cons_of_neg (p:=fun t=>agr1 n t h (p,h,y,())) (by rw[e,c];decide),ih,Bool.false_or]
noncomputable def anyM (s:tSt.den) (n:tNi.den) (l:List tRe.den) (p:tP.den) (h y:Bool):Bool:=(trT s n l h).any fun t=>y == metF n p t h
theorem err_more {s:tSt.den} {n:tNi.den} {l:List tRe.den} {p:tP.den} {h y:Bool} (ho:okN s n l=true) (h8:l.length+1≤8) (hp:in3 p.1 p.2.1=true) :
  (h=false→(clrQ s n (l++[(p,h,y,())])).2.2.2.2=bif anyM s n l p h y then 0 else 9)∧(h=true→(wndQ s n (l++[(p,h,y,())])).2.2.2=bif anyM s n l p h y then 0 else 9):=by
 have om:=okN_more (r:=(p,h,y,())) ho h8 hp
 refine⟨fun e=>?_,fun e=>?_⟩
 · subst e
   rw[clr_err om,trT_more,fil_true]
   unfold anyM
   cases (trT s n l false).any fun t=>y == metF n p t false<;>rfl
 · subst e
   rw[wnd_err om,trT_more,fil_true]
   unfold anyM
   cases (trT s n l true).any fun t=>y == metF n p t true<;>rfl
theorem cou_more {s:tSt.den} {n:tNi.den} {l:List tRe.den} {p:tP.den} {h:Bool} (ho:okN s n l=true) (hp:in3 p.1 p.2.1=true):couS s n l p h=couR (anyM s n l p h true,anyM s n l p h false):=by
 rw[cou_ok ho hp]
 unfold anyM
 simp
end Go.Proofs.YtelbaokiepcilaaGreatDoor


set_option maxRecDepth 100000
namespace Go.Proofs.YtelbaokiepcilaaGreatDoor
open Go Go.Eng
noncomputable def hR (x:tW3.den):Bool:=ieq (Int.tmod x.2.2.1 2) 1
noncomputable def aR (t:tTd.den) (x:tW3.den):tP.den:=(spF t.1.1.1 x.1,spF t.1.1.2.1 x.2.1,())
noncomputable def qR (s:tSt.den) (t:tTd.den) (x:tW3.den):Int×Int:=couS s t.1 t.2.1.2 (spF t.1.1.1 x.1,spF t.1.1.2.1 x.2.1,()) (ieq (Int.tmod x.2.2.1 2) 1)
noncomputable def mE (t:tTd.den) (x:tW3.den) (y:Bool):List tRe.den:=unf (rd tRe) (0+1) [AV.int .i64 (spF t.1.1.1 x.1),AV.int .i64 (spF t.1.1.2.1 x.2.1),AV.bool (ieq (Int.tmod x.2.2.1 2) 1),AV.bool y]
noncomputable def mN (t:tTd.den) (x:tW3.den) (y:Bool):List tRe.den:=unf (rd tRe) (0+t.2.1.2.length+1) ([]++flat tRe t.2.1.2++[AV.int .i64 (spF t.1.1.1 x.1),AV.int .i64 (spF t.1.1.2.1 x.2.1),AV.bool (ieq (Int.tmod x.2.2.1 2) 1),AV.bool y])
noncomputable def fN (t:tTd.den) (x:tW3.den) (y:Bool):Bool:=isF (rd tRe) (0+t.2.1.2.length+1) ([]++flat tRe t.2.1.2++[AV.int .i64 (spF t.1.1.1 x.1),AV.int .i64 (spF t.1.1.2.1 x.2.1),AV.bool (ieq (Int.tmod x.2.2.1 2) 1),AV.bool y])
noncomputable def pN (t:tTd.den) (x:tW3.den) (y:Bool):Bool:=plainL ([]++flat tRe t.2.1.2++[AV.int .i64 (spF t.1.1.1 x.1),AV.int .i64 (spF t.1.1.2.1 x.2.1),AV.bool (ieq (Int.tmod x.2.2.1 2) 1),AV.bool y])
noncomputable def oN (t:tTd.den) (x:tW3.den) (y:Bool):Bool:=plO (AO.cells true ([]++flat tRe t.2.1.2++[AV.int .i64 (spF t.1.1.1 x.1),AV.int .i64 (spF t.1.1.2.1 x.2.1),AV.bool (ieq (Int.tmod x.2.2.1 2) 1),AV.bool y]))
noncomputable def gN (t:tTd.den):Bool:=t.2.1.2.length.ble 1048576&&oneAll (flat tRe t.2.1.2)&&(H9.bytes 45).ble 65536
noncomputable def lN (t:tTd.den):Bool:=(0+(0+t.2.1.2.length) * 4).beq (List.drop 0 (repl 0 (AV.agg [AV.int .i64 0,AV.int .i64 0,AV.bool false,AV.bool false]).cells)++flat tRe t.2.1.2).length
theorem mE_eq (t:tTd.den) (x:tW3.den) (y:Bool) (h:t.2.1.2=[]):mE t x y=t.2.1.2++[(aR t x,hR x,y,())]:=by
 rw[h];exact (rowR_is _ _ _ _).2
theorem mN_eq (t:tTd.den) (x:tW3.den) (y:Bool):mN t x y=t.2.1.2++[(aR t x,hR x,y,())]∧fN t x y=true∧pN t x y=true∧oN t x y=true:=by
 obtain⟨h1,h2,h3⟩:=moreR_is t.2.1.2 (spF t.1.1.1 x.1) (spF t.1.1.2.1 x.2.1) (ieq (Int.tmod x.2.2.1 2) 1) y
 exact⟨h2,h1,h3,h3⟩
theorem bytes45:(H9.bytes 45).ble 65536=true:=by kernel_rfl
noncomputable def lrk3 (s:tSt.den) (t:tTd.den) (x:tW3.den):Option Out:=(bif ieq (qR s t x).1 0 then (bif !ieq (wndQ s t.1 (mE t x true)).2.2.2 9 then some (.done (.bool (false))) else some (.done (.bool (true)))) else (bif !ieq (wndQ s t.1 (mE t x true)).2.2.2 0 then some (.done (.bool (false))) else some (.done (.bool (true)))))
noncomputable def lrk2 (s:tSt.den) (t:tTd.den) (x:tW3.den):Option Out:=(bif ieq (qR s t x).1 0 then (bif !ieq (clrQ s t.1 (mE t x true)).2.2.2.2 9 then some (.done (.bool (false))) else some (.done (.bool (true)))) else (bif !ieq (clrQ s t.1 (mE t x true)).2.2.2.2 0 then some (.done (.bool (false))) else some (.done (.bool (true)))))
noncomputable def lrk1 (t:tTd.den) (x:tW3.den):Option Out:=(bif oN t x true then some (.done (.bool (true))) else none)
noncomputable def lrk5 (s:tSt.den) (t:tTd.den) (x:tW3.den):Option Out:=(bif ieq (qR s t x).1 0 then (bif !ieq (wndQ s t.1 (mN t x true)).2.2.2 9 then some (.done (.bool (false))) else (lrk1 t x)) else (bif !ieq (wndQ s t.1 (mN t x true)).2.2.2 0 then some (.done (.bool (false))) else (lrk1 t x)))
noncomputable def lrk4 (s:tSt.den) (t:tTd.den) (x:tW3.den):Option Out:=(bif ieq (qR s t x).1 0 then (bif !ieq (clrQ s t.1 (mN t x true)).2.2.2.2 9 then some (.done (.bool (false))) else (lrk1 t x)) else (bif !ieq (clrQ s t.1 (mN t x true)).2.2.2.2 0 then some (.done (.bool (false))) else (lrk1 t x)))
noncomputable def lrk0 (s:tSt.den) (t:tTd.den) (x:tW3.den):Option Out:=(bif gN t then (bif t.2.1.2.length.beq 0 then (sI (spF t.1.1.1 x.1) (sI (spF t.1.1.2.1 x.2.1) (sI (spF t.1.1.1 x.1) (sI (spF t.1.1.2.1 x.2.1) (bif hR x then (bif ieq (qR s t x).1 2 then (lrk3 s t x) else (lrk3 s t x)) else (bif ieq (qR s t x).1 2 then (lrk2 s t x) else (lrk2 s t x))))))) else (bif lN t then (bif (0+t.2.1.2.length).ble 1048576 then (sI (spF t.1.1.1 x.1) (sI (spF t.1.1.2.1 x.2.1) (sI (spF t.1.1.1 x.1) (sI (spF t.1.1.2.1 x.2.1) (bif hR x then (bif pN t x true then (bif fN t x true&&true then (bif ieq (qR s t x).1 2 then (lrk5 s t x) else (lrk5 s t x)) else none) else none) else (bif pN t x true then (bif fN t x true&&true then (bif ieq (qR s t x).1 2 then (lrk4 s t x) else (lrk4 s t x)) else none) else none)))))) else none) else none)) else none)
theorem lrea0_start (s:tSt.den) (t:tTd.den) (x:tW3.den):adv H9 (Y9 []) 20000 (startC H9 3 [tSt.av s,tTd.av t,tW3.av x] 40)=(sB t.2.1.1 (sV tRe t.2.1.2 (sB t.2.1.1 (sV tRe t.2.1.2 (sI t.1.1.1 (sI t.1.1.2.1 (sI t.1.2.1 (sI t.1.2.2.1 (sI t.1.2.2.2.1 (bif !okN s t.1 t.2.1.2 then some (.done (.bool (true))) else (bif ieq (↑t.2.1.2.length) 8 then some (.done (.bool (true))) else (sI x.2.2.1 (sI x.2.2.1 (sI x.2.2.1 (sI x.2.1 (sI x.1 (sI t.1.1.1 (sI t.1.1.2.1 (bif !ieq (qR s t x).2 0 then (bif ieq (qR s t x).2 9 then (bif ieq (qR s t x).1 0 then (bif okN s t.1 t.2.1.2 then (bif ieq (↑(trT s t.1 t.2.1.2 (hR x)).length) 0 then some (.done (.bool (true))) else some (.done (.bool (false)))) else none) else some (.done (.bool (false)))) else some (.done (.bool (false)))) else (bif gN t then (bif t.2.1.2.length.beq 0 then (sI (spF t.1.1.1 x.1) (sI (spF t.1.1.2.1 x.2.1) (sI (spF t.1.1.1 x.1) (sI (spF t.1.1.2.1 x.2.1) (bif hR x then (bif ieq (qR s t x).1 2 then (bif !ieq (wndQ s t.1 (mE t x false)).2.2.2 9 then some (.done (.bool (false))) else (lrk0 s t x)) else (bif ieq (qR s t x).1 0 then (bif !ieq (wndQ s t.1 (mE t x false)).2.2.2 0 then some (.done (.bool (false))) else (lrk0 s t x)) else (bif !ieq (wndQ s t.1 (mE t x false)).2.2.2 0 then some (.done (.bool (false))) else (lrk0 s t x)))) else (bif ieq (qR s t x).1 2 then (bif !ieq (clrQ s t.1 (mE t x false)).2.2.2.2 9 then some (.done (.bool (false))) else (lrk0 s t x)) else (bif ieq (qR s t x).1 0 then (bif !ieq (clrQ s t.1 (mE t x false)).2.2.2.2 0 then some (.done (.bool (false))) else (lrk0 s t x)) else (bif !ieq (clrQ s t.1 (mE t x false)).2.2.2.2 0 then some (.done (.bool (false))) else (lrk0 s t x))))))))) else (bif lN t then (bif (0+t.2.1.2.length).ble 1048576 then (sI (spF t.1.1.1 x.1) (sI (spF t.1.1.2.1 x.2.1) (sI (spF t.1.1.1 x.1) (sI (spF t.1.1.2.1 x.2.1) (bif hR x then (bif pN t x false then (bif fN t x false&&true then (bif ieq (qR s t x).1 2 then (bif !ieq (wndQ s t.1 (mN t x false)).2.2.2 9 then some (.done (.bool (false))) else (bif oN t x false then (lrk0 s t x) else none)) else (bif ieq (qR s t x).1 0 then (bif !ieq (wndQ s t.1 (mN t x false)).2.2.2 0 then some (.done (.bool (false))) else (bif oN t x false then (lrk0 s t x) else none)) else (bif !ieq (wndQ s t.1 (mN t x false)).2.2.2 0 then some (.done (.bool (false))) else (bif oN t x false then (lrk0 s t x) else none)))) else none) else none) else (bif pN t x false then (bif fN t x false&&true then (bif ieq (qR s t x).1 2 then (bif !ieq (clrQ s t.1 (mN t x false)).2.2.2.2 9 then some (.done (.bool (false))) else (bif oN t x false then (lrk0 s t x) else none)) else (bif ieq (qR s t x).1 0 then (bif !ieq (clrQ s t.1 (mN t x false)).2.2.2.2 0 then some (.done (.bool (false))) else (bif oN t x false then (lrk0 s t x) else none)) else (bif !ieq (clrQ s t.1 (mN t x false)).2.2.2.2 0 then some (.done (.bool (false))) else (bif oN t x false then (lrk0 s t x) else none)))) else none) else none)))))) else none) else none)) else none)))))))))))))))))))):=by kernel_rfl
theorem lre_true (s:tSt.den) (t:tTd.den) (x:tW3.den):∃ σ,callN H9 (40+1) 3 [tSt.av s,tTd.av t,tW3.av x] .empty [] []=some (.bool true,σ,[]):=by
 refine AnsB.call (ext_none (by kernel_rfl)) (hasB_spec (by kernel_rfl)) ?_
 have h:=lrea0_start s t x
 simp only[sI_eq,sB_eq,sV_eq] at h
 cases ho:okN s t.1 t.2.1.2 with
 |false=>rw[ho,Bool.not_false,cond_true] at h;exact .doneB (Y9_ok _) H9sy h rfl
 |true=>
 rw[ho,Bool.not_true,cond_false] at h
 have hN:=nig_ok ho
 have h8:=hN.len
 cases c8:ieq ((t.2.1.2.length:Nat):Int) 8 with
 |true=>rw[c8,cond_true] at h;exact .doneB (Y9_ok _) H9sy h rfl
 |false=>
 rw[c8,cond_false] at h
 have l8:t.2.1.2.length+1≤8:=by
  rw[ieq_iff] at c8
  have:=of_decide_eq_false c8
  omega
 have hp:in3 (aR t x).1 (aR t x).2.1=true:=sp_in3 _ _ _ _
 have hq:qR s t x=couR (anyM s t.1 t.2.1.2 (aR t x) (hR x) true,anyM s t.1 t.2.1.2 (aR t x) (hR x) false):=cou_more ho hp
 have e0:=err_more (h:=hR x) (y:=false) ho l8 hp
 have e1:=err_more (h:=hR x) (y:=true) ho l8 hp
 have g1:gN t=true:=by
  unfold gN;rw[Nat.ble_eq_true_of_le (by omega),oneR,bytes45];rfl
 have g2:lN t=true:=by
  unfold lN
  rw[show List.drop 0 (repl 0 (AV.agg [AV.int .i64 0,AV.int .i64 0,AV.bool false,AV.bool false]).cells)=[] from rfl,List.nil_append,flatR_len,show 0+(0+t.2.1.2.length) * 4=t.2.1.2.length * 4 by omega]
  exact Nat.beq_refl _
 have g3:(0+t.2.1.2.length).ble 1048576=true:=Nat.ble_eq_true_of_le (by omega)
 obtain⟨n0,f0,p0,o0⟩:=mN_eq t x false
 obtain⟨n1,f1,p1,o1⟩:=mN_eq t x true
 have hl:t.2.1.2.length.beq 0=true→t.2.1.2=[]:=fun e=>List.eq_nil_of_length_eq_zero (Nat.eq_of_beq_eq_true e)
 have ht:(ieq (((trT s t.1 t.2.1.2 (hR x)).length:Nat):Int) 0)=!(anyM s t.1 t.2.1.2 (aR t x) (hR x) true || anyM s t.1 t.2.1.2 (aR t x) (hR x) false):=by
  unfold anyM
  cases trT s t.1 t.2.1.2 (hR x) with
  |nil=>rfl
  | cons p T =>
   have z:ieq (((p::T).length:Nat):Int) 0=false:=by
    rw[ieq_iff];exact decide_eq_false (by rw[List.length_cons];omega)
   rw[z,List.any_cons,List.any_cons]
   cases metF t.1 (aR t x) p (hR x)<;>simp
 cases cE:t.2.1.2.length.beq 0 with
 | true =>
  have m0:=mE_eq t x false (hl cE)
  have m1:=mE_eq t x true (hl cE)
  cases hh:hR x with
  | false =>
   have q0:=e0.1 hh
   have q1:=e1.1 hh
   rw[hh] at hq ht q0 q1
   cases cT:anyM s t.1 t.2.1.2 (aR t x) false true<;>cases cF:anyM s t.1 t.2.1.2 (aR t x) false false <;>
    simp only[hq,ht,m0,m1,q0,q1,cT,cF,hh,cE,g1,ho,lrk0,lrk2,couR,sI_eq,cond_true,cond_false,Bool.or_true,Bool.or_false,Bool.true_or,Bool.not_true,Bool.not_false,show ieq 9 0=false from rfl,show ieq 0 0=true from rfl,show ieq 9 9=true from rfl,show ieq 1 2=false from rfl,show ieq 1 0=false from rfl,show ieq 2 2=true from rfl,show ieq 2 0=false from rfl,show ieq 0 2=false from rfl,show ieq 0 9=false from rfl] at h<;>exact .doneB (Y9_ok _) H9sy h rfl
  | true =>
   have q0:=e0.2 hh
   have q1:=e1.2 hh
   rw[hh] at hq ht q0 q1
   cases cT:anyM s t.1 t.2.1.2 (aR t x) true true<;>cases cF:anyM s t.1 t.2.1.2 (aR t x) true false <;>
    simp only[hq,ht,m0,m1,q0,q1,cT,cF,hh,cE,g1,ho,lrk0,lrk3,couR,sI_eq,cond_true,cond_false,Bool.or_true,Bool.or_false,Bool.true_or,Bool.not_true,Bool.not_false,show ieq 9 0=false from rfl,show ieq 0 0=true from rfl,show ieq 9 9=true from rfl,show ieq 1 2=false from rfl,show ieq 1 0=false from rfl,show ieq 2 2=true from rfl,show ieq 2 0=false from rfl,show ieq 0 2=false from rfl,show ieq 0 9=false from rfl] at h<;>exact .doneB (Y9_ok _) H9sy h rfl
 | false =>
  cases hh:hR x with
  | false =>
   have q0:=e0.1 hh
   have q1:=e1.1 hh
   rw[hh] at hq ht q0 q1
   cases cT:anyM s t.1 t.2.1.2 (aR t x) false true<;>cases cF:anyM s t.1 t.2.1.2 (aR t x) false false <;>
    simp only[hq,ht,n0,n1,f0,f1,p0,p1,o0,o1,q0,q1,cT,cF,hh,cE,g1,g2,g3,ho,lrk0,lrk1,lrk4,couR,sI_eq,cond_true,cond_false,Bool.or_true,Bool.or_false,Bool.true_or,Bool.and_true,Bool.not_true,Bool.not_false,show ieq 9 0=false from rfl,show ieq 0 0=true from rfl,show ieq 9 9=true from rfl,show ieq 1 2=false from rfl,show ieq 1 0=false from rfl,show ieq 2 2=true from rfl,show ieq 2 0=false from rfl,show ieq 0 2=false from rfl,show ieq 0 9=false from rfl] at h<;>exact .doneB (Y9_ok _) H9sy h rfl
  | true =>
   have q0:=e0.2 hh
   have q1:=e1.2 hh
   rw[hh] at hq ht q0 q1
   cases cT:anyM s t.1 t.2.1.2 (aR t x) true true<;>cases cF:anyM s t.1 t.2.1.2 (aR t x) true false <;>
    simp only[hq,ht,n0,n1,f0,f1,p0,p1,o0,o1,q0,q1,cT,cF,hh,cE,g1,g2,g3,ho,lrk0,lrk1,lrk5,couR,sI_eq,cond_true,cond_false,Bool.or_true,Bool.or_false,Bool.true_or,Bool.and_true,Bool.not_true,Bool.not_false,show ieq 9 0=false from rfl,show ieq 0 0=true from rfl,show ieq 9 9=true from rfl,show ieq 1 2=false from rfl,show ieq 1 0=false from rfl,show ieq 2 2=true from rfl,show ieq 2 0=false from rfl,show ieq 0 2=false from rfl,show ieq 0 9=false from rfl] at h<;>exact .doneB (Y9_ok _) H9sy h rfl
end Go.Proofs.YtelbaokiepcilaaGreatDoor


namespace Go.Proofs.YtelbaokiepcilaaGreatDoor
open Go Go.ChangeShapes Go.WideShapes Go.Eng
theorem kOwn:ownKnob Tryz.prog.godebug=none:=by kernel_rfl
theorem kPlain:(Rows.airReachedRow.laid.all fun x=>x.2.handleName?.isNone)=true:=by kernel_rfl
theorem kLaid:allT (glB Tryz.prog Rows.airReachedRow.laid) T0.gl (fun k=>k)=true:=by kernel_rfl
theorem kParams:Tryz.f3.params=#[26,33,35]:=by kernel_rfl
theorem kResults:Tryz.f3.resultTypes=#[4]:=by kernel_rfl
theorem kLaidOut:laidOutB Tryz.prog=true:=by kernel_rfl
theorem kRead:Tryz.f3.params.toList.all (fun t=>Tryz.prog.readableRec t&&decide (t<Tryz.prog.types.size))=true:=by kernel_rfl
theorem kFit1:fits Tryz.prog (tSt) 26=true:=by kernel_rfl
theorem kFit2:fits Tryz.prog (tTd) 33=true:=by kernel_rfl
theorem kFit3:fits Tryz.prog (tW3) 35=true:=by kernel_rfl
theorem kGlob:H9.glob=T0.gl.get:=rfl
theorem kExt (c1:(tSt).den) (c2:(tTd).den) (c3:(tW3).den):H9.ext 3 [tSt.av c1,tTd.av c2,tW3.av c3]=none:=ext_none (by kernel_rfl)
set_option maxRecDepth 100000 in
theorem kLifted (os:Os) (started:os.Started) (H:Type) (enc:TypeId×Value→H) :
  ReturnsInHanded {} Tryz.checked os 3 .any (fun w args=>(Rows.airReachedSpec.pre enc Tryz.prog Tryz.f3 [] false w args∧laidMetH Tryz.prog Rows.airReachedRow.laid w)∧sizedMet enc Tryz.prog Tryz.f3 (OpenSpec.ofChange Rows.airReachedSpec) false w args)
   (Rows.airReachedSpec.post enc Tryz.prog Tryz.f3 false true false false):=by
 refine returnsInHanded_of_change_and (C:=Tryz.checked) (X:=fun w _=>laidMetH Tryz.prog Rows.airReachedRow.laid w) (fun _ _ _ hh h=>h.of_heap hh) kOwn started (by kernel_rfl) Tryz.func3
  (ChangeSpec.witness_shaped (enc := enc) (C := Tryz.checked) (os := os) (X := fun w _ => laidMetH Tryz.prog Rows.airReachedRow.laid w) false (World.laidAll Tryz.prog os Rows.airReachedRow.laid) #[.agg #[.slice none 0 0, .int .i64 0, .int .i64 0, .int .i64 0, .int .i64 0], .agg #[.int .i64 0, .int .i64 0, .int .i64 0, .int .i64 0, .int .i64 0, .slice none 0 0], .agg #[.int .u16 0, .int .u16 0, .int .u16 0]] 8 (World.laidAll_os _ _ _)
   (World.shaped_of_ZipB (by kernel_rfl) (by kernel_rfl)) (by kernel_rfl) (by kernel_rfl) (by kernel_rfl)
   (by rw[MakeChecks.laidMetH_plain _ _ _ kPlain];exact laidMet_laidAll _ (by kernel_rfl) (by kernel_rfl))) ?_
 intro W base args ds gs before hok hW _ _ hL _
 have hL':laidMet Tryz.prog Rows.airReachedRow.laid W:=by rw[← MakeChecks.laidMetH_plain _ _ _ kPlain];exact hL
 have hW':=hW
 obtain⟨p,q,hA,_⟩:=hW
 rw[kParams] at hA
 obtain⟨v1,v2,v3,d1,d2,d3,p1,p2,p3,e1',e2',hp,t1,t2,t3⟩:=trodAll_three hA
 subst e1';subst e2'
 rw[kParams] at hok
 obtain⟨c1,h1,w1⟩:=arg_ty (t:=tSt) (hok 0 26 v1 rfl rfl) kFit1 t1
 obtain⟨c2,h2,w2⟩:=arg_ty (t:=tTd) (hok 1 33 v2 rfl rfl) kFit2 t2
 obtain⟨c3,h3,w3⟩:=arg_ty (t:=tW3) (hok 2 35 v3 rfl rfl) kFit3 t3
 obtain⟨σ,hrun⟩:=lre_true c1 c2 c3
 refine (law_run (A:=[v1,v2,v3]) (V:=Go.Eng.seen W) h9 xh9 nh9 tabs_ok.mix (kExt c1 c2 c3) hrun (.cons h1 (.cons h2 (.cons h3 (.nil _)))) (by kernel_rfl) (fun _ _ _ h=>h) (glob_of kGlob kLaid hL')).mono fun e W' ⟨he,hf⟩=>?_
 subst he
 exact⟨_,rfl,post_law kLaidOut kRead kResults Tryz.underlying4 rfl rfl hW' hf⟩
theorem kHolds:Rows.AirReachedSaid:=
 OpenClaim.holds_of_wide 3 Tryz.f3 rfl rfl rfl rfl rfl rfl rfl ⟨rfl,rfl,rfl,rfl,rfl⟩ rfl rfl rfl rfl rfl (by kernel_rfl) Tryz.func3 (by kernel_rfl)
  (of_decide_eq_true (by kernel_rfl)) (by unfold Func.isWrapper;first|(rw[if_pos (by decide +kernel)];kernel_rfl)|(rw[if_neg (by decide +kernel)];exact⟨rfl,rfl⟩))
  (fun os started H enc _=>kLifted os started H enc)
theorem airReached_holds:Rows.AirReachedCardSaid:=
 Claim7.holds_tied_plain_at .later [] Rows.airReachedCard.laidKinds true Rows.airReachedCard.stood.harness false
  kHolds (fun _ h=>by cases h) (by kernel_rfl) (fun _ h=>by cases h) airReached_row_tie rfl ⟨rfl,rfl⟩ (by kernel_rfl) rfl
  (fun f fn hf hfn => by
   obtain rfl : f = 3 := Option.some.inj ((show Tryz.prog.funcNamed "nore/norelaw06.AirReached" = some 3 by kernel_rfl).symm.trans hf) |>.symm
   obtain rfl:fn=Tryz.f3:=(Option.some.inj (Tryz.func3.symm.trans hfn)).symm
   exact⟨by kernel_rfl,fun j t ht=>by
    rw[kParams] at ht
    rcases j with _|_|_|j<;>simp at ht<;>subst ht<;>kernel_rfl⟩)
  (by kernel_rfl)
#print axioms airReached_holds
end Go.Proofs.YtelbaokiepcilaaGreatDoor

