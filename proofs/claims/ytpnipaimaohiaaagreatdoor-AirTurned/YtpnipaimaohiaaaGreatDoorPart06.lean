/-
  What is proved: norelaw06.AirTurned returns true for every station, night, reports and place by two numbers. Conditions: none but those of the given card (package-level variables start as the program's text lays them).
-/
import Derived.Test.YtpnipaimaohiaaaGreatDoorPart05
import Derived.Test.YtpnipaimaohiaaaGreatDoorPart03
import Derived.Test.YtpnipaimaohiaaaGreatDoorRows
import Derived.Test.YtpnipaimaohiaaaGreatDoorCards
import Derived.Test.YtpnipaimaohiaaaGreatDoorTie
import Derived.ProofKit
import Derived.LaidMore
import Derived.OpenShut
import Derived.Stop.Joined
import Derived.Lay
import Derived.SevenTiedAt
set_option linter.unusedSectionVars false
set_option linter.unusedSimpArgs false
set_option linter.unusedVariables false
set_option maxRecDepth 100000
namespace Go.Proofs.YtpnipaimaohiaaaGreatDoor
open Go Go.Eng
noncomputable def ffalQ0:Tmps:=(tmOf 33 [(0,(.yld 16)),(1,(pP 13 0)),(2,(pP 14 0)),(3,(pP 15 0)),(7,(.agg [(iI 400),(iI 420)])),(8,(iI 21)),(9,(iI 0))])
noncomputable def ffalQ1:Tmps:=(tmOf 45 [(0,(pP 6 0)),(1,(.bool false)),(2,(pP 8 0)),(3,(pP 9 0)),(4,.nils),(5,(pP 11 0)),(6,(pP 12 0)),(12,(.mp 10)),(13,(pP 6 0)),(14,(.bool false)),(15,(.fn 106 [] [(pP 13 0),(pP 14 0),(pP 15 0)]))])
noncomputable def ffalQ2:Tmps:=(tmOf 29 [(0,(.agg [(.vs tGr (false) (S0.1.2)),(iI 20),(iI 30),(iI 50),(iI 120)])),(1,(.agg [(iI 0),(iI 0),(iI 0),(iI 8),(iI 1)])),(2,(.vs tRe (false) ([rB,rC]))),(3,(pP 0 0)),(4,(pP 1 0)),(6,.nils),(7,(iI 0)),(8,(pP 6 0)),(9,(iI 0)),(11,(.tup [(pP 6 0),(iI 0)])),(12,(.agg [(.vs tGr (false) (S0.1.2)),(iI 20),(iI 30),(iI 50),(iI 120)])),(13,(.agg [(iI 0),(iI 0),(iI 0),(iI 8),(iI 1)])),(14,(.vs tRe (false) ([rB,rC]))),(15,(.tup [(pP 6 0),(iI 0)])),(16,(pP 6 0)),(17,(iI 0)),(18,(iI 0)),(19,(.bool false)),(21,(pP 6 0))])
noncomputable def ffalk1:AO:=(cF [(.vs tGr (false) (S0.1.2)),(iI 20),(iI 30),(iI 50),(iI 120)])
noncomputable def ffalk4:AO:=(cF [(iI 0),(iI 0),(iI 0),(iI 8),(iI 1)])
noncomputable def ffalk3:AO:=(cF [(.vs tGr (false) (S0.1.2)),(iI 20),(iI 30),(iI 50),(iI 120),(iI 0),(iI 0),(iI 0),(iI 8),(iI 1),(.sl 7 0 (2) (2) 6)])
noncomputable def ffalk0:AO:=(cF ([AV.int IntKind.i64 ([rB,rC].getD (Int.toNat 0) tRe.dflt).1.1,  AV.int IntKind.i64 ([rB,rC].getD (Int.toNat 0) tRe.dflt).1.2.1,AV.bool false,AV.bool false,  AV.int IntKind.i64     (wr .i64 (([rB,rC].getD (Int.toNat 0) tRe.dflt).1.1-N0.1.1) *         wr .i64 (([rB,rC].getD (Int.toNat 0) tRe.dflt).1.1-N0.1.1) +       wr .i64 (([rB,rC].getD (Int.toNat 0) tRe.dflt).1.2.1-N0.1.2.1) *         wr .i64 (([rB,rC].getD (Int.toNat 0) tRe.dflt).1.2.1-N0.1.2.1)),  AV.int IntKind.i64     (ptF (wr .i64 (([rB,rC].getD (Int.toNat 0) tRe.dflt).1.1-N0.1.1))       (wr .i64 (([rB,rC].getD (Int.toNat 0) tRe.dflt).1.2.1-N0.1.2.1))),  AV.int IntKind.i64 ([rB,rC].getD (wr .i64 (0+1)).toNat tRe.dflt).1.1,  AV.int IntKind.i64 ([rB,rC].getD (wr .i64 (0+1)).toNat tRe.dflt).1.2.1,AV.bool false,AV.bool false,  AV.int IntKind.i64     (wr .i64 (([rB,rC].getD (wr .i64 (0+1)).toNat tRe.dflt).1.1-N0.1.1) *         wr .i64 (([rB,rC].getD (wr .i64 (0+1)).toNat tRe.dflt).1.1-N0.1.1) +       wr .i64 (([rB,rC].getD (wr .i64 (0+1)).toNat tRe.dflt).1.2.1-N0.1.2.1) *         wr .i64 (([rB,rC].getD (wr .i64 (0+1)).toNat tRe.dflt).1.2.1-N0.1.2.1)),  AV.int IntKind.i64     (ptF (wr .i64 (([rB,rC].getD (wr .i64 (0+1)).toNat tRe.dflt).1.1-N0.1.1))       (wr .i64 (([rB,rC].getD (wr .i64 (0+1)).toNat tRe.dflt).1.2.1-N0.1.2.1)))]))
noncomputable def ffalk5:HD:=⟨16,45,39,(ffalQ1),#[16],(pcOf F8 50 [0,0,1,0,1,1,1]),(pcOf F8 50 [1,0,1,0,1,1,1])⟩
noncomputable def ffalk9 (z0:Nat):Fm:=(.lop (pcOf F8 106 [0,0,1]) 18 (ffalQ0) z0)
noncomputable def ffalk8:Fm:=(.cal [] (.rng (ffalQ1) [] 45 false ⟨39,[]⟩))
noncomputable def ffalk2:Fm:=(.cal [(.tmp 4)] (.op (pcOf F8 23 [0,1,1,1]) 2 (some 22) ((opsOf (pcOf F8 23 [0,1,1,1]).c).toList.drop 2) (ffalQ2) [] 29 false ⟨40,[]⟩))
noncomputable def ffalI0 (u:Unit) (x63:Nat):Cfg:=⟨.ex (pcOf F8 106 [0,0,1]) ⟨(ffalQ0),(hpOf 18 [(0,(ffalk1)),(1,(ffalk4)),(2,(ffalk1)),(3,(ffalk4)),(4,(ffalk1)),(5,(ffalk4)),(6,(ffalk3)),(7,(ffalk0)),(8,(cF [(pP 6 0)])),(9,(cF [(.bool false)])),(10,(.map ([]))),(11,(cF [(.mp 10)])),(12,(cF [.nils])),(13,(cF [(iI 400),(iI 420)])),(14,(cF [(iI 50),(iI 120)])),(15,(cF [(.fn 39 [] [])])),(17,(cF [(iI 400),(iI 420)]))]),[],[⟨false,.normal⟩],33,false⟩,⟨38,[(ffalk5)]⟩,[(ffalk9 x63),(.blk 0),(ffalk8),(.blk 0),(.seq (pcOf F8 50 [1,1,1,1])),(ffalk2),(.seq (pcOf F8 23 [1,1,1,1])),(.cal [(.tmp 6),(.tmp 7)] .top)]⟩
noncomputable def ffalQ3:Tmps:=(tmOf 33 [(0,(.yld 16)),(1,(pP 13 0)),(2,(pP 14 0)),(3,(pP 15 0)),(5,(iI 0)),(7,(.agg [(iI 400),(iI 420)])),(8,(iI 21)),(9,(iI 0)),(10,(.bool true)),(11,(iI 0)),(12,(.agg [(iI 50),(iI 120)])),(13,(iI 71)),(14,(iI 0))])
noncomputable def ffalk7:PC:=(pcOf F8 106 [0,0,1,1,0,0,1,1,0,0,1])
noncomputable def ffalI1 (u:Unit) (x79:Nat) (x84:Nat):Cfg:=⟨.ex (ffalk7) ⟨(ffalQ3),(hpOf 19 [(0,(ffalk1)),(1,(ffalk4)),(2,(ffalk1)),(3,(ffalk4)),(4,(ffalk1)),(5,(ffalk4)),(6,(ffalk3)),(7,(ffalk0)),(8,(cF [(pP 6 0)])),(9,(cF [(.bool false)])),(10,(.map ([]))),(11,(cF [(.mp 10)])),(12,(cF [.nils])),(13,(cF [(iI 400),(iI 420)])),(14,(cF [(iI 50),(iI 120)])),(15,(cF [(.fn 39 [] [])])),(17,(cF [(iI 400),(iI 420)])),(18,(cF [(iI 50),(iI 120)]))]),[],[⟨false,.normal⟩],33,false⟩,⟨38,[(ffalk5)]⟩,[(.lop (ffalk7) 19 (ffalQ3) x79),(.blk 2),(.blk 1),(.seq (pcOf F8 106 [1,1,1,0,0,1])),(ffalk9 x84),(.blk 0),(ffalk8),(.blk 0),(.seq (pcOf F8 50 [1,1,1,1])),(ffalk2),(.seq (pcOf F8 23 [1,1,1,1])),(.cal [(.tmp 6),(.tmp 7)] .top)]⟩
noncomputable def ffalQ4 (y0:Int):Tmps:=(tmOf 33 [(0,(.yld 16)),(1,(pP 13 0)),(2,(pP 14 0)),(3,(pP 15 0)),(5,(iI 0)),(7,(.agg [(iI 400),(iI 420)])),(8,(iI 21)),(9,(iI 0)),(10,(.bool true)),(11,(iI 0)),(12,(.agg [(iI 50),(iI 120)])),(13,(iI 71)),(14,(iI y0))])
noncomputable def ffalI2 (u:Unit) (x10:Int) (x81:Nat) (x86:Nat):Cfg:=⟨.ex (ffalk7) ⟨(ffalQ4 x10),(hpOf 20 [(0,(ffalk1)),(1,(ffalk4)),(2,(ffalk1)),(3,(ffalk4)),(4,(ffalk1)),(5,(ffalk4)),(6,(ffalk3)),(7,(ffalk0)),(8,(cF [(pP 6 0)])),(9,(cF [(.bool false)])),(10,(.map ([(AV.int IntKind.u64       (IntKind.u64.wrap         ↑(BitVec.ofInt IntKind.u64.bits 0 |||               BitVec.ofInt IntKind.u64.bits (IntKind.u64.wrap (1 * 2 ^ min (Int.toNat 0) IntKind.u64.bits))).toNat),    AV.bool true)]))),(11,(cF [(.mp 10)])),(12,(cF [(.sl 19 0 (1) (1) 1)])),(13,(cF [(iI 400),(iI 420)])),(14,(cF [(iI 50),(iI 120)])),(15,(cF [(.fn 39 [] [])])),(17,(cF [(iI 400),(iI 420)])),(18,(cF [(iI 50),(iI 120)])),(19,(cF ([AV.csl [AV.int IntKind.i64 (wr .i64 (0+1))] 1])))]),[],[⟨false,.normal⟩],33,false⟩,⟨38,[(ffalk5)]⟩,[(.lop (ffalk7) 19 (ffalQ3) x81),(.blk 2),(.blk 1),(.seq (pcOf F8 106 [1,1,1,0,0,1])),(ffalk9 x86),(.blk 0),(ffalk8),(.blk 0),(.seq (pcOf F8 50 [1,1,1,1])),(ffalk2),(.seq (pcOf F8 23 [1,1,1,1])),(.cal [(.tmp 6),(.tmp 7)] .top)]⟩
noncomputable def ffalk6:AO:=(cF ([AV.csl [AV.int IntKind.i64 (wr .i64 (0+1))] 1,  AV.csl [AV.int IntKind.i64 0,AV.int IntKind.i64 (wr .i64 (0+1))] (1+1)]))
noncomputable def ffalI3 (u:Unit) (x10:Int) (x81:Nat) (x86:Nat):Cfg:=⟨.ex (ffalk7) ⟨(ffalQ4 x10),(hpOf 20 [(0,(ffalk1)),(1,(ffalk4)),(2,(ffalk1)),(3,(ffalk4)),(4,(ffalk1)),(5,(ffalk4)),(6,(ffalk3)),(7,(ffalk0)),(8,(cF [(pP 6 0)])),(9,(cF [(.bool false)])),(10,(.map ([(AV.int IntKind.u64       (IntKind.u64.wrap         ↑(BitVec.ofInt IntKind.u64.bits 0 |||               BitVec.ofInt IntKind.u64.bits (IntKind.u64.wrap (1 * 2 ^ min (Int.toNat 0) IntKind.u64.bits))).toNat),    AV.bool true),  (AV.int IntKind.u64 0,AV.bool true)]))),(11,(cF [(.mp 10)])),(12,(cF [(.sl 19 0 (2) (2) 1)])),(13,(cF [(iI 400),(iI 420)])),(14,(cF [(iI 50),(iI 120)])),(15,(cF [(.fn 39 [] [])])),(17,(cF [(iI 400),(iI 420)])),(18,(cF [(iI 50),(iI 120)])),(19,(ffalk6))]),[],[⟨false,.normal⟩],33,false⟩,⟨38,[(ffalk5)]⟩,[(.lop (ffalk7) 19 (ffalQ3) x81),(.blk 2),(.blk 1),(.seq (pcOf F8 106 [1,1,1,0,0,1])),(ffalk9 x86),(.blk 0),(ffalk8),(.blk 0),(.seq (pcOf F8 50 [1,1,1,1])),(ffalk2),(.seq (pcOf F8 23 [1,1,1,1])),(.cal [(.tmp 6),(.tmp 7)] .top)]⟩
noncomputable def ffalQ5 (y0:Int):Tmps:=(tmOf 33 [(0,(.yld 16)),(1,(pP 13 0)),(2,(pP 14 0)),(3,(pP 15 0)),(7,(.agg [(iI 400),(iI 420)])),(8,(iI 21)),(9,(iI y0))])
noncomputable def ffalI4 (u:Unit) (x3:Int) (x65:Nat):Cfg:=⟨.ex (pcOf F8 106 [0,0,1]) ⟨(ffalQ5 x3),(hpOf 19 [(0,(ffalk1)),(1,(ffalk4)),(2,(ffalk1)),(3,(ffalk4)),(4,(ffalk1)),(5,(ffalk4)),(6,(ffalk3)),(7,(ffalk0)),(8,(cF [(pP 6 0)])),(9,(cF [(.bool false)])),(10,(.map ([(AV.int IntKind.u64       (IntKind.u64.wrap         ↑(BitVec.ofInt IntKind.u64.bits 0 |||               BitVec.ofInt IntKind.u64.bits (IntKind.u64.wrap (1 * 2 ^ min (Int.toNat 0) IntKind.u64.bits))).toNat),    AV.bool true)]))),(11,(cF [(.mp 10)])),(12,(cF [(.sl 18 0 (1) (1) 1)])),(13,(cF [(iI 400),(iI 420)])),(14,(cF [(iI 50),(iI 120)])),(15,(cF [(.fn 39 [] [])])),(17,(cF [(iI 400),(iI 420)])),(18,(cF ([AV.csl [AV.int IntKind.i64 (wr .i64 (0+1))] 1])))]),[],[⟨false,.normal⟩],33,false⟩,⟨38,[(ffalk5)]⟩,[(ffalk9 x65),(.blk 0),(ffalk8),(.blk 0),(.seq (pcOf F8 50 [1,1,1,1])),(ffalk2),(.seq (pcOf F8 23 [1,1,1,1])),(.cal [(.tmp 6),(.tmp 7)] .top)]⟩
noncomputable def ffalI5 (u:Unit) (x3:Int) (x65:Nat):Cfg:=⟨.ex (pcOf F8 106 [0,0,1]) ⟨(ffalQ5 x3),(hpOf 19 [(0,(ffalk1)),(1,(ffalk4)),(2,(ffalk1)),(3,(ffalk4)),(4,(ffalk1)),(5,(ffalk4)),(6,(ffalk3)),(7,(ffalk0)),(8,(cF [(pP 6 0)])),(9,(cF [(.bool false)])),(10,(.map ([(AV.int IntKind.u64       (IntKind.u64.wrap         ↑(BitVec.ofInt IntKind.u64.bits 0 |||               BitVec.ofInt IntKind.u64.bits (IntKind.u64.wrap (1 * 2 ^ min (Int.toNat 0) IntKind.u64.bits))).toNat),    AV.bool true),  (AV.int IntKind.u64 0,AV.bool true)]))),(11,(cF [(.mp 10)])),(12,(cF [(.sl 18 0 (2) (2) 1)])),(13,(cF [(iI 400),(iI 420)])),(14,(cF [(iI 50),(iI 120)])),(15,(cF [(.fn 39 [] [])])),(17,(cF [(iI 400),(iI 420)])),(18,(ffalk6))]),[],[⟨false,.normal⟩],33,false⟩,⟨38,[(ffalk5)]⟩,[(ffalk9 x65),(.blk 0),(ffalk8),(.blk 0),(.seq (pcOf F8 50 [1,1,1,1])),(ffalk2),(.seq (pcOf F8 23 [1,1,1,1])),(.cal [(.tmp 6),(.tmp 7)] .top)]⟩
noncomputable def ffalQ6 (y0:Int) (y1:Int):Tmps:=(tmOf 33 [(0,(.yld 16)),(1,(pP 13 0)),(2,(pP 14 0)),(3,(pP 15 0)),(5,(iI y0)),(7,(.agg [(iI 400),(iI 420)])),(8,(iI 21)),(9,(iI y0)),(10,(.bool true)),(11,(iI y0)),(12,(.agg [(iI 50),(iI 120)])),(13,(iI 71)),(14,(iI y1))])
noncomputable def ffalQ7 (y0:Int):Tmps:=(tmOf 33 [(0,(.yld 16)),(1,(pP 13 0)),(2,(pP 14 0)),(3,(pP 15 0)),(5,(iI y0)),(7,(.agg [(iI 400),(iI 420)])),(8,(iI 21)),(9,(iI y0)),(10,(.bool true)),(11,(iI y0)),(12,(.agg [(iI 50),(iI 120)])),(13,(iI 71)),(14,(iI 0))])
noncomputable def ffalI6 (u:Unit) (x0:Int) (x10:Int) (x81:Nat) (x86:Nat):Cfg:=⟨.ex (ffalk7) ⟨(ffalQ6 x0 x10),(hpOf 20 [(0,(ffalk1)),(1,(ffalk4)),(2,(ffalk1)),(3,(ffalk4)),(4,(ffalk1)),(5,(ffalk4)),(6,(ffalk3)),(7,(ffalk0)),(8,(cF [(pP 6 0)])),(9,(cF [(.bool false)])),(10,(.map ([(AV.int IntKind.u64       (IntKind.u64.wrap         ↑(BitVec.ofInt IntKind.u64.bits 0 |||               BitVec.ofInt IntKind.u64.bits (IntKind.u64.wrap (1 * 2 ^ min (Int.toNat 0) IntKind.u64.bits))).toNat),    AV.bool true)]))),(11,(cF [(.mp 10)])),(12,(cF [(.sl 18 0 (1) (1) 1)])),(13,(cF [(iI 400),(iI 420)])),(14,(cF [(iI 50),(iI 120)])),(15,(cF [(.fn 39 [] [])])),(17,(cF [(iI 400),(iI 420)])),(18,(cF ([AV.csl [AV.int IntKind.i64 (wr .i64 (0+1))] 1]))),(19,(cF [(iI 50),(iI 120)]))]),[],[⟨false,.normal⟩],33,false⟩,⟨38,[(ffalk5)]⟩,[(.lop (ffalk7) 20 (ffalQ7 x0) x81),(.blk 2),(.blk 1),(.seq (pcOf F8 106 [1,1,1,0,0,1])),(ffalk9 x86),(.blk 0),(ffalk8),(.blk 0),(.seq (pcOf F8 50 [1,1,1,1])),(ffalk2),(.seq (pcOf F8 23 [1,1,1,1])),(.cal [(.tmp 6),(.tmp 7)] .top)]⟩
noncomputable def ffalI7 (u:Unit) (x0:Int) (x10:Int) (x81:Nat) (x86:Nat):Cfg:=⟨.ex (ffalk7) ⟨(ffalQ6 x0 x10),(hpOf 20 [(0,(ffalk1)),(1,(ffalk4)),(2,(ffalk1)),(3,(ffalk4)),(4,(ffalk1)),(5,(ffalk4)),(6,(ffalk3)),(7,(ffalk0)),(8,(cF [(pP 6 0)])),(9,(cF [(.bool false)])),(10,(.map ([(AV.int IntKind.u64       (IntKind.u64.wrap         ↑(BitVec.ofInt IntKind.u64.bits 0 |||               BitVec.ofInt IntKind.u64.bits (IntKind.u64.wrap (1 * 2 ^ min (Int.toNat 0) IntKind.u64.bits))).toNat),    AV.bool true),  (AV.int IntKind.u64 0,AV.bool true)]))),(11,(cF [(.mp 10)])),(12,(cF [(.sl 18 0 (2) (2) 1)])),(13,(cF [(iI 400),(iI 420)])),(14,(cF [(iI 50),(iI 120)])),(15,(cF [(.fn 39 [] [])])),(17,(cF [(iI 400),(iI 420)])),(18,(ffalk6)),(19,(cF [(iI 50),(iI 120)]))]),[],[⟨false,.normal⟩],33,false⟩,⟨38,[(ffalk5)]⟩,[(.lop (ffalk7) 20 (ffalQ7 x0) x81),(.blk 2),(.blk 1),(.seq (pcOf F8 106 [1,1,1,0,0,1])),(ffalk9 x86),(.blk 0),(ffalk8),(.blk 0),(.seq (pcOf F8 50 [1,1,1,1])),(ffalk2),(.seq (pcOf F8 23 [1,1,1,1])),(.cal [(.tmp 6),(.tmp 7)] .top)]⟩
noncomputable def ffalI8 (u:Unit) (x0:Int) (x10:Int) (x81:Nat) (x86:Nat):Cfg:=⟨.ex (ffalk7) ⟨(ffalQ6 x0 x10),(hpOf 21 [(0,(ffalk1)),(1,(ffalk4)),(2,(ffalk1)),(3,(ffalk4)),(4,(ffalk1)),(5,(ffalk4)),(6,(ffalk3)),(7,(ffalk0)),(8,(cF [(pP 6 0)])),(9,(cF [(.bool false)])),(10,(.map ([(AV.int IntKind.u64       (IntKind.u64.wrap         ↑(BitVec.ofInt IntKind.u64.bits 0 |||               BitVec.ofInt IntKind.u64.bits (IntKind.u64.wrap (1 * 2 ^ min (Int.toNat 0) IntKind.u64.bits))).toNat),    AV.bool true),  (AV.int IntKind.u64 0,AV.bool true)]))),(11,(cF [(.mp 10)])),(12,(cF [(.sl 20 0 (2) (2) 1)])),(13,(cF [(iI 400),(iI 420)])),(14,(cF [(iI 50),(iI 120)])),(15,(cF [(.fn 39 [] [])])),(17,(cF [(iI 400),(iI 420)])),(18,.gone),(19,(cF [(iI 50),(iI 120)])),(20,(ffalk6))]),[],[⟨false,.normal⟩],33,false⟩,⟨38,[(ffalk5)]⟩,[(.lop (ffalk7) 20 (ffalQ7 x0) x81),(.blk 2),(.blk 1),(.seq (pcOf F8 106 [1,1,1,0,0,1])),(ffalk9 x86),(.blk 0),(ffalk8),(.blk 0),(.seq (pcOf F8 50 [1,1,1,1])),(ffalk2),(.seq (pcOf F8 23 [1,1,1,1])),(.cal [(.tmp 6),(.tmp 7)] .top)]⟩
theorem ffal_start (u:Unit):adv F8 (Z8 [106]) 30000 (startC F8 23 [tSt.av S0,tNi.av N0,.vs tRe false [rB,rC]] 40)=some (.stop (ffalI0 u (1048575))):=by kernel_rfl
theorem ffal_step0 (u:Unit) (x63:Nat):adv F8 (Z8 [106]) 30000 (ffalI0 u (x63+1))=some (.stop (ffalI1 u (1048575) (x63+1))):=by kernel_rfl
theorem ffal_step1 (u:Unit) (x79:Nat) (x84:Nat):adv F8 (Z8 [106]) 30000 (ffalI1 u (x79+1) (x84+1))=(bif bif ieq 169000000 100000000 then lcO (wr .i64 (400+0)) (wr .i64 (50+0)) 169000000&&snO (wr .i64 (400+0)) (wr .i64 (50+0)) 169000000 else bif frst (wr .i64 (400+0)) (wr .i64 (50+0)) 169000000 then lcO (wr .i64 (400+0)) (wr .i64 (50+0)) 169000000&&!snO (wr .i64 (400+0)) (wr .i64 (50+0)) 169000000 else lcO (wr .i64 (400+0)) (wr .i64 (50+0)) 169000000 then (bif bif ieq 100000000 100000000 then lcO (wr .i64 (400+0)) (wr .i64 (50+0)) 100000000&&snO (wr .i64 (400+0)) (wr .i64 (50+0)) 100000000 else bif frst (wr .i64 (400+0)) (wr .i64 (50+0)) 100000000 then lcO (wr .i64 (400+0)) (wr .i64 (50+0)) 100000000&&!snO (wr .i64 (400+0)) (wr .i64 (50+0)) 100000000 else lcO (wr .i64 (400+0)) (wr .i64 (50+0)) 100000000 then some (.stop (ffalI2 u (1) (x79) (x84+1))) else none) else none):=by kernel_rfl
theorem ffal_step2 (u:Unit) (x10:Int) (x81:Nat) (x86:Nat):adv F8 (Z8 [106]) 30000 (ffalI2 u x10 (x81+1) (x86+1))=(bif !ile 71 x10 then (bif bif ieq 169000000 100000000 then lcO (wr .i64 (400+0)) (wr .i64 (50+x10)) 169000000&&snO (wr .i64 (400+0)) (wr .i64 (50+x10)) 169000000 else bif frst (wr .i64 (400+0)) (wr .i64 (50+x10)) 169000000 then lcO (wr .i64 (400+0)) (wr .i64 (50+x10)) 169000000&&!snO (wr .i64 (400+0)) (wr .i64 (50+x10)) 169000000 else lcO (wr .i64 (400+0)) (wr .i64 (50+x10)) 169000000 then (bif false == bif frst (wr .i64 (400+0)) (wr .i64 (50+x10)) 169000000 then false else snO (wr .i64 (400+0)) (wr .i64 (50+x10)) 169000000 then (bif bif ieq 100000000 100000000 then lcO (wr .i64 (400+0)) (wr .i64 (50+x10)) 100000000&&snO (wr .i64 (400+0)) (wr .i64 (50+x10)) 100000000 else bif frst (wr .i64 (400+0)) (wr .i64 (50+x10)) 100000000 then lcO (wr .i64 (400+0)) (wr .i64 (50+x10)) 100000000&&!snO (wr .i64 (400+0)) (wr .i64 (50+x10)) 100000000 else lcO (wr .i64 (400+0)) (wr .i64 (50+x10)) 100000000 then some (.stop (ffalI2 u (wr .i64 (x10+1)) (x81) (x86+1))) else none) else (bif bif ieq 100000000 100000000 then lcO (wr .i64 (400+0)) (wr .i64 (50+x10)) 100000000&&snO (wr .i64 (400+0)) (wr .i64 (50+x10)) 100000000 else bif frst (wr .i64 (400+0)) (wr .i64 (50+x10)) 100000000 then lcO (wr .i64 (400+0)) (wr .i64 (50+x10)) 100000000&&!snO (wr .i64 (400+0)) (wr .i64 (50+x10)) 100000000 else lcO (wr .i64 (400+0)) (wr .i64 (50+x10)) 100000000 then some (.stop (ffalI3 u (wr .i64 (x10+1)) (x81) (x86+1))) else none)) else none) else some (.stop (ffalI4 u (1) (x86)))):=by kernel_rfl
theorem ffal_step3 (u:Unit) (x10:Int) (x81:Nat) (x86:Nat):adv F8 (Z8 [106]) 30000 (ffalI3 u x10 (x81+1) (x86+1))=(bif !ile 71 x10 then (bif bif ieq 169000000 100000000 then lcO (wr .i64 (400+0)) (wr .i64 (50+x10)) 169000000&&snO (wr .i64 (400+0)) (wr .i64 (50+x10)) 169000000 else bif frst (wr .i64 (400+0)) (wr .i64 (50+x10)) 169000000 then lcO (wr .i64 (400+0)) (wr .i64 (50+x10)) 169000000&&!snO (wr .i64 (400+0)) (wr .i64 (50+x10)) 169000000 else lcO (wr .i64 (400+0)) (wr .i64 (50+x10)) 169000000 then (bif false == bif frst (wr .i64 (400+0)) (wr .i64 (50+x10)) 169000000 then false else snO (wr .i64 (400+0)) (wr .i64 (50+x10)) 169000000 then (bif bif ieq 100000000 100000000 then lcO (wr .i64 (400+0)) (wr .i64 (50+x10)) 100000000&&snO (wr .i64 (400+0)) (wr .i64 (50+x10)) 100000000 else bif frst (wr .i64 (400+0)) (wr .i64 (50+x10)) 100000000 then lcO (wr .i64 (400+0)) (wr .i64 (50+x10)) 100000000&&!snO (wr .i64 (400+0)) (wr .i64 (50+x10)) 100000000 else lcO (wr .i64 (400+0)) (wr .i64 (50+x10)) 100000000 then some (.stop (ffalI3 u (wr .i64 (x10+1)) (x81) (x86+1))) else none) else (bif bif ieq 100000000 100000000 then lcO (wr .i64 (400+0)) (wr .i64 (50+x10)) 100000000&&snO (wr .i64 (400+0)) (wr .i64 (50+x10)) 100000000 else bif frst (wr .i64 (400+0)) (wr .i64 (50+x10)) 100000000 then lcO (wr .i64 (400+0)) (wr .i64 (50+x10)) 100000000&&!snO (wr .i64 (400+0)) (wr .i64 (50+x10)) 100000000 else lcO (wr .i64 (400+0)) (wr .i64 (50+x10)) 100000000 then some (.stop (ffalI3 u (wr .i64 (x10+1)) (x81) (x86+1))) else none)) else none) else some (.stop (ffalI5 u (1) (x86)))):=by kernel_rfl
theorem ffal_step4 (u:Unit) (x3:Int) (x65:Nat):adv F8 (Z8 [106]) 30000 (ffalI4 u x3 (x65+1))=(bif !ile 21 x3 then some (.stop (ffalI6 u (x3) (0) (1048575) (x65+1))) else some (.done (.tup [(.csl [(.int .i64 (1))] 1),(.int .i64 (0))]))):=by kernel_rfl
theorem ffal_step5 (u:Unit) (x3:Int) (x65:Nat):adv F8 (Z8 [106]) 30000 (ffalI5 u x3 (x65+1))=(bif !ile 21 x3 then some (.stop (ffalI7 u (x3) (0) (1048575) (x65+1))) else some (.done (.tup [(.csl [(.int .i64 (1))] 1),(.int .i64 (0))]))):=by kernel_rfl
theorem ffal_step6 (u:Unit) (x0:Int) (x10:Int) (x81:Nat) (x86:Nat):adv F8 (Z8 [106]) 30000 (ffalI6 u x0 x10 (x81+1) (x86+1))=(bif !ile 71 x10 then (bif bif ieq 169000000 100000000 then lcO (wr .i64 (400+x0)) (wr .i64 (50+x10)) 169000000&&snO (wr .i64 (400+x0)) (wr .i64 (50+x10)) 169000000 else bif frst (wr .i64 (400+x0)) (wr .i64 (50+x10)) 169000000 then lcO (wr .i64 (400+x0)) (wr .i64 (50+x10)) 169000000&&!snO (wr .i64 (400+x0)) (wr .i64 (50+x10)) 169000000 else lcO (wr .i64 (400+x0)) (wr .i64 (50+x10)) 169000000 then (bif false == bif frst (wr .i64 (400+x0)) (wr .i64 (50+x10)) 169000000 then false else snO (wr .i64 (400+x0)) (wr .i64 (50+x10)) 169000000 then (bif bif ieq 100000000 100000000 then lcO (wr .i64 (400+x0)) (wr .i64 (50+x10)) 100000000&&snO (wr .i64 (400+x0)) (wr .i64 (50+x10)) 100000000 else bif frst (wr .i64 (400+x0)) (wr .i64 (50+x10)) 100000000 then lcO (wr .i64 (400+x0)) (wr .i64 (50+x10)) 100000000&&!snO (wr .i64 (400+x0)) (wr .i64 (50+x10)) 100000000 else lcO (wr .i64 (400+x0)) (wr .i64 (50+x10)) 100000000 then some (.stop (ffalI6 u (x0) (wr .i64 (x10+1)) (x81) (x86+1))) else none) else (bif bif ieq 100000000 100000000 then lcO (wr .i64 (400+x0)) (wr .i64 (50+x10)) 100000000&&snO (wr .i64 (400+x0)) (wr .i64 (50+x10)) 100000000 else bif frst (wr .i64 (400+x0)) (wr .i64 (50+x10)) 100000000 then lcO (wr .i64 (400+x0)) (wr .i64 (50+x10)) 100000000&&!snO (wr .i64 (400+x0)) (wr .i64 (50+x10)) 100000000 else lcO (wr .i64 (400+x0)) (wr .i64 (50+x10)) 100000000 then some (.stop (ffalI8 u (x0) (wr .i64 (x10+1)) (x81) (x86+1))) else none)) else none) else some (.stop (ffalI4 u (wr .i64 (x0+1)) (x86)))):=by kernel_rfl
theorem ffal_step7 (u:Unit) (x0:Int) (x10:Int) (x81:Nat) (x86:Nat):adv F8 (Z8 [106]) 30000 (ffalI7 u x0 x10 (x81+1) (x86+1))=(bif !ile 71 x10 then (bif bif ieq 169000000 100000000 then lcO (wr .i64 (400+x0)) (wr .i64 (50+x10)) 169000000&&snO (wr .i64 (400+x0)) (wr .i64 (50+x10)) 169000000 else bif frst (wr .i64 (400+x0)) (wr .i64 (50+x10)) 169000000 then lcO (wr .i64 (400+x0)) (wr .i64 (50+x10)) 169000000&&!snO (wr .i64 (400+x0)) (wr .i64 (50+x10)) 169000000 else lcO (wr .i64 (400+x0)) (wr .i64 (50+x10)) 169000000 then (bif false == bif frst (wr .i64 (400+x0)) (wr .i64 (50+x10)) 169000000 then false else snO (wr .i64 (400+x0)) (wr .i64 (50+x10)) 169000000 then (bif bif ieq 100000000 100000000 then lcO (wr .i64 (400+x0)) (wr .i64 (50+x10)) 100000000&&snO (wr .i64 (400+x0)) (wr .i64 (50+x10)) 100000000 else bif frst (wr .i64 (400+x0)) (wr .i64 (50+x10)) 100000000 then lcO (wr .i64 (400+x0)) (wr .i64 (50+x10)) 100000000&&!snO (wr .i64 (400+x0)) (wr .i64 (50+x10)) 100000000 else lcO (wr .i64 (400+x0)) (wr .i64 (50+x10)) 100000000 then some (.stop (ffalI7 u (x0) (wr .i64 (x10+1)) (x81) (x86+1))) else none) else (bif bif ieq 100000000 100000000 then lcO (wr .i64 (400+x0)) (wr .i64 (50+x10)) 100000000&&snO (wr .i64 (400+x0)) (wr .i64 (50+x10)) 100000000 else bif frst (wr .i64 (400+x0)) (wr .i64 (50+x10)) 100000000 then lcO (wr .i64 (400+x0)) (wr .i64 (50+x10)) 100000000&&!snO (wr .i64 (400+x0)) (wr .i64 (50+x10)) 100000000 else lcO (wr .i64 (400+x0)) (wr .i64 (50+x10)) 100000000 then some (.stop (ffalI7 u (x0) (wr .i64 (x10+1)) (x81) (x86+1))) else none)) else none) else some (.stop (ffalI5 u (wr .i64 (x0+1)) (x86)))):=by kernel_rfl
theorem ffal_step8 (u:Unit) (x0:Int) (x10:Int) (x81:Nat) (x86:Nat):adv F8 (Z8 [106]) 30000 (ffalI8 u x0 x10 (x81+1) (x86+1))=(bif !ile 71 x10 then (bif bif ieq 169000000 100000000 then lcO (wr .i64 (400+x0)) (wr .i64 (50+x10)) 169000000&&snO (wr .i64 (400+x0)) (wr .i64 (50+x10)) 169000000 else bif frst (wr .i64 (400+x0)) (wr .i64 (50+x10)) 169000000 then lcO (wr .i64 (400+x0)) (wr .i64 (50+x10)) 169000000&&!snO (wr .i64 (400+x0)) (wr .i64 (50+x10)) 169000000 else lcO (wr .i64 (400+x0)) (wr .i64 (50+x10)) 169000000 then (bif false == bif frst (wr .i64 (400+x0)) (wr .i64 (50+x10)) 169000000 then false else snO (wr .i64 (400+x0)) (wr .i64 (50+x10)) 169000000 then (bif bif ieq 100000000 100000000 then lcO (wr .i64 (400+x0)) (wr .i64 (50+x10)) 100000000&&snO (wr .i64 (400+x0)) (wr .i64 (50+x10)) 100000000 else bif frst (wr .i64 (400+x0)) (wr .i64 (50+x10)) 100000000 then lcO (wr .i64 (400+x0)) (wr .i64 (50+x10)) 100000000&&!snO (wr .i64 (400+x0)) (wr .i64 (50+x10)) 100000000 else lcO (wr .i64 (400+x0)) (wr .i64 (50+x10)) 100000000 then some (.stop (ffalI8 u (x0) (wr .i64 (x10+1)) (x81) (x86+1))) else none) else (bif bif ieq 100000000 100000000 then lcO (wr .i64 (400+x0)) (wr .i64 (50+x10)) 100000000&&snO (wr .i64 (400+x0)) (wr .i64 (50+x10)) 100000000 else bif frst (wr .i64 (400+x0)) (wr .i64 (50+x10)) 100000000 then lcO (wr .i64 (400+x0)) (wr .i64 (50+x10)) 100000000&&!snO (wr .i64 (400+x0)) (wr .i64 (50+x10)) 100000000 else lcO (wr .i64 (400+x0)) (wr .i64 (50+x10)) 100000000 then some (.stop (ffalI8 u (x0) (wr .i64 (x10+1)) (x81) (x86+1))) else none)) else none) else some (.stop (ffalI5 u (wr .i64 (x0+1)) (x86)))):=by kernel_rfl
theorem sn_fst:seenF 400 50 169000000=false:=by kernel_rfl
theorem fr_ok {i k:Nat} (hi:i≤20) (hk:k≤70):(bif frst (400+(i:Int)) (50+(k:Int)) 169000000 then lcO (400+(i:Int)) (50+(k:Int)) 169000000&&!snO (400+(i:Int)) (50+(k:Int)) 169000000 else lcO (400+(i:Int)) (50+(k:Int)) 169000000)=true:=by
 have l:=lc_in (q:=169000000) hi hk (by decide) (by decide)
 rw[lcO_eq,snO_eq,l]
 cases e:frst (400+(i:Int)) (50+(k:Int)) 169000000 with
 |false=>rfl
 |true=>
  unfold frst at e
  simp only[Bool.and_eq_true] at e
  rw[ieq_t e.1.2,ieq_t e.2,sn_fst];rfl
theorem sn_ok {i k:Nat} (hi:i≤20) (hk:k≤70):(lcO (400+(i:Int)) (50+(k:Int)) 100000000&&snO (400+(i:Int)) (50+(k:Int)) 100000000)=true:=by
 rw[lcO_eq,snO_eq,lc_in (q:=100000000) hi hk (by decide) (by decide),sn_in hi hk];rfl
noncomputable def falV:AV:=.tup [.csl [.int .i64 1] 1,.int .i64 0]
theorem w400:wr .i64 (400+0)=400+((0:Nat):Int):=rfl
theorem w50:wr .i64 (50+0)=50+((0:Nat):Int):=rfl
theorem fal3 (M:Nat) (ke:Ans F8 (ffalI5 () ((1:Nat):Int) M) falV):∀ (r k m:Nat),k+r=71→r<m→Ans F8 (ffalI3 () k m (M+1)) falV
 |0,k,m+1,hk,hm=>by
  have h:=ffal_step3 () k m M
  have e:k=71:=by omega
  subst e
  rw[show ile 71 ((71:Nat):Int)=true from rfl,Bool.not_true,cond_false] at h
  exact .stop (Z8_ok _) F8sy h ke
 | r + 1, k, m + 1, hk, hm => by
  have h:=ffal_step3 () k m M
  have e1:ile 71 (k:Int)=false:=ile_f (by omega)
  rw[wr_succ (show k<1048577 by omega),wr_in (n:=50+(k:Int)) (by omega) (by omega)] at h
  simp only[w400,e1,show ieq 169000000 100000000=false from rfl,ieq_self,fr_ok (i:=0) (show (0:Nat)≤20 by omega) (show k≤70 by omega),sn_ok (i:=0) (show (0:Nat)≤20 by omega) (show k≤70 by omega),Bool.not_false,cond_true,cond_false] at h
  generalize (bif frst (400+((0:Nat):Int)) (50+(k:Int)) 169000000 then false else snO (400+((0:Nat):Int)) (50+(k:Int)) 169000000)=b at h
  cases b with
  |false=>
   rw[show (false == false)=true from rfl,cond_true] at h
   exact .stop (Z8_ok _) F8sy h (fal3 M ke r (k+1) m (by omega) (by omega))
  |true=>
   rw[show (false == true)=false from rfl,cond_false] at h
   exact .stop (Z8_ok _) F8sy h (fal3 M ke r (k+1) m (by omega) (by omega))
theorem fal2 (M:Nat) (ke:Ans F8 (ffalI4 () ((1:Nat):Int) M) falV) (ko:∀ (r k m:Nat),k+r=71→r<m→Ans F8 (ffalI3 () k m (M+1)) falV):∀ (r k m:Nat),k+r=71→r<m→Ans F8 (ffalI2 () k m (M+1)) falV
 |0,k,m+1,hk,hm=>by
  have h:=ffal_step2 () k m M
  have e:k=71:=by omega
  subst e
  rw[show ile 71 ((71:Nat):Int)=true from rfl,Bool.not_true,cond_false] at h
  exact .stop (Z8_ok _) F8sy h ke
 | r + 1, k, m + 1, hk, hm => by
  have h:=ffal_step2 () k m M
  have e1:ile 71 (k:Int)=false:=ile_f (by omega)
  rw[wr_succ (show k<1048577 by omega),wr_in (n:=50+(k:Int)) (by omega) (by omega)] at h
  simp only[w400,e1,show ieq 169000000 100000000=false from rfl,ieq_self,fr_ok (i:=0) (show (0:Nat)≤20 by omega) (show k≤70 by omega),sn_ok (i:=0) (show (0:Nat)≤20 by omega) (show k≤70 by omega),Bool.not_false,cond_true,cond_false] at h
  generalize (bif frst (400+((0:Nat):Int)) (50+(k:Int)) 169000000 then false else snO (400+((0:Nat):Int)) (50+(k:Int)) 169000000)=b at h
  cases b with
  |false=>
   rw[show (false == false)=true from rfl,cond_true] at h
   exact .stop (Z8_ok _) F8sy h (fal2 M ke ko r (k+1) m (by omega) (by omega))
  |true=>
   rw[show (false == true)=false from rfl,cond_false] at h
   exact .stop (Z8_ok _) F8sy h (ko r (k+1) m (by omega) (by omega))
theorem fal8 (i:Nat) (hi:i≤20) (M:Nat) (ke:Ans F8 (ffalI5 () ((i+1:Nat):Int) M) falV):∀ (r k m:Nat),k+r=71→r<m→Ans F8 (ffalI8 () i k m (M+1)) falV
 |0,k,m+1,hk,hm=>by
  have h:=ffal_step8 () i k m M
  have e:k=71:=by omega
  subst e
  rw[show ile 71 ((71:Nat):Int)=true from rfl,Bool.not_true,cond_false,wr_succ (show i<1048577 by omega)] at h
  exact .stop (Z8_ok _) F8sy h ke
 | r + 1, k, m + 1, hk, hm => by
  have h:=ffal_step8 () i k m M
  have e1:ile 71 (k:Int)=false:=ile_f (by omega)
  rw[wr_succ (show k<1048577 by omega),wr_in (n:=50+(k:Int)) (by omega) (by omega)] at h
  simp only[wr_in (n:=400+(i:Int)) (by omega) (by omega),e1,show ieq 169000000 100000000=false from rfl,ieq_self,fr_ok (i:=i) hi (show k≤70 by omega),sn_ok (i:=i) hi (show k≤70 by omega),Bool.not_false,cond_true,cond_false] at h
  generalize (bif frst (400+((i:Nat):Int)) (50+(k:Int)) 169000000 then false else snO (400+((i:Nat):Int)) (50+(k:Int)) 169000000)=b at h
  cases b with
  |false=>
   rw[show (false == false)=true from rfl,cond_true] at h
   exact .stop (Z8_ok _) F8sy h (fal8 i hi M ke r (k+1) m (by omega) (by omega))
  |true=>
   rw[show (false == true)=false from rfl,cond_false] at h
   exact .stop (Z8_ok _) F8sy h (fal8 i hi M ke r (k+1) m (by omega) (by omega))
theorem fal7 (i:Nat) (hi:i≤20) (M:Nat) (ke:Ans F8 (ffalI5 () ((i+1:Nat):Int) M) falV):∀ (r k m:Nat),k+r=71→r<m→Ans F8 (ffalI7 () i k m (M+1)) falV
 |0,k,m+1,hk,hm=>by
  have h:=ffal_step7 () i k m M
  have e:k=71:=by omega
  subst e
  rw[show ile 71 ((71:Nat):Int)=true from rfl,Bool.not_true,cond_false,wr_succ (show i<1048577 by omega)] at h
  exact .stop (Z8_ok _) F8sy h ke
 | r + 1, k, m + 1, hk, hm => by
  have h:=ffal_step7 () i k m M
  have e1:ile 71 (k:Int)=false:=ile_f (by omega)
  rw[wr_succ (show k<1048577 by omega),wr_in (n:=50+(k:Int)) (by omega) (by omega)] at h
  simp only[wr_in (n:=400+(i:Int)) (by omega) (by omega),e1,show ieq 169000000 100000000=false from rfl,ieq_self,fr_ok (i:=i) hi (show k≤70 by omega),sn_ok (i:=i) hi (show k≤70 by omega),Bool.not_false,cond_true,cond_false] at h
  generalize (bif frst (400+((i:Nat):Int)) (50+(k:Int)) 169000000 then false else snO (400+((i:Nat):Int)) (50+(k:Int)) 169000000)=b at h
  cases b with
  |false=>
   rw[show (false == false)=true from rfl,cond_true] at h
   exact .stop (Z8_ok _) F8sy h (fal7 i hi M ke r (k+1) m (by omega) (by omega))
  |true=>
   rw[show (false == true)=false from rfl,cond_false] at h
   exact .stop (Z8_ok _) F8sy h (fal7 i hi M ke r (k+1) m (by omega) (by omega))
theorem fal6 (i:Nat) (hi:i≤20) (M:Nat) (ke:Ans F8 (ffalI4 () ((i+1:Nat):Int) M) falV) (ko:∀ (r k m:Nat),k+r=71→r<m→Ans F8 (ffalI8 () i k m (M+1)) falV):∀ (r k m:Nat),k+r=71→r<m→Ans F8 (ffalI6 () i k m (M+1)) falV
 |0,k,m+1,hk,hm=>by
  have h:=ffal_step6 () i k m M
  have e:k=71:=by omega
  subst e
  rw[show ile 71 ((71:Nat):Int)=true from rfl,Bool.not_true,cond_false,wr_succ (show i<1048577 by omega)] at h
  exact .stop (Z8_ok _) F8sy h ke
 | r + 1, k, m + 1, hk, hm => by
  have h:=ffal_step6 () i k m M
  have e1:ile 71 (k:Int)=false:=ile_f (by omega)
  rw[wr_succ (show k<1048577 by omega),wr_in (n:=50+(k:Int)) (by omega) (by omega)] at h
  simp only[wr_in (n:=400+(i:Int)) (by omega) (by omega),e1,show ieq 169000000 100000000=false from rfl,ieq_self,fr_ok (i:=i) hi (show k≤70 by omega),sn_ok (i:=i) hi (show k≤70 by omega),Bool.not_false,cond_true,cond_false] at h
  generalize (bif frst (400+((i:Nat):Int)) (50+(k:Int)) 169000000 then false else snO (400+((i:Nat):Int)) (50+(k:Int)) 169000000)=b at h
  cases b with
  |false=>
   rw[show (false == false)=true from rfl,cond_true] at h
   exact .stop (Z8_ok _) F8sy h (fal6 i hi M ke ko r (k+1) m (by omega) (by omega))
  |true=>
   rw[show (false == true)=false from rfl,cond_false] at h
   exact .stop (Z8_ok _) F8sy h (ko r (k+1) m (by omega) (by omega))
theorem fal_out:∀ (r i:Nat),i+r=21→1≤i→(∀ m,r<m→Ans F8 (ffalI4 () i m) falV)∧(∀ m,r<m→Ans F8 (ffalI5 () i m) falV)
 |0,i,hi,h1=>by
  have e:i=21:=by omega
  subst e
  constructor
  · intro m hm
    obtain⟨m,rfl⟩:∃ m',m=m'+1:=⟨m-1,by omega⟩
    have h:=ffal_step4 () ((21:Nat):Int) m
    rw[show ile 21 ((21:Nat):Int)=true from rfl,Bool.not_true,cond_false] at h
    exact .done (Z8_ok _) F8sy h rfl
  · intro m hm
    obtain⟨m,rfl⟩:∃ m',m=m'+1:=⟨m-1,by omega⟩
    have h:=ffal_step5 () ((21:Nat):Int) m
    rw[show ile 21 ((21:Nat):Int)=true from rfl,Bool.not_true,cond_false] at h
    exact .done (Z8_ok _) F8sy h rfl
 |r+1,i,hi,h1=>by
  obtain⟨k4,k5⟩:=fal_out r (i+1) (by omega) (by omega)
  constructor
  · intro m hm
    obtain⟨m,rfl⟩:∃ m',m=m'+1:=⟨m-1,by omega⟩
    have h:=ffal_step4 () (i:Int) m
    rw[show ile 21 (i:Int)=false from ile_f (by omega),Bool.not_false,cond_true] at h
    exact .stop (Z8_ok _) F8sy h (fal6 i (by omega) m (k4 m (by omega)) (fun r k m' a b=>fal8 i (by omega) m (k5 m (by omega)) r k m' a b) 71 0 1048575 (by omega) (by omega))
  · intro m hm
    obtain⟨m,rfl⟩:∃ m',m=m'+1:=⟨m-1,by omega⟩
    have h:=ffal_step5 () (i:Int) m
    rw[show ile 21 (i:Int)=false from ile_f (by omega),Bool.not_false,cond_true] at h
    exact .stop (Z8_ok _) F8sy h (fal7 i (by omega) m (k5 m (by omega)) 71 0 1048575 (by omega) (by omega))
theorem ffal_ans:Ans F8 (startC F8 23 [tSt.av S0,tNi.av N0,.vs tRe false [rB,rC]] 40) falV:=by
 obtain⟨k4,k5⟩:=fal_out 20 1 (by omega) (by omega)
 have h0:=ffal_step0 () 1048574
 have h1:=ffal_step1 () 1048574 1048574
 simp only[w400,w50,show ieq 169000000 100000000=false from rfl,ieq_self,fr_ok (i:=0) (k:=0) (by omega) (by omega),sn_ok (i:=0) (k:=0) (by omega) (by omega),cond_true,cond_false] at h1
 exact .stop (Z8_ok _) F8sy (ffal_start ()) (.stop (Z8_ok _) F8sy h0 (.stop (Z8_ok _) F8sy h1 (fal2 1048574 (k4 _ (by omega)) (fun r k m' a b=>fal3 1048574 (k5 _ (by omega)) r k m' a b) 70 1 1048574 (by omega) (by omega))))
end Go.Proofs.YtpnipaimaohiaaaGreatDoor


set_option maxRecDepth 100000
namespace Go.Proofs.YtpnipaimaohiaaaGreatDoor
open Go Go.Eng
noncomputable def LG:List Said:=[(40,con2 tP tP (fun l s=>lcO l.1 l.2.1 s.1) (fun l s=>.bool (snO l.1 l.2.1 s.1)))]
theorem LG_ok:∀ e∈LG,SaidG Tryz.prog F2.glob e:=
 saids_cons (SaidOK.g f2 xf2 nf2 tabs_ok.mix (fun _ _ h=>con2_spec (t:=tP) (u:=tP) (fun l s hc=>by
  rw[lcO_eq] at hc
  rw[snO_eq]
  exact lrea_call l s hc) h) rfl) saids_nil
noncomputable def FG:Env:=F6.say (under (xOf LG))
noncomputable def F11:Env:={ FG with iv:=some 97 }
theorem f11:EnvOK Tryz.prog F11:=by
 have h:EnvOK Tryz.prog FG:=f6.say _
 refine⟨fun t k ht=>?_,h.zero,h.fn,h.eqok,h.meth⟩
 obtain⟨h1,h2⟩:=h.ty t k ht
 refine⟨h1,?_⟩
 cases k<;>exact h2
theorem nf11:NameOK F11:=nf6.say (under (xOf LG))
theorem xf11:ExtOK Tryz.prog F11:=xf6.sayL (L:=LG) LG_ok
theorem F11sy:F11.sy=true:=rfl
noncomputable def Z11 (l:List Nat):Sy:={ (Z6 []).on LG l with pl:=false }
theorem Z11_ok (l:List Nat):(Z11 l).ok F11:=Sy.on_ok (E:=F6) (L:=LG) (hd:=l) (Z6_ok _)
noncomputable def ZP (l:List Nat):Sy:={ (Z6 []).on LG l with nf:=[3] }
theorem ZP_ok (l:List Nat):(ZP l).ok F11:=Sy.on_ok (E:=F6) (L:=LG) (hd:=l) (Z6_ok _)
noncomputable def ZQ (l:List Nat):Sy:=(ZP l).flat [22,23,24,28,29,30,31,32,33,34]
theorem ZQ_ok (l:List Nat):(ZQ l).ok F11:=ZP_ok l
end Go.Proofs.YtpnipaimaohiaaaGreatDoor


set_option maxRecDepth 100000
namespace Go.Proofs.YtpnipaimaohiaaaGreatDoor
open Go Go.Eng
noncomputable def fgrsQ0:Tmps:=(tmOf 33 [(0,(.yld 20)),(1,(pP 17 0)),(2,(pP 18 0)),(3,(pP 19 0)),(7,(.agg [(iI 400),(iI 420)])),(8,(iI 21)),(9,(iI 0))])
noncomputable def fgrsQ1:Tmps:=(tmOf 24 [(0,(.yld 15)),(1,(pP 12 0)),(2,(pP 13 0)),(3,(pP 16 0)),(7,(pP 11 0)),(8,(.bool false)),(9,(.fn 106 [] [(pP 17 0),(pP 18 0),(pP 19 0)]))])
noncomputable def fgrsQ2:Tmps:=(tmOf 13 [(0,.nils),(1,(.fn 55 [] [(pP 12 0),(pP 13 0)])),(2,(pP 14 0)),(4,.nils),(6,(.fn 55 [] [(pP 12 0),(pP 13 0)]))])
noncomputable def fgrsk0:AO:=(cF [(.vs tGr (false) (S0.1.2)),(iI 20),(iI 30),(iI 50),(iI 120)])
noncomputable def fgrsI0 (q:Int) (x64:Nat):Cfg:=⟨.ex (pcOf F11 106 [0,0,1]) ⟨(fgrsQ0),(hpOf 22 [(0,(fgrsk0)),(1,(cF [(iI 0),(iI 0),(iI 0),(iI 8),(iI 1)])),(2,(.cells true [(iI (q))])),(3,(cF [(.fn 59 [] [(pP 4 0),(pP 5 0),(pP 6 0)])])),(4,(cF [(iI 0)])),(5,(cF [(iI 60000)])),(6,(cF [(.csl [(iI (q))] 1)])),(7,(fgrsk0)),(8,(cF [(iI 0),(iI 0),(iI 0),(iI 8),(iI 1)])),(9,(fgrsk0)),(10,(cF [(iI 0),(iI 0),(iI 0),(iI 8),(iI 1)])),(11,(cF [(.vs tGr (false) (S0.1.2)),(iI 20),(iI 30),(iI 50),(iI 120),(iI 0),(iI 0),(iI 0),(iI 8),(iI 1),.nils])),(12,(cF [(pP 11 0)])),(13,(cF [(.bool false)])),(14,(cF [.nils])),(16,(cF [(.yld 15)])),(17,(cF [(iI 400),(iI 420)])),(18,(cF [(iI 50),(iI 120)])),(19,(cF [(.fn 39 [] [])])),(21,(cF [(iI 400),(iI 420)]))]),[],[⟨false,.normal⟩,⟨false,.normal⟩],33,false⟩,⟨36,[⟨20,24,37,(fgrsQ1),#[10],(pcOf F11 55 [0,0,1,1,0,1]),(pcOf F11 55 [1,0,1,1,0,1])⟩,⟨15,13,38,(fgrsQ2),#[7],(pcOf F11 64 [0,0,1,0,1]),(pcOf F11 64 [1,0,1,0,1])⟩]⟩,[(.lop (pcOf F11 106 [0,0,1]) 22 (fgrsQ0) x64),(.blk 0),(.cal [] (.rng (fgrsQ1) [] 24 false ⟨37,[⟨15,13,38,(fgrsQ2),#[7],(pcOf F11 64 [0,0,1,0,1]),(pcOf F11 64 [1,0,1,0,1])⟩]⟩)),(.blk 0),(.cal [] (.rng (fgrsQ2) [] 13 false ⟨38,[]⟩)),(.blk 0),(.seq (pcOf F11 64 [1,1])),(.cal [(.tmp 4)] (.op (pcOf F11 47 [0,1]) 2 (some 4) ((opsOf (pcOf F11 47 [0,1]).c).toList.drop 2) (tmOf 5 [(0,(.fn 55 [] [(pP 12 0),(pP 13 0)])),(2,.nils),(3,(.fn 55 [] [(pP 12 0),(pP 13 0)]))]) [] 5 false ⟨39,[]⟩)),(.seq (pcOf F11 47 [1,1])),(.cal [(.tmp 2)] (.op (pcOf F11 22 [0,1,1,1]) 3 (some 31) ((opsOf (pcOf F11 22 [0,1,1,1]).c).toList.drop 3) (tmOf 50 [(0,(.agg [(.vs tGr (false) (S0.1.2)),(iI 20),(iI 30),(iI 50),(iI 120)])),(1,(.agg [(iI 0),(iI 0),(iI 0),(iI 8),(iI 1)])),(2,(.vs tRe (true) ([]))),(3,(iI (q))),(4,(pP 0 0)),(5,(pP 1 0)),(8,(iI 0)),(9,(iI 0)),(10,(pP 11 0)),(11,(iI 0)),(15,(.tup [(pP 11 0),(iI 0)])),(16,(.agg [(.vs tGr (false) (S0.1.2)),(iI 20),(iI 30),(iI 50),(iI 120)])),(17,(.agg [(iI 0),(iI 0),(iI 0),(iI 8),(iI 1)])),(18,(.vs tRe (true) ([]))),(19,(iI (q))),(20,(.sl 2 0 (1) (1) 1)),(21,(.fn 59 [] [(pP 4 0),(pP 5 0),(pP 6 0)])),(22,(.sl 3 0 (1) (1) 1)),(23,(.tup [(pP 11 0),(iI 0)])),(24,(pP 11 0)),(25,(iI 0)),(26,(iI 0)),(27,(.bool false)),(29,(pP 11 0)),(30,(.fn 55 [] [(pP 12 0),(pP 13 0)]))]) [] 50 false ⟨40,[]⟩)),(.seq (pcOf F11 22 [1,1,1,1])),(.cal [(.tmp 8),(.tmp 9)] .top)]⟩
theorem fgrs_start (q:Int):adv F11 (Z11 [106]) 3000 (startC F11 22 [tSt.av S0,tNi.av N0,.vs tRe true [],.int .i64 q] 40)=(bif !ile 0 q then some (.done (.tup [(.int .i64 (0)),(.int .i64 (7))])) else (bif !ile q 60000 then some (.done (.tup [(.int .i64 (0)),(.int .i64 (7))])) else some (.stop (fgrsI0 q (1048575))))):=by kernel_rfl
end Go.Proofs.YtpnipaimaohiaaaGreatDoor


set_option maxRecDepth 100000
namespace Go.Proofs.YtpnipaimaohiaaaGreatDoor
open Go Go.Eng
noncomputable def fgraQ0:Tmps:=(tmOf 33 [(0,(.yld 20)),(1,(pP 17 0)),(2,(pP 18 0)),(3,(pP 19 0)),(5,(iI 0)),(7,(.agg [(iI 400),(iI 420)])),(8,(iI 21)),(9,(iI 0)),(10,(.bool true)),(11,(iI 0)),(12,(.agg [(iI 50),(iI 120)])),(13,(iI 71)),(14,(iI 0))])
noncomputable def fgraQ1:Tmps:=(tmOf 24 [(0,(.yld 15)),(1,(pP 12 0)),(2,(pP 13 0)),(3,(pP 16 0)),(7,(pP 11 0)),(8,(.bool false)),(9,(.fn 106 [] [(pP 17 0),(pP 18 0),(pP 19 0)]))])
noncomputable def fgraQ2:Tmps:=(tmOf 13 [(0,.nils),(1,(.fn 55 [] [(pP 12 0),(pP 13 0)])),(2,(pP 14 0)),(4,.nils),(6,(.fn 55 [] [(pP 12 0),(pP 13 0)]))])
noncomputable def fgraQ3:Tmps:=(tmOf 33 [(0,(.yld 20)),(1,(pP 17 0)),(2,(pP 18 0)),(3,(pP 19 0)),(7,(.agg [(iI 400),(iI 420)])),(8,(iI 21)),(9,(iI 0))])
noncomputable def fgraQ4 (q:Int):Tmps:=(tmOf 50 [(0,(.agg [(.vs tGr (false) (S0.1.2)),(iI 20),(iI 30),(iI 50),(iI 120)])),(1,(.agg [(iI 0),(iI 0),(iI 0),(iI 8),(iI 1)])),(2,(.vs tRe (true) ([]))),(3,(iI (q))),(4,(pP 0 0)),(5,(pP 1 0)),(8,(iI 0)),(9,(iI 0)),(10,(pP 11 0)),(11,(iI 0)),(15,(.tup [(pP 11 0),(iI 0)])),(16,(.agg [(.vs tGr (false) (S0.1.2)),(iI 20),(iI 30),(iI 50),(iI 120)])),(17,(.agg [(iI 0),(iI 0),(iI 0),(iI 8),(iI 1)])),(18,(.vs tRe (true) ([]))),(19,(iI (q))),(20,(.sl 2 0 (1) (1) 1)),(21,(.fn 59 [] [(pP 4 0),(pP 5 0),(pP 6 0)])),(22,(.sl 3 0 (1) (1) 1)),(23,(.tup [(pP 11 0),(iI 0)])),(24,(pP 11 0)),(25,(iI 0)),(26,(iI 0)),(27,(.bool false)),(29,(pP 11 0)),(30,(.fn 55 [] [(pP 12 0),(pP 13 0)]))])
noncomputable def fgrak7:PC:=(pcOf F11 106 [0,0,1,1,0,0,1,1,0,0,1])
noncomputable def fgrak0:AO:=(cF [(.vs tGr (false) (S0.1.2)),(iI 20),(iI 30),(iI 50),(iI 120)])
noncomputable def fgrak4:AO:=(cF [(iI 0),(iI 0),(iI 0),(iI 8),(iI 1)])
noncomputable def fgrak9:AO:=(cF [(.fn 59 [] [(pP 4 0),(pP 5 0),(pP 6 0)])])
noncomputable def fgrak5:AO:=(cF [(.vs tGr (false) (S0.1.2)),(iI 20),(iI 30),(iI 50),(iI 120),(iI 0),(iI 0),(iI 0),(iI 8),(iI 1),.nils])
noncomputable def fgrak6:HD:=⟨20,24,37,(fgraQ1),#[10],(pcOf F11 55 [0,0,1,1,0,1]),(pcOf F11 55 [1,0,1,1,0,1])⟩
noncomputable def fgrak2:HD:=⟨15,13,38,(fgraQ2),#[7],(pcOf F11 64 [0,0,1,0,1]),(pcOf F11 64 [1,0,1,0,1])⟩
noncomputable def fgrak11 (z0:Nat):Fm:=(.lop (pcOf F11 106 [0,0,1]) 22 (fgraQ3) z0)
noncomputable def fgrak8:Fm:=(.cal [] (.rng (fgraQ1) [] 24 false ⟨37,[(fgrak2)]⟩))
noncomputable def fgrak10:Fm:=(.cal [] (.rng (fgraQ2) [] 13 false ⟨38,[]⟩))
noncomputable def fgrak1:Fm:=(.cal [(.tmp 4)] (.op (pcOf F11 47 [0,1]) 2 (some 4) ((opsOf (pcOf F11 47 [0,1]).c).toList.drop 2) (tmOf 5 [(0,(.fn 55 [] [(pP 12 0),(pP 13 0)])),(2,.nils),(3,(.fn 55 [] [(pP 12 0),(pP 13 0)]))]) [] 5 false ⟨39,[]⟩))
noncomputable def fgrak3 (z0:Int):Fm:=(.cal [(.tmp 2)] (.op (pcOf F11 22 [0,1,1,1]) 3 (some 31) ((opsOf (pcOf F11 22 [0,1,1,1]).c).toList.drop 3) (fgraQ4 z0) [] 50 false ⟨40,[]⟩))
noncomputable def fgraI0 (q:Int) (x80:Nat):Cfg:=⟨.ex (fgrak7) ⟨(fgraQ0),(hpOf 23 [(0,(fgrak0)),(1,(fgrak4)),(2,(.cells true [(iI (q))])),(3,(fgrak9)),(4,(cF [(iI 0)])),(5,(cF [(iI 60000)])),(6,(cF [(.csl [(iI (q))] 1)])),(7,(fgrak0)),(8,(fgrak4)),(9,(fgrak0)),(10,(fgrak4)),(11,(fgrak5)),(12,(cF [(pP 11 0)])),(13,(cF [(.bool false)])),(14,(cF [.nils])),(16,(cF [(.yld 15)])),(17,(cF [(iI 400),(iI 420)])),(18,(cF [(iI 50),(iI 120)])),(19,(cF [(.fn 39 [] [])])),(21,(cF [(iI 400),(iI 420)])),(22,(cF [(iI 50),(iI 120)]))]),[],[⟨false,.normal⟩,⟨false,.normal⟩],33,false⟩,⟨36,[(fgrak6),(fgrak2)]⟩,[(.lop (fgrak7) 23 (fgraQ0) x80),(.blk 2),(.blk 1),(.seq (pcOf F11 106 [1,1,1,0,0,1])),(fgrak11 x80),(.blk 0),(fgrak8),(.blk 0),(fgrak10),(.blk 0),(.seq (pcOf F11 64 [1,1])),(fgrak1),(.seq (pcOf F11 47 [1,1])),(fgrak3 q),(.seq (pcOf F11 22 [1,1,1,1])),(.cal [(.tmp 8),(.tmp 9)] .top)]⟩
noncomputable def fgraI1 (q:Int) (x10:Int) (x60:Nat) (x70:List AV) (x83:Nat) (x88:Nat):Cfg:=⟨.ex (fgrak7) ⟨(tmOf 33 [(0,(.yld 20)),(1,(pP 17 0)),(2,(pP 18 0)),(3,(pP 19 0)),(5,(iI 0)),(7,(.agg [(iI 400),(iI 420)])),(8,(iI 21)),(9,(iI 0)),(10,(.bool true)),(11,(iI 0)),(12,(.agg [(iI 50),(iI 120)])),(13,(iI 71)),(14,(iI x10))]),(hpOf 24 [(0,(fgrak0)),(1,(fgrak4)),(2,(.cells true [(iI (q))])),(3,(fgrak9)),(4,(cF [(iI 0)])),(5,(cF [(iI 60000)])),(6,(cF [(.csl [(iI (q))] 1)])),(7,(fgrak0)),(8,(fgrak4)),(9,(fgrak0)),(10,(fgrak4)),(11,(fgrak5)),(12,(cF [(pP 11 0)])),(13,(cF [(.bool false)])),(14,(cF [(.sl 23 0 x60 x60 1)])),(16,(cF [(.yld 15)])),(17,(cF [(iI 400),(iI 420)])),(18,(cF [(iI 50),(iI 120)])),(19,(cF [(.fn 39 [] [])])),(21,(cF [(iI 400),(iI 420)])),(22,(cF [(iI 50),(iI 120)])),(23,(cF x70))]),[],[⟨false,.normal⟩,⟨false,.normal⟩],33,false⟩,⟨36,[(fgrak6),(fgrak2)]⟩,[(.lop (fgrak7) 23 (fgraQ0) x83),(.blk 2),(.blk 1),(.seq (pcOf F11 106 [1,1,1,0,0,1])),(fgrak11 x88),(.blk 0),(fgrak8),(.blk 0),(fgrak10),(.blk 0),(.seq (pcOf F11 64 [1,1])),(fgrak1),(.seq (pcOf F11 47 [1,1])),(fgrak3 q),(.seq (pcOf F11 22 [1,1,1,1])),(.cal [(.tmp 8),(.tmp 9)] .top)]⟩
noncomputable def fgraI2 (q:Int) (x3:Int) (x53:Nat) (x61:List AV) (x67:Nat):Cfg:=⟨.ex (pcOf F11 106 [0,0,1]) ⟨(tmOf 33 [(0,(.yld 20)),(1,(pP 17 0)),(2,(pP 18 0)),(3,(pP 19 0)),(7,(.agg [(iI 400),(iI 420)])),(8,(iI 21)),(9,(iI x3))]),(hpOf 23 [(0,(fgrak0)),(1,(fgrak4)),(2,(.cells true [(iI (q))])),(3,(fgrak9)),(4,(cF [(iI 0)])),(5,(cF [(iI 60000)])),(6,(cF [(.csl [(iI (q))] 1)])),(7,(fgrak0)),(8,(fgrak4)),(9,(fgrak0)),(10,(fgrak4)),(11,(fgrak5)),(12,(cF [(pP 11 0)])),(13,(cF [(.bool false)])),(14,(cF [(.sl 22 0 x53 x53 1)])),(16,(cF [(.yld 15)])),(17,(cF [(iI 400),(iI 420)])),(18,(cF [(iI 50),(iI 120)])),(19,(cF [(.fn 39 [] [])])),(21,(cF [(iI 400),(iI 420)])),(22,(cF x61))]),[],[⟨false,.normal⟩,⟨false,.normal⟩],33,false⟩,⟨36,[(fgrak6),(fgrak2)]⟩,[(fgrak11 x67),(.blk 0),(fgrak8),(.blk 0),(fgrak10),(.blk 0),(.seq (pcOf F11 64 [1,1])),(fgrak1),(.seq (pcOf F11 47 [1,1])),(fgrak3 q),(.seq (pcOf F11 22 [1,1,1,1])),(.cal [(.tmp 8),(.tmp 9)] .top)]⟩
noncomputable def fgraQ5 (y0:Int):Tmps:=(tmOf 33 [(0,(.yld 20)),(1,(pP 17 0)),(2,(pP 18 0)),(3,(pP 19 0)),(5,(iI y0)),(7,(.agg [(iI 400),(iI 420)])),(8,(iI 21)),(9,(iI y0)),(10,(.bool true)),(11,(iI y0)),(12,(.agg [(iI 50),(iI 120)])),(13,(iI 71)),(14,(iI 0))])
noncomputable def fgraI3 (q:Int) (x0:Int) (x60:Nat) (x68:List AV) (x83:Nat) (x88:Nat):Cfg:=⟨.ex (fgrak7) ⟨(fgraQ5 x0),(hpOf 24 [(0,(fgrak0)),(1,(fgrak4)),(2,(.cells true [(iI (q))])),(3,(fgrak9)),(4,(cF [(iI 0)])),(5,(cF [(iI 60000)])),(6,(cF [(.csl [(iI (q))] 1)])),(7,(fgrak0)),(8,(fgrak4)),(9,(fgrak0)),(10,(fgrak4)),(11,(fgrak5)),(12,(cF [(pP 11 0)])),(13,(cF [(.bool false)])),(14,(cF [(.sl 22 0 x60 x60 1)])),(16,(cF [(.yld 15)])),(17,(cF [(iI 400),(iI 420)])),(18,(cF [(iI 50),(iI 120)])),(19,(cF [(.fn 39 [] [])])),(21,(cF [(iI 400),(iI 420)])),(22,(cF x68)),(23,(cF [(iI 50),(iI 120)]))]),[],[⟨false,.normal⟩,⟨false,.normal⟩],33,false⟩,⟨36,[(fgrak6),(fgrak2)]⟩,[(.lop (fgrak7) 24 (fgraQ5 x0) x83),(.blk 2),(.blk 1),(.seq (pcOf F11 106 [1,1,1,0,0,1])),(fgrak11 x88),(.blk 0),(fgrak8),(.blk 0),(fgrak10),(.blk 0),(.seq (pcOf F11 64 [1,1])),(fgrak1),(.seq (pcOf F11 47 [1,1])),(fgrak3 q),(.seq (pcOf F11 22 [1,1,1,1])),(.cal [(.tmp 8),(.tmp 9)] .top)]⟩
noncomputable def fgraI4 (q:Int) (x0:Int) (x10:Int) (x60:Nat) (x70:List AV) (x83:Nat) (x88:Nat):Cfg:=⟨.ex (fgrak7) ⟨(tmOf 33 [(0,(.yld 20)),(1,(pP 17 0)),(2,(pP 18 0)),(3,(pP 19 0)),(5,(iI x0)),(7,(.agg [(iI 400),(iI 420)])),(8,(iI 21)),(9,(iI x0)),(10,(.bool true)),(11,(iI x0)),(12,(.agg [(iI 50),(iI 120)])),(13,(iI 71)),(14,(iI x10))]),(hpOf 25 [(0,(fgrak0)),(1,(fgrak4)),(2,(.cells true [(iI (q))])),(3,(fgrak9)),(4,(cF [(iI 0)])),(5,(cF [(iI 60000)])),(6,(cF [(.csl [(iI (q))] 1)])),(7,(fgrak0)),(8,(fgrak4)),(9,(fgrak0)),(10,(fgrak4)),(11,(fgrak5)),(12,(cF [(pP 11 0)])),(13,(cF [(.bool false)])),(14,(cF [(.sl 24 0 x60 x60 1)])),(16,(cF [(.yld 15)])),(17,(cF [(iI 400),(iI 420)])),(18,(cF [(iI 50),(iI 120)])),(19,(cF [(.fn 39 [] [])])),(21,(cF [(iI 400),(iI 420)])),(22,.gone),(23,(cF [(iI 50),(iI 120)])),(24,(cF x70))]),[],[⟨false,.normal⟩,⟨false,.normal⟩],33,false⟩,⟨36,[(fgrak6),(fgrak2)]⟩,[(.lop (fgrak7) 24 (fgraQ5 x0) x83),(.blk 2),(.blk 1),(.seq (pcOf F11 106 [1,1,1,0,0,1])),(fgrak11 x88),(.blk 0),(fgrak8),(.blk 0),(fgrak10),(.blk 0),(.seq (pcOf F11 64 [1,1])),(fgrak1),(.seq (pcOf F11 47 [1,1])),(fgrak3 q),(.seq (pcOf F11 22 [1,1,1,1])),(.cal [(.tmp 8),(.tmp 9)] .top)]⟩
theorem fgra_start (q:Int):adv F11 (ZQ [106,49]) 6000 (fgrsI0 q 1048575)=some (.stop (fgraI0 q (1048575))):=by kernel_rfl
theorem fgra_step0 (q:Int) (x80:Nat):adv F11 (ZQ [106,49]) 6000 (fgraI0 q (x80+1))=some (.stop (fgraI1 q (1) (1) ([AV.ifc 97 (AV.agg [AV.int IntKind.i64 (wr .i64 (400+0)),AV.int IntKind.i64 (wr .i64 (50+0))])]) (x80) (x80+1))):=by kernel_rfl
theorem fgra_step1 (q:Int) (x10:Int) (x60:Nat) (x70:List AV) (x83:Nat) (x88:Nat):adv F11 (ZQ [106,49]) 6000 (fgraI1 q x10 x60 x70 (x83+1) (x88+1))=(bif !ile 71 x10 then (bif (0+x60 * 1).beq x70.length then (bif x60.ble 1048576 then (bif plO (AO.cells false (x70++[AV.ifc 97 (AV.agg [AV.int IntKind.i64 (wr .i64 (400+0)),AV.int IntKind.i64 (wr .i64 (50+x10))])])) then some (.stop (fgraI1 q (wr .i64 (x10+1)) (x60+1) (x70++[AV.ifc 97 (AV.agg [AV.int IntKind.i64 (wr .i64 (400+0)),AV.int IntKind.i64 (wr .i64 (50+x10))])]) (x83) (x88+1))) else none) else none) else none) else (bif plO (AO.cells false x70) then some (.stop (fgraI2 q (1) (x60) (x70) (x88))) else none)):=by kernel_rfl
theorem fgra_step2 (q:Int) (x3:Int) (x53:Nat) (x61:List AV) (x67:Nat):adv F11 (ZQ [106,49]) 6000 (fgraI2 q x3 x53 x61 (x67+1))=(bif !ile 21 x3 then some (.stop (fgraI3 q (x3) (x53) (x61) (1048575) (x67+1))) else (bif ieq (↑x53) 0 then some (.done (.tup [(.int .i64 (0)),(.int .i64 (9))])) else none)):=by kernel_rfl
theorem fgra_step3 (q:Int) (x0:Int) (x60:Nat) (x68:List AV) (x83:Nat) (x88:Nat):adv F11 (ZQ [106,49]) 6000 (fgraI3 q x0 x60 x68 (x83+1) (x88+1))=(bif (0+x60 * 1).beq x68.length then (bif x60.ble 1048576 then (bif plO (AO.cells false (x68++[AV.ifc 97 (AV.agg [AV.int IntKind.i64 (wr .i64 (400+x0)),AV.int IntKind.i64 (wr .i64 (50+0))])])) then some (.stop (fgraI4 q (x0) (1) (x60+1) (x68++[AV.ifc 97 (AV.agg [AV.int IntKind.i64 (wr .i64 (400+x0)),AV.int IntKind.i64 (wr .i64 (50+0))])]) (x83) (x88+1))) else none) else none) else none):=by kernel_rfl
theorem fgra_step4 (q:Int) (x0:Int) (x10:Int) (x60:Nat) (x70:List AV) (x83:Nat) (x88:Nat):adv F11 (ZQ [106,49]) 6000 (fgraI4 q x0 x10 x60 x70 (x83+1) (x88+1))=(bif !ile 71 x10 then (bif (0+x60 * 1).beq x70.length then (bif x60.ble 1048576 then (bif plO (AO.cells false (x70++[AV.ifc 97 (AV.agg [AV.int IntKind.i64 (wr .i64 (400+x0)),AV.int IntKind.i64 (wr .i64 (50+x10))])])) then some (.stop (fgraI4 q (x0) (wr .i64 (x10+1)) (x60+1) (x70++[AV.ifc 97 (AV.agg [AV.int IntKind.i64 (wr .i64 (400+x0)),AV.int IntKind.i64 (wr .i64 (50+x10))])]) (x83) (x88+1))) else none) else none) else none) else (bif plO (AO.cells false x70) then some (.stop (fgraI2 q (wr .i64 (x0+1)) (x60) (x70) (x88))) else none)):=by kernel_rfl
noncomputable def fgrbk4:AO:=(cF [(.vs tGr (false) (S0.1.2)),(iI 20),(iI 30),(iI 50),(iI 120)])
noncomputable def fgrbQ0 (q:Int) (n:Nat) (L:List AV):Hp:=(hpOf 27 [(0,(fgrbk4)),(1,(cF [(iI 0),(iI 0),(iI 0),(iI 8),(iI 1)])),(2,(.cells true [(iI (q))])),(3,(cF [(.fn 59 [] [(pP 4 0),(pP 5 0),(pP 6 0)])])),(4,(cF [(iI 0)])),(5,(cF [(iI 60000)])),(6,(cF [(.csl [(iI (q))] 1)])),(7,(fgrbk4)),(8,(cF [(iI 0),(iI 0),(iI 0),(iI 8),(iI 1)])),(9,(fgrbk4)),(10,(cF [(iI 0),(iI 0),(iI 0),(iI 8),(iI 1)])),(11,(cF [(.vs tGr (false) (S0.1.2)),(iI 20),(iI 30),(iI 50),(iI 120),(iI 0),(iI 0),(iI 0),(iI 8),(iI 1),.nils])),(12,(cF [(pP 11 0)])),(13,(cF [(.bool false)])),(14,(cF [(.sl 22 0 (n) (n) 1)])),(16,(cF [(.yld 15)])),(17,(cF [(iI 400),(iI 420)])),(18,(cF [(iI 50),(iI 120)])),(19,(cF [(.fn 39 [] [])])),(21,(cF [(iI 400),(iI 420)])),(22,(cF (L))),(23,(cF [(pP 11 0)])),(24,(cF [(iI 1),(iI 0)])),(25,(cF [(iI (wr .i64 (q * q))),(iI 0)])),(26,(cF [(iI (wr .i64 (q * q))),(iI 0)]))])
noncomputable def fgrbk0:AV:=(.agg [(.vs tGr (false) (S0.1.2)),(iI 20),(iI 30),(iI 50),(iI 120)])
noncomputable def fgrbk1:AV:=(.agg [(iI 0),(iI 0),(iI 0),(iI 8),(iI 1)])
noncomputable def fgrbQ1 (q:Int) (n:Nat):Tmps:=(tmOf 50 [(0,(fgrbk0)),(1,(fgrbk1)),(2,(.vs tRe (true) ([]))),(3,(iI (q))),(4,(pP 0 0)),(5,(pP 1 0)),(8,(iI 0)),(9,(iI 0)),(10,(pP 11 0)),(11,(iI 0)),(12,(.sl 22 0 (n) (n) 1)),(15,(.tup [(pP 11 0),(iI 0)])),(16,(fgrbk0)),(17,(fgrbk1)),(18,(.vs tRe (true) ([]))),(19,(iI (q))),(20,(.sl 2 0 (1) (1) 1)),(21,(.fn 59 [] [(pP 4 0),(pP 5 0),(pP 6 0)])),(22,(.sl 3 0 (1) (1) 1)),(23,(.tup [(pP 11 0),(iI 0)])),(24,(pP 11 0)),(25,(iI 0)),(26,(iI 0)),(27,(.bool false)),(29,(pP 11 0)),(30,(.fn 55 [] [(pP 12 0),(pP 13 0)])),(31,(.sl 22 0 (n) (n) 1)),(32,(.sl 22 0 (n) (n) 1)),(33,(iI (Int.ofNat n))),(34,(.bool false)),(35,(pP 11 0)),(36,(.sl 24 0 (2) (2) 1)),(37,(iI 2)),(38,(iI 0))])
noncomputable def fgrbk2 (z0:Int):AV:=(.agg [(iI (wr .i64 (z0 * z0))),(iI 0)])
noncomputable def fgrbk3:PC:=(pcOf F11 22 [0,1,0,0,1,1,0,0,1,0,1,1,1,1,1])
noncomputable def fgrbI0 (q:Int) (n:Nat) (L:List AV) (m:Nat) (x9:Int) (x84:Nat) (x198:Nat):Cfg:=⟨.ex (pcOf F11 49 [0,0,1,0,1]) ⟨(tmOf 49 [(0,(pP 11 0)),(1,(iI 1)),(2,(fgrbk2 q)),(3,(.sl 22 0 (n) (n) 1)),(6,(pP 26 0)),(8,(.bool false)),(13,(.sl 22 0 (n) (n) 1)),(14,(iI (Int.ofNat n))),(15,(iI x9))]),(fgrbQ0 q n L),[],[],49,false⟩,⟨39,[]⟩,[(.lop (pcOf F11 49 [0,0,1,0,1]) 27 (tmOf 49 [(0,(pP 11 0)),(1,(iI 1)),(2,(fgrbk2 q)),(3,(.sl 22 0 (n) (n) 1)),(6,(pP 26 0)),(8,(.bool false)),(13,(.sl 22 0 (n) (n) 1)),(14,(iI (Int.ofNat n))),(15,(iI 0))]) x84),(.blk 0),(.seq (pcOf F11 49 [1,1])),(.cal [(.tmp 8)] (.op (fgrbk3) 6 (some 47) ((opsOf (fgrbk3).c).toList.drop 6) (tmOf 50 [(0,(fgrbk0)),(1,(fgrbk1)),(2,(.vs tRe (true) ([]))),(3,(iI (q))),(4,(pP 0 0)),(5,(pP 1 0)),(8,(iI 0)),(9,(iI 0)),(10,(pP 11 0)),(11,(iI 0)),(12,(.sl 22 0 (n) (n) 1)),(14,(iI 1)),(15,(.tup [(pP 11 0),(iI 0)])),(16,(fgrbk0)),(17,(fgrbk1)),(18,(.vs tRe (true) ([]))),(19,(iI (q))),(20,(.sl 2 0 (1) (1) 1)),(21,(.fn 59 [] [(pP 4 0),(pP 5 0),(pP 6 0)])),(22,(.sl 3 0 (1) (1) 1)),(23,(.tup [(pP 11 0),(iI 0)])),(24,(pP 11 0)),(25,(iI 0)),(26,(iI 0)),(27,(.bool false)),(29,(pP 11 0)),(30,(.fn 55 [] [(pP 12 0),(pP 13 0)])),(31,(.sl 22 0 (n) (n) 1)),(32,(.sl 22 0 (n) (n) 1)),(33,(iI (Int.ofNat n))),(34,(.bool false)),(35,(pP 11 0)),(36,(.sl 24 0 (2) (2) 1)),(37,(iI 2)),(38,(iI 0)),(39,(.bool true)),(40,(pP 24 0)),(41,(iI 1)),(42,(pP 11 0)),(43,(iI 1)),(44,(iI (q))),(45,(fgrbk2 q)),(46,(.sl 22 0 (n) (n) 1))]) [] 50 false ⟨40,[]⟩)),(.seq (pcOf F11 22 [1,1,0,0,1,1,0,0,1,0,1,1,1,1,1])),(.blk 1),(.seq (pcOf F11 22 [1,1,1,0,0,1,0,1,1,1,1,1])),(.lop (pcOf F11 22 [0,0,1,0,1,1,1,1,1]) 25 (fgrbQ1 q n) x198),(.blk 0),(.seq (pcOf F11 22 [1,1,1,1,1,1])),(.cal [(.tmp 8),(.tmp 9)] .top)]⟩
noncomputable def fgrbI1 (q:Int) (n:Nat) (L:List AV) (m:Nat) (x9:Int) (x84:Nat) (x198:Nat):Cfg:=⟨.ex (pcOf F11 49 [0,0,1,0,1]) ⟨(tmOf 49 [(0,(pP 11 0)),(1,(iI 0)),(2,(fgrbk2 q)),(3,(.sl 22 0 (n) (n) 1)),(6,(pP 26 0)),(8,(.bool false)),(13,(.sl 22 0 (n) (n) 1)),(14,(iI (Int.ofNat n))),(15,(iI x9))]),(fgrbQ0 q n L),[],[],49,false⟩,⟨39,[]⟩,[(.lop (pcOf F11 49 [0,0,1,0,1]) 27 (tmOf 49 [(0,(pP 11 0)),(1,(iI 0)),(2,(fgrbk2 q)),(3,(.sl 22 0 (n) (n) 1)),(6,(pP 26 0)),(8,(.bool false)),(13,(.sl 22 0 (n) (n) 1)),(14,(iI (Int.ofNat n))),(15,(iI 0))]) x84),(.blk 0),(.seq (pcOf F11 49 [1,1])),(.cal [(.tmp 8)] (.op (fgrbk3) 6 (some 47) ((opsOf (fgrbk3).c).toList.drop 6) (tmOf 50 [(0,(fgrbk0)),(1,(fgrbk1)),(2,(.vs tRe (true) ([]))),(3,(iI (q))),(4,(pP 0 0)),(5,(pP 1 0)),(8,(iI 0)),(9,(iI 0)),(10,(pP 11 0)),(11,(iI 0)),(12,(.sl 22 0 (n) (n) 1)),(14,(iI 0)),(15,(.tup [(pP 11 0),(iI 0)])),(16,(fgrbk0)),(17,(fgrbk1)),(18,(.vs tRe (true) ([]))),(19,(iI (q))),(20,(.sl 2 0 (1) (1) 1)),(21,(.fn 59 [] [(pP 4 0),(pP 5 0),(pP 6 0)])),(22,(.sl 3 0 (1) (1) 1)),(23,(.tup [(pP 11 0),(iI 0)])),(24,(pP 11 0)),(25,(iI 0)),(26,(iI 0)),(27,(.bool false)),(29,(pP 11 0)),(30,(.fn 55 [] [(pP 12 0),(pP 13 0)])),(31,(.sl 22 0 (n) (n) 1)),(32,(.sl 22 0 (n) (n) 1)),(33,(iI (Int.ofNat n))),(34,(.bool false)),(35,(pP 11 0)),(36,(.sl 24 0 (2) (2) 1)),(37,(iI 2)),(38,(iI 1)),(39,(.bool true)),(40,(pP 24 1)),(41,(iI 0)),(42,(pP 11 0)),(43,(iI 0)),(44,(iI (q))),(45,(fgrbk2 q)),(46,(.sl 22 0 (n) (n) 1))]) [] 50 false ⟨40,[]⟩)),(.seq (pcOf F11 22 [1,1,0,0,1,1,0,0,1,0,1,1,1,1,1])),(.blk 1),(.seq (pcOf F11 22 [1,1,1,0,0,1,0,1,1,1,1,1])),(.lop (pcOf F11 22 [0,0,1,0,1,1,1,1,1]) 25 (fgrbQ1 q n) x198),(.blk 0),(.seq (pcOf F11 22 [1,1,1,1,1,1])),(.cal [(.tmp 8),(.tmp 9)] .top)]⟩
theorem fgrb_start (q:Int) (n:Nat) (L:List AV) (m:Nat):adv F11 (ZP [49]) 20000 (fgraI2 q 21 n L (m+1))=(bif ieq (↑n) 0 then some (.done (.tup [(.int .i64 (0)),(.int .i64 (9))])) else (bif plO (AO.cells false L) then (bif plO (AO.cells false L) then (bif plO (AO.cells false L) then (bif plO (AO.cells false L) then some (.stop (fgrbI0 q n L m (0) (1048575) (1048575))) else none) else none) else none) else none)):=by kernel_rfl
theorem fgrb_step0 (q:Int) (n:Nat) (L:List AV) (m:Nat) (x9:Int) (x84:Nat) (x198:Nat):adv F11 (ZP [49]) 20000 (fgrbI0 q n L m x9 (x84+1) (x198+1))=(bif !ile (Int.ofNat n) x9 then (bif inB x9 n then (bif (0+x9.toNat * 1+1).ble L.length&&isI 97 [AV.int IntKind.i64 0,AV.int IntKind.i64 0] (L.getD (0+x9.toNat * 1) AV.nili) then (bif lcO 100 (toI ((payI (L.getD (0+x9.toNat * 1) AV.nili)).getD (0+1) AV.nili)) (wr .i64 (q * q)) then (bif !snO 100 (toI ((payI (L.getD (0+x9.toNat * 1) AV.nili)).getD (0+1) AV.nili)) (wr .i64 (q * q)) then (bif plO (AO.cells false L) then some (.stop (fgrbI1 q n L m (0) (1048575) (x198))) else none) else (bif plO (AO.cells false L) then some (.stop (fgrbI0 q n L m (wr .i64 (x9+1)) (x84) (x198+1))) else none)) else none) else none) else none) else some (.done (.tup [(.int .i64 (1)),(.int .i64 (0))]))):=by kernel_rfl
theorem fgrb_step1 (q:Int) (n:Nat) (L:List AV) (m:Nat) (x9:Int) (x84:Nat) (x198:Nat):adv F11 (ZP [49]) 20000 (fgrbI1 q n L m x9 (x84+1) (x198+1))=(bif !ile (Int.ofNat n) x9 then (bif inB x9 n then (bif (0+x9.toNat * 1+1).ble L.length&&isI 97 [AV.int IntKind.i64 0,AV.int IntKind.i64 0] (L.getD (0+x9.toNat * 1) AV.nili) then (bif lcO (toI ((payI (L.getD (0+x9.toNat * 1) AV.nili)).getD 0 AV.nili)) (toI ((payI (L.getD (0+x9.toNat * 1) AV.nili)).getD (0+1) AV.nili)) (wr .i64 (q * q)) then (bif !snO (toI ((payI (L.getD (0+x9.toNat * 1) AV.nili)).getD 0 AV.nili)) (toI ((payI (L.getD (0+x9.toNat * 1) AV.nili)).getD (0+1) AV.nili)) (wr .i64 (q * q)) then (bif plO (AO.cells false L) then some (.done (.tup [(.int .i64 (0)),(.int .i64 (9))])) else none) else (bif plO (AO.cells false L) then some (.stop (fgrbI1 q n L m (wr .i64 (x9+1)) (x84) (x198+1))) else none)) else none) else none) else none) else some (.done (.tup [(.int .i64 (0)),(.int .i64 (0))]))):=by kernel_rfl
noncomputable def sgC (c k:Int):AV:=.ifc 97 (.agg [.int .i64 c,.int .i64 k])
theorem plain_app {c k:Int}:∀ {L:List AV},plainL L=true→plainL (L++[sgC c k])=true
 |[],_=>rfl
 | v :: l, h => by
  cases v<;>first|(cases h;done)|skip
  case ifc t w=>
   cases w<;>first|(cases h;done)|skip
   simp only[plainL,Bool.and_eq_true] at h
   simp only[List.cons_append,plainL,Bool.and_eq_true]
   exact⟨h.1,plain_app h.2⟩
  all_goals exact plain_app (L:=l) h
structure Inv (L:List AV):Prop where
 pl:plainL L=true
 hd:∃ t,L=sgC 400 50::t
 sg:∀ x∈L,∃ i k:Nat,(i≤20∧k≤70)∧x=sgC (400+(i:Int)) (50+(k:Int))
theorem inv_app {L:List AV} (h:Inv L) {i k:Nat} (hi:i≤20) (hk:k≤70):Inv (L++[sgC (400+(i:Int)) (50+(k:Int))]):=by
 obtain⟨t,ht⟩:=h.hd
 refine⟨plain_app h.pl,⟨t++[sgC (400+(i:Int)) (50+(k:Int))],by rw[ht];rfl⟩,fun x hx=>?_⟩
 rcases List.mem_append.1 hx with hx|hx
 · exact h.sg x hx
 · rw [List.mem_singleton] at hx
   exact⟨i,k,⟨hi,hk⟩,hx⟩
theorem inv_one:Inv [sgC 400 50]:=⟨rfl,⟨[],rfl⟩,fun x hx=>by
 rw[List.mem_singleton] at hx
 exact⟨0,0,⟨by omega,by omega⟩,hx⟩⟩
theorem b1L (L:List AV):(0+L.length * 1).beq L.length=true:=by rw[Nat.zero_add,Nat.mul_one];exact Nat.beq_refl _
theorem g400:wr .i64 (400+0)=400+((0:Nat):Int):=rfl
theorem g50:wr .i64 (50+0)=50+((0:Nat):Int):=rfl
theorem len_app (L:List AV) (x:AV):L.length+1=(L++[x]).length:=by rw[List.length_append];rfl
theorem col1 {v:AV} (q:Int) (M:Nat) (K:∀ L,Inv L→L.length≤71→Ans F11 (fgraI2 q ((1:Nat):Int) L.length L M) v):∀ (r k m:Nat) (L:List AV),k+r=71→r<m→Inv L→L.length≤k→Ans F11 (fgraI1 q k L.length L m (M+1)) v
 |0,k,m+1,L,hk,hm,hL,hl=>by
  have h:=fgra_step1 q k L.length L m M
  have e:k=71:=by omega
  subst e
  rw[show ile 71 ((71:Nat):Int)=true from rfl,Bool.not_true,cond_false,show plO (AO.cells false L)=true from hL.pl,cond_true] at h
  exact .stop (ZQ_ok _) F11sy h (K L hL hl)
 |r+1,k,m+1,L,hk,hm,hL,hl=>by
  have h:=fgra_step1 q k L.length L m M
  have b2:Nat.ble L.length 1048576=true:=Nat.ble_eq_true_of_le (by omega)
  have hA:=inv_app hL (i:=0) (k:=k) (by omega) (by omega)
  rw[show ile 71 (k:Int)=false from ile_f (by omega),Bool.not_false,cond_true,b1L,b2,cond_true,cond_true,g400,wr_in (n:=50+(k:Int)) (by omega) (by omega),wr_succ (show k<1048577 by omega)] at h
  rw[show plO (AO.cells false (L++[AV.ifc 97 (AV.agg [AV.int IntKind.i64 (400+((0:Nat):Int)),AV.int IntKind.i64 (50+(k:Int))])]))=true from hA.pl,cond_true] at h
  have ih:=col1 q M K r (k+1) m _ (by omega) (by omega) hA (by rw[List.length_append];simp;omega)
  rw[← len_app] at ih
  exact .stop (ZQ_ok _) F11sy h ih
theorem col4 {v:AV} (q:Int) (i:Nat) (hi:i≤20) (M:Nat) (K:∀ L,Inv L→L.length≤71 * (i+1)→Ans F11 (fgraI2 q ((i+1:Nat):Int) L.length L M) v):∀ (r k m:Nat) (L:List AV),k+r=71→r<m→Inv L→L.length≤71 * i+k→Ans F11 (fgraI4 q i k L.length L m (M+1)) v
 |0,k,m+1,L,hk,hm,hL,hl=>by
  have h:=fgra_step4 q i k L.length L m M
  have e:k=71:=by omega
  subst e
  rw[show ile 71 ((71:Nat):Int)=true from rfl,Bool.not_true,cond_false,show plO (AO.cells false L)=true from hL.pl,cond_true,wr_succ (show i<1048577 by omega)] at h
  exact .stop (ZQ_ok _) F11sy h (K L hL (by omega))
 |r+1,k,m+1,L,hk,hm,hL,hl=>by
  have h:=fgra_step4 q i k L.length L m M
  have b2:Nat.ble L.length 1048576=true:=Nat.ble_eq_true_of_le (by omega)
  have hA:=inv_app hL (i:=i) (k:=k) (by omega) (by omega)
  rw[show ile 71 (k:Int)=false from ile_f (by omega),Bool.not_false,cond_true,b1L,b2,cond_true,cond_true,wr_in (n:=400+(i:Int)) (by omega) (by omega),wr_in (n:=50+(k:Int)) (by omega) (by omega),wr_succ (show k<1048577 by omega)] at h
  rw[show plO (AO.cells false (L++[AV.ifc 97 (AV.agg [AV.int IntKind.i64 (400+(i:Int)),AV.int IntKind.i64 (50+(k:Int))])]))=true from hA.pl,cond_true] at h
  have ih:=col4 q i hi M K r (k+1) m _ (by omega) (by omega) hA (by rw[List.length_append];simp;omega)
  rw[← len_app] at ih
  exact .stop (ZQ_ok _) F11sy h ih
theorem col_out {v:AV} (q:Int) (K:∀ L m,Inv L→L.length≤1491→Ans F11 (fgraI2 q ((21:Nat):Int) L.length L (m+1)) v):∀ (r i m:Nat) (L:List AV),i+r=21→r<m→Inv L→L.length≤71 * i→Ans F11 (fgraI2 q i L.length L m) v
 |0,i,m+1,L,hi,hm,hL,hl=>by
  have e:i=21:=by omega
  subst e
  exact K L m hL hl
 |r+1,i,m+1,L,hi,hm,hL,hl=>by
  have h:=fgra_step2 q i L.length L m
  rw[show ile 21 (i:Int)=false from ile_f (by omega),Bool.not_false,cond_true] at h
  have h3:=fgra_step3 q i L.length L 1048574 m
  have b2:Nat.ble L.length 1048576=true:=Nat.ble_eq_true_of_le (by omega)
  have hA:=inv_app hL (i:=i) (k:=0) (by omega) (by omega)
  rw[b1L,b2,cond_true,cond_true,wr_in (n:=400+(i:Int)) (by omega) (by omega),g50] at h3
  rw[show plO (AO.cells false (L++[AV.ifc 97 (AV.agg [AV.int IntKind.i64 (400+(i:Int)),AV.int IntKind.i64 (50+((0:Nat):Int))])]))=true from hA.pl,cond_true] at h3
  have k4:=col4 q i (by omega) m (fun L' hL' hl'=>col_out q K r (i+1) m L' (by omega) (by omega) hL' hl') 70 1 1048574 _ (by omega) (by omega) hA (by rw[List.length_append];simp;omega)
  rw[← len_app] at k4
  exact .stop (ZQ_ok _) F11sy h (.stop (ZQ_ok _) F11sy h3 k4)
theorem gra_col {v:AV} (q:Int) (h0:0≤q) (h1:q≤60000) (K:∀ L m,Inv L→L.length≤1491→Ans F11 (fgraI2 q ((21:Nat):Int) L.length L (m+1)) v):Ans F11 (startC F11 22 [tSt.av S0,tNi.av N0,.vs tRe true [],.int .i64 q] 40) v:=by
 have h:=fgrs_start q
 rw[ile_t h0,ile_t h1,Bool.not_true,cond_false,cond_false] at h
 have ha:=fgra_step0 q 1048574
 have k1:=col1 q 1048574 (fun L hL hl=>col_out q K 20 1 1048574 L (by omega) (by omega) hL (by omega)) 70 1 1048574 [sgC 400 50] (by omega) (by omega) inv_one (by simp)
 exact .stop (Z11_ok _) F11sy h (.stop (ZQ_ok _) F11sy (fgra_start q) (.stop (ZQ_ok _) F11sy ha k1))
theorem inv_pos {L:List AV} (h:Inv L):0<L.length:=by obtain⟨t,rfl⟩:=h.hd;simp
theorem isI_sg (c k:Int):isI 97 [AV.int IntKind.i64 0,AV.int IntKind.i64 0] (sgC c k)=true:=rfl
theorem sn7_all:((List.range 71).all fun k=>seenF 100 (50+(k:Int)) 49000000)=true:=by kernel_rfl
theorem lc1 {k:Nat} {q:Int} (hk:k≤70) (h1:0≤q) (h2:q≤7200000000):lcB 100 (50+(k:Int)) q=true:=lcB_iff.2 ⟨⟨by omega,by omega⟩,⟨by omega,by omega⟩,h1,h2⟩
theorem gra7_ans (L:List AV) (hL:Inv L) (hl:L.length≤1491) (m0:Nat):∀ (r j m M:Nat),j+r=L.length→r<m→Ans F11 (fgrbI0 7000 L.length L m0 j m (M+1)) (.tup [.int .i64 1,.int .i64 0])
 |0,j,m+1,M,hj,hm=>by
  have h:=fgrb_step0 7000 L.length L m0 j m M
  simp only[Int.ofNat_eq_natCast,ile_ge (show L.length≤j by omega),Bool.not_true,cond_false] at h
  exact .done (ZP_ok _) F11sy h rfl
 | r + 1, j, m + 1, M, hj, hm => by
  have h:=fgrb_step0 7000 L.length L m0 j m M
  have hlt:j<L.length:=by omega
  obtain⟨i,k,⟨hi,hk⟩,hx⟩:=hL.sg L[j] (List.getElem_mem hlt)
  have e1:L.getD (0+(j:Int).toNat * 1) AV.nili=sgC (400+(i:Int)) (50+(k:Int)):=by
   rw[← hx];simp[hlt]
  have e2:Nat.ble (0+(j:Int).toNat * 1+1) L.length=true:=Nat.ble_eq_true_of_le (by simp;omega)
  have e3:toI ((payI (sgC (400+(i:Int)) (50+(k:Int)))).getD (0+1) AV.nili)=50+(k:Int):=rfl
  have s1:seenF 100 (50+(k:Int)) 49000000=true:=List.all_eq_true.1 sn7_all k (List.mem_range.2 (by omega))
  have l1:=lc1 (q:=49000000) hk (by decide) (by decide)
  simp only[Int.ofNat_eq_natCast,ile_lt hlt,inB_at hlt,e1,e2,isI_sg,e3,show wr .i64 (7000 * 7000)=49000000 from rfl,lcO_eq,snO_eq,l1,s1,show plO (AO.cells false L)=true from hL.pl,wr_succ (show j<1048577 by omega),Bool.and_self,Bool.not_false,Bool.not_true,cond_true,cond_false] at h
  exact .stop (ZP_ok _) F11sy h (gra7_ans L hL hl m0 r (j+1) m M (by omega) (by omega))
theorem grb_go {q:Int} {L:List AV} (hL:Inv L) (m:Nat):adv F11 (ZP [49]) 20000 (fgraI2 q 21 L.length L (m+1))=some (.stop (fgrbI0 q L.length L m 0 1048575 1048575)):=by
 have h:=fgrb_start q L.length L m
 rw[show ieq (L.length:Int) 0=false by rw[ieq_iff];exact decide_eq_false (by have:=inv_pos hL;omega),cond_false,show plO (AO.cells false L)=true from hL.pl] at h
 exact h
theorem gra7:Ans F11 (startC F11 22 [tSt.av S0,tNi.av N0,.vs tRe true [],.int .i64 7000] 40) (.tup [.int .i64 1,.int .i64 0]):=
 gra_col 7000 (by decide) (by decide) (fun L m hL hl=>.stop (ZP_ok _) F11sy (grb_go hL m) (gra7_ans L hL hl m L.length 0 1048575 1048574 (by omega) (by omega)))
theorem sn1a:seenF 100 50 100020001=false:=by kernel_rfl
theorem sn1b:seenF 400 50 100020001=false:=by kernel_rfl
theorem gra1:Ans F11 (startC F11 22 [tSt.av S0,tNi.av N0,.vs tRe true [],.int .i64 10001] 40) (.tup [.int .i64 0,.int .i64 9]):=
 gra_col 10001 (by decide) (by decide) (fun L m hL hl=>by
  have hp:=inv_pos hL
  have h0:=fgrb_step0 10001 L.length L m ((0:Nat):Int) 1048574 1048574
  have h1:=fgrb_step1 10001 L.length L m ((0:Nat):Int) 1048574 1048573
  have e1:L.getD (0+((0:Nat):Int).toNat * 1) AV.nili=sgC 400 50:=by obtain⟨t,rfl⟩:=hL.hd;rfl
  have e2:Nat.ble (0+((0:Nat):Int).toNat * 1+1) L.length=true:=Nat.ble_eq_true_of_le (by simp;omega)
  have e3:toI ((payI (sgC 400 50)).getD (0+1) AV.nili)=50:=rfl
  have e4:toI ((payI (sgC 400 50)).getD 0 AV.nili)=400:=rfl
  have l1:lcB 100 50 100020001=true:=by kernel_rfl
  have l2:lcB 400 50 100020001=true:=by kernel_rfl
  simp only[Int.ofNat_eq_natCast,ile_lt hp,inB_at hp,e1,e2,isI_sg,e3,e4,show wr .i64 (10001 * 10001)=100020001 from rfl,lcO_eq,snO_eq,l1,l2,sn1a,sn1b,show plO (AO.cells false L)=true from hL.pl,Bool.and_self,Bool.not_false,cond_true] at h0 h1
  exact .stop (ZP_ok _) F11sy (grb_go hL m) (.stop (ZP_ok _) F11sy h0 (.done (ZP_ok _) F11sy h1 rfl)))
end Go.Proofs.YtpnipaimaohiaaaGreatDoor


set_option maxRecDepth 100000
namespace Go.Proofs.YtpnipaimaohiaaaGreatDoor
open Go Go.Eng
theorem con5_spec {E:Env} {f:Nat} {t u w s q:Ty} {c:t.den→u.den→w.den→s.den→q.den→Bool} {v:AV} (h:∀ x y z p o,c x y z p o=true→AnsF E f [t.av x,u.av y,w.av z,s.av p,q.av o] v) {args:List AV} {r:AV} (hc:con5 t u w s q c v args=some (true,r)):∃ args',TellsL args args'∧args'.all (closedA 9)=true∧AnsF E f args' r:=by
 unfold con5 at hc
 split at hc
 · split at hc
   · rename_i c1 x c2 y c3 z c4 p c5 o hx hy hz hp ho
     simp only[Option.some.injEq,Prod.mk.injEq,Bool.and_eq_true] at hc
     obtain⟨⟨⟨⟨⟨⟨rfl,rfl⟩,rfl⟩,rfl⟩,rfl⟩,hcc⟩,rfl⟩:=hc
     exact⟨[t.av x,u.av y,w.av z,s.av p,q.av o],.cons (rdA_spec _ hx) (.cons (rdA_spec _ hy) (.cons (rdA_spec _ hz) (.cons (rdA_spec _ hp) (.cons (rdA_spec _ ho) .nil)))),by simp[av_closed],h x y z p o hcc⟩
   · cases hc
 · cases hc
theorem eqS_eq {s:tSt.den} {n:tNi.den} (h:eqS s n=true):tSt.av s=tSt.av S0∧tNi.av n=tNi.av N0:=by
 unfold eqS at h
 rw[Bool.and_eq_true] at h
 exact⟨avbeq_eq _ _ h.1,avbeq_eq _ _ h.2⟩
theorem eqR_eq {l:(Ty.sl tRe).den} {b:Bool} {m:List tRe.den} (h:eqR l b m=true):(Ty.sl tRe).av l=.vs tRe b m:=avbeq_eq _ _ h
theorem LZ_ok:∀ e∈LZ,SaidG Tryz.prog F6.glob e:=
 saids_cons (SaidOK.g f6 xf6 nf6 tabs_ok.mix (fun _ _ h=>con2_spec (t:=tI) (u:=tI) (fun a b _=>newl_call a b) h) rfl)
 (saids_cons (SaidOK.g f6 xf6 nf6 tabs_ok.mix (fun _ _ h=>con1_spec (t:=tP) (fun l _=>numb_call l) h) rfl)
 (saids_cons (SaidOK.g f7 xf7 nf7 tabs_ok.mix (fun _ _ h=>con3_spec (t:=tSt) (u:=tNi) (w:=.sl tRe) (fun s n l hc=>by
   rw[Bool.and_eq_true] at hc
   rw[(eqS_eq hc.1).1,(eqS_eq hc.1).2,eqR_eq hc.2]
   exact Ans.call (n:=40) (ext_none (by kernel_rfl)) (hasB_spec (by kernel_rfl)) fclr_ans) h) rfl)
 (saids_cons (SaidOK.g f7 xf7 nf7 tabs_ok.mix (fun _ _ h=>con5_spec (t:=tSt) (u:=tNi) (w:=.sl tRe) (s:=tP) (q:=.bool) (fun s n l p o hc=>by
   simp only[Bool.and_eq_true] at hc
   obtain⟨⟨⟨h1,h2⟩,h3⟩,h4⟩:=hc
   rw[(eqS_eq h1).1,(eqS_eq h1).2,eqR_eq h2,avbeq_eq _ _ h3,show Ty.av .bool o=AV.bool false from avbeq_eq _ _ h4]
   exact Ans.call (n:=40) (ext_none (by kernel_rfl)) (hasB_spec (by kernel_rfl)) fcou_ans) h) rfl)
 (saids_cons (SaidOK.g f6 xf6 nf6 tabs_ok.mix (fun _ _ h=>con3_spec (t:=tSt) (u:=tNi) (w:=.sl tRe) (fun s n l hc=>by
   rw[Bool.and_eq_true] at hc
   rw[(eqS_eq hc.1).1,(eqS_eq hc.1).2,eqR_eq hc.2]
   exact Ans.call (n:=40) (ext_none (by kernel_rfl)) (hasB_spec (by kernel_rfl)) ffar_ans) h) rfl)
 (saids_cons (SaidOK.g f8 xf8 nf8 tabs_ok.mix (fun _ _ h=>con3_spec (t:=tSt) (u:=tNi) (w:=.sl tRe) (fun s n l hc=>by
   rw[Bool.and_eq_true] at hc
   rw[(eqS_eq hc.1).1,(eqS_eq hc.1).2,eqR_eq hc.2]
   exact Ans.call (n:=40) (ext_none (by kernel_rfl)) (hasB_spec (by kernel_rfl)) ffal_ans) h) rfl)
 (saids_cons (SaidOK.g f11 xf11 nf11 tabs_ok.mix (fun _ _ h=>con4_spec (t:=tSt) (u:=tNi) (w:=.sl tRe) (s:=tI) (fun s n l q hc=>by
   simp only[Bool.and_eq_true,Bool.or_eq_true] at hc
   obtain⟨⟨h1,h2⟩,h3⟩:=hc
   rw[(eqS_eq h1).1,(eqS_eq h1).2,eqR_eq h2]
   rcases h3 with h3|h3
   · have e := ieq_t h3
     subst e
     exact Ans.call (n:=40) (ext_none (by kernel_rfl)) (hasB_spec (by kernel_rfl)) gra7
   · have e := ieq_t h3
     subst e
     exact Ans.call (n:=40) (ext_none (by kernel_rfl)) (hasB_spec (by kernel_rfl)) gra1) h) rfl) saids_nil))))))
theorem f9:EnvOK Tryz.prog F9:=f6.say _
theorem xA:ExtOK Tryz.prog EA:=xf6.sayL LZ_ok
theorem kn_true:isTrueT EA [] 40 5=true:=by kernel_rfl
theorem f10:EnvOK Tryz.prog F10:=f9.say _
end Go.Proofs.YtpnipaimaohiaaaGreatDoor


set_option maxRecDepth 100000
namespace Go.Proofs.YtpnipaimaohiaaaGreatDoor
open Go Go.Eng
noncomputable def lhasI0 (l:(Ty.sl tI).den) (m:Int) (x4:Int) (x10:Nat):Cfg:=⟨.ex (pcOf H7 9 [0,0,1,0,1]) ⟨(tmOf 18 [(0,(.vs tI (l.1) (l.2))),(1,(.int .i64 (m))),(4,(.bool (false))),(5,(.int .i64 x4))]),(hpOf 0 []),[],[],18,false⟩,⟨6,[]⟩,[(.lop (pcOf H7 9 [0,0,1,0,1]) 0 (tmOf 18 [(0,(.vs tI (l.1) (l.2))),(1,(.int .i64 (m))),(4,(.bool (false))),(5,(.int .i64 (0)))]) x10),(.blk 0),(.seq (pcOf H7 9 [1,1])),(.cal [(.tmp 4)] .top)]⟩
theorem lhas_start (l:(Ty.sl tI).den) (m:Int):adv H7 (Y7 [9]) 20000 (startC H7 9 [.vs tI l.1 l.2,.int .i64 m] 6)=some (.stop (lhasI0 l m (0) (1048575))):=by kernel_rfl
theorem lhas_step0 (l:(Ty.sl tI).den) (m:Int) (x4:Int) (x10:Nat):adv H7 (Y7 [9]) 20000 (lhasI0 l m x4 (x10+1))=(bif !ile (↑l.2.length) x4 then (bif inB x4 l.2.length then (bif ieq (l.2.getD x4.toNat tI.dflt) m then some (.done (.bool (true))) else some (.stop (lhasI0 l m (wr .i64 (x4+1)) (x10)))) else none) else some (.done (.bool (false)))):=by kernel_rfl
theorem lspt_start (p:tP.den) (x y:Int):adv H7 (Y7 []) 20000 (startC H7 10 [tP.av p,.int .u16 x,.int .u16 y] 6)=some (.done (.agg [(.int .i64 (bif ile (bif ile 30000 (wr .i64 (wr .i64 (p.1+wr .i64 x)-32768)) then 30000 else wr .i64 (wr .i64 (p.1+wr .i64 x)-32768)) (-30000) then -30000 else bif ile 30000 (wr .i64 (wr .i64 (p.1+wr .i64 x)-32768)) then 30000 else wr .i64 (wr .i64 (p.1+wr .i64 x)-32768))),(.int .i64 (bif ile (bif ile 30000 (wr .i64 (wr .i64 (p.2.1+wr .i64 y)-32768)) then 30000 else wr .i64 (wr .i64 (p.2.1+wr .i64 y)-32768)) (-30000) then -30000 else bif ile 30000 (wr .i64 (wr .i64 (p.2.1+wr .i64 y)-32768)) then 30000 else wr .i64 (wr .i64 (p.2.1+wr .i64 y)-32768)))])):=by kernel_rfl
theorem lgod_start (s:tSt.den) (n:tNi.den) (l:(Ty.sl tRe).den):adv H7 (Y7 []) 20000 (startC H7 4 [tSt.av s,tNi.av n,.vs tRe l.1 l.2] 6)=some (.done (.bool (ieq (cknS s n l.2).2 0))):=by kernel_rfl
noncomputable def hasF (l:List Int) (m:Int):Bool:=l.any fun x=>ieq x m
theorem lhas_ans (l:(Ty.sl tI).den) (m:Int) (hl:l.2.length≤1000):∀ (r k f:Nat),k+r=l.2.length→r<f→Ans H7 (lhasI0 l m k f) (.bool (hasF (l.2.drop k) m))
 |0,k,f+1,hk,hf=>by
  have h:=lhas_step0 l m k f
  simp only[ile_t (show ((l.2.length:Nat):Int)≤k by omega),Bool.not_true,cond_false] at h
  rw[List.drop_eq_nil_of_le (by omega)]
  exact .doneB (Y7_ok _) H7sy h rfl
 |r+1,k,f+1,hk,hf=>by
  have h:=lhas_step0 l m k f
  have hlt:k<l.2.length:=by omega
  have eg:l.2.getD (k:Int).toNat tI.dflt=l.2[k]:=getD_at hlt
  simp only[ile_f (show (k:Int)<((l.2.length:Nat):Int) by omega),Bool.not_false,cond_true,inB_at hlt,eg,wr_succ (show k<1048577 by omega)] at h
  rw[List.drop_eq_getElem_cons hlt]
  show Ans H7 _ (.bool (ieq l.2[k] m || hasF (l.2.drop (k+1)) m))
  cases c:ieq l.2[k] m with
  |true=>rw[c,cond_true] at h;exact .doneB (Y7_ok _) H7sy h rfl
  |false=>rw[c,cond_false] at h;exact .stop (Y7_ok _) H7sy h (lhas_ans l m hl r (k+1) f (by omega) (by omega))
theorem lhas_call (l:(Ty.sl tI).den) (m:tI.den) (hc:Nat.ble l.2.length 1000=true):AnsF H7 9 [(Ty.sl tI).av l,tI.av m] (.bool (hasF l.2 m)):=by
 have hl:=Nat.le_of_ble_eq_true hc
 exact Ans.call (n:=6) (ext_none (by kernel_rfl)) (hasB_spec (by kernel_rfl)) (.stop (Y7_ok _) H7sy (lhas_start l m) (lhas_ans l m hl l.2.length 0 1048575 (by omega) (by omega)))
noncomputable def spF (a x:Int):Int:=bif ile (bif ile 30000 (wr .i64 (wr .i64 (a+wr .i64 x)-32768)) then 30000 else wr .i64 (wr .i64 (a+wr .i64 x)-32768)) (-30000) then -30000 else bif ile 30000 (wr .i64 (wr .i64 (a+wr .i64 x)-32768)) then 30000 else wr .i64 (wr .i64 (a+wr .i64 x)-32768)
theorem spF_b (a x:Int):-30000≤spF a x∧spF a x≤30000:=by
 unfold spF
 cases c:ile 30000 (wr .i64 (wr .i64 (a+wr .i64 x)-32768)) with
 |true=>rw[cond_true,show ile 30000 (-30000)=false from rfl,cond_false];omega
 | false =>
  rw[cond_false]
  have c':=c
  rw[ile_iff] at c'
  have c1:=of_decide_eq_false c'
  cases d:ile (wr .i64 (wr .i64 (a+wr .i64 x)-32768)) (-30000) with
  |true=>rw[cond_true];omega
  |false=>
   rw[cond_false]
   rw[ile_iff] at d
   have d1:=of_decide_eq_false d
   omega
theorem sp_in3 (a b x y:Int):in3 (spF a x) (spF b y)=true:=in3_iff.2 ⟨spF_b a x,spF_b b y⟩
theorem lspt_call (p:tP.den) (x y:(Ty.int .u16).den):AnsF H7 10 [tP.av p,(Ty.int .u16).av x,(Ty.int .u16).av y] (.agg [.int .i64 (spF p.1 x),.int .i64 (spF p.2.1 y)]):=
 Ans.call (n:=6) (ext_none (by kernel_rfl)) (hasB_spec (by kernel_rfl)) (.done (Y7_ok _) H7sy (lspt_start p x y) rfl)
theorem lgod_call (s:tSt.den) (n:tNi.den) (l:(Ty.sl tRe).den):AnsF H7 4 [tSt.av s,tNi.av n,(Ty.sl tRe).av l] (.bool (okN s n l.2)):=by
 refine Ans.call (n:=6) (ext_none (by kernel_rfl)) (hasB_spec (by kernel_rfl)) ?_
 have h:=lgod_start s n l
 exact .doneB (Y7_ok _) H7sy h rfl
theorem pcou_call (s:tSt.den) (n:tNi.den) (l:(Ty.sl tRe).den) (p:tP.den) (h:Bool):AnsF F6 11 [tSt.av s,tNi.av n,(Ty.sl tRe).av l,tP.av p,Ty.av .bool h] (tup2 (couS s n l.2 p h)):=by
 cases h with
 |false=>exact pcol_call s n l p
 |true=>exact pcoh_call s n l p
noncomputable def co5 (t u w s q:Ty) (v:t.den→u.den→w.den→s.den→q.den→AV) (args:List AV):Option (Bool×AV):=
 match args with
 |[a1,a2,a3,a4,a5]=>match rdA t a1,rdA u a2,rdA w a3,rdA s a4,rdA q a5 with
  |some (c1,x),some (c2,y),some (c3,z),some (c4,p),some (c5,o)=>some (c1&&(c2&&(c3&&(c4&&c5))),v x y z p o)
  |_,_,_,_,_=>none
 |_=>none
theorem co5_spec {E:Env} {f:Nat} {t u w s q:Ty} {v:t.den→u.den→w.den→s.den→q.den→AV} (h:∀ x y z p o,AnsF E f [t.av x,u.av y,w.av z,s.av p,q.av o] (v x y z p o)) {args:List AV} {r:AV} (hc:co5 t u w s q v args=some (true,r)):∃ args',TellsL args args'∧args'.all (closedA 9)=true∧AnsF E f args' r:=by
 unfold co5 at hc
 split at hc
 · split at hc
   · rename_i c1 x c2 y c3 z c4 p c5 o hx hy hz hp ho
     simp only[Option.some.injEq,Prod.mk.injEq,Bool.and_eq_true] at hc
     obtain⟨⟨rfl,rfl,rfl,rfl,rfl⟩,rfl⟩:=hc
     exact⟨[t.av x,u.av y,w.av z,s.av p,q.av o],.cons (rdA_spec _ hx) (.cons (rdA_spec _ hy) (.cons (rdA_spec _ hz) (.cons (rdA_spec _ hp) (.cons (rdA_spec _ ho) .nil)))),by simp[av_closed],h x y z p o⟩
   · cases hc
 · cases hc
noncomputable def LP:List Said:=[(7,con3 tSt tNi (.sl tRe) (fun _ _ _=>true) (fun s n l=>clrW (clrQ s n l.2))),(8,con3 tSt tNi (.sl tRe) (fun _ _ _=>true) (fun s n l=>wndW (wndQ s n l.2))),
 (11,co5 tSt tNi (.sl tRe) tP .bool (fun s n l p h=>tup2 (couS s n l.2 p h))),(9,con2 (.sl tI) tI (fun l _=>Nat.ble l.2.length 1000) (fun l m=>.bool (hasF l.2 m))),
 (10,con3 tP (.int .u16) (.int .u16) (fun _ _ _=>true) (fun p x y=>.agg [.int .i64 (spF p.1 x),.int .i64 (spF p.2.1 y)])),(4,con3 tSt tNi (.sl tRe) (fun _ _ _=>true) (fun s n l=>.bool (okN s n l.2))),(5,say0 (.bool true))]
theorem LP_ok:∀ e∈LP,SaidG Tryz.prog H7.glob e:=
 saids_cons (SaidOK.g f6 xf6 nf6 tabs_ok.mix (fun _ _ h=>con3_spec (t:=tSt) (u:=tNi) (w:=.sl tRe) (fun s n l _=>by rw[← clrS_eq];exact pclr_call s n l) h) rfl)
 (saids_cons (SaidOK.g f6 xf6 nf6 tabs_ok.mix (fun _ _ h=>con3_spec (t:=tSt) (u:=tNi) (w:=.sl tRe) (fun s n l _=>by rw[← wndS_eq];exact pwnd_call s n l) h) rfl)
 (saids_cons (SaidOK.g f6 xf6 nf6 tabs_ok.mix (fun _ _ h=>co5_spec (t:=tSt) (u:=tNi) (w:=.sl tRe) (s:=tP) (q:=.bool) (fun s n l p b=>pcou_call s n l p b) h) rfl)
 (saids_cons (SaidOK.g h7 xh7 nh7 tabs_ok.mix (fun _ _ h=>con2_spec (t:=.sl tI) (u:=tI) (fun l m hc=>lhas_call l m hc) h) rfl)
 (saids_cons (SaidOK.g h7 xh7 nh7 tabs_ok.mix (fun _ _ h=>con3_spec (t:=tP) (u:=.int .u16) (w:=.int .u16) (fun p x y _=>lspt_call p x y) h) rfl)
 (saids_cons (SaidOK.g h7 xh7 nh7 tabs_ok.mix (fun _ _ h=>con3_spec (t:=tSt) (u:=tNi) (w:=.sl tRe) (fun s n l _=>lgod_call s n l) h) rfl)
 (saids_cons (XG.g (XG.closedT eA xA nA tabs_ok.mix ents_nil kn_true) rfl) saids_nil))))))
noncomputable def H9:Env:=H7.say (under (xOf LP))
theorem h9:EnvOK Tryz.prog H9:=h7.say _
theorem nh9:NameOK H9:=nh7.say _
theorem xh9:ExtOK Tryz.prog H9:=xh7.sayL LP_ok
theorem H9sy:H9.sy=true:=rfl
noncomputable def Y9 (l:List Nat):Sy:=(Y7 []).on LP l
theorem Y9_ok (l:List Nat):(Y9 l).ok H9:=Sy.on_ok (Y7_ok _)
abbrev tTd:Ty:=.cons tNi (.cons (.sl tRe) .nil)
abbrev tW2:Ty:=.cons (.int .u16) (.cons (.int .u16) .nil)
end Go.Proofs.YtpnipaimaohiaaaGreatDoor


set_option maxRecDepth 100000
namespace Go.Proofs.YtpnipaimaohiaaaGreatDoor
open Go Go.Eng
theorem plainR (r:List AV):∀ L:List tRe.den,plainL (flat tRe L++r)=plainL r
 |[]=>rfl
 |_::L=>plainR r L
theorem oneR:∀ L:List tRe.den,oneAll (flat tRe L)=true
 |[]=>rfl
 |_::L=>oneR L
theorem flatR_len:∀ L:List tRe.den,(flat tRe L).length=L.length * 4
 |[]=>rfl
 |d::L=>by
  show (tRe.cells d++flat tRe L).length=_
  rw[List.length_append,flatR_len L,List.length_cons];show 4+L.length * 4=_;omega
theorem repS_all:∀ (l:List tRe.den) (i:Nat),repB l=true→repS i l=(0,0)
 |[],_,_=>rfl
 |r::l,i,h=>by
  unfold repB at h
  rw[List.all_cons,Bool.and_eq_true] at h
  rw[repS,h.1,cond_true]
  exact repS_all l (i+1) h.2
theorem stC_fold (n:tNi.den) (p:tP.den) (h:Bool):∀ (T:List tP.den) (x:Bool×Bool),T.foldl (stC n p h) x=(x.1 || T.any fun t=>metF n p t h,x.2 || T.any fun t=>!metF n p t h)
 |[],x=>by simp
 |t::T,x=>by
  rw[List.foldl_cons,stC_fold n p h T]
  unfold stC
  cases c:metF n p t h<;>simp[c]
theorem cou_ok {s:tSt.den} {n:tNi.den} {l:List tRe.den} {p:tP.den} {h:Bool} (ho:okN s n l=true) (hp:in3 p.1 p.2.1=true):couS s n l p h=couR ((trT s n l h).any fun t=>metF n p t h,(trT s n l h).any fun t=>!metF n p t h):=by
 unfold couS
 rw[show ieq (cknS s n l).2 0=true from ho,cond_true,hp,cond_true,stC_fold]
 simp
noncomputable def anyM (s:tSt.den) (n:tNi.den) (l:List tRe.den) (p:tP.den) (h y:Bool):Bool:=(trT s n l h).any fun t=>y == metF n p t h
end Go.Proofs.YtpnipaimaohiaaaGreatDoor


set_option maxRecDepth 100000
namespace Go.Proofs.YtpnipaimaohiaaaGreatDoor
open Go Go.Eng
noncomputable def qP (p:tP.den):tP.den:=(p.2.1,0-p.1,())
noncomputable def qN (n:tNi.den):tNi.den:=(qP n.1,n.2.1,(n.2.2.1+8).tmod 32,n.2.2.2)
noncomputable def qR (r:tRe.den):tRe.den:=(qP r.1,r.2)
noncomputable def qT (t:tP.den):tP.den:=(t.1,(t.2.1+8).tmod 32,())
theorem sq_turn (X Y:Int):Y * Y+(0-X) * (0-X)=X * X+Y * Y:=by
 rw[Int.zero_sub,Int.neg_mul_neg];omega
theorem df_turn (p n:Int):(0-p)-(0-n)=0-(p-n):=by omega
theorem btF_turn {a b:Int} (ha:inV a=true) (hb:inV b=true):btF ((a+8).tmod 32) ((b+8).tmod 32)=btF a b:=by
 rw[inV_iff] at ha hb
 have e:((a+8).tmod 32-(b+8).tmod 32+32).tmod 32=(a-b+32).tmod 32:=by
  rw[Int.tmod_eq_emod_of_nonneg (show 0≤a+8 by omega),Int.tmod_eq_emod_of_nonneg (show 0≤b+8 by omega),Int.tmod_eq_emod_of_nonneg (by omega),Int.tmod_eq_emod_of_nonneg (by omega)]
  omega
 unfold btF
 rw[e]
theorem hrd_turn (l w X Y:Int) (hw:inV w=true):hrdF l ((w+8).tmod 32) (Y * Y+(0-X) * (0-X)) (ptF Y (0-X))=hrdF l w (X * X+Y * Y) (ptF X Y):=by
 rw[sq_turn]
 by_cases h:X=0∧Y=0
 · obtain ⟨rfl, rfl⟩ := h
   have sq:∀ a:Int,0≤a * a:=fun a=>by
    rcases Int.le_total 0 a with h|h
    · exact Int.mul_nonneg h h
    · exact Int.mul_nonneg_of_nonpos_of_nonpos h h
   unfold hrdF
   rw[show (0:Int) * 0+0 * 0=0 from rfl,ile_t (sq _),ile_t (sq _)]
 · rw [ptF_turn h]
   unfold hrdF
   rw[btF_turn (ptF_b X Y) hw]
theorem met_turn0 (n:tNi.den) (p t:tP.den):metF (qN n) (qP p) t false=metF n p t false:=by
 show seenF t.1 t.2.1 ((p.2.1-n.1.2.1) * (p.2.1-n.1.2.1)+((0-p.1)-(0-n.1.1)) * ((0-p.1)-(0-n.1.1)))=seenF t.1 t.2.1 ((p.1-n.1.1) * (p.1-n.1.1)+(p.2.1-n.1.2.1) * (p.2.1-n.1.2.1))
 rw[df_turn,sq_turn]
theorem met_turn1 (n:tNi.den) (p t:tP.den) (hw:inV t.2.1=true):metF (qN n) (qP p) (qT t) true=metF n p t true:=by
 show hrdF t.1 ((t.2.1+8).tmod 32) ((p.2.1-n.1.2.1) * (p.2.1-n.1.2.1)+((0-p.1)-(0-n.1.1)) * ((0-p.1)-(0-n.1.1))) (ptF (p.2.1-n.1.2.1) ((0-p.1)-(0-n.1.1)))=hrdF t.1 t.2.1 ((p.1-n.1.1) * (p.1-n.1.1)+(p.2.1-n.1.2.1) * (p.2.1-n.1.2.1)) (ptF (p.1-n.1.1) (p.2.1-n.1.2.1))
 rw[df_turn,hrd_turn _ _ _ _ hw]
theorem agr_turn0 (n:tNi.den) (l:List tRe.den) (t:tP.den):agrF (qN n) (l.map qR) t false=agrF n l t false:=by
 unfold agrF
 rw[List.all_map]
 congr 1
 funext r
 show agr1 (qN n) t false (qR r)=agr1 n t false r
 unfold agr1
 rw[show (qR r).1=qP r.1 from rfl,met_turn0];rfl
theorem agr_turn1 (n:tNi.den) (l:List tRe.den) (t:tP.den) (hw:inV t.2.1=true):agrF (qN n) (l.map qR) (qT t) true=agrF n l t true:=by
 unfold agrF
 rw[List.all_map]
 congr 1
 funext r
 show agr1 (qN n) (qT t) true (qR r)=agr1 n t true r
 unfold agr1
 rw[show (qR r).1=qP r.1 from rfl,met_turn1 _ _ _ hw];rfl
theorem trT_turn0 (s:tSt.den) (n:tNi.den) (l:List tRe.den):trT s (qN n) (l.map qR) false=trT s n l false:=by
 unfold trT
 rw[show allT2 s (qN n) false=allT2 s n false from rfl]
 congr 1
 funext t
 exact agr_turn0 n l t
theorem rowW_turn {w:Int} (hw:0≤w) (a:Int):∀ (r:Nat) (k:Int),0≤k→rowW ((w+8).tmod 32) a r k=(rowW w a r k).map qT
 |0,_,_=>rfl
 |r+1,k,hk=>by
  rw[rowW,rowW,List.map_cons,rowW_turn hw a r (k+1) (by omega)]
  congr 1
  show (a,((w+8).tmod 32+k).tmod 32,())=(a,((w+k).tmod 32+8).tmod 32,())
  rw[Int.tmod_eq_emod_of_nonneg (show 0≤w+8 by omega),Int.tmod_eq_emod_of_nonneg (show 0≤w+k by omega),Int.tmod_eq_emod_of_nonneg (by omega),Int.tmod_eq_emod_of_nonneg (by omega),show ((w+8) % 32+k) % 32=((w+k) % 32+8) % 32 by omega]
theorem allW_turn {w:Int} (hw:0≤w) (nw:Nat):∀ (r:Nat) (a:Int),allW ((w+8).tmod 32) nw r a=(allW w nw r a).map qT
 |0,_=>rfl
 |r+1,a=>by rw[allW,allW,List.map_append,rowW_turn hw a nw 0 (Int.le_refl _),allW_turn hw nw r (a+1)]
theorem rowW_inV {w:Int} (hw:0≤w) (a:Int):∀ (r:Nat) (k:Int),0≤k→∀ t∈rowW w a r k,inV t.2.1=true
 |0,_,_,_,h=>by cases h
 |r+1,k,hk,t,h=>by
  rw[rowW] at h
  rcases List.mem_cons.1 h with e|e
  · subst e
    rw[inV_iff]
    have h1:0≤(w+k).tmod 32:=Int.tmod_nonneg _ (by omega)
    have h2:(w+k).tmod 32<32:=Int.tmod_lt_of_pos _ (by omega)
    show 0≤(w+k).tmod 32∧(w+k).tmod 32≤31
    omega
  · exact rowW_inV hw a r (k+1) (by omega) t e
theorem allW_inV {w:Int} (hw:0≤w) (nw:Nat):∀ (r:Nat) (a:Int),∀ t∈allW w nw r a,inV t.2.1=true
 |0,_,_,h=>by cases h
 |r+1,a,t,h=>by
  rw[allW] at h
  rcases List.mem_append.1 h with e|e
  · exact rowW_inV hw a nw 0 (Int.le_refl _) t e
  · exact allW_inV hw nw r (a+1) t e
theorem filter_map_turn {p q:tP.den→Bool}:∀ L:List tP.den,(∀ t∈L,q (qT t)=p t)→(L.map qT).filter q=(L.filter p).map qT
 |[],_=>rfl
 |t::L,h=>by
  have ih:=filter_map_turn L (fun u hu=>h u (List.mem_cons_of_mem _ hu))
  have e:=h t List.mem_cons_self
  rw[List.map_cons]
  cases c:p t with
  |true=>rw[List.filter_cons_of_pos (by rw[e];exact c),List.filter_cons_of_pos c,List.map_cons,ih]
  |false=>rw[List.filter_cons_of_neg (by rw[e,c];decide),List.filter_cons_of_neg (by rw[c];decide),ih]
theorem trT_turn1 {s:tSt.den} {n:tNi.den} (l:List tRe.den) (hw:0≤n.2.2.1):trT s (qN n) (l.map qR) true=(trT s n l true).map qT:=by
 have e:allT2 s (qN n) true=(allT2 s n true).map qT:=allW_turn hw (nW n) (nL s) (lLo s)
 unfold trT
 rw[e]
 exact filter_map_turn _ fun t ht=>agr_turn1 n l t (allW_inV hw _ _ _ t ht)
theorem okN_turn {s:tSt.den} {n:tNi.den} {l:List tRe.den} (h:okN s n l=true):okN s (qN n) (l.map qR)=true:=by
 have hN:=nig_ok h
 have hl:repB (l.map qR)=true:=by
  have:=hN.reps
  unfold repB at this⊢
  rw[List.all_map]
  rw[List.all_eq_true] at this⊢
  intro r hr
  have:=this r hr
  rw[in3_iff] at this
  show in3 r.1.2.1 (0-r.1.1)=true
  rw[in3_iff]
  omega
 have hb:nigB n=true→nigB (qN n)=true:=fun e=>by
  unfold nigB at e⊢
  simp only[Bool.and_eq_true,ile_iff,decide_eq_true_eq] at e⊢
  have h1:0≤(n.2.2.1+8).tmod 32:=Int.tmod_nonneg _ (by omega)
  have h2:(n.2.2.1+8).tmod 32<32:=Int.tmod_lt_of_pos _ (by omega)
  simp only[qN,qP,in3,Bool.and_eq_true,ile_iff,decide_eq_true_eq] at e⊢
  omega
 unfold okN at h⊢
 unfold cknS at h⊢
 cases c:ieq (staS s).2.2 0 with
 |false=>rw[c,cond_false] at h;rw[c] at h;cases h
 | true =>
  rw[c,cond_true] at h
  rw[cond_true]
  rw[show (qN n).2.1=n.2.1 from rfl]
  cases c1:(ile 0 n.2.1&&ile n.2.1 ((s.1.2.length:Int)-1)) with
  |false=>rw[c1,cond_false] at h;exact absurd (ieq_t h) (show ¬ (4:Int)=0 by decide)
  | true =>
   rw[c1,cond_true] at h
   rw[cond_true]
   cases c2:nigB n with
   |false=>rw[c2,cond_false] at h;exact absurd (ieq_t h) (show ¬ (7:Int)=0 by decide)
   |true=>
    have:=hN.len
    rw[hb c2,cond_true,ile_t (show (((l.map qR).length:Nat):Int)≤8 by rw[List.length_map];omega),cond_true,repS_all _ _ hl];rfl
theorem clr_turn {s:tSt.den} {n:tNi.den} {l:List tRe.den} (h:okN s n l=true):clrQ s (qN n) (l.map qR)=clrQ s n l:=by
 unfold clrQ
 rw[show ieq (cknS s n l).2 0=true from h,show ieq (cknS s (qN n) (l.map qR)).2 0=true from okN_turn h,cond_true,cond_true,show trL s (qN n) (l.map qR)=trT s (qN n) (l.map qR) false from rfl,trT_turn0]
 rfl
theorem cou_turn {s:tSt.den} {n:tNi.den} {l:List tRe.den} {p:tP.den} {b:Bool} (h:okN s n l=true) (hp:in3 p.1 p.2.1=true):couS s (qN n) (l.map qR) (qP p) b=couS s n l p b:=by
 have hw:0≤n.2.2.1:=(nig_ok h).wind.1.1
 have hp':in3 (qP p).1 (qP p).2.1=true:=by
  rw[in3_iff] at hp
  show in3 p.2.1 (0-p.1)=true
  rw[in3_iff]
  omega
 rw[cou_ok (okN_turn h) hp',cou_ok h hp]
 cases b with
 |false=>
  rw[trT_turn0]
  simp only[met_turn0]
 | true =>
  rw[trT_turn1 l hw,List.any_map,List.any_map]
  have e:∀ t∈trT s n l true,metF (qN n) (qP p) (qT t) true=metF n p t true:=fun t ht=>by
   unfold trT at ht
   exact met_turn1 n p t (allW_inV hw _ _ _ t (List.mem_filter.1 ht).1)
  have a1:((trT s n l true).any ((fun t=>metF (qN n) (qP p) t true) ∘ qT))=(trT s n l true).any fun t=>metF n p t true:=by
   rw[Bool.eq_iff_iff,List.any_eq_true,List.any_eq_true]
   exact⟨fun ⟨t,h1,h2⟩=>⟨t,h1,by rw[← e t h1];exact h2⟩,fun ⟨t,h1,h2⟩=>⟨t,h1,(e t h1).trans h2⟩⟩
  have a2:((trT s n l true).any ((fun t=>!metF (qN n) (qP p) t true) ∘ qT))=(trT s n l true).any fun t=>!metF n p t true:=by
   rw[Bool.eq_iff_iff,List.any_eq_true,List.any_eq_true]
   exact⟨fun ⟨t,h1,h2⟩=>⟨t,h1,by rw[← e t h1];exact h2⟩,fun ⟨t,h1,h2⟩=>⟨t,h1,(congrArg (!·) (e t h1)).trans h2⟩⟩
  rw[a1,a2]
end Go.Proofs.YtpnipaimaohiaaaGreatDoor


set_option maxRecDepth 100000
namespace Go.Proofs.YtpnipaimaohiaaaGreatDoor
open Go Go.Eng
noncomputable def mt3 (t:Int×Int×Bool) (n:Int):Int×Int×Bool:=(mtL t n,mtH t n,true)
theorem mtW_fold:∀ (T:List tP.den) (x:W3),(T.foldl mtW x).1=(T.map (·.1)).foldl mt3 x.1
 |[],_=>rfl
 |p::T,x=>mtW_fold T (mtW x p)
theorem outG_mem (B:List Bool) (a:Int):∀ (r k:Nat),a∈outG B k r↔∃ j,k≤j∧j<k+r∧B.getD j false=true∧a=(j:Int)
 |0,k=>⟨fun h=>(by cases h),fun ⟨j,h1,h2,_⟩=>by omega⟩
 | r + 1, k => by
  have ih:=outG_mem B a r (k+1)
  rw[outG]
  cases c:B.getD k false with
  |false=>
   rw[cond_false,ih]
   exact⟨fun ⟨j,h1,h2,h3,h4⟩=>⟨j,by omega,by omega,h3,h4⟩,fun ⟨j,h1,h2,h3,h4⟩=>⟨j,Nat.lt_of_le_of_ne h1 (fun e=>by subst e;rw[c] at h3;cases h3),by omega,h3,h4⟩⟩
  |true=>
   rw[cond_true,List.mem_cons,ih]
   constructor
   · rintro (e | ⟨j, h1, h2, h3, h4⟩)
     · exact⟨k,Nat.le_refl _,by omega,c,e⟩
     · exact⟨j,by omega,by omega,h3,h4⟩
   · rintro ⟨j, h1, h2, h3, h4⟩
     rcases Nat.eq_or_lt_of_le h1 with e|e
     · subst e;exact .inl h4
     · exact .inr ⟨j,e,by omega,h3,h4⟩
theorem mtW_bit:∀ (T:List tP.den) (x:W3) (j:Nat),(T.foldl mtW x).2.getD j false=true↔x.2.getD j false=true∨(j<x.2.length∧∃ p∈T,p.2.1.toNat=j)
 |[],_,_=>by simp
 | p :: T, x, j => by
  rw[List.foldl_cons,mtW_bit T (mtW x p) j,mtW_len]
  have e:(mtW x p).2.getD j false=true↔x.2.getD j false=true∨(j<x.2.length∧p.2.1.toNat=j):=by
   show (x.2.set p.2.1.toNat true).getD j false=true↔_
   simp only[List.getD_eq_getElem?_getD,List.getElem?_set]
   by_cases h:p.2.1.toNat=j
   · subst h
     by_cases h2:p.2.1.toNat<x.2.length
     · simp[h2]
     · simp[h2]
   · simp[h]
  rw[e]
  constructor
  · rintro ((a | ⟨a, b⟩) | ⟨a, q, b, c⟩)
    · exact .inl a
    · exact .inr ⟨a,p,List.mem_cons_self,b⟩
    · exact .inr ⟨a,q,List.mem_cons_of_mem _ b,c⟩
  · rintro (a | ⟨a, q, b, c⟩)
    · exact .inl (.inl a)
    · rcases List.mem_cons.1 b with e | e
      · subst e;exact .inl (.inr ⟨a,c⟩)
      · exact .inr ⟨a,q,e,c⟩
end Go.Proofs.YtpnipaimaohiaaaGreatDoor


set_option maxRecDepth 100000
namespace Go.Proofs.YtpnipaimaohiaaaGreatDoor
open Go Go.Eng
theorem outG_app (B:List Bool):∀ (r m k:Nat),outG B k (r+m)=outG B k r++outG B (k+r) m
 |0,m,k=>by rw[Nat.zero_add,Nat.add_zero];rfl
 |r+1,m,k=>by
  rw[show r+1+m=(r+m)+1 by omega,outG,outG,outG_app B r m (k+1),show k+1+r=k+(r+1) by omega]
  cases B.getD k false<;>rfl
theorem outG_shift (B C:List Bool):∀ (r k m:Nat),(∀ i,i<r→C.getD (m+i) false=B.getD (k+i) false)→(outG C m r).length=(outG B k r).length
 |0,_,_,_=>rfl
 |r+1,k,m,h=>by
  have h0:=h 0 (by omega)
  rw[Nat.add_zero,Nat.add_zero] at h0
  have ih:=outG_shift B C r (k+1) (m+1) (fun i hi=>by have:=h (i+1) (by omega);rw[show m+1+i=m+(i+1) by omega,show k+1+i=k+(i+1) by omega];exact this)
  rw[outG,outG,h0]
  cases B.getD k false with
  |false=>rw[cond_false,cond_false];exact ih
  |true=>rw[cond_true,cond_true,List.length_cons,List.length_cons,ih]
theorem repF (n i:Nat):(List.replicate n false).getD i false=false:=by
 rw[List.getD_eq_getElem?_getD,List.getElem?_replicate];split<;>rfl
theorem bit_turn {T:List tP.den} (hT:∀ t∈T,inV t.2.1=true) {j:Nat} (hj:j<32):((T.map qT).foldl mtW wnd0).2.getD ((j+8) % 32) false=(T.foldl mtW wnd0).2.getD j false:=by
 have z:∀ i,¬ (wnd0.2.getD i false=true):=fun i=>by
  show ¬ ((List.replicate 32 false).getD i false=true)
  rw[repF 32 i];decide
 rw[Bool.eq_iff_iff,mtW_bit,mtW_bit]
 constructor
 · rintro (h | ⟨_, p, hp, e⟩)
   · exact absurd h (z _)
   · obtain ⟨t, ht, rfl⟩ := List.mem_map.1 hp
     have hv:=inV_iff.1 (hT t ht)
     refine .inr ⟨hj,t,ht,?_⟩
     have e:((t.2.1+8).tmod 32).toNat=(j+8) % 32:=e
     rw[Int.tmod_eq_emod_of_nonneg (by omega)] at e
     omega
 · rintro (h | ⟨_, t, ht, e⟩)
   · exact absurd h (z _)
   · have hv := inV_iff.1 (hT t ht)
     refine .inr ⟨Nat.mod_lt _ (by omega),qT t,List.mem_map.2 ⟨t,ht,rfl⟩,?_⟩
     show ((t.2.1+8).tmod 32).toNat=(j+8) % 32
     rw[Int.tmod_eq_emod_of_nonneg (by omega)]
     omega
theorem trT_in {s:tSt.den} {n:tNi.den} {l:List tRe.den} (hw:0≤n.2.2.1):∀ t∈trT s n l true,inV t.2.1=true:=fun t ht=>by
 unfold trT at ht
 exact allW_inV hw _ _ _ t (List.mem_filter.1 ht).1
theorem wnd_turn {s:tSt.den} {n:tNi.den} {l:List tRe.den} (h:okN s n l=true) :
  (wndQ s (qN n) (l.map qR)).1=(wndQ s n l).1∧(wndQ s (qN n) (l.map qR)).2.1=(wndQ s n l).2.1∧(wndQ s (qN n) (l.map qR)).2.2.1.length=(wndQ s n l).2.2.1.length∧(wndQ s (qN n) (l.map qR)).2.2.2=(wndQ s n l).2.2.2 ∧
  ∀ a∈(wndQ s n l).2.2.1,hasF (wndQ s (qN n) (l.map qR)).2.2.1 ((wr .i64 (a+8)).tmod 32)=true:=by
 have hw:0≤n.2.2.1:=(nig_ok h).wind.1.1
 have hT:=trT_in (s:=s) (n:=n) (l:=l) hw
 have e1:=trT_turn1 (s:=s) l hw
 have eq:wndQ s (qN n) (l.map qR)=(((trT s n l true).map qT).foldl mtW wnd0 |> fun x=>(x.1.1,x.1.2.1,outG x.2 0 32,bif x.1.2.2 then 0 else 9)):=by
  unfold wndQ
  rw[show ieq (cknS s (qN n) (l.map qR)).2 0=true from okN_turn h,cond_true,e1]
 have eq0:wndQ s n l=((trT s n l true).foldl mtW wnd0 |> fun x=>(x.1.1,x.1.2.1,outG x.2 0 32,bif x.1.2.2 then 0 else 9)):=by
  unfold wndQ
  rw[show ieq (cknS s n l).2 0=true from h,cond_true]
 rw[eq,eq0]
 have ef:(((trT s n l true).map qT).foldl mtW wnd0).1=((trT s n l true).foldl mtW wnd0).1:=by
  rw[mtW_fold,mtW_fold,List.map_map];rfl
 show _∧_∧(outG _ 0 32).length=(outG _ 0 32).length∧_∧∀ a∈outG _ 0 32,hasF (outG _ 0 32) _=true
 refine⟨congrArg (·.1) ef,congrArg (·.2.1) ef,?_,congrArg (fun x=>bif x.2.2 then (0:Int) else 9) ef,?_⟩
 · rw [show (32 : Nat) = 8 + 24 from rfl, outG_app, List.length_append, show (8 + 24 : Nat) = 24 + 8 from rfl, outG_app _ 24 8 0, List.length_append,
    outG_shift ((trT s n l true).foldl mtW wnd0).2 (((trT s n l true).map qT).foldl mtW wnd0).2 8 (0+24) 0 (fun i hi=>by
     have:=bit_turn hT (j:=24+i) (by omega)
     rw[show (24+i+8) % 32=0+i by omega] at this
     rw[this,Nat.zero_add]),
    outG_shift ((trT s n l true).foldl mtW wnd0).2 (((trT s n l true).map qT).foldl mtW wnd0).2 24 0 (0+8) (fun i hi=>by
     have:=bit_turn hT (j:=i) (by omega)
     rw[show (i+8) % 32=0+8+i by omega] at this
     rw[this,Nat.zero_add])]
   omega
 · intro a ha
   obtain⟨j,h1,h2,h3,h4⟩:=(outG_mem _ _ _ _).1 ha
   unfold hasF
   rw[List.any_eq_true]
   refine⟨(((j+8) % 32:Nat):Int),(outG_mem _ _ _ _).2 ⟨(j+8) % 32,Nat.zero_le _,by omega,by rw[bit_turn hT (by omega)];exact h3,rfl⟩,?_⟩
   rw[ieq_iff,h4,wr_in (by omega) (by omega),Int.tmod_eq_emod_of_nonneg (by omega)]
   exact decide_eq_true (by omega)
end Go.Proofs.YtpnipaimaohiaaaGreatDoor


set_option maxRecDepth 100000
namespace Go.Proofs.YtpnipaimaohiaaaGreatDoor
open Go Go.Eng
noncomputable def fO:Option Out:=some (.done (.bool false))
noncomputable def tO:Option Out:=some (.done (.bool true))
noncomputable def qn (t:tTd.den):tNi.den:=((t.1.1.2.1,wr .i64 (0-t.1.1.1),()),t.1.2.1,(wr .i64 (t.1.2.2.1+8)).tmod 32,t.1.2.2.2)
noncomputable def rowQ (r:tRe.den):List AV:=[AV.int .i64 r.1.2.1,AV.int .i64 (wr .i64 (0-r.1.1)),AV.bool r.2.1,AV.bool r.2.2.1]
noncomputable def tlT (c c':Q5) (w w':Q4) (a:Cfg):Option Out:=bif !(ieq c.1 c'.1&&(ieq c.2.1 c'.2.1&&true)) then fO else (bif !(ieq c.2.2.1 c'.2.2.1&&(ieq c.2.2.2.1 c'.2.2.2.1&&true)) then fO else (bif !ieq c.2.2.2.2 c'.2.2.2.2 then fO else (bif !(ieq w.1 w'.1&&(ieq w.2.1 w'.2.1&&true)) then fO else (bif !ieq (w.2.2.1.length:Int) (w'.2.2.1.length:Int) then fO else (bif !ieq w.2.2.2 w'.2.2.2 then fO else some (.stop a))))))
noncomputable def stW (W V:List Int) (o:Bool) (a:Int) (nx ex:Option Out):Option Out:=bif !ile (V.length:Int) a then (bif inB a V.length then (bif W.length.ble 1000 then (bif !hasF W ((wr .i64 (V.getD a.toNat tI.dflt+8)).tmod 32) then fO else (bif o then nx else none)) else none) else none) else ex
noncomputable def gS (s:tSt.den) (t:tTd.den) (x:tW2.den) (o:Option Out):Option Out:=sI (spF t.1.1.1 x.1) (sI (spF t.1.1.2.1 x.2.1) (sI t.1.1.2.1 (sI (wr .i64 (0-t.1.1.1)) (sI t.1.2.1 (sI ((wr .i64 (t.1.2.2.1+8)).tmod 32) (sI t.1.2.2.2.1 (sI t.1.1.2.1 (sI (wr .i64 (0-t.1.1.1)) (sI t.1.2.1 (sI ((wr .i64 (t.1.2.2.1+8)).tmod 32) (sI t.1.2.2.2.1 (sB s.1.1 (sV tGr s.1.2 (sI s.2.1.1 (sI s.2.1.2.1 (sI s.2.2.1.1 (sI s.2.2.1.2.1 (sB s.1.1 (sV tGr s.1.2 (sI s.2.1.1 (sI s.2.1.2.1 (sI s.2.2.1.1 (sI s.2.2.1.2.1 o)))))))))))))))))))))))
noncomputable def pS (t:tTd.den) (x:tW2.den):tP.den:=(spF t.1.1.1 x.1,spF t.1.1.2.1 x.2.1,())
noncomputable def pS2 (t:tTd.den) (x:tW2.den):tP.den:=(spF t.1.1.2.1 x.2.1,wr .i64 (0-spF t.1.1.1 x.1),())
noncomputable def qS (s:tSt.den) (t:tTd.den) (x:tW2.den) (b:Int):Int×Int:=couS s t.1 t.2.1.2 (pS t x) (ieq b 1)
noncomputable def qS2 (s:tSt.den) (t:tTd.den) (x:tW2.den) (U:List tRe.den) (b:Int):Int×Int:=couS s (qn t) U (pS2 t x) (ieq b 1)
noncomputable def stQ (b:Int) (p f o:Bool) (g:Option Out→Option Out) (q q':Int×Int) (nx:Option Out):Option Out:=bif !ile 2 b then (bif p then (bif f then g (bif !ieq q.1 q'.1 then fO else (bif !ieq q.2 q'.2 then fO else (bif o then nx else none))) else none) else none) else tO
noncomputable def lturk0 (z0:tSt.den):AV:=(.agg [(.vs tGr (z0.1.1) (z0.1.2)),(iI (z0.2.1.1)),(iI (z0.2.1.2.1)),(iI (z0.2.2.1.1)),(iI (z0.2.2.1.2.1))])
noncomputable def lturk14 (z0:tTd.den):AV:=(.agg [(iI (z0.1.1.1)),(iI (z0.1.1.2.1)),(iI (z0.1.2.1)),(iI (z0.1.2.2.1)),(iI (z0.1.2.2.2.1)),(.vs tRe (z0.2.1.1) (z0.2.1.2))])
noncomputable def lturk28 (z0:tW2.den):AV:=(.agg [(.int .u16 (z0.1)),(.int .u16 (z0.2.1))])
noncomputable def lturk3 (z0:tTd.den):AV:=(.agg [(iI (z0.1.1.1)),(iI (z0.1.1.2.1)),(iI (z0.1.2.1)),(iI (z0.1.2.2.1)),(iI (z0.1.2.2.2.1))])
noncomputable def lturk24 (z0:tTd.den):AV:=(.agg [(iI (z0.1.1.1)),(iI (z0.1.1.2.1))])
noncomputable def lturk23 (z0:tTd.den):AV:=(.agg [(iI (z0.1.1.2.1)),(iI (wr .i64 (0-z0.1.1.1)))])
noncomputable def lturk33 (z0:tTd.den):AV:=(iI (wr .i64 (z0.1.2.2.1+8)))
noncomputable def lturk27 (z0:tTd.den):AV:=(iI ((wr .i64 (z0.1.2.2.1+8)).tmod 32))
noncomputable def lturg4 (s:tSt.den) (t:tTd.den) (x:tW2.den):List (Nat×AV):=[(0,(lturk0 s)),(1,(lturk14 t)),(2,(lturk28 x)),(3,(pP 0 0)),(4,(pP 1 0)),(5,(pP 2 0)),(6,(.bool false)),(7,(pP 3 0)),(8,(pP 4 0)),(31,(pP 1 0)),(32,(lturk3 t)),(33,(lturk0 s)),(34,(lturk3 t)),(35,(pP 1 5)),(36,(.vs tRe (t.2.1.1) (t.2.1.2))),(37,(.bool (okN s t.1 t.2.1.2))),(38,(.bool false)),(40,(lturk3 t)),(41,(pP 3 0)),(42,(lturk24 t)),(43,(lturk23 t)),(44,(pP 3 3)),(45,(iI (t.1.2.2.1))),(46,(lturk33 t)),(47,(lturk27 t)),(48,(pP 4 0)),(49,(pP 4 3))]
noncomputable def lturQ0 (s:tSt.den) (t:tTd.den) (x:tW2.den):Tmps:=(tmOf 191 (lturg4 s t x++[(9,.nils),(10,(iI 0))]))
noncomputable def lturk20 (z0:tSt.den):AO:=(cF [(.vs tGr (z0.1.1) (z0.1.2)),(iI (z0.2.1.1)),(iI (z0.2.1.2.1)),(iI (z0.2.2.1.1)),(iI (z0.2.2.1.2.1))])
noncomputable def lturk19 (z0:tTd.den):AO:=(cF [(iI (z0.1.1.1)),(iI (z0.1.1.2.1)),(iI (z0.1.2.1)),(iI (z0.1.2.2.1)),(iI (z0.1.2.2.2.1)),(.vs tRe (z0.2.1.1) (z0.2.1.2))])
noncomputable def lturk40 (z0:tW2.den):AO:=(cF [(.int .u16 (z0.1)),(.int .u16 (z0.2.1))])
noncomputable def lturk22 (z0:tTd.den):AO:=(cF [(iI (z0.1.1.1)),(iI (z0.1.1.2.1)),(iI (z0.1.2.1)),(iI (z0.1.2.2.1)),(iI (z0.1.2.2.2.1))])
noncomputable def lturk18 (z0:tTd.den):AO:=(cF [(iI (z0.1.1.2.1)),(iI (wr .i64 (0-z0.1.1.1))),(iI (z0.1.2.1)),(lturk27 z0),(iI (z0.1.2.2.2.1))])
noncomputable def lturk39 (z0:tTd.den):AO:=(cF [(iI (z0.1.1.1)),(iI (z0.1.1.2.1))])
noncomputable def lturk32 (z0:tTd.den):AO:=(cF [(iI (z0.1.1.2.1)),(iI (wr .i64 (0-z0.1.1.1)))])
noncomputable def lturg3 (s:tSt.den) (t:tTd.den) (x:tW2.den):List (Nat×AO):=[(0,(lturk20 s)),(1,(lturk19 t)),(2,(lturk40 x)),(3,(lturk22 t)),(4,(lturk18 t)),(5,(lturk39 t)),(6,(lturk32 t))]
noncomputable def lturI0 (s:tSt.den) (t:tTd.den) (x:tW2.den) (x127:Nat):Cfg:=⟨.ex (pcOf H9 3 [0,0,1,0,1,1,1,1,1,1]) ⟨(lturQ0 s t x),(hpOf 7 (lturg3 s t x)),[],[],191,false⟩,⟨40,[]⟩,[(.lop (pcOf H9 3 [0,0,1,0,1,1,1,1,1,1]) 7 (lturQ0 s t x) x127),(.blk 0),(.seq (pcOf H9 3 [1,1,1,1,1,1,1])),(.cal [(.tmp 6)] .top)]⟩
noncomputable def lturk43:PC:=(pcOf H9 3 [0,0,1,0,1,1,1,1,1,1,1,1,1,1,1,1])
noncomputable def lturk17 (z0:tSt.den) (z1:tTd.den):AV:=(iI ((clrQ z0 z1.1 z1.2.1.2).2.2.2.2))
noncomputable def lturk12 (z0:tSt.den) (z1:tTd.den):AV:=(iI ((clrQ z0 (qn z1) []).2.2.2.2))
noncomputable def lturk6 (z0:tSt.den) (z1:tTd.den):AV:=(.vs tI ((wndQ z0 z1.1 z1.2.1.2).2.2.1.isEmpty) ((wndQ z0 z1.1 z1.2.1.2).2.2.1))
noncomputable def lturk16 (z0:tSt.den) (z1:tTd.den):AV:=(iI ((wndQ z0 z1.1 z1.2.1.2).2.2.2))
noncomputable def lturk1 (z0:tSt.den) (z1:tTd.den):AV:=(.vs tI ((wndQ z0 (qn z1) []).2.2.1.isEmpty) ((wndQ z0 (qn z1) []).2.2.1))
noncomputable def lturk7 (z0:tSt.den) (z1:tTd.den):AV:=(iI ((wndQ z0 (qn z1) []).2.2.2))
noncomputable def lturk15 (z0:tSt.den) (z1:tTd.den):AV:=(.agg [(iI ((clrQ z0 z1.1 z1.2.1.2).1)),(iI ((clrQ z0 z1.1 z1.2.1.2).2.1))])
noncomputable def lturk13 (z0:tSt.den) (z1:tTd.den):AV:=(.agg [(iI ((clrQ z0 z1.1 z1.2.1.2).2.2.1)),(iI ((clrQ z0 z1.1 z1.2.1.2).2.2.2.1))])
noncomputable def lturk5 (z0:tSt.den) (z1:tTd.den):AV:=(.tup [(lturk15 z0 z1),(lturk13 z0 z1),(lturk17 z0 z1)])
noncomputable def lturk50 (z0:tSt.den) (z1:tTd.den):AV:=(iI ((clrQ z0 (qn z1) []).1))
noncomputable def lturk48 (z0:tSt.den) (z1:tTd.den):AV:=(iI ((clrQ z0 (qn z1) []).2.1))
noncomputable def lturk9 (z0:tSt.den) (z1:tTd.den):AV:=(.agg [(lturk50 z0 z1),(lturk48 z0 z1)])
noncomputable def lturk46 (z0:tSt.den) (z1:tTd.den):AV:=(iI ((clrQ z0 (qn z1) []).2.2.1))
noncomputable def lturk45 (z0:tSt.den) (z1:tTd.den):AV:=(iI ((clrQ z0 (qn z1) []).2.2.2.1))
noncomputable def lturk8 (z0:tSt.den) (z1:tTd.den):AV:=(.agg [(lturk46 z0 z1),(lturk45 z0 z1)])
noncomputable def lturk2 (z0:tSt.den) (z1:tTd.den):AV:=(.tup [(lturk9 z0 z1),(lturk8 z0 z1),(lturk12 z0 z1)])
noncomputable def lturk10 (z0:tTd.den):AV:=(.agg [(iI (z0.1.1.2.1)),(iI (wr .i64 (0-z0.1.1.1))),(iI (z0.1.2.1)),(lturk27 z0),(iI (z0.1.2.2.2.1))])
noncomputable def lturk11 (z0:tSt.den) (z1:tTd.den):AV:=(.agg [(iI ((wndQ z0 z1.1 z1.2.1.2).1)),(iI ((wndQ z0 z1.1 z1.2.1.2).2.1))])
noncomputable def lturk21 (z0:tSt.den) (z1:tTd.den):AV:=(.tup [(lturk11 z0 z1),(lturk6 z0 z1),(lturk16 z0 z1)])
noncomputable def lturk49 (z0:tSt.den) (z1:tTd.den):AV:=(iI ((wndQ z0 (qn z1) []).1))
noncomputable def lturk47 (z0:tSt.den) (z1:tTd.den):AV:=(iI ((wndQ z0 (qn z1) []).2.1))
noncomputable def lturk4 (z0:tSt.den) (z1:tTd.den):AV:=(.agg [(lturk49 z0 z1),(lturk47 z0 z1)])
noncomputable def lturk35 (z0:tSt.den) (z1:tTd.den):AV:=(.tup [(lturk4 z0 z1),(lturk1 z0 z1),(lturk7 z0 z1)])
noncomputable def lturk25 (z0:tSt.den) (z1:tTd.den):AV:=(iI (Int.ofNat (wndQ z0 z1.1 z1.2.1.2).2.2.1.length))
noncomputable def lturk26 (z0:tSt.den) (z1:tTd.den):AV:=(iI (Int.ofNat (wndQ z0 (qn z1) []).2.2.1.length))
noncomputable def lturk37 (z0:tSt.den) (z1:tTd.den):AO:=(cF [(iI ((clrQ z0 z1.1 z1.2.1.2).1)),(iI ((clrQ z0 z1.1 z1.2.1.2).2.1))])
noncomputable def lturk34 (z0:tSt.den) (z1:tTd.den):AO:=(cF [(iI ((clrQ z0 z1.1 z1.2.1.2).2.2.1)),(iI ((clrQ z0 z1.1 z1.2.1.2).2.2.2.1))])
noncomputable def lturk30 (z0:tSt.den) (z1:tTd.den):AO:=(cF [(lturk50 z0 z1),(lturk48 z0 z1)])
noncomputable def lturk29 (z0:tSt.den) (z1:tTd.den):AO:=(cF [(lturk46 z0 z1),(lturk45 z0 z1)])
noncomputable def lturk38 (z0:tSt.den) (z1:tTd.den):AO:=(cF [(iI ((wndQ z0 z1.1 z1.2.1.2).1)),(iI ((wndQ z0 z1.1 z1.2.1.2).2.1))])
noncomputable def lturk31 (z0:tSt.den) (z1:tTd.den):AO:=(cF [(lturk49 z0 z1),(lturk47 z0 z1)])
noncomputable def lturg0 (s:tSt.den) (t:tTd.den) (x:tW2.den):List (Nat×AV):=[(0,(lturk0 s)),(1,(lturk14 t)),(2,(lturk28 x)),(3,(pP 0 0)),(4,(pP 1 0)),(5,(pP 2 0)),(6,(.bool false)),(7,(pP 3 0)),(8,(pP 4 0)),(31,(pP 1 0)),(32,(lturk3 t)),(33,(lturk0 s)),(34,(lturk3 t)),(35,(pP 1 5)),(36,(.vs tRe (t.2.1.1) (t.2.1.2))),(37,(.bool (okN s t.1 t.2.1.2))),(38,(.bool false)),(40,(lturk3 t)),(41,(pP 3 0)),(42,(lturk24 t)),(43,(lturk23 t)),(44,(pP 3 3)),(45,(iI (t.1.2.2.1))),(46,(lturk33 t)),(47,(lturk27 t)),(48,(pP 4 0)),(49,(pP 4 3)),(9,.nils),(10,(iI 0)),(12,(pP 7 0)),(13,(pP 8 0)),(15,(pP 9 0)),(16,(pP 10 0)),(17,(lturk12 s t)),(18,(pP 11 0)),(21,(pP 12 0)),(22,(lturk1 s t)),(23,(lturk7 s t)),(50,(iI 0)),(79,(lturk2 s t)),(82,.nils),(83,(lturk2 s t)),(84,(lturk9 s t)),(85,(lturk8 s t)),(86,(lturk12 s t)),(96,(lturk35 s t)),(99,.nils),(100,(lturk35 s t)),(101,(lturk4 s t)),(102,(lturk1 s t)),(103,(lturk7 s t)),(105,(lturk9 s t)),(106,(.bool (!(ieq (clrQ s t.1 t.2.1.2).1 (clrQ s (qn t) []).1&&(ieq (clrQ s t.1 t.2.1.2).2.1 (clrQ s (qn t) []).2.1&&true))))),(109,(lturk8 s t)),(110,(.bool (!(ieq (clrQ s t.1 t.2.1.2).2.2.1 (clrQ s (qn t) []).2.2.1&&(ieq (clrQ s t.1 t.2.1.2).2.2.2.1 (clrQ s (qn t) []).2.2.2.1&&true))))),(111,(.bool (!(ieq (clrQ s t.1 t.2.1.2).2.2.1 (clrQ s (qn t) []).2.2.1&&(ieq (clrQ s t.1 t.2.1.2).2.2.2.1 (clrQ s (qn t) []).2.2.2.1&&true))))),(114,(lturk12 s t)),(115,(.bool (!ieq (clrQ s t.1 t.2.1.2).2.2.2.2 (clrQ s (qn t) []).2.2.2.2))),(116,(.bool (!ieq (clrQ s t.1 t.2.1.2).2.2.2.2 (clrQ s (qn t) []).2.2.2.2))),(119,(lturk4 s t)),(120,(.bool (!(ieq (wndQ s t.1 t.2.1.2).1 (wndQ s (qn t) []).1&&(ieq (wndQ s t.1 t.2.1.2).2.1 (wndQ s (qn t) []).2.1&&true))))),(121,(.bool (!(ieq (wndQ s t.1 t.2.1.2).1 (wndQ s (qn t) []).1&&(ieq (wndQ s t.1 t.2.1.2).2.1 (wndQ s (qn t) []).2.1&&true))))),(125,(lturk1 s t)),(126,(lturk26 s t)),(127,(.bool (!ieq ↑(wndQ s t.1 t.2.1.2).2.2.1.length ↑(wndQ s (qn t) []).2.2.1.length))),(128,(.bool (!ieq ↑(wndQ s t.1 t.2.1.2).2.2.1.length ↑(wndQ s (qn t) []).2.2.1.length))),(131,(lturk7 s t)),(132,(.bool (!ieq (wndQ s t.1 t.2.1.2).2.2.2 (wndQ s (qn t) []).2.2.2))),(14,(lturk17 s t)),(19,(lturk6 s t)),(20,(lturk16 s t)),(51,(pP 1 5)),(52,(.vs tRe (t.2.1.1) (t.2.1.2))),(53,(iI (Int.ofNat t.2.1.2.length))),(54,(.bool false)),(70,(lturk5 s t)),(71,(lturk0 s)),(72,(lturk3 t)),(73,(pP 1 5)),(74,(.vs tRe (t.2.1.1) (t.2.1.2))),(75,(lturk5 s t)),(76,(lturk15 s t)),(77,(lturk13 s t)),(78,(lturk17 s t)),(80,(lturk0 s)),(81,(lturk10 t)),(87,(lturk21 s t)),(88,(lturk0 s)),(89,(lturk3 t)),(90,(pP 1 5)),(91,(.vs tRe (t.2.1.1) (t.2.1.2))),(92,(lturk21 s t)),(93,(lturk11 s t)),(94,(lturk6 s t)),(95,(lturk16 s t)),(97,(lturk0 s)),(98,(lturk10 t)),(104,(lturk15 s t)),(107,(.bool false)),(108,(lturk13 s t)),(112,(.bool false)),(113,(lturk17 s t)),(117,(.bool false)),(118,(lturk11 s t)),(122,(.bool false)),(123,(lturk6 s t)),(124,(lturk25 s t)),(129,(.bool false)),(130,(lturk16 s t)),(133,(.bool false))]
noncomputable def lturI1 (s:tSt.den) (t:tTd.den) (x:tW2.den) (x25:Int) (x459:Nat):Cfg:=⟨.ex (lturk43) ⟨(tmOf 191 (lturg0 s t x++[(24,(iI x25))])),(hpOf 13 (lturg3 s t x++[(7,(lturk37 s t)),(8,(lturk34 s t)),(9,(lturk30 s t)),(10,(lturk29 s t)),(11,(lturk38 s t)),(12,(lturk31 s t))])),[],[],191,false⟩,⟨40,[]⟩,[(.lop (lturk43) 13 (tmOf 191 (lturg0 s t x++[(24,(iI 0))])) x459),(.blk 2),(.seq (pcOf H9 3 [1,1,1,1,1,1,1,1,1,1,1,1,1])),(.cal [(.tmp 6)] .top)]⟩
noncomputable def lturI2 (s:tSt.den) (t:tTd.den) (x:tW2.den) (x16:Nat) (x18:Int) (x80:List AV) (x130:Nat):Cfg:=⟨.ex (pcOf H9 3 [0,0,1,0,1,1,1,1,1,1]) ⟨(tmOf 191 (lturg4 s t x++[(9,(.sl 7 0 x16 x16 4)),(10,(iI x18))])),(hpOf 8 (lturg3 s t x++[(7,(cF x80))])),[],[],191,false⟩,⟨40,[]⟩,[(.lop (pcOf H9 3 [0,0,1,0,1,1,1,1,1,1]) 7 (lturQ0 s t x) x130),(.blk 0),(.seq (pcOf H9 3 [1,1,1,1,1,1,1])),(.cal [(.tmp 6)] .top)]⟩
noncomputable def lturk42:PC:=(pcOf H9 3 [0,0,1,0,1,1,1,1,1,1,1,1,1,1,1,1,1,1])
noncomputable def lturk41 (z0:tTd.den) (z1:tW2.den):AV:=(.agg [(iI (spF z0.1.1.1 z1.1)),(iI (spF z0.1.1.2.1 z1.2.1))])
noncomputable def lturg2 (s:tSt.den) (t:tTd.den) (x:tW2.den):List (Nat×AV):=[(135,(lturk6 s t)),(136,(lturk25 s t)),(137,(.bool false)),(149,(pP 3 0)),(150,(lturk24 t)),(151,(pP 2 0)),(152,(.int .u16 (x.1))),(153,(pP 2 1)),(154,(.int .u16 (x.2.1))),(155,(lturk41 t x))]
noncomputable def lturI3 (s:tSt.den) (t:tTd.den) (x:tW2.den) (x25:Int) (x26:Int) (x485:Nat):Cfg:=⟨.ex (lturk42) ⟨(tmOf 191 (lturg0 s t x++lturg2 s t x++[(24,(iI x25)),(25,(pP 13 0)),(26,(iI x26)),(134,(iI x25))])),(hpOf 14 (lturg3 s t x++[(7,(lturk37 s t)),(8,(lturk34 s t)),(9,(lturk30 s t)),(10,(lturk29 s t)),(11,(lturk38 s t)),(12,(lturk31 s t)),(13,(cF [(iI (spF t.1.1.1 x.1)),(iI (spF t.1.1.2.1 x.2.1))]))])),[],[],191,false⟩,⟨40,[]⟩,[(.lop (lturk42) 14 (tmOf 191 (lturg0 s t x++lturg2 s t x++[(24,(iI x25)),(25,(pP 13 0)),(26,(iI 0)),(134,(iI x25))])) x485),(.blk 4),(.seq (pcOf H9 3 [1,1,1,1,1,1,1,1,1,1,1,1,1,1,1])),(.cal [(.tmp 6)] .top)]⟩
noncomputable def lturk36 (z0:Int) (z1:Int) (z2:Int) (z3:Int) (z4:Int):AV:=(.tup [(.agg [(iI z0),(iI z1)]),(.agg [(iI z2),(iI z3)]),(iI z4)])
noncomputable def lturk44 (z0:Int) (z1:Int) (z2:Bool) (z3:List (Ty.den tI)) (z4:Int):AV:=(.tup [(.agg [(iI z0),(iI z1)]),(.vs tI z2 z3),(iI z4)])
noncomputable def lturg1 (s:tSt.den) (t:tTd.den) (x:tW2.den) (x20:Int) (x24:Bool) (x25:List (Ty.den tI)) (x26:Int) (x18:Int) (x16:Nat):List (Nat×AV):=[(0,(lturk0 s)),(1,(lturk14 t)),(2,(lturk28 x)),(3,(pP 0 0)),(4,(pP 1 0)),(5,(pP 2 0)),(6,(.bool false)),(7,(pP 3 0)),(8,(pP 4 0)),(31,(pP 1 0)),(32,(lturk3 t)),(33,(lturk0 s)),(34,(lturk3 t)),(35,(pP 1 5)),(36,(.vs tRe (t.2.1.1) (t.2.1.2))),(37,(.bool (okN s t.1 t.2.1.2))),(38,(.bool false)),(40,(lturk3 t)),(41,(pP 3 0)),(42,(lturk24 t)),(43,(lturk23 t)),(44,(pP 3 3)),(45,(iI (t.1.2.2.1))),(46,(lturk33 t)),(47,(lturk27 t)),(48,(pP 4 0)),(49,(pP 4 3)),(14,(lturk17 s t)),(19,(lturk6 s t)),(20,(lturk16 s t)),(51,(pP 1 5)),(52,(.vs tRe (t.2.1.1) (t.2.1.2))),(53,(iI (Int.ofNat t.2.1.2.length))),(54,(.bool false)),(70,(lturk5 s t)),(71,(lturk0 s)),(72,(lturk3 t)),(73,(pP 1 5)),(74,(.vs tRe (t.2.1.1) (t.2.1.2))),(75,(lturk5 s t)),(76,(lturk15 s t)),(77,(lturk13 s t)),(78,(lturk17 s t)),(80,(lturk0 s)),(81,(lturk10 t)),(87,(lturk21 s t)),(88,(lturk0 s)),(89,(lturk3 t)),(90,(pP 1 5)),(91,(.vs tRe (t.2.1.1) (t.2.1.2))),(92,(lturk21 s t)),(93,(lturk11 s t)),(94,(lturk6 s t)),(95,(lturk16 s t)),(97,(lturk0 s)),(98,(lturk10 t)),(104,(lturk15 s t)),(107,(.bool false)),(108,(lturk13 s t)),(112,(.bool false)),(113,(lturk17 s t)),(117,(.bool false)),(118,(lturk11 s t)),(122,(.bool false)),(123,(lturk6 s t)),(124,(lturk25 s t)),(129,(.bool false)),(130,(lturk16 s t)),(133,(.bool false)),(12,(pP 8 0)),(13,(pP 9 0)),(15,(pP 10 0)),(16,(pP 11 0)),(17,(iI x20)),(18,(pP 12 0)),(21,(pP 13 0)),(22,(.vs tI x24 x25)),(23,(iI x26)),(50,(iI x18)),(82,(.sl 7 0 x16 x16 4)),(86,(iI x20)),(99,(.sl 7 0 x16 x16 4)),(102,(.vs tI x24 x25)),(103,(iI x26)),(114,(iI x20)),(125,(.vs tI x24 x25)),(131,(iI x26)),(9,(.sl 7 0 x16 x16 4)),(10,(iI x18))]
noncomputable def lturg6 (x20:Int) (x93:Int) (x94:Int) (x95:Int) (x96:Int) (x24:Bool) (x25:List (Ty.den tI)) (x26:Int) (x149:Int) (x150:Int) (x181:Bool) (x187:Bool) (x192:Bool) (x199:Bool) (x207:Int) (x208:Bool) (x213:Bool):List (Nat×AV):=[(79,(lturk36 x93 x94 x95 x96 x20)),(83,(lturk36 x93 x94 x95 x96 x20)),(84,(.agg [(iI x93),(iI x94)])),(85,(.agg [(iI x95),(iI x96)])),(96,(lturk44 x149 x150 x24 x25 x26)),(100,(lturk44 x149 x150 x24 x25 x26)),(101,(.agg [(iI x149),(iI x150)])),(105,(.agg [(iI x93),(iI x94)])),(106,(.bool x181)),(109,(.agg [(iI x95),(iI x96)])),(110,(.bool x187)),(111,(.bool x187)),(115,(.bool x192)),(116,(.bool x192)),(119,(.agg [(iI x149),(iI x150)])),(120,(.bool x199)),(121,(.bool x199)),(126,(iI x207)),(127,(.bool x208)),(128,(.bool x208)),(132,(.bool x213))]
noncomputable def lturI4 (s:tSt.den) (t:tTd.den) (x:tW2.den) (x16:Nat) (x18:Int) (x20:Int) (x24:Bool) (x25:List (Ty.den tI)) (x26:Int) (x27:Int) (x93:Int) (x94:Int) (x95:Int) (x96:Int) (x149:Int) (x150:Int) (x181:Bool) (x187:Bool) (x192:Bool) (x199:Bool) (x207:Int) (x208:Bool) (x213:Bool) (x244:List AV) (x472:Nat):Cfg:=⟨.ex (lturk43) ⟨(tmOf 191 (lturg1 s t x x20 x24 x25 x26 x18 x16++lturg6 x20 x93 x94 x95 x96 x24 x25 x26 x149 x150 x181 x187 x192 x199 x207 x208 x213++[(24,(iI x27))])),(hpOf 14 (lturg3 s t x++[(7,(.cells true x244)),(8,(lturk37 s t)),(9,(lturk34 s t)),(10,(cF [(iI x93),(iI x94)])),(11,(cF [(iI x95),(iI x96)])),(12,(lturk38 s t)),(13,(cF [(iI x149),(iI x150)]))])),[],[],191,false⟩,⟨40,[]⟩,[(.lop (lturk43) 14 (tmOf 191 (lturg1 s t x x20 x24 x25 x26 x18 x16++lturg6 x20 x93 x94 x95 x96 x24 x25 x26 x149 x150 x181 x187 x192 x199 x207 x208 x213++[(24,(iI 0))])) x472),(.blk 2),(.seq (pcOf H9 3 [1,1,1,1,1,1,1,1,1,1,1,1,1])),(.cal [(.tmp 6)] .top)]⟩
noncomputable def lturg5 (x27:Int) (x20:Int) (x94:Int) (x95:Int) (x96:Int) (x97:Int) (x24:Bool) (x25:List (Ty.den tI)) (x26:Int) (x150:Int) (x151:Int) (x182:Bool) (x188:Bool) (x193:Bool) (x200:Bool) (x208:Int) (x209:Bool) (x214:Bool):List (Nat×AV):=[(24,(iI x27)),(25,(pP 14 0)),(79,(lturk36 x94 x95 x96 x97 x20)),(83,(lturk36 x94 x95 x96 x97 x20)),(84,(.agg [(iI x94),(iI x95)])),(85,(.agg [(iI x96),(iI x97)])),(96,(lturk44 x150 x151 x24 x25 x26)),(100,(lturk44 x150 x151 x24 x25 x26)),(101,(.agg [(iI x150),(iI x151)])),(105,(.agg [(iI x94),(iI x95)])),(106,(.bool x182)),(109,(.agg [(iI x96),(iI x97)])),(110,(.bool x188)),(111,(.bool x188)),(115,(.bool x193)),(116,(.bool x193)),(119,(.agg [(iI x150),(iI x151)])),(120,(.bool x200)),(121,(.bool x200)),(126,(iI x208)),(127,(.bool x209)),(128,(.bool x209)),(132,(.bool x214)),(134,(iI x27))]
noncomputable def lturI5 (s:tSt.den) (t:tTd.den) (x:tW2.den) (x16:Nat) (x18:Int) (x20:Int) (x24:Bool) (x25:List (Ty.den tI)) (x26:Int) (x27:Int) (x28:Int) (x94:Int) (x95:Int) (x96:Int) (x97:Int) (x150:Int) (x151:Int) (x182:Bool) (x188:Bool) (x193:Bool) (x200:Bool) (x208:Int) (x209:Bool) (x214:Bool) (x256:List AV) (x498:Nat):Cfg:=⟨.ex (lturk42) ⟨(tmOf 191 (lturg1 s t x x20 x24 x25 x26 x18 x16++lturg5 x27 x20 x94 x95 x96 x97 x24 x25 x26 x150 x151 x182 x188 x193 x200 x208 x209 x214++lturg2 s t x++[(26,(iI x28))])),(hpOf 15 (lturg3 s t x++[(7,(.cells true x256)),(8,(lturk37 s t)),(9,(lturk34 s t)),(10,(cF [(iI x94),(iI x95)])),(11,(cF [(iI x96),(iI x97)])),(12,(lturk38 s t)),(13,(cF [(iI x150),(iI x151)])),(14,(cF [(iI (spF t.1.1.1 x.1)),(iI (spF t.1.1.2.1 x.2.1))]))])),[],[],191,false⟩,⟨40,[]⟩,[(.lop (lturk42) 15 (tmOf 191 (lturg1 s t x x20 x24 x25 x26 x18 x16++lturg5 x27 x20 x94 x95 x96 x97 x24 x25 x26 x150 x151 x182 x188 x193 x200 x208 x209 x214++lturg2 s t x++[(26,(iI 0))])) x498),(.blk 4),(.seq (pcOf H9 3 [1,1,1,1,1,1,1,1,1,1,1,1,1,1,1])),(.cal [(.tmp 6)] .top)]⟩
theorem ltur_start (s:tSt.den) (t:tTd.den) (x:tW2.den):adv H9 (Y9 [3]) 20000 (startC H9 3 [tSt.av s,tTd.av t,tW2.av x] 40)=(bif !okN s t.1 t.2.1.2 then tO else (sI t.1.2.2.1 (sI t.1.2.2.1 (sI t.1.2.2.1 (sI t.1.1.1 (sI t.1.1.2.1 (some (.stop (lturI0 s t x 1048575))))))))):=by kernel_rfl
theorem ltur_step0 (s:tSt.den) (t:tTd.den) (x:tW2.den) (f:Nat):adv H9 (Y9 [3]) 20000 (lturI0 s t x (f+1))=(bif !ile (t.2.1.2.length:Int) 0 then (bif inB 0 t.2.1.2.length then some (.stop (lturI2 s t x 1 1 (rowQ (t.2.1.2.getD (Int.toNat 0) tRe.dflt)) f)) else none) else tlT (clrQ s t.1 t.2.1.2) (clrQ s (qn t) []) (wndQ s t.1 t.2.1.2) (wndQ s (qn t) []) (lturI1 s t x 0 1048575)):=by kernel_rfl
theorem ltur_step1 (s:tSt.den) (t:tTd.den) (x:tW2.den) (a:Int) (f:Nat):adv H9 (Y9 [3]) 20000 (lturI1 s t x a (f+1))=stW (wndQ s (qn t) []).2.2.1 (wndQ s t.1 t.2.1.2).2.2.1 true a (some (.stop (lturI1 s t x (wr .i64 (a+1)) f))) (some (.stop (lturI3 s t x a 0 1048575))):=by kernel_rfl
noncomputable def lturJ5 (s:tSt.den) (t:tTd.den) (x:tW2.den) (k:Nat) (i:Int) (c:List AV) (U:List tRe.den) (a b:Int) (f:Nat):Cfg:=lturI5 s t x (k) (i) ((clrQ s (qn t) U).2.2.2.2) ((wndQ s (qn t) U).2.2.1.isEmpty) ((wndQ s (qn t) U).2.2.1) ((wndQ s (qn t) U).2.2.2) a b ((clrQ s (qn t) U).1) ((clrQ s (qn t) U).2.1) ((clrQ s (qn t) U).2.2.1) ((clrQ s (qn t) U).2.2.2.1) ((wndQ s (qn t) U).1) ((wndQ s (qn t) U).2.1) (!(ieq (clrQ s t.1 t.2.1.2).1 (clrQ s (qn t) U).1&&(ieq (clrQ s t.1 t.2.1.2).2.1 (clrQ s (qn t) U).2.1&&true))) (!(ieq (clrQ s t.1 t.2.1.2).2.2.1 (clrQ s (qn t) U).2.2.1&&(ieq (clrQ s t.1 t.2.1.2).2.2.2.1 (clrQ s (qn t) U).2.2.2.1&&true))) (!ieq (clrQ s t.1 t.2.1.2).2.2.2.2 (clrQ s (qn t) U).2.2.2.2) (!(ieq (wndQ s t.1 t.2.1.2).1 (wndQ s (qn t) U).1&&(ieq (wndQ s t.1 t.2.1.2).2.1 (wndQ s (qn t) U).2.1&&true))) (Int.ofNat (wndQ s (qn t) U).2.2.1.length) (!ieq ↑(wndQ s t.1 t.2.1.2).2.2.1.length ↑(wndQ s (qn t) U).2.2.1.length) (!ieq (wndQ s t.1 t.2.1.2).2.2.2 (wndQ s (qn t) U).2.2.2) (c) f
noncomputable def lturJ4 (s:tSt.den) (t:tTd.den) (x:tW2.den) (k:Nat) (i:Int) (c:List AV) (U:List tRe.den) (a:Int) (f:Nat):Cfg:=lturI4 s t x (k) (i) ((clrQ s (qn t) U).2.2.2.2) ((wndQ s (qn t) U).2.2.1.isEmpty) ((wndQ s (qn t) U).2.2.1) ((wndQ s (qn t) U).2.2.2) a ((clrQ s (qn t) U).1) ((clrQ s (qn t) U).2.1) ((clrQ s (qn t) U).2.2.1) ((clrQ s (qn t) U).2.2.2.1) ((wndQ s (qn t) U).1) ((wndQ s (qn t) U).2.1) (!(ieq (clrQ s t.1 t.2.1.2).1 (clrQ s (qn t) U).1&&(ieq (clrQ s t.1 t.2.1.2).2.1 (clrQ s (qn t) U).2.1&&true))) (!(ieq (clrQ s t.1 t.2.1.2).2.2.1 (clrQ s (qn t) U).2.2.1&&(ieq (clrQ s t.1 t.2.1.2).2.2.2.1 (clrQ s (qn t) U).2.2.2.1&&true))) (!ieq (clrQ s t.1 t.2.1.2).2.2.2.2 (clrQ s (qn t) U).2.2.2.2) (!(ieq (wndQ s t.1 t.2.1.2).1 (wndQ s (qn t) U).1&&(ieq (wndQ s t.1 t.2.1.2).2.1 (wndQ s (qn t) U).2.1&&true))) (Int.ofNat (wndQ s (qn t) U).2.2.1.length) (!ieq ↑(wndQ s t.1 t.2.1.2).2.2.1.length ↑(wndQ s (qn t) U).2.2.1.length) (!ieq (wndQ s t.1 t.2.1.2).2.2.2 (wndQ s (qn t) U).2.2.2) (c) f
theorem ltur_step2 (s:tSt.den) (t:tTd.den) (x:tW2.den) (k:Nat) (i:Int) (c:List AV) (f:Nat):adv H9 (Y9 [3]) 20000 (lturI2 s t x k i c (f+1))=(bif !ile (t.2.1.2.length:Int) i then (bif inB i t.2.1.2.length then (bif (0+k * 4).beq c.length then (bif k.ble 1048576 then (bif plO (AO.cells false (c++rowQ (t.2.1.2.getD i.toNat tRe.dflt))) then some (.stop (lturI2 s t x (k+1) (wr .i64 (i+1)) (c++rowQ (t.2.1.2.getD i.toNat tRe.dflt)) f)) else none) else none) else none) else none) else (bif plainL c then (bif isF (rd tRe) k c&&true then (bif plainL c then (bif isF (rd tRe) k c&&true then tlT (clrQ s t.1 t.2.1.2) (clrQ s (qn t) (unf (rd tRe) k c)) (wndQ s t.1 t.2.1.2) (wndQ s (qn t) (unf (rd tRe) k c)) (lturJ4 s t x k i c (unf (rd tRe) k c) 0 1048575) else none) else none) else none) else none)):=by kernel_rfl
theorem ltur_step3 (s:tSt.den) (t:tTd.den) (x:tW2.den) (a b:Int) (f:Nat):adv H9 (Y9 [3]) 20000 (lturI3 s t x a b (f+1))=stQ b true true true (gS s t x) (qS s t x b) (qS2 s t x [] b) (some (.stop (lturI3 s t x a (wr .i64 (b+1)) f))):=by kernel_rfl
theorem ltur_step4 (s:tSt.den) (t:tTd.den) (x:tW2.den) (k:Nat) (i:Int) (c:List AV) (U:List tRe.den) (a:Int) (f:Nat):adv H9 (Y9 [3]) 20000 (lturJ4 s t x k i c U a (f+1))=stW (wndQ s (qn t) U).2.2.1 (wndQ s t.1 t.2.1.2).2.2.1 (plO (AO.cells true c)) a (some (.stop (lturJ4 s t x k i c U (wr .i64 (a+1)) f))) (some (.stop (lturJ5 s t x k i c U a 0 1048575))):=by kernel_rfl
theorem ltur_step5 (s:tSt.den) (t:tTd.den) (x:tW2.den) (k:Nat) (i:Int) (c:List AV) (U:List tRe.den) (a b:Int) (f:Nat):adv H9 (Y9 [3]) 20000 (lturJ5 s t x k i c U a b (f+1))=stQ b (plainL c) (isF (rd tRe) k c&&true) (plO (AO.cells true c)) (gS s t x) (qS s t x b) (qS2 s t x (unf (rd tRe) k c) b) (some (.stop (lturJ5 s t x k i c U a (wr .i64 (b+1)) f))):=by kernel_rfl
theorem gS_eq (s:tSt.den) (t:tTd.den) (x:tW2.den) (o:Option Out):gS s t x o=o:=by
 unfold gS;simp only[sI_eq,sB_eq,sV_eq]
theorem tlT_go {c c':Q5} {w w':Q4} {a d:Cfg} {n:Nat} (h:adv H9 (Y9 [3]) n d=tlT c c' w w' a) (hc:c'=c) (h1:w'.1=w.1) (h2:w'.2.1=w.2.1) (h3:w'.2.2.1.length=w.2.2.1.length) (h4:w'.2.2.2=w.2.2.2) (ha:AnsB H9 a true):AnsB H9 d true:=by
 subst hc
 unfold tlT at h
 rw[h1,h2,h3,h4] at h
 simp only[ieq_self,Bool.and_true,Bool.not_true,cond_false] at h
 exact .stop (Y9_ok _) H9sy h ha
theorem loopQ {s:tSt.den} {t:tTd.den} {x:tW2.den} {U:List tRe.den} {p f o:Bool} {c:Int→Nat→Cfg}
  (hst:∀ b k,adv H9 (Y9 [3]) 20000 (c b (k+1))=stQ b p f o (gS s t x) (qS s t x b) (qS2 s t x U b) (some (.stop (c (wr .i64 (b+1)) k))))
  (hp:p=true) (hf:f=true) (ho:o=true) (hq:∀ b,qS2 s t x U b=qS s t x b):AnsB H9 (c 0 1048575) true:=by
 subst hp;subst hf;subst ho
 have go:∀ b k,ile 2 b=false→adv H9 (Y9 [3]) 20000 (c b (k+1))=some (.stop (c (wr .i64 (b+1)) k)):=fun b k hb=>by
  rw[hst,hq]
  unfold stQ
  rw[hb,gS_eq,ieq_self,ieq_self];rfl
 refine .stop (Y9_ok _) H9sy (go 0 _ rfl) (.stop (Y9_ok _) H9sy (go 1 _ rfl) ?_)
 exact .doneB (Y9_ok _) H9sy ((hst 2 1048572).trans rfl) rfl
theorem loopW {W V:List Int} {o:Bool} {c:Int→Nat→Cfg} {d:Int→Cfg}
  (hst:∀ a k,adv H9 (Y9 [3]) 20000 (c a (k+1))=stW W V o a (some (.stop (c (wr .i64 (a+1)) k))) (some (.stop (d a))))
  (ho:o=true) (hV:V.length≤32) (hW:W.length≤32) (hh:∀ n∈V,hasF W ((wr .i64 (n+8)).tmod 32)=true) (hd:∀ a,AnsB H9 (d a) true):∀ (r k f:Nat),k+r=V.length→r<f→AnsB H9 (c k f) true
 |0,k,f+1,hk,_=>by
  have h:=hst k f
  unfold stW at h
  rw[ile_t (show ((V.length:Nat):Int)≤k by omega)] at h
  exact .stop (Y9_ok _) H9sy h (hd _)
 |r+1,k,f+1,hk,hf=>by
  have h:=hst k f
  have hlt:k<V.length:=by omega
  have eg:V.getD (k:Int).toNat tI.dflt=V[k]:=getD_at hlt
  unfold stW at h
  rw[ile_f (show (k:Int)<((V.length:Nat):Int) by omega),inB_at hlt,eg,hh _ (List.getElem_mem hlt),Nat.ble_eq_true_of_le (show W.length≤1000 by omega),ho,wr_succ (show k<1048577 by omega)] at h
  exact .stop (Y9_ok _) H9sy h (loopW hst ho hV hW hh hd r (k+1) f (by omega) (by omega))
theorem loopWQ {s:tSt.den} {t:tTd.den} {x:tW2.den} {U:List tRe.den} {p f o o':Bool} {c:Int→Nat→Cfg} {d:Int→Int→Nat→Cfg}
  (hA:∀ a k,adv H9 (Y9 [3]) 20000 (c a (k+1))=stW (wndQ s (qn t) U).2.2.1 (wndQ s t.1 t.2.1.2).2.2.1 o' a (some (.stop (c (wr .i64 (a+1)) k))) (some (.stop (d a 0 1048575))))
  (hB:∀ a b k,adv H9 (Y9 [3]) 20000 (d a b (k+1))=stQ b p f o (gS s t x) (qS s t x b) (qS2 s t x U b) (some (.stop (d a (wr .i64 (b+1)) k))))
  (hp:p=true) (hf:f=true) (ho:o=true) (ho':o'=true) (hq:∀ b,qS2 s t x U b=qS s t x b) (hh:∀ n∈(wndQ s t.1 t.2.1.2).2.2.1,hasF (wndQ s (qn t) U).2.2.1 ((wr .i64 (n+8)).tmod 32)=true):AnsB H9 (c 0 1048575) true:=
 loopW (c:=c) (d:=fun a=>d a 0 1048575) hA ho' (wndQ_len _ _ _) (wndQ_len _ _ _) hh (fun a=>loopQ (hB a) hp hf ho hq) (wndQ s t.1 t.2.1.2).2.2.1.length 0 1048575 (Nat.zero_add _) (Nat.lt_of_le_of_lt (wndQ_len _ _ _) (by decide))
theorem qn_is {s:tSt.den} {t:tTd.den} (h:okN s t.1 t.2.1.2=true):qn t=qN t.1:=by
 have hN:=nig_ok h
 have h1:=in3_iff.1 hN.at_
 obtain⟨w,hw⟩:∃ w:Int,t.1.2.2.1=w:=⟨_,rfl⟩
 have h2:0≤w∧w≤31:=by subst hw;exact hN.wind.1
 show (((t.1.1.2.1,wr .i64 (0-t.1.1.1),()),t.1.2.1,(wr .i64 (t.1.2.2.1+8)).tmod 32,t.1.2.2.2):tNi.den)=(qP t.1.1,t.1.2.1,(t.1.2.2.1+8).tmod 32,t.1.2.2.2)
 rw[wr_in (n:=0-t.1.1.1) (by omega) (by omega),wr_in (n:=t.1.2.2.1+8) (by rw[hw];omega) (by rw[hw];omega)]
 rfl
theorem pS2_is (t:tTd.den) (x:tW2.den):pS2 t x=qP (pS t x):=by
 have h:=spF_b t.1.1.1 x.1
 show ((spF t.1.1.2.1 x.2.1,wr .i64 (0-spF t.1.1.1 x.1),()):tP.den)=(spF t.1.1.2.1 x.2.1,0-spF t.1.1.1 x.1,())
 rw[wr_in (n:=0-spF t.1.1.1 x.1) (by omega) (by omega)]
theorem rowQ_is {r:tRe.den} (h:in3 r.1.1 r.1.2.1=true):rowQ r=flat tRe [qR r]:=by
 have h1:=in3_iff.1 h
 unfold rowQ
 rw[wr_in (n:=0-r.1.1) (by omega) (by omega)]
 rfl
theorem ltur_rest {s:tSt.den} {t:tTd.den} {x:tW2.den} {U:List tRe.den} {p f o o':Bool} {e:Cfg} {n:Nat} {c:Int→Nat→Cfg} {d:Int→Int→Nat→Cfg}
  (h:adv H9 (Y9 [3]) n e=tlT (clrQ s t.1 t.2.1.2) (clrQ s (qn t) U) (wndQ s t.1 t.2.1.2) (wndQ s (qn t) U) (c 0 1048575))
  (hA:∀ a k,adv H9 (Y9 [3]) 20000 (c a (k+1))=stW (wndQ s (qn t) U).2.2.1 (wndQ s t.1 t.2.1.2).2.2.1 o' a (some (.stop (c (wr .i64 (a+1)) k))) (some (.stop (d a 0 1048575))))
  (hB:∀ a b k,adv H9 (Y9 [3]) 20000 (d a b (k+1))=stQ b p f o (gS s t x) (qS s t x b) (qS2 s t x U b) (some (.stop (d a (wr .i64 (b+1)) k))))
  (hU:U=t.2.1.2.map qR) (hp:p=true) (hf:f=true) (ho:o=true) (ho':o'=true) (hk:okN s t.1 t.2.1.2=true):AnsB H9 e true:=by
 subst hU
 have eq:=qn_is hk
 obtain⟨w1,w2,w3,w4,w5⟩:=wnd_turn hk
 rw[eq] at h
 refine tlT_go h (clr_turn hk) w1 w2 w3 w4 (loopWQ hA hB hp hf ho ho' (fun b=>?_) (fun n hn=>by rw[eq];exact w5 n hn))
 unfold qS2 qS
 rw[eq,pS2_is]
 exact cou_turn hk (sp_in3 _ _ _ _)
theorem loop2 {s:tSt.den} {t:tTd.den} {x:tW2.den} (hk:okN s t.1 t.2.1.2=true):∀ (r k f:Nat),k+r=t.2.1.2.length→r<f→AnsB H9 (lturI2 s t x k k (flat tRe ((t.2.1.2.take k).map qR)) f) true
 | 0, k, f + 1, e, _ => by
  have h:=ltur_step2 s t x k k (flat tRe ((t.2.1.2.take k).map qR)) f
  have hl:t.2.1.2.take k=t.2.1.2:=List.take_of_length_le (by omega)
  rw[hl] at h⊢
  obtain⟨u1,u2⟩:=unf_flat (t:=tRe) (t.2.1.2.map qR) k (by rw[List.length_map];omega)
  have p1:plainL (flat tRe (t.2.1.2.map qR))=true:=by
   have:=plainR [] (t.2.1.2.map qR);rw[List.append_nil] at this;exact this.trans rfl
  rw[ile_t (show ((t.2.1.2.length:Nat):Int)≤k by omega),Bool.not_true,cond_false,p1,u1,u2,Bool.and_self,cond_true,cond_true,cond_true,cond_true] at h
  exact ltur_rest (p:=plainL (flat tRe (t.2.1.2.map qR))) (f:=isF (rd tRe) k (flat tRe (t.2.1.2.map qR))&&true) (o:=plO (AO.cells true (flat tRe (t.2.1.2.map qR)))) (o':=plO (AO.cells true (flat tRe (t.2.1.2.map qR)))) h (fun a j=>ltur_step4 s t x k k (flat tRe (t.2.1.2.map qR)) (t.2.1.2.map qR) a j) (fun a b j=>(ltur_step5 s t x k k (flat tRe (t.2.1.2.map qR)) (t.2.1.2.map qR) a b j).trans (by rw[u2])) rfl p1 (by rw[u1];rfl) p1 p1 hk
 | r + 1, k, f + 1, e, hf => by
  have h:=ltur_step2 s t x k k (flat tRe ((t.2.1.2.take k).map qR)) f
  have hN:=nig_ok hk
  have h8:=hN.len
  have hlt:k<t.2.1.2.length:=by omega
  have eg:t.2.1.2.getD (k:Int).toNat tRe.dflt=t.2.1.2[k]:=getD_at hlt
  have hr:in3 t.2.1.2[k].1.1 t.2.1.2[k].1.2.1=true:=by
   have:=hN.reps
   unfold repB at this
   exact List.all_eq_true.1 this _ (List.getElem_mem hlt)
  have en:flat tRe ((t.2.1.2.take k).map qR)++rowQ t.2.1.2[k]=flat tRe ((t.2.1.2.take (k+1)).map qR):=by
   rw[rowQ_is hr,← flat_append,List.take_add_one,List.map_append,List.getElem?_eq_getElem hlt];rfl
  have p1:plO (AO.cells false (flat tRe ((t.2.1.2.take (k+1)).map qR)))=true:=by
   have:=plainR [] ((t.2.1.2.take (k+1)).map qR);rw[List.append_nil] at this;exact this.trans rfl
  have l1:(0+k * 4).beq (flat tRe ((t.2.1.2.take k).map qR)).length=true:=by
   rw[flatR_len,List.length_map,List.length_take,Nat.min_eq_left (by omega),Nat.zero_add];exact Nat.beq_refl _
  rw[ile_f (show (k:Int)<((t.2.1.2.length:Nat):Int) by omega),Bool.not_false,cond_true,inB_at hlt,cond_true,l1,cond_true,Nat.ble_eq_true_of_le (show k≤1048576 by omega),cond_true,eg,en,p1,cond_true,wr_succ (show k<1048577 by omega)] at h
  exact .stop (Y9_ok _) H9sy h (loop2 hk r (k+1) f (by omega) (by omega))
theorem ltu_true (s:tSt.den) (t:tTd.den) (x:tW2.den):∃ σ,callN H9 (40+1) 3 [tSt.av s,tTd.av t,tW2.av x] .empty [] []=some (.bool true,σ,[]):=by
 refine AnsB.call (ext_none (by kernel_rfl)) (hasB_spec (by kernel_rfl)) ?_
 have h:=ltur_start s t x
 simp only[sI_eq] at h
 cases hk:okN s t.1 t.2.1.2 with
 |false=>rw[hk] at h;exact .doneB (Y9_ok _) H9sy h rfl
 | true =>
  rw[hk,Bool.not_true,cond_false] at h
  refine .stop (Y9_ok _) H9sy h ?_
  have h0:=ltur_step0 s t x 1048574
  cases hl:t.2.1.2 with
  |nil=>
   rw[hl] at h0
   rw[← hl] at h0
   have e0:ile (([]:List tRe.den).length:Int) 0=true:=rfl
   exact ltur_rest (U:=[]) (by rw[hl] at h0⊢;exact h0) (fun a j=>ltur_step1 s t x a j) (fun a b j=>ltur_step3 s t x a b j) (by rw[hl];rfl) rfl rfl rfl rfl hk
  | cons r l =>
   have hN:=nig_ok hk
   have h8:=hN.len
   have h1:0<t.2.1.2.length:=by rw[hl];exact Nat.succ_pos _
   have eg:t.2.1.2.getD (Int.toNat 0) tRe.dflt=t.2.1.2[0]:=getD_at h1
   have hr:in3 t.2.1.2[0].1.1 t.2.1.2[0].1.2.1=true:=by
    have:=hN.reps
    unfold repB at this
    exact List.all_eq_true.1 this _ (List.getElem_mem h1)
   rw[ile_f (show (0:Int)<((t.2.1.2.length:Nat):Int) by omega),Bool.not_false,cond_true,show inB 0 t.2.1.2.length=true from inB_at h1,cond_true,eg,rowQ_is hr] at h0
   have e1:flat tRe [qR t.2.1.2[0]]=flat tRe ((t.2.1.2.take 1).map qR):=by
    rw[List.take_add_one (i:=0),List.getElem?_eq_getElem h1];rfl
   rw[e1] at h0
   exact .stop (Y9_ok _) H9sy h0 (loop2 hk (t.2.1.2.length-1) 1 1048574 (by omega) (by omega))
end Go.Proofs.YtpnipaimaohiaaaGreatDoor


namespace Go.Proofs.YtpnipaimaohiaaaGreatDoor
open Go Go.ChangeShapes Go.WideShapes Go.Eng
theorem kOwn:ownKnob Tryz.prog.godebug=none:=by kernel_rfl
theorem kPlain:(Rows.airTurnedRow.laid.all fun x=>x.2.handleName?.isNone)=true:=by kernel_rfl
theorem kLaid:allT (glB Tryz.prog Rows.airTurnedRow.laid) T0.gl (fun k=>k)=true:=by kernel_rfl
theorem kParams:Tryz.f3.params=#[26,33,35]:=by kernel_rfl
theorem kResults:Tryz.f3.resultTypes=#[4]:=by kernel_rfl
theorem kLaidOut:laidOutB Tryz.prog=true:=by kernel_rfl
theorem kRead:Tryz.f3.params.toList.all (fun t=>Tryz.prog.readableRec t&&decide (t<Tryz.prog.types.size))=true:=by kernel_rfl
theorem kFit1:fits Tryz.prog (tSt) 26=true:=by kernel_rfl
theorem kFit2:fits Tryz.prog (tTd) 33=true:=by kernel_rfl
theorem kFit3:fits Tryz.prog (tW2) 35=true:=by kernel_rfl
theorem kGlob:H9.glob=T0.gl.get:=rfl
theorem kExt (c1:(tSt).den) (c2:(tTd).den) (c3:(tW2).den):H9.ext 3 [tSt.av c1,tTd.av c2,tW2.av c3]=none:=ext_none (by kernel_rfl)
set_option maxRecDepth 100000 in
theorem kLifted (os:Os) (started:os.Started) (H:Type) (enc:TypeId×Value→H) :
  ReturnsInHanded {} Tryz.checked os 3 .any (fun w args=>(Rows.airTurnedSpec.pre enc Tryz.prog Tryz.f3 [] false w args∧laidMetH Tryz.prog Rows.airTurnedRow.laid w)∧sizedMet enc Tryz.prog Tryz.f3 (OpenSpec.ofChange Rows.airTurnedSpec) false w args)
   (Rows.airTurnedSpec.post enc Tryz.prog Tryz.f3 false true false false):=by
 refine returnsInHanded_of_change_and (C:=Tryz.checked) (X:=fun w _=>laidMetH Tryz.prog Rows.airTurnedRow.laid w) (fun _ _ _ hh h=>h.of_heap hh) kOwn started (by kernel_rfl) Tryz.func3
  (ChangeSpec.witness_shaped (enc := enc) (C := Tryz.checked) (os := os) (X := fun w _ => laidMetH Tryz.prog Rows.airTurnedRow.laid w) false (World.laidAll Tryz.prog os Rows.airTurnedRow.laid) #[.agg #[.slice none 0 0, .int .i64 0, .int .i64 0, .int .i64 0, .int .i64 0], .agg #[.int .i64 0, .int .i64 0, .int .i64 0, .int .i64 0, .int .i64 0, .slice none 0 0], .agg #[.int .u16 0, .int .u16 0]] 8 (World.laidAll_os _ _ _)
   (World.shaped_of_ZipB (by kernel_rfl) (by kernel_rfl)) (by kernel_rfl) (by kernel_rfl) (by kernel_rfl)
   (by rw[MakeChecks.laidMetH_plain _ _ _ kPlain];exact laidMet_laidAll _ (by kernel_rfl) (by kernel_rfl))) ?_
 intro W base args ds gs before hok hW _ _ hL _
 have hL':laidMet Tryz.prog Rows.airTurnedRow.laid W:=by rw[← MakeChecks.laidMetH_plain _ _ _ kPlain];exact hL
 have hW':=hW
 obtain⟨p,q,hA,_⟩:=hW
 rw[kParams] at hA
 obtain⟨v1,v2,v3,d1,d2,d3,p1,p2,p3,e1',e2',hp,t1,t2,t3⟩:=trodAll_three hA
 subst e1';subst e2'
 rw[kParams] at hok
 obtain⟨c1,h1,w1⟩:=arg_ty (t:=tSt) (hok 0 26 v1 rfl rfl) kFit1 t1
 obtain⟨c2,h2,w2⟩:=arg_ty (t:=tTd) (hok 1 33 v2 rfl rfl) kFit2 t2
 obtain⟨c3,h3,w3⟩:=arg_ty (t:=tW2) (hok 2 35 v3 rfl rfl) kFit3 t3
 obtain⟨σ,hrun⟩:=ltu_true c1 c2 c3
 refine (law_run (A:=[v1,v2,v3]) (V:=Go.Eng.seen W) h9 xh9 nh9 tabs_ok.mix (kExt c1 c2 c3) hrun (.cons h1 (.cons h2 (.cons h3 (.nil _)))) (by kernel_rfl) (fun _ _ _ h=>h) (glob_of kGlob kLaid hL')).mono fun e W' ⟨he,hf⟩=>?_
 subst he
 exact⟨_,rfl,post_law kLaidOut kRead kResults Tryz.underlying4 rfl rfl hW' hf⟩
theorem kHolds:Rows.AirTurnedSaid:=
 OpenClaim.holds_of_wide 3 Tryz.f3 rfl rfl rfl rfl rfl rfl rfl ⟨rfl,rfl,rfl,rfl,rfl⟩ rfl rfl rfl rfl rfl (by kernel_rfl) Tryz.func3 (by kernel_rfl)
  (of_decide_eq_true (by kernel_rfl)) (by unfold Func.isWrapper;first|(rw[if_pos (by decide +kernel)];kernel_rfl)|(rw[if_neg (by decide +kernel)];exact⟨rfl,rfl⟩))
  (fun os started H enc _=>kLifted os started H enc)
theorem airTurned_holds:Rows.AirTurnedCardSaid:=
 Claim7.holds_tied_plain_at .later [] Rows.airTurnedCard.laidKinds true Rows.airTurnedCard.stood.harness false
  kHolds (fun _ h=>by cases h) (by kernel_rfl) (fun _ h=>by cases h) airTurned_row_tie rfl ⟨rfl,rfl⟩ (by kernel_rfl) rfl
  (fun f fn hf hfn => by
   obtain rfl : f = 3 := Option.some.inj ((show Tryz.prog.funcNamed "nore/norelaw06.AirTurned" = some 3 by kernel_rfl).symm.trans hf) |>.symm
   obtain rfl:fn=Tryz.f3:=(Option.some.inj (Tryz.func3.symm.trans hfn)).symm
   exact⟨by kernel_rfl,fun j t ht=>by
    rw[kParams] at ht
    rcases j with _|_|_|j<;>simp at ht<;>subst ht<;>kernel_rfl⟩)
  (by kernel_rfl)
#print axioms airTurned_holds
end Go.Proofs.YtpnipaimaohiaaaGreatDoor

