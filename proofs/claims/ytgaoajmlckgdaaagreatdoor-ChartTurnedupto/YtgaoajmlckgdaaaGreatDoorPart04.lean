/-
  THE ENGINE: one more part of it.
-/
import Derived.Test.YtgaoajmlckgdaaaGreatDoorPart03
import Derived.Test.YtgaoajmlckgdaaaGreatDoorPart02
import Derived.DataReads
import Derived.OpenShut
import GoSem.ClaimJoined
import Derived.Lib.LaidU8
import Derived.FnData
import Derived.MakeChecks
import Derived.ProofKit
import Derived.LaidMore
import Derived.Stop.Joined
import Derived.Lay
import Derived.Carry
set_option linter.unusedSectionVars false
set_option linter.unusedSimpArgs false
set_option linter.unusedVariables false
set_option maxRecDepth 100000
namespace Go.Proofs.YtgaoajmlckgdaaaGreatDoor
open Go Go.Eng
noncomputable def rchkI0 (c:tChart.den) (x28:Nat):Cfg:=⟨.ex (pcOf E2 21 [0,0,1,0,1,1,1]) ⟨(tmOf 93 [(0,(.agg [(.vs tMark (c.1.1) (c.1.2)),(.vs tSand (c.2.1.1) (c.2.1.2))])),(1,(.ptr 0 0)),(2,(.int .i64 (0))),(3,(.int .i64 (0))),(4,(.int .i64 (0))),(5,.nils),(6,(.int .i64 (0))),(11,(.ptr 0 0)),(12,(.vs tMark (c.1.1) (c.1.2))),(13,(.int .i64 (Int.ofNat c.1.2.length))),(14,(.bool (false)))]),(hpOf 1 [(0,(.cells false [(.vs tMark (c.1.1) (c.1.2)),(.vs tSand (c.2.1.1) (c.2.1.2))]))]),[],[],93,false⟩,⟨6,[]⟩,[(.lop (pcOf E2 21 [0,0,1,0,1,1,1]) 1 (tmOf 93 [(0,(.agg [(.vs tMark (c.1.1) (c.1.2)),(.vs tSand (c.2.1.1) (c.2.1.2))])),(1,(.ptr 0 0)),(2,(.int .i64 (0))),(3,(.int .i64 (0))),(4,(.int .i64 (0))),(5,.nils),(6,(.int .i64 (0))),(11,(.ptr 0 0)),(12,(.vs tMark (c.1.1) (c.1.2))),(13,(.int .i64 (Int.ofNat c.1.2.length))),(14,(.bool (false)))]) x28),(.blk 0),(.seq (pcOf E2 21 [1,1,1,1])),(.cal [(.tmp 2),(.tmp 3),(.tmp 4)] .top)]⟩
noncomputable def rchkI1 (c:tChart.den) (x48:Nat):Cfg:=⟨.ex (pcOf E2 21 [0,0,1,0,1,1,1,1,1]) ⟨(tmOf 93 [(0,(.agg [(.vs tMark (c.1.1) (c.1.2)),(.vs tSand (c.2.1.1) (c.2.1.2))])),(1,(.ptr 0 0)),(2,(.int .i64 (0))),(3,(.int .i64 (0))),(4,(.int .i64 (0))),(5,.nils),(6,(.int .i64 (0))),(9,(.int .i64 (0))),(11,(.ptr 0 0)),(12,(.vs tMark (c.1.1) (c.1.2))),(13,(.int .i64 (Int.ofNat c.1.2.length))),(14,(.bool (false))),(15,(.int .i64 (0))),(16,(.ptr 0 0)),(17,(.vs tMark (c.1.1) (c.1.2))),(18,(.int .i64 (Int.ofNat c.1.2.length))),(19,(.bool (false))),(53,(.ptr 0 1)),(54,(.vs tSand (c.2.1.1) (c.2.1.2))),(55,(.int .i64 (Int.ofNat c.2.1.2.length))),(56,(.bool (false)))]),(hpOf 1 [(0,(.cells false [(.vs tMark (c.1.1) (c.1.2)),(.vs tSand (c.2.1.1) (c.2.1.2))]))]),[],[],93,false⟩,⟨6,[]⟩,[(.lop (pcOf E2 21 [0,0,1,0,1,1,1,1,1]) 1 (tmOf 93 [(0,(.agg [(.vs tMark (c.1.1) (c.1.2)),(.vs tSand (c.2.1.1) (c.2.1.2))])),(1,(.ptr 0 0)),(2,(.int .i64 (0))),(3,(.int .i64 (0))),(4,(.int .i64 (0))),(5,.nils),(6,(.int .i64 (0))),(9,(.int .i64 (0))),(11,(.ptr 0 0)),(12,(.vs tMark (c.1.1) (c.1.2))),(13,(.int .i64 (Int.ofNat c.1.2.length))),(14,(.bool (false))),(15,(.int .i64 (0))),(16,(.ptr 0 0)),(17,(.vs tMark (c.1.1) (c.1.2))),(18,(.int .i64 (Int.ofNat c.1.2.length))),(19,(.bool (false))),(53,(.ptr 0 1)),(54,(.vs tSand (c.2.1.1) (c.2.1.2))),(55,(.int .i64 (Int.ofNat c.2.1.2.length))),(56,(.bool (false)))]) x48),(.blk 2),(.seq (pcOf E2 21 [1,1,1,1,1,1])),(.cal [(.tmp 2),(.tmp 3),(.tmp 4)] .top)]⟩
noncomputable def rchkI2 (c:tChart.den) (x31:Nat):Cfg:=⟨.ex (pcOf E2 21 [0,0,1,0,1,1,1]) ⟨(tmOf 93 [(0,(.agg [(.vs tMark (c.1.1) (c.1.2)),(.vs tSand (c.2.1.1) (c.2.1.2))])),(1,(.ptr 0 0)),(2,(.int .i64 (0))),(3,(.int .i64 (0))),(4,(.int .i64 (0))),(5,(.sl 1 0 (1) (1) 1)),(6,(.int .i64 (1))),(11,(.ptr 0 0)),(12,(.vs tMark (c.1.1) (c.1.2))),(13,(.int .i64 (Int.ofNat c.1.2.length))),(14,(.bool (false)))]),(hpOf 2 [(0,(.cells false [(.vs tMark (c.1.1) (c.1.2)),(.vs tSand (c.2.1.1) (c.2.1.2))])),(1,(.cells false ([AV.str (c.1.2.getD (Int.toNat 0) tMark.dflt).1])))]),[],[],93,false⟩,⟨6,[]⟩,[(.lop (pcOf E2 21 [0,0,1,0,1,1,1]) 1 (tmOf 93 [(0,(.agg [(.vs tMark (c.1.1) (c.1.2)),(.vs tSand (c.2.1.1) (c.2.1.2))])),(1,(.ptr 0 0)),(2,(.int .i64 (0))),(3,(.int .i64 (0))),(4,(.int .i64 (0))),(5,.nils),(6,(.int .i64 (0))),(11,(.ptr 0 0)),(12,(.vs tMark (c.1.1) (c.1.2))),(13,(.int .i64 (Int.ofNat c.1.2.length))),(14,(.bool (false)))]) x31),(.blk 0),(.seq (pcOf E2 21 [1,1,1,1])),(.cal [(.tmp 2),(.tmp 3),(.tmp 4)] .top)]⟩
noncomputable def rchkI3 (c:tChart.den) (x51:Nat):Cfg:=⟨.ex (pcOf E2 21 [0,0,1,0,1,1,1,1,1]) ⟨(tmOf 93 [(0,(.agg [(.vs tMark (c.1.1) (c.1.2)),(.vs tSand (c.2.1.1) (c.2.1.2))])),(1,(.ptr 0 0)),(2,(.int .i64 (0))),(3,(.int .i64 (0))),(4,(.int .i64 (0))),(5,(.sl 1 0 (1) (1) 1)),(6,(.int .i64 (0))),(9,(.int .i64 (1))),(11,(.ptr 0 0)),(12,(.vs tMark (c.1.1) (c.1.2))),(13,(.int .i64 (Int.ofNat c.1.2.length))),(14,(.bool (false))),(15,(.int .i64 (0))),(16,(.ptr 0 0)),(17,(.vs tMark (c.1.1) (c.1.2))),(18,(.int .i64 (Int.ofNat c.1.2.length))),(19,(.bool (false))),(53,(.ptr 0 1)),(54,(.vs tSand (c.2.1.1) (c.2.1.2))),(55,(.int .i64 (Int.ofNat c.2.1.2.length))),(56,(.bool (false)))]),(hpOf 2 [(0,(.cells false [(.vs tMark (c.1.1) (c.1.2)),(.vs tSand (c.2.1.1) (c.2.1.2))])),(1,(.cells false ([AV.str (c.2.1.2.getD (Int.toNat 0) tSand.dflt).1])))]),[],[],93,false⟩,⟨6,[]⟩,[(.lop (pcOf E2 21 [0,0,1,0,1,1,1,1,1]) 1 (tmOf 93 [(0,(.agg [(.vs tMark (c.1.1) (c.1.2)),(.vs tSand (c.2.1.1) (c.2.1.2))])),(1,(.ptr 0 0)),(2,(.int .i64 (0))),(3,(.int .i64 (0))),(4,(.int .i64 (0))),(5,.nils),(6,(.int .i64 (0))),(9,(.int .i64 (0))),(11,(.ptr 0 0)),(12,(.vs tMark (c.1.1) (c.1.2))),(13,(.int .i64 (Int.ofNat c.1.2.length))),(14,(.bool (false))),(15,(.int .i64 (0))),(16,(.ptr 0 0)),(17,(.vs tMark (c.1.1) (c.1.2))),(18,(.int .i64 (Int.ofNat c.1.2.length))),(19,(.bool (false))),(53,(.ptr 0 1)),(54,(.vs tSand (c.2.1.1) (c.2.1.2))),(55,(.int .i64 (Int.ofNat c.2.1.2.length))),(56,(.bool (false)))]) x51),(.blk 2),(.seq (pcOf E2 21 [1,1,1,1,1,1])),(.cal [(.tmp 2),(.tmp 3),(.tmp 4)] .top)]⟩
noncomputable def rchkI4 (c:tChart.den) (x53:Nat):Cfg:=⟨.ex (pcOf E2 21 [0,0,1,0,1,1,1,1,1]) ⟨(tmOf 93 [(0,(.agg [(.vs tMark (c.1.1) (c.1.2)),(.vs tSand (c.2.1.1) (c.2.1.2))])),(1,(.ptr 0 0)),(2,(.int .i64 (0))),(3,(.int .i64 (0))),(4,(.int .i64 (0))),(5,(.sl 1 0 (1) (1) 1)),(6,(.int .i64 (1))),(9,(.int .i64 (0))),(11,(.ptr 0 0)),(12,(.vs tMark (c.1.1) (c.1.2))),(13,(.int .i64 (Int.ofNat c.1.2.length))),(14,(.bool (false))),(15,(.int .i64 (1))),(16,(.ptr 0 0)),(17,(.vs tMark (c.1.1) (c.1.2))),(18,(.int .i64 (Int.ofNat c.1.2.length))),(19,(.bool (false))),(53,(.ptr 0 1)),(54,(.vs tSand (c.2.1.1) (c.2.1.2))),(55,(.int .i64 (Int.ofNat c.2.1.2.length))),(56,(.bool (false)))]),(hpOf 2 [(0,(.cells false [(.vs tMark (c.1.1) (c.1.2)),(.vs tSand (c.2.1.1) (c.2.1.2))])),(1,(.cells false ([AV.str (c.1.2.getD (Int.toNat 0) tMark.dflt).1])))]),[],[],93,false⟩,⟨6,[]⟩,[(.lop (pcOf E2 21 [0,0,1,0,1,1,1,1,1]) 2 (tmOf 93 [(0,(.agg [(.vs tMark (c.1.1) (c.1.2)),(.vs tSand (c.2.1.1) (c.2.1.2))])),(1,(.ptr 0 0)),(2,(.int .i64 (0))),(3,(.int .i64 (0))),(4,(.int .i64 (0))),(5,(.sl 1 0 (1) (1) 1)),(6,(.int .i64 (1))),(9,(.int .i64 (0))),(11,(.ptr 0 0)),(12,(.vs tMark (c.1.1) (c.1.2))),(13,(.int .i64 (Int.ofNat c.1.2.length))),(14,(.bool (false))),(15,(.int .i64 (1))),(16,(.ptr 0 0)),(17,(.vs tMark (c.1.1) (c.1.2))),(18,(.int .i64 (Int.ofNat c.1.2.length))),(19,(.bool (false))),(53,(.ptr 0 1)),(54,(.vs tSand (c.2.1.1) (c.2.1.2))),(55,(.int .i64 (Int.ofNat c.2.1.2.length))),(56,(.bool (false)))]) x53),(.blk 2),(.seq (pcOf E2 21 [1,1,1,1,1,1])),(.cal [(.tmp 2),(.tmp 3),(.tmp 4)] .top)]⟩
noncomputable def rchkI5 (c:tChart.den) (x7:Nat) (x9:Int) (x18:List AV) (x31:Nat):Cfg:=⟨.ex (pcOf E2 21 [0,0,1,0,1,1,1]) ⟨(tmOf 93 [(0,(.agg [(.vs tMark (c.1.1) (c.1.2)),(.vs tSand (c.2.1.1) (c.2.1.2))])),(1,(.ptr 0 0)),(2,(.int .i64 (0))),(3,(.int .i64 (0))),(4,(.int .i64 (0))),(5,(.sl 1 0 x7 x7 1)),(6,(.int .i64 x9)),(11,(.ptr 0 0)),(12,(.vs tMark (c.1.1) (c.1.2))),(13,(.int .i64 (Int.ofNat c.1.2.length))),(14,(.bool (false)))]),(hpOf 2 [(0,(.cells false [(.vs tMark (c.1.1) (c.1.2)),(.vs tSand (c.2.1.1) (c.2.1.2))])),(1,(.cells true x18))]),[],[],93,false⟩,⟨6,[]⟩,[(.lop (pcOf E2 21 [0,0,1,0,1,1,1]) 1 (tmOf 93 [(0,(.agg [(.vs tMark (c.1.1) (c.1.2)),(.vs tSand (c.2.1.1) (c.2.1.2))])),(1,(.ptr 0 0)),(2,(.int .i64 (0))),(3,(.int .i64 (0))),(4,(.int .i64 (0))),(5,.nils),(6,(.int .i64 (0))),(11,(.ptr 0 0)),(12,(.vs tMark (c.1.1) (c.1.2))),(13,(.int .i64 (Int.ofNat c.1.2.length))),(14,(.bool (false)))]) x31),(.blk 0),(.seq (pcOf E2 21 [1,1,1,1])),(.cal [(.tmp 2),(.tmp 3),(.tmp 4)] .top)]⟩
noncomputable def rchkI6 (c:tChart.den) (x7:Nat) (x10:Int) (x28:List AV) (x51:Nat):Cfg:=⟨.ex (pcOf E2 21 [0,0,1,0,1,1,1,1,1]) ⟨(tmOf 93 [(0,(.agg [(.vs tMark (c.1.1) (c.1.2)),(.vs tSand (c.2.1.1) (c.2.1.2))])),(1,(.ptr 0 0)),(2,(.int .i64 (0))),(3,(.int .i64 (0))),(4,(.int .i64 (0))),(5,(.sl 1 0 x7 x7 1)),(6,(.int .i64 (0))),(9,(.int .i64 x10)),(11,(.ptr 0 0)),(12,(.vs tMark (c.1.1) (c.1.2))),(13,(.int .i64 (Int.ofNat c.1.2.length))),(14,(.bool (false))),(15,(.int .i64 (0))),(16,(.ptr 0 0)),(17,(.vs tMark (c.1.1) (c.1.2))),(18,(.int .i64 (Int.ofNat c.1.2.length))),(19,(.bool (false))),(53,(.ptr 0 1)),(54,(.vs tSand (c.2.1.1) (c.2.1.2))),(55,(.int .i64 (Int.ofNat c.2.1.2.length))),(56,(.bool (false)))]),(hpOf 2 [(0,(.cells false [(.vs tMark (c.1.1) (c.1.2)),(.vs tSand (c.2.1.1) (c.2.1.2))])),(1,(.cells true x28))]),[],[],93,false⟩,⟨6,[]⟩,[(.lop (pcOf E2 21 [0,0,1,0,1,1,1,1,1]) 1 (tmOf 93 [(0,(.agg [(.vs tMark (c.1.1) (c.1.2)),(.vs tSand (c.2.1.1) (c.2.1.2))])),(1,(.ptr 0 0)),(2,(.int .i64 (0))),(3,(.int .i64 (0))),(4,(.int .i64 (0))),(5,.nils),(6,(.int .i64 (0))),(9,(.int .i64 (0))),(11,(.ptr 0 0)),(12,(.vs tMark (c.1.1) (c.1.2))),(13,(.int .i64 (Int.ofNat c.1.2.length))),(14,(.bool (false))),(15,(.int .i64 (0))),(16,(.ptr 0 0)),(17,(.vs tMark (c.1.1) (c.1.2))),(18,(.int .i64 (Int.ofNat c.1.2.length))),(19,(.bool (false))),(53,(.ptr 0 1)),(54,(.vs tSand (c.2.1.1) (c.2.1.2))),(55,(.int .i64 (Int.ofNat c.2.1.2.length))),(56,(.bool (false)))]) x51),(.blk 2),(.seq (pcOf E2 21 [1,1,1,1,1,1])),(.cal [(.tmp 2),(.tmp 3),(.tmp 4)] .top)]⟩
noncomputable def rchkI7 (c:tChart.den) (x7:Nat) (x9:Int) (x10:Int) (x28:List AV) (x36:Nat) (x53:Nat):Cfg:=⟨.ex (pcOf E2 21 [0,0,1,0,1,1,1,1,1]) ⟨(tmOf 93 [(0,(.agg [(.vs tMark (c.1.1) (c.1.2)),(.vs tSand (c.2.1.1) (c.2.1.2))])),(1,(.ptr 0 0)),(2,(.int .i64 (0))),(3,(.int .i64 (0))),(4,(.int .i64 (0))),(5,(.sl 2 0 x7 x7 1)),(6,(.int .i64 x9)),(9,(.int .i64 x10)),(11,(.ptr 0 0)),(12,(.vs tMark (c.1.1) (c.1.2))),(13,(.int .i64 (Int.ofNat c.1.2.length))),(14,(.bool (false))),(15,(.int .i64 x9)),(16,(.ptr 0 0)),(17,(.vs tMark (c.1.1) (c.1.2))),(18,(.int .i64 (Int.ofNat c.1.2.length))),(19,(.bool (false))),(53,(.ptr 0 1)),(54,(.vs tSand (c.2.1.1) (c.2.1.2))),(55,(.int .i64 (Int.ofNat c.2.1.2.length))),(56,(.bool (false)))]),(hpOf 3 [(0,(.cells false [(.vs tMark (c.1.1) (c.1.2)),(.vs tSand (c.2.1.1) (c.2.1.2))])),(1,.gone),(2,(.cells true x28))]),[],[],93,false⟩,⟨6,[]⟩,[(.lop (pcOf E2 21 [0,0,1,0,1,1,1,1,1]) 2 (tmOf 93 [(0,(.agg [(.vs tMark (c.1.1) (c.1.2)),(.vs tSand (c.2.1.1) (c.2.1.2))])),(1,(.ptr 0 0)),(2,(.int .i64 (0))),(3,(.int .i64 (0))),(4,(.int .i64 (0))),(5,(.sl 1 0 x36 x36 1)),(6,(.int .i64 x9)),(9,(.int .i64 (0))),(11,(.ptr 0 0)),(12,(.vs tMark (c.1.1) (c.1.2))),(13,(.int .i64 (Int.ofNat c.1.2.length))),(14,(.bool (false))),(15,(.int .i64 x9)),(16,(.ptr 0 0)),(17,(.vs tMark (c.1.1) (c.1.2))),(18,(.int .i64 (Int.ofNat c.1.2.length))),(19,(.bool (false))),(53,(.ptr 0 1)),(54,(.vs tSand (c.2.1.1) (c.2.1.2))),(55,(.int .i64 (Int.ofNat c.2.1.2.length))),(56,(.bool (false)))]) x53),(.blk 2),(.seq (pcOf E2 21 [1,1,1,1,1,1])),(.cal [(.tmp 2),(.tmp 3),(.tmp 4)] .top)]⟩
noncomputable def rchkI8 (c:tChart.den) (x7:Nat) (x9:Int) (x28:List AV) (x53:Nat):Cfg:=⟨.ex (pcOf E2 21 [0,0,1,0,1,1,1,1,1]) ⟨(tmOf 93 [(0,(.agg [(.vs tMark (c.1.1) (c.1.2)),(.vs tSand (c.2.1.1) (c.2.1.2))])),(1,(.ptr 0 0)),(2,(.int .i64 (0))),(3,(.int .i64 (0))),(4,(.int .i64 (0))),(5,(.sl 1 0 x7 x7 1)),(6,(.int .i64 x9)),(9,(.int .i64 (0))),(11,(.ptr 0 0)),(12,(.vs tMark (c.1.1) (c.1.2))),(13,(.int .i64 (Int.ofNat c.1.2.length))),(14,(.bool (false))),(15,(.int .i64 x9)),(16,(.ptr 0 0)),(17,(.vs tMark (c.1.1) (c.1.2))),(18,(.int .i64 (Int.ofNat c.1.2.length))),(19,(.bool (false))),(53,(.ptr 0 1)),(54,(.vs tSand (c.2.1.1) (c.2.1.2))),(55,(.int .i64 (Int.ofNat c.2.1.2.length))),(56,(.bool (false)))]),(hpOf 2 [(0,(.cells false [(.vs tMark (c.1.1) (c.1.2)),(.vs tSand (c.2.1.1) (c.2.1.2))])),(1,(.cells true x28))]),[],[],93,false⟩,⟨6,[]⟩,[(.lop (pcOf E2 21 [0,0,1,0,1,1,1,1,1]) 2 (tmOf 93 [(0,(.agg [(.vs tMark (c.1.1) (c.1.2)),(.vs tSand (c.2.1.1) (c.2.1.2))])),(1,(.ptr 0 0)),(2,(.int .i64 (0))),(3,(.int .i64 (0))),(4,(.int .i64 (0))),(5,(.sl 1 0 x7 x7 1)),(6,(.int .i64 x9)),(9,(.int .i64 (0))),(11,(.ptr 0 0)),(12,(.vs tMark (c.1.1) (c.1.2))),(13,(.int .i64 (Int.ofNat c.1.2.length))),(14,(.bool (false))),(15,(.int .i64 x9)),(16,(.ptr 0 0)),(17,(.vs tMark (c.1.1) (c.1.2))),(18,(.int .i64 (Int.ofNat c.1.2.length))),(19,(.bool (false))),(53,(.ptr 0 1)),(54,(.vs tSand (c.2.1.1) (c.2.1.2))),(55,(.int .i64 (Int.ofNat c.2.1.2.length))),(56,(.bool (false)))]) x53),(.blk 2),(.seq (pcOf E2 21 [1,1,1,1,1,1])),(.cal [(.tmp 2),(.tmp 3),(.tmp 4)] .top)]⟩
theorem rchk_start (c:tChart.den):adv E2 (S2 [21]) 3000 (startC E2 21 [tChart.av c] 6)=(bif !ile (↑c.1.2.length) 8 then some (.done (.tup [(.int .i64 (1)),(.int .i64 (0)),(.int .i64 (3))])) else some (.stop (rchkI0 c (1048575)))):=by kernel_rfl
theorem rchk_step0 (c:tChart.den) (x28:Nat):adv E2 (S2 [21]) 3000 (rchkI0 c (x28+1))=(bif !ile (↑c.1.2.length) 0 then (bif inB 0 c.1.2.length then (bif !nameS (c.1.2.getD (Int.toNat 0) tMark.dflt).1 then some (.done (.tup [(.int .i64 (1)),(.int .i64 (0)),(.int .i64 (6))])) else (bif ile (wr .i64 (0-30000)) (c.1.2.getD (Int.toNat 0) tMark.dflt).2.1.1 then (bif ile (c.1.2.getD (Int.toNat 0) tMark.dflt).2.1.1 30000 then (bif ile (wr .i64 (0-30000)) (c.1.2.getD (Int.toNat 0) tMark.dflt).2.1.2.1 then (bif !ile (c.1.2.getD (Int.toNat 0) tMark.dflt).2.1.2.1 30000 then some (.done (.tup [(.int .i64 (1)),(.int .i64 (0)),(.int .i64 (7))])) else (bif !ieq (paintsE (c.1.2.getD (Int.toNat 0) tMark.dflt).2.2.1.2) 0 then some (.done (.tup [(.int .i64 (1)),(.int .i64 (0)),(.int .i64 (paintsE (c.1.2.getD (Int.toNat 0) tMark.dflt).2.2.1.2))])) else some (.stop (rchkI2 c (x28))))) else some (.done (.tup [(.int .i64 (1)),(.int .i64 (0)),(.int .i64 (7))]))) else some (.done (.tup [(.int .i64 (1)),(.int .i64 (0)),(.int .i64 (7))]))) else some (.done (.tup [(.int .i64 (1)),(.int .i64 (0)),(.int .i64 (7))])))) else none) else (bif !ile (↑c.2.1.2.length) 4 then some (.done (.tup [(.int .i64 (2)),(.int .i64 (0)),(.int .i64 (3))])) else some (.stop (rchkI1 c (1048575))))):=by kernel_rfl
theorem rchk_step1 (c:tChart.den) (x48:Nat):adv E2 (S2 [21]) 3000 (rchkI1 c (x48+1))=(bif !ile (↑c.2.1.2.length) 0 then (bif inB 0 c.2.1.2.length then (bif !nameS (c.2.1.2.getD (Int.toNat 0) tSand.dflt).1 then (bif inB 0 c.2.1.2.length then some (.done (.tup [(.int .i64 (2)),(.int .i64 (0)),(.int .i64 (6))])) else none) else (bif inB 0 c.2.1.2.length then (bif inB 0 c.2.1.2.length then (bif !ieq (sandE (c.2.1.2.getD (Int.toNat 0) tSand.dflt)) 0 then some (.done (.tup [(.int .i64 (2)),(.int .i64 (0)),(.int .i64 (sandE (c.2.1.2.getD (Int.toNat 0) tSand.dflt)))])) else some (.stop (rchkI3 c (x48)))) else none) else none)) else none) else some (.done (.tup [(.int .i64 (0)),(.int .i64 (0)),(.int .i64 (0))]))):=by kernel_rfl
theorem rchk_step2 (c:tChart.den) (x31:Nat):adv E2 (S2 [21]) 3000 (rchkI2 c (x31+1))=(bif !ile (↑c.1.2.length) 1 then (bif inB 1 c.1.2.length then (bif !nameS (c.1.2.getD (Int.toNat 1) tMark.dflt).1 then some (.done (.tup [(.int .i64 (1)),(.int .i64 (1)),(.int .i64 (6))])) else (bif ile 0 (placeF (c.1.2.getD (Int.toNat 1) tMark.dflt).1 (strs (List.drop 0 [AV.str (c.1.2.getD (Int.toNat 0) tMark.dflt).1])) 0) then some (.done (.tup [(.int .i64 (1)),(.int .i64 (1)),(.int .i64 (5))])) else (bif ile (wr .i64 (0-30000)) (c.1.2.getD (Int.toNat 1) tMark.dflt).2.1.1 then (bif ile (c.1.2.getD (Int.toNat 1) tMark.dflt).2.1.1 30000 then (bif ile (wr .i64 (0-30000)) (c.1.2.getD (Int.toNat 1) tMark.dflt).2.1.2.1 then (bif !ile (c.1.2.getD (Int.toNat 1) tMark.dflt).2.1.2.1 30000 then some (.done (.tup [(.int .i64 (1)),(.int .i64 (1)),(.int .i64 (7))])) else (bif !ieq (paintsE (c.1.2.getD (Int.toNat 1) tMark.dflt).2.2.1.2) 0 then some (.done (.tup [(.int .i64 (1)),(.int .i64 (1)),(.int .i64 (paintsE (c.1.2.getD (Int.toNat 1) tMark.dflt).2.2.1.2))])) else some (.stop (rchkI5 c (2) (2) ([AV.str (c.1.2.getD (Int.toNat 0) tMark.dflt).1,AV.str (c.1.2.getD (Int.toNat 1) tMark.dflt).1]) (x31))))) else some (.done (.tup [(.int .i64 (1)),(.int .i64 (1)),(.int .i64 (7))]))) else some (.done (.tup [(.int .i64 (1)),(.int .i64 (1)),(.int .i64 (7))]))) else some (.done (.tup [(.int .i64 (1)),(.int .i64 (1)),(.int .i64 (7))]))))) else none) else (bif !ile (↑c.2.1.2.length) 4 then some (.done (.tup [(.int .i64 (2)),(.int .i64 (0)),(.int .i64 (3))])) else some (.stop (rchkI4 c (1048575))))):=by kernel_rfl
theorem rchk_step3 (c:tChart.den) (x51:Nat):adv E2 (S2 [21]) 3000 (rchkI3 c (x51+1))=(bif !ile (↑c.2.1.2.length) 1 then (bif inB 1 c.2.1.2.length then (bif !nameS (c.2.1.2.getD (Int.toNat 1) tSand.dflt).1 then (bif inB 1 c.2.1.2.length then some (.done (.tup [(.int .i64 (2)),(.int .i64 (1)),(.int .i64 (6))])) else none) else (bif ile 0 (placeF (c.2.1.2.getD (Int.toNat 1) tSand.dflt).1 (strs (List.drop 0 [AV.str (c.2.1.2.getD (Int.toNat 0) tSand.dflt).1])) 0) then (bif inB 1 c.2.1.2.length then some (.done (.tup [(.int .i64 (2)),(.int .i64 (1)),(.int .i64 (5))])) else none) else (bif inB 1 c.2.1.2.length then (bif inB 1 c.2.1.2.length then (bif !ieq (sandE (c.2.1.2.getD (Int.toNat 1) tSand.dflt)) 0 then some (.done (.tup [(.int .i64 (2)),(.int .i64 (1)),(.int .i64 (sandE (c.2.1.2.getD (Int.toNat 1) tSand.dflt)))])) else some (.stop (rchkI6 c (2) (2) ([AV.str (c.2.1.2.getD (Int.toNat 0) tSand.dflt).1,AV.str (c.2.1.2.getD (Int.toNat 1) tSand.dflt).1]) (x51)))) else none) else none))) else none) else some (.done (.tup [(.int .i64 (0)),(.int .i64 (0)),(.int .i64 (0))]))):=by kernel_rfl
theorem rchk_step4 (c:tChart.den) (x53:Nat):adv E2 (S2 [21]) 3000 (rchkI4 c (x53+1))=(bif !ile (↑c.2.1.2.length) 0 then (bif inB 0 c.2.1.2.length then (bif !nameS (c.2.1.2.getD (Int.toNat 0) tSand.dflt).1 then (bif inB 0 c.2.1.2.length then some (.done (.tup [(.int .i64 (2)),(.int .i64 (0)),(.int .i64 (6))])) else none) else (bif ile 0 (placeF (c.2.1.2.getD (Int.toNat 0) tSand.dflt).1 (strs (List.drop 0 [AV.str (c.1.2.getD (Int.toNat 0) tMark.dflt).1])) 0) then (bif inB 0 c.2.1.2.length then some (.done (.tup [(.int .i64 (2)),(.int .i64 (0)),(.int .i64 (5))])) else none) else (bif inB 0 c.2.1.2.length then (bif inB 0 c.2.1.2.length then (bif !ieq (sandE (c.2.1.2.getD (Int.toNat 0) tSand.dflt)) 0 then some (.done (.tup [(.int .i64 (2)),(.int .i64 (0)),(.int .i64 (sandE (c.2.1.2.getD (Int.toNat 0) tSand.dflt)))])) else some (.stop (rchkI7 c (2) (1) (1) ([AV.str (c.1.2.getD (Int.toNat 0) tMark.dflt).1,AV.str (c.2.1.2.getD (Int.toNat 0) tSand.dflt).1]) (1) (x53)))) else none) else none))) else none) else some (.done (.tup [(.int .i64 (0)),(.int .i64 (0)),(.int .i64 (0))]))):=by kernel_rfl
theorem rchk_step5 (c:tChart.den) (x7:Nat) (x9:Int) (x18:List AV) (x31:Nat):adv E2 (S2 [21]) 3000 (rchkI5 c x7 x9 x18 (x31+1))=(bif !ile (↑c.1.2.length) x9 then (bif inB x9 c.1.2.length then (bif plainL x18 then (bif !nameS (c.1.2.getD x9.toNat tMark.dflt).1 then (bif (0+x7 * 1).beq x18.length then (bif x7.ble 1048576 then some (.done (.tup [(.int .i64 (1)),(.int .i64 (x9)),(.int .i64 (6))])) else none) else none) else (bif (List.drop 0 x18).all isS&&x7.beq (List.drop 0 x18).length&&x7.ble 1000 then (bif ile 0 (placeF (c.1.2.getD x9.toNat tMark.dflt).1 (strs (List.drop 0 x18)) 0) then (bif (0+x7 * 1).beq x18.length then (bif x7.ble 1048576 then some (.done (.tup [(.int .i64 (1)),(.int .i64 (x9)),(.int .i64 (5))])) else none) else none) else (bif (0+x7 * 1).beq x18.length then (bif x7.ble 1048576 then (bif ile (wr .i64 (0-30000)) (c.1.2.getD x9.toNat tMark.dflt).2.1.1 then (bif ile (c.1.2.getD x9.toNat tMark.dflt).2.1.1 30000 then (bif ile (wr .i64 (0-30000)) (c.1.2.getD x9.toNat tMark.dflt).2.1.2.1 then (bif !ile (c.1.2.getD x9.toNat tMark.dflt).2.1.2.1 30000 then some (.done (.tup [(.int .i64 (1)),(.int .i64 (x9)),(.int .i64 (7))])) else (bif !ieq (paintsE (c.1.2.getD x9.toNat tMark.dflt).2.2.1.2) 0 then some (.done (.tup [(.int .i64 (1)),(.int .i64 (x9)),(.int .i64 (paintsE (c.1.2.getD x9.toNat tMark.dflt).2.2.1.2))])) else (bif plO (AO.cells true (x18++[AV.str (c.1.2.getD x9.toNat tMark.dflt).1])) then some (.stop (rchkI5 c (x7+1) (wr .i64 (x9+1)) (x18++[AV.str (c.1.2.getD x9.toNat tMark.dflt).1]) (x31))) else none))) else some (.done (.tup [(.int .i64 (1)),(.int .i64 (x9)),(.int .i64 (7))]))) else some (.done (.tup [(.int .i64 (1)),(.int .i64 (x9)),(.int .i64 (7))]))) else some (.done (.tup [(.int .i64 (1)),(.int .i64 (x9)),(.int .i64 (7))]))) else none) else none)) else none)) else none) else none) else (bif !ile (↑c.2.1.2.length) 4 then some (.done (.tup [(.int .i64 (2)),(.int .i64 (0)),(.int .i64 (3))])) else some (.stop (rchkI8 c (x7) (x9) (x18) (1048575))))):=by kernel_rfl
theorem rchk_step6 (c:tChart.den) (x7:Nat) (x10:Int) (x28:List AV) (x51:Nat):adv E2 (S2 [21]) 3000 (rchkI6 c x7 x10 x28 (x51+1))=(bif !ile (↑c.2.1.2.length) x10 then (bif inB x10 c.2.1.2.length then (bif plainL x28 then (bif !nameS (c.2.1.2.getD x10.toNat tSand.dflt).1 then (bif inB x10 c.2.1.2.length then (bif (0+x7 * 1).beq x28.length then (bif x7.ble 1048576 then some (.done (.tup [(.int .i64 (2)),(.int .i64 (x10)),(.int .i64 (6))])) else none) else none) else none) else (bif (List.drop 0 x28).all isS&&x7.beq (List.drop 0 x28).length&&x7.ble 1000 then (bif ile 0 (placeF (c.2.1.2.getD x10.toNat tSand.dflt).1 (strs (List.drop 0 x28)) 0) then (bif inB x10 c.2.1.2.length then (bif (0+x7 * 1).beq x28.length then (bif x7.ble 1048576 then some (.done (.tup [(.int .i64 (2)),(.int .i64 (x10)),(.int .i64 (5))])) else none) else none) else none) else (bif inB x10 c.2.1.2.length then (bif (0+x7 * 1).beq x28.length then (bif x7.ble 1048576 then (bif inB x10 c.2.1.2.length then (bif !ieq (sandE (c.2.1.2.getD x10.toNat tSand.dflt)) 0 then some (.done (.tup [(.int .i64 (2)),(.int .i64 (x10)),(.int .i64 (sandE (c.2.1.2.getD x10.toNat tSand.dflt)))])) else (bif plO (AO.cells true (x28++[AV.str (c.2.1.2.getD x10.toNat tSand.dflt).1])) then some (.stop (rchkI6 c (x7+1) (wr .i64 (x10+1)) (x28++[AV.str (c.2.1.2.getD x10.toNat tSand.dflt).1]) (x51))) else none)) else none) else none) else none) else none)) else none)) else none) else none) else some (.done (.tup [(.int .i64 (0)),(.int .i64 (0)),(.int .i64 (0))]))):=by kernel_rfl
theorem rchk_step7 (c:tChart.den) (x7:Nat) (x9:Int) (x10:Int) (x28:List AV) (x36:Nat) (x53:Nat):adv E2 (S2 [21]) 3000 (rchkI7 c x7 x9 x10 x28 x36 (x53+1))=(bif !ile (↑c.2.1.2.length) x10 then (bif inB x10 c.2.1.2.length then (bif plainL x28 then (bif !nameS (c.2.1.2.getD x10.toNat tSand.dflt).1 then (bif inB x10 c.2.1.2.length then (bif (0+x7 * 1).beq x28.length then (bif x7.ble 1048576 then some (.done (.tup [(.int .i64 (2)),(.int .i64 (x10)),(.int .i64 (6))])) else none) else none) else none) else (bif (List.drop 0 x28).all isS&&x7.beq (List.drop 0 x28).length&&x7.ble 1000 then (bif ile 0 (placeF (c.2.1.2.getD x10.toNat tSand.dflt).1 (strs (List.drop 0 x28)) 0) then (bif inB x10 c.2.1.2.length then (bif (0+x7 * 1).beq x28.length then (bif x7.ble 1048576 then some (.done (.tup [(.int .i64 (2)),(.int .i64 (x10)),(.int .i64 (5))])) else none) else none) else none) else (bif inB x10 c.2.1.2.length then (bif (0+x7 * 1).beq x28.length then (bif x7.ble 1048576 then (bif inB x10 c.2.1.2.length then (bif !ieq (sandE (c.2.1.2.getD x10.toNat tSand.dflt)) 0 then some (.done (.tup [(.int .i64 (2)),(.int .i64 (x10)),(.int .i64 (sandE (c.2.1.2.getD x10.toNat tSand.dflt)))])) else (bif plO (AO.cells true (x28++[AV.str (c.2.1.2.getD x10.toNat tSand.dflt).1])) then some (.stop (rchkI7 c (x7+1) (x9) (wr .i64 (x10+1)) (x28++[AV.str (c.2.1.2.getD x10.toNat tSand.dflt).1]) (x36) (x53))) else none)) else none) else none) else none) else none)) else none)) else none) else none) else some (.done (.tup [(.int .i64 (0)),(.int .i64 (0)),(.int .i64 (0))]))):=by kernel_rfl
theorem rchk_step8 (c:tChart.den) (x7:Nat) (x9:Int) (x28:List AV) (x53:Nat):adv E2 (S2 [21]) 3000 (rchkI8 c x7 x9 x28 (x53+1))=(bif !ile (↑c.2.1.2.length) 0 then (bif inB 0 c.2.1.2.length then (bif plainL x28 then (bif !nameS (c.2.1.2.getD (Int.toNat 0) tSand.dflt).1 then (bif inB 0 c.2.1.2.length then (bif (0+x7 * 1).beq x28.length then (bif x7.ble 1048576 then some (.done (.tup [(.int .i64 (2)),(.int .i64 (0)),(.int .i64 (6))])) else none) else none) else none) else (bif (List.drop 0 x28).all isS&&x7.beq (List.drop 0 x28).length&&x7.ble 1000 then (bif ile 0 (placeF (c.2.1.2.getD (Int.toNat 0) tSand.dflt).1 (strs (List.drop 0 x28)) 0) then (bif inB 0 c.2.1.2.length then (bif (0+x7 * 1).beq x28.length then (bif x7.ble 1048576 then some (.done (.tup [(.int .i64 (2)),(.int .i64 (0)),(.int .i64 (5))])) else none) else none) else none) else (bif inB 0 c.2.1.2.length then (bif (0+x7 * 1).beq x28.length then (bif x7.ble 1048576 then (bif inB 0 c.2.1.2.length then (bif !ieq (sandE (c.2.1.2.getD (Int.toNat 0) tSand.dflt)) 0 then some (.done (.tup [(.int .i64 (2)),(.int .i64 (0)),(.int .i64 (sandE (c.2.1.2.getD (Int.toNat 0) tSand.dflt)))])) else (bif plO (AO.cells true (x28++[AV.str (c.2.1.2.getD (Int.toNat 0) tSand.dflt).1])) then some (.stop (rchkI7 c (x7+1) (x9) (1) (x28++[AV.str (c.2.1.2.getD (Int.toNat 0) tSand.dflt).1]) (x7) (x53))) else none)) else none) else none) else none) else none)) else none)) else none) else none) else some (.done (.tup [(.int .i64 (0)),(.int .i64 (0)),(.int .i64 (0))]))):=by kernel_rfl
theorem E2ext (f:Nat) (args:List AV) (h:(E2.ext f args).isNone=true):E2.ext f args=none:=by
 cases e:E2.ext f args with
 |none=>rfl
 |some v=>rw[e] at h;cases h
theorem placeF_iff {t:List Nat}:∀ (L:List (List Nat)) (k:Nat),ile 0 (placeF t L k)=decide (t∈L)
 |[],k=>by simp only[placeF];rfl
 |a::L,k=>by
  rw[placeF]
  by_cases h:a=t
  · subst h
    rw[if_pos rfl,ile_iff];simp
  · rw [if_neg h, placeF_iff L (k + 1)]
    have:¬ t=a:=fun e=>h e.symm
    simp[this]
theorem placeF_add {t s:List Nat} (L:List (List Nat)):ile 0 (placeF t (L++[s]) 0)=(lbeq t s || ile 0 (placeF t L 0)):=by
 rw[placeF_iff,placeF_iff,lbeq_iff]
 by_cases h1:t=s
 · subst h1;simp
 · by_cases h2:t∈L<;>simp[h1,h2]
theorem strs_add (l:List AV) (s:List Nat):strs (l++[.str s])=strs l++[s]:=by simp[strs,strOf]
theorem plain_isS:∀ {l:List AV},l.all isS=true→plainL l=true
 |[],_=>rfl
 |a::l,h=>by
  simp only[List.all_cons,Bool.and_eq_true] at h
  cases a<;>first|(cases h.1;done)|exact plain_isS (l:=l) h.2
theorem isS_add {l:List AV} (h:l.all isS=true) (s:List Nat):(l++[AV.str s]).all isS=true:=by
 rw[List.all_append,h];rfl
theorem app_plain {l:List AV} (h:l.all isS=true) (s:List Nat):plO (AO.cells true (l++[AV.str s]))=true:=plain_isS (isS_add h s)
theorem sand_eta (s:tSand.den):((s.1,(s.2.1.1,s.2.1.2),((s.2.2.1.1.1,s.2.2.1.1.2.1,()),(s.2.2.1.2.1.1,s.2.2.1.2.1.2.1,()),()),()):tSand.den)=s:=rfl
theorem ile_lt0 {n:Nat} (h:0<n):ile (n:Int) 0=false:=ile_lt h
theorem ile_ge0 {n:Nat} (h:n≤0):ile (n:Int) 0=true:=ile_ge h
theorem ile_lt1 {n:Nat} (h:1<n):ile (n:Int) 1=false:=ile_lt (k:=1) h
theorem ile_ge1 {n:Nat} (h:n≤1):ile (n:Int) 1=true:=ile_ge (k:=1) h
theorem inB_0 {n:Nat} (h:0<n):inB 0 n=true:=inB_at (k:=0) h
theorem inB_1 {n:Nat} (h:1<n):inB 1 n=true:=inB_at (k:=1) h
theorem getD_0 {α:Type} {l:List α} {d:α} (h:0<l.length):l.getD (Int.toNat 0) d=l[0]:=getD_at (k:=0) h
theorem getD_1 {α:Type} {l:List α} {d:α} (h:1<l.length):l.getD (Int.toNat 1) d=l[1]:=getD_at (k:=1) h
theorem rs7 (c:tChart.den) (h4:c.2.1.2.length≤4) (x9:Int) (x36:Nat):∀ (r i m n7:Nat) (l:List AV) (mem:List Nat→Bool),i+r=c.2.1.2.length→r<m→l.length≤i+8→l.all isS=true→n7=l.length→(∀ t,ile 0 (placeF t (strs l) 0)=mem t)→Ans E2 (rchkI7 c n7 x9 (i:Int) l x36 m) (tup3 (sandsS mem i (c.2.1.2.drop i)))
 |0,i,m+1,n7,l,mem,hk,hm,h8,hS,hn,hM=>by
  have h:=rchk_step7 c n7 x9 i l x36 m
  simp only[ile_ge (show c.2.1.2.length≤i by omega),Bool.not_true,cond_false] at h
  rw[List.drop_eq_nil_of_le (by omega)]
  exact done3 (S2_ok _) E2sy h rfl
 | r + 1, i, m + 1, n7, l, mem, hk, hm, h8, hS, hn, hM => by
  have h:=rchk_step7 c n7 x9 i l x36 m
  have hlt:i<c.2.1.2.length:=by omega
  have q1:plainL l=true:=plain_isS hS
  have q2:(0+n7 * 1).beq l.length=true:=by rw[hn];simp
  have q3:n7.ble 1048576=true:=Nat.ble_eq_true_of_le (by omega)
  have q4:(l.all isS&&n7.beq l.length&&n7.ble 1000)=true:=by rw[hS,hn,Nat.ble_eq_true_of_le (show l.length≤1000 by omega)];simp
  simp only[ile_lt hlt,inB_at hlt,getD_at hlt,List.drop_zero,q1,q2,q3,q4,app_plain hS,sand_eta,wr_succ (show i<1048577 by omega),hM,Bool.not_false,cond_true] at h
  rw[List.drop_eq_getElem_cons hlt,sandsS,sandN]
  cases c1:nameS (c.2.1.2[i]).1 with
  |false=>
   simp only[c1,Bool.not_false,cond_true,cond_false,show ieq 6 0=false from rfl] at h⊢
   exact done3 (S2_ok _) E2sy h rfl
  | true =>
   cases c2:mem (c.2.1.2[i]).1 with
   |true=>
    simp only[c1,c2,Bool.not_true,cond_true,cond_false,show ieq 5 0=false from rfl] at h⊢
    exact done3 (S2_ok _) E2sy h rfl
   | false =>
    cases c3:ieq (sandE (c.2.1.2[i])) 0 with
    |false=>
     simp only[c1,c2,c3,Bool.not_true,Bool.not_false,cond_true,cond_false] at h⊢
     exact done3 (S2_ok _) E2sy h rfl
    |true=>
     simp only[c1,c2,c3,Bool.not_true,Bool.not_false,cond_true,cond_false] at h⊢
     exact .stopE (S2_ok _) E2sy h (rs7 c h4 x9 x36 r (i+1) m (n7+1) _ (addM mem (c.2.1.2[i]).1) (by omega) (by omega) (by rw[List.length_append];simp;omega) (isS_add hS _) (by rw[List.length_append,hn];rfl) (fun t=>by rw[strs_add,placeF_add,hM];rfl)) rfl
theorem rs6 (c:tChart.den) (h4:c.2.1.2.length≤4):∀ (r i m n7:Nat) (l:List AV) (mem:List Nat→Bool),i+r=c.2.1.2.length→r<m→l.length≤i+8→l.all isS=true→n7=l.length→(∀ t,ile 0 (placeF t (strs l) 0)=mem t)→Ans E2 (rchkI6 c n7 (i:Int) l m) (tup3 (sandsS mem i (c.2.1.2.drop i)))
 |0,i,m+1,n7,l,mem,hk,hm,h8,hS,hn,hM=>by
  have h:=rchk_step6 c n7 i l m
  simp only[ile_ge (show c.2.1.2.length≤i by omega),Bool.not_true,cond_false] at h
  rw[List.drop_eq_nil_of_le (by omega)]
  exact done3 (S2_ok _) E2sy h rfl
 | r + 1, i, m + 1, n7, l, mem, hk, hm, h8, hS, hn, hM => by
  have h:=rchk_step6 c n7 i l m
  have hlt:i<c.2.1.2.length:=by omega
  have q1:plainL l=true:=plain_isS hS
  have q2:(0+n7 * 1).beq l.length=true:=by rw[hn];simp
  have q3:n7.ble 1048576=true:=Nat.ble_eq_true_of_le (by omega)
  have q4:(l.all isS&&n7.beq l.length&&n7.ble 1000)=true:=by rw[hS,hn,Nat.ble_eq_true_of_le (show l.length≤1000 by omega)];simp
  simp only[ile_lt hlt,inB_at hlt,getD_at hlt,List.drop_zero,q1,q2,q3,q4,app_plain hS,sand_eta,wr_succ (show i<1048577 by omega),hM,Bool.not_false,cond_true] at h
  rw[List.drop_eq_getElem_cons hlt,sandsS,sandN]
  cases c1:nameS (c.2.1.2[i]).1 with
  |false=>
   simp only[c1,Bool.not_false,cond_true,cond_false,show ieq 6 0=false from rfl] at h⊢
   exact done3 (S2_ok _) E2sy h rfl
  | true =>
   cases c2:mem (c.2.1.2[i]).1 with
   |true=>
    simp only[c1,c2,Bool.not_true,cond_true,cond_false,show ieq 5 0=false from rfl] at h⊢
    exact done3 (S2_ok _) E2sy h rfl
   | false =>
    cases c3:ieq (sandE (c.2.1.2[i])) 0 with
    |false=>
     simp only[c1,c2,c3,Bool.not_true,Bool.not_false,cond_true,cond_false] at h⊢
     exact done3 (S2_ok _) E2sy h rfl
    |true=>
     simp only[c1,c2,c3,Bool.not_true,Bool.not_false,cond_true,cond_false] at h⊢
     exact .stopE (S2_ok _) E2sy h (rs6 c h4 r (i+1) m (n7+1) _ (addM mem (c.2.1.2[i]).1) (by omega) (by omega) (by rw[List.length_append];simp;omega) (isS_add hS _) (by rw[List.length_append,hn];rfl) (fun t=>by rw[strs_add,placeF_add,hM];rfl)) rfl
theorem rs8 (c:tChart.den) (h4:c.2.1.2.length≤4) (n7:Nat) (x9:Int) (l:List AV) (mem:List Nat→Bool) (M:Nat) (hM1:c.2.1.2.length<M) (h8:l.length≤8) (hS:l.all isS=true) (hn:n7=l.length) (hM:∀ t,ile 0 (placeF t (strs l) 0)=mem t):Ans E2 (rchkI8 c n7 x9 l M) (tup3 (sandsS mem 0 c.2.1.2)):=by
 obtain⟨m,rfl⟩:∃ m,M=m+1:=⟨M-1,by omega⟩
 have h:=rchk_step8 c n7 x9 l m
 by_cases hlt:0<c.2.1.2.length
 · have q1 : plainL l = true := plain_isS hS
   have q2:(0+n7 * 1).beq l.length=true:=by rw[hn];simp
   have q3:n7.ble 1048576=true:=Nat.ble_eq_true_of_le (by omega)
   have q4:(l.all isS&&n7.beq l.length&&n7.ble 1000)=true:=by rw[hS,hn,Nat.ble_eq_true_of_le (show l.length≤1000 by omega)];simp
   simp only[ile_lt0 hlt,inB_0 hlt,getD_0 hlt,List.drop_zero,q1,q2,q3,q4,app_plain hS,sand_eta,hM,Bool.not_false,cond_true] at h
   have e:=List.drop_eq_getElem_cons hlt
   rw[List.drop_zero] at e
   rw[e,sandsS,sandN]
   cases c1:nameS (c.2.1.2[0]).1 with
   |false=>
    simp only[c1,Bool.not_false,cond_true,cond_false,show ieq 6 0=false from rfl] at h⊢
    exact done3 (S2_ok _) E2sy h rfl
   | true =>
    cases c2:mem (c.2.1.2[0]).1 with
    |true=>
     simp only[c1,c2,Bool.not_true,cond_true,cond_false,show ieq 5 0=false from rfl] at h⊢
     exact done3 (S2_ok _) E2sy h rfl
    | false =>
     cases c3:ieq (sandE (c.2.1.2[0])) 0 with
     |false=>
      simp only[c1,c2,c3,Bool.not_true,Bool.not_false,cond_true,cond_false] at h⊢
      exact done3 (S2_ok _) E2sy h rfl
     |true=>
      simp only[c1,c2,c3,Bool.not_true,Bool.not_false,cond_true,cond_false] at h⊢
      exact .stopE (S2_ok _) E2sy h (rs7 c h4 x9 n7 (c.2.1.2.length-1) 1 m (n7+1) _ (addM mem (c.2.1.2[0]).1) (by omega) (by omega) (by rw[List.length_append];simp;omega) (isS_add hS _) (by rw[List.length_append,hn];rfl) (fun t=>by rw[strs_add,placeF_add,hM];rfl)) rfl
 · have e : c.2.1.2 = [] := List.eq_nil_of_length_eq_zero (by omega)
   simp only[ile_ge0 (show c.2.1.2.length≤0 by omega),Bool.not_true,cond_false] at h
   rw[e]
   exact done3 (S2_ok _) E2sy h rfl
theorem one_mem (m0:List Nat):∀ t,ile 0 (placeF t (strs [AV.str m0]) 0)=addM (fun _=>false) m0 t:=fun t=>by
 have:=placeF_add (t:=t) (s:=m0) []
 rw[List.nil_append] at this
 exact this
theorem two_mem (m0 m1:List Nat):∀ t,ile 0 (placeF t (strs [AV.str m0,AV.str m1]) 0)=addM (addM (fun _=>false) m0) m1 t:=fun t=>by
 have:=placeF_add (t:=t) (s:=m1) [m0]
 have h0:=one_mem m0 t
 rw[show strs [AV.str m0]=[m0] from rfl] at h0
 rw[h0] at this
 exact this
theorem rs4 (c:tChart.den) (h4:c.2.1.2.length≤4) (hm0:0<c.1.2.length) (M:Nat) (hM1:c.2.1.2.length<M):Ans E2 (rchkI4 c M) (tup3 (sandsS (addM (fun _=>false) (c.1.2[0]).1) 0 c.2.1.2)):=by
 obtain⟨m,rfl⟩:∃ m,M=m+1:=⟨M-1,by omega⟩
 have h:=rchk_step4 c m
 by_cases hlt:0<c.2.1.2.length
 · simp only [ile_lt0 hlt, inB_0 hlt, getD_0 hlt, getD_0 hm0, List.drop_zero, sand_eta, one_mem, Bool.not_false, cond_true] at h
   have e:=List.drop_eq_getElem_cons hlt
   rw[List.drop_zero] at e
   rw[e,sandsS,sandN]
   cases c1:nameS (c.2.1.2[0]).1 with
   |false=>
    simp only[c1,Bool.not_false,cond_true,cond_false,show ieq 6 0=false from rfl] at h⊢
    exact done3 (S2_ok _) E2sy h rfl
   | true =>
    cases c2:addM (fun _=>false) (c.1.2[0]).1 (c.2.1.2[0]).1 with
    |true=>
     simp only[c1,c2,Bool.not_true,cond_true,cond_false,show ieq 5 0=false from rfl] at h⊢
     exact done3 (S2_ok _) E2sy h rfl
    | false =>
     cases c3:ieq (sandE (c.2.1.2[0])) 0 with
     |false=>
      simp only[c1,c2,c3,Bool.not_true,Bool.not_false,cond_true,cond_false] at h⊢
      exact done3 (S2_ok _) E2sy h rfl
     |true=>
      simp only[c1,c2,c3,Bool.not_true,Bool.not_false,cond_true,cond_false] at h⊢
      exact .stopE (S2_ok _) E2sy h (rs7 c h4 1 1 (c.2.1.2.length-1) 1 m 2 _ (addM (addM (fun _=>false) (c.1.2[0]).1) (c.2.1.2[0]).1) (by omega) (by omega) (by simp) rfl rfl (two_mem _ _)) rfl
 · have e : c.2.1.2 = [] := List.eq_nil_of_length_eq_zero (by omega)
   simp only[ile_ge0 (show c.2.1.2.length≤0 by omega),Bool.not_true,cond_false] at h
   rw[e]
   exact done3 (S2_ok _) E2sy h rfl
theorem rs3 (c:tChart.den) (h4:c.2.1.2.length≤4) (h0:0<c.2.1.2.length) (M:Nat) (hM1:c.2.1.2.length<M+1):Ans E2 (rchkI3 c M) (tup3 (sandsS (addM (fun _=>false) (c.2.1.2[0]).1) 1 (c.2.1.2.drop 1))):=by
 obtain⟨m,rfl⟩:∃ m,M=m+1:=⟨M-1,by omega⟩
 have h:=rchk_step3 c m
 by_cases hlt:1<c.2.1.2.length
 · simp only [ile_lt1 hlt, inB_1 hlt, getD_1 hlt, getD_0 h0, List.drop_zero, sand_eta, one_mem, Bool.not_false, cond_true] at h
   rw[List.drop_eq_getElem_cons hlt,sandsS,sandN]
   cases c1:nameS (c.2.1.2[1]).1 with
   |false=>
    simp only[c1,Bool.not_false,cond_true,cond_false,show ieq 6 0=false from rfl] at h⊢
    exact done3 (S2_ok _) E2sy h rfl
   | true =>
    cases c2:addM (fun _=>false) (c.2.1.2[0]).1 (c.2.1.2[1]).1 with
    |true=>
     simp only[c1,c2,Bool.not_true,cond_true,cond_false,show ieq 5 0=false from rfl] at h⊢
     exact done3 (S2_ok _) E2sy h rfl
    | false =>
     cases c3:ieq (sandE (c.2.1.2[1])) 0 with
     |false=>
      simp only[c1,c2,c3,Bool.not_true,Bool.not_false,cond_true,cond_false] at h⊢
      exact done3 (S2_ok _) E2sy h rfl
     |true=>
      simp only[c1,c2,c3,Bool.not_true,Bool.not_false,cond_true,cond_false] at h⊢
      exact .stopE (S2_ok _) E2sy h (rs6 c h4 (c.2.1.2.length-2) 2 m 2 _ (addM (addM (fun _=>false) (c.2.1.2[0]).1) (c.2.1.2[1]).1) (by omega) (by omega) (by simp) rfl rfl (two_mem _ _)) rfl
 · simp only [ile_ge1 (show c.2.1.2.length ≤ 1 by omega), Bool.not_true, cond_false] at h
   rw[List.drop_eq_nil_of_le (by omega)]
   exact done3 (S2_ok _) E2sy h rfl
theorem rs1 (c:tChart.den) (h4:c.2.1.2.length≤4) (M:Nat) (hM1:c.2.1.2.length<M):Ans E2 (rchkI1 c M) (tup3 (sandsS (fun _=>false) 0 c.2.1.2)):=by
 obtain⟨m,rfl⟩:∃ m,M=m+1:=⟨M-1,by omega⟩
 have h:=rchk_step1 c m
 by_cases hlt:0<c.2.1.2.length
 · simp only [ile_lt0 hlt, inB_0 hlt, getD_0 hlt, sand_eta, Bool.not_false, cond_true] at h
   have e:=List.drop_eq_getElem_cons hlt
   rw[List.drop_zero] at e
   rw[e,sandsS,sandN]
   simp only[cond_false]
   cases c1:nameS (c.2.1.2[0]).1 with
   |false=>
    simp only[c1,Bool.not_false,cond_true,cond_false,show ieq 6 0=false from rfl] at h⊢
    exact done3 (S2_ok _) E2sy h rfl
   | true =>
    cases c3:ieq (sandE (c.2.1.2[0])) 0 with
    |false=>
     simp only[c1,c3,Bool.not_true,Bool.not_false,cond_true,cond_false] at h⊢
     exact done3 (S2_ok _) E2sy h rfl
    |true=>
     simp only[c1,c3,Bool.not_true,Bool.not_false,cond_true,cond_false] at h⊢
     exact .stopE (S2_ok _) E2sy h (rs3 c h4 hlt m (by omega)) rfl
 · have e : c.2.1.2 = [] := List.eq_nil_of_length_eq_zero (by omega)
   simp only[ile_ge0 (show c.2.1.2.length≤0 by omega),Bool.not_true,cond_false] at h
   rw[e]
   exact done3 (S2_ok _) E2sy h rfl
theorem rm5 (c:tChart.den) (hc8:c.1.2.length≤8):∀ (r i m n7:Nat) (l:List AV) (mem:List Nat→Bool),i+r=c.1.2.length→r<m→l.length=i→l.all isS=true→n7=l.length→(∀ t,ile 0 (placeF t (strs l) 0)=mem t)→Ans E2 (rchkI5 c n7 (i:Int) l m) (tup3 (marksS (sandsK c) mem i (c.1.2.drop i)))
 | 0, i, m + 1, n7, l, mem, hk, hm, h8, hS, hn, hM => by
  have h:=rchk_step5 c n7 i l m
  simp only[ile_ge (show c.1.2.length≤i by omega),Bool.not_true,cond_false] at h
  rw[List.drop_eq_nil_of_le (by omega)]
  rw[marksS,sandsK]
  cases c1:ile (c.2.1.2.length:Int) 4 with
  |false=>
   simp only[c1,Bool.not_false,cond_true,cond_false] at h⊢
   exact done3 (S2_ok _) E2sy h rfl
  |true=>
   simp only[c1,Bool.not_true,cond_true,cond_false] at h⊢
   have h4:c.2.1.2.length≤4:=by rw[ile_iff] at c1;simp at c1;omega
   exact .stop (S2_ok _) E2sy h (rs8 c h4 n7 i l mem 1048575 (by omega) (by omega) hS hn hM)
 | r + 1, i, m + 1, n7, l, mem, hk, hm, h8, hS, hn, hM => by
  have h:=rchk_step5 c n7 i l m
  have hlt:i<c.1.2.length:=by omega
  have q1:plainL l=true:=plain_isS hS
  have q2:(0+n7 * 1).beq l.length=true:=by rw[hn];simp
  have q3:n7.ble 1048576=true:=Nat.ble_eq_true_of_le (by omega)
  have q4:(l.all isS&&n7.beq l.length&&n7.ble 1000)=true:=by rw[hS,hn,Nat.ble_eq_true_of_le (show l.length≤1000 by omega)];simp
  simp only[ile_lt hlt,inB_at hlt,getD_at hlt,List.drop_zero,q1,q2,q3,q4,app_plain hS,wm30000,wr_succ (show i<1048577 by omega),hM,Bool.not_false,cond_true] at h
  rw[List.drop_eq_getElem_cons hlt,marksS,markE,inF]
  cases c1:nameS (c.1.2[i]).1 with
  |false=>
   simp only[c1,Bool.not_false,cond_true,cond_false,show ieq 6 0=false from rfl] at h⊢
   exact done3 (S2_ok _) E2sy h rfl
  | true =>
   cases c2:mem (c.1.2[i]).1 with
   |true=>
    simp only[c1,c2,Bool.not_true,cond_true,cond_false,show ieq 5 0=false from rfl] at h⊢
    exact done3 (S2_ok _) E2sy h rfl
   | false =>
    cases d1:ile (-30000) (c.1.2[i]).2.1.1<;>cases d2:ile (c.1.2[i]).2.1.1 30000<;>cases d3:ile (-30000) (c.1.2[i]).2.1.2.1<;>cases d4:ile (c.1.2[i]).2.1.2.1 30000 <;>
     try (simp only[c1,c2,d1,d2,d3,d4,cond_true,cond_false,Bool.not_true,Bool.not_false,Bool.and_true,Bool.and_false,Bool.false_and,Bool.true_and,Bool.and_self,show ieq 7 0=false from rfl] at h⊢;exact done3 (S2_ok _) E2sy h rfl)
    cases e3:ieq (paintsE (c.1.2[i]).2.2.1.2) 0 with
    |false=>
     simp only[c1,c2,d1,d2,d3,d4,e3,cond_true,cond_false,Bool.not_true,Bool.not_false,Bool.and_self] at h⊢
     exact done3 (S2_ok _) E2sy h rfl
    |true=>
     simp only[c1,c2,d1,d2,d3,d4,e3,cond_true,cond_false,Bool.not_true,Bool.not_false,Bool.and_self] at h⊢
     exact .stopE (S2_ok _) E2sy h (rm5 c hc8 r (i+1) m (n7+1) _ (addM mem (c.1.2[i]).1) (by omega) (by omega) (by rw[List.length_append,h8];rfl) (isS_add hS _) (by rw[List.length_append,hn];rfl) (fun t=>by rw[strs_add,placeF_add,hM];rfl)) rfl
theorem rm2 (c:tChart.den) (hc8:c.1.2.length≤8) (h0:0<c.1.2.length) (M:Nat) (hM1:c.1.2.length<M+1):Ans E2 (rchkI2 c M) (tup3 (marksS (sandsK c) (addM (fun _=>false) (c.1.2[0]).1) 1 (c.1.2.drop 1))):=by
 obtain⟨m,rfl⟩:∃ m,M=m+1:=⟨M-1,by omega⟩
 have h:=rchk_step2 c m
 by_cases hlt:1<c.1.2.length
 · simp only [ile_lt1 hlt, inB_1 hlt, getD_1 hlt, getD_0 h0, List.drop_zero, wm30000, one_mem, Bool.not_false, cond_true] at h
   rw[List.drop_eq_getElem_cons hlt,marksS,markE,inF]
   cases c1:nameS (c.1.2[1]).1 with
   |false=>
    simp only[c1,Bool.not_false,cond_true,cond_false,show ieq 6 0=false from rfl] at h⊢
    exact done3 (S2_ok _) E2sy h rfl
   | true =>
    cases c2:addM (fun _=>false) (c.1.2[0]).1 (c.1.2[1]).1 with
    |true=>
     simp only[c1,c2,Bool.not_true,cond_true,cond_false,show ieq 5 0=false from rfl] at h⊢
     exact done3 (S2_ok _) E2sy h rfl
    | false =>
     cases d1:ile (-30000) (c.1.2[1]).2.1.1<;>cases d2:ile (c.1.2[1]).2.1.1 30000<;>cases d3:ile (-30000) (c.1.2[1]).2.1.2.1<;>cases d4:ile (c.1.2[1]).2.1.2.1 30000 <;>
      try (simp only[c1,c2,d1,d2,d3,d4,cond_true,cond_false,Bool.not_true,Bool.not_false,Bool.and_true,Bool.and_false,Bool.false_and,Bool.true_and,Bool.and_self,show ieq 7 0=false from rfl] at h⊢;exact done3 (S2_ok _) E2sy h rfl)
     cases e3:ieq (paintsE (c.1.2[1]).2.2.1.2) 0 with
     |false=>
      simp only[c1,c2,d1,d2,d3,d4,e3,cond_true,cond_false,Bool.not_true,Bool.not_false,Bool.and_self] at h⊢
      exact done3 (S2_ok _) E2sy h rfl
     |true=>
      simp only[c1,c2,d1,d2,d3,d4,e3,cond_true,cond_false,Bool.not_true,Bool.not_false,Bool.and_self] at h⊢
      exact .stopE (S2_ok _) E2sy h (rm5 c hc8 (c.1.2.length-2) 2 m 2 _ (addM (addM (fun _=>false) (c.1.2[0]).1) (c.1.2[1]).1) (by omega) (by omega) rfl rfl rfl (two_mem _ _)) rfl
 · simp only [ile_ge1 (show c.1.2.length ≤ 1 by omega), Bool.not_true, cond_false] at h
   rw[List.drop_eq_nil_of_le (by omega)]
   rw[marksS,sandsK]
   cases c1:ile (c.2.1.2.length:Int) 4 with
   |false=>
    simp only[c1,Bool.not_false,cond_true,cond_false] at h⊢
    exact done3 (S2_ok _) E2sy h rfl
   |true=>
    simp only[c1,Bool.not_true,cond_true,cond_false] at h⊢
    have h4:c.2.1.2.length≤4:=by rw[ile_iff] at c1;simp at c1;omega
    exact .stop (S2_ok _) E2sy h (rs4 c h4 h0 1048575 (by omega))
theorem rm0 (c:tChart.den) (hc8:c.1.2.length≤8) (M:Nat) (hM1:c.1.2.length<M):Ans E2 (rchkI0 c M) (tup3 (marksS (sandsK c) (fun _=>false) 0 c.1.2)):=by
 obtain⟨m,rfl⟩:∃ m,M=m+1:=⟨M-1,by omega⟩
 have h:=rchk_step0 c m
 by_cases hlt:0<c.1.2.length
 · simp only [ile_lt0 hlt, inB_0 hlt, getD_0 hlt, wm30000, Bool.not_false, cond_true] at h
   have e:=List.drop_eq_getElem_cons hlt
   rw[List.drop_zero] at e
   rw[e,marksS,markE,inF]
   simp only[cond_false]
   cases c1:nameS (c.1.2[0]).1 with
   |false=>
    simp only[c1,Bool.not_false,cond_true,cond_false,show ieq 6 0=false from rfl] at h⊢
    exact done3 (S2_ok _) E2sy h rfl
   | true =>
     cases d1:ile (-30000) (c.1.2[0]).2.1.1<;>cases d2:ile (c.1.2[0]).2.1.1 30000<;>cases d3:ile (-30000) (c.1.2[0]).2.1.2.1<;>cases d4:ile (c.1.2[0]).2.1.2.1 30000 <;>
      try (simp only[c1,d1,d2,d3,d4,cond_true,cond_false,Bool.not_true,Bool.not_false,Bool.and_true,Bool.and_false,Bool.false_and,Bool.true_and,Bool.and_self,show ieq 7 0=false from rfl] at h⊢;exact done3 (S2_ok _) E2sy h rfl)
     cases e3:ieq (paintsE (c.1.2[0]).2.2.1.2) 0 with
     |false=>
      simp only[c1,d1,d2,d3,d4,e3,cond_true,cond_false,Bool.not_true,Bool.not_false,Bool.and_self] at h⊢
      exact done3 (S2_ok _) E2sy h rfl
     |true=>
      simp only[c1,d1,d2,d3,d4,e3,cond_true,cond_false,Bool.not_true,Bool.not_false,Bool.and_self] at h⊢
      exact .stopE (S2_ok _) E2sy h (rm2 c hc8 hlt m (by omega)) rfl
 · have e : c.1.2 = [] := List.eq_nil_of_length_eq_zero (by omega)
   simp only[ile_ge0 (show c.1.2.length≤0 by omega),Bool.not_true,cond_false] at h
   rw[e]
   rw[marksS,sandsK]
   cases c1:ile (c.2.1.2.length:Int) 4 with
   |false=>
    simp only[c1,Bool.not_false,cond_true,cond_false] at h⊢
    exact done3 (S2_ok _) E2sy h rfl
   |true=>
    simp only[c1,Bool.not_true,cond_true,cond_false] at h⊢
    have h4:c.2.1.2.length≤4:=by rw[ile_iff] at c1;simp at c1;omega
    exact .stop (S2_ok _) E2sy h (rs1 c h4 1048575 (by omega))
theorem rchk_call (c:tChart.den):AnsF E2 21 [tChart.av c] (tup3 (chkS c)):=by
 refine Ans.call (n:=6) (E2ext _ _ (by kernel_rfl)) (hasB_spec (by kernel_rfl)) ?_
 have h:=rchk_start c
 unfold chkS
 cases c1:ile (c.1.2.length:Int) 8 with
 |false=>
  simp only[c1,Bool.not_false,cond_true,cond_false] at h⊢
  exact done3 (S2_ok _) E2sy h rfl
 |true=>
  simp only[c1,Bool.not_true,cond_true,cond_false] at h⊢
  have h8:c.1.2.length≤8:=by rw[ile_iff] at c1;simp at c1;omega
  exact .stop (S2_ok _) E2sy h (rm0 c h8 1048575 (by omega))
end Go.Proofs.YtgaoajmlckgdaaaGreatDoor


set_option maxRecDepth 100000
namespace Go.Proofs.YtgaoajmlckgdaaaGreatDoor
open Go Go.Eng
noncomputable def vtab:List (Int×Int):=[(0,1000),(195,981),(383,924),(556,831),(707,707),(831,556),(924,383),(981,195),(1000,0),(981,-195),(924,-383),(831,-556),(707,-707),(556,-831),(383,-924),(195,-981),(0,-1000),(-195,-981),(-383,-924),(-556,-831),(-707,-707),(-831,-556),(-924,-383),(-981,-195),(-1000,0),(-981,195),(-924,383),(-831,556),(-707,707),(-556,831),(-383,924),(-195,981)]
noncomputable def inV (p:Int):Bool:=ile 0 p&&ile p 31
noncomputable def vx (p:Int):Int:=bif inV p then (vtab.getD p.toNat (0,0)).1 else 0
noncomputable def vy (p:Int):Int:=bif inV p then (vtab.getD p.toNat (0,0)).2 else 0
noncomputable def SB:Sy:=⟨fun f _=>match Nat.beq f 59 with
 |true=>some (false,undefA)
 |false=>match Nat.beq f 61 with
  |true=>some (false,undefA)
  |false=>none,fun _=>false,true,[],false⟩
end Go.Proofs.YtgaoajmlckgdaaaGreatDoor


namespace Go.Eng
open Go
section
variable {H:Type} {P:Program}
noncomputable def avAll (g:DataW H→Option (List AV)) (sz:Nat):List (DataW H)→Option (List AV)
 |[]=>some []
 | d :: ds => match g d, avAll g sz ds with
  |some l,some r=>match Nat.beq l.length sz with
   |true=>some (l++r)
   |false=>none
  |_,_=>none
noncomputable def avF (P:Program) (g:TypeId→DataW H→Option (List AV)):Nat→List Field→List (DataW H)→Option (List AV)
 |_,[],[]=>some []
 | off, f :: fs, d :: ds => match g f.type d, avF P g (off + P.cellsOf f.type) fs ds with
  |some l,some r=>match Nat.beq f.offset off,Nat.beq l.length (P.cellsOf f.type) with
   |true,true=>some (l++r)
   |_,_=>none
  |_,_=>none
 |_,_,_=>none
noncomputable def full? (P:Program) (t:TypeId):Option (List AV)→Option (List AV)
 |some l=>match Nat.beq l.length (P.cellsOf t) with
  |true=>some l
  |false=>none
 |none=>none
theorem full?_inv {t:TypeId} {r:Option (List AV)} {l:List AV} (h:full? P t r=some l):r=some l∧l.length=P.cellsOf t:=by
 unfold full? at h
 split at h
 · split at h
   · rename_i e
     simp only[Option.some.injEq] at h;subst h
     exact⟨rfl,Nat.eq_of_beq_eq_true e⟩
   · cases h
 · cases h
noncomputable def av (P:Program):Nat→TypeId→DataW H→Option (List AV)
 |0,_,_=>none
 | n + 1, t, d => match P.underlying t with
  |some .bool=>match d with
   |.lit (.bool b)=>some [.bool b]
   |_=>none
  |some (.int _)=>match d with
   |.lit (.int k i)=>some [.int k i]
   |_=>none
  |some .string=>match d with
   |.lit (.string s)=>some [.str (s.map (·.toNat))]
   |_=>none
  | some (.pointer e) => match d with
   |.nil=>some [.nilp]
   |.ptr d=>match Nat.ble 1 (P.cellsOf e) with
    |true=>(av P n e d).map fun l=>[.cp l 0]
    |false=>none
   |_=>none
  | some (.slice e) => match d with
   |.nil=>some [.nils]
   |.slice els _=>match Nat.ble 1 (P.cellsOf e) with
    |true=>(avAll (av P n e) (P.cellsOf e) els).map fun l=>[.csl l els.length]
    |false=>none
   |_=>none
  |some (.struct fs)=>match d with
   |.agg ps=>full? P t (avF P (av P n) 0 fs.toList ps)
   |_=>none
  |some (.array _ e)=>match d with
   |.agg ps=>full? P t (avAll (av P n e) (P.cellsOf e) ps)
   |_=>none
  |_=>none
theorem avAll_cons {g:DataW H→Option (List AV)} {sz:Nat} {d:DataW H} {ds:List (DataW H)} {l:List AV} (h:avAll g sz (d::ds)=some l):∃ a r,g d=some a∧avAll g sz ds=some r∧a.length=sz∧l=a++r:=by
 simp only[avAll] at h
 split at h
 · rename_i a r h1 h2
   split at h
   · rename_i e
     simp only[Option.some.injEq] at h
     exact⟨a,r,h1,h2,Nat.eq_of_beq_eq_true e,h.symm⟩
   · cases h
 · cases h
theorem avF_cons {g:TypeId→DataW H→Option (List AV)} {off:Nat} {f:Field} {fs:List Field} {d:DataW H} {ds:List (DataW H)} {l:List AV} (h:avF P g off (f::fs) (d::ds)=some l) :
  ∃ a r,g f.type d=some a∧avF P g (off+P.cellsOf f.type) fs ds=some r∧f.offset=off∧a.length=P.cellsOf f.type∧l=a++r:=by
 simp only[avF] at h
 split at h
 · rename_i a r h1 h2
   split at h
   · rename_i e e2
     simp only[Option.some.injEq] at h
     exact⟨a,r,h1,h2,Nat.eq_of_beq_eq_true e,Nat.eq_of_beq_eq_true e2,h.symm⟩
   · cases h
 · cases h
variable {enc:TypeId×Value→H} {w:World} {base:Nat} {spare:Nat→Bool} {held:Bool}
def seen (w:World):View:=⟨fun _=>none,fun _=>none,fun b o=>w.cell? ⟨b,o,none⟩,fun _=>0⟩
theorem cells?_get {a:Addr} {n:Nat} {cs:List Value} (h:w.cells? base a n=some cs):cs.length=n∧∀ j,j<n→w.cell? (a.add j)=cs[j]?:=by
 unfold World.cells? at h
 split at h
 · refine ⟨by simpa using mapM_some_length h, fun j hj => ?_⟩
   exact mapM_some_get h j j (by simp[hj])
 · cases h
theorem cell?_spot {a:Addr} {v:Value} (h:w.cell? a=some v):a.spot=none:=by
 unfold World.cell? at h
 split at h
 · split at h
   · cases h
   · rename_i hs;simpa using hs
 · cases h
def Lies (w:World) (blk o:Nat) (l:List AV):Prop:=∀ i (hi:i<l.length),∃ v,w.cell? ⟨blk,o+i,none⟩=some v∧VR (seen w) l[i] v
theorem Lies.append {blk o:Nat} {l r:List AV} (h:Lies w blk o l) (k:Lies w blk (o+l.length) r):Lies w blk o (l++r):=by
 intro i hi
 by_cases hl:i<l.length
 · rw[List.getElem_append_left hl];exact h i hl
 · have hi' : i - l.length < r.length := by rw [List.length_append] at hi; omega
   rw[List.getElem_append_right (by omega)]
   obtain⟨v,h1,h2⟩:=k (i-l.length) hi'
   rw[show o+l.length+(i-l.length)=o+i by omega] at h1
   exact⟨v,h1,h2⟩
theorem Lies.of {blk o:Nat} {l:List AV} {cs:List Value} (h:VRs (seen w) l cs) (hc:∀ j,j<cs.length→w.cell? ⟨blk,o+j,none⟩=cs[j]?):Lies w blk o l:=by
 intro i hi
 have hi':i<cs.length:=h.1▸hi
 exact⟨cs[i],by rw[hc i hi'];simp[hi'],h.2 i hi hi'⟩
theorem Lies.choose {blk o:Nat} {l:List AV} (h:Lies w blk o l):∃ f:Nat→Value,(∀ i,i<l.length→(seen w).K blk (o+i)=some (f i))∧∀ i (hi:i<l.length),VR (seen w).bare l[i] (f i):=by
 refine⟨fun i=>(w.cell? ⟨blk,o+i,none⟩).getD undef,fun i hi=>?_,fun i hi=>?_⟩
 · obtain ⟨v, h1, _⟩ := h i hi
   show w.cell? ⟨blk,o+i,none⟩=_
   simp[h1]
 · obtain ⟨v, h1, h2⟩ := h i hi
   simp only[h1,Option.getD_some]
   exact h2
theorem spot_add {a:Addr} (hs:a.spot=none) (n:Nat):a.add n=⟨a.block,a.off+n,none⟩:=by
 obtain⟨blk,off,spot⟩:=a
 simp only at hs;subst hs
 unfold Addr.add
 split
 · rename_i h;subst h;rfl
 · rfl
theorem spot_add2 {a:Addr} (hs:a.spot=none) (n m:Nat):(a.add n).add m=a.add (n+m):=by
 rw[spot_add hs,spot_add rfl,spot_add hs,Nat.add_assoc]
theorem trod_parts {g:TypeId→List Value→Option (DataW H×List MemPlace)} {n:Nat} (ih:∀ t cs d p l,g t cs=some (d,p)→av P n t d=some l→VRs (seen w) l cs) (cs:List Value) :
  ∀ (fs:List Field) (off:Nat) (xs:List (DataW H×List MemPlace)) (l:List AV),(∀ (i:Nat) (f:Field),fs[i]?=some f→g f.type ((cs.drop f.offset).take (P.cellsOf f.type))=xs[i]?)→avF P (av P n) off fs (xs.map (·.1))=some l→VRs (seen w) l ((cs.drop off).take l.length)
 | [], off, xs, l, h, hl => by
  cases xs with
  |nil=>
   simp only[List.map_nil,avF,Option.some.injEq] at hl;subst hl
   simpa using VRs.nil _
  |cons x xs=>simp[avF] at hl
 |f::fs,off,[],l,h,hl=>by simp[avF] at hl
 |f::fs,off,x::xs,l,h,hl=>by
  rw[List.map_cons] at hl
  obtain⟨a,r,h1,h2,h3,h4,rfl⟩:=avF_cons hl
  have hx:=h 0 f rfl
  rw[List.getElem?_cons_zero] at hx
  have e1:=ih _ _ _ x.2 a hx h1
  have e2:=trod_parts ih cs fs _ xs r (fun i f hf=>by have:=h (i+1) f (by simpa using hf);simpa using this) h2
  rw[h3] at e1
  rw[List.length_append,h4,List.take_add,List.drop_drop]
  exact e1.append e2
theorem trod_elems {g:List Value→Option (DataW H×List MemPlace)} {n sz:Nat} {e:TypeId} (ih:∀ cs d p l,g cs=some (d,p)→av P n e d=some l→VRs (seen w) l cs) (cs:List Value) :
  ∀ (i:Nat) (xs:List (DataW H×List MemPlace)) (l:List AV),(∀ j,j<xs.length→g ((cs.drop ((i+j) * sz)).take sz)=xs[j]?)→avAll (av P n e) sz (xs.map (·.1))=some l→VRs (seen w) l ((cs.drop (i * sz)).take l.length)
 |i,[],l,h,hl=>by
  simp only[List.map_nil,avAll,Option.some.injEq] at hl;subst hl
  simpa using VRs.nil _
 |i,x::xs,l,h,hl=>by
  rw[List.map_cons] at hl
  obtain⟨a,r,h1,h2,h4,rfl⟩:=avAll_cons hl
  have hx:=h 0 (by simp)
  rw[List.getElem?_cons_zero] at hx
  have e1:=ih _ _ x.2 a hx h1
  have e2:=trod_elems ih cs (i+1) xs r (fun j hj=>by have:=h (j+1) (by simpa using hj);rw[show i+1+j=i+(j+1) by omega];simpa using this) h2
  rw[List.length_append,h4,List.take_add,List.drop_drop]
  rw[show i * sz+sz=(i+1) * sz by rw[Nat.add_mul,Nat.one_mul]]
  exact e1.append e2
theorem trod_lies {g:List Value→Option (DataW H×List MemPlace)} {n sz:Nat} {e:TypeId} (ih:∀ cs d p l,g cs=some (d,p)→av P n e d=some l→VRs (seen w) l cs) (a:Addr) (hs:a.spot=none) :
  ∀ (i:Nat) (xs:List (DataW H×List MemPlace)) (l:List AV),(∀ j,j<xs.length→(w.cells? base (a.add ((i+j) * sz)) sz).bind g=xs[j]?)→avAll (av P n e) sz (xs.map (·.1))=some l→Lies w a.block (a.off+i * sz) l
 |i,[],l,h,hl=>by
  simp only[List.map_nil,avAll,Option.some.injEq] at hl;subst hl
  intro i hi;simp at hi
 |i,x::xs,l,h,hl=>by
  rw[List.map_cons] at hl
  obtain⟨b,r,h1,h2,h4,rfl⟩:=avAll_cons hl
  have hx:=h 0 (by simp)
  rw[List.getElem?_cons_zero,Option.bind_eq_some_iff] at hx
  obtain⟨cs,hc,hx⟩:=hx
  have e1:=ih _ _ x.2 b hx h1
  have e2:=trod_lies ih a hs (i+1) xs r (fun j hj=>by have:=h (j+1) (by simpa using hj);rw[show i+1+j=i+(j+1) by omega];simpa using this) h2
  obtain⟨c1,c2⟩:=cells?_get hc
  refine Lies.append (Lies.of e1 fun j hj=>?_) ?_
  · rw [← c2 j (c1 ▸ hj), spot_add hs]
    rw[show a.off+i * sz+j=a.off+((i+0) * sz+j) by rw[Nat.add_zero];omega]
    rw[← spot_add hs,← spot_add2 hs,spot_add hs]
  · rw [h4, show a.off + i * sz + sz = a.off + (i + 1) * sz by rw [Nat.add_mul, Nat.one_mul]; omega]
    exact e2
theorem trod_av (hsp : ∀ b, spare b = true) : ∀ (n m : Nat) (t : TypeId) (cs : List Value) (d : DataW H) (p : List MemPlace) (l : List AV), DataW.trod enc P w base spare held m t cs = some (d, p) → av P n t d = some l → VRs (seen w) l cs
 |0,m,t,cs,d,p,l,h,hl=>by simp[av] at hl
 |n+1,m,t,cs,d,p,l,h,hl=>by
  have ih:=fun m t cs d p l (h:DataW.trod enc P w base spare held m t cs=some (d,p)) (hl:av P n t d=some l)=>trod_av hsp n m t cs d p l h hl
  rw[av.eq_def] at hl
  simp only at hl
  split at hl
  · rename_i hu
    obtain⟨b,rfl,hx⟩:=DataW.trod_bool hu h
    cases hx
    cases hl
    exact .cons (.bool _) (.nil _)
  · rename_i hu
    obtain⟨i,rfl,hx,_⟩:=DataW.trod_int hu h
    cases hx
    cases hl
    exact .cons (.int _ _) (.nil _)
  · rename_i hu
    obtain⟨s,rfl,hx,_⟩:=DataW.trod_string hu h
    cases hx
    cases hl
    exact .cons (.str _) (.nil _)
  · rename_i e hu
    rcases DataW.trod_pointer hu h with ⟨rfl,hx⟩|⟨a,cs',y,k,rfl,rfl,hx,hc,hy⟩
    · cases hx
      cases hl
      exact .cons .nilp (.nil _)
    · cases hx
      simp only at hl
      split at hl
      · rename_i hz
        have hz:=Nat.le_of_ble_eq_true hz
        simp only[Option.map_eq_some_iff] at hl
        obtain⟨l',hl',rfl⟩:=hl
        have e1:=ih _ _ _ _ y.2 _ hy hl'
        obtain⟨c1,c2⟩:=cells?_get hc
        have hs:a.spot=none:=by
         have:=c2 0 (by omega)
         rw[List.getElem?_eq_getElem (by omega)] at this
         exact cell?_spot (a:=a.add 0) this
        have hL:Lies w a.block a.off l':=Lies.of e1 fun j hj=>by rw[← c2 j (c1▸hj),spot_add hs]
        obtain⟨f,f1,f2⟩:=hL.choose
        refine .cons ?_ (.nil _)
        obtain⟨blk,off,spot⟩:=a
        simp only at hs;subst hs
        exact .cp l' 0 blk off f f1 f2
      · cases hl
  · rename_i e hu
    rcases DataW.trod_slice hu h with ⟨rfl,hx⟩|⟨a,len,cap,els,rest,k,rfl,rfl,hx,hb,hlc,_,hlen,h1,h2,_⟩
    · cases hx
      cases hl
      exact .cons .nils (.nil _)
    · cases hx
      simp only at hl
      split at hl
      · rename_i hz
        have hz:=Nat.le_of_ble_eq_true hz
        simp only[Option.map_eq_some_iff] at hl
        obtain⟨l',hl',rfl⟩:=hl
        obtain⟨h2l,h2⟩:=h2 (hsp _)
        have hone:cap≠0→∃ x,((w.cells? base (a.add (0 * P.cellsOf e)) (P.cellsOf e)).bind (DataW.trod enc P w base spare held k e))=some x:=by
         intro hc0
         by_cases hl0:len=0
         · have := h2 0 (by omega)
           rw[List.getElem?_eq_getElem (by omega)] at this
           subst hl0
           exact⟨_,by simpa using this⟩
         · have := h1 0 (by omega)
           rw[List.getElem?_eq_getElem (by omega)] at this
           exact⟨_,this⟩
        have hs:cap=0∨a.spot=none:=by
         by_cases hc0:cap=0
         · exact .inl hc0
         · right
           obtain⟨x,hx⟩:=hone hc0
           rw[Option.bind_eq_some_iff] at hx
           obtain⟨cs',hc,_⟩:=hx
           obtain⟨c1,c2⟩:=cells?_get hc
           have:=c2 0 (by omega)
           rw[List.getElem?_eq_getElem (by omega)] at this
           have:=cell?_spot this
           simpa [Addr.add] using this
        have hL:Lies w a.block a.off l':=by
         rcases hs with hc0|hs
         · have : els = [] := List.eq_nil_of_length_eq_zero (by omega)
           subst this
           simp only[List.map_nil,avAll,Option.some.injEq] at hl';subst hl'
           intro i hi;simp at hi
         · have := trod_lies (w := w) (base := base) (g := DataW.trod enc P w base spare held k e) (n := n) (sz := P.cellsOf e) (e := e) (fun cs d p l h hl => ih _ e cs d p l h hl) a hs 0 els l' (fun j hj => by rw [Nat.zero_add]; exact h1 j (by omega)) hl'
           simpa using this
        obtain⟨f,f1,f2⟩:=hL.choose
        refine .cons ?_ (.nil _)
        rw[show (els.map (·.1)).length=len by rw[List.length_map,hlen]]
        refine .csl l' len a.block a.off cap a f f1 f2 hlc (hs.imp (fun x=>x) fun x=>?_)
        obtain⟨blk,off,spot⟩:=a
        simp only at x;subst x;rfl
      · cases hl
  · rename_i fs hu
    obtain⟨xs,k,rfl,hx,hlen,_,h1⟩:=DataW.trod_struct hu h
    cases hx
    simp only at hl
    obtain⟨hl,hn⟩:=full?_inv hl
    have:=trod_parts (w:=w) (g:=DataW.trod enc P w base spare held k) (fun t cs d p l h hl=>ih k t cs d p l h hl) cs fs.toList 0 xs l (fun i f hf=>h1 i f (by simpa using hf)) hl
    rw[List.drop_zero,hn,← hlen,List.take_length] at this
    exact this
  · rename_i k e hu
    split at hl
    · rename_i ps
      obtain⟨xs,k,rfl,hx,hlen,hxl,h1⟩:=DataW.trod_array hu h
      cases hx
      obtain⟨hl,hn⟩:=full?_inv hl
      have:=trod_elems (w:=w) (g:=DataW.trod enc P w base spare held k e) (n:=n) (sz:=P.cellsOf e) (e:=e) (fun cs d p l h hl=>ih k e cs d p l h hl) cs 0 xs l (fun j hj=>by rw[Nat.zero_add];exact h1 j (by omega)) hl
      rw[Nat.zero_mul,List.drop_zero,hn,← hlen,List.take_length] at this
      exact this
    · cases hl
  · cases hl
end
end Go.Eng


namespace Go.Eng
open Go
section
variable {P:Program}
theorem kept_of_fr {W W':World} (h:Fr (fun _=>False) W W') (may:MemPlace→Prop):W.keptBut W' may:=by
 refine⟨h.os,h.output,fun i hi=>?_⟩
 rw[h.block i hi (fun x=>x)]
 split
 · rename_i h1 h2
   rw[h1] at h2
   cases h2
   exact⟨rfl,rfl,rfl,fun _ _=>rfl⟩
 · rename_i h1 h2
   rw[h1] at h2
   cases h2
   exact .inr ⟨rfl,rfl⟩
 · rfl
noncomputable def glB (P:Program):List (String×DataW Unit)→Nat→List AV→Bool
 |[],_,_=>false
 | (n, d) :: r, g, l => match (match P.globalNamed n with | some g' => Nat.beq g' g | none => false) with
  | true => match P.globals[g]? with
   |some i=>match av P 40 i.type d with
    |some l'=>avbeqL l' l
    |none=>false
   |none=>false
  |false=>glB P r g l
theorem glB_spec : ∀ {laid : List (String × DataW Unit)} {g : Nat} {l : List AV}, glB P laid g l = true → ∃ n d i, (n, d) ∈ laid ∧ P.globalNamed n = some g ∧ P.globals[g]? = some i ∧ av P 40 i.type d = some l
 |[],g,l,h=>by simp[glB] at h
 | (n, d) :: r, g, l, h => by
  rw[glB] at h
  split at h
  · rename_i e
    split at e
    · rename_i g' hg
      have:=Nat.eq_of_beq_eq_true e;subst this
      split at h
      · rename_i i hi
        split at h
        · rename_i l' hl
          have:=avbeqL_eq _ _ h;subst this
          exact⟨n,d,i,List.mem_cons_self,hg,hi,hl⟩
        · cases h
      · cases h
    · cases e
  · obtain ⟨n', d', i, h1, h2⟩ := glB_spec h
    exact⟨n',d',i,List.mem_cons_of_mem _ h1,h2⟩
theorem glob_of {E:Env} {laid:List (String×DataW Unit)} {gl:Tr (List AV)} (hE:E.glob=gl.get) (h:allT (glB P laid) gl (fun k=>k)=true) {W:World} (hL:laidMet P laid W):GlobK E (seen W):=by
 intro g l hg
 rw[hE] at hg
 obtain⟨n,d,i,h1,h2,h3,h4⟩:=glB_spec (allT_spec _ _ h _ _ hg)
 obtain⟨g',t,cs,fuel,p,k1,k2,k3,k4⟩:=Lib.laidMet.reads hL h1
 obtain rfl:=Option.some.inj (h2.symm.trans k1)
 rw[h3] at k2
 simp only[Option.map_some,Option.some.injEq] at k2
 subst k2
 have hv:=trod_av (w:=W) (fun _=>rfl) _ _ _ _ _ _ _ k4 h4
 refine⟨fun i=>(cs[i]?).getD undef,fun i hi=>?_⟩
 have hi':i<cs.toList.length:=hv.1▸hi
 have hc:=World.var?_cell h2 k3 i
 have e:cs[i]?=some cs[i]:=by simp[show i<cs.size by simpa using hi']
 refine⟨?_,?_⟩
 · show W.cell? ⟨g, i, none⟩ = _
   show _=some ((cs[i]?).getD undef)
   rw[hc,e];rfl
 · show VR (seen W) l[i] ((cs[i]?).getD undef)
   rw[e]
   have:=hv.2 i hi hi'
   simpa using this
theorem post0 {H:Type} {enc:TypeId×Value→H} {f:Func} {s:ChangeSpec} {W W':World} {t:TypeId} (hp:f.params=#[]) (hr:f.resultTypes=#[t]) (ht:P.underlying t=some .bool) (hv:s.vars=[])
  (hs:s.fn H []={ results:=[.lit (.bool true)],args:=[] }) {ds gs:List (DataW H)} {before:List MemPlace} (hW:DataW.Whole enc P f.params.toList s.vars false W [] ds gs before) (h:Fr (fun _=>False) W W') :
  s.post enc P f false true false false W #[] (.bool true) W':=by
 obtain⟨p,q,h1,h2,h3,h4,h5⟩:=hW
 have h1':=h1
 have h2':=h2
 rw[hp] at h1'
 rw[hv] at h2'
 have e1:ds=[]:=by
  cases ds with
  |nil=>rfl
  |cons d ds=>exact absurd h1' (fun h=>by cases h)
 have e2:gs=[]:=by
  cases gs with
  |nil=>rfl
  |cons d ds=>exact absurd h2' (fun h=>by cases h)
 subst e1;subst e2
 refine⟨[],[],before,[],[],[],⟨p,q,h1,h2,h3,h4,h5⟩,?_,?_,?_,kept_of_fr h _,fun h=>by cases h⟩
 · rw [List.nil_append, hs, hr]
   exact Go.ChangeShapes.trodAll_mk1 ⟨1,by simp[DataW.trod,Value.cells,ht]⟩
 · rw [List.nil_append, hs, hp]
   rfl
 · rw [List.nil_append, hs, hv]
   rfl
theorem law0 {T:Tabs} {E:Env} (hE:EnvOK P E) (hX:ExtOK P E) (hN:NameOK E) (hmix:P.follows .mixedOrders=true) (hgl:E.glob=T.gl.get) {laid:List (String×DataW Unit)} (hl:allT (glB P laid) T.gl (fun k=>k)=true) {n f:Nat} (h:isTrue E n f=true)
  {W:World} (hL:laidMet P laid W):Calls P f #[] W fun e W'=>e=.returned (.bool true)∧Fr (fun _=>False) W W':=
 calls_true hE hX hN hmix h (V:=seen W) (fun _ _ _ h=>h) (glob_of hgl hl hL)
end
end Go.Eng


namespace Go.Eng
open Go
mutual
noncomputable def fits (P:Program):Ty→TypeId→Bool
 |.int k,T=>match P.underlying T with
  |some (.int k')=>ikb k k'
  |_=>false
 |.bool,T=>match P.underlying T with
  |some .bool=>true
  |_=>false
 |.str,T=>match P.underlying T with
  |some .string=>true
  |_=>false
 | .nil, T => match P.underlying T with
  |some (.struct fs)=>match fs.toList with
   |[]=>Nat.beq 0 (P.cellsOf T)
   |_=>false
  |_=>false
 | .cons a b, T => match P.underlying T with
  |some (.struct fs)=>match fs.toList with
   |f::fs=>Nat.beq f.offset 0&&fits P a f.type&&Nat.beq a.size (P.cellsOf f.type)&&fitsF P b a.size fs&&Nat.beq (a.size+b.size) (P.cellsOf T)
   |[]=>false
  |some (.array n e)=>match n with
   |n+1=>fits P a e&&Nat.beq a.size (P.cellsOf e)&&fitsA P b n e&&Nat.beq (a.size+b.size) (P.cellsOf T)
   |0=>false
  |_=>false
 |.sl t,T=>match P.underlying T with
  |some (.slice e)=>fits P t e&&Nat.beq t.size (P.cellsOf e)&&Nat.ble 1 t.size
  |_=>false
noncomputable def fitsF (P:Program):Ty→Nat→List Field→Bool
 |.nil,_,fs=>match fs with
  |[]=>true
  |_=>false
 |.cons a b,off,fs=>match fs with
  |f::fs=>Nat.beq f.offset off&&fits P a f.type&&Nat.beq a.size (P.cellsOf f.type)&&fitsF P b (off+a.size) fs
  |[]=>false
 |_,_,_=>false
noncomputable def fitsA (P:Program):Ty→Nat→TypeId→Bool
 |.nil,n,_=>Nat.beq n 0
 |.cons a b,n,e=>match n with
  |n+1=>fits P a e&&Nat.beq a.size (P.cellsOf e)&&fitsA P b n e
  |0=>false
 |_,_,_=>false
end
noncomputable def Ty.wf:(t:Ty)→t.den→Bool
 |.int k,n=>decide (k.min≤n)&&decide (n≤k.max)
 |.bool,_=>true
 |.str,_=>true
 |.nil,_=>true
 |.cons t ts,d=>t.wf d.1&&ts.wf d.2
 |.sl t,d=>d.2.all fun x=>t.wf x
section
variable {H:Type} {P:Program} {enc:TypeId×Value→H} {w:World} {base:Nat} {spare:Nat→Bool} {held:Bool}
theorem lies_ty {g:List Value→Option (DataW H×List MemPlace)} {t:Ty} (ih:∀ cs d p,g cs=some (d,p)→∃ x:t.den,VRs (seen w) (t.cells x) cs∧t.wf x=true) (a:Addr) (hs:a.spot=none) :
  ∀ (i:Nat) (xs:List (DataW H×List MemPlace)),(∀ j,j<xs.length→(w.cells? base (a.add ((i+j) * t.size)) t.size).bind g=xs[j]?)→∃ l:List t.den,l.length=xs.length∧Lies w a.block (a.off+i * t.size) (flat t l)∧(l.all fun x=>t.wf x)=true
 |i,[],h=>⟨[],rfl,fun i hi=>by simp[flat] at hi,rfl⟩
 |i,x::xs,h=>by
  have hx:=h 0 (by simp)
  rw[List.getElem?_cons_zero,Option.bind_eq_some_iff] at hx
  obtain⟨cs,hc,hx⟩:=hx
  obtain⟨d,e1,w1⟩:=ih _ x.1 x.2 hx
  obtain⟨l,hl,e2,w2⟩:=lies_ty ih a hs (i+1) xs (fun j hj=>by have:=h (j+1) (by simpa using hj);rw[show i+1+j=i+(j+1) by omega];simpa using this)
  obtain⟨c1,c2⟩:=cells?_get hc
  refine⟨d::l,by simp[hl],?_,by rw[List.all_cons,w1,w2];rfl⟩
  show Lies w a.block (a.off+i * t.size) (t.cells d++flat t l)
  refine Lies.append (Lies.of e1 fun j hj=>?_) ?_
  · rw [← c2 j (c1 ▸ hj), spot_add hs]
    rw[show a.off+i * t.size+j=a.off+((i+0) * t.size+j) by rw[Nat.add_zero];omega]
    rw[← spot_add hs,← spot_add2 hs,spot_add hs]
  · rw [Ty.cells_length, show a.off + i * t.size + t.size = a.off + (i + 1) * t.size by rw [Nat.add_mul, Nat.one_mul]; omega]
    exact e2
mutual
theorem trod_ty (hsp : ∀ b, spare b = true) : ∀ (t : Ty) (T : TypeId) (m : Nat) (cs : List Value) (d : DataW H) (p : List MemPlace), fits P t T = true → DataW.trod enc P w base spare held m T cs = some (d, p) → ∃ x : t.den, VRs (seen w) (t.cells x) cs ∧ t.wf x = true
 |.int k,T,m,cs,d,p,hf,h=>by
  simp only[fits] at hf
  split at hf
  · rename_i k' hu
    obtain⟨i,rfl,hx,hw⟩:=DataW.trod_int hu h
    have:=ikb_eq hf;subst this
    exact⟨i,.cons (.int _ _) (.nil _),hw⟩
  · cases hf
 |.bool,T,m,cs,d,p,hf,h=>by
  simp only[fits] at hf
  split at hf
  · rename_i hu
    obtain⟨b,rfl,hx⟩:=DataW.trod_bool hu h
    exact⟨b,.cons (.bool _) (.nil _),rfl⟩
  · cases hf
 |.str,T,m,cs,d,p,hf,h=>by
  simp only[fits] at hf
  split at hf
  · rename_i hu
    obtain⟨s,rfl,hx,_⟩:=DataW.trod_string hu h
    exact⟨_,.cons (.str _) (.nil _),rfl⟩
  · cases hf
 |.nil,T,m,cs,d,p,hf,h=>by
  simp only[fits] at hf
  split at hf
  · rename_i fs hu
    split at hf
    · have hc := Nat.eq_of_beq_eq_true hf
      obtain⟨xs,k,rfl,hx,hlen,_,h1⟩:=DataW.trod_struct hu h
      have:cs=[]:=List.eq_nil_of_length_eq_zero (by rw[hlen];omega)
      subst this
      exact⟨(),.nil _,rfl⟩
    · cases hf
  · cases hf
 |.cons a b,T,m,cs,d,p,hf,h=>by
  simp only[fits] at hf
  split at hf
  · rename_i fs hu
    split at hf
    · rename_i f fs' hfs
      simp only[Bool.and_eq_true] at hf
      obtain⟨⟨⟨⟨f1,f2⟩,f3⟩,f4⟩,f5⟩:=hf
      have f1:=Nat.eq_of_beq_eq_true f1
      have f3:=Nat.eq_of_beq_eq_true f3
      have f5:=Nat.eq_of_beq_eq_true f5
      obtain⟨xs,k,rfl,hx,hlen,hxl,h1⟩:=DataW.trod_struct hu h
      have hi0 := h1 0 f (by have : fs[0]? = some f := by rw [← Array.getElem?_toList, hfs]; rfl
                             exact this)
      cases xs with
      | nil =>
       exfalso
       have h0:fs.toList.length=0:=by
        have:=hxl
        simp at this
        simp[this]
       rw[hfs] at h0;simp at h0
      | cons y ys =>
       rw[List.getElem?_cons_zero] at hi0
       obtain⟨u,e1,w1⟩:=trod_ty hsp a _ _ _ y.1 y.2 f2 hi0
       have hl2:fs'.length=ys.length:=by
        have h0:fs.toList.length=fs'.length+1:=by rw[hfs];rfl
        have:=hxl
        simp at this h0
        omega
       obtain⟨v,e2,w2⟩:=trod_tyF hsp b k a.size fs' ys cs hl2 (fun i g hg=>by
        have:=h1 (i+1) g (by rw[← Array.getElem?_toList,hfs];simpa using hg)
        simpa using this) f4
       refine⟨(u,v),?_,by show (a.wf u&&b.wf v)=true;rw[w1,w2];rfl⟩
       show VRs (seen w) (a.cells u++b.cells v) cs
       rw[f1,← f3,List.drop_zero] at e1
       have:=e1.append e2
       rw[← List.take_add,f5,← hlen,List.take_length] at this
       exact this
    · cases hf
  · rename_i n0 e hu
    split at hf
    · rename_i n
      simp only[Bool.and_eq_true] at hf
      obtain⟨⟨⟨f1,f2⟩,f3⟩,f4⟩:=hf
      have f2:=Nat.eq_of_beq_eq_true f2
      have f4:=Nat.eq_of_beq_eq_true f4
      obtain⟨xs,k,rfl,hx,hlen,hxl,h1⟩:=DataW.trod_array hu h
      cases xs with
      |nil=>simp at hxl
      | cons y ys =>
       have hi0:=h1 0 (by omega)
       rw[List.getElem?_cons_zero,Nat.zero_mul,List.drop_zero] at hi0
       obtain⟨u,e1,w1⟩:=trod_ty hsp a _ _ _ y.1 y.2 f1 hi0
       obtain⟨v,e2,w2⟩:=trod_tyA hsp b k a.size n e ys cs (by simpa using hxl) (fun i hi=>by
        have:=h1 (i+1) (by omega)
        rw[List.getElem?_cons_succ] at this
        rw[f2,show P.cellsOf e+i * P.cellsOf e=(i+1) * P.cellsOf e by rw[Nat.add_mul,Nat.one_mul,Nat.add_comm]]
        exact this) f3
       refine⟨(u,v),?_,by show (a.wf u&&b.wf v)=true;rw[w1,w2];rfl⟩
       show VRs (seen w) (a.cells u++b.cells v) cs
       rw[← f2] at e1
       have:=e1.append e2
       rw[← List.take_add,f4,← hlen,List.take_length] at this
       exact this
    · cases hf
  · cases hf
 | .sl t, T, m, cs, d, p, hf, h => by
  simp only[fits] at hf
  split at hf
  · rename_i e hu
    simp only[Bool.and_eq_true] at hf
    obtain⟨⟨f1,f2⟩,f3⟩:=hf
    have f2:=Nat.eq_of_beq_eq_true f2
    have hz:=Nat.le_of_ble_eq_true f3
    rcases DataW.trod_slice hu h with ⟨rfl,hx⟩|⟨a,len,cap,els,rest,k,rfl,rfl,hx,hb,hlc,_,hlen,h1,h2,_⟩
    · exact⟨(true,[]),.cons (.vsn _) (.nil _),rfl⟩
    · obtain ⟨h2l, h2⟩ := h2 (hsp _)
      have hone:cap≠0→∃ x,((w.cells? base (a.add (0 * P.cellsOf e)) (P.cellsOf e)).bind (DataW.trod enc P w base spare held k e))=some x:=by
       intro hc0
       by_cases hl0:len=0
       · have := h2 0 (by omega)
         rw[List.getElem?_eq_getElem (by omega)] at this
         subst hl0
         exact⟨_,by simpa using this⟩
       · have := h1 0 (by omega)
         rw[List.getElem?_eq_getElem (by omega)] at this
         exact⟨_,this⟩
      have hs:cap=0∨a.spot=none:=by
       by_cases hc0:cap=0
       · exact .inl hc0
       · right
         obtain⟨x,hx⟩:=hone hc0
         rw[Option.bind_eq_some_iff] at hx
         obtain⟨cs',hc,_⟩:=hx
         obtain⟨c1,c2⟩:=cells?_get hc
         have:=c2 0 (by omega)
         rw[List.getElem?_eq_getElem (by omega)] at this
         have:=cell?_spot this
         simpa [Addr.add] using this
      have hL:∃ l:List t.den,l.length=len∧Lies w a.block a.off (flat t l)∧(l.all fun x=>t.wf x)=true:=by
       rcases hs with hc0|hs
       · exact⟨[],by simp;omega,fun i hi=>by simp[flat] at hi,rfl⟩
       · obtain ⟨l, g1, g2, g3⟩ := lies_ty (w := w) (base := base) (g := DataW.trod enc P w base spare held k e) (t := t) (fun cs d p h => trod_ty hsp t e k cs d p f1 h) a hs 0 els (fun j hj => by rw [Nat.zero_add, f2]; exact h1 j (by omega))
         exact⟨l,by rw[g1,hlen],by simpa using g2,g3⟩
      obtain⟨l,hll,hL,hwf⟩:=hL
      obtain⟨f,g1,g2⟩:=hL.choose
      subst hll
      refine⟨(false,l),.cons ?_ (.nil _),hwf⟩
      refine .vs t l a.block a.off cap a f g1 g2 hlc (hs.imp (fun x=>x) fun x=>?_)
      obtain⟨blk,off,spot⟩:=a
      simp only at x;subst x;rfl
  · cases hf
theorem trod_tyF (hsp:∀ b,spare b=true):∀ (t:Ty) (m off:Nat) (fs:List Field) (xs:List (DataW H×List MemPlace)) (cs:List Value),fs.length=xs.length→(∀ (i:Nat) (f:Field),fs[i]?=some f→DataW.trod enc P w base spare held m f.type ((cs.drop f.offset).take (P.cellsOf f.type))=xs[i]?)→fitsF P t off fs=true→∃ x:t.den,VRs (seen w) (t.cells x) ((cs.drop off).take t.size)∧t.wf x=true
 |.nil,m,off,fs,xs,cs,hn,h,hf=>⟨(),by show VRs _ [] (List.take 0 _);exact .nil _,rfl⟩
 |.cons a b,m,off,fs,xs,cs,hn,h,hf=>by
  simp only[fitsF] at hf
  split at hf
  · rename_i f fs
    simp only[Bool.and_eq_true] at hf
    obtain⟨⟨⟨f1,f2⟩,f3⟩,f4⟩:=hf
    have f1:=Nat.eq_of_beq_eq_true f1
    have f3:=Nat.eq_of_beq_eq_true f3
    have hi0:=h 0 f rfl
    cases xs with
    |nil=>
     exfalso
     simp at hn
    | cons y ys =>
     rw[List.getElem?_cons_zero] at hi0
     obtain⟨u,e1,w1⟩:=trod_ty hsp a _ _ _ y.1 y.2 f2 hi0
     obtain⟨v,e2,w2⟩:=trod_tyF hsp b m (off+a.size) fs ys cs (by simpa using hn) (fun i g hg=>by
      have:=h (i+1) g (by simpa using hg)
      simpa using this) f4
     refine⟨(u,v),?_,by show (a.wf u&&b.wf v)=true;rw[w1,w2];rfl⟩
     show VRs (seen w) (a.cells u++b.cells v) (List.take (a.size+b.size) (cs.drop off))
     rw[f1,← f3] at e1
     rw[List.take_add,List.drop_drop]
     exact e1.append e2
  · cases hf
 |.int _,m,off,fs,xs,cs,hn,h,hf=>by simp[fitsF] at hf
 |.bool,m,off,fs,xs,cs,hn,h,hf=>by simp[fitsF] at hf
 |.str,m,off,fs,xs,cs,hn,h,hf=>by simp[fitsF] at hf
 |.sl _,m,off,fs,xs,cs,hn,h,hf=>by simp[fitsF] at hf
theorem trod_tyA (hsp:∀ b,spare b=true):∀ (t:Ty) (m off n:Nat) (e:TypeId) (xs:List (DataW H×List MemPlace)) (cs:List Value),xs.length=n→(∀ i,i<n→DataW.trod enc P w base spare held m e ((cs.drop (off+i * P.cellsOf e)).take (P.cellsOf e))=xs[i]?)→fitsA P t n e=true→∃ x:t.den,VRs (seen w) (t.cells x) ((cs.drop off).take t.size)∧t.wf x=true
 |.nil,m,off,n,e,xs,cs,hn,h,hf=>⟨(),by show VRs _ [] (List.take 0 _);exact .nil _,rfl⟩
 |.cons a b,m,off,n,e,xs,cs,hn,h,hf=>by
  simp only[fitsA] at hf
  split at hf
  · rename_i n
    simp only[Bool.and_eq_true] at hf
    obtain⟨⟨f1,f2⟩,f3⟩:=hf
    have f2:=Nat.eq_of_beq_eq_true f2
    cases xs with
    |nil=>simp at hn
    | cons y ys =>
     have hi0:=h 0 (by omega)
     rw[List.getElem?_cons_zero,Nat.zero_mul,Nat.add_zero] at hi0
     obtain⟨u,e1,w1⟩:=trod_ty hsp a _ _ _ y.1 y.2 f1 hi0
     obtain⟨v,e2,w2⟩:=trod_tyA hsp b m (off+a.size) n e ys cs (by simpa using hn) (fun i hi=>by
      have:=h (i+1) (by omega)
      rw[List.getElem?_cons_succ] at this
      rw[f2,show off+P.cellsOf e+i * P.cellsOf e=off+(i+1) * P.cellsOf e by rw[Nat.add_mul,Nat.one_mul];omega]
      exact this) f3
     refine⟨(u,v),?_,by show (a.wf u&&b.wf v)=true;rw[w1,w2];rfl⟩
     show VRs (seen w) (a.cells u++b.cells v) (List.take (a.size+b.size) (cs.drop off))
     rw[← f2] at e1
     rw[List.take_add,List.drop_drop]
     exact e1.append e2
  · cases hf
 |.int _,m,off,n,e,xs,cs,hn,h,hf=>by simp[fitsA] at hf
 |.bool,m,off,n,e,xs,cs,hn,h,hf=>by simp[fitsA] at hf
 |.str,m,off,n,e,xs,cs,hn,h,hf=>by simp[fitsA] at hf
 |.sl _,m,off,n,e,xs,cs,hn,h,hf=>by simp[fitsA] at hf
end
end
end Go.Eng


namespace Go.Eng
open Go
attribute [local irreducible] upTo
noncomputable def stepF (E:Env) (call:CallF):CallF:=fun f args σ hs Λ=>Option.rec (motive:=fun _=>RF) (Option.rec (motive:=fun _=>RF) none (fun fn=>funcF E call hs args σ Λ fn) (E.fn f)) (fun v=>some (v,σ,Λ)) (E.ext f args)
theorem stepF_eq (E:Env) (call:CallF):stepF E call=bodyN E call:=by
 funext f args σ hs Λ
 unfold stepF bodyN
 cases E.ext f args with
 |some v=>rfl
 | none =>
  simp only
  cases E.fn f with
  |none=>rfl
  | some fn =>
   simp only[funcF]
   cases fn.body with
   |none=>rfl
   | some body =>
    simp only[bodyF]
    have e:=execF_eq (E:=E) (call:=call) body hs ⟨tmps0 fn.ntmps (.full (dep fn.ntmps)) 0 args,σ,[],Λ,args.length+(fn.ntmps-args.length),false⟩
    simp only at e
    rw[e]
    cases exec E call body hs ⟨tmps0 fn.ntmps (.full (dep fn.ntmps)) 0 args,σ,[],Λ,args.length+(fn.ntmps-args.length),false⟩ with
    |none=>rfl
    |some r=>
     obtain⟨e,st⟩:=r
     cases e with
     |exit i=>rfl
     |normal=>exact finF_eq _ _
     |ret=>exact finF_eq _ _
noncomputable def findF (L:List Ent) (f:Nat) (args:List AV) (σ:Hp):Option Ent:=
 List.rec (motive:=fun _=>Option Ent) none (fun e _ ih=>Bool.rec (motive:=fun _=>Option Ent) ih (Bool.rec (motive:=fun _=>Option Ent) ih (Bool.rec (motive:=fun _=>Option Ent) ih (Bool.rec (motive:=fun _=>Option Ent) ih (some e) (hasAll σ e.need)) (avbeqL e.args args)) (Nat.beq e.n0 σ.n)) (Nat.beq e.f f)) L
theorem findF_eq:∀ (L:List Ent) (f:Nat) (args:List AV) (σ:Hp),findF L f args σ=findE L f args σ
 |[],f,args,σ=>rfl
 |e::L,f,args,σ=>by
  have ih:=findF_eq L f args σ
  show @Bool.rec (fun _=>Option Ent) (findF L f args σ) (@Bool.rec (fun _=>Option Ent) (findF L f args σ) (@Bool.rec (fun _=>Option Ent) (findF L f args σ) (@Bool.rec (fun _=>Option Ent) (findF L f args σ) (some e) (hasAll σ e.need)) (avbeqL e.args args)) (Nat.beq e.n0 σ.n)) (Nat.beq e.f f)=_
  rw[ih]
  simp only[findE]
  cases Nat.beq e.f f<;>cases Nat.beq e.n0 σ.n<;>cases avbeqL e.args args<;>cases hasAll σ e.need<;>rfl
noncomputable def sayF (Λ:List LF) (e:Ent) (σ:Hp):RF:=some (e.v,⟨(putObs σ e.put).t,e.n1⟩,Λ)
noncomputable def callTF (E:Env) (L:List Ent) (n:Nat):CallF:=
 Nat.rec (motive:=fun _=>CallF) (fun _ _ _ _ _=>none) (fun _ ih f args σ hs Λ=>Option.rec (motive:=fun _=>RF) (stepF E ih f args σ hs Λ) (fun e=>sayF Λ e σ) (findF L f args σ)) n
theorem callTF_eq (E:Env) (L:List Ent):∀ n,callTF E L n=callT E L n
 |0=>rfl
 | n + 1 => by
  have ih:=callTF_eq E L n
  funext f args σ hs Λ
  show @Option.rec _ (fun _=>RF) (stepF E (callTF E L n) f args σ hs Λ) (fun e=>sayF Λ e σ) (findF L f args σ)=_
  have e:callT E L (n+1) f args σ hs Λ=match findE L f args σ with
   |some e=>some (e.v,⟨(putObs σ e.put).t,e.n1⟩,Λ)
   |none=>bodyN E (callT E L n) f args σ hs Λ:=rfl
  rw[ih,stepF_eq,findF_eq,e]
  cases findE L f args σ<;>rfl
noncomputable def hasKey (i:Nat) (l:Obs):Bool:=List.rec (motive:=fun _=>Bool) false (fun x _ ih=>Bool.rec (motive:=fun _=>Bool) ih true (Nat.beq x.1 i)) l
noncomputable def keepAll (σ:Hp) (put:Obs):Obs→Bool
 |[]=>true
 | (i, o) :: l => match hasKey i put with
  |true=>keepAll σ put l
  | false => match σ.get i with
   |some o'=>match aobeq o o' with
    |true=>keepAll σ put l
    |false=>false
   |none=>false
theorem hasKey_spec {i:Nat}:∀ {l:Obs},hasKey i l=true→∃ o,(i,o)∈l
 |[],h=>by cases h
 | (j, o) :: l, h => by
  have h':@Bool.rec (fun _=>Bool) (hasKey i l) true (Nat.beq j i)=true:=h
  cases e:Nat.beq j i with
  |true=>have:=Nat.eq_of_beq_eq_true e;subst this;exact⟨o,List.mem_cons_self⟩
  |false=>
   rw[e] at h'
   obtain⟨o',h2⟩:=hasKey_spec (l:=l) h'
   exact⟨o',List.mem_cons_of_mem _ h2⟩
theorem keepAll_spec {σ : Hp} {put : Obs} : ∀ {l : Obs}, keepAll σ put l = true → ∀ i o, (i, o) ∈ l → (∃ o', (i, o') ∈ put) ∨ σ.get i = some o
 |[],_,i,o,hm=>by cases hm
 | (j, o') :: l, h, i, o, hm => by
  simp only[keepAll] at h
  split at h
  · rename_i e
    rcases List.mem_cons.1 hm with e'|hm
    · simp only [Prod.mk.injEq] at e'; obtain ⟨rfl, rfl⟩ := e'
      exact .inl (hasKey_spec e)
    · exact keepAll_spec h i o hm
  · split at h
    · rename_i o2 hg
      split at h
      · rename_i e
        rcases List.mem_cons.1 hm with e'|hm
        · simp only [Prod.mk.injEq] at e'; obtain ⟨rfl, rfl⟩ := e'
          exact .inr (by rw[hg,aobeq_eq e])
        · exact keepAll_spec h i o hm
      · cases h
    · cases h
noncomputable def ansE (e:Ent) (r:RF):Bool:=
 match r with
 |some (w,σ,[])=>match avbeq w e.v,hasAll σ e.put,keepAll σ e.put e.need with
  |true,true,true=>Nat.ble σ.n e.n1
  |_,_,_=>false
 |_=>false
noncomputable def entF (E:Env) (L:List Ent) (n:Nat) (e:Ent):Bool:=ansE e (callTF E L n e.f e.args e.pre [] [])
section
variable {P:Program} {E:Env}
theorem ent_of (hE:EnvOK P E) (hX:ExtOK P E) (hN:NameOK E) (hmix:P.follows .mixedOrders=true) {L:List Ent} (hL:∀ e∈L,EntOK P E e) {n:Nat} {e:Ent} (h:entF E L n e=true):EntOK P E e:=by
 unfold entF at h
 rw[callTF_eq] at h
 unfold ansE at h
 split at h
 · rename_i w σ hc
   split at h
   · rename_i h1 h2 h3
     have:=avbeq_eq _ _ h1;subst this
     exact EntOK.of (callT_ok hE hX hN hmix hL n) hc (hasAll_spec h2) (keepAll_spec h3) (Nat.le_of_ble_eq_true h)
   · cases h
 · cases h
noncomputable def isTrueT (E:Env) (L:List Ent) (n f:Nat):Bool:=
 match E.ext f [],stepF E (callTF E L n) f [] .empty [] [] with
 |none,some (.bool true,_,[])=>true
 |_,_=>false
theorem calls_trueT (hE:EnvOK P E) (hX:ExtOK P E) (hN:NameOK E) (hmix:P.follows .mixedOrders=true) {L:List Ent} (hL:∀ e∈L,EntOK P E e) {n f:Nat} (h:isTrueT E L n f=true) {V:View} {W:World} (hK:∀ b o x,V.K b o=some x→W.cell? ⟨b,o,none⟩=some x) (hg:GlobK E V) :
  Calls P f #[] W fun e W'=>e=.returned (.bool true)∧Fr (fun _=>False) W W':=by
 unfold isTrueT at h
 rw[stepF_eq,callTF_eq] at h
 split at h
 · rename_i σ h1 h2
   refine (calls_of hE hN hmix (callT_ok hE hX hN hmix hL n) h1 h2 (.nil V) rfl hK hg).mono fun e W' ⟨V',R,he,hv,hf⟩=>?_
   cases hv
   exact⟨he,hf⟩
 · cases h
theorem ents_nil:∀ e∈([]:List Ent),EntOK P E e:=fun e he=>by cases he
theorem ents_cons {e:Ent} {L:List Ent} (h:EntOK P E e) (hL:∀ e∈L,EntOK P E e):∀ e'∈e::L,EntOK P E e':=fun e' he=>by
 rcases List.mem_cons.1 he with rfl|he
 · exact h
 · exact hL e' he
end
end Go.Eng


namespace Go.Eng
open Go
section
variable {P:Program}
theorem law0T {T:Tabs} {E:Env} (hE:EnvOK P E) (hX:ExtOK P E) (hN:NameOK E) (hmix:P.follows .mixedOrders=true) (hgl:E.glob=T.gl.get) {laid:List (String×DataW Unit)} (hl:allT (glB P laid) T.gl (fun k=>k)=true) {n f:Nat} {C:List Ent} (hC:∀ e∈C,EntOK P E e) (h:isTrueT E C n f=true)
  {W:World} (hL:laidMet P laid W):Calls P f #[] W fun e W'=>e=.returned (.bool true)∧Fr (fun _=>False) W W':=
 calls_trueT hE hX hN hmix hC h (V:=seen W) (fun _ _ _ h=>h) (glob_of hgl hl hL)
end
end Go.Eng


namespace Go.Eng
open Go
section
variable {H:Type} {P:Program} {enc:TypeId×Value→H}
theorem below_of_fr {W W':World} (h:Fr (fun _=>False) W W'):RowKit.Below W.heap.size W W':=⟨h.os,h.tape,h.output,h.size,fun b hb=>h.block b hb (fun x=>x)⟩
theorem trodAll_stays (hl:laidOutB P=true) {W W':World} (hb:RowKit.Below W.heap.size W W'):∀ {ts:List TypeId} {vs:List Value} {ds:List (DataW H)} {ps:List MemPlace},ts.all (fun t=>P.readableRec t&&decide (t<P.types.size))=true →
  DataW.TrodAll enc P W 0 (fun _=>true) true ts vs ds ps→(∀ x∈ps,x.block<W.heap.size)→DataW.TrodAll enc P W' 0 (fun b=>decide (b<W.heap.size)) true ts vs ds ps
 |[],vs,ds,ps,_,h,_=>by
  obtain⟨rfl,rfl,rfl⟩:=ChangeShapes.trodAll_nil h
  exact rfl
 | t :: ts, vs, ds, ps, ht, h, hlt => by
  cases vs with
  |nil=>exact absurd h (fun h=>by cases ds<;>exact h)
  | cons v vs =>
   cases ds with
   |nil=>exact absurd h (fun h=>h)
   |cons d ds=>
    obtain⟨p,q,h1,h2,rfl⟩:=h
    simp only[List.all_cons,Bool.and_eq_true,decide_eq_true_eq] at ht
    exact⟨p,q,RowKit.Below.trod hl ht.1.1 ht.1.2 h1 hb (fun x hx=>hlt x (List.mem_append_left _ hx)),trodAll_stays hl hb ht.2 h2 (fun x hx=>hlt x (List.mem_append_right _ hx)),rfl⟩
theorem post_law {f:Func} {s:ChangeSpec} {W W':World} {t:TypeId} {args:Array Value} (hl:laidOutB P=true) (hp:f.params.toList.all (fun t=>P.readableRec t&&decide (t<P.types.size))=true) (hr:f.resultTypes=#[t]) (ht:P.underlying t=some .bool) (hv:s.vars=[])
  {ds gs:List (DataW H)} {before:List MemPlace} (hs:s.fn H ds={ results:=[.lit (.bool true)],args:=ds }) (hW:DataW.Whole enc P f.params.toList s.vars false W args.toList ds gs before) (h:Fr (fun _=>False) W W') :
  s.post enc P f false true false false W args (.bool true) W':=by
 have hlt:=fun p hp=>hW.lt p hp
 obtain⟨p,q,h1,h2,h3,h4,h5⟩:=hW
 have h2':=h2
 rw[hv] at h2'
 obtain⟨e2,e3⟩:=ChangeShapes.trodVars_none h2'
 subst e2;subst e3
 rw[List.append_nil] at h3
 subst h3
 refine⟨ds,[],before,[],before,[],⟨before,[],h1,h2,by simp,h4,h5⟩,?_,?_,?_,kept_of_fr h _,fun h=>by cases h⟩
 · rw [List.append_nil, hs, hr]
   exact Go.ChangeShapes.trodAll_mk1 ⟨1,by simp[DataW.trod,Value.cells,ht]⟩
 · rw [List.append_nil, hs]
   exact trodAll_stays hl (below_of_fr h) hp h1 hlt
 · rw [List.append_nil, hs, hv]
   rfl
theorem arg_ty {t:Ty} {T:TypeId} {W:World} {base:Nat} {v:Value} {d:DataW H} {p:List MemPlace} (hok:Value.okWide P W .any base T v) (hf:fits P t T=true) (h:DataW.Trod enc P W 0 (fun _=>true) true T v d p):∃ x:t.den,VR (seen W) (t.av x) v∧t.wf x=true:=by
 obtain⟨fuel,h⟩:=h
 obtain⟨x,hx,hwf⟩:=trod_ty (fun _=>rfl) t T fuel _ d p hf h
 refine⟨x,?_,hwf⟩
 have one:∀ {a:AV},v.cells.toList=[v]→VRs (seen W) [a] v.cells.toList→VR (seen W) a v:=by
  intro a e h
  rw[e] at h
  obtain⟨X,Xs,e,hX,_⟩:=h.cons_inv
  simp only[List.cons.injEq] at e
  rw[e.1];exact hX
 have row:(∃ fs,P.underlying T=some (.struct fs))→VR (seen W) (.agg (t.cells x)) v:=by
  rintro ⟨fs,hu⟩
  obtain⟨cs,rfl,_⟩:=WideShapes.okWide_struct hu hok
  exact .agg _ _ hx.1 hx.2
 have rowA:(∃ n e,P.underlying T=some (.array n e))→VR (seen W) (.agg (t.cells x)) v:=by
  rintro ⟨n,e,hu⟩
  simp only[Value.okWide,hu] at hok
  obtain⟨cs,rfl,_⟩:=hok
  exact .agg _ _ hx.1 hx.2
 cases t with
 |int k=>
  simp only[fits] at hf
  split at hf
  · rename_i k' hu
    obtain⟨n,rfl⟩:=WideShapes.okWide_int hu hok
    exact one rfl hx
  · cases hf
 |bool=>
  simp only[fits] at hf
  split at hf
  · rename_i hu
    obtain⟨n,rfl⟩:=WideShapes.okWide_bool hu hok
    exact one rfl hx
  · cases hf
 |str=>
  simp only[fits] at hf
  split at hf
  · rename_i hu
    obtain⟨n,rfl⟩:=WideShapes.okWide_string hu hok
    exact one rfl hx
  · cases hf
 |nil=>
  simp only[fits] at hf
  split at hf
  · rename_i fs hu;exact row ⟨fs,hu⟩
  · cases hf
 |cons a b=>
  simp only[fits] at hf
  split at hf
  · rename_i fs hu;exact row ⟨fs,hu⟩
  · rename_i n e hu;exact rowA ⟨n,e,hu⟩
  · cases hf
 |sl t=>
  simp only[fits] at hf
  split at hf
  · rename_i e hu
    obtain⟨a,len,cap,rfl⟩:=WideShapes.okWide_slice hu hok
    exact one rfl hx
  · cases hf
variable {E:Env}
theorem law_run (hE:EnvOK P E) (hX:ExtOK P E) (hN:NameOK E) (hmix:P.follows .mixedOrders=true) {f n:Nat} {args:List AV} {σ:Hp} (hext:E.ext f args=none) (h:callN E (n+1) f args .empty [] []=some (.bool true,σ,[]))
  {V:View} {A:List Value} {W:World} (ha:VRs V args A) (hcl:args.all (closedA 9)=true) (hK:∀ b o x,V.K b o=some x→W.cell? ⟨b,o,none⟩=some x) (hg:GlobK E V) :
  Calls P f A.toArray W fun e W'=>e=.returned (.bool true)∧Fr (fun _=>False) W W':=by
 have hc:=engine_ok hE hX hN hmix n
 refine (calls_of hE hN hmix hc hext (show bodyN E (callN E n) f args .empty [] []=some (.bool true,σ,[]) from h) ha hcl hK hg).mono fun e W' ⟨V',R,he,hv,hf⟩=>?_
 cases hv
 exact⟨he,hf⟩
def XG (P:Program) (E:Env) (f:Nat) (args:List AV) (v:AV):Prop:=
 ∀ V A W,VRs V args A→(∀ b o x,V.K b o=some x→W.cell? ⟨b,o,none⟩=some x)→GlobK E V→∃ R W',VR V v R∧Fr (fun _=>False) W W'∧Goes P f A.toArray W R W'
theorem XG.part {call:CallF} (hc:CallOK P E call) {f:Nat} {args:List AV} {v:AV} {σ:Hp} (h:call f args .empty [] []=some (v,σ,[])) (hcl:args.all (closedA 9)=true) (hv:plainA 9 v=true):XG P E f args v:=by
 intro V A W ha hK hg
 obtain⟨V1,O',W',R,hP,hr,_,_,_,hv',hgo⟩:=hc f args .empty [] [] v σ [] h W.heap.size invT (alone V) A (fun _=>False) W invT_ok (fun lvl h e=>by cases e) (HR.alone hK hg _) (Nat.le_refl _) (closedA_list hcl ha) (fun _ h=>h) (fun _ _ h=>h) (fun i x hx=>by simp[Eng.alone] at hx)
 exact⟨R,W',plainA_spec 9 _ hv hv',hP.fr.weaken (fun b _ hb=>hb.elim (no_own b) (fun h=>h)),hgo⟩
theorem XG.closedT (hE:EnvOK P E) (hX:ExtOK P E) (hN:NameOK E) (hmix:P.follows .mixedOrders=true) {L:List Ent} (hL:∀ e∈L,EntOK P E e) {n f:Nat} (h:isTrueT E L n f=true):XG P E f [] (.bool true):=by
 unfold isTrueT at h
 rw[stepF_eq,callTF_eq] at h
 split at h
 · rename_i σ h1 h2
   have hb:CallOK P E (bodyN E (callT E L n)):=body_ok hE hX hN (callT_ok hE hX hN hmix hL n) (code_ok hE hmix _ (callT_ok hE hX hN hmix hL n))
   exact XG.part hb h2 rfl rfl
 · cases h
end
end Go.Eng


namespace Go.Eng
open Go
abbrev Said:=Nat×(List AV→Option (Bool×AV))
noncomputable def xOf:List Said→Nat→List AV→Option (Bool×AV)
 |[],_,_=>none
 |e::L,f,args=>match Nat.beq f e.1 with
  |true=>e.2 args
  |false=>xOf L f args
section
variable {P:Program} {E:Env}
def SaidOK (E:Env) (e:Said):Prop:=∀ args v,e.2 args=some (true,v)→∃ args',TellsL args args'∧args'.all (closedA 9)=true∧AnsF E e.1 args' v
def SaidG (P:Program) (gl:Nat→Option (List AV)) (e:Said):Prop:=
 ∀ args v,e.2 args=some (true,v)→∀ V A W,VRs V args A→(∀ b o x,V.K b o=some x→W.cell? ⟨b,o,none⟩=some x) →
  (∀ g l,gl g=some l→∃ z:Nat→Value,∀ i (h:i<l.length),V.K g i=some (z i)∧VR V.bare l[i] (z i)) →
  ∃ R W' V',KG V V' W W'∧VR V' v R∧Fr (fun _=>False) W W'∧Goes P e.1 A.toArray W R W'
theorem SaidOK.g (hE:EnvOK P E) (hX:ExtOK P E) (hN:NameOK E) (hmix:P.follows .mixedOrders=true) {e:Said} (h:SaidOK E e) {gl:Nat→Option (List AV)} (hg:E.glob=gl):SaidG P gl e:=by
 subst hg
 intro args v hv V A W ha hK hgl
 obtain⟨args',h1,h2,n,v0,σ,v1,h3,h4,h5⟩:=h args v hv
 obtain⟨R,W',V',k1,k2,k3,k4⟩:=closed_callH (engine_ok hE hX hN hmix) h3 h4 (h1 V A ha) h2 hK hgl
 exact⟨R,W',V',k1,h5 _ _ k2,k3,k4⟩
noncomputable def say0 (v:AV) (args:List AV):Option (Bool×AV):=match args with
 |[]=>some (true,v)
 |_=>none
theorem XG.g {f:Nat} {v:AV} (h:XG P E f [] v) {gl:Nat→Option (List AV)} (hg:E.glob=gl):SaidG P gl (f,say0 v):=by
 subst hg
 intro args w hv V A W ha hK hgl
 simp only[say0] at hv
 split at hv
 · simp only [Option.some.injEq, Prod.mk.injEq] at hv
   obtain⟨_,rfl⟩:=hv
   obtain⟨R,W',h1,h2,h3⟩:=h V A W ha hK hgl
   exact⟨R,W',V,.refl _ _ _,h1,h2,h3⟩
 · cases hv
theorem saids_nil {gl:Nat→Option (List AV)}:∀ e∈([]:List Said),SaidG P gl e:=fun _ h=>by cases h
theorem saids_cons {gl:Nat→Option (List AV)} {x:Said} {L:List Said} (h:SaidG P gl x) (k:∀ e∈L,SaidG P gl e):∀ e∈x::L,SaidG P gl e:=fun e he=>by
 rcases List.mem_cons.1 he with rfl|he
 · exact h
 · exact k e he
theorem xOf_some {L:List Said} {f:Nat} {args:List AV} {r:Bool×AV} (h:xOf L f args=some r):∃ e∈L,e.1=f∧e.2 args=some r:=by
 induction L with
 |nil=>cases h
 |cons x L ih=>
  simp only[xOf] at h
  split at h
  · rename_i e;exact⟨x,List.mem_cons_self,(Nat.eq_of_beq_eq_true e).symm,h⟩
  · obtain⟨e,h1,h2⟩:=ih h;exact⟨e,List.mem_cons_of_mem _ h1,h2⟩
theorem ExtOK.sayL (hX:ExtOK P E) {L:List Said} (h:∀ e∈L,SaidG P E.glob e):ExtOK P (E.say (under (xOf L))):=by
 intro f args v hv V A W ha hK hg
 simp only[Env.say] at hv
 split at hv
 · rename_i w hw
   simp only[Option.some.injEq] at hv;subst hv
   rw[under_iff] at hw
   obtain⟨e,h1,rfl,h3⟩:=xOf_some hw
   exact h e h1 args _ h3 V A W ha hK hg
 · exact hX f args v hv V A W ha hK hg
noncomputable def Sy.on (S:Sy) (L:List Said) (hd:List Nat):Sy:=⟨fun f args=>match xOf L f args with
 |some r=>some r
 |none=>S.x f args,fun f=>hd.any (Nat.beq f),true,[],false⟩
theorem Sy.on_ok {S:Sy} {L:List Said} {hd:List Nat} (hS:S.ok E):(S.on L hd).ok (E.say (under (xOf L))):=fun f args v h=>by
 show (match under (xOf L) f args with|some v=>some v|none=>E.ext f args)=some v
 have h0:(match xOf L f args with|some r=>some r|none=>S.x f args)=some (true,v):=h
 cases e:xOf L f args with
 |some r=>
  rw[e] at h0
  have h':under (xOf L) f args=some v:=under_iff.2 (by rw[e];exact h0)
  rw[h']
 |none=>
  rw[e] at h0
  have h':under (xOf L) f args=none:=by unfold under;rw[e]
  rw[h']
  exact hS f args v h0
end
noncomputable def Sy.flat (S:Sy) (l:List Nat):Sy:={ S with fl:=l }
noncomputable def Sy.vars (S:Sy):Sy:={ S with vr:=true }
theorem Sy.vars_ok {E:Env} {S:Sy} (h:S.ok E):S.vars.ok E:=h
theorem ext_none {E:Env} {f:Nat} {args:List AV} (h:(E.ext f args).isNone=true):E.ext f args=none:=by
 cases e:E.ext f args with
 |none=>rfl
 |some v=>rw[e] at h;cases h
def AnsB (E:Env) (c:Cfg) (b:Bool):Prop:=∃ σ,den E c=some (.bool b,σ,[])
section
variable {E:Env} {S:Sy} (hS:S.ok E) (hsy:E.sy=true)
include hS hsy
theorem AnsB.stop {n:Nat} {c c':Cfg} {b:Bool} (h:adv E S n c=some (.stop c')) (k:AnsB E c' b):AnsB E c b:=by
 obtain⟨σ,k⟩:=k
 exact⟨σ,adv_spec hS hsy h _ k⟩
theorem AnsB.doneB {n:Nat} {c:Cfg} {b b':Bool} (h:adv E S n c=some (.done (.bool b))) (e:b=b'):AnsB E c b':=by
 obtain⟨v0,σ,h1,h2⟩:=adv_spec hS hsy h
 have:=frzV_boolI h2
 subst this;subst e
 exact⟨σ,h1⟩
end
theorem AnsB.call {E:Env} {f m:Nat} {args:List AV} {b:Bool} (hx:E.ext f args=none) (hf:∃ fn b,E.fn f=some fn∧fn.body=some b) (h:AnsB E (startC E f args m) b):∃ σ,callN E (m+1) f args .empty [] []=some (.bool b,σ,[]):=by
 obtain⟨σ,h⟩:=h
 exact⟨σ,startC_spec hx hf h⟩
end Go.Eng


set_option maxRecDepth 100000
namespace Go.Proofs.YtgaoajmlckgdaaaGreatDoor
open Go Go.Eng
noncomputable def coloI0 (m:tMark.den) (d:Int) (x7:Int) (x11:Int) (x29:Nat):Cfg:=⟨.ex (pcOf E2 78 [0,0,1,0,1,1]) ⟨(tmOf 23 [(0,(.agg [(.str (m.1)),(.int .i64 (m.2.1.1)),(.int .i64 (m.2.1.2.1)),(.vs tP (m.2.2.1.1) (m.2.2.1.2))])),(1,(.int .i64 (d))),(2,(.ptr 0 0)),(4,(.int .i64 (0))),(5,(.int .i64 x7)),(8,(.ptr 0 3)),(9,(.vs tP (m.2.2.1.1) (m.2.2.1.2))),(10,(.int .i64 (Int.ofNat m.2.2.1.2.length))),(11,(.int .i64 x11))]),(hpOf 1 [(0,(.cells false [(.str (m.1)),(.int .i64 (m.2.1.1)),(.int .i64 (m.2.1.2.1)),(.vs tP (m.2.2.1.1) (m.2.2.1.2))]))]),[],[],23,false⟩,⟨6,[]⟩,[(.lop (pcOf E2 78 [0,0,1,0,1,1]) 1 (tmOf 23 [(0,(.agg [(.str (m.1)),(.int .i64 (m.2.1.1)),(.int .i64 (m.2.1.2.1)),(.vs tP (m.2.2.1.1) (m.2.2.1.2))])),(1,(.int .i64 (d))),(2,(.ptr 0 0)),(4,(.int .i64 (0))),(5,(.int .i64 (0))),(8,(.ptr 0 3)),(9,(.vs tP (m.2.2.1.1) (m.2.2.1.2))),(10,(.int .i64 (Int.ofNat m.2.2.1.2.length))),(11,(.int .i64 (0)))]) x29),(.blk 0),(.seq (pcOf E2 78 [1,1,1])),(.cal [(.tmp 4)] .top)]⟩
theorem colo_start (m:tMark.den) (d:Int):adv E2 (S2 [78]) 3000 (startC E2 78 [tMark.av m,.int .i64 d] 6)=some (.stop (coloI0 m d (0) (0) (1048575))):=by kernel_rfl
theorem colo_step0 (m:tMark.den) (d:Int) (x7:Int) (x11:Int) (x29:Nat):adv E2 (S2 [78]) 3000 (coloI0 m d x7 x11 (x29+1))=(bif !ile (Int.ofNat m.2.2.1.2.length) x11 then (bif inB x11 m.2.2.1.2.length then (bif ile (m.2.2.1.2.getD x11.toNat tP.dflt).1 d then some (.stop (coloI0 m d ((m.2.2.1.2.getD x11.toNat tP.dflt).2.1) (wr .i64 (x11+1)) (x29))) else some (.stop (coloI0 m d (x7) (wr .i64 (x11+1)) (x29)))) else none) else some (.done (.int .i64 (x7)))):=by kernel_rfl
noncomputable def painI0 (m:tMark.den) (d:Int) (x7:Int) (x8:Int) (x23:Nat):Cfg:=⟨.ex (pcOf E2 80 [0,0,1,0,1,1]) ⟨(tmOf 29 [(0,(.agg [(.str (m.1)),(.int .i64 (m.2.1.1)),(.int .i64 (m.2.1.2.1)),(.vs tP (m.2.2.1.1) (m.2.2.1.2))])),(1,(.int .i64 (d))),(2,(.ptr 0 0)),(4,(.int .i64 (0))),(5,(.int .i64 x7)),(6,(.int .i64 x8))]),(hpOf 1 [(0,(.cells false [(.str (m.1)),(.int .i64 (m.2.1.1)),(.int .i64 (m.2.1.2.1)),(.vs tP (m.2.2.1.1) (m.2.2.1.2))]))]),[],[],29,false⟩,⟨6,[]⟩,[(.lop (pcOf E2 80 [0,0,1,0,1,1]) 1 (tmOf 29 [(0,(.agg [(.str (m.1)),(.int .i64 (m.2.1.1)),(.int .i64 (m.2.1.2.1)),(.vs tP (m.2.2.1.1) (m.2.2.1.2))])),(1,(.int .i64 (d))),(2,(.ptr 0 0)),(4,(.int .i64 (0))),(5,(.int .i64 (0))),(6,(.int .i64 (0)))]) x23),(.blk 0),(.seq (pcOf E2 80 [1,1,1])),(.cal [(.tmp 4)] .top)]⟩
theorem pain_start (m:tMark.den) (d:Int):adv E2 (S2 [80]) 3000 (startC E2 80 [tMark.av m,.int .i64 d] 6)=some (.stop (painI0 m d (0) (0) (1048575))):=by kernel_rfl
theorem pain_step0 (m:tMark.den) (d:Int) (x7:Int) (x8:Int) (x23:Nat):adv E2 (S2 [80]) 3000 (painI0 m d x7 x8 (x23+1))=(bif !ile (↑m.2.2.1.2.length) x8 then (bif inB x8 m.2.2.1.2.length then (bif ile (m.2.2.1.2.getD x8.toNat tP.dflt).1 d then (bif inB x8 m.2.2.1.2.length then some (.stop (painI0 m d ((m.2.2.1.2.getD x8.toNat tP.dflt).2.1) (wr .i64 (x8+1)) (x23))) else none) else some (.stop (painI0 m d (x7) (wr .i64 (x8+1)) (x23)))) else none) else some (.done (.int .i64 (x7)))):=by kernel_rfl
noncomputable def colF (d:Int):Int→List tP.den→Int
 |x,[]=>x
 |x,p::l=>colF d (bif ile p.1 d then p.2.1 else x) l
theorem colo_ans (c:tMark.den) (d:Int) (hl:c.2.2.1.2.length<1048576):∀ (r k m:Nat) (x:Int),k+r=c.2.2.1.2.length→r<m→Ans E2 (coloI0 c d x k m) (.int .i64 (colF d x (c.2.2.1.2.drop k)))
 |0,k,m+1,x,hk,hm=>by
  have h:=colo_step0 c d x k m
  simp only[Int.ofNat_eq_natCast,ile_ge (show c.2.2.1.2.length≤k by omega),Bool.not_true,cond_false] at h
  rw[List.drop_eq_nil_of_le (by omega)]
  exact .doneI (S2_ok _) E2sy h rfl
 | r + 1, k, m + 1, x, hk, hm => by
  have h:=colo_step0 c d x k m
  have hlt:k<c.2.2.1.2.length:=by omega
  simp only[Int.ofNat_eq_natCast,ile_lt hlt,inB_at hlt,getD_at hlt,wr_succ (show k<1048577 by omega),Bool.not_false,cond_true] at h
  rw[List.drop_eq_getElem_cons hlt,colF]
  cases e:ile (c.2.2.1.2[k]).1 d with
  |true=>
   simp only[e,cond_true] at h⊢
   exact .stop (S2_ok _) E2sy h (colo_ans c d hl r (k+1) m _ (by omega) (by omega))
  |false=>
   simp only[e,cond_false] at h⊢
   exact .stop (S2_ok _) E2sy h (colo_ans c d hl r (k+1) m _ (by omega) (by omega))
theorem colo_call (c:tMark.den) (d:Int) (hl:c.2.2.1.2.length<1048575):AnsF E2 78 [tMark.av c,.int .i64 d] (.int .i64 (colF d 0 c.2.2.1.2)):=
 Ans.call (n:=6) (ext_none (by kernel_rfl)) (hasB_spec (by kernel_rfl)) (.stop (S2_ok _) E2sy (colo_start c d) (colo_ans c d (by omega) c.2.2.1.2.length 0 1048575 0 (by omega) (by omega)))
theorem pain_ans (c:tMark.den) (d:Int) (hl:c.2.2.1.2.length<1048576):∀ (r k m:Nat) (x:Int),k+r=c.2.2.1.2.length→r<m→Ans E2 (painI0 c d x k m) (.int .i64 (colF d x (c.2.2.1.2.drop k)))
 |0,k,m+1,x,hk,hm=>by
  have h:=pain_step0 c d x k m
  simp only[Int.ofNat_eq_natCast,ile_ge (show c.2.2.1.2.length≤k by omega),Bool.not_true,cond_false] at h
  rw[List.drop_eq_nil_of_le (by omega)]
  exact .doneI (S2_ok _) E2sy h rfl
 | r + 1, k, m + 1, x, hk, hm => by
  have h:=pain_step0 c d x k m
  have hlt:k<c.2.2.1.2.length:=by omega
  simp only[Int.ofNat_eq_natCast,ile_lt hlt,inB_at hlt,getD_at hlt,wr_succ (show k<1048577 by omega),Bool.not_false,cond_true] at h
  rw[List.drop_eq_getElem_cons hlt,colF]
  cases e:ile (c.2.2.1.2[k]).1 d with
  |true=>
   simp only[e,cond_true] at h⊢
   exact .stop (S2_ok _) E2sy h (pain_ans c d hl r (k+1) m _ (by omega) (by omega))
  |false=>
   simp only[e,cond_false] at h⊢
   exact .stop (S2_ok _) E2sy h (pain_ans c d hl r (k+1) m _ (by omega) (by omega))
theorem pain_call (c:tMark.den) (d:Int) (hl:c.2.2.1.2.length<1048575):AnsF E2 80 [tMark.av c,.int .i64 d] (.int .i64 (colF d 0 c.2.2.1.2)):=
 Ans.call (n:=6) (ext_none (by kernel_rfl)) (hasB_spec (by kernel_rfl)) (.stop (S2_ok _) E2sy (pain_start c d) (pain_ans c d (by omega) c.2.2.1.2.length 0 1048575 0 (by omega) (by omega)))
noncomputable def vecB (p:Int):AV:=.agg [.int .i64 (vx p),.int .i64 (vy p)]
noncomputable def chkB (f p:Nat):Bool:=match adv E2 (S2 []) 3000 (startC E2 f [.int .i64 (Int.ofNat p)] 40) with
 |some (.done v)=>avbeq v (vecB (Int.ofNat p))
 |_=>false
theorem vin59:(List.range 32).all (chkB 59)=true:=by kernel_rfl
theorem vin61:(List.range 32).all (chkB 61)=true:=by kernel_rfl
theorem vecB_of {f:Nat} (hxa:∀ p:Int,(E2.ext f [.int .i64 p]).isNone=true) (hb:hasB E2 f=true) (hin:(List.range 32).all (chkB f)=true) (p:Int) (e:inV p=true):AnsF E2 f [.int .i64 p] (vecB p):=by
 refine Ans.call (n:=40) (ext_none (hxa p)) (hasB_spec hb) ?_
 have hp:0≤p∧p≤31:=by
  simp only[inV,Bool.and_eq_true,ile_iff,decide_eq_true_eq] at e;exact e
 obtain⟨k,rfl⟩:=Int.eq_ofNat_of_zero_le hp.1
 have hk:k<32:=by omega
 have h:=List.all_eq_true.1 hin k (List.mem_range.2 hk)
 unfold chkB at h
 split at h
 · rename_i v ha
   have:=avbeq_eq _ _ h
   subst this
   exact .done (S2_ok _) E2sy ha rfl
 · cases h
noncomputable def LA:List Said:=[(59,con1 tI inV vecB),(61,con1 tI inV vecB),(78,con2 tMark tI (fun m _=>Nat.ble m.2.2.1.2.length 1000) (fun m d=>.int .i64 (colF d 0 m.2.2.1.2))),
 (80,con2 tMark tI (fun m _=>Nat.ble m.2.2.1.2.length 1000) (fun m d=>.int .i64 (colF d 0 m.2.2.1.2))),(20,con1 tChart (fun _=>true) (fun c=>tup3 (chkS c))),(21,con1 tChart (fun _=>true) (fun c=>tup3 (chkS c)))]
theorem LA_ok:∀ e∈LA,SaidG Tryz.prog E2.glob e:=
 saids_cons (SaidOK.g e2 x2 n2 tabs_ok.mix (fun _ _ h=>con1_spec (t:=tI) (fun p hp=>vecB_of (fun p=>by kernel_rfl) (by kernel_rfl) vin59 p hp) h) rfl)
 (saids_cons (SaidOK.g e2 x2 n2 tabs_ok.mix (fun _ _ h=>con1_spec (t:=tI) (fun p hp=>vecB_of (fun p=>by kernel_rfl) (by kernel_rfl) vin61 p hp) h) rfl)
 (saids_cons (SaidOK.g e2 x2 n2 tabs_ok.mix (fun _ _ h=>con2_spec (t:=tMark) (u:=tI) (fun m d hm=>colo_call m d (by have:=Nat.le_of_ble_eq_true hm;omega)) h) rfl)
 (saids_cons (SaidOK.g e2 x2 n2 tabs_ok.mix (fun _ _ h=>con2_spec (t:=tMark) (u:=tI) (fun m d hm=>pain_call m d (by have:=Nat.le_of_ble_eq_true hm;omega)) h) rfl)
 (saids_cons (SaidOK.g e1 x1 n1 tabs_ok.mix (fun _ _ h=>con1_spec (t:=tChart) (fun c _=>chk_call c) h) rfl)
 (saids_cons (SaidOK.g e2 x2 n2 tabs_ok.mix (fun _ _ h=>con1_spec (t:=tChart) (fun c _=>rchk_call c) h) rfl) saids_nil)))))
noncomputable def F1:Env:=E2.say (under (xOf LA))
theorem f1:EnvOK Tryz.prog F1:=e2.say _
theorem nf1:NameOK F1:=n2.say _
theorem xf1:ExtOK Tryz.prog F1:=x2.sayL LA_ok
theorem F1sy:F1.sy=true:=rfl
noncomputable def Z1 (l:List Nat):Sy:=(S2 []).on LA l
theorem Z1_ok (l:List Nat):(Z1 l).ok F1:=Sy.on_ok (S2_ok _)
end Go.Proofs.YtgaoajmlckgdaaaGreatDoor


set_option maxRecDepth 100000
namespace Go.Proofs.YtgaoajmlckgdaaaGreatDoor
open Go Go.Eng
noncomputable def ptOfI0 (v:tP.den) (x3:Int) (x10:Nat):Cfg:=⟨.ex (pcOf F1 82 [0,0,1,0,1]) ⟨(tmOf 25 [(0,(.agg [(.int .i64 (v.1)),(.int .i64 (v.2.1))])),(1,(.ptr 0 0)),(2,(.int .i64 (0))),(5,(.int .i64 x3))]),(hpOf 1 [(0,(.cells false [(.int .i64 (v.1)),(.int .i64 (v.2.1))]))]),[],[],25,false⟩,⟨6,[]⟩,[(.lop (pcOf F1 82 [0,0,1,0,1]) 1 (tmOf 25 [(0,(.agg [(.int .i64 (v.1)),(.int .i64 (v.2.1))])),(1,(.ptr 0 0)),(2,(.int .i64 (0))),(5,(.int .i64 (0)))]) x10),(.blk 0),(.seq (pcOf F1 82 [1,1])),(.cal [(.tmp 2)] .top)]⟩
theorem ptOf_start (v:tP.den):adv F1 (Z1 [82]) 3000 (startC F1 82 [tP.av v] 6)=some (.stop (ptOfI0 v (0) (1048575))):=by kernel_rfl
theorem ptOf_step0 (v:tP.den) (x3:Int) (x10:Nat):adv F1 (Z1 [82]) 3000 (ptOfI0 v x3 (x10+1))=(bif !ile 32 x3 then (bif inV ((wr .i64 (x3+1)).tmod 32) then (bif inV x3 then (bif ile (wr .i64 (wr .i64 (vx x3 * v.2.1)-wr .i64 (vy x3 * v.1))) 0 then (bif ieq v.1 v.1 then (bif ieq v.2.1 v.2.1 then (bif ieq (vx ((wr .i64 (x3+1)).tmod 32)) (vx ((wr .i64 (x3+1)).tmod 32)) then (bif ieq (vy ((wr .i64 (x3+1)).tmod 32)) (vy ((wr .i64 (x3+1)).tmod 32)) then (bif ieq v.1 v.1 then (bif ieq v.2.1 v.2.1 then (bif ieq v.1 v.1 then (bif ieq v.2.1 v.2.1 then (bif !ile (wr .i64 (wr .i64 (vx ((wr .i64 (x3+1)).tmod 32) * v.2.1)-wr .i64 (vy ((wr .i64 (x3+1)).tmod 32) * v.1))) 0 then some (.done (.int .i64 (x3))) else some (.stop (ptOfI0 v (wr .i64 (x3+1)) (x10)))) else none) else none) else none) else none) else none) else none) else none) else none) else (bif ieq v.1 v.1 then (bif ieq v.2.1 v.2.1 then (bif ieq v.1 v.1 then (bif ieq v.2.1 v.2.1 then some (.stop (ptOfI0 v (wr .i64 (x3+1)) (x10))) else none) else none) else none) else none)) else none) else none) else some (.done (.int .i64 (0)))):=by kernel_rfl
noncomputable def towaI0 (v:tP.den) (x3:Int) (x10:Nat):Cfg:=⟨.ex (pcOf F1 85 [0,0,0,1,1]) ⟨(tmOf 21 [(0,(.agg [(.int .i64 (v.1)),(.int .i64 (v.2.1))])),(1,(.ptr 0 0)),(2,(.int .i64 (0))),(3,(.int .i64 x3))]),(hpOf 1 [(0,(.cells false [(.int .i64 (v.1)),(.int .i64 (v.2.1))]))]),[],[],21,false⟩,⟨6,[]⟩,[(.lop (pcOf F1 85 [0,0,0,1,1]) 1 (tmOf 21 [(0,(.agg [(.int .i64 (v.1)),(.int .i64 (v.2.1))])),(1,(.ptr 0 0)),(2,(.int .i64 (0))),(3,(.int .i64 (0)))]) x10),(.blk 0),(.seq (pcOf F1 85 [1,1,1])),(.cal [(.tmp 2)] .top)]⟩
theorem towa_start (v:tP.den):adv F1 (Z1 [85]) 3000 (startC F1 85 [tP.av v] 6)=some (.stop (towaI0 v (0) (1048575))):=by kernel_rfl
theorem towa_step0 (v:tP.den) (x3:Int) (x10:Nat):adv F1 (Z1 [85]) 3000 (towaI0 v x3 (x10+1))=(bif inV x3 then (bif !ile (wr .i64 (wr .i64 (vx x3 * v.2.1)-wr .i64 (vy x3 * v.1))) 0 then (bif ieq v.1 v.1 then (bif ieq v.2.1 v.2.1 then (bif ieq v.1 v.1 then (bif ieq v.2.1 v.2.1 then some (.stop (towaI0 v (wr .i64 (x3+1)) (x10))) else none) else none) else none) else none) else (bif inV ((wr .i64 (x3+1)).tmod 32) then (bif ieq v.1 v.1 then (bif ieq v.2.1 v.2.1 then (bif ieq v.1 v.1 then (bif ieq v.2.1 v.2.1 then (bif ieq v.1 v.1 then (bif ieq v.2.1 v.2.1 then (bif ieq v.1 v.1 then (bif ieq v.2.1 v.2.1 then (bif ile (wr .i64 (wr .i64 (vx ((wr .i64 (x3+1)).tmod 32) * v.2.1)-wr .i64 (vy ((wr .i64 (x3+1)).tmod 32) * v.1))) 0 then some (.stop (towaI0 v (wr .i64 (x3+1)) (x10))) else some (.done (.int .i64 (x3)))) else none) else none) else none) else none) else none) else none) else none) else none) else none)) else none):=by kernel_rfl
noncomputable def inW (x y:Int):Bool:=ile (-100000) x&&ile x 100000&&ile (-100000) y&&ile y 100000
theorem inW_iff {x y:Int}:inW x y=true↔(-100000≤x∧x≤100000)∧-100000≤y∧y≤100000:=by
 simp only[inW,Bool.and_eq_true,ile_iff,decide_eq_true_eq,and_assoc]
theorem vtab_b:∀ x∈vtab,(-1000≤x.1∧x.1≤1000)∧-1000≤x.2∧x.2≤1000:=by unfold vtab;decide
theorem getD_or {α:Type} (l:List α) (k:Nat) (d:α):l.getD k d∈l∨l.getD k d=d:=by
 by_cases h:k<l.length
 · left;simp[h]
 · right;simp[Nat.le_of_not_lt h]
theorem vx_b (p:Int):-1000≤vx p∧vx p≤1000:=by
 unfold vx
 cases inV p with
 |false=>simp only[cond_false];omega
 |true=>
  simp only[cond_true]
  rcases getD_or vtab p.toNat (0,0) with h|h
  · exact (vtab_b _ h).1
  · rw[h];simp
theorem vy_b (p:Int):-1000≤vy p∧vy p≤1000:=by
 unfold vy
 cases inV p with
 |false=>simp only[cond_false];omega
 |true=>
  simp only[cond_true]
  rcases getD_or vtab p.toNat (0,0) with h|h
  · exact (vtab_b _ h).2
  · rw[h];simp
theorem mul_b {a b:Int} {m n:Nat} (h1:-(m:Int)≤a) (h2:a≤m) (h3:-(n:Int)≤b) (h4:b≤n):-((m * n:Nat):Int)≤a * b∧a * b≤((m * n:Nat):Int):=by
 have e:=Int.natAbs_mul a b
 have:a.natAbs * b.natAbs≤m * n:=Nat.mul_le_mul (by omega) (by omega)
 omega
noncomputable def lf (x y p:Int):Int:=vx p * y-vy p * x
theorem lf_wr {x y:Int} (h:inW x y=true) (p:Int):wr .i64 (wr .i64 (vx p * y)-wr .i64 (vy p * x))=lf x y p:=by
 rw[inW_iff] at h
 have hx:=vx_b p
 have hy:=vy_b p
 have a:=mul_b (a:=vx p) (b:=y) (m:=1000) (n:=100000) (by omega) (by omega) (by omega) (by omega)
 have b:=mul_b (a:=vy p) (b:=x) (m:=1000) (n:=100000) (by omega) (by omega) (by omega) (by omega)
 rw[wr_in (n:=vx p * y) (by omega) (by omega),wr_in (n:=vy p * x) (by omega) (by omega),wr_in (by omega) (by omega)]
 rfl
noncomputable def nxt (k:Nat):Int:=((k+1:Nat):Int).tmod 32
theorem inV_iff {p:Int}:inV p=true↔0≤p∧p≤31:=by
 simp only[inV,Bool.and_eq_true,ile_iff,decide_eq_true_eq]
theorem inV_nxt (k:Nat):inV (nxt k)=true:=by
 rw[inV_iff]
 have h1:0≤nxt k:=Int.tmod_nonneg _ (by omega)
 have h2:nxt k<32:=Int.tmod_lt_of_pos _ (by omega)
 omega
theorem nxt_eq (k:Nat):nxt k=((k+1) % 32:Nat):=by
 unfold nxt
 rw[Int.tmod_eq_emod_of_nonneg (by omega)];rfl
theorem nxt_fold (k:Nat):((k+1:Nat):Int).tmod 32=nxt k:=rfl
noncomputable def goodP (x y:Int) (k:Nat):Bool:=ile (lf x y k) 0&&!ile (lf x y (nxt k)) 0
noncomputable def ptGo (x y:Int):Nat→Nat→Int
 |_,0=>0
 |k,r+1=>bif goodP x y k then (k:Int) else ptGo x y (k+1) r
noncomputable def ptF (x y:Int):Int:=ptGo x y 0 32
theorem ptOf_ans (v:tP.den) (hw:inW v.1 v.2.1=true):∀ (r k m:Nat),k+r=32→r<m→Ans F1 (ptOfI0 v k m) (.int .i64 (ptGo v.1 v.2.1 k r))
 |0,k,m+1,hk,hm=>by
  have h:=ptOf_step0 v k m
  have e:k=32:=by omega
  subst e
  simp only[show ile 32 ((32:Nat):Int)=true from rfl,Bool.not_true,cond_false] at h
  exact .doneI (Z1_ok _) F1sy h rfl
 | r + 1, k, m + 1, hk, hm => by
  have h:=ptOf_step0 v k m
  have e1:ile 32 (k:Int)=false:=by rw[ile_iff];simp;omega
  have e2:inV (k:Int)=true:=by rw[inV_iff];omega
  simp only[e1,e2,inV_nxt,nxt_fold,lf_wr hw,ieq_self,Bool.not_false,cond_true,wr_succ (show k<1048577 by omega)] at h
  have ih:=ptOf_ans v hw r (k+1) m (by omega) (by omega)
  rw[ptGo,goodP]
  cases c1:ile (lf v.1 v.2.1 k) 0<;>cases c2:ile (lf v.1 v.2.1 (nxt k)) 0 <;>
   simp only[c1,c2,Bool.not_true,Bool.not_false,cond_true,cond_false,Bool.and_self,Bool.and_true,Bool.and_false] at h ⊢ <;>
   first
    |exact .doneI (Z1_ok _) F1sy h rfl
    |exact .stop (Z1_ok _) F1sy h ih
theorem ptOf_call (v:tP.den) (hw:inW v.1 v.2.1=true):AnsF F1 82 [tP.av v] (.int .i64 (ptF v.1 v.2.1)):=
 Ans.call (n:=6) (ext_none (by kernel_rfl)) (hasB_spec (by kernel_rfl)) (.stop (Z1_ok _) F1sy (ptOf_start v) (ptOf_ans v hw 32 0 1048575 (by omega) (by omega)))
theorem good_ex (x y:Int) (h:¬ (x=0∧y=0)):∃ j,j<32∧goodP x y j=true:=by
 have main:(∀ j,j<32→goodP x y j=false)→False:=by
  intro hn
  have step:∀ j:Nat,j<32→lf x y j≤0→lf x y (((j+1) % 32:Nat):Int)≤0:=by
   intro j hj hl
   have:=hn j hj
   simp only[goodP,nxt_eq,ile_iff,hl,decide_true,Bool.true_and,Bool.not_eq_false',decide_eq_true_eq] at this
   exact this
  have chain:∀ (n k:Nat),k<32→lf x y k≤0→lf x y (((k+n) % 32:Nat):Int)≤0:=by
   intro n
   induction n with
   |zero=>intro k hk hl;rw[Nat.add_zero,Nat.mod_eq_of_lt hk];exact hl
   |succ n ih=>
    intro k hk hl
    have:=step ((k+n) % 32) (Nat.mod_lt _ (by omega)) (ih k hk hl)
    rwa [show ((k+n) % 32+1) % 32=(k+(n+1)) % 32 by omega] at this
  have l0:lf x y 0=-1000 * x:=by show 0 * y-1000 * x=_;omega
  have l8:lf x y 8=1000 * y:=by show 1000 * y-0 * x=_;omega
  have l16:lf x y 16=1000 * x:=by show 0 * y-(-1000) * x=_;omega
  have l24:lf x y 24=-1000 * y:=by show (-1000) * y-0 * x=_;omega
  by_cases h0:lf x y 0≤0
  · have a := chain 8 0 (by omega) h0
    have b:=chain 16 0 (by omega) h0
    have d:=chain 24 0 (by omega) h0
    simp only[Nat.zero_add,Nat.reduceMod] at a b d
    have a':lf x y 8≤0:=a
    have b':lf x y 16≤0:=b
    have d':lf x y 24≤0:=d
    omega
  · have b' : lf x y ((16 : Nat) : Int) ≤ 0 := by show lf x y 16 ≤ 0; omega
    have a:=chain 16 16 (by omega) b'
    have a':lf x y 0≤0:=a
    omega
 apply Classical.byContradiction
 intro hne
 refine main (fun j hj=>?_)
 cases e:goodP x y j with
 |false=>rfl
 |true=>exact absurd ⟨j,hj,e⟩ hne
theorem towa_ans (v:tP.den) (hw:inW v.1 v.2.1=true):∀ (r k m:Nat),k+r=32→r<m→(∃ j,k≤j∧j<32∧goodP v.1 v.2.1 j=true)→Ans F1 (towaI0 v k m) (.int .i64 (ptGo v.1 v.2.1 k r))
 |0,k,m+1,hk,hm,hj=>by obtain⟨j,h1,h2,_⟩:=hj;omega
 | r + 1, k, m + 1, hk, hm, hj => by
  have h:=towa_step0 v k m
  have e2:inV (k:Int)=true:=by rw[inV_iff];omega
  simp only[e2,inV_nxt,nxt_fold,lf_wr hw,ieq_self,cond_true,wr_succ (show k<1048577 by omega)] at h
  have ih:=fun (hne:goodP v.1 v.2.1 k=false)=>towa_ans v hw r (k+1) m (by omega) (by omega) (by
   obtain⟨j,h1,h2,h3⟩:=hj
   refine⟨j,?_,h2,h3⟩
   rcases Nat.lt_or_ge k j with h4|h4
   · exact h4
   · have : j = k := by omega
     subst this;rw[hne] at h3;cases h3)
  rw[ptGo]
  unfold goodP at ih⊢
  cases c1:ile (lf v.1 v.2.1 k) 0<;>cases c2:ile (lf v.1 v.2.1 (nxt k)) 0 <;>
   simp only[c1,c2,Bool.not_true,Bool.not_false,cond_true,cond_false,Bool.and_self,Bool.and_true,Bool.and_false,forall_const] at h ih ⊢ <;>
   first
    |exact .doneI (Z1_ok _) F1sy h rfl
    |exact .stop (Z1_ok _) F1sy h ih
noncomputable def nz (x y:Int):Bool:=!(ieq x 0&&ieq y 0)
theorem towa_call (v:tP.den) (hw:inW v.1 v.2.1=true) (hz:nz v.1 v.2.1=true):AnsF F1 85 [tP.av v] (.int .i64 (ptF v.1 v.2.1)):=by
 refine Ans.call (n:=6) (ext_none (by kernel_rfl)) (hasB_spec (by kernel_rfl)) (.stop (Z1_ok _) F1sy (towa_start v) (towa_ans v hw 32 0 1048575 (by omega) (by omega) ?_))
 obtain⟨j,h1,h2⟩:=good_ex v.1 v.2.1 (fun e=>by rw[nz,e.1,e.2] at hz;cases hz)
 exact⟨j,Nat.zero_le _,h1,h2⟩
end Go.Proofs.YtgaoajmlckgdaaaGreatDoor


set_option maxRecDepth 100000
namespace Go.Proofs.YtgaoajmlckgdaaaGreatDoor
open Go Go.Eng
noncomputable def movsI0 (b:tBox.den) (x4:Int) (x16:Nat):Cfg:=⟨.ex (pcOf F1 72 [0,0,1,0,1,1]) ⟨(tmOf 33 [(0,(.agg [(.int .i64 (b.1.1)),(.int .i64 (b.1.2.1)),(.int .i64 (b.2.1.1)),(.int .i64 (b.2.1.2.1))])),(1,(.ptr 0 0)),(2,.nils),(3,.nils),(4,(.int .i64 x4)),(6,(.ptr 0 0)),(7,(.ptr 0 0)),(8,(.int .i64 (b.1.1)))]),(hpOf 1 [(0,(.cells false [(.int .i64 (b.1.1)),(.int .i64 (b.1.2.1)),(.int .i64 (b.2.1.1)),(.int .i64 (b.2.1.2.1))]))]),[],[],33,false⟩,⟨6,[]⟩,[(.lop (pcOf F1 72 [0,0,1,0,1,1]) 1 (tmOf 33 [(0,(.agg [(.int .i64 (b.1.1)),(.int .i64 (b.1.2.1)),(.int .i64 (b.2.1.1)),(.int .i64 (b.2.1.2.1))])),(1,(.ptr 0 0)),(2,.nils),(3,.nils),(4,(.int .i64 (b.1.1))),(6,(.ptr 0 0)),(7,(.ptr 0 0)),(8,(.int .i64 (b.1.1)))]) x16),(.blk 0),(.seq (pcOf F1 72 [1,1,1])),(.cal [(.tmp 2)] .top)]⟩
noncomputable def movsI1 (b:tBox.den) (x4:Int) (x26:Nat) (x33:Nat):Cfg:=⟨.ex (pcOf F1 72 [0,0,1,0,0,1,0,0,1,0,1,1]) ⟨(tmOf 33 [(0,(.agg [(.int .i64 (b.1.1)),(.int .i64 (b.1.2.1)),(.int .i64 (b.2.1.1)),(.int .i64 (b.2.1.2.1))])),(1,(.ptr 0 0)),(2,.nils),(3,.nils),(4,(.int .i64 x4)),(5,(.int .i64 (b.2.1.1))),(6,(.ptr 0 0)),(7,(.ptr 0 0)),(8,(.int .i64 (b.1.1))),(9,(.int .i64 x4)),(10,(.ptr 0 0)),(11,(.ptr 0 1)),(12,(.int .i64 (b.1.2.1))),(13,(.bool (true))),(16,(.ptr 0 2)),(17,(.ptr 0 2)),(18,(.int .i64 (b.2.1.1)))]),(hpOf 1 [(0,(.cells false [(.int .i64 (b.1.1)),(.int .i64 (b.1.2.1)),(.int .i64 (b.2.1.1)),(.int .i64 (b.2.1.2.1))]))]),[],[],33,false⟩,⟨6,[]⟩,[(.lop (pcOf F1 72 [0,0,1,0,0,1,0,0,1,0,1,1]) 1 (tmOf 33 [(0,(.agg [(.int .i64 (b.1.1)),(.int .i64 (b.1.2.1)),(.int .i64 (b.2.1.1)),(.int .i64 (b.2.1.2.1))])),(1,(.ptr 0 0)),(2,.nils),(3,.nils),(4,(.int .i64 x4)),(5,(.int .i64 (b.2.1.1))),(6,(.ptr 0 0)),(7,(.ptr 0 0)),(8,(.int .i64 (b.1.1))),(9,(.int .i64 x4)),(10,(.ptr 0 0)),(11,(.ptr 0 1)),(12,(.int .i64 (b.1.2.1))),(13,(.bool (true))),(16,(.ptr 0 2)),(17,(.ptr 0 2)),(18,(.int .i64 (b.2.1.1)))]) x26),(.blk 2),(.blk 1),(.seq (pcOf F1 72 [1,1,0,0,1,0,1,1])),(.lop (pcOf F1 72 [0,0,1,0,1,1]) 1 (tmOf 33 [(0,(.agg [(.int .i64 (b.1.1)),(.int .i64 (b.1.2.1)),(.int .i64 (b.2.1.1)),(.int .i64 (b.2.1.2.1))])),(1,(.ptr 0 0)),(2,.nils),(3,.nils),(4,(.int .i64 (b.1.1))),(6,(.ptr 0 0)),(7,(.ptr 0 0)),(8,(.int .i64 (b.1.1)))]) x33),(.blk 0),(.seq (pcOf F1 72 [1,1,1])),(.cal [(.tmp 2)] .top)]⟩
noncomputable def movsI2 (b:tBox.den) (x4:Nat) (x6:Int) (x7:Int) (x17:List AV) (x29:Nat) (x36:Nat):Cfg:=⟨.ex (pcOf F1 72 [0,0,1,0,0,1,0,0,1,0,1,1]) ⟨(tmOf 33 [(0,(.agg [(.int .i64 (b.1.1)),(.int .i64 (b.1.2.1)),(.int .i64 (b.2.1.1)),(.int .i64 (b.2.1.2.1))])),(1,(.ptr 0 0)),(2,.nils),(3,(.sl 1 0 x4 x4 2)),(4,(.int .i64 x6)),(5,(.int .i64 x7)),(6,(.ptr 0 0)),(7,(.ptr 0 0)),(8,(.int .i64 (b.1.1))),(9,(.int .i64 x6)),(10,(.ptr 0 0)),(11,(.ptr 0 1)),(12,(.int .i64 (b.1.2.1))),(13,(.bool (true))),(16,(.ptr 0 2)),(17,(.ptr 0 2)),(18,(.int .i64 (b.2.1.1)))]),(hpOf 2 [(0,(.cells false [(.int .i64 (b.1.1)),(.int .i64 (b.1.2.1)),(.int .i64 (b.2.1.1)),(.int .i64 (b.2.1.2.1))])),(1,(.cells false x17))]),[],[],33,false⟩,⟨6,[]⟩,[(.lop (pcOf F1 72 [0,0,1,0,0,1,0,0,1,0,1,1]) 1 (tmOf 33 [(0,(.agg [(.int .i64 (b.1.1)),(.int .i64 (b.1.2.1)),(.int .i64 (b.2.1.1)),(.int .i64 (b.2.1.2.1))])),(1,(.ptr 0 0)),(2,.nils),(3,.nils),(4,(.int .i64 x6)),(5,(.int .i64 (b.2.1.1))),(6,(.ptr 0 0)),(7,(.ptr 0 0)),(8,(.int .i64 (b.1.1))),(9,(.int .i64 x6)),(10,(.ptr 0 0)),(11,(.ptr 0 1)),(12,(.int .i64 (b.1.2.1))),(13,(.bool (true))),(16,(.ptr 0 2)),(17,(.ptr 0 2)),(18,(.int .i64 (b.2.1.1)))]) x29),(.blk 2),(.blk 1),(.seq (pcOf F1 72 [1,1,0,0,1,0,1,1])),(.lop (pcOf F1 72 [0,0,1,0,1,1]) 1 (tmOf 33 [(0,(.agg [(.int .i64 (b.1.1)),(.int .i64 (b.1.2.1)),(.int .i64 (b.2.1.1)),(.int .i64 (b.2.1.2.1))])),(1,(.ptr 0 0)),(2,.nils),(3,.nils),(4,(.int .i64 (b.1.1))),(6,(.ptr 0 0)),(7,(.ptr 0 0)),(8,(.int .i64 (b.1.1)))]) x36),(.blk 0),(.seq (pcOf F1 72 [1,1,1])),(.cal [(.tmp 2)] .top)]⟩
noncomputable def movsI3 (b:tBox.den) (x4:Nat) (x6:Int) (x12:List AV) (x19:Nat):Cfg:=⟨.ex (pcOf F1 72 [0,0,1,0,1,1]) ⟨(tmOf 33 [(0,(.agg [(.int .i64 (b.1.1)),(.int .i64 (b.1.2.1)),(.int .i64 (b.2.1.1)),(.int .i64 (b.2.1.2.1))])),(1,(.ptr 0 0)),(2,.nils),(3,(.sl 1 0 x4 x4 2)),(4,(.int .i64 x6)),(6,(.ptr 0 0)),(7,(.ptr 0 0)),(8,(.int .i64 (b.1.1)))]),(hpOf 2 [(0,(.cells false [(.int .i64 (b.1.1)),(.int .i64 (b.1.2.1)),(.int .i64 (b.2.1.1)),(.int .i64 (b.2.1.2.1))])),(1,(.cells false x12))]),[],[],33,false⟩,⟨6,[]⟩,[(.lop (pcOf F1 72 [0,0,1,0,1,1]) 1 (tmOf 33 [(0,(.agg [(.int .i64 (b.1.1)),(.int .i64 (b.1.2.1)),(.int .i64 (b.2.1.1)),(.int .i64 (b.2.1.2.1))])),(1,(.ptr 0 0)),(2,.nils),(3,.nils),(4,(.int .i64 (b.1.1))),(6,(.ptr 0 0)),(7,(.ptr 0 0)),(8,(.int .i64 (b.1.1)))]) x19),(.blk 0),(.seq (pcOf F1 72 [1,1,1])),(.cal [(.tmp 2)] .top)]⟩
noncomputable def movsI4 (b:tBox.den) (x4:Nat) (x6:Int) (x17:List AV) (x31:Nat) (x38:Nat):Cfg:=⟨.ex (pcOf F1 72 [0,0,1,0,0,1,0,0,1,0,1,1]) ⟨(tmOf 33 [(0,(.agg [(.int .i64 (b.1.1)),(.int .i64 (b.1.2.1)),(.int .i64 (b.2.1.1)),(.int .i64 (b.2.1.2.1))])),(1,(.ptr 0 0)),(2,.nils),(3,(.sl 1 0 x4 x4 2)),(4,(.int .i64 x6)),(5,(.int .i64 (b.2.1.1))),(6,(.ptr 0 0)),(7,(.ptr 0 0)),(8,(.int .i64 (b.1.1))),(9,(.int .i64 x6)),(10,(.ptr 0 0)),(11,(.ptr 0 1)),(12,(.int .i64 (b.1.2.1))),(13,(.bool (true))),(16,(.ptr 0 2)),(17,(.ptr 0 2)),(18,(.int .i64 (b.2.1.1)))]),(hpOf 2 [(0,(.cells false [(.int .i64 (b.1.1)),(.int .i64 (b.1.2.1)),(.int .i64 (b.2.1.1)),(.int .i64 (b.2.1.2.1))])),(1,(.cells false x17))]),[],[],33,false⟩,⟨6,[]⟩,[(.lop (pcOf F1 72 [0,0,1,0,0,1,0,0,1,0,1,1]) 2 (tmOf 33 [(0,(.agg [(.int .i64 (b.1.1)),(.int .i64 (b.1.2.1)),(.int .i64 (b.2.1.1)),(.int .i64 (b.2.1.2.1))])),(1,(.ptr 0 0)),(2,.nils),(3,(.sl 1 0 x4 x4 2)),(4,(.int .i64 x6)),(5,(.int .i64 (b.2.1.1))),(6,(.ptr 0 0)),(7,(.ptr 0 0)),(8,(.int .i64 (b.1.1))),(9,(.int .i64 x6)),(10,(.ptr 0 0)),(11,(.ptr 0 1)),(12,(.int .i64 (b.1.2.1))),(13,(.bool (true))),(16,(.ptr 0 2)),(17,(.ptr 0 2)),(18,(.int .i64 (b.2.1.1)))]) x31),(.blk 2),(.blk 1),(.seq (pcOf F1 72 [1,1,0,0,1,0,1,1])),(.lop (pcOf F1 72 [0,0,1,0,1,1]) 1 (tmOf 33 [(0,(.agg [(.int .i64 (b.1.1)),(.int .i64 (b.1.2.1)),(.int .i64 (b.2.1.1)),(.int .i64 (b.2.1.2.1))])),(1,(.ptr 0 0)),(2,.nils),(3,.nils),(4,(.int .i64 (b.1.1))),(6,(.ptr 0 0)),(7,(.ptr 0 0)),(8,(.int .i64 (b.1.1)))]) x38),(.blk 0),(.seq (pcOf F1 72 [1,1,1])),(.cal [(.tmp 2)] .top)]⟩
noncomputable def movsI5 (b:tBox.den) (x4:Nat) (x6:Int) (x7:Int) (x17:List AV) (x22:Nat) (x31:Nat) (x38:Nat):Cfg:=⟨.ex (pcOf F1 72 [0,0,1,0,0,1,0,0,1,0,1,1]) ⟨(tmOf 33 [(0,(.agg [(.int .i64 (b.1.1)),(.int .i64 (b.1.2.1)),(.int .i64 (b.2.1.1)),(.int .i64 (b.2.1.2.1))])),(1,(.ptr 0 0)),(2,.nils),(3,(.sl 2 0 x4 x4 2)),(4,(.int .i64 x6)),(5,(.int .i64 x7)),(6,(.ptr 0 0)),(7,(.ptr 0 0)),(8,(.int .i64 (b.1.1))),(9,(.int .i64 x6)),(10,(.ptr 0 0)),(11,(.ptr 0 1)),(12,(.int .i64 (b.1.2.1))),(13,(.bool (true))),(16,(.ptr 0 2)),(17,(.ptr 0 2)),(18,(.int .i64 (b.2.1.1)))]),(hpOf 3 [(0,(.cells false [(.int .i64 (b.1.1)),(.int .i64 (b.1.2.1)),(.int .i64 (b.2.1.1)),(.int .i64 (b.2.1.2.1))])),(1,.gone),(2,(.cells false x17))]),[],[],33,false⟩,⟨6,[]⟩,[(.lop (pcOf F1 72 [0,0,1,0,0,1,0,0,1,0,1,1]) 2 (tmOf 33 [(0,(.agg [(.int .i64 (b.1.1)),(.int .i64 (b.1.2.1)),(.int .i64 (b.2.1.1)),(.int .i64 (b.2.1.2.1))])),(1,(.ptr 0 0)),(2,.nils),(3,(.sl 1 0 x22 x22 2)),(4,(.int .i64 x6)),(5,(.int .i64 (b.2.1.1))),(6,(.ptr 0 0)),(7,(.ptr 0 0)),(8,(.int .i64 (b.1.1))),(9,(.int .i64 x6)),(10,(.ptr 0 0)),(11,(.ptr 0 1)),(12,(.int .i64 (b.1.2.1))),(13,(.bool (true))),(16,(.ptr 0 2)),(17,(.ptr 0 2)),(18,(.int .i64 (b.2.1.1)))]) x31),(.blk 2),(.blk 1),(.seq (pcOf F1 72 [1,1,0,0,1,0,1,1])),(.lop (pcOf F1 72 [0,0,1,0,1,1]) 1 (tmOf 33 [(0,(.agg [(.int .i64 (b.1.1)),(.int .i64 (b.1.2.1)),(.int .i64 (b.2.1.1)),(.int .i64 (b.2.1.2.1))])),(1,(.ptr 0 0)),(2,.nils),(3,.nils),(4,(.int .i64 (b.1.1))),(6,(.ptr 0 0)),(7,(.ptr 0 0)),(8,(.int .i64 (b.1.1)))]) x38),(.blk 0),(.seq (pcOf F1 72 [1,1,1])),(.cal [(.tmp 2)] .top)]⟩
theorem movs_start (b:tBox.den):adv F1 (Z1 [72]) 3000 (startC F1 72 [tBox.av b] 6)=some (.stop (movsI0 b (b.1.1) (1048575))):=by kernel_rfl
theorem movs_step0 (b:tBox.den) (x4:Int) (x16:Nat):adv F1 (Z1 [72]) 3000 (movsI0 b x4 (x16+1))=(bif ile x4 b.1.2.1 then some (.stop (movsI1 b (x4) (1048575) (x16+1))) else some (.done .nils)):=by kernel_rfl
theorem movs_step1 (b:tBox.den) (x4:Int) (x26:Nat) (x33:Nat):adv F1 (Z1 [72]) 3000 (movsI1 b x4 (x26+1) (x33+1))=(bif ile b.2.1.1 b.2.1.2.1 then some (.stop (movsI2 b (1) (x4) (wr .i64 (b.2.1.1+1)) ([AV.int IntKind.i64 x4,AV.int IntKind.i64 b.2.1.1]) (x26) (x33+1))) else some (.stop (movsI0 b (wr .i64 (x4+1)) (x33)))):=by kernel_rfl
theorem movs_step2 (b:tBox.den) (x4:Nat) (x6:Int) (x7:Int) (x17:List AV) (x29:Nat) (x36:Nat):adv F1 (Z1 [72]) 3000 (movsI2 b x4 x6 x7 x17 (x29+1) (x36+1))=(bif ile x7 b.2.1.2.1 then (bif (0+x4 * 2).beq x17.length then (bif x4.ble 1048576 then (bif plO (AO.cells false (x17++[AV.int IntKind.i64 x6,AV.int IntKind.i64 x7])) then some (.stop (movsI2 b (x4+1) (x6) (wr .i64 (x7+1)) (x17++[AV.int IntKind.i64 x6,AV.int IntKind.i64 x7]) (x29) (x36+1))) else none) else none) else none) else (bif plO (AO.cells false x17) then some (.stop (movsI3 b (x4) (wr .i64 (x6+1)) (x17) (x36))) else none)):=by kernel_rfl
theorem movs_step3 (b:tBox.den) (x4:Nat) (x6:Int) (x12:List AV) (x19:Nat):adv F1 (Z1 [72]) 3000 (movsI3 b x4 x6 x12 (x19+1))=(bif ile x6 b.1.2.1 then some (.stop (movsI4 b (x4) (x6) (x12) (1048575) (x19+1))) else (bif plainL x12 then some (.done (.csl (x12) (x4))) else none)):=by kernel_rfl
theorem movs_step4 (b:tBox.den) (x4:Nat) (x6:Int) (x17:List AV) (x31:Nat) (x38:Nat):adv F1 (Z1 [72]) 3000 (movsI4 b x4 x6 x17 (x31+1) (x38+1))=(bif ile b.2.1.1 b.2.1.2.1 then (bif (0+x4 * 2).beq x17.length then (bif x4.ble 1048576 then (bif plO (AO.cells false (x17++[AV.int IntKind.i64 x6,AV.int IntKind.i64 b.2.1.1])) then some (.stop (movsI5 b (x4+1) (x6) (wr .i64 (b.2.1.1+1)) (x17++[AV.int IntKind.i64 x6,AV.int IntKind.i64 b.2.1.1]) (x4) (x31) (x38+1))) else none) else none) else none) else (bif plO (AO.cells false x17) then some (.stop (movsI3 b (x4) (wr .i64 (x6+1)) (x17) (x38))) else none)):=by kernel_rfl
theorem movs_step5 (b:tBox.den) (x4:Nat) (x6:Int) (x7:Int) (x17:List AV) (x22:Nat) (x31:Nat) (x38:Nat):adv F1 (Z1 [72]) 3000 (movsI5 b x4 x6 x7 x17 x22 (x31+1) (x38+1))=(bif ile x7 b.2.1.2.1 then (bif (0+x4 * 2).beq x17.length then (bif x4.ble 1048576 then (bif plO (AO.cells false (x17++[AV.int IntKind.i64 x6,AV.int IntKind.i64 x7])) then some (.stop (movsI5 b (x4+1) (x6) (wr .i64 (x7+1)) (x17++[AV.int IntKind.i64 x6,AV.int IntKind.i64 x7]) (x22) (x31) (x38+1))) else none) else none) else none) else (bif plO (AO.cells false x17) then some (.stop (movsI3 b (x4) (wr .i64 (x6+1)) (x17) (x38))) else none)):=by kernel_rfl
abbrev tView:Ty:=.cons tSand (.cons tP .nil)
theorem flatP_len (l:List tP.den):(flat tP l).length=2 * l.length:=by
 induction l with
 |nil=>rfl
 |cons a l ih=>show (.int .i64 a.1::.int .i64 a.2.1::flat tP l:List AV).length=_;simp only[List.length_cons,ih];omega
theorem flatP_plain (l:List tP.den):plainL (flat tP l)=true:=by
 induction l with
 |nil=>rfl
 |cons a l ih=>exact ih
theorem flatP_add (l:List tP.den) (x y:Int):flat tP l++[.int .i64 x,.int .i64 y]=flat tP (l++[(x,y,())]):=by
 unfold flat;rw[List.flatMap_append];rfl
noncomputable def rowY (x y:Int):Nat→List tP.den
 |0=>[]
 |r+1=>(x,y,())::rowY x (y+1) r
noncomputable def ptsX (y0:Int) (n:Nat) (x:Int):Nat→List tP.den
 |0=>[]
 |r+1=>rowY x y0 n++ptsX y0 n (x+1) r
theorem rowY_len (x:Int):∀ (r:Nat) (y:Int),(rowY x y r).length=r
 |0,_=>rfl
 |r+1,y=>by rw[rowY,List.length_cons,rowY_len x r]
theorem beq_flat (l:List tP.den):(0+l.length * 2).beq (flat tP l).length=true:=by
 rw[flatP_len,Nat.zero_add,Nat.mul_comm];exact Nat.beq_refl _
section
variable (b:tBox.den) (x1 y0 y1:Int) (n:Nat) (h1:b.1.2.1=x1) (h2:b.2.1.1=y0) (h3:b.2.1.2.1=y1) (hn:y0+n=y1+1) (hy:-100000≤y0∧y1≤200000)
include h3 hy
theorem movs5 (x:Int) (hx:-200000≤x∧x≤200000) (rest:List tP.den) (M x22:Nat) (N:Nat) (K:∀ acc:List tP.den,acc.length≤N→Ans F1 (movsI3 b acc.length (x+1) (flat tP acc) M) (.vs tP false (acc++rest))) (hN:N≤1000000) :
  ∀ (r:Nat) (y:Int) (acc:List tP.den) (m:Nat),y+r=y1+1→-200000≤y→r<m→acc.length+r≤N→Ans F1 (movsI5 b acc.length x y (flat tP acc) x22 m (M+1)) (.vs tP false (acc++(rowY x y r++rest)))
 |0,y,acc,m+1,hr,hy0,hm,hl=>by
  have h:=movs_step5 b acc.length x y (flat tP acc) x22 m M
  have e:ile y y1=false:=by rw[ile_iff];simp;omega
  simp only[h3,e,cond_false,cond_true,plO,flatP_plain,wr_in (show -9223372036854775808≤x+1 by omega) (by omega)] at h
  exact .stop (Z1_ok _) F1sy h (K acc (by omega))
 |r+1,y,acc,m+1,hr,hy0,hm,hl=>by
  have h:=movs_step5 b acc.length x y (flat tP acc) x22 m M
  have e:ile y y1=true:=by rw[ile_iff];simp;omega
  have e2:acc.length.ble 1048576=true:=Nat.ble_eq_true_of_le (by omega)
  simp only[h3,e,e2,cond_true,plO,flatP_plain,flatP_add,wr_in (show -9223372036854775808≤y+1 by omega) (by omega)] at h
  rw[beq_flat,cond_true] at h
  have ih:=movs5 x hx rest M x22 N K hN r (y+1) (acc++[(x,y,())]) m (by omega) (by omega) (by omega) (by simp;omega)
  rw[show (acc++[((x,y,()):tP.den)]).length=acc.length+1 by simp] at ih
  refine .stopE (Z1_ok _) F1sy h ih ?_
  rw[rowY,List.append_assoc];rfl
theorem movs2 (x:Int) (hx:-200000≤x∧x≤200000) (rest:List tP.den) (M:Nat) (N:Nat) (K:∀ acc:List tP.den,acc.length≤N→Ans F1 (movsI3 b acc.length (x+1) (flat tP acc) M) (.vs tP false (acc++rest))) (hN:N≤1000000) :
  ∀ (r:Nat) (y:Int) (acc:List tP.den) (m:Nat),y+r=y1+1→-200000≤y→r<m→acc.length+r≤N→Ans F1 (movsI2 b acc.length x y (flat tP acc) m (M+1)) (.vs tP false (acc++(rowY x y r++rest)))
 |0,y,acc,m+1,hr,hy0,hm,hl=>by
  have h:=movs_step2 b acc.length x y (flat tP acc) m M
  have e:ile y y1=false:=by rw[ile_iff];simp;omega
  simp only[h3,e,cond_false,cond_true,plO,flatP_plain,wr_in (show -9223372036854775808≤x+1 by omega) (by omega)] at h
  exact .stop (Z1_ok _) F1sy h (K acc (by omega))
 |r+1,y,acc,m+1,hr,hy0,hm,hl=>by
  have h:=movs_step2 b acc.length x y (flat tP acc) m M
  have e:ile y y1=true:=by rw[ile_iff];simp;omega
  have e2:acc.length.ble 1048576=true:=Nat.ble_eq_true_of_le (by omega)
  simp only[h3,e,e2,cond_true,plO,flatP_plain,flatP_add,wr_in (show -9223372036854775808≤y+1 by omega) (by omega)] at h
  rw[beq_flat,cond_true] at h
  have ih:=movs2 x hx rest M N K hN r (y+1) (acc++[(x,y,())]) m (by omega) (by omega) (by omega) (by simp;omega)
  rw[show (acc++[((x,y,()):tP.den)]).length=acc.length+1 by simp] at ih
  refine .stopE (Z1_ok _) F1sy h ih ?_
  rw[rowY,List.append_assoc];rfl
include h1 h2 hn
theorem movs3 (hn0:0<n) (hn1:n≤1000):∀ (rx:Nat) (x:Int) (acc:List tP.den) (M:Nat),x+rx=x1+1→(-200000≤x∧x1≤199999)→rx<M→acc.length+rx * n≤1000000→Ans F1 (movsI3 b acc.length x (flat tP acc) M) (.vs tP false (acc++ptsX y0 n x rx))
 |0,x,acc,M+1,hr,hx,hm,hl=>by
  have h:=movs_step3 b acc.length x (flat tP acc) M
  have e:ile x x1=false:=by rw[ile_iff];simp;omega
  simp only[h1,e,cond_false,cond_true,flatP_plain] at h
  rw[ptsX,List.append_nil]
  exact .doneT (Z1_ok _) F1sy h .csl
 |rx+1,x,acc,M+1,hr,hx,hm,hl=>by
  have h:=movs_step3 b acc.length x (flat tP acc) M
  have e:ile x x1=true:=by rw[ile_iff];simp;omega
  simp only[h1,e,cond_true] at h
  refine .stop (Z1_ok _) F1sy h ?_
  have g:=movs_step4 b acc.length x (flat tP acc) 1048574 M
  have e1:ile y0 y1=true:=by rw[ile_iff];simp;omega
  have hmul:(rx+1) * n=rx * n+n:=by rw[Nat.add_mul,Nat.one_mul]
  have e2:acc.length.ble 1048576=true:=Nat.ble_eq_true_of_le (by omega)
  simp only[h2,h3,e1,e2,cond_true,plO,flatP_plain,flatP_add,wr_in (show -9223372036854775808≤y0+1 by omega) (by omega)] at g
  rw[beq_flat,cond_true] at g
  refine .stop (Z1_ok _) F1sy g ?_
  obtain⟨n',hn'⟩:∃ n',n=n'+1:=⟨n-1,by omega⟩
  have key:rowY x y0 n=(x,y0,())::rowY x (y0+1) n':=by rw[hn',rowY]
  have ih:=movs5 b y0 y1 h3 hy x (by omega) (ptsX y0 n (x+1) rx) M acc.length (acc.length+n) (fun a ha=>movs3 hn0 hn1 rx (x+1) a M (by omega) (by omega) (by omega) (by omega)) (by omega) n' (y0+1) (acc++[(x,y0,())]) 1048574 (by omega) (by omega) (by omega) (by simp;omega)
  rw[show (acc++[((x,y0,()):tP.den)]).length=acc.length+1 by simp] at ih
  rw[ptsX,key]
  rw[List.append_assoc] at ih
  exact ih
end
noncomputable def bK (x0 x1 y0 y1:Int):Bool:=ile (-100000) x0&&ile x0 x1&&ile x1 100000&&ile (x1-x0) 100&&(ile (-100000) y0&&ile y0 y1&&ile y1 100000&&ile (y1-y0) 100)
theorem bK_iff {x0 x1 y0 y1:Int}:bK x0 x1 y0 y1=true↔(((-100000≤x0∧x0≤x1)∧x1≤100000)∧x1-x0≤100)∧(((-100000≤y0∧y0≤y1)∧y1≤100000)∧y1-y0≤100):=by
 simp only[bK,Bool.and_eq_true,ile_iff,decide_eq_true_eq]
noncomputable def pts (x0 x1 y0 y1:Int):List tP.den:=ptsX y0 (y1-y0+1).toNat x0 (x1-x0+1).toNat
theorem movs_call (b:tBox.den) (hb:bK b.1.1 b.1.2.1 b.2.1.1 b.2.1.2.1=true):AnsF F1 72 [tBox.av b] (.vs tP false (pts b.1.1 b.1.2.1 b.2.1.1 b.2.1.2.1)):=by
 refine Ans.call (n:=6) (ext_none (by kernel_rfl)) (hasB_spec (by kernel_rfl)) (.stop (Z1_ok _) F1sy (movs_start b) ?_)
 obtain⟨x0,h0⟩:∃ x:Int,b.1.1=x:=⟨_,rfl⟩
 obtain⟨x1,h1⟩:∃ x:Int,b.1.2.1=x:=⟨_,rfl⟩
 obtain⟨y0,h2⟩:∃ x:Int,b.2.1.1=x:=⟨_,rfl⟩
 obtain⟨y1,h3⟩:∃ x:Int,b.2.1.2.1=x:=⟨_,rfl⟩
 rw[h0,h1,h2,h3,bK_iff] at hb
 rw[h0,h1,h2,h3]
 have a:=movs_step0 b x0 1048574
 have e:ile x0 x1=true:=by rw[ile_iff];simp;omega
 simp only[h1,e,cond_true] at a
 refine .stop (Z1_ok _) F1sy a ?_
 have g:=movs_step1 b x0 1048574 1048574
 have e1:ile y0 y1=true:=by rw[ile_iff];simp;omega
 simp only[h2,h3,e1,cond_true,wr_in (show -9223372036854775808≤y0+1 by omega) (by omega)] at g
 refine .stop (Z1_ok _) F1sy g ?_
 obtain⟨ny,hny⟩:∃ k:Nat,(y1-y0+1).toNat=k+1:=⟨(y1-y0).toNat,by omega⟩
 obtain⟨nx,hnx⟩:∃ k:Nat,(x1-x0+1).toNat=k+1:=⟨(x1-x0).toNat,by omega⟩
 have hmul:nx * (ny+1)≤100 * 101:=Nat.mul_le_mul (by omega) (by omega)
 have ih:=movs2 b y0 y1 h3 (by omega) x0 (by omega) (ptsX y0 (ny+1) (x0+1) nx) 1048574 (ny+1) (fun a ha=>movs3 b x1 y0 y1 (ny+1) h1 h2 h3 (by omega) (by omega) (by omega) (by omega) nx (x0+1) a 1048574 (by omega) (by omega) (by omega) (by omega)) (by omega) ny (y0+1) [(x0,y0,())] 1048574 (by omega) (by omega) (by omega) (by simp;omega)
 unfold pts
 rw[hny,hnx,ptsX,rowY]
 exact ih
end Go.Proofs.YtgaoajmlckgdaaaGreatDoor


set_option maxRecDepth 100000
namespace Go.Proofs.YtgaoajmlckgdaaaGreatDoor
open Go Go.Eng
noncomputable def rowoI0 (v:tView.den) (x:Int) (x3:Int) (x16:Int) (x17:Int) (x40:Nat):Cfg:=⟨.ex (pcOf F1 131 [0,0,1]) ⟨(tmOf 29 [(0,(.yld 5)),(1,(.ptr 4 0)),(6,(.vs tP (v.1.2.1.1) (v.1.2.1.2))),(7,(.int .i64 (Int.ofNat v.1.2.1.2.length))),(8,(.int .i64 x3))]),(hpOf 6 [(0,(.cells false [(.str (v.1.1)),(.vs tP (v.1.2.1.1) (v.1.2.1.2)),(.int .i64 (v.1.2.2.1.1.1)),(.int .i64 (v.1.2.2.1.1.2.1)),(.int .i64 (v.1.2.2.1.2.1.1)),(.int .i64 (v.1.2.2.1.2.1.2.1)),(.int .i64 (v.2.1.1)),(.int .i64 (v.2.1.2.1))])),(1,(.cells false [(.int .i64 (x))])),(2,(.cells false [(.int .i64 (0)),(.int .i64 (0))])),(3,(.cells false [(.int .i64 x16),(.int .i64 x17)])),(4,(.cells false [(.vs tP (v.1.2.1.1) (v.1.2.1.2))]))]),[],[⟨false,.normal⟩],29,false⟩,⟨9,[⟨5,43,10,(tmOf 43 [(0,(.agg [(.str (v.1.1)),(.vs tP (v.1.2.1.1) (v.1.2.1.2)),(.int .i64 (v.1.2.2.1.1.1)),(.int .i64 (v.1.2.2.1.1.2.1)),(.int .i64 (v.1.2.2.1.2.1.1)),(.int .i64 (v.1.2.2.1.2.1.2.1)),(.int .i64 (v.2.1.1)),(.int .i64 (v.2.1.2.1))])),(1,(.int .i64 (x))),(2,(.ptr 0 0)),(3,(.ptr 1 0)),(4,(.ptr 2 0)),(5,(.ptr 3 0)),(9,(.ptr 0 0)),(10,(.ptr 0 2)),(11,(.ptr 0 4)),(12,(.ptr 0 4)),(13,(.int .i64 (v.1.2.2.1.2.1.1))),(14,(.ptr 0 0)),(15,(.ptr 0 2)),(16,(.ptr 0 4)),(17,(.ptr 0 5)),(18,(.int .i64 (v.1.2.2.1.2.1.2.1))),(19,(.agg [(.int .i64 (v.1.2.2.1.2.1.1)),(.int .i64 (v.1.2.2.1.2.1.2.1))])),(20,(.ptr 0 0)),(21,(.ptr 0 1)),(22,(.vs tP (v.1.2.1.1) (v.1.2.1.2))),(23,(.fn 131 [] [(.ptr 4 0)]))]),#[24,25],(pcOf F1 106 [0,0,1,0,1,1]),(pcOf F1 106 [1,0,1,0,1,1])⟩]⟩,[(.lop (pcOf F1 131 [0,0,1]) 6 (tmOf 29 [(0,(.yld 5)),(1,(.ptr 4 0)),(6,(.vs tP (v.1.2.1.1) (v.1.2.1.2))),(7,(.int .i64 (Int.ofNat v.1.2.1.2.length))),(8,(.int .i64 (0)))]) x40),(.blk 0),(.cal [] (.rng (tmOf 43 [(0,(.agg [(.str (v.1.1)),(.vs tP (v.1.2.1.1) (v.1.2.1.2)),(.int .i64 (v.1.2.2.1.1.1)),(.int .i64 (v.1.2.2.1.1.2.1)),(.int .i64 (v.1.2.2.1.2.1.1)),(.int .i64 (v.1.2.2.1.2.1.2.1)),(.int .i64 (v.2.1.1)),(.int .i64 (v.2.1.2.1))])),(1,(.int .i64 (x))),(2,(.ptr 0 0)),(3,(.ptr 1 0)),(4,(.ptr 2 0)),(5,(.ptr 3 0)),(9,(.ptr 0 0)),(10,(.ptr 0 2)),(11,(.ptr 0 4)),(12,(.ptr 0 4)),(13,(.int .i64 (v.1.2.2.1.2.1.1))),(14,(.ptr 0 0)),(15,(.ptr 0 2)),(16,(.ptr 0 4)),(17,(.ptr 0 5)),(18,(.int .i64 (v.1.2.2.1.2.1.2.1))),(19,(.agg [(.int .i64 (v.1.2.2.1.2.1.1)),(.int .i64 (v.1.2.2.1.2.1.2.1))])),(20,(.ptr 0 0)),(21,(.ptr 0 1)),(22,(.vs tP (v.1.2.1.1) (v.1.2.1.2))),(23,(.fn 131 [] [(.ptr 4 0)]))]) [] 43 false ⟨10,[]⟩)),(.blk 0),(.seq (pcOf F1 106 [1,1,1])),(.cal [(.cell 4 155)] .top)]⟩
theorem rowo_start (v:tView.den) (x:Int):adv F1 (Z1 [106,131]) 3000 (startC F1 106 [tView.av v,.int .i64 x] 10)=some (.stop (rowoI0 v x (0) (v.1.2.2.1.2.1.1) (v.1.2.2.1.2.1.2.1) (1048575))):=by kernel_rfl
theorem rowo_step0 (v:tView.den) (x:Int) (x3:Int) (x16:Int) (x17:Int) (x40:Nat):adv F1 (Z1 [106,131]) 3000 (rowoI0 v x x3 x16 x17 (x40+1))=(let z1:=(wr .i64 ((v.1.2.1.2.getD ((wr .i64 (x3+1)).tmod ↑v.1.2.1.2.length).toNat tP.dflt).1-(v.1.2.1.2.getD x3.toNat tP.dflt).1));let z2:=(wr .i64 (wr .i64 (wr .i64 ((v.1.2.1.2.getD ((wr .i64 (x3+1)).tmod ↑v.1.2.1.2.length).toNat tP.dflt).1-(v.1.2.1.2.getD x3.toNat tP.dflt).1) * wr .i64 (v.2.1.2.1-(v.1.2.1.2.getD x3.toNat tP.dflt).2.1))-wr .i64 (wr .i64 ((v.1.2.1.2.getD ((wr .i64 (x3+1)).tmod ↑v.1.2.1.2.length).toNat tP.dflt).2.1-(v.1.2.1.2.getD x3.toNat tP.dflt).2.1) * wr .i64 (v.2.1.1-wr .i64 ((v.1.2.1.2.getD x3.toNat tP.dflt).1+x)))));let z3:=(wr .i64 ((v.1.2.1.2.getD ((wr .i64 (x3+1)).tmod ↑v.1.2.1.2.length).toNat tP.dflt).2.1-(v.1.2.1.2.getD x3.toNat tP.dflt).2.1));let z4:=(wr .i64 (0-wr .i64 ((v.1.2.1.2.getD ((wr .i64 (x3+1)).tmod ↑v.1.2.1.2.length).toNat tP.dflt).1-(v.1.2.1.2.getD x3.toNat tP.dflt).1)));let z5:=(wr .i64 ((v.1.2.1.2.getD x3.toNat tP.dflt).1+x));(bif !ile (Int.ofNat v.1.2.1.2.length) x3 then (bif inB x3 v.1.2.1.2.length then (bif ieq (↑v.1.2.1.2.length) 0 then none else (bif inB ((wr .i64 (x3+1)).tmod ↑v.1.2.1.2.length) v.1.2.1.2.length then (bif bbeq v.1.2.1.1 v.1.2.1.1 then (bif vsB tP v.1.2.1.2 tP v.1.2.1.2 then (bif bbeq v.1.2.1.1 v.1.2.1.1 then (bif vsB tP v.1.2.1.2 tP v.1.2.1.2 then (bif !ile z1 0 then (bif ieq z1 0 then none else (bif ieq z1 0 then none else (bif !ile 0 (z2.tmod z1) then (bif ieq x17 x17 then (bif ieq x17 x17 then (bif ieq v.2.1.1 v.2.1.1 then (bif ieq v.2.1.2.1 v.2.1.2.1 then (bif ieq z5 z5 then (bif ieq (v.1.2.1.2.getD x3.toNat tP.dflt).2.1 (v.1.2.1.2.getD x3.toNat tP.dflt).2.1 then (bif ieq z1 z1 then (bif ieq z3 z3 then (bif ieq z1 z1 then (bif ieq z3 z3 then (bif ieq z1 z1 then (bif ieq z1 z1 then (bif ieq z1 z1 then (bif ieq (v.1.2.1.2.getD ((wr .i64 (x3+1)).tmod ↑v.1.2.1.2.length).toNat tP.dflt).1 (v.1.2.1.2.getD ((wr .i64 (x3+1)).tmod ↑v.1.2.1.2.length).toNat tP.dflt).1 then (bif ieq (v.1.2.1.2.getD ((wr .i64 (x3+1)).tmod ↑v.1.2.1.2.length).toNat tP.dflt).2.1 (v.1.2.1.2.getD ((wr .i64 (x3+1)).tmod ↑v.1.2.1.2.length).toNat tP.dflt).2.1 then (bif ieq (v.1.2.1.2.getD x3.toNat tP.dflt).1 (v.1.2.1.2.getD x3.toNat tP.dflt).1 then (bif ieq (v.1.2.1.2.getD x3.toNat tP.dflt).2.1 (v.1.2.1.2.getD x3.toNat tP.dflt).2.1 then (bif ieq (v.1.2.1.2.getD x3.toNat tP.dflt).1 (v.1.2.1.2.getD x3.toNat tP.dflt).1 then (bif ieq (v.1.2.1.2.getD x3.toNat tP.dflt).2.1 (v.1.2.1.2.getD x3.toNat tP.dflt).2.1 then (bif ieq (v.1.2.1.2.getD x3.toNat tP.dflt).1 (v.1.2.1.2.getD x3.toNat tP.dflt).1 then (bif ieq (v.1.2.1.2.getD x3.toNat tP.dflt).2.1 (v.1.2.1.2.getD x3.toNat tP.dflt).2.1 then some (.stop (rowoI0 v x (wr .i64 (x3+1)) (x16) (bif ile x17 (wr .i64 (wr .i64 (z2.tdiv z1)-1)) then x17 else wr .i64 (wr .i64 (z2.tdiv z1)-1)) (x40))) else none) else none) else none) else none) else none) else none) else none) else none) else none) else none) else none) else none) else none) else none) else none) else none) else none) else none) else none) else none) else none) else (bif ieq x17 x17 then (bif ieq x17 x17 then (bif ieq v.2.1.1 v.2.1.1 then (bif ieq v.2.1.2.1 v.2.1.2.1 then (bif ieq z5 z5 then (bif ieq (v.1.2.1.2.getD x3.toNat tP.dflt).2.1 (v.1.2.1.2.getD x3.toNat tP.dflt).2.1 then (bif ieq z1 z1 then (bif ieq z3 z3 then (bif ieq z1 z1 then (bif ieq z3 z3 then (bif ieq z1 z1 then (bif ieq z1 z1 then (bif ieq z1 z1 then (bif ieq (v.1.2.1.2.getD ((wr .i64 (x3+1)).tmod ↑v.1.2.1.2.length).toNat tP.dflt).1 (v.1.2.1.2.getD ((wr .i64 (x3+1)).tmod ↑v.1.2.1.2.length).toNat tP.dflt).1 then (bif ieq (v.1.2.1.2.getD ((wr .i64 (x3+1)).tmod ↑v.1.2.1.2.length).toNat tP.dflt).2.1 (v.1.2.1.2.getD ((wr .i64 (x3+1)).tmod ↑v.1.2.1.2.length).toNat tP.dflt).2.1 then (bif ieq (v.1.2.1.2.getD x3.toNat tP.dflt).1 (v.1.2.1.2.getD x3.toNat tP.dflt).1 then (bif ieq (v.1.2.1.2.getD x3.toNat tP.dflt).2.1 (v.1.2.1.2.getD x3.toNat tP.dflt).2.1 then (bif ieq (v.1.2.1.2.getD x3.toNat tP.dflt).1 (v.1.2.1.2.getD x3.toNat tP.dflt).1 then (bif ieq (v.1.2.1.2.getD x3.toNat tP.dflt).2.1 (v.1.2.1.2.getD x3.toNat tP.dflt).2.1 then (bif ieq (v.1.2.1.2.getD x3.toNat tP.dflt).1 (v.1.2.1.2.getD x3.toNat tP.dflt).1 then (bif ieq (v.1.2.1.2.getD x3.toNat tP.dflt).2.1 (v.1.2.1.2.getD x3.toNat tP.dflt).2.1 then some (.stop (rowoI0 v x (wr .i64 (x3+1)) (x16) (bif ile x17 (wr .i64 (z2.tdiv z1)) then x17 else wr .i64 (z2.tdiv z1)) (x40))) else none) else none) else none) else none) else none) else none) else none) else none) else none) else none) else none) else none) else none) else none) else none) else none) else none) else none) else none) else none) else none)))) else (bif !ile 0 z1 then (bif ieq z4 0 then none else (bif ieq z4 0 then none else (bif !ile 0 (z2.tmod z4) then (bif ieq x16 x16 then (bif ieq x16 x16 then (bif ieq v.2.1.1 v.2.1.1 then (bif ieq v.2.1.2.1 v.2.1.2.1 then (bif ieq z5 z5 then (bif ieq (v.1.2.1.2.getD x3.toNat tP.dflt).2.1 (v.1.2.1.2.getD x3.toNat tP.dflt).2.1 then (bif ieq z1 z1 then (bif ieq z3 z3 then (bif ieq z1 z1 then (bif ieq z3 z3 then (bif ieq z1 z1 then (bif ieq z1 z1 then (bif ieq z1 z1 then (bif ieq (v.1.2.1.2.getD ((wr .i64 (x3+1)).tmod ↑v.1.2.1.2.length).toNat tP.dflt).1 (v.1.2.1.2.getD ((wr .i64 (x3+1)).tmod ↑v.1.2.1.2.length).toNat tP.dflt).1 then (bif ieq (v.1.2.1.2.getD ((wr .i64 (x3+1)).tmod ↑v.1.2.1.2.length).toNat tP.dflt).2.1 (v.1.2.1.2.getD ((wr .i64 (x3+1)).tmod ↑v.1.2.1.2.length).toNat tP.dflt).2.1 then (bif ieq (v.1.2.1.2.getD x3.toNat tP.dflt).1 (v.1.2.1.2.getD x3.toNat tP.dflt).1 then (bif ieq (v.1.2.1.2.getD x3.toNat tP.dflt).2.1 (v.1.2.1.2.getD x3.toNat tP.dflt).2.1 then (bif ieq (v.1.2.1.2.getD x3.toNat tP.dflt).1 (v.1.2.1.2.getD x3.toNat tP.dflt).1 then (bif ieq (v.1.2.1.2.getD x3.toNat tP.dflt).2.1 (v.1.2.1.2.getD x3.toNat tP.dflt).2.1 then (bif ieq (v.1.2.1.2.getD x3.toNat tP.dflt).1 (v.1.2.1.2.getD x3.toNat tP.dflt).1 then (bif ieq (v.1.2.1.2.getD x3.toNat tP.dflt).2.1 (v.1.2.1.2.getD x3.toNat tP.dflt).2.1 then some (.stop (rowoI0 v x (wr .i64 (x3+1)) (bif ile (wr .i64 (0-wr .i64 (wr .i64 (z2.tdiv z4)-1))) x16 then x16 else wr .i64 (0-wr .i64 (wr .i64 (z2.tdiv z4)-1))) (x17) (x40))) else none) else none) else none) else none) else none) else none) else none) else none) else none) else none) else none) else none) else none) else none) else none) else none) else none) else none) else none) else none) else none) else (bif ieq x16 x16 then (bif ieq x16 x16 then (bif ieq v.2.1.1 v.2.1.1 then (bif ieq v.2.1.2.1 v.2.1.2.1 then (bif ieq z5 z5 then (bif ieq (v.1.2.1.2.getD x3.toNat tP.dflt).2.1 (v.1.2.1.2.getD x3.toNat tP.dflt).2.1 then (bif ieq z1 z1 then (bif ieq z3 z3 then (bif ieq z1 z1 then (bif ieq z3 z3 then (bif ieq z1 z1 then (bif ieq z1 z1 then (bif ieq z1 z1 then (bif ieq (v.1.2.1.2.getD ((wr .i64 (x3+1)).tmod ↑v.1.2.1.2.length).toNat tP.dflt).1 (v.1.2.1.2.getD ((wr .i64 (x3+1)).tmod ↑v.1.2.1.2.length).toNat tP.dflt).1 then (bif ieq (v.1.2.1.2.getD ((wr .i64 (x3+1)).tmod ↑v.1.2.1.2.length).toNat tP.dflt).2.1 (v.1.2.1.2.getD ((wr .i64 (x3+1)).tmod ↑v.1.2.1.2.length).toNat tP.dflt).2.1 then (bif ieq (v.1.2.1.2.getD x3.toNat tP.dflt).1 (v.1.2.1.2.getD x3.toNat tP.dflt).1 then (bif ieq (v.1.2.1.2.getD x3.toNat tP.dflt).2.1 (v.1.2.1.2.getD x3.toNat tP.dflt).2.1 then (bif ieq (v.1.2.1.2.getD x3.toNat tP.dflt).1 (v.1.2.1.2.getD x3.toNat tP.dflt).1 then (bif ieq (v.1.2.1.2.getD x3.toNat tP.dflt).2.1 (v.1.2.1.2.getD x3.toNat tP.dflt).2.1 then (bif ieq (v.1.2.1.2.getD x3.toNat tP.dflt).1 (v.1.2.1.2.getD x3.toNat tP.dflt).1 then (bif ieq (v.1.2.1.2.getD x3.toNat tP.dflt).2.1 (v.1.2.1.2.getD x3.toNat tP.dflt).2.1 then some (.stop (rowoI0 v x (wr .i64 (x3+1)) (bif ile (wr .i64 (0-wr .i64 (z2.tdiv z4))) x16 then x16 else wr .i64 (0-wr .i64 (z2.tdiv z4))) (x17) (x40))) else none) else none) else none) else none) else none) else none) else none) else none) else none) else none) else none) else none) else none) else none) else none) else none) else none) else none) else none) else none) else none)))) else (bif !ile 0 z2 then (bif ieq v.2.1.1 v.2.1.1 then (bif ieq v.2.1.2.1 v.2.1.2.1 then (bif ieq z5 z5 then (bif ieq (v.1.2.1.2.getD x3.toNat tP.dflt).2.1 (v.1.2.1.2.getD x3.toNat tP.dflt).2.1 then (bif ieq z1 z1 then (bif ieq z3 z3 then (bif ieq z1 z1 then (bif ieq z3 z3 then (bif ieq z1 z1 then (bif ieq z1 z1 then (bif ieq z1 z1 then (bif ieq (v.1.2.1.2.getD ((wr .i64 (x3+1)).tmod ↑v.1.2.1.2.length).toNat tP.dflt).1 (v.1.2.1.2.getD ((wr .i64 (x3+1)).tmod ↑v.1.2.1.2.length).toNat tP.dflt).1 then (bif ieq (v.1.2.1.2.getD ((wr .i64 (x3+1)).tmod ↑v.1.2.1.2.length).toNat tP.dflt).2.1 (v.1.2.1.2.getD ((wr .i64 (x3+1)).tmod ↑v.1.2.1.2.length).toNat tP.dflt).2.1 then (bif ieq (v.1.2.1.2.getD x3.toNat tP.dflt).1 (v.1.2.1.2.getD x3.toNat tP.dflt).1 then (bif ieq (v.1.2.1.2.getD x3.toNat tP.dflt).2.1 (v.1.2.1.2.getD x3.toNat tP.dflt).2.1 then (bif ieq (v.1.2.1.2.getD x3.toNat tP.dflt).1 (v.1.2.1.2.getD x3.toNat tP.dflt).1 then (bif ieq (v.1.2.1.2.getD x3.toNat tP.dflt).2.1 (v.1.2.1.2.getD x3.toNat tP.dflt).2.1 then (bif ieq (v.1.2.1.2.getD x3.toNat tP.dflt).1 (v.1.2.1.2.getD x3.toNat tP.dflt).1 then (bif ieq (v.1.2.1.2.getD x3.toNat tP.dflt).2.1 (v.1.2.1.2.getD x3.toNat tP.dflt).2.1 then some (.stop (rowoI0 v x (wr .i64 (x3+1)) (x16) (wr .i64 (x16-1)) (x40))) else none) else none) else none) else none) else none) else none) else none) else none) else none) else none) else none) else none) else none) else none) else none) else none) else none) else none) else none) else (bif ieq v.2.1.1 v.2.1.1 then (bif ieq v.2.1.2.1 v.2.1.2.1 then (bif ieq z5 z5 then (bif ieq (v.1.2.1.2.getD x3.toNat tP.dflt).2.1 (v.1.2.1.2.getD x3.toNat tP.dflt).2.1 then (bif ieq z1 z1 then (bif ieq z3 z3 then (bif ieq z1 z1 then (bif ieq z3 z3 then (bif ieq z1 z1 then (bif ieq z1 z1 then (bif ieq z1 z1 then (bif ieq (v.1.2.1.2.getD ((wr .i64 (x3+1)).tmod ↑v.1.2.1.2.length).toNat tP.dflt).1 (v.1.2.1.2.getD ((wr .i64 (x3+1)).tmod ↑v.1.2.1.2.length).toNat tP.dflt).1 then (bif ieq (v.1.2.1.2.getD ((wr .i64 (x3+1)).tmod ↑v.1.2.1.2.length).toNat tP.dflt).2.1 (v.1.2.1.2.getD ((wr .i64 (x3+1)).tmod ↑v.1.2.1.2.length).toNat tP.dflt).2.1 then (bif ieq (v.1.2.1.2.getD x3.toNat tP.dflt).1 (v.1.2.1.2.getD x3.toNat tP.dflt).1 then (bif ieq (v.1.2.1.2.getD x3.toNat tP.dflt).2.1 (v.1.2.1.2.getD x3.toNat tP.dflt).2.1 then (bif ieq (v.1.2.1.2.getD x3.toNat tP.dflt).1 (v.1.2.1.2.getD x3.toNat tP.dflt).1 then (bif ieq (v.1.2.1.2.getD x3.toNat tP.dflt).2.1 (v.1.2.1.2.getD x3.toNat tP.dflt).2.1 then (bif ieq (v.1.2.1.2.getD x3.toNat tP.dflt).1 (v.1.2.1.2.getD x3.toNat tP.dflt).1 then (bif ieq (v.1.2.1.2.getD x3.toNat tP.dflt).2.1 (v.1.2.1.2.getD x3.toNat tP.dflt).2.1 then some (.stop (rowoI0 v x (wr .i64 (x3+1)) (x16) (x17) (x40))) else none) else none) else none) else none) else none) else none) else none) else none) else none) else none) else none) else none) else none) else none) else none) else none) else none) else none) else none)))) else none) else none) else none) else none) else none)) else none) else some (.done (.agg [(.int .i64 (x16)),(.int .i64 (x17))])))):=by kernel_rfl
noncomputable def liesI0 (s:tSand.den) (mv pt:tP.den) (x14:Int) (x45:Nat):Cfg:=⟨.ex (pcOf F1 46 [0,0,1,0,1,1]) ⟨(tmOf 42 [(0,(.agg [(.str (s.1)),(.vs tP (s.2.1.1) (s.2.1.2)),(.int .i64 (s.2.2.1.1.1)),(.int .i64 (s.2.2.1.1.2.1)),(.int .i64 (s.2.2.1.2.1.1)),(.int .i64 (s.2.2.1.2.1.2.1))])),(1,(.agg [(.int .i64 (mv.1)),(.int .i64 (mv.2.1))])),(2,(.agg [(.int .i64 (pt.1)),(.int .i64 (pt.2.1))])),(3,(.ptr 0 0)),(4,(.ptr 1 0)),(5,(.ptr 2 0)),(6,(.bool (false))),(7,(.vs tP (s.2.1.1) (s.2.1.2))),(8,(.int .i64 x14)),(10,(.ptr 0 1)),(11,(.vs tP (s.2.1.1) (s.2.1.2)))]),(hpOf 3 [(0,(.cells false [(.str (s.1)),(.vs tP (s.2.1.1) (s.2.1.2)),(.int .i64 (s.2.2.1.1.1)),(.int .i64 (s.2.2.1.1.2.1)),(.int .i64 (s.2.2.1.2.1.1)),(.int .i64 (s.2.2.1.2.1.2.1))])),(1,(.cells false [(.int .i64 (mv.1)),(.int .i64 (mv.2.1))])),(2,(.cells false [(.int .i64 (pt.1)),(.int .i64 (pt.2.1))]))]),[],[],42,false⟩,⟨6,[]⟩,[(.lop (pcOf F1 46 [0,0,1,0,1,1]) 3 (tmOf 42 [(0,(.agg [(.str (s.1)),(.vs tP (s.2.1.1) (s.2.1.2)),(.int .i64 (s.2.2.1.1.1)),(.int .i64 (s.2.2.1.1.2.1)),(.int .i64 (s.2.2.1.2.1.1)),(.int .i64 (s.2.2.1.2.1.2.1))])),(1,(.agg [(.int .i64 (mv.1)),(.int .i64 (mv.2.1))])),(2,(.agg [(.int .i64 (pt.1)),(.int .i64 (pt.2.1))])),(3,(.ptr 0 0)),(4,(.ptr 1 0)),(5,(.ptr 2 0)),(6,(.bool (false))),(7,(.vs tP (s.2.1.1) (s.2.1.2))),(8,(.int .i64 (0))),(10,(.ptr 0 1)),(11,(.vs tP (s.2.1.1) (s.2.1.2)))]) x45),(.blk 0),(.seq (pcOf F1 46 [1,1,1])),(.cal [(.tmp 6)] .top)]⟩
theorem lies_start (s:tSand.den) (mv pt:tP.den):adv F1 (Z1 [46]) 3000 (startC F1 46 [tSand.av s,tP.av mv,tP.av pt] 6)=some (.stop (liesI0 s mv pt (0) (1048575))):=by kernel_rfl
theorem lies_step0 (s:tSand.den) (mv pt:tP.den) (x14:Int) (x45:Nat):adv F1 (Z1 [46]) 3000 (liesI0 s mv pt x14 (x45+1))=(bif !ile (↑s.2.1.2.length) x14 then (bif ieq (↑s.2.1.2.length) 0 then none else (bif inB ((wr .i64 (x14+1)).tmod ↑s.2.1.2.length) s.2.1.2.length then (bif inB x14 s.2.1.2.length then (bif inB x14 s.2.1.2.length then (bif ieq mv.1 mv.1 then (bif ieq mv.2.1 mv.2.1 then (bif ieq mv.1 mv.1 then (bif ieq mv.2.1 mv.2.1 then (bif ieq pt.1 pt.1 then (bif ieq pt.2.1 pt.2.1 then (bif ieq pt.1 pt.1 then (bif ieq pt.2.1 pt.2.1 then (bif !ile 0 (wr .i64 (wr .i64 (wr .i64 ((s.2.1.2.getD ((wr .i64 (x14+1)).tmod ↑s.2.1.2.length).toNat tP.dflt).1-(s.2.1.2.getD x14.toNat tP.dflt).1) * wr .i64 (wr .i64 (pt.2.1-mv.2.1)-(s.2.1.2.getD x14.toNat tP.dflt).2.1))-wr .i64 (wr .i64 ((s.2.1.2.getD ((wr .i64 (x14+1)).tmod ↑s.2.1.2.length).toNat tP.dflt).2.1-(s.2.1.2.getD x14.toNat tP.dflt).2.1) * wr .i64 (wr .i64 (pt.1-mv.1)-(s.2.1.2.getD x14.toNat tP.dflt).1)))) then some (.done (.bool (false))) else some (.stop (liesI0 s mv pt (wr .i64 (x14+1)) (x45)))) else none) else none) else none) else none) else none) else none) else none) else none) else none) else none) else none)) else some (.done (.bool (true)))):=by kernel_rfl
theorem tdiv_floor {a b:Int} (hb:0<b):(a.tmod b<0→a.tdiv b-1=a / b)∧(¬ a.tmod b<0→a.tdiv b=a / b):=by
 by_cases ha:0≤a
 · have h1 : a.tdiv b = a / b := Int.tdiv_eq_ediv_of_nonneg ha
   have h2:a.tmod b=a % b:=Int.tmod_eq_emod_of_nonneg ha
   have h3:=Int.emod_nonneg a (show b≠0 by omega)
   exact⟨fun h=>by omega,fun _=>h1⟩
 · obtain ⟨m, rfl⟩ : ∃ m : Int, a = -m := ⟨-a, by omega⟩
   have h1:(-m).tdiv b=-(m / b):=by rw[Int.neg_tdiv,Int.tdiv_eq_ediv_of_nonneg (by omega)]
   have h2:(-m).tmod b=-(m % b):=by rw[Int.neg_tmod,Int.tmod_eq_emod_of_nonneg (by omega)]
   have h3:=Int.emod_nonneg m (show b≠0 by omega)
   have h4:=Int.emod_lt_of_pos m hb
   have h5:=Int.mul_ediv_add_emod m b
   rw[h1,h2]
   constructor
   · intro h
     have:=((Int.ediv_emod_unique hb (a:=-m) (q:=-(m / b)-1) (r:=b-m % b)).2 ⟨by rw[Int.mul_sub,Int.mul_neg,Int.mul_one];omega,by omega,by omega⟩).1
     exact this.symm
   · intro h
     have:=((Int.ediv_emod_unique hb (a:=-m) (q:=-(m / b)) (r:=0)).2 ⟨by rw[Int.mul_neg];omega,by omega,by omega⟩).1
     exact this.symm
noncomputable def cutF (lo hi a l:Int):Int×Int:=bif !ile a 0 then (lo,bif ile hi (l / a) then hi else l / a) else (bif !ile 0 a then (bif ile (-(l / (-a))) lo then lo else -(l / (-a)),hi) else (bif !ile 0 l then (lo,lo-1) else (lo,hi)))
theorem cut_mem {lo hi a l y:Int}:((cutF lo hi a l).1≤y∧y≤(cutF lo hi a l).2)↔(lo≤y∧y≤hi)∧a * y≤l:=by
 unfold cutF
 cases h1:ile a 0 with
 | false =>
  rw[ile_iff] at h1
  simp only[decide_eq_false_iff_not] at h1
  have ha:0<a:=by omega
  have key:y≤l / a↔a * y≤l:=by rw[Int.le_ediv_iff_mul_le ha,Int.mul_comm]
  simp only[Bool.not_false,cond_true]
  cases h2:ile hi (l / a) with
  |true=>
   rw[ile_iff] at h2
   simp only[decide_eq_true_eq] at h2
   simp only[cond_true]
   rw[← key];omega
  |false=>
   rw[ile_iff] at h2
   simp only[decide_eq_false_iff_not] at h2
   simp only[cond_false]
   rw[← key];omega
 | true =>
  rw[ile_iff] at h1
  simp only[decide_eq_true_eq] at h1
  simp only[Bool.not_true,cond_false]
  cases h2:ile 0 a with
  | false =>
   rw[ile_iff] at h2
   simp only[decide_eq_false_iff_not] at h2
   have ha:0 < -a:=by omega
   have key:-(l / (-a))≤y↔a * y≤l:=by
    rw[show (-(l / (-a))≤y)↔(-y≤l / (-a)) by omega,Int.le_ediv_iff_mul_le ha,Int.neg_mul_neg,Int.mul_comm]
   simp only[Bool.not_false,cond_true]
   cases h3:ile (-(l / (-a))) lo with
   |true=>
    rw[ile_iff] at h3
    simp only[decide_eq_true_eq] at h3
    simp only[cond_true]
    rw[← key];omega
   |false=>
    rw[ile_iff] at h3
    simp only[decide_eq_false_iff_not] at h3
    simp only[cond_false]
    rw[← key];omega
  | true =>
   rw[ile_iff] at h2
   simp only[decide_eq_true_eq] at h2
   have:a=0:=by omega
   subst this
   simp only[Bool.not_true,cond_false]
   cases h3:ile 0 l with
   |false=>
    rw[ile_iff] at h3
    simp only[decide_eq_false_iff_not] at h3
    simp only[Bool.not_false,cond_true,Int.zero_mul]
    omega
   |true=>
    rw[ile_iff] at h3
    simp only[decide_eq_true_eq] at h3
    simp only[Bool.not_true,cond_false,Int.zero_mul]
    omega
noncomputable def gx (C:List tP.den) (k:Nat):Int:=(C.getD k tP.dflt).1
noncomputable def gy (C:List tP.den) (k:Nat):Int:=(C.getD k tP.dflt).2.1
noncomputable def sA (C:List tP.den) (k:Nat):Int:=gx C ((k+1) % C.length)-gx C k
noncomputable def sB (C:List tP.den) (k:Nat):Int:=gy C ((k+1) % C.length)-gy C k
noncomputable def sL (C:List tP.den) (k:Nat) (dx dy:Int):Int:=sA C k * (dy-gy C k)-sB C k * (dx-gx C k)
noncomputable def rowsF (C:List tP.den) (fx fy x:Int):Int→Int→Nat→Nat→Int×Int
 |lo,hi,_,0=>(lo,hi)
 |lo,hi,k,r+1=>rowsF C fx fy x (cutF lo hi (sA C k) (sL C k (fx-x) fy)).1 (cutF lo hi (sA C k) (sL C k (fx-x) fy)).2 (k+1) r
noncomputable def agg2 (r:Int×Int):AV:=.agg [.int .i64 r.1,.int .i64 r.2]
def inC (C:List tP.den):Prop:=∀ k,k<C.length→(-10000≤gx C k∧gx C k≤10000)∧-10000≤gy C k∧gy C k≤10000
theorem div_b {l a:Int} (ha:0<a) (h1:-1200000000≤l) (h2:l≤1200000000):-1200000000≤l / a∧l / a≤1200000000:=by
 constructor
 · rw[Int.le_ediv_iff_mul_le ha];omega
 · have : l / a < 1200000001 := by rw [Int.ediv_lt_iff_lt_mul ha]; omega
   omega
theorem cut_b {lo hi a l:Int} (h1:-1200000000≤l) (h2:l≤1200000000) (h3:-1000≤lo∧lo≤1200000000) (h4:-1200000001≤hi∧hi≤1200000000):(-1000≤(cutF lo hi a l).1∧(cutF lo hi a l).1≤1200000000)∧-1200000001≤(cutF lo hi a l).2∧(cutF lo hi a l).2≤1200000000:=by
 unfold cutF
 cases e1:ile a 0 with
 |false=>
  rw[ile_iff] at e1
  simp only[decide_eq_false_iff_not] at e1
  have:=div_b (l:=l) (a:=a) (by omega) h1 h2
  simp only[Bool.not_false,cond_true]
  cases e2:ile hi (l / a)<;>(rw[ile_iff] at e2;simp at e2;simp only[cond_true,cond_false];omega)
 | true =>
  simp only[Bool.not_true,cond_false]
  cases e2:ile 0 a with
  |false=>
   rw[ile_iff] at e2
   simp only[decide_eq_false_iff_not] at e2
   have:=div_b (l:=l) (a:=-a) (by omega) h1 h2
   simp only[Bool.not_false,cond_true]
   cases e3:ile (-(l / -a)) lo<;>(rw[ile_iff] at e3;simp only[decide_eq_true_eq,decide_eq_false_iff_not] at e3;simp only[cond_true,cond_false];omega)
  |true=>
   simp only[Bool.not_true,cond_false]
   cases e3:ile 0 l<;>simp only[Bool.not_true,Bool.not_false,cond_true,cond_false]<;>omega
theorem side_b {C:List tP.den} (hC:inC C) {k:Nat} (hk:k<C.length) {dx dy:Int} (hx:-20000≤dx∧dx≤20000) (hy:-20000≤dy∧dy≤20000):((-20000≤sA C k∧sA C k≤20000)∧-20000≤sB C k∧sB C k≤20000) ∧
  (-600000000≤sA C k * (dy-gy C k)∧sA C k * (dy-gy C k)≤600000000)∧-600000000≤sB C k * (dx-gx C k)∧sB C k * (dx-gx C k)≤600000000:=by
 have h1:=hC k hk
 have h2:=hC ((k+1) % C.length) (Nat.mod_lt _ (by omega))
 have a:(-20000≤sA C k∧sA C k≤20000)∧-20000≤sB C k∧sB C k≤20000:=by unfold sA sB;omega
 have p:=mul_b (a:=sA C k) (b:=dy-gy C k) (m:=20000) (n:=30000) (by omega) (by omega) (by omega) (by omega)
 have q:=mul_b (a:=sB C k) (b:=dx-gx C k) (m:=20000) (n:=30000) (by omega) (by omega) (by omega) (by omega)
 exact⟨a,by omega,by omega⟩
theorem nxt_at {k n:Nat}:((k+1:Nat):Int).tmod (n:Int)=(((k+1) % n:Nat):Int):=by
 rw[Int.tmod_eq_emod_of_nonneg (by omega)];rfl
theorem nat_to (k:Nat):(k:Int).toNat=k:=Int.toNat_natCast k
theorem rowo_ans (v:tView.den) (x fx fy:Int) (C:List tP.den) (hC:v.1.2.1.2=C) (hfx:v.2.1.1=fx) (hfy:v.2.1.2.1=fy) (hi8:C.length<1000) (hin:inC C) (bx:-500≤x∧x≤500) (bfx:-10000≤fx∧fx≤10000) (bfy:-10000≤fy∧fy≤10000) :
  ∀ (r k m:Nat) (lo hi:Int),k+r=C.length→r<m→(-1000≤lo∧lo≤1200000000)→(-1200000001≤hi∧hi≤1200000000)→Ans F1 (rowoI0 v x k lo hi m) (agg2 (rowsF C fx fy x lo hi k r))
 |0,k,m+1,lo,hi,hk,hm,bl,bh=>by
  have h:=rowo_step0 v x k lo hi m
  simp only[hC,Int.ofNat_eq_natCast,ile_ge (show C.length≤k by omega),Bool.not_true,cond_false] at h
  exact .done (Z1_ok _) F1sy h rfl
 | r + 1, k, m + 1, lo, hi, hk, hm, bl, bh => by
  have h:=rowo_step0 v x k lo hi m
  have hlt:k<C.length:=by omega
  have hq:(k+1) % C.length<C.length:=Nat.mod_lt _ (by omega)
  have hne:ieq (C.length:Int) 0=false:=by rw[ieq_iff];exact decide_eq_false (by omega)
  have s:=side_b hin hlt (dx:=fx-x) (dy:=fy) (by omega) (by omega)
  have hb1:=hin k hlt
  have hb2:=hin _ hq
  rw[rowsF]
  generalize hL:sL C k (fx-x) fy=L
  generalize hA:sA C k=A
  have hAe:gx C ((k+1) % C.length)-gx C k=A:=hA
  have hLe:A * (fy-gy C k)-sB C k * (fx-x-gx C k)=L:=by rw[← hA];exact hL
  have hBe:gy C ((k+1) % C.length)-gy C k=sB C k:=rfl
  rw[hA] at s
  simp only[hC,hfx,hfy,Int.ofNat_eq_natCast,ile_lt hlt,inB_at hlt,nxt_at,inB_at hq,hne,nat_to,ieq_self,bbeq_self,vsB_self,wr_succ (show k<1048577 by omega),Bool.not_false,cond_true,cond_false] at h
  have f1:∀ j,(C.getD j tP.dflt).1=gx C j:=fun j=>rfl
  have f2:∀ j,(C.getD j tP.dflt).2.1=gy C j:=fun j=>rfl
  simp only[f1,f2] at h
  have w1:wr .i64 (gx C ((k+1) % C.length)-gx C k)=A:=by rw[wr_in (by omega) (by omega)];exact hAe
  have w2:wr .i64 (gy C ((k+1) % C.length)-gy C k)=sB C k:=by rw[wr_in (by omega) (by omega)];rfl
  have w3:wr .i64 (gx C k+x)=gx C k+x:=wr_in (by omega) (by omega)
  have w4:wr .i64 (fx-(gx C k+x))=fx-x-gx C k:=by rw[wr_in (by omega) (by omega)];omega
  have w5:wr .i64 (fy-gy C k)=fy-gy C k:=wr_in (by omega) (by omega)
  have w6:wr .i64 (A * (fy-gy C k))=A * (fy-gy C k):=wr_in (by omega) (by omega)
  have w7:wr .i64 (sB C k * (fx-x-gx C k))=sB C k * (fx-x-gx C k):=wr_in (by omega) (by omega)
  have w8:wr .i64 (A * (fy-gy C k)-sB C k * (fx-x-gx C k))=L:=by rw[wr_in (by omega) (by omega)];exact hLe
  have w9:wr .i64 (0-A)=-A:=by rw[wr_in (by omega) (by omega)];omega
  simp only[w1,w2,w3,w4,w5,w6,w7,w8,w9] at h
  have bL:-1200000000≤L∧L≤1200000000:=by omega
  have cb:=cut_b (a:=A) bL.1 bL.2 bl bh
  have ih:=rowo_ans v x fx fy C hC hfx hfy hi8 hin bx bfx bfy r (k+1) m (cutF lo hi A L).1 (cutF lo hi A L).2 (by omega) (by omega) cb.1 cb.2
  refine .stop (Z1_ok [106,131]) F1sy (n:=3000) ?_ ih
  rw[h]
  clear h ih cb
  unfold cutF
  cases e1:ile A 0 with
  | false =>
   rw[ile_iff] at e1
   simp only[decide_eq_false_iff_not] at e1
   have ha:0<A:=by omega
   have z1:ieq A 0=false:=by rw[ieq_iff];simp;omega
   have db:=div_b ha bL.1 bL.2
   obtain⟨t1,t2⟩:=tdiv_floor (a:=L) ha
   simp only[z1,Bool.not_false,cond_true,cond_false]
   cases e2:ile 0 (L.tmod A) with
   |false=>
    rw[ile_iff] at e2
    simp only[decide_eq_false_iff_not] at e2
    have t:=t1 (by omega)
    have w:wr .i64 (wr .i64 (L.tdiv A)-1)=L / A:=by rw[wr_in (n:=L.tdiv A) (by omega) (by omega),wr_in (by omega) (by omega)];exact t
    simp only[w,Bool.not_false,cond_true]
   |true=>
    rw[ile_iff] at e2
    simp only[decide_eq_true_eq] at e2
    have t:=t2 (by omega)
    have w:wr .i64 (L.tdiv A)=L / A:=by rw[wr_in (by omega) (by omega)];exact t
    simp only[w,Bool.not_true,cond_false]
  | true =>
   simp only[Bool.not_true,cond_false]
   cases e3:ile 0 A with
   | false =>
    rw[ile_iff] at e3
    simp only[decide_eq_false_iff_not] at e3
    have ha:0 < -A:=by omega
    have z1:ieq (-A) 0=false:=by rw[ieq_iff];simp;omega
    have db:=div_b ha bL.1 bL.2
    obtain⟨t1,t2⟩:=tdiv_floor (a:=L) ha
    simp only[z1,Bool.not_false,cond_true,cond_false]
    cases e2:ile 0 (L.tmod (-A)) with
    |false=>
     rw[ile_iff] at e2
     simp only[decide_eq_false_iff_not] at e2
     have t:=t1 (by omega)
     have w:wr .i64 (wr .i64 (L.tdiv (-A))-1)=L / (-A):=by rw[wr_in (n:=L.tdiv (-A)) (by omega) (by omega),wr_in (by omega) (by omega)];exact t
     have w':wr .i64 (0-L / (-A))=-(L / (-A)):=by rw[wr_in (by omega) (by omega)];omega
     simp only[w,w',Bool.not_false,cond_true]
    |true=>
     rw[ile_iff] at e2
     simp only[decide_eq_true_eq] at e2
     have t:=t2 (by omega)
     have w:wr .i64 (L.tdiv (-A))=L / (-A):=by rw[wr_in (by omega) (by omega)];exact t
     have w':wr .i64 (0-L / (-A))=-(L / (-A)):=by rw[wr_in (by omega) (by omega)];omega
     simp only[w,w',Bool.not_true,cond_false]
   |true=>
    simp only[Bool.not_true,cond_false]
    have w:wr .i64 (lo-1)=lo-1:=wr_in (by omega) (by omega)
    cases e2:ile 0 L<;>simp only[w,Bool.not_true,Bool.not_false,cond_true,cond_false]
noncomputable def cOK (C:List tP.den):Bool:=Nat.ble C.length 100&&C.all inP
theorem cOK_in {C:List tP.den} (h:cOK C=true):C.length≤100∧inC C:=by
 unfold cOK at h
 rw[Bool.and_eq_true] at h
 refine⟨Nat.le_of_ble_eq_true h.1,fun k hk=>?_⟩
 have hm:=List.all_eq_true.1 h.2 (C.getD k tP.dflt) (by simp[hk])
 have hm:inP (C.getD k tP.dflt)=true:=hm
 simp only[inP,Bool.and_eq_true,ile_iff,decide_eq_true_eq] at hm
 show (-10000≤(C.getD k tP.dflt).1∧(C.getD k tP.dflt).1≤10000)∧-10000≤(C.getD k tP.dflt).2.1∧(C.getD k tP.dflt).2.1≤10000
 exact⟨⟨hm.1.1.1,hm.1.1.2⟩,hm.1.2,hm.2⟩
noncomputable def in5 (x:Int):Bool:=ile (-500) x&&ile x 500
theorem in5_iff {x:Int}:in5 x=true↔-500≤x∧x≤500:=by simp only[in5,Bool.and_eq_true,ile_iff,decide_eq_true_eq]
noncomputable def in10 (x:Int):Bool:=ile (-10000) x&&ile x 10000
theorem in10_iff {x:Int}:in10 x=true↔-10000≤x∧x≤10000:=by simp only[in10,Bool.and_eq_true,ile_iff,decide_eq_true_eq]
theorem rowo_call (v:tView.den) (x:Int) (hC:cOK v.1.2.1.2=true) (hx:in5 x=true) (h1:in10 v.2.1.1=true) (h2:in10 v.2.1.2.1=true) (h3:in5 v.1.2.2.1.2.1.1=true) (h4:in5 v.1.2.2.1.2.1.2.1=true) :
  AnsF F1 106 [tView.av v,.int .i64 x] (agg2 (rowsF v.1.2.1.2 v.2.1.1 v.2.1.2.1 x v.1.2.2.1.2.1.1 v.1.2.2.1.2.1.2.1 0 v.1.2.1.2.length)):=by
 obtain⟨a,b⟩:=cOK_in hC
 rw[in5_iff] at hx
 refine Ans.call (n:=10) (ext_none (by kernel_rfl)) (hasB_spec (by kernel_rfl)) (.stop (Z1_ok _) F1sy (rowo_start v x) ?_)
 obtain⟨fx,hfx⟩:∃ y:Int,v.2.1.1=y:=⟨_,rfl⟩
 obtain⟨fy,hfy⟩:∃ y:Int,v.2.1.2.1=y:=⟨_,rfl⟩
 obtain⟨lo,hlo⟩:∃ y:Int,v.1.2.2.1.2.1.1=y:=⟨_,rfl⟩
 obtain⟨hi,hhi⟩:∃ y:Int,v.1.2.2.1.2.1.2.1=y:=⟨_,rfl⟩
 rw[hfx,in10_iff] at h1;rw[hfy,in10_iff] at h2;rw[hlo,in5_iff] at h3;rw[hhi,in5_iff] at h4
 rw[hfx,hfy,hlo,hhi]
 exact rowo_ans v x fx fy _ rfl hfx hfy (by omega) b hx h1 h2 _ 0 1048575 lo hi (by omega) (by omega) (by omega) (by omega)
noncomputable def liesF (C:List tP.den) (dx dy:Int):Nat→Nat→Bool
 |_,0=>true
 |k,r+1=>bif ile 0 (sL C k dx dy) then liesF C dx dy (k+1) r else false
theorem lies_ans (s:tSand.den) (mv pt:tP.den) (mx my px py:Int) (C:List tP.den) (hC:s.2.1.2=C) (h1:mv.1=mx) (h2:mv.2.1=my) (h3:pt.1=px) (h4:pt.2.1=py) (hi8:C.length<1000) (hin:inC C) (b1:-500≤mx∧mx≤500) (b2:-500≤my∧my≤500) (b3:-10000≤px∧px≤10000) (b4:-10000≤py∧py≤10000) :
  ∀ (r k m:Nat),k+r=C.length→r<m→Ans F1 (liesI0 s mv pt k m) (.bool (liesF C (px-mx) (py-my) k r))
 |0,k,m+1,hk,hm=>by
  have h:=lies_step0 s mv pt k m
  simp only[hC,ile_ge (show C.length≤k by omega),Bool.not_true,cond_false] at h
  exact .doneB (Z1_ok _) F1sy h rfl
 | r + 1, k, m + 1, hk, hm => by
  have h:=lies_step0 s mv pt k m
  have hlt:k<C.length:=by omega
  have hq:(k+1) % C.length<C.length:=Nat.mod_lt _ (by omega)
  have hne:ieq (C.length:Int) 0=false:=by rw[ieq_iff];exact decide_eq_false (by omega)
  have s:=side_b hin hlt (dx:=px-mx) (dy:=py-my) (by omega) (by omega)
  have hb1:=hin k hlt
  have hb2:=hin _ hq
  rw[liesF]
  generalize hL:sL C k (px-mx) (py-my)=L
  generalize hA:sA C k=A at s
  have hAe:gx C ((k+1) % C.length)-gx C k=A:=hA
  have hLe:A * (py-my-gy C k)-sB C k * (px-mx-gx C k)=L:=by rw[← hA];exact hL
  have hBe:gy C ((k+1) % C.length)-gy C k=sB C k:=rfl
  simp only[hC,h1,h2,h3,h4,ile_lt hlt,inB_at hlt,nxt_at,inB_at hq,hne,nat_to,ieq_self,bbeq_self,vsB_self,wr_succ (show k<1048577 by omega),Bool.not_false,cond_true,cond_false] at h
  have f1:∀ j,(C.getD j tP.dflt).1=gx C j:=fun j=>rfl
  have f2:∀ j,(C.getD j tP.dflt).2.1=gy C j:=fun j=>rfl
  simp only[f1,f2] at h
  have w1:wr .i64 (gx C ((k+1) % C.length)-gx C k)=A:=by rw[wr_in (by omega) (by omega)];exact hAe
  have w2:wr .i64 (gy C ((k+1) % C.length)-gy C k)=sB C k:=by rw[wr_in (by omega) (by omega)];rfl
  have w3:wr .i64 (px-mx)=px-mx:=wr_in (by omega) (by omega)
  have w3':wr .i64 (py-my)=py-my:=wr_in (by omega) (by omega)
  have w4:wr .i64 (px-mx-gx C k)=px-mx-gx C k:=wr_in (by omega) (by omega)
  have w5:wr .i64 (py-my-gy C k)=py-my-gy C k:=wr_in (by omega) (by omega)
  have w6:wr .i64 (A * (py-my-gy C k))=A * (py-my-gy C k):=wr_in (by omega) (by omega)
  have w7:wr .i64 (sB C k * (px-mx-gx C k))=sB C k * (px-mx-gx C k):=wr_in (by omega) (by omega)
  have w8:wr .i64 (A * (py-my-gy C k)-sB C k * (px-mx-gx C k))=L:=by rw[wr_in (by omega) (by omega)];exact hLe
  simp only[w1,w2,w3,w3',w4,w5,w6,w7,w8] at h
  cases e:ile 0 L with
  |true=>
   simp only[e,Bool.not_true,cond_true,cond_false] at h⊢
   exact .stop (Z1_ok _) F1sy h (lies_ans _ mv pt mx my px py C hC h1 h2 h3 h4 hi8 hin b1 b2 b3 b4 r (k+1) m (by omega) (by omega))
  |false=>
   simp only[e,Bool.not_false,cond_true,cond_false] at h⊢
   exact .doneB (Z1_ok _) F1sy h rfl
theorem lies_call (s:tSand.den) (mv pt:tP.den) (hC:cOK s.2.1.2=true) (h1:in5 mv.1=true) (h2:in5 mv.2.1=true) (h3:in10 pt.1=true) (h4:in10 pt.2.1=true) :
  AnsF F1 46 [tSand.av s,tP.av mv,tP.av pt] (.bool (liesF s.2.1.2 (pt.1-mv.1) (pt.2.1-mv.2.1) 0 s.2.1.2.length)):=by
 obtain⟨a,b⟩:=cOK_in hC
 refine Ans.call (n:=6) (ext_none (by kernel_rfl)) (hasB_spec (by kernel_rfl)) (.stop (Z1_ok _) F1sy (lies_start s mv pt) ?_)
 exact lies_ans s mv pt mv.1 mv.2.1 pt.1 pt.2.1 _ rfl rfl rfl rfl rfl (by omega) b (in5_iff.1 h1) (in5_iff.1 h2) (in10_iff.1 h3) (in10_iff.1 h4) _ 0 1048575 (by omega) (by omega)
end Go.Proofs.YtgaoajmlckgdaaaGreatDoor


set_option maxRecDepth 100000
namespace Go.Proofs.YtgaoajmlckgdaaaGreatDoor
open Go Go.Eng
noncomputable def rowX:List AV→Option (Bool×AV):=con2 tView tI (fun v x=>cOK v.1.2.1.2&&in5 x&&in10 v.2.1.1&&in10 v.2.1.2.1&&in5 v.1.2.2.1.2.1.1&&in5 v.1.2.2.1.2.1.2.1) (fun v x=>agg2 (rowsF v.1.2.1.2 v.2.1.1 v.2.1.2.1 x v.1.2.2.1.2.1.1 v.1.2.2.1.2.1.2.1 0 v.1.2.1.2.length))
noncomputable def lieX:List AV→Option (Bool×AV):=con3 tSand tP tP (fun s mv pt=>cOK s.2.1.2&&in5 mv.1&&in5 mv.2.1&&in10 pt.1&&in10 pt.2.1) (fun s mv pt=>.bool (liesF s.2.1.2 (pt.1-mv.1) (pt.2.1-mv.2.1) 0 s.2.1.2.length))
noncomputable def movX:List AV→Option (Bool×AV):=con1 tBox (fun b=>bK b.1.1 b.1.2.1 b.2.1.1 b.2.1.2.1) (fun b=>.vs tP false (pts b.1.1 b.1.2.1 b.2.1.1 b.2.1.2.1))
noncomputable def LH:List Said:=[(106,rowX),(46,lieX),(72,movX)]
theorem LH_ok:∀ e∈LH,SaidG Tryz.prog F1.glob e:=
 saids_cons (SaidOK.g f1 xf1 nf1 tabs_ok.mix (fun _ _ h=>con2_spec (t:=tView) (u:=tI) (fun v x hc=>by
  simp only[Bool.and_eq_true] at hc
  exact rowo_call v x hc.1.1.1.1.1 hc.1.1.1.1.2 hc.1.1.1.2 hc.1.1.2 hc.1.2 hc.2) h) rfl)
 (saids_cons (SaidOK.g f1 xf1 nf1 tabs_ok.mix (fun _ _ h => con3_spec (t := tSand) (u := tP) (w := tP) (fun s mv pt hc => by
  simp only[Bool.and_eq_true] at hc
  exact lies_call s mv pt hc.1.1.1.1 hc.1.1.1.2 hc.1.1.2 hc.1.2 hc.2) h) rfl)
 (saids_cons (SaidOK.g f1 xf1 nf1 tabs_ok.mix (fun _ _ h=>con1_spec (t:=tBox) (fun b hb=>movs_call b hb) h) rfl) saids_nil))
noncomputable def H1:Env:=F1.say (under (xOf LH))
theorem h1:EnvOK Tryz.prog H1:=f1.say _
theorem nh1:NameOK H1:=nf1.say _
theorem xh1:ExtOK Tryz.prog H1:=xf1.sayL LH_ok
theorem H1sy:H1.sy=true:=rfl
noncomputable def Y1 (l:List Nat):Sy:=(Z1 []).on LH l
theorem Y1_ok (l:List Nat):(Y1 l).ok H1:=Sy.on_ok (Z1_ok _)
end Go.Proofs.YtgaoajmlckgdaaaGreatDoor


set_option maxRecDepth 100000
namespace Go.Proofs.YtgaoajmlckgdaaaGreatDoor
open Go Go.Eng
noncomputable def mvonI0 (v:tView.den) (x10:Int) (x14:Int) (x41:Nat):Cfg:=⟨.ex (pcOf H1 69 [0,0,1,0,1,1]) ⟨(tmOf 28 [(0,(.agg [(.str (v.1.1)),(.vs tP (v.1.2.1.1) (v.1.2.1.2)),(.int .i64 (v.1.2.2.1.1.1)),(.int .i64 (v.1.2.2.1.1.2.1)),(.int .i64 (v.1.2.2.1.2.1.1)),(.int .i64 (v.1.2.2.1.2.1.2.1)),(.int .i64 (v.2.1.1)),(.int .i64 (v.2.1.2.1))])),(1,(.ptr 0 0)),(2,(.int .i64 (0))),(3,(.int .i64 x10)),(6,(.ptr 0 0)),(7,(.ptr 0 2)),(8,(.ptr 0 2)),(9,(.agg [(.int .i64 (v.1.2.2.1.1.1)),(.int .i64 (v.1.2.2.1.1.2.1))])),(10,(.int .i64 (wr .i64 (wr .i64 (v.1.2.2.1.1.2.1-v.1.2.2.1.1.1)+1)))),(11,(.int .i64 x14))]),(hpOf 2 [(0,(.cells false [(.str (v.1.1)),(.vs tP (v.1.2.1.1) (v.1.2.1.2)),(.int .i64 (v.1.2.2.1.1.1)),(.int .i64 (v.1.2.2.1.1.2.1)),(.int .i64 (v.1.2.2.1.2.1.1)),(.int .i64 (v.1.2.2.1.2.1.2.1)),(.int .i64 (v.2.1.1)),(.int .i64 (v.2.1.2.1))])),(1,(.cells false [(.int .i64 (v.1.2.2.1.1.1)),(.int .i64 (v.1.2.2.1.1.2.1))]))]),[],[],28,false⟩,⟨8,[]⟩,[(.lop (pcOf H1 69 [0,0,1,0,1,1]) 2 (tmOf 28 [(0,(.agg [(.str (v.1.1)),(.vs tP (v.1.2.1.1) (v.1.2.1.2)),(.int .i64 (v.1.2.2.1.1.1)),(.int .i64 (v.1.2.2.1.1.2.1)),(.int .i64 (v.1.2.2.1.2.1.1)),(.int .i64 (v.1.2.2.1.2.1.2.1)),(.int .i64 (v.2.1.1)),(.int .i64 (v.2.1.2.1))])),(1,(.ptr 0 0)),(2,(.int .i64 (0))),(3,(.int .i64 (0))),(6,(.ptr 0 0)),(7,(.ptr 0 2)),(8,(.ptr 0 2)),(9,(.agg [(.int .i64 (v.1.2.2.1.1.1)),(.int .i64 (v.1.2.2.1.1.2.1))])),(10,(.int .i64 (wr .i64 (wr .i64 (v.1.2.2.1.1.2.1-v.1.2.2.1.1.1)+1)))),(11,(.int .i64 (0)))]) x41),(.blk 0),(.seq (pcOf H1 69 [1,1,1])),(.cal [(.tmp 2)] .top)]⟩
theorem mvon_start (v:tView.den):adv H1 (Y1 [69]) 3000 (startC H1 69 [tView.av v] 8)=some (.stop (mvonI0 v (0) (0) (1048575))):=by kernel_rfl
theorem mvon_step0 (v:tView.den) (x10:Int) (x14:Int) (x41:Nat):adv H1 (Y1 [69]) 3000 (mvonI0 v x10 x14 (x41+1))=(let z1:=(wr .i64 ((rowsF v.1.2.1.2 v.2.1.1 v.2.1.2.1 (wr .i64 (v.1.2.2.1.1.1+x14)) v.1.2.2.1.2.1.1 v.1.2.2.1.2.1.2.1 0 v.1.2.1.2.length).2-(rowsF v.1.2.1.2 v.2.1.1 v.2.1.2.1 (wr .i64 (v.1.2.2.1.1.1+x14)) v.1.2.2.1.2.1.1 v.1.2.2.1.2.1.2.1 0 v.1.2.1.2.length).1)+1);(bif !ile (wr .i64 (wr .i64 (v.1.2.2.1.1.2.1-v.1.2.2.1.1.1)+1)) x14 then (bif cOK v.1.2.1.2&&in5 (wr .i64 (v.1.2.2.1.1.1+x14))&&in10 v.2.1.1&&in10 v.2.1.2.1&&in5 v.1.2.2.1.2.1.1&&in5 v.1.2.2.1.2.1.2.1 then some (.stop (mvonI0 v (wr .i64 (x10+bif ile (wr .i64 z1) 0 then 0 else wr .i64 z1)) (wr .i64 (x14+1)) (x41))) else none) else some (.done (.int .i64 (x10))))):=by kernel_rfl
theorem rows_b {C:List tP.den} (hC:inC C) {fx fy x:Int} (bx:-500≤x∧x≤500) (bfx:-10000≤fx∧fx≤10000) (bfy:-10000≤fy∧fy≤10000):∀ (r k:Nat) (lo hi:Int),k+r=C.length→(-1000≤lo∧lo≤1200000000)→(-1200000001≤hi∧hi≤1200000000) →
  (-1000≤(rowsF C fx fy x lo hi k r).1∧(rowsF C fx fy x lo hi k r).1≤1200000000)∧-1200000001≤(rowsF C fx fy x lo hi k r).2∧(rowsF C fx fy x lo hi k r).2≤1200000000
 |0,_,_,_,_,h1,h2=>⟨h1,h2⟩
 |r+1,k,lo,hi,hk,h1,h2=>by
  have s:=side_b hC (k:=k) (by omega) (dx:=fx-x) (dy:=fy) (by omega) (by omega)
  have e:sL C k (fx-x) fy=sA C k * (fy-gy C k)-sB C k * (fx-x-gx C k):=rfl
  have cb:=cut_b (a:=sA C k) (l:=sL C k (fx-x) fy) (by omega) (by omega) h1 h2
  rw[rowsF]
  exact rows_b hC bx bfx bfy r (k+1) _ _ (by omega) cb.1 cb.2
theorem sL_sub (C:List tP.den) (k:Nat) (dx dy y:Int):sL C k dx (dy-y)=sL C k dx dy-sA C k * y:=by
 unfold sL
 rw[show dy-y-gy C k=(dy-gy C k)-y by omega,Int.mul_sub]
 omega
theorem rows_mem {C:List tP.den} {fx fy x y:Int}:∀ (r k:Nat) (lo hi:Int),((rowsF C fx fy x lo hi k r).1≤y∧y≤(rowsF C fx fy x lo hi k r).2)↔(lo≤y∧y≤hi)∧liesF C (fx-x) (fy-y) k r=true
 |0,_,_,_=>by rw[rowsF,liesF];simp
 | r + 1, k, lo, hi => by
  rw[rowsF,rows_mem r (k+1),cut_mem,liesF,sL_sub]
  cases e:ile 0 (sL C k (fx-x) fy-sA C k * y) with
  |true=>
   rw[ile_iff] at e
   simp only[decide_eq_true_eq] at e
   rw[cond_true]
   constructor
   · rintro ⟨⟨h1,_⟩,h2⟩;exact⟨h1,h2⟩
   · rintro ⟨h1,h2⟩;exact⟨⟨h1,by omega⟩,h2⟩
  |false=>
   rw[ile_iff] at e
   simp only[decide_eq_false_iff_not] at e
   rw[cond_false]
   constructor
   · rintro ⟨⟨_,h1⟩,_⟩;omega
   · rintro ⟨_,h⟩;cases h
noncomputable def cntI (r:Int×Int):Int:=bif ile (r.2-r.1+1) 0 then 0 else r.2-r.1+1
noncomputable def mvF (C:List tP.den) (fx fy lo hi:Int):Int→Nat→Int
 |_,0=>0
 |x,r+1=>cntI (rowsF C fx fy x lo hi 0 C.length)+mvF C fx fy lo hi (x+1) r
theorem cnt_row {C:List tP.den} {fx fy x lo hi:Int} (h:lo≤hi):(0≤cntI (rowsF C fx fy x lo hi 0 C.length)∧cntI (rowsF C fx fy x lo hi 0 C.length)≤hi-lo+1) ∧
  (cntI (rowsF C fx fy x lo hi 0 C.length)=hi-lo+1↔∀ y,lo≤y→y≤hi→liesF C (fx-x) (fy-y) 0 C.length=true) ∧
  (0<cntI (rowsF C fx fy x lo hi 0 C.length)↔∃ y,(lo≤y∧y≤hi)∧liesF C (fx-x) (fy-y) 0 C.length=true):=by
 have hm:=fun y=>rows_mem (C:=C) (fx:=fx) (fy:=fy) (x:=x) (y:=y) C.length 0 lo hi
 generalize rowsF C fx fy x lo hi 0 C.length=R at hm
 obtain⟨a,b⟩:=R
 simp only at hm
 unfold cntI
 simp only
 cases e:ile (b-a+1) 0 with
 |true=>
  rw[ile_iff] at e
  simp only[decide_eq_true_eq] at e
  rw[cond_true]
  refine⟨⟨by omega,by omega⟩,⟨fun h'=>by omega,fun h'=>?_⟩,⟨fun h'=>by omega,?_⟩⟩
  · have := (hm lo).2 ⟨⟨by omega, h⟩, h' lo (by omega) h⟩
    omega
  · rintro ⟨y, h1, h2⟩
    have:=(hm y).2 ⟨h1,h2⟩
    omega
 |false=>
  rw[ile_iff] at e
  simp only[decide_eq_false_iff_not] at e
  rw[cond_false]
  have ha:=(hm a).1 ⟨by omega,by omega⟩
  have hb:=(hm b).1 ⟨by omega,by omega⟩
  refine⟨⟨by omega,by omega⟩,⟨fun h' y h1 h2=>((hm y).1 ⟨by omega,by omega⟩).2,fun h'=>?_⟩,⟨fun _=>⟨a,ha⟩,fun _=>by omega⟩⟩
  have p:=(hm lo).2 ⟨⟨by omega,h⟩,h' lo (by omega) h⟩
  have q:=(hm hi).2 ⟨⟨h,by omega⟩,h' hi h (by omega)⟩
  omega
theorem mvon_ans (v:tView.den) (C:List tP.den) (fx fy xlo xhi lo hi:Int) (hC:v.1.2.1.2=C) (e1:v.2.1.1=fx) (e2:v.2.1.2.1=fy) (e3:v.1.2.2.1.1.1=xlo) (e4:v.1.2.2.1.1.2.1=xhi) (e5:v.1.2.2.1.2.1.1=lo) (e6:v.1.2.2.1.2.1.2.1=hi)
  (hc:cOK C=true) (b1:in10 fx=true) (b2:in10 fy=true) (b3:in5 xlo=true) (b4:in5 xhi=true) (b5:in5 lo=true) (b6:in5 hi=true) (hlh:lo≤hi) (nx:Nat) (hnx:xhi-xlo+1=nx) :
  ∀ (r k m:Nat) (acc:Int),k+r=nx→r<m→0≤acc→acc≤k * (hi-lo+1)→Ans H1 (mvonI0 v acc k m) (.int .i64 (acc+mvF C fx fy lo hi (xlo+k) r))
 |0,k,m+1,acc,hk,hm,ha,ha2=>by
  have h:=mvon_step0 v acc k m
  rw[in5_iff] at b3 b4
  have w:wr .i64 (wr .i64 (xhi-xlo)+1)=(nx:Int):=by rw[wr_in (n:=xhi-xlo) (by omega) (by omega),wr_in (by omega) (by omega)];exact hnx
  simp only[e3,e4,w,ile_ge (show nx≤k by omega),Bool.not_true,cond_false] at h
  rw[mvF,Int.add_zero]
  exact .doneI (Y1_ok _) H1sy h rfl
 | r + 1, k, m + 1, acc, hk, hm, ha, ha2 => by
  have h:=mvon_step0 v acc k m
  have k3:=in5_iff.1 b3
  have k4:=in5_iff.1 b4
  have k5:=in5_iff.1 b5
  have k6:=in5_iff.1 b6
  have w:wr .i64 (wr .i64 (xhi-xlo)+1)=(nx:Int):=by rw[wr_in (n:=xhi-xlo) (by omega) (by omega),wr_in (by omega) (by omega)];exact hnx
  have wx:wr .i64 (xlo+(k:Int))=xlo+k:=wr_in (by omega) (by omega)
  have b7:in5 (xlo+k)=true:=by rw[in5_iff];omega
  obtain⟨hcl,hin⟩:=cOK_in hc
  have rb:=rows_b hin (fx:=fx) (fy:=fy) (x:=xlo+k) (by omega) (in10_iff.1 b1) (in10_iff.1 b2) C.length 0 lo hi (by omega) (by omega) (by omega)
  have cr:=(cnt_row (C:=C) (fx:=fx) (fy:=fy) (x:=xlo+k) hlh).1
  have hmul:(k:Int) * (hi-lo+1)≤1001 * 1001:=by
   have:=mul_b (a:=(k:Int)) (b:=hi-lo+1) (m:=1001) (n:=1001) (by omega) (by omega) (by omega) (by omega)
   omega
  have e:((k+1:Nat):Int) * (hi-lo+1)=(k:Int) * (hi-lo+1)+(hi-lo+1):=by rw[Int.natCast_add,Int.add_mul];simp
  simp only[hC,e1,e2,e3,e4,e5,e6,w,wx,hc,b1,b2,b5,b6,b7,ile_lt (show k<nx by omega),wr_succ (show k<1048577 by omega),Bool.and_self,Bool.not_false,cond_true] at h
  rw[mvF]
  have ih:=mvon_ans v C fx fy xlo xhi lo hi hC e1 e2 e3 e4 e5 e6 hc b1 b2 b3 b4 b5 b6 hlh nx hnx r (k+1) m (acc+cntI (rowsF C fx fy (xlo+k) lo hi 0 C.length)) (by omega) (by omega) (by omega) (by rw[e];omega)
  rw[show xlo+((k+1:Nat):Int)=xlo+k+1 by omega] at ih
  generalize rowsF C fx fy (xlo+k) lo hi 0 C.length=R at h rb cr ih
  have w2:wr .i64 (R.2-R.1)=R.2-R.1:=wr_in (by omega) (by omega)
  have w3:wr .i64 (R.2-R.1+1)=R.2-R.1+1:=wr_in (by omega) (by omega)
  simp only[w2,w3] at h
  have hcd:(bif ile (R.2-R.1+1) 0 then (0:Int) else R.2-R.1+1)=cntI R:=rfl
  rw[hcd,wr_in (by omega) (by omega)] at h
  refine .stopE (Y1_ok _) H1sy h ih ?_
  rw[Int.add_assoc]
noncomputable def mvC (v:tView.den):Bool:=cOK v.1.2.1.2&&in10 v.2.1.1&&in10 v.2.1.2.1&&in5 v.1.2.2.1.1.1&&in5 v.1.2.2.1.1.2.1&&in5 v.1.2.2.1.2.1.1&&in5 v.1.2.2.1.2.1.2.1&&ile v.1.2.2.1.1.1 v.1.2.2.1.1.2.1&&ile v.1.2.2.1.2.1.1 v.1.2.2.1.2.1.2.1
noncomputable def mvS (C:List tP.den) (fx fy x0 x1 y0 y1:Int):Int:=mvF C fx fy y0 y1 x0 (x1-x0+1).toNat
theorem mvon_call (v:tView.den) (hc:mvC v=true):AnsF H1 69 [tView.av v] (.int .i64 (mvS v.1.2.1.2 v.2.1.1 v.2.1.2.1 v.1.2.2.1.1.1 v.1.2.2.1.1.2.1 v.1.2.2.1.2.1.1 v.1.2.2.1.2.1.2.1)):=by
 unfold mvC at hc
 simp only[Bool.and_eq_true] at hc
 obtain⟨⟨⟨⟨⟨⟨⟨⟨c1,c2⟩,c3⟩,c4⟩,c5⟩,c6⟩,c7⟩,c8⟩,c9⟩:=hc
 refine Ans.call (n:=8) (ext_none (by kernel_rfl)) (hasB_spec (by kernel_rfl)) (.stop (Y1_ok _) H1sy (mvon_start v) ?_)
 obtain⟨xlo,e3⟩:∃ y:Int,v.1.2.2.1.1.1=y:=⟨_,rfl⟩
 obtain⟨xhi,e4⟩:∃ y:Int,v.1.2.2.1.1.2.1=y:=⟨_,rfl⟩
 obtain⟨lo,e5⟩:∃ y:Int,v.1.2.2.1.2.1.1=y:=⟨_,rfl⟩
 obtain⟨hi,e6⟩:∃ y:Int,v.1.2.2.1.2.1.2.1=y:=⟨_,rfl⟩
 rw[e3] at c4 c8;rw[e4] at c5 c8;rw[e5] at c6 c9;rw[e6] at c7 c9
 rw[e3,e4,e5,e6]
 have k4:=in5_iff.1 c4
 have k5:=in5_iff.1 c5
 rw[ile_iff] at c8 c9
 simp only[decide_eq_true_eq] at c8 c9
 have ih:=mvon_ans v _ _ _ xlo xhi lo hi rfl rfl rfl e3 e4 e5 e6 c1 c2 c3 c4 c5 c6 c7 c9 (xhi-xlo+1).toNat (by omega) (xhi-xlo+1).toNat 0 1048575 0 (by omega) (by omega) (by omega) (by simp)
 rw[show xlo+((0:Nat):Int)=xlo by omega,Int.zero_add] at ih
 exact ih
noncomputable def LI:List Said:=[(69,con1 tView mvC (fun v=>.int .i64 (mvS v.1.2.1.2 v.2.1.1 v.2.1.2.1 v.1.2.2.1.1.1 v.1.2.2.1.1.2.1 v.1.2.2.1.2.1.1 v.1.2.2.1.2.1.2.1)))]
theorem LI_ok:∀ e∈LI,SaidG Tryz.prog H1.glob e:=
 saids_cons (SaidOK.g h1 xh1 nh1 tabs_ok.mix (fun _ _ h=>con1_spec (t:=tView) (fun v hc=>mvon_call v hc) h) rfl) saids_nil
noncomputable def H2:Env:=H1.say (under (xOf LI))
theorem h2:EnvOK Tryz.prog H2:=h1.say _
theorem nh2:NameOK H2:=nh1.say _
theorem xh2:ExtOK Tryz.prog H2:=xh1.sayL LI_ok
theorem H2sy:H2.sy=true:=rfl
noncomputable def Y2 (l:List Nat):Sy:=(Y1 []).on LI l
theorem Y2_ok (l:List Nat):(Y2 l).ok H2:=Sy.on_ok (Y1_ok _)
end Go.Proofs.YtgaoajmlckgdaaaGreatDoor


set_option maxRecDepth 100000
namespace Go.Proofs.YtgaoajmlckgdaaaGreatDoor
open Go Go.Eng
theorem isnr_start (ax ay vx vy r:Int):adv H1 (Y1 []) 3000 (startC H1 133 [.agg [.int .i64 ax,.int .i64 ay],.agg [.int .i64 vx,.int .i64 vy],.int .i64 r] 6)=(bif ile (wr .i64 (wr .i64 (ax * vx)+wr .i64 (ay * vy))) 0 then some (.done (.bool (!ile (wr .i64 (r * r)) (wr .i64 (wr .i64 (vx * vx)+wr .i64 (vy * vy)))))) else (bif ile (wr .i64 (wr .i64 (ax * ax)+wr .i64 (ay * ay))) (wr .i64 (wr .i64 (ax * vx)+wr .i64 (ay * vy))) then some (.done (.bool (!ile (wr .i64 (r * r)) (wr .i64 (wr .i64 (wr .i64 (vx-ax) * wr .i64 (vx-ax))+wr .i64 (wr .i64 (vy-ay) * wr .i64 (vy-ay))))))) else some (.done (.bool (!ile (wr .i64 (wr .i64 (r * r) * wr .i64 (wr .i64 (ax * ax)+wr .i64 (ay * ay)))) (wr .i64 (wr .i64 (wr .i64 (ax * vy)-wr .i64 (ay * vx)) * wr .i64 (wr .i64 (ax * vy)-wr .i64 (ay * vx))))))))):=by kernel_rfl
theorem rnea_start (ax ay bx by' px py r:Int):adv H1 (Y1 []) 3000 (startC H1 99 [.agg [.int .i64 ax,.int .i64 ay],.agg [.int .i64 bx,.int .i64 by'],.agg [.int .i64 px,.int .i64 py],.int .i64 r] 6)=(let z1:=(wr .i64 (wr .i64 (wr .i64 (bx-ax) * wr .i64 (px-ax))+wr .i64 (wr .i64 (by'-ay) * wr .i64 (py-ay))));let z2:=(wr .i64 (wr .i64 (bx-ax) * wr .i64 (bx-ax))+wr .i64 (wr .i64 (by'-ay) * wr .i64 (by'-ay)));let z3:=(wr .i64 (wr .i64 (bx-ax) * wr .i64 (py-ay))-wr .i64 (wr .i64 (by'-ay) * wr .i64 (px-ax)));(bif ieq ax ax then (bif ieq ay ay then (bif ieq ax ax then (bif ieq ay ay then (bif ieq px px then (bif ieq py py then (bif ieq px px then (bif ieq py py then (bif ieq ax ax then (bif ieq ay ay then (bif ieq bx bx then (bif ieq by' by' then (bif ile z1 0 then some (.done (.bool (!ile (wr .i64 (r * r)) (wr .i64 (wr .i64 (wr .i64 (px-ax) * wr .i64 (px-ax))+wr .i64 (wr .i64 (py-ay) * wr .i64 (py-ay))))))) else (bif ile (wr .i64 z2) z1 then some (.done (.bool (!ile (wr .i64 (r * r)) (wr .i64 (wr .i64 (wr .i64 (px-bx) * wr .i64 (px-bx))+wr .i64 (wr .i64 (py-by') * wr .i64 (py-by'))))))) else some (.done (.bool (!ile (wr .i64 (wr .i64 (r * r) * wr .i64 z2)) (wr .i64 (wr .i64 z3 * wr .i64 z3))))))) else none) else none) else none) else none) else none) else none) else none) else none) else none) else none) else none) else none)):=by kernel_rfl
noncomputable def nearI (ax ay vx vy r:Int):Bool:=bif ile (ax * vx+ay * vy) 0 then !ile (r * r) (vx * vx+vy * vy) else (bif ile (ax * ax+ay * ay) (ax * vx+ay * vy) then !ile (r * r) ((vx-ax) * (vx-ax)+(vy-ay) * (vy-ay)) else !ile (r * r * (ax * ax+ay * ay)) ((ax * vy-ay * vx) * (ax * vy-ay * vx)))
noncomputable def in2 (x:Int):Bool:=ile (-21000) x&&ile x 21000
theorem in2_iff {x:Int}:in2 x=true↔-21000≤x∧x≤21000:=by simp only[in2,Bool.and_eq_true,ile_iff,decide_eq_true_eq]
noncomputable def inr (r:Int):Bool:=ile 0 r&&ile r 6000
theorem inr_iff {x:Int}:inr x=true↔0≤x∧x≤6000:=by simp only[inr,Bool.and_eq_true,ile_iff,decide_eq_true_eq]
theorem near_b {ax ay vx vy r:Int} (h1:in2 ax=true) (h2:in2 ay=true) (h3:in2 vx=true) (h4:in2 vy=true) (h5:inr r=true) :
  ((wr .i64 (ax * vx)=ax * vx∧wr .i64 (ay * vy)=ay * vy∧wr .i64 (ax * vx+ay * vy)=ax * vx+ay * vy)∧(wr .i64 (ax * ax)=ax * ax∧wr .i64 (ay * ay)=ay * ay∧wr .i64 (ax * ax+ay * ay)=ax * ax+ay * ay) ∧
  (wr .i64 (vx * vx)=vx * vx∧wr .i64 (vy * vy)=vy * vy∧wr .i64 (vx * vx+vy * vy)=vx * vx+vy * vy))∧(wr .i64 (vx-ax)=vx-ax∧wr .i64 (vy-ay)=vy-ay ∧
  wr .i64 ((vx-ax) * (vx-ax))=(vx-ax) * (vx-ax)∧wr .i64 ((vy-ay) * (vy-ay))=(vy-ay) * (vy-ay)∧wr .i64 ((vx-ax) * (vx-ax)+(vy-ay) * (vy-ay))=(vx-ax) * (vx-ax)+(vy-ay) * (vy-ay)) ∧
  (wr .i64 (ax * vy)=ax * vy∧wr .i64 (ay * vx)=ay * vx∧wr .i64 (ax * vy-ay * vx)=ax * vy-ay * vx∧wr .i64 ((ax * vy-ay * vx) * (ax * vy-ay * vx))=(ax * vy-ay * vx) * (ax * vy-ay * vx)) ∧
  (wr .i64 (r * r)=r * r∧wr .i64 (r * r * (ax * ax+ay * ay))=r * r * (ax * ax+ay * ay)):=by
 rw[in2_iff] at h1 h2 h3 h4
 rw[inr_iff] at h5
 have p1:=mul_b (a:=ax) (b:=vx) (m:=21000) (n:=21000) (by omega) (by omega) (by omega) (by omega)
 have p2:=mul_b (a:=ay) (b:=vy) (m:=21000) (n:=21000) (by omega) (by omega) (by omega) (by omega)
 have p3:=mul_b (a:=ax) (b:=ax) (m:=21000) (n:=21000) (by omega) (by omega) (by omega) (by omega)
 have p4:=mul_b (a:=ay) (b:=ay) (m:=21000) (n:=21000) (by omega) (by omega) (by omega) (by omega)
 have p5:=mul_b (a:=vx) (b:=vx) (m:=21000) (n:=21000) (by omega) (by omega) (by omega) (by omega)
 have p6:=mul_b (a:=vy) (b:=vy) (m:=21000) (n:=21000) (by omega) (by omega) (by omega) (by omega)
 have p7:=mul_b (a:=vx-ax) (b:=vx-ax) (m:=42000) (n:=42000) (by omega) (by omega) (by omega) (by omega)
 have p8:=mul_b (a:=vy-ay) (b:=vy-ay) (m:=42000) (n:=42000) (by omega) (by omega) (by omega) (by omega)
 have p9:=mul_b (a:=ax) (b:=vy) (m:=21000) (n:=21000) (by omega) (by omega) (by omega) (by omega)
 have p10:=mul_b (a:=ay) (b:=vx) (m:=21000) (n:=21000) (by omega) (by omega) (by omega) (by omega)
 have p11:=mul_b (a:=ax * vy-ay * vx) (b:=ax * vy-ay * vx) (m:=882000000) (n:=882000000) (by omega) (by omega) (by omega) (by omega)
 have p12:=mul_b (a:=r) (b:=r) (m:=6000) (n:=6000) (by omega) (by omega) (by omega) (by omega)
 have p13:=mul_b (a:=r * r) (b:=ax * ax+ay * ay) (m:=36000000) (n:=882000000) (by omega) (by omega) (by omega) (by omega)
 refine⟨⟨⟨wr_in ?_ ?_,wr_in ?_ ?_,wr_in ?_ ?_⟩,⟨wr_in ?_ ?_,wr_in ?_ ?_,wr_in ?_ ?_⟩,wr_in ?_ ?_,wr_in ?_ ?_,wr_in ?_ ?_⟩,⟨wr_in ?_ ?_,wr_in ?_ ?_,wr_in ?_ ?_,wr_in ?_ ?_,wr_in ?_ ?_⟩,⟨wr_in ?_ ?_,wr_in ?_ ?_,wr_in ?_ ?_,wr_in ?_ ?_⟩,wr_in ?_ ?_,wr_in ?_ ?_⟩<;>omega
noncomputable def nrB (ax ay vx vy r:Int):Bool:=in2 ax&&in2 ay&&in2 vx&&in2 vy&&inr r
theorem isnr_call (a v:tP.den) (r:Int) (hc:nrB a.1 a.2.1 v.1 v.2.1 r=true):AnsF H1 133 [tP.av a,tP.av v,.int .i64 r] (.bool (nearI a.1 a.2.1 v.1 v.2.1 r)):=by
 refine Ans.call (n:=6) (ext_none (by kernel_rfl)) (hasB_spec (by kernel_rfl)) ?_
 have h:=isnr_start a.1 a.2.1 v.1 v.2.1 r
 unfold nrB at hc
 simp only[Bool.and_eq_true] at hc
 obtain⟨⟨⟨⟨c1,c2⟩,c3⟩,c4⟩,c5⟩:=hc
 obtain⟨⟨⟨w1,w2,w3⟩,⟨w4,w5,w6⟩,w7,w8,w9⟩,⟨w10,w11,w12,w13,w14⟩,⟨w15,w16,w17,w18⟩,w19,w20⟩:=near_b c1 c2 c3 c4 c5
 simp only[w1,w2,w3,w4,w5,w6,w7,w8,w9,w10,w11,w12,w13,w14,w15,w16,w17,w18,w19,w20] at h
 unfold nearI
 cases e1:ile (a.1 * v.1+a.2.1 * v.2.1) 0 with
 |true=>simp only[e1,cond_true] at h⊢;exact .doneB (Y1_ok _) H1sy h rfl
 |false=>
  cases e2:ile (a.1 * a.1+a.2.1 * a.2.1) (a.1 * v.1+a.2.1 * v.2.1)<;>(simp only[e1,e2,cond_true,cond_false] at h⊢;exact .doneB (Y1_ok _) H1sy h rfl)
theorem rnea_call (a b p:tP.den) (r:Int) (hc:(in10 a.1&&in10 a.2.1&&in10 b.1&&in10 b.2.1&&in2 (p.1-a.1)&&in2 (p.2.1-a.2.1)&&inr r)=true):AnsF H1 99 [tP.av a,tP.av b,tP.av p,.int .i64 r] (.bool (nearI (b.1-a.1) (b.2.1-a.2.1) (p.1-a.1) (p.2.1-a.2.1) r)):=by
 refine Ans.call (n:=6) (ext_none (by kernel_rfl)) (hasB_spec (by kernel_rfl)) ?_
 have h:=rnea_start a.1 a.2.1 b.1 b.2.1 p.1 p.2.1 r
 obtain⟨a1,e1⟩:∃ x:Int,a.1=x:=⟨_,rfl⟩
 obtain⟨a2,e2⟩:∃ x:Int,a.2.1=x:=⟨_,rfl⟩
 obtain⟨b1,e3⟩:∃ x:Int,b.1=x:=⟨_,rfl⟩
 obtain⟨b2,e4⟩:∃ x:Int,b.2.1=x:=⟨_,rfl⟩
 obtain⟨p1,e5⟩:∃ x:Int,p.1=x:=⟨_,rfl⟩
 obtain⟨p2,e6⟩:∃ x:Int,p.2.1=x:=⟨_,rfl⟩
 have hav:(startC H1 99 [tP.av a,tP.av b,tP.av p,.int .i64 r] 6)=startC H1 99 [.agg [.int .i64 a.1,.int .i64 a.2.1],.agg [.int .i64 b.1,.int .i64 b.2.1],.agg [.int .i64 p.1,.int .i64 p.2.1],.int .i64 r] 6:=rfl
 rw[hav]
 rw[e1,e2,e3,e4,e5,e6] at hc h⊢
 simp only[Bool.and_eq_true] at hc
 obtain⟨⟨⟨⟨⟨⟨c1,c2⟩,c3⟩,c4⟩,c5⟩,c6⟩,c7⟩:=hc
 have k1:=in10_iff.1 c1
 have k2:=in10_iff.1 c2
 have k3:=in10_iff.1 c3
 have k4:=in10_iff.1 c4
 have k5:=in2_iff.1 c5
 have k6:=in2_iff.1 c6
 have q1:in2 (b1-a1)=true:=by rw[in2_iff];omega
 have q2:in2 (b2-a2)=true:=by rw[in2_iff];omega
 obtain⟨⟨⟨w1,w2,w3⟩,⟨w4,w5,w6⟩,w7,w8,w9⟩,⟨w10,w11,w12,w13,w14⟩,⟨w15,w16,w17,w18⟩,w19,w20⟩:=near_b q1 q2 c5 c6 c7
 have z1:wr .i64 (b1-a1)=b1-a1:=wr_in (by omega) (by omega)
 have z2:wr .i64 (b2-a2)=b2-a2:=wr_in (by omega) (by omega)
 have z3:wr .i64 (p1-a1)=p1-a1:=wr_in (by omega) (by omega)
 have z4:wr .i64 (p2-a2)=p2-a2:=wr_in (by omega) (by omega)
 have z5:wr .i64 (p1-b1)=p1-a1-(b1-a1):=by rw[wr_in (by omega) (by omega)];omega
 have z6:wr .i64 (p2-b2)=p2-a2-(b2-a2):=by rw[wr_in (by omega) (by omega)];omega
 simp only[z1,z2,z3,z4,z5,z6,ieq_self,cond_true] at h
 simp only[w1,w2,w3,w4,w5,w6,w7,w8,w9,w12,w13,w14,w15,w16,w17,w18,w19,w20] at h
 unfold nearI
 cases f1:ile ((b1-a1) * (p1-a1)+(b2-a2) * (p2-a2)) 0 with
 |true=>simp only[f1,cond_true] at h⊢;exact .doneB (Y1_ok _) H1sy h rfl
 |false=>
  cases f2:ile ((b1-a1) * (b1-a1)+(b2-a2) * (b2-a2)) ((b1-a1) * (p1-a1)+(b2-a2) * (p2-a2))<;>(simp only[f1,f2,cond_true,cond_false] at h⊢;exact .doneB (Y1_ok _) H1sy h rfl)
noncomputable def LN:List Said:=[(133,con3 tP tP tI (fun a v r=>nrB a.1 a.2.1 v.1 v.2.1 r) (fun a v r=>.bool (nearI a.1 a.2.1 v.1 v.2.1 r))),
 (99,con4 tP tP tP tI (fun a b p r=>in10 a.1&&in10 a.2.1&&in10 b.1&&in10 b.2.1&&in2 (p.1-a.1)&&in2 (p.2.1-a.2.1)&&inr r) (fun a b p r=>.bool (nearI (b.1-a.1) (b.2.1-a.2.1) (p.1-a.1) (p.2.1-a.2.1) r)))]
theorem LN_ok:∀ e∈LN,SaidG Tryz.prog H1.glob e:=
 saids_cons (SaidOK.g h1 xh1 nh1 tabs_ok.mix (fun _ _ h=>con3_spec (t:=tP) (u:=tP) (w:=tI) (fun a v r hc=>isnr_call a v r hc) h) rfl)
 (saids_cons (SaidOK.g h1 xh1 nh1 tabs_ok.mix (fun _ _ h=>con4_spec (t:=tP) (u:=tP) (w:=tP) (s:=tI) (fun a b p r hc=>rnea_call a b p r hc) h) rfl) saids_nil)
noncomputable def N1:Env:=H1.say (under (xOf LN))
theorem en1:EnvOK Tryz.prog N1:=h1.say _
theorem nn1:NameOK N1:=nh1.say _
theorem xn1:ExtOK Tryz.prog N1:=xh1.sayL LN_ok
theorem N1sy:N1.sy=true:=rfl
noncomputable def V1 (l:List Nat):Sy:=(Y1 []).on LN l
theorem V1_ok (l:List Nat):(V1 l).ok N1:=Sy.on_ok (Y1_ok _)
end Go.Proofs.YtgaoajmlckgdaaaGreatDoor


set_option maxRecDepth 100000
namespace Go.Proofs.YtgaoajmlckgdaaaGreatDoor
open Go Go.Eng
noncomputable def sidnI0 (v:tView.den) (px py r:Int) (x3:Int) (x37:Nat):Cfg:=⟨.ex (pcOf N1 131 [0,0,1]) ⟨(tmOf 29 [(0,(.yld 5)),(1,(.ptr 4 0)),(6,(.vs tP (v.1.2.1.1) (v.1.2.1.2))),(7,(.int .i64 (Int.ofNat v.1.2.1.2.length))),(8,(.int .i64 x3))]),(hpOf 6 [(0,(.cells false [(.str (v.1.1)),(.vs tP (v.1.2.1.1) (v.1.2.1.2)),(.int .i64 (v.1.2.2.1.1.1)),(.int .i64 (v.1.2.2.1.1.2.1)),(.int .i64 (v.1.2.2.1.2.1.1)),(.int .i64 (v.1.2.2.1.2.1.2.1)),(.int .i64 (v.2.1.1)),(.int .i64 (v.2.1.2.1))])),(1,(.cells false [(.int .i64 (px)),(.int .i64 (py))])),(2,(.cells false [(.int .i64 (r))])),(3,(.cells false [(.bool (false))])),(4,(.cells false [(.vs tP (v.1.2.1.1) (v.1.2.1.2))]))]),[],[⟨false,.normal⟩],29,false⟩,⟨7,[⟨5,21,8,(tmOf 21 [(0,(.agg [(.str (v.1.1)),(.vs tP (v.1.2.1.1) (v.1.2.1.2)),(.int .i64 (v.1.2.2.1.1.1)),(.int .i64 (v.1.2.2.1.1.2.1)),(.int .i64 (v.1.2.2.1.2.1.1)),(.int .i64 (v.1.2.2.1.2.1.2.1)),(.int .i64 (v.2.1.1)),(.int .i64 (v.2.1.2.1))])),(1,(.agg [(.int .i64 (px)),(.int .i64 (py))])),(2,(.int .i64 (r))),(3,(.ptr 0 0)),(4,(.ptr 1 0)),(5,(.ptr 2 0)),(6,(.ptr 3 0)),(9,(.ptr 0 0)),(10,(.ptr 0 1)),(11,(.vs tP (v.1.2.1.1) (v.1.2.1.2))),(12,(.fn 131 [] [(.ptr 4 0)]))]),#[13,14],(pcOf N1 122 [0,0,1,0,1]),(pcOf N1 122 [1,0,1,0,1])⟩]⟩,[(.lop (pcOf N1 131 [0,0,1]) 6 (tmOf 29 [(0,(.yld 5)),(1,(.ptr 4 0)),(6,(.vs tP (v.1.2.1.1) (v.1.2.1.2))),(7,(.int .i64 (Int.ofNat v.1.2.1.2.length))),(8,(.int .i64 (0)))]) x37),(.blk 0),(.cal [] (.rng (tmOf 21 [(0,(.agg [(.str (v.1.1)),(.vs tP (v.1.2.1.1) (v.1.2.1.2)),(.int .i64 (v.1.2.2.1.1.1)),(.int .i64 (v.1.2.2.1.1.2.1)),(.int .i64 (v.1.2.2.1.2.1.1)),(.int .i64 (v.1.2.2.1.2.1.2.1)),(.int .i64 (v.2.1.1)),(.int .i64 (v.2.1.2.1))])),(1,(.agg [(.int .i64 (px)),(.int .i64 (py))])),(2,(.int .i64 (r))),(3,(.ptr 0 0)),(4,(.ptr 1 0)),(5,(.ptr 2 0)),(6,(.ptr 3 0)),(9,(.ptr 0 0)),(10,(.ptr 0 1)),(11,(.vs tP (v.1.2.1.1) (v.1.2.1.2))),(12,(.fn 131 [] [(.ptr 4 0)]))]) [] 21 false ⟨8,[]⟩)),(.blk 0),(.seq (pcOf N1 122 [1,1])),(.cal [(.cell 6 4)] .top)]⟩
theorem sidn_start (v:tView.den) (px py r:Int):adv N1 (V1 [122,131]) 3000 (startC N1 122 [tView.av v,.agg [.int .i64 px,.int .i64 py],.int .i64 r] 8)=some (.stop (sidnI0 v px py r (0) (1048575))):=by kernel_rfl
theorem sidn_step0 (v:tView.den) (px py r:Int) (x3:Int) (x37:Nat):adv N1 (V1 [122,131]) 3000 (sidnI0 v px py r x3 (x37+1))=(let z1:=(wr .i64 ((v.1.2.1.2.getD ((wr .i64 (x3+1)).tmod ↑v.1.2.1.2.length).toNat tP.dflt).2.1-(v.1.2.1.2.getD x3.toNat tP.dflt).2.1));let z2:=(wr .i64 ((v.1.2.1.2.getD ((wr .i64 (x3+1)).tmod ↑v.1.2.1.2.length).toNat tP.dflt).1-(v.1.2.1.2.getD x3.toNat tP.dflt).1));(bif !ile (Int.ofNat v.1.2.1.2.length) x3 then (bif inB x3 v.1.2.1.2.length then (bif ieq (↑v.1.2.1.2.length) 0 then none else (bif inB ((wr .i64 (x3+1)).tmod ↑v.1.2.1.2.length) v.1.2.1.2.length then (bif bbeq v.1.2.1.1 v.1.2.1.1 then (bif vsB tP v.1.2.1.2 tP v.1.2.1.2 then (bif bbeq v.1.2.1.1 v.1.2.1.1 then (bif vsB tP v.1.2.1.2 tP v.1.2.1.2 then (bif nrB z2 z1 (wr .i64 (px-(v.1.2.1.2.getD x3.toNat tP.dflt).1)) (wr .i64 (py-(v.1.2.1.2.getD x3.toNat tP.dflt).2.1)) r then (bif ieq r r then (bif ieq r r then (bif ieq px px then (bif ieq py py then (bif ieq (v.1.2.1.2.getD x3.toNat tP.dflt).1 (v.1.2.1.2.getD x3.toNat tP.dflt).1 then (bif ieq (v.1.2.1.2.getD x3.toNat tP.dflt).2.1 (v.1.2.1.2.getD x3.toNat tP.dflt).2.1 then (bif ieq z2 z2 then (bif ieq z1 z1 then (bif ieq z2 z2 then (bif ieq z1 z1 then (bif nearI z2 z1 (wr .i64 (px-(v.1.2.1.2.getD x3.toNat tP.dflt).1)) (wr .i64 (py-(v.1.2.1.2.getD x3.toNat tP.dflt).2.1)) r then (bif ieq (v.1.2.1.2.getD ((wr .i64 (x3+1)).tmod ↑v.1.2.1.2.length).toNat tP.dflt).1 (v.1.2.1.2.getD ((wr .i64 (x3+1)).tmod ↑v.1.2.1.2.length).toNat tP.dflt).1 then (bif ieq (v.1.2.1.2.getD ((wr .i64 (x3+1)).tmod ↑v.1.2.1.2.length).toNat tP.dflt).2.1 (v.1.2.1.2.getD ((wr .i64 (x3+1)).tmod ↑v.1.2.1.2.length).toNat tP.dflt).2.1 then (bif ieq (v.1.2.1.2.getD x3.toNat tP.dflt).1 (v.1.2.1.2.getD x3.toNat tP.dflt).1 then (bif ieq (v.1.2.1.2.getD x3.toNat tP.dflt).2.1 (v.1.2.1.2.getD x3.toNat tP.dflt).2.1 then (bif ieq (v.1.2.1.2.getD x3.toNat tP.dflt).1 (v.1.2.1.2.getD x3.toNat tP.dflt).1 then (bif ieq (v.1.2.1.2.getD x3.toNat tP.dflt).2.1 (v.1.2.1.2.getD x3.toNat tP.dflt).2.1 then (bif ieq (v.1.2.1.2.getD x3.toNat tP.dflt).1 (v.1.2.1.2.getD x3.toNat tP.dflt).1 then (bif ieq (v.1.2.1.2.getD x3.toNat tP.dflt).2.1 (v.1.2.1.2.getD x3.toNat tP.dflt).2.1 then some (.done (.bool (true))) else none) else none) else none) else none) else none) else none) else none) else none) else (bif ieq (v.1.2.1.2.getD ((wr .i64 (x3+1)).tmod ↑v.1.2.1.2.length).toNat tP.dflt).1 (v.1.2.1.2.getD ((wr .i64 (x3+1)).tmod ↑v.1.2.1.2.length).toNat tP.dflt).1 then (bif ieq (v.1.2.1.2.getD ((wr .i64 (x3+1)).tmod ↑v.1.2.1.2.length).toNat tP.dflt).2.1 (v.1.2.1.2.getD ((wr .i64 (x3+1)).tmod ↑v.1.2.1.2.length).toNat tP.dflt).2.1 then (bif ieq (v.1.2.1.2.getD x3.toNat tP.dflt).1 (v.1.2.1.2.getD x3.toNat tP.dflt).1 then (bif ieq (v.1.2.1.2.getD x3.toNat tP.dflt).2.1 (v.1.2.1.2.getD x3.toNat tP.dflt).2.1 then (bif ieq (v.1.2.1.2.getD x3.toNat tP.dflt).1 (v.1.2.1.2.getD x3.toNat tP.dflt).1 then (bif ieq (v.1.2.1.2.getD x3.toNat tP.dflt).2.1 (v.1.2.1.2.getD x3.toNat tP.dflt).2.1 then (bif ieq (v.1.2.1.2.getD x3.toNat tP.dflt).1 (v.1.2.1.2.getD x3.toNat tP.dflt).1 then (bif ieq (v.1.2.1.2.getD x3.toNat tP.dflt).2.1 (v.1.2.1.2.getD x3.toNat tP.dflt).2.1 then some (.stop (sidnI0 v px py r (wr .i64 (x3+1)) (x37))) else none) else none) else none) else none) else none) else none) else none) else none)) else none) else none) else none) else none) else none) else none) else none) else none) else none) else none) else none) else none) else none) else none) else none) else none)) else none) else some (.done (.bool (false))))):=by kernel_rfl
noncomputable def insdI0 (s:tSand.den) (mx my px py r:Int) (x15:Int) (x55:Nat):Cfg:=⟨.ex (pcOf N1 51 [0,0,1,0,1,1,1]) ⟨(tmOf 44 [(0,(.agg [(.str (s.1)),(.vs tP (s.2.1.1) (s.2.1.2)),(.int .i64 (s.2.2.1.1.1)),(.int .i64 (s.2.2.1.1.2.1)),(.int .i64 (s.2.2.1.2.1.1)),(.int .i64 (s.2.2.1.2.1.2.1))])),(1,(.agg [(.int .i64 (mx)),(.int .i64 (my))])),(2,(.agg [(.int .i64 (px)),(.int .i64 (py))])),(3,(.int .i64 (r))),(4,(.ptr 0 0)),(5,(.ptr 1 0)),(6,(.ptr 2 0)),(8,(.bool (false))),(9,(.vs tP (s.2.1.1) (s.2.1.2))),(10,(.int .i64 x15)),(11,(.int .i64 (r))),(12,(.bool (!ile r 0))),(13,(.bool (false))),(14,(.tup [])),(15,(.tup [])),(16,(.tup [])),(17,(.tup [])),(18,(.bool (false))),(19,(.ptr 0 1)),(20,(.vs tP (s.2.1.1) (s.2.1.2)))]),(hpOf 3 [(0,(.cells false [(.str (s.1)),(.vs tP (s.2.1.1) (s.2.1.2)),(.int .i64 (s.2.2.1.1.1)),(.int .i64 (s.2.2.1.1.2.1)),(.int .i64 (s.2.2.1.2.1.1)),(.int .i64 (s.2.2.1.2.1.2.1))])),(1,(.cells false [(.int .i64 (mx)),(.int .i64 (my))])),(2,(.cells false [(.int .i64 (px)),(.int .i64 (py))]))]),[],[],44,false⟩,⟨8,[]⟩,[(.lop (pcOf N1 51 [0,0,1,0,1,1,1]) 3 (tmOf 44 [(0,(.agg [(.str (s.1)),(.vs tP (s.2.1.1) (s.2.1.2)),(.int .i64 (s.2.2.1.1.1)),(.int .i64 (s.2.2.1.1.2.1)),(.int .i64 (s.2.2.1.2.1.1)),(.int .i64 (s.2.2.1.2.1.2.1))])),(1,(.agg [(.int .i64 (mx)),(.int .i64 (my))])),(2,(.agg [(.int .i64 (px)),(.int .i64 (py))])),(3,(.int .i64 (r))),(4,(.ptr 0 0)),(5,(.ptr 1 0)),(6,(.ptr 2 0)),(8,(.bool (false))),(9,(.vs tP (s.2.1.1) (s.2.1.2))),(10,(.int .i64 (0))),(11,(.int .i64 (r))),(12,(.bool (!ile r 0))),(13,(.bool (false))),(14,(.tup [])),(15,(.tup [])),(16,(.tup [])),(17,(.tup [])),(18,(.bool (false))),(19,(.ptr 0 1)),(20,(.vs tP (s.2.1.1) (s.2.1.2)))]) x55),(.blk 0),(.seq (pcOf N1 51 [1,1,1,1])),(.cal [(.tmp 8)] .top)]⟩
noncomputable def insdI1 (s:tSand.den) (mx my px py r:Int) (x15:Int) (x79:Nat):Cfg:=⟨.ex (pcOf N1 51 [0,0,1,0,1,1,1]) ⟨(tmOf 44 [(0,(.agg [(.str (s.1)),(.vs tP (s.2.1.1) (s.2.1.2)),(.int .i64 (s.2.2.1.1.1)),(.int .i64 (s.2.2.1.1.2.1)),(.int .i64 (s.2.2.1.2.1.1)),(.int .i64 (s.2.2.1.2.1.2.1))])),(1,(.agg [(.int .i64 (mx)),(.int .i64 (my))])),(2,(.agg [(.int .i64 (px)),(.int .i64 (py))])),(3,(.int .i64 (r))),(4,(.ptr 0 0)),(5,(.ptr 1 0)),(6,(.ptr 2 0)),(8,(.bool (false))),(9,(.vs tP (s.2.1.1) (s.2.1.2))),(10,(.int .i64 x15)),(11,(.int .i64 (r))),(12,(.bool (!ile r 0))),(13,(.bool (true))),(14,(.agg [(.str (s.1)),(.vs tP (s.2.1.1) (s.2.1.2)),(.int .i64 (s.2.2.1.1.1)),(.int .i64 (s.2.2.1.1.2.1)),(.int .i64 (s.2.2.1.2.1.1)),(.int .i64 (s.2.2.1.2.1.2.1))])),(15,(.agg [(.int .i64 (mx)),(.int .i64 (my))])),(16,(.agg [(.int .i64 (px)),(.int .i64 (py))])),(17,(.bool (liesF s.2.1.2 (px-mx) (py-my) 0 s.2.1.2.length))),(18,(.bool (false))),(19,(.ptr 0 1)),(20,(.vs tP (s.2.1.1) (s.2.1.2)))]),(hpOf 3 [(0,(.cells false [(.str (s.1)),(.vs tP (s.2.1.1) (s.2.1.2)),(.int .i64 (s.2.2.1.1.1)),(.int .i64 (s.2.2.1.1.2.1)),(.int .i64 (s.2.2.1.2.1.1)),(.int .i64 (s.2.2.1.2.1.2.1))])),(1,(.cells false [(.int .i64 (mx)),(.int .i64 (my))])),(2,(.cells false [(.int .i64 (px)),(.int .i64 (py))]))]),[],[],44,false⟩,⟨8,[]⟩,[(.lop (pcOf N1 51 [0,0,1,0,1,1,1]) 3 (tmOf 44 [(0,(.agg [(.str (s.1)),(.vs tP (s.2.1.1) (s.2.1.2)),(.int .i64 (s.2.2.1.1.1)),(.int .i64 (s.2.2.1.1.2.1)),(.int .i64 (s.2.2.1.2.1.1)),(.int .i64 (s.2.2.1.2.1.2.1))])),(1,(.agg [(.int .i64 (mx)),(.int .i64 (my))])),(2,(.agg [(.int .i64 (px)),(.int .i64 (py))])),(3,(.int .i64 (r))),(4,(.ptr 0 0)),(5,(.ptr 1 0)),(6,(.ptr 2 0)),(8,(.bool (false))),(9,(.vs tP (s.2.1.1) (s.2.1.2))),(10,(.int .i64 (0))),(11,(.int .i64 (r))),(12,(.bool (!ile r 0))),(13,(.bool (true))),(14,(.agg [(.str (s.1)),(.vs tP (s.2.1.1) (s.2.1.2)),(.int .i64 (s.2.2.1.1.1)),(.int .i64 (s.2.2.1.1.2.1)),(.int .i64 (s.2.2.1.2.1.1)),(.int .i64 (s.2.2.1.2.1.2.1))])),(15,(.agg [(.int .i64 (mx)),(.int .i64 (my))])),(16,(.agg [(.int .i64 (px)),(.int .i64 (py))])),(17,(.bool (liesF s.2.1.2 (px-mx) (py-my) 0 s.2.1.2.length))),(18,(.bool (false))),(19,(.ptr 0 1)),(20,(.vs tP (s.2.1.1) (s.2.1.2)))]) x79),(.blk 0),(.seq (pcOf N1 51 [1,1,1,1])),(.cal [(.tmp 8)] .top)]⟩
theorem insd_start (s:tSand.den) (mx my px py r:Int):adv N1 (V1 [51]) 3000 (startC N1 51 [tSand.av s,.agg [.int .i64 mx,.int .i64 my],.agg [.int .i64 px,.int .i64 py],.int .i64 r] 8)=(bif !ile r 0 then (bif cOK s.2.1.2&&in5 mx&&in5 my&&in10 px&&in10 py then (bif liesF s.2.1.2 (px-mx) (py-my) 0 s.2.1.2.length then some (.done (.bool (true))) else some (.stop (insdI1 s mx my px py r (0) (1048575)))) else none) else some (.stop (insdI0 s mx my px py r (0) (1048575)))):=by kernel_rfl
theorem insd_step0 (s:tSand.den) (mx my px py r:Int) (x15:Int) (x55:Nat):adv N1 (V1 [51]) 3000 (insdI0 s mx my px py r x15 (x55+1))=(bif !ile (↑s.2.1.2.length) x15 then (bif inB x15 s.2.1.2.length then (bif ieq (↑s.2.1.2.length) 0 then none else (bif inB ((wr .i64 (x15+1)).tmod ↑s.2.1.2.length) s.2.1.2.length then (bif in10 (s.2.1.2.getD x15.toNat tP.dflt).1&&in10 (s.2.1.2.getD x15.toNat tP.dflt).2.1&&in10 (s.2.1.2.getD ((wr .i64 (x15+1)).tmod ↑s.2.1.2.length).toNat tP.dflt).1&&in10 (s.2.1.2.getD ((wr .i64 (x15+1)).tmod ↑s.2.1.2.length).toNat tP.dflt).2.1&&in2 (wr .i64 (px-mx)-(s.2.1.2.getD x15.toNat tP.dflt).1)&&in2 (wr .i64 (py-my)-(s.2.1.2.getD x15.toNat tP.dflt).2.1)&&inr r then (bif ieq mx mx then (bif ieq my my then (bif ieq px px then (bif ieq py py then (bif nearI ((s.2.1.2.getD ((wr .i64 (x15+1)).tmod ↑s.2.1.2.length).toNat tP.dflt).1-(s.2.1.2.getD x15.toNat tP.dflt).1) ((s.2.1.2.getD ((wr .i64 (x15+1)).tmod ↑s.2.1.2.length).toNat tP.dflt).2.1-(s.2.1.2.getD x15.toNat tP.dflt).2.1) (wr .i64 (px-mx)-(s.2.1.2.getD x15.toNat tP.dflt).1) (wr .i64 (py-my)-(s.2.1.2.getD x15.toNat tP.dflt).2.1) r then some (.done (.bool (true))) else some (.stop (insdI0 s mx my px py r (wr .i64 (x15+1)) (x55)))) else none) else none) else none) else none) else none) else none)) else none) else some (.done (.bool (false)))):=by kernel_rfl
theorem insd_step1 (s:tSand.den) (mx my px py r:Int) (x15:Int) (x79:Nat):adv N1 (V1 [51]) 3000 (insdI1 s mx my px py r x15 (x79+1))=(bif !ile (↑s.2.1.2.length) x15 then (bif inB x15 s.2.1.2.length then (bif ieq (↑s.2.1.2.length) 0 then none else (bif inB ((wr .i64 (x15+1)).tmod ↑s.2.1.2.length) s.2.1.2.length then (bif in10 (s.2.1.2.getD x15.toNat tP.dflt).1&&in10 (s.2.1.2.getD x15.toNat tP.dflt).2.1&&in10 (s.2.1.2.getD ((wr .i64 (x15+1)).tmod ↑s.2.1.2.length).toNat tP.dflt).1&&in10 (s.2.1.2.getD ((wr .i64 (x15+1)).tmod ↑s.2.1.2.length).toNat tP.dflt).2.1&&in2 (wr .i64 (px-mx)-(s.2.1.2.getD x15.toNat tP.dflt).1)&&in2 (wr .i64 (py-my)-(s.2.1.2.getD x15.toNat tP.dflt).2.1)&&inr r then (bif ieq mx mx then (bif ieq my my then (bif ieq px px then (bif ieq py py then (bif nearI ((s.2.1.2.getD ((wr .i64 (x15+1)).tmod ↑s.2.1.2.length).toNat tP.dflt).1-(s.2.1.2.getD x15.toNat tP.dflt).1) ((s.2.1.2.getD ((wr .i64 (x15+1)).tmod ↑s.2.1.2.length).toNat tP.dflt).2.1-(s.2.1.2.getD x15.toNat tP.dflt).2.1) (wr .i64 (px-mx)-(s.2.1.2.getD x15.toNat tP.dflt).1) (wr .i64 (py-my)-(s.2.1.2.getD x15.toNat tP.dflt).2.1) r then some (.done (.bool (true))) else some (.stop (insdI1 s mx my px py r (wr .i64 (x15+1)) (x79)))) else none) else none) else none) else none) else none) else none)) else none) else some (.done (.bool (false)))):=by kernel_rfl
noncomputable def sidF (C:List tP.den) (dx dy r:Int):Nat→Nat→Bool
 |_,0=>false
 |k,n+1=>bif nearI (sA C k) (sB C k) (dx-gx C k) (dy-gy C k) r then true else sidF C dx dy r (k+1) n
noncomputable def in11 (x:Int):Bool:=ile (-11000) x&&ile x 11000
theorem in11_iff {x:Int}:in11 x=true↔-11000≤x∧x≤11000:=by simp only[in11,Bool.and_eq_true,ile_iff,decide_eq_true_eq]
theorem sidn_ans (v:tView.den) (px py r:Int) (C:List tP.den) (hC:v.1.2.1.2=C) (hi8:C.length<1000) (hin:inC C) (b1:in11 px=true) (b2:in11 py=true) (b3:inr r=true) :
  ∀ (n k m:Nat),k+n=C.length→n<m→Ans N1 (sidnI0 v px py r k m) (.bool (sidF C px py r k n))
 |0,k,m+1,hk,hm=>by
  have h:=sidn_step0 v px py r k m
  simp only[hC,Int.ofNat_eq_natCast,ile_ge (show C.length≤k by omega),Bool.not_true,cond_false] at h
  exact .doneB (V1_ok _) N1sy h rfl
 | n + 1, k, m + 1, hk, hm => by
  have h:=sidn_step0 v px py r k m
  have hlt:k<C.length:=by omega
  have hq:(k+1) % C.length<C.length:=Nat.mod_lt _ (by omega)
  have hne:ieq (C.length:Int) 0=false:=by rw[ieq_iff];exact decide_eq_false (by omega)
  have hb1:=hin k hlt
  have hb2:=hin _ hq
  have k1:=in11_iff.1 b1
  have k2:=in11_iff.1 b2
  rw[sidF]
  simp only[hC,Int.ofNat_eq_natCast,ile_lt hlt,inB_at hlt,nxt_at,inB_at hq,hne,nat_to,ieq_self,bbeq_self,vsB_self,wr_succ (show k<1048577 by omega),Bool.not_false,cond_true,cond_false] at h
  have f1:∀ j,(C.getD j tP.dflt).1=gx C j:=fun j=>rfl
  have f2:∀ j,(C.getD j tP.dflt).2.1=gy C j:=fun j=>rfl
  simp only[f1,f2] at h
  have w1:wr .i64 (gx C ((k+1) % C.length)-gx C k)=sA C k:=by rw[wr_in (by omega) (by omega)];rfl
  have w2:wr .i64 (gy C ((k+1) % C.length)-gy C k)=sB C k:=by rw[wr_in (by omega) (by omega)];rfl
  have w3:wr .i64 (px-gx C k)=px-gx C k:=wr_in (by omega) (by omega)
  have w4:wr .i64 (py-gy C k)=py-gy C k:=wr_in (by omega) (by omega)
  have hA:sA C k=gx C ((k+1) % C.length)-gx C k:=rfl
  have hB:sB C k=gy C ((k+1) % C.length)-gy C k:=rfl
  have hn:nrB (sA C k) (sB C k) (px-gx C k) (py-gy C k) r=true:=by
   unfold nrB
   rw[b3,in2_iff.2 (show -21000≤sA C k∧sA C k≤21000 by omega),in2_iff.2 (show -21000≤sB C k∧sB C k≤21000 by omega),in2_iff.2 (show -21000≤px-gx C k∧px-gx C k≤21000 by omega),in2_iff.2 (show -21000≤py-gy C k∧py-gy C k≤21000 by omega)];rfl
  simp only[w1,w2,w3,w4,hn,cond_true] at h
  cases e:nearI (sA C k) (sB C k) (px-gx C k) (py-gy C k) r with
  |true=>simp only[e,cond_true] at h⊢;exact .doneB (V1_ok _) N1sy h rfl
  |false=>
   simp only[e,cond_false] at h⊢
   exact .stop (V1_ok _) N1sy h (sidn_ans v px py r C hC hi8 hin b1 b2 b3 n (k+1) m (by omega) (by omega))
theorem sidn_call (v:tView.den) (p:tP.den) (r:Int) (hC:cOK v.1.2.1.2=true) (b1:in11 p.1=true) (b2:in11 p.2.1=true) (b3:inr r=true):AnsF N1 122 [tView.av v,tP.av p,.int .i64 r] (.bool (sidF v.1.2.1.2 p.1 p.2.1 r 0 v.1.2.1.2.length)):=by
 obtain⟨a,b⟩:=cOK_in hC
 exact Ans.call (n:=8) (ext_none (by kernel_rfl)) (hasB_spec (by kernel_rfl)) (.stop (V1_ok _) N1sy (sidn_start v p.1 p.2.1 r) (sidn_ans v p.1 p.2.1 r _ rfl (by omega) b b1 b2 b3 _ 0 1048575 (by omega) (by omega)))
section
variable (s:tSand.den) (mx my px py r:Int) (C:List tP.den) (hC:s.2.1.2=C) (hi8:C.length<1000) (hin:inC C) (b1:in5 mx=true) (b2:in5 my=true) (b3:in10 px=true) (b4:in10 py=true) (b5:inr r=true)
include hC hi8 hin b1 b2 b3 b4 b5
theorem insd_ans0:∀ (n k m:Nat),k+n=C.length→n<m→Ans N1 (insdI0 s mx my px py r k m) (.bool (sidF C (px-mx) (py-my) r k n))
 |0,k,m+1,hk,hm=>by
  have h:=insd_step0 s mx my px py r k m
  simp only[hC,ile_ge (show C.length≤k by omega),Bool.not_true,cond_false] at h
  exact .doneB (V1_ok _) N1sy h rfl
 | n + 1, k, m + 1, hk, hm => by
  have h:=insd_step0 s mx my px py r k m
  have hlt:k<C.length:=by omega
  have hq:(k+1) % C.length<C.length:=Nat.mod_lt _ (by omega)
  have hne:ieq (C.length:Int) 0=false:=by rw[ieq_iff];exact decide_eq_false (by omega)
  have hb1:=hin k hlt
  have hb2:=hin _ hq
  have k1:=in5_iff.1 b1
  have k2:=in5_iff.1 b2
  have k3:=in10_iff.1 b3
  have k4:=in10_iff.1 b4
  rw[sidF]
  simp only[hC,ile_lt hlt,inB_at hlt,nxt_at,inB_at hq,hne,nat_to,ieq_self,wr_succ (show k<1048577 by omega),Bool.not_false,cond_true,cond_false] at h
  have f1:∀ j,(C.getD j tP.dflt).1=gx C j:=fun j=>rfl
  have f2:∀ j,(C.getD j tP.dflt).2.1=gy C j:=fun j=>rfl
  simp only[f1,f2] at h
  have w1:wr .i64 (px-mx)=px-mx:=wr_in (by omega) (by omega)
  have w2:wr .i64 (py-my)=py-my:=wr_in (by omega) (by omega)
  have hA:gx C ((k+1) % C.length)-gx C k=sA C k:=rfl
  have hB:gy C ((k+1) % C.length)-gy C k=sB C k:=rfl
  simp only[w1,w2,hA,hB,b5,in10_iff.2 hb1.1,in10_iff.2 hb1.2,in10_iff.2 hb2.1,in10_iff.2 hb2.2,in2_iff.2 (show -21000≤px-mx-gx C k∧px-mx-gx C k≤21000 by omega),in2_iff.2 (show -21000≤py-my-gy C k∧py-my-gy C k≤21000 by omega),Bool.and_self,cond_true] at h
  cases e:nearI (sA C k) (sB C k) (px-mx-gx C k) (py-my-gy C k) r with
  |true=>simp only[e,cond_true] at h⊢;exact .doneB (V1_ok _) N1sy h rfl
  |false=>
   simp only[e,cond_false] at h⊢
   exact .stop (V1_ok _) N1sy h (insd_ans0 n (k+1) m (by omega) (by omega))
theorem insd_ans1:∀ (n k m:Nat),k+n=C.length→n<m→Ans N1 (insdI1 s mx my px py r k m) (.bool (sidF C (px-mx) (py-my) r k n))
 |0,k,m+1,hk,hm=>by
  have h:=insd_step1 s mx my px py r k m
  simp only[hC,ile_ge (show C.length≤k by omega),Bool.not_true,cond_false] at h
  exact .doneB (V1_ok _) N1sy h rfl
 | n + 1, k, m + 1, hk, hm => by
  have h:=insd_step1 s mx my px py r k m
  have hlt:k<C.length:=by omega
  have hq:(k+1) % C.length<C.length:=Nat.mod_lt _ (by omega)
  have hne:ieq (C.length:Int) 0=false:=by rw[ieq_iff];exact decide_eq_false (by omega)
  have hb1:=hin k hlt
  have hb2:=hin _ hq
  have k1:=in5_iff.1 b1
  have k2:=in5_iff.1 b2
  have k3:=in10_iff.1 b3
  have k4:=in10_iff.1 b4
  rw[sidF]
  simp only[hC,ile_lt hlt,inB_at hlt,nxt_at,inB_at hq,hne,nat_to,ieq_self,wr_succ (show k<1048577 by omega),Bool.not_false,cond_true,cond_false] at h
  have f1:∀ j,(C.getD j tP.dflt).1=gx C j:=fun j=>rfl
  have f2:∀ j,(C.getD j tP.dflt).2.1=gy C j:=fun j=>rfl
  simp only[f1,f2] at h
  have w1:wr .i64 (px-mx)=px-mx:=wr_in (by omega) (by omega)
  have w2:wr .i64 (py-my)=py-my:=wr_in (by omega) (by omega)
  have hA:gx C ((k+1) % C.length)-gx C k=sA C k:=rfl
  have hB:gy C ((k+1) % C.length)-gy C k=sB C k:=rfl
  simp only[w1,w2,hA,hB,b5,in10_iff.2 hb1.1,in10_iff.2 hb1.2,in10_iff.2 hb2.1,in10_iff.2 hb2.2,in2_iff.2 (show -21000≤px-mx-gx C k∧px-mx-gx C k≤21000 by omega),in2_iff.2 (show -21000≤py-my-gy C k∧py-my-gy C k≤21000 by omega),Bool.and_self,cond_true] at h
  cases e:nearI (sA C k) (sB C k) (px-mx-gx C k) (py-my-gy C k) r with
  |true=>simp only[e,cond_true] at h⊢;exact .doneB (V1_ok _) N1sy h rfl
  |false=>
   simp only[e,cond_false] at h⊢
   exact .stop (V1_ok _) N1sy h (insd_ans1 n (k+1) m (by omega) (by omega))
end
noncomputable def insF (C:List tP.den) (dx dy r:Int):Bool:=(bif ile r 0 then false else liesF C dx dy 0 C.length) || sidF C dx dy r 0 C.length
theorem insd_call (s:tSand.den) (mv pt:tP.den) (r:Int) (hC:cOK s.2.1.2=true) (b1:in5 mv.1=true) (b2:in5 mv.2.1=true) (b3:in10 pt.1=true) (b4:in10 pt.2.1=true) (b5:inr r=true):AnsF N1 51 [tSand.av s,tP.av mv,tP.av pt,.int .i64 r] (.bool (insF s.2.1.2 (pt.1-mv.1) (pt.2.1-mv.2.1) r)):=by
 obtain⟨a,b⟩:=cOK_in hC
 refine Ans.call (n:=8) (ext_none (by kernel_rfl)) (hasB_spec (by kernel_rfl)) ?_
 have h:=insd_start s mv.1 mv.2.1 pt.1 pt.2.1 r
 have hav:startC N1 51 [tSand.av s,tP.av mv,tP.av pt,.int .i64 r] 8=startC N1 51 [tSand.av s,.agg [.int .i64 mv.1,.int .i64 mv.2.1],.agg [.int .i64 pt.1,.int .i64 pt.2.1],.int .i64 r] 8:=rfl
 rw[hav]
 unfold insF
 cases e:ile r 0 with
 |true=>
  simp only[e,Bool.not_true,cond_true,cond_false,Bool.false_or] at h⊢
  exact .stop (V1_ok _) N1sy h (insd_ans0 s mv.1 mv.2.1 pt.1 pt.2.1 r _ rfl (by omega) b b1 b2 b3 b4 b5 _ 0 1048575 (by omega) (by omega))
 | false =>
  simp only[e,hC,b1,b2,b3,b4,Bool.and_self,Bool.not_false,cond_true,cond_false] at h⊢
  cases e2:liesF s.2.1.2 (pt.1-mv.1) (pt.2.1-mv.2.1) 0 s.2.1.2.length with
  |true=>simp only[e2,cond_true,Bool.true_or] at h⊢;exact .doneB (V1_ok _) N1sy h rfl
  |false=>
   simp only[e2,cond_false,Bool.false_or] at h⊢
   exact .stop (V1_ok _) N1sy h (insd_ans1 s mv.1 mv.2.1 pt.1 pt.2.1 r _ rfl (by omega) b b1 b2 b3 b4 b5 _ 0 1048575 (by omega) (by omega))
noncomputable def LO:List Said:=[(122,con3 tView tP tI (fun v p r=>cOK v.1.2.1.2&&in11 p.1&&in11 p.2.1&&inr r) (fun v p r=>.bool (sidF v.1.2.1.2 p.1 p.2.1 r 0 v.1.2.1.2.length))),
 (51,con4 tSand tP tP tI (fun s mv pt r=>cOK s.2.1.2&&in5 mv.1&&in5 mv.2.1&&in10 pt.1&&in10 pt.2.1&&inr r) (fun s mv pt r=>.bool (insF s.2.1.2 (pt.1-mv.1) (pt.2.1-mv.2.1) r)))]
theorem LO_ok:∀ e∈LO,SaidG Tryz.prog N1.glob e:=
 saids_cons (SaidOK.g en1 xn1 nn1 tabs_ok.mix (fun _ _ h=>con3_spec (t:=tView) (u:=tP) (w:=tI) (fun v p r hc=>by
  simp only[Bool.and_eq_true] at hc
  exact sidn_call v p r hc.1.1.1 hc.1.1.2 hc.1.2 hc.2) h) rfl)
 (saids_cons (SaidOK.g en1 xn1 nn1 tabs_ok.mix (fun _ _ h => con4_spec (t := tSand) (u := tP) (w := tP) (s := tI) (fun s mv pt r hc => by
  simp only[Bool.and_eq_true] at hc
  exact insd_call s mv pt r hc.1.1.1.1.1 hc.1.1.1.1.2 hc.1.1.1.2 hc.1.1.2 hc.1.2 hc.2) h) rfl) saids_nil)
noncomputable def N2:Env:=N1.say (under (xOf LO))
theorem en2:EnvOK Tryz.prog N2:=en1.say _
theorem nn2:NameOK N2:=nn1.say _
theorem xn2:ExtOK Tryz.prog N2:=xn1.sayL LO_ok
theorem N2sy:N2.sy=true:=rfl
noncomputable def V2 (l:List Nat):Sy:=(V1 []).on LO l
theorem V2_ok (l:List Nat):(V2 l).ok N2:=Sy.on_ok (V1_ok _)
end Go.Proofs.YtgaoajmlckgdaaaGreatDoor

