/-
  THE ENGINE: one more part of it.
-/
import Derived.Test.YtgaoajmlckgdaaaGreatDoorPart04
import Derived.Test.YtgaoajmlckgdaaaGreatDoorPart03
import Derived.ProofKit
set_option linter.unusedSectionVars false
set_option linter.unusedSimpArgs false
set_option linter.unusedVariables false
set_option maxRecDepth 100000
namespace Go.Proofs.YtgaoajmlckgdaaaGreatDoor
open Go Go.Eng
noncomputable def fmovI0 (v:tView.den) (r:Int) (x3:Int) (x41:Nat):Cfg:=⟨.ex (pcOf N2 111 [0,0,1]) ⟨(tmOf 33 [(0,(.yld 5)),(1,(.ptr 4 0)),(5,(.ptr 4 0)),(6,(.agg [(.int .i64 (v.1.2.2.1.1.1)),(.int .i64 (v.1.2.2.1.1.2.1))])),(7,(.int .i64 (wr .i64 (wr .i64 (v.1.2.2.1.1.2.1-v.1.2.2.1.1.1)+1)))),(8,(.int .i64 x3))]),(hpOf 7 [(0,(.cells false [(.str (v.1.1)),(.vs tP (v.1.2.1.1) (v.1.2.1.2)),(.int .i64 (v.1.2.2.1.1.1)),(.int .i64 (v.1.2.2.1.1.2.1)),(.int .i64 (v.1.2.2.1.2.1.1)),(.int .i64 (v.1.2.2.1.2.1.2.1)),(.int .i64 (v.2.1.1)),(.int .i64 (v.2.1.2.1))])),(1,(.cells false [(.int .i64 (r))])),(2,(.cells false [(.int .i64 (0)),(.int .i64 (0))])),(3,(.cells false [(.bool (false))])),(4,(.cells false [(.int .i64 (v.1.2.2.1.1.1)),(.int .i64 (v.1.2.2.1.1.2.1)),(.int .i64 (v.1.2.2.1.2.1.1)),(.int .i64 (v.1.2.2.1.2.1.2.1))])),(6,(.cells false [(.int .i64 (v.1.2.2.1.1.1)),(.int .i64 (v.1.2.2.1.1.2.1))]))]),[],[⟨false,.normal⟩],33,false⟩,⟨9,[⟨5,38,10,(tmOf 38 [(0,(.agg [(.str (v.1.1)),(.vs tP (v.1.2.1.1) (v.1.2.1.2)),(.int .i64 (v.1.2.2.1.1.1)),(.int .i64 (v.1.2.2.1.1.2.1)),(.int .i64 (v.1.2.2.1.2.1.1)),(.int .i64 (v.1.2.2.1.2.1.2.1)),(.int .i64 (v.2.1.1)),(.int .i64 (v.2.1.2.1))])),(1,(.int .i64 (r))),(2,(.ptr 0 0)),(3,(.ptr 1 0)),(4,(.ptr 2 0)),(5,(.ptr 3 0)),(10,(.ptr 0 0)),(11,(.ptr 0 2)),(12,(.agg [(.int .i64 (v.1.2.2.1.1.1)),(.int .i64 (v.1.2.2.1.1.2.1)),(.int .i64 (v.1.2.2.1.2.1.1)),(.int .i64 (v.1.2.2.1.2.1.2.1))])),(13,(.fn 111 [] [(.ptr 4 0)]))]),#[14],(pcOf N2 108 [0,0,1,0,1,0,1]),(pcOf N2 108 [1,0,1,0,1,0,1])⟩]⟩,[(.lop (pcOf N2 111 [0,0,1]) 7 (tmOf 33 [(0,(.yld 5)),(1,(.ptr 4 0)),(5,(.ptr 4 0)),(6,(.agg [(.int .i64 (v.1.2.2.1.1.1)),(.int .i64 (v.1.2.2.1.1.2.1))])),(7,(.int .i64 (wr .i64 (wr .i64 (v.1.2.2.1.1.2.1-v.1.2.2.1.1.1)+1)))),(8,(.int .i64 (0)))]) x41),(.blk 0),(.cal [] (.rng (tmOf 38 [(0,(.agg [(.str (v.1.1)),(.vs tP (v.1.2.1.1) (v.1.2.1.2)),(.int .i64 (v.1.2.2.1.1.1)),(.int .i64 (v.1.2.2.1.1.2.1)),(.int .i64 (v.1.2.2.1.2.1.1)),(.int .i64 (v.1.2.2.1.2.1.2.1)),(.int .i64 (v.2.1.1)),(.int .i64 (v.2.1.2.1))])),(1,(.int .i64 (r))),(2,(.ptr 0 0)),(3,(.ptr 1 0)),(4,(.ptr 2 0)),(5,(.ptr 3 0)),(10,(.ptr 0 0)),(11,(.ptr 0 2)),(12,(.agg [(.int .i64 (v.1.2.2.1.1.1)),(.int .i64 (v.1.2.2.1.1.2.1)),(.int .i64 (v.1.2.2.1.2.1.1)),(.int .i64 (v.1.2.2.1.2.1.2.1))])),(13,(.fn 111 [] [(.ptr 4 0)]))]) [] 38 false ⟨10,[]⟩)),(.blk 0),(.seq (pcOf N2 108 [1,1,0,1])),(.cal [(.cell 4 27),(.cell 5 4)] .top)]⟩
noncomputable def fmovI1 (v:tView.den) (r:Int) (x0:Int) (x10:Int) (x57:Nat) (x62:Nat):Cfg:=⟨.ex (pcOf N2 111 [0,0,1,1,0,0,1,1,0,0,1]) ⟨(tmOf 33 [(0,(.yld 5)),(1,(.ptr 4 0)),(3,(.int .i64 x0)),(5,(.ptr 4 0)),(6,(.agg [(.int .i64 (v.1.2.2.1.1.1)),(.int .i64 (v.1.2.2.1.1.2.1))])),(7,(.int .i64 (wr .i64 (wr .i64 (v.1.2.2.1.1.2.1-v.1.2.2.1.1.1)+1)))),(8,(.int .i64 x0)),(9,(.bool (true))),(10,(.int .i64 x0)),(11,(.ptr 4 2)),(12,(.agg [(.int .i64 (v.1.2.2.1.2.1.1)),(.int .i64 (v.1.2.2.1.2.1.2.1))])),(13,(.int .i64 (wr .i64 (wr .i64 (v.1.2.2.1.2.1.2.1-v.1.2.2.1.2.1.1)+1)))),(14,(.int .i64 x10))]),(hpOf 8 [(0,(.cells false [(.str (v.1.1)),(.vs tP (v.1.2.1.1) (v.1.2.1.2)),(.int .i64 (v.1.2.2.1.1.1)),(.int .i64 (v.1.2.2.1.1.2.1)),(.int .i64 (v.1.2.2.1.2.1.1)),(.int .i64 (v.1.2.2.1.2.1.2.1)),(.int .i64 (v.2.1.1)),(.int .i64 (v.2.1.2.1))])),(1,(.cells false [(.int .i64 (r))])),(2,(.cells false [(.int .i64 (0)),(.int .i64 (0))])),(3,(.cells false [(.bool (false))])),(4,(.cells false [(.int .i64 (v.1.2.2.1.1.1)),(.int .i64 (v.1.2.2.1.1.2.1)),(.int .i64 (v.1.2.2.1.2.1.1)),(.int .i64 (v.1.2.2.1.2.1.2.1))])),(6,(.cells false [(.int .i64 (v.1.2.2.1.1.1)),(.int .i64 (v.1.2.2.1.1.2.1))])),(7,(.cells false [(.int .i64 (v.1.2.2.1.2.1.1)),(.int .i64 (v.1.2.2.1.2.1.2.1))]))]),[],[⟨false,.normal⟩],33,false⟩,⟨9,[⟨5,38,10,(tmOf 38 [(0,(.agg [(.str (v.1.1)),(.vs tP (v.1.2.1.1) (v.1.2.1.2)),(.int .i64 (v.1.2.2.1.1.1)),(.int .i64 (v.1.2.2.1.1.2.1)),(.int .i64 (v.1.2.2.1.2.1.1)),(.int .i64 (v.1.2.2.1.2.1.2.1)),(.int .i64 (v.2.1.1)),(.int .i64 (v.2.1.2.1))])),(1,(.int .i64 (r))),(2,(.ptr 0 0)),(3,(.ptr 1 0)),(4,(.ptr 2 0)),(5,(.ptr 3 0)),(10,(.ptr 0 0)),(11,(.ptr 0 2)),(12,(.agg [(.int .i64 (v.1.2.2.1.1.1)),(.int .i64 (v.1.2.2.1.1.2.1)),(.int .i64 (v.1.2.2.1.2.1.1)),(.int .i64 (v.1.2.2.1.2.1.2.1))])),(13,(.fn 111 [] [(.ptr 4 0)]))]),#[14],(pcOf N2 108 [0,0,1,0,1,0,1]),(pcOf N2 108 [1,0,1,0,1,0,1])⟩]⟩,[(.lop (pcOf N2 111 [0,0,1,1,0,0,1,1,0,0,1]) 8 (tmOf 33 [(0,(.yld 5)),(1,(.ptr 4 0)),(3,(.int .i64 x0)),(5,(.ptr 4 0)),(6,(.agg [(.int .i64 (v.1.2.2.1.1.1)),(.int .i64 (v.1.2.2.1.1.2.1))])),(7,(.int .i64 (wr .i64 (wr .i64 (v.1.2.2.1.1.2.1-v.1.2.2.1.1.1)+1)))),(8,(.int .i64 x0)),(9,(.bool (true))),(10,(.int .i64 x0)),(11,(.ptr 4 2)),(12,(.agg [(.int .i64 (v.1.2.2.1.2.1.1)),(.int .i64 (v.1.2.2.1.2.1.2.1))])),(13,(.int .i64 (wr .i64 (wr .i64 (v.1.2.2.1.2.1.2.1-v.1.2.2.1.2.1.1)+1)))),(14,(.int .i64 (0)))]) x57),(.blk 2),(.blk 1),(.seq (pcOf N2 111 [1,1,1,0,0,1])),(.lop (pcOf N2 111 [0,0,1]) 7 (tmOf 33 [(0,(.yld 5)),(1,(.ptr 4 0)),(5,(.ptr 4 0)),(6,(.agg [(.int .i64 (v.1.2.2.1.1.1)),(.int .i64 (v.1.2.2.1.1.2.1))])),(7,(.int .i64 (wr .i64 (wr .i64 (v.1.2.2.1.1.2.1-v.1.2.2.1.1.1)+1)))),(8,(.int .i64 (0)))]) x62),(.blk 0),(.cal [] (.rng (tmOf 38 [(0,(.agg [(.str (v.1.1)),(.vs tP (v.1.2.1.1) (v.1.2.1.2)),(.int .i64 (v.1.2.2.1.1.1)),(.int .i64 (v.1.2.2.1.1.2.1)),(.int .i64 (v.1.2.2.1.2.1.1)),(.int .i64 (v.1.2.2.1.2.1.2.1)),(.int .i64 (v.2.1.1)),(.int .i64 (v.2.1.2.1))])),(1,(.int .i64 (r))),(2,(.ptr 0 0)),(3,(.ptr 1 0)),(4,(.ptr 2 0)),(5,(.ptr 3 0)),(10,(.ptr 0 0)),(11,(.ptr 0 2)),(12,(.agg [(.int .i64 (v.1.2.2.1.1.1)),(.int .i64 (v.1.2.2.1.1.2.1)),(.int .i64 (v.1.2.2.1.2.1.1)),(.int .i64 (v.1.2.2.1.2.1.2.1))])),(13,(.fn 111 [] [(.ptr 4 0)]))]) [] 38 false ⟨10,[]⟩)),(.blk 0),(.seq (pcOf N2 108 [1,1,0,1])),(.cal [(.cell 4 27),(.cell 5 4)] .top)]⟩
noncomputable def fmovI2 (v:tView.den) (r:Int) (x3:Int) (x25:Int) (x26:Int) (x31:Int) (x32:Int) (x78:Nat) (x116:Int) (x117:Int) (x163:Nat) (x168:Nat):Cfg:=⟨.ex (pcOf N2 131 [0,0,1]) ⟨(tmOf 29 [(0,(.yld 14)),(1,(.ptr 13 0)),(6,(.vs tP (v.1.2.1.1) (v.1.2.1.2))),(7,(.int .i64 (Int.ofNat v.1.2.1.2.length))),(8,(.int .i64 x3))]),(hpOf 15 [(0,(.cells false [(.str (v.1.1)),(.vs tP (v.1.2.1.1) (v.1.2.1.2)),(.int .i64 (v.1.2.2.1.1.1)),(.int .i64 (v.1.2.2.1.1.2.1)),(.int .i64 (v.1.2.2.1.2.1.1)),(.int .i64 (v.1.2.2.1.2.1.2.1)),(.int .i64 (v.2.1.1)),(.int .i64 (v.2.1.2.1))])),(1,(.cells false [(.int .i64 (r))])),(2,(.cells false [(.int .i64 (0)),(.int .i64 (0))])),(3,(.cells false [(.bool (false))])),(4,(.cells false [(.int .i64 (v.1.2.2.1.1.1)),(.int .i64 (v.1.2.2.1.1.2.1)),(.int .i64 (v.1.2.2.1.2.1.1)),(.int .i64 (v.1.2.2.1.2.1.2.1))])),(6,(.cells false [(.int .i64 (v.1.2.2.1.1.1)),(.int .i64 (v.1.2.2.1.1.2.1))])),(7,(.cells false [(.int .i64 (v.1.2.2.1.2.1.1)),(.int .i64 (v.1.2.2.1.2.1.2.1))])),(8,(.cells false [(.int .i64 x25),(.int .i64 x26)])),(9,(.cells false [(.int .i64 x25),(.int .i64 x26)])),(10,(.cells false [(.int .i64 (v.2.1.1)),(.int .i64 (v.2.1.2.1))])),(11,(.cells false [(.int .i64 x31),(.int .i64 x32)])),(12,(.cells false [(.int .i64 x31),(.int .i64 x32)])),(13,(.cells false [(.vs tP (v.1.2.1.1) (v.1.2.1.2))]))]),[],[⟨false,.normal⟩],29,false⟩,⟨9,[⟨14,38,10,(tmOf 38 [(0,(.agg [(.str (v.1.1)),(.vs tP (v.1.2.1.1) (v.1.2.1.2)),(.int .i64 (v.1.2.2.1.1.1)),(.int .i64 (v.1.2.2.1.1.2.1)),(.int .i64 (v.1.2.2.1.2.1.1)),(.int .i64 (v.1.2.2.1.2.1.2.1)),(.int .i64 (v.2.1.1)),(.int .i64 (v.2.1.2.1))])),(1,(.int .i64 (r))),(2,(.ptr 0 0)),(3,(.ptr 1 0)),(4,(.ptr 2 0)),(5,(.ptr 3 0)),(6,(.ptr 8 0)),(7,(.ptr 12 0)),(10,(.ptr 0 0)),(11,(.ptr 0 2)),(12,(.agg [(.int .i64 (v.1.2.2.1.1.1)),(.int .i64 (v.1.2.2.1.1.2.1)),(.int .i64 (v.1.2.2.1.2.1.1)),(.int .i64 (v.1.2.2.1.2.1.2.1))])),(13,(.fn 111 [] [(.ptr 4 0)])),(14,(.agg [(.int .i64 x25),(.int .i64 x26)])),(15,(.agg [(.int .i64 x25),(.int .i64 x26)])),(16,(.ptr 0 6)),(17,(.agg [(.int .i64 (v.2.1.1)),(.int .i64 (v.2.1.2.1))])),(18,(.agg [(.int .i64 x31),(.int .i64 x32)])),(19,(.agg [(.str (v.1.1)),(.vs tP (v.1.2.1.1) (v.1.2.1.2)),(.int .i64 (v.1.2.2.1.1.1)),(.int .i64 (v.1.2.2.1.1.2.1)),(.int .i64 (v.1.2.2.1.2.1.1)),(.int .i64 (v.1.2.2.1.2.1.2.1)),(.int .i64 (v.2.1.1)),(.int .i64 (v.2.1.2.1))])),(20,(.agg [(.int .i64 x31),(.int .i64 x32)])),(21,(.int .i64 (r))),(22,(.bool (false))),(24,(.ptr 0 0)),(25,(.ptr 0 1)),(26,(.vs tP (v.1.2.1.1) (v.1.2.1.2))),(27,(.fn 131 [] [(.ptr 13 0)]))]),#[28,29],(pcOf N2 108 [0,0,1,0,1,1,0,1,0,1,0,1,0,1]),(pcOf N2 108 [1,0,1,0,1,1,0,1,0,1,0,1,0,1])⟩]⟩,[(.lop (pcOf N2 131 [0,0,1]) 15 (tmOf 29 [(0,(.yld 14)),(1,(.ptr 13 0)),(6,(.vs tP (v.1.2.1.1) (v.1.2.1.2))),(7,(.int .i64 (Int.ofNat v.1.2.1.2.length))),(8,(.int .i64 (0)))]) x78),(.blk 0),(.cal [] (.rng (tmOf 38 [(0,(.agg [(.str (v.1.1)),(.vs tP (v.1.2.1.1) (v.1.2.1.2)),(.int .i64 (v.1.2.2.1.1.1)),(.int .i64 (v.1.2.2.1.1.2.1)),(.int .i64 (v.1.2.2.1.2.1.1)),(.int .i64 (v.1.2.2.1.2.1.2.1)),(.int .i64 (v.2.1.1)),(.int .i64 (v.2.1.2.1))])),(1,(.int .i64 (r))),(2,(.ptr 0 0)),(3,(.ptr 1 0)),(4,(.ptr 2 0)),(5,(.ptr 3 0)),(6,(.ptr 8 0)),(7,(.ptr 12 0)),(10,(.ptr 0 0)),(11,(.ptr 0 2)),(12,(.agg [(.int .i64 (v.1.2.2.1.1.1)),(.int .i64 (v.1.2.2.1.1.2.1)),(.int .i64 (v.1.2.2.1.2.1.1)),(.int .i64 (v.1.2.2.1.2.1.2.1))])),(13,(.fn 111 [] [(.ptr 4 0)])),(14,(.agg [(.int .i64 x25),(.int .i64 x26)])),(15,(.agg [(.int .i64 x25),(.int .i64 x26)])),(16,(.ptr 0 6)),(17,(.agg [(.int .i64 (v.2.1.1)),(.int .i64 (v.2.1.2.1))])),(18,(.agg [(.int .i64 x31),(.int .i64 x32)])),(19,(.agg [(.str (v.1.1)),(.vs tP (v.1.2.1.1) (v.1.2.1.2)),(.int .i64 (v.1.2.2.1.1.1)),(.int .i64 (v.1.2.2.1.1.2.1)),(.int .i64 (v.1.2.2.1.2.1.1)),(.int .i64 (v.1.2.2.1.2.1.2.1)),(.int .i64 (v.2.1.1)),(.int .i64 (v.2.1.2.1))])),(20,(.agg [(.int .i64 x31),(.int .i64 x32)])),(21,(.int .i64 (r))),(22,(.bool (false))),(24,(.ptr 0 0)),(25,(.ptr 0 1)),(26,(.vs tP (v.1.2.1.1) (v.1.2.1.2))),(27,(.fn 131 [] [(.ptr 13 0)]))]) [] 38 true ⟨10,[]⟩)),(.blk 2),(.seq (pcOf N2 108 [1,1,1,0,1,0,1,0,1,0,1])),(.blk 1),(.rnd [] (.op (pcOf N2 111 [0,1,0,0,1,1,0,0,1,1,0,0,1,1,0,0,1]) 13 (some 29) ((opsOf (pcOf N2 111 [0,1,0,0,1,1,0,0,1,1,0,0,1,1,0,0,1]).c).toList.drop 13) (tmOf 33 [(0,(.yld 5)),(1,(.ptr 4 0)),(3,(.int .i64 x116)),(4,(.int .i64 x117)),(5,(.ptr 4 0)),(6,(.agg [(.int .i64 (v.1.2.2.1.1.1)),(.int .i64 (v.1.2.2.1.1.2.1))])),(7,(.int .i64 (wr .i64 (wr .i64 (v.1.2.2.1.1.2.1-v.1.2.2.1.1.1)+1)))),(8,(.int .i64 x116)),(9,(.bool (true))),(10,(.int .i64 x116)),(11,(.ptr 4 2)),(12,(.agg [(.int .i64 (v.1.2.2.1.2.1.1)),(.int .i64 (v.1.2.2.1.2.1.2.1))])),(13,(.int .i64 (wr .i64 (wr .i64 (v.1.2.2.1.2.1.2.1-v.1.2.2.1.2.1.1)+1)))),(14,(.int .i64 x117)),(15,(.bool (true))),(16,(.int .i64 x117)),(17,(.yld 5)),(18,(.ptr 4 0)),(19,(.ptr 4 0)),(20,(.int .i64 (v.1.2.2.1.1.1))),(21,(.int .i64 x116)),(22,(.int .i64 x25)),(23,(.ptr 4 2)),(24,(.ptr 4 2)),(25,(.int .i64 (v.1.2.2.1.2.1.1))),(26,(.int .i64 x117)),(27,(.int .i64 x26)),(28,(.agg [(.int .i64 x25),(.int .i64 x26)]))]) [] 33 false ⟨9,[⟨5,38,10,(tmOf 38 [(0,(.agg [(.str (v.1.1)),(.vs tP (v.1.2.1.1) (v.1.2.1.2)),(.int .i64 (v.1.2.2.1.1.1)),(.int .i64 (v.1.2.2.1.1.2.1)),(.int .i64 (v.1.2.2.1.2.1.1)),(.int .i64 (v.1.2.2.1.2.1.2.1)),(.int .i64 (v.2.1.1)),(.int .i64 (v.2.1.2.1))])),(1,(.int .i64 (r))),(2,(.ptr 0 0)),(3,(.ptr 1 0)),(4,(.ptr 2 0)),(5,(.ptr 3 0)),(10,(.ptr 0 0)),(11,(.ptr 0 2)),(12,(.agg [(.int .i64 (v.1.2.2.1.1.1)),(.int .i64 (v.1.2.2.1.1.2.1)),(.int .i64 (v.1.2.2.1.2.1.1)),(.int .i64 (v.1.2.2.1.2.1.2.1))])),(13,(.fn 111 [] [(.ptr 4 0)]))]),#[14],(pcOf N2 108 [0,0,1,0,1,0,1]),(pcOf N2 108 [1,0,1,0,1,0,1])⟩]⟩)),(.seq (pcOf N2 111 [1,1,0,0,1,1,0,0,1,1,0,0,1,1,0,0,1])),(.blk 3),(.seq (pcOf N2 111 [1,1,1,0,0,1,1,0,0,1,1,0,0,1])),(.lop (pcOf N2 111 [0,0,1,1,0,0,1,1,0,0,1]) 8 (tmOf 33 [(0,(.yld 5)),(1,(.ptr 4 0)),(3,(.int .i64 x116)),(5,(.ptr 4 0)),(6,(.agg [(.int .i64 (v.1.2.2.1.1.1)),(.int .i64 (v.1.2.2.1.1.2.1))])),(7,(.int .i64 (wr .i64 (wr .i64 (v.1.2.2.1.1.2.1-v.1.2.2.1.1.1)+1)))),(8,(.int .i64 x116)),(9,(.bool (true))),(10,(.int .i64 x116)),(11,(.ptr 4 2)),(12,(.agg [(.int .i64 (v.1.2.2.1.2.1.1)),(.int .i64 (v.1.2.2.1.2.1.2.1))])),(13,(.int .i64 (wr .i64 (wr .i64 (v.1.2.2.1.2.1.2.1-v.1.2.2.1.2.1.1)+1)))),(14,(.int .i64 (0)))]) x163),(.blk 2),(.blk 1),(.seq (pcOf N2 111 [1,1,1,0,0,1])),(.lop (pcOf N2 111 [0,0,1]) 7 (tmOf 33 [(0,(.yld 5)),(1,(.ptr 4 0)),(5,(.ptr 4 0)),(6,(.agg [(.int .i64 (v.1.2.2.1.1.1)),(.int .i64 (v.1.2.2.1.1.2.1))])),(7,(.int .i64 (wr .i64 (wr .i64 (v.1.2.2.1.1.2.1-v.1.2.2.1.1.1)+1)))),(8,(.int .i64 (0)))]) x168),(.blk 0),(.cal [] (.rng (tmOf 38 [(0,(.agg [(.str (v.1.1)),(.vs tP (v.1.2.1.1) (v.1.2.1.2)),(.int .i64 (v.1.2.2.1.1.1)),(.int .i64 (v.1.2.2.1.1.2.1)),(.int .i64 (v.1.2.2.1.2.1.1)),(.int .i64 (v.1.2.2.1.2.1.2.1)),(.int .i64 (v.2.1.1)),(.int .i64 (v.2.1.2.1))])),(1,(.int .i64 (r))),(2,(.ptr 0 0)),(3,(.ptr 1 0)),(4,(.ptr 2 0)),(5,(.ptr 3 0)),(10,(.ptr 0 0)),(11,(.ptr 0 2)),(12,(.agg [(.int .i64 (v.1.2.2.1.1.1)),(.int .i64 (v.1.2.2.1.1.2.1)),(.int .i64 (v.1.2.2.1.2.1.1)),(.int .i64 (v.1.2.2.1.2.1.2.1))])),(13,(.fn 111 [] [(.ptr 4 0)]))]) [] 38 false ⟨10,[]⟩)),(.blk 0),(.seq (pcOf N2 108 [1,1,0,1])),(.cal [(.cell 4 27),(.cell 5 4)] .top)]⟩
theorem fmov_start (v:tView.den) (r:Int):adv N2 (V2 [108,111,131]) 3000 (startC N2 108 [tView.av v,.int .i64 r] 10)=some (.stop (fmovI0 v r (0) (1048575))):=by kernel_rfl
theorem fmov_step0 (v:tView.den) (r:Int) (x3:Int) (x41:Nat):adv N2 (V2 [108,111,131]) 3000 (fmovI0 v r x3 (x41+1))=(bif !ile (wr .i64 (wr .i64 (v.1.2.2.1.1.2.1-v.1.2.2.1.1.1)+1)) x3 then some (.stop (fmovI1 v r (x3) (0) (1048575) (x41+1))) else some (.done (.tup [(.agg [(.int .i64 (0)),(.int .i64 (0))]),(.bool (false))]))):=by kernel_rfl
theorem fmov_step1 (v:tView.den) (r:Int) (x0:Int) (x10:Int) (x57:Nat) (x62:Nat):adv N2 (V2 [108,111,131]) 3000 (fmovI1 v r x0 x10 (x57+1) (x62+1))=(let z1:=(wr .i64 (v.2.1.2.1-wr .i64 (v.1.2.2.1.2.1.1+x10)));let z2:=(wr .i64 (v.2.1.1-wr .i64 (v.1.2.2.1.1.1+x0)));(bif !ile (wr .i64 (wr .i64 (v.1.2.2.1.2.1.2.1-v.1.2.2.1.2.1.1)+1)) x10 then (bif cOK v.1.2.1.2&&in11 z2&&in11 z1&&inr r then (bif sidF v.1.2.1.2 z2 z1 r 0 v.1.2.1.2.length then some (.done (.tup [(.agg [(.int .i64 (wr .i64 (v.1.2.2.1.1.1+x0))),(.int .i64 (wr .i64 (v.1.2.2.1.2.1.1+x10)))]),(.bool (true))])) else some (.stop (fmovI2 v r (0) (wr .i64 (v.1.2.2.1.1.1+x0)) (wr .i64 (v.1.2.2.1.2.1.1+x10)) z2 z1 (1048575) (x0) (x10) (x57+1) (x62+1)))) else none) else some (.stop (fmovI0 v r (wr .i64 (x0+1)) (x62))))):=by kernel_rfl
theorem fmov_step2 (v:tView.den) (r:Int) (x3:Int) (x25:Int) (x26:Int) (x31:Int) (x32:Int) (x78:Nat) (x116:Int) (x117:Int) (x163:Nat) (x168:Nat):adv N2 (V2 [108,111,131]) 3000 (fmovI2 v r x3 x25 x26 x31 x32 (x78+1) x116 x117 (x163+1) (x168+1))=(let z1:=(wr .i64 ((v.1.2.1.2.getD ((wr .i64 (x3+1)).tmod ↑v.1.2.1.2.length).toNat tP.dflt).2.1-(v.1.2.1.2.getD x3.toNat tP.dflt).2.1));let z2:=(wr .i64 ((v.1.2.1.2.getD ((wr .i64 (x3+1)).tmod ↑v.1.2.1.2.length).toNat tP.dflt).1-(v.1.2.1.2.getD x3.toNat tP.dflt).1));(bif !ile (Int.ofNat v.1.2.1.2.length) x3 then (bif inB x3 v.1.2.1.2.length then (bif ieq (↑v.1.2.1.2.length) 0 then none else (bif inB ((wr .i64 (x3+1)).tmod ↑v.1.2.1.2.length) v.1.2.1.2.length then (bif bbeq v.1.2.1.1 v.1.2.1.1 then (bif vsB tP v.1.2.1.2 tP v.1.2.1.2 then (bif bbeq v.1.2.1.1 v.1.2.1.1 then (bif vsB tP v.1.2.1.2 tP v.1.2.1.2 then (bif ieq x31 x31 then (bif ieq x32 x32 then (bif ieq (v.1.2.1.2.getD x3.toNat tP.dflt).1 (v.1.2.1.2.getD x3.toNat tP.dflt).1 then (bif ieq (v.1.2.1.2.getD x3.toNat tP.dflt).2.1 (v.1.2.1.2.getD x3.toNat tP.dflt).2.1 then (bif ieq z2 z2 then (bif ieq z1 z1 then (bif ieq z2 z2 then (bif ieq z1 z1 then (bif !ile 0 (wr .i64 (wr .i64 (wr .i64 ((v.1.2.1.2.getD ((wr .i64 (x3+1)).tmod ↑v.1.2.1.2.length).toNat tP.dflt).1-(v.1.2.1.2.getD x3.toNat tP.dflt).1) * wr .i64 (x32-(v.1.2.1.2.getD x3.toNat tP.dflt).2.1))-wr .i64 (wr .i64 ((v.1.2.1.2.getD ((wr .i64 (x3+1)).tmod ↑v.1.2.1.2.length).toNat tP.dflt).2.1-(v.1.2.1.2.getD x3.toNat tP.dflt).2.1) * wr .i64 (x31-(v.1.2.1.2.getD x3.toNat tP.dflt).1)))) then (bif ieq (v.1.2.1.2.getD ((wr .i64 (x3+1)).tmod ↑v.1.2.1.2.length).toNat tP.dflt).1 (v.1.2.1.2.getD ((wr .i64 (x3+1)).tmod ↑v.1.2.1.2.length).toNat tP.dflt).1 then (bif ieq (v.1.2.1.2.getD ((wr .i64 (x3+1)).tmod ↑v.1.2.1.2.length).toNat tP.dflt).2.1 (v.1.2.1.2.getD ((wr .i64 (x3+1)).tmod ↑v.1.2.1.2.length).toNat tP.dflt).2.1 then (bif ieq (v.1.2.1.2.getD x3.toNat tP.dflt).1 (v.1.2.1.2.getD x3.toNat tP.dflt).1 then (bif ieq (v.1.2.1.2.getD x3.toNat tP.dflt).2.1 (v.1.2.1.2.getD x3.toNat tP.dflt).2.1 then (bif ieq (v.1.2.1.2.getD x3.toNat tP.dflt).1 (v.1.2.1.2.getD x3.toNat tP.dflt).1 then (bif ieq (v.1.2.1.2.getD x3.toNat tP.dflt).2.1 (v.1.2.1.2.getD x3.toNat tP.dflt).2.1 then (bif ieq (v.1.2.1.2.getD x3.toNat tP.dflt).1 (v.1.2.1.2.getD x3.toNat tP.dflt).1 then (bif ieq (v.1.2.1.2.getD x3.toNat tP.dflt).2.1 (v.1.2.1.2.getD x3.toNat tP.dflt).2.1 then some (.stop (fmovI1 v r (x116) (wr .i64 (x117+1)) (x163) (x168+1))) else none) else none) else none) else none) else none) else none) else none) else none) else (bif ieq (v.1.2.1.2.getD ((wr .i64 (x3+1)).tmod ↑v.1.2.1.2.length).toNat tP.dflt).1 (v.1.2.1.2.getD ((wr .i64 (x3+1)).tmod ↑v.1.2.1.2.length).toNat tP.dflt).1 then (bif ieq (v.1.2.1.2.getD ((wr .i64 (x3+1)).tmod ↑v.1.2.1.2.length).toNat tP.dflt).2.1 (v.1.2.1.2.getD ((wr .i64 (x3+1)).tmod ↑v.1.2.1.2.length).toNat tP.dflt).2.1 then (bif ieq (v.1.2.1.2.getD x3.toNat tP.dflt).1 (v.1.2.1.2.getD x3.toNat tP.dflt).1 then (bif ieq (v.1.2.1.2.getD x3.toNat tP.dflt).2.1 (v.1.2.1.2.getD x3.toNat tP.dflt).2.1 then (bif ieq (v.1.2.1.2.getD x3.toNat tP.dflt).1 (v.1.2.1.2.getD x3.toNat tP.dflt).1 then (bif ieq (v.1.2.1.2.getD x3.toNat tP.dflt).2.1 (v.1.2.1.2.getD x3.toNat tP.dflt).2.1 then (bif ieq (v.1.2.1.2.getD x3.toNat tP.dflt).1 (v.1.2.1.2.getD x3.toNat tP.dflt).1 then (bif ieq (v.1.2.1.2.getD x3.toNat tP.dflt).2.1 (v.1.2.1.2.getD x3.toNat tP.dflt).2.1 then some (.stop (fmovI2 v r (wr .i64 (x3+1)) (x25) (x26) (x31) (x32) (x78) (x116) (x117) (x163+1) (x168+1))) else none) else none) else none) else none) else none) else none) else none) else none)) else none) else none) else none) else none) else none) else none) else none) else none) else none) else none) else none) else none) else none)) else none) else some (.done (.tup [(.agg [(.int .i64 (x25)),(.int .i64 (x26))]),(.bool (true))])))):=by kernel_rfl
noncomputable def tupM (o:Int×Int×Bool):AV:=.tup [.agg [.int .i64 o.1,.int .i64 o.2.1],.bool o.2.2]
noncomputable def incF (C:List tP.den) (dx dy r:Int):Bool:=sidF C dx dy r 0 C.length || liesF C dx dy 0 C.length
noncomputable def fmY (C:List tP.den) (fx fy r x:Int):Int→Nat→Int×Int×Bool
 |_,0=>(0,0,false)
 |y,n+1=>bif incF C (fx-x) (fy-y) r then (x,y,true) else fmY C fx fy r x (y+1) n
noncomputable def fmX (C:List tP.den) (fx fy r y0:Int) (ny:Nat):Int→Nat→Int×Int×Bool
 |_,0=>(0,0,false)
 |x,n+1=>bif (fmY C fx fy r x y0 ny).2.2 then fmY C fx fy r x y0 ny else fmX C fx fy r y0 ny (x+1) n
section
variable (v:tView.den) (r:Int) (C:List tP.den) (hC:v.1.2.1.2=C) (hi8:C.length<1000) (hin:inC C)
include hC hi8 hin
theorem fm2_ans (ux uy dx dy x0 x10:Int) (my mx:Nat) (A:AV) (b1:in11 dx=true) (b2:in11 dy=true) :
  ∀ (n k m:Nat),k+n=C.length→n<m→(liesF C dx dy k n=true→A=tupM (ux,uy,true))→(liesF C dx dy k n=false→Ans N2 (fmovI1 v r x0 (wr .i64 (x10+1)) my (mx+1)) A) →
   Ans N2 (fmovI2 v r k ux uy dx dy m x0 x10 (my+1) (mx+1)) A
 |0,k,m+1,hk,hm,ht,hf=>by
  have h:=fmov_step2 v r k ux uy dx dy m x0 x10 my mx
  simp only[hC,Int.ofNat_eq_natCast,ile_ge (show C.length≤k by omega),Bool.not_true,cond_false] at h
  rw[ht (by trivial)]
  exact .done (V2_ok _) N2sy h rfl
 | n + 1, k, m + 1, hk, hm, ht, hf => by
  have h:=fmov_step2 v r k ux uy dx dy m x0 x10 my mx
  have hlt:k<C.length:=by omega
  have hq:(k+1) % C.length<C.length:=Nat.mod_lt _ (by omega)
  have hne:ieq (C.length:Int) 0=false:=by rw[ieq_iff];exact decide_eq_false (by omega)
  have k1:=in11_iff.1 b1
  have k2:=in11_iff.1 b2
  have s:=side_b hin hlt (dx:=dx) (dy:=dy) (by omega) (by omega)
  have hb1:=hin k hlt
  have hb2:=hin _ hq
  rw[liesF] at ht hf
  generalize hL:sL C k dx dy=L at ht hf
  generalize hA:sA C k=A' at s
  have hAe:gx C ((k+1) % C.length)-gx C k=A':=hA
  have hLe:A' * (dy-gy C k)-sB C k * (dx-gx C k)=L:=by rw[← hA];exact hL
  simp only[hC,Int.ofNat_eq_natCast,ile_lt hlt,inB_at hlt,nxt_at,inB_at hq,hne,nat_to,ieq_self,bbeq_self,vsB_self,wr_succ (show k<1048577 by omega),Bool.not_false,cond_true,cond_false] at h
  have f1:∀ j,(C.getD j tP.dflt).1=gx C j:=fun j=>rfl
  have f2:∀ j,(C.getD j tP.dflt).2.1=gy C j:=fun j=>rfl
  simp only[f1,f2] at h
  have w1:wr .i64 (gx C ((k+1) % C.length)-gx C k)=A':=by rw[wr_in (by omega) (by omega)];exact hAe
  have w2:wr .i64 (gy C ((k+1) % C.length)-gy C k)=sB C k:=by rw[wr_in (by omega) (by omega)];rfl
  have w4:wr .i64 (dx-gx C k)=dx-gx C k:=wr_in (by omega) (by omega)
  have w5:wr .i64 (dy-gy C k)=dy-gy C k:=wr_in (by omega) (by omega)
  have w6:wr .i64 (A' * (dy-gy C k))=A' * (dy-gy C k):=wr_in (by omega) (by omega)
  have w7:wr .i64 (sB C k * (dx-gx C k))=sB C k * (dx-gx C k):=wr_in (by omega) (by omega)
  have w8:wr .i64 (A' * (dy-gy C k)-sB C k * (dx-gx C k))=L:=by rw[wr_in (by omega) (by omega)];exact hLe
  simp only[w1,w2,w4,w5,w6,w7,w8] at h
  cases e:ile 0 L with
  |true=>
   simp only[e,Bool.not_true,cond_true,cond_false] at h ht hf
   exact .stop (V2_ok _) N2sy h (fm2_ans ux uy dx dy x0 x10 my mx A b1 b2 n (k+1) m (by omega) (by omega) ht hf)
  |false=>
   simp only[e,Bool.not_false,cond_true,cond_false] at h hf
   exact .stop (V2_ok _) N2sy h (hf (by trivial))
variable (fx fy x0 x1 y0 y1:Int) (e1:v.2.1.1=fx) (e2:v.2.1.2.1=fy) (e3:v.1.2.2.1.1.1=x0) (e4:v.1.2.2.1.1.2.1=x1) (e5:v.1.2.2.1.2.1.1=y0) (e6:v.1.2.2.1.2.1.2.1=y1)
  (hcc:cOK C=true) (b1:in10 fx=true) (b2:in10 fy=true) (b3:in5 x0=true) (b4:in5 x1=true) (b5:in5 y0=true) (b6:in5 y1=true) (b7:inr r=true) (nx ny:Nat) (hnx:x1-x0+1=nx) (hny:y1-y0+1=ny)
include e1 e2 e3 e4 e5 e6 hcc b1 b2 b3 b4 b5 b6 b7 hnx hny
theorem fm1_ans (i mx:Nat) (hi:i<nx) (A:AV):∀ (n k m:Nat),k+n=ny→n<m →
  ((fmY C fx fy r (x0+i) (y0+k) n).2.2=true→A=tupM (fmY C fx fy r (x0+i) (y0+k) n)) →
  ((fmY C fx fy r (x0+i) (y0+k) n).2.2=false→Ans N2 (fmovI0 v r (wr .i64 ((i:Int)+1)) mx) A)→Ans N2 (fmovI1 v r i k m (mx+1)) A
 |0,k,m+1,hk,hm,ht,hf=>by
  have h:=fmov_step1 v r i k m mx
  have k5:=in5_iff.1 b5
  have k6:=in5_iff.1 b6
  have w:wr .i64 (wr .i64 (y1-y0)+1)=(ny:Int):=by rw[wr_in (n:=y1-y0) (by omega) (by omega),wr_in (by omega) (by omega)];exact hny
  simp only[e5,e6,w,ile_ge (show ny≤k by omega),Bool.not_true,cond_false] at h
  exact .stop (V2_ok _) N2sy h (hf (by trivial))
 | n + 1, k, m + 1, hk, hm, ht, hf => by
  have h:=fmov_step1 v r i k m mx
  have k1:=in10_iff.1 b1
  have k2:=in10_iff.1 b2
  have k3:=in5_iff.1 b3
  have k4:=in5_iff.1 b4
  have k5:=in5_iff.1 b5
  have k6:=in5_iff.1 b6
  have w:wr .i64 (wr .i64 (y1-y0)+1)=(ny:Int):=by rw[wr_in (n:=y1-y0) (by omega) (by omega),wr_in (by omega) (by omega)];exact hny
  have w1:wr .i64 (x0+(i:Int))=x0+i:=wr_in (by omega) (by omega)
  have w2:wr .i64 (y0+(k:Int))=y0+k:=wr_in (by omega) (by omega)
  have w3:wr .i64 (fx-(x0+(i:Int)))=fx-(x0+i):=wr_in (by omega) (by omega)
  have w4:wr .i64 (fy-(y0+(k:Int)))=fy-(y0+k):=wr_in (by omega) (by omega)
  have c1:in11 (fx-(x0+(i:Int)))=true:=by rw[in11_iff];omega
  have c2:in11 (fy-(y0+(k:Int)))=true:=by rw[in11_iff];omega
  simp only[hC,e1,e2,e3,e5,e6,w,w1,w2,w3,w4,hcc,c1,c2,b7,ile_lt (show k<ny by omega),Bool.and_self,Bool.not_false,cond_true] at h
  rw[fmY] at ht hf
  have hs:wr .i64 ((k:Int)+1)=((k+1:Nat):Int):=wr_succ (show k<1048577 by omega)
  have hy:y0+(k:Int)+1=y0+((k+1:Nat):Int):=by omega
  have ih:=fm1_ans i mx hi A n (k+1) m (by omega) (by omega)
  rw[← hy] at ih
  cases e:sidF C (fx-(x0+(i:Int))) (fy-(y0+(k:Int))) r 0 C.length with
  |true=>
   simp only[e,cond_true] at h
   simp only[incF,e,Bool.true_or,cond_true] at ht
   rw[ht (by trivial)]
   exact .done (V2_ok _) N2sy h rfl
  |false=>
   simp only[e,cond_false] at h
   simp only[incF,e,Bool.false_or] at ht hf
   refine .stop (V2_ok _) N2sy h (fm2_ans v r C hC hi8 hin _ _ _ _ i k m mx A c1 c2 C.length 0 1048575 (by omega) (by omega) (fun hl=>?_) (fun hl=>?_))
   · rw[hl] at ht;exact ht (by trivial)
   · rw [hl] at ht hf
     rw[hs]
     exact ih ht hf
theorem fm0_ans:∀ (n i m:Nat),i+n=nx→n<m→Ans N2 (fmovI0 v r i m) (tupM (fmX C fx fy r y0 ny (x0+i) n))
 |0,i,m+1,hk,hm=>by
  have h:=fmov_step0 v r i m
  have k3:=in5_iff.1 b3
  have k4:=in5_iff.1 b4
  have w:wr .i64 (wr .i64 (x1-x0)+1)=(nx:Int):=by rw[wr_in (n:=x1-x0) (by omega) (by omega),wr_in (by omega) (by omega)];exact hnx
  simp only[e3,e4,w,ile_ge (show nx≤i by omega),Bool.not_true,cond_false] at h
  exact .done (V2_ok _) N2sy h rfl
 |n+1,i,m+1,hk,hm=>by
  have h:=fmov_step0 v r i m
  have k3:=in5_iff.1 b3
  have k4:=in5_iff.1 b4
  have k5:=in5_iff.1 b5
  have k6:=in5_iff.1 b6
  have w:wr .i64 (wr .i64 (x1-x0)+1)=(nx:Int):=by rw[wr_in (n:=x1-x0) (by omega) (by omega),wr_in (by omega) (by omega)];exact hnx
  simp only[e3,e4,w,ile_lt (show i<nx by omega),Bool.not_false,cond_true] at h
  have hs:wr .i64 ((i:Int)+1)=((i+1:Nat):Int):=wr_succ (show i<1048577 by omega)
  have hx:x0+(i:Int)+1=x0+((i+1:Nat):Int):=by omega
  have ih:=fm0_ans n (i+1) m (by omega) (by omega)
  rw[← hx] at ih
  rw[fmX]
  have h1:=fm1_ans v r C hC hi8 hin fx fy x0 x1 y0 y1 e1 e2 e3 e4 e5 e6 hcc b1 b2 b3 b4 b5 b6 b7 nx ny hnx hny i m (by omega) (tupM (bif (fmY C fx fy r (x0+i) y0 ny).2.2 then fmY C fx fy r (x0+i) y0 ny else fmX C fx fy r y0 ny (x0+i+1) n)) ny 0 1048575 (by omega) (by omega)
  rw[show y0+((0:Nat):Int)=y0 by omega] at h1
  refine .stop (V2_ok _) N2sy h (h1 (fun hl=>by rw[hl];rfl) (fun hl=>?_))
  rw[hl,cond_false,hs]
  exact ih
end
noncomputable def fmS (v:tView.den) (r:Int):Int×Int×Bool:=fmX v.1.2.1.2 v.2.1.1 v.2.1.2.1 r v.1.2.2.1.2.1.1 (v.1.2.2.1.2.1.2.1-v.1.2.2.1.2.1.1+1).toNat v.1.2.2.1.1.1 (v.1.2.2.1.1.2.1-v.1.2.2.1.1.1+1).toNat
theorem fmov_call (v:tView.den) (r:Int) (hc:mvC v=true) (hr:inr r=true):AnsF N2 108 [tView.av v,.int .i64 r] (tupM (fmS v r)):=by
 unfold mvC at hc
 simp only[Bool.and_eq_true] at hc
 obtain⟨⟨⟨⟨⟨⟨⟨⟨c1,c2⟩,c3⟩,c4⟩,c5⟩,c6⟩,c7⟩,c8⟩,c9⟩:=hc
 refine Ans.call (n:=10) (ext_none (by kernel_rfl)) (hasB_spec (by kernel_rfl)) (.stop (V2_ok _) N2sy (fmov_start v r) ?_)
 obtain⟨x0,e3⟩:∃ y:Int,v.1.2.2.1.1.1=y:=⟨_,rfl⟩
 obtain⟨x1,e4⟩:∃ y:Int,v.1.2.2.1.1.2.1=y:=⟨_,rfl⟩
 obtain⟨y0,e5⟩:∃ y:Int,v.1.2.2.1.2.1.1=y:=⟨_,rfl⟩
 obtain⟨y1,e6⟩:∃ y:Int,v.1.2.2.1.2.1.2.1=y:=⟨_,rfl⟩
 unfold fmS
 rw[e3] at c4 c8;rw[e4] at c5 c8;rw[e5] at c6 c9;rw[e6] at c7 c9
 rw[e3,e4,e5,e6]
 have k4:=in5_iff.1 c4
 have k5:=in5_iff.1 c5
 have k6:=in5_iff.1 c6
 have k7:=in5_iff.1 c7
 rw[ile_iff] at c8 c9
 simp only[decide_eq_true_eq] at c8 c9
 obtain⟨a,b⟩:=cOK_in c1
 have ih:=fm0_ans v r _ rfl (by omega) b _ _ x0 x1 y0 y1 rfl rfl e3 e4 e5 e6 c1 c2 c3 c4 c5 c6 c7 hr (x1-x0+1).toNat (y1-y0+1).toNat (by omega) (by omega) (x1-x0+1).toNat 0 1048575 (by omega) (by omega)
 rw[show x0+((0:Nat):Int)=x0 by omega] at ih
 exact ih
noncomputable def LP:List Said:=[(108,con2 tView tI (fun v r=>mvC v&&inr r) (fun v r=>.tup [.agg [.int .i64 (fmS v r).1,.int .i64 (fmS v r).2.1],.bool (fmS v r).2.2]))]
theorem LP_ok:∀ e∈LP,SaidG Tryz.prog N2.glob e:=
 saids_cons (SaidOK.g en2 xn2 nn2 tabs_ok.mix (fun _ _ h=>con2_spec (t:=tView) (u:=tI) (fun v r hc=>by
  rw[Bool.and_eq_true] at hc
  exact fmov_call v r hc.1 hc.2) h) rfl) saids_nil
noncomputable def N3:Env:=N2.say (under (xOf LP))
theorem en3:EnvOK Tryz.prog N3:=en2.say _
theorem nn3:NameOK N3:=nn2.say _
theorem xn3:ExtOK Tryz.prog N3:=xn2.sayL LP_ok
theorem N3sy:N3.sy=true:=rfl
noncomputable def V3 (l:List Nat):Sy:=(V2 []).on LP l
theorem V3_ok (l:List Nat):(V3 l).ok N3:=Sy.on_ok (V2_ok _)
end Go.Proofs.YtgaoajmlckgdaaaGreatDoor


set_option maxRecDepth 100000
namespace Go.Proofs.YtgaoajmlckgdaaaGreatDoor
open Go Go.Eng
noncomputable def onchI0 (c:tChart.den) (px py:Int) (x20:Int) (x60:Nat):Cfg:=⟨.ex (pcOf H2 23 [0,0,1,0,1,1]) ⟨(tmOf 53 [(0,(.agg [(.vs tMark (c.1.1) (c.1.2)),(.vs tSand (c.2.1.1) (c.2.1.2))])),(1,(.agg [(.int .i64 (px)),(.int .i64 (py))])),(2,(.ptr 0 0)),(3,(.ptr 1 0)),(4,.nils),(5,.nils),(6,(.int .i64 (0))),(7,(.int .i64 (0))),(11,(.agg [(.vs tMark (c.1.1) (c.1.2)),(.vs tSand (c.2.1.1) (c.2.1.2))])),(12,(.agg [(.int .i64 (px)),(.int .i64 (py))])),(13,(.int .i64 (0))),(14,(.int .i64 (0))),(15,(.bool (false))),(17,(.ptr 0 1)),(18,(.vs tSand (c.2.1.1) (c.2.1.2))),(19,(.int .i64 (Int.ofNat c.2.1.2.length))),(20,(.int .i64 x20))]),(hpOf 6 [(0,(.cells false [(.vs tMark (c.1.1) (c.1.2)),(.vs tSand (c.2.1.1) (c.2.1.2))])),(1,(.cells false [(.int .i64 (px)),(.int .i64 (py))])),(2,(.cells false [(.vs tMark (c.1.1) (c.1.2)),(.vs tSand (c.2.1.1) (c.2.1.2))])),(3,(.cells false [(.int .i64 (px)),(.int .i64 (py))])),(4,(.cells false [(.vs tMark (c.1.1) (c.1.2)),(.vs tSand (c.2.1.1) (c.2.1.2))])),(5,(.cells true [(.int .i64 (px)),(.int .i64 (py))]))]),[],[],53,false⟩,⟨8,[]⟩,[(.lop (pcOf H2 23 [0,0,1,0,1,1]) 6 (tmOf 53 [(0,(.agg [(.vs tMark (c.1.1) (c.1.2)),(.vs tSand (c.2.1.1) (c.2.1.2))])),(1,(.agg [(.int .i64 (px)),(.int .i64 (py))])),(2,(.ptr 0 0)),(3,(.ptr 1 0)),(4,.nils),(5,.nils),(6,(.int .i64 (0))),(7,(.int .i64 (0))),(11,(.agg [(.vs tMark (c.1.1) (c.1.2)),(.vs tSand (c.2.1.1) (c.2.1.2))])),(12,(.agg [(.int .i64 (px)),(.int .i64 (py))])),(13,(.int .i64 (0))),(14,(.int .i64 (0))),(15,(.bool (false))),(17,(.ptr 0 1)),(18,(.vs tSand (c.2.1.1) (c.2.1.2))),(19,(.int .i64 (Int.ofNat c.2.1.2.length))),(20,(.int .i64 (0)))]) x60),(.blk 0),(.seq (pcOf H2 23 [1,1,1])),(.cal [(.tmp 4),(.tmp 5),(.tmp 6)] .top)]⟩
noncomputable def onchI1 (c:tChart.den) (px py:Int) (x58:Nat):Cfg:=⟨.ex (pcOf H2 23 [0,0,1,0,1,1]) ⟨(tmOf 53 [(0,(.agg [(.vs tMark (c.1.1) (c.1.2)),(.vs tSand (c.2.1.1) (c.2.1.2))])),(1,(.agg [(.int .i64 (px)),(.int .i64 (py))])),(2,(.ptr 0 0)),(3,(.ptr 1 0)),(4,.nils),(5,.nils),(6,(.int .i64 (0))),(7,(.int .i64 ((chkS c).2.2))),(11,(.agg [(.vs tMark (c.1.1) (c.1.2)),(.vs tSand (c.2.1.1) (c.2.1.2))])),(12,(.agg [(.int .i64 (px)),(.int .i64 (py))])),(13,(.int .i64 ((chkS c).2.2))),(14,(.int .i64 ((chkS c).2.2))),(15,(.bool (false))),(17,(.ptr 0 1)),(18,(.vs tSand (c.2.1.1) (c.2.1.2))),(19,(.int .i64 (Int.ofNat c.2.1.2.length))),(20,(.int .i64 (0)))]),(hpOf 5 [(0,(.cells false [(.vs tMark (c.1.1) (c.1.2)),(.vs tSand (c.2.1.1) (c.2.1.2))])),(1,(.cells false [(.int .i64 (px)),(.int .i64 (py))])),(2,(.cells false [(.vs tMark (c.1.1) (c.1.2)),(.vs tSand (c.2.1.1) (c.2.1.2))])),(3,(.cells false [(.int .i64 (px)),(.int .i64 (py))])),(4,(.cells false [(.vs tMark (c.1.1) (c.1.2)),(.vs tSand (c.2.1.1) (c.2.1.2))]))]),[],[],53,false⟩,⟨8,[]⟩,[(.lop (pcOf H2 23 [0,0,1,0,1,1]) 5 (tmOf 53 [(0,(.agg [(.vs tMark (c.1.1) (c.1.2)),(.vs tSand (c.2.1.1) (c.2.1.2))])),(1,(.agg [(.int .i64 (px)),(.int .i64 (py))])),(2,(.ptr 0 0)),(3,(.ptr 1 0)),(4,.nils),(5,.nils),(6,(.int .i64 (0))),(7,(.int .i64 ((chkS c).2.2))),(11,(.agg [(.vs tMark (c.1.1) (c.1.2)),(.vs tSand (c.2.1.1) (c.2.1.2))])),(12,(.agg [(.int .i64 (px)),(.int .i64 (py))])),(13,(.int .i64 ((chkS c).2.2))),(14,(.int .i64 ((chkS c).2.2))),(15,(.bool (false))),(17,(.ptr 0 1)),(18,(.vs tSand (c.2.1.1) (c.2.1.2))),(19,(.int .i64 (Int.ofNat c.2.1.2.length))),(20,(.int .i64 (0)))]) x58),(.blk 0),(.seq (pcOf H2 23 [1,1,1])),(.cal [(.tmp 4),(.tmp 5),(.tmp 6)] .top)]⟩
noncomputable def onchI2 (c:tChart.den) (px py:Int) (x6:Nat) (x22:Int) (x41:List AV) (x63:Nat):Cfg:=⟨.ex (pcOf H2 23 [0,0,1,0,1,1]) ⟨(tmOf 53 [(0,(.agg [(.vs tMark (c.1.1) (c.1.2)),(.vs tSand (c.2.1.1) (c.2.1.2))])),(1,(.agg [(.int .i64 (px)),(.int .i64 (py))])),(2,(.ptr 0 0)),(3,(.ptr 1 0)),(4,.nils),(5,(.sl 6 0 x6 x6 1)),(6,(.int .i64 (0))),(7,(.int .i64 (0))),(11,(.agg [(.vs tMark (c.1.1) (c.1.2)),(.vs tSand (c.2.1.1) (c.2.1.2))])),(12,(.agg [(.int .i64 (px)),(.int .i64 (py))])),(13,(.int .i64 (0))),(14,(.int .i64 (0))),(15,(.bool (false))),(17,(.ptr 0 1)),(18,(.vs tSand (c.2.1.1) (c.2.1.2))),(19,(.int .i64 (Int.ofNat c.2.1.2.length))),(20,(.int .i64 x22))]),(hpOf 7 [(0,(.cells false [(.vs tMark (c.1.1) (c.1.2)),(.vs tSand (c.2.1.1) (c.2.1.2))])),(1,(.cells false [(.int .i64 (px)),(.int .i64 (py))])),(2,(.cells false [(.vs tMark (c.1.1) (c.1.2)),(.vs tSand (c.2.1.1) (c.2.1.2))])),(3,(.cells false [(.int .i64 (px)),(.int .i64 (py))])),(4,(.cells false [(.vs tMark (c.1.1) (c.1.2)),(.vs tSand (c.2.1.1) (c.2.1.2))])),(5,(.cells true [(.int .i64 (px)),(.int .i64 (py))])),(6,(.cells false x41))]),[],[],53,false⟩,⟨8,[]⟩,[(.lop (pcOf H2 23 [0,0,1,0,1,1]) 6 (tmOf 53 [(0,(.agg [(.vs tMark (c.1.1) (c.1.2)),(.vs tSand (c.2.1.1) (c.2.1.2))])),(1,(.agg [(.int .i64 (px)),(.int .i64 (py))])),(2,(.ptr 0 0)),(3,(.ptr 1 0)),(4,.nils),(5,.nils),(6,(.int .i64 (0))),(7,(.int .i64 (0))),(11,(.agg [(.vs tMark (c.1.1) (c.1.2)),(.vs tSand (c.2.1.1) (c.2.1.2))])),(12,(.agg [(.int .i64 (px)),(.int .i64 (py))])),(13,(.int .i64 (0))),(14,(.int .i64 (0))),(15,(.bool (false))),(17,(.ptr 0 1)),(18,(.vs tSand (c.2.1.1) (c.2.1.2))),(19,(.int .i64 (Int.ofNat c.2.1.2.length))),(20,(.int .i64 (0)))]) x63),(.blk 0),(.seq (pcOf H2 23 [1,1,1])),(.cal [(.tmp 4),(.tmp 5),(.tmp 6)] .top)]⟩
noncomputable def onchI3 (c:tChart.den) (px py:Int) (x6:Nat) (x22:Int) (x41:List AV) (x63:Nat):Cfg:=⟨.ex (pcOf H2 23 [0,0,1,0,1,1]) ⟨(tmOf 53 [(0,(.agg [(.vs tMark (c.1.1) (c.1.2)),(.vs tSand (c.2.1.1) (c.2.1.2))])),(1,(.agg [(.int .i64 (px)),(.int .i64 (py))])),(2,(.ptr 0 0)),(3,(.ptr 1 0)),(4,(.sl 6 0 x6 x6 1)),(5,.nils),(6,(.int .i64 (0))),(7,(.int .i64 (0))),(11,(.agg [(.vs tMark (c.1.1) (c.1.2)),(.vs tSand (c.2.1.1) (c.2.1.2))])),(12,(.agg [(.int .i64 (px)),(.int .i64 (py))])),(13,(.int .i64 (0))),(14,(.int .i64 (0))),(15,(.bool (false))),(17,(.ptr 0 1)),(18,(.vs tSand (c.2.1.1) (c.2.1.2))),(19,(.int .i64 (Int.ofNat c.2.1.2.length))),(20,(.int .i64 x22))]),(hpOf 7 [(0,(.cells false [(.vs tMark (c.1.1) (c.1.2)),(.vs tSand (c.2.1.1) (c.2.1.2))])),(1,(.cells false [(.int .i64 (px)),(.int .i64 (py))])),(2,(.cells false [(.vs tMark (c.1.1) (c.1.2)),(.vs tSand (c.2.1.1) (c.2.1.2))])),(3,(.cells false [(.int .i64 (px)),(.int .i64 (py))])),(4,(.cells false [(.vs tMark (c.1.1) (c.1.2)),(.vs tSand (c.2.1.1) (c.2.1.2))])),(5,(.cells true [(.int .i64 (px)),(.int .i64 (py))])),(6,(.cells false x41))]),[],[],53,false⟩,⟨8,[]⟩,[(.lop (pcOf H2 23 [0,0,1,0,1,1]) 6 (tmOf 53 [(0,(.agg [(.vs tMark (c.1.1) (c.1.2)),(.vs tSand (c.2.1.1) (c.2.1.2))])),(1,(.agg [(.int .i64 (px)),(.int .i64 (py))])),(2,(.ptr 0 0)),(3,(.ptr 1 0)),(4,.nils),(5,.nils),(6,(.int .i64 (0))),(7,(.int .i64 (0))),(11,(.agg [(.vs tMark (c.1.1) (c.1.2)),(.vs tSand (c.2.1.1) (c.2.1.2))])),(12,(.agg [(.int .i64 (px)),(.int .i64 (py))])),(13,(.int .i64 (0))),(14,(.int .i64 (0))),(15,(.bool (false))),(17,(.ptr 0 1)),(18,(.vs tSand (c.2.1.1) (c.2.1.2))),(19,(.int .i64 (Int.ofNat c.2.1.2.length))),(20,(.int .i64 (0)))]) x63),(.blk 0),(.seq (pcOf H2 23 [1,1,1])),(.cal [(.tmp 4),(.tmp 5),(.tmp 6)] .top)]⟩
noncomputable def onchI4 (c:tChart.den) (px py:Int) (x6:Nat) (x8:Nat) (x24:Int) (x43:List AV) (x44:List AV) (x66:Nat):Cfg:=⟨.ex (pcOf H2 23 [0,0,1,0,1,1]) ⟨(tmOf 53 [(0,(.agg [(.vs tMark (c.1.1) (c.1.2)),(.vs tSand (c.2.1.1) (c.2.1.2))])),(1,(.agg [(.int .i64 (px)),(.int .i64 (py))])),(2,(.ptr 0 0)),(3,(.ptr 1 0)),(4,(.sl 7 0 x6 x6 1)),(5,(.sl 6 0 x8 x8 1)),(6,(.int .i64 (0))),(7,(.int .i64 (0))),(11,(.agg [(.vs tMark (c.1.1) (c.1.2)),(.vs tSand (c.2.1.1) (c.2.1.2))])),(12,(.agg [(.int .i64 (px)),(.int .i64 (py))])),(13,(.int .i64 (0))),(14,(.int .i64 (0))),(15,(.bool (false))),(17,(.ptr 0 1)),(18,(.vs tSand (c.2.1.1) (c.2.1.2))),(19,(.int .i64 (Int.ofNat c.2.1.2.length))),(20,(.int .i64 x24))]),(hpOf 8 [(0,(.cells false [(.vs tMark (c.1.1) (c.1.2)),(.vs tSand (c.2.1.1) (c.2.1.2))])),(1,(.cells false [(.int .i64 (px)),(.int .i64 (py))])),(2,(.cells false [(.vs tMark (c.1.1) (c.1.2)),(.vs tSand (c.2.1.1) (c.2.1.2))])),(3,(.cells false [(.int .i64 (px)),(.int .i64 (py))])),(4,(.cells false [(.vs tMark (c.1.1) (c.1.2)),(.vs tSand (c.2.1.1) (c.2.1.2))])),(5,(.cells true [(.int .i64 (px)),(.int .i64 (py))])),(6,(.cells false x43)),(7,(.cells false x44))]),[],[],53,false⟩,⟨8,[]⟩,[(.lop (pcOf H2 23 [0,0,1,0,1,1]) 6 (tmOf 53 [(0,(.agg [(.vs tMark (c.1.1) (c.1.2)),(.vs tSand (c.2.1.1) (c.2.1.2))])),(1,(.agg [(.int .i64 (px)),(.int .i64 (py))])),(2,(.ptr 0 0)),(3,(.ptr 1 0)),(4,.nils),(5,.nils),(6,(.int .i64 (0))),(7,(.int .i64 (0))),(11,(.agg [(.vs tMark (c.1.1) (c.1.2)),(.vs tSand (c.2.1.1) (c.2.1.2))])),(12,(.agg [(.int .i64 (px)),(.int .i64 (py))])),(13,(.int .i64 (0))),(14,(.int .i64 (0))),(15,(.bool (false))),(17,(.ptr 0 1)),(18,(.vs tSand (c.2.1.1) (c.2.1.2))),(19,(.int .i64 (Int.ofNat c.2.1.2.length))),(20,(.int .i64 (0)))]) x66),(.blk 0),(.seq (pcOf H2 23 [1,1,1])),(.cal [(.tmp 4),(.tmp 5),(.tmp 6)] .top)]⟩
theorem onch_start (c:tChart.den) (px py:Int):adv H2 (Y2 [23]) 3000 (startC H2 23 [tChart.av c,.agg [.int .i64 px,.int .i64 py]] 8)=(bif !ieq (chkS c).2.2 0 then (bif !ieq (chkS c).2.2 0 then some (.done (.tup [.nils,.nils,(.int .i64 ((chkS c).2.2))])) else some (.stop (onchI1 c px py (1048575)))) else (bif !ile (-10000) px then some (.done (.tup [.nils,.nils,(.int .i64 (7))])) else (bif !ile px 10000 then some (.done (.tup [.nils,.nils,(.int .i64 (7))])) else (bif !ile (-10000) py then some (.done (.tup [.nils,.nils,(.int .i64 (7))])) else (bif !ile py 10000 then some (.done (.tup [.nils,.nils,(.int .i64 (7))])) else some (.stop (onchI0 c px py (0) (1048575)))))))):=by kernel_rfl
theorem onch_step0 (c:tChart.den) (px py:Int) (x20:Int) (x60:Nat):adv H2 (Y2 [23]) 3000 (onchI0 c px py x20 (x60+1))=(bif !ile (Int.ofNat c.2.1.2.length) x20 then (bif inB x20 c.2.1.2.length then (bif mvC (c.2.1.2.getD x20.toNat tSand.dflt,(px,py,()),()) then (bif ieq (c.2.1.2.getD x20.toNat tSand.dflt).2.2.1.2.1.1 (c.2.1.2.getD x20.toNat tSand.dflt).2.2.1.2.1.1 then (bif ieq (c.2.1.2.getD x20.toNat tSand.dflt).2.2.1.2.1.2.1 (c.2.1.2.getD x20.toNat tSand.dflt).2.2.1.2.1.2.1 then (bif ieq (c.2.1.2.getD x20.toNat tSand.dflt).2.2.1.2.1.1 (c.2.1.2.getD x20.toNat tSand.dflt).2.2.1.2.1.1 then (bif ieq (c.2.1.2.getD x20.toNat tSand.dflt).2.2.1.2.1.2.1 (c.2.1.2.getD x20.toNat tSand.dflt).2.2.1.2.1.2.1 then (bif ieq (c.2.1.2.getD x20.toNat tSand.dflt).2.2.1.1.1 (c.2.1.2.getD x20.toNat tSand.dflt).2.2.1.1.1 then (bif ieq (c.2.1.2.getD x20.toNat tSand.dflt).2.2.1.1.2.1 (c.2.1.2.getD x20.toNat tSand.dflt).2.2.1.1.2.1 then (bif ieq (mvS (c.2.1.2.getD x20.toNat tSand.dflt).2.1.2 px py (c.2.1.2.getD x20.toNat tSand.dflt).2.2.1.1.1 (c.2.1.2.getD x20.toNat tSand.dflt).2.2.1.1.2.1 (c.2.1.2.getD x20.toNat tSand.dflt).2.2.1.2.1.1 (c.2.1.2.getD x20.toNat tSand.dflt).2.2.1.2.1.2.1) (wr .i64 (wr .i64 (wr .i64 ((c.2.1.2.getD x20.toNat tSand.dflt).2.2.1.1.2.1-(c.2.1.2.getD x20.toNat tSand.dflt).2.2.1.1.1)+1) * wr .i64 (wr .i64 ((c.2.1.2.getD x20.toNat tSand.dflt).2.2.1.2.1.2.1-(c.2.1.2.getD x20.toNat tSand.dflt).2.2.1.2.1.1)+1))) then (bif !ile (mvS (c.2.1.2.getD x20.toNat tSand.dflt).2.1.2 px py (c.2.1.2.getD x20.toNat tSand.dflt).2.2.1.1.1 (c.2.1.2.getD x20.toNat tSand.dflt).2.2.1.1.2.1 (c.2.1.2.getD x20.toNat tSand.dflt).2.2.1.2.1.1 (c.2.1.2.getD x20.toNat tSand.dflt).2.2.1.2.1.2.1) 0 then some (.stop (onchI4 c px py (1) (1) (wr .i64 (x20+1)) ([AV.int IntKind.i64 x20]) ([AV.int IntKind.i64 x20]) (x60))) else some (.stop (onchI3 c px py (1) (wr .i64 (x20+1)) ([AV.int IntKind.i64 x20]) (x60)))) else (bif !ile (mvS (c.2.1.2.getD x20.toNat tSand.dflt).2.1.2 px py (c.2.1.2.getD x20.toNat tSand.dflt).2.2.1.1.1 (c.2.1.2.getD x20.toNat tSand.dflt).2.2.1.1.2.1 (c.2.1.2.getD x20.toNat tSand.dflt).2.2.1.2.1.1 (c.2.1.2.getD x20.toNat tSand.dflt).2.2.1.2.1.2.1) 0 then some (.stop (onchI2 c px py (1) (wr .i64 (x20+1)) ([AV.int IntKind.i64 x20]) (x60))) else some (.stop (onchI0 c px py (wr .i64 (x20+1)) (x60))))) else none) else none) else none) else none) else none) else none) else none) else none) else some (.done (.tup [.nils,.nils,(.int .i64 (0))]))):=by kernel_rfl
theorem onch_step2 (c:tChart.den) (px py:Int) (x6:Nat) (x22:Int) (x41:List AV) (x63:Nat):adv H2 (Y2 [23]) 3000 (onchI2 c px py x6 x22 x41 (x63+1))=(bif !ile (Int.ofNat c.2.1.2.length) x22 then (bif inB x22 c.2.1.2.length then (bif mvC (c.2.1.2.getD x22.toNat tSand.dflt,(px,py,()),()) then (bif ieq (c.2.1.2.getD x22.toNat tSand.dflt).2.2.1.2.1.1 (c.2.1.2.getD x22.toNat tSand.dflt).2.2.1.2.1.1 then (bif ieq (c.2.1.2.getD x22.toNat tSand.dflt).2.2.1.2.1.2.1 (c.2.1.2.getD x22.toNat tSand.dflt).2.2.1.2.1.2.1 then (bif ieq (c.2.1.2.getD x22.toNat tSand.dflt).2.2.1.2.1.1 (c.2.1.2.getD x22.toNat tSand.dflt).2.2.1.2.1.1 then (bif ieq (c.2.1.2.getD x22.toNat tSand.dflt).2.2.1.2.1.2.1 (c.2.1.2.getD x22.toNat tSand.dflt).2.2.1.2.1.2.1 then (bif ieq (c.2.1.2.getD x22.toNat tSand.dflt).2.2.1.1.1 (c.2.1.2.getD x22.toNat tSand.dflt).2.2.1.1.1 then (bif ieq (c.2.1.2.getD x22.toNat tSand.dflt).2.2.1.1.2.1 (c.2.1.2.getD x22.toNat tSand.dflt).2.2.1.1.2.1 then (bif ieq (mvS (c.2.1.2.getD x22.toNat tSand.dflt).2.1.2 px py (c.2.1.2.getD x22.toNat tSand.dflt).2.2.1.1.1 (c.2.1.2.getD x22.toNat tSand.dflt).2.2.1.1.2.1 (c.2.1.2.getD x22.toNat tSand.dflt).2.2.1.2.1.1 (c.2.1.2.getD x22.toNat tSand.dflt).2.2.1.2.1.2.1) (wr .i64 (wr .i64 (wr .i64 ((c.2.1.2.getD x22.toNat tSand.dflt).2.2.1.1.2.1-(c.2.1.2.getD x22.toNat tSand.dflt).2.2.1.1.1)+1) * wr .i64 (wr .i64 ((c.2.1.2.getD x22.toNat tSand.dflt).2.2.1.2.1.2.1-(c.2.1.2.getD x22.toNat tSand.dflt).2.2.1.2.1.1)+1))) then (bif !ile (mvS (c.2.1.2.getD x22.toNat tSand.dflt).2.1.2 px py (c.2.1.2.getD x22.toNat tSand.dflt).2.2.1.1.1 (c.2.1.2.getD x22.toNat tSand.dflt).2.2.1.1.2.1 (c.2.1.2.getD x22.toNat tSand.dflt).2.2.1.2.1.1 (c.2.1.2.getD x22.toNat tSand.dflt).2.2.1.2.1.2.1) 0 then (bif (0+x6 * 1).beq x41.length then (bif x6.ble 1048576 then (bif plO (AO.cells false (x41++[AV.int IntKind.i64 x22])) then some (.stop (onchI4 c px py (1) (x6+1) (wr .i64 (x22+1)) (x41++[AV.int IntKind.i64 x22]) ([AV.int IntKind.i64 x22]) (x63))) else none) else none) else none) else (bif plO (AO.cells false x41) then some (.stop (onchI4 c px py (1) (x6) (wr .i64 (x22+1)) (x41) ([AV.int IntKind.i64 x22]) (x63))) else none)) else (bif !ile (mvS (c.2.1.2.getD x22.toNat tSand.dflt).2.1.2 px py (c.2.1.2.getD x22.toNat tSand.dflt).2.2.1.1.1 (c.2.1.2.getD x22.toNat tSand.dflt).2.2.1.1.2.1 (c.2.1.2.getD x22.toNat tSand.dflt).2.2.1.2.1.1 (c.2.1.2.getD x22.toNat tSand.dflt).2.2.1.2.1.2.1) 0 then (bif (0+x6 * 1).beq x41.length then (bif x6.ble 1048576 then (bif plO (AO.cells false (x41++[AV.int IntKind.i64 x22])) then some (.stop (onchI2 c px py (x6+1) (wr .i64 (x22+1)) (x41++[AV.int IntKind.i64 x22]) (x63))) else none) else none) else none) else (bif plO (AO.cells false x41) then some (.stop (onchI2 c px py (x6) (wr .i64 (x22+1)) (x41) (x63))) else none))) else none) else none) else none) else none) else none) else none) else none) else none) else (bif plainL x41 then some (.done (.tup [.nils,(.csl (x41) (x6)),(.int .i64 (0))])) else none)):=by kernel_rfl
theorem onch_step4 (c:tChart.den) (px py:Int) (x6:Nat) (x8:Nat) (x24:Int) (x43:List AV) (x44:List AV) (x66:Nat):adv H2 (Y2 [23]) 3000 (onchI4 c px py x6 x8 x24 x43 x44 (x66+1))=(bif !ile (Int.ofNat c.2.1.2.length) x24 then (bif inB x24 c.2.1.2.length then (bif mvC (c.2.1.2.getD x24.toNat tSand.dflt,(px,py,()),()) then (bif ieq (c.2.1.2.getD x24.toNat tSand.dflt).2.2.1.2.1.1 (c.2.1.2.getD x24.toNat tSand.dflt).2.2.1.2.1.1 then (bif ieq (c.2.1.2.getD x24.toNat tSand.dflt).2.2.1.2.1.2.1 (c.2.1.2.getD x24.toNat tSand.dflt).2.2.1.2.1.2.1 then (bif ieq (c.2.1.2.getD x24.toNat tSand.dflt).2.2.1.2.1.1 (c.2.1.2.getD x24.toNat tSand.dflt).2.2.1.2.1.1 then (bif ieq (c.2.1.2.getD x24.toNat tSand.dflt).2.2.1.2.1.2.1 (c.2.1.2.getD x24.toNat tSand.dflt).2.2.1.2.1.2.1 then (bif ieq (c.2.1.2.getD x24.toNat tSand.dflt).2.2.1.1.1 (c.2.1.2.getD x24.toNat tSand.dflt).2.2.1.1.1 then (bif ieq (c.2.1.2.getD x24.toNat tSand.dflt).2.2.1.1.2.1 (c.2.1.2.getD x24.toNat tSand.dflt).2.2.1.1.2.1 then (bif ieq (mvS (c.2.1.2.getD x24.toNat tSand.dflt).2.1.2 px py (c.2.1.2.getD x24.toNat tSand.dflt).2.2.1.1.1 (c.2.1.2.getD x24.toNat tSand.dflt).2.2.1.1.2.1 (c.2.1.2.getD x24.toNat tSand.dflt).2.2.1.2.1.1 (c.2.1.2.getD x24.toNat tSand.dflt).2.2.1.2.1.2.1) (wr .i64 (wr .i64 (wr .i64 ((c.2.1.2.getD x24.toNat tSand.dflt).2.2.1.1.2.1-(c.2.1.2.getD x24.toNat tSand.dflt).2.2.1.1.1)+1) * wr .i64 (wr .i64 ((c.2.1.2.getD x24.toNat tSand.dflt).2.2.1.2.1.2.1-(c.2.1.2.getD x24.toNat tSand.dflt).2.2.1.2.1.1)+1))) then (bif (0+x6 * 1).beq x44.length then (bif x6.ble 1048576 then (bif !ile (mvS (c.2.1.2.getD x24.toNat tSand.dflt).2.1.2 px py (c.2.1.2.getD x24.toNat tSand.dflt).2.2.1.1.1 (c.2.1.2.getD x24.toNat tSand.dflt).2.2.1.1.2.1 (c.2.1.2.getD x24.toNat tSand.dflt).2.2.1.2.1.1 (c.2.1.2.getD x24.toNat tSand.dflt).2.2.1.2.1.2.1) 0 then (bif (0+x8 * 1).beq x43.length then (bif x8.ble 1048576 then (bif plO (AO.cells false (x43++[AV.int IntKind.i64 x24])) then (bif plO (AO.cells false (x44++[AV.int IntKind.i64 x24])) then some (.stop (onchI4 c px py (x6+1) (x8+1) (wr .i64 (x24+1)) (x43++[AV.int IntKind.i64 x24]) (x44++[AV.int IntKind.i64 x24]) (x66))) else none) else none) else none) else none) else (bif plO (AO.cells false x43) then (bif plO (AO.cells false (x44++[AV.int IntKind.i64 x24])) then some (.stop (onchI4 c px py (x6+1) (x8) (wr .i64 (x24+1)) (x43) (x44++[AV.int IntKind.i64 x24]) (x66))) else none) else none)) else none) else none) else (bif !ile (mvS (c.2.1.2.getD x24.toNat tSand.dflt).2.1.2 px py (c.2.1.2.getD x24.toNat tSand.dflt).2.2.1.1.1 (c.2.1.2.getD x24.toNat tSand.dflt).2.2.1.1.2.1 (c.2.1.2.getD x24.toNat tSand.dflt).2.2.1.2.1.1 (c.2.1.2.getD x24.toNat tSand.dflt).2.2.1.2.1.2.1) 0 then (bif (0+x8 * 1).beq x43.length then (bif x8.ble 1048576 then (bif plO (AO.cells false x44) then (bif plO (AO.cells false (x43++[AV.int IntKind.i64 x24])) then some (.stop (onchI4 c px py (x6) (x8+1) (wr .i64 (x24+1)) (x43++[AV.int IntKind.i64 x24]) (x44) (x66))) else none) else none) else none) else none) else (bif plO (AO.cells false x44) then (bif plO (AO.cells false x43) then some (.stop (onchI4 c px py (x6) (x8) (wr .i64 (x24+1)) (x43) (x44) (x66))) else none) else none))) else none) else none) else none) else none) else none) else none) else none) else none) else (bif plainL x44 then (bif plainL x43 then some (.done (.tup [(.csl (x44) (x6)),(.csl (x43) (x8)),(.int .i64 (0))])) else none) else none)):=by kernel_rfl
theorem Tells.tupL {a b:List AV} (h:TellsL a b):Tells (.tup a) (.tup b):=fun V R x=>by
 cases x with
 |tup _ A ha hav=>
  have k:=h V A ⟨ha,hav⟩
  exact .tup _ _ k.1 k.2
theorem flatI_len (l:List Int):(flat tI l).length=l.length:=by
 induction l with
 |nil=>rfl
 |cons a l ih=>show (AV.int .i64 a::flat tI l).length=_;rw[List.length_cons,ih];rfl
theorem flatI_plain (l:List Int):plainL (flat tI l)=true:=by
 induction l with
 |nil=>rfl
 |cons a l ih=>exact ih
theorem flatI_add (l:List Int) (x:Int):flat tI l++[.int .i64 x]=flat tI (l++[x]):=by
 unfold flat;rw[List.flatMap_append];rfl
theorem beq_flatI (l:List Int):(0+l.length * 1).beq (flat tI l).length=true:=by
 rw[flatI_len,Nat.zero_add,Nat.mul_one];exact Nat.beq_refl _
theorem ieq_t' {a b:Int} (h:ieq a b=true):a=b:=by rw[ieq_iff] at h;simpa using h
theorem ieq_f' {a b:Int} (h:ieq a b=false):a≠b:=by rw[ieq_iff] at h;simpa using h
noncomputable def goodS (s:tSand.den):Bool:=cOK s.2.1.2&&(inB4 s.2.2.1.1.1 s.2.2.1.1.2.1 s.2.2.1.2.1.1 s.2.2.1.2.1.2.1&&fit4 s.2.2.1.1.1 s.2.2.1.1.2.1 s.2.2.1.2.1.1 s.2.2.1.2.1.2.1)&&Nat.ble 3 s.2.1.2.length
theorem sandE_good {s:tSand.den} (h:sandE s=0):goodS s=true:=by
 unfold sandE at h
 cases c1:ile 3 (s.2.1.2.length:Int)<;>cases c2:ile (s.2.1.2.length:Int) 8<;>simp only[c1,c2,Bool.and_self,Bool.and_true,Bool.and_false,cond_true,cond_false] at h<;>try (exact absurd h (by decide))
 cases c3:s.2.1.2.all inP<;>simp only[c3,cond_true,cond_false] at h
 · exact absurd h (by decide)
 unfold sandT at h
 cases c4:inB4 s.2.2.1.1.1 s.2.2.1.1.2.1 s.2.2.1.2.1.1 s.2.2.1.2.1.2.1<;>simp only[c4,cond_true,cond_false] at h
 · exact absurd h (by decide)
 cases c5:fit4 s.2.2.1.1.1 s.2.2.1.1.2.1 s.2.2.1.2.1.1 s.2.2.1.2.1.2.1<;>simp only[c5,cond_true,cond_false] at h
 · exact absurd h (by decide)
 unfold goodS cOK
 rw[c3,c4,c5,Nat.ble_eq_true_of_le (show s.2.1.2.length≤100 by rw[ile_iff] at c2;simp at c2;omega),Nat.ble_eq_true_of_le (show 3≤s.2.1.2.length by rw[ile_iff] at c1;simp at c1;omega)];rfl
theorem sandN_good {mem:List Nat→Bool} {s:tSand.den} (h:sandN mem s=0):goodS s=true:=by
 unfold sandN at h
 cases c1:nameS s.1<;>simp only[c1,cond_true,cond_false] at h
 · exact absurd h (by decide)
 cases c2:mem s.1<;>simp only[c2,cond_true,cond_false] at h
 · exact sandE_good h
 · exact absurd h (by decide)
theorem sandsS_good:∀ {l:List tSand.den} {mem:List Nat→Bool} {i:Nat},(sandsS mem i l).2.2=0→l.all goodS=true
 |[],_,_,_=>rfl
 | s :: l, mem, i, h => by
  rw[sandsS] at h
  cases c:ieq (sandN mem s) 0 with
  |false=>rw[c,cond_false] at h;exact absurd h (ieq_f' c)
  |true=>
   rw[c,cond_true] at h
   rw[List.all_cons,sandsS_good h,sandN_good (ieq_t' c)];rfl
theorem marksS_k {k:(List Nat→Bool)→Int×Int×Int}:∀ {l:List tMark.den} {mem:List Nat→Bool} {i:Nat},(marksS k mem i l).2.2=0→∃ mem',marksS k mem i l=k mem'
 |[],mem,i,h=>⟨mem,rfl⟩
 | m :: l, mem, i, h => by
  rw[marksS] at h⊢
  cases c:ieq (markE mem m) 0 with
  |false=>rw[c,cond_false] at h;exact absurd h (ieq_f' c)
  |true=>
   rw[c,cond_true] at h
   obtain⟨mem',h2⟩:=marksS_k h
   exact⟨mem',by rw[cond_true];exact h2⟩
theorem valid_sands {c:tChart.den} (h:(chkS c).2.2=0):c.2.1.2.length≤4∧c.2.1.2.all goodS=true:=by
 unfold chkS at h
 cases e:ile (c.1.2.length:Int) 8<;>rw[e] at h
 · rw[cond_false] at h;exact absurd h (by decide)
 · rw [cond_true] at h
   obtain⟨mem',h2⟩:=marksS_k h
   rw[h2] at h
   unfold sandsK at h
   cases e2:ile (c.2.1.2.length:Int) 4<;>rw[e2] at h
   · rw[cond_false] at h;exact absurd h (by decide)
   · rw [cond_true] at h
     refine⟨?_,sandsS_good h⟩
     rw[ile_iff] at e2;simp at e2;omega
noncomputable def sd (c:tChart.den) (k:Nat):tSand.den:=c.2.1.2.getD k tSand.dflt
theorem sd_good {c:tChart.den} (h:(chkS c).2.2=0) {k:Nat} (hk:k<c.2.1.2.length):goodS (sd c k)=true:=
 List.all_eq_true.1 (valid_sands h).2 (sd c k) (by unfold sd;simp[hk])
theorem goodS_len {s:tSand.den} (h:goodS s=true):3≤s.2.1.2.length:=by
 unfold goodS at h
 rw[Bool.and_eq_true] at h
 exact Nat.le_of_ble_eq_true h.2
theorem goodS_iff {s:tSand.den} {x0 x1 y0 y1:Int} (h0:s.2.2.1.1.1=x0) (h1:s.2.2.1.1.2.1=x1) (h2:s.2.2.1.2.1.1=y0) (h3:s.2.2.1.2.1.2.1=y1) (h:goodS s=true) :
  cOK s.2.1.2=true∧((in5 x0=true∧in5 x1=true)∧in5 y0=true∧in5 y1=true)∧(x0≤x1∧x1-x0≤40)∧y0≤y1∧y1-y0≤40:=by
 unfold goodS at h
 rw[h0,h1,h2,h3] at h
 simp only[Bool.and_eq_true,inB4,fit4] at h
 obtain⟨⟨a,b,c⟩,_⟩:=h
 simp only[ile_iff,decide_eq_true_eq] at b c
 refine⟨a,⟨⟨in5_iff.2 ?_,in5_iff.2 ?_⟩,in5_iff.2 ?_,in5_iff.2 ?_⟩,?_,?_⟩<;>omega
noncomputable def mvSd (s:tSand.den) (px py:Int):Int:=mvS s.2.1.2 px py s.2.2.1.1.1 s.2.2.1.1.2.1 s.2.2.1.2.1.1 s.2.2.1.2.1.2.1
noncomputable def totSd (s:tSand.den):Int:=(s.2.2.1.1.2.1-s.2.2.1.1.1+1) * (s.2.2.1.2.1.2.1-s.2.2.1.2.1.1+1)
noncomputable def allS (s:tSand.den) (px py:Int):Bool:=ieq (mvSd s px py) (totSd s)
noncomputable def anyS (s:tSand.den) (px py:Int):Bool:=!ile (mvSd s px py) 0
noncomputable def onF (c:tChart.den) (px py:Int):List Int→List Int→Nat→Nat→List Int×List Int
 |s,t,_,0=>(s,t)
 |s,t,k,r+1=>onF c px py (bif allS (sd c k) px py then s++[(k:Int)] else s) (bif anyS (sd c k) px py then t++[(k:Int)] else t) (k+1) r
noncomputable def onSt (c:tChart.den) (px py:Int) (k m:Nat) (s t:List Int):Cfg:=
 match s with
 |[]=>match t with
  |[]=>onchI0 c px py k m
  |_::_=>onchI2 c px py t.length k (flat tI t) m
 |_::_=>onchI4 c px py s.length t.length k (flat tI t) (flat tI s) m
noncomputable def tupS (r:(List Int×List Int)×Int):AV:=.tup [.vs tI r.1.1.isEmpty r.1.1,.vs tI r.1.2.isEmpty r.1.2,.int .i64 r.2]
theorem Tells.lst (l:List Int) (h:l≠[]):Tells (.csl (flat tI l) l.length) (.vs tI l.isEmpty l):=by
 cases l with
 |nil=>exact absurd rfl h
 |cons a l=>exact .csl
theorem on_step (c:tChart.den) (px py:Int) (k m:Nat) (s t:List Int) (hst:s≠[]→t≠[]) (hs:s.length≤k) (ht:t.length≤k) (hk:k<c.2.1.2.length) (h4:c.2.1.2.length≤4) (hg:goodS (sd c k)=true) (hp:in10 px=true∧in10 py=true) :
  (allS (sd c k) px py=true→anyS (sd c k) px py=true)∧adv H2 (Y2 [23]) 3000 (onSt c px py k (m+1) s t)=some (.stop (onSt c px py (k+1) m (bif allS (sd c k) px py then s++[(k:Int)] else s) (bif anyS (sd c k) px py then t++[(k:Int)] else t))):=by
 obtain⟨x0,e0⟩:∃ y:Int,(sd c k).2.2.1.1.1=y:=⟨_,rfl⟩
 obtain⟨x1,e1⟩:∃ y:Int,(sd c k).2.2.1.1.2.1=y:=⟨_,rfl⟩
 obtain⟨y0,e2⟩:∃ y:Int,(sd c k).2.2.1.2.1.1=y:=⟨_,rfl⟩
 obtain⟨y1,e3⟩:∃ y:Int,(sd c k).2.2.1.2.1.2.1=y:=⟨_,rfl⟩
 obtain⟨g1,⟨⟨g2,g3⟩,g4,g5⟩,g6,g7⟩:=goodS_iff e0 e1 e2 e3 hg
 have i0:=in5_iff.1 g2
 have i1:=in5_iff.1 g3
 have i2:=in5_iff.1 g4
 have i3:=in5_iff.1 g5
 have hmv:mvC (sd c k,(px,py,()),())=true:=by
  unfold mvC
  show (cOK (sd c k).2.1.2&&in10 px&&in10 py&&in5 (sd c k).2.2.1.1.1&&in5 (sd c k).2.2.1.1.2.1&&in5 (sd c k).2.2.1.2.1.1&&in5 (sd c k).2.2.1.2.1.2.1&&ile (sd c k).2.2.1.1.1 (sd c k).2.2.1.1.2.1&&ile (sd c k).2.2.1.2.1.1 (sd c k).2.2.1.2.1.2.1)=true
  rw[e0,e1,e2,e3,g1,g2,g3,g4,g5,hp.1,hp.2,show ile x0 x1=true by rw[ile_iff];exact decide_eq_true g6.1,show ile y0 y1=true by rw[ile_iff];exact decide_eq_true g7.1]
  rfl
 have htot:totSd (sd c k)=(x1-x0+1) * (y1-y0+1):=by unfold totSd;rw[e0,e1,e2,e3]
 have hmul:=mul_b (a:=x1-x0+1) (b:=y1-y0+1) (m:=41) (n:=41) (by omega) (by omega) (by omega) (by omega)
 have hpos:0<(x1-x0+1) * (y1-y0+1):=Int.mul_pos (by omega) (by omega)
 have w:wr .i64 (wr .i64 (wr .i64 (x1-x0)+1) * wr .i64 (wr .i64 (y1-y0)+1))=totSd (sd c k):=by
  rw[wr_in (n:=x1-x0) (by omega) (by omega),wr_in (n:=x1-x0+1) (by omega) (by omega),wr_in (n:=y1-y0) (by omega) (by omega),wr_in (n:=y1-y0+1) (by omega) (by omega),wr_in (by omega) (by omega),htot]
 have hmvd:mvS (sd c k).2.1.2 px py x0 x1 y0 y1=mvSd (sd c k) px py:=by unfold mvSd;rw[e0,e1,e2,e3]
 have hall:ieq (mvSd (sd c k) px py) (totSd (sd c k))=allS (sd c k) px py:=rfl
 have hany:(!ile (mvSd (sd c k) px py) 0)=anyS (sd c k) px py:=rfl
 have himp:allS (sd c k) px py=true→anyS (sd c k) px py=true:=by
  intro h
  have:=ieq_t' h
  unfold anyS
  rw[this,htot,ile_iff,decide_eq_false (by omega)];rfl
 refine⟨himp,?_⟩
 have hsd:c.2.1.2.getD k tSand.dflt=sd c k:=rfl
 have l1:s.length.ble 1048576=true:=Nat.ble_eq_true_of_le (by omega)
 have l2:t.length.ble 1048576=true:=Nat.ble_eq_true_of_le (by omega)
 cases s with
 | nil =>
  cases t with
  |nil=>
   have h:=onch_step0 c px py k m
   simp only[Int.ofNat_eq_natCast,ile_lt hk,inB_at hk,nat_to,hsd,hmv,e0,e1,e2,e3,w,hmvd,hall,hany,ieq_self,wr_succ (show k<1048577 by omega),Bool.not_false,cond_true] at h
   show adv H2 (Y2 [23]) 3000 (onchI0 c px py k (m+1))=_
   rw[h]
   cases a:allS (sd c k) px py with
   |true=>rw[himp a];rfl
   |false=>cases b:anyS (sd c k) px py<;>rfl
  |cons t0 t=>
   have h:=onch_step2 c px py (t0::t).length k (flat tI (t0::t)) m
   simp only[Int.ofNat_eq_natCast,ile_lt hk,inB_at hk,nat_to,hsd,hmv,e0,e1,e2,e3,w,hmvd,hall,hany,l2,plO,flatI_add,flatI_plain,ieq_self,wr_succ (show k<1048577 by omega),Bool.not_false,cond_true] at h
   rw[beq_flatI] at h
   show adv H2 (Y2 [23]) 3000 (onchI2 c px py (t0::t).length k (flat tI (t0::t)) (m+1))=_
   rw[h]
   cases a:allS (sd c k) px py with
   |true=>rw[himp a];simp only[cond_true];rw[show (t0::t).length+1=(t0::t++[(k:Int)]).length by simp];rfl
   |false=>cases b:anyS (sd c k) px py<;>(simp only[cond_true,cond_false];first|rfl|(rw[show (t0::t).length+1=(t0::t++[(k:Int)]).length by simp];rfl))
 |cons s0 s=>
  have h:=onch_step4 c px py (s0::s).length t.length k (flat tI t) (flat tI (s0::s)) m
  simp only[Int.ofNat_eq_natCast,ile_lt hk,inB_at hk,nat_to,hsd,hmv,e0,e1,e2,e3,w,hmvd,hall,hany,l1,l2,plO,flatI_add,flatI_plain,ieq_self,wr_succ (show k<1048577 by omega),Bool.not_false,cond_true] at h
  rw[beq_flatI (s0::s),beq_flatI t] at h
  show adv H2 (Y2 [23]) 3000 (onchI4 c px py (s0::s).length t.length k (flat tI t) (flat tI (s0::s)) (m+1))=_
  rw[h]
  have f1:(s0::s).length+1=(s0::s++[(k:Int)]).length:=by simp
  have f2:t.length+1=(t++[(k:Int)]).length:=by simp
  cases a:allS (sd c k) px py with
  |true=>rw[himp a];simp only[cond_true];rw[f1,f2];rfl
  |false=>cases b:anyS (sd c k) px py<;>(simp only[cond_true,cond_false];first|rfl|(rw[f2];rfl))
theorem on_ans (c:tChart.den) (px py:Int) (hv:(chkS c).2.2=0) (hp:in10 px=true∧in10 py=true):∀ (r k m:Nat) (s t:List Int),k+r=c.2.1.2.length→r<m→(s≠[]→t≠[])→s.length≤k→t.length≤k→Ans H2 (onSt c px py k m s t) (tupS (onF c px py s t k r,0))
 | 0, k, m + 1, s, t, hk, hm, hst, hs, ht => by
  have hle:c.2.1.2.length≤k:=by omega
  rw[onF]
  cases s with
  | nil =>
   cases t with
   |nil=>
    have h:=onch_step0 c px py k m
    simp only[Int.ofNat_eq_natCast,ile_ge hle,Bool.not_true,cond_false] at h
    exact .doneT (Y2_ok _) H2sy h (Tells.tupL (.cons .nils (.cons .nils (.refl _))))
   |cons t0 t=>
    have h:=onch_step2 c px py (t0::t).length k (flat tI (t0::t)) m
    simp only[Int.ofNat_eq_natCast,ile_ge hle,flatI_plain,Bool.not_true,cond_true,cond_false] at h
    exact .doneT (Y2_ok _) H2sy h (Tells.tupL (.cons .nils (.cons (Tells.lst (t0::t) (by simp)) (.refl _))))
  |cons s0 s=>
   have h:=onch_step4 c px py (s0::s).length t.length k (flat tI t) (flat tI (s0::s)) m
   simp only[Int.ofNat_eq_natCast,ile_ge hle,flatI_plain,Bool.not_true,cond_true,cond_false] at h
   exact .doneT (Y2_ok _) H2sy h (Tells.tupL (.cons (Tells.lst (s0::s) (by simp)) (.cons (Tells.lst t (hst (by simp))) (.refl _))))
 | r + 1, k, m + 1, s, t, hk, hm, hst, hs, ht => by
  obtain⟨himp,h⟩:=on_step c px py k m s t hst hs ht (by omega) (valid_sands hv).1 (sd_good hv (by omega)) hp
  rw[onF]
  refine .stop (Y2_ok _) H2sy h (on_ans c px py hv hp r (k+1) m _ _ (by omega) (by omega) ?_ ?_ ?_)
  · cases a : allS (sd c k) px py with
    |true=>rw[himp a];simp
    |false=>
     rw[cond_false]
     intro hne
     cases anyS (sd c k) px py with
     |true=>simp
     |false=>exact hst hne
  · cases allS (sd c k) px py<;>simp<;>omega
  · cases anyS (sd c k) px py<;>simp<;>omega
noncomputable def onS (c:tChart.den) (px py:Int):(List Int×List Int)×Int:=bif ieq (chkS c).2.2 0 then (bif in10 px&&in10 py then (onF c px py [] [] 0 c.2.1.2.length,0) else (([],[]),7)) else (([],[]),(chkS c).2.2)
theorem on_call (c:tChart.den) (px py:Int):AnsF H2 23 [tChart.av c,.agg [.int .i64 px,.int .i64 py]] (tupS (onS c px py)):=by
 refine Ans.call (n:=8) (ext_none (by kernel_rfl)) (hasB_spec (by kernel_rfl)) ?_
 have h:=onch_start c px py
 unfold onS in10
 cases c1:ieq (chkS c).2.2 0 with
 |false=>
  simp only[c1,Bool.not_false,cond_true,cond_false] at h⊢
  exact .doneT (Y2_ok _) H2sy h (Tells.tupL (.cons .nils (.cons .nils (.refl _))))
 | true =>
  cases d1:ile (-10000) px<;>cases d2:ile px 10000<;>cases d3:ile (-10000) py<;>cases d4:ile py 10000 <;>
   try (simp only[c1,d1,d2,d3,d4,Bool.not_false,Bool.not_true,Bool.and_self,Bool.and_true,Bool.and_false,Bool.false_and,cond_true,cond_false] at h⊢;exact .doneT (Y2_ok _) H2sy h (Tells.tupL (.cons .nils (.cons .nils (.refl _)))))
  simp only[c1,d1,d2,d3,d4,Bool.not_true,Bool.and_self,cond_true,cond_false] at h⊢
  have hv:=ieq_t' c1
  have:=(valid_sands hv).1
  exact .stop (Y2_ok _) H2sy h (on_ans c px py hv ⟨by unfold in10;rw[d1,d2];rfl,by unfold in10;rw[d3,d4];rfl⟩ c.2.1.2.length 0 1048575 [] [] (by omega) (by omega) (fun h=>h) (by simp) (by simp))
end Go.Proofs.YtgaoajmlckgdaaaGreatDoor


set_option maxRecDepth 100000
namespace Go.Proofs.YtgaoajmlckgdaaaGreatDoor
open Go Go.Eng
noncomputable def ficcI0 (l:(Ty.sl tSand).den) (px py r:Int) (x6:Bool) (x12:Int) (x15:Int) (x16:Int) (x30:Nat):Cfg:=⟨.ex (pcOf N3 73 [0,0,1,0,1,1]) ⟨(tmOf 34 [(0,(.vs tSand (l.1) (l.2))),(1,(.agg [(.int .i64 (px)),(.int .i64 (py))])),(2,(.int .i64 (r))),(4,(.ptr 0 0)),(6,(.int .i64 (0))),(7,(.ptr 1 0)),(8,(.bool x6)),(11,(.int .i64 (r))),(12,(.bool (false))),(14,(.vs tSand (l.1) (l.2))),(15,(.int .i64 (Int.ofNat l.2.length))),(16,(.int .i64 x12))]),(hpOf 2 [(0,(.cells false [(.int .i64 (px)),(.int .i64 (py))])),(1,(.cells false [(.int .i64 x15),(.int .i64 x16)]))]),[],[],34,false⟩,⟨12,[]⟩,[(.lop (pcOf N3 73 [0,0,1,0,1,1]) 2 (tmOf 34 [(0,(.vs tSand (l.1) (l.2))),(1,(.agg [(.int .i64 (px)),(.int .i64 (py))])),(2,(.int .i64 (r))),(4,(.ptr 0 0)),(6,(.int .i64 (0))),(7,(.ptr 1 0)),(8,(.bool (false))),(11,(.int .i64 (r))),(12,(.bool (false))),(14,(.vs tSand (l.1) (l.2))),(15,(.int .i64 (Int.ofNat l.2.length))),(16,(.int .i64 (0)))]) x30),(.blk 0),(.seq (pcOf N3 73 [1,1,1])),(.cal [(.tmp 6),(.cell 7 27),(.tmp 8)] .top)]⟩
theorem ficc_start (l:(Ty.sl tSand).den) (px py r:Int):adv N3 (V3 [73]) 3000 (startC N3 73 [.vs tSand l.1 l.2,.agg [.int .i64 px,.int .i64 py],.int .i64 r] 12)=(bif ieq r 0 then some (.done (.tup [(.int .i64 (0)),(.agg [(.int .i64 (0)),(.int .i64 (0))]),(.bool (false))])) else some (.stop (ficcI0 l px py r (false) (0) (0) (0) (1048575)))):=by kernel_rfl
theorem ficc_step0 (l:(Ty.sl tSand).den) (px py r:Int) (x6:Bool) (x12:Int) (x15:Int) (x16:Int) (x30:Nat):adv N3 (V3 [73]) 3000 (ficcI0 l px py r x6 x12 x15 x16 (x30+1))=(bif !ile (Int.ofNat l.2.length) x12 then (bif inB x12 l.2.length then (bif mvC (l.2.getD x12.toNat tSand.dflt,(px,py,()),())&&inr r then (bif (fmS (l.2.getD x12.toNat tSand.dflt,(px,py,()),()) r).2.2 then (bif ieq (fmS (l.2.getD x12.toNat tSand.dflt,(px,py,()),()) r).1 (fmS (l.2.getD x12.toNat tSand.dflt,(px,py,()),()) r).1 then (bif ieq (fmS (l.2.getD x12.toNat tSand.dflt,(px,py,()),()) r).2.1 (fmS (l.2.getD x12.toNat tSand.dflt,(px,py,()),()) r).2.1 then some (.done (.tup [(.int .i64 (x12)),(.agg [(.int .i64 ((fmS (l.2.getD x12.toNat tSand.dflt,(px,py,()),()) r).1)),(.int .i64 ((fmS (l.2.getD x12.toNat tSand.dflt,(px,py,()),()) r).2.1))]),(.bool (true))])) else none) else none) else some (.stop (ficcI0 l px py r ((fmS (l.2.getD x12.toNat tSand.dflt,(px,py,()),()) r).2.2) (wr .i64 (x12+1)) ((fmS (l.2.getD x12.toNat tSand.dflt,(px,py,()),()) r).1) ((fmS (l.2.getD x12.toNat tSand.dflt,(px,py,()),()) r).2.1) (x30)))) else none) else none) else some (.done (.tup [(.int .i64 (0)),(.agg [(.int .i64 (0)),(.int .i64 (0))]),(.bool (false))]))):=by kernel_rfl
noncomputable def rfstI0 (c:tChart.den) (px py r:Int) (x9:Int) (x28:Nat):Cfg:=⟨.ex (pcOf N3 74 [0,0,1,0,1]) ⟨(tmOf 50 [(0,(.agg [(.vs tMark (c.1.1) (c.1.2)),(.vs tSand (c.2.1.1) (c.2.1.2))])),(1,(.agg [(.int .i64 (px)),(.int .i64 (py))])),(2,(.int .i64 (r))),(3,(.ptr 0 0)),(4,(.ptr 1 0)),(6,(.int .i64 (0))),(7,(.ptr 2 0)),(8,(.bool (false))),(9,(.int .i64 x9))]),(hpOf 3 [(0,(.cells false [(.vs tMark (c.1.1) (c.1.2)),(.vs tSand (c.2.1.1) (c.2.1.2))])),(1,(.cells false [(.int .i64 (px)),(.int .i64 (py))])),(2,(.cells false [(.int .i64 (0)),(.int .i64 (0))]))]),[],[],50,false⟩,⟨12,[]⟩,[(.lop (pcOf N3 74 [0,0,1,0,1]) 3 (tmOf 50 [(0,(.agg [(.vs tMark (c.1.1) (c.1.2)),(.vs tSand (c.2.1.1) (c.2.1.2))])),(1,(.agg [(.int .i64 (px)),(.int .i64 (py))])),(2,(.int .i64 (r))),(3,(.ptr 0 0)),(4,(.ptr 1 0)),(6,(.int .i64 (0))),(7,(.ptr 2 0)),(8,(.bool (false))),(9,(.int .i64 (0)))]) x28),(.blk 0),(.seq (pcOf N3 74 [1,1])),(.cal [(.tmp 6),(.cell 7 27),(.tmp 8)] .top)]⟩
noncomputable def rfstI1 (c:tChart.den) (px py r:Int) (x9:Int) (x11:List (Ty.den tP)) (x12:Int) (x21:List Nat) (x22:Bool) (x23:List (Ty.den tP)) (x24:Int) (x25:Int) (x26:Int) (x27:Int) (x90:Nat) (x101:Nat):Cfg:=⟨.ex (pcOf N3 74 [0,0,1,1,0,0,1,0,0,1,0,1]) ⟨(tmOf 50 [(0,(.agg [(.vs tMark (c.1.1) (c.1.2)),(.vs tSand (c.2.1.1) (c.2.1.2))])),(1,(.agg [(.int .i64 (px)),(.int .i64 (py))])),(2,(.int .i64 (r))),(3,(.ptr 0 0)),(4,(.ptr 1 0)),(6,(.int .i64 (0))),(7,(.ptr 2 0)),(8,(.bool (false))),(9,(.int .i64 x9)),(10,(.vs tP (false) x11)),(11,(.int .i64 x12)),(12,(.int .i64 x9)),(13,(.ptr 0 1)),(14,(.vs tSand (c.2.1.1) (c.2.1.2))),(15,(.int .i64 (Int.ofNat c.2.1.2.length))),(16,(.bool (true))),(19,(.ptr 0 1)),(20,(.vs tSand (c.2.1.1) (c.2.1.2))),(21,(.int .i64 x9)),(22,(.cp [(.str x21),(.vs tP x22 x23),(.int .i64 x24),(.int .i64 x25),(.int .i64 x26),(.int .i64 x27)] 0)),(23,(.cp [(.str x21),(.vs tP x22 x23),(.int .i64 x24),(.int .i64 x25),(.int .i64 x26),(.int .i64 x27)] 2)),(24,(.agg [(.int .i64 x24),(.int .i64 x25),(.int .i64 x26),(.int .i64 x27)])),(25,(.vs tP (false) x11))]),(hpOf 3 [(0,(.cells false [(.vs tMark (c.1.1) (c.1.2)),(.vs tSand (c.2.1.1) (c.2.1.2))])),(1,(.cells false [(.int .i64 (px)),(.int .i64 (py))])),(2,(.cells false [(.int .i64 (0)),(.int .i64 (0))]))]),[],[],50,false⟩,⟨12,[]⟩,[(.lop (pcOf N3 74 [0,0,1,1,0,0,1,0,0,1,0,1]) 3 (tmOf 50 [(0,(.agg [(.vs tMark (c.1.1) (c.1.2)),(.vs tSand (c.2.1.1) (c.2.1.2))])),(1,(.agg [(.int .i64 (px)),(.int .i64 (py))])),(2,(.int .i64 (r))),(3,(.ptr 0 0)),(4,(.ptr 1 0)),(6,(.int .i64 (0))),(7,(.ptr 2 0)),(8,(.bool (false))),(9,(.int .i64 x9)),(10,(.vs tP (false) x11)),(11,(.int .i64 (0))),(12,(.int .i64 x9)),(13,(.ptr 0 1)),(14,(.vs tSand (c.2.1.1) (c.2.1.2))),(15,(.int .i64 (Int.ofNat c.2.1.2.length))),(16,(.bool (true))),(19,(.ptr 0 1)),(20,(.vs tSand (c.2.1.1) (c.2.1.2))),(21,(.int .i64 x9)),(22,(.cp [(.str x21),(.vs tP x22 x23),(.int .i64 x24),(.int .i64 x25),(.int .i64 x26),(.int .i64 x27)] 0)),(23,(.cp [(.str x21),(.vs tP x22 x23),(.int .i64 x24),(.int .i64 x25),(.int .i64 x26),(.int .i64 x27)] 2)),(24,(.agg [(.int .i64 x24),(.int .i64 x25),(.int .i64 x26),(.int .i64 x27)])),(25,(.vs tP (false) x11))]) x90),(.blk 2),(.blk 1),(.seq (pcOf N3 74 [1,1,0,0,1,0,1])),(.lop (pcOf N3 74 [0,0,1,0,1]) 3 (tmOf 50 [(0,(.agg [(.vs tMark (c.1.1) (c.1.2)),(.vs tSand (c.2.1.1) (c.2.1.2))])),(1,(.agg [(.int .i64 (px)),(.int .i64 (py))])),(2,(.int .i64 (r))),(3,(.ptr 0 0)),(4,(.ptr 1 0)),(6,(.int .i64 (0))),(7,(.ptr 2 0)),(8,(.bool (false))),(9,(.int .i64 (0)))]) x101),(.blk 0),(.seq (pcOf N3 74 [1,1])),(.cal [(.tmp 6),(.cell 7 27),(.tmp 8)] .top)]⟩
theorem rfst_start (c:tChart.den) (px py r:Int):adv N3 (V3 [74]) 3000 (startC N3 74 [tChart.av c,.agg [.int .i64 px,.int .i64 py],.int .i64 r] 12)=some (.stop (rfstI0 c px py r (0) (1048575))):=by kernel_rfl
theorem rfst_step0 (c:tChart.den) (px py r:Int) (x9:Int) (x28:Nat):adv N3 (V3 [74]) 3000 (rfstI0 c px py r x9 (x28+1))=(bif !ile (↑c.2.1.2.length) x9 then (bif inB x9 c.2.1.2.length then (bif bK (c.2.1.2.getD x9.toNat tSand.dflt).2.2.1.1.1 (c.2.1.2.getD x9.toNat tSand.dflt).2.2.1.1.2.1 (c.2.1.2.getD x9.toNat tSand.dflt).2.2.1.2.1.1 (c.2.1.2.getD x9.toNat tSand.dflt).2.2.1.2.1.2.1 then some (.stop (rfstI1 c px py r (x9) (pts (c.2.1.2.getD x9.toNat tSand.dflt).2.2.1.1.1 (c.2.1.2.getD x9.toNat tSand.dflt).2.2.1.1.2.1 (c.2.1.2.getD x9.toNat tSand.dflt).2.2.1.2.1.1 (c.2.1.2.getD x9.toNat tSand.dflt).2.2.1.2.1.2.1) (0) ((c.2.1.2.getD x9.toNat tSand.dflt).1) ((c.2.1.2.getD x9.toNat tSand.dflt).2.1.1) ((c.2.1.2.getD x9.toNat tSand.dflt).2.1.2) ((c.2.1.2.getD x9.toNat tSand.dflt).2.2.1.1.1) ((c.2.1.2.getD x9.toNat tSand.dflt).2.2.1.1.2.1) ((c.2.1.2.getD x9.toNat tSand.dflt).2.2.1.2.1.1) ((c.2.1.2.getD x9.toNat tSand.dflt).2.2.1.2.1.2.1) (1048575) (x28+1))) else none) else none) else some (.done (.tup [(.int .i64 (0)),(.agg [(.int .i64 (0)),(.int .i64 (0))]),(.bool (false))]))):=by kernel_rfl
theorem rfst_step1 (c:tChart.den) (px py r:Int) (x9:Int) (x11:List (Ty.den tP)) (x12:Int) (x21:List Nat) (x22:Bool) (x23:List (Ty.den tP)) (x24:Int) (x25:Int) (x26:Int) (x27:Int) (x90:Nat) (x101:Nat):adv N3 (V3 [74]) 3000 (rfstI1 c px py r x9 x11 x12 x21 x22 x23 x24 x25 x26 x27 (x90+1) (x101+1))=(bif !ile (↑x11.length) x12 then (bif inB x9 c.2.1.2.length then (bif inB x12 x11.length then (bif cOK (c.2.1.2.getD x9.toNat tSand.dflt).2.1.2&&in5 (x11.getD x12.toNat tP.dflt).1&&in5 (x11.getD x12.toNat tP.dflt).2.1&&in10 px&&in10 py&&inr r then (bif ieq px px then (bif ieq py py then (bif bbeq c.2.1.1 c.2.1.1 then (bif vsB tSand c.2.1.2 tSand c.2.1.2 then (bif insF (c.2.1.2.getD x9.toNat tSand.dflt).2.1.2 (px-(x11.getD x12.toNat tP.dflt).1) (py-(x11.getD x12.toNat tP.dflt).2.1) r then (bif inB x12 x11.length then some (.done (.tup [(.int .i64 (x9)),(.agg [(.int .i64 ((x11.getD x12.toNat tP.dflt).1)),(.int .i64 ((x11.getD x12.toNat tP.dflt).2.1))]),(.bool (true))])) else none) else some (.stop (rfstI1 c px py r (x9) (x11) (wr .i64 (x12+1)) (x21) (x22) (x23) (x24) (x25) (x26) (x27) (x90) (x101+1)))) else none) else none) else none) else none) else none) else none) else none) else some (.stop (rfstI0 c px py r (wr .i64 (x9+1)) (x101)))):=by kernel_rfl
theorem rowY_inS {x:Int}:∀ {r:Nat} {y:Int} {p:tP.den},p∈rowY x y r→∃ v:Int,p=(x,v,())∧y≤v∧v<y+r
 |0,_,_,h=>by cases h
 |r+1,y,p,h=>by
  rw[rowY,List.mem_cons] at h
  rcases h with rfl|h
  · exact⟨y,rfl,by omega,by omega⟩
  · obtain ⟨v, h1, h2, h3⟩ := rowY_inS h
    exact⟨v,h1,by omega,by omega⟩
theorem ptsX_inS {y0:Int} {n:Nat}:∀ {r:Nat} {x:Int} {p:tP.den},p∈ptsX y0 n x r→∃ u v:Int,p=(u,v,())∧(x≤u∧u<x+r)∧y0≤v∧v<y0+n
 |0,_,_,h=>by cases h
 |r+1,x,p,h=>by
  rw[ptsX,List.mem_append] at h
  rcases h with h|h
  · obtain ⟨v, h1, h2, h3⟩ := rowY_inS h
    exact⟨x,v,h1,⟨by omega,by omega⟩,h2,h3⟩
  · obtain ⟨u, v, h1, ⟨h2, h3⟩, h4⟩ := ptsX_inS h
    exact⟨u,v,h1,⟨by omega,by omega⟩,h4⟩
theorem ptsX_lenS (y0:Int) (n:Nat):∀ (r:Nat) (x:Int),(ptsX y0 n x r).length=r * n
 |0,_=>by rw[Nat.zero_mul];rfl
 |r+1,x=>by rw[ptsX,List.length_append,rowY_len,ptsX_lenS y0 n r,Nat.add_mul,Nat.one_mul,Nat.add_comm]
theorem goodS_mv {s:tSand.den} {px py:Int} (hg:goodS s=true) (h1:in10 px=true) (h2:in10 py=true):mvC (s,(px,py,()),())=true:=by
 obtain⟨x0,e0⟩:∃ y:Int,s.2.2.1.1.1=y:=⟨_,rfl⟩
 obtain⟨x1,e1⟩:∃ y:Int,s.2.2.1.1.2.1=y:=⟨_,rfl⟩
 obtain⟨y0,e2⟩:∃ y:Int,s.2.2.1.2.1.1=y:=⟨_,rfl⟩
 obtain⟨y1,e3⟩:∃ y:Int,s.2.2.1.2.1.2.1=y:=⟨_,rfl⟩
 obtain⟨g1,⟨⟨g2,g3⟩,g4,g5⟩,g6,g7⟩:=goodS_iff e0 e1 e2 e3 hg
 unfold mvC
 show (cOK s.2.1.2&&in10 px&&in10 py&&in5 s.2.2.1.1.1&&in5 s.2.2.1.1.2.1&&in5 s.2.2.1.2.1.1&&in5 s.2.2.1.2.1.2.1&&ile s.2.2.1.1.1 s.2.2.1.1.2.1&&ile s.2.2.1.2.1.1 s.2.2.1.2.1.2.1)=true
 rw[e0,e1,e2,e3,g1,g2,g3,g4,g5,h1,h2,show ile x0 x1=true by rw[ile_iff];exact decide_eq_true g6.1,show ile y0 y1=true by rw[ile_iff];exact decide_eq_true g7.1]
 rfl
noncomputable def tupF (o:Int×Int×Int×Bool):AV:=.tup [.int .i64 o.1,.agg [.int .i64 o.2.1,.int .i64 o.2.2.1],.bool o.2.2.2]
noncomputable def fmP (s:tSand.den) (px py r:Int):Int×Int×Bool:=fmS (s,(px,py,()),()) r
noncomputable def firF (S:List tSand.den) (px py r:Int):Nat→Nat→Int×Int×Int×Bool
 |_,0=>(0,0,0,false)
 |k,n+1=>bif (fmP (S.getD k tSand.dflt) px py r).2.2 then ((k:Int),(fmP (S.getD k tSand.dflt) px py r).1,(fmP (S.getD k tSand.dflt) px py r).2.1,true) else firF S px py r (k+1) n
noncomputable def firS (S:List tSand.den) (px py r:Int):Int×Int×Int×Bool:=bif ieq r 0 then (0,0,0,false) else firF S px py r 0 S.length
noncomputable def sC (S:List tSand.den):Bool:=Nat.ble S.length 4&&S.all goodS
theorem sC_iff {S:List tSand.den} (h:sC S=true):S.length≤4∧∀ k,k<S.length→goodS (S.getD k tSand.dflt)=true:=by
 unfold sC at h
 rw[Bool.and_eq_true] at h
 refine⟨Nat.le_of_ble_eq_true h.1,fun k hk=>List.all_eq_true.1 h.2 _ (by simp[hk])⟩
theorem ficc_ans (l:(Ty.sl tSand).den) (px py r:Int) (S:List tSand.den) (hS:l.2=S) (hs:sC S=true) (h1:in10 px=true) (h2:in10 py=true) (h3:inr r=true) :
  ∀ (n k m:Nat) (b:Bool) (x y:Int),k+n=S.length→n<m→Ans N3 (ficcI0 l px py r b k x y m) (tupF (firF S px py r k n))
 |0,k,m+1,b,x,y,hk,hm=>by
  have h:=ficc_step0 l px py r b k x y m
  simp only[hS,Int.ofNat_eq_natCast,ile_ge (show S.length≤k by omega),Bool.not_true,cond_false] at h
  exact .done (V3_ok _) N3sy h rfl
 | n + 1, k, m + 1, b, x, y, hk, hm => by
  have h:=ficc_step0 l px py r b k x y m
  have hlt:k<S.length:=by omega
  obtain⟨s1,s2⟩:=sC_iff hs
  have hv:=goodS_mv (s2 k hlt) h1 h2
  have hp:fmS (S.getD k tSand.dflt,(px,py,()),()) r=fmP (S.getD k tSand.dflt) px py r:=rfl
  simp only[hS,Int.ofNat_eq_natCast,ile_lt hlt,inB_at hlt,nat_to,hv,h3,hp,ieq_self,wr_succ (show k<1048577 by omega),Bool.and_self,Bool.not_false,cond_true] at h
  rw[firF]
  cases e:(fmP (S.getD k tSand.dflt) px py r).2.2 with
  |true=>
   simp only[e,cond_true] at h⊢
   exact .done (V3_ok _) N3sy h rfl
  |false=>
   simp only[e,cond_false] at h⊢
   exact .stop (V3_ok _) N3sy h (ficc_ans l px py r S hS hs h1 h2 h3 n (k+1) m _ _ _ (by omega) (by omega))
theorem ficc_call (l:(Ty.sl tSand).den) (p:tP.den) (r:Int) (hs:sC l.2=true) (h1:in10 p.1=true) (h2:in10 p.2.1=true) (h3:inr r=true):AnsF N3 73 [(Ty.sl tSand).av l,tP.av p,.int .i64 r] (tupF (firS l.2 p.1 p.2.1 r)):=by
 refine Ans.call (n:=12) (ext_none (by kernel_rfl)) (hasB_spec (by kernel_rfl)) ?_
 have h:=ficc_start l p.1 p.2.1 r
 have hav:startC N3 73 [(Ty.sl tSand).av l,tP.av p,.int .i64 r] 12=startC N3 73 [.vs tSand l.1 l.2,.agg [.int .i64 p.1,.int .i64 p.2.1],.int .i64 r] 12:=rfl
 rw[hav]
 unfold firS
 obtain⟨s1,s2⟩:=sC_iff hs
 cases e:ieq r 0 with
 |true=>rw[e,cond_true] at h;rw[cond_true];exact .done (V3_ok _) N3sy h rfl
 |false=>
  rw[e,cond_false] at h;rw[cond_false]
  exact .stop (V3_ok _) N3sy h (ficc_ans l p.1 p.2.1 r _ rfl hs h1 h2 h3 _ 0 1048575 _ _ _ (by omega) (by omega))
noncomputable def fnd (C:List tP.den) (px py r:Int):List tP.den→Int×Int×Bool
 |[]=>(0,0,false)
 |p::l=>bif insF C (px-p.1) (py-p.2.1) r then (p.1,p.2.1,true) else fnd C px py r l
theorem fnd_app (C:List tP.den) (px py r:Int) (b:List tP.den):∀ a,fnd C px py r (a++b)=bif (fnd C px py r a).2.2 then fnd C px py r a else fnd C px py r b
 |[]=>rfl
 |p::a=>by
  rw[List.cons_append,fnd,fnd,fnd_app C px py r b a]
  cases insF C (px-p.1) (py-p.2.1) r<;>rfl
theorem insF_inc {C:List tP.den} {dx dy r:Int} (h:ile r 0=false):insF C dx dy r=incF C dx dy r:=by
 unfold insF incF;rw[h,cond_false,Bool.or_comm]
theorem fnd_row {C:List tP.den} {px py r:Int} (h:ile r 0=false) (x:Int):∀ (n:Nat) (y:Int),fnd C px py r (rowY x y n)=fmY C px py r x y n
 |0,_=>rfl
 |n+1,y=>by
  rw[rowY,fnd,fmY,fnd_row h x n (y+1),insF_inc h]
theorem fnd_pts {C:List tP.den} {px py r:Int} (h:ile r 0=false) (y0:Int) (ny:Nat):∀ (n:Nat) (x:Int),fnd C px py r (ptsX y0 ny x n)=fmX C px py r y0 ny x n
 |0,_=>rfl
 |n+1,x=>by
  rw[ptsX,fnd_app,fmX,fnd_pts h y0 ny n (x+1),fnd_row h]
theorem near_zero (ax ay vx vy:Int):nearI ax ay vx vy 0=false:=by
 have sq:∀ a:Int,0≤a * a:=fun a=>by
  by_cases h:0≤a
  · exact Int.mul_nonneg h h
  · rw[← Int.neg_mul_neg];exact Int.mul_nonneg (by omega) (by omega)
 have key:∀ z:Int,0≤z→(!ile 0 z)=false:=fun z hz=>by rw[ile_iff,decide_eq_true hz];rfl
 unfold nearI
 simp only[Int.zero_mul,Int.mul_zero]
 rw[key _ (Int.add_nonneg (sq _) (sq _)),key _ (Int.add_nonneg (sq _) (sq _)),key _ (sq _)]
 cases ile (ax * vx+ay * vy) 0<;>cases ile (ax * ax+ay * ay) (ax * vx+ay * vy)<;>rfl
theorem sidF_zero (C:List tP.den) (dx dy:Int):∀ (n k:Nat),sidF C dx dy 0 k n=false
 |0,_=>rfl
 |n+1,k=>by rw[sidF,near_zero,cond_false,sidF_zero C dx dy n (k+1)]
theorem fnd_zero (C:List tP.den) (px py:Int):∀ l,fnd C px py 0 l=(0,0,false)
 |[]=>rfl
 |p::l=>by
  rw[fnd,fnd_zero C px py l]
  unfold insF
  rw[sidF_zero];rfl
theorem rfst_ans1 (c:tChart.den) (px py r:Int) (S:List tSand.den) (hS:c.2.1.2=S) (hs:sC S=true) (h1:in10 px=true) (h2:in10 py=true) (h3:inr r=true) (i:Nat) (hi:i<S.length) (L:List tP.den) (hL:∀ p∈L,in5 p.1=true∧in5 p.2.1=true) (hl:L.length≤1000000) (M:Nat) (A:AV) (a1:List Nat) (a2:Bool) (a3:List tP.den) (a4 a5 a6 a7:Int) :
  ∀ (n k m:Nat),k+n=L.length→n<m→((fnd (S.getD i tSand.dflt).2.1.2 px py r (L.drop k)).2.2=true→A=tupF ((i:Int),fnd (S.getD i tSand.dflt).2.1.2 px py r (L.drop k))) →
   ((fnd (S.getD i tSand.dflt).2.1.2 px py r (L.drop k)).2.2=false→Ans N3 (rfstI0 c px py r (wr .i64 ((i:Int)+1)) M) A)→Ans N3 (rfstI1 c px py r i L k a1 a2 a3 a4 a5 a6 a7 m (M+1)) A
 |0,k,m+1,hk,hm,ht,hf=>by
  have h:=rfst_step1 c px py r i L k a1 a2 a3 a4 a5 a6 a7 m M
  simp only[ile_ge (show L.length≤k by omega),Bool.not_true,cond_false] at h
  rw[List.drop_eq_nil_of_le (by omega)] at hf
  exact .stop (V3_ok _) N3sy h (hf rfl)
 | n + 1, k, m + 1, hk, hm, ht, hf => by
  have h:=rfst_step1 c px py r i L k a1 a2 a3 a4 a5 a6 a7 m M
  have hlt:k<L.length:=by omega
  have hd:L.drop k=L.getD k tP.dflt::L.drop (k+1):=by rw[List.drop_eq_getElem_cons hlt];simp[hlt]
  have hp:=hL (L.getD k tP.dflt) (by simp[hlt])
  have hg:=(sC_iff hs).2 i hi
  have hcc:cOK (S.getD i tSand.dflt).2.1.2=true:=(goodS_iff rfl rfl rfl rfl hg).1
  simp only[hS,ile_lt hlt,inB_at hi,inB_at hlt,nat_to,hcc,hp.1,hp.2,h1,h2,h3,ieq_self,bbeq_self,vsB_self,wr_succ (show k<1048577 by omega),Bool.and_self,Bool.not_false,cond_true] at h
  rw[hd,fnd] at ht hf
  cases e:insF (S.getD i tSand.dflt).2.1.2 (px-(L.getD k tP.dflt).1) (py-(L.getD k tP.dflt).2.1) r with
  |true=>
   simp only[e,cond_true] at h ht
   rw[ht (by trivial)]
   exact .done (V3_ok _) N3sy h rfl
  |false=>
   simp only[e,cond_false] at h ht hf
   exact .stop (V3_ok _) N3sy h (rfst_ans1 c px py r S hS hs h1 h2 h3 i hi L hL hl M A a1 a2 a3 a4 a5 a6 a7 n (k+1) m (by omega) (by omega) ht hf)
theorem fnd_fm {s:tSand.den} {px py r:Int} (h3:inr r=true):fnd s.2.1.2 px py r (pts s.2.2.1.1.1 s.2.2.1.1.2.1 s.2.2.1.2.1.1 s.2.2.1.2.1.2.1)=bif ieq r 0 then (0,0,false) else fmP s px py r:=by
 cases e:ieq r 0 with
 |true=>rw[ieq_t' e,fnd_zero];rfl
 |false=>
  have k:=inr_iff.1 h3
  have k2:=ieq_f' e
  have hr:ile r 0=false:=by rw[ile_iff];exact decide_eq_false (by omega)
  rw[cond_false]
  exact fnd_pts hr _ _ _ _
noncomputable def firZ (S:List tSand.den) (px py r:Int) (k n:Nat):Int×Int×Int×Bool:=bif ieq r 0 then (0,0,0,false) else firF S px py r k n
theorem rfst_ans0 (c:tChart.den) (px py r:Int) (S:List tSand.den) (hS:c.2.1.2=S) (hs:sC S=true) (h1:in10 px=true) (h2:in10 py=true) (h3:inr r=true) :
  ∀ (n k m:Nat),k+n=S.length→n<m→Ans N3 (rfstI0 c px py r k m) (tupF (firZ S px py r k n))
 |0,k,m+1,hk,hm=>by
  have h:=rfst_step0 c px py r k m
  simp only[hS,ile_ge (show S.length≤k by omega),Bool.not_true,cond_false] at h
  refine .done (V3_ok _) N3sy h ?_
  unfold firZ
  cases ieq r 0<;>rfl
 | n + 1, k, m + 1, hk, hm => by
  have h:=rfst_step0 c px py r k m
  have hlt:k<S.length:=by omega
  obtain⟨s1,s2⟩:=sC_iff hs
  have hg:=s2 k hlt
  have hw:wr .i64 ((k:Int)+1)=((k+1:Nat):Int):=wr_succ (show k<1048577 by omega)
  have ih:=rfst_ans0 c px py r S hS hs h1 h2 h3 n (k+1) m (by omega) (by omega)
  have hfm:=fnd_fm (s:=S.getD k tSand.dflt) (px:=px) (py:=py) h3
  obtain⟨x0,e0⟩:∃ y:Int,(S.getD k tSand.dflt).2.2.1.1.1=y:=⟨_,rfl⟩
  obtain⟨x1,e1⟩:∃ y:Int,(S.getD k tSand.dflt).2.2.1.1.2.1=y:=⟨_,rfl⟩
  obtain⟨y0,e2⟩:∃ y:Int,(S.getD k tSand.dflt).2.2.1.2.1.1=y:=⟨_,rfl⟩
  obtain⟨y1,e3⟩:∃ y:Int,(S.getD k tSand.dflt).2.2.1.2.1.2.1=y:=⟨_,rfl⟩
  obtain⟨g1,⟨⟨g2,g3⟩,g4,g5⟩,g6,g7⟩:=goodS_iff e0 e1 e2 e3 hg
  have i0:=in5_iff.1 g2
  have i1:=in5_iff.1 g3
  have i2:=in5_iff.1 g4
  have i3:=in5_iff.1 g5
  have hk':bK x0 x1 y0 y1=true:=by rw[bK_iff];omega
  rw[e0,e1,e2,e3] at hfm
  simp only[hS,ile_lt hlt,inB_at hlt,nat_to,e0,e1,e2,e3,hk',Bool.not_false,cond_true] at h
  have hlen:(pts x0 x1 y0 y1).length≤41 * 41:=by
   unfold pts;rw[ptsX_lenS];exact Nat.mul_le_mul (by omega) (by omega)
  refine .stop (V3_ok _) N3sy h (rfst_ans1 c px py r S hS hs h1 h2 h3 k hlt (pts x0 x1 y0 y1) (fun p hp=>?_) (by omega) m _ _ _ _ _ _ _ _ (pts x0 x1 y0 y1).length 0 1048575 (by omega) (by omega) (fun he=>?_) (fun he=>?_))
  · unfold pts at hp
    obtain⟨u,v,rfl,⟨q1,q2⟩,q3,q4⟩:=ptsX_inS hp
    exact⟨in5_iff.2 (show -500≤u∧u≤500 by omega),in5_iff.2 (show -500≤v∧v≤500 by omega)⟩
  · rw [List.drop_zero, hfm] at he ⊢
    unfold firZ
    rw[firF]
    cases ez:ieq r 0 with
    |true=>rw[ez,cond_true] at he;exact absurd he (by decide)
    |false=>
     rw[ez,cond_false] at he
     rw[cond_false,cond_false,he,cond_true]
     unfold tupF
     rw[he]
  · rw [List.drop_zero, hfm] at he
    have hz:firZ S px py r k (n+1)=firZ S px py r (k+1) n:=by
     unfold firZ
     cases ez:ieq r 0 with
     |true=>rfl
     |false=>
      rw[ez,cond_false] at he
      rw[cond_false,cond_false,firF,he,cond_false]
    rw[hz,hw]
    exact ih
theorem rfst_call (c:tChart.den) (p:tP.den) (r:Int) (hs:sC c.2.1.2=true) (h1:in10 p.1=true) (h2:in10 p.2.1=true) (h3:inr r=true):AnsF N3 74 [tChart.av c,tP.av p,.int .i64 r] (tupF (firS c.2.1.2 p.1 p.2.1 r)):=by
 obtain⟨s1,s2⟩:=sC_iff hs
 exact Ans.call (n:=12) (ext_none (by kernel_rfl)) (hasB_spec (by kernel_rfl)) (.stop (V3_ok _) N3sy (rfst_start c p.1 p.2.1 r) (rfst_ans0 c p.1 p.2.1 r _ rfl hs h1 h2 h3 _ 0 1048575 (by omega) (by omega)))
noncomputable def LR:List Said:=[(73,con3 (.sl tSand) tP tI (fun l p r=>sC l.2&&in10 p.1&&in10 p.2.1&&inr r) (fun l p r=>.tup [.int .i64 (firS l.2 p.1 p.2.1 r).1,.agg [.int .i64 (firS l.2 p.1 p.2.1 r).2.1,.int .i64 (firS l.2 p.1 p.2.1 r).2.2.1],.bool (firS l.2 p.1 p.2.1 r).2.2.2])),
 (74,con3 tChart tP tI (fun c p r=>sC c.2.1.2&&in10 p.1&&in10 p.2.1&&inr r) (fun c p r=>.tup [.int .i64 (firS c.2.1.2 p.1 p.2.1 r).1,.agg [.int .i64 (firS c.2.1.2 p.1 p.2.1 r).2.1,.int .i64 (firS c.2.1.2 p.1 p.2.1 r).2.2.1],.bool (firS c.2.1.2 p.1 p.2.1 r).2.2.2]))]
theorem LR_ok:∀ e∈LR,SaidG Tryz.prog N3.glob e:=
 saids_cons (SaidOK.g en3 xn3 nn3 tabs_ok.mix (fun _ _ h=>con3_spec (t:=.sl tSand) (u:=tP) (w:=tI) (fun l p r hc=>by
  simp only[Bool.and_eq_true] at hc
  exact ficc_call l p r hc.1.1.1 hc.1.1.2 hc.1.2 hc.2) h) rfl)
 (saids_cons (SaidOK.g en3 xn3 nn3 tabs_ok.mix (fun _ _ h => con3_spec (t := tChart) (u := tP) (w := tI) (fun c p r hc => by
  simp only[Bool.and_eq_true] at hc
  exact rfst_call c p r hc.1.1.1 hc.1.1.2 hc.1.2 hc.2) h) rfl) saids_nil)
noncomputable def N4:Env:=N3.say (under (xOf LR))
theorem en4:EnvOK Tryz.prog N4:=en3.say _
theorem nn4:NameOK N4:=nn3.say _
theorem xn4:ExtOK Tryz.prog N4:=xn3.sayL LR_ok
theorem N4sy:N4.sy=true:=rfl
noncomputable def V4 (l:List Nat):Sy:=(V3 []).on LR l
theorem V4_ok (l:List Nat):(V4 l).ok N4:=Sy.on_ok (V3_ok _)
end Go.Proofs.YtgaoajmlckgdaaaGreatDoor


set_option maxRecDepth 100000
namespace Go.Proofs.YtgaoajmlckgdaaaGreatDoor
open Go Go.Eng
noncomputable def radiI0 (c:tChart.den) (px py:Int) (x2:Int) (x3:Int) (x28:Nat):Cfg:=⟨.ex (pcOf N4 76 [0,0,0,1,1]) ⟨(tmOf 26 [(0,(.int .i64 (5000))),(1,(.fn 75 [] [(.ptr 0 0),(.ptr 1 0)])),(4,(.int .i64 (0))),(5,(.int .i64 x2)),(6,(.int .i64 x3)),(8,(.int .i64 (5000)))]),(hpOf 6 [(0,(.cells false [(.vs tMark (c.1.1) (c.1.2)),(.vs tSand (c.2.1.1) (c.2.1.2))])),(1,(.cells false [(.int .i64 (px)),(.int .i64 (py))])),(2,(.cells false [(.vs tMark (c.1.1) (c.1.2)),(.vs tSand (c.2.1.1) (c.2.1.2))])),(3,(.cells false [(.int .i64 (px)),(.int .i64 (py))])),(4,(.cells false [(.vs tMark (c.1.1) (c.1.2)),(.vs tSand (c.2.1.1) (c.2.1.2))])),(5,(.cells true [(.int .i64 (px)),(.int .i64 (py))]))]),[],[],26,false⟩,⟨11,[]⟩,[(.lop (pcOf N4 76 [0,0,0,1,1]) 6 (tmOf 26 [(0,(.int .i64 (5000))),(1,(.fn 75 [] [(.ptr 0 0),(.ptr 1 0)])),(4,(.int .i64 (0))),(5,(.int .i64 (0))),(6,(.int .i64 (5000))),(8,(.int .i64 (5000)))]) x28),(.blk 0),(.seq (pcOf N4 76 [1,1,1])),(.cal [(.tmp 4)] (.op (pcOf N4 28 [0,1,1,1]) 2 (some 16) ((opsOf (pcOf N4 28 [0,1,1,1]).c).toList.drop 2) (tmOf 17 [(0,(.agg [(.vs tMark (c.1.1) (c.1.2)),(.vs tSand (c.2.1.1) (c.2.1.2))])),(1,(.agg [(.int .i64 (px)),(.int .i64 (py))])),(2,(.ptr 0 0)),(3,(.ptr 1 0)),(4,(.int .i64 (0))),(5,(.int .i64 (0))),(6,(.int .i64 (0))),(7,(.fn 75 [] [(.ptr 0 0),(.ptr 1 0)])),(8,(.agg [(.vs tMark (c.1.1) (c.1.2)),(.vs tSand (c.2.1.1) (c.2.1.2))])),(9,(.agg [(.int .i64 (px)),(.int .i64 (py))])),(10,(.int .i64 (0))),(11,(.int .i64 (0))),(12,(.bool (false))),(14,(.fn 75 [] [(.ptr 0 0),(.ptr 1 0)])),(15,(.fn 75 [] [(.ptr 0 0),(.ptr 1 0)]))]) [] 17 false ⟨12,[]⟩)),(.seq (pcOf N4 28 [1,1,1,1])),(.cal [(.tmp 4),(.tmp 5)] .top)]⟩
noncomputable def radiI1 (c:tChart.den) (px py:Int) (x26:Nat):Cfg:=⟨.ex (pcOf N4 76 [0,0,0,1,1]) ⟨(tmOf 26 [(0,(.int .i64 (5000))),(1,(.fn 75 [] [(.ptr 0 0),(.ptr 1 0)])),(4,(.int .i64 (0))),(5,(.int .i64 (0))),(6,(.int .i64 (5000))),(8,(.int .i64 (5000)))]),(hpOf 5 [(0,(.cells false [(.vs tMark (c.1.1) (c.1.2)),(.vs tSand (c.2.1.1) (c.2.1.2))])),(1,(.cells false [(.int .i64 (px)),(.int .i64 (py))])),(2,(.cells false [(.vs tMark (c.1.1) (c.1.2)),(.vs tSand (c.2.1.1) (c.2.1.2))])),(3,(.cells false [(.int .i64 (px)),(.int .i64 (py))])),(4,(.cells false [(.vs tMark (c.1.1) (c.1.2)),(.vs tSand (c.2.1.1) (c.2.1.2))]))]),[],[],26,false⟩,⟨11,[]⟩,[(.lop (pcOf N4 76 [0,0,0,1,1]) 5 (tmOf 26 [(0,(.int .i64 (5000))),(1,(.fn 75 [] [(.ptr 0 0),(.ptr 1 0)])),(4,(.int .i64 (0))),(5,(.int .i64 (0))),(6,(.int .i64 (5000))),(8,(.int .i64 (5000)))]) x26),(.blk 0),(.seq (pcOf N4 76 [1,1,1])),(.cal [(.tmp 4)] (.op (pcOf N4 28 [0,1,1,1]) 2 (some 16) ((opsOf (pcOf N4 28 [0,1,1,1]).c).toList.drop 2) (tmOf 17 [(0,(.agg [(.vs tMark (c.1.1) (c.1.2)),(.vs tSand (c.2.1.1) (c.2.1.2))])),(1,(.agg [(.int .i64 (px)),(.int .i64 (py))])),(2,(.ptr 0 0)),(3,(.ptr 1 0)),(4,(.int .i64 (0))),(5,(.int .i64 (0))),(6,(.int .i64 ((chkS c).2.2))),(7,(.fn 75 [] [(.ptr 0 0),(.ptr 1 0)])),(8,(.agg [(.vs tMark (c.1.1) (c.1.2)),(.vs tSand (c.2.1.1) (c.2.1.2))])),(9,(.agg [(.int .i64 (px)),(.int .i64 (py))])),(10,(.int .i64 ((chkS c).2.2))),(11,(.int .i64 ((chkS c).2.2))),(12,(.bool (false))),(14,(.fn 75 [] [(.ptr 0 0),(.ptr 1 0)])),(15,(.fn 75 [] [(.ptr 0 0),(.ptr 1 0)]))]) [] 17 false ⟨12,[]⟩)),(.seq (pcOf N4 28 [1,1,1,1])),(.cal [(.tmp 4),(.tmp 5)] .top)]⟩
theorem radi_start (c:tChart.den) (px py:Int):adv N4 (V4 [28,76]) 3000 (startC N4 28 [tChart.av c,.agg [.int .i64 px,.int .i64 py]] 12)=(bif !ieq (chkS c).2.2 0 then (bif !ieq (chkS c).2.2 0 then some (.done (.tup [(.int .i64 (0)),(.int .i64 ((chkS c).2.2))])) else some (.stop (radiI1 c px py (1048575)))) else (bif !ile (-10000) px then some (.done (.tup [(.int .i64 (0)),(.int .i64 (7))])) else (bif !ile px 10000 then some (.done (.tup [(.int .i64 (0)),(.int .i64 (7))])) else (bif !ile (-10000) py then some (.done (.tup [(.int .i64 (0)),(.int .i64 (7))])) else (bif !ile py 10000 then some (.done (.tup [(.int .i64 (0)),(.int .i64 (7))])) else some (.stop (radiI0 c px py (0) (5000) (1048575)))))))):=by kernel_rfl
theorem radi_step0 (c:tChart.den) (px py:Int) (x2:Int) (x3:Int) (x28:Nat):adv N4 (V4 [28,76]) 3000 (radiI0 c px py x2 x3 (x28+1))=(let z1:=(wr .i64 (wr .i64 ((wr IntKind.u64 (wr .i64 (x2+x3))).fdiv (2 ^ min (Int.toNat 1) IntKind.u64.bits))+1));(bif !ile x3 x2 then (bif sC c.2.1.2&&in10 px&&in10 py&&inr z1 then (bif !(firS c.2.1.2 px py z1).2.2.2 then some (.stop (radiI0 c px py z1 (x3) (x28))) else some (.stop (radiI0 c px py (x2) (wr .i64 ((wr IntKind.u64 (wr .i64 (x2+x3))).fdiv (2 ^ min (Int.toNat 1) IntKind.u64.bits))) (x28)))) else none) else some (.done (.tup [(.int .i64 (x2)),(.int .i64 (0))])))):=by kernel_rfl
theorem valid_sC {c:tChart.den} (h:(chkS c).2.2=0):sC c.2.1.2=true:=by
 obtain⟨a,b⟩:=valid_sands h
 unfold sC
 rw[b,Nat.ble_eq_true_of_le a];rfl
theorem sq_mono {a b:Int} (h1:0≤a) (h2:a≤b):a * a≤b * b:=Int.mul_le_mul h2 h2 h1 (by omega)
theorem near_mono {ax ay vx vy r s:Int} (h1:0≤r) (h2:r≤s) (h:nearI ax ay vx vy r=true):nearI ax ay vx vy s=true:=by
 have sq:∀ a:Int,0≤a * a:=fun a=>by
  by_cases h:0≤a
  · exact Int.mul_nonneg h h
  · rw[← Int.neg_mul_neg];exact Int.mul_nonneg (by omega) (by omega)
 have k:=sq_mono h1 h2
 have k2:r * r * (ax * ax+ay * ay)≤s * s * (ax * ax+ay * ay):=Int.mul_le_mul_of_nonneg_right k (Int.add_nonneg (sq _) (sq _))
 have key:∀ {a b z:Int},a≤b→(!ile a z)=true→(!ile b z)=true:=fun {a b z} hab hz=>by
  rw[ile_iff] at hz⊢
  rw[Bool.not_eq_true',decide_eq_false_iff_not] at hz⊢
  omega
 unfold nearI at h⊢
 cases e1:ile (ax * vx+ay * vy) 0 with
 |true=>rw[e1,cond_true] at h;rw[cond_true];exact key k h
 |false=>
  rw[e1,cond_false] at h;rw[cond_false]
  cases e2:ile (ax * ax+ay * ay) (ax * vx+ay * vy) with
  |true=>rw[e2,cond_true] at h;rw[cond_true];exact key k h
  |false=>rw[e2,cond_false] at h;rw[cond_false];exact key k2 h
theorem sidF_mono {C:List tP.den} {dx dy r s:Int} (h1:0≤r) (h2:r≤s):∀ (n k:Nat),sidF C dx dy r k n=true→sidF C dx dy s k n=true
 |0,_,h=>h
 | n + 1, k, h => by
  rw[sidF] at h⊢
  cases e:nearI (sA C k) (sB C k) (dx-gx C k) (dy-gy C k) s with
  |true=>rfl
  |false=>
   cases e2:nearI (sA C k) (sB C k) (dx-gx C k) (dy-gy C k) r with
   |true=>rw[near_mono h1 h2 e2] at e;exact absurd e (by decide)
   |false=>rw[e2,cond_false] at h;rw[cond_false];exact sidF_mono h1 h2 n (k+1) h
theorem incF_mono {C:List tP.den} {dx dy r s:Int} (h1:0≤r) (h2:r≤s) (h:incF C dx dy r=true):incF C dx dy s=true:=by
 unfold incF at h⊢
 rw[Bool.or_eq_true] at h⊢
 exact h.imp (sidF_mono h1 h2 _ _) id
theorem fmY_mono {C:List tP.den} {fx fy r s x:Int} (h1:0≤r) (h2:r≤s):∀ (n:Nat) (y:Int),(fmY C fx fy r x y n).2.2=true→(fmY C fx fy s x y n).2.2=true
 |0,_,h=>h
 | n + 1, y, h => by
  rw[fmY] at h⊢
  cases e:incF C (fx-x) (fy-y) s with
  |true=>rfl
  |false=>
   cases e2:incF C (fx-x) (fy-y) r with
   |true=>rw[incF_mono h1 h2 e2] at e;exact absurd e (by decide)
   |false=>rw[e2,cond_false] at h;rw[cond_false];exact fmY_mono h1 h2 n (y+1) h
theorem fmX_mono {C:List tP.den} {fx fy r s y0:Int} {ny:Nat} (h1:0≤r) (h2:r≤s):∀ (n:Nat) (x:Int),(fmX C fx fy r y0 ny x n).2.2=true→(fmX C fx fy s y0 ny x n).2.2=true
 |0,_,h=>h
 | n + 1, x, h => by
  rw[fmX] at h⊢
  cases e:(fmY C fx fy s x y0 ny).2.2 with
  |true=>rw[cond_true];exact e
  |false=>
   cases e2:(fmY C fx fy r x y0 ny).2.2 with
   |true=>rw[fmY_mono h1 h2 ny y0 e2] at e;exact absurd e (by decide)
   |false=>rw[e2,cond_false] at h;rw[cond_false];exact fmX_mono h1 h2 n (x+1) h
theorem fmP_mono {s:tSand.den} {px py r q:Int} (h1:0≤r) (h2:r≤q) (h:(fmP s px py r).2.2=true):(fmP s px py q).2.2=true:=fmX_mono h1 h2 _ _ h
theorem firF_mono {S:List tSand.den} {px py r q:Int} (h1:0≤r) (h2:r≤q):∀ (n k:Nat),(firF S px py r k n).2.2.2=true→(firF S px py q k n).2.2.2=true
 |0,_,h=>h
 | n + 1, k, h => by
  rw[firF] at h⊢
  cases e:(fmP (S.getD k tSand.dflt) px py q).2.2 with
  |true=>rfl
  |false=>
   cases e2:(fmP (S.getD k tSand.dflt) px py r).2.2 with
   |true=>rw[fmP_mono h1 h2 e2] at e;exact absurd e (by decide)
   |false=>rw[e2,cond_false] at h;rw[cond_false];exact firF_mono h1 h2 n (k+1) h
noncomputable def hitR (S:List tSand.den) (px py r:Int):Bool:=(firS S px py r).2.2.2
theorem hitR_mono {S:List tSand.den} {px py r q:Int} (h1:0≤r) (h2:r≤q) (h:hitR S px py r=true):hitR S px py q=true:=by
 unfold hitR firS at h⊢
 cases e:ieq r 0 with
 |true=>rw[e,cond_true] at h;exact absurd h (by decide)
 |false=>
  have e1:=ieq_f' e
  have e2:ieq q 0=false:=by rw[ieq_iff];exact decide_eq_false (by omega)
  rw[e,cond_false] at h
  rw[e2,cond_false]
  exact firF_mono h1 h2 _ _ h
noncomputable def upR (P:Int→Bool):Int→Nat→Int
 |r,0=>r
 |r,n+1=>bif P (r+1) then r else upR P (r+1) n
theorem upR_is {P:Int→Bool} (mono:∀ r q,0≤r→r≤q→P r=true→P q=true):∀ (n:Nat) (r:Int),0≤r→P r=false→(r≤upR P r n∧upR P r n≤r+n)∧∀ x,0≤x→x≤r+n→(P x=true↔upR P r n<x)
 |0,r,h0,hr=>by
  rw[upR]
  refine⟨by omega,fun x hx hx2=>⟨fun h=>?_,fun h=>by omega⟩⟩
  have:=mono x r hx (by omega) h
  rw[hr] at this;exact absurd this (by decide)
 | n + 1, r, h0, hr => by
  rw[upR]
  cases e:P (r+1) with
  |true=>
   rw[cond_true]
   refine⟨by omega,fun x hx hx2=>⟨fun h=>?_,fun h=>mono (r+1) x (by omega) (by omega) e⟩⟩
   by_cases hlt:r<x
   · exact hlt
   · have := mono x r hx (by omega) h
     rw[hr] at this;exact absurd this (by decide)
  |false=>
   rw[cond_false]
   obtain⟨a,b⟩:=upR_is mono n (r+1) (by omega) e
   exact⟨by omega,fun x hx hx2=>b x hx (by omega)⟩
noncomputable def topR (S:List tSand.den) (px py:Int):Int:=upR (hitR S px py) 0 5000
theorem topR_is (S:List tSand.den) (px py:Int):(0≤topR S px py∧topR S px py≤5000)∧∀ x,0≤x→x≤5000→(hitR S px py x=true↔topR S px py<x):=by
 have:=upR_is (P:=hitR S px py) (fun r q a b c=>hitR_mono a b c) 5000 0 (by omega) rfl
 unfold topR
 exact⟨by omega,fun x hx hx2=>this.2 x hx (by omega)⟩
theorem shr1 {x:Int} (h0:0≤x) (h1:x≤20000):wr .i64 ((wr .u64 (wr .i64 x)).fdiv (2 ^ min (Int.toNat 1) IntKind.u64.bits))=x / 2:=by
 have e0:wr .i64 x=x:=wr_in (by omega) (by omega)
 have e:wr .u64 x=x:=by
  rw[wr_eq]
  show x % (2 ^ 64:Int)=x
  exact Int.emod_eq_of_lt h0 (by omega)
 rw[e0,e]
 have e2:(2:Int) ^ min (Int.toNat 1) IntKind.u64.bits=2:=by decide
 rw[e2,Int.fdiv_eq_ediv_of_nonneg _ (by omega),wr_in (by omega) (by omega)]
theorem radi_ans (c:tChart.den) (px py:Int) (S:List tSand.den) (hS:c.2.1.2=S) (hs:sC S=true) (h1:in10 px=true) (h2:in10 py=true) :
  ∀ (n m:Nat) (lo hi:Int),hi-lo≤n→n<m→0≤lo→hi≤5000→lo≤topR S px py→topR S px py≤hi→Ans N4 (radiI0 c px py lo hi m) (.tup [.int .i64 (topR S px py),.int .i64 0])
 | n, m + 1, lo, hi, hd, hm, h0, h5, a, b => by
  have h:=radi_step0 c px py lo hi m
  obtain⟨⟨t0,t1⟩,t2⟩:=topR_is S px py
  by_cases hlt:lo<hi
  · have e1 : ile hi lo = false := by rw [ile_iff]; exact decide_eq_false (by omega)
    have w1:wr .i64 ((lo+hi) / 2+1)=(lo+hi) / 2+1:=wr_in (by omega) (by omega)
    have hr:inr ((lo+hi) / 2+1)=true:=by rw[inr_iff];omega
    have t:=t2 ((lo+hi) / 2+1) (by omega) (by omega)
    have hp:(firS S px py ((lo+hi) / 2+1)).2.2.2=hitR S px py ((lo+hi) / 2+1):=rfl
    rw[shr1 (x:=lo+hi) (by omega) (by omega)] at h
    simp only[hS,e1,w1,hs,h1,h2,hr,hp,Bool.and_self,Bool.not_false,cond_true] at h
    cases n with
    |zero=>omega
    | succ n =>
     cases e:hitR S px py ((lo+hi) / 2+1) with
     |true=>
      simp only[e,Bool.not_true,cond_false] at h
      have:=t.1 e
      exact .stop (V4_ok _) N4sy h (radi_ans c px py S hS hs h1 h2 n m lo _ (by omega) (by omega) h0 (by omega) a (by omega))
     |false=>
      simp only[e,Bool.not_false,cond_true] at h
      have:¬ topR S px py<(lo+hi) / 2+1:=fun hx=>by rw[t.2 hx] at e;exact absurd e (by decide)
      exact .stop (V4_ok _) N4sy h (radi_ans c px py S hS hs h1 h2 n m _ hi (by omega) (by omega) (by omega) h5 (by omega) b)
  · have e1 : ile hi lo = true := by rw [ile_iff]; exact decide_eq_true (by omega)
    simp only[e1,Bool.not_true,cond_false] at h
    have:lo=topR S px py:=by omega
    exact .done (V4_ok _) N4sy h (by rw[this])
noncomputable def radS (c:tChart.den) (px py:Int):Int×Int:=bif ieq (chkS c).2.2 0 then (bif in10 px&&in10 py then (topR c.2.1.2 px py,0) else (0,7)) else (0,(chkS c).2.2)
theorem radi_call (c:tChart.den) (p:tP.den):AnsF N4 28 [tChart.av c,tP.av p] (.tup [.int .i64 (radS c p.1 p.2.1).1,.int .i64 (radS c p.1 p.2.1).2]):=by
 refine Ans.call (n:=12) (ext_none (by kernel_rfl)) (hasB_spec (by kernel_rfl)) ?_
 have h:=radi_start c p.1 p.2.1
 obtain⟨px,e1⟩:∃ x:Int,p.1=x:=⟨_,rfl⟩
 obtain⟨py,e2⟩:∃ x:Int,p.2.1=x:=⟨_,rfl⟩
 have hav:startC N4 28 [tChart.av c,tP.av p] 12=startC N4 28 [tChart.av c,.agg [.int .i64 p.1,.int .i64 p.2.1]] 12:=rfl
 rw[hav]
 rw[e1,e2] at h⊢
 unfold radS in10
 cases c1:ieq (chkS c).2.2 0 with
 |false=>
  simp only[c1,Bool.not_false,cond_true,cond_false] at h⊢
  exact .done (V4_ok _) N4sy h rfl
 | true =>
  have hs:=valid_sC (ieq_t' c1)
  cases d1:ile (-10000) px<;>cases d2:ile px 10000<;>cases d3:ile (-10000) py<;>cases d4:ile py 10000 <;>
   try (simp only[c1,d1,d2,d3,d4,Bool.not_false,Bool.not_true,Bool.and_self,Bool.and_true,Bool.and_false,Bool.false_and,cond_true,cond_false] at h⊢;exact .done (V4_ok _) N4sy h rfl)
  have h1:in10 px=true:=by unfold in10;rw[d1,d2];rfl
  have h2:in10 py=true:=by unfold in10;rw[d3,d4];rfl
  obtain⟨⟨t0,t1⟩,t2⟩:=topR_is c.2.1.2 px py
  simp only[c1,d1,d2,d3,d4,Bool.not_true,Bool.and_self,cond_true,cond_false] at h⊢
  exact .stop (V4_ok _) N4sy h (radi_ans c px py _ rfl hs h1 h2 5000 1048575 0 5000 (by omega) (by omega) (by omega) (by omega) t0 t1)
end Go.Proofs.YtgaoajmlckgdaaaGreatDoor


set_option maxRecDepth 100000
namespace Go.Proofs.YtgaoajmlckgdaaaGreatDoor
open Go Go.Eng
theorem fmY_is {C:List tP.den} {fx fy r x:Int}:∀ (n:Nat) (y:Int),
  ((fmY C fx fy r x y n).2.2=true→∃ v,fmY C fx fy r x y n=(x,v,true)∧(y≤v∧v<y+n)∧incF C (fx-x) (fy-v) r=true∧∀ w,y≤w→w<v→incF C (fx-x) (fy-w) r=false) ∧
  ((fmY C fx fy r x y n).2.2=false→∀ w,y≤w→w<y+n→incF C (fx-x) (fy-w) r=false)
 |0,y=>⟨fun h=>absurd h (by rw[fmY];decide),fun _ w a b=>by omega⟩
 | n + 1, y => by
  obtain⟨i1,i2⟩:=fmY_is (C:=C) (fx:=fx) (fy:=fy) (r:=r) (x:=x) n (y+1)
  rw[fmY]
  cases e:incF C (fx-x) (fy-y) r with
  |true=>
   rw[cond_true]
   exact⟨fun _=>⟨y,rfl,by omega,e,fun w a b=>by omega⟩,fun h=>Bool.noConfusion h⟩
  |false=>
   rw[cond_false]
   refine⟨fun h=>?_,fun h w a b=>?_⟩
   · obtain ⟨v, h1, h2, h3, h4⟩ := i1 h
     refine⟨v,h1,by omega,h3,fun w a b=>?_⟩
     by_cases hw:w=y
     · rw[hw];exact e
     · exact h4 w (by omega) b
   · by_cases hw : w = y
     · rw[hw];exact e
     · exact i2 h w (by omega) (by omega)
theorem fmX_is {C:List tP.den} {fx fy r y0:Int} {ny:Nat}:∀ (n:Nat) (x:Int),
  ((fmX C fx fy r y0 ny x n).2.2 = true → ∃ u v, fmX C fx fy r y0 ny x n = (u, v, true) ∧ (x ≤ u ∧ u < x + n) ∧ (y0 ≤ v ∧ v < y0 + ny) ∧ incF C (fx - u) (fy - v) r = true ∧
   ∀ a b,x≤a→(y0≤b∧b<y0+ny)→(a<u∨(a=u∧b<v))→incF C (fx-a) (fy-b) r=false) ∧
  ((fmX C fx fy r y0 ny x n).2.2=false→∀ a b,(x≤a∧a<x+n)→(y0≤b∧b<y0+ny)→incF C (fx-a) (fy-b) r=false)
 |0,x=>⟨fun h=>absurd h (by rw[fmX];decide),fun _ a b h1 h2=>by omega⟩
 | n + 1, x => by
  obtain⟨i1,i2⟩:=fmX_is (C:=C) (fx:=fx) (fy:=fy) (r:=r) (y0:=y0) (ny:=ny) n (x+1)
  obtain⟨j1,j2⟩:=fmY_is (C:=C) (fx:=fx) (fy:=fy) (r:=r) (x:=x) ny y0
  rw[fmX]
  cases e:(fmY C fx fy r x y0 ny).2.2 with
  |true=>
   rw[cond_true]
   obtain⟨v,h1,h2,h3,h4⟩:=j1 e
   refine⟨fun _=>⟨x,v,h1,by omega,h2,h3,fun a b h5 h6 h7=>?_⟩,fun h=>absurd (e.symm.trans h) (by decide)⟩
   have:a=x:=by omega
   rw[this];exact h4 b h6.1 (by omega)
  |false=>
   rw[cond_false]
   refine⟨fun h=>?_,fun h a b h1 h2=>?_⟩
   · obtain ⟨u, v, h1, h2, h3, h4, h5⟩ := i1 h
     refine⟨u,v,h1,by omega,h3,h4,fun a b h6 h7 h8=>?_⟩
     by_cases ha:a=x
     · rw[ha];exact j2 e b h7.1 h7.2
     · exact h5 a b (by omega) h7 h8
   · by_cases ha : a = x
     · rw[ha];exact j2 e b h2.1 h2.2
     · exact i2 h a b (by omega) h2
theorem fmP_is {s:tSand.den} {x0 x1 y0 y1 px py r:Int} (e0:s.2.2.1.1.1=x0) (e1:s.2.2.1.1.2.1=x1) (e2:s.2.2.1.2.1.1=y0) (e3:s.2.2.1.2.1.2.1=y1) (hg:goodS s=true) :
  ((fmP s px py r).2.2 = true → ∃ u v, fmP s px py r = (u, v, true) ∧ (x0 ≤ u ∧ u ≤ x1) ∧ (y0 ≤ v ∧ v ≤ y1) ∧ incF s.2.1.2 (px - u) (py - v) r = true ∧
   ∀ a b:Int,x0≤a→(y0≤b∧b≤y1)→(a<u∨(a=u∧b<v))→incF s.2.1.2 (px-a) (py-b) r=false) ∧
  ((fmP s px py r).2.2=false→∀ a b:Int,(x0≤a∧a≤x1)→(y0≤b∧b≤y1)→incF s.2.1.2 (px-a) (py-b) r=false):=by
 obtain⟨_,_,g6,g7⟩:=goodS_iff e0 e1 e2 e3 hg
 have hp:fmP s px py r=fmX s.2.1.2 px py r y0 (y1-y0+1).toNat x0 (x1-x0+1).toNat:=by
  unfold fmP fmS
  show fmX s.2.1.2 px py r s.2.2.1.2.1.1 (s.2.2.1.2.1.2.1-s.2.2.1.2.1.1+1).toNat s.2.2.1.1.1 (s.2.2.1.1.2.1-s.2.2.1.1.1+1).toNat=_
  rw[e0,e1,e2,e3]
 rw[hp]
 obtain⟨i1,i2⟩:=fmX_is (C:=s.2.1.2) (fx:=px) (fy:=py) (r:=r) (y0:=y0) (ny:=(y1-y0+1).toNat) (x1-x0+1).toNat x0
 refine⟨fun h=>?_,fun h a b h1 h2=>i2 h a b (by omega) (by omega)⟩
 obtain⟨u,v,h1,h2,h3,h4,h5⟩:=i1 h
 exact⟨u,v,h1,by omega,by omega,h4,fun a b h6 h7 h8=>h5 a b h6 (by omega) h8⟩
theorem firF_is {S:List tSand.den} {px py r:Int}:∀ (n k:Nat),
  ((firF S px py r k n).2.2.2 = true → ∃ j : Nat, (k ≤ j ∧ j < k + n) ∧ firF S px py r k n = ((j : Int), (fmP (S.getD j tSand.dflt) px py r).1, (fmP (S.getD j tSand.dflt) px py r).2.1, true) ∧ (fmP (S.getD j tSand.dflt) px py r).2.2 = true ∧
   ∀ i:Nat,k≤i→i<j→(fmP (S.getD i tSand.dflt) px py r).2.2=false) ∧
  ((firF S px py r k n).2.2.2=false→∀ i:Nat,k≤i→i<k+n→(fmP (S.getD i tSand.dflt) px py r).2.2=false)
 |0,k=>⟨fun h=>absurd h (by rw[firF];decide),fun _ i a b=>by omega⟩
 | n + 1, k => by
  obtain⟨i1,i2⟩:=firF_is (S:=S) (px:=px) (py:=py) (r:=r) n (k+1)
  rw[firF]
  cases e:(fmP (S.getD k tSand.dflt) px py r).2.2 with
  |true=>
   rw[cond_true]
   exact⟨fun _=>⟨k,by omega,rfl,e,fun i a b=>by omega⟩,fun h=>Bool.noConfusion h⟩
  |false=>
   rw[cond_false]
   refine⟨fun h=>?_,fun h i a b=>?_⟩
   · obtain ⟨j, h1, h2, h3, h4⟩ := i1 h
     refine⟨j,by omega,h2,h3,fun i a b=>?_⟩
     by_cases hi:i=k
     · rw[hi];exact e
     · exact h4 i (by omega) b
   · by_cases hi : i = k
     · rw[hi];exact e
     · exact i2 h i (by omega) (by omega)
theorem clear_all {S:List tSand.den} {px py r:Int} (hr:0<r) (h:hitR S px py r=false) {i:Nat} (hi:i<S.length) (hg:goodS (S.getD i tSand.dflt)=true) {a b:Int}
  (h1:(S.getD i tSand.dflt).2.2.1.1.1≤a∧a≤(S.getD i tSand.dflt).2.2.1.1.2.1) (h2:(S.getD i tSand.dflt).2.2.1.2.1.1≤b∧b≤(S.getD i tSand.dflt).2.2.1.2.1.2.1):incF (S.getD i tSand.dflt).2.1.2 (px-a) (py-b) r=false:=by
 unfold hitR firS at h
 have e:ieq r 0=false:=by rw[ieq_iff];exact decide_eq_false (by omega)
 rw[e,cond_false] at h
 exact (fmP_is rfl rfl rfl rfl hg).2 ((firF_is S.length 0).2 h i (by omega) (by omega)) a b h1 h2
end Go.Proofs.YtgaoajmlckgdaaaGreatDoor


set_option maxRecDepth 100000
namespace Go.Proofs.YtgaoajmlckgdaaaGreatDoor
open Go Go.Eng
theorem vali_start (c:tChart.den):adv H2 (Y2 []) 3000 (startC H2 43 [tChart.av c] 6)=some (.done (.bool (ieq (chkS c).2.2 0))):=by kernel_rfl
noncomputable def haslI0 (a:(Ty.sl tI).den) (n:Int) (x4:Int) (x10:Nat):Cfg:=⟨.ex (pcOf H2 48 [0,0,1,0,1]) ⟨(tmOf 18 [(0,(.vs tI (a.1) (a.2))),(1,(.int .i64 (n))),(4,(.bool (false))),(5,(.int .i64 x4))]),(hpOf 0 []),[],[],18,false⟩,⟨6,[]⟩,[(.lop (pcOf H2 48 [0,0,1,0,1]) 0 (tmOf 18 [(0,(.vs tI (a.1) (a.2))),(1,(.int .i64 (n))),(4,(.bool (false))),(5,(.int .i64 (0)))]) x10),(.blk 0),(.seq (pcOf H2 48 [1,1])),(.cal [(.tmp 4)] .top)]⟩
theorem hasl_start (a:(Ty.sl tI).den) (n:Int):adv H2 (Y2 [48]) 3000 (startC H2 48 [.vs tI a.1 a.2,.int .i64 n] 6)=some (.stop (haslI0 a n (0) (1048575))):=by kernel_rfl
theorem hasl_step0 (a:(Ty.sl tI).den) (n:Int) (x4:Int) (x10:Nat):adv H2 (Y2 [48]) 3000 (haslI0 a n x4 (x10+1))=(bif !ile (↑a.2.length) x4 then (bif inB x4 a.2.length then (bif ieq (a.2.getD x4.toNat tI.dflt) n then some (.done (.bool (true))) else some (.stop (haslI0 a n (wr .i64 (x4+1)) (x10)))) else none) else some (.done (.bool (false)))):=by kernel_rfl
theorem amng_start (lo hi n:Int):adv H2 (Y2 []) 3000 (startC H2 57 [.agg [.int .i64 lo,.int .i64 hi],.int .i64 n] 6)=(bif ieq (wr .i64 (wr .i64 (hi-lo)+1)) 0 then none else some (.done (.int .i64 (wr .i64 (lo+n.tmod (wr .i64 (wr .i64 (hi-lo)+1))))))):=by kernel_rfl
theorem turn_start (l:(Ty.sl (.int .u16)).den) (n:Int):adv H2 (Y2 []) 3000 (startC H2 49 [.vs (.int .u16) l.1 l.2,.int .i64 n] 6)=(bif ieq (↑l.2.length) 0 then some (.done (.int .i64 (0))) else (bif ieq (↑l.2.length) 0 then none else (bif inB (n.tmod ↑l.2.length) l.2.length then some (.done (.int .i64 (wr .i64 (l.2.getD (n.tmod ↑l.2.length).toNat (Ty.int IntKind.u16).dflt)))) else none))):=by kernel_rfl
noncomputable def hasS:List tI.den→Int→Bool
 |[],_=>false
 |x::l,n=>bif ieq x n then true else hasS l n
theorem hasl_ans (a:(Ty.sl tI).den) (n:Int) (hl:a.2.length<1048576):∀ (r k m:Nat),k+r=a.2.length→r<m→Ans H2 (haslI0 a n k m) (.bool (hasS (a.2.drop k) n))
 |0,k,m+1,hk,hm=>by
  have h:=hasl_step0 a n k m
  simp only[ile_ge (show a.2.length≤k by omega),Bool.not_true,cond_false] at h
  rw[List.drop_eq_nil_of_le (by omega)]
  exact .doneB (Y2_ok _) H2sy h rfl
 |r+1,k,m+1,hk,hm=>by
  have h:=hasl_step0 a n k m
  have hlt:k<a.2.length:=by omega
  simp only[ile_lt hlt,inB_at hlt,getD_at hlt,wr_succ (show k<1048577 by omega),Bool.not_false,cond_true] at h
  rw[List.drop_eq_getElem_cons hlt,hasS]
  cases e:ieq (a.2[k]) n with
  |true=>simp only[e,cond_true] at h⊢;exact .doneB (Y2_ok _) H2sy h rfl
  |false=>simp only[e,cond_false] at h⊢;exact .stop (Y2_ok _) H2sy h (hasl_ans a n hl r (k+1) m (by omega) (by omega))
theorem hasl_call (a:(Ty.sl tI).den) (n:Int) (hl:a.2.length<1048575):AnsF H2 48 [.vs tI a.1 a.2,.int .i64 n] (.bool (hasS a.2 n)):=
 Ans.call (n:=6) (ext_none (by kernel_rfl)) (hasB_spec (by kernel_rfl)) (.stop (Y2_ok _) H2sy (hasl_start a n) (hasl_ans a n (by omega) a.2.length 0 1048575 (by omega) (by omega)))
theorem vali_call (c:tChart.den):AnsF H2 43 [tChart.av c] (.bool (ieq (chkS c).2.2 0)):=
 Ans.call (n:=6) (ext_none (by kernel_rfl)) (hasB_spec (by kernel_rfl)) (.doneB (Y2_ok _) H2sy (vali_start c) rfl)
noncomputable def amS (lo hi n:Int):Int:=lo+n % (hi-lo+1)
noncomputable def amC (lo hi n:Int):Bool:=ile (-100000) lo&&ile lo hi&&ile hi 100000&&(ile 0 n&&ile n 100000)
theorem amC_iff {lo hi n:Int}:amC lo hi n=true↔((-100000≤lo∧lo≤hi)∧hi≤100000)∧0≤n∧n≤100000:=by
 simp only[amC,Bool.and_eq_true,ile_iff,decide_eq_true_eq]
theorem amng_call (s:tP.den) (n:Int) (hc:amC s.1 s.2.1 n=true):AnsF H2 57 [tP.av s,.int .i64 n] (.int .i64 (amS s.1 s.2.1 n)):=by
 refine Ans.call (n:=6) (ext_none (by kernel_rfl)) (hasB_spec (by kernel_rfl)) ?_
 obtain⟨lo,hlo⟩:∃ x:Int,s.1=x:=⟨_,rfl⟩
 obtain⟨hi,hhi⟩:∃ x:Int,s.2.1=x:=⟨_,rfl⟩
 have h:=amng_start s.1 s.2.1 n
 rw[hlo,hhi] at hc⊢
 rw[hlo,hhi] at h
 rw[amC_iff] at hc
 have e1:wr .i64 (wr .i64 (hi-lo)+1)=hi-lo+1:=by rw[wr_in (n:=hi-lo) (by omega) (by omega),wr_in (by omega) (by omega)]
 have e0:ieq (hi-lo+1) 0=false:=by rw[ieq_iff];simp;omega
 have e2:n.tmod (hi-lo+1)=n % (hi-lo+1):=Int.tmod_eq_emod_of_nonneg (by omega)
 have h1:=Int.emod_nonneg n (show hi-lo+1≠0 by omega)
 have h2:=Int.emod_lt_of_pos n (show 0<hi-lo+1 by omega)
 simp only[e1,e0,e2,cond_false] at h
 rw[wr_in (by omega) (by omega)] at h
 subst hlo;subst hhi
 exact .doneI (S:=Y2 []) (Y2_ok _) H2sy (n:=3000) h rfl
noncomputable def u16 (l:List Int):Bool:=l.all fun x=>ile 0 x&&ile x 65535
noncomputable def turnS (l:List Int) (n:Int):Int:=bif ieq (l.length:Int) 0 then 0 else l.getD (n % (l.length:Int)).toNat 0
theorem turnS_b {l:List Int} (h:u16 l=true) (n:Int):0≤turnS l n∧turnS l n≤65535:=by
 unfold turnS
 cases ieq (l.length:Int) 0 with
 |true=>simp only[cond_true];omega
 | false =>
  simp only[cond_false]
  rw[List.getD_eq_getElem?_getD]
  cases e:l[(n % (l.length:Int)).toNat]? with
  |none=>simp
  |some x=>
   have hm:=List.mem_of_getElem? e
   have:=List.all_eq_true.1 h x hm
   simp only[Bool.and_eq_true,ile_iff,decide_eq_true_eq] at this
   exact this
theorem turn_call (l:(Ty.sl (.int .u16)).den) (n:Int) (hl:u16 l.2=true) (hn:ile 0 n=true):AnsF H2 49 [.vs (.int .u16) l.1 l.2,.int .i64 n] (.int .i64 (turnS l.2 n)):=by
 refine Ans.call (n:=6) (ext_none (by kernel_rfl)) (hasB_spec (by kernel_rfl)) ?_
 have h:=turn_start l n
 rw[ile_iff] at hn
 simp only[decide_eq_true_eq] at hn
 have hb:=turnS_b hl n
 unfold turnS at hb⊢
 have hll:l.2.length=List.length (α:=Int) l.2:=rfl
 cases c1:ieq (l.2.length:Int) 0 with
 |true=>
  simp only[c1,cond_true] at h⊢
  exact .doneI (Y2_ok _) H2sy h rfl
 |false=>
  have hne:=ieq_f' c1
  have e:n.tmod (l.2.length:Int)=n % (l.2.length:Int):=Int.tmod_eq_emod_of_nonneg hn
  have h1:=Int.emod_nonneg n hne
  have h2:=Int.emod_lt_of_pos n (show 0<(l.2.length:Int) by omega)
  have hin:inB (n % (l.2.length:Int)) l.2.length=true:=by rw[inB_iff];exact decide_eq_true ⟨h1,h2⟩
  simp only[c1,e,hin,cond_true,cond_false] at h hb⊢
  have hd:l.2.getD (n % (l.2.length:Int)).toNat (Ty.int IntKind.u16).dflt=l.2.getD (n % (l.2.length:Int)).toNat (0:Int):=rfl
  rw[hd,wr_in (by have:=hb.1;omega) (by have:=hb.2;omega)] at h
  exact .doneI (Y2_ok _) H2sy h rfl
noncomputable def LJ:List Said:=[(43,con1 tChart (fun _=>true) (fun c=>.bool (ieq (chkS c).2.2 0))),(48,con2 (.sl tI) tI (fun a _=>Nat.ble a.2.length 1000) (fun a n=>.bool (hasS a.2 n))),(57,con2 tP tI (fun s n=>amC s.1 s.2.1 n) (fun s n=>.int .i64 (amS s.1 s.2.1 n))),
 (49,con2 (.sl (.int .u16)) tI (fun l n=>u16 l.2&&ile 0 n) (fun l n=>.int .i64 (turnS l.2 n))),(23,con2 tChart tP (fun _ _=>true) (fun c p=>tupS (onS c p.1 p.2.1)))]
theorem LJ_ok:∀ e∈LJ,SaidG Tryz.prog H2.glob e:=
 saids_cons (SaidOK.g h2 xh2 nh2 tabs_ok.mix (fun _ _ h=>con1_spec (t:=tChart) (fun c _=>vali_call c) h) rfl)
 (saids_cons (SaidOK.g h2 xh2 nh2 tabs_ok.mix (fun _ _ h=>con2_spec (t:=.sl tI) (u:=tI) (fun a n hc=>hasl_call a n (by have:=Nat.le_of_ble_eq_true hc;omega)) h) rfl)
 (saids_cons (SaidOK.g h2 xh2 nh2 tabs_ok.mix (fun _ _ h=>con2_spec (t:=tP) (u:=tI) (fun s n hc=>amng_call s n hc) h) rfl)
 (saids_cons (SaidOK.g h2 xh2 nh2 tabs_ok.mix (fun _ _ h => con2_spec (t := .sl (.int .u16)) (u := tI) (fun l n hc => by
  rw[Bool.and_eq_true] at hc
  exact turn_call l n hc.1 hc.2) h) rfl)
 (saids_cons (SaidOK.g h2 xh2 nh2 tabs_ok.mix (fun _ _ h=>con2_spec (t:=tChart) (u:=tP) (fun c p _=>on_call c p.1 p.2.1) h) rfl) saids_nil))))
noncomputable def H3:Env:=H2.say (under (xOf LJ))
theorem h3:EnvOK Tryz.prog H3:=h2.say _
theorem nh3:NameOK H3:=nh2.say _
theorem xh3:ExtOK Tryz.prog H3:=xh2.sayL LJ_ok
theorem H3sy:H3.sy=true:=rfl
noncomputable def Y3 (l:List Nat):Sy:=(Y2 []).on LJ l
theorem Y3_ok (l:List Nat):(Y3 l).ok H3:=Sy.on_ok (Y2_ok _)
end Go.Proofs.YtgaoajmlckgdaaaGreatDoor


set_option maxRecDepth 100000
namespace Go.Proofs.YtgaoajmlckgdaaaGreatDoor
open Go Go.Eng
theorem lefO_start (a b:tP.den):adv E0 (hdOf []) 3000 (startC E0 109 [tP.av a,tP.av b] 3)=some (.done (.int .i64 (wr .i64 (wr .i64 (a.1 * b.2.1)-wr .i64 (a.2.1 * b.1))))):=by kernel_rfl
theorem ahea_start (a b:tP.den):adv E0 (hdOf []) 3000 (startC E0 144 [tP.av a,tP.av b] 3)=some (.done (.int .i64 (wr .i64 (wr .i64 (a.1 * b.1)+wr .i64 (a.2.1 * b.2.1))))):=by kernel_rfl
theorem squa_start (a:tP.den):adv E0 (hdOf []) 3000 (startC E0 145 [tP.av a] 3)=some (.done (.int .i64 (wr .i64 (wr .i64 (a.1 * a.1)+wr .i64 (a.2.1 * a.2.1))))):=by kernel_rfl
noncomputable def vecS (a b:tP.den):AV:=.agg [.int .i64 (wr .i64 (b.1-a.1)),.int .i64 (wr .i64 (b.2.1-a.2.1))]
noncomputable def lefS (a b:tP.den):AV:=.int .i64 (wr .i64 (wr .i64 (a.1 * b.2.1)-wr .i64 (a.2.1 * b.1)))
noncomputable def aheS (a b:tP.den):AV:=.int .i64 (wr .i64 (wr .i64 (a.1 * b.1)+wr .i64 (a.2.1 * b.2.1)))
theorem vec_call (a b:tP.den):AnsF E0 83 [tP.av a,tP.av b] (vecS a b):=
 Ans.call (n:=3) (E0ext _ _ (by kernel_rfl)) (hasB_spec (by kernel_rfl)) (.done (hdOf_ok _) E0sy (vecTo_start a b) rfl)
theorem lef_call (a b:tP.den):AnsF E0 109 [tP.av a,tP.av b] (lefS a b):=
 Ans.call (n:=3) (E0ext _ _ (by kernel_rfl)) (hasB_spec (by kernel_rfl)) (.doneI (hdOf_ok _) E0sy (lefO_start a b) rfl)
theorem ahe_call (a b:tP.den):AnsF E0 144 [tP.av a,tP.av b] (aheS a b):=
 Ans.call (n:=3) (E0ext _ _ (by kernel_rfl)) (hasB_spec (by kernel_rfl)) (.doneI (hdOf_ok _) E0sy (ahea_start a b) rfl)
theorem squ_call (a:tP.den):AnsF E0 145 [tP.av a] (aheS a a):=
 Ans.call (n:=3) (E0ext _ _ (by kernel_rfl)) (hasB_spec (by kernel_rfl)) (.doneI (hdOf_ok _) E0sy (squa_start a) rfl)
noncomputable def XA (f:Nat) (args:List AV):Option (Bool×AV):=
 match Nat.beq f 83 with
 |true=>con2 tP tP (fun _ _=>true) vecS args
 |false=>match Nat.beq f 109 with
 |true=>con2 tP tP (fun _ _=>true) lefS args
 |false=>match Nat.beq f 144 with
 |true=>con2 tP tP (fun _ _=>true) aheS args
 |false=>match Nat.beq f 145 with
 |true=>con1 tP (fun _=>true) (fun a=>aheS a a) args
 |false=>none
theorem XA_con:Con E0 (under XA):=by
 intro f args v h
 rw[under_iff] at h
 unfold XA at h
 split at h
 · rename_i e; obtain rfl := Nat.eq_of_beq_eq_true e
   exact con2_spec (t:=tP) (u:=tP) (fun a b _=>vec_call a b) h
 split at h
 · rename_i e; obtain rfl := Nat.eq_of_beq_eq_true e
   exact con2_spec (t:=tP) (u:=tP) (fun a b _=>lef_call a b) h
 split at h
 · rename_i e; obtain rfl := Nat.eq_of_beq_eq_true e
   exact con2_spec (t:=tP) (u:=tP) (fun a b _=>ahe_call a b) h
 split at h
 · rename_i e; obtain rfl := Nat.eq_of_beq_eq_true e
   exact con1_spec (t:=tP) (fun a _=>squ_call a) h
 · cases h
noncomputable def EA:Env:={ T0.env with ext:=(E0.say (under XA)).ext }
theorem eA:EnvOK Tryz.prog EA:=by
 have h:=tabs_ok.env
 refine⟨fun t k ht=>?_,h.zero,h.fn,h.eqok,h.meth⟩
 obtain⟨h1,h2⟩:=h.ty t k ht
 refine⟨h1,?_⟩
 cases k<;>exact h2
theorem nA:NameOK EA:=tabs_ok.name
theorem xA:ExtOK Tryz.prog EA:=ExtOK.sayG e0 x0 n0 tabs_ok.mix XA_con
end Go.Proofs.YtgaoajmlckgdaaaGreatDoor


set_option maxRecDepth 100000
namespace Go.Proofs.YtgaoajmlckgdaaaGreatDoor
open Go Go.Eng
noncomputable def c0:Ent:=⟨23,[(.agg [(.sl 10 0 2 2 4),(.sl 21 0 2 2 6)]),(.agg [(.int .i64 (150)),(.int .i64 (50))])],23,[(7,(.cells false [(.int .i64 (0)),(.int .i64 (1)),(.int .i64 (50)),(.int .i64 (2))])),(9,(.cells false [(.int .i64 (10)),(.int .i64 (3)),(.int .i64 (90)),(.int .i64 (0))])),(10,(.cells false [(.str [99,104,117,114,99,104]),(.int .i64 (3000)),(.int .i64 (4000)),(.sl 7 0 2 2 2),(.str [109,105,108,108]),(.int .i64 (-2000)),(.int .i64 (0)),(.sl 9 0 2 2 2)])),(15,(.cells false [(.int .i64 (100)),(.int .i64 (0)),(.int .i64 (200)),(.int .i64 (0)),(.int .i64 (200)),(.int .i64 (100)),(.int .i64 (100)),(.int .i64 (100))])),(20,(.cells false [(.int .i64 (-300)),(.int .i64 (-300)),(.int .i64 (-100)),(.int .i64 (-400)),(.int .i64 (-200)),(.int .i64 (-200))])),(21,(.cells false [(.str [107,110,111,108,108]),(.sl 15 0 4 4 2),(.int .i64 (0)),(.int .i64 (10)),(.int .i64 (-5)),(.int .i64 (5)),(.str [115,112,105,116]),(.sl 20 0 3 3 2),(.int .i64 (0)),(.int .i64 (0)),(.int .i64 (0)),(.int .i64 (0))]))],(.tup [(.sl 451 0 1 1 1),(.sl 453 0 1 1 1),(.int .i64 (0))]),[(451,(.cells false [(.int .i64 (0))])),(453,(.cells false [(.int .i64 (0))]))],481⟩
noncomputable def c1:Ent:=⟨23,[(.agg [(.sl 486 0 2 2 4),(.sl 497 0 2 2 6)]),(.agg [(.int .i64 (205)),(.int .i64 (50))])],499,[(483,(.cells false [(.int .i64 (0)),(.int .i64 (1)),(.int .i64 (50)),(.int .i64 (2))])),(485,(.cells false [(.int .i64 (10)),(.int .i64 (3)),(.int .i64 (90)),(.int .i64 (0))])),(486,(.cells false [(.str [99,104,117,114,99,104]),(.int .i64 (3000)),(.int .i64 (4000)),(.sl 483 0 2 2 2),(.str [109,105,108,108]),(.int .i64 (-2000)),(.int .i64 (0)),(.sl 485 0 2 2 2)])),(491,(.cells false [(.int .i64 (100)),(.int .i64 (0)),(.int .i64 (200)),(.int .i64 (0)),(.int .i64 (200)),(.int .i64 (100)),(.int .i64 (100)),(.int .i64 (100))])),(496,(.cells false [(.int .i64 (-300)),(.int .i64 (-300)),(.int .i64 (-100)),(.int .i64 (-400)),(.int .i64 (-200)),(.int .i64 (-200))])),(497,(.cells false [(.str [107,110,111,108,108]),(.sl 491 0 4 4 2),(.int .i64 (0)),(.int .i64 (10)),(.int .i64 (-5)),(.int .i64 (5)),(.str [115,112,105,116]),(.sl 496 0 3 3 2),(.int .i64 (0)),(.int .i64 (0)),(.int .i64 (0)),(.int .i64 (0))]))],(.tup [.nils,(.sl 927 0 1 1 1),(.int .i64 (0))]),[(927,(.cells false [(.int .i64 (0))]))],955⟩
noncomputable def c2:Ent:=⟨108,[(.agg [(.str [107,110,111,108,108]),(.sl 1136 0 4 4 2),(.int .i64 (0)),(.int .i64 (10)),(.int .i64 (-5)),(.int .i64 (5)),(.int .i64 (0)),(.int .i64 (0))]),(.int .i64 (100))],1274,[(1136,(.cells false [(.int .i64 (100)),(.int .i64 (0)),(.int .i64 (200)),(.int .i64 (0)),(.int .i64 (200)),(.int .i64 (100)),(.int .i64 (100)),(.int .i64 (100))]))],(.tup [(.agg [(.int .i64 (0)),(.int .i64 (0))]),(.bool false)]),[],6682⟩
noncomputable def c3:Ent:=⟨108,[(.agg [(.str [107,110,111,108,108]),(.sl 6738 0 4 4 2),(.int .i64 (0)),(.int .i64 (10)),(.int .i64 (-5)),(.int .i64 (5)),(.int .i64 (0)),(.int .i64 (0))]),(.int .i64 (79))],7004,[(6738,(.cells false [(.int .i64 (100)),(.int .i64 (0)),(.int .i64 (200)),(.int .i64 (0)),(.int .i64 (200)),(.int .i64 (100)),(.int .i64 (100)),(.int .i64 (100))]))],(.tup [(.agg [(.int .i64 (0)),(.int .i64 (0))]),(.bool false)]),[],12412⟩
noncomputable def c4:Ent:=⟨108,[(.agg [(.str [107,110,111,108,108]),(.sl 6738 0 4 4 2),(.int .i64 (0)),(.int .i64 (10)),(.int .i64 (-5)),(.int .i64 (5)),(.int .i64 (0)),(.int .i64 (0))]),(.int .i64 (99))],12487,[(6738,(.cells false [(.int .i64 (100)),(.int .i64 (0)),(.int .i64 (200)),(.int .i64 (0)),(.int .i64 (200)),(.int .i64 (100)),(.int .i64 (100)),(.int .i64 (100))]))],(.tup [(.agg [(.int .i64 (0)),(.int .i64 (0))]),(.bool false)]),[],17895⟩
noncomputable def c5:Ent:=⟨108,[(.agg [(.str [107,110,111,108,108]),(.sl 6738 0 4 4 2),(.int .i64 (0)),(.int .i64 (10)),(.int .i64 (-5)),(.int .i64 (5)),(.int .i64 (0)),(.int .i64 (0))]),(.int .i64 (100))],18048,[(6738,(.cells false [(.int .i64 (100)),(.int .i64 (0)),(.int .i64 (200)),(.int .i64 (0)),(.int .i64 (200)),(.int .i64 (100)),(.int .i64 (100)),(.int .i64 (100))]))],(.tup [(.agg [(.int .i64 (0)),(.int .i64 (0))]),(.bool false)]),[],23456⟩
noncomputable def c6:Ent:=⟨28,[(.agg [(.sl 6733 0 2 2 4),(.sl 6744 0 2 2 6)]),(.agg [(.int .i64 (0)),(.int .i64 (0))])],6746,[(6730,(.cells false [(.int .i64 (0)),(.int .i64 (1)),(.int .i64 (50)),(.int .i64 (2))])),(6732,(.cells false [(.int .i64 (10)),(.int .i64 (3)),(.int .i64 (90)),(.int .i64 (0))])),(6733,(.cells false [(.str [99,104,117,114,99,104]),(.int .i64 (3000)),(.int .i64 (4000)),(.sl 6730 0 2 2 2),(.str [109,105,108,108]),(.int .i64 (-2000)),(.int .i64 (0)),(.sl 6732 0 2 2 2)])),(6738,(.cells false [(.int .i64 (100)),(.int .i64 (0)),(.int .i64 (200)),(.int .i64 (0)),(.int .i64 (200)),(.int .i64 (100)),(.int .i64 (100)),(.int .i64 (100))])),(6743,(.cells false [(.int .i64 (-300)),(.int .i64 (-300)),(.int .i64 (-100)),(.int .i64 (-400)),(.int .i64 (-200)),(.int .i64 (-200))])),(6744,(.cells false [(.str [107,110,111,108,108]),(.sl 6738 0 4 4 2),(.int .i64 (0)),(.int .i64 (10)),(.int .i64 (-5)),(.int .i64 (5)),(.str [115,112,105,116]),(.sl 6743 0 3 3 2),(.int .i64 (0)),(.int .i64 (0)),(.int .i64 (0)),(.int .i64 (0))]))],(.tup [(.int .i64 (100)),(.int .i64 (0))]),[],23502⟩
noncomputable def c7:Ent:=⟨34,[(.agg [(.sl 23821 0 2 2 4),(.sl 23832 0 2 2 6)]),(.int .i64 (20)),(.int .i64 (1)),(.agg [(.int .i64 (-2010)),(.int .i64 (-1990)),(.int .i64 (0)),(.int .i64 (0))])],23834,[(23818,(.cells false [(.int .i64 (0)),(.int .i64 (1)),(.int .i64 (50)),(.int .i64 (2))])),(23820,(.cells false [(.int .i64 (10)),(.int .i64 (3)),(.int .i64 (90)),(.int .i64 (0))])),(23821,(.cells false [(.str [99,104,117,114,99,104]),(.int .i64 (3000)),(.int .i64 (4000)),(.sl 23818 0 2 2 2),(.str [109,105,108,108]),(.int .i64 (-2000)),(.int .i64 (0)),(.sl 23820 0 2 2 2)])),(23826,(.cells false [(.int .i64 (100)),(.int .i64 (0)),(.int .i64 (200)),(.int .i64 (0)),(.int .i64 (200)),(.int .i64 (100)),(.int .i64 (100)),(.int .i64 (100))])),(23831,(.cells false [(.int .i64 (-300)),(.int .i64 (-300)),(.int .i64 (-100)),(.int .i64 (-400)),(.int .i64 (-200)),(.int .i64 (-200))])),(23832,(.cells false [(.str [107,110,111,108,108]),(.sl 23826 0 4 4 2),(.int .i64 (0)),(.int .i64 (10)),(.int .i64 (-5)),(.int .i64 (5)),(.str [115,112,105,116]),(.sl 23831 0 3 3 2),(.int .i64 (0)),(.int .i64 (0)),(.int .i64 (0)),(.int .i64 (0))]))],(.tup [(.sl 25739 0 2 2 1),(.int .i64 (0))]),[(25739,(.cells false [(.int .i64 (8)),(.int .i64 (24))]))],25740⟩
noncomputable def c8:Ent:=⟨36,[(.agg [(.sl 25745 0 2 2 4),(.sl 25756 0 2 2 6)])],25757,[(25742,(.cells false [(.int .i64 (0)),(.int .i64 (1)),(.int .i64 (50)),(.int .i64 (2))])),(25744,(.cells false [(.int .i64 (10)),(.int .i64 (3)),(.int .i64 (90)),(.int .i64 (0))])),(25745,(.cells false [(.str [99,104,117,114,99,104]),(.int .i64 (3000)),(.int .i64 (4000)),(.sl 25742 0 2 2 2),(.str [109,105,108,108]),(.int .i64 (-2000)),(.int .i64 (0)),(.sl 25744 0 2 2 2)])),(25750,(.cells false [(.int .i64 (100)),(.int .i64 (0)),(.int .i64 (200)),(.int .i64 (0)),(.int .i64 (200)),(.int .i64 (100)),(.int .i64 (100)),(.int .i64 (100))])),(25755,(.cells false [(.int .i64 (-300)),(.int .i64 (-300)),(.int .i64 (-100)),(.int .i64 (-400)),(.int .i64 (-200)),(.int .i64 (-200))])),(25756,(.cells false [(.str [107,110,111,108,108]),(.sl 25750 0 4 4 2),(.int .i64 (0)),(.int .i64 (10)),(.int .i64 (-5)),(.int .i64 (5)),(.str [115,112,105,116]),(.sl 25755 0 3 3 2),(.int .i64 (0)),(.int .i64 (0)),(.int .i64 (0)),(.int .i64 (0))]))],(.tup [(.str [109,97,114,107,32,99,104,117,114,99,104,32,51,48,48,48,32,52,48,48,48,32,48,32,49,32,53,48,32,50,10,109,97,114,107,32,109,105,108,108,32,45,50,48,48,48,32,48,32,49,48,32,51,32,57,48,32,48,10,115,97,110,100,32,107,110,111,108,108,32,48,32,49,48,32,45,53,32,53,32,49,48,48,32,48,32,50,48,48,32,48,32,50,48,48,32,49,48,48,32,49,48,48,32,49,48,48,10,115,97,110,100,32,115,112,105,116,32,48,32,48,32,48,32,48,32,45,51,48,48,32,45,51,48,48,32,45,49,48,48,32,45,52,48,48,32,45,50,48,48,32,45,50,48,48,10]),(.int .i64 (0))]),[],25939⟩
noncomputable def c9:Ent:=⟨115,[(.str [109,97,114,107,32,99,104,117,114,99,104,32,51,48,48,48,32,52,48,48,48,32,48,32,49,32,53,48,32,50,10,109,97,114,107,32,109,105,108,108,32,45,50,48,48,48,32,48,32,49,48,32,51,32,57,48,32,48,10,115,97,110,100,32,107,110,111,108,108,32,48,32,49,48,32,45,53,32,53,32,49,48,48,32,48,32,50,48,48,32,48,32,50,48,48,32,49,48,48,32,49,48,48,32,49,48,48,10,115,97,110,100,32,115,112,105,116,32,48,32,48,32,48,32,48,32,45,51,48,48,32,45,51,48,48,32,45,49,48,48,32,45,52,48,48,32,45,50,48,48,32,45,50,48,48,10])],25942,[],(.agg [(.sl 25967 0 2 2 4),(.sl 26004 0 2 2 6)]),[(25955,(.cells false [(.int .i64 (0)),(.int .i64 (1)),(.int .i64 (50)),(.int .i64 (2))])),(25966,(.cells false [(.int .i64 (10)),(.int .i64 (3)),(.int .i64 (90)),(.int .i64 (0))])),(25967,(.cells false [(.str [99,104,117,114,99,104]),(.int .i64 (3000)),(.int .i64 (4000)),(.sl 25955 0 2 2 2),(.str [109,105,108,108]),(.int .i64 (-2000)),(.int .i64 (0)),(.sl 25966 0 2 2 2)])),(25986,(.cells false [(.int .i64 (100)),(.int .i64 (0)),(.int .i64 (200)),(.int .i64 (0)),(.int .i64 (200)),(.int .i64 (100)),(.int .i64 (100)),(.int .i64 (100))])),(26003,(.cells false [(.int .i64 (-300)),(.int .i64 (-300)),(.int .i64 (-100)),(.int .i64 (-400)),(.int .i64 (-200)),(.int .i64 (-200))])),(26004,(.cells false [(.str [107,110,111,108,108]),(.sl 25986 0 4 4 2),(.int .i64 (0)),(.int .i64 (10)),(.int .i64 (-5)),(.int .i64 (5)),(.str [115,112,105,116]),(.sl 26003 0 3 3 2),(.int .i64 (0)),(.int .i64 (0)),(.int .i64 (0)),(.int .i64 (0))]))],26005⟩
noncomputable def c10:Ent:=⟨36,[(.agg [(.sl 25967 0 2 2 4),(.sl 26004 0 2 2 6)])],26006,[(25955,(.cells false [(.int .i64 (0)),(.int .i64 (1)),(.int .i64 (50)),(.int .i64 (2))])),(25966,(.cells false [(.int .i64 (10)),(.int .i64 (3)),(.int .i64 (90)),(.int .i64 (0))])),(25967,(.cells false [(.str [99,104,117,114,99,104]),(.int .i64 (3000)),(.int .i64 (4000)),(.sl 25955 0 2 2 2),(.str [109,105,108,108]),(.int .i64 (-2000)),(.int .i64 (0)),(.sl 25966 0 2 2 2)])),(25986,(.cells false [(.int .i64 (100)),(.int .i64 (0)),(.int .i64 (200)),(.int .i64 (0)),(.int .i64 (200)),(.int .i64 (100)),(.int .i64 (100)),(.int .i64 (100))])),(26003,(.cells false [(.int .i64 (-300)),(.int .i64 (-300)),(.int .i64 (-100)),(.int .i64 (-400)),(.int .i64 (-200)),(.int .i64 (-200))])),(26004,(.cells false [(.str [107,110,111,108,108]),(.sl 25986 0 4 4 2),(.int .i64 (0)),(.int .i64 (10)),(.int .i64 (-5)),(.int .i64 (5)),(.str [115,112,105,116]),(.sl 26003 0 3 3 2),(.int .i64 (0)),(.int .i64 (0)),(.int .i64 (0)),(.int .i64 (0))]))],(.tup [(.str [109,97,114,107,32,99,104,117,114,99,104,32,51,48,48,48,32,52,48,48,48,32,48,32,49,32,53,48,32,50,10,109,97,114,107,32,109,105,108,108,32,45,50,48,48,48,32,48,32,49,48,32,51,32,57,48,32,48,10,115,97,110,100,32,107,110,111,108,108,32,48,32,49,48,32,45,53,32,53,32,49,48,48,32,48,32,50,48,48,32,48,32,50,48,48,32,49,48,48,32,49,48,48,32,49,48,48,10,115,97,110,100,32,115,112,105,116,32,48,32,48,32,48,32,48,32,45,51,48,48,32,45,51,48,48,32,45,49,48,48,32,45,52,48,48,32,45,50,48,48,32,45,50,48,48,10]),(.int .i64 (0))]),[],26188⟩
end Go.Proofs.YtgaoajmlckgdaaaGreatDoor

