/-
  What is proved: norelaw09.TenderLeft returns true for whichever season, plan, failures and day: what Left returns of a need is Full if it was brought in this morning, and one less than in the morning before otherwise, and never above Full. Conditions: none.
-/
import Derived.Test.YtolgkckmppongaaPart06
import Derived.Test.YtolgkckmppongaaPart07
import Derived.Test.YtolgkckmppongaaPart08
import Derived.Test.YtolgkckmppongaaPart09
import Derived.Test.YtolgkckmppongaaPart10
import Derived.Test.YtolgkckmppongaaPart11
import Derived.Test.YtolgkckmppongaaPart12
import Derived.Test.YtolgkckmppongaaPart13
import Derived.Test.YtolgkckmppongaaPart04
import Derived.Test.YtolgkckmppongaaRows
import Derived.ProofKit
import Derived.LaidMore
import Derived.OpenShut
import Derived.Stop.Joined
import Derived.Lay
import Derived.SevenTiedAt
set_option linter.unusedSectionVars false
set_option linter.unusedSimpArgs false
set_option linter.unusedVariables false
set_option maxRecDepth 100000
namespace Go.Proofs.Ytolgkckmppongaa
open Go Go.Eng
noncomputable def L2:List Ent:=[c0,c1,c2,c3,c4,c5,c6,c7]
theorem l2:∀ e∈L2,EntOK Try.prog E1 e:=ents_cons o0 (ents_cons o1 (ents_cons o2 (ents_cons o3 (ents_cons o4 (ents_cons o5 (ents_cons o6 (ents_cons o7 (ents_nil))))))))
end Go.Proofs.Ytolgkckmppongaa


set_option maxRecDepth 100000
namespace Go.Proofs.Ytolgkckmppongaa
open Go Go.Eng
theorem kn_true:isTrueT E1 L2 40 15=true:=by kernel_rfl
end Go.Proofs.Ytolgkckmppongaa


set_option maxRecDepth 100000
namespace Go.Proofs.Ytolgkckmppongaa
open Go Go.Eng
noncomputable def tleI0 (s:tS.den) (p:(Ty.sl tO).den) (f:tF.den) (x17:Int) (x167:Nat):Cfg:=⟨.ex (pcOf F12 5 [0,0,1,0,1,1,1,1,1,1]) ⟨(tmOf 175 [(0,(.agg [(.int .i64 (s.1)),(.vs tN (s.2.1.1) (s.2.1.2)),(.int .i64 (s.2.2.1)),(.int .i64 (s.2.2.2.1)),(.int .i64 (s.2.2.2.2.1)),(.vs tI (s.2.2.2.2.2.1.1) (s.2.2.2.2.2.1.2))])),(1,(.vs tO (p.1) (p.2))),(2,(.agg [(.vs tI (f.1.1) (f.1.2)),(.int .i64 (f.2.1))])),(3,(.ptr 0 0)),(5,(.ptr 1 0)),(6,(.bool (false))),(7,(.vs tI (!ieq (lfE s p.2 f.1.2 f.2.1) 0) (lfL s p f.1.2 f.2.1))),(8,(.int .i64 (lfE s p.2 f.1.2 f.2.1))),(9,.nils),(12,(.int .i64 x17)),(16,(.tup [(.vs tI (!ieq (lfE s p.2 f.1.2 f.2.1) 0) (lfL s p f.1.2 f.2.1)),(.int .i64 (lfE s p.2 f.1.2 f.2.1))])),(17,(.agg [(.int .i64 (s.1)),(.vs tN (s.2.1.1) (s.2.1.2)),(.int .i64 (s.2.2.1)),(.int .i64 (s.2.2.2.1)),(.int .i64 (s.2.2.2.2.1)),(.vs tI (s.2.2.2.2.2.1.1) (s.2.2.2.2.2.1.2))])),(18,(.vs tO (p.1) (p.2))),(19,(.ptr 1 0)),(20,(.vs tI (f.1.1) (f.1.2))),(21,(.ptr 1 1)),(22,(.int .i64 (f.2.1))),(23,(.tup [(.vs tI (!ieq (lfE s p.2 f.1.2 f.2.1) 0) (lfL s p f.1.2 f.2.1)),(.int .i64 (lfE s p.2 f.1.2 f.2.1))])),(24,(.vs tI (!ieq (lfE s p.2 f.1.2 f.2.1) 0) (lfL s p f.1.2 f.2.1))),(25,(.int .i64 (lfE s p.2 f.1.2 f.2.1))),(26,(.agg [(.int .i64 (s.1)),(.vs tN (s.2.1.1) (s.2.1.2)),(.int .i64 (s.2.2.1)),(.int .i64 (s.2.2.2.1)),(.int .i64 (s.2.2.2.2.1)),(.vs tI (s.2.2.2.2.2.1.1) (s.2.2.2.2.2.1.2))])),(27,(.vs tO (p.1) (p.2))),(28,(.bool (ieq (plnV s p.2).2 0))),(29,(.bool (!ieq (plnV s p.2).2 0))),(30,(.bool (false))),(31,(.int .i64 (lfE s p.2 f.1.2 f.2.1))),(32,(.bool (!ieq (lfE s p.2 f.1.2 f.2.1) 0))),(33,(.bool (false))),(44,(.ptr 1 1)),(45,(.int .i64 (f.2.1))),(46,(.bool (!ile 0 f.2.1))),(47,(.bool (false))),(48,(.ptr 1 1)),(49,(.int .i64 (f.2.1))),(50,(.ptr 0 0)),(51,(.int .i64 (s.1))),(52,(.bool (ile s.1 f.2.1))),(53,(.bool (ile s.1 f.2.1))),(54,(.bool (false))),(55,(.vs tI (!ieq (lfE s p.2 f.1.2 f.2.1) 0) (lfL s p f.1.2 f.2.1))),(56,(.int .i64 (Int.ofNat (lfL s p f.1.2 f.2.1).length))),(57,(.ptr 0 1)),(58,(.vs tN (s.2.1.1) (s.2.1.2))),(59,(.int .i64 (Int.ofNat s.2.1.2.length))),(60,(.bool (!ieq ↑(lfL s p f.1.2 f.2.1).length ↑s.2.1.2.length))),(61,(.bool (false))),(62,(.ptr 1 1)),(63,(.int .i64 (f.2.1))),(64,(.bool (false)))]),(hpOf 3 [(0,(.cells false [(.int .i64 (s.1)),(.vs tN (s.2.1.1) (s.2.1.2)),(.int .i64 (s.2.2.1)),(.int .i64 (s.2.2.2.1)),(.int .i64 (s.2.2.2.2.1)),(.vs tI (s.2.2.2.2.2.1.1) (s.2.2.2.2.2.1.2))])),(1,(.cells false [(.vs tI (f.1.1) (f.1.2)),(.int .i64 (f.2.1))])),(2,(.cells false [(.int .i64 (s.1)),(.vs tN (s.2.1.1) (s.2.1.2)),(.int .i64 (s.2.2.1)),(.int .i64 (s.2.2.2.1)),(.int .i64 (s.2.2.2.2.1)),(.vs tI (s.2.2.2.2.2.1.1) (s.2.2.2.2.2.1.2))]))]),[],[],175,false⟩,⟨40,[]⟩,[(.lop (pcOf F12 5 [0,0,1,0,1,1,1,1,1,1]) 3 (tmOf 175 [(0,(.agg [(.int .i64 (s.1)),(.vs tN (s.2.1.1) (s.2.1.2)),(.int .i64 (s.2.2.1)),(.int .i64 (s.2.2.2.1)),(.int .i64 (s.2.2.2.2.1)),(.vs tI (s.2.2.2.2.2.1.1) (s.2.2.2.2.2.1.2))])),(1,(.vs tO (p.1) (p.2))),(2,(.agg [(.vs tI (f.1.1) (f.1.2)),(.int .i64 (f.2.1))])),(3,(.ptr 0 0)),(5,(.ptr 1 0)),(6,(.bool (false))),(7,(.vs tI (!ieq (lfE s p.2 f.1.2 f.2.1) 0) (lfL s p f.1.2 f.2.1))),(8,(.int .i64 (lfE s p.2 f.1.2 f.2.1))),(9,.nils),(12,(.int .i64 (0))),(16,(.tup [(.vs tI (!ieq (lfE s p.2 f.1.2 f.2.1) 0) (lfL s p f.1.2 f.2.1)),(.int .i64 (lfE s p.2 f.1.2 f.2.1))])),(17,(.agg [(.int .i64 (s.1)),(.vs tN (s.2.1.1) (s.2.1.2)),(.int .i64 (s.2.2.1)),(.int .i64 (s.2.2.2.1)),(.int .i64 (s.2.2.2.2.1)),(.vs tI (s.2.2.2.2.2.1.1) (s.2.2.2.2.2.1.2))])),(18,(.vs tO (p.1) (p.2))),(19,(.ptr 1 0)),(20,(.vs tI (f.1.1) (f.1.2))),(21,(.ptr 1 1)),(22,(.int .i64 (f.2.1))),(23,(.tup [(.vs tI (!ieq (lfE s p.2 f.1.2 f.2.1) 0) (lfL s p f.1.2 f.2.1)),(.int .i64 (lfE s p.2 f.1.2 f.2.1))])),(24,(.vs tI (!ieq (lfE s p.2 f.1.2 f.2.1) 0) (lfL s p f.1.2 f.2.1))),(25,(.int .i64 (lfE s p.2 f.1.2 f.2.1))),(26,(.agg [(.int .i64 (s.1)),(.vs tN (s.2.1.1) (s.2.1.2)),(.int .i64 (s.2.2.1)),(.int .i64 (s.2.2.2.1)),(.int .i64 (s.2.2.2.2.1)),(.vs tI (s.2.2.2.2.2.1.1) (s.2.2.2.2.2.1.2))])),(27,(.vs tO (p.1) (p.2))),(28,(.bool (ieq (plnV s p.2).2 0))),(29,(.bool (!ieq (plnV s p.2).2 0))),(30,(.bool (false))),(31,(.int .i64 (lfE s p.2 f.1.2 f.2.1))),(32,(.bool (!ieq (lfE s p.2 f.1.2 f.2.1) 0))),(33,(.bool (false))),(44,(.ptr 1 1)),(45,(.int .i64 (f.2.1))),(46,(.bool (!ile 0 f.2.1))),(47,(.bool (false))),(48,(.ptr 1 1)),(49,(.int .i64 (f.2.1))),(50,(.ptr 0 0)),(51,(.int .i64 (s.1))),(52,(.bool (ile s.1 f.2.1))),(53,(.bool (ile s.1 f.2.1))),(54,(.bool (false))),(55,(.vs tI (!ieq (lfE s p.2 f.1.2 f.2.1) 0) (lfL s p f.1.2 f.2.1))),(56,(.int .i64 (Int.ofNat (lfL s p f.1.2 f.2.1).length))),(57,(.ptr 0 1)),(58,(.vs tN (s.2.1.1) (s.2.1.2))),(59,(.int .i64 (Int.ofNat s.2.1.2.length))),(60,(.bool (!ieq ↑(lfL s p f.1.2 f.2.1).length ↑s.2.1.2.length))),(61,(.bool (false))),(62,(.ptr 1 1)),(63,(.int .i64 (f.2.1))),(64,(.bool (false)))]) x167),(.blk 0),(.seq (pcOf F12 5 [1,1,1,1,1,1,1])),(.cal [(.tmp 6)] .top)]⟩
noncomputable def tleI1 (s:tS.den) (p:(Ty.sl tO).den) (f:tF.den) (x22:Int) (x249:Nat):Cfg:=⟨.ex (pcOf F12 5 [0,0,1,0,1,1,1,1,1,1]) ⟨(tmOf 175 [(0,(.agg [(.int .i64 (s.1)),(.vs tN (s.2.1.1) (s.2.1.2)),(.int .i64 (s.2.2.1)),(.int .i64 (s.2.2.2.1)),(.int .i64 (s.2.2.2.2.1)),(.vs tI (s.2.2.2.2.2.1.1) (s.2.2.2.2.2.1.2))])),(1,(.vs tO (p.1) (p.2))),(2,(.agg [(.vs tI (f.1.1) (f.1.2)),(.int .i64 (f.2.1))])),(3,(.ptr 0 0)),(5,(.ptr 1 0)),(6,(.bool (false))),(7,(.vs tI (!ieq (lfE s p.2 f.1.2 f.2.1) 0) (lfL s p f.1.2 f.2.1))),(8,(.int .i64 (lfE s p.2 f.1.2 f.2.1))),(9,(.vs tI (!ieq (lfE s p.2 f.1.2 (wr .i64 (f.2.1-1))) 0) (lfL s p f.1.2 (wr .i64 (f.2.1-1))))),(10,(.vs tI (!ieq (lfE s p.2 f.1.2 (wr .i64 (f.2.1-1))) 0) (lfL s p f.1.2 (wr .i64 (f.2.1-1))))),(11,(.int .i64 (lfE s p.2 f.1.2 (wr .i64 (f.2.1-1))))),(12,(.int .i64 x22)),(16,(.tup [(.vs tI (!ieq (lfE s p.2 f.1.2 f.2.1) 0) (lfL s p f.1.2 f.2.1)),(.int .i64 (lfE s p.2 f.1.2 f.2.1))])),(17,(.agg [(.int .i64 (s.1)),(.vs tN (s.2.1.1) (s.2.1.2)),(.int .i64 (s.2.2.1)),(.int .i64 (s.2.2.2.1)),(.int .i64 (s.2.2.2.2.1)),(.vs tI (s.2.2.2.2.2.1.1) (s.2.2.2.2.2.1.2))])),(18,(.vs tO (p.1) (p.2))),(19,(.ptr 1 0)),(20,(.vs tI (f.1.1) (f.1.2))),(21,(.ptr 1 1)),(22,(.int .i64 (f.2.1))),(23,(.tup [(.vs tI (!ieq (lfE s p.2 f.1.2 f.2.1) 0) (lfL s p f.1.2 f.2.1)),(.int .i64 (lfE s p.2 f.1.2 f.2.1))])),(24,(.vs tI (!ieq (lfE s p.2 f.1.2 f.2.1) 0) (lfL s p f.1.2 f.2.1))),(25,(.int .i64 (lfE s p.2 f.1.2 f.2.1))),(26,(.agg [(.int .i64 (s.1)),(.vs tN (s.2.1.1) (s.2.1.2)),(.int .i64 (s.2.2.1)),(.int .i64 (s.2.2.2.1)),(.int .i64 (s.2.2.2.2.1)),(.vs tI (s.2.2.2.2.2.1.1) (s.2.2.2.2.2.1.2))])),(27,(.vs tO (p.1) (p.2))),(28,(.bool (ieq (plnV s p.2).2 0))),(29,(.bool (!ieq (plnV s p.2).2 0))),(30,(.bool (false))),(31,(.int .i64 (lfE s p.2 f.1.2 f.2.1))),(32,(.bool (!ieq (lfE s p.2 f.1.2 f.2.1) 0))),(33,(.bool (false))),(44,(.ptr 1 1)),(45,(.int .i64 (f.2.1))),(46,(.bool (!ile 0 f.2.1))),(47,(.bool (false))),(48,(.ptr 1 1)),(49,(.int .i64 (f.2.1))),(50,(.ptr 0 0)),(51,(.int .i64 (s.1))),(52,(.bool (ile s.1 f.2.1))),(53,(.bool (ile s.1 f.2.1))),(54,(.bool (false))),(55,(.vs tI (!ieq (lfE s p.2 f.1.2 f.2.1) 0) (lfL s p f.1.2 f.2.1))),(56,(.int .i64 (Int.ofNat (lfL s p f.1.2 f.2.1).length))),(57,(.ptr 0 1)),(58,(.vs tN (s.2.1.1) (s.2.1.2))),(59,(.int .i64 (Int.ofNat s.2.1.2.length))),(60,(.bool (!ieq ↑(lfL s p f.1.2 f.2.1).length ↑s.2.1.2.length))),(61,(.bool (false))),(62,(.ptr 1 1)),(63,(.int .i64 (f.2.1))),(64,(.bool (true))),(65,(.tup [(.vs tI (!ieq (lfE s p.2 f.1.2 (wr .i64 (f.2.1-1))) 0) (lfL s p f.1.2 (wr .i64 (f.2.1-1)))),(.int .i64 (lfE s p.2 f.1.2 (wr .i64 (f.2.1-1))))])),(66,(.agg [(.int .i64 (s.1)),(.vs tN (s.2.1.1) (s.2.1.2)),(.int .i64 (s.2.2.1)),(.int .i64 (s.2.2.2.1)),(.int .i64 (s.2.2.2.2.1)),(.vs tI (s.2.2.2.2.2.1.1) (s.2.2.2.2.2.1.2))])),(67,(.vs tO (p.1) (p.2))),(68,(.ptr 1 0)),(69,(.vs tI (f.1.1) (f.1.2))),(70,(.ptr 1 1)),(71,(.int .i64 (f.2.1))),(72,(.int .i64 (wr .i64 (f.2.1-1)))),(73,(.tup [(.vs tI (!ieq (lfE s p.2 f.1.2 (wr .i64 (f.2.1-1))) 0) (lfL s p f.1.2 (wr .i64 (f.2.1-1)))),(.int .i64 (lfE s p.2 f.1.2 (wr .i64 (f.2.1-1))))])),(74,(.vs tI (!ieq (lfE s p.2 f.1.2 (wr .i64 (f.2.1-1))) 0) (lfL s p f.1.2 (wr .i64 (f.2.1-1))))),(75,(.int .i64 (lfE s p.2 f.1.2 (wr .i64 (f.2.1-1))))),(76,(.int .i64 (lfE s p.2 f.1.2 (wr .i64 (f.2.1-1))))),(77,(.bool (!ieq (lfE s p.2 f.1.2 (wr .i64 (f.2.1-1))) 0))),(78,(.bool (false))),(79,(.vs tI (!ieq (lfE s p.2 f.1.2 (wr .i64 (f.2.1-1))) 0) (lfL s p f.1.2 (wr .i64 (f.2.1-1))))),(80,(.int .i64 (Int.ofNat (lfL s p f.1.2 (wr .i64 (f.2.1-1))).length))),(81,(.vs tI (!ieq (lfE s p.2 f.1.2 f.2.1) 0) (lfL s p f.1.2 f.2.1))),(82,(.int .i64 (Int.ofNat (lfL s p f.1.2 f.2.1).length))),(83,(.bool (!ieq ↑(lfL s p f.1.2 (wr .i64 (f.2.1-1))).length ↑(lfL s p f.1.2 f.2.1).length))),(84,(.bool (false))),(85,(.vs tI (!ieq (lfE s p.2 f.1.2 (wr .i64 (f.2.1-1))) 0) (lfL s p f.1.2 (wr .i64 (f.2.1-1)))))]),(hpOf 3 [(0,(.cells false [(.int .i64 (s.1)),(.vs tN (s.2.1.1) (s.2.1.2)),(.int .i64 (s.2.2.1)),(.int .i64 (s.2.2.2.1)),(.int .i64 (s.2.2.2.2.1)),(.vs tI (s.2.2.2.2.2.1.1) (s.2.2.2.2.2.1.2))])),(1,(.cells false [(.vs tI (f.1.1) (f.1.2)),(.int .i64 (f.2.1))])),(2,(.cells false [(.int .i64 (s.1)),(.vs tN (s.2.1.1) (s.2.1.2)),(.int .i64 (s.2.2.1)),(.int .i64 (s.2.2.2.1)),(.int .i64 (s.2.2.2.2.1)),(.vs tI (s.2.2.2.2.2.1.1) (s.2.2.2.2.2.1.2))]))]),[],[],175,false⟩,⟨40,[]⟩,[(.lop (pcOf F12 5 [0,0,1,0,1,1,1,1,1,1]) 3 (tmOf 175 [(0,(.agg [(.int .i64 (s.1)),(.vs tN (s.2.1.1) (s.2.1.2)),(.int .i64 (s.2.2.1)),(.int .i64 (s.2.2.2.1)),(.int .i64 (s.2.2.2.2.1)),(.vs tI (s.2.2.2.2.2.1.1) (s.2.2.2.2.2.1.2))])),(1,(.vs tO (p.1) (p.2))),(2,(.agg [(.vs tI (f.1.1) (f.1.2)),(.int .i64 (f.2.1))])),(3,(.ptr 0 0)),(5,(.ptr 1 0)),(6,(.bool (false))),(7,(.vs tI (!ieq (lfE s p.2 f.1.2 f.2.1) 0) (lfL s p f.1.2 f.2.1))),(8,(.int .i64 (lfE s p.2 f.1.2 f.2.1))),(9,(.vs tI (!ieq (lfE s p.2 f.1.2 (wr .i64 (f.2.1-1))) 0) (lfL s p f.1.2 (wr .i64 (f.2.1-1))))),(10,(.vs tI (!ieq (lfE s p.2 f.1.2 (wr .i64 (f.2.1-1))) 0) (lfL s p f.1.2 (wr .i64 (f.2.1-1))))),(11,(.int .i64 (lfE s p.2 f.1.2 (wr .i64 (f.2.1-1))))),(12,(.int .i64 (0))),(16,(.tup [(.vs tI (!ieq (lfE s p.2 f.1.2 f.2.1) 0) (lfL s p f.1.2 f.2.1)),(.int .i64 (lfE s p.2 f.1.2 f.2.1))])),(17,(.agg [(.int .i64 (s.1)),(.vs tN (s.2.1.1) (s.2.1.2)),(.int .i64 (s.2.2.1)),(.int .i64 (s.2.2.2.1)),(.int .i64 (s.2.2.2.2.1)),(.vs tI (s.2.2.2.2.2.1.1) (s.2.2.2.2.2.1.2))])),(18,(.vs tO (p.1) (p.2))),(19,(.ptr 1 0)),(20,(.vs tI (f.1.1) (f.1.2))),(21,(.ptr 1 1)),(22,(.int .i64 (f.2.1))),(23,(.tup [(.vs tI (!ieq (lfE s p.2 f.1.2 f.2.1) 0) (lfL s p f.1.2 f.2.1)),(.int .i64 (lfE s p.2 f.1.2 f.2.1))])),(24,(.vs tI (!ieq (lfE s p.2 f.1.2 f.2.1) 0) (lfL s p f.1.2 f.2.1))),(25,(.int .i64 (lfE s p.2 f.1.2 f.2.1))),(26,(.agg [(.int .i64 (s.1)),(.vs tN (s.2.1.1) (s.2.1.2)),(.int .i64 (s.2.2.1)),(.int .i64 (s.2.2.2.1)),(.int .i64 (s.2.2.2.2.1)),(.vs tI (s.2.2.2.2.2.1.1) (s.2.2.2.2.2.1.2))])),(27,(.vs tO (p.1) (p.2))),(28,(.bool (ieq (plnV s p.2).2 0))),(29,(.bool (!ieq (plnV s p.2).2 0))),(30,(.bool (false))),(31,(.int .i64 (lfE s p.2 f.1.2 f.2.1))),(32,(.bool (!ieq (lfE s p.2 f.1.2 f.2.1) 0))),(33,(.bool (false))),(44,(.ptr 1 1)),(45,(.int .i64 (f.2.1))),(46,(.bool (!ile 0 f.2.1))),(47,(.bool (false))),(48,(.ptr 1 1)),(49,(.int .i64 (f.2.1))),(50,(.ptr 0 0)),(51,(.int .i64 (s.1))),(52,(.bool (ile s.1 f.2.1))),(53,(.bool (ile s.1 f.2.1))),(54,(.bool (false))),(55,(.vs tI (!ieq (lfE s p.2 f.1.2 f.2.1) 0) (lfL s p f.1.2 f.2.1))),(56,(.int .i64 (Int.ofNat (lfL s p f.1.2 f.2.1).length))),(57,(.ptr 0 1)),(58,(.vs tN (s.2.1.1) (s.2.1.2))),(59,(.int .i64 (Int.ofNat s.2.1.2.length))),(60,(.bool (!ieq ↑(lfL s p f.1.2 f.2.1).length ↑s.2.1.2.length))),(61,(.bool (false))),(62,(.ptr 1 1)),(63,(.int .i64 (f.2.1))),(64,(.bool (true))),(65,(.tup [(.vs tI (!ieq (lfE s p.2 f.1.2 (wr .i64 (f.2.1-1))) 0) (lfL s p f.1.2 (wr .i64 (f.2.1-1)))),(.int .i64 (lfE s p.2 f.1.2 (wr .i64 (f.2.1-1))))])),(66,(.agg [(.int .i64 (s.1)),(.vs tN (s.2.1.1) (s.2.1.2)),(.int .i64 (s.2.2.1)),(.int .i64 (s.2.2.2.1)),(.int .i64 (s.2.2.2.2.1)),(.vs tI (s.2.2.2.2.2.1.1) (s.2.2.2.2.2.1.2))])),(67,(.vs tO (p.1) (p.2))),(68,(.ptr 1 0)),(69,(.vs tI (f.1.1) (f.1.2))),(70,(.ptr 1 1)),(71,(.int .i64 (f.2.1))),(72,(.int .i64 (wr .i64 (f.2.1-1)))),(73,(.tup [(.vs tI (!ieq (lfE s p.2 f.1.2 (wr .i64 (f.2.1-1))) 0) (lfL s p f.1.2 (wr .i64 (f.2.1-1)))),(.int .i64 (lfE s p.2 f.1.2 (wr .i64 (f.2.1-1))))])),(74,(.vs tI (!ieq (lfE s p.2 f.1.2 (wr .i64 (f.2.1-1))) 0) (lfL s p f.1.2 (wr .i64 (f.2.1-1))))),(75,(.int .i64 (lfE s p.2 f.1.2 (wr .i64 (f.2.1-1))))),(76,(.int .i64 (lfE s p.2 f.1.2 (wr .i64 (f.2.1-1))))),(77,(.bool (!ieq (lfE s p.2 f.1.2 (wr .i64 (f.2.1-1))) 0))),(78,(.bool (false))),(79,(.vs tI (!ieq (lfE s p.2 f.1.2 (wr .i64 (f.2.1-1))) 0) (lfL s p f.1.2 (wr .i64 (f.2.1-1))))),(80,(.int .i64 (Int.ofNat (lfL s p f.1.2 (wr .i64 (f.2.1-1))).length))),(81,(.vs tI (!ieq (lfE s p.2 f.1.2 f.2.1) 0) (lfL s p f.1.2 f.2.1))),(82,(.int .i64 (Int.ofNat (lfL s p f.1.2 f.2.1).length))),(83,(.bool (!ieq ↑(lfL s p f.1.2 (wr .i64 (f.2.1-1))).length ↑(lfL s p f.1.2 f.2.1).length))),(84,(.bool (false))),(85,(.vs tI (!ieq (lfE s p.2 f.1.2 (wr .i64 (f.2.1-1))) 0) (lfL s p f.1.2 (wr .i64 (f.2.1-1)))))]) x249),(.blk 0),(.seq (pcOf F12 5 [1,1,1,1,1,1,1])),(.cal [(.tmp 6)] .top)]⟩
noncomputable def tleI2 (s:tS.den) (p:(Ty.sl tO).den) (f:tF.den) (x17:Int) (x18:Bool) (x19:Int) (x181:Nat) (x256:Nat):Cfg:=⟨.ex (pcOf F12 5 [0,0,1,0,1,0,0,1,0,0,1,0,1,1,1,1,1,1]) ⟨(tmOf 175 [(0,(.agg [(.int .i64 (s.1)),(.vs tN (s.2.1.1) (s.2.1.2)),(.int .i64 (s.2.2.1)),(.int .i64 (s.2.2.2.1)),(.int .i64 (s.2.2.2.2.1)),(.vs tI (s.2.2.2.2.2.1.1) (s.2.2.2.2.2.1.2))])),(1,(.vs tO (p.1) (p.2))),(2,(.agg [(.vs tI (f.1.1) (f.1.2)),(.int .i64 (f.2.1))])),(3,(.ptr 0 0)),(5,(.ptr 1 0)),(6,(.bool (false))),(7,(.vs tI (!ieq (lfE s p.2 f.1.2 f.2.1) 0) (lfL s p f.1.2 f.2.1))),(8,(.int .i64 (lfE s p.2 f.1.2 f.2.1))),(9,.nils),(12,(.int .i64 x17)),(13,(.bool x18)),(14,(.int .i64 x19)),(16,(.tup [(.vs tI (!ieq (lfE s p.2 f.1.2 f.2.1) 0) (lfL s p f.1.2 f.2.1)),(.int .i64 (lfE s p.2 f.1.2 f.2.1))])),(17,(.agg [(.int .i64 (s.1)),(.vs tN (s.2.1.1) (s.2.1.2)),(.int .i64 (s.2.2.1)),(.int .i64 (s.2.2.2.1)),(.int .i64 (s.2.2.2.2.1)),(.vs tI (s.2.2.2.2.2.1.1) (s.2.2.2.2.2.1.2))])),(18,(.vs tO (p.1) (p.2))),(19,(.ptr 1 0)),(20,(.vs tI (f.1.1) (f.1.2))),(21,(.ptr 1 1)),(22,(.int .i64 (f.2.1))),(23,(.tup [(.vs tI (!ieq (lfE s p.2 f.1.2 f.2.1) 0) (lfL s p f.1.2 f.2.1)),(.int .i64 (lfE s p.2 f.1.2 f.2.1))])),(24,(.vs tI (!ieq (lfE s p.2 f.1.2 f.2.1) 0) (lfL s p f.1.2 f.2.1))),(25,(.int .i64 (lfE s p.2 f.1.2 f.2.1))),(26,(.agg [(.int .i64 (s.1)),(.vs tN (s.2.1.1) (s.2.1.2)),(.int .i64 (s.2.2.1)),(.int .i64 (s.2.2.2.1)),(.int .i64 (s.2.2.2.2.1)),(.vs tI (s.2.2.2.2.2.1.1) (s.2.2.2.2.2.1.2))])),(27,(.vs tO (p.1) (p.2))),(28,(.bool (ieq (plnV s p.2).2 0))),(29,(.bool (!ieq (plnV s p.2).2 0))),(30,(.bool (false))),(31,(.int .i64 (lfE s p.2 f.1.2 f.2.1))),(32,(.bool (!ieq (lfE s p.2 f.1.2 f.2.1) 0))),(33,(.bool (false))),(44,(.ptr 1 1)),(45,(.int .i64 (f.2.1))),(46,(.bool (!ile 0 f.2.1))),(47,(.bool (false))),(48,(.ptr 1 1)),(49,(.int .i64 (f.2.1))),(50,(.ptr 0 0)),(51,(.int .i64 (s.1))),(52,(.bool (ile s.1 f.2.1))),(53,(.bool (ile s.1 f.2.1))),(54,(.bool (false))),(55,(.vs tI (!ieq (lfE s p.2 f.1.2 f.2.1) 0) (lfL s p f.1.2 f.2.1))),(56,(.int .i64 (Int.ofNat (lfL s p f.1.2 f.2.1).length))),(57,(.ptr 0 1)),(58,(.vs tN (s.2.1.1) (s.2.1.2))),(59,(.int .i64 (Int.ofNat s.2.1.2.length))),(60,(.bool (!ieq ↑(lfL s p f.1.2 f.2.1).length ↑s.2.1.2.length))),(61,(.bool (false))),(62,(.ptr 1 1)),(63,(.int .i64 (f.2.1))),(64,(.bool (false))),(86,(.int .i64 x17)),(87,(.vs tI (!ieq (lfE s p.2 f.1.2 f.2.1) 0) (lfL s p f.1.2 f.2.1))),(88,(.int .i64 (Int.ofNat (lfL s p f.1.2 f.2.1).length))),(89,(.bool (true)))]),(hpOf 3 [(0,(.cells false [(.int .i64 (s.1)),(.vs tN (s.2.1.1) (s.2.1.2)),(.int .i64 (s.2.2.1)),(.int .i64 (s.2.2.2.1)),(.int .i64 (s.2.2.2.2.1)),(.vs tI (s.2.2.2.2.2.1.1) (s.2.2.2.2.2.1.2))])),(1,(.cells false [(.vs tI (f.1.1) (f.1.2)),(.int .i64 (f.2.1))])),(2,(.cells false [(.int .i64 (s.1)),(.vs tN (s.2.1.1) (s.2.1.2)),(.int .i64 (s.2.2.1)),(.int .i64 (s.2.2.2.1)),(.int .i64 (s.2.2.2.2.1)),(.vs tI (s.2.2.2.2.2.1.1) (s.2.2.2.2.2.1.2))]))]),[],[],175,false⟩,⟨40,[]⟩,[(.lop (pcOf F12 5 [0,0,1,0,1,0,0,1,0,0,1,0,1,1,1,1,1,1]) 3 (tmOf 175 [(0,(.agg [(.int .i64 (s.1)),(.vs tN (s.2.1.1) (s.2.1.2)),(.int .i64 (s.2.2.1)),(.int .i64 (s.2.2.2.1)),(.int .i64 (s.2.2.2.2.1)),(.vs tI (s.2.2.2.2.2.1.1) (s.2.2.2.2.2.1.2))])),(1,(.vs tO (p.1) (p.2))),(2,(.agg [(.vs tI (f.1.1) (f.1.2)),(.int .i64 (f.2.1))])),(3,(.ptr 0 0)),(5,(.ptr 1 0)),(6,(.bool (false))),(7,(.vs tI (!ieq (lfE s p.2 f.1.2 f.2.1) 0) (lfL s p f.1.2 f.2.1))),(8,(.int .i64 (lfE s p.2 f.1.2 f.2.1))),(9,.nils),(12,(.int .i64 x17)),(13,(.bool (false))),(14,(.int .i64 (0))),(16,(.tup [(.vs tI (!ieq (lfE s p.2 f.1.2 f.2.1) 0) (lfL s p f.1.2 f.2.1)),(.int .i64 (lfE s p.2 f.1.2 f.2.1))])),(17,(.agg [(.int .i64 (s.1)),(.vs tN (s.2.1.1) (s.2.1.2)),(.int .i64 (s.2.2.1)),(.int .i64 (s.2.2.2.1)),(.int .i64 (s.2.2.2.2.1)),(.vs tI (s.2.2.2.2.2.1.1) (s.2.2.2.2.2.1.2))])),(18,(.vs tO (p.1) (p.2))),(19,(.ptr 1 0)),(20,(.vs tI (f.1.1) (f.1.2))),(21,(.ptr 1 1)),(22,(.int .i64 (f.2.1))),(23,(.tup [(.vs tI (!ieq (lfE s p.2 f.1.2 f.2.1) 0) (lfL s p f.1.2 f.2.1)),(.int .i64 (lfE s p.2 f.1.2 f.2.1))])),(24,(.vs tI (!ieq (lfE s p.2 f.1.2 f.2.1) 0) (lfL s p f.1.2 f.2.1))),(25,(.int .i64 (lfE s p.2 f.1.2 f.2.1))),(26,(.agg [(.int .i64 (s.1)),(.vs tN (s.2.1.1) (s.2.1.2)),(.int .i64 (s.2.2.1)),(.int .i64 (s.2.2.2.1)),(.int .i64 (s.2.2.2.2.1)),(.vs tI (s.2.2.2.2.2.1.1) (s.2.2.2.2.2.1.2))])),(27,(.vs tO (p.1) (p.2))),(28,(.bool (ieq (plnV s p.2).2 0))),(29,(.bool (!ieq (plnV s p.2).2 0))),(30,(.bool (false))),(31,(.int .i64 (lfE s p.2 f.1.2 f.2.1))),(32,(.bool (!ieq (lfE s p.2 f.1.2 f.2.1) 0))),(33,(.bool (false))),(44,(.ptr 1 1)),(45,(.int .i64 (f.2.1))),(46,(.bool (!ile 0 f.2.1))),(47,(.bool (false))),(48,(.ptr 1 1)),(49,(.int .i64 (f.2.1))),(50,(.ptr 0 0)),(51,(.int .i64 (s.1))),(52,(.bool (ile s.1 f.2.1))),(53,(.bool (ile s.1 f.2.1))),(54,(.bool (false))),(55,(.vs tI (!ieq (lfE s p.2 f.1.2 f.2.1) 0) (lfL s p f.1.2 f.2.1))),(56,(.int .i64 (Int.ofNat (lfL s p f.1.2 f.2.1).length))),(57,(.ptr 0 1)),(58,(.vs tN (s.2.1.1) (s.2.1.2))),(59,(.int .i64 (Int.ofNat s.2.1.2.length))),(60,(.bool (!ieq ↑(lfL s p f.1.2 f.2.1).length ↑s.2.1.2.length))),(61,(.bool (false))),(62,(.ptr 1 1)),(63,(.int .i64 (f.2.1))),(64,(.bool (false))),(86,(.int .i64 x17)),(87,(.vs tI (!ieq (lfE s p.2 f.1.2 f.2.1) 0) (lfL s p f.1.2 f.2.1))),(88,(.int .i64 (Int.ofNat (lfL s p f.1.2 f.2.1).length))),(89,(.bool (true)))]) x181),(.blk 2),(.seq (pcOf F12 5 [1,1,0,0,1,0,0,1,0,1,1,1,1,1,1])),(.blk 1),(.seq (pcOf F12 5 [1,1,0,0,1,0,1,1,1,1,1,1])),(.lop (pcOf F12 5 [0,0,1,0,1,1,1,1,1,1]) 3 (tmOf 175 [(0,(.agg [(.int .i64 (s.1)),(.vs tN (s.2.1.1) (s.2.1.2)),(.int .i64 (s.2.2.1)),(.int .i64 (s.2.2.2.1)),(.int .i64 (s.2.2.2.2.1)),(.vs tI (s.2.2.2.2.2.1.1) (s.2.2.2.2.2.1.2))])),(1,(.vs tO (p.1) (p.2))),(2,(.agg [(.vs tI (f.1.1) (f.1.2)),(.int .i64 (f.2.1))])),(3,(.ptr 0 0)),(5,(.ptr 1 0)),(6,(.bool (false))),(7,(.vs tI (!ieq (lfE s p.2 f.1.2 f.2.1) 0) (lfL s p f.1.2 f.2.1))),(8,(.int .i64 (lfE s p.2 f.1.2 f.2.1))),(9,.nils),(12,(.int .i64 (0))),(16,(.tup [(.vs tI (!ieq (lfE s p.2 f.1.2 f.2.1) 0) (lfL s p f.1.2 f.2.1)),(.int .i64 (lfE s p.2 f.1.2 f.2.1))])),(17,(.agg [(.int .i64 (s.1)),(.vs tN (s.2.1.1) (s.2.1.2)),(.int .i64 (s.2.2.1)),(.int .i64 (s.2.2.2.1)),(.int .i64 (s.2.2.2.2.1)),(.vs tI (s.2.2.2.2.2.1.1) (s.2.2.2.2.2.1.2))])),(18,(.vs tO (p.1) (p.2))),(19,(.ptr 1 0)),(20,(.vs tI (f.1.1) (f.1.2))),(21,(.ptr 1 1)),(22,(.int .i64 (f.2.1))),(23,(.tup [(.vs tI (!ieq (lfE s p.2 f.1.2 f.2.1) 0) (lfL s p f.1.2 f.2.1)),(.int .i64 (lfE s p.2 f.1.2 f.2.1))])),(24,(.vs tI (!ieq (lfE s p.2 f.1.2 f.2.1) 0) (lfL s p f.1.2 f.2.1))),(25,(.int .i64 (lfE s p.2 f.1.2 f.2.1))),(26,(.agg [(.int .i64 (s.1)),(.vs tN (s.2.1.1) (s.2.1.2)),(.int .i64 (s.2.2.1)),(.int .i64 (s.2.2.2.1)),(.int .i64 (s.2.2.2.2.1)),(.vs tI (s.2.2.2.2.2.1.1) (s.2.2.2.2.2.1.2))])),(27,(.vs tO (p.1) (p.2))),(28,(.bool (ieq (plnV s p.2).2 0))),(29,(.bool (!ieq (plnV s p.2).2 0))),(30,(.bool (false))),(31,(.int .i64 (lfE s p.2 f.1.2 f.2.1))),(32,(.bool (!ieq (lfE s p.2 f.1.2 f.2.1) 0))),(33,(.bool (false))),(44,(.ptr 1 1)),(45,(.int .i64 (f.2.1))),(46,(.bool (!ile 0 f.2.1))),(47,(.bool (false))),(48,(.ptr 1 1)),(49,(.int .i64 (f.2.1))),(50,(.ptr 0 0)),(51,(.int .i64 (s.1))),(52,(.bool (ile s.1 f.2.1))),(53,(.bool (ile s.1 f.2.1))),(54,(.bool (false))),(55,(.vs tI (!ieq (lfE s p.2 f.1.2 f.2.1) 0) (lfL s p f.1.2 f.2.1))),(56,(.int .i64 (Int.ofNat (lfL s p f.1.2 f.2.1).length))),(57,(.ptr 0 1)),(58,(.vs tN (s.2.1.1) (s.2.1.2))),(59,(.int .i64 (Int.ofNat s.2.1.2.length))),(60,(.bool (!ieq ↑(lfL s p f.1.2 f.2.1).length ↑s.2.1.2.length))),(61,(.bool (false))),(62,(.ptr 1 1)),(63,(.int .i64 (f.2.1))),(64,(.bool (false)))]) x256),(.blk 0),(.seq (pcOf F12 5 [1,1,1,1,1,1,1])),(.cal [(.tmp 6)] .top)]⟩
noncomputable def tleI3 (s:tS.den) (p:(Ty.sl tO).den) (f:tF.den) (x22:Int) (x23:Bool) (x24:Int) (x263:Nat) (x379:Nat):Cfg:=⟨.ex (pcOf F12 5 [0,0,1,0,1,0,0,1,0,0,1,0,1,1,1,1,1,1]) ⟨(tmOf 175 [(0,(.agg [(.int .i64 (s.1)),(.vs tN (s.2.1.1) (s.2.1.2)),(.int .i64 (s.2.2.1)),(.int .i64 (s.2.2.2.1)),(.int .i64 (s.2.2.2.2.1)),(.vs tI (s.2.2.2.2.2.1.1) (s.2.2.2.2.2.1.2))])),(1,(.vs tO (p.1) (p.2))),(2,(.agg [(.vs tI (f.1.1) (f.1.2)),(.int .i64 (f.2.1))])),(3,(.ptr 0 0)),(5,(.ptr 1 0)),(6,(.bool (false))),(7,(.vs tI (!ieq (lfE s p.2 f.1.2 f.2.1) 0) (lfL s p f.1.2 f.2.1))),(8,(.int .i64 (lfE s p.2 f.1.2 f.2.1))),(9,(.vs tI (!ieq (lfE s p.2 f.1.2 (wr .i64 (f.2.1-1))) 0) (lfL s p f.1.2 (wr .i64 (f.2.1-1))))),(10,(.vs tI (!ieq (lfE s p.2 f.1.2 (wr .i64 (f.2.1-1))) 0) (lfL s p f.1.2 (wr .i64 (f.2.1-1))))),(11,(.int .i64 (lfE s p.2 f.1.2 (wr .i64 (f.2.1-1))))),(12,(.int .i64 x22)),(13,(.bool x23)),(14,(.int .i64 x24)),(16,(.tup [(.vs tI (!ieq (lfE s p.2 f.1.2 f.2.1) 0) (lfL s p f.1.2 f.2.1)),(.int .i64 (lfE s p.2 f.1.2 f.2.1))])),(17,(.agg [(.int .i64 (s.1)),(.vs tN (s.2.1.1) (s.2.1.2)),(.int .i64 (s.2.2.1)),(.int .i64 (s.2.2.2.1)),(.int .i64 (s.2.2.2.2.1)),(.vs tI (s.2.2.2.2.2.1.1) (s.2.2.2.2.2.1.2))])),(18,(.vs tO (p.1) (p.2))),(19,(.ptr 1 0)),(20,(.vs tI (f.1.1) (f.1.2))),(21,(.ptr 1 1)),(22,(.int .i64 (f.2.1))),(23,(.tup [(.vs tI (!ieq (lfE s p.2 f.1.2 f.2.1) 0) (lfL s p f.1.2 f.2.1)),(.int .i64 (lfE s p.2 f.1.2 f.2.1))])),(24,(.vs tI (!ieq (lfE s p.2 f.1.2 f.2.1) 0) (lfL s p f.1.2 f.2.1))),(25,(.int .i64 (lfE s p.2 f.1.2 f.2.1))),(26,(.agg [(.int .i64 (s.1)),(.vs tN (s.2.1.1) (s.2.1.2)),(.int .i64 (s.2.2.1)),(.int .i64 (s.2.2.2.1)),(.int .i64 (s.2.2.2.2.1)),(.vs tI (s.2.2.2.2.2.1.1) (s.2.2.2.2.2.1.2))])),(27,(.vs tO (p.1) (p.2))),(28,(.bool (ieq (plnV s p.2).2 0))),(29,(.bool (!ieq (plnV s p.2).2 0))),(30,(.bool (false))),(31,(.int .i64 (lfE s p.2 f.1.2 f.2.1))),(32,(.bool (!ieq (lfE s p.2 f.1.2 f.2.1) 0))),(33,(.bool (false))),(44,(.ptr 1 1)),(45,(.int .i64 (f.2.1))),(46,(.bool (!ile 0 f.2.1))),(47,(.bool (false))),(48,(.ptr 1 1)),(49,(.int .i64 (f.2.1))),(50,(.ptr 0 0)),(51,(.int .i64 (s.1))),(52,(.bool (ile s.1 f.2.1))),(53,(.bool (ile s.1 f.2.1))),(54,(.bool (false))),(55,(.vs tI (!ieq (lfE s p.2 f.1.2 f.2.1) 0) (lfL s p f.1.2 f.2.1))),(56,(.int .i64 (Int.ofNat (lfL s p f.1.2 f.2.1).length))),(57,(.ptr 0 1)),(58,(.vs tN (s.2.1.1) (s.2.1.2))),(59,(.int .i64 (Int.ofNat s.2.1.2.length))),(60,(.bool (!ieq ↑(lfL s p f.1.2 f.2.1).length ↑s.2.1.2.length))),(61,(.bool (false))),(62,(.ptr 1 1)),(63,(.int .i64 (f.2.1))),(64,(.bool (true))),(65,(.tup [(.vs tI (!ieq (lfE s p.2 f.1.2 (wr .i64 (f.2.1-1))) 0) (lfL s p f.1.2 (wr .i64 (f.2.1-1)))),(.int .i64 (lfE s p.2 f.1.2 (wr .i64 (f.2.1-1))))])),(66,(.agg [(.int .i64 (s.1)),(.vs tN (s.2.1.1) (s.2.1.2)),(.int .i64 (s.2.2.1)),(.int .i64 (s.2.2.2.1)),(.int .i64 (s.2.2.2.2.1)),(.vs tI (s.2.2.2.2.2.1.1) (s.2.2.2.2.2.1.2))])),(67,(.vs tO (p.1) (p.2))),(68,(.ptr 1 0)),(69,(.vs tI (f.1.1) (f.1.2))),(70,(.ptr 1 1)),(71,(.int .i64 (f.2.1))),(72,(.int .i64 (wr .i64 (f.2.1-1)))),(73,(.tup [(.vs tI (!ieq (lfE s p.2 f.1.2 (wr .i64 (f.2.1-1))) 0) (lfL s p f.1.2 (wr .i64 (f.2.1-1)))),(.int .i64 (lfE s p.2 f.1.2 (wr .i64 (f.2.1-1))))])),(74,(.vs tI (!ieq (lfE s p.2 f.1.2 (wr .i64 (f.2.1-1))) 0) (lfL s p f.1.2 (wr .i64 (f.2.1-1))))),(75,(.int .i64 (lfE s p.2 f.1.2 (wr .i64 (f.2.1-1))))),(76,(.int .i64 (lfE s p.2 f.1.2 (wr .i64 (f.2.1-1))))),(77,(.bool (!ieq (lfE s p.2 f.1.2 (wr .i64 (f.2.1-1))) 0))),(78,(.bool (false))),(79,(.vs tI (!ieq (lfE s p.2 f.1.2 (wr .i64 (f.2.1-1))) 0) (lfL s p f.1.2 (wr .i64 (f.2.1-1))))),(80,(.int .i64 (Int.ofNat (lfL s p f.1.2 (wr .i64 (f.2.1-1))).length))),(81,(.vs tI (!ieq (lfE s p.2 f.1.2 f.2.1) 0) (lfL s p f.1.2 f.2.1))),(82,(.int .i64 (Int.ofNat (lfL s p f.1.2 f.2.1).length))),(83,(.bool (!ieq ↑(lfL s p f.1.2 (wr .i64 (f.2.1-1))).length ↑(lfL s p f.1.2 f.2.1).length))),(84,(.bool (false))),(85,(.vs tI (!ieq (lfE s p.2 f.1.2 (wr .i64 (f.2.1-1))) 0) (lfL s p f.1.2 (wr .i64 (f.2.1-1))))),(86,(.int .i64 x22)),(87,(.vs tI (!ieq (lfE s p.2 f.1.2 f.2.1) 0) (lfL s p f.1.2 f.2.1))),(88,(.int .i64 (Int.ofNat (lfL s p f.1.2 f.2.1).length))),(89,(.bool (true)))]),(hpOf 3 [(0,(.cells false [(.int .i64 (s.1)),(.vs tN (s.2.1.1) (s.2.1.2)),(.int .i64 (s.2.2.1)),(.int .i64 (s.2.2.2.1)),(.int .i64 (s.2.2.2.2.1)),(.vs tI (s.2.2.2.2.2.1.1) (s.2.2.2.2.2.1.2))])),(1,(.cells false [(.vs tI (f.1.1) (f.1.2)),(.int .i64 (f.2.1))])),(2,(.cells false [(.int .i64 (s.1)),(.vs tN (s.2.1.1) (s.2.1.2)),(.int .i64 (s.2.2.1)),(.int .i64 (s.2.2.2.1)),(.int .i64 (s.2.2.2.2.1)),(.vs tI (s.2.2.2.2.2.1.1) (s.2.2.2.2.2.1.2))]))]),[],[],175,false⟩,⟨40,[]⟩,[(.lop (pcOf F12 5 [0,0,1,0,1,0,0,1,0,0,1,0,1,1,1,1,1,1]) 3 (tmOf 175 [(0,(.agg [(.int .i64 (s.1)),(.vs tN (s.2.1.1) (s.2.1.2)),(.int .i64 (s.2.2.1)),(.int .i64 (s.2.2.2.1)),(.int .i64 (s.2.2.2.2.1)),(.vs tI (s.2.2.2.2.2.1.1) (s.2.2.2.2.2.1.2))])),(1,(.vs tO (p.1) (p.2))),(2,(.agg [(.vs tI (f.1.1) (f.1.2)),(.int .i64 (f.2.1))])),(3,(.ptr 0 0)),(5,(.ptr 1 0)),(6,(.bool (false))),(7,(.vs tI (!ieq (lfE s p.2 f.1.2 f.2.1) 0) (lfL s p f.1.2 f.2.1))),(8,(.int .i64 (lfE s p.2 f.1.2 f.2.1))),(9,(.vs tI (!ieq (lfE s p.2 f.1.2 (wr .i64 (f.2.1-1))) 0) (lfL s p f.1.2 (wr .i64 (f.2.1-1))))),(10,(.vs tI (!ieq (lfE s p.2 f.1.2 (wr .i64 (f.2.1-1))) 0) (lfL s p f.1.2 (wr .i64 (f.2.1-1))))),(11,(.int .i64 (lfE s p.2 f.1.2 (wr .i64 (f.2.1-1))))),(12,(.int .i64 x22)),(13,(.bool (false))),(14,(.int .i64 (0))),(16,(.tup [(.vs tI (!ieq (lfE s p.2 f.1.2 f.2.1) 0) (lfL s p f.1.2 f.2.1)),(.int .i64 (lfE s p.2 f.1.2 f.2.1))])),(17,(.agg [(.int .i64 (s.1)),(.vs tN (s.2.1.1) (s.2.1.2)),(.int .i64 (s.2.2.1)),(.int .i64 (s.2.2.2.1)),(.int .i64 (s.2.2.2.2.1)),(.vs tI (s.2.2.2.2.2.1.1) (s.2.2.2.2.2.1.2))])),(18,(.vs tO (p.1) (p.2))),(19,(.ptr 1 0)),(20,(.vs tI (f.1.1) (f.1.2))),(21,(.ptr 1 1)),(22,(.int .i64 (f.2.1))),(23,(.tup [(.vs tI (!ieq (lfE s p.2 f.1.2 f.2.1) 0) (lfL s p f.1.2 f.2.1)),(.int .i64 (lfE s p.2 f.1.2 f.2.1))])),(24,(.vs tI (!ieq (lfE s p.2 f.1.2 f.2.1) 0) (lfL s p f.1.2 f.2.1))),(25,(.int .i64 (lfE s p.2 f.1.2 f.2.1))),(26,(.agg [(.int .i64 (s.1)),(.vs tN (s.2.1.1) (s.2.1.2)),(.int .i64 (s.2.2.1)),(.int .i64 (s.2.2.2.1)),(.int .i64 (s.2.2.2.2.1)),(.vs tI (s.2.2.2.2.2.1.1) (s.2.2.2.2.2.1.2))])),(27,(.vs tO (p.1) (p.2))),(28,(.bool (ieq (plnV s p.2).2 0))),(29,(.bool (!ieq (plnV s p.2).2 0))),(30,(.bool (false))),(31,(.int .i64 (lfE s p.2 f.1.2 f.2.1))),(32,(.bool (!ieq (lfE s p.2 f.1.2 f.2.1) 0))),(33,(.bool (false))),(44,(.ptr 1 1)),(45,(.int .i64 (f.2.1))),(46,(.bool (!ile 0 f.2.1))),(47,(.bool (false))),(48,(.ptr 1 1)),(49,(.int .i64 (f.2.1))),(50,(.ptr 0 0)),(51,(.int .i64 (s.1))),(52,(.bool (ile s.1 f.2.1))),(53,(.bool (ile s.1 f.2.1))),(54,(.bool (false))),(55,(.vs tI (!ieq (lfE s p.2 f.1.2 f.2.1) 0) (lfL s p f.1.2 f.2.1))),(56,(.int .i64 (Int.ofNat (lfL s p f.1.2 f.2.1).length))),(57,(.ptr 0 1)),(58,(.vs tN (s.2.1.1) (s.2.1.2))),(59,(.int .i64 (Int.ofNat s.2.1.2.length))),(60,(.bool (!ieq ↑(lfL s p f.1.2 f.2.1).length ↑s.2.1.2.length))),(61,(.bool (false))),(62,(.ptr 1 1)),(63,(.int .i64 (f.2.1))),(64,(.bool (true))),(65,(.tup [(.vs tI (!ieq (lfE s p.2 f.1.2 (wr .i64 (f.2.1-1))) 0) (lfL s p f.1.2 (wr .i64 (f.2.1-1)))),(.int .i64 (lfE s p.2 f.1.2 (wr .i64 (f.2.1-1))))])),(66,(.agg [(.int .i64 (s.1)),(.vs tN (s.2.1.1) (s.2.1.2)),(.int .i64 (s.2.2.1)),(.int .i64 (s.2.2.2.1)),(.int .i64 (s.2.2.2.2.1)),(.vs tI (s.2.2.2.2.2.1.1) (s.2.2.2.2.2.1.2))])),(67,(.vs tO (p.1) (p.2))),(68,(.ptr 1 0)),(69,(.vs tI (f.1.1) (f.1.2))),(70,(.ptr 1 1)),(71,(.int .i64 (f.2.1))),(72,(.int .i64 (wr .i64 (f.2.1-1)))),(73,(.tup [(.vs tI (!ieq (lfE s p.2 f.1.2 (wr .i64 (f.2.1-1))) 0) (lfL s p f.1.2 (wr .i64 (f.2.1-1)))),(.int .i64 (lfE s p.2 f.1.2 (wr .i64 (f.2.1-1))))])),(74,(.vs tI (!ieq (lfE s p.2 f.1.2 (wr .i64 (f.2.1-1))) 0) (lfL s p f.1.2 (wr .i64 (f.2.1-1))))),(75,(.int .i64 (lfE s p.2 f.1.2 (wr .i64 (f.2.1-1))))),(76,(.int .i64 (lfE s p.2 f.1.2 (wr .i64 (f.2.1-1))))),(77,(.bool (!ieq (lfE s p.2 f.1.2 (wr .i64 (f.2.1-1))) 0))),(78,(.bool (false))),(79,(.vs tI (!ieq (lfE s p.2 f.1.2 (wr .i64 (f.2.1-1))) 0) (lfL s p f.1.2 (wr .i64 (f.2.1-1))))),(80,(.int .i64 (Int.ofNat (lfL s p f.1.2 (wr .i64 (f.2.1-1))).length))),(81,(.vs tI (!ieq (lfE s p.2 f.1.2 f.2.1) 0) (lfL s p f.1.2 f.2.1))),(82,(.int .i64 (Int.ofNat (lfL s p f.1.2 f.2.1).length))),(83,(.bool (!ieq ↑(lfL s p f.1.2 (wr .i64 (f.2.1-1))).length ↑(lfL s p f.1.2 f.2.1).length))),(84,(.bool (false))),(85,(.vs tI (!ieq (lfE s p.2 f.1.2 (wr .i64 (f.2.1-1))) 0) (lfL s p f.1.2 (wr .i64 (f.2.1-1))))),(86,(.int .i64 x22)),(87,(.vs tI (!ieq (lfE s p.2 f.1.2 f.2.1) 0) (lfL s p f.1.2 f.2.1))),(88,(.int .i64 (Int.ofNat (lfL s p f.1.2 f.2.1).length))),(89,(.bool (true)))]) x263),(.blk 2),(.seq (pcOf F12 5 [1,1,0,0,1,0,0,1,0,1,1,1,1,1,1])),(.blk 1),(.seq (pcOf F12 5 [1,1,0,0,1,0,1,1,1,1,1,1])),(.lop (pcOf F12 5 [0,0,1,0,1,1,1,1,1,1]) 3 (tmOf 175 [(0,(.agg [(.int .i64 (s.1)),(.vs tN (s.2.1.1) (s.2.1.2)),(.int .i64 (s.2.2.1)),(.int .i64 (s.2.2.2.1)),(.int .i64 (s.2.2.2.2.1)),(.vs tI (s.2.2.2.2.2.1.1) (s.2.2.2.2.2.1.2))])),(1,(.vs tO (p.1) (p.2))),(2,(.agg [(.vs tI (f.1.1) (f.1.2)),(.int .i64 (f.2.1))])),(3,(.ptr 0 0)),(5,(.ptr 1 0)),(6,(.bool (false))),(7,(.vs tI (!ieq (lfE s p.2 f.1.2 f.2.1) 0) (lfL s p f.1.2 f.2.1))),(8,(.int .i64 (lfE s p.2 f.1.2 f.2.1))),(9,(.vs tI (!ieq (lfE s p.2 f.1.2 (wr .i64 (f.2.1-1))) 0) (lfL s p f.1.2 (wr .i64 (f.2.1-1))))),(10,(.vs tI (!ieq (lfE s p.2 f.1.2 (wr .i64 (f.2.1-1))) 0) (lfL s p f.1.2 (wr .i64 (f.2.1-1))))),(11,(.int .i64 (lfE s p.2 f.1.2 (wr .i64 (f.2.1-1))))),(12,(.int .i64 (0))),(16,(.tup [(.vs tI (!ieq (lfE s p.2 f.1.2 f.2.1) 0) (lfL s p f.1.2 f.2.1)),(.int .i64 (lfE s p.2 f.1.2 f.2.1))])),(17,(.agg [(.int .i64 (s.1)),(.vs tN (s.2.1.1) (s.2.1.2)),(.int .i64 (s.2.2.1)),(.int .i64 (s.2.2.2.1)),(.int .i64 (s.2.2.2.2.1)),(.vs tI (s.2.2.2.2.2.1.1) (s.2.2.2.2.2.1.2))])),(18,(.vs tO (p.1) (p.2))),(19,(.ptr 1 0)),(20,(.vs tI (f.1.1) (f.1.2))),(21,(.ptr 1 1)),(22,(.int .i64 (f.2.1))),(23,(.tup [(.vs tI (!ieq (lfE s p.2 f.1.2 f.2.1) 0) (lfL s p f.1.2 f.2.1)),(.int .i64 (lfE s p.2 f.1.2 f.2.1))])),(24,(.vs tI (!ieq (lfE s p.2 f.1.2 f.2.1) 0) (lfL s p f.1.2 f.2.1))),(25,(.int .i64 (lfE s p.2 f.1.2 f.2.1))),(26,(.agg [(.int .i64 (s.1)),(.vs tN (s.2.1.1) (s.2.1.2)),(.int .i64 (s.2.2.1)),(.int .i64 (s.2.2.2.1)),(.int .i64 (s.2.2.2.2.1)),(.vs tI (s.2.2.2.2.2.1.1) (s.2.2.2.2.2.1.2))])),(27,(.vs tO (p.1) (p.2))),(28,(.bool (ieq (plnV s p.2).2 0))),(29,(.bool (!ieq (plnV s p.2).2 0))),(30,(.bool (false))),(31,(.int .i64 (lfE s p.2 f.1.2 f.2.1))),(32,(.bool (!ieq (lfE s p.2 f.1.2 f.2.1) 0))),(33,(.bool (false))),(44,(.ptr 1 1)),(45,(.int .i64 (f.2.1))),(46,(.bool (!ile 0 f.2.1))),(47,(.bool (false))),(48,(.ptr 1 1)),(49,(.int .i64 (f.2.1))),(50,(.ptr 0 0)),(51,(.int .i64 (s.1))),(52,(.bool (ile s.1 f.2.1))),(53,(.bool (ile s.1 f.2.1))),(54,(.bool (false))),(55,(.vs tI (!ieq (lfE s p.2 f.1.2 f.2.1) 0) (lfL s p f.1.2 f.2.1))),(56,(.int .i64 (Int.ofNat (lfL s p f.1.2 f.2.1).length))),(57,(.ptr 0 1)),(58,(.vs tN (s.2.1.1) (s.2.1.2))),(59,(.int .i64 (Int.ofNat s.2.1.2.length))),(60,(.bool (!ieq ↑(lfL s p f.1.2 f.2.1).length ↑s.2.1.2.length))),(61,(.bool (false))),(62,(.ptr 1 1)),(63,(.int .i64 (f.2.1))),(64,(.bool (true))),(65,(.tup [(.vs tI (!ieq (lfE s p.2 f.1.2 (wr .i64 (f.2.1-1))) 0) (lfL s p f.1.2 (wr .i64 (f.2.1-1)))),(.int .i64 (lfE s p.2 f.1.2 (wr .i64 (f.2.1-1))))])),(66,(.agg [(.int .i64 (s.1)),(.vs tN (s.2.1.1) (s.2.1.2)),(.int .i64 (s.2.2.1)),(.int .i64 (s.2.2.2.1)),(.int .i64 (s.2.2.2.2.1)),(.vs tI (s.2.2.2.2.2.1.1) (s.2.2.2.2.2.1.2))])),(67,(.vs tO (p.1) (p.2))),(68,(.ptr 1 0)),(69,(.vs tI (f.1.1) (f.1.2))),(70,(.ptr 1 1)),(71,(.int .i64 (f.2.1))),(72,(.int .i64 (wr .i64 (f.2.1-1)))),(73,(.tup [(.vs tI (!ieq (lfE s p.2 f.1.2 (wr .i64 (f.2.1-1))) 0) (lfL s p f.1.2 (wr .i64 (f.2.1-1)))),(.int .i64 (lfE s p.2 f.1.2 (wr .i64 (f.2.1-1))))])),(74,(.vs tI (!ieq (lfE s p.2 f.1.2 (wr .i64 (f.2.1-1))) 0) (lfL s p f.1.2 (wr .i64 (f.2.1-1))))),(75,(.int .i64 (lfE s p.2 f.1.2 (wr .i64 (f.2.1-1))))),(76,(.int .i64 (lfE s p.2 f.1.2 (wr .i64 (f.2.1-1))))),(77,(.bool (!ieq (lfE s p.2 f.1.2 (wr .i64 (f.2.1-1))) 0))),(78,(.bool (false))),(79,(.vs tI (!ieq (lfE s p.2 f.1.2 (wr .i64 (f.2.1-1))) 0) (lfL s p f.1.2 (wr .i64 (f.2.1-1))))),(80,(.int .i64 (Int.ofNat (lfL s p f.1.2 (wr .i64 (f.2.1-1))).length))),(81,(.vs tI (!ieq (lfE s p.2 f.1.2 f.2.1) 0) (lfL s p f.1.2 f.2.1))),(82,(.int .i64 (Int.ofNat (lfL s p f.1.2 f.2.1).length))),(83,(.bool (!ieq ↑(lfL s p f.1.2 (wr .i64 (f.2.1-1))).length ↑(lfL s p f.1.2 f.2.1).length))),(84,(.bool (false))),(85,(.vs tI (!ieq (lfE s p.2 f.1.2 (wr .i64 (f.2.1-1))) 0) (lfL s p f.1.2 (wr .i64 (f.2.1-1)))))]) x379),(.blk 0),(.seq (pcOf F12 5 [1,1,1,1,1,1,1])),(.cal [(.tmp 6)] .top)]⟩
theorem tle_start (s:tS.den) (p:(Ty.sl tO).den) (f:tF.den):adv F12 (Z12 [5]) 3000 (startC F12 5 [tS.av s,.vs tO p.1 p.2,tF.av f] 40)=(bif !ieq (plnV s p.2).2 0 then (bif !ieq (lfE s p.2 f.1.2 f.2.1) 0 then (bif ieq (↑(lfL s p f.1.2 f.2.1).length) 0 then some (.done (.bool (true))) else some (.done (.bool (false)))) else some (.done (.bool (false)))) else (bif !ieq (lfE s p.2 f.1.2 f.2.1) 0 then (bif !ieq (lfE s p.2 f.1.2 f.2.1) 0 then (bif ieq (↑(lfL s p f.1.2 f.2.1).length) 0 then some (.done (.bool (true))) else some (.done (.bool (false)))) else some (.done (.bool (false)))) else (bif !ile 0 f.2.1 then some (.done (.bool (false))) else (bif ile s.1 f.2.1 then some (.done (.bool (false))) else (bif !ieq ↑(lfL s p f.1.2 f.2.1).length ↑s.2.1.2.length then some (.done (.bool (false))) else (bif !ile f.2.1 0 then (bif !ieq (lfE s p.2 f.1.2 (wr .i64 (f.2.1-1))) 0 then some (.done (.bool (false))) else (bif !ieq ↑(lfL s p f.1.2 (wr .i64 (f.2.1-1))).length ↑(lfL s p f.1.2 f.2.1).length then some (.done (.bool (false))) else some (.stop (tleI1 s p f (0) (1048575))))) else some (.stop (tleI0 s p f (0) (1048575))))))))):=by kernel_rfl
theorem tle_step0 (s:tS.den) (p:(Ty.sl tO).den) (f:tF.den) (x17:Int) (x167:Nat):adv F12 (Z12 [5]) 3000 (tleI0 s p f x17 (x167+1))=(bif !ile (↑(lfL s p f.1.2 f.2.1).length) x17 then some (.stop (tleI2 s p f (x17) (false) (0) (1048575) (x167+1))) else (bif inB 0 s.2.1.2.length then (bif nameS (s.2.1.2.getD (Int.toNat 0) tN.dflt).1 then some (.done (.bool (true))) else some (.done (.bool (false)))) else none)):=by kernel_rfl
theorem tle_step1 (s:tS.den) (p:(Ty.sl tO).den) (f:tF.den) (x22:Int) (x249:Nat):adv F12 (Z12 [5]) 3000 (tleI1 s p f x22 (x249+1))=(bif !ile (↑(lfL s p f.1.2 f.2.1).length) x22 then some (.stop (tleI3 s p f (x22) (false) (0) (1048575) (x249+1))) else (bif inB 0 s.2.1.2.length then (bif nameS (s.2.1.2.getD (Int.toNat 0) tN.dflt).1 then some (.done (.bool (true))) else some (.done (.bool (false)))) else none)):=by kernel_rfl
theorem tle_step2 (s:tS.den) (p:(Ty.sl tO).den) (f:tF.den) (x17:Int) (x18:Bool) (x19:Int) (x181:Nat) (x256:Nat):adv F12 (Z12 [5]) 3000 (tleI2 s p f x17 x18 x19 (x181+1) (x256+1))=(bif !ile (↑p.2.length) x19 then (bif x18 then some (.stop (tleI2 s p f (x17) (true) (wr .i64 (x19+1)) (x181) (x256+1))) else (bif inB x19 p.2.length then (bif ieq (p.2.getD x19.toNat tO.dflt).1 f.2.1 then (bif le1k f.1.2 then (bif !hasV x19 f.1.2 then (bif inB x19 p.2.length then (bif le1k (p.2.getD x19.toNat tO.dflt).2.1.2 then (bif bbeq f.1.1 f.1.1 then (bif vsB tI f.1.2 tI f.1.2 then (bif ieq f.2.1 f.2.1 then some (.stop (tleI2 s p f (x17) (hasV x17 (p.2.getD x19.toNat tO.dflt).2.1.2) (wr .i64 (x19+1)) (x181) (x256+1))) else none) else none) else none) else none) else none) else (bif bbeq f.1.1 f.1.1 then (bif vsB tI f.1.2 tI f.1.2 then (bif ieq f.2.1 f.2.1 then some (.stop (tleI2 s p f (x17) (false) (wr .i64 (x19+1)) (x181) (x256+1))) else none) else none) else none)) else none) else (bif ieq f.2.1 f.2.1 then some (.stop (tleI2 s p f (x17) (false) (wr .i64 (x19+1)) (x181) (x256+1))) else none)) else none)) else (bif inB x17 s.2.1.2.length then (bif !ile f.2.1 0 then none else (bif x18 then (bif inB x17 s.2.1.2.length then (bif inB x17 (lfL s p f.1.2 f.2.1).length then (bif !ieq ((lfL s p f.1.2 f.2.1).getD x17.toNat tI.dflt) (s.2.1.2.getD x17.toNat tN.dflt).2.1 then some (.done (.bool (false))) else (bif inB x17 (lfL s p f.1.2 f.2.1).length then (bif inB x17 s.2.1.2.length then (bif !ile ((lfL s p f.1.2 f.2.1).getD x17.toNat tI.dflt) (s.2.1.2.getD x17.toNat tN.dflt).2.1 then some (.done (.bool (false))) else some (.stop (tleI0 s p f (wr .i64 (x17+1)) (x256)))) else none) else none)) else none) else none) else (bif inB x17 (lfL s p f.1.2 f.2.1).length then (bif !ieq ((lfL s p f.1.2 f.2.1).getD x17.toNat tI.dflt) (s.2.1.2.getD x17.toNat tN.dflt).2.2.1 then some (.done (.bool (false))) else (bif inB x17 (lfL s p f.1.2 f.2.1).length then (bif inB x17 s.2.1.2.length then (bif !ile ((lfL s p f.1.2 f.2.1).getD x17.toNat tI.dflt) (s.2.1.2.getD x17.toNat tN.dflt).2.1 then some (.done (.bool (false))) else some (.stop (tleI0 s p f (wr .i64 (x17+1)) (x256)))) else none) else none)) else none))) else none)):=by kernel_rfl
theorem tle_step3 (s:tS.den) (p:(Ty.sl tO).den) (f:tF.den) (x22:Int) (x23:Bool) (x24:Int) (x263:Nat) (x379:Nat):adv F12 (Z12 [5]) 3000 (tleI3 s p f x22 x23 x24 (x263+1) (x379+1))=(bif !ile (↑p.2.length) x24 then (bif x23 then some (.stop (tleI3 s p f (x22) (true) (wr .i64 (x24+1)) (x263) (x379+1))) else (bif inB x24 p.2.length then (bif ieq (p.2.getD x24.toNat tO.dflt).1 f.2.1 then (bif le1k f.1.2 then (bif !hasV x24 f.1.2 then (bif inB x24 p.2.length then (bif le1k (p.2.getD x24.toNat tO.dflt).2.1.2 then (bif bbeq f.1.1 f.1.1 then (bif vsB tI f.1.2 tI f.1.2 then (bif ieq f.2.1 f.2.1 then some (.stop (tleI3 s p f (x22) (hasV x22 (p.2.getD x24.toNat tO.dflt).2.1.2) (wr .i64 (x24+1)) (x263) (x379+1))) else none) else none) else none) else none) else none) else (bif bbeq f.1.1 f.1.1 then (bif vsB tI f.1.2 tI f.1.2 then (bif ieq f.2.1 f.2.1 then some (.stop (tleI3 s p f (x22) (false) (wr .i64 (x24+1)) (x263) (x379+1))) else none) else none) else none)) else none) else (bif ieq f.2.1 f.2.1 then some (.stop (tleI3 s p f (x22) (false) (wr .i64 (x24+1)) (x263) (x379+1))) else none)) else none)) else (bif inB x22 s.2.1.2.length then (bif !ile f.2.1 0 then (bif inB x22 (lfL s p f.1.2 (wr .i64 (f.2.1-1))).length then (bif x23 then (bif inB x22 s.2.1.2.length then (bif inB x22 (lfL s p f.1.2 f.2.1).length then (bif !ieq ((lfL s p f.1.2 f.2.1).getD x22.toNat tI.dflt) (s.2.1.2.getD x22.toNat tN.dflt).2.1 then some (.done (.bool (false))) else (bif inB x22 (lfL s p f.1.2 f.2.1).length then (bif inB x22 s.2.1.2.length then (bif !ile ((lfL s p f.1.2 f.2.1).getD x22.toNat tI.dflt) (s.2.1.2.getD x22.toNat tN.dflt).2.1 then some (.done (.bool (false))) else some (.stop (tleI1 s p f (wr .i64 (x22+1)) (x379)))) else none) else none)) else none) else none) else (bif inB x22 (lfL s p f.1.2 f.2.1).length then (bif !ieq ((lfL s p f.1.2 f.2.1).getD x22.toNat tI.dflt) (bif ile (wr .i64 ((lfL s p f.1.2 (wr .i64 (f.2.1-1))).getD x22.toNat tI.dflt-1)) 0 then 0 else wr .i64 ((lfL s p f.1.2 (wr .i64 (f.2.1-1))).getD x22.toNat tI.dflt-1)) then some (.done (.bool (false))) else (bif inB x22 (lfL s p f.1.2 f.2.1).length then (bif inB x22 s.2.1.2.length then (bif !ile ((lfL s p f.1.2 f.2.1).getD x22.toNat tI.dflt) (s.2.1.2.getD x22.toNat tN.dflt).2.1 then some (.done (.bool (false))) else some (.stop (tleI1 s p f (wr .i64 (x22+1)) (x379)))) else none) else none)) else none)) else none) else (bif x23 then (bif inB x22 s.2.1.2.length then (bif inB x22 (lfL s p f.1.2 f.2.1).length then (bif !ieq ((lfL s p f.1.2 f.2.1).getD x22.toNat tI.dflt) (s.2.1.2.getD x22.toNat tN.dflt).2.1 then some (.done (.bool (false))) else (bif inB x22 (lfL s p f.1.2 f.2.1).length then (bif inB x22 s.2.1.2.length then (bif !ile ((lfL s p f.1.2 f.2.1).getD x22.toNat tI.dflt) (s.2.1.2.getD x22.toNat tN.dflt).2.1 then some (.done (.bool (false))) else some (.stop (tleI1 s p f (wr .i64 (x22+1)) (x379)))) else none) else none)) else none) else none) else (bif inB x22 (lfL s p f.1.2 f.2.1).length then (bif !ieq ((lfL s p f.1.2 f.2.1).getD x22.toNat tI.dflt) (s.2.1.2.getD x22.toNat tN.dflt).2.2.1 then some (.done (.bool (false))) else (bif inB x22 (lfL s p f.1.2 f.2.1).length then (bif inB x22 s.2.1.2.length then (bif !ile ((lfL s p f.1.2 f.2.1).getD x22.toNat tI.dflt) (s.2.1.2.getD x22.toNat tN.dflt).2.1 then some (.done (.bool (false))) else some (.stop (tleI1 s p f (wr .i64 (x22+1)) (x379)))) else none) else none)) else none))) else none)):=by kernel_rfl
theorem LM_ok:∀ e∈LM,SaidG Try.prog F11.glob e:=
 saids_cons (XG.g (XG.closedT e1 x1 n1 tabs_ok.mix l2 kn_true) rfl) saids_nil
theorem xf12:ExtOK Try.prog F12:=xf11.sayL LM_ok
structure HL (s:tS.den) (p:(Ty.sl tO).den) (f:tF.den) (D:Nat):Prop where
 P:POK s p.2
 hf:∀ n∈f.1.2,inB n 8=true
 fl:f.1.2.length≤8
 d:f.2.1=(D:Int)
 L:lfL s p f.1.2 f.2.1=lisV s.2.1.2.length (stS (xSP s p) (withV f.1.2 fno) (D+1)).2
theorem t2_loop {s:tS.den} {p:(Ty.sl tO).den} {f:tF.den} {D:Nat} (H:HL s p f D) {k M:Nat}:∀ (r i m:Nat) (b:Bool),i+r=p.2.length→r<m →
  (∀ m',AnsB F12 (tleI2 s p f k (brgV f.1.2 D k i (p.2.drop i) b) p.2.length (m'+1) (M+1)) true)→AnsB F12 (tleI2 s p f k b i m (M+1)) true
 |0,i,m+1,b,hk,hm,K=>by
  have hi:i=p.2.length:=by omega
  subst hi
  have:=K m
  rw[List.drop_eq_nil_of_le (Nat.le_refl _)] at this
  exact this
 | r + 1, i, m + 1, b, hk, hm, K => by
  have h:=tle_step2 s p f k b i m M
  have hlt:i<p.2.length:=by omega
  have hlen:=H.P.len
  have hc:=(ors_in H.P.so.n3 H.P.ors _ (List.getElem_mem hlt)).2.2.1
  rw[ile_f (show (i:Int)<((p.2.length:Nat):Int) by omega),inB_at hlt,getD_at hlt,wr_succ (show i<1048577 by omega),show le1k f.1.2=true from Nat.ble_eq_true_of_le (by have:=H.fl;show f.1.2.length≤1000;omega),show le1k (p.2[i]).2.1.2=true from Nat.ble_eq_true_of_le (by show (p.2[i]).2.1.2.length≤1000;omega),ieq_self,bbeq_self,vsB_self,show f.2.1=(D:Int) from H.d] at h
  simp only[cond_not',Bool.not_false,cond_true,cond_false] at h
  have K2:∀ m',AnsB F12 (tleI2 s p f k (brgV f.1.2 D k (i+1) (p.2.drop (i+1)) (bif b then true else bif ieq (p.2[i]).1 (D:Int) then (bif hasV (i:Int) f.1.2 then false else hasV k (p.2[i]).2.1.2) else false)) p.2.length (m'+1) (M+1)) true:=fun m'=>by
   have:=K m'
   rw[List.drop_eq_getElem_cons hlt] at this
   exact this
  cases b with
  |true=>
   exact .stop (Z12_ok _) F12sy h (t2_loop H r (i+1) m true (by omega) (by omega) K2)
  | false =>
   cases c1:ieq (p.2[i]).1 (D:Int) with
   |false=>rw[c1] at h K2;exact .stop (Z12_ok _) F12sy h (t2_loop H r (i+1) m false (by omega) (by omega) K2)
   |true=>
    cases c2:hasV (i:Int) f.1.2 with
    |true=>rw[c1,c2] at h K2;exact .stop (Z12_ok _) F12sy h (t2_loop H r (i+1) m false (by omega) (by omega) K2)
    |false=>rw[c1,c2] at h K2;exact .stop (Z12_ok _) F12sy h (t2_loop H r (i+1) m _ (by omega) (by omega) K2)
theorem t3_loop {s:tS.den} {p:(Ty.sl tO).den} {f:tF.den} {D:Nat} (H:HL s p f D) {k M:Nat}:∀ (r i m:Nat) (b:Bool),i+r=p.2.length→r<m →
  (∀ m',AnsB F12 (tleI3 s p f k (brgV f.1.2 D k i (p.2.drop i) b) p.2.length (m'+1) (M+1)) true)→AnsB F12 (tleI3 s p f k b i m (M+1)) true
 |0,i,m+1,b,hk,hm,K=>by
  have hi:i=p.2.length:=by omega
  subst hi
  have:=K m
  rw[List.drop_eq_nil_of_le (Nat.le_refl _)] at this
  exact this
 | r + 1, i, m + 1, b, hk, hm, K => by
  have h:=tle_step3 s p f k b i m M
  have hlt:i<p.2.length:=by omega
  have hlen:=H.P.len
  have hc:=(ors_in H.P.so.n3 H.P.ors _ (List.getElem_mem hlt)).2.2.1
  rw[ile_f (show (i:Int)<((p.2.length:Nat):Int) by omega),inB_at hlt,getD_at hlt,wr_succ (show i<1048577 by omega),show le1k f.1.2=true from Nat.ble_eq_true_of_le (by have:=H.fl;show f.1.2.length≤1000;omega),show le1k (p.2[i]).2.1.2=true from Nat.ble_eq_true_of_le (by show (p.2[i]).2.1.2.length≤1000;omega),ieq_self,bbeq_self,vsB_self,show f.2.1=(D:Int) from H.d] at h
  simp only[cond_not',Bool.not_false,cond_true,cond_false] at h
  have K2:∀ m',AnsB F12 (tleI3 s p f k (brgV f.1.2 D k (i+1) (p.2.drop (i+1)) (bif b then true else bif ieq (p.2[i]).1 (D:Int) then (bif hasV (i:Int) f.1.2 then false else hasV k (p.2[i]).2.1.2) else false)) p.2.length (m'+1) (M+1)) true:=fun m'=>by
   have:=K m'
   rw[List.drop_eq_getElem_cons hlt] at this
   exact this
  cases b with
  |true=>
   exact .stop (Z12_ok _) F12sy h (t3_loop H r (i+1) m true (by omega) (by omega) K2)
  | false =>
   cases c1:ieq (p.2[i]).1 (D:Int) with
   |false=>rw[c1] at h K2;exact .stop (Z12_ok _) F12sy h (t3_loop H r (i+1) m false (by omega) (by omega) K2)
   |true=>
    cases c2:hasV (i:Int) f.1.2 with
    |true=>rw[c1,c2] at h K2;exact .stop (Z12_ok _) F12sy h (t3_loop H r (i+1) m false (by omega) (by omega) K2)
    |false=>rw[c1,c2] at h K2;exact .stop (Z12_ok _) F12sy h (t3_loop H r (i+1) m _ (by omega) (by omega) K2)
theorem name0 {s:tS.den} (S:SOK s):nameS (s.2.1.2.getD (Int.toNat 0) tN.dflt).1=true:=by
 have h1:=S.n1
 have hm:s.2.1.2.getD 0 tN.dflt∈s.2.1.2:=by
  rw[List.getD_eq_getElem?_getD,List.getElem?_eq_getElem (show 0<s.2.1.2.length by omega)];exact List.getElem_mem _
 exact (nd_in S.nd _ hm).1
theorem t0_ans {s:tS.den} {p:(Ty.sl tO).den} {f:tF.den} (H:HL s p f 0):∀ (r k m:Nat),k+r=s.2.1.2.length→r<m→AnsB F12 (tleI0 s p f k m) true
 |0,k,m+1,hk,hm=>by
  have h:=tle_step0 s p f k m
  have h1:=H.P.so.n1
  have h3:=H.P.so.n3
  rw[show lfL s p f.1.2 f.2.1=_ from H.L,lis_len h3,ile_t (show ((s.2.1.2.length:Nat):Int)≤(k:Int) by omega),inB_0 (by omega),name0 H.P.so] at h
  exact .doneB (Z12_ok _) F12sy h rfl
 | r + 1, k, m + 1, hk, hm => by
  have h:=tle_step0 s p f k m
  have h3:=H.P.so.n3
  have hlt:k<s.2.1.2.length:=by omega
  have hk3:k<3:=by omega
  have hlen:=H.P.len
  rw[show lfL s p f.1.2 f.2.1=_ from H.L,lis_len h3,ile_f (show (k:Int)<((s.2.1.2.length:Nat):Int) by omega)] at h
  refine .stop (Z12_ok _) F12sy h (t2_loop H p.2.length 0 1048575 false (Nat.zero_add _) (by omega) fun m'=>?_)
  rw[List.drop_zero]
  have h:=tle_step2 s p f k (brgV f.1.2 ((0:Nat):Int) k 0 p.2 false) p.2.length m' m
  have hin:=st_in H.P H.hf hlt (0+1)
  have hmc:=morn_c H.P H.hf 0 hk3
  rw[show lfL s p f.1.2 f.2.1=_ from H.L,lis_len h3,show (lisV s.2.1.2.length (stS (xSP s p) (withV f.1.2 fno) (0+1)).2).getD ((k:Nat):Int).toNat tI.dflt=_ from lis_at h3 hlt _,ile_t (Int.le_refl ((p.2.length:Nat):Int)),inB_at hlt,show f.2.1=((0:Nat):Int) from H.d,show ile ((0:Nat):Int) 0=true from rfl,wr_succ (show k<1048577 by omega)] at h
  rw[show (s.2.1.2.getD ((k:Nat):Int).toNat tN.dflt)=nI (xSP s p) k from rfl] at h
  have ef:=ful_c (xSP s p) hk3
  rw[ef] at hmc hin
  rw[ile_t hin.2] at h
  simp only[cond_not',Bool.not_true,cond_true,cond_false] at h
  cases c:brgV f.1.2 ((0:Nat):Int) k 0 p.2 false with
  |true=>
   rw[c] at h
   rw[c,cond_true] at hmc
   rw[hmc,ieq_self] at h
   exact .stop (Z12_ok _) F12sy h (t0_ans H r (k+1) m (by omega) (by omega))
  |false=>
   rw[c] at h
   rw[c,cond_false] at hmc
   rw[show cN (bif Nat.beq 0 0 then (stS (xSP s p) (withV f.1.2 fno) 0).2 else nexV (stS (xSP s p) (withV f.1.2 fno) 0).2) k=(nI (xSP s p) k).2.2.1 from fir_c (xSP s p) hk3] at hmc
   rw[hmc,ieq_self] at h
   exact .stop (Z12_ok _) F12sy h (t0_ans H r (k+1) m (by omega) (by omega))
theorem t1_ans {s:tS.den} {p:(Ty.sl tO).den} {f:tF.den} {D:Nat} (H:HL s p f (D+1)) (HP:lfL s p f.1.2 (wr .i64 (f.2.1-1))=lisV s.2.1.2.length (stS (xSP s p) (withV f.1.2 fno) (D+1)).2):∀ (r k m:Nat),k+r=s.2.1.2.length→r<m→AnsB F12 (tleI1 s p f k m) true
 |0,k,m+1,hk,hm=>by
  have h:=tle_step1 s p f k m
  have h1:=H.P.so.n1
  have h3:=H.P.so.n3
  rw[show lfL s p f.1.2 f.2.1=_ from H.L,lis_len h3,ile_t (show ((s.2.1.2.length:Nat):Int)≤(k:Int) by omega),inB_0 (by omega),name0 H.P.so] at h
  exact .doneB (Z12_ok _) F12sy h rfl
 | r + 1, k, m + 1, hk, hm => by
  have h:=tle_step1 s p f k m
  have h3:=H.P.so.n3
  have hlt:k<s.2.1.2.length:=by omega
  have hk3:k<3:=by omega
  have hlen:=H.P.len
  rw[show lfL s p f.1.2 f.2.1=_ from H.L,lis_len h3,ile_f (show (k:Int)<((s.2.1.2.length:Nat):Int) by omega)] at h
  refine .stop (Z12_ok _) F12sy h (t3_loop H p.2.length 0 1048575 false (Nat.zero_add _) (by omega) fun m'=>?_)
  rw[List.drop_zero]
  have h:=tle_step3 s p f k (brgV f.1.2 ((D+1:Nat):Int) k 0 p.2 false) p.2.length m' m
  have hin:=st_in H.P H.hf hlt (D+1+1)
  have hmc:=morn_c H.P H.hf (D+1) hk3
  rw[show lfL s p f.1.2 f.2.1=_ from H.L,show lfL s p f.1.2 (wr .i64 (f.2.1-1))=_ from HP,lis_len h3,lis_len h3,show (lisV s.2.1.2.length (stS (xSP s p) (withV f.1.2 fno) (D+1+1)).2).getD ((k:Nat):Int).toNat tI.dflt=_ from lis_at h3 hlt _,show (lisV s.2.1.2.length (stS (xSP s p) (withV f.1.2 fno) (D+1)).2).getD ((k:Nat):Int).toNat tI.dflt=_ from lis_at h3 hlt _,ile_t (Int.le_refl ((p.2.length:Nat):Int)),inB_at hlt,show f.2.1=((D+1:Nat):Int) from H.d,ile_f (show (0:Int)<((D+1:Nat):Int) by omega),wr_succ (show k<1048577 by omega)] at h
  rw[show (s.2.1.2.getD ((k:Nat):Int).toNat tN.dflt)=nI (xSP s p) k from rfl] at h
  have ef:=ful_c (xSP s p) hk3
  rw[ef] at hmc hin
  rw[ile_t hin.2] at h
  simp only[cond_not',Bool.not_true,Bool.not_false,cond_true,cond_false] at h
  cases c:brgV f.1.2 ((D+1:Nat):Int) k 0 p.2 false with
  |true=>
   rw[c] at h
   rw[c,cond_true] at hmc
   rw[hmc,ieq_self] at h
   exact .stop (Z12_ok _) F12sy h (t1_ans H HP r (k+1) m (by omega) (by omega))
  |false=>
   rw[c] at h
   rw[c,cond_false] at hmc
   rw[show Nat.beq (D+1) 0=false from rfl,cond_false,nex_c _ hk3] at hmc
   rw[hmc] at h
   unfold lesV at h
   rw[ieq_self] at h
   exact .stop (Z12_ok _) F12sy h (t1_ans H HP r (k+1) m (by omega) (by omega))
theorem lfE_ok {s:tS.den} {p:(Ty.sl tO).den} {f:List Int} {d:Int} (h:ieq (lfE s p.2 f d) 0=true):ieq (askV s p.2 f) 0=true∧@LE.le Int _ 0 d∧@LT.lt Int _ d s.1:=by
 unfold lfE at h
 cases c:ieq (askV s p.2 f) 0 with
 |false=>rw[c,cond_false] at h;rw[h] at c;cases c
 |true=>
 rw[c,cond_true] at h
 obtain⟨P,_⟩:=ask_ok c
 have d1:=P.so.d1;have d2:=P.so.d2
 cases c1:ile 0 d with
 |false=>rw[c1] at h;cases h
 |true=>
 cases c2:ile d (wr .i64 (s.1-1)) with
 |false=>rw[c1,c2] at h;cases h
 |true=>
 have i2:=ile_le c2
 rw[wr_in (by omega) (by omega)] at i2
 exact⟨rfl,ile_le c1,by omega⟩
theorem lfE_of {s:tS.den} {p:(Ty.sl tO).den} {f:List Int} {d:Int} (h:ieq (askV s p.2 f) 0=true) (h0:0≤d) (h1:@LT.lt Int _ d s.1):lfE s p.2 f d=0:=by
 obtain⟨P,_⟩:=ask_ok h
 have d1:=P.so.d1;have d2:=P.so.d2
 unfold lfE
 rw[h,ile_t h0,ile_t (show d≤wr .i64 (s.1-1) by rw[wr_in (by omega) (by omega)];omega)];rfl
theorem lfL_of {s:tS.den} {p:(Ty.sl tO).den} {f:List Int} {D:Nat} (h:ieq (askV s p.2 f) 0=true) (h1:@LT.lt Int _ (D:Int) s.1):lfL s p f (D:Int)=lisV s.2.1.2.length (stS (xSP s p) (withV f fno) (D+1)).2:=by
 unfold lfL
 rw[lfE_of h (Int.natCast_nonneg _) h1,lef_eq (x:=xSP s p) h1];rfl
theorem tle_true (s:tS.den) (p:(Ty.sl tO).den) (f:tF.den):∃ σ,callN F12 (40+1) 5 [tS.av s,(Ty.sl tO).av p,tF.av f] .empty [] []=some (.bool true,σ,[]):=by
 refine AnsB.call (ext_none (by kernel_rfl)) (hasB_spec (by kernel_rfl)) ?_
 have h:=tle_start s p f
 simp only[cond_not'] at h
 cases c:ieq (lfE s p.2 f.1.2 f.2.1) 0 with
 |false=>
  have e0:ieq ((lfL s p f.1.2 f.2.1).length:Int) 0=true:=by unfold lfL;rw[c];rfl
  rw[show ieq (lfE s p.2 f.1.2 f.2.1) 0=false from c,show ieq (↑(lfL s p f.1.2 f.2.1).length) 0=true from e0] at h
  cases c2:ieq (plnV s p.2).2 0 with
  |false=>rw[show ieq (plnV s p.2).2 0=false from c2] at h;exact .doneB (Z12_ok _) F12sy h rfl
  |true=>rw[show ieq (plnV s p.2).2 0=true from c2] at h;exact .doneB (Z12_ok _) F12sy h rfl
 | true =>
  obtain⟨ha,h0,h1⟩:=lfE_ok c
  obtain⟨P,hr,hl,hi⟩:=ask_ok ha
  have h3:=P.so.n3
  have c2:ieq (plnV s p.2).2 0=true:=by
   unfold askV at ha
   cases c2:ieq (plnV s p.2).2 0 with
   |true=>rfl
   |false=>rw[c2,cond_false] at ha;rw[ha] at c2;cases c2
  have hf:∀ n∈f.1.2,inB n 8=true:=inAll_at hi
  rw[show ieq (lfE s p.2 f.1.2 f.2.1) 0=true from c,show ieq (plnV s p.2).2 0=true from c2,ile_t h0,ile_f h1] at h
  simp only[cond_true,cond_false] at h
  obtain⟨D,hD⟩:∃ D:Nat,f.2.1=(D:Int):=⟨Int.toNat f.2.1,(Int.toNat_of_nonneg h0).symm⟩
  have hDs:@LT.lt Int _ (D:Int) s.1:=by rw[← hD];exact h1
  have HLL:lfL s p f.1.2 f.2.1=lisV s.2.1.2.length (stS (xSP s p) (withV f.1.2 fno) (D+1)).2:=by rw[hD];exact lfL_of ha hDs
  have H:HL s p f D:=⟨P,hf,hl,hD,HLL⟩
  rw[show lfL s p f.1.2 f.2.1=_ from HLL,lis_len h3,ieq_self,cond_true] at h
  cases D with
  |zero=>
   rw[show f.2.1=((0:Nat):Int) from hD,show ile ((0:Nat):Int) 0=true from rfl,cond_true] at h
   exact .stop (Z12_ok _) F12sy h (t0_ans H s.2.1.2.length 0 1048575 (Nat.zero_add _) (by omega))
  | succ D =>
   have d2:=P.so.d2
   have hw:wr .i64 (((D+1:Nat):Int)-1)=(D:Int):=by rw[wr_in (by omega) (by omega)];omega
   have hDs':@LT.lt Int _ (D:Int) s.1:=by omega
   have HP:lfL s p f.1.2 (wr .i64 (f.2.1-1))=lisV s.2.1.2.length (stS (xSP s p) (withV f.1.2 fno) (D+1)).2:=by
    rw[hD,hw];exact lfL_of ha hDs'
   rw[show lfL s p f.1.2 (wr .i64 (f.2.1-1))=_ from HP,lis_len h3,ieq_self,show f.2.1=((D+1:Nat):Int) from hD,hw,lfE_of ha (Int.natCast_nonneg _) hDs',ile_f (show (0:Int)<((D+1:Nat):Int) by omega),show ieq 0 0=true from rfl] at h
   simp only[cond_true,cond_false] at h
   exact .stop (Z12_ok _) F12sy h (t1_ans H HP s.2.1.2.length 0 1048575 (Nat.zero_add _) (by omega))
end Go.Proofs.Ytolgkckmppongaa


namespace Go.Proofs.Ytolgkckmppongaa
open Go Go.ChangeShapes Go.WideShapes Go.Eng
theorem kOwn:ownKnob Try.prog.godebug=none:=by kernel_rfl
theorem kNoLaid {W:World}:laidMet Try.prog [] W:=⟨[],rfl,List.nodup_nil,fun _ _ h=>absurd h (by simp)⟩
theorem kLaid:allT (glB Try.prog []) T0.gl (fun k=>k)=true:=by kernel_rfl
theorem kParams:Try.f5.params=#[25,26,28]:=by kernel_rfl
theorem kResults:Try.f5.resultTypes=#[4]:=by kernel_rfl
theorem kLaidOut:laidOutB Try.prog=true:=by kernel_rfl
theorem kRead:Try.f5.params.toList.all (fun t=>Try.prog.readableRec t&&decide (t<Try.prog.types.size))=true:=by kernel_rfl
theorem kFit1:fits Try.prog (tS) 25=true:=by kernel_rfl
theorem kFit2:fits Try.prog (Ty.sl tO) 26=true:=by kernel_rfl
theorem kFit3:fits Try.prog (tF) 28=true:=by kernel_rfl
theorem kGlob:F12.glob=T0.gl.get:=rfl
theorem kExt (c1:(tS).den) (c2:(Ty.sl tO).den) (c3:(tF).den):F12.ext 5 [tS.av c1,(Ty.sl tO).av c2,tF.av c3]=none:=ext_none (by kernel_rfl)
set_option maxRecDepth 100000 in
theorem kLifted (os:Os) (started:os.Started) (H:Type) (enc:TypeId×Value→H) :
  ReturnsInHanded {} Try.checked os 5 .any (Rows.tenderLeftSpec.pre6 enc Try.prog Try.f5 Rows.tenderLeftRow.domain false) (Rows.tenderLeftSpec.post enc Try.prog Try.f5 false true false false):=by
 refine returnsInHanded_of_change (C:=Try.checked) kOwn started (by kernel_rfl) Try.func5
  (ChangeSpec.witness6 (enc:=enc) (C:=Try.checked) false ⟨#[],#[.agg #[.int .i64 0,.slice none 0 0,.int .i64 0,.int .i64 0,.int .i64 0,.slice none 0 0],.slice none 0 0,.agg #[.slice none 0 0,.int .i64 0]],[]⟩ 8 (by kernel_rfl) (by kernel_rfl) (by kernel_rfl) (by kernel_rfl)) ?_
 intro W base args ds gs before hok hW _ _
 have hW':=hW
 obtain⟨p,q,hA,_⟩:=hW
 rw[kParams] at hA
 obtain⟨v1,v2,v3,d1,d2,d3,p1,p2,p3,e1',e2',hp,t1,t2,t3⟩:=trodAll_three hA
 subst e1';subst e2'
 rw[kParams] at hok
 obtain⟨c1,h1,w1⟩:=arg_ty (t:=tS) (hok 0 25 v1 rfl rfl) kFit1 t1
 obtain⟨c2,h2,w2⟩:=arg_ty (t:=Ty.sl tO) (hok 1 26 v2 rfl rfl) kFit2 t2
 obtain⟨c3,h3,w3⟩:=arg_ty (t:=tF) (hok 2 28 v3 rfl rfl) kFit3 t3
 obtain⟨σ,hrun⟩:=tle_true c1 c2 c3
 refine (law_run (A:=[v1,v2,v3]) (V:=Go.Eng.seen W) f12 xf12 nf12 tabs_ok.mix (kExt c1 c2 c3) hrun (.cons h1 (.cons h2 (.cons h3 (.nil _)))) (by kernel_rfl) (fun _ _ _ h=>h) (glob_of kGlob kLaid kNoLaid)).mono fun e W' ⟨he,hf⟩=>?_
 subst he
 exact⟨_,rfl,post_law kLaidOut kRead kResults Try.underlying4 rfl rfl hW' hf⟩
theorem tenderLeft_holds:Rows.TenderLeftSaid:=
 OpenClaim.holds_of_wide 5 Try.f5 rfl rfl rfl rfl rfl rfl rfl ⟨rfl,rfl,rfl,rfl,rfl⟩ rfl rfl rfl rfl rfl (by kernel_rfl) Try.func5 (by kernel_rfl)
  (of_decide_eq_true (by kernel_rfl)) (by unfold Func.isWrapper;first|(rw[if_pos (by decide +kernel)];kernel_rfl)|(rw[if_neg (by decide +kernel)];exact⟨rfl,rfl⟩))
  (fun os started H enc _=>kLifted os started H enc)
#print axioms tenderLeft_holds
end Go.Proofs.Ytolgkckmppongaa

