/-
  What is proved: norelaw09.TenderLasts returns true for whichever season, plan, failures and day: Check, Plan, Left and Out return what the document says. Conditions: none.
-/
import Derived.Test.YtolgkckmppongaaPart06
import Derived.Test.YtolgkckmppongaaPart07
import Derived.Test.YtolgkckmppongaaPart08
import Derived.Test.YtolgkckmppongaaPart09
import Derived.Test.YtolgkckmppongaaPart10
import Derived.Test.YtolgkckmppongaaPart11
import Derived.Test.YtolgkckmppongaaPart12
import Derived.Test.YtolgkckmppongaaPart13
import Derived.Test.YtolgkckmppongaaPart04
import Derived.Test.YtolgkckmppongaaRows
import Derived.ProofKit
import Derived.LaidMore
import Derived.OpenShut
import Derived.Stop.Joined
import Derived.Lay
import Derived.SevenTiedAt
set_option linter.unusedSectionVars false
set_option linter.unusedSimpArgs false
set_option linter.unusedVariables false
set_option maxRecDepth 100000
namespace Go.Proofs.Ytolgkckmppongaa
open Go Go.Eng
noncomputable def L2:List Ent:=[c0,c1,c2,c3,c4,c5,c6,c7]
theorem l2:∀ e∈L2,EntOK Try.prog E1 e:=ents_cons o0 (ents_cons o1 (ents_cons o2 (ents_cons o3 (ents_cons o4 (ents_cons o5 (ents_cons o6 (ents_cons o7 (ents_nil))))))))
end Go.Proofs.Ytolgkckmppongaa


set_option maxRecDepth 100000
namespace Go.Proofs.Ytolgkckmppongaa
open Go Go.Eng
theorem kn_true:isTrueT E1 L2 40 15=true:=by kernel_rfl
end Go.Proofs.Ytolgkckmppongaa


set_option maxRecDepth 100000
namespace Go.Proofs.Ytolgkckmppongaa
open Go Go.Eng
theorem LM_ok:∀ e∈LM,SaidG Try.prog F11.glob e:=
 saids_cons (XG.g (XG.closedT e1 x1 n1 tabs_ok.mix l2 kn_true) rfl) saids_nil
theorem xf12:ExtOK Try.prog F12:=xf11.sayL LM_ok
structure HL (s:tS.den) (p:(Ty.sl tO).den) (f:tF.den) (D:Nat):Prop where
 P:POK s p.2
 hf:∀ n∈f.1.2,inB n 8=true
 fl:f.1.2.length≤8
 d:f.2.1=(D:Int)
 L:lfL s p f.1.2 f.2.1=lisV s.2.1.2.length (stS (xSP s p) (withV f.1.2 fno) (D+1)).2
theorem lfE_of {s:tS.den} {p:(Ty.sl tO).den} {f:List Int} {d:Int} (h:ieq (askV s p.2 f) 0=true) (h0:0≤d) (h1:@LT.lt Int _ d s.1):lfE s p.2 f d=0:=by
 obtain⟨P,_⟩:=ask_ok h
 have d1:=P.so.d1;have d2:=P.so.d2
 unfold lfE
 rw[h,ile_t h0,ile_t (show d≤wr .i64 (s.1-1) by rw[wr_in (by omega) (by omega)];omega)];rfl
theorem lfL_of {s:tS.den} {p:(Ty.sl tO).den} {f:List Int} {D:Nat} (h:ieq (askV s p.2 f) 0=true) (h1:@LT.lt Int _ (D:Int) s.1):lfL s p f (D:Int)=lisV s.2.1.2.length (stS (xSP s p) (withV f fno) (D+1)).2:=by
 unfold lfL
 rw[lfE_of h (Int.natCast_nonneg _) h1,lef_eq (x:=xSP s p) h1];rfl
end Go.Proofs.Ytolgkckmppongaa


set_option maxRecDepth 100000
namespace Go.Proofs.Ytolgkckmppongaa
open Go Go.Eng
noncomputable def F9i:Env:={ F9 with iv:=some 23 }
theorem f9i:EnvOK Try.prog F9i:=⟨f9.ty,f9.zero,f9.fn,f9.eqok,f9.meth⟩
theorem nf9i:NameOK F9i:=nf9
theorem xf9i:ExtOK Try.prog F9i:=xf9
theorem F9isy:F9i.sy=true:=rfl
theorem Z9i_ok (l:List Nat):(Z9 l).ok F9i:=Z9_ok l
end Go.Proofs.Ytolgkckmppongaa


set_option maxRecDepth 100000
namespace Go.Proofs.Ytolgkckmppongaa
open Go Go.Eng
noncomputable def morI0 (s:tS.den) (p:(Ty.sl tO).den) (f:(Ty.sl tI).den) (x34:Nat):Cfg:=⟨.ex (pcOf F9i 42 [0,0,1,0,1,1]) ⟨(tmOf 87 [(0,(.agg [(.int .i64 (s.1)),(.vs tN (s.2.1.1) (s.2.1.2)),(.int .i64 (s.2.2.1)),(.int .i64 (s.2.2.2.1)),(.int .i64 (s.2.2.2.2.1)),(.vs tI (s.2.2.2.2.2.1.1) (s.2.2.2.2.2.1.2))])),(1,(.vs tO (p.1) (p.2))),(2,(.vs tI (f.1) (f.2))),(3,(.ptr 0 0)),(6,.nils),(7,.nils),(8,(.int .i64 (0)))]),(hpOf 1 [(0,(.cells false [(.int .i64 (s.1)),(.vs tN (s.2.1.1) (s.2.1.2)),(.int .i64 (s.2.2.1)),(.int .i64 (s.2.2.2.1)),(.int .i64 (s.2.2.2.2.1)),(.vs tI (s.2.2.2.2.2.1.1) (s.2.2.2.2.2.1.2))]))]),[],[],87,false⟩,⟨40,[]⟩,[(.lop (pcOf F9i 42 [0,0,1,0,1,1]) 1 (tmOf 87 [(0,(.agg [(.int .i64 (s.1)),(.vs tN (s.2.1.1) (s.2.1.2)),(.int .i64 (s.2.2.1)),(.int .i64 (s.2.2.2.1)),(.int .i64 (s.2.2.2.2.1)),(.vs tI (s.2.2.2.2.2.1.1) (s.2.2.2.2.2.1.2))])),(1,(.vs tO (p.1) (p.2))),(2,(.vs tI (f.1) (f.2))),(3,(.ptr 0 0)),(6,.nils),(7,.nils),(8,(.int .i64 (0)))]) x34),(.blk 0),(.seq (pcOf F9i 42 [1,1,1])),(.cal [(.tmp 6)] .top)]⟩
noncomputable def morI1 (s:tS.den) (p:(Ty.sl tO).den) (f:(Ty.sl tI).den) (x42:Nat) (x56:Nat):Cfg:=⟨.ex (pcOf F9i 42 [0,0,1,0,1,0,0,1,0,0,1,0,1,1]) ⟨(tmOf 87 [(0,(.agg [(.int .i64 (s.1)),(.vs tN (s.2.1.1) (s.2.1.2)),(.int .i64 (s.2.2.1)),(.int .i64 (s.2.2.2.1)),(.int .i64 (s.2.2.2.2.1)),(.vs tI (s.2.2.2.2.2.1.1) (s.2.2.2.2.2.1.2))])),(1,(.vs tO (p.1) (p.2))),(2,(.vs tI (f.1) (f.2))),(3,(.ptr 0 0)),(6,.nils),(7,.nils),(8,(.int .i64 (0))),(9,.nils),(10,(.int .i64 (0))),(13,(.int .i64 (0))),(14,(.ptr 0 0)),(15,(.int .i64 (s.1))),(16,(.bool (true)))]),(hpOf 1 [(0,(.cells false [(.int .i64 (s.1)),(.vs tN (s.2.1.1) (s.2.1.2)),(.int .i64 (s.2.2.1)),(.int .i64 (s.2.2.2.1)),(.int .i64 (s.2.2.2.2.1)),(.vs tI (s.2.2.2.2.2.1.1) (s.2.2.2.2.2.1.2))]))]),[],[],87,false⟩,⟨40,[]⟩,[(.lop (pcOf F9i 42 [0,0,1,0,1,0,0,1,0,0,1,0,1,1]) 1 (tmOf 87 [(0,(.agg [(.int .i64 (s.1)),(.vs tN (s.2.1.1) (s.2.1.2)),(.int .i64 (s.2.2.1)),(.int .i64 (s.2.2.2.1)),(.int .i64 (s.2.2.2.2.1)),(.vs tI (s.2.2.2.2.2.1.1) (s.2.2.2.2.2.1.2))])),(1,(.vs tO (p.1) (p.2))),(2,(.vs tI (f.1) (f.2))),(3,(.ptr 0 0)),(6,.nils),(7,.nils),(8,(.int .i64 (0))),(9,.nils),(10,(.int .i64 (0))),(13,(.int .i64 (0))),(14,(.ptr 0 0)),(15,(.int .i64 (s.1))),(16,(.bool (true)))]) x42),(.blk 2),(.seq (pcOf F9i 42 [1,1,0,0,1,0,0,1,0,1,1])),(.blk 1),(.seq (pcOf F9i 42 [1,1,0,0,1,0,1,1])),(.lop (pcOf F9i 42 [0,0,1,0,1,1]) 1 (tmOf 87 [(0,(.agg [(.int .i64 (s.1)),(.vs tN (s.2.1.1) (s.2.1.2)),(.int .i64 (s.2.2.1)),(.int .i64 (s.2.2.2.1)),(.int .i64 (s.2.2.2.2.1)),(.vs tI (s.2.2.2.2.2.1.1) (s.2.2.2.2.2.1.2))])),(1,(.vs tO (p.1) (p.2))),(2,(.vs tI (f.1) (f.2))),(3,(.ptr 0 0)),(6,.nils),(7,.nils),(8,(.int .i64 (0)))]) x56),(.blk 0),(.seq (pcOf F9i 42 [1,1,1])),(.cal [(.tmp 6)] .top)]⟩
noncomputable def morI2 (s:tS.den) (p:(Ty.sl tO).den) (f:(Ty.sl tI).den) (x12:Nat) (x14:Int) (x23:List AV) (x37:Nat):Cfg:=⟨.ex (pcOf F9i 42 [0,0,1,0,1,1]) ⟨(tmOf 87 [(0,(.agg [(.int .i64 (s.1)),(.vs tN (s.2.1.1) (s.2.1.2)),(.int .i64 (s.2.2.1)),(.int .i64 (s.2.2.2.1)),(.int .i64 (s.2.2.2.2.1)),(.vs tI (s.2.2.2.2.2.1.1) (s.2.2.2.2.2.1.2))])),(1,(.vs tO (p.1) (p.2))),(2,(.vs tI (f.1) (f.2))),(3,(.ptr 0 0)),(6,.nils),(7,(.sl 1 0 x12 x12 1)),(8,(.int .i64 x14))]),(hpOf 2 [(0,(.cells false [(.int .i64 (s.1)),(.vs tN (s.2.1.1) (s.2.1.2)),(.int .i64 (s.2.2.1)),(.int .i64 (s.2.2.2.1)),(.int .i64 (s.2.2.2.2.1)),(.vs tI (s.2.2.2.2.2.1.1) (s.2.2.2.2.2.1.2))])),(1,(.cells false x23))]),[],[],87,false⟩,⟨40,[]⟩,[(.lop (pcOf F9i 42 [0,0,1,0,1,1]) 1 (tmOf 87 [(0,(.agg [(.int .i64 (s.1)),(.vs tN (s.2.1.1) (s.2.1.2)),(.int .i64 (s.2.2.1)),(.int .i64 (s.2.2.2.1)),(.int .i64 (s.2.2.2.2.1)),(.vs tI (s.2.2.2.2.2.1.1) (s.2.2.2.2.2.1.2))])),(1,(.vs tO (p.1) (p.2))),(2,(.vs tI (f.1) (f.2))),(3,(.ptr 0 0)),(6,.nils),(7,.nils),(8,(.int .i64 (0)))]) x37),(.blk 0),(.seq (pcOf F9i 42 [1,1,1])),(.cal [(.tmp 6)] .top)]⟩
noncomputable def morI3 (s:tS.den) (p:(Ty.sl tO).den) (f:(Ty.sl tI).den) (x14:Int) (x15:Int) (x84:Nat) (x102:Nat) (x116:Nat):Cfg:=⟨.ex (pcOf F9i 42 [0,0,1,0,1,1,0,0,1,0,0,1,0,1,0,0,1,0,0,1,0,1,1]) ⟨(tmOf 87 [(0,(.agg [(.int .i64 (s.1)),(.vs tN (s.2.1.1) (s.2.1.2)),(.int .i64 (s.2.2.1)),(.int .i64 (s.2.2.2.1)),(.int .i64 (s.2.2.2.2.1)),(.vs tI (s.2.2.2.2.2.1.1) (s.2.2.2.2.2.1.2))])),(1,(.vs tO (p.1) (p.2))),(2,(.vs tI (f.1) (f.2))),(3,(.ptr 0 0)),(6,.nils),(7,.nils),(8,(.int .i64 (0))),(9,.nils),(10,(.int .i64 (0))),(11,(.int .i64 x14)),(12,(.int .i64 x15)),(13,(.int .i64 (0))),(14,(.ptr 0 0)),(15,(.int .i64 (s.1))),(16,(.bool (true))),(19,(.int .i64 (0))),(20,(.ptr 0 1)),(21,(.vs tN (s.2.1.1) (s.2.1.2))),(22,(.int .i64 (Int.ofNat s.2.1.2.length))),(23,(.bool (true))),(26,(.ptr 0 1)),(27,(.vs tN (s.2.1.1) (s.2.1.2))),(28,(.int .i64 (0))),(29,(.cp [(.str ((s.2.1.2.getD (Int.toNat 0) tN.dflt).1)),(.int .i64 ((s.2.1.2.getD (Int.toNat 0) tN.dflt).2.1)),(.int .i64 ((s.2.1.2.getD (Int.toNat 0) tN.dflt).2.2.1)),(.int .i64 ((s.2.1.2.getD (Int.toNat 0) tN.dflt).2.2.2.1))] 0)),(30,(.cp [(.str ((s.2.1.2.getD (Int.toNat 0) tN.dflt).1)),(.int .i64 ((s.2.1.2.getD (Int.toNat 0) tN.dflt).2.1)),(.int .i64 ((s.2.1.2.getD (Int.toNat 0) tN.dflt).2.2.1)),(.int .i64 ((s.2.1.2.getD (Int.toNat 0) tN.dflt).2.2.2.1))] 2)),(31,(.int .i64 ((s.2.1.2.getD (Int.toNat 0) tN.dflt).2.2.1))),(32,(.int .i64 (0))),(33,(.bool (false)))]),(hpOf 1 [(0,(.cells false [(.int .i64 (s.1)),(.vs tN (s.2.1.1) (s.2.1.2)),(.int .i64 (s.2.2.1)),(.int .i64 (s.2.2.2.1)),(.int .i64 (s.2.2.2.2.1)),(.vs tI (s.2.2.2.2.2.1.1) (s.2.2.2.2.2.1.2))]))]),[],[],87,false⟩,⟨40,[]⟩,[(.lop (pcOf F9i 42 [0,0,1,0,1,1,0,0,1,0,0,1,0,1,0,0,1,0,0,1,0,1,1]) 1 (tmOf 87 [(0,(.agg [(.int .i64 (s.1)),(.vs tN (s.2.1.1) (s.2.1.2)),(.int .i64 (s.2.2.1)),(.int .i64 (s.2.2.2.1)),(.int .i64 (s.2.2.2.2.1)),(.vs tI (s.2.2.2.2.2.1.1) (s.2.2.2.2.2.1.2))])),(1,(.vs tO (p.1) (p.2))),(2,(.vs tI (f.1) (f.2))),(3,(.ptr 0 0)),(6,.nils),(7,.nils),(8,(.int .i64 (0))),(9,.nils),(10,(.int .i64 (0))),(11,(.int .i64 ((s.2.1.2.getD (Int.toNat 0) tN.dflt).2.2.1))),(12,(.int .i64 (0))),(13,(.int .i64 (0))),(14,(.ptr 0 0)),(15,(.int .i64 (s.1))),(16,(.bool (true))),(19,(.int .i64 (0))),(20,(.ptr 0 1)),(21,(.vs tN (s.2.1.1) (s.2.1.2))),(22,(.int .i64 (Int.ofNat s.2.1.2.length))),(23,(.bool (true))),(26,(.ptr 0 1)),(27,(.vs tN (s.2.1.1) (s.2.1.2))),(28,(.int .i64 (0))),(29,(.cp [(.str ((s.2.1.2.getD (Int.toNat 0) tN.dflt).1)),(.int .i64 ((s.2.1.2.getD (Int.toNat 0) tN.dflt).2.1)),(.int .i64 ((s.2.1.2.getD (Int.toNat 0) tN.dflt).2.2.1)),(.int .i64 ((s.2.1.2.getD (Int.toNat 0) tN.dflt).2.2.2.1))] 0)),(30,(.cp [(.str ((s.2.1.2.getD (Int.toNat 0) tN.dflt).1)),(.int .i64 ((s.2.1.2.getD (Int.toNat 0) tN.dflt).2.1)),(.int .i64 ((s.2.1.2.getD (Int.toNat 0) tN.dflt).2.2.1)),(.int .i64 ((s.2.1.2.getD (Int.toNat 0) tN.dflt).2.2.2.1))] 2)),(31,(.int .i64 ((s.2.1.2.getD (Int.toNat 0) tN.dflt).2.2.1))),(32,(.int .i64 (0))),(33,(.bool (false)))]) x84),(.blk 4),(.seq (pcOf F9i 42 [1,1,1,0,0,1,0,0,1,0,1,0,0,1,0,0,1,0,1,1])),(.blk 3),(.seq (pcOf F9i 42 [1,1,0,0,1,0,1,0,0,1,0,0,1,0,1,1])),(.lop (pcOf F9i 42 [0,0,1,0,1,0,0,1,0,0,1,0,1,1]) 1 (tmOf 87 [(0,(.agg [(.int .i64 (s.1)),(.vs tN (s.2.1.1) (s.2.1.2)),(.int .i64 (s.2.2.1)),(.int .i64 (s.2.2.2.1)),(.int .i64 (s.2.2.2.2.1)),(.vs tI (s.2.2.2.2.2.1.1) (s.2.2.2.2.2.1.2))])),(1,(.vs tO (p.1) (p.2))),(2,(.vs tI (f.1) (f.2))),(3,(.ptr 0 0)),(6,.nils),(7,.nils),(8,(.int .i64 (0))),(9,.nils),(10,(.int .i64 (0))),(13,(.int .i64 (0))),(14,(.ptr 0 0)),(15,(.int .i64 (s.1))),(16,(.bool (true)))]) x102),(.blk 2),(.seq (pcOf F9i 42 [1,1,0,0,1,0,0,1,0,1,1])),(.blk 1),(.seq (pcOf F9i 42 [1,1,0,0,1,0,1,1])),(.lop (pcOf F9i 42 [0,0,1,0,1,1]) 1 (tmOf 87 [(0,(.agg [(.int .i64 (s.1)),(.vs tN (s.2.1.1) (s.2.1.2)),(.int .i64 (s.2.2.1)),(.int .i64 (s.2.2.2.1)),(.int .i64 (s.2.2.2.2.1)),(.vs tI (s.2.2.2.2.2.1.1) (s.2.2.2.2.2.1.2))])),(1,(.vs tO (p.1) (p.2))),(2,(.vs tI (f.1) (f.2))),(3,(.ptr 0 0)),(6,.nils),(7,.nils),(8,(.int .i64 (0)))]) x116),(.blk 0),(.seq (pcOf F9i 42 [1,1,1])),(.cal [(.tmp 6)] .top)]⟩
noncomputable def morI4 (s:tS.den) (p:(Ty.sl tO).den) (f:(Ty.sl tI).den) (x12:Nat) (x14:Int) (x27:List AV) (x47:Nat) (x61:Nat):Cfg:=⟨.ex (pcOf F9i 42 [0,0,1,0,1,0,0,1,0,0,1,0,1,1]) ⟨(tmOf 87 [(0,(.agg [(.int .i64 (s.1)),(.vs tN (s.2.1.1) (s.2.1.2)),(.int .i64 (s.2.2.1)),(.int .i64 (s.2.2.2.1)),(.int .i64 (s.2.2.2.2.1)),(.vs tI (s.2.2.2.2.2.1.1) (s.2.2.2.2.2.1.2))])),(1,(.vs tO (p.1) (p.2))),(2,(.vs tI (f.1) (f.2))),(3,(.ptr 0 0)),(6,.nils),(7,(.sl 1 0 x12 x12 1)),(8,(.int .i64 x14)),(9,.nils),(10,(.int .i64 (0))),(13,(.int .i64 x14)),(14,(.ptr 0 0)),(15,(.int .i64 (s.1))),(16,(.bool (true)))]),(hpOf 2 [(0,(.cells false [(.int .i64 (s.1)),(.vs tN (s.2.1.1) (s.2.1.2)),(.int .i64 (s.2.2.1)),(.int .i64 (s.2.2.2.1)),(.int .i64 (s.2.2.2.2.1)),(.vs tI (s.2.2.2.2.2.1.1) (s.2.2.2.2.2.1.2))])),(1,(.cells false x27))]),[],[],87,false⟩,⟨40,[]⟩,[(.lop (pcOf F9i 42 [0,0,1,0,1,0,0,1,0,0,1,0,1,1]) 2 (tmOf 87 [(0,(.agg [(.int .i64 (s.1)),(.vs tN (s.2.1.1) (s.2.1.2)),(.int .i64 (s.2.2.1)),(.int .i64 (s.2.2.2.1)),(.int .i64 (s.2.2.2.2.1)),(.vs tI (s.2.2.2.2.2.1.1) (s.2.2.2.2.2.1.2))])),(1,(.vs tO (p.1) (p.2))),(2,(.vs tI (f.1) (f.2))),(3,(.ptr 0 0)),(6,.nils),(7,(.sl 1 0 x12 x12 1)),(8,(.int .i64 x14)),(9,.nils),(10,(.int .i64 (0))),(13,(.int .i64 x14)),(14,(.ptr 0 0)),(15,(.int .i64 (s.1))),(16,(.bool (true)))]) x47),(.blk 2),(.seq (pcOf F9i 42 [1,1,0,0,1,0,0,1,0,1,1])),(.blk 1),(.seq (pcOf F9i 42 [1,1,0,0,1,0,1,1])),(.lop (pcOf F9i 42 [0,0,1,0,1,1]) 1 (tmOf 87 [(0,(.agg [(.int .i64 (s.1)),(.vs tN (s.2.1.1) (s.2.1.2)),(.int .i64 (s.2.2.1)),(.int .i64 (s.2.2.2.1)),(.int .i64 (s.2.2.2.2.1)),(.vs tI (s.2.2.2.2.2.1.1) (s.2.2.2.2.2.1.2))])),(1,(.vs tO (p.1) (p.2))),(2,(.vs tI (f.1) (f.2))),(3,(.ptr 0 0)),(6,.nils),(7,.nils),(8,(.int .i64 (0)))]) x61),(.blk 0),(.seq (pcOf F9i 42 [1,1,1])),(.cal [(.tmp 6)] .top)]⟩
noncomputable def morI5 (s:tS.den) (p:(Ty.sl tO).den) (f:(Ty.sl tI).den) (x13:Nat) (x15:Int) (x27:List AV) (x45:Nat) (x59:Nat):Cfg:=⟨.ex (pcOf F9i 42 [0,0,1,0,1,0,0,1,0,0,1,0,1,1]) ⟨(tmOf 87 [(0,(.agg [(.int .i64 (s.1)),(.vs tN (s.2.1.1) (s.2.1.2)),(.int .i64 (s.2.2.1)),(.int .i64 (s.2.2.2.1)),(.int .i64 (s.2.2.2.2.1)),(.vs tI (s.2.2.2.2.2.1.1) (s.2.2.2.2.2.1.2))])),(1,(.vs tO (p.1) (p.2))),(2,(.vs tI (f.1) (f.2))),(3,(.ptr 0 0)),(6,.nils),(7,.nils),(8,(.int .i64 (0))),(9,(.sl 1 0 x13 x13 1)),(10,(.int .i64 x15)),(13,(.int .i64 (0))),(14,(.ptr 0 0)),(15,(.int .i64 (s.1))),(16,(.bool (true)))]),(hpOf 2 [(0,(.cells false [(.int .i64 (s.1)),(.vs tN (s.2.1.1) (s.2.1.2)),(.int .i64 (s.2.2.1)),(.int .i64 (s.2.2.2.1)),(.int .i64 (s.2.2.2.2.1)),(.vs tI (s.2.2.2.2.2.1.1) (s.2.2.2.2.2.1.2))])),(1,(.cells false x27))]),[],[],87,false⟩,⟨40,[]⟩,[(.lop (pcOf F9i 42 [0,0,1,0,1,0,0,1,0,0,1,0,1,1]) 1 (tmOf 87 [(0,(.agg [(.int .i64 (s.1)),(.vs tN (s.2.1.1) (s.2.1.2)),(.int .i64 (s.2.2.1)),(.int .i64 (s.2.2.2.1)),(.int .i64 (s.2.2.2.2.1)),(.vs tI (s.2.2.2.2.2.1.1) (s.2.2.2.2.2.1.2))])),(1,(.vs tO (p.1) (p.2))),(2,(.vs tI (f.1) (f.2))),(3,(.ptr 0 0)),(6,.nils),(7,.nils),(8,(.int .i64 (0))),(9,.nils),(10,(.int .i64 (0))),(13,(.int .i64 (0))),(14,(.ptr 0 0)),(15,(.int .i64 (s.1))),(16,(.bool (true)))]) x45),(.blk 2),(.seq (pcOf F9i 42 [1,1,0,0,1,0,0,1,0,1,1])),(.blk 1),(.seq (pcOf F9i 42 [1,1,0,0,1,0,1,1])),(.lop (pcOf F9i 42 [0,0,1,0,1,1]) 1 (tmOf 87 [(0,(.agg [(.int .i64 (s.1)),(.vs tN (s.2.1.1) (s.2.1.2)),(.int .i64 (s.2.2.1)),(.int .i64 (s.2.2.2.1)),(.int .i64 (s.2.2.2.2.1)),(.vs tI (s.2.2.2.2.2.1.1) (s.2.2.2.2.2.1.2))])),(1,(.vs tO (p.1) (p.2))),(2,(.vs tI (f.1) (f.2))),(3,(.ptr 0 0)),(6,.nils),(7,.nils),(8,(.int .i64 (0)))]) x59),(.blk 0),(.seq (pcOf F9i 42 [1,1,1])),(.cal [(.tmp 6)] .top)]⟩
noncomputable def morI6 (s:tS.den) (p:(Ty.sl tO).den) (f:(Ty.sl tI).den) (x12:Nat) (x14:Int) (x16:Int) (x17:Int) (x48:List AV) (x89:Nat) (x109:Nat) (x123:Nat):Cfg:=⟨.ex (pcOf F9i 42 [0,0,1,0,1,1,0,0,1,0,0,1,0,1,0,0,1,0,0,1,0,1,1]) ⟨(tmOf 87 [(0,(.agg [(.int .i64 (s.1)),(.vs tN (s.2.1.1) (s.2.1.2)),(.int .i64 (s.2.2.1)),(.int .i64 (s.2.2.2.1)),(.int .i64 (s.2.2.2.2.1)),(.vs tI (s.2.2.2.2.2.1.1) (s.2.2.2.2.2.1.2))])),(1,(.vs tO (p.1) (p.2))),(2,(.vs tI (f.1) (f.2))),(3,(.ptr 0 0)),(6,.nils),(7,(.sl 1 0 x12 x12 1)),(8,(.int .i64 x14)),(9,.nils),(10,(.int .i64 (0))),(11,(.int .i64 x16)),(12,(.int .i64 x17)),(13,(.int .i64 x14)),(14,(.ptr 0 0)),(15,(.int .i64 (s.1))),(16,(.bool (true))),(19,(.int .i64 (0))),(20,(.ptr 0 1)),(21,(.vs tN (s.2.1.1) (s.2.1.2))),(22,(.int .i64 (Int.ofNat s.2.1.2.length))),(23,(.bool (true))),(26,(.ptr 0 1)),(27,(.vs tN (s.2.1.1) (s.2.1.2))),(28,(.int .i64 (0))),(29,(.cp [(.str ((s.2.1.2.getD (Int.toNat 0) tN.dflt).1)),(.int .i64 ((s.2.1.2.getD (Int.toNat 0) tN.dflt).2.1)),(.int .i64 ((s.2.1.2.getD (Int.toNat 0) tN.dflt).2.2.1)),(.int .i64 ((s.2.1.2.getD (Int.toNat 0) tN.dflt).2.2.2.1))] 0)),(30,(.cp [(.str ((s.2.1.2.getD (Int.toNat 0) tN.dflt).1)),(.int .i64 ((s.2.1.2.getD (Int.toNat 0) tN.dflt).2.1)),(.int .i64 ((s.2.1.2.getD (Int.toNat 0) tN.dflt).2.2.1)),(.int .i64 ((s.2.1.2.getD (Int.toNat 0) tN.dflt).2.2.2.1))] 2)),(31,(.int .i64 ((s.2.1.2.getD (Int.toNat 0) tN.dflt).2.2.1))),(32,(.int .i64 x14)),(33,(.bool (false)))]),(hpOf 2 [(0,(.cells false [(.int .i64 (s.1)),(.vs tN (s.2.1.1) (s.2.1.2)),(.int .i64 (s.2.2.1)),(.int .i64 (s.2.2.2.1)),(.int .i64 (s.2.2.2.2.1)),(.vs tI (s.2.2.2.2.2.1.1) (s.2.2.2.2.2.1.2))])),(1,(.cells false x48))]),[],[],87,false⟩,⟨40,[]⟩,[(.lop (pcOf F9i 42 [0,0,1,0,1,1,0,0,1,0,0,1,0,1,0,0,1,0,0,1,0,1,1]) 2 (tmOf 87 [(0,(.agg [(.int .i64 (s.1)),(.vs tN (s.2.1.1) (s.2.1.2)),(.int .i64 (s.2.2.1)),(.int .i64 (s.2.2.2.1)),(.int .i64 (s.2.2.2.2.1)),(.vs tI (s.2.2.2.2.2.1.1) (s.2.2.2.2.2.1.2))])),(1,(.vs tO (p.1) (p.2))),(2,(.vs tI (f.1) (f.2))),(3,(.ptr 0 0)),(6,.nils),(7,(.sl 1 0 x12 x12 1)),(8,(.int .i64 x14)),(9,.nils),(10,(.int .i64 (0))),(11,(.int .i64 ((s.2.1.2.getD (Int.toNat 0) tN.dflt).2.2.1))),(12,(.int .i64 (0))),(13,(.int .i64 x14)),(14,(.ptr 0 0)),(15,(.int .i64 (s.1))),(16,(.bool (true))),(19,(.int .i64 (0))),(20,(.ptr 0 1)),(21,(.vs tN (s.2.1.1) (s.2.1.2))),(22,(.int .i64 (Int.ofNat s.2.1.2.length))),(23,(.bool (true))),(26,(.ptr 0 1)),(27,(.vs tN (s.2.1.1) (s.2.1.2))),(28,(.int .i64 (0))),(29,(.cp [(.str ((s.2.1.2.getD (Int.toNat 0) tN.dflt).1)),(.int .i64 ((s.2.1.2.getD (Int.toNat 0) tN.dflt).2.1)),(.int .i64 ((s.2.1.2.getD (Int.toNat 0) tN.dflt).2.2.1)),(.int .i64 ((s.2.1.2.getD (Int.toNat 0) tN.dflt).2.2.2.1))] 0)),(30,(.cp [(.str ((s.2.1.2.getD (Int.toNat 0) tN.dflt).1)),(.int .i64 ((s.2.1.2.getD (Int.toNat 0) tN.dflt).2.1)),(.int .i64 ((s.2.1.2.getD (Int.toNat 0) tN.dflt).2.2.1)),(.int .i64 ((s.2.1.2.getD (Int.toNat 0) tN.dflt).2.2.2.1))] 2)),(31,(.int .i64 ((s.2.1.2.getD (Int.toNat 0) tN.dflt).2.2.1))),(32,(.int .i64 x14)),(33,(.bool (false)))]) x89),(.blk 4),(.seq (pcOf F9i 42 [1,1,1,0,0,1,0,0,1,0,1,0,0,1,0,0,1,0,1,1])),(.blk 3),(.seq (pcOf F9i 42 [1,1,0,0,1,0,1,0,0,1,0,0,1,0,1,1])),(.lop (pcOf F9i 42 [0,0,1,0,1,0,0,1,0,0,1,0,1,1]) 2 (tmOf 87 [(0,(.agg [(.int .i64 (s.1)),(.vs tN (s.2.1.1) (s.2.1.2)),(.int .i64 (s.2.2.1)),(.int .i64 (s.2.2.2.1)),(.int .i64 (s.2.2.2.2.1)),(.vs tI (s.2.2.2.2.2.1.1) (s.2.2.2.2.2.1.2))])),(1,(.vs tO (p.1) (p.2))),(2,(.vs tI (f.1) (f.2))),(3,(.ptr 0 0)),(6,.nils),(7,(.sl 1 0 x12 x12 1)),(8,(.int .i64 x14)),(9,.nils),(10,(.int .i64 (0))),(13,(.int .i64 x14)),(14,(.ptr 0 0)),(15,(.int .i64 (s.1))),(16,(.bool (true)))]) x109),(.blk 2),(.seq (pcOf F9i 42 [1,1,0,0,1,0,0,1,0,1,1])),(.blk 1),(.seq (pcOf F9i 42 [1,1,0,0,1,0,1,1])),(.lop (pcOf F9i 42 [0,0,1,0,1,1]) 1 (tmOf 87 [(0,(.agg [(.int .i64 (s.1)),(.vs tN (s.2.1.1) (s.2.1.2)),(.int .i64 (s.2.2.1)),(.int .i64 (s.2.2.2.1)),(.int .i64 (s.2.2.2.2.1)),(.vs tI (s.2.2.2.2.2.1.1) (s.2.2.2.2.2.1.2))])),(1,(.vs tO (p.1) (p.2))),(2,(.vs tI (f.1) (f.2))),(3,(.ptr 0 0)),(6,.nils),(7,.nils),(8,(.int .i64 (0)))]) x123),(.blk 0),(.seq (pcOf F9i 42 [1,1,1])),(.cal [(.tmp 6)] .top)]⟩
noncomputable def morI7 (s:tS.den) (p:(Ty.sl tO).den) (f:(Ty.sl tI).den) (x12:Nat) (x14:Int) (x16:Int) (x17:Int) (x43:Int) (x44:Nat) (x45:Bool) (x46:List (Ty.den tI)) (x48:Int) (x50:Int) (x51:Int) (x60:List AV) (x113:Nat) (x133:Nat) (x147:Nat):Cfg:=⟨.ex (pcOf F9i 42 [0,0,1,0,1,1,0,0,1,0,0,1,0,1,0,0,1,0,0,1,0,1,1]) ⟨(tmOf 87 [(0,(.agg [(.int .i64 (s.1)),(.vs tN (s.2.1.1) (s.2.1.2)),(.int .i64 (s.2.2.1)),(.int .i64 (s.2.2.2.1)),(.int .i64 (s.2.2.2.2.1)),(.vs tI (s.2.2.2.2.2.1.1) (s.2.2.2.2.2.1.2))])),(1,(.vs tO (p.1) (p.2))),(2,(.vs tI (f.1) (f.2))),(3,(.ptr 0 0)),(6,.nils),(7,(.sl 1 0 x12 x12 1)),(8,(.int .i64 x14)),(9,.nils),(10,(.int .i64 (0))),(11,(.int .i64 x16)),(12,(.int .i64 x17)),(13,(.int .i64 x14)),(14,(.ptr 0 0)),(15,(.int .i64 (s.1))),(16,(.bool (true))),(19,(.int .i64 (0))),(20,(.ptr 0 1)),(21,(.vs tN (s.2.1.1) (s.2.1.2))),(22,(.int .i64 (Int.ofNat s.2.1.2.length))),(23,(.bool (true))),(26,(.ptr 0 1)),(27,(.vs tN (s.2.1.1) (s.2.1.2))),(28,(.int .i64 (0))),(29,(.cp [(.str ((s.2.1.2.getD (Int.toNat 0) tN.dflt).1)),(.int .i64 ((s.2.1.2.getD (Int.toNat 0) tN.dflt).2.1)),(.int .i64 ((s.2.1.2.getD (Int.toNat 0) tN.dflt).2.2.1)),(.int .i64 ((s.2.1.2.getD (Int.toNat 0) tN.dflt).2.2.2.1))] 0)),(30,(.cp [(.str ((s.2.1.2.getD (Int.toNat 0) tN.dflt).1)),(.int .i64 ((s.2.1.2.getD (Int.toNat 0) tN.dflt).2.1)),(.int .i64 ((s.2.1.2.getD (Int.toNat 0) tN.dflt).2.2.1)),(.int .i64 ((s.2.1.2.getD (Int.toNat 0) tN.dflt).2.2.2.1))] 2)),(31,(.int .i64 ((s.2.1.2.getD (Int.toNat 0) tN.dflt).2.2.1))),(32,(.int .i64 x14)),(33,(.bool (true))),(34,(.sl 1 0 x12 x12 1)),(35,(.int .i64 x14)),(36,(.int .i64 x43)),(37,(.ptr 1 x44)),(38,(.vs tI x45 x46)),(39,(.int .i64 (0))),(40,(.cp [(.int .i64 x48)] 0)),(41,(.int .i64 x48)),(42,(.int .i64 x50)),(43,(.int .i64 x51))]),(hpOf 2 [(0,(.cells false [(.int .i64 (s.1)),(.vs tN (s.2.1.1) (s.2.1.2)),(.int .i64 (s.2.2.1)),(.int .i64 (s.2.2.2.1)),(.int .i64 (s.2.2.2.2.1)),(.vs tI (s.2.2.2.2.2.1.1) (s.2.2.2.2.2.1.2))])),(1,(.cells false x60))]),[],[],87,false⟩,⟨40,[]⟩,[(.lop (pcOf F9i 42 [0,0,1,0,1,1,0,0,1,0,0,1,0,1,0,0,1,0,0,1,0,1,1]) 2 (tmOf 87 [(0,(.agg [(.int .i64 (s.1)),(.vs tN (s.2.1.1) (s.2.1.2)),(.int .i64 (s.2.2.1)),(.int .i64 (s.2.2.2.1)),(.int .i64 (s.2.2.2.2.1)),(.vs tI (s.2.2.2.2.2.1.1) (s.2.2.2.2.2.1.2))])),(1,(.vs tO (p.1) (p.2))),(2,(.vs tI (f.1) (f.2))),(3,(.ptr 0 0)),(6,.nils),(7,(.sl 1 0 x12 x12 1)),(8,(.int .i64 x14)),(9,.nils),(10,(.int .i64 (0))),(11,(.int .i64 x51)),(12,(.int .i64 (0))),(13,(.int .i64 x14)),(14,(.ptr 0 0)),(15,(.int .i64 (s.1))),(16,(.bool (true))),(19,(.int .i64 (0))),(20,(.ptr 0 1)),(21,(.vs tN (s.2.1.1) (s.2.1.2))),(22,(.int .i64 (Int.ofNat s.2.1.2.length))),(23,(.bool (true))),(26,(.ptr 0 1)),(27,(.vs tN (s.2.1.1) (s.2.1.2))),(28,(.int .i64 (0))),(29,(.cp [(.str ((s.2.1.2.getD (Int.toNat 0) tN.dflt).1)),(.int .i64 ((s.2.1.2.getD (Int.toNat 0) tN.dflt).2.1)),(.int .i64 ((s.2.1.2.getD (Int.toNat 0) tN.dflt).2.2.1)),(.int .i64 ((s.2.1.2.getD (Int.toNat 0) tN.dflt).2.2.2.1))] 0)),(30,(.cp [(.str ((s.2.1.2.getD (Int.toNat 0) tN.dflt).1)),(.int .i64 ((s.2.1.2.getD (Int.toNat 0) tN.dflt).2.1)),(.int .i64 ((s.2.1.2.getD (Int.toNat 0) tN.dflt).2.2.1)),(.int .i64 ((s.2.1.2.getD (Int.toNat 0) tN.dflt).2.2.2.1))] 2)),(31,(.int .i64 ((s.2.1.2.getD (Int.toNat 0) tN.dflt).2.2.1))),(32,(.int .i64 x14)),(33,(.bool (true))),(34,(.sl 1 0 x12 x12 1)),(35,(.int .i64 x14)),(36,(.int .i64 x43)),(37,(.ptr 1 x44)),(38,(.vs tI x45 x46)),(39,(.int .i64 (0))),(40,(.cp [(.int .i64 x48)] 0)),(41,(.int .i64 x48)),(42,(.int .i64 x50)),(43,(.int .i64 x51))]) x113),(.blk 4),(.seq (pcOf F9i 42 [1,1,1,0,0,1,0,0,1,0,1,0,0,1,0,0,1,0,1,1])),(.blk 3),(.seq (pcOf F9i 42 [1,1,0,0,1,0,1,0,0,1,0,0,1,0,1,1])),(.lop (pcOf F9i 42 [0,0,1,0,1,0,0,1,0,0,1,0,1,1]) 2 (tmOf 87 [(0,(.agg [(.int .i64 (s.1)),(.vs tN (s.2.1.1) (s.2.1.2)),(.int .i64 (s.2.2.1)),(.int .i64 (s.2.2.2.1)),(.int .i64 (s.2.2.2.2.1)),(.vs tI (s.2.2.2.2.2.1.1) (s.2.2.2.2.2.1.2))])),(1,(.vs tO (p.1) (p.2))),(2,(.vs tI (f.1) (f.2))),(3,(.ptr 0 0)),(6,.nils),(7,(.sl 1 0 x12 x12 1)),(8,(.int .i64 x14)),(9,.nils),(10,(.int .i64 (0))),(13,(.int .i64 x14)),(14,(.ptr 0 0)),(15,(.int .i64 (s.1))),(16,(.bool (true)))]) x133),(.blk 2),(.seq (pcOf F9i 42 [1,1,0,0,1,0,0,1,0,1,1])),(.blk 1),(.seq (pcOf F9i 42 [1,1,0,0,1,0,1,1])),(.lop (pcOf F9i 42 [0,0,1,0,1,1]) 1 (tmOf 87 [(0,(.agg [(.int .i64 (s.1)),(.vs tN (s.2.1.1) (s.2.1.2)),(.int .i64 (s.2.2.1)),(.int .i64 (s.2.2.2.1)),(.int .i64 (s.2.2.2.2.1)),(.vs tI (s.2.2.2.2.2.1.1) (s.2.2.2.2.2.1.2))])),(1,(.vs tO (p.1) (p.2))),(2,(.vs tI (f.1) (f.2))),(3,(.ptr 0 0)),(6,.nils),(7,.nils),(8,(.int .i64 (0)))]) x147),(.blk 0),(.seq (pcOf F9i 42 [1,1,1])),(.cal [(.tmp 6)] .top)]⟩
noncomputable def morI8 (s:tS.den) (p:(Ty.sl tO).den) (f:(Ty.sl tI).den) (x12:Nat) (x14:Int) (x16:Int) (x17:Int) (x43:Int) (x44:Nat) (x45:List AV) (x46:Nat) (x49:Int) (x50:Int) (x51:Int) (x60:List AV) (x113:Nat) (x133:Nat) (x147:Nat):Cfg:=⟨.ex (pcOf F9i 42 [0,0,1,0,1,1,0,0,1,0,0,1,0,1,0,0,1,0,0,1,0,1,1]) ⟨(tmOf 87 [(0,(.agg [(.int .i64 (s.1)),(.vs tN (s.2.1.1) (s.2.1.2)),(.int .i64 (s.2.2.1)),(.int .i64 (s.2.2.2.1)),(.int .i64 (s.2.2.2.2.1)),(.vs tI (s.2.2.2.2.2.1.1) (s.2.2.2.2.2.1.2))])),(1,(.vs tO (p.1) (p.2))),(2,(.vs tI (f.1) (f.2))),(3,(.ptr 0 0)),(6,.nils),(7,(.sl 1 0 x12 x12 1)),(8,(.int .i64 x14)),(9,.nils),(10,(.int .i64 (0))),(11,(.int .i64 x16)),(12,(.int .i64 x17)),(13,(.int .i64 x14)),(14,(.ptr 0 0)),(15,(.int .i64 (s.1))),(16,(.bool (true))),(19,(.int .i64 (0))),(20,(.ptr 0 1)),(21,(.vs tN (s.2.1.1) (s.2.1.2))),(22,(.int .i64 (Int.ofNat s.2.1.2.length))),(23,(.bool (true))),(26,(.ptr 0 1)),(27,(.vs tN (s.2.1.1) (s.2.1.2))),(28,(.int .i64 (0))),(29,(.cp [(.str ((s.2.1.2.getD (Int.toNat 0) tN.dflt).1)),(.int .i64 ((s.2.1.2.getD (Int.toNat 0) tN.dflt).2.1)),(.int .i64 ((s.2.1.2.getD (Int.toNat 0) tN.dflt).2.2.1)),(.int .i64 ((s.2.1.2.getD (Int.toNat 0) tN.dflt).2.2.2.1))] 0)),(30,(.cp [(.str ((s.2.1.2.getD (Int.toNat 0) tN.dflt).1)),(.int .i64 ((s.2.1.2.getD (Int.toNat 0) tN.dflt).2.1)),(.int .i64 ((s.2.1.2.getD (Int.toNat 0) tN.dflt).2.2.1)),(.int .i64 ((s.2.1.2.getD (Int.toNat 0) tN.dflt).2.2.2.1))] 2)),(31,(.int .i64 ((s.2.1.2.getD (Int.toNat 0) tN.dflt).2.2.1))),(32,(.int .i64 x14)),(33,(.bool (true))),(34,(.sl 1 0 x12 x12 1)),(35,(.int .i64 x14)),(36,(.int .i64 x43)),(37,(.ptr 1 x44)),(38,(.csl x45 x46)),(39,(.int .i64 (0))),(40,(.cp x45 0)),(41,(.int .i64 x49)),(42,(.int .i64 x50)),(43,(.int .i64 x51))]),(hpOf 2 [(0,(.cells false [(.int .i64 (s.1)),(.vs tN (s.2.1.1) (s.2.1.2)),(.int .i64 (s.2.2.1)),(.int .i64 (s.2.2.2.1)),(.int .i64 (s.2.2.2.2.1)),(.vs tI (s.2.2.2.2.2.1.1) (s.2.2.2.2.2.1.2))])),(1,(.cells false x60))]),[],[],87,false⟩,⟨40,[]⟩,[(.lop (pcOf F9i 42 [0,0,1,0,1,1,0,0,1,0,0,1,0,1,0,0,1,0,0,1,0,1,1]) 2 (tmOf 87 [(0,(.agg [(.int .i64 (s.1)),(.vs tN (s.2.1.1) (s.2.1.2)),(.int .i64 (s.2.2.1)),(.int .i64 (s.2.2.2.1)),(.int .i64 (s.2.2.2.2.1)),(.vs tI (s.2.2.2.2.2.1.1) (s.2.2.2.2.2.1.2))])),(1,(.vs tO (p.1) (p.2))),(2,(.vs tI (f.1) (f.2))),(3,(.ptr 0 0)),(6,.nils),(7,(.sl 1 0 x12 x12 1)),(8,(.int .i64 x14)),(9,.nils),(10,(.int .i64 (0))),(11,(.int .i64 x51)),(12,(.int .i64 (0))),(13,(.int .i64 x14)),(14,(.ptr 0 0)),(15,(.int .i64 (s.1))),(16,(.bool (true))),(19,(.int .i64 (0))),(20,(.ptr 0 1)),(21,(.vs tN (s.2.1.1) (s.2.1.2))),(22,(.int .i64 (Int.ofNat s.2.1.2.length))),(23,(.bool (true))),(26,(.ptr 0 1)),(27,(.vs tN (s.2.1.1) (s.2.1.2))),(28,(.int .i64 (0))),(29,(.cp [(.str ((s.2.1.2.getD (Int.toNat 0) tN.dflt).1)),(.int .i64 ((s.2.1.2.getD (Int.toNat 0) tN.dflt).2.1)),(.int .i64 ((s.2.1.2.getD (Int.toNat 0) tN.dflt).2.2.1)),(.int .i64 ((s.2.1.2.getD (Int.toNat 0) tN.dflt).2.2.2.1))] 0)),(30,(.cp [(.str ((s.2.1.2.getD (Int.toNat 0) tN.dflt).1)),(.int .i64 ((s.2.1.2.getD (Int.toNat 0) tN.dflt).2.1)),(.int .i64 ((s.2.1.2.getD (Int.toNat 0) tN.dflt).2.2.1)),(.int .i64 ((s.2.1.2.getD (Int.toNat 0) tN.dflt).2.2.2.1))] 2)),(31,(.int .i64 ((s.2.1.2.getD (Int.toNat 0) tN.dflt).2.2.1))),(32,(.int .i64 x14)),(33,(.bool (true))),(34,(.sl 1 0 x12 x12 1)),(35,(.int .i64 x14)),(36,(.int .i64 x43)),(37,(.ptr 1 x44)),(38,(.csl x45 x46)),(39,(.int .i64 (0))),(40,(.cp x45 0)),(41,(.int .i64 x49)),(42,(.int .i64 x50)),(43,(.int .i64 x51))]) x113),(.blk 4),(.seq (pcOf F9i 42 [1,1,1,0,0,1,0,0,1,0,1,0,0,1,0,0,1,0,1,1])),(.blk 3),(.seq (pcOf F9i 42 [1,1,0,0,1,0,1,0,0,1,0,0,1,0,1,1])),(.lop (pcOf F9i 42 [0,0,1,0,1,0,0,1,0,0,1,0,1,1]) 2 (tmOf 87 [(0,(.agg [(.int .i64 (s.1)),(.vs tN (s.2.1.1) (s.2.1.2)),(.int .i64 (s.2.2.1)),(.int .i64 (s.2.2.2.1)),(.int .i64 (s.2.2.2.2.1)),(.vs tI (s.2.2.2.2.2.1.1) (s.2.2.2.2.2.1.2))])),(1,(.vs tO (p.1) (p.2))),(2,(.vs tI (f.1) (f.2))),(3,(.ptr 0 0)),(6,.nils),(7,(.sl 1 0 x12 x12 1)),(8,(.int .i64 x14)),(9,.nils),(10,(.int .i64 (0))),(13,(.int .i64 x14)),(14,(.ptr 0 0)),(15,(.int .i64 (s.1))),(16,(.bool (true)))]) x133),(.blk 2),(.seq (pcOf F9i 42 [1,1,0,0,1,0,0,1,0,1,1])),(.blk 1),(.seq (pcOf F9i 42 [1,1,0,0,1,0,1,1])),(.lop (pcOf F9i 42 [0,0,1,0,1,1]) 1 (tmOf 87 [(0,(.agg [(.int .i64 (s.1)),(.vs tN (s.2.1.1) (s.2.1.2)),(.int .i64 (s.2.2.1)),(.int .i64 (s.2.2.2.1)),(.int .i64 (s.2.2.2.2.1)),(.vs tI (s.2.2.2.2.2.1.1) (s.2.2.2.2.2.1.2))])),(1,(.vs tO (p.1) (p.2))),(2,(.vs tI (f.1) (f.2))),(3,(.ptr 0 0)),(6,.nils),(7,.nils),(8,(.int .i64 (0)))]) x147),(.blk 0),(.seq (pcOf F9i 42 [1,1,1])),(.cal [(.tmp 6)] .top)]⟩
noncomputable def morI9 (s:tS.den) (p:(Ty.sl tO).den) (f:(Ty.sl tI).den) (x13:Nat) (x15:Int) (x16:Int) (x17:Int) (x29:List Nat) (x30:Int) (x31:Int) (x32:Int) (x48:List AV) (x89:Nat) (x107:Nat) (x121:Nat):Cfg:=⟨.ex (pcOf F9i 42 [0,0,1,0,1,1,0,0,1,0,0,1,0,1,0,0,1,0,0,1,0,1,1]) ⟨(tmOf 87 [(0,(.agg [(.int .i64 (s.1)),(.vs tN (s.2.1.1) (s.2.1.2)),(.int .i64 (s.2.2.1)),(.int .i64 (s.2.2.2.1)),(.int .i64 (s.2.2.2.2.1)),(.vs tI (s.2.2.2.2.2.1.1) (s.2.2.2.2.2.1.2))])),(1,(.vs tO (p.1) (p.2))),(2,(.vs tI (f.1) (f.2))),(3,(.ptr 0 0)),(6,.nils),(7,.nils),(8,(.int .i64 (0))),(9,(.sl 1 0 x13 x13 1)),(10,(.int .i64 x15)),(11,(.int .i64 x16)),(12,(.int .i64 x17)),(13,(.int .i64 (0))),(14,(.ptr 0 0)),(15,(.int .i64 (s.1))),(16,(.bool (true))),(19,(.int .i64 x15)),(20,(.ptr 0 1)),(21,(.vs tN (s.2.1.1) (s.2.1.2))),(22,(.int .i64 (Int.ofNat s.2.1.2.length))),(23,(.bool (true))),(26,(.ptr 0 1)),(27,(.vs tN (s.2.1.1) (s.2.1.2))),(28,(.int .i64 x15)),(29,(.cp [(.str x29),(.int .i64 x30),(.int .i64 x31),(.int .i64 x32)] 0)),(30,(.cp [(.str x29),(.int .i64 x30),(.int .i64 x31),(.int .i64 x32)] 2)),(31,(.int .i64 x31)),(32,(.int .i64 (0))),(33,(.bool (false)))]),(hpOf 2 [(0,(.cells false [(.int .i64 (s.1)),(.vs tN (s.2.1.1) (s.2.1.2)),(.int .i64 (s.2.2.1)),(.int .i64 (s.2.2.2.1)),(.int .i64 (s.2.2.2.2.1)),(.vs tI (s.2.2.2.2.2.1.1) (s.2.2.2.2.2.1.2))])),(1,(.cells false x48))]),[],[],87,false⟩,⟨40,[]⟩,[(.lop (pcOf F9i 42 [0,0,1,0,1,1,0,0,1,0,0,1,0,1,0,0,1,0,0,1,0,1,1]) 2 (tmOf 87 [(0,(.agg [(.int .i64 (s.1)),(.vs tN (s.2.1.1) (s.2.1.2)),(.int .i64 (s.2.2.1)),(.int .i64 (s.2.2.2.1)),(.int .i64 (s.2.2.2.2.1)),(.vs tI (s.2.2.2.2.2.1.1) (s.2.2.2.2.2.1.2))])),(1,(.vs tO (p.1) (p.2))),(2,(.vs tI (f.1) (f.2))),(3,(.ptr 0 0)),(6,.nils),(7,.nils),(8,(.int .i64 (0))),(9,(.sl 1 0 x13 x13 1)),(10,(.int .i64 x15)),(11,(.int .i64 x31)),(12,(.int .i64 (0))),(13,(.int .i64 (0))),(14,(.ptr 0 0)),(15,(.int .i64 (s.1))),(16,(.bool (true))),(19,(.int .i64 x15)),(20,(.ptr 0 1)),(21,(.vs tN (s.2.1.1) (s.2.1.2))),(22,(.int .i64 (Int.ofNat s.2.1.2.length))),(23,(.bool (true))),(26,(.ptr 0 1)),(27,(.vs tN (s.2.1.1) (s.2.1.2))),(28,(.int .i64 x15)),(29,(.cp [(.str x29),(.int .i64 x30),(.int .i64 x31),(.int .i64 x32)] 0)),(30,(.cp [(.str x29),(.int .i64 x30),(.int .i64 x31),(.int .i64 x32)] 2)),(31,(.int .i64 x31)),(32,(.int .i64 (0))),(33,(.bool (false)))]) x89),(.blk 4),(.seq (pcOf F9i 42 [1,1,1,0,0,1,0,0,1,0,1,0,0,1,0,0,1,0,1,1])),(.blk 3),(.seq (pcOf F9i 42 [1,1,0,0,1,0,1,0,0,1,0,0,1,0,1,1])),(.lop (pcOf F9i 42 [0,0,1,0,1,0,0,1,0,0,1,0,1,1]) 1 (tmOf 87 [(0,(.agg [(.int .i64 (s.1)),(.vs tN (s.2.1.1) (s.2.1.2)),(.int .i64 (s.2.2.1)),(.int .i64 (s.2.2.2.1)),(.int .i64 (s.2.2.2.2.1)),(.vs tI (s.2.2.2.2.2.1.1) (s.2.2.2.2.2.1.2))])),(1,(.vs tO (p.1) (p.2))),(2,(.vs tI (f.1) (f.2))),(3,(.ptr 0 0)),(6,.nils),(7,.nils),(8,(.int .i64 (0))),(9,.nils),(10,(.int .i64 (0))),(13,(.int .i64 (0))),(14,(.ptr 0 0)),(15,(.int .i64 (s.1))),(16,(.bool (true)))]) x107),(.blk 2),(.seq (pcOf F9i 42 [1,1,0,0,1,0,0,1,0,1,1])),(.blk 1),(.seq (pcOf F9i 42 [1,1,0,0,1,0,1,1])),(.lop (pcOf F9i 42 [0,0,1,0,1,1]) 1 (tmOf 87 [(0,(.agg [(.int .i64 (s.1)),(.vs tN (s.2.1.1) (s.2.1.2)),(.int .i64 (s.2.2.1)),(.int .i64 (s.2.2.2.1)),(.int .i64 (s.2.2.2.2.1)),(.vs tI (s.2.2.2.2.2.1.1) (s.2.2.2.2.2.1.2))])),(1,(.vs tO (p.1) (p.2))),(2,(.vs tI (f.1) (f.2))),(3,(.ptr 0 0)),(6,.nils),(7,.nils),(8,(.int .i64 (0)))]) x121),(.blk 0),(.seq (pcOf F9i 42 [1,1,1])),(.cal [(.tmp 6)] .top)]⟩
noncomputable def morI10 (s:tS.den) (p:(Ty.sl tO).den) (f:(Ty.sl tI).den) (x12:Nat) (x14:Int) (x15:Nat) (x17:Int) (x29:List AV) (x30:List AV) (x50:Nat) (x64:Nat):Cfg:=⟨.ex (pcOf F9i 42 [0,0,1,0,1,0,0,1,0,0,1,0,1,1]) ⟨(tmOf 87 [(0,(.agg [(.int .i64 (s.1)),(.vs tN (s.2.1.1) (s.2.1.2)),(.int .i64 (s.2.2.1)),(.int .i64 (s.2.2.2.1)),(.int .i64 (s.2.2.2.2.1)),(.vs tI (s.2.2.2.2.2.1.1) (s.2.2.2.2.2.1.2))])),(1,(.vs tO (p.1) (p.2))),(2,(.vs tI (f.1) (f.2))),(3,(.ptr 0 0)),(6,.nils),(7,(.sl 1 0 x12 x12 1)),(8,(.int .i64 x14)),(9,(.sl 2 0 x15 x15 1)),(10,(.int .i64 x17)),(13,(.int .i64 x14)),(14,(.ptr 0 0)),(15,(.int .i64 (s.1))),(16,(.bool (true)))]),(hpOf 3 [(0,(.cells false [(.int .i64 (s.1)),(.vs tN (s.2.1.1) (s.2.1.2)),(.int .i64 (s.2.2.1)),(.int .i64 (s.2.2.2.1)),(.int .i64 (s.2.2.2.2.1)),(.vs tI (s.2.2.2.2.2.1.1) (s.2.2.2.2.2.1.2))])),(1,(.cells false x29)),(2,(.cells false x30))]),[],[],87,false⟩,⟨40,[]⟩,[(.lop (pcOf F9i 42 [0,0,1,0,1,0,0,1,0,0,1,0,1,1]) 2 (tmOf 87 [(0,(.agg [(.int .i64 (s.1)),(.vs tN (s.2.1.1) (s.2.1.2)),(.int .i64 (s.2.2.1)),(.int .i64 (s.2.2.2.1)),(.int .i64 (s.2.2.2.2.1)),(.vs tI (s.2.2.2.2.2.1.1) (s.2.2.2.2.2.1.2))])),(1,(.vs tO (p.1) (p.2))),(2,(.vs tI (f.1) (f.2))),(3,(.ptr 0 0)),(6,.nils),(7,(.sl 1 0 x12 x12 1)),(8,(.int .i64 x14)),(9,.nils),(10,(.int .i64 (0))),(13,(.int .i64 x14)),(14,(.ptr 0 0)),(15,(.int .i64 (s.1))),(16,(.bool (true)))]) x50),(.blk 2),(.seq (pcOf F9i 42 [1,1,0,0,1,0,0,1,0,1,1])),(.blk 1),(.seq (pcOf F9i 42 [1,1,0,0,1,0,1,1])),(.lop (pcOf F9i 42 [0,0,1,0,1,1]) 1 (tmOf 87 [(0,(.agg [(.int .i64 (s.1)),(.vs tN (s.2.1.1) (s.2.1.2)),(.int .i64 (s.2.2.1)),(.int .i64 (s.2.2.2.1)),(.int .i64 (s.2.2.2.2.1)),(.vs tI (s.2.2.2.2.2.1.1) (s.2.2.2.2.2.1.2))])),(1,(.vs tO (p.1) (p.2))),(2,(.vs tI (f.1) (f.2))),(3,(.ptr 0 0)),(6,.nils),(7,.nils),(8,(.int .i64 (0)))]) x64),(.blk 0),(.seq (pcOf F9i 42 [1,1,1])),(.cal [(.tmp 6)] .top)]⟩
noncomputable def morI11 (s:tS.den) (p:(Ty.sl tO).den) (f:(Ty.sl tI).den) (x12:Nat) (x14:Int) (x15:Nat) (x17:Int) (x18:Int) (x19:Int) (x31:List Nat) (x32:Int) (x33:Int) (x34:Int) (x50:List AV) (x51:List AV) (x94:Nat) (x114:Nat) (x128:Nat):Cfg:=⟨.ex (pcOf F9i 42 [0,0,1,0,1,1,0,0,1,0,0,1,0,1,0,0,1,0,0,1,0,1,1]) ⟨(tmOf 87 [(0,(.agg [(.int .i64 (s.1)),(.vs tN (s.2.1.1) (s.2.1.2)),(.int .i64 (s.2.2.1)),(.int .i64 (s.2.2.2.1)),(.int .i64 (s.2.2.2.2.1)),(.vs tI (s.2.2.2.2.2.1.1) (s.2.2.2.2.2.1.2))])),(1,(.vs tO (p.1) (p.2))),(2,(.vs tI (f.1) (f.2))),(3,(.ptr 0 0)),(6,.nils),(7,(.sl 1 0 x12 x12 1)),(8,(.int .i64 x14)),(9,(.sl 2 0 x15 x15 1)),(10,(.int .i64 x17)),(11,(.int .i64 x18)),(12,(.int .i64 x19)),(13,(.int .i64 x14)),(14,(.ptr 0 0)),(15,(.int .i64 (s.1))),(16,(.bool (true))),(19,(.int .i64 x17)),(20,(.ptr 0 1)),(21,(.vs tN (s.2.1.1) (s.2.1.2))),(22,(.int .i64 (Int.ofNat s.2.1.2.length))),(23,(.bool (true))),(26,(.ptr 0 1)),(27,(.vs tN (s.2.1.1) (s.2.1.2))),(28,(.int .i64 x17)),(29,(.cp [(.str x31),(.int .i64 x32),(.int .i64 x33),(.int .i64 x34)] 0)),(30,(.cp [(.str x31),(.int .i64 x32),(.int .i64 x33),(.int .i64 x34)] 2)),(31,(.int .i64 x33)),(32,(.int .i64 x14)),(33,(.bool (false)))]),(hpOf 3 [(0,(.cells false [(.int .i64 (s.1)),(.vs tN (s.2.1.1) (s.2.1.2)),(.int .i64 (s.2.2.1)),(.int .i64 (s.2.2.2.1)),(.int .i64 (s.2.2.2.2.1)),(.vs tI (s.2.2.2.2.2.1.1) (s.2.2.2.2.2.1.2))])),(1,(.cells false x50)),(2,(.cells false x51))]),[],[],87,false⟩,⟨40,[]⟩,[(.lop (pcOf F9i 42 [0,0,1,0,1,1,0,0,1,0,0,1,0,1,0,0,1,0,0,1,0,1,1]) 3 (tmOf 87 [(0,(.agg [(.int .i64 (s.1)),(.vs tN (s.2.1.1) (s.2.1.2)),(.int .i64 (s.2.2.1)),(.int .i64 (s.2.2.2.1)),(.int .i64 (s.2.2.2.2.1)),(.vs tI (s.2.2.2.2.2.1.1) (s.2.2.2.2.2.1.2))])),(1,(.vs tO (p.1) (p.2))),(2,(.vs tI (f.1) (f.2))),(3,(.ptr 0 0)),(6,.nils),(7,(.sl 1 0 x12 x12 1)),(8,(.int .i64 x14)),(9,(.sl 2 0 x15 x15 1)),(10,(.int .i64 x17)),(11,(.int .i64 x33)),(12,(.int .i64 (0))),(13,(.int .i64 x14)),(14,(.ptr 0 0)),(15,(.int .i64 (s.1))),(16,(.bool (true))),(19,(.int .i64 x17)),(20,(.ptr 0 1)),(21,(.vs tN (s.2.1.1) (s.2.1.2))),(22,(.int .i64 (Int.ofNat s.2.1.2.length))),(23,(.bool (true))),(26,(.ptr 0 1)),(27,(.vs tN (s.2.1.1) (s.2.1.2))),(28,(.int .i64 x17)),(29,(.cp [(.str x31),(.int .i64 x32),(.int .i64 x33),(.int .i64 x34)] 0)),(30,(.cp [(.str x31),(.int .i64 x32),(.int .i64 x33),(.int .i64 x34)] 2)),(31,(.int .i64 x33)),(32,(.int .i64 x14)),(33,(.bool (false)))]) x94),(.blk 4),(.seq (pcOf F9i 42 [1,1,1,0,0,1,0,0,1,0,1,0,0,1,0,0,1,0,1,1])),(.blk 3),(.seq (pcOf F9i 42 [1,1,0,0,1,0,1,0,0,1,0,0,1,0,1,1])),(.lop (pcOf F9i 42 [0,0,1,0,1,0,0,1,0,0,1,0,1,1]) 2 (tmOf 87 [(0,(.agg [(.int .i64 (s.1)),(.vs tN (s.2.1.1) (s.2.1.2)),(.int .i64 (s.2.2.1)),(.int .i64 (s.2.2.2.1)),(.int .i64 (s.2.2.2.2.1)),(.vs tI (s.2.2.2.2.2.1.1) (s.2.2.2.2.2.1.2))])),(1,(.vs tO (p.1) (p.2))),(2,(.vs tI (f.1) (f.2))),(3,(.ptr 0 0)),(6,.nils),(7,(.sl 1 0 x12 x12 1)),(8,(.int .i64 x14)),(9,.nils),(10,(.int .i64 (0))),(13,(.int .i64 x14)),(14,(.ptr 0 0)),(15,(.int .i64 (s.1))),(16,(.bool (true)))]) x114),(.blk 2),(.seq (pcOf F9i 42 [1,1,0,0,1,0,0,1,0,1,1])),(.blk 1),(.seq (pcOf F9i 42 [1,1,0,0,1,0,1,1])),(.lop (pcOf F9i 42 [0,0,1,0,1,1]) 1 (tmOf 87 [(0,(.agg [(.int .i64 (s.1)),(.vs tN (s.2.1.1) (s.2.1.2)),(.int .i64 (s.2.2.1)),(.int .i64 (s.2.2.2.1)),(.int .i64 (s.2.2.2.2.1)),(.vs tI (s.2.2.2.2.2.1.1) (s.2.2.2.2.2.1.2))])),(1,(.vs tO (p.1) (p.2))),(2,(.vs tI (f.1) (f.2))),(3,(.ptr 0 0)),(6,.nils),(7,.nils),(8,(.int .i64 (0)))]) x128),(.blk 0),(.seq (pcOf F9i 42 [1,1,1])),(.cal [(.tmp 6)] .top)]⟩
noncomputable def morI12 (s:tS.den) (p:(Ty.sl tO).den) (f:(Ty.sl tI).den) (x12:Nat) (x14:Int) (x15:Nat) (x17:Int) (x18:Int) (x19:Int) (x31:List Nat) (x32:Int) (x33:Int) (x34:Int) (x45:Int) (x46:Nat) (x47:Bool) (x48:List (Ty.den tI)) (x50:Int) (x52:Int) (x53:Int) (x62:List AV) (x63:List AV) (x118:Nat) (x138:Nat) (x152:Nat):Cfg:=⟨.ex (pcOf F9i 42 [0,0,1,0,1,1,0,0,1,0,0,1,0,1,0,0,1,0,0,1,0,1,1]) ⟨(tmOf 87 [(0,(.agg [(.int .i64 (s.1)),(.vs tN (s.2.1.1) (s.2.1.2)),(.int .i64 (s.2.2.1)),(.int .i64 (s.2.2.2.1)),(.int .i64 (s.2.2.2.2.1)),(.vs tI (s.2.2.2.2.2.1.1) (s.2.2.2.2.2.1.2))])),(1,(.vs tO (p.1) (p.2))),(2,(.vs tI (f.1) (f.2))),(3,(.ptr 0 0)),(6,.nils),(7,(.sl 1 0 x12 x12 1)),(8,(.int .i64 x14)),(9,(.sl 2 0 x15 x15 1)),(10,(.int .i64 x17)),(11,(.int .i64 x18)),(12,(.int .i64 x19)),(13,(.int .i64 x14)),(14,(.ptr 0 0)),(15,(.int .i64 (s.1))),(16,(.bool (true))),(19,(.int .i64 x17)),(20,(.ptr 0 1)),(21,(.vs tN (s.2.1.1) (s.2.1.2))),(22,(.int .i64 (Int.ofNat s.2.1.2.length))),(23,(.bool (true))),(26,(.ptr 0 1)),(27,(.vs tN (s.2.1.1) (s.2.1.2))),(28,(.int .i64 x17)),(29,(.cp [(.str x31),(.int .i64 x32),(.int .i64 x33),(.int .i64 x34)] 0)),(30,(.cp [(.str x31),(.int .i64 x32),(.int .i64 x33),(.int .i64 x34)] 2)),(31,(.int .i64 x33)),(32,(.int .i64 x14)),(33,(.bool (true))),(34,(.sl 1 0 x12 x12 1)),(35,(.int .i64 x14)),(36,(.int .i64 x45)),(37,(.ptr 1 x46)),(38,(.vs tI x47 x48)),(39,(.int .i64 x17)),(40,(.cp [(.int .i64 x50)] 0)),(41,(.int .i64 x50)),(42,(.int .i64 x52)),(43,(.int .i64 x53))]),(hpOf 3 [(0,(.cells false [(.int .i64 (s.1)),(.vs tN (s.2.1.1) (s.2.1.2)),(.int .i64 (s.2.2.1)),(.int .i64 (s.2.2.2.1)),(.int .i64 (s.2.2.2.2.1)),(.vs tI (s.2.2.2.2.2.1.1) (s.2.2.2.2.2.1.2))])),(1,(.cells false x62)),(2,(.cells false x63))]),[],[],87,false⟩,⟨40,[]⟩,[(.lop (pcOf F9i 42 [0,0,1,0,1,1,0,0,1,0,0,1,0,1,0,0,1,0,0,1,0,1,1]) 3 (tmOf 87 [(0,(.agg [(.int .i64 (s.1)),(.vs tN (s.2.1.1) (s.2.1.2)),(.int .i64 (s.2.2.1)),(.int .i64 (s.2.2.2.1)),(.int .i64 (s.2.2.2.2.1)),(.vs tI (s.2.2.2.2.2.1.1) (s.2.2.2.2.2.1.2))])),(1,(.vs tO (p.1) (p.2))),(2,(.vs tI (f.1) (f.2))),(3,(.ptr 0 0)),(6,.nils),(7,(.sl 1 0 x12 x12 1)),(8,(.int .i64 x14)),(9,(.sl 2 0 x15 x15 1)),(10,(.int .i64 x17)),(11,(.int .i64 x53)),(12,(.int .i64 (0))),(13,(.int .i64 x14)),(14,(.ptr 0 0)),(15,(.int .i64 (s.1))),(16,(.bool (true))),(19,(.int .i64 x17)),(20,(.ptr 0 1)),(21,(.vs tN (s.2.1.1) (s.2.1.2))),(22,(.int .i64 (Int.ofNat s.2.1.2.length))),(23,(.bool (true))),(26,(.ptr 0 1)),(27,(.vs tN (s.2.1.1) (s.2.1.2))),(28,(.int .i64 x17)),(29,(.cp [(.str x31),(.int .i64 x32),(.int .i64 x33),(.int .i64 x34)] 0)),(30,(.cp [(.str x31),(.int .i64 x32),(.int .i64 x33),(.int .i64 x34)] 2)),(31,(.int .i64 x33)),(32,(.int .i64 x14)),(33,(.bool (true))),(34,(.sl 1 0 x12 x12 1)),(35,(.int .i64 x14)),(36,(.int .i64 x45)),(37,(.ptr 1 x46)),(38,(.vs tI x47 x48)),(39,(.int .i64 x17)),(40,(.cp [(.int .i64 x50)] 0)),(41,(.int .i64 x50)),(42,(.int .i64 x52)),(43,(.int .i64 x53))]) x118),(.blk 4),(.seq (pcOf F9i 42 [1,1,1,0,0,1,0,0,1,0,1,0,0,1,0,0,1,0,1,1])),(.blk 3),(.seq (pcOf F9i 42 [1,1,0,0,1,0,1,0,0,1,0,0,1,0,1,1])),(.lop (pcOf F9i 42 [0,0,1,0,1,0,0,1,0,0,1,0,1,1]) 2 (tmOf 87 [(0,(.agg [(.int .i64 (s.1)),(.vs tN (s.2.1.1) (s.2.1.2)),(.int .i64 (s.2.2.1)),(.int .i64 (s.2.2.2.1)),(.int .i64 (s.2.2.2.2.1)),(.vs tI (s.2.2.2.2.2.1.1) (s.2.2.2.2.2.1.2))])),(1,(.vs tO (p.1) (p.2))),(2,(.vs tI (f.1) (f.2))),(3,(.ptr 0 0)),(6,.nils),(7,(.sl 1 0 x12 x12 1)),(8,(.int .i64 x14)),(9,.nils),(10,(.int .i64 (0))),(13,(.int .i64 x14)),(14,(.ptr 0 0)),(15,(.int .i64 (s.1))),(16,(.bool (true)))]) x138),(.blk 2),(.seq (pcOf F9i 42 [1,1,0,0,1,0,0,1,0,1,1])),(.blk 1),(.seq (pcOf F9i 42 [1,1,0,0,1,0,1,1])),(.lop (pcOf F9i 42 [0,0,1,0,1,1]) 1 (tmOf 87 [(0,(.agg [(.int .i64 (s.1)),(.vs tN (s.2.1.1) (s.2.1.2)),(.int .i64 (s.2.2.1)),(.int .i64 (s.2.2.2.1)),(.int .i64 (s.2.2.2.2.1)),(.vs tI (s.2.2.2.2.2.1.1) (s.2.2.2.2.2.1.2))])),(1,(.vs tO (p.1) (p.2))),(2,(.vs tI (f.1) (f.2))),(3,(.ptr 0 0)),(6,.nils),(7,.nils),(8,(.int .i64 (0)))]) x152),(.blk 0),(.seq (pcOf F9i 42 [1,1,1])),(.cal [(.tmp 6)] .top)]⟩
noncomputable def morI14 (s:tS.den) (p:(Ty.sl tO).den) (f:(Ty.sl tI).den) (x12:Nat) (x14:Int) (x15:Nat) (x17:Int) (x18:Int) (x19:Int) (x31:List Nat) (x32:Int) (x33:Int) (x34:Int) (x45:Int) (x46:Nat) (x47:List AV) (x48:Nat) (x51:Nat) (x52:Int) (x53:Int) (x54:Int) (x63:List AV) (x64:List AV) (x120:Nat) (x140:Nat) (x154:Nat):Cfg:=⟨.ex (pcOf F9i 42 [0,0,1,0,1,1,0,0,1,0,0,1,0,1,0,0,1,0,0,1,0,1,1]) ⟨(tmOf 87 [(0,(.agg [(.int .i64 (s.1)),(.vs tN (s.2.1.1) (s.2.1.2)),(.int .i64 (s.2.2.1)),(.int .i64 (s.2.2.2.1)),(.int .i64 (s.2.2.2.2.1)),(.vs tI (s.2.2.2.2.2.1.1) (s.2.2.2.2.2.1.2))])),(1,(.vs tO (p.1) (p.2))),(2,(.vs tI (f.1) (f.2))),(3,(.ptr 0 0)),(6,.nils),(7,(.sl 1 0 x12 x12 1)),(8,(.int .i64 x14)),(9,(.sl 2 0 x15 x15 1)),(10,(.int .i64 x17)),(11,(.int .i64 x18)),(12,(.int .i64 x19)),(13,(.int .i64 x14)),(14,(.ptr 0 0)),(15,(.int .i64 (s.1))),(16,(.bool (true))),(19,(.int .i64 x17)),(20,(.ptr 0 1)),(21,(.vs tN (s.2.1.1) (s.2.1.2))),(22,(.int .i64 (Int.ofNat s.2.1.2.length))),(23,(.bool (true))),(26,(.ptr 0 1)),(27,(.vs tN (s.2.1.1) (s.2.1.2))),(28,(.int .i64 x17)),(29,(.cp [(.str x31),(.int .i64 x32),(.int .i64 x33),(.int .i64 x34)] 0)),(30,(.cp [(.str x31),(.int .i64 x32),(.int .i64 x33),(.int .i64 x34)] 2)),(31,(.int .i64 x33)),(32,(.int .i64 x14)),(33,(.bool (true))),(34,(.sl 1 0 x12 x12 1)),(35,(.int .i64 x14)),(36,(.int .i64 x45)),(37,(.ptr 1 x46)),(38,(.csl x47 x48)),(39,(.int .i64 x17)),(40,(.cp x47 x51)),(41,(.int .i64 x52)),(42,(.int .i64 x53)),(43,(.int .i64 x54))]),(hpOf 3 [(0,(.cells false [(.int .i64 (s.1)),(.vs tN (s.2.1.1) (s.2.1.2)),(.int .i64 (s.2.2.1)),(.int .i64 (s.2.2.2.1)),(.int .i64 (s.2.2.2.2.1)),(.vs tI (s.2.2.2.2.2.1.1) (s.2.2.2.2.2.1.2))])),(1,(.cells false x63)),(2,(.cells false x64))]),[],[],87,false⟩,⟨40,[]⟩,[(.lop (pcOf F9i 42 [0,0,1,0,1,1,0,0,1,0,0,1,0,1,0,0,1,0,0,1,0,1,1]) 3 (tmOf 87 [(0,(.agg [(.int .i64 (s.1)),(.vs tN (s.2.1.1) (s.2.1.2)),(.int .i64 (s.2.2.1)),(.int .i64 (s.2.2.2.1)),(.int .i64 (s.2.2.2.2.1)),(.vs tI (s.2.2.2.2.2.1.1) (s.2.2.2.2.2.1.2))])),(1,(.vs tO (p.1) (p.2))),(2,(.vs tI (f.1) (f.2))),(3,(.ptr 0 0)),(6,.nils),(7,(.sl 1 0 x12 x12 1)),(8,(.int .i64 x14)),(9,(.sl 2 0 x15 x15 1)),(10,(.int .i64 x17)),(11,(.int .i64 x54)),(12,(.int .i64 (0))),(13,(.int .i64 x14)),(14,(.ptr 0 0)),(15,(.int .i64 (s.1))),(16,(.bool (true))),(19,(.int .i64 x17)),(20,(.ptr 0 1)),(21,(.vs tN (s.2.1.1) (s.2.1.2))),(22,(.int .i64 (Int.ofNat s.2.1.2.length))),(23,(.bool (true))),(26,(.ptr 0 1)),(27,(.vs tN (s.2.1.1) (s.2.1.2))),(28,(.int .i64 x17)),(29,(.cp [(.str x31),(.int .i64 x32),(.int .i64 x33),(.int .i64 x34)] 0)),(30,(.cp [(.str x31),(.int .i64 x32),(.int .i64 x33),(.int .i64 x34)] 2)),(31,(.int .i64 x33)),(32,(.int .i64 x14)),(33,(.bool (true))),(34,(.sl 1 0 x12 x12 1)),(35,(.int .i64 x14)),(36,(.int .i64 x45)),(37,(.ptr 1 x46)),(38,(.csl x47 x48)),(39,(.int .i64 x17)),(40,(.cp x47 x51)),(41,(.int .i64 x52)),(42,(.int .i64 x53)),(43,(.int .i64 x54))]) x120),(.blk 4),(.seq (pcOf F9i 42 [1,1,1,0,0,1,0,0,1,0,1,0,0,1,0,0,1,0,1,1])),(.blk 3),(.seq (pcOf F9i 42 [1,1,0,0,1,0,1,0,0,1,0,0,1,0,1,1])),(.lop (pcOf F9i 42 [0,0,1,0,1,0,0,1,0,0,1,0,1,1]) 2 (tmOf 87 [(0,(.agg [(.int .i64 (s.1)),(.vs tN (s.2.1.1) (s.2.1.2)),(.int .i64 (s.2.2.1)),(.int .i64 (s.2.2.2.1)),(.int .i64 (s.2.2.2.2.1)),(.vs tI (s.2.2.2.2.2.1.1) (s.2.2.2.2.2.1.2))])),(1,(.vs tO (p.1) (p.2))),(2,(.vs tI (f.1) (f.2))),(3,(.ptr 0 0)),(6,.nils),(7,(.sl 1 0 x12 x12 1)),(8,(.int .i64 x14)),(9,.nils),(10,(.int .i64 (0))),(13,(.int .i64 x14)),(14,(.ptr 0 0)),(15,(.int .i64 (s.1))),(16,(.bool (true)))]) x140),(.blk 2),(.seq (pcOf F9i 42 [1,1,0,0,1,0,0,1,0,1,1])),(.blk 1),(.seq (pcOf F9i 42 [1,1,0,0,1,0,1,1])),(.lop (pcOf F9i 42 [0,0,1,0,1,1]) 1 (tmOf 87 [(0,(.agg [(.int .i64 (s.1)),(.vs tN (s.2.1.1) (s.2.1.2)),(.int .i64 (s.2.2.1)),(.int .i64 (s.2.2.2.1)),(.int .i64 (s.2.2.2.2.1)),(.vs tI (s.2.2.2.2.2.1.1) (s.2.2.2.2.2.1.2))])),(1,(.vs tO (p.1) (p.2))),(2,(.vs tI (f.1) (f.2))),(3,(.ptr 0 0)),(6,.nils),(7,.nils),(8,(.int .i64 (0)))]) x154),(.blk 0),(.seq (pcOf F9i 42 [1,1,1])),(.cal [(.tmp 6)] .top)]⟩
theorem mor_start (s:tS.den) (p:(Ty.sl tO).den) (f:(Ty.sl tI).den):adv F9i (Z9 [42]) 3000 (startC F9i 42 [tS.av s,.vs tO p.1 p.2,.vs tI f.1 f.2] 40)=some (.stop (morI0 s p f (1048575))):=by kernel_rfl
theorem mor_step0 (s:tS.den) (p:(Ty.sl tO).den) (f:(Ty.sl tI).den) (x34:Nat):adv F9i (Z9 [42]) 3000 (morI0 s p f (x34+1))=(bif !ile s.1 0 then some (.stop (morI1 s p f (1048575) (x34+1))) else some (.done .nils)):=by kernel_rfl
theorem mor_step1 (s:tS.den) (p:(Ty.sl tO).den) (f:(Ty.sl tI).den) (x42:Nat) (x56:Nat):adv F9i (Z9 [42]) 3000 (morI1 s p f (x42+1) (x56+1))=(bif !ile (↑s.2.1.2.length) 0 then (bif inB 0 s.2.1.2.length then some (.stop (morI3 s p f ((s.2.1.2.getD (Int.toNat 0) tN.dflt).2.2.1) (0) (1048575) (x42+1) (x56+1))) else none) else some (.stop (morI2 s p f (1) (1) ([AV.nils]) (x56)))):=by kernel_rfl
theorem mor_step2 (s:tS.den) (p:(Ty.sl tO).den) (f:(Ty.sl tI).den) (x12:Nat) (x14:Int) (x23:List AV) (x37:Nat):adv F9i (Z9 [42]) 3000 (morI2 s p f x12 x14 x23 (x37+1))=(bif !ile s.1 x14 then some (.stop (morI4 s p f (x12) (x14) (x23) (1048575) (x37+1))) else (bif plainL x23 then some (.done (.csl (x23) (x12))) else none)):=by kernel_rfl
theorem mor_step4 (s:tS.den) (p:(Ty.sl tO).den) (f:(Ty.sl tI).den) (x12:Nat) (x14:Int) (x27:List AV) (x47:Nat) (x61:Nat):adv F9i (Z9 [42]) 3000 (morI4 s p f x12 x14 x27 (x47+1) (x61+1))=(bif !ile (↑s.2.1.2.length) 0 then (bif inB 0 s.2.1.2.length then (bif !ile x14 0 then (bif inB (wr .i64 (x14-1)) x12 then (bif (0+(wr .i64 (x14-1)).toNat * 1+1).ble x27.length then (bif isCsl (x27.getD (0+(wr .i64 (x14-1)).toNat * 1) AV.nili) then (bif inB 0 (cslN (x27.getD (0+(wr .i64 (x14-1)).toNat * 1) AV.nili)) then (bif isZs (cslC (x27.getD (0+(wr .i64 (x14-1)).toNat * 1) AV.nili)) [AV.int IntKind.i64 0] (Int.toNat 0 * 1) then some (.stop (morI8 s p f (x12) (x14) (bif ile (wr .i64 (toI ((cslC (x27.getD (0+(wr .i64 (x14-1)).toNat * 1) AV.nili)).getD (Int.toNat 0 * 1) AV.nili)-1)) 0 then 0 else wr .i64 (toI ((cslC (x27.getD (0+(wr .i64 (x14-1)).toNat * 1) AV.nili)).getD (Int.toNat 0 * 1) AV.nili)-1)) (0) (wr .i64 (x14-1)) (0+(wr .i64 (x14-1)).toNat * 1) (cslC (x27.getD (0+(wr .i64 (x14-1)).toNat * 1) AV.nili)) (cslN (x27.getD (0+(wr .i64 (x14-1)).toNat * 1) AV.nili)) (toI ((cslC (x27.getD (0+(wr .i64 (x14-1)).toNat * 1) AV.nili)).getD (Int.toNat 0 * 1) AV.nili)) (wr .i64 (toI ((cslC (x27.getD (0+(wr .i64 (x14-1)).toNat * 1) AV.nili)).getD (Int.toNat 0 * 1) AV.nili)-1)) (bif ile (wr .i64 (toI ((cslC (x27.getD (0+(wr .i64 (x14-1)).toNat * 1) AV.nili)).getD (Int.toNat 0 * 1) AV.nili)-1)) 0 then 0 else wr .i64 (toI ((cslC (x27.getD (0+(wr .i64 (x14-1)).toNat * 1) AV.nili)).getD (Int.toNat 0 * 1) AV.nili)-1)) (x27) (1048575) (x47+1) (x61+1))) else none) else none) else (bif isVsI IntKind.i64 (x27.getD (0+(wr .i64 (x14-1)).toNat * 1) AV.nili) then (bif inB 0 (vsL (x27.getD (0+(wr .i64 (x14-1)).toNat * 1) AV.nili)).length then some (.stop (morI7 s p f (x12) (x14) (bif ile (wr .i64 ((vsL (x27.getD (0+(wr .i64 (x14-1)).toNat * 1) AV.nili)).getD (Int.toNat 0) tI.dflt-1)) 0 then 0 else wr .i64 ((vsL (x27.getD (0+(wr .i64 (x14-1)).toNat * 1) AV.nili)).getD (Int.toNat 0) tI.dflt-1)) (0) (wr .i64 (x14-1)) (0+(wr .i64 (x14-1)).toNat * 1) (vsN (x27.getD (0+(wr .i64 (x14-1)).toNat * 1) AV.nili)) (vsL (x27.getD (0+(wr .i64 (x14-1)).toNat * 1) AV.nili)) ((vsL (x27.getD (0+(wr .i64 (x14-1)).toNat * 1) AV.nili)).getD (Int.toNat 0) tI.dflt) (wr .i64 ((vsL (x27.getD (0+(wr .i64 (x14-1)).toNat * 1) AV.nili)).getD (Int.toNat 0) tI.dflt-1)) (bif ile (wr .i64 ((vsL (x27.getD (0+(wr .i64 (x14-1)).toNat * 1) AV.nili)).getD (Int.toNat 0) tI.dflt-1)) 0 then 0 else wr .i64 ((vsL (x27.getD (0+(wr .i64 (x14-1)).toNat * 1) AV.nili)).getD (Int.toNat 0) tI.dflt-1)) (x27) (1048575) (x47+1) (x61+1))) else none) else none)) else none) else none) else some (.stop (morI6 s p f (x12) (x14) ((s.2.1.2.getD (Int.toNat 0) tN.dflt).2.2.1) (0) (x27) (1048575) (x47+1) (x61+1)))) else none) else (bif (0+x12 * 1).beq x27.length then (bif x12.ble 1048576 then (bif plO (AO.cells false (x27++[AV.nils])) then some (.stop (morI2 s p f (x12+1) (wr .i64 (x14+1)) (x27++[AV.nils]) (x61))) else none) else none) else none)):=by kernel_rfl
theorem mor_s5 (s:tS.den) (p:(Ty.sl tO).den) (f:(Ty.sl tI).den) (x13:Nat) (x15:Int) (x27:List AV) (x45:Nat) (x59:Nat):adv F9i ({ (Z9 [42]) with nf:=[2] }:Sy) 3000 (morI5 s p f x13 x15 x27 (x45+1) (x59+1))=(bif !ile (↑s.2.1.2.length) x15 then (bif inB x15 s.2.1.2.length then some (.stop (morI9 s p f (x13) (x15) ((s.2.1.2.getD x15.toNat tN.dflt).2.2.1) (0) ((s.2.1.2.getD x15.toNat tN.dflt).1) ((s.2.1.2.getD x15.toNat tN.dflt).2.1) ((s.2.1.2.getD x15.toNat tN.dflt).2.2.1) ((s.2.1.2.getD x15.toNat tN.dflt).2.2.2.1) (x27) (1048575) (x45+1) (x59+1))) else none) else (bif plainL x27 then (bif plO (AO.cells true x27) then some (.stop (morI2 s p f 1 1 [AV.csl x27 x13] x59)) else none) else none)):=by kernel_rfl
theorem mor_s10 (s:tS.den) (p:(Ty.sl tO).den) (f:(Ty.sl tI).den) (x12:Nat) (x14:Int) (x15:Nat) (x17:Int) (x29:List AV) (x30:List AV) (x50:Nat) (x64:Nat):adv F9i ({ (Z9 [42]) with nf:=[3] }:Sy) 3000 (morI10 s p f x12 x14 x15 x17 x29 x30 (x50+1) (x64+1))=(bif !ile (↑s.2.1.2.length) x17 then (bif inB x17 s.2.1.2.length then (bif !ile x14 0 then (bif inB (wr .i64 (x14-1)) x12 then (bif (0+(wr .i64 (x14-1)).toNat * 1+1).ble x29.length then (bif isCsl (x29.getD (0+(wr .i64 (x14-1)).toNat * 1) AV.nili) then (bif inB x17 (cslN (x29.getD (0+(wr .i64 (x14-1)).toNat * 1) AV.nili)) then (bif isZs (cslC (x29.getD (0+(wr .i64 (x14-1)).toNat * 1) AV.nili)) [AV.int IntKind.i64 0] (x17.toNat * 1) then some (.stop (morI14 s p f (x12) (x14) (x15) (x17) (bif ile (wr .i64 (toI ((cslC (x29.getD (0+(wr .i64 (x14-1)).toNat * 1) AV.nili)).getD (x17.toNat * 1) AV.nili)-1)) 0 then 0 else wr .i64 (toI ((cslC (x29.getD (0+(wr .i64 (x14-1)).toNat * 1) AV.nili)).getD (x17.toNat * 1) AV.nili)-1)) (0) ((s.2.1.2.getD x17.toNat tN.dflt).1) ((s.2.1.2.getD x17.toNat tN.dflt).2.1) ((s.2.1.2.getD x17.toNat tN.dflt).2.2.1) ((s.2.1.2.getD x17.toNat tN.dflt).2.2.2.1) (wr .i64 (x14-1)) (0+(wr .i64 (x14-1)).toNat * 1) (cslC (x29.getD (0+(wr .i64 (x14-1)).toNat * 1) AV.nili)) (cslN (x29.getD (0+(wr .i64 (x14-1)).toNat * 1) AV.nili)) (x17.toNat * 1) (toI ((cslC (x29.getD (0+(wr .i64 (x14-1)).toNat * 1) AV.nili)).getD (x17.toNat * 1) AV.nili)) (wr .i64 (toI ((cslC (x29.getD (0+(wr .i64 (x14-1)).toNat * 1) AV.nili)).getD (x17.toNat * 1) AV.nili)-1)) (bif ile (wr .i64 (toI ((cslC (x29.getD (0+(wr .i64 (x14-1)).toNat * 1) AV.nili)).getD (x17.toNat * 1) AV.nili)-1)) 0 then 0 else wr .i64 (toI ((cslC (x29.getD (0+(wr .i64 (x14-1)).toNat * 1) AV.nili)).getD (x17.toNat * 1) AV.nili)-1)) (x29) (x30) (1048575) (x50+1) (x64+1))) else none) else none) else (bif isVsI IntKind.i64 (x29.getD (0+(wr .i64 (x14-1)).toNat * 1) AV.nili) then (bif inB x17 (vsL (x29.getD (0+(wr .i64 (x14-1)).toNat * 1) AV.nili)).length then some (.stop (morI12 s p f (x12) (x14) (x15) (x17) (bif ile (wr .i64 ((vsL (x29.getD (0+(wr .i64 (x14-1)).toNat * 1) AV.nili)).getD x17.toNat tI.dflt-1)) 0 then 0 else wr .i64 ((vsL (x29.getD (0+(wr .i64 (x14-1)).toNat * 1) AV.nili)).getD x17.toNat tI.dflt-1)) (0) ((s.2.1.2.getD x17.toNat tN.dflt).1) ((s.2.1.2.getD x17.toNat tN.dflt).2.1) ((s.2.1.2.getD x17.toNat tN.dflt).2.2.1) ((s.2.1.2.getD x17.toNat tN.dflt).2.2.2.1) (wr .i64 (x14-1)) (0+(wr .i64 (x14-1)).toNat * 1) (vsN (x29.getD (0+(wr .i64 (x14-1)).toNat * 1) AV.nili)) (vsL (x29.getD (0+(wr .i64 (x14-1)).toNat * 1) AV.nili)) ((vsL (x29.getD (0+(wr .i64 (x14-1)).toNat * 1) AV.nili)).getD x17.toNat tI.dflt) (wr .i64 ((vsL (x29.getD (0+(wr .i64 (x14-1)).toNat * 1) AV.nili)).getD x17.toNat tI.dflt-1)) (bif ile (wr .i64 ((vsL (x29.getD (0+(wr .i64 (x14-1)).toNat * 1) AV.nili)).getD x17.toNat tI.dflt-1)) 0 then 0 else wr .i64 ((vsL (x29.getD (0+(wr .i64 (x14-1)).toNat * 1) AV.nili)).getD x17.toNat tI.dflt-1)) (x29) (x30) (1048575) (x50+1) (x64+1))) else none) else none)) else none) else none) else some (.stop (morI11 s p f (x12) (x14) (x15) (x17) ((s.2.1.2.getD x17.toNat tN.dflt).2.2.1) (0) ((s.2.1.2.getD x17.toNat tN.dflt).1) ((s.2.1.2.getD x17.toNat tN.dflt).2.1) ((s.2.1.2.getD x17.toNat tN.dflt).2.2.1) ((s.2.1.2.getD x17.toNat tN.dflt).2.2.2.1) (x29) (x30) (1048575) (x50+1) (x64+1)))) else none) else (bif plainL x30 then (bif (0+x12 * 1).beq x29.length then (bif x12.ble 1048576 then (bif plO (AO.cells true x30) then (bif plO (AO.cells false (x29++[AV.csl x30 x15])) then some (.stop (morI2 s p f (x12+1) (wr .i64 (x14+1)) (x29++[AV.csl x30 x15]) x64)) else none) else none) else none) else none) else none)):=by kernel_rfl
noncomputable abbrev odI (p:(Ty.sl tO).den) (i:Int):tO.den:=p.2.getD i.toNat tO.dflt
noncomputable def loS (s:tS.den) (p:(Ty.sl tO).den) (f:(Ty.sl tI).den) (n d a i:Int) (X:Int→Option Out) (EX:Option Out):Option Out:=
 (bif !ile (p.2.length:Int) i then (bif inB i p.2.length then (bif ieq (odI p i).1 d then (bif le1k f.2 then (bif !hasV i f.2 then (bif inB i p.2.length then (bif le1k (odI p i).2.1.2 then (bif hasV n (odI p i).2.1.2 then (bif inB n s.2.1.2.length then X (s.2.1.2.getD n.toNat tN.dflt).2.1 else none) else X a) else none) else none) else X a) else none) else X a) else none) else EX)
theorem lo3 (s:tS.den) (p:(Ty.sl tO).den) (f:(Ty.sl tI).den) (a i:Int) (m M N:Nat):adv F9i (Z9 [42]) 3000 (morI3 s p f a i (m+1) (M+1) (N+1))=loS s p f 0 0 a i (fun a'=>some (.stop (morI3 s p f a' (wr .i64 (i+1)) m (M+1) (N+1)))) (some (.stop (morI5 s p f 1 1 [.int .i64 a] M (N+1)))):=by kernel_rfl
theorem lo9 (s:tS.den) (p:(Ty.sl tO).den) (f:(Ty.sl tI).den) (k:Nat) (n a i:Int) (x:List Nat) (y z w:Int) (L:List AV) (m M N:Nat):adv F9i (Z9 [42]) 3000 (morI9 s p f k n a i x y z w L (m+1) (M+1) (N+1))=loS s p f n 0 a i (fun a'=>bif plO (AO.cells false L) then some (.stop (morI9 s p f k n a' (wr .i64 (i+1)) x y z w L m (M+1) (N+1))) else none)
 (bif (0+k * 1).beq L.length then (bif k.ble 1048576 then (bif plO (AO.cells false (L++[.int .i64 a])) then some (.stop (morI5 s p f (k+1) (wr .i64 (n+1)) (L++[.int .i64 a]) M (N+1))) else none) else none) else none):=by kernel_rfl
theorem lo8 (s:tS.den) (p:(Ty.sl tO).den) (f:(Ty.sl tI).den) (k:Nat) (d a i x1:Int) (x2:Nat) (x3:List AV) (x4:Nat) (x5 x6 x7:Int) (R:List AV) (m M N:Nat):adv F9i (Z9 [42]) 3000 (morI8 s p f k d a i x1 x2 x3 x4 x5 x6 x7 R (m+1) (M+1) (N+1))=loS s p f 0 d a i (fun a'=>bif plO (AO.cells false R) then some (.stop (morI8 s p f k d a' (wr .i64 (i+1)) x1 x2 x3 x4 x5 x6 x7 R m (M+1) (N+1))) else none)
 (bif plO (AO.cells false R) then some (.stop (morI10 s p f k d 1 1 R [.int .i64 a] M (N+1))) else none):=by kernel_rfl
theorem lo14 (s:tS.den) (p:(Ty.sl tO).den) (f:(Ty.sl tI).den) (k:Nat) (d:Int) (j:Nat) (n a i:Int) (x:List Nat) (y z w x1:Int) (x2:Nat) (x3:List AV) (x4 x5:Nat) (x6 x7 x8:Int) (R L:List AV) (m M N:Nat):adv F9i (Z9 [42]) 3000 (morI14 s p f k d j n a i x y z w x1 x2 x3 x4 x5 x6 x7 x8 R L (m+1) (M+1) (N+1))=loS s p f n d a i (fun a'=>bif plO (AO.cells false L) then (bif plO (AO.cells false R) then some (.stop (morI14 s p f k d j n a' (wr .i64 (i+1)) x y z w x1 x2 x3 x4 x5 x6 x7 x8 R L m (M+1) (N+1))) else none) else none)
 (bif (0+j * 1).beq L.length then (bif j.ble 1048576 then (bif plO (AO.cells false (L++[.int .i64 a])) then (bif plO (AO.cells false R) then some (.stop (morI10 s p f k d (j+1) (wr .i64 (n+1)) R (L++[.int .i64 a]) M (N+1))) else none) else none) else none) else none):=by kernel_rfl
noncomputable def rbrV (f:List Int) (d n full:Int):Nat→List tO.den→Int→Int
 |_,[],a=>a
 |i,o::l,a=>rbrV f d n full (i+1) l (bif ieq o.1 d then (bif hasV (i:Int) f then a else bif hasV n o.2.1.2 then full else a) else a)
theorem rbr_eq (f:List Int) (d n full:Int):∀ (l:List tO.den) (i:Nat) (a:Int),rbrV f d n full i l a=bif brgV f d n i l false then full else a
 |[],_,_=>rfl
 | o :: l, i, a => by
  show rbrV f d n full (i+1) l (bif ieq o.1 d then (bif hasV (i:Int) f then a else bif hasV n o.2.1.2 then full else a) else a)=bif brgV f d n (i+1) l (bif ieq o.1 d then (bif hasV (i:Int) f then false else hasV n o.2.1.2) else false) then full else a
  rw[rbr_eq f d n full l (i+1)]
  cases ieq o.1 d with
  |false=>rfl
  | true =>
   cases hasV (i:Int) f with
   |true=>rfl
   | false =>
    cases hasV n o.2.1.2 with
    |false=>rfl
    |true=>
     simp only[cond_true,cond_false,brg_true]
     cases brgV f d n (i+1) l false<;>rfl
theorem lo_ans {s:tS.den} {p:(Ty.sl tO).den} {f:(Ty.sl tI).den} (P:POK s p.2) (hf:f.2.length≤8) {n:Nat} {d:Int} (hn:n<s.2.1.2.length) {C:Int→Int→Nat→Cfg} {EX:Int→Option Out} {V:AV}
  (hC:∀ (a i:Int) (m:Nat),adv F9i (Z9 [42]) 3000 (C a i (m+1))=loS s p f n d a i (fun a'=>some (.stop (C a' (wr .i64 (i+1)) m))) (EX a)) :
  ∀ (r i m:Nat) (a:Int),i+r=p.2.length→r<m →
  (∀ cfg,adv F9i (Z9 [42]) 3000 cfg=EX (rbrV f.2 d n (nI (xSP s p) n).2.1 i (p.2.drop i) a)→Ans F9i cfg V)→Ans F9i (C a i m) V
 |0,i,m+1,a,hk,hm,K=>by
  have h:=hC a i m
  unfold loS at h
  rw[ile_t (show ((p.2.length:Nat):Int)≤(i:Int) by omega),Bool.not_true,cond_false] at h
  rw[List.drop_eq_nil_of_le (by omega)] at K
  exact K _ h
 | r + 1, i, m + 1, a, hk, hm, K => by
  have h:=hC a i m
  unfold loS at h
  have hlt:i<p.2.length:=by omega
  have hlen:=P.len
  have hc:=(ors_in P.so.n3 P.ors _ (List.getElem_mem hlt)).2.2.1
  rw[ile_f (show (i:Int)<((p.2.length:Nat):Int) by omega),inB_at hlt,show odI p (i:Int)=p.2[i] from getD_at hlt,wr_succ (show i<1048577 by omega),show le1k f.2=true from Nat.ble_eq_true_of_le (by omega),show le1k (p.2[i]).2.1.2=true from Nat.ble_eq_true_of_le (by omega),inB_at hn] at h
  simp only[cond_not',Bool.not_false,cond_true,cond_false] at h
  rw[List.drop_eq_getElem_cons hlt] at K
  have K2:∀ cfg,adv F9i (Z9 [42]) 3000 cfg=EX (rbrV f.2 d n (nI (xSP s p) n).2.1 (i+1) (p.2.drop (i+1)) (bif ieq (p.2[i]).1 d then (bif hasV (i:Int) f.2 then a else bif hasV n (p.2[i]).2.1.2 then (nI (xSP s p) n).2.1 else a) else a))→Ans F9i cfg V:=K
  cases c1:ieq (p.2[i]).1 d with
  |false=>rw[c1] at h K2;exact .stop (Z9i_ok _) F9isy h (lo_ans P hf hn hC r (i+1) m a (by omega) (by omega) K2)
  | true =>
   cases c2:hasV (i:Int) f.2 with
   |true=>rw[c1,c2] at h K2;exact .stop (Z9i_ok _) F9isy h (lo_ans P hf hn hC r (i+1) m a (by omega) (by omega) K2)
   |false=>
    cases c3:hasV (n:Int) (p.2[i]).2.1.2 with
    |false=>rw[c1,c2,c3] at h K2;exact .stop (Z9i_ok _) F9isy h (lo_ans P hf hn hC r (i+1) m a (by omega) (by omega) K2)
    |true=>rw[c1,c2,c3] at h K2;exact .stop (Z9i_ok _) F9isy h (lo_ans P hf hn hC r (i+1) m _ (by omega) (by omega) K2)
noncomputable abbrev mD (s:tS.den) (p:(Ty.sl tO).den) (f:(Ty.sl tI).den) (d:Nat):tL.den:=(stS (xSP s p) (withV f.2 fno) (d+1)).2
noncomputable def rwA (s:tS.den) (p:(Ty.sl tO).den) (f:(Ty.sl tI).den) (d:Nat):AV:=.csl (flat tI (lisV s.2.1.2.length (mD s p f d))) s.2.1.2.length
noncomputable def rws (s:tS.den) (p:(Ty.sl tO).den) (f:(Ty.sl tI).den) (D:Nat):List AV:=(List.range D).map (rwA s p f)
theorem map_plain {α:Type} (g:α→AV) (hg:∀ x,∃ l n,g x=.csl l n):∀ l:List α,plainL (l.map g)=true
 |[]=>rfl
 |a::l=>by
  obtain⟨c,n,e⟩:=hg a
  show plainL (g a::l.map g)=true
  rw[e];exact map_plain g hg l
theorem rws_plain (s:tS.den) (p:(Ty.sl tO).den) (f:(Ty.sl tI).den) (D:Nat):plO (AO.cells false (rws s p f D))=true:=map_plain _ (fun _=>⟨_,_,rfl⟩) _
theorem rws_len (s:tS.den) (p:(Ty.sl tO).den) (f:(Ty.sl tI).den) (D:Nat):(rws s p f D).length=D:=by simp[rws]
theorem rws_add (s:tS.den) (p:(Ty.sl tO).den) (f:(Ty.sl tI).den) (D:Nat):rws s p f D++[rwA s p f D]=rws s p f (D+1):=by simp[rws,List.range_succ]
theorem rws_at (s:tS.den) (p:(Ty.sl tO).den) (f:(Ty.sl tI).den) (D:Nat):(rws s p f (D+1)).getD D AV.nili=rwA s p f D:=by simp[rws]
theorem lis_add {n:Nat} (h:n<3) (l:tL.den):lisV n l++[cN l n]=lisV (n+1) l:=by
 have:n=0∨n=1∨n=2:=by omega
 rcases this with rfl|rfl|rfl<;>rfl
theorem row_at {n k:Nat} (h:n≤3) (hk:k<n) (l:tL.den):isZs (flat tI (lisV n l)) [AV.int .i64 0] k=true∧toI ((flat tI (lisV n l)).getD k AV.nili)=cN l k:=by
 have e:n=1∨n=2∨n=3:=by omega
 rcases e with rfl|rfl|rfl
 · have : k = 0 := by omega
   subst this;exact⟨rfl,rfl⟩
 · have : k = 0 ∨ k = 1 := by omega
   rcases this with rfl|rfl<;>exact⟨rfl,rfl⟩
 · have : k = 0 ∨ k = 1 ∨ k = 2 := by omega
   rcases this with rfl|rfl|rfl<;>exact⟨rfl,rfl⟩
theorem fin_c {s:tS.den} {p:(Ty.sl tO).den} {f:(Ty.sl tI).den} (P:POK s p.2) (hf:∀ n∈f.2,inB n 8=true) (d:Nat) {n:Nat} (hn:n<3) (a:Int)
  (ha:a=cN (bif Nat.beq d 0 then (stS (xSP s p) (withV f.2 fno) d).2 else nexV (stS (xSP s p) (withV f.2 fno) d).2) n):rbrV f.2 d n (nI (xSP s p) n).2.1 0 p.2 a=cN (mD s p f d) n:=by
 rw[rbr_eq,ha,← ful_c (xSP s p) hn]
 exact (morn_c P hf d hn).symm
theorem mor0 {s:tS.den} {p:(Ty.sl tO).den} {f:(Ty.sl tI).den} (P:POK s p.2) (hf:∀ n∈f.2,inB n 8=true) (hl:f.2.length≤8) {V:AV} {M:Nat} (K:Ans F9i (morI2 s p f 1 1 (rws s p f 1) M) V) :
  ∀ (r n m:Nat),n+r=s.2.1.2.length→r<m→Ans F9i (morI5 s p f n n (flat tI (lisV n (mD s p f 0))) m (M+1)) V
 |0,n,m+1,hk,hm=>by
  have h:=mor_s5 s p f n n (flat tI (lisV n (mD s p f 0))) m M
  rw[ile_t (show ((s.2.1.2.length:Nat):Int)≤(n:Int) by omega),flatI_plain,show plO (AO.cells true (flat tI (lisV n (mD s p f 0))))=true from flatI_plain _] at h
  have hn:n=s.2.1.2.length:=by omega
  subst hn
  exact .stop (S:={ (Z9 [42]) with nf:=[2] }) (Z9i_ok [42]) F9isy h K
 | r + 1, n, m + 1, hk, hm => by
  have h:=mor_s5 s p f n n (flat tI (lisV n (mD s p f 0))) m M
  have h3:=P.so.n3
  have hlt:n<s.2.1.2.length:=by omega
  rw[ile_f (show (n:Int)<((s.2.1.2.length:Nat):Int) by omega),inB_at hlt] at h
  refine .stop (S:={ (Z9 [42]) with nf:=[2] }) (Z9i_ok [42]) F9isy h ?_
  refine lo_ans (n:=n) (d:=0) P hl hlt (C:=fun a i m'=>morI9 s p f n n a i _ _ _ _ (flat tI (lisV n (mD s p f 0))) m' (m+1) (M+1))
   (EX:=fun a=>bif (0+n * 1).beq (flat tI (lisV n (mD s p f 0))).length then (bif n.ble 1048576 then (bif plO (AO.cells false (flat tI (lisV n (mD s p f 0))++[.int .i64 a])) then some (.stop (morI5 s p f (n+1) (wr .i64 ((n:Int)+1)) (flat tI (lisV n (mD s p f 0))++[.int .i64 a]) m (M+1))) else none) else none) else none)
   (fun a i m'=>by rw[lo9,show plO (AO.cells false (flat tI (lisV n (mD s p f 0))))=true from flatI_plain _];rfl) p.2.length 0 1048575 _ (Nat.zero_add _) (by have:=P.len;omega) (fun cfg h=>?_)
  have e:=fin_c P hf 0 (n:=n) (by omega) (s.2.1.2.getD ((n:Nat):Int).toNat tN.dflt).2.2.1 (fir_c (xSP s p) (k:=n) (by omega)).symm
  rw[List.drop_zero,show rbrV f.2 0 (n:Int) (nI (xSP s p) n).2.1 0 p.2 (s.2.1.2.getD ((n:Nat):Int).toNat tN.dflt).2.2.1=cN (mD s p f 0) n from e] at h
  rw[flatI_add,lis_add (by omega),flatI_len,lis_len (by omega),show (0+n * 1).beq n=true by rw[Nat.zero_add,Nat.mul_one];exact Nat.beq_refl _,Nat.ble_eq_true_of_le (show n≤1048576 by omega),show plO (AO.cells false (flat tI (lisV (n+1) (mD s p f 0))))=true from flatI_plain _,wr_succ (show n<1048577 by omega)] at h
  exact .stop (Z9i_ok _) F9isy h (mor0 P hf hl K r (n+1) m (by omega) (by omega))
theorem mor1 {s:tS.den} {p:(Ty.sl tO).den} {f:(Ty.sl tI).den} (P:POK s p.2) (hf:∀ n∈f.2,inB n 8=true) (hl:f.2.length≤8) {D:Nat} (hD:D≤100) {V:AV} {M:Nat} (K:Ans F9i (morI2 s p f (D+1+1) ((D+1+1:Nat):Int) (rws s p f (D+1+1)) M) V) :
  ∀ (r n m:Nat),n+r=s.2.1.2.length→r<m→Ans F9i (morI10 s p f (D+1) ((D+1:Nat):Int) n n (rws s p f (D+1)) (flat tI (lisV n (mD s p f (D+1)))) m (M+1)) V
 |0,n,m+1,hk,hm=>by
  have h:=mor_s10 s p f (D+1) ((D+1:Nat):Int) n n (rws s p f (D+1)) (flat tI (lisV n (mD s p f (D+1)))) m M
  have hn:n=s.2.1.2.length:=by omega
  rw[ile_t (show ((s.2.1.2.length:Nat):Int)≤(n:Int) by omega),flatI_plain,show plO (AO.cells true (flat tI (lisV n (mD s p f (D+1)))))=true from flatI_plain _,rws_len,show (0+(D+1) * 1).beq (D+1)=true by rw[Nat.zero_add,Nat.mul_one];exact Nat.beq_refl _,Nat.ble_eq_true_of_le (show D+1≤1048576 by omega),wr_succ (show D+1<1048577 by omega)] at h
  subst hn
  rw[show AV.csl (flat tI (lisV s.2.1.2.length (mD s p f (D+1)))) s.2.1.2.length=rwA s p f (D+1) from rfl,rws_add,rws_plain] at h
  exact .stop (S:={ (Z9 [42]) with nf:=[3] }) (Z9i_ok [42]) F9isy h K
 | r + 1, n, m + 1, hk, hm => by
  have h:=mor_s10 s p f (D+1) ((D+1:Nat):Int) n n (rws s p f (D+1)) (flat tI (lisV n (mD s p f (D+1)))) m M
  have h3:=P.so.n3
  have hlt:n<s.2.1.2.length:=by omega
  obtain⟨r1,r2⟩:=row_at (k:=n) h3 hlt (mD s p f D)
  rw[ile_f (show (n:Int)<((s.2.1.2.length:Nat):Int) by omega),inB_at hlt,ile_f (show (0:Int)<((D+1:Nat):Int) by omega),show wr .i64 (((D+1:Nat):Int)-1)=(D:Int) from wr_pred (by omega),inB_at (show D<D+1 by omega),show 0+((D:Nat):Int).toNat * 1=D by simp,rws_len,Nat.ble_eq_true_of_le (show D+1≤D+1 by omega),rws_at,show isCsl (rwA s p f D)=true from rfl,show cslN (rwA s p f D)=s.2.1.2.length from rfl,inB_at hlt,show cslC (rwA s p f D)=flat tI (lisV s.2.1.2.length (mD s p f D)) from rfl,show ((n:Nat):Int).toNat * 1=n by simp,r1,r2] at h
  simp only[cond_not',Bool.not_false,cond_true,cond_false] at h
  refine .stop (S:={ (Z9 [42]) with nf:=[3] }) (Z9i_ok [42]) F9isy h ?_
  refine lo_ans (n:=n) (d:=((D+1:Nat):Int)) P hl hlt (C:=fun a i m'=>morI14 s p f (D+1) ((D+1:Nat):Int) n n a i _ _ _ _ _ _ _ _ _ _ _ _ (rws s p f (D+1)) (flat tI (lisV n (mD s p f (D+1)))) m' (m+1) (M+1))
   (EX:=fun a=>bif (0+n * 1).beq (flat tI (lisV n (mD s p f (D+1)))).length then (bif n.ble 1048576 then (bif plO (AO.cells false (flat tI (lisV n (mD s p f (D+1)))++[.int .i64 a])) then (bif plO (AO.cells false (rws s p f (D+1))) then some (.stop (morI10 s p f (D+1) ((D+1:Nat):Int) (n+1) (wr .i64 ((n:Int)+1)) (rws s p f (D+1)) (flat tI (lisV n (mD s p f (D+1)))++[.int .i64 a]) m (M+1))) else none) else none) else none) else none)
   (fun a i m'=>by rw[lo14,show plO (AO.cells false (flat tI (lisV n (mD s p f (D+1)))))=true from flatI_plain _,rws_plain];rfl) p.2.length 0 1048575 _ (Nat.zero_add _) (by have:=P.len;omega) (fun cfg h=>?_)
  rw[List.drop_zero,show rbrV f.2 ((D+1:Nat):Int) n (nI (xSP s p) n).2.1 0 p.2 _=cN (mD s p f (D+1)) n from fin_c P hf (D+1) (by omega) _ (by rw[show Nat.beq (D+1) 0=false from rfl,cond_false,nex_c _ (by omega)];rfl)] at h
  rw[flatI_add,lis_add (by omega),flatI_len,lis_len (by omega),show (0+n * 1).beq n=true by rw[Nat.zero_add,Nat.mul_one];exact Nat.beq_refl _,Nat.ble_eq_true_of_le (show n≤1048576 by omega),show plO (AO.cells false (flat tI (lisV (n+1) (mD s p f (D+1)))))=true from flatI_plain _,rws_plain,wr_succ (show n<1048577 by omega)] at h
  exact .stop (Z9i_ok _) F9isy h (mor1 P hf hl hD K r (n+1) m (by omega) (by omega))
noncomputable def rowsV (s:tS.den) (p:(Ty.sl tO).den) (f:(Ty.sl tI).den) (D:Nat):List (Ty.sl tI).den:=(List.range D).map fun d=>(false,lisV s.2.1.2.length (mD s p f d))
theorem tells_rows {α:Type} {n:Nat} (g:α→List Int) (hg:∀ x,(g x).length=n):∀ l:List α,TellsL (l.map fun x=>AV.csl (flat tI (g x)) n) (flat (.sl tI) (l.map fun x=>((false,g x):(Ty.sl tI).den)))
 |[]=>.nil
 |a::l=>by
  show TellsL (AV.csl (flat tI (g a)) n::l.map fun x=>AV.csl (flat tI (g x)) n) (AV.vs tI false (g a)::flat (.sl tI) (l.map fun x=>((false,g x):(Ty.sl tI).den)))
  have h:Tells (AV.csl (flat tI (g a)) n) (AV.vs tI false (g a)):=by rw[← hg a];exact Tells.csl
  exact .cons h (tells_rows g hg l)
theorem mor2 {s:tS.den} {p:(Ty.sl tO).den} {f:(Ty.sl tI).den} (P:POK s p.2) (hf:∀ n∈f.2,inB n 8=true) (hl:f.2.length≤8):∀ (r D M:Nat),D+1+r=s.1.toNat→r<M→Ans F9i (morI2 s p f (D+1) ((D+1:Nat):Int) (rws s p f (D+1)) M) (.vs (.sl tI) false (rowsV s p f s.1.toNat))
 | 0, D, M + 1, hk, hm => by
  have h:=mor_step2 s p f (D+1) ((D+1:Nat):Int) (rws s p f (D+1)) M
  have hs:@LE.le Int _ s.1 ((D+1:Nat):Int):=by
   have:∀ a:Int,D+1+0=a.toNat→a≤((D+1:Nat):Int):=fun a ha=>by omega
   exact this _ hk
  rw[ile_t hs,show plainL (rws s p f (D+1))=true from rws_plain s p f (D+1)] at h
  rw[← hk]
  refine .doneT (Z9i_ok _) F9isy h (isF_csl (t:=.sl tI) (tells_rows _ (fun d=>lis_len P.so.n3 _) _) ?_)
  show (rowsV s p f (D+1)).length=D+1
  simp[rowsV]
 | r + 1, D, M + 1, hk, hm => by
  have h:=mor_step2 s p f (D+1) ((D+1:Nat):Int) (rws s p f (D+1)) M
  have hs:@LT.lt Int _ ((D+1:Nat):Int) s.1:=by
   have:∀ a:Int,D+1+(r+1)=a.toNat→((D+1:Nat):Int)<a:=fun a ha=>by omega
   exact this _ hk
  have d2:=P.so.d2
  have h3:=P.so.n3
  have h1:=P.so.n1
  have hD:D≤100:=by omega
  rw[ile_f hs] at h
  refine .stop (Z9i_ok _) F9isy h ?_
  have h:=mor_step4 s p f (D+1) ((D+1:Nat):Int) (rws s p f (D+1)) 1048574 M
  obtain⟨r1,r2⟩:=row_at (k:=0) h3 h1 (mD s p f D)
  rw[ile_f (show (0:Int)<((s.2.1.2.length:Nat):Int) by omega),inB_0 (show 0<s.2.1.2.length by omega),ile_f (show (0:Int)<((D+1:Nat):Int) by omega),show wr .i64 (((D+1:Nat):Int)-1)=(D:Int) from wr_pred (by omega),inB_at (show D<D+1 by omega),show 0+((D:Nat):Int).toNat * 1=D by simp,rws_len,Nat.ble_eq_true_of_le (show D+1≤D+1 by omega),rws_at,show isCsl (rwA s p f D)=true from rfl,show cslN (rwA s p f D)=s.2.1.2.length from rfl,inB_0 (show 0<s.2.1.2.length by omega),show cslC (rwA s p f D)=flat tI (lisV s.2.1.2.length (mD s p f D)) from rfl,show Int.toNat 0 * 1=0 from rfl,r1,r2] at h
  simp only[cond_not',Bool.not_false,cond_true,cond_false] at h
  refine .stop (Z9i_ok _) F9isy h ?_
  refine lo_ans (n:=0) (d:=((D+1:Nat):Int)) P hl h1 (C:=fun a i m'=>morI8 s p f (D+1) ((D+1:Nat):Int) a i _ _ _ _ _ _ _ (rws s p f (D+1)) m' (1048574+1) (M+1))
   (EX:=fun a=>bif plO (AO.cells false (rws s p f (D+1))) then some (.stop (morI10 s p f (D+1) ((D+1:Nat):Int) 1 1 (rws s p f (D+1)) [.int .i64 a] 1048574 (M+1))) else none)
   (fun a i m'=>by rw[lo8,rws_plain];rfl) p.2.length 0 1048575 _ (Nat.zero_add _) (by have:=P.len;omega) (fun cfg h=>?_)
  rw[List.drop_zero,show rbrV f.2 ((D+1:Nat):Int) ((0:Nat):Int) (nI (xSP s p) 0).2.1 0 p.2 _=cN (mD s p f (D+1)) 0 from fin_c P hf (D+1) (by omega) _ (by rw[show Nat.beq (D+1) 0=false from rfl,cond_false,nex_c _ (by omega)];rfl),rws_plain] at h
  exact .stop (Z9i_ok _) F9isy h (mor1 P hf hl hD (mor2 P hf hl r (D+1) M (by omega) (by omega)) (s.2.1.2.length-1) 1 1048574 (by omega) (by omega))
theorem mor_call {s:tS.den} {p:(Ty.sl tO).den} {f:(Ty.sl tI).den} (H:ieq (askV s p.2 f.2) 0=true):AnsF F9i 42 [tS.av s,.vs tO p.1 p.2,.vs tI f.1 f.2] (.vs (.sl tI) false (rowsV s p f s.1.toNat)):=by
 refine Ans.call (n:=40) (ext_none (by kernel_rfl)) (hasB_spec (by kernel_rfl)) ?_
 obtain⟨P,hr,hl,hi⟩:=ask_ok H
 have hf:=inAll_at hi
 have d1:=P.so.d1;have d2:=P.so.d2;have h1:=P.so.n1;have h3:=P.so.n3
 refine .stop (Z9i_ok _) F9isy (mor_start s p f) ?_
 have h:=mor_step0 s p f 1048574
 rw[ile_f (show @LT.lt Int _ 0 s.1 by omega)] at h
 refine .stop (Z9i_ok _) F9isy h ?_
 have h:=mor_step1 s p f 1048574 1048574
 rw[ile_f (show (0:Int)<((s.2.1.2.length:Nat):Int) by omega),inB_0 (show 0<s.2.1.2.length by omega)] at h
 refine .stop (Z9i_ok _) F9isy h ?_
 have hday:∀ a:Int,1≤a→a≤60→0+1+(a.toNat-1)=a.toNat∧a.toNat-1<1048574:=fun a h1 h2=>by omega
 obtain⟨e1,e2⟩:=hday _ d1 d2
 refine lo_ans (n:=0) (d:=0) P hl h1 (C:=fun a i m'=>morI3 s p f a i m' (1048574+1) (1048574+1)) (EX:=fun a=>some (.stop (morI5 s p f 1 1 [.int .i64 a] 1048574 (1048574+1)))) (fun a i m'=>lo3 s p f a i m' 1048574 1048574) p.2.length 0 1048575 _ (Nat.zero_add _) (by have:=P.len;omega) (fun cfg h=>?_)
 have e:=fin_c P hf 0 (n:=0) (by omega) (s.2.1.2.getD (Int.toNat 0) tN.dflt).2.2.1 (fir_c (xSP s p) (k:=0) (by omega)).symm
 rw[List.drop_zero,show rbrV f.2 0 ((0:Nat):Int) (nI (xSP s p) 0).2.1 0 p.2 (s.2.1.2.getD (Int.toNat 0) tN.dflt).2.2.1=cN (mD s p f 0) 0 from e] at h
 exact .stop (Z9i_ok _) F9isy h (mor0 P hf hl (mor2 P hf hl (s.1.toNat-1) 0 1048574 e1 e2) (s.2.1.2.length-1) 1 1048574 (by omega) (by omega))
end Go.Proofs.Ytolgkckmppongaa


set_option maxRecDepth 100000
namespace Go.Proofs.Ytolgkckmppongaa
open Go Go.Eng
noncomputable def LN:List Said:=[(42,con3 tS (.sl tO) (.sl tI) (fun s p f=>ieq (askV s p.2 f.2) 0) (fun s p f=>.vs (.sl tI) false (rowsV s p f s.1.toNat)))]
theorem LN_ok:∀ e∈LN,SaidG Try.prog F12.glob e:=
 saids_cons (SaidOK.g f9i xf9i nf9i tabs_ok.mix (fun _ _ h=>con3_spec (t:=tS) (u:=.sl tO) (w:=.sl tI) (fun s p f c=>mor_call c) h) rfl) saids_nil
noncomputable def F13:Env:=F12.say (under (xOf LN))
theorem f13:EnvOK Try.prog F13:=f12.say _
theorem nf13:NameOK F13:=nf12.say _
theorem xf13:ExtOK Try.prog F13:=xf12.sayL LN_ok
theorem F13sy:F13.sy=true:=rfl
noncomputable def Z13 (l:List Nat):Sy:=(Z12 []).on LN l
theorem Z13_ok (l:List Nat):(Z13 l).ok F13:=Sy.on_ok (Z12_ok _)
end Go.Proofs.Ytolgkckmppongaa


set_option maxRecDepth 100000
namespace Go.Proofs.Ytolgkckmppongaa
open Go Go.Eng
theorem ask_start (s:tS.den) (p:(Ty.sl tO).den) (f:(Ty.sl tI).den):adv F13 (Z13 []) 3000 (startC F13 41 [tS.av s,.vs tO p.1 p.2,.vs tI f.1 f.2] 40)=(bif ieq (plnV s p.2).2 0 then (bif ile (wr .i64 (↑p.2.length-1)) 900 then some (.done (.int .i64 (rixV (↑p.2.length) f.2))) else none) else some (.done (.int .i64 ((plnV s p.2).2)))):=by kernel_rfl
noncomputable def brkI0 (s:tS.den) (p:(Ty.sl tO).den) (f:(Ty.sl tI).den) (x16:Int) (x70:Nat):Cfg:=⟨.ex (pcOf F13 44 [0,0,1,0,1,1]) ⟨(tmOf 40 [(0,(.agg [(.int .i64 (s.1)),(.vs tN (s.2.1.1) (s.2.1.2)),(.int .i64 (s.2.2.1)),(.int .i64 (s.2.2.2.1)),(.int .i64 (s.2.2.2.2.1)),(.vs tI (s.2.2.2.2.2.1.1) (s.2.2.2.2.2.1.2))])),(1,(.vs tO (p.1) (p.2))),(2,(.vs tI (f.1) (f.2))),(3,(.ptr 0 0)),(6,(.int .i64 (0))),(7,(.int .i64 (0))),(8,(.vs (.sl tI) (false) (rowsV s p f (Int.toNat s.1)))),(9,(.int .i64 x16)),(11,(.agg [(.int .i64 (s.1)),(.vs tN (s.2.1.1) (s.2.1.2)),(.int .i64 (s.2.2.1)),(.int .i64 (s.2.2.2.1)),(.int .i64 (s.2.2.2.2.1)),(.vs tI (s.2.2.2.2.2.1.1) (s.2.2.2.2.2.1.2))])),(12,(.vs tO (p.1) (p.2))),(13,(.vs tI (f.1) (f.2))),(14,(.vs (.sl tI) (false) (rowsV s p f (Int.toNat s.1))))]),(hpOf 1 [(0,(.cells false [(.int .i64 (s.1)),(.vs tN (s.2.1.1) (s.2.1.2)),(.int .i64 (s.2.2.1)),(.int .i64 (s.2.2.2.1)),(.int .i64 (s.2.2.2.2.1)),(.vs tI (s.2.2.2.2.2.1.1) (s.2.2.2.2.2.1.2))]))]),[],[],40,false⟩,⟨40,[]⟩,[(.lop (pcOf F13 44 [0,0,1,0,1,1]) 1 (tmOf 40 [(0,(.agg [(.int .i64 (s.1)),(.vs tN (s.2.1.1) (s.2.1.2)),(.int .i64 (s.2.2.1)),(.int .i64 (s.2.2.2.1)),(.int .i64 (s.2.2.2.2.1)),(.vs tI (s.2.2.2.2.2.1.1) (s.2.2.2.2.2.1.2))])),(1,(.vs tO (p.1) (p.2))),(2,(.vs tI (f.1) (f.2))),(3,(.ptr 0 0)),(6,(.int .i64 (0))),(7,(.int .i64 (0))),(8,(.vs (.sl tI) (false) (rowsV s p f (Int.toNat s.1)))),(9,(.int .i64 (0))),(11,(.agg [(.int .i64 (s.1)),(.vs tN (s.2.1.1) (s.2.1.2)),(.int .i64 (s.2.2.1)),(.int .i64 (s.2.2.2.1)),(.int .i64 (s.2.2.2.2.1)),(.vs tI (s.2.2.2.2.2.1.1) (s.2.2.2.2.2.1.2))])),(12,(.vs tO (p.1) (p.2))),(13,(.vs tI (f.1) (f.2))),(14,(.vs (.sl tI) (false) (rowsV s p f (Int.toNat s.1))))]) x70),(.blk 0),(.seq (pcOf F13 44 [1,1,1])),(.cal [(.tmp 6),(.tmp 7)] .top)]⟩
noncomputable def brkI1 (s:tS.den) (p:(Ty.sl tO).den) (f:(Ty.sl tI).den) (x16:Int) (x17:Int) (x82:Nat) (x114:Nat):Cfg:=⟨.ex (pcOf F13 44 [0,0,1,0,0,1,0,0,1,0,1,1]) ⟨(tmOf 40 [(0,(.agg [(.int .i64 (s.1)),(.vs tN (s.2.1.1) (s.2.1.2)),(.int .i64 (s.2.2.1)),(.int .i64 (s.2.2.2.1)),(.int .i64 (s.2.2.2.2.1)),(.vs tI (s.2.2.2.2.2.1.1) (s.2.2.2.2.2.1.2))])),(1,(.vs tO (p.1) (p.2))),(2,(.vs tI (f.1) (f.2))),(3,(.ptr 0 0)),(6,(.int .i64 (0))),(7,(.int .i64 (0))),(8,(.vs (.sl tI) (false) (rowsV s p f (Int.toNat s.1)))),(9,(.int .i64 x16)),(10,(.int .i64 x17)),(11,(.agg [(.int .i64 (s.1)),(.vs tN (s.2.1.1) (s.2.1.2)),(.int .i64 (s.2.2.1)),(.int .i64 (s.2.2.2.1)),(.int .i64 (s.2.2.2.2.1)),(.vs tI (s.2.2.2.2.2.1.1) (s.2.2.2.2.2.1.2))])),(12,(.vs tO (p.1) (p.2))),(13,(.vs tI (f.1) (f.2))),(14,(.vs (.sl tI) (false) (rowsV s p f (Int.toNat s.1)))),(15,(.int .i64 x16)),(16,(.vs (.sl tI) (false) (rowsV s p f (Int.toNat s.1)))),(17,(.int .i64 (Int.ofNat (rowsV s p f (Int.toNat s.1)).length))),(18,(.bool (true)))]),(hpOf 1 [(0,(.cells false [(.int .i64 (s.1)),(.vs tN (s.2.1.1) (s.2.1.2)),(.int .i64 (s.2.2.1)),(.int .i64 (s.2.2.2.1)),(.int .i64 (s.2.2.2.2.1)),(.vs tI (s.2.2.2.2.2.1.1) (s.2.2.2.2.2.1.2))]))]),[],[],40,false⟩,⟨40,[]⟩,[(.lop (pcOf F13 44 [0,0,1,0,0,1,0,0,1,0,1,1]) 1 (tmOf 40 [(0,(.agg [(.int .i64 (s.1)),(.vs tN (s.2.1.1) (s.2.1.2)),(.int .i64 (s.2.2.1)),(.int .i64 (s.2.2.2.1)),(.int .i64 (s.2.2.2.2.1)),(.vs tI (s.2.2.2.2.2.1.1) (s.2.2.2.2.2.1.2))])),(1,(.vs tO (p.1) (p.2))),(2,(.vs tI (f.1) (f.2))),(3,(.ptr 0 0)),(6,(.int .i64 (0))),(7,(.int .i64 (0))),(8,(.vs (.sl tI) (false) (rowsV s p f (Int.toNat s.1)))),(9,(.int .i64 x16)),(10,(.int .i64 (0))),(11,(.agg [(.int .i64 (s.1)),(.vs tN (s.2.1.1) (s.2.1.2)),(.int .i64 (s.2.2.1)),(.int .i64 (s.2.2.2.1)),(.int .i64 (s.2.2.2.2.1)),(.vs tI (s.2.2.2.2.2.1.1) (s.2.2.2.2.2.1.2))])),(12,(.vs tO (p.1) (p.2))),(13,(.vs tI (f.1) (f.2))),(14,(.vs (.sl tI) (false) (rowsV s p f (Int.toNat s.1)))),(15,(.int .i64 x16)),(16,(.vs (.sl tI) (false) (rowsV s p f (Int.toNat s.1)))),(17,(.int .i64 (Int.ofNat (rowsV s p f (Int.toNat s.1)).length))),(18,(.bool (true)))]) x82),(.blk 2),(.blk 1),(.seq (pcOf F13 44 [1,1,0,0,1,0,1,1])),(.lop (pcOf F13 44 [0,0,1,0,1,1]) 1 (tmOf 40 [(0,(.agg [(.int .i64 (s.1)),(.vs tN (s.2.1.1) (s.2.1.2)),(.int .i64 (s.2.2.1)),(.int .i64 (s.2.2.2.1)),(.int .i64 (s.2.2.2.2.1)),(.vs tI (s.2.2.2.2.2.1.1) (s.2.2.2.2.2.1.2))])),(1,(.vs tO (p.1) (p.2))),(2,(.vs tI (f.1) (f.2))),(3,(.ptr 0 0)),(6,(.int .i64 (0))),(7,(.int .i64 (0))),(8,(.vs (.sl tI) (false) (rowsV s p f (Int.toNat s.1)))),(9,(.int .i64 (0))),(11,(.agg [(.int .i64 (s.1)),(.vs tN (s.2.1.1) (s.2.1.2)),(.int .i64 (s.2.2.1)),(.int .i64 (s.2.2.2.1)),(.int .i64 (s.2.2.2.2.1)),(.vs tI (s.2.2.2.2.2.1.1) (s.2.2.2.2.2.1.2))])),(12,(.vs tO (p.1) (p.2))),(13,(.vs tI (f.1) (f.2))),(14,(.vs (.sl tI) (false) (rowsV s p f (Int.toNat s.1))))]) x114),(.blk 0),(.seq (pcOf F13 44 [1,1,1])),(.cal [(.tmp 6),(.tmp 7)] .top)]⟩
theorem brk_start (s:tS.den) (p:(Ty.sl tO).den) (f:(Ty.sl tI).den):adv F13 (Z13 [44]) 3000 (startC F13 44 [tS.av s,.vs tO p.1 p.2,.vs tI f.1 f.2] 40)=(bif ieq (askV s p.2 f.2) 0 then some (.stop (brkI0 s p f (0) (1048575))) else none):=by kernel_rfl
theorem brk_step0 (s:tS.den) (p:(Ty.sl tO).den) (f:(Ty.sl tI).den) (x16:Int) (x70:Nat):adv F13 (Z13 [44]) 3000 (brkI0 s p f x16 (x70+1))=(bif !ile (↑(rowsV s p f (Int.toNat s.1)).length) x16 then some (.stop (brkI1 s p f (x16) (0) (1048575) (x70+1))) else some (.done (.tup [(.int .i64 (-1)),(.int .i64 (0))]))):=by kernel_rfl
theorem brk_step1 (s:tS.den) (p:(Ty.sl tO).den) (f:(Ty.sl tI).den) (x16:Int) (x17:Int) (x82:Nat) (x114:Nat):adv F13 (Z13 [44]) 3000 (brkI1 s p f x16 x17 (x82+1) (x114+1))=(bif inB x16 (rowsV s p f (Int.toNat s.1)).length then (bif !ile (↑((rowsV s p f (Int.toNat s.1)).getD x16.toNat tI.sl.dflt).2.length) x17 then (bif inB x16 (rowsV s p f (Int.toNat s.1)).length then (bif inB x17 ((rowsV s p f (Int.toNat s.1)).getD x16.toNat tI.sl.dflt).2.length then (bif ieq (((rowsV s p f (Int.toNat s.1)).getD x16.toNat tI.sl.dflt).2.getD x17.toNat tI.dflt) 0 then some (.done (.tup [(.int .i64 (x16)),(.int .i64 (x17))])) else some (.stop (brkI1 s p f (x16) (wr .i64 (x17+1)) (x82) (x114+1)))) else none) else none) else some (.stop (brkI0 s p f (wr .i64 (x16+1)) (x114)))) else none):=by kernel_rfl
theorem idx0_some {n k:Nat} {l:tL.den} (hn:n≤3) (hk:k<n) (h0:cN l k=0) (hj:∀ j,j<k→cN l j≠0):idx0 n l=some (k:Int):=by
 unfold idx0
 have e:n=1∨n=2∨n=3:=by omega
 have e2:k=0∨k=1∨k=2:=by omega
 rcases e2 with rfl|rfl|rfl
 · rw [show ieq 0 l.1 = true from ieq_t h0.symm]
   rcases e with rfl|rfl|rfl<;>rfl
 · rw [show ieq 0 l.1 = false from ieq_f (fun e => hj 0 (by omega) e.symm), show ieq 0 l.2.1 = true from ieq_t h0.symm]
   rcases e with rfl|rfl|rfl
   · omega
   · rfl
   · rfl
 · rw [show ieq 0 l.1 = false from ieq_f (fun e => hj 0 (by omega) e.symm), show ieq 0 l.2.1 = false from ieq_f (fun e => hj 1 (by omega) e.symm), show ieq 0 l.2.2.1 = true from ieq_t h0.symm]
   rcases e with rfl|rfl|rfl
   · omega
   · omega
   · rfl
theorem idx0_none {n:Nat} {l:tL.den} (hn:n≤3) (hj:∀ j,j<n→cN l j≠0):idx0 n l=none:=by
 unfold idx0
 have e:n=0∨n=1∨n=2∨n=3:=by omega
 rcases e with rfl|rfl|rfl|rfl
 · rfl
 · rw[show ieq 0 l.1=false from ieq_f (fun e=>hj 0 (by omega) e.symm)];rfl
 · rw[show ieq 0 l.1=false from ieq_f (fun e=>hj 0 (by omega) e.symm),show ieq 0 l.2.1=false from ieq_f (fun e=>hj 1 (by omega) e.symm)];rfl
 · rw[show ieq 0 l.1=false from ieq_f (fun e=>hj 0 (by omega) e.symm),show ieq 0 l.2.1=false from ieq_f (fun e=>hj 1 (by omega) e.symm),show ieq 0 l.2.2.1=false from ieq_f (fun e=>hj 2 (by omega) e.symm)];rfl
noncomputable def brP (t:Int×Int×Bool):Int×Int:=bif t.2.2 then (t.1,t.2.1) else (-1,0)
theorem rows_len (s:tS.den) (p:(Ty.sl tO).den) (f:(Ty.sl tI).den) (D:Nat):(rowsV s p f D).length=D:=by simp[rowsV]
theorem rows_at (s:tS.den) (p:(Ty.sl tO).den) (f:(Ty.sl tI).den) {D d:Nat} (h:d<D):(rowsV s p f D).getD ((d:Nat):Int).toNat (Ty.sl tI).dflt=(false,lisV s.2.1.2.length (mD s p f d)):=by
 show (rowsV s p f D).getD d (Ty.sl tI).dflt=_
 rw[List.getD_eq_getElem?_getD,List.getElem?_eq_getElem (by rw[rows_len];exact h)]
 simp[rowsV]
theorem brk_in {s:tS.den} {p:(Ty.sl tO).den} {f:(Ty.sl tI).den} (S:SOK s) {d m:Nat} (hd:d<s.1.toNat) (hd2:d<1000) {V:Int×Int}
  (hz:∀ k,idx0 s.2.1.2.length (mD s p f d)=some k→((d:Int),k)=V) (K:idx0 s.2.1.2.length (mD s p f d)=none→Ans F13 (brkI0 s p f ((d+1:Nat):Int) m) (pairV V)) :
  ∀ (r n M:Nat),n+r=s.2.1.2.length→r<M→(∀ j,j<n→cN (mD s p f d) j≠0)→Ans F13 (brkI1 s p f d n M (m+1)) (pairV V)
 |0,n,M+1,hk,hm,hj=>by
  have h:=brk_step1 s p f d n M m
  have h3:=S.n3
  rw[rows_len,inB_at hd,rows_at s p f hd,lis_len h3,ile_t (show ((s.2.1.2.length:Nat):Int)≤(n:Int) by omega),wr_succ (show d<1048577 by omega)] at h
  refine .stop (Z13_ok _) F13sy h (K (idx0_none h3 (fun j hj'=>hj j (by omega))))
 | r + 1, n, M + 1, hk, hm, hj => by
  have h:=brk_step1 s p f d n M m
  have h3:=S.n3
  have hlt:n<s.2.1.2.length:=by omega
  rw[rows_len,inB_at hd,rows_at s p f hd,lis_len h3,ile_f (show (n:Int)<((s.2.1.2.length:Nat):Int) by omega),inB_at hlt,lis_at h3 hlt,wr_succ (show n<1048577 by omega)] at h
  simp only[Bool.not_false,cond_true] at h
  cases c:ieq (cN (mD s p f d) n) 0 with
  |true=>rw[c] at h;exact done2 (Z13_ok _) F13sy h (hz n (idx0_some h3 hlt (ieq_eq c) hj))
  |false=>
   rw[c] at h
   refine .stop (Z13_ok _) F13sy h (brk_in S hd hd2 hz K r (n+1) M (by omega) (by omega) (fun j hj'=>?_))
   by_cases e:j=n
   · subst e;exact fun e=>by rw[ieq_t e] at c;cases c
   · exact hj j (by omega)
theorem brk_ans {s : tS.den} {p : (Ty.sl tO).den} {f : (Ty.sl tI).den} (S : SOK s) : ∀ (r d m : Nat), d + r = s.1.toNat → r < m → Ans F13 (brkI0 s p f d m) (pairV (brP (brT (xSP s p) (withV f.2 fno) r d (stS (xSP s p) (withV f.2 fno) d))))
 |0,d,m+1,hd,hm=>by
  have h:=brk_step0 s p f d m
  rw[rows_len,ile_t (show ((s.1.toNat:Nat):Int)≤(d:Int) by omega),Bool.not_true,cond_false] at h
  exact done2 (Z13_ok _) F13sy h rfl
 |r+1,d,m+1,hd,hm=>by
  have h:=brk_step0 s p f d m
  have h1:=S.n1
  have d2:=S.d2
  have hd2 : d < 1000 := by have : s.1.toNat ≤ 60 := by have : ∀ a : Int, a ≤ 60 → a.toNat ≤ 60 := fun a h => by omega
                                                        exact this _ d2
                            omega
  rw[rows_len,ile_f (show (d:Int)<((s.1.toNat:Nat):Int) by omega)] at h
  refine .stop (Z13_ok _) F13sy h (brk_in S (by omega) hd2 (fun k e=>?_) (fun e=>?_) s.2.1.2.length 0 1048575 (Nat.zero_add _) (by have:=S.n3;omega) (fun j hj=>absurd hj (Nat.not_lt_zero _)))
  · show _ = brP (match idx0 (nlX (xSP s p)) (mD s p f d) with | some k => ((d : Int), k, true) | none => brT (xSP s p) (withV f.2 fno) r (d + 1) (stS (xSP s p) (withV f.2 fno) (d + 1)))
    rw[show idx0 (nlX (xSP s p)) (mD s p f d)=some k from e];rfl
  · have ih := brk_ans (p := p) (f := f) S r (d + 1) m (by omega) (by omega)
    show Ans F13 _ (pairV (brP (match idx0 (nlX (xSP s p)) (mD s p f d) with|some k=>((d:Int),k,true)|none=>brT (xSP s p) (withV f.2 fno) r (d+1) (stS (xSP s p) (withV f.2 fno) (d+1)))))
    rw[show idx0 (nlX (xSP s p)) (mD s p f d)=none from e];exact ih
theorem brk_call {s:tS.den} {p:(Ty.sl tO).den} {f:(Ty.sl tI).den} (H:ieq (askV s p.2 f.2) 0=true):AnsF F13 44 [tS.av s,.vs tO p.1 p.2,.vs tI f.1 f.2] (pairV (brP (breT (xSP s p) (withV f.2 fno)))):=by
 refine Ans.call (n:=40) (ext_none (by kernel_rfl)) (hasB_spec (by kernel_rfl)) ?_
 have h:=brk_start s p f
 rw[show ieq (askV s p.2 f.2) 0=true from H] at h
 obtain⟨P,_⟩:=ask_ok H
 have d2:=P.so.d2
 have h60 : s.1.toNat < 1048575 := by have : ∀ a : Int, a ≤ 60 → a.toNat < 1048575 := fun a h => by omega
                                      exact this _ d2
 exact .stop (Z13_ok _) F13sy h (brk_ans P.so s.1.toNat 0 1048575 (Nat.zero_add _) h60)
theorem ask_call (s:tS.den) (p:(Ty.sl tO).den) (f:(Ty.sl tI).den):AnsF F13 41 [tS.av s,.vs tO p.1 p.2,.vs tI f.1 f.2] (.int .i64 (askV s p.2 f.2)):=by
 refine Ans.call (n:=40) (ext_none (by kernel_rfl)) (hasB_spec (by kernel_rfl)) ?_
 have h:=ask_start s p f
 unfold askV
 cases c:ieq (plnV s p.2).2 0 with
 |false=>rw[show ieq (plnV s p.2).2 0=false from c] at h;exact .done (Z13_ok _) F13sy h rfl
 |true=>
  have P:=pln_ok c
  have h9:ile (wr .i64 (↑p.2.length-1)) 900=true:=ile_t (by rw[show wr .i64 ((p.2.length:Int)-1)=(p.2.length:Int)-1 from wr3 P.len];have:=P.len;omega)
  rw[show ieq (plnV s p.2).2 0=true from c,h9] at h
  exact .done (Z13_ok _) F13sy h rfl
noncomputable def LO:List Said:=[(41,con3 tS (.sl tO) (.sl tI) (fun _ _ _=>true) (fun s p f=>.int .i64 (askV s p.2 f.2))),(44,con3 tS (.sl tO) (.sl tI) (fun s p f=>ieq (askV s p.2 f.2) 0) (fun s p f=>pairV (brP (breT (xSP s p) (withV f.2 fno)))))]
theorem LO_ok:∀ e∈LO,SaidG Try.prog F13.glob e:=
 saids_cons (SaidOK.g f13 xf13 nf13 tabs_ok.mix (fun _ _ h=>con3_spec (t:=tS) (u:=.sl tO) (w:=.sl tI) (fun s p f _=>ask_call s p f) h) rfl)
 (saids_cons (SaidOK.g f13 xf13 nf13 tabs_ok.mix (fun _ _ h=>con3_spec (t:=tS) (u:=.sl tO) (w:=.sl tI) (fun s p f c=>brk_call c) h) rfl) saids_nil)
noncomputable def F14:Env:=F13.say (under (xOf LO))
theorem f14:EnvOK Try.prog F14:=f13.say _
theorem nf14:NameOK F14:=nf13.say _
theorem xf14:ExtOK Try.prog F14:=xf13.sayL LO_ok
theorem F14sy:F14.sy=true:=rfl
noncomputable def Z14 (l:List Nat):Sy:=(Z13 []).on LO l
theorem Z14_ok (l:List Nat):(Z14 l).ok F14:=Sy.on_ok (Z13_ok _)
end Go.Proofs.Ytolgkckmppongaa


set_option maxRecDepth 100000
namespace Go.Proofs.Ytolgkckmppongaa
open Go Go.Eng
theorem rlf_start (s:tS.den) (p:(Ty.sl tO).den) (f:(Ty.sl tI).den) (d:Int):adv F14 (Z14 []) 3000 (startC F14 11 [tS.av s,.vs tO p.1 p.2,.vs tI f.1 f.2,.int .i64 d] 40)=(bif ieq (askV s p.2 f.2) 0 then (bif ile 0 d then (bif !ile d (wr .i64 (s.1-1)) then some (.done (.tup [.nils,(.int .i64 (7))])) else (bif !ieq (askV s p.2 f.2) 0 then some (.done (.tup [.nils,(.int .i64 (askV s p.2 f.2))])) else (bif ieq (askV s p.2 f.2) 0 then (bif inB d (rowsV s p f (Int.toNat s.1)).length then some (.done (.tup [(.vs tI (((rowsV s p f (Int.toNat s.1)).getD d.toNat tI.sl.dflt).1) (((rowsV s p f (Int.toNat s.1)).getD d.toNat tI.sl.dflt).2)),(.int .i64 (0))])) else none) else none))) else some (.done (.tup [.nils,(.int .i64 (7))]))) else (bif !ieq (askV s p.2 f.2) 0 then some (.done (.tup [.nils,(.int .i64 (askV s p.2 f.2))])) else (bif ieq (askV s p.2 f.2) 0 then (bif inB d (rowsV s p f (Int.toNat s.1)).length then some (.done (.tup [(.vs tI (((rowsV s p f (Int.toNat s.1)).getD d.toNat tI.sl.dflt).1) (((rowsV s p f (Int.toNat s.1)).getD d.toNat tI.sl.dflt).2)),(.int .i64 (0))])) else none) else none))):=by kernel_rfl
theorem rou_start (s:tS.den) (p:(Ty.sl tO).den) (f:(Ty.sl tI).den):adv F14 (Z14 []) 3000 (startC F14 14 [tS.av s,.vs tO p.1 p.2,.vs tI f.1 f.2] 40)=(bif !ieq (askV s p.2 f.2) 0 then some (.done (.tup [(.int .i64 (0)),(.int .i64 (0)),(.int .i64 (askV s p.2 f.2))])) else (bif ieq (askV s p.2 f.2) 0 then (bif !ile 0 (brP (breT (xSP s p) (withV f.2 fno))).1 then some (.done (.tup [(.int .i64 (0)),(.int .i64 (0)),(.int .i64 (4))])) else some (.done (.tup [(.int .i64 ((brP (breT (xSP s p) (withV f.2 fno))).1)),(.int .i64 ((brP (breT (xSP s p) (withV f.2 fno))).2)),(.int .i64 (0))]))) else none)):=by kernel_rfl
theorem brT_pos (x:tX.den) (g:tB.den):∀ (r d:Nat) (s:Nat×tL.den),0≤(brT x g r d s).1
 |0,_,_=>Int.le_refl _
 |r+1,d,s=>by
  show 0≤(match idx0 (nlX x) (stM x g d s).2 with|some k=>((d:Int),k,true)|none=>brT x g r (d+1) (stM x g d s)).1
  cases idx0 (nlX x) (stM x g d s).2 with
  |some k=>exact Int.natCast_nonneg _
  |none=>exact brT_pos x g r (d+1) _
theorem rlf_call (s:tS.den) (p:(Ty.sl tO).den) (f:(Ty.sl tI).den) (d:Int):AnsF F14 11 [tS.av s,.vs tO p.1 p.2,.vs tI f.1 f.2,.int .i64 d] (leftV s p f.2 d):=by
 refine Ans.call (n:=40) (ext_none (by kernel_rfl)) (hasB_spec (by kernel_rfl)) ?_
 have h:=rlf_start s p f d
 unfold leftV
 cases c:ieq (askV s p.2 f.2) 0 with
 |false=>
  have e:lfE s p.2 f.2 d=askV s p.2 f.2:=by unfold lfE;rw[c];rfl
  have eL:lfL s p f.2 d=[]:=by unfold lfL;rw[e,c];rfl
  rw[show ieq (askV s p.2 f.2) 0=false from c] at h
  rw[eL,e,c]
  exact .doneT (Z14_ok _) F14sy h (Tells.tupL (.cons Tells.nils (.refl _)))
 | true =>
  obtain⟨P,_⟩:=ask_ok c
  have d1:=P.so.d1;have d2:=P.so.d2
  have hw:wr .i64 (s.1-1)=s.1-1:=wr_in (by omega) (by omega)
  rw[show ieq (askV s p.2 f.2) 0=true from c] at h
  simp only[cond_not',cond_true] at h
  cases c1:ile 0 d with
  |false=>
   have e:lfE s p.2 f.2 d=7:=by unfold lfE;rw[c,c1];rfl
   have eL:lfL s p f.2 d=[]:=by unfold lfL;rw[e];rfl
   rw[c1] at h
   rw[eL,e]
   exact .doneT (Z14_ok _) F14sy h (Tells.tupL (.cons Tells.nils (.refl _)))
  |true=>
  cases c2:ile d (wr .i64 (s.1-1)) with
  |false=>
   have e:lfE s p.2 f.2 d=7:=by unfold lfE;rw[c,c1,c2];rfl
   have eL:lfL s p f.2 d=[]:=by unfold lfL;rw[e];rfl
   rw[c1,show ile d (wr .i64 (s.1-1))=false from c2] at h
   rw[eL,e]
   exact .doneT (Z14_ok _) F14sy h (Tells.tupL (.cons Tells.nils (.refl _)))
  | true =>
   have h0:=ile_le c1
   have h2:=ile_le c2
   rw[hw] at h2
   obtain⟨D,rfl⟩:∃ D:Nat,d=(D:Int):=⟨d.toNat,(Int.toNat_of_nonneg h0).symm⟩
   have hDs:@LT.lt Int _ (D:Int) s.1:=by omega
   have hDt:D<s.1.toNat:=by
    have:∀ a:Int,(D:Int)<a→D<a.toNat:=fun a h=>by omega
    exact this _ hDs
   rw[c1,show ile (D:Int) (wr .i64 (s.1-1))=true from c2,rows_len,inB_at hDt,rows_at s p f hDt] at h
   rw[lfL_of c hDs,lfE_of c h0 hDs]
   exact .done (Z14_ok _) F14sy h rfl
theorem rou_call (s:tS.den) (p:(Ty.sl tO).den) (f:(Ty.sl tI).den):AnsF F14 14 [tS.av s,.vs tO p.1 p.2,.vs tI f.1 f.2] (tup3 (outV s p f.2)):=by
 refine Ans.call (n:=40) (ext_none (by kernel_rfl)) (hasB_spec (by kernel_rfl)) ?_
 have h:=rou_start s p f
 unfold outV
 cases c:ieq (askV s p.2 f.2) 0 with
 |false=>
  rw[show ieq (askV s p.2 f.2) 0=false from c] at h
  exact done3 (Z14_ok _) F14sy h rfl
 | true =>
  rw[show ieq (askV s p.2 f.2) 0=true from c] at h
  have hp:0≤(breT (xSP s p) (withV f.2 fno)).1:=brT_pos _ _ _ _ _
  unfold brP at h
  cases c3:(breT (xSP s p) (withV f.2 fno)).2.2 with
  |false=>rw[show (breT (xSP s p) (withV f.2 fno)).2.2=false from c3] at h;exact done3 (Z14_ok _) F14sy h rfl
  |true=>
   rw[show (breT (xSP s p) (withV f.2 fno)).2.2=true from c3] at h
   simp only[cond_true] at h⊢
   rw[ile_t hp] at h
   exact done3 (Z14_ok _) F14sy h rfl
noncomputable def LP:List Said:=[(11,con4 tS (.sl tO) (.sl tI) tI (fun _ _ _ _=>true) (fun s p f d=>leftV s p f.2 d)),(14,con3 tS (.sl tO) (.sl tI) (fun _ _ _=>true) (fun s p f=>tup3 (outV s p f.2)))]
theorem LP_ok:∀ e∈LP,SaidG Try.prog F14.glob e:=
 saids_cons (SaidOK.g f14 xf14 nf14 tabs_ok.mix (fun _ _ h=>con4_spec (t:=tS) (u:=.sl tO) (w:=.sl tI) (s:=tI) (fun s p f d _=>rlf_call s p f d) h) rfl)
 (saids_cons (SaidOK.g f14 xf14 nf14 tabs_ok.mix (fun _ _ h=>con3_spec (t:=tS) (u:=.sl tO) (w:=.sl tI) (fun s p f _=>rou_call s p f) h) rfl) saids_nil)
noncomputable def F15:Env:=F14.say (under (xOf LP))
theorem f15:EnvOK Try.prog F15:=f14.say _
theorem nf15:NameOK F15:=nf14.say _
theorem xf15:ExtOK Try.prog F15:=xf14.sayL LP_ok
theorem F15sy:F15.sy=true:=rfl
noncomputable def Z15 (l:List Nat):Sy:=(Z14 []).on LP l
theorem Z15_ok (l:List Nat):(Z15 l).ok F15:=Sy.on_ok (Z14_ok _)
end Go.Proofs.Ytolgkckmppongaa


set_option maxRecDepth 100000
namespace Go.Proofs.Ytolgkckmppongaa
open Go Go.Eng
theorem tla_start (s:tS.den) (p:(Ty.sl tO).den) (f:tF.den):adv F15 (Z15 []) 3000 (startC F15 3 [tS.av s,.vs tO p.1 p.2,tF.av f] 40)=(bif !ieq (chkV s).1 (chkV s).1 then some (.done (.bool (false))) else (bif !ieq (chkV s).2.1 (chkV s).2.1 then some (.done (.bool (false))) else (bif !ieq (chkV s).2.2 (chkV s).2.2 then some (.done (.bool (false))) else (bif !ieq (plnV s p.2).1 (plnV s p.2).1 then some (.done (.bool (false))) else (bif !ieq (plnV s p.2).2 (plnV s p.2).2 then some (.done (.bool (false))) else (bif le1k (lfL s p f.1.2 f.2.1) then (bif !intsV (lfL s p f.1.2 f.2.1) (lfL s p f.1.2 f.2.1) then some (.done (.bool (false))) else (bif !ieq (lfE s p.2 f.1.2 f.2.1) (lfE s p.2 f.1.2 f.2.1) then some (.done (.bool (false))) else (bif ieq (outV s p f.1.2).1 (outV s p f.1.2).1 then (bif ieq (outV s p f.1.2).2.1 (outV s p f.1.2).2.1 then (bif ieq (outV s p f.1.2).2.2 (outV s p f.1.2).2.2 then some (.done (.bool (true))) else some (.done (.bool (false)))) else some (.done (.bool (false)))) else some (.done (.bool (false)))))) else none)))))):=by kernel_rfl
theorem lfL_len (s:tS.den) (p:(Ty.sl tO).den) (f:List Int) (d:Int):le1k (lfL s p f d)=true:=by
 unfold lfL
 cases ieq (lfE s p.2 f d) 0 with
 |false=>rfl
 |true=>
  refine Nat.ble_eq_true_of_le ?_
  show (List.take s.2.1.2.length (liI _)).length≤1000
  rw[List.length_take]
  exact Nat.le_trans (Nat.min_le_right _ _) (by show 3≤1000;omega)
theorem tla_true (s:tS.den) (p:(Ty.sl tO).den) (f:tF.den):∃ σ,callN F15 (40+1) 3 [tS.av s,(Ty.sl tO).av p,tF.av f] .empty [] []=some (.bool true,σ,[]):=by
 refine AnsB.call (ext_none (by kernel_rfl)) (hasB_spec (by kernel_rfl)) ?_
 have h:=tla_start s p f
 simp only[ieq_self,lfL_len,intsV_self,Bool.not_true,cond_true,cond_false] at h
 exact .doneB (Z15_ok _) F15sy h rfl
end Go.Proofs.Ytolgkckmppongaa


namespace Go.Proofs.Ytolgkckmppongaa
open Go Go.ChangeShapes Go.WideShapes Go.Eng
theorem kOwn:ownKnob Try.prog.godebug=none:=by kernel_rfl
theorem kNoLaid {W:World}:laidMet Try.prog [] W:=⟨[],rfl,List.nodup_nil,fun _ _ h=>absurd h (by simp)⟩
theorem kLaid:allT (glB Try.prog []) T0.gl (fun k=>k)=true:=by kernel_rfl
theorem kParams:Try.f3.params=#[25,26,28]:=by kernel_rfl
theorem kResults:Try.f3.resultTypes=#[4]:=by kernel_rfl
theorem kLaidOut:laidOutB Try.prog=true:=by kernel_rfl
theorem kRead:Try.f3.params.toList.all (fun t=>Try.prog.readableRec t&&decide (t<Try.prog.types.size))=true:=by kernel_rfl
theorem kFit1:fits Try.prog (tS) 25=true:=by kernel_rfl
theorem kFit2:fits Try.prog (Ty.sl tO) 26=true:=by kernel_rfl
theorem kFit3:fits Try.prog (tF) 28=true:=by kernel_rfl
theorem kGlob:F15.glob=T0.gl.get:=rfl
theorem kExt (c1:(tS).den) (c2:(Ty.sl tO).den) (c3:(tF).den):F15.ext 3 [tS.av c1,(Ty.sl tO).av c2,tF.av c3]=none:=ext_none (by kernel_rfl)
set_option maxRecDepth 100000 in
theorem kLifted (os:Os) (started:os.Started) (H:Type) (enc:TypeId×Value→H) :
  ReturnsInHanded {} Try.checked os 3 .any (Rows.tenderLastsSpec.pre6 enc Try.prog Try.f3 Rows.tenderLastsRow.domain false) (Rows.tenderLastsSpec.post enc Try.prog Try.f3 false true false false):=by
 refine returnsInHanded_of_change (C:=Try.checked) kOwn started (by kernel_rfl) Try.func3
  (ChangeSpec.witness6 (enc:=enc) (C:=Try.checked) false ⟨#[],#[.agg #[.int .i64 0,.slice none 0 0,.int .i64 0,.int .i64 0,.int .i64 0,.slice none 0 0],.slice none 0 0,.agg #[.slice none 0 0,.int .i64 0]],[]⟩ 8 (by kernel_rfl) (by kernel_rfl) (by kernel_rfl) (by kernel_rfl)) ?_
 intro W base args ds gs before hok hW _ _
 have hW':=hW
 obtain⟨p,q,hA,_⟩:=hW
 rw[kParams] at hA
 obtain⟨v1,v2,v3,d1,d2,d3,p1,p2,p3,e1',e2',hp,t1,t2,t3⟩:=trodAll_three hA
 subst e1';subst e2'
 rw[kParams] at hok
 obtain⟨c1,h1,w1⟩:=arg_ty (t:=tS) (hok 0 25 v1 rfl rfl) kFit1 t1
 obtain⟨c2,h2,w2⟩:=arg_ty (t:=Ty.sl tO) (hok 1 26 v2 rfl rfl) kFit2 t2
 obtain⟨c3,h3,w3⟩:=arg_ty (t:=tF) (hok 2 28 v3 rfl rfl) kFit3 t3
 obtain⟨σ,hrun⟩:=tla_true c1 c2 c3
 refine (law_run (A:=[v1,v2,v3]) (V:=Go.Eng.seen W) f15 xf15 nf15 tabs_ok.mix (kExt c1 c2 c3) hrun (.cons h1 (.cons h2 (.cons h3 (.nil _)))) (by kernel_rfl) (fun _ _ _ h=>h) (glob_of kGlob kLaid kNoLaid)).mono fun e W' ⟨he,hf⟩=>?_
 subst he
 exact⟨_,rfl,post_law kLaidOut kRead kResults Try.underlying4 rfl rfl hW' hf⟩
theorem tenderLasts_holds:Rows.TenderLastsSaid:=
 OpenClaim.holds_of_wide 3 Try.f3 rfl rfl rfl rfl rfl rfl rfl ⟨rfl,rfl,rfl,rfl,rfl⟩ rfl rfl rfl rfl rfl (by kernel_rfl) Try.func3 (by kernel_rfl)
  (of_decide_eq_true (by kernel_rfl)) (by unfold Func.isWrapper;first|(rw[if_pos (by decide +kernel)];kernel_rfl)|(rw[if_neg (by decide +kernel)];exact⟨rfl,rfl⟩))
  (fun os started H enc _=>kLifted os started H enc)
#print axioms tenderLasts_holds
end Go.Proofs.Ytolgkckmppongaa

