/-
  What is proved: norelaw09.TenderWhatever returns true for whichever season, plan and failures: what Breaks returns is possible and breaks the plan then, and no possible failures break it before. Conditions: none.
-/
import Derived.Test.YtmpaifgmccdipaaPart06
import Derived.Test.YtmpaifgmccdipaaPart07
import Derived.Test.YtmpaifgmccdipaaPart08
import Derived.Test.YtmpaifgmccdipaaPart09
import Derived.Test.YtmpaifgmccdipaaPart10
import Derived.Test.YtmpaifgmccdipaaPart11
import Derived.Test.YtmpaifgmccdipaaPart12
import Derived.Test.YtmpaifgmccdipaaPart13
import Derived.Test.YtmpaifgmccdipaaPart05
import Derived.Test.YtmpaifgmccdipaaRows
import Derived.ProofKit
import Derived.LaidMore
import Derived.OpenShut
import Derived.Stop.Joined
import Derived.Lay
import Derived.SevenTiedAt
set_option linter.unusedSectionVars false
set_option linter.unusedSimpArgs false
set_option linter.unusedVariables false
set_option maxRecDepth 100000
namespace Go.Proofs.Ytmpaifgmccdipaa
open Go Go.Eng
noncomputable def L2:List Ent:=[c0,c1,c2,c3,c4,c5,c6,c7]
theorem l2:∀ e∈L2,EntOK Try.prog E1 e:=ents_cons o0 (ents_cons o1 (ents_cons o2 (ents_cons o3 (ents_cons o4 (ents_cons o5 (ents_cons o6 (ents_cons o7 (ents_nil))))))))
end Go.Proofs.Ytmpaifgmccdipaa


set_option maxRecDepth 100000
namespace Go.Proofs.Ytmpaifgmccdipaa
open Go Go.Eng
theorem kn_true:isTrueT E1 L2 40 8=true:=by kernel_rfl
end Go.Proofs.Ytmpaifgmccdipaa


set_option maxRecDepth 100000
namespace Go.Proofs.Ytmpaifgmccdipaa
open Go Go.Eng
theorem LC5_ok:∀ e∈LC5,SaidG Try.prog C4.glob e:=saids_cons (XG.g (XG.closedT e1 x1 n1 tabs_ok.mix l2 kn_true) rfl) saids_nil
noncomputable abbrev Q5:Env:=C5
theorem q5:EnvOK Try.prog Q5:=cc5
theorem nq5:NameOK Q5:=nC5
theorem xq5:ExtOK Try.prog Q5:=xC4.sayL LC5_ok
end Go.Proofs.Ytmpaifgmccdipaa


set_option maxRecDepth 100000
namespace Go.Proofs.Ytmpaifgmccdipaa
open Go Go.Eng
end Go.Proofs.Ytmpaifgmccdipaa


namespace Go.Proofs.Ytmpaifgmccdipaa
open Go Go.ChangeShapes Go.WideShapes Go.Eng
theorem kOwn:ownKnob Try.prog.godebug=none:=by kernel_rfl
theorem kNoLaid {W:World}:laidMet Try.prog [] W:=⟨[],rfl,List.nodup_nil,fun _ _ h=>absurd h (by simp)⟩
theorem kLaid:allT (glB Try.prog []) T0.gl (fun k=>k)=true:=by kernel_rfl
theorem kParams:Try.f3.params=#[25,26,5]:=by kernel_rfl
theorem kResults:Try.f3.resultTypes=#[4]:=by kernel_rfl
theorem kLaidOut:laidOutB Try.prog=true:=by kernel_rfl
theorem kRead:Try.f3.params.toList.all (fun t=>Try.prog.readableRec t&&decide (t<Try.prog.types.size))=true:=by kernel_rfl
theorem kFit1:fits Try.prog (tS) 25=true:=by kernel_rfl
theorem kFit2:fits Try.prog (Ty.sl tO) 26=true:=by kernel_rfl
theorem kFit3:fits Try.prog (tU) 5=true:=by kernel_rfl
theorem kGlob:Q5.glob=T0.gl.get:=rfl
theorem kExt (c1:(tS).den) (c2:(Ty.sl tO).den) (c3:(tU).den):Q5.ext 3 [tS.av c1,(Ty.sl tO).av c2,tU.av c3]=none:=ext_none (by kernel_rfl)
set_option maxRecDepth 100000 in
theorem kLifted (os:Os) (started:os.Started) (H:Type) (enc:TypeId×Value→H) :
  ReturnsInHanded {} Try.checked os 3 .any (Rows.tenderWhateverSpec.pre6 enc Try.prog Try.f3 Rows.tenderWhateverRow.domain false) (Rows.tenderWhateverSpec.post enc Try.prog Try.f3 false true false false):=by
 refine returnsInHanded_of_change (C:=Try.checked) kOwn started (by kernel_rfl) Try.func3
  (ChangeSpec.witness6 (enc:=enc) (C:=Try.checked) false ⟨#[],#[.agg #[.int .i64 0,.slice none 0 0,.int .i64 0,.int .i64 0,.int .i64 0,.slice none 0 0],.slice none 0 0,.int .u8 0],[]⟩ 8 (by kernel_rfl) (by kernel_rfl) (by kernel_rfl) (by kernel_rfl)) ?_
 intro W base args ds gs before hok hW _ _
 have hW':=hW
 obtain⟨p,q,hA,_⟩:=hW
 rw[kParams] at hA
 obtain⟨v1,v2,v3,d1,d2,d3,p1,p2,p3,e1',e2',hp,t1,t2,t3⟩:=trodAll_three hA
 subst e1';subst e2'
 rw[kParams] at hok
 obtain⟨c1,h1,w1⟩:=arg_ty (t:=tS) (hok 0 25 v1 rfl rfl) kFit1 t1
 obtain⟨c2,h2,w2⟩:=arg_ty (t:=Ty.sl tO) (hok 1 26 v2 rfl rfl) kFit2 t2
 obtain⟨c3,h3,w3⟩:=arg_ty (t:=tU) (hok 2 5 v3 rfl rfl) kFit3 t3
 obtain⟨σ,hrun⟩:=twh_true c1 c2 c3
 refine (law_run (A:=[v1,v2,v3]) (V:=Go.Eng.seen W) q5 xq5 nq5 tabs_ok.mix (kExt c1 c2 c3) hrun (.cons h1 (.cons h2 (.cons h3 (.nil _)))) (by kernel_rfl) (fun _ _ _ h=>h) (glob_of kGlob kLaid kNoLaid)).mono fun e W' ⟨he,hf⟩=>?_
 subst he
 exact⟨_,rfl,post_law kLaidOut kRead kResults Try.underlying4 rfl rfl hW' hf⟩
theorem tenderWhatever_holds:Rows.TenderWhateverSaid:=
 OpenClaim.holds_of_wide 3 Try.f3 rfl rfl rfl rfl rfl rfl rfl ⟨rfl,rfl,rfl,rfl,rfl⟩ rfl rfl rfl rfl rfl (by kernel_rfl) Try.func3 (by kernel_rfl)
  (of_decide_eq_true (by kernel_rfl)) (by unfold Func.isWrapper;first|(rw[if_pos (by decide +kernel)];kernel_rfl)|(rw[if_neg (by decide +kernel)];exact⟨rfl,rfl⟩))
  (fun os started H enc _=>kLifted os started H enc)
#print axioms tenderWhatever_holds
end Go.Proofs.Ytmpaifgmccdipaa

