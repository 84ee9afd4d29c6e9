/-
  What is proved: norelaw08.StoreMornings returns true for all stores, truths, kinds and days. Conditions: none.
-/
import Derived.Test.YtdankkgamgfjbaaGreatPart07
import Derived.Test.YtdankkgamgfjbaaGreatPart08
import Derived.Test.YtdankkgamgfjbaaGreatPart09
import Derived.Test.YtdankkgamgfjbaaGreatPart10
import Derived.Test.YtdankkgamgfjbaaGreatPart11
import Derived.Test.YtdankkgamgfjbaaGreatPart12
import Derived.Test.YtdankkgamgfjbaaGreatPart13
import Derived.Test.YtdankkgamgfjbaaGreatPart15
import Derived.Test.YtdankkgamgfjbaaGreatPart16
import Derived.Test.YtdankkgamgfjbaaGreatPart17
import Derived.Test.YtdankkgamgfjbaaGreatPart05
import Derived.Test.YtdankkgamgfjbaaGreatPart06
import Derived.Test.YtdankkgamgfjbaaGreatRows
import Derived.ProofKit
import Derived.LaidMore
import Derived.OpenShut
import Derived.Stop.Joined
import Derived.Lay
import Derived.SevenTiedAt
set_option linter.unusedSectionVars false
set_option linter.unusedSimpArgs false
set_option linter.unusedVariables false
set_option maxRecDepth 100000
namespace Go.Proofs.YtdankkgamgfjbaaGreat
open Go Go.Eng
noncomputable def L3:List Ent:=[c0,c1,c2,c3,c4,c5,c6,c7,c8,c9,c10,c11,c12]
theorem l3:∀ e∈L3,EntOK Tryz.prog E1 e:=ents_cons o0 (ents_cons o1 (ents_cons o2 (ents_cons o3 (ents_cons o4 (ents_cons o5 (ents_cons o6 (ents_cons o7 (ents_cons o8 (ents_cons o9 (ents_cons o10 (ents_cons o11 (ents_cons o12 (ents_nil)))))))))))))
end Go.Proofs.YtdankkgamgfjbaaGreat


set_option maxRecDepth 100000
namespace Go.Proofs.YtdankkgamgfjbaaGreat
open Go Go.Eng
theorem kn_true:isTrueT E1 L3 40 12=true:=by kernel_rfl
end Go.Proofs.YtdankkgamgfjbaaGreat


set_option maxRecDepth 100000
namespace Go.Proofs.YtdankkgamgfjbaaGreat
open Go Go.Eng
theorem lmor_start (s:tS.den) (t:tT.den) (a b:Int):adv F11 (Z11 []) 3000 (startC F11 3 [tS.av s,tT.av t,.agg [.int .i64 a,.int .i64 b]] 40)=(bif !ieq (chkS s).1 (chkS s).1 then some (.done (.bool (false))) else (bif !ieq (chkS s).2.1 (chkS s).2.1 then some (.done (.bool (false))) else (bif !ieq (chkS s).2.2 (chkS s).2.2 then some (.done (.bool (false))) else (bif (bif ieq (morE s a t b) 0 then rmL s a t b (s.1.2.length+1) else []).length.ble 1000000 then (bif intsS (bif ieq (morE s a t b) 0 then rmL s a t b (s.1.2.length+1) else []) (bif ieq (morE s a t b) 0 then rmL s a t b (s.1.2.length+1) else []) then (bif ieq (bif ieq (morE s a t b) 0 then rsF s a t b s.1.2.length else 0) (bif ieq (morE s a t b) 0 then rsF s a t b s.1.2.length else 0) then (bif ieq (morE s a t b) (morE s a t b) then some (.done (.bool (true))) else some (.done (.bool (false)))) else some (.done (.bool (false)))) else some (.done (.bool (false)))) else none)))):=by kernel_rfl
theorem LJ_ok:∀ e∈LJ,SaidG Tryz.prog F9.glob e:=
 saids_cons (SaidOK.g f6 xf6 nf6 tabs_ok.mix (fun _ _ h=>conP1_spec (t:=tQ) (fun d h=>plea_call d h) h) rfl) saids_nil
theorem xf10:ExtOK Tryz.prog F10:=xf9.sayL LJ_ok
theorem LK_ok:∀ e∈LK,SaidG Tryz.prog F10.glob e:=
 saids_cons (SaidOK.g f10 xf10 nf10 tabs_ok.mix (fun _ _ h=>con4_spec (t:=tS) (u:=tI) (w:=tT) (s:=tI) (fun s k t n _=>pmor_call s k t n) h) rfl)
 (saids_cons (SaidOK.g f9 xf9 nf9 tabs_ok.mix (fun _ _ h=>con4_spec (t:=tS) (u:=tI) (w:=tT) (s:=tI) (fun s k t n _=>rmor_call s k t n) h) rfl)
 (saids_cons (SaidOK.g f9 xf9 nf9 tabs_ok.mix (fun _ _ h=>con2_spec (t:=.sl tI) (u:=.sl tI) (fun a b h=>intz_call a b h) h) rfl)
 (saids_cons (XG.g (XG.closedT e1 x1 n1 tabs_ok.mix l3 kn_true) rfl) saids_nil)))
theorem xf11:ExtOK Tryz.prog F11:=xf10.sayL LK_ok
abbrev tV2:Ty:=.cons tI (.cons tI .nil)
theorem mor_len (s:tS.den) (k:Int) (t:tT.den) (n:Int):Nat.ble (bif ieq (morE s k t n) 0 then rmL s k t n (s.1.2.length+1) else []).length 1000000=true:=by
 cases c:ieq (morE s k t n) 0 with
 |false=>rfl
 |true=>
  rw[cond_true,rmL_len]
  unfold morE at c
  cases c0:ieq (chkS s).2.2 0 with
  |false=>rw[c0,cond_false,c0] at c;cases c
  |true=>have:=(chk_len c0).m2;exact Nat.ble_eq_true_of_le (by omega)
theorem mor_true (s:tS.den) (t:tT.den) (x:tV2.den):∃ σ,callN F11 (40+1) 3 [tS.av s,tT.av t,tV2.av x] .empty [] []=some (.bool true,σ,[]):=by
 refine AnsB.call (ext_none (by kernel_rfl)) (hasB_spec (by kernel_rfl)) ?_
 have h:=lmor_start s t x.1 x.2.1
 simp only[ieq_self,mor_len,intsS_self,Bool.not_true,cond_true,cond_false] at h
 exact .doneB (Z11_ok _) F11sy h rfl
end Go.Proofs.YtdankkgamgfjbaaGreat


namespace Go.Proofs.YtdankkgamgfjbaaGreat
open Go Go.ChangeShapes Go.WideShapes Go.Eng
theorem kOwn:ownKnob Tryz.prog.godebug=none:=by kernel_rfl
theorem kNoLaid {W:World}:laidMet Tryz.prog [] W:=⟨[],rfl,List.nodup_nil,fun _ _ h=>absurd h (by simp)⟩
theorem kLaid:allT (glB Tryz.prog []) T0.gl (fun k=>k)=true:=by kernel_rfl
theorem kParams:Tryz.f3.params=#[26,28,29]:=by kernel_rfl
theorem kResults:Tryz.f3.resultTypes=#[4]:=by kernel_rfl
theorem kLaidOut:laidOutB Tryz.prog=true:=by kernel_rfl
theorem kRead:Tryz.f3.params.toList.all (fun t=>Tryz.prog.readableRec t&&decide (t<Tryz.prog.types.size))=true:=by kernel_rfl
theorem kFit1:fits Tryz.prog (tS) 26=true:=by kernel_rfl
theorem kFit2:fits Tryz.prog (tT) 28=true:=by kernel_rfl
theorem kFit3:fits Tryz.prog (tV2) 29=true:=by kernel_rfl
theorem kGlob:F11.glob=T0.gl.get:=rfl
theorem kExt (c1:(tS).den) (c2:(tT).den) (c3:(tV2).den):F11.ext 3 [tS.av c1,tT.av c2,tV2.av c3]=none:=ext_none (by kernel_rfl)
set_option maxRecDepth 100000 in
theorem kLifted (os:Os) (started:os.Started) (H:Type) (enc:TypeId×Value→H) :
  ReturnsInHanded {} Tryz.checked os 3 .any (Rows.storeMorningsSpec.pre6 enc Tryz.prog Tryz.f3 Rows.storeMorningsRow.domain false) (Rows.storeMorningsSpec.post enc Tryz.prog Tryz.f3 false true false false):=by
 refine returnsInHanded_of_change (C:=Tryz.checked) kOwn started (by kernel_rfl) Tryz.func3
  (ChangeSpec.witness6 (enc:=enc) (C:=Tryz.checked) false ⟨#[],#[.agg #[.slice none 0 0,.slice none 0 0,.slice none 0 0],.agg #[.int .i64 0,.int .i64 0,.int .i64 0],.agg #[.int .i64 0,.int .i64 0]],[]⟩ 8 (by kernel_rfl) (by kernel_rfl) (by kernel_rfl) (by kernel_rfl)) ?_
 intro W base args ds gs before hok hW _ _
 have hW':=hW
 obtain⟨p,q,hA,_⟩:=hW
 rw[kParams] at hA
 obtain⟨v1,v2,v3,d1,d2,d3,p1,p2,p3,e1',e2',hp,t1,t2,t3⟩:=trodAll_three hA
 subst e1';subst e2'
 rw[kParams] at hok
 obtain⟨c1,h1,w1⟩:=arg_ty (t:=tS) (hok 0 26 v1 rfl rfl) kFit1 t1
 obtain⟨c2,h2,w2⟩:=arg_ty (t:=tT) (hok 1 28 v2 rfl rfl) kFit2 t2
 obtain⟨c3,h3,w3⟩:=arg_ty (t:=tV2) (hok 2 29 v3 rfl rfl) kFit3 t3
 obtain⟨σ,hrun⟩:=mor_true c1 c2 c3
 refine (law_run (A:=[v1,v2,v3]) (V:=Go.Eng.seen W) f11 xf11 nf11 tabs_ok.mix (kExt c1 c2 c3) hrun (.cons h1 (.cons h2 (.cons h3 (.nil _)))) (by kernel_rfl) (fun _ _ _ h=>h) (glob_of kGlob kLaid kNoLaid)).mono fun e W' ⟨he,hf⟩=>?_
 subst he
 exact⟨_,rfl,post_law kLaidOut kRead kResults Tryz.underlying4 rfl rfl hW' hf⟩
theorem storeMornings_holds:Rows.StoreMorningsSaid:=
 OpenClaim.holds_of_wide 3 Tryz.f3 rfl rfl rfl rfl rfl rfl rfl ⟨rfl,rfl,rfl,rfl,rfl⟩ rfl rfl rfl rfl rfl (by kernel_rfl) Tryz.func3 (by kernel_rfl)
  (of_decide_eq_true (by kernel_rfl)) (by unfold Func.isWrapper;first|(rw[if_pos (by decide +kernel)];kernel_rfl)|(rw[if_neg (by decide +kernel)];exact⟨rfl,rfl⟩))
  (fun os started H enc _=>kLifted os started H enc)
#print axioms storeMornings_holds
end Go.Proofs.YtdankkgamgfjbaaGreat

