/-
  What is proved: norelaw09.TenderKnown returns true: the examples that the document gives of layer 9 come out as it says. Conditions: none.
-/
import Derived.Test.YtolgkckmppongaaPart05
import Derived.Test.YtolgkckmppongaaPart06
import Derived.Test.YtolgkckmppongaaPart07
import Derived.Test.YtolgkckmppongaaPart08
import Derived.Test.YtolgkckmppongaaPart09
import Derived.Test.YtolgkckmppongaaPart10
import Derived.Test.YtolgkckmppongaaPart11
import Derived.Test.YtolgkckmppongaaPart12
import Derived.Test.YtolgkckmppongaaPart13
import Derived.Test.YtolgkckmppongaaPart14
import Derived.Test.YtolgkckmppongaaPart15
import Derived.Test.YtolgkckmppongaaPart16
import Derived.Test.YtolgkckmppongaaPart17
import Derived.Test.YtolgkckmppongaaPart19
import Derived.Test.YtolgkckmppongaaPart20
import Derived.Test.YtolgkckmppongaaPart03
import Derived.Test.YtolgkckmppongaaRows
import Derived.ProofKit
import Derived.LaidMore
import Derived.OpenShut
import Derived.Stop.Joined
import Derived.Lay
import Derived.SevenTiedAt
set_option linter.unusedSectionVars false
set_option linter.unusedSimpArgs false
set_option linter.unusedVariables false
set_option maxRecDepth 100000
namespace Go.Proofs.Ytolgkckmppongaa
open Go Go.Eng
noncomputable def L3:List Ent:=[c0,c1,c2,c3,c4,c5,c6,c7,c8,c9,c10,c11,c12,c13,c14]
theorem l3:∀ e∈L3,EntOK Try.prog E1 e:=ents_cons o0 (ents_cons o1 (ents_cons o2 (ents_cons o3 (ents_cons o4 (ents_cons o5 (ents_cons o6 (ents_cons o7 (ents_cons o8 (ents_cons o9 (ents_cons o10 (ents_cons o11 (ents_cons o12 (ents_cons o13 (ents_cons o14 (ents_nil)))))))))))))))
end Go.Proofs.Ytolgkckmppongaa


set_option maxRecDepth 100000
namespace Go.Proofs.Ytolgkckmppongaa
open Go Go.Eng
theorem kn_true:isTrueT E1 L3 40 4=true:=by kernel_rfl
end Go.Proofs.Ytolgkckmppongaa


namespace Go.Proofs.Ytolgkckmppongaa
open Go Go.ChangeShapes Go.WideShapes Go.Eng
theorem kOwn:ownKnob Try.prog.godebug=none:=by kernel_rfl
theorem kNoLaid {W:World}:laidMet Try.prog [] W:=⟨[],rfl,List.nodup_nil,fun _ _ h=>absurd h (by simp)⟩
theorem kLaid:allT (glB Try.prog []) T0.gl (fun k=>k)=true:=by kernel_rfl
theorem kParams:Try.f4.params=#[]:=by kernel_rfl
theorem kResults:Try.f4.resultTypes=#[4]:=by kernel_rfl
theorem g1:E1.glob=T0.gl.get:=rfl
set_option maxRecDepth 100000 in
theorem kLifted (os:Os) (started:os.Started) (H:Type) (enc:TypeId×Value→H) :
  ReturnsInHanded {} Try.checked os 4 .any (Rows.tenderKnownSpec.pre6 enc Try.prog Try.f4 Rows.tenderKnownRow.domain false) (Rows.tenderKnownSpec.post enc Try.prog Try.f4 false true false false):=by
 refine returnsInHanded_of_change (C:=Try.checked) kOwn started (by kernel_rfl) Try.func4
  (ChangeSpec.witness6 (enc:=enc) (C:=Try.checked) false ⟨#[],#[],[]⟩ 8 (by kernel_rfl) (by kernel_rfl) (by kernel_rfl) (by kernel_rfl)) ?_
 intro W base args ds gs before _ hW _ _
 have e:args=#[]:=by
  obtain⟨p,q,hA,_⟩:=hW
  rw[kParams] at hA
  cases h:args.toList with
  |nil=>exact Array.toList_eq_nil_iff.1 h
  |cons a r=>rw[h] at hA;exact absurd hA (fun h=>by cases h)
 subst e
 refine (law0T (T:=T0) (laid:=[]) e1 x1 n1 tabs_ok.mix g1 kLaid l3 kn_true kNoLaid).mono fun e W' ⟨he,hf⟩=>?_
 subst he
 exact⟨_,rfl,post0 kParams kResults Try.underlying4 rfl rfl hW hf⟩
theorem tenderKnown_holds:Rows.TenderKnownSaid:=
 OpenClaim.holds_of_wide 4 Try.f4 rfl rfl rfl rfl rfl rfl rfl ⟨rfl,rfl,rfl,rfl,rfl⟩ rfl rfl rfl rfl rfl (by kernel_rfl) Try.func4 (by kernel_rfl)
  (of_decide_eq_true (by kernel_rfl)) (by unfold Func.isWrapper;first|(rw[if_pos (by decide +kernel)];kernel_rfl)|(rw[if_neg (by decide +kernel)];exact⟨rfl,rfl⟩))
  (fun os started H enc _=>kLifted os started H enc)
#print axioms tenderKnown_holds
end Go.Proofs.Ytolgkckmppongaa

