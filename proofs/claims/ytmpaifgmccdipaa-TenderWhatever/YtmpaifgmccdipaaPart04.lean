/-
  THE ENGINE: one more part of it.
-/
import Derived.Test.YtmpaifgmccdipaaPart03
import Derived.Carry
set_option linter.unusedSectionVars false
set_option linter.unusedSimpArgs false
set_option linter.unusedVariables false
namespace Go.Eng
open Go
section
variable {H:Type} {P:Program} {enc:TypeId×Value→H}
theorem below_of_fr {W W':World} (h:Fr (fun _=>False) W W'):RowKit.Below W.heap.size W W':=⟨h.os,h.tape,h.output,h.size,fun b hb=>h.block b hb (fun x=>x)⟩
theorem trodAll_stays (hl:laidOutB P=true) {W W':World} (hb:RowKit.Below W.heap.size W W'):∀ {ts:List TypeId} {vs:List Value} {ds:List (DataW H)} {ps:List MemPlace},ts.all (fun t=>P.readableRec t&&decide (t<P.types.size))=true →
  DataW.TrodAll enc P W 0 (fun _=>true) true ts vs ds ps→(∀ x∈ps,x.block<W.heap.size)→DataW.TrodAll enc P W' 0 (fun b=>decide (b<W.heap.size)) true ts vs ds ps
 |[],vs,ds,ps,_,h,_=>by
  obtain⟨rfl,rfl,rfl⟩:=ChangeShapes.trodAll_nil h
  exact rfl
 | t :: ts, vs, ds, ps, ht, h, hlt => by
  cases vs with
  |nil=>exact absurd h (fun h=>by cases ds<;>exact h)
  | cons v vs =>
   cases ds with
   |nil=>exact absurd h (fun h=>h)
   |cons d ds=>
    obtain⟨p,q,h1,h2,rfl⟩:=h
    simp only[List.all_cons,Bool.and_eq_true,decide_eq_true_eq] at ht
    exact⟨p,q,RowKit.Below.trod hl ht.1.1 ht.1.2 h1 hb (fun x hx=>hlt x (List.mem_append_left _ hx)),trodAll_stays hl hb ht.2 h2 (fun x hx=>hlt x (List.mem_append_right _ hx)),rfl⟩
theorem post_law {f:Func} {s:ChangeSpec} {W W':World} {t:TypeId} {args:Array Value} (hl:laidOutB P=true) (hp:f.params.toList.all (fun t=>P.readableRec t&&decide (t<P.types.size))=true) (hr:f.resultTypes=#[t]) (ht:P.underlying t=some .bool) (hv:s.vars=[])
  {ds gs:List (DataW H)} {before:List MemPlace} (hs:s.fn H ds={ results:=[.lit (.bool true)],args:=ds }) (hW:DataW.Whole enc P f.params.toList s.vars false W args.toList ds gs before) (h:Fr (fun _=>False) W W') :
  s.post enc P f false true false false W args (.bool true) W':=by
 have hlt:=fun p hp=>hW.lt p hp
 obtain⟨p,q,h1,h2,h3,h4,h5⟩:=hW
 have h2':=h2
 rw[hv] at h2'
 obtain⟨e2,e3⟩:=ChangeShapes.trodVars_none h2'
 subst e2;subst e3
 rw[List.append_nil] at h3
 subst h3
 refine⟨ds,[],before,[],before,[],⟨before,[],h1,h2,by simp,h4,h5⟩,?_,?_,?_,kept_of_fr h _,fun h=>by cases h⟩
 · rw [List.append_nil, hs, hr]
   exact Go.ChangeShapes.trodAll_mk1 ⟨1,by simp[DataW.trod,Value.cells,ht]⟩
 · rw [List.append_nil, hs]
   exact trodAll_stays hl (below_of_fr h) hp h1 hlt
 · rw [List.append_nil, hs, hv]
   rfl
theorem arg_ty {t:Ty} {T:TypeId} {W:World} {base:Nat} {v:Value} {d:DataW H} {p:List MemPlace} (hok:Value.okWide P W .any base T v) (hf:fits P t T=true) (h:DataW.Trod enc P W 0 (fun _=>true) true T v d p):∃ x:t.den,VR (seen W) (t.av x) v∧t.wf x=true:=by
 obtain⟨fuel,h⟩:=h
 obtain⟨x,hx,hwf⟩:=trod_ty (fun _=>rfl) t T fuel _ d p hf h
 refine⟨x,?_,hwf⟩
 have one:∀ {a:AV},v.cells.toList=[v]→VRs (seen W) [a] v.cells.toList→VR (seen W) a v:=by
  intro a e h
  rw[e] at h
  obtain⟨X,Xs,e,hX,_⟩:=h.cons_inv
  simp only[List.cons.injEq] at e
  rw[e.1];exact hX
 have row:(∃ fs,P.underlying T=some (.struct fs))→VR (seen W) (.agg (t.cells x)) v:=by
  rintro ⟨fs,hu⟩
  obtain⟨cs,rfl,_⟩:=WideShapes.okWide_struct hu hok
  exact .agg _ _ hx.1 hx.2
 have rowA:(∃ n e,P.underlying T=some (.array n e))→VR (seen W) (.agg (t.cells x)) v:=by
  rintro ⟨n,e,hu⟩
  simp only[Value.okWide,hu] at hok
  obtain⟨cs,rfl,_⟩:=hok
  exact .agg _ _ hx.1 hx.2
 cases t with
 |int k=>
  simp only[fits] at hf
  split at hf
  · rename_i k' hu
    obtain⟨n,rfl⟩:=WideShapes.okWide_int hu hok
    exact one rfl hx
  · cases hf
 |bool=>
  simp only[fits] at hf
  split at hf
  · rename_i hu
    obtain⟨n,rfl⟩:=WideShapes.okWide_bool hu hok
    exact one rfl hx
  · cases hf
 |str=>
  simp only[fits] at hf
  split at hf
  · rename_i hu
    obtain⟨n,rfl⟩:=WideShapes.okWide_string hu hok
    exact one rfl hx
  · cases hf
 |nil=>
  simp only[fits] at hf
  split at hf
  · rename_i fs hu;exact row ⟨fs,hu⟩
  · cases hf
 |cons a b=>
  simp only[fits] at hf
  split at hf
  · rename_i fs hu;exact row ⟨fs,hu⟩
  · rename_i n e hu;exact rowA ⟨n,e,hu⟩
  · cases hf
 |sl t=>
  simp only[fits] at hf
  split at hf
  · rename_i e hu
    obtain⟨a,len,cap,rfl⟩:=WideShapes.okWide_slice hu hok
    exact one rfl hx
  · cases hf
variable {E:Env}
theorem law_run (hE:EnvOK P E) (hX:ExtOK P E) (hN:NameOK E) (hmix:P.follows .mixedOrders=true) {f n:Nat} {args:List AV} {σ:Hp} (hext:E.ext f args=none) (h:callN E (n+1) f args .empty [] []=some (.bool true,σ,[]))
  {V:View} {A:List Value} {W:World} (ha:VRs V args A) (hcl:args.all (closedA 9)=true) (hK:∀ b o x,V.K b o=some x→W.cell? ⟨b,o,none⟩=some x) (hg:GlobK E V) :
  Calls P f A.toArray W fun e W'=>e=.returned (.bool true)∧Fr (fun _=>False) W W':=by
 have hc:=engine_ok hE hX hN hmix n
 obtain⟨σ1,h1⟩:=callN_body hext h
 refine (calls_of hE hN hmix hc hext h1 ha hcl hK hg).mono fun e W' ⟨V',R,he,hv,hf⟩=>?_
 cases hv
 exact⟨he,hf⟩
def XG (P:Program) (E:Env) (f:Nat) (args:List AV) (v:AV):Prop:=
 ∀ V A W,VRs V args A→(∀ b o x,V.K b o=some x→W.cell? ⟨b,o,none⟩=some x)→GlobK E V→∃ R W',VR V v R∧Fr (fun _=>False) W W'∧Goes P f A.toArray W R W'
theorem XG.part {call:CallF} (hc:CallOK P E call) {f:Nat} {args:List AV} {v:AV} {σ:Hp} (h:call f args .empty [] []=some (v,σ,[])) (hcl:args.all (closedA 9)=true) (hv:plainA 9 v=true):XG P E f args v:=by
 intro V A W ha hK hg
 obtain⟨V1,O',W',R,hP,hr,_,_,_,hv',hgo⟩:=hc f args .empty [] [] v σ [] h W.heap.size invT (alone V) A (fun _=>False) W invT_ok (fun lvl h e=>by cases e) (HR.alone hK hg _) (Nat.le_refl _) (closedA_list hcl ha) (fun _ h=>h) (fun _ _ h=>h) (fun i x hx=>by simp[Eng.alone] at hx)
 exact⟨R,W',plainA_spec 9 _ hv hv',hP.fr.weaken (fun b _ hb=>hb.elim (no_own b) (fun h=>h)),hgo⟩
theorem XG.closedT (hE:EnvOK P E) (hX:ExtOK P E) (hN:NameOK E) (hmix:P.follows .mixedOrders=true) {L:List Ent} (hL:∀ e∈L,EntOK P E e) {n f:Nat} (h:isTrueT E L n f=true):XG P E f [] (.bool true):=by
 unfold isTrueT at h
 rw[stepF_eq,callTF_eq] at h
 split at h
 · rename_i σ h1 h2
   have hb:CallOK P E (bodyN E (callT E L n)):=body_ok hE hX hN (callT_ok hE hX hN hmix hL n) (code_ok hE hmix _ (callT_ok hE hX hN hmix hL n))
   exact XG.part hb h2 rfl rfl
 · cases h
end
end Go.Eng


namespace Go.Eng
open Go
abbrev Said:=Nat×(List AV→Option (Bool×AV))
noncomputable def xOf:List Said→Nat→List AV→Option (Bool×AV)
 |[],_,_=>none
 |e::L,f,args=>match Nat.beq f e.1 with
  |true=>e.2 args
  |false=>xOf L f args
section
variable {P:Program} {E:Env}
def SaidOK (E:Env) (e:Said):Prop:=∀ args v,e.2 args=some (true,v)→∃ args',TellsL args args'∧args'.all (closedA 9)=true∧AnsF E e.1 args' v
def SaidG (P:Program) (gl:Nat→Option (List AV)) (e:Said):Prop:=
 ∀ args v,e.2 args=some (true,v)→∀ V A W,VRs V args A→(∀ b o x,V.K b o=some x→W.cell? ⟨b,o,none⟩=some x) →
  (∀ g l,gl g=some l→∃ z:Nat→Value,∀ i (h:i<l.length),V.K g i=some (z i)∧VR V.bare l[i] (z i)) →
  ∃ R W' V',KG V V' W W'∧VR V' v R∧Fr (fun _=>False) W W'∧Goes P e.1 A.toArray W R W'
theorem SaidOK.g (hE:EnvOK P E) (hX:ExtOK P E) (hN:NameOK E) (hmix:P.follows .mixedOrders=true) {e:Said} (h:SaidOK E e) {gl:Nat→Option (List AV)} (hg:E.glob=gl):SaidG P gl e:=by
 subst hg
 intro args v hv V A W ha hK hgl
 obtain⟨args',h1,h2,n,v0,σ,v1,h3,h4,h5⟩:=h args v hv
 obtain⟨R,W',V',k1,k2,k3,k4⟩:=closed_callH (engine_ok hE hX hN hmix) h3 h4 (h1 V A ha) h2 hK hgl
 exact⟨R,W',V',k1,h5 _ _ k2,k3,k4⟩
noncomputable def say0 (v:AV) (args:List AV):Option (Bool×AV):=match args with
 |[]=>some (true,v)
 |_=>none
theorem XG.g {f:Nat} {v:AV} (h:XG P E f [] v) {gl:Nat→Option (List AV)} (hg:E.glob=gl):SaidG P gl (f,say0 v):=by
 subst hg
 intro args w hv V A W ha hK hgl
 simp only[say0] at hv
 split at hv
 · simp only [Option.some.injEq, Prod.mk.injEq] at hv
   obtain⟨_,rfl⟩:=hv
   obtain⟨R,W',h1,h2,h3⟩:=h V A W ha hK hgl
   exact⟨R,W',V,.refl _ _ _,h1,h2,h3⟩
 · cases hv
theorem saids_nil {gl:Nat→Option (List AV)}:∀ e∈([]:List Said),SaidG P gl e:=fun _ h=>by cases h
theorem saids_cons {gl:Nat→Option (List AV)} {x:Said} {L:List Said} (h:SaidG P gl x) (k:∀ e∈L,SaidG P gl e):∀ e∈x::L,SaidG P gl e:=fun e he=>by
 rcases List.mem_cons.1 he with rfl|he
 · exact h
 · exact k e he
theorem xOf_some {L:List Said} {f:Nat} {args:List AV} {r:Bool×AV} (h:xOf L f args=some r):∃ e∈L,e.1=f∧e.2 args=some r:=by
 induction L with
 |nil=>cases h
 |cons x L ih=>
  simp only[xOf] at h
  split at h
  · rename_i e;exact⟨x,List.mem_cons_self,(Nat.eq_of_beq_eq_true e).symm,h⟩
  · obtain⟨e,h1,h2⟩:=ih h;exact⟨e,List.mem_cons_of_mem _ h1,h2⟩
theorem ExtOK.sayL (hX:ExtOK P E) {L:List Said} (h:∀ e∈L,SaidG P E.glob e):ExtOK P (E.say (under (xOf L))):=by
 intro f args v hv V A W ha hK hg
 simp only[Env.say] at hv
 split at hv
 · rename_i w hw
   simp only[Option.some.injEq] at hv;subst hv
   rw[under_iff] at hw
   obtain⟨e,h1,rfl,h3⟩:=xOf_some hw
   exact h e h1 args _ h3 V A W ha hK hg
 · exact hX f args v hv V A W ha hK hg
noncomputable def Sy.on (S:Sy) (L:List Said) (hd:List Nat):Sy:=⟨fun f args=>match xOf L f args with
 |some r=>some r
 |none=>S.x f args,fun f=>hd.any (Nat.beq f),true,[],false,[],[]⟩
theorem Sy.on_ok {S:Sy} {L:List Said} {hd:List Nat} (hS:S.ok E):(S.on L hd).ok (E.say (under (xOf L))):=fun f args v h=>by
 show (match under (xOf L) f args with|some v=>some v|none=>E.ext f args)=some v
 have h0:(match xOf L f args with|some r=>some r|none=>S.x f args)=some (true,v):=h
 cases e:xOf L f args with
 |some r=>
  rw[e] at h0
  have h':under (xOf L) f args=some v:=under_iff.2 (by rw[e];exact h0)
  rw[h']
 |none=>
  rw[e] at h0
  have h':under (xOf L) f args=none:=by unfold under;rw[e]
  rw[h']
  exact hS f args v h0
end
noncomputable def Sy.flat (S:Sy) (l:List Nat):Sy:={ S with fl:=l }
noncomputable def Sy.vars (S:Sy):Sy:={ S with vr:=true }
theorem Sy.flat_ok {E:Env} {S:Sy} {l:List Nat} (h:S.ok E):(S.flat l).ok E:=h
theorem ext_none {E:Env} {f:Nat} {args:List AV} (h:(E.ext f args).isNone=true):E.ext f args=none:=by
 cases e:E.ext f args with
 |none=>rfl
 |some v=>rw[e] at h;cases h
def AnsB (E:Env) (c:Cfg) (b:Bool):Prop:=∃ σ,den E c=some (.bool b,σ,[])
section
variable {E:Env} {S:Sy} (hS:S.ok E) (hsy:E.sy=true)
include hS hsy
theorem AnsB.stop {n:Nat} {c c':Cfg} {b:Bool} (h:adv E S n c=some (.stop c')) (k:AnsB E c' b):AnsB E c b:=by
 obtain⟨σ,k⟩:=k
 exact⟨σ,adv_spec hS hsy h _ k⟩
theorem AnsB.doneB {n:Nat} {c:Cfg} {b b':Bool} (h:adv E S n c=some (.done (.bool b))) (e:b=b'):AnsB E c b':=by
 obtain⟨v0,σ,h1,h2⟩:=adv_spec hS hsy h
 have:=frzV_boolI h2
 subst this;subst e
 exact⟨σ,h1⟩
end
theorem AnsB.call {E:Env} {f m:Nat} {args:List AV} {b:Bool} (hx:E.ext f args=none) (hf:∃ fn b,E.fn f=some fn∧fn.body=some b) (h:AnsB E (startC E f args m) b):∃ σ,callN E (m+1) f args .empty [] []=some (.bool b,σ,[]):=by
 obtain⟨σ,h⟩:=h
 obtain⟨σ',h,_⟩:=startC_spec hx hf h
 exact⟨σ',h⟩
end Go.Eng


set_option maxRecDepth 100000
namespace Go.Proofs.Ytmpaifgmccdipaa
open Go Go.Eng
noncomputable def isS:AV→Bool
 |.str _=>true
 |_=>false
noncomputable def strOf:AV→List Nat
 |.str s=>s
 |_=>[]
noncomputable def strs (l:List AV):List (List Nat):=l.map strOf
theorem strs_flat:∀ {l:List AV},l.all isS=true→flat .str (strs l)=l
 |[],_=>rfl
 |a::l,h=>by
  simp only[List.all_cons,Bool.and_eq_true] at h
  have ih:=strs_flat h.2
  cases a<;>first|(cases h.1;done)|skip
  rename_i s
  show .str s::flat .str (strs l)=_
  rw[ih]
noncomputable def placeX (args:List AV):Option (Bool×AV):=
 match args with
 |[.csl l n,.str s]=>some (l.all isS&&Nat.beq n l.length&&Nat.ble n 1000,.int .i64 (placeF s (strs l) 0))
 |[a,.str s]=>match rdA (.sl .str) a with
  |some (q,d)=>some (q&&Nat.ble d.2.length 1000,.int .i64 (placeF s d.2 0))
  |none=>none
 |_=>none
theorem placeX_spec {args:List AV} {v:AV} (h:placeX args=some (true,v)):∃ args',TellsL args args'∧args'.all (closedA 9)=true∧AnsF E0 87 args' v:=by
 unfold placeX at h
 split at h
 · rename_i l n s
   simp only[Option.some.injEq,Prod.mk.injEq,Bool.and_eq_true] at h
   obtain⟨⟨⟨h1,h2⟩,h3⟩,rfl⟩:=h
   have hn:=Nat.eq_of_beq_eq_true h2
   have hf:=strs_flat h1
   have hlen:(strs l).length=l.length:=by simp[strs]
   have:=Nat.le_of_ble_eq_true h3
   refine⟨[.vs .str false (strs l),.str s],.cons ?_ (.refl _),rfl,place_call (false,strs l) s (by show (strs l).length<_;omega)⟩
   have ht:=Tells.csl (t:=.str) (l:=strs l)
   rw[hf,hlen,← hn] at ht
   exact ht
 · rename_i a s _
   split at h
   · rename_i q d hd
     simp only[Option.some.injEq,Prod.mk.injEq,Bool.and_eq_true] at h
     obtain⟨⟨rfl,h3⟩,rfl⟩:=h
     have:=Nat.le_of_ble_eq_true h3
     exact⟨[.vs .str d.1 d.2,.str s],.cons (rdA_spec _ hd) (.refl _),rfl,place_call d s (by omega)⟩
   · cases h
 · cases h
noncomputable def LA:List Said:=[(98,con1 .str (fun _=>true) (fun s=>.bool (nameS s))),(86,con1 .str (fun _=>true) (fun s=>.bool (nameS s))),(87,placeX)]
theorem LA_ok:∀ e∈LA,SaidG Try.prog E0.glob e:=
 saids_cons (SaidOK.g e0 x0 n0 tabs_ok.mix (fun _ _ h=>con1_spec (t:=.str) (fun s _=>name_call s) h) rfl)
 (saids_cons (SaidOK.g e0 x0 n0 tabs_ok.mix (fun _ _ h=>con1_spec (t:=.str) (fun s _=>rname_call s) h) rfl)
 (saids_cons (SaidOK.g e0 x0 n0 tabs_ok.mix (fun _ _ h=>placeX_spec h) rfl) saids_nil))
noncomputable def F1:Env:=E0.say (under (xOf LA))
theorem f1:EnvOK Try.prog F1:=e0.say _
theorem nf1:NameOK F1:=n0.say _
theorem xf1:ExtOK Try.prog F1:=x0.sayL LA_ok
theorem F1sy:F1.sy=true:=rfl
noncomputable def Z1 (l:List Nat):Sy:=(hdOf []).on LA l
theorem Z1_ok (l:List Nat):(Z1 l).ok F1:=Sy.on_ok (hdOf_ok _)
end Go.Proofs.Ytmpaifgmccdipaa


set_option maxRecDepth 100000
namespace Go.Proofs.Ytmpaifgmccdipaa
open Go Go.Eng
noncomputable def nI (x:tX.den) (i:Nat):tN.den:=x.1.2.1.2.getD i tN.dflt
noncomputable def firV (x:tX.den):tL.den:=((nI x 0).2.2.1,(nI x 1).2.2.1,(nI x 2).2.2.1,())
noncomputable def fulV (x:tX.den):tL.den:=((nI x 0).2.1,(nI x 1).2.1,(nI x 2).2.1,())
noncomputable def lesV (a:Int):Int:=bif ile (wr .i64 (a-1)) 0 then 0 else wr .i64 (a-1)
noncomputable def nexV (l:tL.den):tL.den:=(lesV l.1,lesV l.2.1,lesV l.2.2.1,())
noncomputable def indV (f:tB.den):List Int:=
 (bif f.1 then [0] else [])++((bif f.2.1 then [1] else [])++((bif f.2.2.1 then [2] else [])++((bif f.2.2.2.1 then [3] else [])++((bif f.2.2.2.2.1 then [4] else [])++((bif f.2.2.2.2.2.1 then [5] else [])++((bif f.2.2.2.2.2.2.1 then [6] else [])++(bif f.2.2.2.2.2.2.2.1 then [7] else [])))))))
noncomputable def noI (l:List Int):Bool:=match l with
 |[]=>true
 |_::_=>false
noncomputable def LB:List Said:=[(83,conP1 tX (fun x=>Nat.ble x.1.2.1.2.length 3) (fun x=>tL.av (firV x))),(69,conP1 tX (fun x=>Nat.ble x.1.2.1.2.length 3) (fun x=>tL.av (fulV x))),(84,con1 tL (fun _=>true) (fun l=>tL.av (nexV l))),(55,con1 tB (fun _=>true) (fun f=>.vs tI (noI (indV f)) (indV f)))]
noncomputable def F2:Env:=F1.say (under (xOf LB))
noncomputable def Z2 (l:List Nat):Sy:=(Z1 []).on LB l
end Go.Proofs.Ytmpaifgmccdipaa


set_option maxRecDepth 100000
namespace Go.Proofs.Ytmpaifgmccdipaa
open Go Go.Eng
noncomputable def firI0 (x:tX.den) (x8:Int) (x9:List AV) (x19:Nat):Cfg:=⟨.ex (pcOf F1 83 [0,0,1,0,1]) ⟨(tmOf 22 [(0,(.cp (Ty.cells tX (x)) 0)),(2,(.ptr 0 0)),(5,(.cp (Ty.cells tX (x)) 0)),(6,(.cp (Ty.cells tX (x)) 0)),(7,(.cp (Ty.cells tX (x)) 0)),(8,(.cp (Ty.cells tX (x)) 1)),(9,(.vs tN (x.1.2.1.1) (x.1.2.1.2))),(10,(.int .i64 (Int.ofNat x.1.2.1.2.length))),(11,(.int .i64 x8))]),(hpOf 1 [(0,(.cells false x9))]),[],[],22,false⟩,⟨12,[]⟩,[(.lop (pcOf F1 83 [0,0,1,0,1]) 1 (tmOf 22 [(0,(.cp (Ty.cells tX (x)) 0)),(2,(.ptr 0 0)),(5,(.cp (Ty.cells tX (x)) 0)),(6,(.cp (Ty.cells tX (x)) 0)),(7,(.cp (Ty.cells tX (x)) 0)),(8,(.cp (Ty.cells tX (x)) 1)),(9,(.vs tN (x.1.2.1.1) (x.1.2.1.2))),(10,(.int .i64 (Int.ofNat x.1.2.1.2.length))),(11,(.int .i64 (0)))]) x19),(.blk 0),(.seq (pcOf F1 83 [1,1])),(.cal [(.cell 2 87)] .top)]⟩
theorem fir_start (x:tX.den):adv F1 ((Z1 [83]).flat [0]) 3000 (startC F1 83 [tX.pv x] 12)=some (.stop (firI0 x (0) ([AV.int IntKind.i64 0,AV.int IntKind.i64 0,AV.int IntKind.i64 0]) (1048575))):=by kernel_rfl
noncomputable def fulI0 (x:tX.den) (x8:Int) (x9:List AV) (x19:Nat):Cfg:=⟨.ex (pcOf F1 69 [0,0,1,0,1]) ⟨(tmOf 22 [(0,(.cp (Ty.cells tX (x)) 0)),(2,(.ptr 0 0)),(5,(.cp (Ty.cells tX (x)) 0)),(6,(.cp (Ty.cells tX (x)) 0)),(7,(.cp (Ty.cells tX (x)) 0)),(8,(.cp (Ty.cells tX (x)) 1)),(9,(.vs tN (x.1.2.1.1) (x.1.2.1.2))),(10,(.int .i64 (Int.ofNat x.1.2.1.2.length))),(11,(.int .i64 x8))]),(hpOf 1 [(0,(.cells false x9))]),[],[],22,false⟩,⟨12,[]⟩,[(.lop (pcOf F1 69 [0,0,1,0,1]) 1 (tmOf 22 [(0,(.cp (Ty.cells tX (x)) 0)),(2,(.ptr 0 0)),(5,(.cp (Ty.cells tX (x)) 0)),(6,(.cp (Ty.cells tX (x)) 0)),(7,(.cp (Ty.cells tX (x)) 0)),(8,(.cp (Ty.cells tX (x)) 1)),(9,(.vs tN (x.1.2.1.1) (x.1.2.1.2))),(10,(.int .i64 (Int.ofNat x.1.2.1.2.length))),(11,(.int .i64 (0)))]) x19),(.blk 0),(.seq (pcOf F1 69 [1,1])),(.cal [(.cell 2 87)] .top)]⟩
theorem ful_start (x:tX.den):adv F1 ((Z1 [69]).flat [0]) 3000 (startC F1 69 [tX.pv x] 12)=some (.stop (fulI0 x (0) ([AV.int IntKind.i64 0,AV.int IntKind.i64 0,AV.int IntKind.i64 0]) (1048575))):=by kernel_rfl
theorem nex_start (l:tL.den):adv F1 (Z1 []) 3000 (startC F1 84 [tL.av l] 12)=some (.done (.agg [(.int .i64 (bif ile (wr .i64 (l.1-1)) 0 then 0 else wr .i64 (l.1-1))),(.int .i64 (bif ile (wr .i64 (l.2.1-1)) 0 then 0 else wr .i64 (l.2.1-1))),(.int .i64 (bif ile (wr .i64 (l.2.2.1-1)) 0 then 0 else wr .i64 (l.2.2.1-1)))])):=by kernel_rfl
noncomputable def indI0 (f:tB.den) (x16:Int) (x35:Nat):Cfg:=⟨.ex (pcOf F1 55 [0,0,1,0,1]) ⟨(tmOf 17 [(0,(.agg [(.bool (f.1)),(.bool (f.2.1)),(.bool (f.2.2.1)),(.bool (f.2.2.2.1)),(.bool (f.2.2.2.2.1)),(.bool (f.2.2.2.2.2.1)),(.bool (f.2.2.2.2.2.2.1)),(.bool (f.2.2.2.2.2.2.2.1))])),(1,(.ptr 0 0)),(2,.nils),(5,(.agg [(.bool (f.1)),(.bool (f.2.1)),(.bool (f.2.2.1)),(.bool (f.2.2.2.1)),(.bool (f.2.2.2.2.1)),(.bool (f.2.2.2.2.2.1)),(.bool (f.2.2.2.2.2.2.1)),(.bool (f.2.2.2.2.2.2.2.1))])),(6,(.int .i64 x16))]),(hpOf 1 [(0,(.cells false ([AV.bool f.1,AV.bool f.2.1,AV.bool f.2.2.1,AV.bool f.2.2.2.1,AV.bool f.2.2.2.2.1,AV.bool f.2.2.2.2.2.1,AV.bool f.2.2.2.2.2.2.1,AV.bool f.2.2.2.2.2.2.2.1])))]),[],[],17,false⟩,⟨12,[]⟩,[(.lop (pcOf F1 55 [0,0,1,0,1]) 1 (tmOf 17 [(0,(.agg [(.bool (f.1)),(.bool (f.2.1)),(.bool (f.2.2.1)),(.bool (f.2.2.2.1)),(.bool (f.2.2.2.2.1)),(.bool (f.2.2.2.2.2.1)),(.bool (f.2.2.2.2.2.2.1)),(.bool (f.2.2.2.2.2.2.2.1))])),(1,(.ptr 0 0)),(2,.nils),(5,(.agg [(.bool (f.1)),(.bool (f.2.1)),(.bool (f.2.2.1)),(.bool (f.2.2.2.1)),(.bool (f.2.2.2.2.1)),(.bool (f.2.2.2.2.2.1)),(.bool (f.2.2.2.2.2.2.1)),(.bool (f.2.2.2.2.2.2.2.1))])),(6,(.int .i64 (0)))]) x35),(.blk 0),(.seq (pcOf F1 55 [1,1])),(.cal [(.tmp 2)] .top)]⟩
noncomputable def indI1 (f:tB.den) (x8:Nat) (x18:Int) (x20:List AV) (x38:Nat):Cfg:=⟨.ex (pcOf F1 55 [0,0,1,0,1]) ⟨(tmOf 17 [(0,(.agg [(.bool (f.1)),(.bool (f.2.1)),(.bool (f.2.2.1)),(.bool (f.2.2.2.1)),(.bool (f.2.2.2.2.1)),(.bool (f.2.2.2.2.2.1)),(.bool (f.2.2.2.2.2.2.1)),(.bool (f.2.2.2.2.2.2.2.1))])),(1,(.ptr 0 0)),(2,(.sl 1 0 x8 x8 1)),(5,(.agg [(.bool (f.1)),(.bool (f.2.1)),(.bool (f.2.2.1)),(.bool (f.2.2.2.1)),(.bool (f.2.2.2.2.1)),(.bool (f.2.2.2.2.2.1)),(.bool (f.2.2.2.2.2.2.1)),(.bool (f.2.2.2.2.2.2.2.1))])),(6,(.int .i64 x18))]),(hpOf 2 [(0,(.cells false ([AV.bool f.1,AV.bool f.2.1,AV.bool f.2.2.1,AV.bool f.2.2.2.1,AV.bool f.2.2.2.2.1,AV.bool f.2.2.2.2.2.1,AV.bool f.2.2.2.2.2.2.1,AV.bool f.2.2.2.2.2.2.2.1]))),(1,(.cells false x20))]),[],[],17,false⟩,⟨12,[]⟩,[(.lop (pcOf F1 55 [0,0,1,0,1]) 1 (tmOf 17 [(0,(.agg [(.bool (f.1)),(.bool (f.2.1)),(.bool (f.2.2.1)),(.bool (f.2.2.2.1)),(.bool (f.2.2.2.2.1)),(.bool (f.2.2.2.2.2.1)),(.bool (f.2.2.2.2.2.2.1)),(.bool (f.2.2.2.2.2.2.2.1))])),(1,(.ptr 0 0)),(2,.nils),(5,(.agg [(.bool (f.1)),(.bool (f.2.1)),(.bool (f.2.2.1)),(.bool (f.2.2.2.1)),(.bool (f.2.2.2.2.1)),(.bool (f.2.2.2.2.2.1)),(.bool (f.2.2.2.2.2.2.1)),(.bool (f.2.2.2.2.2.2.2.1))])),(6,(.int .i64 (0)))]) x38),(.blk 0),(.seq (pcOf F1 55 [1,1])),(.cal [(.tmp 2)] .top)]⟩
theorem ind_start (f:tB.den):adv F1 (Z1 [55]) 3000 (startC F1 55 [tB.av f] 12)=some (.stop (indI0 f (0) (1048575))):=by kernel_rfl
theorem ind_step0 (f:tB.den) (x16:Int) (x35:Nat):adv F1 (Z1 [55]) 3000 (indI0 f x16 (x35+1))=(bif !ile 8 x16 then (bif inB x16 8 then (bif isZs [AV.bool f.1,AV.bool f.2.1,AV.bool f.2.2.1,AV.bool f.2.2.2.1,AV.bool f.2.2.2.2.1,AV.bool f.2.2.2.2.2.1,AV.bool f.2.2.2.2.2.2.1,AV.bool f.2.2.2.2.2.2.2.1] [AV.bool false] (x16.toNat * 1) then (bif toB ([AV.bool f.1,AV.bool f.2.1,AV.bool f.2.2.1,AV.bool f.2.2.2.1,AV.bool f.2.2.2.2.1,AV.bool f.2.2.2.2.2.1,AV.bool f.2.2.2.2.2.2.1,AV.bool f.2.2.2.2.2.2.2.1].getD (x16.toNat * 1) AV.nili) then some (.stop (indI1 f (1) (wr .i64 (x16+1)) ([AV.int IntKind.i64 x16]) (x35))) else some (.stop (indI0 f (wr .i64 (x16+1)) (x35)))) else none) else none) else some (.done .nils)):=by kernel_rfl
theorem ind_step1 (f:tB.den) (x8:Nat) (x18:Int) (x20:List AV) (x38:Nat):adv F1 (Z1 [55]) 3000 (indI1 f x8 x18 x20 (x38+1))=(bif !ile 8 x18 then (bif inB x18 8 then (bif isZs [AV.bool f.1,AV.bool f.2.1,AV.bool f.2.2.1,AV.bool f.2.2.2.1,AV.bool f.2.2.2.2.1,AV.bool f.2.2.2.2.2.1,AV.bool f.2.2.2.2.2.2.1,AV.bool f.2.2.2.2.2.2.2.1] [AV.bool false] (x18.toNat * 1) then (bif toB ([AV.bool f.1,AV.bool f.2.1,AV.bool f.2.2.1,AV.bool f.2.2.2.1,AV.bool f.2.2.2.2.1,AV.bool f.2.2.2.2.2.1,AV.bool f.2.2.2.2.2.2.1,AV.bool f.2.2.2.2.2.2.2.1].getD (x18.toNat * 1) AV.nili) then (bif (0+x8 * 1).beq x20.length then (bif x8.ble 1048576 then (bif plO (AO.cells false (x20++[AV.int IntKind.i64 x18])) then some (.stop (indI1 f (x8+1) (wr .i64 (x18+1)) (x20++[AV.int IntKind.i64 x18]) (x38))) else none) else none) else none) else (bif plO (AO.cells false x20) then some (.stop (indI1 f (x8) (wr .i64 (x18+1)) (x20) (x38))) else none)) else none) else none) else (bif plainL x20 then some (.done (.csl (x20) (x8))) else none)):=by kernel_rfl
theorem ile_t {a b:Int} (h:a≤b):ile a b=true:=by rw[ile_iff];exact decide_eq_true h
theorem ile_f {a b:Int} (h:b<a):ile a b=false:=by rw[ile_iff];exact decide_eq_false (by omega)
theorem ile_le {a b:Int} (h:ile a b=true):a≤b:=by rw[ile_iff] at h;exact of_decide_eq_true h
theorem ile_gt {a b:Int} (h:ile a b=false):b<a:=by rw[ile_iff] at h;have:=of_decide_eq_false h;omega
theorem ieq_t {a b:Int} (h:a=b):ieq a b=true:=by subst h;exact ieq_self a
theorem ieq_f {a b:Int} (h:a≠b):ieq a b=false:=by rw[ieq_iff];exact decide_eq_false h
theorem ieq_eq {a b:Int} (h:ieq a b=true):a=b:=by rw[ieq_iff] at h;exact of_decide_eq_true h
theorem flatI_len (l:List Int):(flat tI l).length=l.length:=by
 induction l with
 |nil=>rfl
 |cons a l ih=>show (AV.int .i64 a::flat tI l).length=_;rw[List.length_cons,ih];rfl
theorem flatI_plain (l:List Int):plainL (flat tI l)=true:=by
 induction l with
 |nil=>rfl
 |cons a l ih=>exact ih
theorem flatI_add (l:List Int) (x:Int):flat tI l++[.int .i64 x]=flat tI (l++[x]):=by
 unfold flat;rw[List.flatMap_append];rfl
theorem nI_big {x:tX.den} {j:Nat} (h:x.1.2.1.2.length≤j):nI x j=tN.dflt:=by
 unfold nI;rw[List.getD_eq_getElem?_getD,List.getElem?_eq_none_iff.2 h];rfl
theorem fir_k0 (x:tX.den) (a b c:Int) (m:Nat):adv F1 ((Z1 [83]).flat [0]) 3000 (firI0 x 0 [iI a,iI b,iI c] (m+1))=(bif !ile (Int.ofNat x.1.2.1.2.length) 0 then (bif inB 0 x.1.2.1.2.length then some (.stop (firI0 x 1 [iI (x.1.2.1.2.getD 0 tN.dflt).2.2.1,iI b,iI c] m)) else none) else some (.done (.agg [iI a,iI b,iI c]))):=by kernel_rfl
theorem fir_k1 (x:tX.den) (a b c:Int) (m:Nat):adv F1 ((Z1 [83]).flat [0]) 3000 (firI0 x 1 [iI a,iI b,iI c] (m+1))=(bif !ile (Int.ofNat x.1.2.1.2.length) 1 then (bif inB 1 x.1.2.1.2.length then some (.stop (firI0 x 2 [iI a,iI (x.1.2.1.2.getD 1 tN.dflt).2.2.1,iI c] m)) else none) else some (.done (.agg [iI a,iI b,iI c]))):=by kernel_rfl
theorem fir_k2 (x:tX.den) (a b c:Int) (m:Nat):adv F1 ((Z1 [83]).flat [0]) 3000 (firI0 x 2 [iI a,iI b,iI c] (m+1))=(bif !ile (Int.ofNat x.1.2.1.2.length) 2 then (bif inB 2 x.1.2.1.2.length then some (.stop (firI0 x 3 [iI a,iI b,iI (x.1.2.1.2.getD 2 tN.dflt).2.2.1] m)) else none) else some (.done (.agg [iI a,iI b,iI c]))):=by kernel_rfl
theorem fir_k3 (x:tX.den) (a b c:Int) (m:Nat):adv F1 ((Z1 [83]).flat [0]) 3000 (firI0 x 3 [iI a,iI b,iI c] (m+1))=(bif !ile (Int.ofNat x.1.2.1.2.length) 3 then (bif inB 3 x.1.2.1.2.length then none else none) else some (.done (.agg [iI a,iI b,iI c]))):=by kernel_rfl
theorem fir_call {x:tX.den} (hx:x.1.2.1.2.length≤3):AnsF F1 83 [tX.pv x] (tL.av (firV x)):=by
 refine Ans.call (n:=12) (ext_none (by kernel_rfl)) (hasB_spec (by kernel_rfl)) ?_
 refine .stop (Sy.flat_ok (Z1_ok _)) F1sy (fir_start x) ?_
 have h:=fir_k0 x (0) (0) (0) 1048574
 by_cases c0:0<x.1.2.1.2.length
 rotate_left
 · rw [ile_t (show Int.ofNat x.1.2.1.2.length ≤ 0 by show ((x.1.2.1.2.length : Nat) : Int) ≤ 0; omega), Bool.not_true, cond_false] at h
   refine .done (Sy.flat_ok (Z1_ok _)) F1sy h ?_
   show _=AV.agg [iI (nI x 0).2.2.1,iI (nI x 1).2.2.1,iI (nI x 2).2.2.1]
   rw[nI_big (x:=x) (j:=0) (by omega),nI_big (x:=x) (j:=1) (by omega),nI_big (x:=x) (j:=2) (by omega)]
   rfl
 rw[ile_f (show (0:Int)<Int.ofNat x.1.2.1.2.length by show (0:Int)<((x.1.2.1.2.length:Nat):Int);omega),show inB 0 x.1.2.1.2.length=true from inB_at c0,Bool.not_false,cond_true,cond_true] at h
 refine .stop (Sy.flat_ok (Z1_ok _)) F1sy h ?_
 have h:=fir_k1 x ((x.1.2.1.2.getD 0 tN.dflt).2.2.1) (0) (0) 1048573
 by_cases c1:1<x.1.2.1.2.length
 rotate_left
 · rw [ile_t (show Int.ofNat x.1.2.1.2.length ≤ 1 by show ((x.1.2.1.2.length : Nat) : Int) ≤ 1; omega), Bool.not_true, cond_false] at h
   refine .done (Sy.flat_ok (Z1_ok _)) F1sy h ?_
   show _=AV.agg [iI (nI x 0).2.2.1,iI (nI x 1).2.2.1,iI (nI x 2).2.2.1]
   rw[nI_big (x:=x) (j:=1) (by omega),nI_big (x:=x) (j:=2) (by omega)]
   rfl
 rw[ile_f (show (1:Int)<Int.ofNat x.1.2.1.2.length by show (1:Int)<((x.1.2.1.2.length:Nat):Int);omega),show inB 1 x.1.2.1.2.length=true from inB_at c1,Bool.not_false,cond_true,cond_true] at h
 refine .stop (Sy.flat_ok (Z1_ok _)) F1sy h ?_
 have h:=fir_k2 x ((x.1.2.1.2.getD 0 tN.dflt).2.2.1) ((x.1.2.1.2.getD 1 tN.dflt).2.2.1) (0) 1048572
 by_cases c2:2<x.1.2.1.2.length
 rotate_left
 · rw [ile_t (show Int.ofNat x.1.2.1.2.length ≤ 2 by show ((x.1.2.1.2.length : Nat) : Int) ≤ 2; omega), Bool.not_true, cond_false] at h
   refine .done (Sy.flat_ok (Z1_ok _)) F1sy h ?_
   show _=AV.agg [iI (nI x 0).2.2.1,iI (nI x 1).2.2.1,iI (nI x 2).2.2.1]
   rw[nI_big (x:=x) (j:=2) (by omega)]
   rfl
 rw[ile_f (show (2:Int)<Int.ofNat x.1.2.1.2.length by show (2:Int)<((x.1.2.1.2.length:Nat):Int);omega),show inB 2 x.1.2.1.2.length=true from inB_at c2,Bool.not_false,cond_true,cond_true] at h
 refine .stop (Sy.flat_ok (Z1_ok _)) F1sy h ?_
 have h:=fir_k3 x ((x.1.2.1.2.getD 0 tN.dflt).2.2.1) ((x.1.2.1.2.getD 1 tN.dflt).2.2.1) ((x.1.2.1.2.getD 2 tN.dflt).2.2.1) 1048571
 rw[ile_t (show Int.ofNat x.1.2.1.2.length≤3 by show ((x.1.2.1.2.length:Nat):Int)≤3;omega),Bool.not_true,cond_false] at h
 exact .done (Sy.flat_ok (Z1_ok _)) F1sy h rfl
theorem ful_k0 (x:tX.den) (a b c:Int) (m:Nat):adv F1 ((Z1 [69]).flat [0]) 3000 (fulI0 x 0 [iI a,iI b,iI c] (m+1))=(bif !ile (Int.ofNat x.1.2.1.2.length) 0 then (bif inB 0 x.1.2.1.2.length then some (.stop (fulI0 x 1 [iI (x.1.2.1.2.getD 0 tN.dflt).2.1,iI b,iI c] m)) else none) else some (.done (.agg [iI a,iI b,iI c]))):=by kernel_rfl
theorem ful_k1 (x:tX.den) (a b c:Int) (m:Nat):adv F1 ((Z1 [69]).flat [0]) 3000 (fulI0 x 1 [iI a,iI b,iI c] (m+1))=(bif !ile (Int.ofNat x.1.2.1.2.length) 1 then (bif inB 1 x.1.2.1.2.length then some (.stop (fulI0 x 2 [iI a,iI (x.1.2.1.2.getD 1 tN.dflt).2.1,iI c] m)) else none) else some (.done (.agg [iI a,iI b,iI c]))):=by kernel_rfl
theorem ful_k2 (x:tX.den) (a b c:Int) (m:Nat):adv F1 ((Z1 [69]).flat [0]) 3000 (fulI0 x 2 [iI a,iI b,iI c] (m+1))=(bif !ile (Int.ofNat x.1.2.1.2.length) 2 then (bif inB 2 x.1.2.1.2.length then some (.stop (fulI0 x 3 [iI a,iI b,iI (x.1.2.1.2.getD 2 tN.dflt).2.1] m)) else none) else some (.done (.agg [iI a,iI b,iI c]))):=by kernel_rfl
theorem ful_k3 (x:tX.den) (a b c:Int) (m:Nat):adv F1 ((Z1 [69]).flat [0]) 3000 (fulI0 x 3 [iI a,iI b,iI c] (m+1))=(bif !ile (Int.ofNat x.1.2.1.2.length) 3 then (bif inB 3 x.1.2.1.2.length then none else none) else some (.done (.agg [iI a,iI b,iI c]))):=by kernel_rfl
theorem ful_call {x:tX.den} (hx:x.1.2.1.2.length≤3):AnsF F1 69 [tX.pv x] (tL.av (fulV x)):=by
 refine Ans.call (n:=12) (ext_none (by kernel_rfl)) (hasB_spec (by kernel_rfl)) ?_
 refine .stop (Sy.flat_ok (Z1_ok _)) F1sy (ful_start x) ?_
 have h:=ful_k0 x (0) (0) (0) 1048574
 by_cases c0:0<x.1.2.1.2.length
 rotate_left
 · rw [ile_t (show Int.ofNat x.1.2.1.2.length ≤ 0 by show ((x.1.2.1.2.length : Nat) : Int) ≤ 0; omega), Bool.not_true, cond_false] at h
   refine .done (Sy.flat_ok (Z1_ok _)) F1sy h ?_
   show _=AV.agg [iI (nI x 0).2.1,iI (nI x 1).2.1,iI (nI x 2).2.1]
   rw[nI_big (x:=x) (j:=0) (by omega),nI_big (x:=x) (j:=1) (by omega),nI_big (x:=x) (j:=2) (by omega)]
   rfl
 rw[ile_f (show (0:Int)<Int.ofNat x.1.2.1.2.length by show (0:Int)<((x.1.2.1.2.length:Nat):Int);omega),show inB 0 x.1.2.1.2.length=true from inB_at c0,Bool.not_false,cond_true,cond_true] at h
 refine .stop (Sy.flat_ok (Z1_ok _)) F1sy h ?_
 have h:=ful_k1 x ((x.1.2.1.2.getD 0 tN.dflt).2.1) (0) (0) 1048573
 by_cases c1:1<x.1.2.1.2.length
 rotate_left
 · rw [ile_t (show Int.ofNat x.1.2.1.2.length ≤ 1 by show ((x.1.2.1.2.length : Nat) : Int) ≤ 1; omega), Bool.not_true, cond_false] at h
   refine .done (Sy.flat_ok (Z1_ok _)) F1sy h ?_
   show _=AV.agg [iI (nI x 0).2.1,iI (nI x 1).2.1,iI (nI x 2).2.1]
   rw[nI_big (x:=x) (j:=1) (by omega),nI_big (x:=x) (j:=2) (by omega)]
   rfl
 rw[ile_f (show (1:Int)<Int.ofNat x.1.2.1.2.length by show (1:Int)<((x.1.2.1.2.length:Nat):Int);omega),show inB 1 x.1.2.1.2.length=true from inB_at c1,Bool.not_false,cond_true,cond_true] at h
 refine .stop (Sy.flat_ok (Z1_ok _)) F1sy h ?_
 have h:=ful_k2 x ((x.1.2.1.2.getD 0 tN.dflt).2.1) ((x.1.2.1.2.getD 1 tN.dflt).2.1) (0) 1048572
 by_cases c2:2<x.1.2.1.2.length
 rotate_left
 · rw [ile_t (show Int.ofNat x.1.2.1.2.length ≤ 2 by show ((x.1.2.1.2.length : Nat) : Int) ≤ 2; omega), Bool.not_true, cond_false] at h
   refine .done (Sy.flat_ok (Z1_ok _)) F1sy h ?_
   show _=AV.agg [iI (nI x 0).2.1,iI (nI x 1).2.1,iI (nI x 2).2.1]
   rw[nI_big (x:=x) (j:=2) (by omega)]
   rfl
 rw[ile_f (show (2:Int)<Int.ofNat x.1.2.1.2.length by show (2:Int)<((x.1.2.1.2.length:Nat):Int);omega),show inB 2 x.1.2.1.2.length=true from inB_at c2,Bool.not_false,cond_true,cond_true] at h
 refine .stop (Sy.flat_ok (Z1_ok _)) F1sy h ?_
 have h:=ful_k3 x ((x.1.2.1.2.getD 0 tN.dflt).2.1) ((x.1.2.1.2.getD 1 tN.dflt).2.1) ((x.1.2.1.2.getD 2 tN.dflt).2.1) 1048571
 rw[ile_t (show Int.ofNat x.1.2.1.2.length≤3 by show ((x.1.2.1.2.length:Nat):Int)≤3;omega),Bool.not_true,cond_false] at h
 exact .done (Sy.flat_ok (Z1_ok _)) F1sy h rfl
theorem nex_call (l:tL.den):AnsF F1 84 [tL.av l] (tL.av (nexV l)):=by
 refine Ans.call (n:=12) (ext_none (by kernel_rfl)) (hasB_spec (by kernel_rfl)) ?_
 exact .done (Z1_ok _) F1sy (nex_start l) rfl
noncomputable abbrev flL (f:tB.den):List AV:=[AV.bool f.1,AV.bool f.2.1,AV.bool f.2.2.1,AV.bool f.2.2.2.1,AV.bool f.2.2.2.2.1,AV.bool f.2.2.2.2.2.1,AV.bool f.2.2.2.2.2.2.1,AV.bool f.2.2.2.2.2.2.2.1]
noncomputable def flB (f:tB.den) (k:Nat):Bool:=toB ((flL f).getD k .nili)
theorem fl_is (f:tB.den):∀ {k:Nat},k<8→isZs (flL f) [AV.bool false] k=true
 |0,_=>rfl|1,_=>rfl|2,_=>rfl|3,_=>rfl|4,_=>rfl|5,_=>rfl|6,_=>rfl|7,_=>rfl
 |k+8,h=>by omega
noncomputable def indK (f:tB.den):Nat→List Int
 |0=>[]
 |k+1=>indK f k++(bif flB f k then [(k:Int)] else [])
theorem indK8 (f:tB.den):indK f 8=indV f:=by
 show (((((((([]++_)++_)++_)++_)++_)++_)++_)++_)=_
 simp only[List.nil_append,List.append_assoc]
 rfl
theorem indK_len (f:tB.den):∀ k,(indK f k).length≤k
 |0=>Nat.le_refl _
 |k+1=>by
  have:=indK_len f k
  show (indK f k++_).length≤_
  rw[List.length_append]
  cases flB f k<;>simp<;>omega
theorem ind_ansB {f:tB.den}:∀ (r k m:Nat),k+r=8→r<m→indK f k≠[]→Ans F1 (indI1 f (indK f k).length k (flat tI (indK f k)) m) (.vs tI (noI (indV f)) (indV f))
 |0,k,m+1,hk,hm,hn=>by
  have hk8:k=8:=by omega
  subst hk8
  have h:=ind_step1 f (indK f 8).length (8:Nat) (flat tI (indK f 8)) m
  rw[show ile 8 ((8:Nat):Int)=true from rfl,Bool.not_true,cond_false,flatI_plain,cond_true] at h
  rw[← indK8]
  refine .doneT (Z1_ok _) F1sy h ?_
  cases e:indK f 8 with
  |nil=>exact absurd e hn
  |cons a l=>exact Tells.csl
 | r + 1, k, m + 1, hk, hm, hn => by
  have h:=ind_step1 f (indK f k).length k (flat tI (indK f k)) m
  have hlt:k<8:=by omega
  have hl:=indK_len f k
  rw[ile_f (show (k:Int)<8 by omega),inB_at hlt,show ((k:Nat):Int).toNat * 1=k by simp,Nat.mul_one,Nat.zero_add,flatI_len,wr_succ (by omega),Nat.ble_eq_true_of_le (show (indK f k).length≤1048576 by omega),show (indK f k).length.beq (indK f k).length=true from Nat.beq_refl _] at h
  simp only[Bool.not_false,cond_true] at h
  rw[fl_is f hlt,cond_true,show toB ((flL f).getD k AV.nili)=flB f k from rfl] at h
  have e:indK f (k+1)=indK f k++(bif flB f k then [(k:Int)] else []):=rfl
  cases c:flB f k with
  |true=>
   rw[c,cond_true] at h e
   rw[flatI_add,← e,show plO (AO.cells false (flat tI (indK f (k+1))))=true from flatI_plain _,cond_true,show (indK f k).length+1=(indK f (k+1)).length by rw[e,List.length_append];rfl] at h
   exact .stop (Z1_ok _) F1sy h (ind_ansB r (k+1) m (by omega) (by omega) (by rw[e];simp))
  |false=>
   rw[c,cond_false] at h
   rw[c,cond_false,List.append_nil] at e
   rw[show plO (AO.cells false (flat tI (indK f k)))=true from flatI_plain _,cond_true] at h
   have h2:=ind_ansB (f:=f) r (k+1) m (by omega) (by omega) (by rw[e];exact hn)
   rw[e] at h2
   exact .stop (Z1_ok _) F1sy h h2
theorem ind_ansA {f:tB.den}:∀ (r k m:Nat),k+r=8→r<m→indK f k=[]→Ans F1 (indI0 f k m) (.vs tI (noI (indV f)) (indV f))
 |0,k,m+1,hk,hm,hn=>by
  have hk8:k=8:=by omega
  subst hk8
  have h:=ind_step0 f (8:Nat) m
  rw[show ile 8 ((8:Nat):Int)=true from rfl,Bool.not_true,cond_false] at h
  rw[← indK8,hn]
  exact .doneT (Z1_ok _) F1sy h Tells.nils
 | r + 1, k, m + 1, hk, hm, hn => by
  have h:=ind_step0 f k m
  have hlt:k<8:=by omega
  rw[ile_f (show (k:Int)<8 by omega),inB_at hlt,show ((k:Nat):Int).toNat * 1=k by simp,wr_succ (by omega)] at h
  simp only[Bool.not_false,cond_true] at h
  rw[fl_is f hlt,cond_true,show toB ((flL f).getD k AV.nili)=flB f k from rfl] at h
  have e:indK f (k+1)=indK f k++(bif flB f k then [(k:Int)] else []):=rfl
  rw[hn,List.nil_append] at e
  cases c:flB f k with
  |true=>
   rw[c,cond_true] at h e
   have h2:=ind_ansB (f:=f) r (k+1) m (by omega) (by omega) (by rw[e];simp)
   rw[e] at h2
   exact .stop (Z1_ok _) F1sy h h2
  |false=>
   rw[c,cond_false] at h e
   exact .stop (Z1_ok _) F1sy h (ind_ansA r (k+1) m (by omega) (by omega) e)
theorem ind_call (f:tB.den):AnsF F1 55 [tB.av f] (.vs tI (noI (indV f)) (indV f)):=by
 refine Ans.call (n:=12) (ext_none (by kernel_rfl)) (hasB_spec (by kernel_rfl)) ?_
 exact .stop (Z1_ok _) F1sy (ind_start f) (ind_ansA 8 0 1048575 rfl (by omega) rfl)
theorem LB_ok:∀ e∈LB,SaidG Try.prog F1.glob e:=
 saids_cons (SaidOK.g f1 xf1 nf1 tabs_ok.mix (fun _ _ h=>conP1_spec (t:=tX) (fun x c=>fir_call (Nat.le_of_ble_eq_true c)) h) rfl)
 (saids_cons (SaidOK.g f1 xf1 nf1 tabs_ok.mix (fun _ _ h=>conP1_spec (t:=tX) (fun x c=>ful_call (Nat.le_of_ble_eq_true c)) h) rfl)
 (saids_cons (SaidOK.g f1 xf1 nf1 tabs_ok.mix (fun _ _ h=>con1_spec (t:=tL) (fun l _=>nex_call l) h) rfl)
 (saids_cons (SaidOK.g f1 xf1 nf1 tabs_ok.mix (fun _ _ h=>con1_spec (t:=tB) (fun f _=>ind_call f) h) rfl) saids_nil)))
theorem f2:EnvOK Try.prog F2:=f1.say _
theorem nf2:NameOK F2:=nf1.say _
theorem xf2:ExtOK Try.prog F2:=xf1.sayL LB_ok
theorem F2sy:F2.sy=true:=rfl
theorem Z2_ok (l:List Nat):(Z2 l).ok F2:=Sy.on_ok (Z1_ok _)
end Go.Proofs.Ytmpaifgmccdipaa


set_option maxRecDepth 100000
namespace Go.Proofs.Ytmpaifgmccdipaa
open Go Go.Eng
noncomputable def breI0 (x:tX.den) (f:tB.den) (x0:Int) (x14:Int) (x21:List AV) (x56:Nat):Cfg:=⟨.ex (pcOf F2 82 [0,0,1,1]) ⟨(tmOf 76 [(0,(.yld 6)),(1,(.ptr 4 0)),(2,(.ptr 5 0)),(4,(.ptr 7 0)),(5,(.ptr 8 0)),(6,(.int .i64 x0)),(10,(.cp (Ty.cells tX (x)) 0)),(11,(.agg [(.int .i64 ((firV x).1)),(.int .i64 ((firV x).2.1)),(.int .i64 ((firV x).2.2.1))])),(12,(.cp (Ty.cells tX (x)) 0)),(13,(.agg [(.int .i64 ((fulV x).1)),(.int .i64 ((fulV x).2.1)),(.int .i64 ((fulV x).2.2.1))])),(14,(.cp (Ty.cells tX (x)) 0)),(15,(.cp (Ty.cells tX (x)) 0)),(16,(.cp (Ty.cells tX (x)) 0)),(17,(.cp (Ty.cells tX (x)) 0)),(18,(.int .i64 (x.1.1))),(19,(.int .i64 x14))]),(hpOf 9 [(0,(.cells false [(.cp (Ty.cells tX (x)) 0)])),(1,(.cells false ([AV.bool f.1,AV.bool f.2.1,AV.bool f.2.2.1,AV.bool f.2.2.2.1,AV.bool f.2.2.2.2.1,AV.bool f.2.2.2.2.2.1,AV.bool f.2.2.2.2.2.2.1,AV.bool f.2.2.2.2.2.2.2.1]))),(2,(.cells false ([AV.nils,AV.int IntKind.i64 0,AV.int IntKind.i64 0]))),(3,(.cells false [(.bool (false))])),(4,(.cells false [(.cp (Ty.cells tX (x)) 0)])),(5,(.cells false ([AV.bool f.1,AV.bool f.2.1,AV.bool f.2.2.1,AV.bool f.2.2.2.1,AV.bool f.2.2.2.2.1,AV.bool f.2.2.2.2.2.1,AV.bool f.2.2.2.2.2.2.1,AV.bool f.2.2.2.2.2.2.2.1]))),(7,(.cells false x21)),(8,(.cells false ([AV.int IntKind.i64 (fulV x).1,AV.int IntKind.i64 (fulV x).2.1,AV.int IntKind.i64 (fulV x).2.2.1])))]),[],[⟨false,.normal⟩],76,false⟩,⟨19,[⟨6,30,20,(tmOf 30 [(0,(.cp (Ty.cells tX (x)) 0)),(1,(.agg [(.bool (f.1)),(.bool (f.2.1)),(.bool (f.2.2.1)),(.bool (f.2.2.2.1)),(.bool (f.2.2.2.2.1)),(.bool (f.2.2.2.2.2.1)),(.bool (f.2.2.2.2.2.2.1)),(.bool (f.2.2.2.2.2.2.2.1))])),(2,(.ptr 0 0)),(3,(.ptr 1 0)),(4,(.ptr 2 0)),(5,(.ptr 3 0)),(9,(.cp (Ty.cells tX (x)) 0)),(10,(.agg [(.bool (f.1)),(.bool (f.2.1)),(.bool (f.2.2.1)),(.bool (f.2.2.2.1)),(.bool (f.2.2.2.2.1)),(.bool (f.2.2.2.2.2.1)),(.bool (f.2.2.2.2.2.2.1)),(.bool (f.2.2.2.2.2.2.2.1))])),(11,(.fn 82 [] [(.ptr 4 0),(.ptr 5 0)]))]),#[12,13],(pcOf F2 31 [0,0,1,0,1]),(pcOf F2 31 [1,0,1,0,1])⟩]⟩,[(.lop (pcOf F2 82 [0,0,1,1]) 9 (tmOf 76 [(0,(.yld 6)),(1,(.ptr 4 0)),(2,(.ptr 5 0)),(4,(.ptr 7 0)),(5,(.ptr 8 0)),(6,(.int .i64 (0))),(10,(.cp (Ty.cells tX (x)) 0)),(11,(.agg [(.int .i64 ((firV x).1)),(.int .i64 ((firV x).2.1)),(.int .i64 ((firV x).2.2.1))])),(12,(.cp (Ty.cells tX (x)) 0)),(13,(.agg [(.int .i64 ((fulV x).1)),(.int .i64 ((fulV x).2.1)),(.int .i64 ((fulV x).2.2.1))])),(14,(.cp (Ty.cells tX (x)) 0)),(15,(.cp (Ty.cells tX (x)) 0)),(16,(.cp (Ty.cells tX (x)) 0)),(17,(.cp (Ty.cells tX (x)) 0)),(18,(.int .i64 (x.1.1))),(19,(.int .i64 (0)))]) x56),(.blk 0),(.cal [] (.rng (tmOf 30 [(0,(.cp (Ty.cells tX (x)) 0)),(1,(.agg [(.bool (f.1)),(.bool (f.2.1)),(.bool (f.2.2.1)),(.bool (f.2.2.2.1)),(.bool (f.2.2.2.2.1)),(.bool (f.2.2.2.2.2.1)),(.bool (f.2.2.2.2.2.2.1)),(.bool (f.2.2.2.2.2.2.2.1))])),(2,(.ptr 0 0)),(3,(.ptr 1 0)),(4,(.ptr 2 0)),(5,(.ptr 3 0)),(9,(.cp (Ty.cells tX (x)) 0)),(10,(.agg [(.bool (f.1)),(.bool (f.2.1)),(.bool (f.2.2.1)),(.bool (f.2.2.2.1)),(.bool (f.2.2.2.2.1)),(.bool (f.2.2.2.2.2.1)),(.bool (f.2.2.2.2.2.2.1)),(.bool (f.2.2.2.2.2.2.2.1))])),(11,(.fn 82 [] [(.ptr 4 0),(.ptr 5 0)]))]) [] 30 false ⟨20,[]⟩)),(.blk 0),(.seq (pcOf F2 31 [1,1])),(.cal [(.cell 4 47),(.cell 5 4)] .top)]⟩
noncomputable def breI2 (x:tX.den) (f:tB.den) (x0:Int) (x1:Int) (x27:Bool) (x35:Int) (x36:Bool) (x37:List (Ty.den tI)) (x43:Bool) (x46:Nat) (x47:Bool) (x63:Int) (x64:Int) (x71:List AV) (x156:Nat) (x172:Nat):Cfg:=⟨.ex (pcOf F2 82 [0,0,1,0,1,0,0,1,0,1,1,0,0,1,1,0,0,1,1]) ⟨(tmOf 76 [(0,(.yld 6)),(1,(.ptr 4 0)),(2,(.ptr 5 0)),(4,(.ptr 7 0)),(5,(.ptr 8 0)),(6,(.int .i64 x0)),(7,(.int .i64 x1)),(10,(.cp (Ty.cells tX (x)) 0)),(11,(.agg [(.int .i64 ((firV x).1)),(.int .i64 ((firV x).2.1)),(.int .i64 ((firV x).2.2.1))])),(12,(.cp (Ty.cells tX (x)) 0)),(13,(.agg [(.int .i64 ((fulV x).1)),(.int .i64 ((fulV x).2.1)),(.int .i64 ((fulV x).2.2.1))])),(14,(.cp (Ty.cells tX (x)) 0)),(15,(.cp (Ty.cells tX (x)) 0)),(16,(.cp (Ty.cells tX (x)) 0)),(17,(.cp (Ty.cells tX (x)) 0)),(18,(.int .i64 (x.1.1))),(19,(.int .i64 x1)),(20,(.bool (true))),(21,(.int .i64 x1)),(22,(.int .i64 x1)),(23,(.bool (false))),(26,(.int .i64 x0)),(27,(.cp (Ty.cells tX (x)) 0)),(28,(.cp (Ty.cells tX (x)) 0)),(29,(.cp (Ty.cells tX (x)) 6)),(30,(.vs tO (x.2.1.1) (x.2.1.2))),(31,(.int .i64 (Int.ofNat x.2.1.2.length))),(32,(.bool x27)),(33,(.bool (true))),(34,(.cp (Ty.cells tX (x)) 0)),(35,(.cp (Ty.cells tX (x)) 0)),(36,(.cp (Ty.cells tX (x)) 6)),(37,(.vs tO (x.2.1.1) (x.2.1.2))),(38,(.int .i64 x0)),(39,(.cp [(.int .i64 x35),(.vs tI x36 x37)] 0)),(40,(.cp [(.int .i64 x35),(.vs tI x36 x37)] 0)),(41,(.int .i64 x35)),(42,(.int .i64 x1)),(43,(.bool x43)),(44,(.bool (true))),(45,(.int .i64 x0)),(46,(.ptr 5 x46)),(47,(.bool x47)),(48,(.bool (true))),(49,(.cp (Ty.cells tX (x)) 0)),(50,(.cp (Ty.cells tX (x)) 0)),(51,(.cp (Ty.cells tX (x)) 6)),(52,(.vs tO (x.2.1.1) (x.2.1.2))),(53,(.int .i64 x0)),(54,(.cp [(.int .i64 x35),(.vs tI x36 x37)] 0)),(55,(.cp [(.int .i64 x35),(.vs tI x36 x37)] 1)),(56,(.vs tI x36 x37)),(57,(.int .i64 x63)),(58,(.int .i64 x64))]),(hpOf 9 [(0,(.cells false [(.cp (Ty.cells tX (x)) 0)])),(1,(.cells false ([AV.bool f.1,AV.bool f.2.1,AV.bool f.2.2.1,AV.bool f.2.2.2.1,AV.bool f.2.2.2.2.1,AV.bool f.2.2.2.2.2.1,AV.bool f.2.2.2.2.2.2.1,AV.bool f.2.2.2.2.2.2.2.1]))),(2,(.cells false ([AV.nils,AV.int IntKind.i64 0,AV.int IntKind.i64 0]))),(3,(.cells false [(.bool (false))])),(4,(.cells false [(.cp (Ty.cells tX (x)) 0)])),(5,(.cells false ([AV.bool f.1,AV.bool f.2.1,AV.bool f.2.2.1,AV.bool f.2.2.2.1,AV.bool f.2.2.2.2.1,AV.bool f.2.2.2.2.2.1,AV.bool f.2.2.2.2.2.2.1,AV.bool f.2.2.2.2.2.2.2.1]))),(7,(.cells false x71)),(8,(.cells false ([AV.int IntKind.i64 (fulV x).1,AV.int IntKind.i64 (fulV x).2.1,AV.int IntKind.i64 (fulV x).2.2.1])))]),[],[⟨false,.normal⟩],76,false⟩,⟨19,[⟨6,30,20,(tmOf 30 [(0,(.cp (Ty.cells tX (x)) 0)),(1,(.agg [(.bool (f.1)),(.bool (f.2.1)),(.bool (f.2.2.1)),(.bool (f.2.2.2.1)),(.bool (f.2.2.2.2.1)),(.bool (f.2.2.2.2.2.1)),(.bool (f.2.2.2.2.2.2.1)),(.bool (f.2.2.2.2.2.2.2.1))])),(2,(.ptr 0 0)),(3,(.ptr 1 0)),(4,(.ptr 2 0)),(5,(.ptr 3 0)),(9,(.cp (Ty.cells tX (x)) 0)),(10,(.agg [(.bool (f.1)),(.bool (f.2.1)),(.bool (f.2.2.1)),(.bool (f.2.2.2.1)),(.bool (f.2.2.2.2.1)),(.bool (f.2.2.2.2.2.1)),(.bool (f.2.2.2.2.2.2.1)),(.bool (f.2.2.2.2.2.2.2.1))])),(11,(.fn 82 [] [(.ptr 4 0),(.ptr 5 0)]))]),#[12,13],(pcOf F2 31 [0,0,1,0,1]),(pcOf F2 31 [1,0,1,0,1])⟩]⟩,[(.lop (pcOf F2 82 [0,0,1,0,1,0,0,1,0,1,1,0,0,1,1,0,0,1,1]) 9 (tmOf 76 [(0,(.yld 6)),(1,(.ptr 4 0)),(2,(.ptr 5 0)),(4,(.ptr 7 0)),(5,(.ptr 8 0)),(6,(.int .i64 x0)),(7,(.int .i64 x1)),(10,(.cp (Ty.cells tX (x)) 0)),(11,(.agg [(.int .i64 ((firV x).1)),(.int .i64 ((firV x).2.1)),(.int .i64 ((firV x).2.2.1))])),(12,(.cp (Ty.cells tX (x)) 0)),(13,(.agg [(.int .i64 ((fulV x).1)),(.int .i64 ((fulV x).2.1)),(.int .i64 ((fulV x).2.2.1))])),(14,(.cp (Ty.cells tX (x)) 0)),(15,(.cp (Ty.cells tX (x)) 0)),(16,(.cp (Ty.cells tX (x)) 0)),(17,(.cp (Ty.cells tX (x)) 0)),(18,(.int .i64 (x.1.1))),(19,(.int .i64 x1)),(20,(.bool (true))),(21,(.int .i64 x1)),(22,(.int .i64 x1)),(23,(.bool (false))),(26,(.int .i64 x0)),(27,(.cp (Ty.cells tX (x)) 0)),(28,(.cp (Ty.cells tX (x)) 0)),(29,(.cp (Ty.cells tX (x)) 6)),(30,(.vs tO (x.2.1.1) (x.2.1.2))),(31,(.int .i64 (Int.ofNat x.2.1.2.length))),(32,(.bool x27)),(33,(.bool (true))),(34,(.cp (Ty.cells tX (x)) 0)),(35,(.cp (Ty.cells tX (x)) 0)),(36,(.cp (Ty.cells tX (x)) 6)),(37,(.vs tO (x.2.1.1) (x.2.1.2))),(38,(.int .i64 x0)),(39,(.cp [(.int .i64 x35),(.vs tI x36 x37)] 0)),(40,(.cp [(.int .i64 x35),(.vs tI x36 x37)] 0)),(41,(.int .i64 x35)),(42,(.int .i64 x1)),(43,(.bool x43)),(44,(.bool (true))),(45,(.int .i64 x0)),(46,(.ptr 5 x46)),(47,(.bool x47)),(48,(.bool (true))),(49,(.cp (Ty.cells tX (x)) 0)),(50,(.cp (Ty.cells tX (x)) 0)),(51,(.cp (Ty.cells tX (x)) 6)),(52,(.vs tO (x.2.1.1) (x.2.1.2))),(53,(.int .i64 x0)),(54,(.cp [(.int .i64 x35),(.vs tI x36 x37)] 0)),(55,(.cp [(.int .i64 x35),(.vs tI x36 x37)] 1)),(56,(.vs tI x36 x37)),(57,(.int .i64 x63)),(58,(.int .i64 (0)))]) x156),(.blk 2),(.seq (pcOf F2 82 [1,0,1,0,1,1,0,0,1,1,0,0,1,1])),(.seq (pcOf F2 82 [1,1,1,0,0,1,1,0,0,1,1])),(.blk 1),(.seq (pcOf F2 82 [1,1,1,0,0,1,1])),(.lop (pcOf F2 82 [0,0,1,1]) 9 (tmOf 76 [(0,(.yld 6)),(1,(.ptr 4 0)),(2,(.ptr 5 0)),(4,(.ptr 7 0)),(5,(.ptr 8 0)),(6,(.int .i64 (0))),(10,(.cp (Ty.cells tX (x)) 0)),(11,(.agg [(.int .i64 ((firV x).1)),(.int .i64 ((firV x).2.1)),(.int .i64 ((firV x).2.2.1))])),(12,(.cp (Ty.cells tX (x)) 0)),(13,(.agg [(.int .i64 ((fulV x).1)),(.int .i64 ((fulV x).2.1)),(.int .i64 ((fulV x).2.2.1))])),(14,(.cp (Ty.cells tX (x)) 0)),(15,(.cp (Ty.cells tX (x)) 0)),(16,(.cp (Ty.cells tX (x)) 0)),(17,(.cp (Ty.cells tX (x)) 0)),(18,(.int .i64 (x.1.1))),(19,(.int .i64 (0)))]) x172),(.blk 0),(.cal [] (.rng (tmOf 30 [(0,(.cp (Ty.cells tX (x)) 0)),(1,(.agg [(.bool (f.1)),(.bool (f.2.1)),(.bool (f.2.2.1)),(.bool (f.2.2.2.1)),(.bool (f.2.2.2.2.1)),(.bool (f.2.2.2.2.2.1)),(.bool (f.2.2.2.2.2.2.1)),(.bool (f.2.2.2.2.2.2.2.1))])),(2,(.ptr 0 0)),(3,(.ptr 1 0)),(4,(.ptr 2 0)),(5,(.ptr 3 0)),(9,(.cp (Ty.cells tX (x)) 0)),(10,(.agg [(.bool (f.1)),(.bool (f.2.1)),(.bool (f.2.2.1)),(.bool (f.2.2.2.1)),(.bool (f.2.2.2.2.1)),(.bool (f.2.2.2.2.2.1)),(.bool (f.2.2.2.2.2.2.1)),(.bool (f.2.2.2.2.2.2.2.1))])),(11,(.fn 82 [] [(.ptr 4 0),(.ptr 5 0)]))]) [] 30 false ⟨20,[]⟩)),(.blk 0),(.seq (pcOf F2 31 [1,1])),(.cal [(.cell 4 47),(.cell 5 4)] .top)]⟩
noncomputable def breI3 (x:tX.den) (f:tB.den) (x0:Int) (x1:Int) (x20:Int) (x21:Int) (x22:Int) (x23:Int) (x24:Int) (x25:Int) (x33:Bool) (x41:Int) (x42:Bool) (x43:List (Ty.den tI)) (x49:Bool) (x52:Nat) (x53:Bool) (x69:Int) (x70:Int) (x77:List AV) (x168:Nat) (x184:Nat):Cfg:=⟨.ex (pcOf F2 82 [0,0,1,0,1,0,0,1,0,1,1,0,0,1,1,0,0,1,1]) ⟨(tmOf 76 [(0,(.yld 6)),(1,(.ptr 4 0)),(2,(.ptr 5 0)),(4,(.ptr 7 0)),(5,(.ptr 8 0)),(6,(.int .i64 x0)),(7,(.int .i64 x1)),(10,(.cp (Ty.cells tX (x)) 0)),(11,(.agg [(.int .i64 ((firV x).1)),(.int .i64 ((firV x).2.1)),(.int .i64 ((firV x).2.2.1))])),(12,(.cp (Ty.cells tX (x)) 0)),(13,(.agg [(.int .i64 ((fulV x).1)),(.int .i64 ((fulV x).2.1)),(.int .i64 ((fulV x).2.2.1))])),(14,(.cp (Ty.cells tX (x)) 0)),(15,(.cp (Ty.cells tX (x)) 0)),(16,(.cp (Ty.cells tX (x)) 0)),(17,(.cp (Ty.cells tX (x)) 0)),(18,(.int .i64 (x.1.1))),(19,(.int .i64 x1)),(20,(.bool (true))),(21,(.int .i64 x1)),(22,(.int .i64 x1)),(23,(.bool (true))),(24,(.agg [(.int .i64 x20),(.int .i64 x21),(.int .i64 x22)])),(25,(.agg [(.int .i64 x23),(.int .i64 x24),(.int .i64 x25)])),(26,(.int .i64 x0)),(27,(.cp (Ty.cells tX (x)) 0)),(28,(.cp (Ty.cells tX (x)) 0)),(29,(.cp (Ty.cells tX (x)) 6)),(30,(.vs tO (x.2.1.1) (x.2.1.2))),(31,(.int .i64 (Int.ofNat x.2.1.2.length))),(32,(.bool x33)),(33,(.bool (true))),(34,(.cp (Ty.cells tX (x)) 0)),(35,(.cp (Ty.cells tX (x)) 0)),(36,(.cp (Ty.cells tX (x)) 6)),(37,(.vs tO (x.2.1.1) (x.2.1.2))),(38,(.int .i64 x0)),(39,(.cp [(.int .i64 x41),(.vs tI x42 x43)] 0)),(40,(.cp [(.int .i64 x41),(.vs tI x42 x43)] 0)),(41,(.int .i64 x41)),(42,(.int .i64 x1)),(43,(.bool x49)),(44,(.bool (true))),(45,(.int .i64 x0)),(46,(.ptr 5 x52)),(47,(.bool x53)),(48,(.bool (true))),(49,(.cp (Ty.cells tX (x)) 0)),(50,(.cp (Ty.cells tX (x)) 0)),(51,(.cp (Ty.cells tX (x)) 6)),(52,(.vs tO (x.2.1.1) (x.2.1.2))),(53,(.int .i64 x0)),(54,(.cp [(.int .i64 x41),(.vs tI x42 x43)] 0)),(55,(.cp [(.int .i64 x41),(.vs tI x42 x43)] 1)),(56,(.vs tI x42 x43)),(57,(.int .i64 x69)),(58,(.int .i64 x70))]),(hpOf 9 [(0,(.cells false [(.cp (Ty.cells tX (x)) 0)])),(1,(.cells false ([AV.bool f.1,AV.bool f.2.1,AV.bool f.2.2.1,AV.bool f.2.2.2.1,AV.bool f.2.2.2.2.1,AV.bool f.2.2.2.2.2.1,AV.bool f.2.2.2.2.2.2.1,AV.bool f.2.2.2.2.2.2.2.1]))),(2,(.cells false ([AV.nils,AV.int IntKind.i64 0,AV.int IntKind.i64 0]))),(3,(.cells false [(.bool (false))])),(4,(.cells false [(.cp (Ty.cells tX (x)) 0)])),(5,(.cells false ([AV.bool f.1,AV.bool f.2.1,AV.bool f.2.2.1,AV.bool f.2.2.2.1,AV.bool f.2.2.2.2.1,AV.bool f.2.2.2.2.2.1,AV.bool f.2.2.2.2.2.2.1,AV.bool f.2.2.2.2.2.2.2.1]))),(7,(.cells false x77)),(8,(.cells false ([AV.int IntKind.i64 (fulV x).1,AV.int IntKind.i64 (fulV x).2.1,AV.int IntKind.i64 (fulV x).2.2.1])))]),[],[⟨false,.normal⟩],76,false⟩,⟨19,[⟨6,30,20,(tmOf 30 [(0,(.cp (Ty.cells tX (x)) 0)),(1,(.agg [(.bool (f.1)),(.bool (f.2.1)),(.bool (f.2.2.1)),(.bool (f.2.2.2.1)),(.bool (f.2.2.2.2.1)),(.bool (f.2.2.2.2.2.1)),(.bool (f.2.2.2.2.2.2.1)),(.bool (f.2.2.2.2.2.2.2.1))])),(2,(.ptr 0 0)),(3,(.ptr 1 0)),(4,(.ptr 2 0)),(5,(.ptr 3 0)),(9,(.cp (Ty.cells tX (x)) 0)),(10,(.agg [(.bool (f.1)),(.bool (f.2.1)),(.bool (f.2.2.1)),(.bool (f.2.2.2.1)),(.bool (f.2.2.2.2.1)),(.bool (f.2.2.2.2.2.1)),(.bool (f.2.2.2.2.2.2.1)),(.bool (f.2.2.2.2.2.2.2.1))])),(11,(.fn 82 [] [(.ptr 4 0),(.ptr 5 0)]))]),#[12,13],(pcOf F2 31 [0,0,1,0,1]),(pcOf F2 31 [1,0,1,0,1])⟩]⟩,[(.lop (pcOf F2 82 [0,0,1,0,1,0,0,1,0,1,1,0,0,1,1,0,0,1,1]) 9 (tmOf 76 [(0,(.yld 6)),(1,(.ptr 4 0)),(2,(.ptr 5 0)),(4,(.ptr 7 0)),(5,(.ptr 8 0)),(6,(.int .i64 x0)),(7,(.int .i64 x1)),(10,(.cp (Ty.cells tX (x)) 0)),(11,(.agg [(.int .i64 ((firV x).1)),(.int .i64 ((firV x).2.1)),(.int .i64 ((firV x).2.2.1))])),(12,(.cp (Ty.cells tX (x)) 0)),(13,(.agg [(.int .i64 ((fulV x).1)),(.int .i64 ((fulV x).2.1)),(.int .i64 ((fulV x).2.2.1))])),(14,(.cp (Ty.cells tX (x)) 0)),(15,(.cp (Ty.cells tX (x)) 0)),(16,(.cp (Ty.cells tX (x)) 0)),(17,(.cp (Ty.cells tX (x)) 0)),(18,(.int .i64 (x.1.1))),(19,(.int .i64 x1)),(20,(.bool (true))),(21,(.int .i64 x1)),(22,(.int .i64 x1)),(23,(.bool (true))),(24,(.agg [(.int .i64 x20),(.int .i64 x21),(.int .i64 x22)])),(25,(.agg [(.int .i64 x23),(.int .i64 x24),(.int .i64 x25)])),(26,(.int .i64 x0)),(27,(.cp (Ty.cells tX (x)) 0)),(28,(.cp (Ty.cells tX (x)) 0)),(29,(.cp (Ty.cells tX (x)) 6)),(30,(.vs tO (x.2.1.1) (x.2.1.2))),(31,(.int .i64 (Int.ofNat x.2.1.2.length))),(32,(.bool x33)),(33,(.bool (true))),(34,(.cp (Ty.cells tX (x)) 0)),(35,(.cp (Ty.cells tX (x)) 0)),(36,(.cp (Ty.cells tX (x)) 6)),(37,(.vs tO (x.2.1.1) (x.2.1.2))),(38,(.int .i64 x0)),(39,(.cp [(.int .i64 x41),(.vs tI x42 x43)] 0)),(40,(.cp [(.int .i64 x41),(.vs tI x42 x43)] 0)),(41,(.int .i64 x41)),(42,(.int .i64 x1)),(43,(.bool x49)),(44,(.bool (true))),(45,(.int .i64 x0)),(46,(.ptr 5 x52)),(47,(.bool x53)),(48,(.bool (true))),(49,(.cp (Ty.cells tX (x)) 0)),(50,(.cp (Ty.cells tX (x)) 0)),(51,(.cp (Ty.cells tX (x)) 6)),(52,(.vs tO (x.2.1.1) (x.2.1.2))),(53,(.int .i64 x0)),(54,(.cp [(.int .i64 x41),(.vs tI x42 x43)] 0)),(55,(.cp [(.int .i64 x41),(.vs tI x42 x43)] 1)),(56,(.vs tI x42 x43)),(57,(.int .i64 x69)),(58,(.int .i64 (0)))]) x168),(.blk 2),(.seq (pcOf F2 82 [1,0,1,0,1,1,0,0,1,1,0,0,1,1])),(.seq (pcOf F2 82 [1,1,1,0,0,1,1,0,0,1,1])),(.blk 1),(.seq (pcOf F2 82 [1,1,1,0,0,1,1])),(.lop (pcOf F2 82 [0,0,1,1]) 9 (tmOf 76 [(0,(.yld 6)),(1,(.ptr 4 0)),(2,(.ptr 5 0)),(4,(.ptr 7 0)),(5,(.ptr 8 0)),(6,(.int .i64 (0))),(10,(.cp (Ty.cells tX (x)) 0)),(11,(.agg [(.int .i64 ((firV x).1)),(.int .i64 ((firV x).2.1)),(.int .i64 ((firV x).2.2.1))])),(12,(.cp (Ty.cells tX (x)) 0)),(13,(.agg [(.int .i64 ((fulV x).1)),(.int .i64 ((fulV x).2.1)),(.int .i64 ((fulV x).2.2.1))])),(14,(.cp (Ty.cells tX (x)) 0)),(15,(.cp (Ty.cells tX (x)) 0)),(16,(.cp (Ty.cells tX (x)) 0)),(17,(.cp (Ty.cells tX (x)) 0)),(18,(.int .i64 (x.1.1))),(19,(.int .i64 (0)))]) x184),(.blk 0),(.cal [] (.rng (tmOf 30 [(0,(.cp (Ty.cells tX (x)) 0)),(1,(.agg [(.bool (f.1)),(.bool (f.2.1)),(.bool (f.2.2.1)),(.bool (f.2.2.2.1)),(.bool (f.2.2.2.2.1)),(.bool (f.2.2.2.2.2.1)),(.bool (f.2.2.2.2.2.2.1)),(.bool (f.2.2.2.2.2.2.2.1))])),(2,(.ptr 0 0)),(3,(.ptr 1 0)),(4,(.ptr 2 0)),(5,(.ptr 3 0)),(9,(.cp (Ty.cells tX (x)) 0)),(10,(.agg [(.bool (f.1)),(.bool (f.2.1)),(.bool (f.2.2.1)),(.bool (f.2.2.2.1)),(.bool (f.2.2.2.2.1)),(.bool (f.2.2.2.2.2.1)),(.bool (f.2.2.2.2.2.2.1)),(.bool (f.2.2.2.2.2.2.2.1))])),(11,(.fn 82 [] [(.ptr 4 0),(.ptr 5 0)]))]) [] 30 false ⟨20,[]⟩)),(.blk 0),(.seq (pcOf F2 31 [1,1])),(.cal [(.cell 4 47),(.cell 5 4)] .top)]⟩
theorem bre_start (x:tX.den) (f:tB.den):adv F2 ((Z2 [82]).flat [7]) 3000 (startC F2 31 [tX.pv x,tB.av f] 20)=(bif x.1.2.1.2.length.ble 3 then (bif x.1.2.1.2.length.ble 3 then (bif avbeq (AV.cp (tX.cells x) 0) (AV.cp (tX.cells x) 0) then (bif avbeq (AV.cp (tX.cells x) 0) (AV.cp (tX.cells x) 0) then (bif avbeq (AV.cp (tX.cells x) 0) (AV.cp (tX.cells x) 0) then some (.stop (breI0 x f (0) (0) ([AV.int IntKind.i64 (firV x).1,AV.int IntKind.i64 (firV x).2.1,AV.int IntKind.i64 (firV x).2.2.1]) (1048575))) else none) else none) else none) else none) else none):=by kernel_rfl
theorem avL_app:∀ (a b:List AV),avbeqL a a=true→avbeqL b b=true→avbeqL (a++b) (a++b)=true
 |[],b,_,h=>h
 |x::a,b,h1,h2=>by
  rw[List.cons_append,avbeqL]
  rw[avbeqL] at h1
  cases c:avbeq x x with
  |false=>rw[c] at h1;cases h1
  |true=>rw[c] at h1;exact avL_app a b h1 h2
theorem avL_one {x:AV} (h:avbeq x x=true):avbeqL [x] [x]=true:=by rw[avbeqL,h];rfl
theorem cells_refl:∀ (t:Ty) (d:t.den),avbeqL (t.cells d) (t.cells d)=true
 | .int k, n => avL_one (by
   show (match ikb k k with|true=>ieq n n|false=>false)=true
   rw[ieq_self];cases k<;>rfl)
 |.bool,b=>avL_one (by cases b<;>rfl)
 |.str,s=>avL_one (lbeq_self s)
 |.nil,_=>rfl
 |.cons t ts,d=>avL_app _ _ (cells_refl t d.1) (cells_refl ts d.2)
 | .sl t, d => avL_one (by
   show (match bbeq d.1 d.1 with|true=>vsB t d.2 t d.2|false=>false)=true
   rw[bbeq_self];exact vsB_self t d.2)
theorem cpX (x:tX.den):avbeq (AV.cp (tX.cells x) 0) (AV.cp (tX.cells x) 0)=true:=by
 show (match Nat.beq 0 0 with|true=>avbeqL (tX.cells x) (tX.cells x)|false=>false)=true
 exact cells_refl tX x
noncomputable abbrev nlX (x:tX.den):Nat:=x.1.2.1.2.length
noncomputable abbrev olX (x:tX.den):Nat:=x.2.1.2.length
noncomputable def ordI (x:tX.den) (o:Nat):tO.den:=x.2.1.2.getD o tO.dflt
noncomputable abbrev trL (l:tL.den):List AV:=[.int .i64 l.1,.int .i64 l.2.1,.int .i64 l.2.2.1]
noncomputable def hitV (f:tB.den) (d k:Int):AV:=.tup [.agg [.vs tI (noI (indV f)) (indV f),.int .i64 d,.int .i64 k],.bool true]
noncomputable def missV:AV:=.tup [.agg [.nils,.int .i64 0,.int .i64 0],.bool false]
noncomputable def brX (x:tX.den) (f:tB.den) (o d:Int) (l:tL.den) (m:Nat):Option Out:=(bif inB (nlX x:Int) (3+1) then (bif !ile (nlX x:Int) 0 then (bif inB 0 (nlX x) then (bif ieq 0 l.1 then some (.done (hitV f d 0)) else (bif !ile (nlX x:Int) (wr .i64 (0+1)) then (bif inB (wr .i64 (0+1)) (nlX x) then (bif ieq 0 l.2.1 then some (.done (hitV f d 1)) else (bif !ile (nlX x:Int) (wr .i64 (wr .i64 (0+1)+1)) then (bif inB (wr .i64 (wr .i64 (0+1)+1)) (nlX x) then (bif ieq 0 l.2.2.1 then some (.done (hitV f d 2)) else (bif !ile (nlX x:Int) (wr .i64 (wr .i64 (wr .i64 (0+1)+1)+1)) then (bif inB ((wr .i64 (wr .i64 (wr .i64 (0+1)+1)+1))) (nlX x) then none else none) else some (.stop (breI0 x f o (wr .i64 (d+1)) (trL l) m)))) else none) else some (.stop (breI0 x f o (wr .i64 (d+1)) (trL l) m)))) else none) else some (.stop (breI0 x f o (wr .i64 (d+1)) (trL l) m)))) else none) else some (.stop (breI0 x f o (wr .i64 (d+1)) (trL l) m))) else none)
noncomputable def in2 (x:tX.den) (f:tB.den) (o d k:Int) (c:List AV) (m n:Nat):Cfg:=breI2 x f o d (!ile (olX x:Int) o) (x.2.1.2.getD o.toNat tO.dflt).1 (x.2.1.2.getD o.toNat tO.dflt).2.1.1 (x.2.1.2.getD o.toNat tO.dflt).2.1.2 (ieq (x.2.1.2.getD o.toNat tO.dflt).1 d) (0+o.toNat * 1) (toB ((flL f).getD (0+o.toNat * 1) AV.nili)) (Int.ofNat (x.2.1.2.getD o.toNat tO.dflt).2.1.2.length) k c m n
noncomputable def in3 (x:tX.den) (f:tB.den) (o d k:Int) (l:tL.den) (c:List AV) (m n:Nat):Cfg:=breI3 x f o d l.1 l.2.1 l.2.2.1 (nexV l).1 (nexV l).2.1 (nexV l).2.2.1 (!ile (olX x:Int) o) (x.2.1.2.getD o.toNat tO.dflt).1 (x.2.1.2.getD o.toNat tO.dflt).2.1.1 (x.2.1.2.getD o.toNat tO.dflt).2.1.2 (ieq (x.2.1.2.getD o.toNat tO.dflt).1 d) (0+o.toNat * 1) (toB ((flL f).getD (0+o.toNat * 1) AV.nili)) (Int.ofNat (x.2.1.2.getD o.toNat tO.dflt).2.1.2.length) k c m n
theorem bre0 (x:tX.den) (f:tB.den) (o d:Int) (l:tL.den) (m:Nat):adv F2 ((Z2 [82]).flat [7]) 3000 (breI0 x f o d (trL l) (m+1))=(bif !ile x.1.1 d then (bif !ile d 0 then (bif !ile (olX x:Int) o then (bif inB o (olX x) then (bif ieq (x.2.1.2.getD o.toNat tO.dflt).1 d then (bif inB o 8 then (bif isZs (flL f) [AV.bool false] (0+o.toNat * 1) then (bif !toB ((flL f).getD (0+o.toNat * 1) AV.nili) then (bif inB o (olX x) then some (.stop (in3 x f o d 0 l (trL (nexV l)) 1048575 (m+1))) else none) else brX x f (wr .i64 (o+1)) d (nexV l) m) else none) else none) else brX x f o d (nexV l) m) else none) else brX x f o d (nexV l) m) else (bif !ile (olX x:Int) o then (bif inB o (olX x) then (bif ieq (x.2.1.2.getD o.toNat tO.dflt).1 d then (bif inB o 8 then (bif isZs (flL f) [AV.bool false] (0+o.toNat * 1) then (bif !toB ((flL f).getD (0+o.toNat * 1) AV.nili) then (bif inB o (olX x) then some (.stop (in2 x f o d 0 (trL l) 1048575 (m+1))) else none) else brX x f (wr .i64 (o+1)) d l m) else none) else none) else brX x f o d l m) else none) else brX x f o d l m)) else some (.done missV)):=by kernel_rfl
theorem bre2 (x:tX.den) (f:tB.den) (o d k:Int) (l c:tL.den) (m n:Nat):adv F2 ((Z2 [82]).flat [7]) 3000 (in2 x f o d k (trL c) (m+1) (n+1))=(bif !ile (Int.ofNat (x.2.1.2.getD o.toNat tO.dflt).2.1.2.length) k then (bif inB k (x.2.1.2.getD o.toNat tO.dflt).2.1.2.length then (bif inB ((x.2.1.2.getD o.toNat tO.dflt).2.1.2.getD k.toNat tI.dflt) 3 then (bif isZs [AV.int .i64 (fulV x).1,AV.int .i64 (fulV x).2.1,AV.int .i64 (fulV x).2.2.1] [AV.int .i64 0] (0+Int.toNat ((x.2.1.2.getD o.toNat tO.dflt).2.1.2.getD k.toNat tI.dflt) * 1) then (bif inB ((x.2.1.2.getD o.toNat tO.dflt).2.1.2.getD k.toNat tI.dflt) 3 then (bif (0+Int.toNat ((x.2.1.2.getD o.toNat tO.dflt).2.1.2.getD k.toNat tI.dflt) * 1+1).ble 3 then (bif plO (AO.cells false ((trL c).set (0+Int.toNat ((x.2.1.2.getD o.toNat tO.dflt).2.1.2.getD k.toNat tI.dflt) * 1) (AV.int .i64 (toI ([AV.int .i64 (fulV x).1,AV.int .i64 (fulV x).2.1,AV.int .i64 (fulV x).2.2.1].getD (0+Int.toNat ((x.2.1.2.getD o.toNat tO.dflt).2.1.2.getD k.toNat tI.dflt) * 1) AV.nili))))) then some (.stop (in2 x f o d (wr .i64 (k+1)) ((trL c).set (0+Int.toNat ((x.2.1.2.getD o.toNat tO.dflt).2.1.2.getD k.toNat tI.dflt) * 1) (AV.int .i64 (toI ([AV.int .i64 (fulV x).1,AV.int .i64 (fulV x).2.1,AV.int .i64 (fulV x).2.2.1].getD (0+Int.toNat ((x.2.1.2.getD o.toNat tO.dflt).2.1.2.getD k.toNat tI.dflt) * 1) AV.nili)))) m (n+1))) else none) else none) else none) else none) else none) else none) else brX x f (wr .i64 (o+1)) d c n):=by kernel_rfl
theorem bre3 (x:tX.den) (f:tB.den) (o d k:Int) (l c:tL.den) (m n:Nat):adv F2 ((Z2 [82]).flat [7]) 3000 (in3 x f o d k l (trL c) (m+1) (n+1))=(bif !ile (Int.ofNat (x.2.1.2.getD o.toNat tO.dflt).2.1.2.length) k then (bif inB k (x.2.1.2.getD o.toNat tO.dflt).2.1.2.length then (bif inB ((x.2.1.2.getD o.toNat tO.dflt).2.1.2.getD k.toNat tI.dflt) 3 then (bif isZs [AV.int .i64 (fulV x).1,AV.int .i64 (fulV x).2.1,AV.int .i64 (fulV x).2.2.1] [AV.int .i64 0] (0+Int.toNat ((x.2.1.2.getD o.toNat tO.dflt).2.1.2.getD k.toNat tI.dflt) * 1) then (bif inB ((x.2.1.2.getD o.toNat tO.dflt).2.1.2.getD k.toNat tI.dflt) 3 then (bif (0+Int.toNat ((x.2.1.2.getD o.toNat tO.dflt).2.1.2.getD k.toNat tI.dflt) * 1+1).ble 3 then (bif plO (AO.cells false ((trL c).set (0+Int.toNat ((x.2.1.2.getD o.toNat tO.dflt).2.1.2.getD k.toNat tI.dflt) * 1) (AV.int .i64 (toI ([AV.int .i64 (fulV x).1,AV.int .i64 (fulV x).2.1,AV.int .i64 (fulV x).2.2.1].getD (0+Int.toNat ((x.2.1.2.getD o.toNat tO.dflt).2.1.2.getD k.toNat tI.dflt) * 1) AV.nili))))) then some (.stop (in3 x f o d (wr .i64 (k+1)) l ((trL c).set (0+Int.toNat ((x.2.1.2.getD o.toNat tO.dflt).2.1.2.getD k.toNat tI.dflt) * 1) (AV.int .i64 (toI ([AV.int .i64 (fulV x).1,AV.int .i64 (fulV x).2.1,AV.int .i64 (fulV x).2.2.1].getD (0+Int.toNat ((x.2.1.2.getD o.toNat tO.dflt).2.1.2.getD k.toNat tI.dflt) * 1) AV.nili)))) m (n+1))) else none) else none) else none) else none) else none) else none) else brX x f (wr .i64 (o+1)) d c n):=by kernel_rfl
end Go.Proofs.Ytmpaifgmccdipaa


set_option maxRecDepth 100000
namespace Go.Proofs.Ytmpaifgmccdipaa
open Go Go.Eng
noncomputable def setL (u l:tL.den) (n:Int):tL.den:=bif ieq n 0 then (u.1,l.2) else bif ieq n 1 then (l.1,u.2.1,l.2.2) else (l.1,l.2.1,u.2.2)
noncomputable def bringL (u:tL.den):List Int→tL.den→tL.den
 |[],l=>l
 |n::c,l=>bringL u c (setL u l n)
noncomputable def hitO (x:tX.den) (d o:Nat):Bool:=Nat.blt o (olX x)&&ieq (ordI x o).1 d
noncomputable def stM (x:tX.den) (f:tB.den) (d:Nat) (s:Nat×tL.den):Nat×tL.den:=
 bif hitO x d s.1 then (s.1+1,bif flB f s.1 then (bif Nat.beq d 0 then s.2 else nexV s.2) else bringL (fulV x) (ordI x s.1).2.1.2 (bif Nat.beq d 0 then s.2 else nexV s.2)) else (s.1,bif Nat.beq d 0 then s.2 else nexV s.2)
noncomputable def idx0 (n:Nat) (l:tL.den):Option Int:=bif Nat.blt 0 n&&ieq 0 l.1 then some 0 else bif Nat.blt 1 n&&ieq 0 l.2.1 then some 1 else bif Nat.blt 2 n&&ieq 0 l.2.2.1 then some 2 else none
noncomputable def brT (x:tX.den) (f:tB.den):Nat→Nat→Nat×tL.den→Int×Int×Bool
 |0,_,_=>(0,0,false)
 |r+1,d,s=>match idx0 (nlX x) (stM x f d s).2 with
  |some k=>((d:Int),k,true)
  |none=>brT x f r (d+1) (stM x f d s)
noncomputable def brW (f:tB.den) (t:Int×Int×Bool):AV:=.tup [.agg [.vs tI (bif t.2.2 then noI (indV f) else true) (bif t.2.2 then indV f else []),.int .i64 t.1,.int .i64 t.2.1],.bool t.2.2]
noncomputable def brR (x:tX.den) (f:tB.den) (r d:Nat) (s:Nat×tL.den):AV:=brW f (brT x f r d s)
theorem Tells.tupL {a b:List AV} (h:TellsL a b):Tells (.tup a) (.tup b):=fun V R x=>by
 cases x with
 |tup _ A ha hav=>
  have k:=h V A ⟨ha,hav⟩
  exact .tup _ _ k.1 k.2
theorem tells_miss (f:tB.den):Tells missV (brW f (0,0,false)):=
 Tells.tupL (.cons (Tells.agg (.cons Tells.nils (.refl _))) (.refl _))
noncomputable def ordB (o:tO.den):Bool:=Nat.ble o.2.1.2.length 1000&&o.2.1.2.all (fun n=>inB n 3)
noncomputable def xokB (x:tX.den):Bool:=Nat.ble (nlX x) 3&&(Nat.ble (olX x) 8&&(x.2.1.2.all ordB&&ile x.1.1 1000))
structure XOK (x:tX.den):Prop where
 n:nlX x≤3
 o:olX x≤8
 c:∀ o<olX x,(ordI x o).2.1.2.length≤1000∧∀ n∈(ordI x o).2.1.2,inB n 3=true
 d:@LE.le Int _ x.1.1 1000
theorem xok {x:tX.den} (h:xokB x=true):XOK x:=by
 unfold xokB at h
 simp only[Bool.and_eq_true,List.all_eq_true] at h
 obtain⟨h1,h2,h3,h4⟩:=h
 refine⟨Nat.le_of_ble_eq_true h1,Nat.le_of_ble_eq_true h2,fun o ho=>?_,ile_le h4⟩
 have hm:ordI x o∈x.2.1.2:=by
  unfold ordI;rw[List.getD_eq_getElem?_getD,List.getElem?_eq_getElem ho];exact List.getElem_mem ho
 have:=h3 _ hm
 unfold ordB at this
 simp only[Bool.and_eq_true,List.all_eq_true] at this
 exact⟨Nat.le_of_ble_eq_true this.1,this.2⟩
theorem in3_cases {n:Int} (h:inB n 3=true):n=0∨n=1∨n=2:=by
 rw[inB_iff] at h;have:=of_decide_eq_true h;omega
theorem inn_at (x:tX.den) (c:tL.den) {n:Int} (h:inB n 3=true):isZs [AV.int .i64 (fulV x).1,AV.int .i64 (fulV x).2.1,AV.int .i64 (fulV x).2.2.1] [.int .i64 0] (0+Int.toNat n * 1)=true∧(0+Int.toNat n * 1+1).ble 3=true ∧
  (trL c).set (0+Int.toNat n * 1) (AV.int .i64 (toI ([AV.int .i64 (fulV x).1,AV.int .i64 (fulV x).2.1,AV.int .i64 (fulV x).2.2.1].getD (0+Int.toNat n * 1) AV.nili)))=trL (setL (fulV x) c n):=by
 rcases in3_cases h with rfl|rfl|rfl<;>exact⟨rfl,rfl,rfl⟩
theorem toNat_le {a:Int} {d:Nat} (h:d+0=a.toNat):a≤d:=by omega
theorem toNat_lt {a:Int} {d r:Nat} (h:d+(r+1)=a.toNat):(d:Int)<a:=by omega
theorem toNat_b {a:Int} {d r:Nat} (h:d+(r+1)=a.toNat) (k:a≤1000):d<1000:=by omega
theorem toNat_c {a:Int} (k:a≤1000):a.toNat≤1000:=by omega
noncomputable abbrev ZX:Sy:=(Z2 [82]).flat [7]
theorem ZX_ok:ZX.ok F2:=Sy.flat_ok (Z2_ok _)
theorem brX_ans {x:tX.den} {f:tB.den} (hn:nlX x≤3) {cfg:Cfg} {q:Nat} {o:Int} {d:Nat} (hd:d<1048577) {l:tL.den} {m:Nat} {V:AV} (h:adv F2 ((Z2 [82]).flat [7]) q cfg=brX x f o d l m)
  (hit:∀ k,idx0 (nlX x) l=some k→hitV f d k=V) (K:idx0 (nlX x) l=none→Ans F2 (breI0 x f o ((d+1:Nat):Int) (trL l) m) V):Ans F2 cfg V:=by
 unfold brX at h
 unfold idx0 at hit K
 rw[wr_succ hd] at h
 generalize nlX x=n at *
 cases c0:ieq 0 l.1<;>cases c1:ieq 0 l.2.1<;>cases c2:ieq 0 l.2.2.1<;>rw[c0,c1,c2] at h hit K <;>
  rcases (show n=0∨n=1∨n=2∨n=3 by omega) with rfl|rfl|rfl|rfl <;>
  first
  |exact .stop ZX_ok F2sy h (K rfl)
  |exact .done ZX_ok F2sy h (hit _ rfl)
theorem in2_ans {x:tX.den} {f:tB.den} (X:XOK x) {o d:Nat} (ho:o<olX x) {n:Nat} {V:AV} {w:tL.den}
  (K:∀ cfg q,adv F2 ((Z2 [82]).flat [7]) q cfg=brX x f ((o+1:Nat):Int) d w n→Ans F2 cfg V) :
  ∀ (r k m:Nat) (c:tL.den),k+r=(ordI x o).2.1.2.length→r<m→bringL (fulV x) ((ordI x o).2.1.2.drop k) c=w→Ans F2 (in2 x f o d k (trL c) m (n+1)) V
 |0,k,m+1,c,hk,hm,hw=>by
  have h:=bre2 x f o d k (0,0,0,()) c m n
  rw[show (x.2.1.2.getD ((o:Nat):Int).toNat tO.dflt)=ordI x o from rfl,ile_t (show Int.ofNat (ordI x o).2.1.2.length≤(k:Int) by show (((ordI x o).2.1.2.length:Nat):Int)≤k;omega),Bool.not_true,cond_false,wr_succ (show o<1048577 by have:=X.o;omega)] at h
  rw[List.drop_eq_nil_of_le (by omega)] at hw
  have hw:c=w:=hw
  subst hw
  exact K _ _ h
 |r+1,k,m+1,c,hk,hm,hw=>by
  have h:=bre2 x f o d k (0,0,0,()) c m n
  have hlt:k<(ordI x o).2.1.2.length:=by omega
  obtain⟨hl,hc⟩:=X.c o ho
  rw[show (x.2.1.2.getD ((o:Nat):Int).toNat tO.dflt)=ordI x o from rfl,ile_f (show (k:Int)<Int.ofNat (ordI x o).2.1.2.length by show (k:Int)<(((ordI x o).2.1.2.length:Nat):Int);omega),inB_at hlt,getD_at hlt,wr_succ (show k<1048577 by omega),Bool.not_false,cond_true,cond_true] at h
  rw[List.drop_eq_getElem_cons hlt] at hw
  have hi:=hc _ (List.getElem_mem hlt)
  obtain⟨a1,a2,a3⟩:=inn_at x c hi
  rw[hi,a1,a2,a3] at h
  exact .stop ZX_ok F2sy h (in2_ans X ho K r (k+1) m _ (by omega) (by omega) hw)
theorem in3_ans {x:tX.den} {f:tB.den} (X:XOK x) {o d:Nat} (ho:o<olX x) {l:tL.den} {n:Nat} {V:AV} {w:tL.den}
  (K:∀ cfg q,adv F2 ((Z2 [82]).flat [7]) q cfg=brX x f ((o+1:Nat):Int) d w n→Ans F2 cfg V) :
  ∀ (r k m:Nat) (c:tL.den),k+r=(ordI x o).2.1.2.length→r<m→bringL (fulV x) ((ordI x o).2.1.2.drop k) c=w→Ans F2 (in3 x f o d k l (trL c) m (n+1)) V
 |0,k,m+1,c,hk,hm,hw=>by
  have h:=bre3 x f o d k l c m n
  rw[show (x.2.1.2.getD ((o:Nat):Int).toNat tO.dflt)=ordI x o from rfl,ile_t (show Int.ofNat (ordI x o).2.1.2.length≤(k:Int) by show (((ordI x o).2.1.2.length:Nat):Int)≤k;omega),Bool.not_true,cond_false,wr_succ (show o<1048577 by have:=X.o;omega)] at h
  rw[List.drop_eq_nil_of_le (by omega)] at hw
  have hw:c=w:=hw
  subst hw
  exact K _ _ h
 |r+1,k,m+1,c,hk,hm,hw=>by
  have h:=bre3 x f o d k l c m n
  have hlt:k<(ordI x o).2.1.2.length:=by omega
  obtain⟨hl,hc⟩:=X.c o ho
  rw[show (x.2.1.2.getD ((o:Nat):Int).toNat tO.dflt)=ordI x o from rfl,ile_f (show (k:Int)<Int.ofNat (ordI x o).2.1.2.length by show (k:Int)<(((ordI x o).2.1.2.length:Nat):Int);omega),inB_at hlt,getD_at hlt,wr_succ (show k<1048577 by omega),Bool.not_false,cond_true,cond_true] at h
  rw[List.drop_eq_getElem_cons hlt] at hw
  have hi:=hc _ (List.getElem_mem hlt)
  obtain⟨a1,a2,a3⟩:=inn_at x c hi
  rw[hi,a1,a2,a3] at h
  exact .stop ZX_ok F2sy h (in3_ans X ho K r (k+1) m _ (by omega) (by omega) hw)
theorem st_le {x:tX.den} {f:tB.den} {d:Nat} {s:Nat×tL.den} (h:s.1≤olX x):(stM x f d s).1≤olX x:=by
 unfold stM
 cases c:hitO x d s.1 with
 |true=>
  unfold hitO at c
  rw[Bool.and_eq_true] at c
  have:=Nat.le_of_ble_eq_true c.1
  exact this
 |false=>exact h
theorem bre_ans {x : tX.den} {f : tB.den} (X : XOK x) : ∀ (r d m : Nat) (s : Nat × tL.den), d + r = x.1.1.toNat → r < m → s.1 ≤ olX x → Ans F2 (breI0 x f s.1 d (trL s.2) m) (brR x f r d s)
 |0,d,m+1,s,hd,hm,hs=>by
  have h:=bre0 x f s.1 d s.2 m
  rw[ile_t (toNat_le hd),Bool.not_true,cond_false] at h
  exact .doneT ZX_ok F2sy h (tells_miss f)
 | r + 1, d, m + 1, s, hd, hm, hs => by
  have h:=bre0 x f s.1 d s.2 m
  have hX:=X.d
  have hO:=X.o
  have h1:@LT.lt Int _ (d:Int) x.1.1:=toNat_lt hd
  have hd':d<1048577:=by have:=toNat_b hd hX;omega
  rw[ile_f h1,Bool.not_false,cond_true] at h
  have fin:∀ cfg q,adv F2 ((Z2 [82]).flat [7]) q cfg=brX x f ((stM x f d s).1:Nat) d (stM x f d s).2 m→Ans F2 cfg (brR x f (r+1) d s):=by
   intro cfg q hq
   refine brX_ans X.n hd' hq (fun k e=>?_) (fun e=>?_)
   · show _ = (brW f (match idx0 (nlX x) (stM x f d s).2 with | some k => ((d : Int), k, true) | none => brT x f r (d + 1) (stM x f d s)))
     rw[e];rfl
   · have := bre_ans (f := f) X r (d + 1) m (stM x f d s) (by omega) (by omega) (st_le hs)
     show Ans F2 _ (brW f (match idx0 (nlX x) (stM x f d s).2 with|some k=>((d:Int),k,true)|none=>brT x f r (d+1) (stM x f d s)))
     rw[e];exact this
  rw[show (x.2.1.2.getD ((s.1:Nat):Int).toNat tO.dflt)=ordI x s.1 from rfl] at h
  have hst:stM x f d s=bif hitO x d s.1 then (s.1+1,bif flB f s.1 then (bif Nat.beq d 0 then s.2 else nexV s.2) else bringL (fulV x) (ordI x s.1).2.1.2 (bif Nat.beq d 0 then s.2 else nexV s.2)) else (s.1,bif Nat.beq d 0 then s.2 else nexV s.2):=rfl
  by_cases ho:s.1<olX x
  · have ho8 : s.1 < 8 := by omega
    rw[ile_f (show (s.1:Int)<((olX x:Nat):Int) by omega),inB_at ho,inB_at ho8,show 0+((s.1:Nat):Int).toNat * 1=s.1 by simp,fl_is f ho8,show toB ((flL f).getD s.1 AV.nili)=flB f s.1 from rfl,wr_succ (show s.1<1048577 by omega)] at h
    simp only[Bool.not_false,cond_true] at h
    have eh:hitO x d s.1=ieq (ordI x s.1).1 d:=by
     unfold hitO;rw[show Nat.blt s.1 (olX x)=true from Nat.ble_eq_true_of_le ho,Bool.true_and]
    rw[eh] at hst
    have hcl:=(X.c s.1 ho).1
    cases c:ieq (ordI x s.1).1 d with
    |false=>
     rw[c,cond_false,cond_false] at h
     rw[c,cond_false] at hst
     by_cases h0:d=0
     · subst h0
       rw[show ile ((0:Nat):Int) 0=true from rfl,Bool.not_true,cond_false] at h
       refine fin _ 3000 ?_
       rw[hst];exact h
     · rw [ile_f (show (0 : Int) < (d : Int) by omega), Bool.not_false, cond_true] at h
       rw[show Nat.beq d 0=false by cases d with|zero=>exact absurd rfl h0|succ d=>rfl,cond_false] at hst
       refine fin _ 3000 ?_
       rw[hst];exact h
    | true =>
     rw[c,cond_true,cond_true] at h
     rw[c,cond_true] at hst
     cases cf:flB f s.1 with
     |true=>
      rw[cf] at h hst
      simp only[Bool.not_true,cond_false] at h
      rw[cond_true] at hst
      by_cases h0:d=0
      · subst h0
        rw[show ile ((0:Nat):Int) 0=true from rfl,Bool.not_true,cond_false] at h
        refine fin _ 3000 ?_
        rw[hst];exact h
      · rw [ile_f (show (0 : Int) < (d : Int) by omega), Bool.not_false, cond_true] at h
        rw[show Nat.beq d 0=false by cases d with|zero=>exact absurd rfl h0|succ d=>rfl,cond_false] at hst
        refine fin _ 3000 ?_
        rw[hst];exact h
     |false=>
      rw[cf] at h hst
      simp only[Bool.not_false,cond_true] at h
      rw[cond_false] at hst
      by_cases h0:d=0
      · subst h0
        rw[show ile ((0:Nat):Int) 0=true from rfl,Bool.not_true,cond_false] at h
        refine .stop ZX_ok F2sy h ?_
        refine in2_ans X ho (w:=(stM x f 0 s).2) (fun cfg q hq=>fin cfg q ?_) _ 0 1048575 s.2 (Nat.zero_add _) (by omega) ?_
        · rw[show (stM x f 0 s).1=s.1+1 by rw[hst]];exact hq
        · rw[hst];rfl
      · rw [ile_f (show (0 : Int) < (d : Int) by omega), Bool.not_false, cond_true] at h
        rw[show Nat.beq d 0=false by cases d with|zero=>exact absurd rfl h0|succ d=>rfl,cond_false] at hst
        refine .stop ZX_ok F2sy h ?_
        refine in3_ans X ho (w:=(stM x f d s).2) (fun cfg q hq=>fin cfg q ?_) _ 0 1048575 (nexV s.2) (Nat.zero_add _) (by omega) ?_
        · rw[show (stM x f d s).1=s.1+1 by rw[hst]];exact hq
        · rw[hst];rfl
  · have hno : hitO x d s.1 = false := by
     unfold hitO
     rw[show Nat.blt s.1 (olX x)=false from by
      cases e:Nat.blt s.1 (olX x) with
      |false=>rfl
      |true=>exact absurd (Nat.le_of_ble_eq_true e) ho,Bool.false_and]
    rw[hno,cond_false] at hst
    rw[ile_t (show ((olX x:Nat):Int)≤(s.1:Int) by omega)] at h
    simp only[Bool.not_true,cond_false] at h
    by_cases h0:d=0
    · subst h0
      rw[show ile ((0:Nat):Int) 0=true from rfl,Bool.not_true,cond_false] at h
      refine fin _ 3000 ?_
      rw[hst];exact h
    · rw [ile_f (show (0 : Int) < (d : Int) by omega), Bool.not_false, cond_true] at h
      rw[show Nat.beq d 0=false by cases d with|zero=>exact absurd rfl h0|succ d=>rfl,cond_false] at hst
      refine fin _ 3000 ?_
      rw[hst];exact h
noncomputable def breT (x:tX.den) (f:tB.den):Int×Int×Bool:=brT x f x.1.1.toNat 0 (0,firV x)
noncomputable def breV (x:tX.den) (f:tB.den):AV:=brW f (breT x f)
theorem bre_call {x:tX.den} {f:tB.den} (h:xokB x=true):AnsF F2 31 [tX.pv x,tB.av f] (breV x f):=by
 have X:=xok h
 have hX:=X.d
 refine Ans.call (n:=20) (ext_none (by kernel_rfl)) (hasB_spec (by kernel_rfl)) ?_
 have h:=bre_start x f
 rw[Nat.ble_eq_true_of_le (show x.1.2.1.2.length≤3 from X.n),cpX] at h
 exact .stop ZX_ok F2sy h (bre_ans X x.1.1.toNat 0 1048575 (0,firV x) (Nat.zero_add _) (by have:=toNat_c hX;omega) (Nat.zero_le _))
noncomputable def LC:List Said:=[(31,conP2 tX tB (fun x _=>xokB x) breV)]
theorem LC_ok:∀ e∈LC,SaidG Try.prog F2.glob e:=
 saids_cons (SaidOK.g f2 xf2 nf2 tabs_ok.mix (fun _ _ h=>conP2_spec (t:=tX) (u:=tB) (fun x f c=>bre_call c) h) rfl) saids_nil
noncomputable def F3:Env:=F2.say (under (xOf LC))
theorem f3:EnvOK Try.prog F3:=f2.say _
theorem nf3:NameOK F3:=nf2.say _
theorem xf3:ExtOK Try.prog F3:=xf2.sayL LC_ok
theorem F3sy:F3.sy=true:=rfl
noncomputable def Z3 (l:List Nat):Sy:=(Z2 []).on LC l
theorem Z3_ok (l:List Nat):(Z3 l).ok F3:=Sy.on_ok (Z2_ok _)
end Go.Proofs.Ytmpaifgmccdipaa


set_option maxRecDepth 100000
namespace Go.Proofs.Ytmpaifgmccdipaa
open Go Go.Eng
noncomputable def lefI0 (x:tX.den) (f:tB.den) (n:Int) (x0:Int) (x14:Int) (x20:List AV) (x56:Nat):Cfg:=⟨.ex (pcOf F2 82 [0,0,1,1]) ⟨(tmOf 76 [(0,(.yld 5)),(1,(.ptr 3 0)),(2,(.ptr 4 0)),(4,(.ptr 6 0)),(5,(.ptr 7 0)),(6,(.int .i64 x0)),(10,(.cp (Ty.cells tX (x)) 0)),(11,(.agg [(.int .i64 ((firV x).1)),(.int .i64 ((firV x).2.1)),(.int .i64 ((firV x).2.2.1))])),(12,(.cp (Ty.cells tX (x)) 0)),(13,(.agg [(.int .i64 ((fulV x).1)),(.int .i64 ((fulV x).2.1)),(.int .i64 ((fulV x).2.2.1))])),(14,(.cp (Ty.cells tX (x)) 0)),(15,(.cp (Ty.cells tX (x)) 0)),(16,(.cp (Ty.cells tX (x)) 0)),(17,(.cp (Ty.cells tX (x)) 0)),(18,(.int .i64 (x.1.1))),(19,(.int .i64 x14))]),(hpOf 8 [(0,(.cells false ([AV.bool f.1,AV.bool f.2.1,AV.bool f.2.2.1,AV.bool f.2.2.2.1,AV.bool f.2.2.2.2.1,AV.bool f.2.2.2.2.2.1,AV.bool f.2.2.2.2.2.2.1,AV.bool f.2.2.2.2.2.2.2.1]))),(1,(.cells false [(.int .i64 (n))])),(2,(.cells false ([AV.int IntKind.i64 0,AV.int IntKind.i64 0,AV.int IntKind.i64 0]))),(3,(.cells false [(.cp (Ty.cells tX (x)) 0)])),(4,(.cells false ([AV.bool f.1,AV.bool f.2.1,AV.bool f.2.2.1,AV.bool f.2.2.2.1,AV.bool f.2.2.2.2.1,AV.bool f.2.2.2.2.2.1,AV.bool f.2.2.2.2.2.2.1,AV.bool f.2.2.2.2.2.2.2.1]))),(6,(.cells false x20)),(7,(.cells false ([AV.int IntKind.i64 (fulV x).1,AV.int IntKind.i64 (fulV x).2.1,AV.int IntKind.i64 (fulV x).2.2.1])))]),[],[⟨false,.normal⟩],76,false⟩,⟨19,[⟨5,19,20,(tmOf 19 [(0,(.cp (Ty.cells tX (x)) 0)),(1,(.agg [(.bool (f.1)),(.bool (f.2.1)),(.bool (f.2.2.1)),(.bool (f.2.2.2.1)),(.bool (f.2.2.2.2.1)),(.bool (f.2.2.2.2.2.1)),(.bool (f.2.2.2.2.2.2.1)),(.bool (f.2.2.2.2.2.2.2.1))])),(2,(.int .i64 (n))),(4,(.ptr 0 0)),(5,(.ptr 1 0)),(6,(.ptr 2 0)),(9,(.cp (Ty.cells tX (x)) 0)),(10,(.agg [(.bool (f.1)),(.bool (f.2.1)),(.bool (f.2.2.1)),(.bool (f.2.2.2.1)),(.bool (f.2.2.2.2.1)),(.bool (f.2.2.2.2.2.1)),(.bool (f.2.2.2.2.2.2.1)),(.bool (f.2.2.2.2.2.2.2.1))])),(11,(.fn 82 [] [(.ptr 3 0),(.ptr 4 0)]))]),#[12,13],(pcOf F2 44 [0,0,1,0,1]),(pcOf F2 44 [1,0,1,0,1])⟩]⟩,[(.lop (pcOf F2 82 [0,0,1,1]) 8 (tmOf 76 [(0,(.yld 5)),(1,(.ptr 3 0)),(2,(.ptr 4 0)),(4,(.ptr 6 0)),(5,(.ptr 7 0)),(6,(.int .i64 (0))),(10,(.cp (Ty.cells tX (x)) 0)),(11,(.agg [(.int .i64 ((firV x).1)),(.int .i64 ((firV x).2.1)),(.int .i64 ((firV x).2.2.1))])),(12,(.cp (Ty.cells tX (x)) 0)),(13,(.agg [(.int .i64 ((fulV x).1)),(.int .i64 ((fulV x).2.1)),(.int .i64 ((fulV x).2.2.1))])),(14,(.cp (Ty.cells tX (x)) 0)),(15,(.cp (Ty.cells tX (x)) 0)),(16,(.cp (Ty.cells tX (x)) 0)),(17,(.cp (Ty.cells tX (x)) 0)),(18,(.int .i64 (x.1.1))),(19,(.int .i64 (0)))]) x56),(.blk 0),(.cal [] (.rng (tmOf 19 [(0,(.cp (Ty.cells tX (x)) 0)),(1,(.agg [(.bool (f.1)),(.bool (f.2.1)),(.bool (f.2.2.1)),(.bool (f.2.2.2.1)),(.bool (f.2.2.2.2.1)),(.bool (f.2.2.2.2.2.1)),(.bool (f.2.2.2.2.2.2.1)),(.bool (f.2.2.2.2.2.2.2.1))])),(2,(.int .i64 (n))),(4,(.ptr 0 0)),(5,(.ptr 1 0)),(6,(.ptr 2 0)),(9,(.cp (Ty.cells tX (x)) 0)),(10,(.agg [(.bool (f.1)),(.bool (f.2.1)),(.bool (f.2.2.1)),(.bool (f.2.2.2.1)),(.bool (f.2.2.2.2.1)),(.bool (f.2.2.2.2.2.1)),(.bool (f.2.2.2.2.2.2.1)),(.bool (f.2.2.2.2.2.2.2.1))])),(11,(.fn 82 [] [(.ptr 3 0),(.ptr 4 0)]))]) [] 19 false ⟨20,[]⟩)),(.blk 0),(.seq (pcOf F2 44 [1,1])),(.cal [(.cell 6 87)] .top)]⟩
noncomputable def lefI2 (x:tX.den) (f:tB.den) (n:Int) (x0:Int) (x1:Int) (x27:Bool) (x35:Int) (x36:Bool) (x37:List (Ty.den tI)) (x43:Bool) (x46:Nat) (x47:Bool) (x63:Int) (x64:Int) (x70:List AV) (x156:Nat) (x172:Nat):Cfg:=⟨.ex (pcOf F2 82 [0,0,1,0,1,0,0,1,0,1,1,0,0,1,1,0,0,1,1]) ⟨(tmOf 76 [(0,(.yld 5)),(1,(.ptr 3 0)),(2,(.ptr 4 0)),(4,(.ptr 6 0)),(5,(.ptr 7 0)),(6,(.int .i64 x0)),(7,(.int .i64 x1)),(10,(.cp (Ty.cells tX (x)) 0)),(11,(.agg [(.int .i64 ((firV x).1)),(.int .i64 ((firV x).2.1)),(.int .i64 ((firV x).2.2.1))])),(12,(.cp (Ty.cells tX (x)) 0)),(13,(.agg [(.int .i64 ((fulV x).1)),(.int .i64 ((fulV x).2.1)),(.int .i64 ((fulV x).2.2.1))])),(14,(.cp (Ty.cells tX (x)) 0)),(15,(.cp (Ty.cells tX (x)) 0)),(16,(.cp (Ty.cells tX (x)) 0)),(17,(.cp (Ty.cells tX (x)) 0)),(18,(.int .i64 (x.1.1))),(19,(.int .i64 x1)),(20,(.bool (true))),(21,(.int .i64 x1)),(22,(.int .i64 x1)),(23,(.bool (false))),(26,(.int .i64 x0)),(27,(.cp (Ty.cells tX (x)) 0)),(28,(.cp (Ty.cells tX (x)) 0)),(29,(.cp (Ty.cells tX (x)) 6)),(30,(.vs tO (x.2.1.1) (x.2.1.2))),(31,(.int .i64 (Int.ofNat x.2.1.2.length))),(32,(.bool x27)),(33,(.bool (true))),(34,(.cp (Ty.cells tX (x)) 0)),(35,(.cp (Ty.cells tX (x)) 0)),(36,(.cp (Ty.cells tX (x)) 6)),(37,(.vs tO (x.2.1.1) (x.2.1.2))),(38,(.int .i64 x0)),(39,(.cp [(.int .i64 x35),(.vs tI x36 x37)] 0)),(40,(.cp [(.int .i64 x35),(.vs tI x36 x37)] 0)),(41,(.int .i64 x35)),(42,(.int .i64 x1)),(43,(.bool x43)),(44,(.bool (true))),(45,(.int .i64 x0)),(46,(.ptr 4 x46)),(47,(.bool x47)),(48,(.bool (true))),(49,(.cp (Ty.cells tX (x)) 0)),(50,(.cp (Ty.cells tX (x)) 0)),(51,(.cp (Ty.cells tX (x)) 6)),(52,(.vs tO (x.2.1.1) (x.2.1.2))),(53,(.int .i64 x0)),(54,(.cp [(.int .i64 x35),(.vs tI x36 x37)] 0)),(55,(.cp [(.int .i64 x35),(.vs tI x36 x37)] 1)),(56,(.vs tI x36 x37)),(57,(.int .i64 x63)),(58,(.int .i64 x64))]),(hpOf 8 [(0,(.cells false ([AV.bool f.1,AV.bool f.2.1,AV.bool f.2.2.1,AV.bool f.2.2.2.1,AV.bool f.2.2.2.2.1,AV.bool f.2.2.2.2.2.1,AV.bool f.2.2.2.2.2.2.1,AV.bool f.2.2.2.2.2.2.2.1]))),(1,(.cells false [(.int .i64 (n))])),(2,(.cells false ([AV.int IntKind.i64 0,AV.int IntKind.i64 0,AV.int IntKind.i64 0]))),(3,(.cells false [(.cp (Ty.cells tX (x)) 0)])),(4,(.cells false ([AV.bool f.1,AV.bool f.2.1,AV.bool f.2.2.1,AV.bool f.2.2.2.1,AV.bool f.2.2.2.2.1,AV.bool f.2.2.2.2.2.1,AV.bool f.2.2.2.2.2.2.1,AV.bool f.2.2.2.2.2.2.2.1]))),(6,(.cells false x70)),(7,(.cells false ([AV.int IntKind.i64 (fulV x).1,AV.int IntKind.i64 (fulV x).2.1,AV.int IntKind.i64 (fulV x).2.2.1])))]),[],[⟨false,.normal⟩],76,false⟩,⟨19,[⟨5,19,20,(tmOf 19 [(0,(.cp (Ty.cells tX (x)) 0)),(1,(.agg [(.bool (f.1)),(.bool (f.2.1)),(.bool (f.2.2.1)),(.bool (f.2.2.2.1)),(.bool (f.2.2.2.2.1)),(.bool (f.2.2.2.2.2.1)),(.bool (f.2.2.2.2.2.2.1)),(.bool (f.2.2.2.2.2.2.2.1))])),(2,(.int .i64 (n))),(4,(.ptr 0 0)),(5,(.ptr 1 0)),(6,(.ptr 2 0)),(9,(.cp (Ty.cells tX (x)) 0)),(10,(.agg [(.bool (f.1)),(.bool (f.2.1)),(.bool (f.2.2.1)),(.bool (f.2.2.2.1)),(.bool (f.2.2.2.2.1)),(.bool (f.2.2.2.2.2.1)),(.bool (f.2.2.2.2.2.2.1)),(.bool (f.2.2.2.2.2.2.2.1))])),(11,(.fn 82 [] [(.ptr 3 0),(.ptr 4 0)]))]),#[12,13],(pcOf F2 44 [0,0,1,0,1]),(pcOf F2 44 [1,0,1,0,1])⟩]⟩,[(.lop (pcOf F2 82 [0,0,1,0,1,0,0,1,0,1,1,0,0,1,1,0,0,1,1]) 8 (tmOf 76 [(0,(.yld 5)),(1,(.ptr 3 0)),(2,(.ptr 4 0)),(4,(.ptr 6 0)),(5,(.ptr 7 0)),(6,(.int .i64 x0)),(7,(.int .i64 x1)),(10,(.cp (Ty.cells tX (x)) 0)),(11,(.agg [(.int .i64 ((firV x).1)),(.int .i64 ((firV x).2.1)),(.int .i64 ((firV x).2.2.1))])),(12,(.cp (Ty.cells tX (x)) 0)),(13,(.agg [(.int .i64 ((fulV x).1)),(.int .i64 ((fulV x).2.1)),(.int .i64 ((fulV x).2.2.1))])),(14,(.cp (Ty.cells tX (x)) 0)),(15,(.cp (Ty.cells tX (x)) 0)),(16,(.cp (Ty.cells tX (x)) 0)),(17,(.cp (Ty.cells tX (x)) 0)),(18,(.int .i64 (x.1.1))),(19,(.int .i64 x1)),(20,(.bool (true))),(21,(.int .i64 x1)),(22,(.int .i64 x1)),(23,(.bool (false))),(26,(.int .i64 x0)),(27,(.cp (Ty.cells tX (x)) 0)),(28,(.cp (Ty.cells tX (x)) 0)),(29,(.cp (Ty.cells tX (x)) 6)),(30,(.vs tO (x.2.1.1) (x.2.1.2))),(31,(.int .i64 (Int.ofNat x.2.1.2.length))),(32,(.bool x27)),(33,(.bool (true))),(34,(.cp (Ty.cells tX (x)) 0)),(35,(.cp (Ty.cells tX (x)) 0)),(36,(.cp (Ty.cells tX (x)) 6)),(37,(.vs tO (x.2.1.1) (x.2.1.2))),(38,(.int .i64 x0)),(39,(.cp [(.int .i64 x35),(.vs tI x36 x37)] 0)),(40,(.cp [(.int .i64 x35),(.vs tI x36 x37)] 0)),(41,(.int .i64 x35)),(42,(.int .i64 x1)),(43,(.bool x43)),(44,(.bool (true))),(45,(.int .i64 x0)),(46,(.ptr 4 x46)),(47,(.bool x47)),(48,(.bool (true))),(49,(.cp (Ty.cells tX (x)) 0)),(50,(.cp (Ty.cells tX (x)) 0)),(51,(.cp (Ty.cells tX (x)) 6)),(52,(.vs tO (x.2.1.1) (x.2.1.2))),(53,(.int .i64 x0)),(54,(.cp [(.int .i64 x35),(.vs tI x36 x37)] 0)),(55,(.cp [(.int .i64 x35),(.vs tI x36 x37)] 1)),(56,(.vs tI x36 x37)),(57,(.int .i64 x63)),(58,(.int .i64 (0)))]) x156),(.blk 2),(.seq (pcOf F2 82 [1,0,1,0,1,1,0,0,1,1,0,0,1,1])),(.seq (pcOf F2 82 [1,1,1,0,0,1,1,0,0,1,1])),(.blk 1),(.seq (pcOf F2 82 [1,1,1,0,0,1,1])),(.lop (pcOf F2 82 [0,0,1,1]) 8 (tmOf 76 [(0,(.yld 5)),(1,(.ptr 3 0)),(2,(.ptr 4 0)),(4,(.ptr 6 0)),(5,(.ptr 7 0)),(6,(.int .i64 (0))),(10,(.cp (Ty.cells tX (x)) 0)),(11,(.agg [(.int .i64 ((firV x).1)),(.int .i64 ((firV x).2.1)),(.int .i64 ((firV x).2.2.1))])),(12,(.cp (Ty.cells tX (x)) 0)),(13,(.agg [(.int .i64 ((fulV x).1)),(.int .i64 ((fulV x).2.1)),(.int .i64 ((fulV x).2.2.1))])),(14,(.cp (Ty.cells tX (x)) 0)),(15,(.cp (Ty.cells tX (x)) 0)),(16,(.cp (Ty.cells tX (x)) 0)),(17,(.cp (Ty.cells tX (x)) 0)),(18,(.int .i64 (x.1.1))),(19,(.int .i64 (0)))]) x172),(.blk 0),(.cal [] (.rng (tmOf 19 [(0,(.cp (Ty.cells tX (x)) 0)),(1,(.agg [(.bool (f.1)),(.bool (f.2.1)),(.bool (f.2.2.1)),(.bool (f.2.2.2.1)),(.bool (f.2.2.2.2.1)),(.bool (f.2.2.2.2.2.1)),(.bool (f.2.2.2.2.2.2.1)),(.bool (f.2.2.2.2.2.2.2.1))])),(2,(.int .i64 (n))),(4,(.ptr 0 0)),(5,(.ptr 1 0)),(6,(.ptr 2 0)),(9,(.cp (Ty.cells tX (x)) 0)),(10,(.agg [(.bool (f.1)),(.bool (f.2.1)),(.bool (f.2.2.1)),(.bool (f.2.2.2.1)),(.bool (f.2.2.2.2.1)),(.bool (f.2.2.2.2.2.1)),(.bool (f.2.2.2.2.2.2.1)),(.bool (f.2.2.2.2.2.2.2.1))])),(11,(.fn 82 [] [(.ptr 3 0),(.ptr 4 0)]))]) [] 19 false ⟨20,[]⟩)),(.blk 0),(.seq (pcOf F2 44 [1,1])),(.cal [(.cell 6 87)] .top)]⟩
noncomputable def lefI3 (x:tX.den) (f:tB.den) (n:Int) (x0:Int) (x1:Int) (x20:Int) (x21:Int) (x22:Int) (x23:Int) (x24:Int) (x25:Int) (x33:Bool) (x41:Int) (x42:Bool) (x43:List (Ty.den tI)) (x49:Bool) (x52:Nat) (x53:Bool) (x69:Int) (x70:Int) (x76:List AV) (x168:Nat) (x184:Nat):Cfg:=⟨.ex (pcOf F2 82 [0,0,1,0,1,0,0,1,0,1,1,0,0,1,1,0,0,1,1]) ⟨(tmOf 76 [(0,(.yld 5)),(1,(.ptr 3 0)),(2,(.ptr 4 0)),(4,(.ptr 6 0)),(5,(.ptr 7 0)),(6,(.int .i64 x0)),(7,(.int .i64 x1)),(10,(.cp (Ty.cells tX (x)) 0)),(11,(.agg [(.int .i64 ((firV x).1)),(.int .i64 ((firV x).2.1)),(.int .i64 ((firV x).2.2.1))])),(12,(.cp (Ty.cells tX (x)) 0)),(13,(.agg [(.int .i64 ((fulV x).1)),(.int .i64 ((fulV x).2.1)),(.int .i64 ((fulV x).2.2.1))])),(14,(.cp (Ty.cells tX (x)) 0)),(15,(.cp (Ty.cells tX (x)) 0)),(16,(.cp (Ty.cells tX (x)) 0)),(17,(.cp (Ty.cells tX (x)) 0)),(18,(.int .i64 (x.1.1))),(19,(.int .i64 x1)),(20,(.bool (true))),(21,(.int .i64 x1)),(22,(.int .i64 x1)),(23,(.bool (true))),(24,(.agg [(.int .i64 x20),(.int .i64 x21),(.int .i64 x22)])),(25,(.agg [(.int .i64 x23),(.int .i64 x24),(.int .i64 x25)])),(26,(.int .i64 x0)),(27,(.cp (Ty.cells tX (x)) 0)),(28,(.cp (Ty.cells tX (x)) 0)),(29,(.cp (Ty.cells tX (x)) 6)),(30,(.vs tO (x.2.1.1) (x.2.1.2))),(31,(.int .i64 (Int.ofNat x.2.1.2.length))),(32,(.bool x33)),(33,(.bool (true))),(34,(.cp (Ty.cells tX (x)) 0)),(35,(.cp (Ty.cells tX (x)) 0)),(36,(.cp (Ty.cells tX (x)) 6)),(37,(.vs tO (x.2.1.1) (x.2.1.2))),(38,(.int .i64 x0)),(39,(.cp [(.int .i64 x41),(.vs tI x42 x43)] 0)),(40,(.cp [(.int .i64 x41),(.vs tI x42 x43)] 0)),(41,(.int .i64 x41)),(42,(.int .i64 x1)),(43,(.bool x49)),(44,(.bool (true))),(45,(.int .i64 x0)),(46,(.ptr 4 x52)),(47,(.bool x53)),(48,(.bool (true))),(49,(.cp (Ty.cells tX (x)) 0)),(50,(.cp (Ty.cells tX (x)) 0)),(51,(.cp (Ty.cells tX (x)) 6)),(52,(.vs tO (x.2.1.1) (x.2.1.2))),(53,(.int .i64 x0)),(54,(.cp [(.int .i64 x41),(.vs tI x42 x43)] 0)),(55,(.cp [(.int .i64 x41),(.vs tI x42 x43)] 1)),(56,(.vs tI x42 x43)),(57,(.int .i64 x69)),(58,(.int .i64 x70))]),(hpOf 8 [(0,(.cells false ([AV.bool f.1,AV.bool f.2.1,AV.bool f.2.2.1,AV.bool f.2.2.2.1,AV.bool f.2.2.2.2.1,AV.bool f.2.2.2.2.2.1,AV.bool f.2.2.2.2.2.2.1,AV.bool f.2.2.2.2.2.2.2.1]))),(1,(.cells false [(.int .i64 (n))])),(2,(.cells false ([AV.int IntKind.i64 0,AV.int IntKind.i64 0,AV.int IntKind.i64 0]))),(3,(.cells false [(.cp (Ty.cells tX (x)) 0)])),(4,(.cells false ([AV.bool f.1,AV.bool f.2.1,AV.bool f.2.2.1,AV.bool f.2.2.2.1,AV.bool f.2.2.2.2.1,AV.bool f.2.2.2.2.2.1,AV.bool f.2.2.2.2.2.2.1,AV.bool f.2.2.2.2.2.2.2.1]))),(6,(.cells false x76)),(7,(.cells false ([AV.int IntKind.i64 (fulV x).1,AV.int IntKind.i64 (fulV x).2.1,AV.int IntKind.i64 (fulV x).2.2.1])))]),[],[⟨false,.normal⟩],76,false⟩,⟨19,[⟨5,19,20,(tmOf 19 [(0,(.cp (Ty.cells tX (x)) 0)),(1,(.agg [(.bool (f.1)),(.bool (f.2.1)),(.bool (f.2.2.1)),(.bool (f.2.2.2.1)),(.bool (f.2.2.2.2.1)),(.bool (f.2.2.2.2.2.1)),(.bool (f.2.2.2.2.2.2.1)),(.bool (f.2.2.2.2.2.2.2.1))])),(2,(.int .i64 (n))),(4,(.ptr 0 0)),(5,(.ptr 1 0)),(6,(.ptr 2 0)),(9,(.cp (Ty.cells tX (x)) 0)),(10,(.agg [(.bool (f.1)),(.bool (f.2.1)),(.bool (f.2.2.1)),(.bool (f.2.2.2.1)),(.bool (f.2.2.2.2.1)),(.bool (f.2.2.2.2.2.1)),(.bool (f.2.2.2.2.2.2.1)),(.bool (f.2.2.2.2.2.2.2.1))])),(11,(.fn 82 [] [(.ptr 3 0),(.ptr 4 0)]))]),#[12,13],(pcOf F2 44 [0,0,1,0,1]),(pcOf F2 44 [1,0,1,0,1])⟩]⟩,[(.lop (pcOf F2 82 [0,0,1,0,1,0,0,1,0,1,1,0,0,1,1,0,0,1,1]) 8 (tmOf 76 [(0,(.yld 5)),(1,(.ptr 3 0)),(2,(.ptr 4 0)),(4,(.ptr 6 0)),(5,(.ptr 7 0)),(6,(.int .i64 x0)),(7,(.int .i64 x1)),(10,(.cp (Ty.cells tX (x)) 0)),(11,(.agg [(.int .i64 ((firV x).1)),(.int .i64 ((firV x).2.1)),(.int .i64 ((firV x).2.2.1))])),(12,(.cp (Ty.cells tX (x)) 0)),(13,(.agg [(.int .i64 ((fulV x).1)),(.int .i64 ((fulV x).2.1)),(.int .i64 ((fulV x).2.2.1))])),(14,(.cp (Ty.cells tX (x)) 0)),(15,(.cp (Ty.cells tX (x)) 0)),(16,(.cp (Ty.cells tX (x)) 0)),(17,(.cp (Ty.cells tX (x)) 0)),(18,(.int .i64 (x.1.1))),(19,(.int .i64 x1)),(20,(.bool (true))),(21,(.int .i64 x1)),(22,(.int .i64 x1)),(23,(.bool (true))),(24,(.agg [(.int .i64 x20),(.int .i64 x21),(.int .i64 x22)])),(25,(.agg [(.int .i64 x23),(.int .i64 x24),(.int .i64 x25)])),(26,(.int .i64 x0)),(27,(.cp (Ty.cells tX (x)) 0)),(28,(.cp (Ty.cells tX (x)) 0)),(29,(.cp (Ty.cells tX (x)) 6)),(30,(.vs tO (x.2.1.1) (x.2.1.2))),(31,(.int .i64 (Int.ofNat x.2.1.2.length))),(32,(.bool x33)),(33,(.bool (true))),(34,(.cp (Ty.cells tX (x)) 0)),(35,(.cp (Ty.cells tX (x)) 0)),(36,(.cp (Ty.cells tX (x)) 6)),(37,(.vs tO (x.2.1.1) (x.2.1.2))),(38,(.int .i64 x0)),(39,(.cp [(.int .i64 x41),(.vs tI x42 x43)] 0)),(40,(.cp [(.int .i64 x41),(.vs tI x42 x43)] 0)),(41,(.int .i64 x41)),(42,(.int .i64 x1)),(43,(.bool x49)),(44,(.bool (true))),(45,(.int .i64 x0)),(46,(.ptr 4 x52)),(47,(.bool x53)),(48,(.bool (true))),(49,(.cp (Ty.cells tX (x)) 0)),(50,(.cp (Ty.cells tX (x)) 0)),(51,(.cp (Ty.cells tX (x)) 6)),(52,(.vs tO (x.2.1.1) (x.2.1.2))),(53,(.int .i64 x0)),(54,(.cp [(.int .i64 x41),(.vs tI x42 x43)] 0)),(55,(.cp [(.int .i64 x41),(.vs tI x42 x43)] 1)),(56,(.vs tI x42 x43)),(57,(.int .i64 x69)),(58,(.int .i64 (0)))]) x168),(.blk 2),(.seq (pcOf F2 82 [1,0,1,0,1,1,0,0,1,1,0,0,1,1])),(.seq (pcOf F2 82 [1,1,1,0,0,1,1,0,0,1,1])),(.blk 1),(.seq (pcOf F2 82 [1,1,1,0,0,1,1])),(.lop (pcOf F2 82 [0,0,1,1]) 8 (tmOf 76 [(0,(.yld 5)),(1,(.ptr 3 0)),(2,(.ptr 4 0)),(4,(.ptr 6 0)),(5,(.ptr 7 0)),(6,(.int .i64 (0))),(10,(.cp (Ty.cells tX (x)) 0)),(11,(.agg [(.int .i64 ((firV x).1)),(.int .i64 ((firV x).2.1)),(.int .i64 ((firV x).2.2.1))])),(12,(.cp (Ty.cells tX (x)) 0)),(13,(.agg [(.int .i64 ((fulV x).1)),(.int .i64 ((fulV x).2.1)),(.int .i64 ((fulV x).2.2.1))])),(14,(.cp (Ty.cells tX (x)) 0)),(15,(.cp (Ty.cells tX (x)) 0)),(16,(.cp (Ty.cells tX (x)) 0)),(17,(.cp (Ty.cells tX (x)) 0)),(18,(.int .i64 (x.1.1))),(19,(.int .i64 (0)))]) x184),(.blk 0),(.cal [] (.rng (tmOf 19 [(0,(.cp (Ty.cells tX (x)) 0)),(1,(.agg [(.bool (f.1)),(.bool (f.2.1)),(.bool (f.2.2.1)),(.bool (f.2.2.2.1)),(.bool (f.2.2.2.2.1)),(.bool (f.2.2.2.2.2.1)),(.bool (f.2.2.2.2.2.2.1)),(.bool (f.2.2.2.2.2.2.2.1))])),(2,(.int .i64 (n))),(4,(.ptr 0 0)),(5,(.ptr 1 0)),(6,(.ptr 2 0)),(9,(.cp (Ty.cells tX (x)) 0)),(10,(.agg [(.bool (f.1)),(.bool (f.2.1)),(.bool (f.2.2.1)),(.bool (f.2.2.2.1)),(.bool (f.2.2.2.2.1)),(.bool (f.2.2.2.2.2.1)),(.bool (f.2.2.2.2.2.2.1)),(.bool (f.2.2.2.2.2.2.2.1))])),(11,(.fn 82 [] [(.ptr 3 0),(.ptr 4 0)]))]) [] 19 false ⟨20,[]⟩)),(.blk 0),(.seq (pcOf F2 44 [1,1])),(.cal [(.cell 6 87)] .top)]⟩
theorem lef_start (x:tX.den) (f:tB.den) (n:Int):adv F2 ((Z2 [82]).flat [6]) 3000 (startC F2 44 [tX.pv x,tB.av f,.int .i64 n] 20)=(bif x.1.2.1.2.length.ble 3 then (bif x.1.2.1.2.length.ble 3 then (bif avbeq (AV.cp (tX.cells x) 0) (AV.cp (tX.cells x) 0) then (bif avbeq (AV.cp (tX.cells x) 0) (AV.cp (tX.cells x) 0) then (bif avbeq (AV.cp (tX.cells x) 0) (AV.cp (tX.cells x) 0) then some (.stop (lefI0 x f n (0) (0) ([AV.int IntKind.i64 (firV x).1,AV.int IntKind.i64 (firV x).2.1,AV.int IntKind.i64 (firV x).2.2.1]) (1048575))) else none) else none) else none) else none) else none):=by kernel_rfl
noncomputable def lfX (x:tX.den) (f:tB.den) (n:Int) (o d:Int) (l:tL.den) (m:Nat):Option Out:=(bif ieq d n then some (.done (.agg [.int .i64 l.1,.int .i64 l.2.1,.int .i64 l.2.2.1])) else some (.stop (lefI0 x f n o (wr .i64 (d+1)) (trL l) m)))
noncomputable def lf2 (x:tX.den) (f:tB.den) (n:Int) (o d k:Int) (c:List AV) (m q:Nat):Cfg:=lefI2 x f n o d (!ile (olX x:Int) o) (x.2.1.2.getD o.toNat tO.dflt).1 (x.2.1.2.getD o.toNat tO.dflt).2.1.1 (x.2.1.2.getD o.toNat tO.dflt).2.1.2 (ieq (x.2.1.2.getD o.toNat tO.dflt).1 d) (0+o.toNat * 1) (toB ((flL f).getD (0+o.toNat * 1) AV.nili)) (Int.ofNat (x.2.1.2.getD o.toNat tO.dflt).2.1.2.length) k c m q
noncomputable def lf3 (x:tX.den) (f:tB.den) (n:Int) (o d k:Int) (l:tL.den) (c:List AV) (m q:Nat):Cfg:=lefI3 x f n o d l.1 l.2.1 l.2.2.1 (nexV l).1 (nexV l).2.1 (nexV l).2.2.1 (!ile (olX x:Int) o) (x.2.1.2.getD o.toNat tO.dflt).1 (x.2.1.2.getD o.toNat tO.dflt).2.1.1 (x.2.1.2.getD o.toNat tO.dflt).2.1.2 (ieq (x.2.1.2.getD o.toNat tO.dflt).1 d) (0+o.toNat * 1) (toB ((flL f).getD (0+o.toNat * 1) AV.nili)) (Int.ofNat (x.2.1.2.getD o.toNat tO.dflt).2.1.2.length) k c m q
theorem lef0 (x:tX.den) (f:tB.den) (n:Int) (o d:Int) (l:tL.den) (m:Nat):adv F2 ((Z2 [82]).flat [6]) 3000 (lefI0 x f n o d (trL l) (m+1))=(bif !ile x.1.1 d then (bif !ile d 0 then (bif !ile (olX x:Int) o then (bif inB o (olX x) then (bif ieq (x.2.1.2.getD o.toNat tO.dflt).1 d then (bif inB o 8 then (bif isZs (flL f) [AV.bool false] (0+o.toNat * 1) then (bif !toB ((flL f).getD (0+o.toNat * 1) AV.nili) then (bif inB o (olX x) then some (.stop (lf3 x f n o d 0 l (trL (nexV l)) 1048575 (m+1))) else none) else lfX x f n (wr .i64 (o+1)) d (nexV l) m) else none) else none) else lfX x f n o d (nexV l) m) else none) else lfX x f n o d (nexV l) m) else (bif !ile (olX x:Int) o then (bif inB o (olX x) then (bif ieq (x.2.1.2.getD o.toNat tO.dflt).1 d then (bif inB o 8 then (bif isZs (flL f) [AV.bool false] (0+o.toNat * 1) then (bif !toB ((flL f).getD (0+o.toNat * 1) AV.nili) then (bif inB o (olX x) then some (.stop (lf2 x f n o d 0 (trL l) 1048575 (m+1))) else none) else lfX x f n (wr .i64 (o+1)) d l m) else none) else none) else lfX x f n o d l m) else none) else lfX x f n o d l m)) else some (.done (.agg [.int .i64 0,.int .i64 0,.int .i64 0]))):=by kernel_rfl
theorem lef2 (x:tX.den) (f:tB.den) (n:Int) (o d k:Int) (l c:tL.den) (m q:Nat):adv F2 ((Z2 [82]).flat [6]) 3000 (lf2 x f n o d k (trL c) (m+1) (q+1))=(bif !ile (Int.ofNat (x.2.1.2.getD o.toNat tO.dflt).2.1.2.length) k then (bif inB k (x.2.1.2.getD o.toNat tO.dflt).2.1.2.length then (bif inB ((x.2.1.2.getD o.toNat tO.dflt).2.1.2.getD k.toNat tI.dflt) 3 then (bif isZs [AV.int .i64 (fulV x).1,AV.int .i64 (fulV x).2.1,AV.int .i64 (fulV x).2.2.1] [AV.int .i64 0] (0+Int.toNat ((x.2.1.2.getD o.toNat tO.dflt).2.1.2.getD k.toNat tI.dflt) * 1) then (bif inB ((x.2.1.2.getD o.toNat tO.dflt).2.1.2.getD k.toNat tI.dflt) 3 then (bif (0+Int.toNat ((x.2.1.2.getD o.toNat tO.dflt).2.1.2.getD k.toNat tI.dflt) * 1+1).ble 3 then (bif plO (AO.cells false ((trL c).set (0+Int.toNat ((x.2.1.2.getD o.toNat tO.dflt).2.1.2.getD k.toNat tI.dflt) * 1) (AV.int .i64 (toI ([AV.int .i64 (fulV x).1,AV.int .i64 (fulV x).2.1,AV.int .i64 (fulV x).2.2.1].getD (0+Int.toNat ((x.2.1.2.getD o.toNat tO.dflt).2.1.2.getD k.toNat tI.dflt) * 1) AV.nili))))) then some (.stop (lf2 x f n o d (wr .i64 (k+1)) ((trL c).set (0+Int.toNat ((x.2.1.2.getD o.toNat tO.dflt).2.1.2.getD k.toNat tI.dflt) * 1) (AV.int .i64 (toI ([AV.int .i64 (fulV x).1,AV.int .i64 (fulV x).2.1,AV.int .i64 (fulV x).2.2.1].getD (0+Int.toNat ((x.2.1.2.getD o.toNat tO.dflt).2.1.2.getD k.toNat tI.dflt) * 1) AV.nili)))) m (q+1))) else none) else none) else none) else none) else none) else none) else lfX x f n (wr .i64 (o+1)) d c q):=by kernel_rfl
theorem lef3 (x:tX.den) (f:tB.den) (n:Int) (o d k:Int) (l c:tL.den) (m q:Nat):adv F2 ((Z2 [82]).flat [6]) 3000 (lf3 x f n o d k l (trL c) (m+1) (q+1))=(bif !ile (Int.ofNat (x.2.1.2.getD o.toNat tO.dflt).2.1.2.length) k then (bif inB k (x.2.1.2.getD o.toNat tO.dflt).2.1.2.length then (bif inB ((x.2.1.2.getD o.toNat tO.dflt).2.1.2.getD k.toNat tI.dflt) 3 then (bif isZs [AV.int .i64 (fulV x).1,AV.int .i64 (fulV x).2.1,AV.int .i64 (fulV x).2.2.1] [AV.int .i64 0] (0+Int.toNat ((x.2.1.2.getD o.toNat tO.dflt).2.1.2.getD k.toNat tI.dflt) * 1) then (bif inB ((x.2.1.2.getD o.toNat tO.dflt).2.1.2.getD k.toNat tI.dflt) 3 then (bif (0+Int.toNat ((x.2.1.2.getD o.toNat tO.dflt).2.1.2.getD k.toNat tI.dflt) * 1+1).ble 3 then (bif plO (AO.cells false ((trL c).set (0+Int.toNat ((x.2.1.2.getD o.toNat tO.dflt).2.1.2.getD k.toNat tI.dflt) * 1) (AV.int .i64 (toI ([AV.int .i64 (fulV x).1,AV.int .i64 (fulV x).2.1,AV.int .i64 (fulV x).2.2.1].getD (0+Int.toNat ((x.2.1.2.getD o.toNat tO.dflt).2.1.2.getD k.toNat tI.dflt) * 1) AV.nili))))) then some (.stop (lf3 x f n o d (wr .i64 (k+1)) l ((trL c).set (0+Int.toNat ((x.2.1.2.getD o.toNat tO.dflt).2.1.2.getD k.toNat tI.dflt) * 1) (AV.int .i64 (toI ([AV.int .i64 (fulV x).1,AV.int .i64 (fulV x).2.1,AV.int .i64 (fulV x).2.2.1].getD (0+Int.toNat ((x.2.1.2.getD o.toNat tO.dflt).2.1.2.getD k.toNat tI.dflt) * 1) AV.nili)))) m (q+1))) else none) else none) else none) else none) else none) else none) else lfX x f n (wr .i64 (o+1)) d c q):=by kernel_rfl
noncomputable def lfT (x:tX.den) (f:tB.den) (n:Int):Nat→Nat→Nat×tL.den→tL.den
 |0,_,_=>(0,0,0,())
 |r+1,d,s=>bif ieq d n then (stM x f d s).2 else lfT x f n r (d+1) (stM x f d s)
noncomputable def lfR (x:tX.den) (f:tB.den) (n:Int) (r d:Nat) (s:Nat×tL.den):AV:=tL.av (lfT x f n r d s)
noncomputable abbrev ZY:Sy:=(Z2 [82]).flat [6]
theorem ZY_ok:ZY.ok F2:=Sy.flat_ok (Z2_ok _)
theorem lf2_ans {x:tX.den} {f:tB.den} {n:Int} (X:XOK x) {o d:Nat} (ho:o<olX x) {p:Nat} {V:AV} {w:tL.den}
  (K:∀ cfg q,adv F2 ((Z2 [82]).flat [6]) q cfg=lfX x f n ((o+1:Nat):Int) d w p→Ans F2 cfg V) :
  ∀ (r k m:Nat) (c:tL.den),k+r=(ordI x o).2.1.2.length→r<m→bringL (fulV x) ((ordI x o).2.1.2.drop k) c=w→Ans F2 (lf2 x f n o d k (trL c) m (p+1)) V
 |0,k,m+1,c,hk,hm,hw=>by
  have h:=lef2 x f n o d k (0,0,0,()) c m p
  rw[show (x.2.1.2.getD ((o:Nat):Int).toNat tO.dflt)=ordI x o from rfl,ile_t (show Int.ofNat (ordI x o).2.1.2.length≤(k:Int) by show (((ordI x o).2.1.2.length:Nat):Int)≤k;omega),Bool.not_true,cond_false,wr_succ (show o<1048577 by have:=X.o;omega)] at h
  rw[List.drop_eq_nil_of_le (by omega)] at hw
  have hw:c=w:=hw
  subst hw
  exact K _ _ h
 |r+1,k,m+1,c,hk,hm,hw=>by
  have h:=lef2 x f n o d k (0,0,0,()) c m p
  have hlt:k<(ordI x o).2.1.2.length:=by omega
  obtain⟨hl,hc⟩:=X.c o ho
  rw[show (x.2.1.2.getD ((o:Nat):Int).toNat tO.dflt)=ordI x o from rfl,ile_f (show (k:Int)<Int.ofNat (ordI x o).2.1.2.length by show (k:Int)<(((ordI x o).2.1.2.length:Nat):Int);omega),inB_at hlt,getD_at hlt,wr_succ (show k<1048577 by omega),Bool.not_false,cond_true,cond_true] at h
  rw[List.drop_eq_getElem_cons hlt] at hw
  have hi:=hc _ (List.getElem_mem hlt)
  obtain⟨a1,a2,a3⟩:=inn_at x c hi
  rw[hi,a1,a2,a3] at h
  exact .stop ZY_ok F2sy h (lf2_ans X ho K r (k+1) m _ (by omega) (by omega) hw)
theorem lf3_ans {x:tX.den} {f:tB.den} {n:Int} (X:XOK x) {o d:Nat} (ho:o<olX x) {l:tL.den} {p:Nat} {V:AV} {w:tL.den}
  (K:∀ cfg q,adv F2 ((Z2 [82]).flat [6]) q cfg=lfX x f n ((o+1:Nat):Int) d w p→Ans F2 cfg V) :
  ∀ (r k m:Nat) (c:tL.den),k+r=(ordI x o).2.1.2.length→r<m→bringL (fulV x) ((ordI x o).2.1.2.drop k) c=w→Ans F2 (lf3 x f n o d k l (trL c) m (p+1)) V
 |0,k,m+1,c,hk,hm,hw=>by
  have h:=lef3 x f n o d k l c m p
  rw[show (x.2.1.2.getD ((o:Nat):Int).toNat tO.dflt)=ordI x o from rfl,ile_t (show Int.ofNat (ordI x o).2.1.2.length≤(k:Int) by show (((ordI x o).2.1.2.length:Nat):Int)≤k;omega),Bool.not_true,cond_false,wr_succ (show o<1048577 by have:=X.o;omega)] at h
  rw[List.drop_eq_nil_of_le (by omega)] at hw
  have hw:c=w:=hw
  subst hw
  exact K _ _ h
 |r+1,k,m+1,c,hk,hm,hw=>by
  have h:=lef3 x f n o d k l c m p
  have hlt:k<(ordI x o).2.1.2.length:=by omega
  obtain⟨hl,hc⟩:=X.c o ho
  rw[show (x.2.1.2.getD ((o:Nat):Int).toNat tO.dflt)=ordI x o from rfl,ile_f (show (k:Int)<Int.ofNat (ordI x o).2.1.2.length by show (k:Int)<(((ordI x o).2.1.2.length:Nat):Int);omega),inB_at hlt,getD_at hlt,wr_succ (show k<1048577 by omega),Bool.not_false,cond_true,cond_true] at h
  rw[List.drop_eq_getElem_cons hlt] at hw
  have hi:=hc _ (List.getElem_mem hlt)
  obtain⟨a1,a2,a3⟩:=inn_at x c hi
  rw[hi,a1,a2,a3] at h
  exact .stop ZY_ok F2sy h (lf3_ans X ho K r (k+1) m _ (by omega) (by omega) hw)
theorem lef_ans {x : tX.den} {f : tB.den} {n : Int} (X : XOK x) : ∀ (r d m : Nat) (s : Nat × tL.den), d + r = x.1.1.toNat → r < m → s.1 ≤ olX x → Ans F2 (lefI0 x f n s.1 d (trL s.2) m) (lfR x f n r d s)
 |0,d,m+1,s,hd,hm,hs=>by
  have h:=lef0 x f n s.1 d s.2 m
  rw[ile_t (toNat_le hd),Bool.not_true,cond_false] at h
  exact .done ZY_ok F2sy h rfl
 | r + 1, d, m + 1, s, hd, hm, hs => by
  have h:=lef0 x f n s.1 d s.2 m
  have hX:=X.d
  have hO:=X.o
  have h1:@LT.lt Int _ (d:Int) x.1.1:=toNat_lt hd
  have hd':d<1048577:=by have:=toNat_b hd hX;omega
  rw[ile_f h1,Bool.not_false,cond_true] at h
  have fin:∀ cfg q,adv F2 ((Z2 [82]).flat [6]) q cfg=lfX x f n ((stM x f d s).1:Nat) d (stM x f d s).2 m→Ans F2 cfg (lfR x f n (r+1) d s):=by
   intro cfg q hq
   unfold lfX at hq
   rw[wr_succ hd'] at hq
   show Ans F2 _ (tL.av (bif ieq d n then (stM x f d s).2 else lfT x f n r (d+1) (stM x f d s)))
   cases c:ieq (d:Int) n with
   |true=>
    rw[c,cond_true] at hq
    exact .done ZY_ok F2sy hq rfl
   |false=>
    rw[c,cond_false] at hq
    exact .stop ZY_ok F2sy hq (lef_ans (f:=f) (n:=n) X r (d+1) m (stM x f d s) (by omega) (by omega) (st_le hs))
  rw[show (x.2.1.2.getD ((s.1:Nat):Int).toNat tO.dflt)=ordI x s.1 from rfl] at h
  have hst:stM x f d s=bif hitO x d s.1 then (s.1+1,bif flB f s.1 then (bif Nat.beq d 0 then s.2 else nexV s.2) else bringL (fulV x) (ordI x s.1).2.1.2 (bif Nat.beq d 0 then s.2 else nexV s.2)) else (s.1,bif Nat.beq d 0 then s.2 else nexV s.2):=rfl
  by_cases ho:s.1<olX x
  · have ho8 : s.1 < 8 := by omega
    rw[ile_f (show (s.1:Int)<((olX x:Nat):Int) by omega),inB_at ho,inB_at ho8,show 0+((s.1:Nat):Int).toNat * 1=s.1 by simp,fl_is f ho8,show toB ((flL f).getD s.1 AV.nili)=flB f s.1 from rfl,wr_succ (show s.1<1048577 by omega)] at h
    simp only[Bool.not_false,cond_true] at h
    have eh:hitO x d s.1=ieq (ordI x s.1).1 d:=by
     unfold hitO;rw[show Nat.blt s.1 (olX x)=true from Nat.ble_eq_true_of_le ho,Bool.true_and]
    rw[eh] at hst
    have hcl:=(X.c s.1 ho).1
    cases c:ieq (ordI x s.1).1 d with
    |false=>
     rw[c,cond_false,cond_false] at h
     rw[c,cond_false] at hst
     by_cases h0:d=0
     · subst h0
       rw[show ile ((0:Nat):Int) 0=true from rfl,Bool.not_true,cond_false] at h
       refine fin _ 3000 ?_
       rw[hst];exact h
     · rw [ile_f (show (0 : Int) < (d : Int) by omega), Bool.not_false, cond_true] at h
       rw[show Nat.beq d 0=false by cases d with|zero=>exact absurd rfl h0|succ d=>rfl,cond_false] at hst
       refine fin _ 3000 ?_
       rw[hst];exact h
    | true =>
     rw[c,cond_true,cond_true] at h
     rw[c,cond_true] at hst
     cases cf:flB f s.1 with
     |true=>
      rw[cf] at h hst
      simp only[Bool.not_true,cond_false] at h
      rw[cond_true] at hst
      by_cases h0:d=0
      · subst h0
        rw[show ile ((0:Nat):Int) 0=true from rfl,Bool.not_true,cond_false] at h
        refine fin _ 3000 ?_
        rw[hst];exact h
      · rw [ile_f (show (0 : Int) < (d : Int) by omega), Bool.not_false, cond_true] at h
        rw[show Nat.beq d 0=false by cases d with|zero=>exact absurd rfl h0|succ d=>rfl,cond_false] at hst
        refine fin _ 3000 ?_
        rw[hst];exact h
     |false=>
      rw[cf] at h hst
      simp only[Bool.not_false,cond_true] at h
      rw[cond_false] at hst
      by_cases h0:d=0
      · subst h0
        rw[show ile ((0:Nat):Int) 0=true from rfl,Bool.not_true,cond_false] at h
        refine .stop ZY_ok F2sy h ?_
        refine lf2_ans X ho (w:=(stM x f 0 s).2) (fun cfg q hq=>fin cfg q ?_) _ 0 1048575 s.2 (Nat.zero_add _) (by omega) ?_
        · rw[show (stM x f 0 s).1=s.1+1 by rw[hst]];exact hq
        · rw[hst];rfl
      · rw [ile_f (show (0 : Int) < (d : Int) by omega), Bool.not_false, cond_true] at h
        rw[show Nat.beq d 0=false by cases d with|zero=>exact absurd rfl h0|succ d=>rfl,cond_false] at hst
        refine .stop ZY_ok F2sy h ?_
        refine lf3_ans X ho (w:=(stM x f d s).2) (fun cfg q hq=>fin cfg q ?_) _ 0 1048575 (nexV s.2) (Nat.zero_add _) (by omega) ?_
        · rw[show (stM x f d s).1=s.1+1 by rw[hst]];exact hq
        · rw[hst];rfl
  · have hno : hitO x d s.1 = false := by
     unfold hitO
     rw[show Nat.blt s.1 (olX x)=false from by
      cases e:Nat.blt s.1 (olX x) with
      |false=>rfl
      |true=>exact absurd (Nat.le_of_ble_eq_true e) ho,Bool.false_and]
    rw[hno,cond_false] at hst
    rw[ile_t (show ((olX x:Nat):Int)≤(s.1:Int) by omega)] at h
    simp only[Bool.not_true,cond_false] at h
    by_cases h0:d=0
    · subst h0
      rw[show ile ((0:Nat):Int) 0=true from rfl,Bool.not_true,cond_false] at h
      refine fin _ 3000 ?_
      rw[hst];exact h
    · rw [ile_f (show (0 : Int) < (d : Int) by omega), Bool.not_false, cond_true] at h
      rw[show Nat.beq d 0=false by cases d with|zero=>exact absurd rfl h0|succ d=>rfl,cond_false] at hst
      refine fin _ 3000 ?_
      rw[hst];exact h
noncomputable def lefT (x:tX.den) (f:tB.den) (n:Int):tL.den:=lfT x f n x.1.1.toNat 0 (0,firV x)
noncomputable def lefV (x:tX.den) (f:tB.den) (n:Int):AV:=tL.av (lefT x f n)
theorem lef_call {x:tX.den} {f:tB.den} {n:Int} (h:xokB x=true):AnsF F2 44 [tX.pv x,tB.av f,.int .i64 n] (lefV x f n):=by
 have X:=xok h
 have hX:=X.d
 refine Ans.call (n:=20) (ext_none (by kernel_rfl)) (hasB_spec (by kernel_rfl)) ?_
 have h:=lef_start x f n
 rw[Nat.ble_eq_true_of_le (show x.1.2.1.2.length≤3 from X.n),cpX] at h
 exact .stop ZY_ok F2sy h (lef_ans X x.1.1.toNat 0 1048575 (0,firV x) (Nat.zero_add _) (by have:=toNat_c hX;omega) (Nat.zero_le _))
end Go.Proofs.Ytmpaifgmccdipaa


set_option maxRecDepth 100000
namespace Go.Proofs.Ytmpaifgmccdipaa
open Go Go.Eng
noncomputable def ascI0 (l:(Ty.sl tI).den) (e o:Int) (x6:Int) (x10:Int) (x22:Nat):Cfg:=⟨.ex (pcOf F3 51 [0,0,1,0,1,1]) ⟨(tmOf 32 [(0,(.vs tI (l.1) (l.2))),(1,(.int .i64 (e))),(2,(.int .i64 (o))),(6,(.int .i64 (0))),(7,(.int .i64 (0))),(8,(.int .i64 x6)),(11,(.vs tI (l.1) (l.2))),(12,(.int .i64 (Int.ofNat l.2.length))),(13,(.int .i64 x10))]),(hpOf 0 []),[],[],32,false⟩,⟨20,[]⟩,[(.lop (pcOf F3 51 [0,0,1,0,1,1]) 0 (tmOf 32 [(0,(.vs tI (l.1) (l.2))),(1,(.int .i64 (e))),(2,(.int .i64 (o))),(6,(.int .i64 (0))),(7,(.int .i64 (0))),(8,(.int .i64 (-1))),(11,(.vs tI (l.1) (l.2))),(12,(.int .i64 (Int.ofNat l.2.length))),(13,(.int .i64 (0)))]) x22),(.blk 0),(.seq (pcOf F3 51 [1,1,1])),(.cal [(.tmp 6),(.tmp 7)] .top)]⟩
theorem asc_start (l:(Ty.sl tI).den) (e o:Int):adv F3 (Z3 [51]) 3000 (startC F3 51 [.vs tI l.1 l.2,.int .i64 e,.int .i64 o] 20)=some (.stop (ascI0 l e o (-1) (0) (1048575))):=by kernel_rfl
theorem asc_step0 (l:(Ty.sl tI).den) (e o:Int) (x6:Int) (x10:Int) (x22:Nat):adv F3 (Z3 [51]) 3000 (ascI0 l e o x6 x10 (x22+1))=(bif !ile (Int.ofNat l.2.length) x10 then (bif inB x10 l.2.length then (bif !ile 0 (l.2.getD x10.toNat tI.dflt) then some (.done (.tup [(.int .i64 (x10)),(.int .i64 (o))])) else (bif !ile (l.2.getD x10.toNat tI.dflt) (wr .i64 (e-1)) then some (.done (.tup [(.int .i64 (x10)),(.int .i64 (o))])) else (bif ile (l.2.getD x10.toNat tI.dflt) x6 then some (.done (.tup [(.int .i64 (x10)),(.int .i64 (2))])) else some (.stop (ascI0 l e o (l.2.getD x10.toNat tI.dflt) (wr .i64 (x10+1)) (x22)))))) else none) else some (.done (.tup [(.int .i64 (0)),(.int .i64 (0))]))):=by kernel_rfl
noncomputable def wgtI0 (n:(Ty.sl tN).den) (c:(Ty.sl tI).den) (x5:Int) (x9:Int) (x20:Nat):Cfg:=⟨.ex (pcOf F3 81 [0,0,1,0,1,1]) ⟨(tmOf 23 [(0,(.vs tN (n.1) (n.2))),(1,(.vs tI (c.1) (c.2))),(4,(.int .i64 (0))),(5,(.int .i64 x5)),(8,(.vs tI (c.1) (c.2))),(9,(.int .i64 (Int.ofNat c.2.length))),(10,(.int .i64 x9))]),(hpOf 0 []),[],[],23,false⟩,⟨20,[]⟩,[(.lop (pcOf F3 81 [0,0,1,0,1,1]) 0 (tmOf 23 [(0,(.vs tN (n.1) (n.2))),(1,(.vs tI (c.1) (c.2))),(4,(.int .i64 (0))),(5,(.int .i64 (0))),(8,(.vs tI (c.1) (c.2))),(9,(.int .i64 (Int.ofNat c.2.length))),(10,(.int .i64 (0)))]) x20),(.blk 0),(.seq (pcOf F3 81 [1,1,1])),(.cal [(.tmp 4)] .top)]⟩
theorem wgt_start (n:(Ty.sl tN).den) (c:(Ty.sl tI).den):adv F3 (Z3 [81]) 3000 (startC F3 81 [.vs tN n.1 n.2,.vs tI c.1 c.2] 20)=some (.stop (wgtI0 n c (0) (0) (1048575))):=by kernel_rfl
theorem wgt_step0 (n:(Ty.sl tN).den) (c:(Ty.sl tI).den) (x5:Int) (x9:Int) (x20:Nat):adv F3 (Z3 [81]) 3000 (wgtI0 n c x5 x9 (x20+1))=(bif !ile (Int.ofNat c.2.length) x9 then (bif inB x9 c.2.length then (bif inB (c.2.getD x9.toNat tI.dflt) n.2.length then some (.stop (wgtI0 n c (wr .i64 (x5+(n.2.getD (Int.toNat (c.2.getD x9.toNat tI.dflt)) tN.dflt).2.2.2.1)) (wr .i64 (x9+1)) (x20))) else none) else none) else some (.done (.int .i64 (x5)))):=by kernel_rfl
noncomputable def rixI0 (l:(Ty.sl tI).den) (e:Int) (x4:Int) (x10:Nat):Cfg:=⟨.ex (pcOf F3 66 [0,0,1,0,1]) ⟨(tmOf 34 [(0,(.vs tI (l.1) (l.2))),(1,(.int .i64 (e))),(4,(.int .i64 (0))),(5,(.int .i64 x4))]),(hpOf 0 []),[],[],34,false⟩,⟨20,[]⟩,[(.lop (pcOf F3 66 [0,0,1,0,1]) 0 (tmOf 34 [(0,(.vs tI (l.1) (l.2))),(1,(.int .i64 (e))),(4,(.int .i64 (0))),(5,(.int .i64 (0)))]) x10),(.blk 0),(.seq (pcOf F3 66 [1,1])),(.cal [(.tmp 4)] .top)]⟩
theorem rix_start (l:(Ty.sl tI).den) (e:Int):adv F3 (Z3 [66]) 3000 (startC F3 66 [.vs tI l.1 l.2,.int .i64 e] 20)=some (.stop (rixI0 l e (0) (1048575))):=by kernel_rfl
theorem rix_step0 (l:(Ty.sl tI).den) (e:Int) (x4:Int) (x10:Nat):adv F3 (Z3 [66]) 3000 (rixI0 l e x4 (x10+1))=(bif !ile (↑l.2.length) x4 then (bif inB x4 l.2.length then (bif ile 0 (l.2.getD x4.toNat tI.dflt) then (bif !ile (l.2.getD x4.toNat tI.dflt) (wr .i64 (e-1)) then some (.done (.int .i64 (4))) else (bif !ile x4 0 then (bif inB x4 l.2.length then (bif inB (wr .i64 (x4-1)) l.2.length then (bif ile (l.2.getD x4.toNat tI.dflt) (l.2.getD (wr .i64 (x4-1)).toNat tI.dflt) then some (.done (.int .i64 (2))) else some (.stop (rixI0 l e (wr .i64 (x4+1)) (x10)))) else none) else none) else some (.stop (rixI0 l e (wr .i64 (x4+1)) (x10))))) else some (.done (.int .i64 (4)))) else none) else some (.done (.int .i64 (0)))):=by kernel_rfl
noncomputable def rwgI0 (s:tS.den) (c:(Ty.sl tI).den) (x11:Int) (x12:Int) (x34:Nat):Cfg:=⟨.ex (pcOf F3 67 [0,0,1,0,1,1]) ⟨(tmOf 25 [(0,(.agg [(.int .i64 (s.1)),(.vs tN (s.2.1.1) (s.2.1.2)),(.int .i64 (s.2.2.1)),(.int .i64 (s.2.2.2.1)),(.int .i64 (s.2.2.2.2.1)),(.vs tI (s.2.2.2.2.2.1.1) (s.2.2.2.2.2.1.2))])),(1,(.vs tI (c.1) (c.2))),(2,(.ptr 0 0)),(4,(.int .i64 (0))),(5,(.int .i64 x11)),(6,(.int .i64 x12))]),(hpOf 1 [(0,(.cells false [(.int .i64 (s.1)),(.vs tN (s.2.1.1) (s.2.1.2)),(.int .i64 (s.2.2.1)),(.int .i64 (s.2.2.2.1)),(.int .i64 (s.2.2.2.2.1)),(.vs tI (s.2.2.2.2.2.1.1) (s.2.2.2.2.2.1.2))]))]),[],[],25,false⟩,⟨20,[]⟩,[(.lop (pcOf F3 67 [0,0,1,0,1,1]) 1 (tmOf 25 [(0,(.agg [(.int .i64 (s.1)),(.vs tN (s.2.1.1) (s.2.1.2)),(.int .i64 (s.2.2.1)),(.int .i64 (s.2.2.2.1)),(.int .i64 (s.2.2.2.2.1)),(.vs tI (s.2.2.2.2.2.1.1) (s.2.2.2.2.2.1.2))])),(1,(.vs tI (c.1) (c.2))),(2,(.ptr 0 0)),(4,(.int .i64 (0))),(5,(.int .i64 (0))),(6,(.int .i64 (0)))]) x34),(.blk 0),(.seq (pcOf F3 67 [1,1,1])),(.cal [(.tmp 4)] .top)]⟩
theorem rwg_start (s:tS.den) (c:(Ty.sl tI).den):adv F3 (Z3 [67]) 3000 (startC F3 67 [tS.av s,.vs tI c.1 c.2] 20)=some (.stop (rwgI0 s c (0) (0) (1048575))):=by kernel_rfl
theorem rwg_step0 (s:tS.den) (c:(Ty.sl tI).den) (x11:Int) (x12:Int) (x34:Nat):adv F3 (Z3 [67]) 3000 (rwgI0 s c x11 x12 (x34+1))=(bif !ile (↑c.2.length) x12 then (bif inB x12 c.2.length then (bif inB (c.2.getD x12.toNat tI.dflt) s.2.1.2.length then some (.stop (rwgI0 s c (wr .i64 (x11+(s.2.1.2.getD (Int.toNat (c.2.getD x12.toNat tI.dflt)) tN.dflt).2.2.2.1)) (wr .i64 (x12+1)) (x34))) else none) else none) else some (.done (.int .i64 (x11)))):=by kernel_rfl
noncomputable def intsI0 (a b:(Ty.sl tI).den) (x5:Int) (x26:Nat):Cfg:=⟨.ex (pcOf F3 28 [0,0,1,0,1,1]) ⟨(tmOf 26 [(0,(.vs tI (a.1) (a.2))),(1,(.vs tI (b.1) (b.2))),(4,(.bool (false))),(5,(.int .i64 x5)),(6,(.vs tI (a.1) (a.2))),(7,(.int .i64 (Int.ofNat a.2.length))),(8,(.vs tI (b.1) (b.2))),(9,(.int .i64 (Int.ofNat b.2.length))),(10,(.bool (false)))]),(hpOf 0 []),[],[],26,false⟩,⟨20,[]⟩,[(.lop (pcOf F3 28 [0,0,1,0,1,1]) 0 (tmOf 26 [(0,(.vs tI (a.1) (a.2))),(1,(.vs tI (b.1) (b.2))),(4,(.bool (false))),(5,(.int .i64 (0))),(6,(.vs tI (a.1) (a.2))),(7,(.int .i64 (Int.ofNat a.2.length))),(8,(.vs tI (b.1) (b.2))),(9,(.int .i64 (Int.ofNat b.2.length))),(10,(.bool (false)))]) x26),(.blk 0),(.seq (pcOf F3 28 [1,1,1])),(.cal [(.tmp 4)] .top)]⟩
theorem ints_start (a b:(Ty.sl tI).den):adv F3 (Z3 [28]) 3000 (startC F3 28 [.vs tI a.1 a.2,.vs tI b.1 b.2] 20)=(bif !ieq ↑a.2.length ↑b.2.length then some (.done (.bool (false))) else some (.stop (intsI0 a b (0) (1048575)))):=by kernel_rfl
theorem ints_step0 (a b:(Ty.sl tI).den) (x5:Int) (x26:Nat):adv F3 (Z3 [28]) 3000 (intsI0 a b x5 (x26+1))=(bif !ile (↑a.2.length) x5 then (bif inB x5 a.2.length then (bif inB x5 b.2.length then (bif !ieq (a.2.getD x5.toNat tI.dflt) (b.2.getD x5.toNat tI.dflt) then some (.done (.bool (false))) else some (.stop (intsI0 a b (wr .i64 (x5+1)) (x26)))) else none) else none) else some (.done (.bool (true)))):=by kernel_rfl
theorem frs_start (s:List Nat) (l:(Ty.sl .str).den):adv F3 (Z3 []) 3000 (startC F3 65 [.str s,.vs .str l.1 l.2] 20)=(bif !nameS s then some (.done (.int .i64 (6))) else (bif l.2.length.ble 1000 then (bif ile 0 (placeF s l.2 0) then some (.done (.int .i64 (5))) else some (.done (.int .i64 (0)))) else none)):=by kernel_rfl
noncomputable def ascV (e o:Int):List Int→Int→Nat→Int×Int
 |[],_,_=>(0,0)
 |n::l,b,i=>bif ile 0 n&&ile n e then (bif ile n b then ((i:Int),2) else ascV e o l n (i+1)) else ((i:Int),o)
noncomputable def pairV (p:Int×Int):AV:=.tup [.int .i64 p.1,.int .i64 p.2]
theorem asc_ans {l:(Ty.sl tI).den} {e o:Int} (H:ile (wr .i64 (e-1)) 900=true):∀ (r k m:Nat) (b:Int),k+r=902→r<m→(k:Int)≤b+1→b≤900→Ans F3 (ascI0 l e o b k m) (pairV (ascV (wr .i64 (e-1)) o (l.2.drop k) b k))
 |0,k,m,b,hk,hm,hb,hc=>by omega
 | r + 1, k, m + 1, b, hk, hm, hb, hc => by
  have h:=asc_step0 l e o b k m
  by_cases hlt:k<l.2.length
  · rw [ile_f (show (k : Int) < Int.ofNat l.2.length by show (k : Int) < ((l.2.length : Nat) : Int); omega), inB_at hlt, getD_at hlt, wr_succ (show k < 1048577 by omega), Bool.not_false, cond_true, cond_true] at h
    rw[List.drop_eq_getElem_cons hlt]
    show Ans F3 _ (pairV (bif ile 0 l.2[k]&&ile l.2[k] (wr .i64 (e-1)) then (bif ile l.2[k] b then ((k:Int),2) else ascV (wr .i64 (e-1)) o (l.2.drop (k+1)) l.2[k] (k+1)) else ((k:Int),o)))
    cases c1:ile 0 l.2[k] with
    |false=>rw[c1] at h;exact .done (Z3_ok _) F3sy h rfl
    |true=>
    cases c2:ile l.2[k] (wr .i64 (e-1)) with
    |false=>rw[c1,c2] at h;exact .done (Z3_ok _) F3sy h rfl
    |true=>
    cases c3:ile l.2[k] b with
    |true=>rw[c1,c2,c3] at h;exact .done (Z3_ok _) F3sy h rfl
    |false=>
     rw[c1,c2,c3] at h
     have i1:=ile_gt c3;have i2:=ile_le c2;have i3:=ile_le H
     exact .stop (Z3_ok _) F3sy h (asc_ans H r (k+1) m l.2[k] (by omega) (by omega) (by omega) (Int.le_trans i2 i3))
  · rw [ile_t (show Int.ofNat l.2.length ≤ (k : Int) by show ((l.2.length : Nat) : Int) ≤ k; omega), Bool.not_true, cond_false] at h
    rw[List.drop_eq_nil_of_le (by omega)]
    exact .done (Z3_ok _) F3sy h rfl
theorem asc_call {l:(Ty.sl tI).den} {e o:Int} (H:ile (wr .i64 (e-1)) 900=true):AnsF F3 51 [.vs tI l.1 l.2,.int .i64 e,.int .i64 o] (pairV (ascV (wr .i64 (e-1)) o l.2 (-1) 0)):=by
 refine Ans.call (n:=20) (ext_none (by kernel_rfl)) (hasB_spec (by kernel_rfl)) ?_
 exact .stop (Z3_ok _) F3sy (asc_start l e o) (asc_ans H 902 0 1048575 (-1) rfl (by omega) (by omega) (by omega))
noncomputable def rixV (e:Int) (l:List Int):Int:=(ascV (wr .i64 (e-1)) 4 l (-1) 0).2
theorem rix_ans {l:(Ty.sl tI).den} {e:Int} (H:ile (wr .i64 (e-1)) 900=true):∀ (r k m:Nat) (b:Int),k+r=902→r<m→(k:Int)≤b+1→b≤900→(k=0∧b=-1∨∃ j,k=j+1∧l.2[j]?=some b)→Ans F3 (rixI0 l e k m) (.int .i64 (ascV (wr .i64 (e-1)) 4 (l.2.drop k) b k).2)
 |0,k,m,b,hk,hm,hb0,hb9,hb=>by omega
 |r+1,k,m+1,b,hk,hm,hb0,hb9,hb=>by
  have h:=rix_step0 l e k m
  by_cases hlt:k<l.2.length
  rotate_left
  · rw [ile_t (show ((l.2.length : Nat) : Int) ≤ (k : Int) by omega), Bool.not_true, cond_false] at h
    rw[List.drop_eq_nil_of_le (by omega)]
    exact .done (Z3_ok _) F3sy h rfl
  rw[ile_f (show (k:Int)<((l.2.length:Nat):Int) by omega),inB_at hlt,getD_at hlt,wr_succ (show k<1048577 by omega),Bool.not_false,cond_true,cond_true] at h
  rw[List.drop_eq_getElem_cons hlt]
  show Ans F3 _ (.int .i64 (bif ile 0 l.2[k]&&ile l.2[k] (wr .i64 (e-1)) then (bif ile l.2[k] b then ((k:Int),2) else ascV (wr .i64 (e-1)) 4 (l.2.drop (k+1)) l.2[k] (k+1)) else ((k:Int),4)).2)
  cases c1:ile 0 l.2[k] with
  |false=>rw[c1] at h;exact .done (Z3_ok _) F3sy h rfl
  |true=>
  cases c2:ile l.2[k] (wr .i64 (e-1)) with
  |false=>rw[c1,c2] at h;exact .done (Z3_ok _) F3sy h rfl
  |true=>
  have i2:=ile_le c2;have i3:=ile_le H
  have nx:=fun (i1:b<l.2[k])=>rix_ans (e:=e) H r (k+1) m l.2[k] (by omega) (by omega) (by omega) (Int.le_trans i2 i3) (.inr ⟨k,rfl,List.getElem?_eq_getElem hlt⟩)
  rcases hb with ⟨rfl,rfl⟩|⟨j,rfl,hj⟩
  · have c3 : ile l.2[0] (-1) = false := ile_f (by have := ile_le c1; omega)
    rw[c1,c2] at h
    rw[c3]
    exact .stop (Z3_ok _) F3sy h (nx (ile_gt c3))
  · have hj1 : j < l.2.length := by omega
    rw[List.getElem?_eq_getElem hj1] at hj
    simp only[Option.some.injEq] at hj
    rw[c1,c2,ile_f (show (0:Int)<((j+1:Nat):Int) by omega),show wr .i64 (((j+1:Nat):Int)-1)=(j:Int) from wr_pred (by omega),inB_at hj1,getD_at hj1,hj] at h
    simp only[Bool.not_true,Bool.not_false,cond_true,cond_false] at h
    cases c3:ile l.2[j+1] b with
    |true=>rw[c3] at h;exact .done (Z3_ok _) F3sy h rfl
    |false=>rw[c3] at h;exact .stop (Z3_ok _) F3sy h (nx (ile_gt c3))
theorem rix_call {l:(Ty.sl tI).den} {e:Int} (H:ile (wr .i64 (e-1)) 900=true):AnsF F3 66 [.vs tI l.1 l.2,.int .i64 e] (.int .i64 (rixV e l.2)):=by
 refine Ans.call (n:=20) (ext_none (by kernel_rfl)) (hasB_spec (by kernel_rfl)) ?_
 exact .stop (Z3_ok _) F3sy (rix_start l e) (rix_ans H 902 0 1048575 (-1) rfl (by omega) (by omega) (by omega) (.inl ⟨rfl,rfl⟩))
noncomputable def wgtV (n:List tN.den):List Int→Int→Int
 |[],a=>a
 |c::l,a=>wgtV n l (wr .i64 (a+(n.getD c.toNat tN.dflt).2.2.2.1))
theorem wgt_ans {n:(Ty.sl tN).den} {c:(Ty.sl tI).den} (H:c.2.length≤1000) (HC:∀ i∈c.2,inB i n.2.length=true):∀ (r k m:Nat) (a:Int),k+r=c.2.length→r<m→Ans F3 (wgtI0 n c a k m) (.int .i64 (wgtV n.2 (c.2.drop k) a))
 |0,k,m+1,a,hk,hm=>by
  have h:=wgt_step0 n c a k m
  rw[ile_t (show Int.ofNat c.2.length≤(k:Int) by show ((c.2.length:Nat):Int)≤k;omega),Bool.not_true,cond_false] at h
  rw[List.drop_eq_nil_of_le (by omega)]
  exact .done (Z3_ok _) F3sy h rfl
 |r+1,k,m+1,a,hk,hm=>by
  have h:=wgt_step0 n c a k m
  have hlt:k<c.2.length:=by omega
  rw[ile_f (show (k:Int)<Int.ofNat c.2.length by show (k:Int)<((c.2.length:Nat):Int);omega),inB_at hlt,getD_at hlt,wr_succ (show k<1048577 by omega),HC _ (List.getElem_mem hlt),Bool.not_false,cond_true,cond_true,cond_true] at h
  rw[List.drop_eq_getElem_cons hlt]
  exact .stop (Z3_ok _) F3sy h (wgt_ans H HC r (k+1) m _ (by omega) (by omega))
theorem wgt_call {n:(Ty.sl tN).den} {c:(Ty.sl tI).den} (H:c.2.length≤1000) (HC:∀ i∈c.2,inB i n.2.length=true):AnsF F3 81 [.vs tN n.1 n.2,.vs tI c.1 c.2] (.int .i64 (wgtV n.2 c.2 0)):=by
 refine Ans.call (n:=20) (ext_none (by kernel_rfl)) (hasB_spec (by kernel_rfl)) ?_
 exact .stop (Z3_ok _) F3sy (wgt_start n c) (wgt_ans H HC c.2.length 0 1048575 0 (Nat.zero_add _) (by omega))
theorem rwg_ans {s:tS.den} {c:(Ty.sl tI).den} (H:c.2.length≤1000) (HC:∀ i∈c.2,inB i s.2.1.2.length=true):∀ (r k m:Nat) (a:Int),k+r=c.2.length→r<m→Ans F3 (rwgI0 s c a k m) (.int .i64 (wgtV s.2.1.2 (c.2.drop k) a))
 |0,k,m+1,a,hk,hm=>by
  have h:=rwg_step0 s c a k m
  rw[ile_t (show ((c.2.length:Nat):Int)≤(k:Int) by omega),Bool.not_true,cond_false] at h
  rw[List.drop_eq_nil_of_le (by omega)]
  exact .done (Z3_ok _) F3sy h rfl
 |r+1,k,m+1,a,hk,hm=>by
  have h:=rwg_step0 s c a k m
  have hlt:k<c.2.length:=by omega
  rw[ile_f (show (k:Int)<((c.2.length:Nat):Int) by omega),inB_at hlt,getD_at hlt,wr_succ (show k<1048577 by omega),HC _ (List.getElem_mem hlt),Bool.not_false,cond_true,cond_true,cond_true] at h
  rw[List.drop_eq_getElem_cons hlt]
  exact .stop (Z3_ok _) F3sy h (rwg_ans H HC r (k+1) m _ (by omega) (by omega))
theorem rwg_call {s:tS.den} {c:(Ty.sl tI).den} (H:c.2.length≤1000) (HC:∀ i∈c.2,inB i s.2.1.2.length=true):AnsF F3 67 [tS.av s,.vs tI c.1 c.2] (.int .i64 (wgtV s.2.1.2 c.2 0)):=by
 refine Ans.call (n:=20) (ext_none (by kernel_rfl)) (hasB_spec (by kernel_rfl)) ?_
 exact .stop (Z3_ok _) F3sy (rwg_start s c) (rwg_ans H HC c.2.length 0 1048575 0 (Nat.zero_add _) (by omega))
noncomputable def intsV:List Int→List Int→Bool
 |[],[]=>true
 |a::l,b::m=>bif ieq a b then intsV l m else false
 |_,_=>false
theorem intsV_len:∀ {a b:List Int},a.length≠b.length→intsV a b=false
 |[],[],h=>absurd rfl h
 |[],_::_,_=>rfl
 |_::_,[],_=>rfl
 |a::l,b::m,h=>by
  show (bif ieq a b then intsV l m else false)=false
  rw[intsV_len (show l.length≠m.length by intro e;exact h (by rw[List.length_cons,List.length_cons,e]))]
  cases ieq a b<;>rfl
theorem ints_ans {a b:(Ty.sl tI).den} (H:a.2.length≤1000) (e:a.2.length=b.2.length):∀ (r k m:Nat),k+r=a.2.length→r<m→Ans F3 (intsI0 a b k m) (.bool (intsV (a.2.drop k) (b.2.drop k)))
 |0,k,m+1,hk,hm=>by
  have h:=ints_step0 a b k m
  rw[ile_t (show ((a.2.length:Nat):Int)≤(k:Int) by omega),Bool.not_true,cond_false] at h
  rw[List.drop_eq_nil_of_le (by omega),List.drop_eq_nil_of_le (by omega)]
  exact .done (Z3_ok _) F3sy h rfl
 |r+1,k,m+1,hk,hm=>by
  have h:=ints_step0 a b k m
  have hlt:k<a.2.length:=by omega
  have hlb:k<b.2.length:=by omega
  rw[ile_f (show (k:Int)<((a.2.length:Nat):Int) by omega),inB_at hlt,inB_at hlb,getD_at hlt,getD_at hlb,wr_succ (show k<1048577 by omega),Bool.not_false,cond_true,cond_true,cond_true] at h
  rw[List.drop_eq_getElem_cons hlt,List.drop_eq_getElem_cons hlb]
  show Ans F3 _ (.bool (bif ieq a.2[k] b.2[k] then intsV (a.2.drop (k+1)) (b.2.drop (k+1)) else false))
  cases c:ieq a.2[k] b.2[k] with
  |false=>rw[c] at h;exact .done (Z3_ok _) F3sy h rfl
  |true=>rw[c] at h;exact .stop (Z3_ok _) F3sy h (ints_ans H e r (k+1) m (by omega) (by omega))
theorem ints_call {a b:(Ty.sl tI).den} (H:a.2.length≤1000):AnsF F3 28 [.vs tI a.1 a.2,.vs tI b.1 b.2] (.bool (intsV a.2 b.2)):=by
 refine Ans.call (n:=20) (ext_none (by kernel_rfl)) (hasB_spec (by kernel_rfl)) ?_
 have h:=ints_start a b
 by_cases e:a.2.length=b.2.length
 · rw [ieq_t (show ((a.2.length : Nat) : Int) = ((b.2.length : Nat) : Int) by rw [e])] at h
   exact .stop (Z3_ok _) F3sy h (ints_ans H e a.2.length 0 1048575 (Nat.zero_add _) (by omega))
 · rw [ieq_f (show ((a.2.length : Nat) : Int) ≠ ((b.2.length : Nat) : Int) by intro k; exact e (by omega))] at h
   rw[intsV_len e]
   exact .done (Z3_ok _) F3sy h rfl
noncomputable def frsV (s:List Nat) (l:List (List Nat)):Int:=bif nameS s then (bif ile 0 (placeF s l 0) then 5 else 0) else 6
theorem frs_call {s:List Nat} {l:(Ty.sl .str).den} (H:l.2.length≤1000):AnsF F3 65 [.str s,.vs .str l.1 l.2] (.int .i64 (frsV s l.2)):=by
 refine Ans.call (n:=20) (ext_none (by kernel_rfl)) (hasB_spec (by kernel_rfl)) ?_
 have h:=frs_start s l
 rw[Nat.ble_eq_true_of_le (show l.2.length≤1000 from H)] at h
 unfold frsV
 cases c1:nameS s with
 |false=>rw[c1] at h;exact .done (Z3_ok _) F3sy h rfl
 |true=>
  cases c2:ile 0 (placeF s l.2 0) with
  |true=>rw[c1,show ile 0 (placeF s l.2 0)=true from c2] at h;exact .done (Z3_ok _) F3sy h rfl
  |false=>rw[c1,show ile 0 (placeF s l.2 0)=false from c2] at h;exact .done (Z3_ok _) F3sy h rfl
noncomputable def le1k {α:Type} (l:List α):Bool:=Nat.ble l.length 1000
theorem le1k_le {α:Type} {l:List α} (h:le1k l=true):l.length≤1000:=Nat.le_of_ble_eq_true h
noncomputable def inAll (n:Nat) (l:List Int):Bool:=l.all (fun i=>inB i n)
theorem inAll_at {n:Nat} {l:List Int} (h:inAll n l=true):∀ i∈l,inB i n=true:=List.all_eq_true.1 h
noncomputable def LD:List Said:=[(51,con3 (.sl tI) tI tI (fun _ e _=>ile (wr .i64 (e-1)) 900) (fun l e o=>pairV (ascV (wr .i64 (e-1)) o l.2 (-1) 0))),
 (66,con2 (.sl tI) tI (fun _ e=>ile (wr .i64 (e-1)) 900) (fun l e=>.int .i64 (rixV e l.2))),
 (81,con2 (.sl tN) (.sl tI) (fun n c=>le1k c.2&&inAll n.2.length c.2) (fun n c=>.int .i64 (wgtV n.2 c.2 0))),
 (67,con2 tS (.sl tI) (fun s c=>le1k c.2&&inAll s.2.1.2.length c.2) (fun s c=>.int .i64 (wgtV s.2.1.2 c.2 0))),
 (28,con2 (.sl tI) (.sl tI) (fun a _=>le1k a.2) (fun a b=>.bool (intsV a.2 b.2))),
 (65,con2 .str (.sl .str) (fun _ l=>le1k l.2) (fun s l=>.int .i64 (frsV s l.2))),
 (44,conP3 tX tB tI (fun x _ _=>xokB x) lefV)]
theorem LD_ok:∀ e∈LD,SaidG Try.prog F3.glob e:=
 saids_cons (SaidOK.g f3 xf3 nf3 tabs_ok.mix (fun _ _ h=>con3_spec (t:=.sl tI) (u:=tI) (w:=tI) (fun l e o c=>asc_call c) h) rfl)
 (saids_cons (SaidOK.g f3 xf3 nf3 tabs_ok.mix (fun _ _ h=>con2_spec (t:=.sl tI) (u:=tI) (fun l e c=>rix_call c) h) rfl)
 (saids_cons (SaidOK.g f3 xf3 nf3 tabs_ok.mix (fun _ _ h=>con2_spec (t:=.sl tN) (u:=.sl tI) (fun n d c=>wgt_call (le1k_le (Bool.and_eq_true ..▸c:_∧_).1) (inAll_at (Bool.and_eq_true ..▸c:_∧_).2)) h) rfl)
 (saids_cons (SaidOK.g f3 xf3 nf3 tabs_ok.mix (fun _ _ h=>con2_spec (t:=tS) (u:=.sl tI) (fun s d c=>rwg_call (le1k_le (Bool.and_eq_true ..▸c:_∧_).1) (inAll_at (Bool.and_eq_true ..▸c:_∧_).2)) h) rfl)
 (saids_cons (SaidOK.g f3 xf3 nf3 tabs_ok.mix (fun _ _ h=>con2_spec (t:=.sl tI) (u:=.sl tI) (fun a b c=>ints_call (le1k_le c)) h) rfl)
 (saids_cons (SaidOK.g f3 xf3 nf3 tabs_ok.mix (fun _ _ h=>con2_spec (t:=.str) (u:=.sl .str) (fun s l c=>frs_call (le1k_le c)) h) rfl)
 (saids_cons (SaidOK.g f2 xf2 nf2 tabs_ok.mix (fun _ _ h=>conP3_spec (t:=tX) (u:=tB) (w:=tI) (fun x f n c=>lef_call c) h) rfl) saids_nil))))))
noncomputable def F4:Env:=F3.say (under (xOf LD))
theorem f4:EnvOK Try.prog F4:=f3.say _
theorem nf4:NameOK F4:=nf3.say _
theorem xf4:ExtOK Try.prog F4:=xf3.sayL LD_ok
theorem F4sy:F4.sy=true:=rfl
noncomputable def Z4 (l:List Nat):Sy:=(Z3 []).on LD l
theorem Z4_ok (l:List Nat):(Z4 l).ok F4:=Sy.on_ok (Z3_ok _)
end Go.Proofs.Ytmpaifgmccdipaa


set_option maxRecDepth 100000
namespace Go.Proofs.Ytmpaifgmccdipaa
open Go Go.Eng
noncomputable def pndI0 (s:tS.den) (x20:Int) (x30:List (AV×AV)) (x52:Nat):Cfg:=⟨.ex (pcOf F4 79 [0,0,1,0,1,1,1]) ⟨(tmOf 34 [(0,(.agg [(.int .i64 (s.1)),(.vs tN (s.2.1.1) (s.2.1.2)),(.int .i64 (s.2.2.1)),(.int .i64 (s.2.2.2.1)),(.int .i64 (s.2.2.2.2.1)),(.vs tI (s.2.2.2.2.2.1.1) (s.2.2.2.2.2.1.2))])),(1,(.ptr 0 0)),(2,(.int .i64 (0))),(3,(.int .i64 (0))),(4,(.mp 2)),(8,(.ptr 0 1)),(9,(.vs tN (s.2.1.1) (s.2.1.2))),(10,(.int .i64 (Int.ofNat s.2.1.2.length))),(11,(.sl 1 0 (1) (1) 1)),(12,(.bool (true))),(13,(.bool (false))),(14,(.mp 2)),(15,(.ptr 0 1)),(16,(.vs tN (s.2.1.1) (s.2.1.2))),(17,(.int .i64 (Int.ofNat s.2.1.2.length))),(18,(.int .i64 x20))]),(hpOf 3 [(0,(.cells false [(.int .i64 (s.1)),(.vs tN (s.2.1.1) (s.2.1.2)),(.int .i64 (s.2.2.1)),(.int .i64 (s.2.2.2.1)),(.int .i64 (s.2.2.2.2.1)),(.vs tI (s.2.2.2.2.2.1.1) (s.2.2.2.2.2.1.2))])),(1,(.cells false ([AV.int IntKind.i64 ↑s.2.1.2.length]))),(2,(.map x30))]),[],[],34,false⟩,⟨40,[]⟩,[(.lop (pcOf F4 79 [0,0,1,0,1,1,1]) 3 (tmOf 34 [(0,(.agg [(.int .i64 (s.1)),(.vs tN (s.2.1.1) (s.2.1.2)),(.int .i64 (s.2.2.1)),(.int .i64 (s.2.2.2.1)),(.int .i64 (s.2.2.2.2.1)),(.vs tI (s.2.2.2.2.2.1.1) (s.2.2.2.2.2.1.2))])),(1,(.ptr 0 0)),(2,(.int .i64 (0))),(3,(.int .i64 (0))),(4,(.mp 2)),(8,(.ptr 0 1)),(9,(.vs tN (s.2.1.1) (s.2.1.2))),(10,(.int .i64 (Int.ofNat s.2.1.2.length))),(11,(.sl 1 0 (1) (1) 1)),(12,(.bool (true))),(13,(.bool (false))),(14,(.mp 2)),(15,(.ptr 0 1)),(16,(.vs tN (s.2.1.1) (s.2.1.2))),(17,(.int .i64 (Int.ofNat s.2.1.2.length))),(18,(.int .i64 (0)))]) x52),(.blk 0),(.seq (pcOf F4 79 [1,1,1,1])),(.cal [(.tmp 2),(.tmp 3)] .top)]⟩
theorem pnd_start (s:tS.den):adv F4 (Z4 [79]) 3000 (startC F4 79 [tS.av s] 40)=(bif !ile 1 ↑s.2.1.2.length then some (.done (.tup [(.int .i64 (0)),(.int .i64 (3))])) else (bif !ile (↑s.2.1.2.length) 3 then some (.done (.tup [(.int .i64 (0)),(.int .i64 (3))])) else some (.stop (pndI0 s (0) ([]) (1048575))))):=by kernel_rfl
theorem pnd_step0 (s:tS.den) (x20:Int) (x30:List (AV×AV)) (x52:Nat):adv F4 (Z4 [79]) 3000 (pndI0 s x20 x30 (x52+1))=(bif !ile (Int.ofNat s.2.1.2.length) x20 then (bif inB x20 s.2.1.2.length then (bif !nameS (s.2.1.2.getD x20.toNat tN.dflt).1 then some (.done (.tup [(.int .i64 (x20)),(.int .i64 (6))])) else (bif okSB x30 then (bif getSB (s.2.1.2.getD x20.toNat tN.dflt).1 x30 then some (.done (.tup [(.int .i64 (x20)),(.int .i64 (5))])) else (bif !ile 1 (s.2.1.2.getD x20.toNat tN.dflt).2.1 then some (.done (.tup [(.int .i64 (x20)),(.int .i64 (7))])) else (bif !ile (s.2.1.2.getD x20.toNat tN.dflt).2.1 60 then some (.done (.tup [(.int .i64 (x20)),(.int .i64 (7))])) else (bif plO (AO.map x30) then (bif !ile 0 (s.2.1.2.getD x20.toNat tN.dflt).2.2.1 then some (.done (.tup [(.int .i64 (x20)),(.int .i64 (7))])) else (bif !ile (s.2.1.2.getD x20.toNat tN.dflt).2.2.1 (s.2.1.2.getD x20.toNat tN.dflt).2.1 then some (.done (.tup [(.int .i64 (x20)),(.int .i64 (7))])) else (bif plO (AO.map x30) then (bif !ile 1 (s.2.1.2.getD x20.toNat tN.dflt).2.2.2.1 then some (.done (.tup [(.int .i64 (x20)),(.int .i64 (7))])) else (bif !ile (s.2.1.2.getD x20.toNat tN.dflt).2.2.2.1 30 then some (.done (.tup [(.int .i64 (x20)),(.int .i64 (7))])) else (bif plO (AO.map x30) then (bif okSB x30 then (bif plO (AO.map (setSB (s.2.1.2.getD x20.toNat tN.dflt).1 true x30)) then some (.stop (pndI0 s (wr .i64 (x20+1)) (setSB (s.2.1.2.getD x20.toNat tN.dflt).1 true x30) (x52))) else none) else none) else none))) else none))) else none)))) else none)) else none) else some (.done (.tup [(.int .i64 (0)),(.int .i64 (0))]))):=by kernel_rfl
theorem cho_start (s:tS.den) (o:tO.den) (b:Int):adv F4 (Z4 []) 3000 (startC F4 50 [tS.av s,tO.av o,.int .i64 b] 40)=(bif !ile 0 o.1 then some (.done (.int .i64 (7))) else (bif !ile o.1 (wr .i64 (s.1-1)) then some (.done (.int .i64 (7))) else (bif ile o.1 b then some (.done (.int .i64 (2))) else (bif ieq (↑o.2.1.2.length) 0 then some (.done (.int .i64 (3))) else (bif ile (wr .i64 (↑s.2.1.2.length-1)) 900 then (bif !ieq (ascV (wr .i64 (↑s.2.1.2.length-1)) 4 o.2.1.2 (-1) 0).2 0 then some (.done (.int .i64 ((ascV (wr .i64 (↑s.2.1.2.length-1)) 4 o.2.1.2 (-1) 0).2))) else (bif le1k o.2.1.2&&inAll s.2.1.2.length o.2.1.2 then (bif ieq s.2.2.1 s.2.2.1 then (bif ieq s.2.2.1 s.2.2.1 then (bif bbeq o.2.1.1 o.2.1.1 then (bif vsB tI o.2.1.2 tI o.2.1.2 then (bif bbeq s.2.1.1 s.2.1.1 then (bif vsB tN s.2.1.2 tN s.2.1.2 then (bif !ile (wgtV s.2.1.2 o.2.1.2 0) s.2.2.1 then some (.done (.int .i64 (9))) else some (.done (.int .i64 (0)))) else none) else none) else none) else none) else none) else none) else none)) else none))))):=by kernel_rfl
noncomputable def tup3 (r:Int×Int×Int):AV:=.tup [.int .i64 r.1,.int .i64 r.2.1,.int .i64 r.2.2]
theorem done3 {E:Env} {S:Sy} (hS:S.ok E) (hsy:E.sy=true) {n:Nat} {c:Cfg} {a b d:Int} {r:Int×Int×Int} (h:adv E S n c=some (.done (.tup [.int .i64 a,.int .i64 b,.int .i64 d]))) (e:(a,b,d)=r):Ans E c (tup3 r):=
 e▸Ans.done hS hsy h rfl
noncomputable def addM (mem:List Nat→Bool) (s:List Nat):List Nat→Bool:=fun t=>lbeq t s || mem t
theorem setSB_ok {s:List Nat} {b:Bool}:∀ {es:List (AV×AV)},okSB es=true→okSB (setSB s b es)=true
 |[],_=>rfl
 |(k,v)::es,h=>by
  cases k<;>cases v<;>first|(cases h;done)|skip
  simp only[okSB] at h
  simp only[setSB]
  split
  · exact h
  · exact setSB_ok h
theorem lbeq_comm (a b:List Nat):lbeq a b=lbeq b a:=by
 rw[lbeq_iff,lbeq_iff]
 by_cases h:a=b
 · subst h;rfl
 · rw[decide_eq_false h,decide_eq_false (fun e=>h e.symm)]
theorem getSB_set {s t:List Nat}:∀ {es:List (AV×AV)},okSB es=true→getSB t (setSB s true es)=(lbeq t s || getSB t es)
 |[],_=>by simp only[setSB,getSB];cases lbeq t s<;>rfl
 | (k, v) :: es, h => by
  cases k<;>cases v<;>first|(cases h;done)|skip
  rename_i u w
  simp only[okSB] at h
  simp only[setSB,getSB]
  cases e:lbeq s u with
  |true=>
   have:s=u:=by rw[lbeq_iff] at e;simpa using e
   subst this
   simp only[getSB]
   cases lbeq t s<;>rfl
  | false =>
   simp only[getSB]
   cases e2:lbeq t u with
   |true=>
    have:t=u:=by rw[lbeq_iff] at e2;simpa using e2
    subst this
    rw[lbeq_comm t s,e];rfl
   |false=>exact getSB_set h
theorem placeF_iff {t:List Nat}:∀ (L:List (List Nat)) (k:Nat),ile 0 (placeF t L k)=decide (t∈L)
 |[],k=>by simp only[placeF];rfl
 |a::L,k=>by
  rw[placeF]
  by_cases h:a=t
  · subst h
    rw[if_pos rfl,ile_iff];simp
  · rw [if_neg h, placeF_iff L (k + 1)]
    have:¬ t=a:=fun e=>h e.symm
    simp[this]
theorem placeF_add {t s:List Nat} (L:List (List Nat)):ile 0 (placeF t (L++[s]) 0)=(lbeq t s || ile 0 (placeF t L 0)):=by
 rw[placeF_iff,placeF_iff,lbeq_iff]
 by_cases h1:t=s
 · subst h1;simp
 · by_cases h2:t∈L<;>simp[h1,h2]
theorem inB_0 {n:Nat} (h:0<n):inB 0 n=true:=inB_at (k:=0) h
theorem inB_1 {n:Nat} (h:1<n):inB 1 n=true:=inB_at (k:=1) h
theorem one_mem (m0:List Nat):∀ t,ile 0 (placeF t (strs [AV.str m0]) 0)=addM (fun _=>false) m0 t:=fun t=>by
 have:=placeF_add (t:=t) (s:=m0) []
 rw[List.nil_append] at this
 exact this
theorem two_mem (m0 m1:List Nat):∀ t,ile 0 (placeF t (strs [AV.str m0,AV.str m1]) 0)=addM (addM (fun _=>false) m0) m1 t:=fun t=>by
 have:=placeF_add (t:=t) (s:=m1) [m0]
 have h0:=one_mem m0 t
 rw[show strs [AV.str m0]=[m0] from rfl] at h0
 rw[h0] at this
 exact this
theorem cond_not' {α:Type} (a:Bool) (x y:α):(bif !a then x else y)=bif a then y else x:=by cases a<;>rfl
noncomputable def okN (n:tN.den):Bool:=(ile 1 n.2.1&&ile n.2.1 60)&&((ile 0 n.2.2.1&&ile n.2.2.1 n.2.1)&&(ile 1 n.2.2.2.1&&ile n.2.2.2.1 30))
noncomputable def nE (mem:List Nat→Bool) (n:tN.den):Int:=bif nameS n.1 then (bif mem n.1 then 5 else bif okN n then 0 else 7) else 6
noncomputable def ndV (mem:List Nat→Bool):Nat→List tN.den→Int×Int
 |_,[]=>(0,0)
 |i,n::l=>bif ieq (nE mem n) 0 then ndV (addM mem n.1) (i+1) l else ((i:Int),nE mem n)
theorem pnd_ans {s:tS.den} (H:s.2.1.2.length≤3):∀ (r i m:Nat) (es:List (AV×AV)) (mem:List Nat→Bool),i+r=s.2.1.2.length→r<m→okSB es=true→(∀ t,getSB t es=mem t)→Ans F4 (pndI0 s i es m) (pairV (ndV mem i (s.2.1.2.drop i)))
 |0,i,m+1,es,mem,hk,hm,hes,hmem=>by
  have h:=pnd_step0 s i es m
  rw[ile_t (show Int.ofNat s.2.1.2.length≤(i:Int) by show ((s.2.1.2.length:Nat):Int)≤i;omega),Bool.not_true,cond_false] at h
  rw[List.drop_eq_nil_of_le (by omega)]
  exact .done (Z4_ok _) F4sy h rfl
 |r+1,i,m+1,es,mem,hk,hm,hes,hmem=>by
  have h:=pnd_step0 s i es m
  have hlt:i<s.2.1.2.length:=by omega
  have p0:plO (AO.map es)=true:=hes
  have p1:plO (AO.map (setSB (s.2.1.2[i]).1 true es))=true:=setSB_ok hes
  rw[ile_f (show (i:Int)<Int.ofNat s.2.1.2.length by show (i:Int)<((s.2.1.2.length:Nat):Int);omega),inB_at hlt,getD_at hlt,wr_succ (show i<1048577 by omega)] at h
  simp only[hes,p0,p1,hmem,cond_not',cond_true] at h
  rw[List.drop_eq_getElem_cons hlt]
  show Ans F4 _ (pairV (bif ieq (nE mem s.2.1.2[i]) 0 then ndV (addM mem (s.2.1.2[i]).1) (i+1) (s.2.1.2.drop (i+1)) else ((i:Int),nE mem s.2.1.2[i])))
  have nx:=pnd_ans H r (i+1) m (setSB (s.2.1.2[i]).1 true es) (addM mem (s.2.1.2[i]).1) (by omega) (by omega) (setSB_ok hes) (fun t=>by rw[getSB_set hes,hmem];rfl)
  unfold nE okN
  generalize s.2.1.2[i]=n at h nx⊢
  cases c0:nameS n.1 with
  |false=>simp only[c0,cond_true,cond_false,Bool.true_and,Bool.false_and,Bool.and_false] at h⊢;exact .done (Z4_ok _) F4sy h rfl
  |true=>
  cases c1:mem n.1 with
  |true=>simp only[c0,c1,cond_true,cond_false,Bool.true_and,Bool.false_and,Bool.and_false] at h⊢;exact .done (Z4_ok _) F4sy h rfl
  |false=>
  cases c2:ile 1 n.2.1 with
  |false=>simp only[c0,c1,c2,cond_true,cond_false,Bool.true_and,Bool.false_and,Bool.and_false] at h⊢;exact .done (Z4_ok _) F4sy h rfl
  |true=>
  cases c3:ile n.2.1 60 with
  |false=>simp only[c0,c1,c2,c3,cond_true,cond_false,Bool.true_and,Bool.false_and,Bool.and_false] at h⊢;exact .done (Z4_ok _) F4sy h rfl
  |true=>
  cases c4:ile 0 n.2.2.1 with
  |false=>simp only[c0,c1,c2,c3,c4,cond_true,cond_false,Bool.true_and,Bool.false_and,Bool.and_false] at h⊢;exact .done (Z4_ok _) F4sy h rfl
  |true=>
  cases c5:ile n.2.2.1 n.2.1 with
  |false=>simp only[c0,c1,c2,c3,c4,c5,cond_true,cond_false,Bool.true_and,Bool.false_and,Bool.and_false] at h⊢;exact .done (Z4_ok _) F4sy h rfl
  |true=>
  cases c6:ile 1 n.2.2.2.1 with
  |false=>simp only[c0,c1,c2,c3,c4,c5,c6,cond_true,cond_false,Bool.true_and,Bool.false_and,Bool.and_false] at h⊢;exact .done (Z4_ok _) F4sy h rfl
  |true=>
  cases c7:ile n.2.2.2.1 30 with
  |false=>simp only[c0,c1,c2,c3,c4,c5,c6,c7,cond_true,cond_false,Bool.true_and,Bool.false_and,Bool.and_false] at h⊢;exact .done (Z4_ok _) F4sy h rfl
  |true=>
  simp only[c0,c1,c2,c3,c4,c5,c6,c7,cond_true,cond_false,Bool.true_and,ieq_self] at h⊢
  exact .stop (Z4_ok _) F4sy h nx
noncomputable def ndsV (s:tS.den):Int×Int:=bif ile 1 (s.2.1.2.length:Int)&&ile (s.2.1.2.length:Int) 3 then ndV (fun _=>false) 0 s.2.1.2 else (0,3)
theorem pnd_call (s:tS.den):AnsF F4 79 [tS.av s] (pairV (ndsV s)):=by
 refine Ans.call (n:=40) (ext_none (by kernel_rfl)) (hasB_spec (by kernel_rfl)) ?_
 have h:=pnd_start s
 unfold ndsV
 cases c1:ile 1 (s.2.1.2.length:Int) with
 |false=>rw[show ile 1 (↑s.2.1.2.length)=false from c1] at h;exact .done (Z4_ok _) F4sy h rfl
 |true=>
 cases c2:ile (s.2.1.2.length:Int) 3 with
 |false=>rw[show ile 1 (↑s.2.1.2.length)=true from c1,show ile (↑s.2.1.2.length) 3=false from c2] at h;exact .done (Z4_ok _) F4sy h rfl
 |true=>
  rw[show ile 1 (↑s.2.1.2.length)=true from c1,show ile (↑s.2.1.2.length) 3=true from c2] at h
  have H:s.2.1.2.length≤3:=by have:=ile_le c2;omega
  refine .stop (Z4_ok _) F4sy h ?_
  exact pnd_ans H s.2.1.2.length 0 1048575 [] (fun _=>false) (Nat.zero_add _) (by omega) rfl (fun _=>rfl)
noncomputable def ordE (s:tS.den) (o:tO.den) (b:Int):Int:=
 bif ile 0 o.1&&ile o.1 (wr .i64 (s.1-1)) then (bif ile o.1 b then 2 else bif ieq (o.2.1.2.length:Int) 0 then 3 else
  bif ieq (rixV (s.2.1.2.length:Int) o.2.1.2) 0 then (bif ile (wgtV s.2.1.2 o.2.1.2 0) s.2.2.1 then 0 else 9) else rixV (s.2.1.2.length:Int) o.2.1.2) else 7
theorem asc_in {e o:Int}:∀ {l:List Int} {b:Int} {i:Nat},o≠0→(ascV e o l b i).2=0→∀ n∈l,@LE.le Int _ 0 n∧@LE.le Int _ n e∧@LT.lt Int _ b n
 |[],_,_,_,_,n,hn=>by cases hn
 | a :: l, b, i, ho, h, n, hn => by
  have h:(bif ile 0 a&&ile a e then (bif ile a b then ((i:Int),(2:Int)) else ascV e o l a (i+1)) else ((i:Int),o)).2=0:=h
  cases c1:ile 0 a with
  |false=>rw[c1] at h;exact absurd h ho
  |true=>
  cases c2:ile a e with
  |false=>rw[c1,c2] at h;exact absurd h ho
  |true=>
  cases c3:ile a b with
  |true=>rw[c1,c2,c3] at h;exact absurd h (by show ¬ (2:Int)=0;omega)
  |false=>
   rw[c1,c2,c3] at h
   have i1:=ile_le c1;have i2:=ile_le c2;have i3:=ile_gt c3
   rcases List.mem_cons.1 hn with rfl|hn
   · exact⟨i1,i2,i3⟩
   · obtain ⟨j1, j2, j3⟩ := asc_in (l := l) (b := a) (i := i + 1) ho h n hn
     exact⟨j1,j2,by omega⟩
theorem asc_len {e o:Int}:∀ {l:List Int} {b:Int} {i:Nat},o≠0→(ascV e o l b i).2=0→l=[]∨(l.length:Int)≤e-b
 |[],_,_,_,_=>.inl rfl
 |a::l,b,i,ho,h=>by
  obtain⟨j1,j2,j3⟩:=asc_in ho h a (List.mem_cons_self ..)
  have h:(bif ile 0 a&&ile a e then (bif ile a b then ((i:Int),(2:Int)) else ascV e o l a (i+1)) else ((i:Int),o)).2=0:=h
  rw[ile_t j1,ile_t j2,ile_f j3] at h
  right
  rcases asc_len (l:=l) ho h with rfl|hl
  · show ((0+1:Nat):Int)≤e-b;omega
  · show ((l.length+1:Nat):Int)≤e-b;omega
theorem wr3 {n:Nat} (h:n≤8):wr .i64 ((n:Int)-1)=(n:Int)-1:=wr_in (by omega) (by omega)
theorem rix_ok {n:Nat} (hn:n≤8) {l:List Int} (h:ieq (rixV (n:Int) l) 0=true):l.length≤n∧∀ i∈l,inB i n=true:=by
 have h:=ieq_eq h
 unfold rixV at h
 rw[wr3 hn] at h
 refine⟨?_,fun i hi=>?_⟩
 · rcases asc_len (by omega) h with rfl | hl
   · exact Nat.zero_le _
   · omega
 · obtain ⟨a, b, _⟩ := asc_in (by omega) h i hi
   rw[inB_iff];exact decide_eq_true ⟨a,by omega⟩
theorem inAll_of {n:Nat} {l:List Int} (h:∀ i∈l,inB i n=true):inAll n l=true:=List.all_eq_true.2 h
theorem cho_call {s:tS.den} {o:tO.den} {b:Int} (H:s.2.1.2.length≤3):AnsF F4 50 [tS.av s,tO.av o,.int .i64 b] (.int .i64 (ordE s o b)):=by
 refine Ans.call (n:=40) (ext_none (by kernel_rfl)) (hasB_spec (by kernel_rfl)) ?_
 have h:=cho_start s o b
 have hw:wr .i64 ((s.2.1.2.length:Int)-1)=(s.2.1.2.length:Int)-1:=wr3 (by omega)
 have h9:ile (wr .i64 (↑s.2.1.2.length-1)) 900=true:=ile_t (by rw[show wr .i64 ((s.2.1.2.length:Int)-1)=(s.2.1.2.length:Int)-1 from hw];omega)
 rw[h9,ieq_self,bbeq_self,bbeq_self,vsB_self,vsB_self,show (ascV (wr .i64 (↑s.2.1.2.length-1)) 4 o.2.1.2 (-1) 0).2=rixV (s.2.1.2.length:Int) o.2.1.2 from rfl] at h
 simp only[cond_not',cond_true] at h
 unfold ordE
 cases c1:ile 0 o.1 with
 |false=>rw[show ile 0 o.1=false from c1] at h;exact .done (Z4_ok _) F4sy h rfl
 |true=>
 cases c2:ile o.1 (wr .i64 (s.1-1)) with
 |false=>rw[show ile 0 o.1=true from c1,show ile o.1 (wr .i64 (s.1-1))=false from c2] at h;exact .done (Z4_ok _) F4sy h rfl
 |true=>
 rw[show ile 0 o.1=true from c1,show ile o.1 (wr .i64 (s.1-1))=true from c2] at h
 simp only[cond_true] at h
 cases c3:ile o.1 b with
 |true=>rw[show ile o.1 b=true from c3] at h;exact .done (Z4_ok _) F4sy h rfl
 |false=>
 rw[show ile o.1 b=false from c3] at h
 simp only[cond_false] at h
 cases c4:ieq (o.2.1.2.length:Int) 0 with
 |true=>rw[show ieq (↑o.2.1.2.length) 0=true from c4] at h;exact .done (Z4_ok _) F4sy h rfl
 |false=>
 rw[show ieq (↑o.2.1.2.length) 0=false from c4] at h
 simp only[cond_false] at h
 cases c5:ieq (rixV (s.2.1.2.length:Int) o.2.1.2) 0 with
 |false=>rw[c5] at h;exact .done (Z4_ok _) F4sy h rfl
 |true=>
 obtain⟨k1,k2⟩:=rix_ok (by omega) c5
 rw[c5,show le1k o.2.1.2=true from Nat.ble_eq_true_of_le (by show o.2.1.2.length≤1000;omega),show inAll s.2.1.2.length o.2.1.2=true from inAll_of k2] at h
 simp only[cond_true,Bool.and_self] at h
 cases c6:ile (wgtV s.2.1.2 o.2.1.2 0) s.2.2.1 with
 |false=>rw[show ile (wgtV s.2.1.2 o.2.1.2 0) s.2.2.1=false from c6] at h;exact .done (Z4_ok _) F4sy h rfl
 |true=>rw[show ile (wgtV s.2.1.2 o.2.1.2 0) s.2.2.1=true from c6] at h;exact .done (Z4_ok _) F4sy h rfl
noncomputable def LE5:List Said:=[(79,con1 tS (fun _=>true) (fun s=>pairV (ndsV s))),(50,con3 tS tO tI (fun s _ _=>Nat.ble s.2.1.2.length 3) (fun s o b=>.int .i64 (ordE s o b)))]
theorem LE5_ok:∀ e∈LE5,SaidG Try.prog F4.glob e:=
 saids_cons (SaidOK.g f4 xf4 nf4 tabs_ok.mix (fun _ _ h=>con1_spec (t:=tS) (fun s _=>pnd_call s) h) rfl)
 (saids_cons (SaidOK.g f4 xf4 nf4 tabs_ok.mix (fun _ _ h=>con3_spec (t:=tS) (u:=tO) (w:=tI) (fun s o b c=>cho_call (Nat.le_of_ble_eq_true c)) h) rfl) saids_nil)
noncomputable def F5:Env:=F4.say (under (xOf LE5))
theorem f5:EnvOK Try.prog F5:=f4.say _
theorem nf5:NameOK F5:=nf4.say _
theorem xf5:ExtOK Try.prog F5:=xf4.sayL LE5_ok
theorem F5sy:F5.sy=true:=rfl
noncomputable def Z5 (l:List Nat):Sy:=(Z4 []).on LE5 l
theorem Z5_ok (l:List Nat):(Z5 l).ok F5:=Sy.on_ok (Z4_ok _)
end Go.Proofs.Ytmpaifgmccdipaa


set_option maxRecDepth 100000
namespace Go.Proofs.Ytmpaifgmccdipaa
open Go Go.Eng
noncomputable def rchkI0 (s:tS.den) (x78:Nat):Cfg:=⟨.ex (pcOf F4 40 [0,0,1,0,1,1,1,1]) ⟨(tmOf 123 [(0,(.agg [(.int .i64 (s.1)),(.vs tN (s.2.1.1) (s.2.1.2)),(.int .i64 (s.2.2.1)),(.int .i64 (s.2.2.2.1)),(.int .i64 (s.2.2.2.2.1)),(.vs tI (s.2.2.2.2.2.1.1) (s.2.2.2.2.2.1.2))])),(1,(.ptr 0 0)),(2,(.int .i64 (0))),(3,(.int .i64 (0))),(4,(.int .i64 (0))),(5,.nils),(6,(.int .i64 (0))),(10,(.ptr 0 0)),(11,(.int .i64 (s.1))),(12,(.bool (ile s.1 60))),(13,(.bool (!ile s.1 60))),(14,(.bool (false))),(15,(.ptr 0 2)),(16,(.int .i64 (s.2.2.1))),(17,(.bool (ile s.2.2.1 30))),(18,(.bool (!ile s.2.2.1 30))),(19,(.bool (!ile s.2.2.1 30))),(20,(.bool (false))),(21,(.ptr 0 3)),(22,(.int .i64 (s.2.2.2.1))),(23,(.bool (ile s.2.2.2.1 8))),(24,(.bool (!ile s.2.2.2.1 8))),(25,(.bool (!ile s.2.2.2.1 8))),(26,(.bool (false))),(27,(.ptr 0 4)),(28,(.int .i64 (s.2.2.2.2.1))),(29,(.bool (ile s.2.2.2.2.1 8))),(30,(.bool (!ile s.2.2.2.2.1 8))),(31,(.bool (false))),(32,(.ptr 0 1)),(33,(.vs tN (s.2.1.1) (s.2.1.2))),(34,(.int .i64 (Int.ofNat s.2.1.2.length))),(35,(.bool (ile (↑s.2.1.2.length) 3))),(36,(.bool (false)))]),(hpOf 1 [(0,(.cells false [(.int .i64 (s.1)),(.vs tN (s.2.1.1) (s.2.1.2)),(.int .i64 (s.2.2.1)),(.int .i64 (s.2.2.2.1)),(.int .i64 (s.2.2.2.2.1)),(.vs tI (s.2.2.2.2.2.1.1) (s.2.2.2.2.2.1.2))]))]),[],[],123,false⟩,⟨40,[]⟩,[(.lop (pcOf F4 40 [0,0,1,0,1,1,1,1]) 1 (tmOf 123 [(0,(.agg [(.int .i64 (s.1)),(.vs tN (s.2.1.1) (s.2.1.2)),(.int .i64 (s.2.2.1)),(.int .i64 (s.2.2.2.1)),(.int .i64 (s.2.2.2.2.1)),(.vs tI (s.2.2.2.2.2.1.1) (s.2.2.2.2.2.1.2))])),(1,(.ptr 0 0)),(2,(.int .i64 (0))),(3,(.int .i64 (0))),(4,(.int .i64 (0))),(5,.nils),(6,(.int .i64 (0))),(10,(.ptr 0 0)),(11,(.int .i64 (s.1))),(12,(.bool (ile s.1 60))),(13,(.bool (!ile s.1 60))),(14,(.bool (false))),(15,(.ptr 0 2)),(16,(.int .i64 (s.2.2.1))),(17,(.bool (ile s.2.2.1 30))),(18,(.bool (!ile s.2.2.1 30))),(19,(.bool (!ile s.2.2.1 30))),(20,(.bool (false))),(21,(.ptr 0 3)),(22,(.int .i64 (s.2.2.2.1))),(23,(.bool (ile s.2.2.2.1 8))),(24,(.bool (!ile s.2.2.2.1 8))),(25,(.bool (!ile s.2.2.2.1 8))),(26,(.bool (false))),(27,(.ptr 0 4)),(28,(.int .i64 (s.2.2.2.2.1))),(29,(.bool (ile s.2.2.2.2.1 8))),(30,(.bool (!ile s.2.2.2.2.1 8))),(31,(.bool (false))),(32,(.ptr 0 1)),(33,(.vs tN (s.2.1.1) (s.2.1.2))),(34,(.int .i64 (Int.ofNat s.2.1.2.length))),(35,(.bool (ile (↑s.2.1.2.length) 3))),(36,(.bool (false)))]) x78),(.blk 0),(.seq (pcOf F4 40 [1,1,1,1,1])),(.cal [(.tmp 2),(.tmp 3),(.tmp 4)] .top)]⟩
noncomputable def rchkI1 (s:tS.den) (x12:Int) (x98:Nat):Cfg:=⟨.ex (pcOf F4 40 [0,0,1,0,1,1,1,1,1,1]) ⟨(tmOf 123 [(0,(.agg [(.int .i64 (s.1)),(.vs tN (s.2.1.1) (s.2.1.2)),(.int .i64 (s.2.2.1)),(.int .i64 (s.2.2.2.1)),(.int .i64 (s.2.2.2.2.1)),(.vs tI (s.2.2.2.2.2.1.1) (s.2.2.2.2.2.1.2))])),(1,(.ptr 0 0)),(2,(.int .i64 (0))),(3,(.int .i64 (0))),(4,(.int .i64 (0))),(5,.nils),(6,(.int .i64 (0))),(9,(.int .i64 x12)),(10,(.ptr 0 0)),(11,(.int .i64 (s.1))),(12,(.bool (ile s.1 60))),(13,(.bool (!ile s.1 60))),(14,(.bool (false))),(15,(.ptr 0 2)),(16,(.int .i64 (s.2.2.1))),(17,(.bool (ile s.2.2.1 30))),(18,(.bool (!ile s.2.2.1 30))),(19,(.bool (!ile s.2.2.1 30))),(20,(.bool (false))),(21,(.ptr 0 3)),(22,(.int .i64 (s.2.2.2.1))),(23,(.bool (ile s.2.2.2.1 8))),(24,(.bool (!ile s.2.2.2.1 8))),(25,(.bool (!ile s.2.2.2.1 8))),(26,(.bool (false))),(27,(.ptr 0 4)),(28,(.int .i64 (s.2.2.2.2.1))),(29,(.bool (ile s.2.2.2.2.1 8))),(30,(.bool (!ile s.2.2.2.2.1 8))),(31,(.bool (false))),(32,(.ptr 0 1)),(33,(.vs tN (s.2.1.1) (s.2.1.2))),(34,(.int .i64 (Int.ofNat s.2.1.2.length))),(35,(.bool (ile (↑s.2.1.2.length) 3))),(36,(.bool (false))),(37,(.int .i64 (0))),(38,(.ptr 0 1)),(39,(.vs tN (s.2.1.1) (s.2.1.2))),(40,(.int .i64 (Int.ofNat s.2.1.2.length))),(41,(.bool (false))),(84,(.ptr 0 5)),(85,(.vs tI (s.2.2.2.2.2.1.1) (s.2.2.2.2.2.1.2))),(86,(.int .i64 (Int.ofNat s.2.2.2.2.2.1.2.length))),(87,(.bool (false)))]),(hpOf 1 [(0,(.cells false [(.int .i64 (s.1)),(.vs tN (s.2.1.1) (s.2.1.2)),(.int .i64 (s.2.2.1)),(.int .i64 (s.2.2.2.1)),(.int .i64 (s.2.2.2.2.1)),(.vs tI (s.2.2.2.2.2.1.1) (s.2.2.2.2.2.1.2))]))]),[],[],123,false⟩,⟨40,[]⟩,[(.lop (pcOf F4 40 [0,0,1,0,1,1,1,1,1,1]) 1 (tmOf 123 [(0,(.agg [(.int .i64 (s.1)),(.vs tN (s.2.1.1) (s.2.1.2)),(.int .i64 (s.2.2.1)),(.int .i64 (s.2.2.2.1)),(.int .i64 (s.2.2.2.2.1)),(.vs tI (s.2.2.2.2.2.1.1) (s.2.2.2.2.2.1.2))])),(1,(.ptr 0 0)),(2,(.int .i64 (0))),(3,(.int .i64 (0))),(4,(.int .i64 (0))),(5,.nils),(6,(.int .i64 (0))),(9,(.int .i64 (0))),(10,(.ptr 0 0)),(11,(.int .i64 (s.1))),(12,(.bool (ile s.1 60))),(13,(.bool (!ile s.1 60))),(14,(.bool (false))),(15,(.ptr 0 2)),(16,(.int .i64 (s.2.2.1))),(17,(.bool (ile s.2.2.1 30))),(18,(.bool (!ile s.2.2.1 30))),(19,(.bool (!ile s.2.2.1 30))),(20,(.bool (false))),(21,(.ptr 0 3)),(22,(.int .i64 (s.2.2.2.1))),(23,(.bool (ile s.2.2.2.1 8))),(24,(.bool (!ile s.2.2.2.1 8))),(25,(.bool (!ile s.2.2.2.1 8))),(26,(.bool (false))),(27,(.ptr 0 4)),(28,(.int .i64 (s.2.2.2.2.1))),(29,(.bool (ile s.2.2.2.2.1 8))),(30,(.bool (!ile s.2.2.2.2.1 8))),(31,(.bool (false))),(32,(.ptr 0 1)),(33,(.vs tN (s.2.1.1) (s.2.1.2))),(34,(.int .i64 (Int.ofNat s.2.1.2.length))),(35,(.bool (ile (↑s.2.1.2.length) 3))),(36,(.bool (false))),(37,(.int .i64 (0))),(38,(.ptr 0 1)),(39,(.vs tN (s.2.1.1) (s.2.1.2))),(40,(.int .i64 (Int.ofNat s.2.1.2.length))),(41,(.bool (false))),(84,(.ptr 0 5)),(85,(.vs tI (s.2.2.2.2.2.1.1) (s.2.2.2.2.2.1.2))),(86,(.int .i64 (Int.ofNat s.2.2.2.2.2.1.2.length))),(87,(.bool (false)))]) x98),(.blk 2),(.seq (pcOf F4 40 [1,1,1,1,1,1,1])),(.cal [(.tmp 2),(.tmp 3),(.tmp 4)] .top)]⟩
noncomputable def rchkI2 (s:tS.den) (x81:Nat):Cfg:=⟨.ex (pcOf F4 40 [0,0,1,0,1,1,1,1]) ⟨(tmOf 123 [(0,(.agg [(.int .i64 (s.1)),(.vs tN (s.2.1.1) (s.2.1.2)),(.int .i64 (s.2.2.1)),(.int .i64 (s.2.2.2.1)),(.int .i64 (s.2.2.2.2.1)),(.vs tI (s.2.2.2.2.2.1.1) (s.2.2.2.2.2.1.2))])),(1,(.ptr 0 0)),(2,(.int .i64 (0))),(3,(.int .i64 (0))),(4,(.int .i64 (0))),(5,(.sl 1 0 (1) (1) 1)),(6,(.int .i64 (1))),(10,(.ptr 0 0)),(11,(.int .i64 (s.1))),(12,(.bool (ile s.1 60))),(13,(.bool (!ile s.1 60))),(14,(.bool (false))),(15,(.ptr 0 2)),(16,(.int .i64 (s.2.2.1))),(17,(.bool (ile s.2.2.1 30))),(18,(.bool (!ile s.2.2.1 30))),(19,(.bool (!ile s.2.2.1 30))),(20,(.bool (false))),(21,(.ptr 0 3)),(22,(.int .i64 (s.2.2.2.1))),(23,(.bool (ile s.2.2.2.1 8))),(24,(.bool (!ile s.2.2.2.1 8))),(25,(.bool (!ile s.2.2.2.1 8))),(26,(.bool (false))),(27,(.ptr 0 4)),(28,(.int .i64 (s.2.2.2.2.1))),(29,(.bool (ile s.2.2.2.2.1 8))),(30,(.bool (!ile s.2.2.2.2.1 8))),(31,(.bool (false))),(32,(.ptr 0 1)),(33,(.vs tN (s.2.1.1) (s.2.1.2))),(34,(.int .i64 (Int.ofNat s.2.1.2.length))),(35,(.bool (ile (↑s.2.1.2.length) 3))),(36,(.bool (false)))]),(hpOf 2 [(0,(.cells false [(.int .i64 (s.1)),(.vs tN (s.2.1.1) (s.2.1.2)),(.int .i64 (s.2.2.1)),(.int .i64 (s.2.2.2.1)),(.int .i64 (s.2.2.2.2.1)),(.vs tI (s.2.2.2.2.2.1.1) (s.2.2.2.2.2.1.2))])),(1,(.cells false ([AV.str (s.2.1.2.getD (Int.toNat 0) tN.dflt).1])))]),[],[],123,false⟩,⟨40,[]⟩,[(.lop (pcOf F4 40 [0,0,1,0,1,1,1,1]) 1 (tmOf 123 [(0,(.agg [(.int .i64 (s.1)),(.vs tN (s.2.1.1) (s.2.1.2)),(.int .i64 (s.2.2.1)),(.int .i64 (s.2.2.2.1)),(.int .i64 (s.2.2.2.2.1)),(.vs tI (s.2.2.2.2.2.1.1) (s.2.2.2.2.2.1.2))])),(1,(.ptr 0 0)),(2,(.int .i64 (0))),(3,(.int .i64 (0))),(4,(.int .i64 (0))),(5,.nils),(6,(.int .i64 (0))),(10,(.ptr 0 0)),(11,(.int .i64 (s.1))),(12,(.bool (ile s.1 60))),(13,(.bool (!ile s.1 60))),(14,(.bool (false))),(15,(.ptr 0 2)),(16,(.int .i64 (s.2.2.1))),(17,(.bool (ile s.2.2.1 30))),(18,(.bool (!ile s.2.2.1 30))),(19,(.bool (!ile s.2.2.1 30))),(20,(.bool (false))),(21,(.ptr 0 3)),(22,(.int .i64 (s.2.2.2.1))),(23,(.bool (ile s.2.2.2.1 8))),(24,(.bool (!ile s.2.2.2.1 8))),(25,(.bool (!ile s.2.2.2.1 8))),(26,(.bool (false))),(27,(.ptr 0 4)),(28,(.int .i64 (s.2.2.2.2.1))),(29,(.bool (ile s.2.2.2.2.1 8))),(30,(.bool (!ile s.2.2.2.2.1 8))),(31,(.bool (false))),(32,(.ptr 0 1)),(33,(.vs tN (s.2.1.1) (s.2.1.2))),(34,(.int .i64 (Int.ofNat s.2.1.2.length))),(35,(.bool (ile (↑s.2.1.2.length) 3))),(36,(.bool (false)))]) x81),(.blk 0),(.seq (pcOf F4 40 [1,1,1,1,1])),(.cal [(.tmp 2),(.tmp 3),(.tmp 4)] .top)]⟩
noncomputable def rchkI3 (s:tS.den) (x14:Int) (x103:Nat):Cfg:=⟨.ex (pcOf F4 40 [0,0,1,0,1,1,1,1,1,1]) ⟨(tmOf 123 [(0,(.agg [(.int .i64 (s.1)),(.vs tN (s.2.1.1) (s.2.1.2)),(.int .i64 (s.2.2.1)),(.int .i64 (s.2.2.2.1)),(.int .i64 (s.2.2.2.2.1)),(.vs tI (s.2.2.2.2.2.1.1) (s.2.2.2.2.2.1.2))])),(1,(.ptr 0 0)),(2,(.int .i64 (0))),(3,(.int .i64 (0))),(4,(.int .i64 (0))),(5,(.sl 1 0 (1) (1) 1)),(6,(.int .i64 (1))),(9,(.int .i64 x14)),(10,(.ptr 0 0)),(11,(.int .i64 (s.1))),(12,(.bool (ile s.1 60))),(13,(.bool (!ile s.1 60))),(14,(.bool (false))),(15,(.ptr 0 2)),(16,(.int .i64 (s.2.2.1))),(17,(.bool (ile s.2.2.1 30))),(18,(.bool (!ile s.2.2.1 30))),(19,(.bool (!ile s.2.2.1 30))),(20,(.bool (false))),(21,(.ptr 0 3)),(22,(.int .i64 (s.2.2.2.1))),(23,(.bool (ile s.2.2.2.1 8))),(24,(.bool (!ile s.2.2.2.1 8))),(25,(.bool (!ile s.2.2.2.1 8))),(26,(.bool (false))),(27,(.ptr 0 4)),(28,(.int .i64 (s.2.2.2.2.1))),(29,(.bool (ile s.2.2.2.2.1 8))),(30,(.bool (!ile s.2.2.2.2.1 8))),(31,(.bool (false))),(32,(.ptr 0 1)),(33,(.vs tN (s.2.1.1) (s.2.1.2))),(34,(.int .i64 (Int.ofNat s.2.1.2.length))),(35,(.bool (ile (↑s.2.1.2.length) 3))),(36,(.bool (false))),(37,(.int .i64 (1))),(38,(.ptr 0 1)),(39,(.vs tN (s.2.1.1) (s.2.1.2))),(40,(.int .i64 (Int.ofNat s.2.1.2.length))),(41,(.bool (false))),(84,(.ptr 0 5)),(85,(.vs tI (s.2.2.2.2.2.1.1) (s.2.2.2.2.2.1.2))),(86,(.int .i64 (Int.ofNat s.2.2.2.2.2.1.2.length))),(87,(.bool (false)))]),(hpOf 2 [(0,(.cells false [(.int .i64 (s.1)),(.vs tN (s.2.1.1) (s.2.1.2)),(.int .i64 (s.2.2.1)),(.int .i64 (s.2.2.2.1)),(.int .i64 (s.2.2.2.2.1)),(.vs tI (s.2.2.2.2.2.1.1) (s.2.2.2.2.2.1.2))])),(1,(.cells false ([AV.str (s.2.1.2.getD (Int.toNat 0) tN.dflt).1])))]),[],[],123,false⟩,⟨40,[]⟩,[(.lop (pcOf F4 40 [0,0,1,0,1,1,1,1,1,1]) 2 (tmOf 123 [(0,(.agg [(.int .i64 (s.1)),(.vs tN (s.2.1.1) (s.2.1.2)),(.int .i64 (s.2.2.1)),(.int .i64 (s.2.2.2.1)),(.int .i64 (s.2.2.2.2.1)),(.vs tI (s.2.2.2.2.2.1.1) (s.2.2.2.2.2.1.2))])),(1,(.ptr 0 0)),(2,(.int .i64 (0))),(3,(.int .i64 (0))),(4,(.int .i64 (0))),(5,(.sl 1 0 (1) (1) 1)),(6,(.int .i64 (1))),(9,(.int .i64 (0))),(10,(.ptr 0 0)),(11,(.int .i64 (s.1))),(12,(.bool (ile s.1 60))),(13,(.bool (!ile s.1 60))),(14,(.bool (false))),(15,(.ptr 0 2)),(16,(.int .i64 (s.2.2.1))),(17,(.bool (ile s.2.2.1 30))),(18,(.bool (!ile s.2.2.1 30))),(19,(.bool (!ile s.2.2.1 30))),(20,(.bool (false))),(21,(.ptr 0 3)),(22,(.int .i64 (s.2.2.2.1))),(23,(.bool (ile s.2.2.2.1 8))),(24,(.bool (!ile s.2.2.2.1 8))),(25,(.bool (!ile s.2.2.2.1 8))),(26,(.bool (false))),(27,(.ptr 0 4)),(28,(.int .i64 (s.2.2.2.2.1))),(29,(.bool (ile s.2.2.2.2.1 8))),(30,(.bool (!ile s.2.2.2.2.1 8))),(31,(.bool (false))),(32,(.ptr 0 1)),(33,(.vs tN (s.2.1.1) (s.2.1.2))),(34,(.int .i64 (Int.ofNat s.2.1.2.length))),(35,(.bool (ile (↑s.2.1.2.length) 3))),(36,(.bool (false))),(37,(.int .i64 (1))),(38,(.ptr 0 1)),(39,(.vs tN (s.2.1.1) (s.2.1.2))),(40,(.int .i64 (Int.ofNat s.2.1.2.length))),(41,(.bool (false))),(84,(.ptr 0 5)),(85,(.vs tI (s.2.2.2.2.2.1.1) (s.2.2.2.2.2.1.2))),(86,(.int .i64 (Int.ofNat s.2.2.2.2.2.1.2.length))),(87,(.bool (false)))]) x103),(.blk 2),(.seq (pcOf F4 40 [1,1,1,1,1,1,1])),(.cal [(.tmp 2),(.tmp 3),(.tmp 4)] .top)]⟩
noncomputable def rchkI4 (s:tS.den) (x11:Nat) (x13:Int) (x45:List AV) (x81:Nat):Cfg:=⟨.ex (pcOf F4 40 [0,0,1,0,1,1,1,1]) ⟨(tmOf 123 [(0,(.agg [(.int .i64 (s.1)),(.vs tN (s.2.1.1) (s.2.1.2)),(.int .i64 (s.2.2.1)),(.int .i64 (s.2.2.2.1)),(.int .i64 (s.2.2.2.2.1)),(.vs tI (s.2.2.2.2.2.1.1) (s.2.2.2.2.2.1.2))])),(1,(.ptr 0 0)),(2,(.int .i64 (0))),(3,(.int .i64 (0))),(4,(.int .i64 (0))),(5,(.sl 1 0 x11 x11 1)),(6,(.int .i64 x13)),(10,(.ptr 0 0)),(11,(.int .i64 (s.1))),(12,(.bool (ile s.1 60))),(13,(.bool (!ile s.1 60))),(14,(.bool (false))),(15,(.ptr 0 2)),(16,(.int .i64 (s.2.2.1))),(17,(.bool (ile s.2.2.1 30))),(18,(.bool (!ile s.2.2.1 30))),(19,(.bool (!ile s.2.2.1 30))),(20,(.bool (false))),(21,(.ptr 0 3)),(22,(.int .i64 (s.2.2.2.1))),(23,(.bool (ile s.2.2.2.1 8))),(24,(.bool (!ile s.2.2.2.1 8))),(25,(.bool (!ile s.2.2.2.1 8))),(26,(.bool (false))),(27,(.ptr 0 4)),(28,(.int .i64 (s.2.2.2.2.1))),(29,(.bool (ile s.2.2.2.2.1 8))),(30,(.bool (!ile s.2.2.2.2.1 8))),(31,(.bool (false))),(32,(.ptr 0 1)),(33,(.vs tN (s.2.1.1) (s.2.1.2))),(34,(.int .i64 (Int.ofNat s.2.1.2.length))),(35,(.bool (ile (↑s.2.1.2.length) 3))),(36,(.bool (false)))]),(hpOf 2 [(0,(.cells false [(.int .i64 (s.1)),(.vs tN (s.2.1.1) (s.2.1.2)),(.int .i64 (s.2.2.1)),(.int .i64 (s.2.2.2.1)),(.int .i64 (s.2.2.2.2.1)),(.vs tI (s.2.2.2.2.2.1.1) (s.2.2.2.2.2.1.2))])),(1,(.cells true x45))]),[],[],123,false⟩,⟨40,[]⟩,[(.lop (pcOf F4 40 [0,0,1,0,1,1,1,1]) 1 (tmOf 123 [(0,(.agg [(.int .i64 (s.1)),(.vs tN (s.2.1.1) (s.2.1.2)),(.int .i64 (s.2.2.1)),(.int .i64 (s.2.2.2.1)),(.int .i64 (s.2.2.2.2.1)),(.vs tI (s.2.2.2.2.2.1.1) (s.2.2.2.2.2.1.2))])),(1,(.ptr 0 0)),(2,(.int .i64 (0))),(3,(.int .i64 (0))),(4,(.int .i64 (0))),(5,.nils),(6,(.int .i64 (0))),(10,(.ptr 0 0)),(11,(.int .i64 (s.1))),(12,(.bool (ile s.1 60))),(13,(.bool (!ile s.1 60))),(14,(.bool (false))),(15,(.ptr 0 2)),(16,(.int .i64 (s.2.2.1))),(17,(.bool (ile s.2.2.1 30))),(18,(.bool (!ile s.2.2.1 30))),(19,(.bool (!ile s.2.2.1 30))),(20,(.bool (false))),(21,(.ptr 0 3)),(22,(.int .i64 (s.2.2.2.1))),(23,(.bool (ile s.2.2.2.1 8))),(24,(.bool (!ile s.2.2.2.1 8))),(25,(.bool (!ile s.2.2.2.1 8))),(26,(.bool (false))),(27,(.ptr 0 4)),(28,(.int .i64 (s.2.2.2.2.1))),(29,(.bool (ile s.2.2.2.2.1 8))),(30,(.bool (!ile s.2.2.2.2.1 8))),(31,(.bool (false))),(32,(.ptr 0 1)),(33,(.vs tN (s.2.1.1) (s.2.1.2))),(34,(.int .i64 (Int.ofNat s.2.1.2.length))),(35,(.bool (ile (↑s.2.1.2.length) 3))),(36,(.bool (false)))]) x81),(.blk 0),(.seq (pcOf F4 40 [1,1,1,1,1])),(.cal [(.tmp 2),(.tmp 3),(.tmp 4)] .top)]⟩
noncomputable def rchkI5 (s:tS.den) (x11:Nat) (x13:Int) (x14:Int) (x55:List AV) (x103:Nat):Cfg:=⟨.ex (pcOf F4 40 [0,0,1,0,1,1,1,1,1,1]) ⟨(tmOf 123 [(0,(.agg [(.int .i64 (s.1)),(.vs tN (s.2.1.1) (s.2.1.2)),(.int .i64 (s.2.2.1)),(.int .i64 (s.2.2.2.1)),(.int .i64 (s.2.2.2.2.1)),(.vs tI (s.2.2.2.2.2.1.1) (s.2.2.2.2.2.1.2))])),(1,(.ptr 0 0)),(2,(.int .i64 (0))),(3,(.int .i64 (0))),(4,(.int .i64 (0))),(5,(.sl 1 0 x11 x11 1)),(6,(.int .i64 x13)),(9,(.int .i64 x14)),(10,(.ptr 0 0)),(11,(.int .i64 (s.1))),(12,(.bool (ile s.1 60))),(13,(.bool (!ile s.1 60))),(14,(.bool (false))),(15,(.ptr 0 2)),(16,(.int .i64 (s.2.2.1))),(17,(.bool (ile s.2.2.1 30))),(18,(.bool (!ile s.2.2.1 30))),(19,(.bool (!ile s.2.2.1 30))),(20,(.bool (false))),(21,(.ptr 0 3)),(22,(.int .i64 (s.2.2.2.1))),(23,(.bool (ile s.2.2.2.1 8))),(24,(.bool (!ile s.2.2.2.1 8))),(25,(.bool (!ile s.2.2.2.1 8))),(26,(.bool (false))),(27,(.ptr 0 4)),(28,(.int .i64 (s.2.2.2.2.1))),(29,(.bool (ile s.2.2.2.2.1 8))),(30,(.bool (!ile s.2.2.2.2.1 8))),(31,(.bool (false))),(32,(.ptr 0 1)),(33,(.vs tN (s.2.1.1) (s.2.1.2))),(34,(.int .i64 (Int.ofNat s.2.1.2.length))),(35,(.bool (ile (↑s.2.1.2.length) 3))),(36,(.bool (false))),(37,(.int .i64 x13)),(38,(.ptr 0 1)),(39,(.vs tN (s.2.1.1) (s.2.1.2))),(40,(.int .i64 (Int.ofNat s.2.1.2.length))),(41,(.bool (false))),(84,(.ptr 0 5)),(85,(.vs tI (s.2.2.2.2.2.1.1) (s.2.2.2.2.2.1.2))),(86,(.int .i64 (Int.ofNat s.2.2.2.2.2.1.2.length))),(87,(.bool (false)))]),(hpOf 2 [(0,(.cells false [(.int .i64 (s.1)),(.vs tN (s.2.1.1) (s.2.1.2)),(.int .i64 (s.2.2.1)),(.int .i64 (s.2.2.2.1)),(.int .i64 (s.2.2.2.2.1)),(.vs tI (s.2.2.2.2.2.1.1) (s.2.2.2.2.2.1.2))])),(1,(.cells true x55))]),[],[],123,false⟩,⟨40,[]⟩,[(.lop (pcOf F4 40 [0,0,1,0,1,1,1,1,1,1]) 2 (tmOf 123 [(0,(.agg [(.int .i64 (s.1)),(.vs tN (s.2.1.1) (s.2.1.2)),(.int .i64 (s.2.2.1)),(.int .i64 (s.2.2.2.1)),(.int .i64 (s.2.2.2.2.1)),(.vs tI (s.2.2.2.2.2.1.1) (s.2.2.2.2.2.1.2))])),(1,(.ptr 0 0)),(2,(.int .i64 (0))),(3,(.int .i64 (0))),(4,(.int .i64 (0))),(5,(.sl 1 0 x11 x11 1)),(6,(.int .i64 x13)),(9,(.int .i64 (0))),(10,(.ptr 0 0)),(11,(.int .i64 (s.1))),(12,(.bool (ile s.1 60))),(13,(.bool (!ile s.1 60))),(14,(.bool (false))),(15,(.ptr 0 2)),(16,(.int .i64 (s.2.2.1))),(17,(.bool (ile s.2.2.1 30))),(18,(.bool (!ile s.2.2.1 30))),(19,(.bool (!ile s.2.2.1 30))),(20,(.bool (false))),(21,(.ptr 0 3)),(22,(.int .i64 (s.2.2.2.1))),(23,(.bool (ile s.2.2.2.1 8))),(24,(.bool (!ile s.2.2.2.1 8))),(25,(.bool (!ile s.2.2.2.1 8))),(26,(.bool (false))),(27,(.ptr 0 4)),(28,(.int .i64 (s.2.2.2.2.1))),(29,(.bool (ile s.2.2.2.2.1 8))),(30,(.bool (!ile s.2.2.2.2.1 8))),(31,(.bool (false))),(32,(.ptr 0 1)),(33,(.vs tN (s.2.1.1) (s.2.1.2))),(34,(.int .i64 (Int.ofNat s.2.1.2.length))),(35,(.bool (ile (↑s.2.1.2.length) 3))),(36,(.bool (false))),(37,(.int .i64 x13)),(38,(.ptr 0 1)),(39,(.vs tN (s.2.1.1) (s.2.1.2))),(40,(.int .i64 (Int.ofNat s.2.1.2.length))),(41,(.bool (false))),(84,(.ptr 0 5)),(85,(.vs tI (s.2.2.2.2.2.1.1) (s.2.2.2.2.2.1.2))),(86,(.int .i64 (Int.ofNat s.2.2.2.2.2.1.2.length))),(87,(.bool (false)))]) x103),(.blk 2),(.seq (pcOf F4 40 [1,1,1,1,1,1,1])),(.cal [(.tmp 2),(.tmp 3),(.tmp 4)] .top)]⟩
theorem rchk_start (s:tS.den):adv F4 (Z4 [40]) 3000 (startC F4 40 [tS.av s] 40)=(bif ile 1 s.1 then (bif !ile s.1 60 then some (.done (.tup [(.int .i64 (1)),(.int .i64 (0)),(.int .i64 (7))])) else (bif ile 1 s.2.2.1 then (bif !ile s.2.2.1 30 then some (.done (.tup [(.int .i64 (1)),(.int .i64 (0)),(.int .i64 (7))])) else (bif ile 0 s.2.2.2.1 then (bif !ile s.2.2.2.1 8 then some (.done (.tup [(.int .i64 (1)),(.int .i64 (0)),(.int .i64 (7))])) else (bif ile 1 s.2.2.2.2.1 then (bif !ile s.2.2.2.2.1 8 then some (.done (.tup [(.int .i64 (1)),(.int .i64 (0)),(.int .i64 (7))])) else (bif ile 1 ↑s.2.1.2.length then (bif !ile (↑s.2.1.2.length) 3 then some (.done (.tup [(.int .i64 (2)),(.int .i64 (0)),(.int .i64 (3))])) else some (.stop (rchkI0 s (1048575)))) else some (.done (.tup [(.int .i64 (2)),(.int .i64 (0)),(.int .i64 (3))])))) else some (.done (.tup [(.int .i64 (1)),(.int .i64 (0)),(.int .i64 (7))])))) else some (.done (.tup [(.int .i64 (1)),(.int .i64 (0)),(.int .i64 (7))])))) else some (.done (.tup [(.int .i64 (1)),(.int .i64 (0)),(.int .i64 (7))])))) else some (.done (.tup [(.int .i64 (1)),(.int .i64 (0)),(.int .i64 (7))]))):=by kernel_rfl
theorem pck_start (s:tS.den):adv F5 (Z5 []) 3000 (startC F5 49 [tS.av s] 40)=(bif !ile 1 s.1 then some (.done (.tup [(.int .i64 (1)),(.int .i64 (0)),(.int .i64 (7))])) else (bif !ile s.1 60 then some (.done (.tup [(.int .i64 (1)),(.int .i64 (0)),(.int .i64 (7))])) else (bif !ile 1 s.2.2.1 then some (.done (.tup [(.int .i64 (1)),(.int .i64 (0)),(.int .i64 (7))])) else (bif !ile s.2.2.1 30 then some (.done (.tup [(.int .i64 (1)),(.int .i64 (0)),(.int .i64 (7))])) else (bif !ile 0 s.2.2.2.1 then some (.done (.tup [(.int .i64 (1)),(.int .i64 (0)),(.int .i64 (7))])) else (bif !ile s.2.2.2.1 8 then some (.done (.tup [(.int .i64 (1)),(.int .i64 (0)),(.int .i64 (7))])) else (bif !ile 1 s.2.2.2.2.1 then some (.done (.tup [(.int .i64 (1)),(.int .i64 (0)),(.int .i64 (7))])) else (bif !ile s.2.2.2.2.1 8 then some (.done (.tup [(.int .i64 (1)),(.int .i64 (0)),(.int .i64 (7))])) else (bif !ieq (ndsV s).2 0 then some (.done (.tup [(.int .i64 (2)),(.int .i64 ((ndsV s).1)),(.int .i64 ((ndsV s).2))])) else (bif !ile (↑s.2.2.2.2.2.1.2.length) 6 then some (.done (.tup [(.int .i64 (3)),(.int .i64 (0)),(.int .i64 (3))])) else (bif ile (wr .i64 (s.1-1)) 900 then (bif !ieq (ascV (wr .i64 (s.1-1)) 7 s.2.2.2.2.2.1.2 (-1) 0).2 0 then some (.done (.tup [(.int .i64 (3)),(.int .i64 ((ascV (wr .i64 (s.1-1)) 7 s.2.2.2.2.2.1.2 (-1) 0).1)),(.int .i64 ((ascV (wr .i64 (s.1-1)) 7 s.2.2.2.2.2.1.2 (-1) 0).2))])) else some (.done (.tup [(.int .i64 (0)),(.int .i64 (0)),(.int .i64 (0))]))) else none))))))))))):=by kernel_rfl
noncomputable abbrev ndI (s:tS.den) (k:Nat):tN.den:=s.2.1.2.getD k tN.dflt
noncomputable abbrev poL (s:tS.den):List Int:=s.2.2.2.2.2.1.2
noncomputable def kS (i e:Int) (n:tN.den) (X:Option Out):Option Out:=(bif ieq e 0 then (bif ile 1 n.2.1 then (bif !ile n.2.1 60 then some (.done (.tup [.int .i64 2,.int .i64 i,.int .i64 7])) else (bif ile 0 n.2.2.1 then (bif !ile n.2.2.1 n.2.1 then some (.done (.tup [.int .i64 2,.int .i64 i,.int .i64 7])) else (bif ile 1 n.2.2.2.1 then (bif !ile n.2.2.2.1 30 then some (.done (.tup [.int .i64 2,.int .i64 i,.int .i64 7])) else (bif !ieq e 0 then some (.done (.tup [.int .i64 2,.int .i64 i,.int .i64 e])) else X)) else some (.done (.tup [.int .i64 2,.int .i64 i,.int .i64 7])))) else some (.done (.tup [.int .i64 2,.int .i64 i,.int .i64 7])))) else some (.done (.tup [.int .i64 2,.int .i64 i,.int .i64 7]))) else (bif !ieq e 0 then some (.done (.tup [.int .i64 2,.int .i64 i,.int .i64 e])) else X))
theorem kS_eq (i e:Int) (n:tN.den) (X:Option Out):kS i e n X=bif ieq e 0 then (bif okN n then X else some (.done (.tup [.int .i64 2,.int .i64 i,.int .i64 7]))) else some (.done (.tup [.int .i64 2,.int .i64 i,.int .i64 e])):=by
 unfold kS okN
 cases ieq e 0<;>cases ile 1 n.2.1<;>cases ile n.2.1 60<;>cases ile 0 n.2.2.1<;>cases ile n.2.2.1 n.2.1<;>cases ile 1 n.2.2.2.1<;>cases ile n.2.2.2.1 30<;>rfl
noncomputable def poS (s:tS.den) (k:Int) (X:Option Out):Option Out:=(bif !ile ((poL s).length:Int) k then (bif inB k (poL s).length then (bif ile 0 ((poL s).getD k.toNat tI.dflt) then (bif ieq s.1 s.1 then (bif bbeq s.2.2.2.2.2.1.1 s.2.2.2.2.2.1.1 then (bif vsB tI (poL s) tI (poL s) then (bif !ile ((poL s).getD k.toNat tI.dflt) (wr .i64 (s.1-1)) then some (.done (.tup [.int .i64 3,.int .i64 k,.int .i64 7])) else (bif !ile k 0 then (bif inB k (poL s).length then (bif inB (wr .i64 (k-1)) (poL s).length then (bif ile ((poL s).getD k.toNat tI.dflt) ((poL s).getD (wr .i64 (k-1)).toNat tI.dflt) then some (.done (.tup [.int .i64 3,.int .i64 k,.int .i64 2])) else X) else none) else none) else X)) else none) else none) else none) else (bif ieq s.1 s.1 then (bif bbeq s.2.2.2.2.2.1.1 s.2.2.2.2.2.1.1 then (bif vsB tI (poL s) tI (poL s) then some (.done (.tup [.int .i64 3,.int .i64 k,.int .i64 7])) else none) else none) else none)) else none) else some (.done (.tup [.int .i64 0,.int .i64 0,.int .i64 0])))
theorem rk0 (s:tS.den) (m:Nat):adv F4 (Z4 [40]) 3000 (rchkI0 s (m+1))=(bif !ile (s.2.1.2.length:Int) 0 then (bif inB 0 s.2.1.2.length then kS 0 (frsV (ndI s 0).1 []) (ndI s 0) (some (.stop (rchkI2 s m))) else none) else (bif !ile ((poL s).length:Int) 6 then some (.done (.tup [.int .i64 3,.int .i64 0,.int .i64 3])) else some (.stop (rchkI1 s 0 1048575)))):=by kernel_rfl
theorem rk1 (s:tS.den) (m:Nat):adv F4 (Z4 [40]) 3000 (rchkI2 s (m+1))=(bif !ile (s.2.1.2.length:Int) 1 then (bif inB 1 s.2.1.2.length then kS 1 (frsV (ndI s 1).1 [(ndI s 0).1]) (ndI s 1) (some (.stop (rchkI4 s 2 2 [.str (ndI s 0).1,.str (ndI s 1).1] m))) else none) else (bif !ile ((poL s).length:Int) 6 then some (.done (.tup [.int .i64 3,.int .i64 0,.int .i64 3])) else some (.stop (rchkI3 s 0 1048575)))):=by kernel_rfl
theorem rk2 (s:tS.den) (a b:List Nat) (m:Nat):adv F4 (Z4 [40]) 3000 (rchkI4 s 2 2 [.str a,.str b] (m+1))=(bif !ile (s.2.1.2.length:Int) 2 then (bif inB 2 s.2.1.2.length then kS 2 (frsV (ndI s 2).1 [a,b]) (ndI s 2) (some (.stop (rchkI4 s 3 3 [.str a,.str b,.str (ndI s 2).1] m))) else none) else (bif !ile ((poL s).length:Int) 6 then some (.done (.tup [.int .i64 3,.int .i64 0,.int .i64 3])) else some (.stop (rchkI5 s 2 2 0 [.str a,.str b] 1048575)))):=by kernel_rfl
theorem rk3 (s:tS.den) (a b c:List Nat) (m:Nat):adv F4 (Z4 [40]) 3000 (rchkI4 s 3 3 [.str a,.str b,.str c] (m+1))=(bif !ile (s.2.1.2.length:Int) 3 then (bif inB 3 s.2.1.2.length then kS 3 (frsV (ndI s 3).1 [a,b,c]) (ndI s 3) (some (.stop (rchkI4 s 4 4 [.str a,.str b,.str c,.str (ndI s 3).1] m))) else none) else (bif !ile ((poL s).length:Int) 6 then some (.done (.tup [.int .i64 3,.int .i64 0,.int .i64 3])) else some (.stop (rchkI5 s 3 3 0 [.str a,.str b,.str c] 1048575)))):=by kernel_rfl
theorem rp3 (s:tS.den) (k:Int) (m:Nat):adv F4 (Z4 [40]) 3000 (rchkI3 s k (m+1))=poS s k (some (.stop (rchkI3 s (wr .i64 (k+1)) m))):=by kernel_rfl
theorem rp52 (s:tS.den) (a b:List Nat) (k:Int) (m:Nat):adv F4 (Z4 [40]) 3000 (rchkI5 s 2 2 k [.str a,.str b] (m+1))=poS s k (some (.stop (rchkI5 s 2 2 (wr .i64 (k+1)) [.str a,.str b] m))):=by kernel_rfl
theorem rp53 (s:tS.den) (a b c:List Nat) (k:Int) (m:Nat):adv F4 (Z4 [40]) 3000 (rchkI5 s 3 3 k [.str a,.str b,.str c] (m+1))=poS s k (some (.stop (rchkI5 s 3 3 (wr .i64 (k+1)) [.str a,.str b,.str c] m))):=by kernel_rfl
noncomputable def posR (p:Int×Int):Int×Int×Int:=bif ieq p.2 0 then (0,0,0) else (3,p.1,p.2)
theorem pos_ans {s:tS.den} {C:Int→Nat→Cfg} (hC:∀ (k:Int) (m:Nat),adv F4 (Z4 [40]) 3000 (C k (m+1))=poS s k (some (.stop (C (wr .i64 (k+1)) m)))) (H:(poL s).length≤6) :
  ∀ (r k m:Nat) (b:Int),k+r=(poL s).length→r<m→(k=0∧b=-1∨∃ j,k=j+1∧(poL s)[j]?=some b)→Ans F4 (C k m) (tup3 (posR (ascV (wr .i64 (s.1-1)) 7 ((poL s).drop k) b k)))
 |0,k,m+1,b,hk,hm,hb=>by
  have h:=hC k m
  unfold poS at h
  rw[ile_t (show ((poL s).length:Int)≤(k:Int) by omega),Bool.not_true,cond_false] at h
  rw[List.drop_eq_nil_of_le (by omega)]
  exact done3 (Z4_ok _) F4sy h rfl
 |r+1,k,m+1,b,hk,hm,hb=>by
  have h:=hC k m
  unfold poS at h
  have hlt:k<(poL s).length:=by omega
  rw[ile_f (show (k:Int)<((poL s).length:Int) by omega),inB_at hlt,getD_at hlt,wr_succ (show k<1048577 by omega),ieq_self,bbeq_self,vsB_self] at h
  simp only[Bool.not_false,cond_true] at h
  rw[List.drop_eq_getElem_cons hlt]
  show Ans F4 _ (tup3 (posR (bif ile 0 (poL s)[k]&&ile (poL s)[k] (wr .i64 (s.1-1)) then (bif ile (poL s)[k] b then ((k:Int),2) else ascV (wr .i64 (s.1-1)) 7 ((poL s).drop (k+1)) (poL s)[k] (k+1)) else ((k:Int),7))))
  cases c1:ile 0 (poL s)[k] with
  |false=>rw[c1] at h;exact done3 (Z4_ok _) F4sy h rfl
  |true=>
  cases c2:ile (poL s)[k] (wr .i64 (s.1-1)) with
  |false=>rw[c1,c2] at h;exact done3 (Z4_ok _) F4sy h rfl
  |true=>
  have nx:=pos_ans hC H r (k+1) m (poL s)[k] (by omega) (by omega) (.inr ⟨k,rfl,List.getElem?_eq_getElem hlt⟩)
  rcases hb with ⟨rfl,rfl⟩|⟨j,rfl,hj⟩
  · have c3 : ile (poL s)[0] (-1) = false := ile_f (by have := ile_le c1; omega)
    rw[c1,c2] at h
    rw[c3]
    exact .stop (Z4_ok _) F4sy h nx
  · have hj1 : j < (poL s).length := by omega
    rw[List.getElem?_eq_getElem hj1] at hj
    simp only[Option.some.injEq] at hj
    rw[c1,c2,ile_f (show (0:Int)<((j+1:Nat):Int) by omega),show wr .i64 (((j+1:Nat):Int)-1)=(j:Int) from wr_pred (by omega),inB_at hj1,getD_at hj1,hj] at h
    simp only[Bool.not_true,Bool.not_false,cond_true,cond_false] at h
    cases c3:ile (poL s)[j+1] b with
    |true=>rw[c3] at h;exact done3 (Z4_ok _) F4sy h rfl
    |false=>rw[c3] at h;exact .stop (Z4_ok _) F4sy h nx
noncomputable def posV (s:tS.den):Int×Int×Int:=bif ile ((poL s).length:Int) 6 then posR (ascV (wr .i64 (s.1-1)) 7 (poL s) (-1) 0) else (3,0,3)
theorem pos_go {s:tS.den} {C:Int→Nat→Cfg} (hC:∀ (k:Int) (m:Nat),adv F4 (Z4 [40]) 3000 (C k (m+1))=poS s k (some (.stop (C (wr .i64 (k+1)) m)))) {cfg:Cfg} {q:Nat}
  (h:adv F4 (Z4 [40]) q cfg=(bif !ile ((poL s).length:Int) 6 then some (.done (.tup [.int .i64 3,.int .i64 0,.int .i64 3])) else some (.stop (C 0 1048575)))):Ans F4 cfg (tup3 (posV s)):=by
 unfold posV
 cases c:ile ((poL s).length:Int) 6 with
 |false=>rw[c] at h;exact done3 (Z4_ok _) F4sy h rfl
 |true=>
  rw[c] at h
  have H:(poL s).length≤6:=by have:=ile_le c;omega
  exact .stop (Z4_ok _) F4sy h (pos_ans hC H (poL s).length 0 1048575 (-1) (Nat.zero_add _) (by omega) (.inl ⟨rfl,rfl⟩))
noncomputable def numB (s:tS.den):Bool:=(ile 1 s.1&&ile s.1 60)&&((ile 1 s.2.2.1&&ile s.2.2.1 30)&&((ile 0 s.2.2.2.1&&ile s.2.2.2.1 8)&&(ile 1 s.2.2.2.2.1&&ile s.2.2.2.2.1 8)))
noncomputable def chkV (s:tS.den):Int×Int×Int:=bif numB s then (bif ieq (ndsV s).2 0 then posV s else (2,(ndsV s).1,(ndsV s).2)) else (1,0,7)
theorem frs_nE (n:tN.den) (l:List (List Nat)) (mem:List Nat→Bool) (h:∀ t,ile 0 (placeF t l 0)=mem t):(bif ieq (frsV n.1 l) 0 then (bif okN n then (0:Int) else 7) else frsV n.1 l)=nE mem n:=by
 unfold frsV nE
 rw[h]
 cases nameS n.1 with
 |false=>rfl
 |true=>cases mem n.1 with
  |true=>rfl
  |false=>rfl
theorem kS_ans {i e:Int} {n:tN.den} {X:Out} {cfg:Cfg} {q:Nat} {V:Int×Int×Int} {E:Int} (he:(bif ieq e 0 then (bif okN n then (0:Int) else 7) else e)=E)
  (h:adv F4 (Z4 [40]) q cfg=kS i e n (some X)) (hb:ieq E 0=false→V=(2,i,E)) (hg:ieq E 0=true→adv F4 (Z4 [40]) q cfg=some X→Ans F4 cfg (tup3 V)):Ans F4 cfg (tup3 V):=by
 rw[kS_eq] at h
 cases c:ieq e 0 with
 |false=>
  rw[c,cond_false] at h he
  subst he
  exact done3 (Z4_ok _) F4sy h (hb c).symm
 |true=>
  rw[c,cond_true] at h he
  cases c2:okN n with
  |false=>rw[c2] at h he;subst he;exact done3 (Z4_ok _) F4sy h (hb rfl).symm
  |true=>rw[c2] at h he;subst he;exact hg rfl h
theorem ndV_at {mem:List Nat→Bool} {i:Nat} {l:List tN.den} (h:i<l.length):ndV mem i (l.drop i)=bif ieq (nE mem (l.getD i tN.dflt)) 0 then ndV (addM mem (l.getD i tN.dflt).1) (i+1) (l.drop (i+1)) else ((i:Int),nE mem (l.getD i tN.dflt)):=by
 rw[List.drop_eq_getElem_cons h,List.getD_eq_getElem?_getD,List.getElem?_eq_getElem h];rfl
theorem ndV_end {mem:List Nat→Bool} {i:Nat} {l:List tN.den} (h:l.length≤i):ndV mem i (l.drop i)=(0,0):=by
 rw[List.drop_eq_nil_of_le h];rfl
noncomputable def ndG (s:tS.den) (p:Int×Int):Int×Int×Int:=bif ieq p.2 0 then posV s else (2,p.1,p.2)
theorem rchk_ans {s:tS.den} (h1:1≤s.2.1.2.length) (h3:s.2.1.2.length≤3):Ans F4 (rchkI0 s 1048575) (tup3 (ndG s (ndV (fun _=>false) 0 s.2.1.2))):=by
 have e0:=ndV_at (mem:=fun _=>false) (i:=0) (l:=s.2.1.2) (by omega)
 rw[List.drop_zero] at e0
 have h:=rk0 s 1048574
 rw[ile_f (show (0:Int)<(s.2.1.2.length:Int) by omega),inB_0 (by omega),Bool.not_false,cond_true,cond_true] at h
 refine kS_ans (frs_nE _ [] (fun _=>false) (fun _=>rfl)) h (fun c=>?_) (fun c h=>.stop (Z4_ok _) F4sy h ?_)
 · rw[e0,c];show ndG s ((0:Int),nE _ _)=_;unfold ndG;rw[c];rfl
 rw[e0,c,cond_true]
 have h:=rk1 s 1048573
 by_cases l1:1<s.2.1.2.length
 rotate_left
 · rw [ile_t (show (s.2.1.2.length : Int) ≤ 1 by omega), Bool.not_true, cond_false] at h
   rw[ndV_end (by omega)]
   exact pos_go (rp3 s) h
 rw[ile_f (show (1:Int)<(s.2.1.2.length:Int) by omega),inB_1 (by omega),Bool.not_false,cond_true,cond_true] at h
 have e1:=ndV_at (mem:=addM (fun _=>false) (ndI s 0).1) (i:=1) (l:=s.2.1.2) l1
 refine kS_ans (frs_nE _ [(ndI s 0).1] _ (one_mem (ndI s 0).1)) h (fun c=>?_) (fun c h=>.stop (Z4_ok _) F4sy h ?_)
 · rw[e1,c];show ndG s (((1:Nat):Int),nE _ _)=_;unfold ndG;rw[c];rfl
 rw[e1,c,cond_true]
 have h:=rk2 s (ndI s 0).1 (ndI s 1).1 1048572
 by_cases l2:2<s.2.1.2.length
 rotate_left
 · rw [ile_t (show (s.2.1.2.length : Int) ≤ 2 by omega), Bool.not_true, cond_false] at h
   rw[ndV_end (by omega)]
   exact pos_go (rp52 s _ _) h
 rw[ile_f (show (2:Int)<(s.2.1.2.length:Int) by omega),show inB 2 s.2.1.2.length=true from inB_at (k:=2) l2,Bool.not_false,cond_true,cond_true] at h
 have e2:=ndV_at (mem:=addM (addM (fun _=>false) (ndI s 0).1) (ndI s 1).1) (i:=2) (l:=s.2.1.2) l2
 refine kS_ans (frs_nE _ [(ndI s 0).1,(ndI s 1).1] _ (two_mem (ndI s 0).1 (ndI s 1).1)) h (fun c=>?_) (fun c h=>.stop (Z4_ok _) F4sy h ?_)
 · rw[e2,c];show ndG s (((2:Nat):Int),nE _ _)=_;unfold ndG;rw[c];rfl
 rw[e2,c,cond_true]
 have h:=rk3 s (ndI s 0).1 (ndI s 1).1 (ndI s 2).1 1048571
 rw[ile_t (show (s.2.1.2.length:Int)≤3 by omega),Bool.not_true,cond_false] at h
 rw[ndV_end (by omega)]
 exact pos_go (rp53 s _ _ _) h
theorem rchk_call (s:tS.den):AnsF F4 40 [tS.av s] (tup3 (chkV s)):=by
 refine Ans.call (n:=40) (ext_none (by kernel_rfl)) (hasB_spec (by kernel_rfl)) ?_
 have h:=rchk_start s
 simp only[cond_not'] at h
 unfold chkV numB
 cases c0:ile 1 s.1 with
 |false=>simp only[c0,cond_true,cond_false,Bool.true_and,Bool.false_and,Bool.and_false] at h⊢;exact done3 (Z4_ok _) F4sy h rfl
 |true=>
 cases c1:ile s.1 60 with
 |false=>simp only[c0,c1,cond_true,cond_false,Bool.true_and,Bool.false_and,Bool.and_false] at h⊢;exact done3 (Z4_ok _) F4sy h rfl
 |true=>
 cases c2:ile 1 s.2.2.1 with
 |false=>simp only[c0,c1,c2,cond_true,cond_false,Bool.true_and,Bool.false_and,Bool.and_false] at h⊢;exact done3 (Z4_ok _) F4sy h rfl
 |true=>
 cases c3:ile s.2.2.1 30 with
 |false=>simp only[c0,c1,c2,c3,cond_true,cond_false,Bool.true_and,Bool.false_and,Bool.and_false] at h⊢;exact done3 (Z4_ok _) F4sy h rfl
 |true=>
 cases c4:ile 0 s.2.2.2.1 with
 |false=>simp only[c0,c1,c2,c3,c4,cond_true,cond_false,Bool.true_and,Bool.false_and,Bool.and_false] at h⊢;exact done3 (Z4_ok _) F4sy h rfl
 |true=>
 cases c5:ile s.2.2.2.1 8 with
 |false=>simp only[c0,c1,c2,c3,c4,c5,cond_true,cond_false,Bool.true_and,Bool.false_and,Bool.and_false] at h⊢;exact done3 (Z4_ok _) F4sy h rfl
 |true=>
 cases c6:ile 1 s.2.2.2.2.1 with
 |false=>simp only[c0,c1,c2,c3,c4,c5,c6,cond_true,cond_false,Bool.true_and,Bool.false_and,Bool.and_false] at h⊢;exact done3 (Z4_ok _) F4sy h rfl
 |true=>
 cases c7:ile s.2.2.2.2.1 8 with
 |false=>simp only[c0,c1,c2,c3,c4,c5,c6,c7,cond_true,cond_false,Bool.true_and,Bool.false_and,Bool.and_false] at h⊢;exact done3 (Z4_ok _) F4sy h rfl
 |true=>
 simp only[c0,c1,c2,c3,c4,c5,c6,c7,cond_true,Bool.true_and] at h⊢
 unfold ndsV
 cases d1:ile 1 (s.2.1.2.length:Int) with
 |false=>simp only[d1,cond_true,cond_false,Bool.false_and] at h⊢;exact done3 (Z4_ok _) F4sy h rfl
 |true=>
 cases d2:ile (s.2.1.2.length:Int) 3 with
 |false=>simp only[d1,d2,cond_true,cond_false,Bool.true_and] at h⊢;exact done3 (Z4_ok _) F4sy h rfl
 |true=>
 simp only[d1,d2,cond_true,Bool.true_and] at h⊢
 have i1:=ile_le d1;have i2:=ile_le d2
 exact .stop (Z4_ok _) F4sy h (rchk_ans (by omega) (by omega))
theorem pck_call (s:tS.den):AnsF F5 49 [tS.av s] (tup3 (chkV s)):=by
 refine Ans.call (n:=40) (ext_none (by kernel_rfl)) (hasB_spec (by kernel_rfl)) ?_
 have h:=pck_start s
 simp only[cond_not'] at h
 unfold chkV numB
 cases c0:ile 1 s.1 with
 |false=>simp only[c0,cond_true,cond_false,Bool.true_and,Bool.false_and,Bool.and_false] at h⊢;exact done3 (Z5_ok _) F5sy h rfl
 |true=>
 cases c1:ile s.1 60 with
 |false=>simp only[c0,c1,cond_true,cond_false,Bool.true_and,Bool.false_and,Bool.and_false] at h⊢;exact done3 (Z5_ok _) F5sy h rfl
 |true=>
 cases c2:ile 1 s.2.2.1 with
 |false=>simp only[c0,c1,c2,cond_true,cond_false,Bool.true_and,Bool.false_and,Bool.and_false] at h⊢;exact done3 (Z5_ok _) F5sy h rfl
 |true=>
 cases c3:ile s.2.2.1 30 with
 |false=>simp only[c0,c1,c2,c3,cond_true,cond_false,Bool.true_and,Bool.false_and,Bool.and_false] at h⊢;exact done3 (Z5_ok _) F5sy h rfl
 |true=>
 cases c4:ile 0 s.2.2.2.1 with
 |false=>simp only[c0,c1,c2,c3,c4,cond_true,cond_false,Bool.true_and,Bool.false_and,Bool.and_false] at h⊢;exact done3 (Z5_ok _) F5sy h rfl
 |true=>
 cases c5:ile s.2.2.2.1 8 with
 |false=>simp only[c0,c1,c2,c3,c4,c5,cond_true,cond_false,Bool.true_and,Bool.false_and,Bool.and_false] at h⊢;exact done3 (Z5_ok _) F5sy h rfl
 |true=>
 cases c6:ile 1 s.2.2.2.2.1 with
 |false=>simp only[c0,c1,c2,c3,c4,c5,c6,cond_true,cond_false,Bool.true_and,Bool.false_and,Bool.and_false] at h⊢;exact done3 (Z5_ok _) F5sy h rfl
 |true=>
 cases c7:ile s.2.2.2.2.1 8 with
 |false=>simp only[c0,c1,c2,c3,c4,c5,c6,c7,cond_true,cond_false,Bool.true_and,Bool.false_and,Bool.and_false] at h⊢;exact done3 (Z5_ok _) F5sy h rfl
 |true=>
 simp only[c0,c1,c2,c3,c4,c5,c6,c7,cond_true,Bool.true_and] at h⊢
 cases d:ieq (ndsV s).2 0 with
 |false=>simp only[d,cond_false] at h⊢;exact done3 (Z5_ok _) F5sy h rfl
 |true=>
 simp only[d,cond_true] at h⊢
 unfold posV posR
 cases d1:ile ((poL s).length:Int) 6 with
 |false=>simp only[d1,cond_false] at h⊢;exact done3 (Z5_ok _) F5sy h rfl
 |true=>
 have hw:ile (wr .i64 (s.1-1)) 900=true:=by
  have i1:=ile_le c0;have i2:=ile_le c1
  rw[wr_in (by omega) (by omega)]
  exact ile_t (by omega)
 simp only[d1,hw,cond_true] at h⊢
 cases d2:ieq (ascV (wr .i64 (s.1-1)) 7 (poL s) (-1) 0).2 0 with
 |false=>simp only[d2,cond_false] at h⊢;exact done3 (Z5_ok _) F5sy h rfl
 |true=>simp only[d2,cond_true] at h⊢;exact done3 (Z5_ok _) F5sy h rfl
noncomputable def LF6:List Said:=[(49,con1 tS (fun _=>true) (fun s=>tup3 (chkV s))),(40,con1 tS (fun _=>true) (fun s=>tup3 (chkV s)))]
theorem LF6_ok:∀ e∈LF6,SaidG Try.prog F5.glob e:=
 saids_cons (SaidOK.g f5 xf5 nf5 tabs_ok.mix (fun _ _ h=>con1_spec (t:=tS) (fun s _=>pck_call s) h) rfl)
 (saids_cons (SaidOK.g f4 xf4 nf4 tabs_ok.mix (fun _ _ h=>con1_spec (t:=tS) (fun s _=>rchk_call s) h) rfl) saids_nil)
noncomputable def F6:Env:=F5.say (under (xOf LF6))
theorem f6:EnvOK Try.prog F6:=f5.say _
theorem nf6:NameOK F6:=nf5.say _
theorem xf6:ExtOK Try.prog F6:=xf5.sayL LF6_ok
theorem F6sy:F6.sy=true:=rfl
noncomputable def Z6 (l:List Nat):Sy:=(Z5 []).on LF6 l
theorem Z6_ok (l:List Nat):(Z6 l).ok F6:=Sy.on_ok (Z5_ok _)
end Go.Proofs.Ytmpaifgmccdipaa


set_option maxRecDepth 100000
namespace Go.Proofs.Ytmpaifgmccdipaa
open Go Go.Eng
noncomputable def plnI0 (s:tS.den) (p:(Ty.sl tO).den) (x15:Int) (x42:Int) (x94:Nat):Cfg:=⟨.ex (pcOf F6 27 [0,0,1,0,1,1,1,1]) ⟨(tmOf 43 [(0,(.agg [(.int .i64 (s.1)),(.vs tN (s.2.1.1) (s.2.1.2)),(.int .i64 (s.2.2.1)),(.int .i64 (s.2.2.2.1)),(.int .i64 (s.2.2.2.2.1)),(.vs tI (s.2.2.2.2.2.1.1) (s.2.2.2.2.2.1.2))])),(1,(.vs tO (p.1) (p.2))),(2,(.ptr 0 0)),(4,(.int .i64 (0))),(5,(.int .i64 (0))),(6,(.int .i64 ((chkV s).1))),(7,(.int .i64 ((chkV s).2.1))),(8,(.int .i64 ((chkV s).2.2))),(9,(.int .i64 x15)),(13,(.tup [(.int .i64 ((chkV s).1)),(.int .i64 ((chkV s).2.1)),(.int .i64 ((chkV s).2.2))])),(14,(.agg [(.int .i64 (s.1)),(.vs tN (s.2.1.1) (s.2.1.2)),(.int .i64 (s.2.2.1)),(.int .i64 (s.2.2.2.1)),(.int .i64 (s.2.2.2.2.1)),(.vs tI (s.2.2.2.2.2.1.1) (s.2.2.2.2.2.1.2))])),(15,(.tup [(.int .i64 ((chkV s).1)),(.int .i64 ((chkV s).2.1)),(.int .i64 ((chkV s).2.2))])),(16,(.int .i64 ((chkV s).1))),(17,(.int .i64 ((chkV s).2.1))),(18,(.int .i64 ((chkV s).2.2))),(19,(.int .i64 ((chkV s).2.2))),(20,(.bool (false))),(22,(.vs tO (p.1) (p.2))),(23,(.int .i64 (Int.ofNat p.2.length))),(24,(.bool (false))),(25,(.vs tO (p.1) (p.2))),(26,(.int .i64 (Int.ofNat p.2.length))),(27,(.int .i64 x42))]),(hpOf 1 [(0,(.cells false [(.int .i64 (s.1)),(.vs tN (s.2.1.1) (s.2.1.2)),(.int .i64 (s.2.2.1)),(.int .i64 (s.2.2.2.1)),(.int .i64 (s.2.2.2.2.1)),(.vs tI (s.2.2.2.2.2.1.1) (s.2.2.2.2.2.1.2))]))]),[],[],43,false⟩,⟨40,[]⟩,[(.lop (pcOf F6 27 [0,0,1,0,1,1,1,1]) 1 (tmOf 43 [(0,(.agg [(.int .i64 (s.1)),(.vs tN (s.2.1.1) (s.2.1.2)),(.int .i64 (s.2.2.1)),(.int .i64 (s.2.2.2.1)),(.int .i64 (s.2.2.2.2.1)),(.vs tI (s.2.2.2.2.2.1.1) (s.2.2.2.2.2.1.2))])),(1,(.vs tO (p.1) (p.2))),(2,(.ptr 0 0)),(4,(.int .i64 (0))),(5,(.int .i64 (0))),(6,(.int .i64 ((chkV s).1))),(7,(.int .i64 ((chkV s).2.1))),(8,(.int .i64 ((chkV s).2.2))),(9,(.int .i64 (-1))),(13,(.tup [(.int .i64 ((chkV s).1)),(.int .i64 ((chkV s).2.1)),(.int .i64 ((chkV s).2.2))])),(14,(.agg [(.int .i64 (s.1)),(.vs tN (s.2.1.1) (s.2.1.2)),(.int .i64 (s.2.2.1)),(.int .i64 (s.2.2.2.1)),(.int .i64 (s.2.2.2.2.1)),(.vs tI (s.2.2.2.2.2.1.1) (s.2.2.2.2.2.1.2))])),(15,(.tup [(.int .i64 ((chkV s).1)),(.int .i64 ((chkV s).2.1)),(.int .i64 ((chkV s).2.2))])),(16,(.int .i64 ((chkV s).1))),(17,(.int .i64 ((chkV s).2.1))),(18,(.int .i64 ((chkV s).2.2))),(19,(.int .i64 ((chkV s).2.2))),(20,(.bool (false))),(22,(.vs tO (p.1) (p.2))),(23,(.int .i64 (Int.ofNat p.2.length))),(24,(.bool (false))),(25,(.vs tO (p.1) (p.2))),(26,(.int .i64 (Int.ofNat p.2.length))),(27,(.int .i64 (0)))]) x94),(.blk 0),(.seq (pcOf F6 27 [1,1,1,1,1])),(.cal [(.tmp 4),(.tmp 5)] .top)]⟩
theorem pln_start (s:tS.den) (p:(Ty.sl tO).den):adv F6 (Z6 [27]) 3000 (startC F6 27 [tS.av s,.vs tO p.1 p.2] 40)=(bif !ieq (chkV s).2.2 0 then some (.done (.tup [(.int .i64 (0)),(.int .i64 ((chkV s).2.2))])) else (bif !ile (↑p.2.length) 8 then some (.done (.tup [(.int .i64 (0)),(.int .i64 (3))])) else some (.stop (plnI0 s p (-1) (0) (1048575))))):=by kernel_rfl
theorem pln_step0 (s:tS.den) (p:(Ty.sl tO).den) (x15:Int) (x42:Int) (x94:Nat):adv F6 (Z6 [27]) 3000 (plnI0 s p x15 x42 (x94+1))=(bif !ile (Int.ofNat p.2.length) x42 then (bif inB x42 p.2.length then (bif s.2.1.2.length.ble 3 then (bif !ieq (ordE s (p.2.getD x42.toNat tO.dflt) x15) 0 then some (.done (.tup [(.int .i64 (x42)),(.int .i64 (ordE s (p.2.getD x42.toNat tO.dflt) x15))])) else some (.stop (plnI0 s p ((p.2.getD x42.toNat tO.dflt).1) (wr .i64 (x42+1)) (x94)))) else none) else none) else some (.done (.tup [(.int .i64 (0)),(.int .i64 (0))]))):=by kernel_rfl
noncomputable def rorI0 (s:tS.den) (p:(Ty.sl tO).den) (x12:Int) (x42:Nat):Cfg:=⟨.ex (pcOf F6 41 [0,0,1,0,1,1]) ⟨(tmOf 80 [(0,(.agg [(.int .i64 (s.1)),(.vs tN (s.2.1.1) (s.2.1.2)),(.int .i64 (s.2.2.1)),(.int .i64 (s.2.2.2.1)),(.int .i64 (s.2.2.2.2.1)),(.vs tI (s.2.2.2.2.2.1.1) (s.2.2.2.2.2.1.2))])),(1,(.vs tO (p.1) (p.2))),(2,(.ptr 0 0)),(4,(.int .i64 (0))),(5,(.int .i64 (0))),(6,(.int .i64 x12)),(8,(.vs tO (p.1) (p.2))),(9,(.int .i64 (Int.ofNat p.2.length))),(10,(.bool (false)))]),(hpOf 1 [(0,(.cells false [(.int .i64 (s.1)),(.vs tN (s.2.1.1) (s.2.1.2)),(.int .i64 (s.2.2.1)),(.int .i64 (s.2.2.2.1)),(.int .i64 (s.2.2.2.2.1)),(.vs tI (s.2.2.2.2.2.1.1) (s.2.2.2.2.2.1.2))]))]),[],[],80,false⟩,⟨40,[]⟩,[(.lop (pcOf F6 41 [0,0,1,0,1,1]) 1 (tmOf 80 [(0,(.agg [(.int .i64 (s.1)),(.vs tN (s.2.1.1) (s.2.1.2)),(.int .i64 (s.2.2.1)),(.int .i64 (s.2.2.2.1)),(.int .i64 (s.2.2.2.2.1)),(.vs tI (s.2.2.2.2.2.1.1) (s.2.2.2.2.2.1.2))])),(1,(.vs tO (p.1) (p.2))),(2,(.ptr 0 0)),(4,(.int .i64 (0))),(5,(.int .i64 (0))),(6,(.int .i64 (0))),(8,(.vs tO (p.1) (p.2))),(9,(.int .i64 (Int.ofNat p.2.length))),(10,(.bool (false)))]) x42),(.blk 0),(.seq (pcOf F6 41 [1,1,1])),(.cal [(.tmp 4),(.tmp 5)] .top)]⟩
theorem ror_start (s:tS.den) (p:(Ty.sl tO).den):adv F6 (Z6 [41]) 3000 (startC F6 41 [tS.av s,.vs tO p.1 p.2] 40)=(bif !ile (↑p.2.length) 8 then some (.done (.tup [(.int .i64 (0)),(.int .i64 (3))])) else some (.stop (rorI0 s p (0) (1048575)))):=by kernel_rfl
theorem ror_step0 (s:tS.den) (p:(Ty.sl tO).den) (x12:Int) (x42:Nat):adv F6 (Z6 [41]) 3000 (rorI0 s p x12 (x42+1))=(bif !ile (↑p.2.length) x12 then (bif inB x12 p.2.length then (bif ile 0 (p.2.getD x12.toNat tO.dflt).1 then (bif ieq s.1 s.1 then (bif !ile (p.2.getD x12.toNat tO.dflt).1 (wr .i64 (s.1-1)) then some (.done (.tup [(.int .i64 (x12)),(.int .i64 (7))])) else (bif !ile x12 0 then (bif inB x12 p.2.length then (bif inB (wr .i64 (x12-1)) p.2.length then (bif ile (p.2.getD x12.toNat tO.dflt).1 (p.2.getD (wr .i64 (x12-1)).toNat tO.dflt).1 then some (.done (.tup [(.int .i64 (x12)),(.int .i64 (2))])) else (bif inB x12 p.2.length then (bif ieq (↑(p.2.getD x12.toNat tO.dflt).2.1.2.length) 0 then some (.done (.tup [(.int .i64 (x12)),(.int .i64 (3))])) else (bif inB x12 p.2.length then (bif ile (wr .i64 (↑s.2.1.2.length-1)) 900 then (bif bbeq s.2.1.1 s.2.1.1 then (bif vsB tN s.2.1.2 tN s.2.1.2 then (bif ieq (rixV (↑s.2.1.2.length) (p.2.getD x12.toNat tO.dflt).2.1.2) 0 then (bif inB x12 p.2.length then (bif le1k (p.2.getD x12.toNat tO.dflt).2.1.2&&inAll s.2.1.2.length (p.2.getD x12.toNat tO.dflt).2.1.2 then (bif ieq s.2.2.1 s.2.2.1 then (bif ieq s.2.2.1 s.2.2.1 then (bif ieq s.1 s.1 then (bif bbeq s.2.1.1 s.2.1.1 then (bif vsB tN s.2.1.2 tN s.2.1.2 then (bif ieq s.2.2.1 s.2.2.1 then (bif ieq s.2.2.2.1 s.2.2.2.1 then (bif ieq s.2.2.2.2.1 s.2.2.2.2.1 then (bif bbeq s.2.2.2.2.2.1.1 s.2.2.2.2.2.1.1 then (bif vsB tI s.2.2.2.2.2.1.2 tI s.2.2.2.2.2.1.2 then (bif !ile (wgtV s.2.1.2 (p.2.getD x12.toNat tO.dflt).2.1.2 0) s.2.2.1 then some (.done (.tup [(.int .i64 (x12)),(.int .i64 (9))])) else (bif !ieq (rixV (↑s.2.1.2.length) (p.2.getD x12.toNat tO.dflt).2.1.2) 0 then some (.done (.tup [(.int .i64 (x12)),(.int .i64 (rixV (↑s.2.1.2.length) (p.2.getD x12.toNat tO.dflt).2.1.2))])) else some (.stop (rorI0 s p (wr .i64 (x12+1)) (x42))))) else none) else none) else none) else none) else none) else none) else none) else none) else none) else none) else none) else none) else (bif !ieq (rixV (↑s.2.1.2.length) (p.2.getD x12.toNat tO.dflt).2.1.2) 0 then some (.done (.tup [(.int .i64 (x12)),(.int .i64 (rixV (↑s.2.1.2.length) (p.2.getD x12.toNat tO.dflt).2.1.2))])) else some (.stop (rorI0 s p (wr .i64 (x12+1)) (x42))))) else none) else none) else none) else none)) else none)) else none) else none) else (bif inB x12 p.2.length then (bif ieq (↑(p.2.getD x12.toNat tO.dflt).2.1.2.length) 0 then some (.done (.tup [(.int .i64 (x12)),(.int .i64 (3))])) else (bif inB x12 p.2.length then (bif ile (wr .i64 (↑s.2.1.2.length-1)) 900 then (bif bbeq s.2.1.1 s.2.1.1 then (bif vsB tN s.2.1.2 tN s.2.1.2 then (bif ieq (rixV (↑s.2.1.2.length) (p.2.getD x12.toNat tO.dflt).2.1.2) 0 then (bif inB x12 p.2.length then (bif le1k (p.2.getD x12.toNat tO.dflt).2.1.2&&inAll s.2.1.2.length (p.2.getD x12.toNat tO.dflt).2.1.2 then (bif ieq s.2.2.1 s.2.2.1 then (bif ieq s.2.2.1 s.2.2.1 then (bif ieq s.1 s.1 then (bif bbeq s.2.1.1 s.2.1.1 then (bif vsB tN s.2.1.2 tN s.2.1.2 then (bif ieq s.2.2.1 s.2.2.1 then (bif ieq s.2.2.2.1 s.2.2.2.1 then (bif ieq s.2.2.2.2.1 s.2.2.2.2.1 then (bif bbeq s.2.2.2.2.2.1.1 s.2.2.2.2.2.1.1 then (bif vsB tI s.2.2.2.2.2.1.2 tI s.2.2.2.2.2.1.2 then (bif !ile (wgtV s.2.1.2 (p.2.getD x12.toNat tO.dflt).2.1.2 0) s.2.2.1 then some (.done (.tup [(.int .i64 (x12)),(.int .i64 (9))])) else (bif !ieq (rixV (↑s.2.1.2.length) (p.2.getD x12.toNat tO.dflt).2.1.2) 0 then some (.done (.tup [(.int .i64 (x12)),(.int .i64 (rixV (↑s.2.1.2.length) (p.2.getD x12.toNat tO.dflt).2.1.2))])) else some (.stop (rorI0 s p (wr .i64 (x12+1)) (x42))))) else none) else none) else none) else none) else none) else none) else none) else none) else none) else none) else none) else none) else (bif !ieq (rixV (↑s.2.1.2.length) (p.2.getD x12.toNat tO.dflt).2.1.2) 0 then some (.done (.tup [(.int .i64 (x12)),(.int .i64 (rixV (↑s.2.1.2.length) (p.2.getD x12.toNat tO.dflt).2.1.2))])) else some (.stop (rorI0 s p (wr .i64 (x12+1)) (x42))))) else none) else none) else none) else none)) else none))) else none) else (bif ieq s.1 s.1 then some (.done (.tup [(.int .i64 (x12)),(.int .i64 (7))])) else none)) else none) else some (.done (.tup [(.int .i64 (0)),(.int .i64 (0))]))):=by kernel_rfl
noncomputable def orsV (s:tS.den):Int→Nat→List tO.den→Int×Int
 |_,_,[]=>(0,0)
 |b,i,o::l=>bif ieq (ordE s o b) 0 then orsV s o.1 (i+1) l else ((i:Int),ordE s o b)
theorem done2 {E:Env} {S:Sy} (hS:S.ok E) (hsy:E.sy=true) {n:Nat} {c:Cfg} {a b:Int} {r:Int×Int} (h:adv E S n c=some (.done (.tup [.int .i64 a,.int .i64 b]))) (e:(a,b)=r):Ans E c (pairV r):=
 e▸Ans.done hS hsy h rfl
theorem pln_ans {s:tS.den} {p:(Ty.sl tO).den} (H:s.2.1.2.length≤3) (HP:p.2.length≤8):∀ (r i m:Nat) (b:Int),i+r=p.2.length→r<m→Ans F6 (plnI0 s p b i m) (pairV (orsV s b i (p.2.drop i)))
 |0,i,m+1,b,hk,hm=>by
  have h:=pln_step0 s p b i m
  rw[ile_t (show Int.ofNat p.2.length≤(i:Int) by show ((p.2.length:Nat):Int)≤i;omega),Bool.not_true,cond_false] at h
  rw[List.drop_eq_nil_of_le (by omega)]
  exact done2 (Z6_ok _) F6sy h rfl
 |r+1,i,m+1,b,hk,hm=>by
  have h:=pln_step0 s p b i m
  have hlt:i<p.2.length:=by omega
  rw[ile_f (show (i:Int)<Int.ofNat p.2.length by show (i:Int)<((p.2.length:Nat):Int);omega),inB_at hlt,getD_at hlt,wr_succ (show i<1048577 by omega),Nat.ble_eq_true_of_le (show s.2.1.2.length≤3 from H),Bool.not_false,cond_true,cond_true,cond_true] at h
  rw[List.drop_eq_getElem_cons hlt]
  show Ans F6 _ (pairV (bif ieq (ordE s p.2[i] b) 0 then orsV s (p.2[i]).1 (i+1) (p.2.drop (i+1)) else ((i:Int),ordE s p.2[i] b)))
  cases c:ieq (ordE s p.2[i] b) 0 with
  |false=>rw[c] at h;exact done2 (Z6_ok _) F6sy h rfl
  |true=>rw[c] at h;exact .stop (Z6_ok _) F6sy h (pln_ans H HP r (i+1) m _ (by omega) (by omega))
noncomputable def plnV (s:tS.den) (p:List tO.den):Int×Int:=bif ieq (chkV s).2.2 0 then (bif ile (p.length:Int) 8 then orsV s (-1) 0 p else (0,3)) else (0,(chkV s).2.2)
structure SOK (s:tS.den):Prop where
 d1:@LE.le Int _ 1 s.1
 d2:@LE.le Int _ s.1 60
 n1:1≤s.2.1.2.length
 n3:s.2.1.2.length≤3
 nd:ieq (ndV (fun _=>false) 0 s.2.1.2).2 0=true
theorem chk_ok {s:tS.den} (h:ieq (chkV s).2.2 0=true):SOK s:=by
 unfold chkV at h
 cases c:numB s with
 |false=>rw[c] at h;cases h
 |true=>
 rw[c,cond_true] at h
 cases d:ieq (ndsV s).2 0 with
 |false=>rw[d,cond_false] at h;rw[h] at d;cases d
 |true=>
 unfold numB at c
 simp only[Bool.and_eq_true] at c
 obtain⟨⟨c1,c2⟩,_⟩:=c
 unfold ndsV at d
 cases d1:ile 1 (s.2.1.2.length:Int) with
 |false=>rw[d1] at d;cases d
 |true=>
 cases d2:ile (s.2.1.2.length:Int) 3 with
 |false=>rw[d1,d2] at d;cases d
 |true=>
 rw[d1,d2] at d
 have i1:=ile_le d1;have i2:=ile_le d2
 exact⟨ile_le c1,ile_le c2,by omega,by omega,d⟩
theorem pln_call (s:tS.den) (p:(Ty.sl tO).den):AnsF F6 27 [tS.av s,.vs tO p.1 p.2] (pairV (plnV s p.2)):=by
 refine Ans.call (n:=40) (ext_none (by kernel_rfl)) (hasB_spec (by kernel_rfl)) ?_
 have h:=pln_start s p
 unfold plnV
 cases c:ieq (chkV s).2.2 0 with
 |false=>rw[show ieq (chkV s).2.2 0=false from c] at h;exact done2 (Z6_ok _) F6sy h rfl
 |true=>
 rw[show ieq (chkV s).2.2 0=true from c] at h
 cases c2:ile (p.2.length:Int) 8 with
 |false=>rw[show ile (↑p.2.length) 8=false from c2] at h;exact done2 (Z6_ok _) F6sy h rfl
 |true=>
 rw[show ile (↑p.2.length) 8=true from c2] at h
 have i2:=ile_le c2
 exact .stop (Z6_ok _) F6sy h (pln_ans (chk_ok c).n3 (by omega) p.2.length 0 1048575 (-1) (Nat.zero_add _) (by omega))
theorem ror_ans {s:tS.den} {p:(Ty.sl tO).den} (H:s.2.1.2.length≤3) (HP:p.2.length≤8):∀ (r i m:Nat) (b:Int),i+r=p.2.length→r<m→(i=0∧b=-1∨∃ j,i=j+1∧∃ o,p.2[j]?=some o∧o.1=b)→Ans F6 (rorI0 s p i m) (pairV (orsV s b i (p.2.drop i)))
 |0,i,m+1,b,hk,hm,hb=>by
  have h:=ror_step0 s p i m
  rw[ile_t (show ((p.2.length:Nat):Int)≤(i:Int) by omega),Bool.not_true,cond_false] at h
  rw[List.drop_eq_nil_of_le (by omega)]
  exact done2 (Z6_ok _) F6sy h rfl
 | r + 1, i, m + 1, b, hk, hm, hb => by
  have h:=ror_step0 s p i m
  have hlt:i<p.2.length:=by omega
  have h9:ile (wr .i64 (↑s.2.1.2.length-1)) 900=true:=ile_t (by rw[show wr .i64 ((s.2.1.2.length:Int)-1)=(s.2.1.2.length:Int)-1 from wr3 (by omega)];omega)
  rw[ile_f (show (i:Int)<((p.2.length:Nat):Int) by omega),inB_at hlt,getD_at hlt,wr_succ (show i<1048577 by omega),h9] at h
  simp only[ieq_self,bbeq_self,vsB_self,cond_not',cond_true,cond_false] at h
  rw[List.drop_eq_getElem_cons hlt]
  show Ans F6 _ (pairV (bif ieq (ordE s p.2[i] b) 0 then orsV s (p.2[i]).1 (i+1) (p.2.drop (i+1)) else ((i:Int),ordE s p.2[i] b)))
  have nx:=ror_ans H HP r (i+1) m (p.2[i]).1 (by omega) (by omega) (.inr ⟨i,rfl,p.2[i],List.getElem?_eq_getElem hlt,rfl⟩)
  have hprev:∀ (c1:ile 0 (p.2[i]).1=true) (X Y:Option Out),(bif ile (i:Int) 0 then Y else (bif inB (wr .i64 ((i:Int)-1)) p.2.length then (bif ile (p.2[i]).1 (p.2.getD (wr .i64 ((i:Int)-1)).toNat tO.dflt).1 then X else Y) else none))=bif ile (p.2[i]).1 b then X else Y:=by
   intro c1 X Y
   rcases hb with ⟨rfl,rfl⟩|⟨j,rfl,o,hj,rfl⟩
   · rw[show ile ((0:Nat):Int) 0=true from rfl,ile_f (show (-1:Int)<(p.2[0]).1 by have:=ile_le c1;omega)];rfl
   · have hj1 : j < p.2.length := by omega
     rw[List.getElem?_eq_getElem hj1] at hj
     simp only[Option.some.injEq] at hj
     subst hj
     rw[ile_f (show (0:Int)<((j+1:Nat):Int) by omega),show wr .i64 (((j+1:Nat):Int)-1)=(j:Int) from wr_pred (by omega),inB_at hj1,getD_at hj1];rfl
  cases c1:ile 0 (p.2[i]).1 with
  |false=>
   have he:ordE s p.2[i] b=7:=by unfold ordE;rw[c1];rfl
   rw[c1] at h;rw[he];exact done2 (Z6_ok _) F6sy h rfl
  |true=>
  cases c2:ile (p.2[i]).1 (wr .i64 (s.1-1)) with
  |false=>
   have he:ordE s p.2[i] b=7:=by unfold ordE;rw[c1,c2];rfl
   rw[c1,c2] at h;rw[he];exact done2 (Z6_ok _) F6sy h rfl
  |true=>
  rw[c1,c2] at h
  simp only[cond_true] at h
  have h:adv F6 (Z6 [41]) 3000 (rorI0 s p i (m+1))=(bif ile (i:Int) 0 then _ else (bif inB (wr .i64 ((i:Int)-1)) p.2.length then (bif ile (p.2[i]).1 (p.2.getD (wr .i64 ((i:Int)-1)).toNat tO.dflt).1 then _ else _) else none)):=h
  rw[hprev c1] at h
  cases c3:ile (p.2[i]).1 b with
  |true=>
   have he:ordE s p.2[i] b=2:=by unfold ordE;rw[c1,c2,c3];rfl
   rw[c3] at h;rw[he];exact done2 (Z6_ok _) F6sy h rfl
  |false=>
  rw[c3,cond_false] at h
  cases c4:ieq ((p.2[i]).2.1.2.length:Int) 0 with
  |true=>
   have he:ordE s p.2[i] b=3:=by unfold ordE;rw[c1,c2,c3,c4];rfl
   rw[show ieq (↑(p.2[i]).2.1.2.length) 0=true from c4] at h;rw[he];exact done2 (Z6_ok _) F6sy h rfl
  |false=>
  rw[show ieq (↑(p.2[i]).2.1.2.length) 0=false from c4] at h
  simp only[cond_false] at h
  cases c5:ieq (rixV (s.2.1.2.length:Int) (p.2[i]).2.1.2) 0 with
  |false=>
   have he:ordE s p.2[i] b=rixV (s.2.1.2.length:Int) (p.2[i]).2.1.2:=by unfold ordE;rw[c1,c2,c3,c4,c5];rfl
   rw[c5] at h;rw[he,c5];exact done2 (Z6_ok _) F6sy h rfl
  |true=>
  obtain⟨k1,k2⟩:=rix_ok (by omega) c5
  rw[c5,show le1k (p.2[i]).2.1.2=true from Nat.ble_eq_true_of_le (by show (p.2[i]).2.1.2.length≤1000;omega),show inAll s.2.1.2.length (p.2[i]).2.1.2=true from inAll_of k2] at h
  simp only[cond_true,Bool.and_self] at h
  cases c6:ile (wgtV s.2.1.2 (p.2[i]).2.1.2 0) s.2.2.1 with
  |false=>
   have he:ordE s p.2[i] b=9:=by unfold ordE;rw[c1,c2,c3,c4,c5,c6];rfl
   rw[show ile (wgtV s.2.1.2 (p.2[i]).2.1.2 0) s.2.2.1=false from c6] at h;rw[he];exact done2 (Z6_ok _) F6sy h rfl
  |true=>
   have he:ordE s p.2[i] b=0:=by unfold ordE;rw[c1,c2,c3,c4,c5,c6];rfl
   rw[show ile (wgtV s.2.1.2 (p.2[i]).2.1.2 0) s.2.2.1=true from c6] at h;rw[he];exact .stop (Z6_ok _) F6sy h nx
noncomputable def rorV (s:tS.den) (p:List tO.den):Int×Int:=bif ile (p.length:Int) 8 then orsV s (-1) 0 p else (0,3)
theorem ror_call {s:tS.den} {p:(Ty.sl tO).den} (H:s.2.1.2.length≤3):AnsF F6 41 [tS.av s,.vs tO p.1 p.2] (pairV (rorV s p.2)):=by
 refine Ans.call (n:=40) (ext_none (by kernel_rfl)) (hasB_spec (by kernel_rfl)) ?_
 have h:=ror_start s p
 unfold rorV
 cases c2:ile (p.2.length:Int) 8 with
 |false=>rw[show ile (↑p.2.length) 8=false from c2] at h;exact done2 (Z6_ok _) F6sy h rfl
 |true=>
 rw[show ile (↑p.2.length) 8=true from c2] at h
 have i2:=ile_le c2
 exact .stop (Z6_ok _) F6sy h (ror_ans H (by omega) p.2.length 0 1048575 (-1) (Nat.zero_add _) (by omega) (.inl ⟨rfl,rfl⟩))
noncomputable def LG7:List Said:=[(27,con2 tS (.sl tO) (fun _ _=>true) (fun s p=>pairV (plnV s p.2))),(41,con2 tS (.sl tO) (fun s _=>Nat.ble s.2.1.2.length 3) (fun s p=>pairV (rorV s p.2)))]
theorem LG7_ok:∀ e∈LG7,SaidG Try.prog F6.glob e:=
 saids_cons (SaidOK.g f6 xf6 nf6 tabs_ok.mix (fun _ _ h=>con2_spec (t:=tS) (u:=.sl tO) (fun s p _=>pln_call s p) h) rfl)
 (saids_cons (SaidOK.g f6 xf6 nf6 tabs_ok.mix (fun _ _ h=>con2_spec (t:=tS) (u:=.sl tO) (fun s p c=>ror_call (Nat.le_of_ble_eq_true c)) h) rfl) saids_nil)
noncomputable def F7:Env:=F6.say (under (xOf LG7))
theorem f7:EnvOK Try.prog F7:=f6.say _
theorem nf7:NameOK F7:=nf6.say _
theorem xf7:ExtOK Try.prog F7:=xf6.sayL LG7_ok
theorem F7sy:F7.sy=true:=rfl
noncomputable def Z7 (l:List Nat):Sy:=(Z6 []).on LG7 l
theorem Z7_ok (l:List Nat):(Z7 l).ok F7:=Sy.on_ok (Z6_ok _)
end Go.Proofs.Ytmpaifgmccdipaa


set_option maxRecDepth 100000
namespace Go.Proofs.Ytmpaifgmccdipaa
open Go Go.Eng
theorem rpl_start (s:tS.den) (p:(Ty.sl tO).den):adv F7 (Z7 []) 3000 (startC F7 19 [tS.av s,.vs tO p.1 p.2] 40)=(bif !ieq (chkV s).2.2 0 then some (.done (.tup [(.int .i64 (0)),(.int .i64 ((chkV s).2.2))])) else (bif s.2.1.2.length.ble 3 then some (.done (.tup [(.int .i64 ((rorV s p.2).1)),(.int .i64 ((rorV s p.2).2))])) else none)):=by kernel_rfl
noncomputable def wthI0 (f:tB.den) (l:(Ty.sl tI).den) (x13:Int) (x14:List AV) (x30:Nat):Cfg:=⟨.ex (pcOf F7 52 [0,0,1,0,1]) ⟨(tmOf 17 [(0,(.agg [(.bool (f.1)),(.bool (f.2.1)),(.bool (f.2.2.1)),(.bool (f.2.2.2.1)),(.bool (f.2.2.2.2.1)),(.bool (f.2.2.2.2.2.1)),(.bool (f.2.2.2.2.2.2.1)),(.bool (f.2.2.2.2.2.2.2.1))])),(1,(.vs tI (l.1) (l.2))),(2,(.ptr 0 0)),(4,(.ptr 1 0)),(7,(.vs tI (l.1) (l.2))),(8,(.int .i64 (Int.ofNat l.2.length))),(9,(.int .i64 x13))]),(hpOf 2 [(0,(.cells false x14)),(1,(.cells false ([AV.bool false,AV.bool false,AV.bool false,AV.bool false,AV.bool false,AV.bool false,AV.bool false,AV.bool false])))]),[],[],17,false⟩,⟨20,[]⟩,[(.lop (pcOf F7 52 [0,0,1,0,1]) 2 (tmOf 17 [(0,(.agg [(.bool (f.1)),(.bool (f.2.1)),(.bool (f.2.2.1)),(.bool (f.2.2.2.1)),(.bool (f.2.2.2.2.1)),(.bool (f.2.2.2.2.2.1)),(.bool (f.2.2.2.2.2.2.1)),(.bool (f.2.2.2.2.2.2.2.1))])),(1,(.vs tI (l.1) (l.2))),(2,(.ptr 0 0)),(4,(.ptr 1 0)),(7,(.vs tI (l.1) (l.2))),(8,(.int .i64 (Int.ofNat l.2.length))),(9,(.int .i64 (0)))]) x30),(.blk 0),(.seq (pcOf F7 52 [1,1])),(.cal [(.cell 4 66)] .top)]⟩
theorem wth_start (f:tB.den) (l:(Ty.sl tI).den):adv F7 ((Z7 [52]).flat [0]) 3000 (startC F7 52 [tB.av f,.vs tI l.1 l.2] 20)=some (.stop (wthI0 f l (0) ([AV.bool f.1,AV.bool f.2.1,AV.bool f.2.2.1,AV.bool f.2.2.2.1,AV.bool f.2.2.2.2.1,AV.bool f.2.2.2.2.2.1,AV.bool f.2.2.2.2.2.2.1,AV.bool f.2.2.2.2.2.2.2.1]) (1048575))):=by kernel_rfl
theorem wth_step0 (f:tB.den) (l:(Ty.sl tI).den) (x13:Int) (x14:List AV) (x30:Nat):adv F7 ((Z7 [52]).flat [0]) 3000 (wthI0 f l x13 x14 (x30+1))=(bif !ile (Int.ofNat l.2.length) x13 then (bif inB x13 l.2.length then (bif inB (l.2.getD x13.toNat tI.dflt) 8 then (bif (0+Int.toNat (l.2.getD x13.toNat tI.dflt) * 1+1).ble x14.length then (bif plO (AO.cells false (x14.set (0+Int.toNat (l.2.getD x13.toNat tI.dflt) * 1) (AV.bool true))) then some (.stop (wthI0 f l (wr .i64 (x13+1)) (x14.set (0+Int.toNat (l.2.getD x13.toNat tI.dflt) * 1) (AV.bool true)) (x30))) else none) else none) else none) else none) else (bif isZs x14 [AV.bool false,AV.bool false,AV.bool false,AV.bool false,AV.bool false,AV.bool false,AV.bool false,AV.bool false] 0 then some (.done (.agg [(.bool (toB (x14.getD 0 AV.nili))),(.bool (toB (x14.getD (0+1) AV.nili))),(.bool (toB (x14.getD (0+1+1) AV.nili))),(.bool (toB (x14.getD (0+1+1+1) AV.nili))),(.bool (toB (x14.getD (0+1+1+1+1) AV.nili))),(.bool (toB (x14.getD (0+1+1+1+1+1) AV.nili))),(.bool (toB (x14.getD (0+1+1+1+1+1+1) AV.nili))),(.bool (toB (x14.getD (0+1+1+1+1+1+1+1) AV.nili)))])) else none)):=by kernel_rfl
noncomputable def setF (f:tB.den) (n:Int):tB.den:=(bif ieq n 0 then true else f.1,bif ieq n 1 then true else f.2.1,bif ieq n 2 then true else f.2.2.1,bif ieq n 3 then true else f.2.2.2.1,bif ieq n 4 then true else f.2.2.2.2.1,bif ieq n 5 then true else f.2.2.2.2.2.1,bif ieq n 6 then true else f.2.2.2.2.2.2.1,bif ieq n 7 then true else f.2.2.2.2.2.2.2.1,())
noncomputable def withV:List Int→tB.den→tB.den
 |[],f=>f
 |n::l,f=>withV l (setF f n)
theorem in8_cases {n:Int} (h:inB n 8=true):n=0∨n=1∨n=2∨n=3∨n=4∨n=5∨n=6∨n=7:=by
 rw[inB_iff] at h;have:=of_decide_eq_true h;omega
theorem set_at (f:tB.den) {n:Int} (h:inB n 8=true):(0+Int.toNat n * 1+1).ble (flL f).length=true∧(flL f).set (0+Int.toNat n * 1) (AV.bool true)=flL (setF f n):=by
 rcases in8_cases h with rfl|rfl|rfl|rfl|rfl|rfl|rfl|rfl<;>exact⟨rfl,rfl⟩
theorem wth_ans {f:tB.den} {l:(Ty.sl tI).den} (H:l.2.length≤1000) (HL:∀ i∈l.2,inB i 8=true):∀ (r k m:Nat) (g:tB.den),k+r=l.2.length→r<m→Ans F7 (wthI0 f l k (flL g) m) (tB.av (withV (l.2.drop k) g))
 |0,k,m+1,g,hk,hm=>by
  have h:=wth_step0 f l k (flL g) m
  rw[ile_t (show Int.ofNat l.2.length≤(k:Int) by show ((l.2.length:Nat):Int)≤k;omega),Bool.not_true,cond_false] at h
  rw[List.drop_eq_nil_of_le (by omega)]
  exact .done (Sy.flat_ok (Z7_ok _)) F7sy h rfl
 |r+1,k,m+1,g,hk,hm=>by
  have h:=wth_step0 f l k (flL g) m
  have hlt:k<l.2.length:=by omega
  have hi:=HL _ (List.getElem_mem hlt)
  obtain⟨a1,a2⟩:=set_at g hi
  rw[ile_f (show (k:Int)<Int.ofNat l.2.length by show (k:Int)<((l.2.length:Nat):Int);omega),inB_at hlt,getD_at hlt,wr_succ (show k<1048577 by omega),hi,a1,a2,Bool.not_false,cond_true,cond_true,cond_true,cond_true] at h
  rw[List.drop_eq_getElem_cons hlt]
  exact .stop (Sy.flat_ok (Z7_ok _)) F7sy h (wth_ans H HL r (k+1) m _ (by omega) (by omega))
theorem wth_call {f:tB.den} {l:(Ty.sl tI).den} (H:l.2.length≤1000) (HL:∀ i∈l.2,inB i 8=true):AnsF F7 52 [tB.av f,.vs tI l.1 l.2] (tB.av (withV l.2 f)):=by
 refine Ans.call (n:=20) (ext_none (by kernel_rfl)) (hasB_spec (by kernel_rfl)) ?_
 exact .stop (Sy.flat_ok (Z7_ok _)) F7sy (wth_start f l) (wth_ans H HL l.2.length 0 1048575 f (Nat.zero_add _) (by omega))
theorem rpl_call (s:tS.den) (p:(Ty.sl tO).den):AnsF F7 19 [tS.av s,.vs tO p.1 p.2] (pairV (plnV s p.2)):=by
 refine Ans.call (n:=40) (ext_none (by kernel_rfl)) (hasB_spec (by kernel_rfl)) ?_
 have h:=rpl_start s p
 unfold plnV
 cases c:ieq (chkV s).2.2 0 with
 |false=>rw[show ieq (chkV s).2.2 0=false from c] at h;exact done2 (Z7_ok _) F7sy h rfl
 |true=>
 rw[show ieq (chkV s).2.2 0=true from c,Nat.ble_eq_true_of_le (show s.2.1.2.length≤3 from (chk_ok c).n3)] at h
 exact done2 (Z7_ok _) F7sy h rfl
noncomputable def LH8:List Said:=[(19,con2 tS (.sl tO) (fun _ _=>true) (fun s p=>pairV (plnV s p.2))),(52,con2 tB (.sl tI) (fun _ l=>le1k l.2&&inAll 8 l.2) (fun f l=>tB.av (withV l.2 f)))]
theorem LH8_ok:∀ e∈LH8,SaidG Try.prog F7.glob e:=
 saids_cons (SaidOK.g f7 xf7 nf7 tabs_ok.mix (fun _ _ h=>con2_spec (t:=tS) (u:=.sl tO) (fun s p _=>rpl_call s p) h) rfl)
 (saids_cons (SaidOK.g f7 xf7 nf7 tabs_ok.mix (fun _ _ h=>con2_spec (t:=tB) (u:=.sl tI) (fun f l c=>wth_call (le1k_le (Bool.and_eq_true ..▸c:_∧_).1) (inAll_at (Bool.and_eq_true ..▸c:_∧_).2)) h) rfl) saids_nil)
noncomputable def F8:Env:=F7.say (under (xOf LH8))
theorem f8:EnvOK Try.prog F8:=f7.say _
theorem nf8:NameOK F8:=nf7.say _
theorem xf8:ExtOK Try.prog F8:=xf7.sayL LH8_ok
theorem F8sy:F8.sy=true:=rfl
noncomputable def Z8 (l:List Nat):Sy:=(Z7 []).on LH8 l
theorem Z8_ok (l:List Nat):(Z8 l).ok F8:=Sy.on_ok (Z7_ok _)
end Go.Proofs.Ytmpaifgmccdipaa


set_option maxRecDepth 100000
namespace Go.Proofs.Ytmpaifgmccdipaa
open Go Go.Eng
theorem out_start (s:tS.den) (p:(Ty.sl tO).den) (f:(Ty.sl tI).den):adv F8 (Z8 []) 3000 (startC F8 10 [tS.av s,.vs tO p.1 p.2,.vs tI f.1 f.2] 40)=(bif !ieq (plnV s p.2).2 0 then (bif !ieq (plnV s p.2).2 0 then (bif !ieq (plnV s p.2).2 0 then some (.done (.tup [(.int .i64 (0)),(.int .i64 (0)),(.int .i64 ((plnV s p.2).2))])) else none) else (bif ile (wr .i64 (↑p.2.length-1)) 900 then (bif !ieq (ascV (wr .i64 (↑p.2.length-1)) 4 f.2 (-1) 0).2 0 then (bif !ieq (ascV (wr .i64 (↑p.2.length-1)) 4 f.2 (-1) 0).2 0 then some (.done (.tup [(.int .i64 (0)),(.int .i64 (0)),(.int .i64 ((ascV (wr .i64 (↑p.2.length-1)) 4 f.2 (-1) 0).2))])) else none) else (bif le1k f.2&&inAll 8 f.2 then none else none)) else none)) else (bif ile (wr .i64 (↑p.2.length-1)) 900 then (bif !ieq (ascV (wr .i64 (↑p.2.length-1)) 4 f.2 (-1) 0).2 0 then (bif !ieq (ascV (wr .i64 (↑p.2.length-1)) 4 f.2 (-1) 0).2 0 then some (.done (.tup [(.int .i64 (0)),(.int .i64 (0)),(.int .i64 ((ascV (wr .i64 (↑p.2.length-1)) 4 f.2 (-1) 0).2))])) else none) else (bif le1k f.2&&inAll 8 f.2 then (bif xokB (s,p,()) then (bif !(breT (s,p,()) (withV f.2 (false,false,false,false,false,false,false,false,()))).2.2 then some (.done (.tup [(.int .i64 (0)),(.int .i64 (0)),(.int .i64 (4))])) else some (.done (.tup [(.int .i64 ((breT (s,p,()) (withV f.2 (false,false,false,false,false,false,false,false,()))).1)),(.int .i64 ((breT (s,p,()) (withV f.2 (false,false,false,false,false,false,false,false,()))).2.1)),(.int .i64 (0))]))) else none) else none)) else none)):=by kernel_rfl
theorem lis_start (x:tX.den) (l:tL.den):adv F8 (Z8 []) 300 (startC F8 43 [tX.pv x,tL.av l] 20)=(bif inB (↑x.1.2.1.2.length) (3+1) then (bif (0+x.1.2.1.2.length * 1).ble (tL.av l).cells.length then (bif x.1.2.1.2.length.ble 1048576&&oneAll (List.take (x.1.2.1.2.length * 1) (List.drop 0 (tL.av l).cells))&&(F8.bytes 3).ble 65536 then (bif x.1.2.1.2.length.beq 0 then some (.done (.csl [] 0)) else (bif plainL ([]++List.take (x.1.2.1.2.length * 1) (List.drop 0 (tL.av l).cells)) then some (.done (.csl ([]++List.take (x.1.2.1.2.length * 1) (List.drop 0 (tL.av l).cells)) (0+x.1.2.1.2.length))) else none)) else none) else none) else none):=by kernel_rfl
noncomputable def liI (l:tL.den):List Int:=[l.1,l.2.1,l.2.2.1]
noncomputable def lisV (n:Nat) (l:tL.den):List Int:=(liI l).take n
theorem lis_call {x:tX.den} {l:tL.den} (h1:1≤nlX x) (h3:nlX x≤3):AnsF F8 43 [tX.pv x,tL.av l] (.vs tI false (lisV (nlX x) l)):=by
 refine Ans.call (n:=20) (ext_none (by kernel_rfl)) (hasB_spec (by kernel_rfl)) ?_
 have h:=lis_start x l
 have hby:(F8.bytes 3).ble 65536=true:=by kernel_rfl
 rw[hby,show x.1.2.1.2.length=nlX x from rfl] at h
 unfold lisV
 have e:nlX x=1∨nlX x=2∨nlX x=3:=by omega
 rcases e with e|e|e<;>rw[e] at h⊢
 · exact .doneT (Z8_ok _) F8sy h (Tells.csl (t:=tI) (l:=[l.1]))
 · exact .doneT (Z8_ok _) F8sy h (Tells.csl (t:=tI) (l:=[l.1,l.2.1]))
 · exact .doneT (Z8_ok _) F8sy h (Tells.csl (t:=tI) (l:=[l.1,l.2.1,l.2.2.1]))
noncomputable def fno:tB.den:=(false,false,false,false,false,false,false,false,())
noncomputable abbrev xSP (s:tS.den) (p:(Ty.sl tO).den):tX.den:=(s,p,())
noncomputable def askV (s:tS.den) (p:List tO.den) (f:List Int):Int:=bif ieq (plnV s p).2 0 then rixV (p.length:Int) f else (plnV s p).2
noncomputable def outV (s:tS.den) (p:(Ty.sl tO).den) (f:List Int):Int×Int×Int:=
 bif ieq (askV s p.2 f) 0 then (bif (breT (xSP s p) (withV f fno)).2.2 then ((breT (xSP s p) (withV f fno)).1,(breT (xSP s p) (withV f fno)).2.1,0) else (0,0,4)) else (0,0,askV s p.2 f)
theorem ors_in {s:tS.den} (H:s.2.1.2.length≤3):∀ {l:List tO.den} {b:Int} {i:Nat},(orsV s b i l).2=0→∀ o∈l,@LE.le Int _ 0 o.1∧@LE.le Int _ o.1 (wr .i64 (s.1-1))∧o.2.1.2.length≤3∧(∀ n∈o.2.1.2,inB n s.2.1.2.length=true)∧@LT.lt Int _ b o.1
 |[],_,_,_,o,ho=>by cases ho
 | a :: l, b, i, h, o, ho => by
  have h:(bif ieq (ordE s a b) 0 then orsV s a.1 (i+1) l else ((i:Int),ordE s a b)).2=0:=h
  cases c:ieq (ordE s a b) 0 with
  |false=>rw[c,cond_false] at h;rw[show ordE s a b=0 from h] at c;cases c
  |true=>
  rw[c,cond_true] at h
  have ho':@LE.le Int _ 0 a.1∧@LE.le Int _ a.1 (wr .i64 (s.1-1))∧a.2.1.2.length≤3∧(∀ n∈a.2.1.2,inB n s.2.1.2.length=true)∧@LT.lt Int _ b a.1:=by
   unfold ordE at c
   cases c1:ile 0 a.1 with
   |false=>rw[c1] at c;cases c
   |true=>
   cases c2:ile a.1 (wr .i64 (s.1-1)) with
   |false=>rw[c1,c2] at c;cases c
   |true=>
   cases c3:ile a.1 b with
   |true=>rw[c1,c2,c3] at c;cases c
   |false=>
   cases c4:ieq (a.2.1.2.length:Int) 0 with
   |true=>rw[c1,c2,c3,c4] at c;cases c
   |false=>
   cases c5:ieq (rixV (s.2.1.2.length:Int) a.2.1.2) 0 with
   |false=>
    rw[c1,c2,c3,c4,c5] at c
    have c:ieq (rixV (s.2.1.2.length:Int) a.2.1.2) 0=true:=c
    rw[c5] at c;cases c
   |true=>
   obtain⟨k1,k2⟩:=rix_ok (by omega) c5
   exact⟨ile_le c1,ile_le c2,by omega,k2,ile_gt c3⟩
  rcases List.mem_cons.1 ho with rfl|ho
  · exact ho'
  · obtain ⟨q1, q2, q3, q4, q5⟩ := ors_in H (l := l) h o ho
    have:=ho'.2.2.2.2
    exact⟨q1,q2,q3,q4,by omega⟩
structure POK (s:tS.den) (p:List tO.den):Prop where
 so:SOK s
 len:p.length≤8
 ors:(orsV s (-1) 0 p).2=0
theorem pln_ok {s:tS.den} {p:List tO.den} (h:ieq (plnV s p).2 0=true):POK s p:=by
 unfold plnV at h
 cases c:ieq (chkV s).2.2 0 with
 |false=>rw[c,cond_false] at h;rw[show ieq (chkV s).2.2 0=true from h] at c;cases c
 |true=>
 rw[c,cond_true] at h
 cases c2:ile (p.length:Int) 8 with
 |false=>rw[c2] at h;cases h
 |true=>
 rw[c2,cond_true] at h
 have i2:=ile_le c2
 exact⟨chk_ok c,by omega,ieq_eq h⟩
theorem xok_of {s:tS.den} {p:(Ty.sl tO).den} (P:POK s p.2):xokB (xSP s p)=true:=by
 have H:=P.so.n3
 have h2:=P.so.d2
 unfold xokB
 rw[show Nat.ble (nlX (xSP s p)) 3=true from Nat.ble_eq_true_of_le P.so.n3,show Nat.ble (olX (xSP s p)) 8=true from Nat.ble_eq_true_of_le P.len,ile_t (show @LE.le Int _ s.1 1000 by omega)]
 rw[Bool.true_and,Bool.true_and,Bool.and_true,List.all_eq_true]
 intro o ho
 obtain⟨_,_,q3,q4,_⟩:=ors_in H P.ors o ho
 unfold ordB
 rw[Nat.ble_eq_true_of_le (show o.2.1.2.length≤1000 by omega),Bool.true_and,List.all_eq_true]
 intro n hn
 have:=q4 n hn
 rw[inB_iff] at this⊢
 have:=of_decide_eq_true this
 exact decide_eq_true ⟨this.1,by omega⟩
theorem out_call (s:tS.den) (p:(Ty.sl tO).den) (f:(Ty.sl tI).den):AnsF F8 10 [tS.av s,.vs tO p.1 p.2,.vs tI f.1 f.2] (tup3 (outV s p f.2)):=by
 refine Ans.call (n:=40) (ext_none (by kernel_rfl)) (hasB_spec (by kernel_rfl)) ?_
 have h:=out_start s p f
 simp only[cond_not'] at h
 unfold outV askV
 cases c:ieq (plnV s p.2).2 0 with
 |false=>simp only[c,cond_false] at h⊢;exact done3 (Z8_ok _) F8sy h rfl
 |true=>
 have P:=pln_ok c
 have h9:ile (wr .i64 (↑p.2.length-1)) 900=true:=ile_t (by rw[show wr .i64 ((p.2.length:Int)-1)=(p.2.length:Int)-1 from wr3 P.len];have:=P.len;omega)
 simp only[c,h9,cond_true] at h⊢
 rw[show (ascV (wr .i64 (↑p.2.length-1)) 4 f.2 (-1) 0).2=rixV (p.2.length:Int) f.2 from rfl] at h
 cases c2:ieq (rixV (p.2.length:Int) f.2) 0 with
 |false=>simp only[c2,cond_false] at h⊢;exact done3 (Z8_ok _) F8sy h rfl
 |true=>
 obtain⟨k1,k2⟩:=rix_ok P.len c2
 have hl:=P.len
 have k3:inAll 8 f.2=true:=inAll_of (fun i hi=>by
  have:=k2 i hi
  rw[inB_iff] at this⊢
  have:=of_decide_eq_true this
  exact decide_eq_true ⟨this.1,by omega⟩)
 rw[c2,show le1k f.2=true from Nat.ble_eq_true_of_le (by show f.2.length≤1000;omega),show inAll 8 f.2=true from k3,show xokB (s,p,())=true from xok_of P] at h
 simp only[cond_true,Bool.and_self] at h⊢
 cases c3:(breT (xSP s p) (withV f.2 fno)).2.2 with
 |false=>rw[show (breT (s,p,()) (withV f.2 (false,false,false,false,false,false,false,false,()))).2.2=false from c3] at h;exact done3 (Z8_ok _) F8sy h rfl
 |true=>rw[show (breT (s,p,()) (withV f.2 (false,false,false,false,false,false,false,false,()))).2.2=true from c3] at h;exact done3 (Z8_ok _) F8sy h rfl
noncomputable def LI9:List Said:=[(43,conP2 tX tL (fun x _=>Nat.ble 1 (nlX x)&&Nat.ble (nlX x) 3) (fun x l=>.vs tI false (lisV (nlX x) l))),(10,con3 tS (.sl tO) (.sl tI) (fun _ _ _=>true) (fun s p f=>tup3 (outV s p f.2)))]
theorem LI9_ok:∀ e∈LI9,SaidG Try.prog F8.glob e:=
 saids_cons (SaidOK.g f8 xf8 nf8 tabs_ok.mix (fun _ _ h=>conP2_spec (t:=tX) (u:=tL) (fun x l c=>lis_call (Nat.le_of_ble_eq_true (Bool.and_eq_true ..▸c:_∧_).1) (Nat.le_of_ble_eq_true (Bool.and_eq_true ..▸c:_∧_).2)) h) rfl)
 (saids_cons (SaidOK.g f8 xf8 nf8 tabs_ok.mix (fun _ _ h=>con3_spec (t:=tS) (u:=.sl tO) (w:=.sl tI) (fun s p f _=>out_call s p f) h) rfl) saids_nil)
noncomputable def F9:Env:=F8.say (under (xOf LI9))
theorem f9:EnvOK Try.prog F9:=f8.say _
theorem nf9:NameOK F9:=nf8.say _
theorem xf9:ExtOK Try.prog F9:=xf8.sayL LI9_ok
theorem F9sy:F9.sy=true:=rfl
noncomputable def Z9 (l:List Nat):Sy:=(Z8 []).on LI9 l
theorem Z9_ok (l:List Nat):(Z9 l).ok F9:=Sy.on_ok (Z8_ok _)
end Go.Proofs.Ytmpaifgmccdipaa


set_option maxRecDepth 100000
namespace Go.Proofs.Ytmpaifgmccdipaa
open Go Go.Eng
theorem exf_start (s:tS.den) (p:(Ty.sl tO).den) (f:(Ty.sl tI).den):adv F9 (Z9 []) 3000 (startC F9 30 [tS.av s,.vs tO p.1 p.2,.vs tI f.1 f.2] 40)=(bif !ieq (plnV s p.2).2 0 then (bif !ieq (plnV s p.2).2 0 then some (.done (.tup [.nilp,(.agg [(.bool (false)),(.bool (false)),(.bool (false)),(.bool (false)),(.bool (false)),(.bool (false)),(.bool (false)),(.bool (false))]),(.int .i64 ((plnV s p.2).2))])) else (bif ile (wr .i64 (↑p.2.length-1)) 900 then (bif !ieq (ascV (wr .i64 (↑p.2.length-1)) 4 f.2 (-1) 0).2 0 then some (.done (.tup [.nilp,(.agg [(.bool (false)),(.bool (false)),(.bool (false)),(.bool (false)),(.bool (false)),(.bool (false)),(.bool (false)),(.bool (false))]),(.int .i64 ((ascV (wr .i64 (↑p.2.length-1)) 4 f.2 (-1) 0).2))])) else (bif le1k f.2&&inAll 8 f.2 then some (.done (.tup [.nilp,(.agg [(.bool ((withV f.2 (false,false,false,false,false,false,false,false,())).1)),(.bool ((withV f.2 (false,false,false,false,false,false,false,false,())).2.1)),(.bool ((withV f.2 (false,false,false,false,false,false,false,false,())).2.2.1)),(.bool ((withV f.2 (false,false,false,false,false,false,false,false,())).2.2.2.1)),(.bool ((withV f.2 (false,false,false,false,false,false,false,false,())).2.2.2.2.1)),(.bool ((withV f.2 (false,false,false,false,false,false,false,false,())).2.2.2.2.2.1)),(.bool ((withV f.2 (false,false,false,false,false,false,false,false,())).2.2.2.2.2.2.1)),(.bool ((withV f.2 (false,false,false,false,false,false,false,false,())).2.2.2.2.2.2.2.1))]),(.int .i64 (0))])) else none)) else none)) else (bif ile (wr .i64 (↑p.2.length-1)) 900 then (bif !ieq (ascV (wr .i64 (↑p.2.length-1)) 4 f.2 (-1) 0).2 0 then some (.done (.tup [.nilp,(.agg [(.bool (false)),(.bool (false)),(.bool (false)),(.bool (false)),(.bool (false)),(.bool (false)),(.bool (false)),(.bool (false))]),(.int .i64 ((ascV (wr .i64 (↑p.2.length-1)) 4 f.2 (-1) 0).2))])) else (bif le1k f.2&&inAll 8 f.2 then some (.done (.tup [(.cp [(.int .i64 (s.1)),(.vs tN (s.2.1.1) (s.2.1.2)),(.int .i64 (s.2.2.1)),(.int .i64 (s.2.2.2.1)),(.int .i64 (s.2.2.2.2.1)),(.vs tI (s.2.2.2.2.2.1.1) (s.2.2.2.2.2.1.2)),(.vs tO (p.1) (p.2))] 0),(.agg [(.bool ((withV f.2 (false,false,false,false,false,false,false,false,())).1)),(.bool ((withV f.2 (false,false,false,false,false,false,false,false,())).2.1)),(.bool ((withV f.2 (false,false,false,false,false,false,false,false,())).2.2.1)),(.bool ((withV f.2 (false,false,false,false,false,false,false,false,())).2.2.2.1)),(.bool ((withV f.2 (false,false,false,false,false,false,false,false,())).2.2.2.2.1)),(.bool ((withV f.2 (false,false,false,false,false,false,false,false,())).2.2.2.2.2.1)),(.bool ((withV f.2 (false,false,false,false,false,false,false,false,())).2.2.2.2.2.2.1)),(.bool ((withV f.2 (false,false,false,false,false,false,false,false,())).2.2.2.2.2.2.2.1))]),(.int .i64 (0))])) else none)) else none)):=by kernel_rfl
noncomputable def LJ:List Said:=[(30,con3 tS (.sl tO) (.sl tI) (fun s p f=>ieq (askV s p.2 f.2) 0) (fun s p f=>.tup [tX.pv (xSP s p),tB.av (withV f.2 fno),.int .i64 0]))]
theorem ask_ok {s:tS.den} {p:List tO.den} {f:List Int} (h:ieq (askV s p f) 0=true):POK s p∧ieq (rixV (p.length:Int) f) 0=true∧f.length≤8∧inAll 8 f=true:=by
 unfold askV at h
 cases c:ieq (plnV s p).2 0 with
 |false=>rw[c,cond_false] at h;rw[h] at c;cases c
 |true=>
 rw[c,cond_true] at h
 have P:=pln_ok c
 obtain⟨k1,k2⟩:=rix_ok P.len h
 have hl:=P.len
 refine⟨P,h,by omega,inAll_of (fun i hi=>?_)⟩
 have:=k2 i hi
 rw[inB_iff] at this⊢
 have:=of_decide_eq_true this
 exact decide_eq_true ⟨this.1,by omega⟩
theorem exf_call {s:tS.den} {p:(Ty.sl tO).den} {f:(Ty.sl tI).den} (H:ieq (askV s p.2 f.2) 0=true):AnsF F9 30 [tS.av s,.vs tO p.1 p.2,.vs tI f.1 f.2] (.tup [tX.pv (xSP s p),tB.av (withV f.2 fno),.int .i64 0]):=by
 refine Ans.call (n:=40) (ext_none (by kernel_rfl)) (hasB_spec (by kernel_rfl)) ?_
 have h:=exf_start s p f
 obtain⟨P,hr,hl,hi⟩:=ask_ok H
 have c:ieq (plnV s p.2).2 0=true:=by
  cases c:ieq (plnV s p.2).2 0 with
  |true=>rfl
  |false=>unfold askV at H;rw[c,cond_false] at H;rw[H] at c;cases c
 have h9:ile (wr .i64 (↑p.2.length-1)) 900=true:=ile_t (by rw[show wr .i64 ((p.2.length:Int)-1)=(p.2.length:Int)-1 from wr3 P.len];have:=P.len;omega)
 rw[show ieq (plnV s p.2).2 0=true from c,h9,show (ascV (wr .i64 (↑p.2.length-1)) 4 f.2 (-1) 0).2=rixV (p.2.length:Int) f.2 from rfl,hr,show le1k f.2=true from Nat.ble_eq_true_of_le (by show f.2.length≤1000;omega),show inAll 8 f.2=true from hi] at h
 exact .done (Z9_ok _) F9sy h rfl
theorem LJ_ok:∀ e∈LJ,SaidG Try.prog F9.glob e:=
 saids_cons (SaidOK.g f9 xf9 nf9 tabs_ok.mix (fun _ _ h=>con3_spec (t:=tS) (u:=.sl tO) (w:=.sl tI) (fun s p f c=>exf_call c) h) rfl) saids_nil
noncomputable def F10:Env:=F9.say (under (xOf LJ))
theorem f10:EnvOK Try.prog F10:=f9.say _
theorem nf10:NameOK F10:=nf9.say _
theorem xf10:ExtOK Try.prog F10:=xf9.sayL LJ_ok
theorem F10sy:F10.sy=true:=rfl
noncomputable def Z10 (l:List Nat):Sy:=(Z9 []).on LJ l
theorem Z10_ok (l:List Nat):(Z10 l).ok F10:=Sy.on_ok (Z9_ok _)
end Go.Proofs.Ytmpaifgmccdipaa


set_option maxRecDepth 100000
namespace Go.Proofs.Ytmpaifgmccdipaa
open Go Go.Eng
noncomputable def lfE (s:tS.den) (p:List tO.den) (f:List Int) (d:Int):Int:=bif ieq (askV s p f) 0 then (bif ile 0 d&&ile d (wr .i64 (s.1-1)) then 0 else 7) else askV s p f
noncomputable def lfL (s:tS.den) (p:(Ty.sl tO).den) (f:List Int) (d:Int):List Int:=bif ieq (lfE s p.2 f d) 0 then lisV s.2.1.2.length (lefT (xSP s p) (withV f fno) d) else []
noncomputable def leftV (s:tS.den) (p:(Ty.sl tO).den) (f:List Int) (d:Int):AV:=.tup [.vs tI (!ieq (lfE s p.2 f d) 0) (lfL s p f d),.int .i64 (lfE s p.2 f d)]
noncomputable def LK:List Said:=[(21,con4 tS (.sl tO) (.sl tI) tI (fun _ _ _ _=>true) (fun s p f d=>leftV s p f.2 d))]
end Go.Proofs.Ytmpaifgmccdipaa


set_option maxRecDepth 100000
namespace Go.Proofs.Ytmpaifgmccdipaa
open Go Go.Eng
noncomputable def F11:Env:=F10.say (under (xOf LK))
theorem f11:EnvOK Try.prog F11:=f10.say _
noncomputable def LM:List Said:=[(8,say0 (.bool true))]
noncomputable def F12:Env:=F11.say (under (xOf LM))
theorem f12:EnvOK Try.prog F12:=f11.say _
end Go.Proofs.Ytmpaifgmccdipaa


set_option maxRecDepth 100000
namespace Go.Proofs.Ytmpaifgmccdipaa
open Go Go.Eng
noncomputable def fofI0 (l:(Ty.sl .bool).den) (x2:Int) (x6:Int) (x7:Bool) (x8:Bool) (x9:Bool) (x10:Bool) (x11:Bool) (x12:Bool) (x13:Bool) (x14:Bool) (x22:Nat):Cfg:=⟨.ex (pcOf F10 61 [0,0,1,0,1]) ⟨(tmOf 23 [(0,(.vs .bool (l.1) (l.2))),(2,(.ptr 0 0)),(3,(.int .i64 x2)),(6,(.vs .bool (l.1) (l.2))),(7,(.int .i64 (Int.ofNat l.2.length))),(8,(.int .i64 x6))]),(hpOf 1 [(0,(.cells false [(.bool x7),(.bool x8),(.bool x9),(.bool x10),(.bool x11),(.bool x12),(.bool x13),(.bool x14)]))]),[],[],23,false⟩,⟨20,[]⟩,[(.lop (pcOf F10 61 [0,0,1,0,1]) 1 (tmOf 23 [(0,(.vs .bool (l.1) (l.2))),(2,(.ptr 0 0)),(3,(.int .i64 (0))),(6,(.vs .bool (l.1) (l.2))),(7,(.int .i64 (Int.ofNat l.2.length))),(8,(.int .i64 (0)))]) x22),(.blk 0),(.seq (pcOf F10 61 [1,1])),(.cal [(.cell 2 66),(.tmp 3)] .top)]⟩
theorem fof_start (l:(Ty.sl .bool).den):adv F10 (Z10 [61]) 3000 (startC F10 61 [.vs .bool l.1 l.2] 20)=some (.stop (fofI0 l (0) (0) (false) (false) (false) (false) (false) (false) (false) (false) (1048575))):=by kernel_rfl
theorem fof_step0 (l:(Ty.sl .bool).den) (x2:Int) (x6:Int) (x7:Bool) (x8:Bool) (x9:Bool) (x10:Bool) (x11:Bool) (x12:Bool) (x13:Bool) (x14:Bool) (x22:Nat):adv F10 (Z10 [61]) 3000 (fofI0 l x2 x6 x7 x8 x9 x10 x11 x12 x13 x14 (x22+1))=(bif !ile (Int.ofNat l.2.length) x6 then (bif inB x6 l.2.length then (bif l.2.getD x6.toNat Ty.bool.dflt then some (.stop (fofI0 l (0) (wr .i64 (x6+1)) (x7) (x8) (x9) (x10) (x11) (x12) (x13) (x14) (x22))) else (bif inAll 8 (unf (rd tI) 1 [AV.int IntKind.i64 x6]) then some (.stop (fofI0 l (wr .i64 (x2+1)) (wr .i64 (x6+1)) ((withV (unf (rd tI) 1 [AV.int IntKind.i64 x6]) (x7,x8,x9,x10,x11,x12,x13,x14,())).1) ((withV (unf (rd tI) 1 [AV.int IntKind.i64 x6]) (x7,x8,x9,x10,x11,x12,x13,x14,())).2.1) ((withV (unf (rd tI) 1 [AV.int IntKind.i64 x6]) (x7,x8,x9,x10,x11,x12,x13,x14,())).2.2.1) ((withV (unf (rd tI) 1 [AV.int IntKind.i64 x6]) (x7,x8,x9,x10,x11,x12,x13,x14,())).2.2.2.1) ((withV (unf (rd tI) 1 [AV.int IntKind.i64 x6]) (x7,x8,x9,x10,x11,x12,x13,x14,())).2.2.2.2.1) ((withV (unf (rd tI) 1 [AV.int IntKind.i64 x6]) (x7,x8,x9,x10,x11,x12,x13,x14,())).2.2.2.2.2.1) ((withV (unf (rd tI) 1 [AV.int IntKind.i64 x6]) (x7,x8,x9,x10,x11,x12,x13,x14,())).2.2.2.2.2.2.1) ((withV (unf (rd tI) 1 [AV.int IntKind.i64 x6]) (x7,x8,x9,x10,x11,x12,x13,x14,())).2.2.2.2.2.2.2.1) (x22))) else none)) else none) else some (.done (.tup [(.agg [(.bool (x7)),(.bool (x8)),(.bool (x9)),(.bool (x10)),(.bool (x11)),(.bool (x12)),(.bool (x13)),(.bool (x14))]),(.int .i64 (x2))]))):=by kernel_rfl
noncomputable def fofV:List Bool→Int→tB.den→Int→tB.den×Int
 |[],_,f,r=>(f,r)
 |b::l,k,f,r=>bif b then fofV l (k+1) f 0 else fofV l (k+1) (setF f k) (r+1)
theorem unf_one (k:Int):unf (rd tI) 1 [AV.int IntKind.i64 k]=[k]:=by kernel_rfl
theorem with_one (k:Int) (f:tB.den):withV [k] (f.1,f.2.1,f.2.2.1,f.2.2.2.1,f.2.2.2.2.1,f.2.2.2.2.2.1,f.2.2.2.2.2.2.1,f.2.2.2.2.2.2.2.1,())=setF f k:=by kernel_rfl
theorem fof_ans {l:(Ty.sl .bool).den} (H:l.2.length≤8):∀ (r k m:Nat) (f:tB.den) (w:Int),k+r=l.2.length→r<m→0≤w→w≤k→Ans F10 (fofI0 l w k f.1 f.2.1 f.2.2.1 f.2.2.2.1 f.2.2.2.2.1 f.2.2.2.2.2.1 f.2.2.2.2.2.2.1 f.2.2.2.2.2.2.2.1 m) (.tup [tB.av (fofV (l.2.drop k) k f w).1,.int .i64 (fofV (l.2.drop k) k f w).2])
 |0,k,m0,f,w,hk,hm,h0,hw=>by
  obtain⟨m,rfl⟩:∃ m,m0=m+1:=⟨m0-1,by omega⟩
  have h:=fof_step0 l w k f.1 f.2.1 f.2.2.1 f.2.2.2.1 f.2.2.2.2.1 f.2.2.2.2.2.1 f.2.2.2.2.2.2.1 f.2.2.2.2.2.2.2.1 m
  rw[ile_t (show Int.ofNat l.2.length≤(k:Int) by show ((l.2.length:Nat):Int)≤k;omega),Bool.not_true,cond_false] at h
  rw[List.drop_eq_nil_of_le (by omega)]
  exact .done (Z10_ok _) F10sy h rfl
 | r + 1, k, m0, f, w, hk, hm, h0, hw => by
  obtain⟨m,rfl⟩:∃ m,m0=m+1:=⟨m0-1,by omega⟩
  have h:=fof_step0 l w k f.1 f.2.1 f.2.2.1 f.2.2.2.1 f.2.2.2.2.1 f.2.2.2.2.2.1 f.2.2.2.2.2.2.1 f.2.2.2.2.2.2.2.1 m
  have hlt:k<l.2.length:=by omega
  have h8:inAll 8 [(k:Int)]=true:=by
   have:inB (k:Int) 8=true:=by rw[inB_iff];exact decide_eq_true ⟨by omega,by omega⟩
   simp only[inAll,List.all_cons,List.all_nil,this,Bool.and_true]
  rw[ile_f (show (k:Int)<Int.ofNat l.2.length by show (k:Int)<((l.2.length:Nat):Int);omega),inB_at hlt,getD_at hlt,wr_succ (show k<1048577 by omega),wr_in (show -9223372036854775808≤w+1 by omega) (show w+1≤9223372036854775807 by omega),unf_one,with_one,h8,Bool.not_false,cond_true,cond_true,cond_true] at h
  have e:fofV (l.2.drop k) k f w=bif (l.2[k]:Bool) then fofV (l.2.drop (k+1)) (k+1) f 0 else fofV (l.2.drop (k+1)) (k+1) (setF f k) (w+1):=by
   rw[List.drop_eq_getElem_cons hlt];rfl
  rw[e]
  cases c:(l.2[k]:Bool) with
  |true=>
   rw[show (l.2[k]:Bool)=true from c,cond_true] at h
   rw[cond_true]
   exact .stop (Z10_ok _) F10sy h (fof_ans H r (k+1) m f 0 (by omega) (by omega) (by omega) (by omega))
  |false=>
   rw[show (l.2[k]:Bool)=false from c,cond_false] at h
   rw[cond_false]
   exact .stop (Z10_ok _) F10sy h (fof_ans H r (k+1) m (setF f k) (w+1) (by omega) (by omega) (by omega) (by omega))
theorem fof_call {l:(Ty.sl .bool).den} (H:l.2.length≤8):AnsF F10 61 [.vs .bool l.1 l.2] (.tup [tB.av (fofV l.2 0 fno 0).1,.int .i64 (fofV l.2 0 fno 0).2]):=by
 refine Ans.call (n:=20) (ext_none (by kernel_rfl)) (hasB_spec (by kernel_rfl)) ?_
 exact .stop (Z10_ok _) F10sy (fof_start l) (fof_ans H l.2.length 0 1048575 fno 0 (Nat.zero_add _) (by omega) (by omega) (by omega))
noncomputable def LG0:List Said:=[(61,con1 (.sl .bool) (fun l=>Nat.ble l.2.length 8) (fun l=>.tup [tB.av (fofV l.2 0 fno 0).1,.int .i64 (fofV l.2 0 fno 0).2]))]
theorem LG0_ok:∀ e∈LG0,SaidG Try.prog F10.glob e:=
 saids_cons (SaidOK.g f10 xf10 nf10 tabs_ok.mix (fun _ _ h=>con1_spec (t:=.sl .bool) (fun l c=>fof_call (Nat.le_of_ble_eq_true c)) h) rfl) saids_nil
noncomputable def G0:Env:=F10.say (under (xOf LG0))
theorem g0:EnvOK Try.prog G0:=f10.say _
theorem ng0:NameOK G0:=nf10.say _
theorem xg0:ExtOK Try.prog G0:=xf10.sayL LG0_ok
theorem G0sy:G0.sy=true:=rfl
noncomputable def Y0 (l:List Nat):Sy:=(Z10 []).on LG0 l
theorem Y0_ok (l:List Nat):(Y0 l).ok G0:=Sy.on_ok (Z10_ok _)
end Go.Proofs.Ytmpaifgmccdipaa


set_option maxRecDepth 100000
namespace Go.Proofs.Ytmpaifgmccdipaa
open Go Go.Eng
noncomputable def lofA:Nat→List AO→List (Nat×AO)
 |_,[]=>[]
 |k,c::cs=>(k,c)::lofA (k+1) cs
noncomputable def idF:Nat→Nat→List Nat
 |_,0=>[]
 |k,n+1=>k::idF (k+1) n
noncomputable def allO:List AO→Option Out→Option Out
 |[],k=>k
 |o::os,k=>allO os (bif plO o then k else none)
theorem allO_of:∀ {os:List AO} {k:Option Out},(∀ o∈os,plO o=true)→allO os k=k
 |[],_,_=>rfl
 |o::os,k,h=>by
  show allO os (bif plO o then k else none)=k
  rw[allO_of (fun o ho=>h o (List.mem_cons_of_mem _ ho)),h o List.mem_cons_self,cond_true]
noncomputable def celB (b:tB.den):AO:=.cells false (flL b)
theorem celB_pl (b:tB.den):plO (celB b)=true:=rfl
noncomputable def fofF (l:(Ty.sl .bool).den):tB.den:=(fofV l.2 0 fno 0).1
noncomputable def fofR (l:(Ty.sl .bool).den):Int:=(fofV l.2 0 fno 0).2
noncomputable def hpH (x:tX.den) (l:(Ty.sl .bool).den) (n:Int) (N:Nat) (os:List AO):Hp:=hpOf N ([(0,.cells false [.bool false]),(1,.cells false [tX.pv x]),(2,.cells false [.vs .bool l.1 l.2]),(3,.cells false [iI n]),(5,.cells false [.yld 4]),(6,.cells false [tX.pv x]),(7,.cells false [.vs .bool l.1 l.2]),(8,.cells false [iI n]),(10,.cells false [.yld 9]),(11,.cells false [.fn 60 [] [.ptr 6 0,.ptr 10 0,.ptr 11 0]]),(12,.cells false (flL (fofF l)))]++lofA 13 os)
noncomputable def t26 (x:tX.den) (l:(Ty.sl .bool).den) (n:Int):Tmps:=tmOf 26 [(0,(.yld 4)),(1,(.ptr 1 0)),(2,(.ptr 2 0)),(3,(.ptr 3 0)),(4,(.ptr 5 0)),(8,tX.pv x),(9,(.vs .bool l.1 l.2)),(10,iI n),(11,(.fn 59 [] [(.ptr 6 0),(.ptr 7 0),(.ptr 8 0)]))]
noncomputable def t12 (x:tX.den) (l:(Ty.sl .bool).den) (n:Int):Tmps:=tmOf 12 [(0,tX.pv x),(1,(.vs .bool l.1 l.2)),(2,iI n),(6,(.ptr 0 0)),(7,tX.pv x),(8,(.vs .bool l.1 l.2)),(9,iI n),(10,(.fn 34 [] [(.ptr 1 0),(.ptr 2 0),(.ptr 3 0)]))]
noncomputable def ev1 (x:tX.den) (l:(Ty.sl .bool).den) (n:Int):List HD:=[⟨4,12,40,t12 x l n,#[11],(pcOf G0 58 [0,0,1,0,1]),(pcOf G0 58 [1,0,1,0,1])⟩]
noncomputable def evH (x:tX.den) (l:(Ty.sl .bool).den) (n:Int):List HD:=⟨9,26,39,t26 x l n,#[12],(pcOf G0 34 [0,0,1,1]),(pcOf G0 34 [1,0,1,1])⟩::ev1 x l n
noncomputable def ent (x:tX.den) (l:(Ty.sl .bool).den) (n:Int) (os:List AO) (b:tB.den) (o r m:Int) (d:Nat) (r0:Rt) (K:List Fm):Cfg:=⟨.ex (pcOf G0 60 []) ⟨(tmOf 52 [(0,tB.av b),(1,iI o),(2,iI r),(3,iI m),(4,.ptr 6 0),(5,.ptr 10 0),(6,.ptr 11 0)]),hpH x l n (13+os.length) os,[],[⟨false,.normal⟩,⟨false,.normal⟩],52,false⟩,⟨d,evH x l n⟩,.cal [.tmp 11] (.cln (13+os.length) r0)::K⟩
noncomputable def lmH (v:Bool):List LF:=bif v then [⟨false,.normal⟩,⟨false,.normal⟩] else [⟨true,.ret⟩,⟨true,.ret⟩]
noncomputable def vlH (x:tX.den) (l:(Ty.sl .bool).den) (n:Int) (os:List AO) (v:Bool) (d:Nat) (r0:Rt) (K:List Fm):Cfg:=⟨.vl r0 (.bool v) (hpH x l n (13+os.length) os) (lmH v),⟨d,evH x l n⟩,K⟩
noncomputable def tl1 (x:tX.den) (N:Nat) (b:tB.den) (o r m:Int):List (Nat×AV):=[(0,tB.av b),(1,iI o),(2,iI r),(3,iI m),(4,.ptr 6 0),(5,.ptr 10 0),(6,.ptr 11 0),(7,.ptr N 0),(11,.bool false),(12,iI o),(13,tX.pv x),(14,tX.pv x),(15,.cp (Ty.cells tX x) 6),(16,.vs tO x.2.1.1 x.2.1.2),(17,iI (Int.ofNat x.2.1.2.length)),(18,.bool false),(22,.fn 60 [] [.ptr 6 0,.ptr 10 0,.ptr 11 0]),(23,tB.av b),(24,iI o),(25,iI (wr .i64 (o+1))),(26,iI m)]
noncomputable def rt1 (x:tX.den) (l:(Ty.sl .bool).den) (n:Int) (N:Nat) (b:tB.den) (o r m:Int) (d:Nat):Rt:=.op (pcOf G0 60 [0,0,1,1]) 6 (some 27) ((opsOf (pcOf G0 60 [0,0,1,1]).c).toList.drop 6) (tmOf 52 (tl1 x N b o r m)) [] 52 false ⟨d,evH x l n⟩
noncomputable def fr1 (N:Nat) (r0:Rt) (K:List Fm):List Fm:=.seq (pcOf G0 60 [1,0,1,1])::.seq (pcOf G0 60 [1,1,1])::.cal [.tmp 11] (.cln N r0)::K
noncomputable def tl2 (x:tX.den) (N:Nat) (b:tB.den) (o r m:Int):List (Nat×AV):=tl1 x N b o r m++[(27,.bool true),(28,.bool false),(29,iI m),(30,.bool (ieq m 0)),(31,.bool false),(32,iI r),(33,tX.pv x),(34,tX.pv x),(35,tX.pv x),(36,.cp (Ty.cells tX x) 4),(37,iI x.1.2.2.2.2.1),(38,.bool (ile x.1.2.2.2.2.1 r)),(39,.bool false)]
noncomputable def fnH:AV:=.fn 60 [] [.ptr 6 0,.ptr 10 0,.ptr 11 0]
noncomputable def arO (o:Int):AO:=.cells true [iI o]
noncomputable def pc2:PC:=pcOf G0 60 [0,1,1,1,1]
noncomputable def rt2 (x:tX.den) (l:(Ty.sl .bool).den) (n:Int) (os:List AO) (b:tB.den) (o r m:Int) (d:Nat):Rt:=
 .dr ⟨pc2,opsD pc2.c,14+os.length,(opsD pc2.c).toList.drop 12,(fsD pc2.c).drop 12,11,[(hpH x l n (15+os.length) (os++[celB b,arO o]),14,some 4),(hpH x l n (15+os.length) (os++[celB b]),0,none)],
  [((opsD pc2.c).getD 1 default,1,0,tmOf 52 (tl2 x (13+os.length) b o r m++[(40,fnH)]),tmOf 52 (tl2 x (13+os.length) b o r m++[(40,fnH),(41,tB.av b)])),((opsD pc2.c).getD 0 default,0,0,tmOf 52 (tl2 x (13+os.length) b o r m),tmOf 52 (tl2 x (13+os.length) b o r m++[(40,fnH)]))],false⟩
  ((opsD pc2.c).getD 11 default) ((fsD pc2.c).getD 11 default) (tmOf 52 (tl2 x (13+os.length) b o r m++[(40,fnH),(41,tB.av b),(42,iI o),(43,.sl (14+os.length) 0 1 1 1),(44,tB.av (setF b o)),(45,iI o),(46,iI (wr .i64 (o+1))),(47,iI r),(48,iI (wr .i64 (r+1))),(49,iI m),(50,iI (wr .i64 (m-1)))])) [] 52 false ⟨d,evH x l n⟩
noncomputable def fr2 (N:Nat) (r0:Rt) (K:List Fm):List Fm:=.seq (pcOf G0 60 [1,1,1,1,1])::.cal [.tmp 11] (.cln N r0)::K
noncomputable def eqB (b:tB.den) (k:Option Out):Option Out:=bif bbeq b.1 b.1 then bif bbeq b.2.1 b.2.1 then bif bbeq b.2.2.1 b.2.2.1 then bif bbeq b.2.2.2.1 b.2.2.2.1 then bif bbeq b.2.2.2.2.1 b.2.2.2.2.1 then bif bbeq b.2.2.2.2.2.1 b.2.2.2.2.2.1 then bif bbeq b.2.2.2.2.2.2.1 b.2.2.2.2.2.2.1 then bif bbeq b.2.2.2.2.2.2.2.1 b.2.2.2.2.2.2.2.1 then k else none else none else none else none else none else none else none else none
theorem eqB_of (b:tB.den) (k:Option Out):eqB b k=k:=by
 unfold eqB;simp only[bbeq_self,cond_true]
noncomputable def SH (E:Nat):Sy:={ ((Y0 []).flat (idF 13 E)) with np:=[[999,60],[995,13+E]] }
theorem SH_ok (E:Nat):(SH E).ok G0:=Y0_ok []
end Go.Proofs.Ytmpaifgmccdipaa


set_option maxRecDepth 100000
namespace Go.Proofs.Ytmpaifgmccdipaa
open Go Go.Eng
theorem ent_step (x:tX.den) (l:(Ty.sl .bool).den) (n:Int) (b:tB.den) (o r m:Int) (d:Nat) (r0:Rt) (K:List Fm):∀ os:List AO,Nat.ble os.length 16=true→adv G0 (SH os.length) 3000 (ent x l n os b o r m (Nat.succ (Nat.succ (Nat.succ d))) r0 K)=(bif ieq o (Int.ofNat x.2.1.2.length) then (bif xokB x then (bif (breT x b).2.2 then allO os (some (.stop (vlH x l n os false (Nat.succ (Nat.succ (Nat.succ d))) r0 K))) else allO os (some (.stop (vlH x l n os true (Nat.succ (Nat.succ (Nat.succ d))) r0 K)))) else none) else some (.stop (ent x l n (os++[celB b]) b (wr .i64 (o+1)) 0 m (Nat.succ (Nat.succ d)) (rt1 x l n (13+os.length) b o r m (Nat.succ (Nat.succ (Nat.succ d)))) (fr1 (13+os.length) r0 K))))
 |[],_=>by kernel_rfl
 |[o0],_=>by kernel_rfl
 |[o0,o1],_=>by kernel_rfl
 |[o0,o1,o2],_=>by kernel_rfl
 |[o0,o1,o2,o3],_=>by kernel_rfl
 |[o0,o1,o2,o3,o4],_=>by kernel_rfl
 |[o0,o1,o2,o3,o4,o5],_=>by kernel_rfl
 |[o0,o1,o2,o3,o4,o5,o6],_=>by kernel_rfl
 |[o0,o1,o2,o3,o4,o5,o6,o7],_=>by kernel_rfl
 |[o0,o1,o2,o3,o4,o5,o6,o7,o8],_=>by kernel_rfl
 |[o0,o1,o2,o3,o4,o5,o6,o7,o8,o9],_=>by kernel_rfl
 |[o0,o1,o2,o3,o4,o5,o6,o7,o8,o9,o10],_=>by kernel_rfl
 |[o0,o1,o2,o3,o4,o5,o6,o7,o8,o9,o10,o11],_=>by kernel_rfl
 |[o0,o1,o2,o3,o4,o5,o6,o7,o8,o9,o10,o11,o12],_=>by kernel_rfl
 |[o0,o1,o2,o3,o4,o5,o6,o7,o8,o9,o10,o11,o12,o13],_=>by kernel_rfl
 |[o0,o1,o2,o3,o4,o5,o6,o7,o8,o9,o10,o11,o12,o13,o14],_=>by kernel_rfl
 |[o0,o1,o2,o3,o4,o5,o6,o7,o8,o9,o10,o11,o12,o13,o14,o15],_=>by kernel_rfl
 |_::_::_::_::_::_::_::_::_::_::_::_::_::_::_::_::_::_,h=>by cases h
theorem rt1_step (x:tX.den) (l:(Ty.sl .bool).den) (n:Int) (b:tB.den) (o r m:Int) (d:Nat) (r0:Rt) (K:List Fm):∀ os:List AO,Nat.ble os.length 16=true→adv G0 (SH os.length) 3000 (vlH x l n (os++[celB b]) true (Nat.succ (Nat.succ d)) (rt1 x l n (13+os.length) b o r m (Nat.succ (Nat.succ (Nat.succ d)))) (fr1 (13+os.length) r0 K))=(bif ieq m 0 then allO os (some (.stop (vlH x l n os true (Nat.succ (Nat.succ (Nat.succ d))) r0 K))) else bif ile x.1.2.2.2.2.1 r then allO os (some (.stop (vlH x l n os true (Nat.succ (Nat.succ (Nat.succ d))) r0 K))) else bif inAll 8 [o] then some (.stop (ent x l n (os++[celB b,arO o]) (setF b o) (wr .i64 (o+1)) (wr .i64 (r+1)) (wr .i64 (m-1)) (Nat.succ (Nat.succ d)) (rt2 x l n os b o r m (Nat.succ (Nat.succ (Nat.succ d)))) (fr2 (13+os.length) r0 K))) else none)
 |[],_=>by kernel_rfl
 |[o0],_=>by kernel_rfl
 |[o0,o1],_=>by kernel_rfl
 |[o0,o1,o2],_=>by kernel_rfl
 |[o0,o1,o2,o3],_=>by kernel_rfl
 |[o0,o1,o2,o3,o4],_=>by kernel_rfl
 |[o0,o1,o2,o3,o4,o5],_=>by kernel_rfl
 |[o0,o1,o2,o3,o4,o5,o6],_=>by kernel_rfl
 |[o0,o1,o2,o3,o4,o5,o6,o7],_=>by kernel_rfl
 |[o0,o1,o2,o3,o4,o5,o6,o7,o8],_=>by kernel_rfl
 |[o0,o1,o2,o3,o4,o5,o6,o7,o8,o9],_=>by kernel_rfl
 |[o0,o1,o2,o3,o4,o5,o6,o7,o8,o9,o10],_=>by kernel_rfl
 |[o0,o1,o2,o3,o4,o5,o6,o7,o8,o9,o10,o11],_=>by kernel_rfl
 |[o0,o1,o2,o3,o4,o5,o6,o7,o8,o9,o10,o11,o12],_=>by kernel_rfl
 |[o0,o1,o2,o3,o4,o5,o6,o7,o8,o9,o10,o11,o12,o13],_=>by kernel_rfl
 |[o0,o1,o2,o3,o4,o5,o6,o7,o8,o9,o10,o11,o12,o13,o14],_=>by kernel_rfl
 |[o0,o1,o2,o3,o4,o5,o6,o7,o8,o9,o10,o11,o12,o13,o14,o15],_=>by kernel_rfl
 |_::_::_::_::_::_::_::_::_::_::_::_::_::_::_::_::_::_,h=>by cases h
theorem rt1_stepF (x:tX.den) (l:(Ty.sl .bool).den) (n:Int) (b:tB.den) (o r m:Int) (d:Nat) (r0:Rt) (K:List Fm):∀ os:List AO,Nat.ble os.length 16=true→adv G0 (SH os.length) 3000 (vlH x l n (os++[celB b]) false (Nat.succ (Nat.succ d)) (rt1 x l n (13+os.length) b o r m (Nat.succ (Nat.succ (Nat.succ d)))) (fr1 (13+os.length) r0 K))=allO os (some (.stop (vlH x l n os false (Nat.succ (Nat.succ (Nat.succ d))) r0 K)))
 |[],_=>by kernel_rfl
 |[o0],_=>by kernel_rfl
 |[o0,o1],_=>by kernel_rfl
 |[o0,o1,o2],_=>by kernel_rfl
 |[o0,o1,o2,o3],_=>by kernel_rfl
 |[o0,o1,o2,o3,o4],_=>by kernel_rfl
 |[o0,o1,o2,o3,o4,o5],_=>by kernel_rfl
 |[o0,o1,o2,o3,o4,o5,o6],_=>by kernel_rfl
 |[o0,o1,o2,o3,o4,o5,o6,o7],_=>by kernel_rfl
 |[o0,o1,o2,o3,o4,o5,o6,o7,o8],_=>by kernel_rfl
 |[o0,o1,o2,o3,o4,o5,o6,o7,o8,o9],_=>by kernel_rfl
 |[o0,o1,o2,o3,o4,o5,o6,o7,o8,o9,o10],_=>by kernel_rfl
 |[o0,o1,o2,o3,o4,o5,o6,o7,o8,o9,o10,o11],_=>by kernel_rfl
 |[o0,o1,o2,o3,o4,o5,o6,o7,o8,o9,o10,o11,o12],_=>by kernel_rfl
 |[o0,o1,o2,o3,o4,o5,o6,o7,o8,o9,o10,o11,o12,o13],_=>by kernel_rfl
 |[o0,o1,o2,o3,o4,o5,o6,o7,o8,o9,o10,o11,o12,o13,o14],_=>by kernel_rfl
 |[o0,o1,o2,o3,o4,o5,o6,o7,o8,o9,o10,o11,o12,o13,o14,o15],_=>by kernel_rfl
 |_::_::_::_::_::_::_::_::_::_::_::_::_::_::_::_::_::_,h=>by cases h
theorem rt2_stept (x:tX.den) (l:(Ty.sl .bool).den) (n:Int) (b:tB.den) (o r m:Int) (d:Nat) (r0:Rt) (K:List Fm):∀ os:List AO,Nat.ble os.length 16=true→adv G0 (SH os.length) 3000 (vlH x l n (os++[celB b,arO o]) true (Nat.succ (Nat.succ d)) (rt2 x l n os b o r m (Nat.succ (Nat.succ (Nat.succ d)))) (fr2 (13+os.length) r0 K))=eqB b (allO os (some (.stop (vlH x l n os true (Nat.succ (Nat.succ (Nat.succ d))) r0 K))))
 |[],_=>by kernel_rfl
 |[o0],_=>by kernel_rfl
 |[o0,o1],_=>by kernel_rfl
 |[o0,o1,o2],_=>by kernel_rfl
 |[o0,o1,o2,o3],_=>by kernel_rfl
 |[o0,o1,o2,o3,o4],_=>by kernel_rfl
 |[o0,o1,o2,o3,o4,o5],_=>by kernel_rfl
 |[o0,o1,o2,o3,o4,o5,o6],_=>by kernel_rfl
 |[o0,o1,o2,o3,o4,o5,o6,o7],_=>by kernel_rfl
 |[o0,o1,o2,o3,o4,o5,o6,o7,o8],_=>by kernel_rfl
 |[o0,o1,o2,o3,o4,o5,o6,o7,o8,o9],_=>by kernel_rfl
 |[o0,o1,o2,o3,o4,o5,o6,o7,o8,o9,o10],_=>by kernel_rfl
 |[o0,o1,o2,o3,o4,o5,o6,o7,o8,o9,o10,o11],_=>by kernel_rfl
 |[o0,o1,o2,o3,o4,o5,o6,o7,o8,o9,o10,o11,o12],_=>by kernel_rfl
 |[o0,o1,o2,o3,o4,o5,o6,o7,o8,o9,o10,o11,o12,o13],_=>by kernel_rfl
 |[o0,o1,o2,o3,o4,o5,o6,o7,o8,o9,o10,o11,o12,o13,o14],_=>by kernel_rfl
 |[o0,o1,o2,o3,o4,o5,o6,o7,o8,o9,o10,o11,o12,o13,o14,o15],_=>by kernel_rfl
 |_::_::_::_::_::_::_::_::_::_::_::_::_::_::_::_::_::_,h=>by cases h
theorem rt2_stepf (x:tX.den) (l:(Ty.sl .bool).den) (n:Int) (b:tB.den) (o r m:Int) (d:Nat) (r0:Rt) (K:List Fm):∀ os:List AO,Nat.ble os.length 16=true→adv G0 (SH os.length) 3000 (vlH x l n (os++[celB b,arO o]) false (Nat.succ (Nat.succ d)) (rt2 x l n os b o r m (Nat.succ (Nat.succ (Nat.succ d)))) (fr2 (13+os.length) r0 K))=eqB b (allO os (some (.stop (vlH x l n os false (Nat.succ (Nat.succ (Nat.succ d))) r0 K))))
 |[],_=>by kernel_rfl
 |[o0],_=>by kernel_rfl
 |[o0,o1],_=>by kernel_rfl
 |[o0,o1,o2],_=>by kernel_rfl
 |[o0,o1,o2,o3],_=>by kernel_rfl
 |[o0,o1,o2,o3,o4],_=>by kernel_rfl
 |[o0,o1,o2,o3,o4,o5],_=>by kernel_rfl
 |[o0,o1,o2,o3,o4,o5,o6],_=>by kernel_rfl
 |[o0,o1,o2,o3,o4,o5,o6,o7],_=>by kernel_rfl
 |[o0,o1,o2,o3,o4,o5,o6,o7,o8],_=>by kernel_rfl
 |[o0,o1,o2,o3,o4,o5,o6,o7,o8,o9],_=>by kernel_rfl
 |[o0,o1,o2,o3,o4,o5,o6,o7,o8,o9,o10],_=>by kernel_rfl
 |[o0,o1,o2,o3,o4,o5,o6,o7,o8,o9,o10,o11],_=>by kernel_rfl
 |[o0,o1,o2,o3,o4,o5,o6,o7,o8,o9,o10,o11,o12],_=>by kernel_rfl
 |[o0,o1,o2,o3,o4,o5,o6,o7,o8,o9,o10,o11,o12,o13],_=>by kernel_rfl
 |[o0,o1,o2,o3,o4,o5,o6,o7,o8,o9,o10,o11,o12,o13,o14],_=>by kernel_rfl
 |[o0,o1,o2,o3,o4,o5,o6,o7,o8,o9,o10,o11,o12,o13,o14,o15],_=>by kernel_rfl
 |_::_::_::_::_::_::_::_::_::_::_::_::_::_::_::_::_::_,h=>by cases h
end Go.Proofs.Ytmpaifgmccdipaa

