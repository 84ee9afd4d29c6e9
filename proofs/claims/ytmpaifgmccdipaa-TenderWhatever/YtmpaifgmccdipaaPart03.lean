/-
  THE ENGINE: one more part of it.
-/
import Derived.Test.YtmpaifgmccdipaaPart02
import Derived.Test.YtmpaifgmccdipaaChecked
import Derived.KernelRfl
import Derived.DataReads
import Derived.OpenShut
import GoSem.ClaimJoined
import Derived.Lib.LaidU8
import Derived.FnData
import Derived.MakeChecks
import Derived.ProofKit
import Derived.LaidMore
import Derived.Stop.Joined
import Derived.Lay
set_option linter.unusedSectionVars false
set_option linter.unusedSimpArgs false
set_option linter.unusedVariables false
namespace Go.Eng
open Go
attribute [local irreducible] upTo
section
variable {E:Env} {call:CallF} {hs:Hnds} {ops:Array Oper}
noncomputable def lookSameF (E:Env) (o:Oper) (τ τ':Tmps) (σ:Hp):Bool:=
 match cstL τ o.op with
 |true=>true
 | false => match opF E τ σ o.op with
  | some (.val v _) => match o.dst with
   |none=>true
   |some d=>match τ'.get d with
    |some w=>avbeq w v
    |none=>true
  |_=>false
theorem lookSameF_eq (E:Env) (o:Oper) (τ τ':Tmps) (σ:Hp):lookSameF E o τ τ' σ=lookSame E o τ τ' σ:=by
 unfold lookSameF lookSame
 rw[opF_eq]
 rfl
noncomputable def lookOKF (E:Env) (o:Oper) (i a:Nat) (τ τ':Tmps):Option Nat→Phs→Bool
 |_,[]=>true
 | nx, (σ, am, h) :: ph => match (match nx with | some x => msHas a x | none => false), msHas am i with
  |false,false=>match lookSameF E o τ τ' σ with
   |true=>lookOKF E o i a τ τ' h ph
   |false=>false
  |_,_=>lookOKF E o i a τ τ' h ph
theorem lookOKF_eq (E:Env) (o:Oper) (i a:Nat) (τ τ':Tmps):∀ (ph:Phs) (nx:Option Nat),lookOKF E o i a τ τ' nx ph=lookOK E o i a τ τ' nx ph
 |[],_=>rfl
 |(σ,am,h)::ph,nx=>by
  simp only[lookOKF,lookOK,lookSameF_eq,lookOKF_eq E o i a τ τ' ph]
  rfl
noncomputable def looksOKF (E:Env) (ops:Array Oper) (ph:Phs):Lks→Bool
 |[]=>true
 | (o, i, a, τ, τ') :: lk => match wantedA ops τ o with
  |some false=>looksOKF E ops ph lk
  |_=>match lookOKF E o i a τ τ' none ph with
   |true=>looksOKF E ops ph lk
   |false=>false
theorem looksOKF_eq (E:Env) (ops:Array Oper) (ph:Phs):∀ lk:Lks,looksOKF E ops ph lk=looksOK E ops ph lk
 |[]=>rfl
 |(o,i,a,τ,τ')::lk=>by
  simp only[looksOKF,looksOK,lookOKF_eq,looksOKF_eq E ops ph lk]
  rfl
abbrev D4:=List Inf→Nat→Phs→Lks→K4 (S4×Phs×Lks)
noncomputable def behindD (o:Oper) (f:Inf) (fs:List Inf) (i:Nat) (ph:Phs) (lk:Lks) (ih:D4) (τ0:Tmps):K4 (S4×Phs×Lks):=fun τ σ ds Λ=>
 Bool.rec (motive:=fun _=>Option (S4×Phs×Lks)) (Bool.rec (motive:=fun _=>Option (S4×Phs×Lks)) (ih fs (i+1) ph lk τ σ ds Λ) (ih fs (i+1) ph ((o,i,f.a,τ0,τ)::lk) τ σ ds Λ) (Nat.beq f.c 1)) (ih fs (i+1) ((σ,f.a,some i)::ph) lk τ σ ds Λ) (Nat.beq f.c 0)
noncomputable def stepD (E:Env) (call:CallF) (hs:Hnds) (ops:Array Oper) (nt:Nat) (rnd:Bool) (n0:Nat) (o:Oper) (f:Inf) (fs:List Inf) (i:Nat) (ph:Phs) (lk:Lks) (ih:D4):K4 (S4×Phs×Lks):=fun τ σ ds Λ=>
 Bool.rec (motive:=fun _=>Option (S4×Phs×Lks)) (oneF E call hs ops nt rnd o (behindD o f fs i ph lk ih τ) τ σ ds Λ) (thenK (behindD o f fs i ph lk ih τ) (oneD E call hs ops n0 f o ⟨τ,σ,ds,Λ,nt,rnd⟩)) (Nat.beq f.c 3)
noncomputable def runDF (E:Env) (call:CallF) (hs:Hnds) (ops:Array Oper) (nt:Nat) (rnd:Bool) (n0:Nat) (l:List Oper):D4:=
 List.rec (motive:=fun _=>D4) (fun _ _ ph lk τ σ ds Λ=>some (⟨τ,σ,ds,Λ⟩,ph,lk))
  (fun o _ ih fs i ph lk=>List.rec (motive:=fun _=>K4 (S4×Phs×Lks)) (fun τ σ ds Λ=>some (⟨τ,σ,ds,Λ⟩,ph,lk)) (fun f fs' _=>stepD E call hs ops nt rnd n0 o f fs' i ph lk ih) fs) l
theorem oneD_nt {n0:Nat} {f:Inf} {o:Oper} {st st':St} (h:oneD E call hs ops n0 f o st=some st'):st'.nt=st.nt∧st'.rnd=st.rnd:=by
 have key:∀ {s:St} {d:Option Nat} {v:AV},putS s d v=some st'→s.nt=st.nt→s.rnd=st.rnd→st'.nt=st.nt∧st'.rnd=st.rnd:=fun h h1 h2=>by
  obtain⟨a,b⟩:=putS_nt h
  exact⟨a.trans h1,b.trans h2⟩
 unfold oneD at h
 split at h
 · split at h
   · cases h
   · exact key h rfl rfl
   · split at h
     · exact key h rfl rfl
     · cases h
 · exact oneOp_nt h
theorem stepD_eq {nt:Nat} {rnd:Bool} {n0:Nat} {o:Oper} {f:Inf} {fs:List Inf} {i:Nat} {ph:Phs} {lk:Lks} {ih:D4} (st:St) (h1:st.nt=nt) (h2:st.rnd=rnd) :
  stepD E call hs ops nt rnd n0 o f fs i ph lk ih st.τ st.σ st.ds st.Λ=thenK (behindD o f fs i ph lk ih st.τ) (oneD E call hs ops n0 f o st):=by
 subst h1;subst h2
 unfold stepD
 cases h:Nat.beq f.c 3 with
 |true=>rfl
 | false =>
  rw[show oneD E call hs ops n0 f o st=oneOp E call hs ops o st by
   unfold oneD
   split
   · rename_i e;rw[e] at h;cases h
   · rfl]
  exact oneF_eq E call hs ops o _ st
theorem runDF_eq {nt:Nat} {rnd:Bool} {n0:Nat}:∀ (l:List Oper) (fs:List Inf) (i:Nat) (ph:Phs) (lk:Lks) (st:St),st.nt=nt→st.rnd=rnd →
  runDF E call hs ops nt rnd n0 l fs i ph lk st.τ st.σ st.ds st.Λ=(runD E call hs ops n0 l fs i st ph lk).map fun r=>(s4 r.1,r.2.1,r.2.2)
 |[],fs,i,ph,lk,st,h1,h2=>by cases fs<;>rfl
 |o::l,[],i,ph,lk,st,h1,h2=>rfl
 | o :: l, f :: fs, i, ph, lk, st, h1, h2 => by
  show stepD E call hs ops nt rnd n0 o f fs i ph lk (runDF E call hs ops nt rnd n0 l) st.τ st.σ st.ds st.Λ=_
  rw[stepD_eq st h1 h2,runD]
  cases h:oneD E call hs ops n0 f o st with
  |none=>rfl
  |some st1=>
   obtain⟨a,b⟩:=oneD_nt h
   have ih:=fun ph lk=>runDF_eq (nt:=nt) (rnd:=rnd) (n0:=n0) l fs (i+1) ph lk st1 (a.trans h1) (b.trans h2)
   simp only[thenK,behindD]
   split
   · rename_i e;rw[e];exact ih _ _
   · rename_i e;rw[e];exact ih _ _
   · rename_i e1 e2
     rw[show Nat.beq f.c 0=false by cases h:Nat.beq f.c 0 with|false=>rfl|true=>exact absurd (Nat.eq_of_beq_eq_true h) e1,
      show Nat.beq f.c 1=false by cases h:Nat.beq f.c 1 with|false=>rfl|true=>exact absurd (Nat.eq_of_beq_eq_true h) e2]
     exact ih _ _
noncomputable def drawG (E:Env) (call:CallF) (hs:Hnds) (ops:Array Oper) (nt:Nat) (rnd:Bool) (fs:List Inf) (na:Nat):K4 S4:=fun τ σ ds Λ=>
 Option.rec (motive:=fun _=>Option S4) none (fun r=>Bool.rec (motive:=fun _=>Option S4) (Bool.rec (motive:=fun _=>Option S4) none (some r.1) (looksOKF E ops r.2.1 r.2.2)) (some r.1) (quietI fs)) (runDF E call hs ops nt rnd σ.n ops.toList fs 0 [(⟨σ.t,σ.n+na⟩,0,none)] [] τ ⟨σ.t,σ.n+na⟩ ds Λ)
noncomputable def drawF (E:Env) (call:CallF) (hs:Hnds) (ops:Array Oper) (nt:Nat) (rnd:Bool):K4 S4:=fun τ σ ds Λ=>
 Option.rec (motive:=fun _=>Option S4) (Option.rec (motive:=fun _=>Option S4) none (fun ops'=>Option.rec (motive:=fun _=>Option S4) none (fun p=>drawG E call hs ops' nt rnd p.1 p.2 τ σ ds Λ) (planOf ops'.toList)) (permOf ops)) (fun p=>drawG E call hs ops nt rnd p.1 p.2 τ σ ds Λ) (planOf ops.toList)
theorem drawG_eq {fs:List Inf} {na:Nat} (st:St):drawG E call hs ops st.nt st.rnd fs na st.τ st.σ st.ds st.Λ=(runDrawQ E call hs ops fs na st).map s4:=by
 unfold runDrawQ
 have e:=runDF_eq (E:=E) (call:=call) (hs:=hs) (ops:=ops) (nt:=st.nt) (rnd:=st.rnd) (n0:=st.σ.n) ops.toList fs 0 [(⟨st.σ.t,st.σ.n+na⟩,0,none)] [] { st with σ:=⟨st.σ.t,st.σ.n+na⟩ } rfl rfl
 simp only[drawG]
 simp only at e
 rw[e]
 cases runD E call hs ops st.σ.n ops.toList fs 0 { st with σ:=⟨st.σ.t,st.σ.n+na⟩ } [(⟨st.σ.t,st.σ.n+na⟩,0,none)] [] with
 |none=>rfl
 |some r=>
  obtain⟨st',ph,lk⟩:=r
  simp only[Option.map_some,looksOKF_eq]
  cases quietI fs
  · simp only
    cases looksOK E ops ph lk<;>rfl
  · rfl
theorem drawF_eq (st:St):drawF E call hs ops st.nt st.rnd st.τ st.σ st.ds st.Λ=(runDraw E call hs ops st).map s4:=by
 unfold drawF runDraw
 cases planOf ops.toList with
 |some p=>exact drawG_eq st
 | none =>
  simp only
  cases permOf ops with
  |none=>rfl
  |some ops'=>
   simp only[runDrawP]
   cases planOf ops'.toList with
   |none=>rfl
   |some p=>exact drawG_eq st
theorem runD_nt {n0:Nat}:∀ {l:List Oper} {fs:List Inf} {i:Nat} {st:St} {ph:Phs} {lk:Lks} {r:St×Phs×Lks},runD E call hs ops n0 l fs i st ph lk=some r→r.1.nt=st.nt∧r.1.rnd=st.rnd
 |[],fs,i,st,ph,lk,r,h=>by simp only[runD,Option.some.injEq] at h;subst h;exact⟨rfl,rfl⟩
 |o::l,[],i,st,ph,lk,r,h=>by simp only[runD,Option.some.injEq] at h;subst h;exact⟨rfl,rfl⟩
 |o::l,f::fs,i,st,ph,lk,r,h=>by
  rw[runD] at h
  split at h
  · cases h
  · rename_i st1 h1
    obtain⟨a,b⟩:=oneD_nt h1
    split at h<;>(obtain⟨c,d⟩:=runD_nt h;exact⟨c.trans a,d.trans b⟩)
theorem runDrawQ_nt {fs:List Inf} {na:Nat} {st st':St} (h:runDrawQ E call hs ops fs na st=some st'):st'.nt=st.nt∧st'.rnd=st.rnd:=by
 unfold runDrawQ at h
 split at h
 · cases h
 · rename_i hr
   split at h
   · simp only [Option.some.injEq] at h; subst h
     exact runD_nt hr
   · cases h
theorem runDraw_nt {st st':St} (h:runDraw E call hs ops st=some st'):st'.nt=st.nt∧st'.rnd=st.rnd:=by
 unfold runDraw at h
 split at h
 · exact runDrawQ_nt h
 · split at h
   · unfold runDrawP at h
     split at h
     · cases h
     · exact runDrawQ_nt h
   · cases h
abbrev XF:=Hnds→Nat→Bool→K4 (Ex×S4)
noncomputable def xNorm:XF:=fun _ _ _ τ σ ds Λ=>some (.normal,⟨τ,σ,ds,Λ⟩)
noncomputable def xReg (E:Env) (call:CallF) (ops:Array Oper) (d:Bool):XF:=fun hs nt rnd τ σ ds Λ=>
 Option.rec (motive:=fun _=>Option (Ex×S4)) none (fun s=>some (.normal,s)) (Bool.rec (motive:=fun _=>Option S4) (runF E call hs ops nt rnd ops.toList τ σ ds Λ) (drawF E call hs ops nt rnd τ σ ds Λ) d)
noncomputable def xSeq (a b:XF):XF:=fun hs nt rnd τ σ ds Λ=>
 Option.rec (motive:=fun _=>Option (Ex×S4)) none (fun r=>Ex.rec (motive:=fun _=>Option (Ex×S4)) (b hs nt rnd r.2.τ r.2.σ r.2.ds r.2.Λ) (fun i=>some (.exit i,r.2)) (some (.ret,r.2)) r.1) (a hs nt rnd τ σ ds Λ)
noncomputable def xCond (c:Operand) (a b:XF):XF:=fun hs nt rnd τ σ ds Λ=>match evF τ c with
 |some (.bool x)=>Bool.rec (motive:=fun _=>Option (Ex×S4)) (b hs nt rnd τ σ ds Λ) (a hs nt rnd τ σ ds Λ) x
 |_=>none
noncomputable def xBlock (i:Nat) (b:XF):XF:=fun hs nt rnd τ σ ds Λ=>
 Option.rec (motive:=fun _=>Option (Ex×S4)) none (fun r=>Ex.rec (motive:=fun _=>Option (Ex×S4)) (some (.normal,r.2)) (fun j=>some (Bool.rec (.exit j) .normal (Nat.beq j i),r.2)) (some (.ret,r.2)) r.1) (b hs nt rnd τ σ ds Λ)
noncomputable def upToF (body:K4 (Ex×S4)) (k:Nat):K4 (Option Ex×S4):=
 Nat.rec (motive:=fun _=>K4 (Option Ex×S4)) (fun τ σ ds Λ=>Option.rec (motive:=fun _=>Option (Option Ex×S4)) none (fun r=>Ex.rec (motive:=fun _=>Option (Option Ex×S4)) (some (none,r.2)) (fun i=>some (some (.exit i),r.2)) (some (some .ret,r.2)) r.1) (body τ σ ds Λ))
  (fun _ ih τ σ ds Λ=>Option.rec (motive:=fun _=>Option (Option Ex×S4)) none (fun r=>Option.rec (motive:=fun _=>Option (Option Ex×S4)) (ih r.2.τ r.2.σ r.2.ds r.2.Λ) (fun e=>some (some e,r.2)) r.1) (ih τ σ ds Λ)) k
noncomputable def xLoop (E:Env) (call:CallF) (c:Code) (b:XF):XF:=fun hs nt rnd τ σ ds Λ=>
 Bool.rec (motive:=fun _=>Option (Ex×S4)) (Option.rec (motive:=fun _=>Option (Ex×S4)) none (fun r=>Option.rec (motive:=fun _=>Option (Ex×S4)) none (fun e=>some (e,r.2)) r.1) (upToF (b hs nt rnd) 20 τ σ ds Λ))
  ((exec E call (.loop c) hs ⟨τ,σ,ds,Λ,nt,rnd⟩).map fun r=>(r.1,⟨r.2.τ,r.2.σ,r.2.ds,r.2.Λ⟩)) E.sy
noncomputable def xHnd (params:Array Nat) (asg body:XF) (hs:Hnds) (nt:Nat) (τ:Tmps):Hnd:=fun az σ Λ=>match Λ with
 |[]=>none
 | lf :: Λ => match lf.done with
  |true=>none
  | false => match setParams nt τ params.toList az with
   |none=>none
   | some τ => match asg hs nt true τ σ [] Λ with
    | some (.normal, s1) => match body hs nt true s1.τ s1.σ s1.ds s1.Λ with
     |some (e,s2)=>match s2.ds with
      |[]=>some (e.isNormal,s2.σ,⟨!e.isNormal,e⟩::s2.Λ)
      |_=>none
     |none=>none
    |_=>none
noncomputable def xRange (call:CallF) (f:Operand) (params:Array Nat) (asg body:XF):XF:=fun hs nt _ τ σ ds Λ=>
 match evF τ f with
 |some (.fn g first caps)=>
  match call g (first++[.yld σ.n]++caps) ⟨σ.t,σ.n+1⟩ ((σ.n,xHnd params asg body hs nt τ)::deepen hs) (⟨false,.normal⟩::Λ) with
  |some (_,σ,lf::Λ)=>some (lf.pend,⟨τ,σ,ds,Λ⟩)
  |_=>none
 |_=>none
noncomputable def execF (E:Env) (call:CallF) (c:Code):XF:=
 Code.rec (motive:=fun _=>XF) xNorm (fun _ ops d=>xReg E call ops d) (fun _ _ a b=>xSeq a b) (fun c _ _ a b=>xCond c a b) (fun i _ b=>xBlock i b) (fun c b=>xLoop E call c b) (fun f p _ _ a b=>xRange call f p a b)
  (fun i _ _ _ τ σ ds Λ=>some (.exit i,⟨τ,σ,ds,Λ⟩)) (fun _ b=>b) (fun _=>xNorm) (fun _ _ _ _ _ _ _ _=>none) (fun _ _ _ τ σ ds Λ=>some (.ret,⟨τ,σ,ds,Λ⟩)) (fun _ _ _ _ _ _ _ _=>none) c
def e4 (r:Ex×St):Ex×S4:=(r.1,s4 r.2)
theorem upTo_nt {body:St→Option (Ex×St)} (hb:∀ {st e st'},body st=some (e,st')→st'.nt=st.nt∧st'.rnd=st.rnd):∀ (k:Nat) {st st':St} {e:Option Ex},upTo body k st=some (e,st')→st'.nt=st.nt∧st'.rnd=st.rnd
 |0,st,st',e,h=>by
  rw[upTo] at h
  split at h
  · rename_i st1 h1
    simp only[Option.some.injEq,Prod.mk.injEq] at h;obtain⟨_,rfl⟩:=h
    exact hb h1
  · rename_i h1
    simp only[Option.some.injEq,Prod.mk.injEq] at h;obtain⟨_,rfl⟩:=h
    exact hb h1
  · cases h
 |k+1,st,st',e,h=>by
  rw[upTo] at h
  split at h
  · rename_i st1 h1
    obtain⟨a,b⟩:=upTo_nt hb k h1
    obtain⟨c,d⟩:=upTo_nt hb k h
    exact⟨c.trans a,d.trans b⟩
  · exact upTo_nt hb k h
theorem exec_nt : ∀ (c : Code) {hs : Hnds} {st st' : St} {e : Ex}, exec E call c hs st = some (e, st') → st'.nt = st.nt ∧ st'.rnd = st.rnd := by
 intro c
 induction c with
 |skip=>intro hs st st' e h;simp only[exec_skip,Option.some.injEq,Prod.mk.injEq] at h;obtain⟨_,rfl⟩:=h;exact⟨rfl,rfl⟩
 |label l=>intro hs st st' e h;simp only[exec_label,Option.some.injEq,Prod.mk.injEq] at h;obtain⟨_,rfl⟩:=h;exact⟨rfl,rfl⟩
 |exit i=>intro hs st st' e h;simp only[exec_exit,Option.some.injEq,Prod.mk.injEq] at h;obtain⟨_,rfl⟩:=h;exact⟨rfl,rfl⟩
 |ret=>intro hs st st' e h;simp only[exec_ret,Option.some.injEq,Prod.mk.injEq] at h;obtain⟨_,rfl⟩:=h;exact⟨rfl,rfl⟩
 |goto l=>intro hs st st' e h;simp[exec_goto] at h
 |refuse w=>intro hs st st' e h;simp[exec_refuse] at h
 |scope b ih=>intro hs st st' e h;rw[exec_scope] at h;exact ih h
 | region id ops d =>
  intro hs st st' e h
  cases d with
  |true=>
   rw[exec_regionD] at h
   split at h
   · rename_i h1
     simp only[Option.some.injEq,Prod.mk.injEq] at h;obtain⟨_,rfl⟩:=h
     exact runDraw_nt h1
   · cases h
  |false=>
   rw[exec_region] at h
   split at h
   · rename_i h1
     simp only[Option.some.injEq,Prod.mk.injEq] at h;obtain⟨_,rfl⟩:=h
     exact runOps_nt h1
   · cases h
 |seq a b iha ihb=>
  intro hs st st' e h
  rw[exec_seq] at h
  split at h
  · rename_i st1 h1
    obtain⟨x,y⟩:=iha h1
    obtain⟨z,w⟩:=ihb h
    exact⟨z.trans x,w.trans y⟩
  · exact iha h
 |cond c a b iha ihb=>
  intro hs st st' e h
  rw[exec_cond] at h
  split at h
  · exact iha h
  · exact ihb h
  · cases h
 |block i b ih=>
  intro hs st st' e h
  rw[exec_block] at h
  split at h
  · rename_i h1
    simp only[Option.some.injEq,Prod.mk.injEq] at h;obtain⟨_,rfl⟩:=h
    exact ih h1
  · exact ih h
 | loop b ih =>
  intro hs st st' e h
  rw[exec_loop] at h
  split at h
  · rename_i h1
    simp only[Option.some.injEq,Prod.mk.injEq] at h;obtain⟨_,rfl⟩:=h
    split at h1
    · refine upTo_nt (body := fun s => roundC _ _ (exec E call b hs s)) (fun {s e s'} h => ?_) _ h1
      simp only[roundC] at h
      split at h
      · rename_i s1 hx
        simp only[Option.some.injEq,Prod.mk.injEq] at h;obtain⟨_,rfl⟩:=h
        obtain⟨a1,a2⟩:=ih hx
        exact⟨clean_nt.1.trans a1,clean_nt.2.trans a2⟩
      · exact ih h
    · exact upTo_nt (fun h=>ih h) _ h1
  · cases h
 |rangeFunc f ps a b iha ihb=>
  intro hs st st' e h
  have this:=h
  rw[exec_rangeFunc] at this
  split at this
  · split at this
    · simp only [Option.some.injEq, Prod.mk.injEq] at this; obtain ⟨_, rfl⟩ := this
      exact⟨rfl,rfl⟩
    · cases this
  · cases this
def XOK (E:Env) (call:CallF) (c:Code):Prop:=∀ (hs:Hnds) (st:St),execF E call c hs st.nt st.rnd st.τ st.σ st.ds st.Λ=(exec E call c hs st).map e4
theorem upToF_eq {body:St→Option (Ex×St)} {bodyF:K4 (Ex×S4)} {nt:Nat} {rnd:Bool} (hb:∀ st:St,st.nt=nt→st.rnd=rnd→bodyF st.τ st.σ st.ds st.Λ=(body st).map e4) (hn:∀ {st e st'},body st=some (e,st')→st'.nt=st.nt∧st'.rnd=st.rnd) :
  ∀ (k:Nat) (st:St),st.nt=nt→st.rnd=rnd→upToF bodyF k st.τ st.σ st.ds st.Λ=(upTo body k st).map fun r=>(r.1,s4 r.2)
 |0,st,h1,h2=>by
  rw[upTo]
  show @Option.rec _ (fun _=>Option (Option Ex×S4)) none _ (bodyF st.τ st.σ st.ds st.Λ)=_
  rw[hb st h1 h2]
  cases body st with
  |none=>rfl
  |some r=>obtain⟨e,st'⟩:=r;cases e<;>rfl
 | k + 1, st, h1, h2 => by
  rw[upTo]
  show @Option.rec _ (fun _=>Option (Option Ex×S4)) none _ (upToF bodyF k st.τ st.σ st.ds st.Λ)=_
  rw[upToF_eq hb hn k st h1 h2]
  cases h:upTo body k st with
  |none=>rfl
  | some r =>
   obtain⟨e,st'⟩:=r
   cases e with
   |none=>
    obtain⟨a,b⟩:=upTo_nt hn k h
    exact upToF_eq hb hn k st' (a.trans h1) (b.trans h2)
   |some e=>rfl
theorem xHnd_eq {a b:Code} (ha:XOK E call a) (hb:XOK E call b) (ps:Array Nat) (hs:Hnds) (nt:Nat) (τ:Tmps):xHnd ps (execF E call a) (execF E call b) hs nt τ=rangeH E call hs nt τ ps a b:=by
 funext az σ Λ
 cases Λ with
 |nil=>rfl
 | cons lf Λ =>
  simp only[xHnd,rangeH]
  cases lf.done with
  |true=>rfl
  | false =>
   simp only
   cases setParams nt τ ps.toList az with
   |none=>rfl
   | some τ' =>
    have e1:=ha hs ⟨τ',σ,[],Λ,nt,true⟩
    simp only at e1⊢
    rw[e1]
    cases h1:exec E call a hs ⟨τ',σ,[],Λ,nt,true⟩ with
    |none=>rfl
    | some r =>
     obtain⟨e,st1⟩:=r
     cases e with
     | normal =>
      obtain⟨n1,n2⟩:=exec_nt a h1
      have e2:=hb hs st1
      rw[n1,n2] at e2
      simp only[Option.map_some,e4,s4]
      simp only at e2
      rw[e2]
      cases exec E call b hs st1 with
      |none=>rfl
      |some r=>
       obtain⟨e,st2⟩:=r
       simp only[Option.map_some,e4,s4]
       cases st2.ds<;>rfl
     |exit i=>rfl
     |ret=>rfl
theorem execF_eq (c:Code):XOK E call c:=by
 induction c with
 |skip=>intro hs st;rfl
 |label l=>intro hs st;rfl
 |exit i=>intro hs st;rfl
 |ret=>intro hs st;rfl
 |goto l=>intro hs st;rfl
 |refuse w=>intro hs st;rfl
 |scope b ih=>intro hs st;rw[exec_scope];exact ih hs st
 | region id ops d =>
  intro hs st
  cases d with
  |true=>
   rw[exec_regionD]
   show @Option.rec _ (fun _=>Option (Ex×S4)) none _ (drawF E call hs ops st.nt st.rnd st.τ st.σ st.ds st.Λ)=_
   rw[drawF_eq]
   cases runDraw E call hs ops st<;>rfl
  |false=>
   rw[exec_region]
   show @Option.rec _ (fun _=>Option (Ex×S4)) none _ (runF E call hs ops st.nt st.rnd ops.toList st.τ st.σ st.ds st.Λ)=_
   rw[runF_eq]
   cases runOps E call hs ops ops.toList st<;>rfl
 | seq a b iha ihb =>
  intro hs st
  rw[exec_seq]
  show @Option.rec _ (fun _=>Option (Ex×S4)) none _ (execF E call a hs st.nt st.rnd st.τ st.σ st.ds st.Λ)=_
  rw[iha hs st]
  cases h:exec E call a hs st with
  |none=>rfl
  | some r =>
   obtain⟨e,st1⟩:=r
   obtain⟨n1,n2⟩:=exec_nt a h
   cases e with
   |normal=>
    show execF E call b hs st.nt st.rnd st1.τ st1.σ st1.ds st1.Λ=_
    rw[← n1,← n2]
    exact ihb hs st1
   |exit i=>rfl
   |ret=>rfl
 | cond c a b iha ihb =>
  intro hs st
  rw[exec_cond]
  show (match evF st.τ c with
   |some (.bool x)=>Bool.rec (motive:=fun _=>Option (Ex×S4)) (execF E call b hs st.nt st.rnd st.τ st.σ st.ds st.Λ) (execF E call a hs st.nt st.rnd st.τ st.σ st.ds st.Λ) x
   |_=>none)=_
  rw[evF_eq]
  split
  · rename_i x hx
    cases x with
    |true=>rw[hx];exact iha hs st
    |false=>rw[hx];exact ihb hs st
  · rename_i hne
    split
    · rename_i h;exact absurd h (hne true)
    · rename_i h;exact absurd h (hne false)
    · rfl
 | block i b ih =>
  intro hs st
  rw[exec_block]
  show @Option.rec _ (fun _=>Option (Ex×S4)) none _ (execF E call b hs st.nt st.rnd st.τ st.σ st.ds st.Λ)=_
  rw[ih hs st]
  cases exec E call b hs st with
  |none=>rfl
  | some r =>
   obtain⟨e,st1⟩:=r
   cases e with
   |normal=>rfl
   |exit j=>
    simp only[Option.map_some,e4]
    cases Nat.beq j i<;>rfl
   |ret=>rfl
 | loop b ih =>
  intro hs st
  show xLoop E call b (execF E call b) hs st.nt st.rnd st.τ st.σ st.ds st.Λ=_
  unfold xLoop
  cases hsy:E.sy with
  |true=>rfl
  |false=>
   rw[exec_loop,hsy]
   show @Option.rec _ (fun _=>Option (Ex×S4)) none _ (upToF (execF E call b hs st.nt st.rnd) 20 st.τ st.σ st.ds st.Λ)=_
   rw[upToF_eq (body:=exec E call b hs) (nt:=st.nt) (rnd:=st.rnd) (fun st' h1 h2=>by rw[← h1,← h2];exact ih hs st') (fun h=>exec_nt b h) 20 st rfl rfl]
   simp only
   cases upTo (exec E call b hs) 20 st with
   |none=>rfl
   |some r=>obtain⟨e,st1⟩:=r;cases e<;>rfl
 | rangeFunc f ps a b iha ihb =>
  intro hs st
  rw[exec_rangeFunc]
  show xRange call f ps (execF E call a) (execF E call b) hs st.nt st.rnd st.τ st.σ st.ds st.Λ=_
  unfold xRange
  rw[evF_eq,xHnd_eq iha ihb]
  cases ev st.τ f with
  |none=>rfl
  | some v =>
   cases v with
   | fn g first caps =>
    simp only
    cases call g (first++[.yld st.σ.n]++caps) ⟨st.σ.t,st.σ.n+1⟩ ((st.σ.n,rangeH E call hs st.nt st.τ ps a b)::deepen hs) (⟨false,.normal⟩::st.Λ) with
    |none=>rfl
    |some r=>
     obtain⟨v0,σ2,Λ2⟩:=r
     cases Λ2 with
     |nil=>rfl
     |cons lf Λ2=>rfl
   |_=>rfl
abbrev RF:=Option (AV×Hp×List LF)
noncomputable def packF (σ:Hp) (Λ:List LF) (r:Option (List AV)):RF:=
 match r with
 |some [v]=>some (v,σ,Λ)
 |some vs=>some (.tup vs,σ,Λ)
 |none=>none
noncomputable def finF (E:Env) (call:CallF) (hs:Hnds) (rs:List ResultVar) (s:S4):RF:=
 List.rec (motive:=fun _=>RF) (packF s.σ s.Λ (resultsA E s.τ s.σ rs)) (fun _ _ _=>match runDefers E call hs s.ds s.σ s.Λ with
  |none=>none
  |some (σ,Λ)=>packF σ Λ (resultsA E s.τ σ rs)) s.ds
noncomputable def bodyF (E:Env) (call:CallF) (hs:Hnds) (fn:Func) (args:List AV) (σ:Hp) (Λ:List LF) (body:Code):RF:=
 Option.rec (motive:=fun _=>RF) none (fun r=>Ex.rec (motive:=fun _=>RF) (finF E call hs fn.results.toList r.2) (fun _=>none) (finF E call hs fn.results.toList r.2) r.1)
  (execF E call body hs (args.length+(fn.ntmps-args.length)) false (tmps0 fn.ntmps (.full (dep fn.ntmps)) 0 args) σ [] Λ)
noncomputable def funcF (E:Env) (call:CallF) (hs:Hnds) (args:List AV) (σ:Hp) (Λ:List LF) (fn:Func):RF:=
 Option.rec (motive:=fun _=>RF) none (fun b=>bodyF E call hs fn args σ Λ b) fn.body
theorem finF_eq (rs:List ResultVar) (st:St):finF E call hs rs (s4 st)=match runDefers E call hs st.ds st.σ st.Λ with
  |none=>none
  |some (σ,Λ)=>match resultsA E st.τ σ rs with
   |some [v]=>some (v,σ,Λ)
   |some vs=>some (.tup vs,σ,Λ)
   |none=>none:=by
 unfold finF s4
 simp only
 cases h:st.ds with
 |nil=>
  simp only[runDefers]
  rfl
 |cons d ds=>rfl
end
end Go.Eng


namespace Go.Eng
open Go
attribute [local irreducible] upTo
structure PC where
 f:Nat
 p:List Nat
 c:Code
structure HD where
 lvl:Nat
 nt:Nat
 n:Nat
 τ:Tmps
 params:Array Nat
 asg:PC
 body:PC
structure Ev where
 n:Nat
 D:List HD
structure DR where
 pc:PC
 ops:Array Oper
 n0:Nat
 os:List Oper
 fs:List Inf
 i:Nat
 ph:Phs
 lk:Lks
 q:Bool
inductive Rt where
 |top
 |op (pc:PC) (j:Nat) (dst:Option Nat) (rest:List Oper) (τ:Tmps) (ds:List (Nat×List AV)) (nt:Nat) (rnd:Bool) (ev:Ev)
 |dr (d:DR) (o:Oper) (f:Inf) (τ:Tmps) (ds:List (Nat×List AV)) (nt:Nat) (rnd:Bool) (ev:Ev)
 |rng (τ:Tmps) (ds:List (Nat×List AV)) (nt:Nat) (rnd:Bool) (ev:Ev)
 |cln (n0:Nat) (r:Rt)
 |dn (r:Rt)
inductive Fm where
 |seq (b:PC)|asg (b:PC)|blk (i:Nat)
 |lop (b:PC) (n0:Nat) (τ0:Tmps) (j:Nat)
 |cal (rs:List ResultVar) (r:Rt)
 |rnd (pre:List LF) (r:Rt)
inductive Cu where
 |ex (c:PC) (st:St)
 |op (pc:PC) (j:Nat) (rest:List Oper) (st:St)
 |dr (d:DR) (st:St)
 |rt (e:Ex) (st:St)
 |vl (r:Rt) (v:AV) (σ:Hp) (Λ:List LF)
structure Cfg where
 cu:Cu
 ev:Ev
 K:List Fm
noncomputable def opsOf (c:Code):Array Oper:=
 match c with
 |.region _ ops _=>ops
 |_=>#[]
noncomputable def opsD (c:Code):Array Oper:=
 match planOf (opsOf c).toList with
 |some _=>opsOf c
 |none=>match permOf (opsOf c) with
  |some ops=>ops
  |none=>#[]
noncomputable def fsD (c:Code):List Inf:=
 match planOf (opsD c).toList with
 |some r=>r.1
 |none=>[]
abbrev Rr:=AV×Hp×List LF
structure Sy where
 x:Nat→List AV→Option (Bool×AV)
 hd:Nat→Bool
 pl:Bool:=true
 fl:List Nat:=[]
 vr:Bool:=false
 nf:List Nat:=[]
 np:List (List Nat):=[]
def Sy.ok (E:Env) (S:Sy):Prop:=∀ f args v,S.x f args=some (true,v)→E.ext f args=some v
section
variable (E:Env)
noncomputable def toHs:List HD→Hnds
 |[]=>[]
 |h::D=>(h.lvl,rangeH E (callN E h.n) (toHs D) h.nt h.τ h.params h.asg.c h.body.c)::deepen (toHs D)
noncomputable def rounds (ev:Ev) (b:Code) (n0:Nat) (τ0:Tmps):Nat→St→Option (Ex×St)
 |0,_=>none
 |j+1,st=>match exec E (callN E ev.n) b (toHs E ev.D) st with
  |some (.normal,st)=>rounds ev b n0 τ0 j (clean n0 τ0 st)
  |r=>r
noncomputable def finD (d:DR) (r:Option (St×Phs×Lks)):Option St:=
 match r with
 |none=>none
 |some (st,ph,lk)=>match (match d.q with|true=>true|false=>looksOK E d.ops ph lk) with
  |true=>some st
  |false=>none
noncomputable def restD (ev:Ev) (d:DR) (st:St):Option St:=finD E d (runD E (callN E ev.n) (toHs E ev.D) d.ops d.n0 d.os d.fs d.i st d.ph d.lk)
noncomputable def DR.nxt (d:DR) (o:Oper) (f:Inf) (τ:Tmps) (st:St):DR:=
 match f.c with
 |0=>{ d with i:=d.i+1,ph:=(st.σ,f.a,some d.i)::d.ph }
 |1=>{ d with i:=d.i+1,lk:=(o,d.i,f.a,τ,st.τ)::d.lk }
 |_=>{ d with i:=d.i+1 }
noncomputable def contV (cE:Ev→Ex→St→Option Rr):Rt→AV→Hp→List LF→Option Rr
 |.top,v,σ,Λ=>some (v,σ,Λ)
 | .op pc _ dst rest τ ds nt rnd ev, v, σ, Λ => match putS ⟨τ, σ, ds, Λ, nt, rnd⟩ dst v with
  |none=>none
  |some st=>match runOps E (callN E ev.n) (toHs E ev.D) (opsOf pc.c) rest st with
   |none=>none
   |some st=>cE ev .normal st
 | .dr d o f τ ds nt rnd ev, v, σ, Λ => match putS ⟨τ, σ, ds, Λ, nt, rnd⟩ o.dst v with
  |none=>none
  |some st=>match restD E ev (d.nxt o f τ st) st with
   |none=>none
   |some st=>cE ev .normal st
 |.rng τ ds nt rnd ev,_,σ,Λ=>match Λ with
  |lf::Λ=>cE ev lf.pend ⟨τ,σ,ds,Λ,nt,rnd⟩
  |[]=>none
 |.cln n0 r,v,σ,Λ=>contV cE r v (cln n0 v σ) Λ
 |.dn r,v,σ,Λ=>contV cE r v σ Λ
noncomputable def rtT (E:Env) (f n0:Nat) (r:Rt):Rt:=
 match E.tr f with
 |true=>.cln n0 r
 |false=>r
noncomputable def contE:List Fm→Ev→Ex→St→Option Rr
 |[],_,_,_=>none
 | .seq b :: K, ev, e, st => match e with
  |.normal=>match exec E (callN E ev.n) b.c (toHs E ev.D) st with
   |some (e,st)=>contE K ev e st
   |none=>none
  |e=>contE K ev e st
 | .asg b :: K, ev, e, st => match e with
  |.normal=>match exec E (callN E ev.n) b.c (toHs E ev.D) st with
   |some (e,st)=>contE K ev e st
   |none=>none
  |_=>none
 |.blk i::K,ev,e,st=>match e with
  |.exit j=>contE K ev (match Nat.beq j i with|true=>.normal|false=>.exit j) st
  |e=>contE K ev e st
 | .lop b n0 τ0 j :: K, ev, e, st => match e with
  |.normal=>match rounds E ev b.c n0 τ0 j (clean n0 τ0 st) with
   |some (e,st)=>contE K ev e st
   |none=>none
  |e=>contE K ev e st
 | .cal rs r :: K, ev, e, st => match e with
  |.exit _=>none
  | _ => match runDefers E (callN E ev.n) (toHs E ev.D) st.ds st.σ st.Λ with
   |none=>none
   |some (σ,Λ)=>match resultsA E st.τ σ rs with
    |some [v]=>contV E (contE K) r v σ Λ
    |some vs=>contV E (contE K) r (.tup vs) σ Λ
    |none=>none
 |.rnd pre r::K,_,e,st=>match st.ds with
  |[]=>contV E (contE K) r (.bool e.isNormal) st.σ (pre++⟨!e.isNormal,e⟩::st.Λ)
  |_=>none
noncomputable def den (c:Cfg):Option Rr:=
 match c.cu with
 |.ex pc st=>match exec E (callN E c.ev.n) pc.c (toHs E c.ev.D) st with
  |some (e,st)=>contE E c.K c.ev e st
  |none=>none
 |.op pc _ rest st=>match runOps E (callN E c.ev.n) (toHs E c.ev.D) (opsOf pc.c) rest st with
  |some st=>contE E c.K c.ev .normal st
  |none=>none
 |.dr d st=>match restD E c.ev d st with
  |some st=>contE E c.K c.ev .normal st
  |none=>none
 |.rt e st=>contE E c.K c.ev e st
 |.vl r v σ Λ=>contV E (contE E c.K) r v σ Λ
noncomputable def frzT (v:AV) (σ:Hp):Option (AV×Hp):=
 match v with
 | .ptr id off => match σ.get id with
  |some (.cells _ l)=>match frzL 5000 l (σ.set id (.cells true l)) with
   |some r=>some (.cp r.1 off,r.2)
   |none=>none
  |_=>none
 |v=>frz 5000 v σ
noncomputable def frzTL:List AV→Hp→Option (List AV×Hp)
 |[],σ=>some ([],σ)
 | v :: vs, σ => match frzT v σ with
  |some r=>match frzTL vs r.2 with
   |some q=>some (r.1::q.1,q.2)
   |none=>none
  |none=>none
noncomputable def frzV (v:AV) (σ:Hp):Option AV:=
 match v with
 |.tup l=>match frzTL l σ with
  |some r=>some (.tup r.1)
  |none=>none
 |v=>match frzT v σ with
  |some r=>some r.1
  |none=>none
inductive Out where
 |stop (c:Cfg)
 |done (v:AV)
mutual
noncomputable def frzD:Nat→AV→Hp→(AV→Hp→Option Out)→Option Out
 |0,_,_,_=>none
 | n + 1, v, σ, k => match v with
  |.sl id off len _ _=>match σ.get id with
   |some (.cells _ l)=>Bool.rec (motive:=fun _=>Option Out) none (k (.csl (l.drop off) len) (σ.set id (.cells true l))) (plainL (l.drop off))
   |_=>none
  |.agg l=>frzDL n l σ (fun l σ=>k (.agg l) σ)
  |.ptr _ _=>none|.fsl _ _ _ _=>none|.mp _=>none|.iter _=>none|.fn _ _ _=>none|.yld _=>none|.tup _=>none|.cp _ _=>none|.mv _ _ _=>none
  |.ifc t v=>frzD n v σ (fun v σ=>k (.ifc t v) σ)
  |v=>k v σ
noncomputable def frzDL:Nat→List AV→Hp→(List AV→Hp→Option Out)→Option Out
 |_,[],σ,k=>k [] σ
 |0,_::_,_,_=>none
 |n+1,v::vs,σ,k=>frzD n v σ (fun v σ=>frzDL n vs σ (fun vs σ=>k (v::vs) σ))
end
noncomputable def frzTD (v:AV) (σ:Hp) (k:AV→Hp→Option Out):Option Out:=
 match v with
 |.ptr id off=>match σ.get id with
  |some (.cells _ l)=>frzDL 5000 l (σ.set id (.cells true l)) (fun cs σ=>k (.cp cs off) σ)
  |_=>none
 |v=>frzD 5000 v σ k
noncomputable def frzTDL:List AV→Hp→(List AV→Hp→Option Out)→Option Out
 |[],σ,k=>k [] σ
 |v::vs,σ,k=>frzTD v σ (fun v σ=>frzTDL vs σ (fun vs σ=>k (v::vs) σ))
noncomputable def doneK (v:AV) (σ:Hp):Option Out:=
 match v with
 |.tup l=>frzTDL l σ (fun l _=>some (.done (.tup l)))
 |v=>frzTD v σ (fun v _=>some (.done v))
noncomputable def pickV (x y:AV) (t:Bool):Option AV:=
 match x,y with
 |.bool a,.bool b=>some (.bool (Bool.rec b a t))
 |.int k a,.int k' b=>match ikb k k' with
  |true=>some (.int k (Bool.rec b a t))
  |false=>none
 |_,_=>none
noncomputable def okSB:List (AV×AV)→Bool
 |[]=>true
 |(k,v)::es=>match k,v with
  |.str _,.bool _=>okSB es
  |_,_=>false
noncomputable def hasSB (s:List Nat):List (AV×AV)→Bool
 |[]=>false
 | (k, _) :: es => match k with
  |.str t=>match lbeq s t with
   |true=>true
   |false=>hasSB s es
  |_=>hasSB s es
noncomputable def getSB (s:List Nat):List (AV×AV)→Bool
 |[]=>false
 | (k, v) :: es => match k, v with
  |.str t,.bool b=>match lbeq s t with
   |true=>b
   |false=>getSB s es
  |_,_=>getSB s es
noncomputable def setSB (s:List Nat) (b:Bool):List (AV×AV)→List (AV×AV)
 |[]=>[(.str s,.bool b)]
 | (k, v) :: es => match k with
  |.str t=>match lbeq s t with
   |true=>(.str s,.bool b)::es
   |false=>(k,v)::setSB s b es
  |_=>(k,v)::setSB s b es
mutual
noncomputable def eqvB:Nat→Nat→AV→AV→Option Bool
 |0,_,_,_=>none
 | d + 1, t, x, y =>
  match E.ty t with
  | some (.struct fs) => match x with
   | .agg xs => match y with
    |.agg ys=>match E.eqok t with
     |true=>eqvFB d fs xs ys
     |false=>none
    |_=>none
   |_=>none
  |some .bool=>eqv E (d+1) t x y
  |some (.int _)=>eqv E (d+1) t x y
  |some .str=>eqv E (d+1) t x y
  |_=>none
noncomputable def eqvFB:Nat→List KF→List AV→List AV→Option Bool
 |_,[],_,_=>some true
 |0,_::_,_,_=>none
 | d + 1, f :: fs, xs, ys => match f.named with
  |false=>eqvFB d fs xs ys
  | true => match part E f.type xs f.off, part E f.type ys f.off with
   |some x,some y=>match eqvB d f.type x y,eqvFB d fs xs ys with
    |some a,some b=>some (a&&b)
    |_,_=>none
   |_,_=>none
end
noncomputable def elemsK (σ:Hp) (size:Nat) (x:AV) (k:List AV→Nat→Option Out):Option Out:=
 match x with
 |.sl id off len _ _=>match σ.get id with
  |some (.cells _ l)=>Bool.rec (motive:=fun _=>Option Out) none (k ((l.drop off).take (len * size)) len) (Nat.ble (off+len * size) l.length)
  |_=>none
 |.csl cells len=>Bool.rec (motive:=fun _=>Option Out) none (k ((cells.drop 0).take (len * size)) len) (Nat.ble (0+len * size) cells.length)
 |x=>match elemsOf σ size x with
  |some (new,n)=>k new n
  |none=>none
noncomputable def appK (σ:Hp) (ats:Array TypeId) (s x:AV) (k:Res→Option Out):Option Out:=
 match (ats[0]?).bind E.ty,(match (ats[1]?).bind E.ty with|some (.slice _)=>true|some .str=>true|_=>false) with
 | some (.slice e), true => elemsK σ (E.size e) x fun new n => match E.zero e with
   | some _ => Bool.rec (motive := fun _ => Option Out) none
    (match s with
    |.nils=>Bool.rec (motive:=fun _=>Option Out) (k (.val (.sl σ.n 0 n n (E.size e)) (σ.push (.cells false new)))) (k (.val .nils σ)) (Nat.beq n 0)
    |.sle=>Bool.rec (motive:=fun _=>Option Out) (k (.val (.sl σ.n 0 n n (E.size e)) (σ.push (.cells false new)))) (k (.val .sle σ)) (Nat.beq n 0)
    |.csl cells len=>Bool.rec (motive:=fun _=>Option Out) none (k (.val (.csl cells len) σ)) (Nat.beq n 0)
    | .sl id off len cl sz => match σ.get id with
     |some (.cells ro l)=>match Nat.beq sz (E.size e) with
      |true=>Bool.rec (motive:=fun _=>Option Out) none (Bool.rec (motive:=fun _=>Option Out) none (Bool.rec (motive:=fun _=>Option Out) (k (.val (.sl σ.n 0 (len+n) (len+n) sz) ((σ.set id .gone).push (.cells ro (l.drop off++new))))) (k (.val (.sl id off len cl sz) σ)) (Nat.beq n 0)) (Nat.ble len 1048576)) (Nat.beq (off+len * E.size e) l.length)
      |false=>none
     |_=>none
    |_=>none) (Nat.ble n 1048576&&oneAll new&&Nat.ble (E.bytes e) 65536)
   |none=>none
 |_,_=>none
noncomputable def preK (σ:Hp) (x:AV) (k:AV→Hp→Option Out):Option Out:=
 match x with
 |.sl id off len cl sz=>match σ.get id with
  |some (.cells _ l)=>Bool.rec (motive:=fun _=>Option Out) (frzDL 4999 (l.drop off) (σ.set id (.cells true l)) (fun cs σ=>k (.csl cs len) σ)) (k (.sl id off len cl sz) σ) (plainL (l.drop off))
  |_=>k (.sl id off len cl sz) σ
 |x=>k x σ
noncomputable def appW (σ:Hp) (ats:Array TypeId) (s x:AV) (k:Res→Option Out):Option Out:=
 match E.sy with
 |true=>preK σ x (fun x σ=>appK E σ ats s x k)
 |false=>appK E σ ats s x k
noncomputable def toB:AV→Bool
 |.bool b=>b
 |_=>false
noncomputable def toI:AV→Int
 |.int _ n=>n
 |_=>0
noncomputable def toS:AV→List Nat
 |.str s=>s
 |_=>[]
noncomputable def asZ (z c:AV):AV:=
 match z with
 |.bool _=>.bool (toB c)
 |.int k _=>.int k (toI c)
 |.str _=>.str (toS c)
 |_=>c
noncomputable def isZ (z c:AV):Bool:=
 match z with
 |.bool _=>match c with
  |.bool _=>true
  |_=>false
 |.int k _=>match c with
  |.int k' _=>ikb k' k
  |_=>false
 |.str _=>match c with
  |.str _=>true
  |_=>false
 |_=>false
noncomputable def scalA:AV→Bool
 |.bool _=>true
 |.int _ _=>true
 |.str _=>true
 |_=>false
noncomputable def scalL:List AV→Bool
 |[]=>false
 |z::zs=>match zs with
  |[]=>scalA z
  |_=>scalA z&&scalL zs
noncomputable def asZs (l:List AV):List AV→Nat→List AV
 |[],_=>[]
 |z::zs,off=>asZ z (l.getD off .nili)::asZs l zs (off+1)
noncomputable def isZs (l:List AV):List AV→Nat→Bool
 |[],_=>true
 |z::zs,off=>Nat.ble (off+1) l.length&&(isZ z (l.getD off .nili)&&isZs l zs (off+1))
noncomputable def payI (c:AV):List AV:=
 match c with
 |.ifc _ w=>match w with
  |.agg xs=>xs
  |_=>[]
 |_=>[]
noncomputable def isI (t0:Nat) (zs:List AV) (c:AV):Bool:=
 match c with
 |.ifc t (.agg xs)=>Nat.beq t t0&&Nat.beq xs.length zs.length&&isZs xs zs 0
 |_=>false
noncomputable def cslC (c:AV):List AV:=
 match c with
 |.csl l _=>l
 |_=>[]
noncomputable def cslN (c:AV):Nat:=
 match c with
 |.csl _ n=>n
 |_=>0
noncomputable def isCsl (c:AV):Bool:=
 match c with
 |.csl _ _=>true
 |_=>false
noncomputable def vsN (c:AV):Bool:=
 match c with
 |.vs _ b _=>b
 |_=>false
noncomputable def vsL (c:AV):List Int:=
 match c with
 |.vs (.int _) _ l=>l
 |_=>[]
noncomputable def isVsI (k:IntKind) (c:AV):Bool:=
 match c with
 |.vs (.int k') _ _=>ikb k' k
 |_=>false
noncomputable def loadK (t:Nat) (l:List AV) (off:Nat) (k:AV→Option Out):Option (Option Out):=
 match E.ty t with
 | some (.arr _ _) => match E.zero t with
  |some (.agg zs)=>match scalL zs,Nat.beq zs.length (E.size t) with
   |true,true=>some (Bool.rec (motive:=fun _=>Option Out) none (k (.agg (asZs l zs off))) (isZs l zs off))
   |_,_=>none
  |_=>none
 | some (.struct _) => match E.zero t with
  |some (.agg zs)=>match scalL zs,Nat.beq zs.length (E.size t) with
   |true,true=>some (Bool.rec (motive:=fun _=>Option Out) none (k (.agg (asZs l zs off))) (isZs l zs off))
   |_,_=>none
  |_=>none
 | some kt => match E.zero t with
  | some z => match scalA z with
   |true=>some (Bool.rec (motive:=fun _=>Option Out) none (k (asZ z (l.getD off .nili))) (isZs l [z] off))
   | false => match kt, E.iv with
    | .ifc _, some t0 => match E.zero t0 with
     |some (.agg zs)=>match scalL zs with
      |true=>some (Bool.rec (motive:=fun _=>Option Out) none (k (.ifc t0 (.agg (asZs (payI (l.getD off .nili)) zs 0)))) (Nat.ble (off+1) l.length&&isI t0 zs (l.getD off .nili)))
      |false=>none
     |_=>none
    |.slice e,some t0=>match Nat.beq t t0,E.zero e with
     |true,some (.int i _)=>some (Bool.rec (motive:=fun _=>Option Out) none (Bool.rec (motive:=fun _=>Option Out) (Bool.rec (motive:=fun _=>Option Out) none (k (.vs (.int i) (vsN (l.getD off .nili)) (vsL (l.getD off .nili)))) (isVsI i (l.getD off .nili))) (k (.csl (cslC (l.getD off .nili)) (cslN (l.getD off .nili)))) (isCsl (l.getD off .nili))) (Nat.ble (off+1) l.length))
     |_,_=>none
    |_,_=>none
  |none=>none
 |none=>none
noncomputable def opK (τ:Tmps) (σ:Hp) (o:Op) (k:Res→Option Out):Option Out:=
 match o with
 | .indexAddr t x i => match E.ty t, evF τ x, evF τ i with
  |some (.slice e),some (.vs ty _ l),some (.int _ j)=>match Nat.beq ty.size (E.size e) with
   |true=>Bool.rec (motive:=fun _=>Option Out) none (k (.val (.cp (ty.cells (l.getD j.toNat ty.dflt)) 0) σ)) (inB j l.length)
   |false=>none
  |some (.slice e),some (.sl id off len _ _),some (.int _ j)=>Bool.rec (motive:=fun _=>Option Out) none (k (.val (.ptr id (off+j.toNat * E.size e)) σ)) (inB j len)
  |some (.slice e),some (.csl cells len),some (.int _ j)=>Bool.rec (motive:=fun _=>Option Out) none (k (.val (.cp cells (j.toNat * E.size e)) σ)) (inB j len)
  |some (.arr len e),some (.ptr id off),some (.int _ j)=>Bool.rec (motive:=fun _=>Option Out) none (k (.val (.ptr id (off+j.toNat * E.size e)) σ)) (inB j len)
  |some (.arr len e),some (.gp g off),some (.int _ j)=>Bool.rec (motive:=fun _=>Option Out) none (k (.val (.gp g (off+j.toNat * E.size e)) σ)) (inB j len)
  |some (.arr len e),some (.cp l off),some (.int _ j)=>Bool.rec (motive:=fun _=>Option Out) none (k (.val (.cp l (off+j.toNat * E.size e)) σ)) (inB j len)
  |_,_,_=>none
 | .index t x i => match E.ty t, evF τ x, evF τ i with
  |some .str,some (.str s),some (.int _ j)=>Bool.rec (motive:=fun _=>Option Out) none (k (.val (.int .u8 (Int.ofNat (s.getD j.toNat 0))) σ)) (inB j s.length)
  | some (.arr len e), some (.agg cs), some (.int _ j) => match loadK E e cs (j.toNat * E.size e) (fun v => k (.val v σ)) with
   |some r=>Bool.rec (motive:=fun _=>Option Out) none r (inB j len)
   |none=>match opF E τ σ (.index t x i) with
    |some r=>k r
    |none=>none
  |_,_,_=>match opF E τ σ (.index t x i) with
   |some r=>k r
   |none=>none
 | .next x true => match evF τ x with
  |some (.iter id)=>match σ.get id with
   | some (.siter s pos) => Bool.rec (motive := fun _ => Option Out) (k (.val (.tup [.bool false]) σ)) (Bool.rec (motive := fun _ => Option Out)
     (k (.val (.tup [.bool true,.int .i64 (Int.ofNat pos),.int .i32 (Int.ofNat (decN s pos).1)]) (σ.set id (.siter s (pos+(decN s pos).2)))))
     (k (.val (.tup [.bool true,.int .i64 (Int.ofNat pos),.int .i32 (Int.ofNat (s.getD pos 0))]) (σ.set id (.siter s (pos+1))))) (Nat.ble (s.getD pos 0) 127)) (Nat.ble (pos+1) s.length)
   |_=>none
  |_=>none
 | .binOp b t x y h => match b, evF τ x, evF τ y with
  |.rem,some (.int k1 n),some (.int k2 m)=>match ikb k1 k2 with
   |true=>Bool.rec (motive:=fun _=>Option Out) (k (.val (.int k1 (n.tmod m)) σ)) none (ieq m 0)
   |false=>none
  |.quo,some (.int k1 n),some (.int k2 m)=>match ikb k1 k2 with
   |true=>Bool.rec (motive:=fun _=>Option Out) (k (.val (.int k1 (wr k1 (n.tdiv m))) σ)) none (ieq m 0)
   |false=>none
  |.shr,some (.int k1 n),some (.int _ m)=>Bool.rec (motive:=fun _=>Option Out) none (k (.val (.int k1 (n.fdiv (2 ^ (min m.toNat k1.bits)))) σ)) (ile 0 m)
  |.eql,some (.agg xs),some (.agg ys)=>match eqvB E 40 t (.agg xs) (.agg ys) with
   |some r=>k (.val (.bool r) σ)
   |none=>none
  |.neq,some (.agg xs),some (.agg ys)=>match eqvB E 40 t (.agg xs) (.agg ys) with
   |some r=>k (.val (.bool (!r)) σ)
   |none=>none
  |_,_,_=>match opF E τ σ (.binOp b t x y h) with
   |some r=>k r
   |none=>none
 | .pick c a b => match evF τ c with
  | some (.bool t) => match evF τ a, evF τ b with
   |some x,some y=>match pickV x y t with
    |some v=>k (.val v σ)
    |none=>Bool.rec (motive:=fun _=>Option Out) (k (.val y σ)) (k (.val x σ)) t
   |_,_=>none
  |_=>none
 | .call c => match c.callee, evs τ c.args.toList with
  |.builtin .append,some [s,x]=>appW E σ c.argTypes s x k
  |_,_=>match opF E τ σ (.call c) with
   |some r=>k r
   |none=>none
 | .lookup t m key ok => match E.ty t, evF τ m, evF τ key, keyT E t with
  | some (.map _ e), some (.mp id), some (.str s), some (kt, .str) => match σ.get id, E.zero e with
   |some (.map es),some (.bool false)=>Bool.rec (motive:=fun _=>Option Out) none (k (.val (match ok with|true=>.tup [.bool (getSB s es),.bool (hasSB s es)]|false=>.bool (getSB s es)) σ)) (okSB es)
   |_,_=>match opF E τ σ (.lookup t m key ok) with
    |some r=>k r
    |none=>none
  |_,_,_,_=>match opF E τ σ (.lookup t m key ok) with
   |some r=>k r
   |none=>none
 | .mapUpdate t m key x => match evF τ m, evF τ key, evF τ x, keyT E t with
  |some (.mp id),some (.str s),some (.bool b),some (kt,.str)=>match σ.get id with
   |some (.map es)=>Bool.rec (motive:=fun _=>Option Out) none (k (.skip (σ.set id (.map (setSB s b es))))) (okSB es)
   |_=>none
  |_,_,_,_=>match opF E τ σ (.mapUpdate t m key x) with
   |some r=>k r
   |none=>none
 | .load t a => match (match evF τ a with
   |some (.ptr id off)=>match σ.get id with
    |some (.cells _ l)=>loadK E t l off (fun v=>k (.val v σ))
    |_=>none
   |some (.gp g off)=>match E.glob g with
    |some l=>loadK E t l off (fun v=>k (.val v σ))
    |none=>none
   |some (.cp l off)=>loadK E t l off (fun v=>k (.val v σ))
   |_=>none) with
  |some r=>r
  |none=>match opF E τ σ (.load t a) with
   |some r=>k r
   |none=>none
 | .store t a x => match evF τ a, evF τ x with
  | some (.ptr id off), some v => match σ.get id with
   |some (.cells false l)=>match isAggT E t,Nat.beq v.cells.length (E.size t),oneAll v.cells with
    |some _,true,true=>Bool.rec (motive:=fun _=>Option Out) none (k (.skip (σ.set id (.cells false (setAt l off v.cells))))) (Nat.ble (off+v.cells.length) l.length)
    |_,_,_=>none
   |_=>none
  |_,_=>none
 | .slice t x none (some hi) none => match E.ty t, evF τ x, evF τ hi with
  |some (.arr n e),some (.ptr id off),some (.int _ j)=>match σ.get id with
   |some (.cells _ cl)=>Bool.rec (motive:=fun _=>Option Out) none (Bool.rec (motive:=fun _=>Option Out) none (k (.val (.sl id off j.toNat n (E.size e)) σ)) (Nat.ble (off+n * E.size e) cl.length)) (inB j (n+1))
   |_=>none
  |_,_,_=>match opF E τ σ (.slice t x none (some hi) none) with
   |some r=>k r
   |none=>none
 |o=>match opF E τ σ o with
  |some r=>k r
  |none=>none
mutual
noncomputable def avbK (k:Option Out):AV→AV→Option Out
 |.int k1 a,.int k2 b=>match ikb k1 k2 with
  |true=>Bool.rec (motive:=fun _=>Option Out) none k (ieq a b)
  |false=>none
 |.bool a,.bool b=>Bool.rec (motive:=fun _=>Option Out) none k (bbeq a b)
 |.str a,.str b=>Bool.rec (motive:=fun _=>Option Out) none k (lbeq a b)
 |.vs t nl l,.vs t' nl' l'=>Bool.rec (motive:=fun _=>Option Out) none (Bool.rec (motive:=fun _=>Option Out) none k (vsB t l t' l')) (bbeq nl nl')
 |.agg l,.agg m=>avbKL k l m
 |.tup l,.tup m=>avbKL k l m
 |a,b=>Bool.rec (motive:=fun _=>Option Out) none k (avbeq a b)
noncomputable def avbKL (k:Option Out):List AV→List AV→Option Out
 |[],[]=>k
 |a::l,b::m=>avbK (avbKL k l m) a b
 |_,_=>none
end
noncomputable def lookK (o:Oper) (i a:Nat) (τ τ':Tmps) (k:Option Out):Option Nat→Phs→Option Out
 |_,[]=>k
 | nx, (σ, am, h) :: ph => match (match nx with | some x => msHas a x | none => false), msHas am i with
  | false, false => match cstL τ o.op with
   |true=>lookK o i a τ τ' k h ph
   | false => opK E τ σ o.op fun r => match r with
    | .val v _ => match o.dst with
     |none=>lookK o i a τ τ' k h ph
     |some d=>match τ'.get d with
      |some w=>avbK (lookK o i a τ τ' k h ph) w v
      |none=>lookK o i a τ τ' k h ph
    |_=>none
  |_,_=>lookK o i a τ τ' k h ph
noncomputable def looksK (ops:Array Oper) (ph:Phs) (k:Option Out):Lks→Option Out
 |[]=>k
 |(o,i,a,τ,τ')::lk=>match wantedA ops τ o with
  |some false=>looksK ops ph k lk
  |_=>lookK E o i a τ τ' (looksK ops ph k lk) none ph
mutual
noncomputable def frzK (pl:Bool) (k:AV→Hp→Option Out):AV→Hp→Option Out
 | .sl id off len cl sz, σ => match σ.get id with
  | some (.cells _ l) => Bool.rec (motive := fun _ => Option Out) (match pl with
   |true=>none
   |false=>match frz 5000 (.sl id off len cl sz) σ with
    |some r=>k r.1 r.2
    |none=>k (.sl id off len cl sz) σ) (k (.csl (l.drop off) len) (σ.set id (.cells true l))) (plainL (l.drop off))
  |_=>k (.sl id off len cl sz) σ
 |.agg l,σ=>frzKs pl (fun l σ=>k (.agg l) σ) l σ
 |v,σ=>k v σ
noncomputable def frzKs (pl:Bool) (k:List AV→Hp→Option Out):List AV→Hp→Option Out
 |[],σ=>k [] σ
 |v::vs,σ=>frzK pl (fun v σ=>frzKs pl (fun vs σ=>k (v::vs) σ) vs σ) v σ
end
noncomputable def frzPK (pl:Bool) (k:AV→Hp→Option Out):AV→Hp→Option Out
 |.ptr id off,σ=>match σ.get id with
  |some (.cells _ l)=>frzDL 5000 l (σ.set id (.cells true l)) fun cs σ=>k (.cp cs off) σ
  |_=>k (.ptr id off) σ
 |v,σ=>frzK pl k v σ
noncomputable def frzPKs (pl:Bool) (k:List AV→Hp→Option Out):List AV→Hp→Option Out
 |[],σ=>k [] σ
 |v::vs,σ=>frzPK pl (fun v σ=>frzPKs pl (fun vs σ=>k (v::vs) σ) vs σ) v σ
variable (S:Sy)
noncomputable def callK (ev:Ev) (f:Nat) (args:List AV) (σ:Hp) (Λ:List LF) (r:Rt) (K:List Fm) (k:Cfg→Option Out):Option Out:=
 match ev.n with
 |0=>none
 | m + 1 => match S.x f args with
  |some (c,v)=>Bool.rec (motive:=fun _=>Option Out) none (k ⟨.vl r v σ Λ,ev,K⟩) c
  |none=>match E.ext f args with
  |some v=>k ⟨.vl r v σ Λ,ev,K⟩
  | none => match E.fn f with
   |none=>none
   |some fn=>match fn.body with
    |none=>none
    |some body=>k ⟨.ex ⟨f,[],body⟩ ⟨tmps0 fn.ntmps (.full (dep fn.ntmps)) 0 args,σ,[],Λ,args.length+(fn.ntmps-args.length),false⟩,⟨m,ev.D⟩,.cal fn.results.toList (rtT E f σ.n r)::K⟩
noncomputable def fD:List HD→Nat→List LF→Option (List LF×HD×List HD×List LF)
 |[],_,_=>none
 | h :: D, l, Λ => match Nat.beq h.lvl l with
  |true=>some ([],h,D,Λ)
  | false => match Λ with
   |[]=>none
   |lf::Λ=>match fD D l Λ with
    |some (pre,x)=>some (lf::pre,x)
    |none=>none
noncomputable def yldK (ev:Ev) (l:Nat) (args:List AV) (σ:Hp) (Λ:List LF) (r:Rt) (K:List Fm) (k:Cfg→Option Out):Option Out:=
 match fD ev.D l Λ with
 | some (pre, h, D, lf :: Λ) => match lf.done with
  |true=>none
  |false=>match setParams h.nt h.τ h.params.toList args with
   |none=>none
   |some τ=>k ⟨.ex h.asg ⟨τ,σ,[],Λ,h.nt,true⟩,⟨h.n,D⟩,.asg h.body::.rnd pre r::K⟩
 |_=>none
noncomputable def resK (ev:Ev) (st:St) (r:Res) (rt:Rt) (K:List Fm) (k:Cfg→Option Out) (put:AV→St→Option Out):Option Out:=
 match r with
 |.val v σ=>put v { st with σ:=σ }
 |.skip σ=>put undefA { st with σ:=σ }
 | .call f args => match E.frz f with
  |true=>match E.fp f with
   |true=>frzPKs S.pl (fun args σ=>callK E S ev f args σ st.Λ rt K k) args st.σ
   |false=>frzKs S.pl (fun args σ=>callK E S ev f args σ st.Λ rt K k) args st.σ
  |false=>callK E S ev f args st.σ st.Λ rt K k
 |.yld l args=>yldK ev l args st.σ st.Λ rt K k
 |.dfr f args=>match st.rnd with
  |true=>none
  |false=>put undefA { st with ds:=(f,args)::st.ds }
 |.recov=>match st.rnd with
  |true=>none
  |false=>put .nili st
noncomputable def guardK (ops:Array Oper) (st:St) (o:Oper) (no yes:St→Option Out):Option Out:=
 match o.guard with
 |none=>yes st
 | some (j, want) => match (ops[j]?).bind (·.dst) with
  |some d=>match st.τ.get d with
   |some (.bool b)=>Bool.rec (motive:=fun _=>Option Out) (Bool.rec (motive:=fun _=>Option Out) (yes { st with τ:=st.τ.set d (.bool false) }) (no { st with τ:=st.τ.set d (.bool false) }) want) (Bool.rec (motive:=fun _=>Option Out) (no { st with τ:=st.τ.set d (.bool true) }) (yes { st with τ:=st.τ.set d (.bool true) }) want) b
   |some (.tup [])=>no st
   |_=>none
  |none=>none
noncomputable def knowT (st:St) (x:Operand) (t:Bool):St:=
 match x with
 |.tmp d=>{ st with τ:=st.τ.set d (.bool t) }
 |_=>st
noncomputable def opsK (pc:PC) (j:Nat) (rest:List Oper) (st:St) (ev:Ev) (K:List Fm) (k:Cfg→Option Out):Option Out:=
 match rest with
 |[]=>k ⟨.rt .normal st,ev,K⟩
 | o :: os =>
  let put:AV→St→Option Out:=fun v s=>match putS s o.dst v with
   |some s=>k ⟨.op pc (j+1) os s,ev,K⟩
   |none=>none
  guardK (opsOf pc.c) st o (fun st=>put undefA st) (fun st=>opK E st.τ st.σ o.op fun r=>resK E S ev st r (.op pc (j+1) o.dst os st.τ st.ds st.nt st.rnd ev) K k put)
noncomputable def drK (d:DR) (st:St) (ev:Ev) (K:List Fm) (k:Cfg→Option Out):Option Out:=
 match d.os,d.fs with
 | o :: os, f :: fs =>
  let d':DR:={ d with os:=os,fs:=fs }
  let put:Tmps→AV→St→Option Out:=fun τ v s=>match putS s o.dst v with
   |some s=>k ⟨.dr (d'.nxt o f τ s) s,ev,K⟩
   |none=>none
  match f.c with
  |3=>guardK d.ops st o (fun st=>put st.τ undefA st) (fun st=>match newA E st.τ o.op with
   |some (v,ao)=>put st.τ (v (d.n0+f.k)) { st with σ:=st.σ.set (d.n0+f.k) ao }
   |none=>none)
  |_=>guardK d.ops st o (fun st=>put st.τ undefA st) (fun st=>opK E st.τ st.σ o.op fun r=>resK E S ev st r (.dr d' o f st.τ st.ds st.nt st.rnd ev) K k (put st.τ))
 |_,_=>match d.q with
  |true=>k ⟨.rt .normal st,ev,K⟩
  |false=>looksK E d.ops d.ph (k ⟨.rt .normal st,ev,K⟩) d.lk
noncomputable def drOf (pc:PC) (ops:Array Oper) (fs:List Inf) (na:Nat) (st:St):DR:=⟨pc,ops,st.σ.n,ops.toList,fs,0,[(⟨st.σ.t,st.σ.n+na⟩,0,none)],[],quietI fs⟩
noncomputable def exK (pc:PC) (st:St) (ev:Ev) (K:List Fm) (k:Cfg→Option Out):Option Out:=
 match pc.c with
 |.skip=>k ⟨.rt .normal st,ev,K⟩
 |.label _=>k ⟨.rt .normal st,ev,K⟩
 | .region _ ops d => match d with
  |false=>k ⟨.op pc 0 ops.toList st,ev,K⟩
  | true => match planOf ops.toList with
   |some (fs,na)=>k ⟨.dr (drOf pc ops fs na st) { st with σ:=⟨st.σ.t,st.σ.n+na⟩ },ev,K⟩
   | none => match permOf ops with
    |none=>none
    |some ops=>match planOf ops.toList with
     |some (fs,na)=>k ⟨.dr (drOf pc ops fs na st) { st with σ:=⟨st.σ.t,st.σ.n+na⟩ },ev,K⟩
     |none=>none
 |.seq a b=>k ⟨.ex ⟨pc.f,0::pc.p,a⟩ st,ev,.seq ⟨pc.f,1::pc.p,b⟩::K⟩
 |.cond x a b=>match evF st.τ x with
  |some (.bool t)=>Bool.rec (motive:=fun _=>Option Out) (k ⟨.ex ⟨pc.f,1::pc.p,b⟩ (knowT st x false),ev,K⟩) (k ⟨.ex ⟨pc.f,0::pc.p,a⟩ (knowT st x true),ev,K⟩) t
  |_=>none
 |.block i b=>k ⟨.ex ⟨pc.f,0::pc.p,b⟩ st,ev,.blk i::K⟩
 |.loop b=>k ⟨.ex ⟨pc.f,0::pc.p,b⟩ st,ev,.lop ⟨pc.f,0::pc.p,b⟩ st.σ.n st.τ 1048575::K⟩
 |.scope b=>k ⟨.ex ⟨pc.f,0::pc.p,b⟩ st,ev,K⟩
 |.exit i=>k ⟨.rt (.exit i) st,ev,K⟩
 |.ret=>k ⟨.rt .ret st,ev,K⟩
 |.rangeFunc x params a b=>match evF st.τ x with
  |some (.fn g first caps)=>callK E S ⟨ev.n,⟨st.σ.n,st.nt,ev.n,st.τ,params,⟨pc.f,0::pc.p,a⟩,⟨pc.f,1::pc.p,b⟩⟩::ev.D⟩ g (first++[.yld st.σ.n]++caps) ⟨st.σ.t,st.σ.n+1⟩ (⟨false,.normal⟩::st.Λ) (.rng st.τ st.ds st.nt st.rnd ev) K k
  |_=>none
 |_=>none
mutual
noncomputable def slA:AV→List Nat
 |.sl i _ _ _ _=>[i]
 |.mp i=>[i]
 |.ifc _ v=>slA v
 |.agg l=>slL l
 |.tup l=>slL l
 |.fn _ a b=>slL a++slL b
 |_=>[]
noncomputable def slL:List AV→List Nat
 |[]=>[]
 |v::vs=>slA v++slL vs
end
noncomputable def slT (τ:Tmps):List Nat:=
 Tr.rec (motive:=fun _=>List Nat) [] (fun _ v _ a b=>(match v with|some v=>slA v|none=>[])++a++b) τ
noncomputable def vrT (vr:Bool) (σ:Hp) (τ:Tmps):List Nat:=
 match vr with
 |false=>[]
 | true => Tr.rec (motive := fun _ => List Nat) [] (fun _ v _ a b => (match v with
  |some (.ptr i _)=>(match σ.get i with
   |some (.cells _ l)=>slL l
   |_=>[])
  |_=>[])++a++b) τ
noncomputable def slQ (vr:Bool) (τ0 τ:Tmps):List Nat:=
 match vr with
 |false=>slT τ
 |true=>slT (restr τ0 τ)
noncomputable def slD:List HD→List Nat
 |[]=>[]
 |h::D=>slT h.τ++slD D
noncomputable def slR:Rt→List Nat
 |.top=>[]
 |.op _ _ _ _ τ _ _ _ ev=>slT τ++slD ev.D
 |.dr _ _ _ τ _ _ _ ev=>slT τ++slD ev.D
 |.rng τ _ _ _ ev=>slT τ++slD ev.D
 |.cln _ r=>slR r
 |.dn r=>slR r
noncomputable def slK:List Fm→List Nat
 |[]=>[]
 |.cal _ r::K=>slR r++slK K
 |.rnd _ r::K=>slR r++slK K
 |_::K=>slK K
noncomputable def nubN:List Nat→List Nat→List Nat
 |[],acc=>acc
 |i::l,acc=>match elemN i acc with
  |true=>nubN l acc
  |false=>nubN l (i::acc)
noncomputable def outN (nf:List Nat):List Nat→List Nat
 |[]=>[]
 |i::l=>match elemN i nf with
  |true=>outN nf l
  |false=>i::outN nf l
noncomputable def plO:AO→Bool
 |.cells _ l=>plainL l
 |.map es=>okSB es
 |.cmap _ _ _=>false
 |.miter _ _ _ _=>false
 |_=>true
noncomputable def condsK (σ:Hp) (k:Option Out):List Nat→Option Out
 |[]=>k
 |i::l=>match σ.get i with
  |some o=>Bool.rec (motive:=fun _=>Option Out) none (condsK σ k l) (plO o)
  |none=>condsK σ k l
noncomputable def idsOP (F:List Nat) (i:Nat) (o:Option AO):List Nat:=
 match elemN i F with
 |true=>[]
 |false=>idsO o
noncomputable def idsHP (F:List Nat) (σ:Hp):Nat→List Nat
 |0=>[]
 |n+1=>idsHP F σ n++idsOP F n (σ.get n)
noncomputable def reachP (F:List Nat) (σ:Hp) (n0:Nat):Nat→List Nat→List Nat→List Nat
 |0,_,acc=>acc
 |_,[],acc=>acc
 |k+1,i::todo,acc=>match Nat.ble n0 i,elemN i acc with
  |true,false=>reachP F σ n0 k (idsOP F i (σ.get i)++todo) (acc++[i])
  |_,_=>reachP F σ n0 k todo acc
noncomputable def bldP (F:List Nat) (σ:Hp) (n0:Nat) (L:List Nat):List (Nat×Nat)→Tr AO→Option (Tr AO)
 |[],t=>some t
 | (i, j) :: r, t => match σ.get i with
  |none=>bldP F σ n0 L r t
  | some o => match elemN i F with
   |true=>bldP F σ n0 L r (t.set j o)
   |false=>match renOb n0 L o with
    |some o=>bldP F σ n0 L r (t.set j o)
    |none=>none
noncomputable def cleanLP (F:List Nat) (n0:Nat) (L:List Nat) (τ:Tmps) (st:St):Option St:=
 match freshL n0 L,st.ds with
 |true,[]=>match renT n0 L τ,bldP F st.σ n0 L (upN n0++pairN L n0) (.full 22) with
  |some τ,some t=>some { st with τ:=τ,σ:=⟨t,n0+L.length⟩ }
  |_,_=>none
 |_,_=>none
noncomputable def cleanP (F:List Nat) (n0:Nat) (τ0:Tmps) (st:St):St:=
 match Nat.ble n0 st.σ.n,cleanLP F n0 (reachP F st.σ n0 4096 (idsT (restr τ0 st.τ)++idsHP F st.σ n0) []) (restr τ0 st.τ) st with
 |true,some st=>st
 |_,_=>st
noncomputable def flO (σ:Hp):List Nat→List Nat
 |[]=>[]
 | i :: l => match Nat.ble 1000 i with
  |false=>i::flO σ l
  |true=>(match σ.get (i-1000) with
   |some (.cells _ c)=>slL c
   |_=>[])++flO σ l
noncomputable def cleanK (D:List HD) (K:List Fm) (n0:Nat) (τ0:Tmps) (st:St) (k:St→Option Out):Option Out:=
 match S.pl with
 |false=>k (clean n0 τ0 st)
 |true=>condsK st.σ (k (cleanP (outN S.nf (nubN (flO st.σ S.fl++vrT S.vr st.σ st.τ++slQ S.vr τ0 st.τ++slD D++slK K) [])) n0 τ0 st)) (outN S.nf (nubN (flO st.σ S.fl++vrT S.vr st.σ st.τ++slQ S.vr τ0 st.τ++slD D++slK K) []))
noncomputable def resCK (τ:Tmps) (σ:Hp) (k:List AV→Option Out):List ResultVar→Option Out
 |[]=>k []
 |.tmp t::rs=>match τ.get t with
  |some v=>resCK τ σ (fun vs=>k (v::vs)) rs
  |none=>none
 | .cell a t :: rs => match τ.get a with
  | some p => match (match p with
    |.ptr id off=>match σ.get id with
     |some (.cells _ l)=>loadK E t l off (fun v=>resCK τ σ (fun vs=>k (v::vs)) rs)
     |_=>none
    |_=>none) with
   |some r=>r
   |none=>match loadV E σ t p with
    |some v=>resCK τ σ (fun vs=>k (v::vs)) rs
    |none=>none
  |none=>none
noncomputable def retK (e:Ex) (st:St) (ev:Ev) (K:List Fm) (k:Cfg→Option Out):Option Out:=
 match K with
 |[]=>none
 |.seq b::K=>match e with
  |.normal=>k ⟨.ex b st,ev,K⟩
  |e=>k ⟨.rt e st,ev,K⟩
 |.asg b::K=>match e with
  |.normal=>k ⟨.ex b st,ev,K⟩
  |_=>none
 |.blk i::K=>match e with
  |.exit j=>k ⟨.rt (match Nat.beq j i with|true=>.normal|false=>.exit j) st,ev,K⟩
  |e=>k ⟨.rt e st,ev,K⟩
 | .lop b n0 τ0 j :: K => match e with
  |.normal=>match j with
   |0=>none
   |j+1=>cleanK S ev.D K n0 τ0 st fun st=>k ⟨.ex b st,ev,.lop b n0 τ0 j::K⟩
  |e=>k ⟨.rt e st,ev,K⟩
 | .cal rs r :: K => match e with
  |.exit _=>none
  | _ => match st.ds with
   |[]=>resCK E st.τ st.σ (fun vs=>match vs with
    |[v]=>k ⟨.vl r v st.σ st.Λ,ev,K⟩
    |vs=>k ⟨.vl r (.tup vs) st.σ st.Λ,ev,K⟩) rs
   |_=>none
 |.rnd pre r::K=>match st.ds with
  |[]=>k ⟨.vl r (.bool e.isNormal) st.σ (pre++⟨!e.isNormal,e⟩::st.Λ),ev,K⟩
  |_=>none
noncomputable def valK (r:Rt) (v:AV) (σ:Hp) (Λ:List LF) (K:List Fm) (k:Cfg→Option Out):Option Out:=
 match r with
 |.top=>match K,Λ with
  |[],[]=>doneK v σ
  |_,_=>none
 |.op pc j dst rest τ ds nt rnd ev=>match putS ⟨τ,σ,ds,Λ,nt,rnd⟩ dst v with
  |some st=>k ⟨.op pc j rest st,ev,K⟩
  |none=>none
 |.dr d o f τ ds nt rnd ev=>match putS ⟨τ,σ,ds,Λ,nt,rnd⟩ o.dst v with
  |some st=>k ⟨.dr (d.nxt o f τ st) st,ev,K⟩
  |none=>none
 |.rng τ ds nt rnd ev=>match Λ with
  |lf::Λ=>k ⟨.rt lf.pend ⟨τ,σ,ds,Λ,nt,rnd⟩,ev,K⟩
  |[]=>none
 |.cln _ _=>none
 |.dn _=>none
noncomputable def rtD (r:Rt):Rt:=
 match S.np.any fun q=>lbeq q [993] with
 |true=>.dn r
 |false=>r
noncomputable def clnK (n0:Nat) (v:AV) (σ:Hp) (k:Hp→Option Out):Option Out:=
 match scal1 v with
 |true=>match S.pl with
  |false=>k (clean n0 .lf ⟨.lf,σ,[],[],0,false⟩).σ
  |true=>condsK σ (k (cleanP (outN S.nf (nubN (flO σ S.fl) [])) n0 .lf ⟨.lf,σ,[],[],0,false⟩).σ) (outN S.nf (nubN (flO σ S.fl) []))
 |false=>k σ
noncomputable def stepK (c:Cfg) (k:Cfg→Option Out):Option Out:=
 match c.cu with
 |.ex pc st=>exK E S pc st c.ev c.K k
 |.op pc j rest st=>opsK E S pc j rest st c.ev c.K k
 |.dr d st=>drK E S d st c.ev c.K k
 |.rt e st=>retK E S e st c.ev c.K k
 |.vl r v σ Λ=>match r with
  |.cln n0 r=>clnK S n0 v σ fun σ=>k ⟨.vl (rtD S r) v σ Λ,c.ev,c.K⟩
  |.dn r=>k ⟨.vl r v σ Λ,c.ev,c.K⟩
  |r=>valK r v σ Λ c.K k
noncomputable def atHead (c:Cfg):Bool:=
 match c.cu,c.K with
 |.ex pc _,.lop b _ _ _::_=>match S.hd pc.f,Nat.beq pc.p.length b.p.length,Nat.beq pc.f b.f with
  |true,true,true=>!(S.np.any fun q=>lbeq q b.p)
  |_,_,_=>false
 |.ex pc _,.cal _ _::_=>match pc.p with
  |[]=>S.np.any fun q=>lbeq q [999,pc.f]
  |_=>false
 | .vl r _ σ _, _ => match S.np.any fun q => lbeq q [995, σ.n] with
  |true=>true
  |false=>match r with
   |.op pc _ _ _ _ _ _ _ _=>S.np.any fun q=>lbeq q [998,pc.f]
   |.dn _=>true
   |_=>false
 |_,_=>false
noncomputable def adv:Nat→Cfg→Option Out
 |0,_=>none
 |n+1,c=>stepK E S c fun c'=>match atHead S c' with
  |true=>some (.stop c')
  |false=>adv n c'
end
end Go.Eng


namespace Go.Eng
open Go
attribute [local irreducible] upTo
section
variable {E:Env} {S:Sy}
theorem idx_inB {j:Int} {n:Nat} (h:inB j n=true):idx j n=some j.toNat:=by
 cases j with
 |ofNat m=>simp only[idx];simp only[inB] at h;rw[h];rfl
 |negSucc m=>cases h
theorem brec {α:Type} {a b:Option α} {t:Bool} {r:α} (h:(Bool.rec (motive:=fun _=>Option α) a b t)=some r):(t=false∧a=some r)∨(t=true∧b=some r):=by
 cases t with
 |false=>exact .inl ⟨rfl,h⟩
 |true=>exact .inr ⟨rfl,h⟩
noncomputable def choose2 (x y:AV) (t:Bool):AV:=match t with
 |true=>x
 |false=>y
theorem pickV_spec {x y v:AV} {t:Bool} (h:pickV x y t=some v):v=choose2 x y t:=by
 unfold pickV at h
 split at h
 · simp only[Option.some.injEq] at h;subst h;cases t<;>rfl
 · rename_i k a k' b h0
   split at h
   · rename_i hk
     have:=ikb_eq hk;subst this
     simp only[Option.some.injEq] at h;subst h;cases t<;>rfl
   · cases h
 · cases h
theorem scal_ids:∀ {l:List AV},scalP l=true→idsL l=[]
 |[],_=>rfl
 |v::l,h=>by
  cases v<;>first|(cases h;done)|skip
  all_goals (simp only[scalP] at h;simp only[idsL,idsA,scal_ids h];rfl)
theorem scal_ren {n0:Nat} {L:List Nat}:∀ {l:List AV},scalP l=true→renL n0 L l=some l
 |[],_=>rfl
 |v::l,h=>by
  cases v<;>first|(cases h;done)|skip
  all_goals (simp only[scalP] at h;simp only[renL,renA,scal_ren h])
theorem plain_ids:∀ {l:List AV},plainL l=true→idsL l=[]
 |[],_=>rfl
 | v :: l, h => by
  cases v<;>first|(cases h;done)|skip
  case ifc t w=>
   cases w<;>first|(cases h;done)|skip
   simp only[plainL,Bool.and_eq_true] at h
   simp only[idsL,idsA,scal_ids h.1,plain_ids h.2];rfl
  all_goals (simp only[plainL] at h;simp only[idsL,idsA,plain_ids h];rfl)
theorem plain_ren {n0:Nat} {L:List Nat}:∀ {l:List AV},plainL l=true→renL n0 L l=some l
 |[],_=>rfl
 | v :: l, h => by
  cases v<;>first|(cases h;done)|skip
  case ifc t w=>
   cases w<;>first|(cases h;done)|skip
   simp only[plainL,Bool.and_eq_true] at h
   simp only[renL,renA,scal_ren h.1,plain_ren h.2,Option.map_some]
  all_goals (simp only[plainL] at h;simp only[renL,renA,plain_ren h])
theorem okSB_ids:∀ {es:List (AV×AV)},okSB es=true→idsL (es.map (·.1))=[]∧idsL (es.map (·.2))=[]
 |[],_=>⟨rfl,rfl⟩
 |(k,v)::es,h=>by
  cases k<;>cases v<;>first|(cases h;done)|skip
  simp only[okSB] at h
  obtain⟨h1,h2⟩:=okSB_ids h
  simp only[List.map_cons,idsL,idsA,h1,h2]
  exact⟨rfl,rfl⟩
theorem okSB_ren {n0:Nat} {L:List Nat}:∀ {es:List (AV×AV)},okSB es=true→renES n0 L es=some es
 |[],_=>rfl
 |(k,v)::es,h=>by
  cases k<;>cases v<;>first|(cases h;done)|skip
  simp only[okSB] at h
  simp only[renES,renA,okSB_ren h]
theorem plO_ids {o:AO} (h:plO o=true):idsO (some o)=[]:=by
 cases o with
 |cells ro l=>exact plain_ids h
 |map es=>obtain⟨h1,h2⟩:=okSB_ids h;simp only[idsO,h1,h2];rfl
 |cmap _ _ _=>cases h
 |miter _ _ _ _=>cases h
 |siter s p=>rfl
 |gone=>rfl
theorem plO_ren {o:AO} {n0:Nat} {L:List Nat} (h:plO o=true):renOb n0 L o=some o:=by
 cases o with
 |cells ro l=>simp only[renOb,plain_ren (l:=l) h,Option.map_some]
 |map es=>simp only[renOb,okSB_ren (es:=es) h,Option.map_some]
 |cmap _ _ _=>cases h
 |miter _ _ _ _=>cases h
 |siter s p=>rfl
 |gone=>rfl
theorem condsK_spec {σ:Hp} {k:Option Out} {r:Out}:∀ {F:List Nat},condsK σ k F=some r→k=some r∧∀ i o,elemN i F=true→σ.get i=some o→plO o=true
 |[],h=>⟨h,fun i o hi=>by cases hi⟩
 | j :: F, h => by
  simp only[condsK] at h
  have step:∀ (h':condsK σ k F=some r) (hj:∀ o,σ.get j=some o→plO o=true),k=some r∧∀ i o,elemN i (j::F)=true→σ.get i=some o→plO o=true:=by
   intro h' hj
   obtain⟨h1,h2⟩:=condsK_spec h'
   refine⟨h1,fun i o hi ho=>?_⟩
   simp only[elemN] at hi
   split at hi
   · rename_i e;have:=Nat.eq_of_beq_eq_true e;subst this;exact hj o ho
   · exact h2 i o hi ho
  split at h
  · rename_i o ho
    rcases brec h with ⟨_,h⟩|⟨hp,h⟩
    · cases h
    · exact step h (fun o' ho'=>by rw[ho] at ho';simp only[Option.some.injEq] at ho';subst ho';exact hp)
  · rename_i hn
    exact step h (fun o' ho'=>by rw[hn] at ho';cases ho')
section
variable {F:List Nat} {σ:Hp} (hF:∀ i o,elemN i F=true→σ.get i=some o→plO o=true)
include hF
theorem idsOP_eq (i:Nat):idsOP F i (σ.get i)=idsO (σ.get i):=by
 unfold idsOP
 split
 · rename_i e
   cases ho:σ.get i with
   |none=>rfl
   |some o=>exact (plO_ids (hF i o e ho)).symm
 · rfl
theorem idsHP_eq:∀ n,idsHP F σ n=idsH σ n
 |0=>rfl
 |n+1=>by simp only[idsHP,idsH,idsHP_eq n,idsOP_eq hF n]
theorem reachP_eq {n0:Nat}:∀ (k:Nat) (todo acc:List Nat),reachP F σ n0 k todo acc=reach σ n0 k todo acc
 |0,_,_=>rfl
 |_+1,[],_=>rfl
 |k+1,i::todo,acc=>by
  simp only[reachP,reach,idsOP_eq hF i]
  cases Nat.ble n0 i<;>cases elemN i acc<;>exact reachP_eq k _ _
theorem bldP_eq {n0:Nat} {L:List Nat}:∀ (r:List (Nat×Nat)) (t:Tr AO),bldP F σ n0 L r t=bld σ n0 L r t
 |[],_=>rfl
 | (i, j) :: r, t => by
  simp only[bldP,bld]
  cases ho:σ.get i with
  |none=>exact bldP_eq r t
  | some o =>
   simp only
   cases e:elemN i F with
   |true=>simp only[plO_ren (hF i o e ho)];exact bldP_eq r _
   |false=>
    simp only
    cases renOb n0 L o with
    |none=>rfl
    |some o=>exact bldP_eq r _
end
theorem cleanP_eq {F:List Nat} {n0:Nat} {τ0:Tmps} {st:St} (hF:∀ i o,elemN i F=true→st.σ.get i=some o→plO o=true):cleanP F n0 τ0 st=clean n0 τ0 st:=by
 simp only[cleanP,clean,cleanLP,cleanL,idsHP_eq hF,reachP_eq hF,bldP_eq hF]
 rfl
theorem cleanK_spec {D:List HD} {K:List Fm} {n0:Nat} {τ0:Tmps} {st:St} {k:St→Option Out} {r:Out} (h:cleanK S D K n0 τ0 st k=some r):k (clean n0 τ0 st)=some r:=by
 unfold cleanK at h
 split at h
 · exact h
 · obtain ⟨h1, h2⟩ := condsK_spec h
   rw[cleanP_eq h2] at h1
   exact h1
theorem clnK_spec {n0:Nat} {v:AV} {σ:Hp} {k:Hp→Option Out} {r:Out} (h:clnK S n0 v σ k=some r):k (cln n0 v σ)=some r:=by
 unfold clnK at h
 unfold cln
 split at h
 · rename_i hs
   rw[hs]
   split at h
   · exact h
   · obtain ⟨h1, h2⟩ := condsK_spec h
     rw[cleanP_eq (st:=⟨.lf,σ,[],[],0,false⟩) h2] at h1
     exact h1
 · rename_i hs
   rw[hs];exact h
theorem elemsK_spec {σ:Hp} {size:Nat} {x:AV} {k:List AV→Nat→Option Out} {r:Out} (h:elemsK σ size x k=some r):∃ new n,elemsOf σ size x=some (new,n)∧k new n=some r:=by
 unfold elemsK at h
 split at h
 · rename_i id off len _ _
   split at h
   · rename_i ro l hget
     rcases brec h with ⟨_,h⟩|⟨hb,h⟩
     · cases h
     · exact⟨_,_,by simp only[elemsOf,hget,cut,hb,Option.map_some],h⟩
   · cases h
 · rename_i cells len
   rcases brec h with ⟨_,h⟩|⟨hb,h⟩
   · cases h
   · exact⟨_,_,by simp only[elemsOf,cut,hb,Option.map_some],h⟩
 · split at h
   · rename_i new n he
     exact⟨new,n,he,h⟩
   · cases h
theorem appK_spec {σ:Hp} {ats:Array TypeId} {s x:AV} {k:Res→Option Out} {r:Out} (h:appK E σ ats s x k=some r):∃ res,builtinV E σ .append ats [s,x]=some res∧k res=some r:=by
 unfold appK at h
 split at h
 · rename_i e hk hz
   have hz2:(∃ e',(ats[1]?).bind E.ty=some (.slice e'))∨(ats[1]?).bind E.ty=some .str:=by
    split at hz
    · rename_i e' he;exact .inl ⟨e',he⟩
    · rename_i he;exact .inr he
    · cases hz
   clear hz
   obtain⟨new,n,hel,h⟩:=elemsK_spec h
   · split at h
     · rename_i z hz0
       rcases brec h with ⟨_,h⟩|⟨hcond,h⟩
       · cases h
       · split at h
         · rcases brec h with ⟨hn, h⟩ | ⟨hn, h⟩
           · refine ⟨_, ?_, h⟩
             cases n with
             |zero=>exact absurd hn (by decide)
             |succ m=>rcases hz2 with ⟨e',hz2⟩|hz2<;>(unfold builtinV;simp only[hk,hz2,hel,hcond,hz0])
           · have := Nat.eq_of_beq_eq_true hn; subst this
             refine⟨_,?_,h⟩
             rcases hz2 with ⟨e',hz2⟩|hz2<;>(unfold builtinV;simp only[hk,hz2,hel,hcond,hz0])
         · rcases brec h with ⟨hn, h⟩ | ⟨hn, h⟩
           · refine ⟨_, ?_, h⟩
             cases n with
             |zero=>exact absurd hn (by decide)
             |succ m=>rcases hz2 with ⟨e',hz2⟩|hz2<;>(unfold builtinV;simp only[hk,hz2,hel,hcond,hz0])
           · have := Nat.eq_of_beq_eq_true hn; subst this
             refine⟨_,?_,h⟩
             rcases hz2 with ⟨e',hz2⟩|hz2<;>(unfold builtinV;simp only[hk,hz2,hel,hcond,hz0])
         · rcases brec h with ⟨_, h⟩ | ⟨hn, h⟩
           · cases h
           · have := Nat.eq_of_beq_eq_true hn; subst this
             refine⟨_,?_,h⟩
             rcases hz2 with ⟨e',hz2⟩|hz2<;>(unfold builtinV;simp only[hk,hz2,hel,hcond,hz0])
         · split at h
           · rename_i ro l hget
             split at h
             · rename_i hsz
               rcases brec h with ⟨_,h⟩|⟨h1,h⟩
               · cases h
               rcases brec h with ⟨_,h⟩|⟨h2,h⟩
               · cases h
               rcases brec h with ⟨hn,h⟩|⟨hn,h⟩
               · refine ⟨_, ?_, h⟩
                 cases n with
                 |zero=>exact absurd hn (by decide)
                 |succ m=>rcases hz2 with ⟨e',hz2⟩|hz2<;>(unfold builtinV;simp only[hk,hz2,hel,hcond,hz0,hget,hsz,h1,h2,Bool.and_self])
               · have := Nat.eq_of_beq_eq_true hn; subst this
                 refine⟨_,?_,h⟩
                 rcases hz2 with ⟨e',hz2⟩|hz2<;>(unfold builtinV;simp only[hk,hz2,hel,hcond,hz0,hget,hsz,h1,h2,Bool.and_self])
             · cases h
           · cases h
         · cases h
     · cases h
 · cases h
mutual
theorem frzD_spec {out:Out}:∀ (n:Nat) (v:AV) {σ:Hp} {k:AV→Hp→Option Out},frzD n v σ k=some out→∃ v' σ',frz n v σ=some (v',σ')∧k v' σ'=some out
 |0,v,σ,k,h=>by simp only[frzD] at h;cases h
 | n + 1, v, σ, k, h => by
  cases v with
  |sl id off len cl sz=>
   simp only[frzD] at h
   simp only[frz]
   split at h
   · rename_i ro l hget
     rcases brec h with ⟨_,h⟩|⟨hp,h⟩
     · cases h
     · exact⟨_,_,by rw[hget];simp only[hp],h⟩
   · cases h
  |agg l=>
   simp only[frzD] at h
   obtain⟨l',σ',h1,h2⟩:=frzDL_spec n l h
   exact⟨_,_,by simp only[frz,h1],h2⟩
  |ifc t v=>
   simp only[frzD] at h
   obtain⟨l',σ',h1,h2⟩:=frzD_spec n v h
   exact⟨_,_,by simp only[frz,h1],h2⟩
  |ptr|fsl|mp|iter|fn|yld|tup|cp|mv=>simp only[frzD] at h;cases h
  |_=>simp only[frzD] at h;exact⟨_,_,by simp only[frz],h⟩
theorem frzDL_spec {out:Out}:∀ (n:Nat) (l:List AV) {σ:Hp} {k:List AV→Hp→Option Out},frzDL n l σ k=some out→∃ l' σ',frzL n l σ=some (l',σ')∧k l' σ'=some out
 |n,[],σ,k,h=>by
  have:frzDL n [] σ k=k [] σ:=by cases n<;>simp only[frzDL]
  rw[this] at h
  exact⟨_,_,by cases n<;>simp only[frzL],h⟩
 |0,_::_,σ,k,h=>by simp only[frzDL] at h;cases h
 |n+1,v::vs,σ,k,h=>by
  simp only[frzDL] at h
  obtain⟨v',σ',h1,h2⟩:=frzD_spec n v h
  obtain⟨l',σ'',h3,h4⟩:=frzDL_spec n vs h2
  exact⟨_,_,by simp only[frzL,h1,h3],h4⟩
end
theorem preK_spec {σ:Hp} {x:AV} {k:AV→Hp→Option Out} {r:Out} (h:preK σ x k=some r):(∃ z,preX σ x=some z∧k z.1 z.2=some r)∨(preX σ x=none∧k x σ=some r):=by
 unfold preK at h
 unfold preX
 split at h
 · rename_i id off len cl sz
   simp only
   split at h
   · rename_i ro l hget
     rcases brec h with ⟨hp,h⟩|⟨hp,h⟩
     · obtain ⟨cs, σ', h1, h2⟩ := frzDL_spec 4999 _ h
       refine .inl ⟨(.csl cs len,σ'),?_,h2⟩
       simp only[hget,hp]
       show frz (4999+1) _ _=_
       simp only[frz,hget,hp,h1]
     · exact .inr ⟨by simp only[hget,hp],h⟩
   · rename_i hn
     refine .inr ⟨?_,h⟩
     split
     · rename_i ro l hg
       exact absurd hg (hn ro l)
     · rfl
 · rename_i hn
   refine .inr ⟨?_,h⟩
   split
   · rename_i id off len cl sz
     exact absurd rfl (hn id off len cl sz)
   · rfl
theorem appW_spec {σ:Hp} {ats:Array TypeId} {s x:AV} {k:Res→Option Out} {r:Out} (h:appW E σ ats s x k=some r):∃ res,builtinW E σ .append ats [s,x]=some res∧k res=some r:=by
 unfold appW at h
 unfold builtinW
 cases hsy:E.sy with
 |true=>
  simp only[hsy] at h⊢
  rcases preK_spec h with ⟨z,h1,h2⟩|⟨h1,h2⟩
  · rw[h1];exact appK_spec h2
  · rw[h1];exact appK_spec h2
 |false=>
  simp only[hsy] at h⊢
  exact appK_spec h
theorem keyT_str {t kt:Nat} (h:keyT E t=some (kt,.str)):E.ty kt=some .str:=by
 unfold keyT at h
 split at h
 · split at h
   · simp only[Option.some.injEq,Prod.mk.injEq] at h;obtain⟨_,h⟩:=h;cases h
   · rename_i h1
     simp only[Option.some.injEq,Prod.mk.injEq] at h;obtain⟨rfl,_⟩:=h
     exact h1
   · simp only[Option.some.injEq,Prod.mk.injEq] at h;obtain⟨_,h⟩:=h;cases h
   · simp only[Option.some.injEq,Prod.mk.injEq] at h;obtain⟨_,h⟩:=h;cases h
   · simp only[Option.some.injEq,Prod.mk.injEq] at h;obtain⟨_,h⟩:=h;cases h
   · cases h
 · cases h
theorem findKey_SB {t:Nat} {s:List Nat} {b:Bool}:∀ {es:List (AV×AV)} {i:Nat},okSB es=true →
  (hasSB s es=true∧∃ j,findKey E t .str (.str s) es i=some (some (i+j,.bool (getSB s es)))∧setSB s b es=es.set j (.str s,.bool b)) ∨
  (hasSB s es=false∧getSB s es=false∧findKey E t .str (.str s) es i=some none∧setSB s b es=es++[(.str s,.bool b)])
 |[],i,_=>.inr ⟨rfl,rfl,rfl,rfl⟩
 | (k, v) :: es, i, h => by
  cases k with
  | str u =>
   cases v with
   | bool w =>
    simp only[okSB] at h
    simp only[hasSB,getSB,setSB,findKey,keyEqT,keyEq]
    cases e:lbeq s u with
    |true=>exact .inl ⟨rfl,0,rfl,rfl⟩
    |false=>
     simp only
     rcases findKey_SB (t:=t) (s:=s) (b:=b) (i:=i+1) h with ⟨h1,j,h2,h3⟩|⟨h1,h2,h3,h4⟩
     · refine .inl ⟨h1, j + 1, ?_, ?_⟩
       · rw[h2];congr 3;omega
       · rw[h3];rfl
     · exact .inr ⟨h1,h2,h3,by rw[h4];rfl⟩
   |_=>simp[okSB] at h
  |_=>simp[okSB] at h
theorem eqvB_both : ∀ d : Nat, (∀ t x y b, eqvB E d t x y = some b → eqv E d t x y = some b) ∧ (∀ fs xs ys b, eqvFB E d fs xs ys = some b → eqvF E d fs xs ys = some b)
 |0=>by
  refine⟨fun t x y b h=>by simp[eqvB] at h,fun fs xs ys b h=>?_⟩
  cases fs with
  |nil=>simp only[eqvFB] at h;simp only[eqvF];exact h
  |cons f fs=>simp[eqvFB] at h
 | d + 1 => by
  obtain⟨ih1,ih2⟩:=eqvB_both d
  refine⟨fun t x y b h=>?_,fun fs xs ys b h=>?_⟩
  · simp only [eqvB] at h
    split at h
    · rename_i fs ht
      split at h
      · split at h
        · split at h
          · rename_i hok
            simp only[eqv,ht,hok]
            exact ih2 _ _ _ _ h
          · cases h
        · cases h
      · cases h
    · exact h
    · exact h
    · exact h
    · cases h
  · cases fs with
    |nil=>simp only[eqvFB] at h;simp only[eqvF];exact h
    | cons f fs =>
     simp only[eqvFB] at h
     simp only[eqvF]
     split at h
     · rename_i hn;rw[hn];exact ih2 _ _ _ _ h
     · rename_i hn
       rw[hn];simp only
       split at h
       · rename_i x y hx hy
         rw[hx,hy];simp only
         split at h
         · rename_i a c ha hc
           rw[ih1 _ _ _ _ ha]
           simp only[Option.some.injEq] at h;subst h
           cases a with
           |true=>simp only[Bool.true_and];exact ih2 _ _ _ _ hc
           |false=>rfl
         · cases h
       · cases h
theorem isZ_spec {z c:AV} (h:isZ z c=true):asZ z c=c:=by
 cases z<;>cases c<;>first|(cases h;done)|rfl|skip
 rename_i k n k' n'
 have:=ikb_eq (show ikb k' k=true from h);subst this;rfl
theorem isZs_take {l:List AV}:∀ {zs:List AV} {off:Nat},isZs l zs off=true→(l.drop off).take zs.length=asZs l zs off
 |[],_,_=>by simp[asZs]
 |z::zs,off,h=>by
  simp only[isZs,Bool.and_eq_true] at h
  have hlt:off<l.length:=Nat.le_of_ble_eq_true h.1
  have e:l.getD off .nili=l[off]:=by simp[hlt]
  rw[List.drop_eq_getElem_cons hlt,List.length_cons,List.take_succ_cons,isZs_take h.2.2,asZs,isZ_spec h.2.1,e]
theorem isZs_len {l:List AV}:∀ {zs:List AV} {off:Nat},zs≠[]→isZs l zs off=true→off+zs.length≤l.length
 |[],_,h,_=>absurd rfl h
 |[z],off,_,h=>by
  simp only[isZs,Bool.and_eq_true] at h
  exact Nat.le_of_ble_eq_true h.1
 |z::z'::zs,off,_,h=>by
  have h':=h
  unfold isZs at h'
  simp only[Bool.and_eq_true] at h'
  have:=isZs_len (by simp) h'.2.2
  simp only[List.length_cons] at this⊢
  omega
theorem isZs_cut {l zs:List AV} {off:Nat} (hz:zs≠[]) (h:isZs l zs off=true):cut l off zs.length=some (asZs l zs off):=by
 unfold cut
 rw[Nat.ble_eq_true_of_le (isZs_len hz h),isZs_take h]
theorem isI_spec {t:Nat} {zs:List AV} {c:AV} (h:isI t zs c=true):AV.ifc t (.agg (asZs (payI c) zs 0))=c:=by
 unfold isI at h
 split at h
 · rename_i t' xs
   simp only[Bool.and_eq_true] at h
   obtain⟨⟨h1,h2⟩,h3⟩:=h
   have e1:=Nat.eq_of_beq_eq_true h1
   have e2:=Nat.eq_of_beq_eq_true h2
   have:=isZs_take h3
   rw[List.drop_zero,← e2,List.take_length] at this
   subst e1
   show AV.ifc t' (.agg (asZs xs zs 0))=_
   rw[← this]
 · cases h
theorem scalL_ne {zs:List AV} (h:scalL zs=true):zs≠[]:=by
 rintro rfl;cases h
theorem isCsl_spec {c:AV} (h:isCsl c=true):AV.csl (cslC c) (cslN c)=c:=by
 cases c<;>first|rfl|(cases h;done)
theorem isVsI_spec {k:IntKind} {c:AV} (h:isVsI k c=true):AV.vs (.int k) (vsN c) (vsL c)=c:=by
 cases c<;>first|(cases h;done)|skip
 rename_i t b l
 cases t<;>first|(cases h;done)|skip
 rename_i k'
 have:k'=k:=by
  have h:ikb k' k=true:=h
  cases k'<;>cases k<;>first|rfl|(cases h;done)
 subst this;rfl
theorem loadK_spec {t : Nat} {l : List AV} {off : Nat} {k : AV → Option Out} {R : Option Out} {out : Out} (h : loadK E t l off k = some R) (hR : R = some out) :
  ∃ v,k v=some out∧((isAggT E t=some true∧(cut l off (E.size t)).map .agg=some v)∨(isAggT E t=some false∧cut l off 1=some [v]∧l[off]?=some v)):=by
 unfold loadK at h
 split at h
 · rename_i ht
   split at h
   · rename_i zs hz
     split at h
     · rename_i h1 h2
       simp only[Option.some.injEq] at h;subst h
       rcases brec hR with ⟨_,h⟩|⟨hb,h⟩
       · cases h
       · refine ⟨_, h, .inl ⟨by simp only [isAggT, ht], ?_⟩⟩
         rw[← Nat.eq_of_beq_eq_true h2,isZs_cut (scalL_ne h1) hb];rfl
     · cases h
   · cases h
 · rename_i ht
   split at h
   · rename_i zs hz
     split at h
     · rename_i h1 h2
       simp only[Option.some.injEq] at h;subst h
       rcases brec hR with ⟨_,h⟩|⟨hb,h⟩
       · cases h
       · refine ⟨_, h, .inl ⟨by simp only [isAggT, ht], ?_⟩⟩
         rw[← Nat.eq_of_beq_eq_true h2,isZs_cut (scalL_ne h1) hb];rfl
     · cases h
   · cases h
 · rename_i kt hnA hnS ht
   split at h
   · rename_i z hz
     split at h
     · rename_i h1
       simp only[Option.some.injEq] at h;subst h
       rcases brec hR with ⟨_,h⟩|⟨hb,h⟩
       · cases h
       · have hc := isZs_cut (zs := [z]) (by simp) hb
         have hlt:off<l.length:=isZs_len (zs:=[z]) (by simp) hb
         have e:l.getD off .nili=l[off]:=by simp[hlt]
         simp only[isZs,Bool.and_eq_true] at hb
         refine⟨_,h,.inr ⟨?_,hc,?_⟩⟩
         · unfold isAggT; rw [ht]
           cases kt<;>first|rfl|exact (hnA _ _ rfl).elim|exact (hnS _ rfl).elim
         · rw[isZ_spec hb.2.1,e,List.getElem?_eq_getElem hlt]
     · split at h
       · rename_i b0 t0 hiv _
         split at h
         · rename_i zs hz0
           split at h
           · rename_i h1
             simp only[Option.some.injEq] at h;subst h
             rcases brec hR with ⟨_,h⟩|⟨hb,h⟩
             · cases h
             · rw [Bool.and_eq_true] at hb
               have hlt:off<l.length:=Nat.le_of_ble_eq_true hb.1
               have e:l.getD off .nili=l[off]:=by simp[hlt]
               have hc:=isI_spec hb.2
               refine⟨_,h,.inr ⟨?_,?_,?_⟩⟩
               · unfold isAggT;rw[ht]
               · unfold cut
                 rw[Nat.ble_eq_true_of_le (show off+1≤l.length from hlt),hc,e,List.drop_eq_getElem_cons hlt];rfl
               · rw[hc,e,List.getElem?_eq_getElem hlt]
           · cases h
         · cases h
       · split at h
         · rename_i i0 _ hz0
           simp only[Option.some.injEq] at h;subst h
           rcases brec hR with ⟨_,h⟩|⟨hb,h⟩
           · cases h
           · have hlt : off < l.length := Nat.le_of_ble_eq_true hb
             have e:l.getD off .nili=l[off]:=by simp[hlt]
             rcases brec h with ⟨_,h⟩|⟨hb,h⟩
             · rcases brec h with ⟨_, h⟩ | ⟨hb, h⟩
               · cases h
               · have hc := isVsI_spec hb
                 refine⟨_,h,.inr ⟨?_,?_,?_⟩⟩
                 · unfold isAggT;rw[ht]
                 · unfold cut
                   rw[Nat.ble_eq_true_of_le (show off+1≤l.length from hlt),hc,e,List.drop_eq_getElem_cons hlt];rfl
                 · rw[hc,e,List.getElem?_eq_getElem hlt]
             · have hc := isCsl_spec hb
               refine⟨_,h,.inr ⟨?_,?_,?_⟩⟩
               · unfold isAggT;rw[ht]
               · unfold cut
                 rw[Nat.ble_eq_true_of_le (show off+1≤l.length from hlt),hc,e,List.drop_eq_getElem_cons hlt];rfl
               · rw[hc,e,List.getElem?_eq_getElem hlt]
         · cases h
       · cases h
   · cases h
 · cases h
theorem opK_spec {τ : Tmps} {σ : Hp} {o : Op} {k : Res → Option Out} {r : Out} (h : opK E τ σ o k = some r) : ∃ res, op E τ σ o = some res ∧ k res = some r := by
 have dflt:∀ {o:Op},(match opF E τ σ o with|some r=>k r|none=>none)=some r→∃ res,op E τ σ o=some res∧k res=some r:=by
  intro o h
  rw[opF_eq] at h
  split at h
  · rename_i res hr
    exact⟨res,hr,h⟩
  · cases h
 unfold opK at h
 split at h
 · simp only [evF_eq] at h
   split at h
   · rename_i h1 h2 h3
     split at h
     · rename_i hsz
       rcases brec h with ⟨_,h⟩|⟨hb,h⟩
       · cases h
       · exact⟨_,by simp only[op,h1,h2,h3,hb,hsz],h⟩
     · cases h
   all_goals first
    |(cases h;done)
    | (rename_i h1 h2 h3
       rcases brec h with ⟨_,h⟩|⟨hb,h⟩
       · cases h
       · exact⟨_,by simp only[op,h1,h2,h3,idx_inB hb,Option.map_some],h⟩)
 · rename_i t x i
   simp only[evF_eq] at h
   split at h
   · rename_i s ik j h1 h2 h3
     rcases brec h with ⟨_,h⟩|⟨hb,h⟩
     · cases h
     · refine ⟨_, ?_, h⟩
       cases j with
       |negSucc m=>cases hb
       |ofNat m=>
        have hm:m<s.length:=Nat.le_of_ble_eq_true hb
        simp only[op,h1,h2,h3,List.getElem?_eq_getElem hm,Option.map_some]
        simp[List.getD,hm]
   · rename_i len e cs ik j h1 h2 h3
     split at h
     · rename_i R hR
       rcases brec h with ⟨_,h⟩|⟨hb,h⟩
       · cases h
       · obtain ⟨v, hk, hv⟩ := loadK_spec hR h
         refine⟨_,?_,hk⟩
         simp only[op,h1,h2,h3,idx_inB hb,part]
         rcases hv with ⟨ha,hv⟩|⟨ha,hv,hv2⟩
         · simp only[ha,hv,Option.map_some]
         · simp only[ha,hv2,Option.map_some]
     · exact dflt h
   · exact dflt h
 · rename_i x
   simp only[evF_eq] at h
   split at h
   · rename_i id h1
     split at h
     · rename_i s pos h2
       rcases brec h with ⟨hp,h⟩|⟨hp,h⟩
       · refine ⟨_, ?_, h⟩
         have:s[pos]?=none:=by
          rw[List.getElem?_eq_none_iff]
          have:=Nat.not_le_of_not_ble_eq_true (n:=pos+1) (m:=s.length) (by rw[hp];simp)
          omega
         simp only[op,h1,h2,this]
       · have hm : pos < s.length := Nat.le_of_ble_eq_true hp
         have hd:s.getD pos 0=s[pos]:=by simp[List.getD,hm]
         rw[hd] at h
         rcases brec h with ⟨hb,h⟩|⟨hb,h⟩
         · exact⟨_,by simp only[op,h1,h2,List.getElem?_eq_getElem hm,hb];rfl,h⟩
         · exact⟨_,by simp only[op,h1,h2,List.getElem?_eq_getElem hm,hb];rfl,h⟩
     · cases h
   · cases h
 · rename_i b t x y hh
   simp only[evF_eq] at h
   split at h
   · rename_i k1 n k2 m h1 h2
     split at h
     · rename_i hk
       rcases brec h with ⟨hm,h⟩|⟨hm,h⟩
       · exact⟨_,by simp only[op,h1,h2,binop,hk,arith,hm,Option.map_some],h⟩
       · cases h
     · cases h
   · rename_i k1 n k2 m h1 h2
     split at h
     · rename_i hk
       rcases brec h with ⟨hm,h⟩|⟨hm,h⟩
       · exact⟨_,by simp only[op,h1,h2,binop,hk,arith,hm,Option.map_some],h⟩
       · cases h
     · cases h
   · rename_i k1 n k2 m h1 h2
     rcases brec h with ⟨_,h⟩|⟨hm,h⟩
     · cases h
     · exact⟨_,by simp only[op,h1,h2,binop,hm,Option.map_some],h⟩
   · rename_i xs ys h1 h2
     split at h
     · rename_i r hr
       have:=(eqvB_both 40).1 _ _ _ _ hr
       exact⟨_,by simp only[op,h1,h2,binop,this,Option.map_some],h⟩
     · cases h
   · rename_i xs ys h1 h2
     split at h
     · rename_i r hr
       have:=(eqvB_both 40).1 _ _ _ _ hr
       exact⟨_,by simp only[op,h1,h2,binop,this,Option.map_some],h⟩
     · cases h
   · exact dflt h
 · simp only [evF_eq] at h
   split at h
   · rename_i t hc
     split at h
     · rename_i x y hx hy
       split at h
       · rename_i v hv
         have e:=pickV_spec hv
         clear hv
         subst e
         refine⟨_,?_,h⟩
         cases t<;>simp only[op,hc,hx,hy,Option.map_some,choose2]
       · rcases brec h with ⟨rfl, h⟩ | ⟨rfl, h⟩
         · exact⟨_,by simp only[op,hc,hy,Option.map_some],h⟩
         · exact⟨_,by simp only[op,hc,hx,Option.map_some],h⟩
     · cases h
   · cases h
 · rename_i c
   split at h
   · rename_i s x hc ha
     obtain⟨res,h1,h2⟩:=appW_spec h
     exact⟨res,by simp only[op,callV,hc,ha];exact h1,h2⟩
   · exact dflt h
 · rename_i t m key ok
   simp only[evF_eq] at h
   split at h
   · rename_i kt0 e id s kt h1 h2 h3 h4
     split at h
     · rename_i es hget hz
       rcases brec h with ⟨_,h⟩|⟨hok,h⟩
       · cases h
       · refine ⟨_, ?_, h⟩
         have hf:findK E (kt,.str) (.str s) es=findKey E kt .str (.str s) es 0:=by
          unfold findK
          have:keyFit E 9 kt (.str s)=true:=by simp only[keyFit,keyT_str h4]
          simp only[this]
         simp only[op,h1,h2,h3,h4,hget,hz,mapES,hf]
         rcases findKey_SB (E:=E) (t:=kt) (s:=s) (b:=false) (i:=0) hok with ⟨a1,j,a2,_⟩|⟨a1,a2,a3,_⟩
         · rw[a2,a1];cases ok<;>rfl
         · rw[a3,a1,a2];cases ok<;>rfl
     · exact dflt h
   · exact dflt h
 · rename_i t m key x
   simp only[evF_eq] at h
   split at h
   · rename_i id s b kt h2 h3 h4 h5
     split at h
     · rename_i es hget
       rcases brec h with ⟨_,h⟩|⟨hok,h⟩
       · cases h
       · refine ⟨_, ?_, h⟩
         have hf:findK E (kt,.str) (.str s) es=findKey E kt .str (.str s) es 0:=by
          unfold findK
          have:keyFit E 9 kt (.str s)=true:=by simp only[keyFit,keyT_str h5]
          simp only[this]
         simp only[op,h2,h3,h4,h5,hget,mapSet,hf]
         rcases findKey_SB (E:=E) (t:=kt) (s:=s) (b:=b) (i:=0) hok with ⟨a1,j,a2,a3⟩|⟨a1,a2,a3,a4⟩
         · rw[a2,a3];simp only[Nat.zero_add,Option.map_some]
         · rw[a3,a4];simp only[Option.map_some]
     · cases h
   · exact dflt h
 · rename_i t a
   simp only[evF_eq] at h
   split at h
   · rename_i R hR
     split at hR
     · rename_i id off ha
       split at hR
       · rename_i ro l hget
         obtain⟨v,hk,hv⟩:=loadK_spec hR h
         refine⟨_,?_,hk⟩
         rcases hv with ⟨hA,hv⟩|⟨hA,hv,_⟩
         · simp only[op,ha,loadV,hA,loadC,hget,hv,Option.map_some]
         · simp only[op,ha,loadV,hA,loadC,hget,hv,Option.map_some]
       · cases hR
     · rename_i g off ha
       split at hR
       · rename_i l hget
         obtain⟨v,hk,hv⟩:=loadK_spec hR h
         refine⟨_,?_,hk⟩
         rcases hv with ⟨hA,hv⟩|⟨hA,hv,_⟩
         · simp only[op,ha,loadV,hA,loadC,hget,hv,Option.map_some]
         · simp only[op,ha,loadV,hA,loadC,hget,hv,Option.map_some]
       · cases hR
     · rename_i l off ha
       obtain⟨v,hk,hv⟩:=loadK_spec hR h
       refine⟨_,?_,hk⟩
       rcases hv with ⟨hA,hv⟩|⟨hA,hv,_⟩
       · simp only[op,ha,loadV,hA,loadC,hv,Option.map_some]
       · simp only[op,ha,loadV,hA,loadC,hv,Option.map_some]
     · cases hR
   · exact dflt h
 · rename_i t a x
   simp only[evF_eq] at h
   split at h
   · rename_i id off v ha hx
     split at h
     · rename_i l hget
       split at h
       · rename_i b hA hn ho
         rcases brec h with ⟨_,h⟩|⟨hb,h⟩
         · cases h
         · refine ⟨_, ?_, h⟩
           simp only[op,ha,hx,storeV,hget,hA,hn,ho,hb,Option.map_some]
       · cases h
     · cases h
   · cases h
 · rename_i t x hi
   simp only[evF_eq] at h
   split at h
   · rename_i n e id off ik j h1 h2 h3
     split at h
     · rename_i ro cl hget
       rcases brec h with ⟨_,h⟩|⟨hb,h⟩
       · cases h
       rcases brec h with ⟨_,h⟩|⟨hl,h⟩
       · cases h
       · refine ⟨_, ?_, h⟩
         have hi0:idx j (n+1)=some j.toNat:=idx_inB hb
         have hj:idx (0:Int) 1=some 0:=rfl
         simp only[op,optA,h2,h3,Option.map_some,sliceV,h1,bound,hi0,hget,hl,Nat.zero_mul,Nat.add_zero,Nat.sub_zero]
     · cases h
   · exact dflt h
 · exact dflt h
mutual
theorem avbK_spec {k:Option Out} {r:Out} (a b:AV) (h:avbK k a b=some r):avbeq a b=true∧k=some r:=by
 unfold avbK at h
 split at h
 · split at h
   · rename_i e
     rcases brec h with ⟨_,h⟩|⟨h1,h⟩
     · cases h
     · exact⟨by simp only[avbeq,e,h1],h⟩
   · cases h
 · rename_i x y
   rcases brec h with ⟨_,h'⟩|⟨h1,h'⟩
   · cases h'
   · exact⟨by have:=bbeq_eq h1;subst this;cases x<;>rfl,h'⟩
 · rcases brec h with ⟨_, h⟩ | ⟨h1, h⟩
   · cases h
   · exact⟨by simp only[avbeq,h1],h⟩
 · rcases brec h with ⟨_, h⟩ | ⟨h1, h⟩
   · cases h
   rcases brec h with ⟨_,h⟩|⟨h2,h⟩
   · cases h
   · exact⟨by simp only[avbeq,h1,h2],h⟩
 · obtain ⟨h1, h2⟩ := avbKL_spec _ _ h
   exact⟨by simp only[avbeq,h1],h2⟩
 · obtain ⟨h1, h2⟩ := avbKL_spec _ _ h
   exact⟨by simp only[avbeq,h1],h2⟩
 · rcases brec h with ⟨_, h⟩ | ⟨h1, h⟩
   · cases h
   · exact⟨h1,h⟩
theorem avbKL_spec {k:Option Out} {r:Out} (a b:List AV) (h:avbKL k a b=some r):avbeqL a b=true∧k=some r:=by
 cases a with
 |nil=>cases b with
  |nil=>simp only[avbKL] at h;exact⟨rfl,h⟩
  |cons y m=>simp only[avbKL] at h;cases h
 | cons x l => cases b with
  |nil=>simp only[avbKL] at h;cases h
  |cons y m=>
   simp only[avbKL] at h
   obtain⟨h1,h2⟩:=avbK_spec x y h
   obtain⟨h3,h4⟩:=avbKL_spec l m h2
   exact⟨by simp only[avbeqL,h1,h3],h4⟩
end
theorem lookK_spec {o : Oper} {i a : Nat} {τ τ' : Tmps} {k : Option Out} {r : Out} : ∀ {ph : Phs} {nx : Option Nat}, lookK E o i a τ τ' k nx ph = some r → lookOK E o i a τ τ' nx ph = true ∧ k = some r
 |[],_,h=>⟨rfl,h⟩
 | (σ, am, hh) :: ph, nx, h => by
  have core : ∀ b : Bool, (match b, msHas am i with
    | false, false => (match cstL τ o.op with
     |true=>lookK E o i a τ τ' k hh ph
     | false => opK E τ σ o.op fun r => match r with
      | .val v _ => match o.dst with
       |none=>lookK E o i a τ τ' k hh ph
       |some d=>match τ'.get d with
        |some w=>avbK (lookK E o i a τ τ' k hh ph) w v
        |none=>lookK E o i a τ τ' k hh ph
      |_=>none)
    |_,_=>lookK E o i a τ τ' k hh ph)=some r →
    (match b,msHas am i with
    |false,false=>(match lookSame E o τ τ' σ with
     |true=>lookOK E o i a τ τ' hh ph
     |false=>false)
    |_,_=>lookOK E o i a τ τ' hh ph)=true∧k=some r:=by
   intro b h
   cases b with
   |true=>
    obtain⟨h1,h2⟩:=lookK_spec (ph:=ph) h
    exact⟨h1,h2⟩
   | false =>
    cases hm:msHas am i with
    |true=>
     rw[hm] at h
     obtain⟨h1,h2⟩:=lookK_spec (ph:=ph) h
     exact⟨h1,h2⟩
    |false=>
     rw[hm] at h
     simp only at h⊢
     split at h
     · rename_i hc
       obtain⟨h1,h2⟩:=lookK_spec h
       exact⟨by simp only[lookSame,hc,h1],h2⟩
     · rename_i hc
       obtain⟨res,ho,h⟩:=opK_spec h
       split at h
       · rename_i v σ'
         split at h
         · rename_i hd
           obtain⟨h1,h2⟩:=lookK_spec h
           exact⟨by simp only[lookSame,hc,ho,hd,h1],h2⟩
         · rename_i d hd
           split at h
           · rename_i w hw
             obtain⟨h0,h⟩:=avbK_spec _ _ h
             obtain⟨h1,h2⟩:=lookK_spec h
             exact⟨by simp only[lookSame,hc,ho,hd,hw,h0,h1],h2⟩
           · rename_i hw
             obtain⟨h1,h2⟩:=lookK_spec h
             exact⟨by simp only[lookSame,hc,ho,hd,hw,h1],h2⟩
       · cases h
  cases nx with
  |none=>exact core false h
  |some x=>exact core (msHas a x) h
theorem looksK_spec {ops:Array Oper} {ph:Phs} {k:Option Out} {r:Out}:∀ {lk:Lks},looksK E ops ph k lk=some r→looksOK E ops ph lk=true∧k=some r
 |[],h=>⟨rfl,h⟩
 | (o, i, a, τ, τ') :: lk, h => by
  simp only[looksK] at h
  simp only[looksOK]
  split at h
  · rename_i e
    rw[e];simp only
    exact looksK_spec h
  · rename_i hne
    obtain⟨h1,h2⟩:=lookK_spec h
    obtain⟨h3,h4⟩:=looksK_spec h2
    refine⟨?_,h4⟩
    split
    · exact h3
    · rw[h1];simp only;exact h3
mutual
theorem frzK_spec {pl:Bool} {out:Out} (v:AV) {k:AV→Hp→Option Out} {σ:Hp} (h:frzK pl k v σ=some out):k (frzArg v σ).1 (frzArg v σ).2=some out:=by
 cases v with
 | sl id off len cl sz =>
  simp only[frzK] at h
  simp only[frzArg]
  split at h
  · rename_i ro l hget
    rcases brec h with ⟨hp,h⟩|⟨hp,h⟩
    · cases pl
      case true=>cases h
      simp only at h
      split at h
      · rename_i r hr;rw[hr];exact h
      · rename_i hr;rw[hr];exact h
    · have : frz 5000 (.sl id off len cl sz) σ = some (.csl (l.drop off) len, σ.set id (.cells true l)) := by
       rw[show (5000:Nat)=4999+1 from rfl]
       simp only[frz,hget,hp]
      rw[this];exact h
  · rename_i hget
    have:frz 5000 (.sl id off len cl sz) σ=none:=by
     rw[show (5000:Nat)=4999+1 from rfl]
     simp only[frz]
    rw[this];exact h
 |agg l=>
  simp only[frzK] at h
  simp only[frzArg]
  exact frzKs_spec l h
 |_=>simp only[frzK] at h;simp only[frzArg];exact h
theorem frzKs_spec {pl:Bool} {out:Out} (l:List AV) {k:List AV→Hp→Option Out} {σ:Hp} (h:frzKs pl k l σ=some out):k (frzArgs l σ).1 (frzArgs l σ).2=some out:=by
 cases l with
 |nil=>simp only[frzKs] at h;simp only[frzArgs];exact h
 |cons v vs=>
  simp only[frzKs] at h
  have h1:=frzK_spec v h
  have h2:=frzKs_spec vs h1
  simp only[frzArgs]
  exact h2
end
theorem Tr.set_self {α:Type}:∀ (t:Tr α) {k:Nat} {v:α},t.get k=some v→t.set k v=t
 |.lf,k,v,h=>by rw[Tr.get_lf] at h;cases h
 | .nd l w r, k, v, h => by
  rw[Tr.get_nd] at h
  rw[Tr.set_nd]
  cases k with
  |zero=>simp only at h⊢;rw[h]
  |succ k=>
   simp only at h⊢
   cases e:Nat.beq ((k+1) % 2) 1 with
   |true=>rw[e] at h;simp only at h⊢;rw[Tr.set_self l h]
   |false=>rw[e] at h;simp only at h⊢;rw[Tr.set_self r h]
theorem guardK_spec {ops:Array Oper} {st:St} {o:Oper} {no yes:St→Option Out} {r:Out} (h:guardK ops st o no yes=some r):(wantedA ops st.τ o=some false∧no st=some r)∨(wantedA ops st.τ o=some true∧yes st=some r):=by
 unfold guardK at h
 unfold wantedA
 split at h
 · rename_i hg;rw[hg];exact .inr ⟨rfl,h⟩
 · rename_i j want hg
   rw[hg];simp only
   split at h
   · rename_i d hd
     rw[hd];simp only
     split at h
     · rename_i b hb
       have hs:{ st with τ:=st.τ.set d (.bool b) }=st:=by rw[Tr.set_self _ hb]
       rw[hb];simp only
       rcases brec h with ⟨rfl,h⟩|⟨rfl,h⟩<;>rcases brec h with ⟨rfl,h⟩|⟨rfl,h⟩<;>rw[hs] at h
       · exact .inr ⟨rfl,h⟩
       · exact .inl ⟨rfl,h⟩
       · exact .inl ⟨rfl,h⟩
       · exact .inr ⟨rfl,h⟩
     · rename_i hb;rw[hb];exact .inl ⟨rfl,h⟩
     · cases h
   · cases h
theorem knowT_spec {st:St} {x:Operand} {t:Bool} (h:ev st.τ x=some (.bool t)):knowT st x t=st:=by
 unfold knowT
 split
 · rename_i d
   have:st.τ.get d=some (.bool t):=h
   rw[Tr.set_self _ this]
 · rfl
noncomputable def resS (E:Env) (call:CallF) (hs:Hnds) (st:St) (r:Res) (dst:Option Nat):Option St:=
 match r with
 |.val v σ=>putS { st with σ:=σ } dst v
 |.skip σ=>putS { st with σ:=σ } dst undefA
 |.call f args=>match doCall E call hs f args st.σ st.Λ with
  |some (v,σ,Λ)=>putS { st with σ:=σ,Λ:=Λ } dst v
  |none=>none
 |.yld l args=>match doYield hs l args st.σ st.Λ with
  |some (v,σ,Λ)=>putS { st with σ:=σ,Λ:=Λ } dst v
  |none=>none
 |.dfr f args=>match st.rnd with
  |true=>none
  |false=>putS { st with ds:=(f,args)::st.ds } dst undefA
 |.recov=>match st.rnd with
  |true=>none
  |false=>putS st dst .nili
theorem oneOp_resS {call:CallF} {hs:Hnds} {ops:Array Oper} {o:Oper} {st:St}:oneOp E call hs ops o st=match wantedA ops st.τ o with
  |none=>none
  |some false=>putS st o.dst undefA
  |some true=>match op E st.τ st.σ o.op with
   |none=>none
   |some r=>resS E call hs st r o.dst:=by
 unfold oneOp
 cases wantedA ops st.τ o with
 |none=>rfl
 | some w =>
  cases w with
  |false=>rfl
  |true=>
   simp only
   cases op E st.τ st.σ o.op with
   |none=>rfl
   |some r=>cases r<;>rfl
theorem callK_spec (hS:S.ok E) {ev:Ev} {f:Nat} {args:List AV} {σ:Hp} {Λ:List LF} {r:Rt} {K:List Fm} {k:Cfg→Option Out} {out:Out} (h:callK E S ev f args σ Λ r K k=some out) :
  ∃ c',k c'=some out∧∀ res,den E c'=some res→∃ v σ' Λ',callN E ev.n f args σ (toHs E ev.D) Λ=some (v,σ',Λ')∧contV E (contE E K) r v σ' Λ'=some res:=by
 unfold callK at h
 split at h
 · cases h
 · rename_i m hm
   rw[hm]
   split at h
   · rename_i c v hv
     rcases brec h with ⟨_,h⟩|⟨rfl,h⟩
     · cases h
     · exact⟨_,h,fun res hr=>⟨v,σ,Λ,by simp only[callN,hS _ _ _ hv],hr⟩⟩
   split at h
   · rename_i v hv
     exact⟨_,h,fun res hr=>⟨v,σ,Λ,by simp only[callN,hv],hr⟩⟩
   · rename_i hv
     split at h
     · cases h
     · rename_i fn hfn
       split at h
       · cases h
       · rename_i body hbody
         refine⟨_,h,fun res hr=>?_⟩
         suffices hs:∃ v σ' Λ',bodyN E (callN E m) f args σ (toHs E ev.D) Λ=some (v,σ',Λ')∧contV E (contE E K) (rtT E f σ.n r) v σ' Λ'=some res by
          obtain⟨v,σ',Λ',h1,h2⟩:=hs
          rw[callN_succ]
          simp only[trimN,hv,h1]
          unfold rtT at h2
          unfold trimR
          cases htr:E.tr f with
          |true=>rw[htr] at h2;exact⟨v,_,Λ',rfl,h2⟩
          |false=>rw[htr] at h2;exact⟨v,σ',Λ',rfl,h2⟩
         simp only[den] at hr
         simp only[bodyN,hv,hfn,hbody]
         split at hr
         · rename_i e st hx
           rw[hx]
           simp only
           simp only[contE] at hr
           split at hr
           · cases hr
           · rename_i hne
             split at hr
             · cases hr
             · rename_i σ1 Λ1 hd
               split at hr
               · rename_i v hvs
                 refine⟨v,σ1,Λ1,?_,hr⟩
                 cases e with
                 |exit i=>exact absurd rfl (hne i)
                 |normal=>simp only[hd,hvs]
                 |ret=>simp only[hd,hvs]
               · rename_i vs hnv hvs
                 refine⟨.tup vs,σ1,Λ1,?_,hr⟩
                 have:(match some vs with
                  |some [v]=>some (v,σ1,Λ1)
                  |some vs=>some (AV.tup vs,σ1,Λ1)
                  |none=>none)=some (AV.tup vs,σ1,Λ1):=by
                  split
                  · rename_i v e;simp only[Option.some.injEq] at e;exact absurd e (hnv v)
                  · rename_i e;simp only[Option.some.injEq] at e;rw[e]
                  · rename_i e;cases e
                 cases e with
                 |exit i=>exact absurd rfl (hne i)
                 |normal=>simp only[hd,hvs]
                 |ret=>simp only[hd,hvs]
               · cases hr
         · cases hr
theorem hndOf_deepM {l:Nat}:∀ {hs:Hnds},hndOf (deepen hs) l=(hndOf hs l).map deeper
 |[]=>rfl
 |(i,h)::hs=>by
  simp only[deepen,hndOf]
  cases Nat.beq i l with
  |true=>rfl
  |false=>exact hndOf_deepM
theorem fD_spec {l : Nat} : ∀ {D : List HD} {Λ pre Λ1 : List LF} {h : HD} {D' : List HD}, fD D l Λ = some (pre, h, D', Λ1) → ∃ g, hndOf (toHs E D) l = some g ∧
  ∀ az σ b σ' Λ2,rangeH E (callN E h.n) (toHs E D') h.nt h.τ h.params h.asg.c h.body.c az σ Λ1=some (b,σ',Λ2)→g az σ Λ=some (b,σ',pre++Λ2)
 |[],Λ,pre,Λ1,h,D',hh=>by cases hh
 | x :: D, Λ, pre, Λ1, h, D', hh => by
  simp only[fD] at hh
  simp only[toHs,hndOf]
  split at hh
  · rename_i e
    simp only[Option.some.injEq,Prod.mk.injEq] at hh;obtain⟨rfl,rfl,rfl,rfl⟩:=hh
    rw[e]
    exact⟨_,rfl,fun az σ b σ' Λ2 h=>h⟩
  · rename_i e
    rw[e]
    simp only
    split at hh
    · cases hh
    · rename_i lf Λ'
      split at hh
      · rename_i pre1 y hy
        simp only[Option.some.injEq,Prod.mk.injEq] at hh;obtain⟨rfl,rfl⟩:=hh
        obtain⟨g,g1,g2⟩:=fD_spec hy
        refine⟨deeper g,by rw[hndOf_deepM,g1];rfl,fun az σ b σ' Λ2 h=>?_⟩
        simp only[deeper,g2 az σ b σ' Λ2 h]
        rfl
      · cases hh
theorem yldK_spec {ev:Ev} {l:Nat} {args:List AV} {σ:Hp} {Λ:List LF} {r:Rt} {K:List Fm} {k:Cfg→Option Out} {out:Out} (h:yldK ev l args σ Λ r K k=some out) :
  ∃ c',k c'=some out∧∀ res,den E c'=some res→∃ v σ' Λ',doYield (toHs E ev.D) l args σ Λ=some (v,σ',Λ')∧contV E (contE E K) r v σ' Λ'=some res:=by
 unfold yldK at h
 split at h
 · rename_i pre hd D lf Λ1 hf
   split at h
   · cases h
   · rename_i hdone
     split at h
     · cases h
     · rename_i τ hτ
       refine⟨_,h,fun res hr=>?_⟩
       obtain⟨g,g1,g2⟩:=fD_spec (E:=E) hf
       simp only[den] at hr
       split at hr
       · rename_i e st hx
         simp only[contE] at hr
         cases e with
         |normal=>
          simp only at hr
          split at hr
          · rename_i e2 st2 hx2
            split at hr
            · rename_i hds
              refine⟨.bool e2.isNormal,st2.σ,pre++⟨!e2.isNormal,e2⟩::st2.Λ,?_,hr⟩
              have:rangeH E (callN E hd.n) (toHs E D) hd.nt hd.τ hd.params hd.asg.c hd.body.c args σ (lf::Λ1)=some (e2.isNormal,st2.σ,⟨!e2.isNormal,e2⟩::st2.Λ):=by
               simp only[rangeH,hdone,hτ,hx,hx2,hds]
              simp only[doYield,g1,g2 _ _ _ _ _ this]
            · cases hr
          · cases hr
         |exit i=>cases hr
         |ret=>cases hr
       · cases hr
 · cases h
theorem frzPK_spec {pl:Bool} {out:Out} (v:AV) {k:AV→Hp→Option Out} {σ:Hp} (h:frzPK pl k v σ=some out):k (frzP v σ).1 (frzP v σ).2=some out:=by
 cases v with
 | ptr id off =>
  have e:frzP (.ptr id off) σ=(match σ.get id with|some (.cells _ l)=>(match frzL 5000 l (σ.set id (.cells true l)) with|some (cs,σ)=>(.cp cs off,σ)|none=>(.ptr id off,σ))|_=>(.ptr id off,σ)):=rfl
  rw[e]
  simp only[frzPK] at h
  cases hget:σ.get id with
  |none=>simp only[hget] at h⊢;exact h
  | some o =>
   cases o with
   |cells ro l=>
    simp only[hget] at h⊢
    obtain⟨l',σ',h1,h2⟩:=frzDL_spec _ _ h
    simp only[h1];exact h2
   |_=>simp only[hget] at h⊢;exact h
 |_=>exact frzK_spec (pl:=pl) _ h
theorem frzPKs_spec {pl:Bool} {out:Out} (l:List AV) {k:List AV→Hp→Option Out} {σ:Hp} (h:frzPKs pl k l σ=some out):k (frzPs l σ).1 (frzPs l σ).2=some out:=by
 induction l generalizing k σ with
 |nil=>simp only[frzPKs] at h;simp only[frzPs];exact h
 |cons v vs ih=>
  simp only[frzPKs] at h
  have h1:=frzPK_spec v h
  have h2:=ih h1
  simp only[frzPs]
  exact h2
theorem resK_spec (hS:S.ok E) {ev:Ev} {st:St} {r:Res} {rt:Rt} {K:List Fm} {k:Cfg→Option Out} {put:AV→St→Option Out} {dst:Option Nat} {contO:St→Option Rr} {out:Out}
  (hput:∀ v s out,put v s=some out→∃ c',k c'=some out∧∀ res,den E c'=some res→∃ s',putS s dst v=some s'∧contO s'=some res)
  (hrt:∀ v σ Λ res,contV E (contE E K) rt v σ Λ=some res→∃ s',putS ⟨st.τ,σ,st.ds,Λ,st.nt,st.rnd⟩ dst v=some s'∧contO s'=some res) (h:resK E S ev st r rt K k put=some out) :
  ∃ c',k c'=some out∧∀ res,den E c'=some res→∃ s',resS E (callN E ev.n) (toHs E ev.D) st r dst=some s'∧contO s'=some res:=by
 unfold resK at h
 cases r with
 |val v σ=>exact hput _ _ _ h
 |skip σ=>exact hput _ _ _ h
 |call f args=>
  simp only at h
  split at h
  · rename_i hf
    split at h
    · rename_i hp
      have h:=frzPKs_spec args h
      obtain⟨c',h1,h2⟩:=callK_spec hS h
      refine⟨c',h1,fun res hr=>?_⟩
      obtain⟨v,σ',Λ',h3,h4⟩:=h2 res hr
      obtain⟨s',h5,h6⟩:=hrt _ _ _ _ h4
      refine⟨s',?_,h6⟩
      simp only[resS,doCall,hf,hp]
      rw[show frzPs args st.σ=((frzPs args st.σ).1,(frzPs args st.σ).2) from rfl]
      simp only[h3]
      exact h5
    · rename_i hp
      have h:=frzKs_spec args h
      obtain⟨c',h1,h2⟩:=callK_spec hS h
      refine⟨c',h1,fun res hr=>?_⟩
      obtain⟨v,σ',Λ',h3,h4⟩:=h2 res hr
      obtain⟨s',h5,h6⟩:=hrt _ _ _ _ h4
      refine⟨s',?_,h6⟩
      simp only[resS,doCall,hf,hp]
      rw[show frzArgs args st.σ=((frzArgs args st.σ).1,(frzArgs args st.σ).2) from rfl]
      simp only[h3]
      exact h5
  · rename_i hf
    obtain⟨c',h1,h2⟩:=callK_spec hS h
    refine⟨c',h1,fun res hr=>?_⟩
    obtain⟨v,σ',Λ',h3,h4⟩:=h2 res hr
    obtain⟨s',h5,h6⟩:=hrt _ _ _ _ h4
    exact⟨s',by simp only[resS,doCall,hf,h3];exact h5,h6⟩
 |yld l args=>
  obtain⟨c',h1,h2⟩:=yldK_spec (E:=E) h
  refine⟨c',h1,fun res hr=>?_⟩
  obtain⟨v,σ',Λ',h3,h4⟩:=h2 res hr
  obtain⟨s',h5,h6⟩:=hrt _ _ _ _ h4
  exact⟨s',by simp only[resS,h3];exact h5,h6⟩
 |dfr f args=>
  simp only at h
  split at h
  · cases h
  · rename_i hr
    obtain⟨c',h1,h2⟩:=hput _ _ _ h
    refine⟨c',h1,fun res hx=>?_⟩
    obtain⟨s',h3,h4⟩:=h2 res hx
    refine⟨s',?_,h4⟩
    unfold resS
    simp only
    split
    · rename_i e;rw[hr] at e;cases e
    · exact h3
 |recov=>
  simp only at h
  split at h
  · cases h
  · rename_i hr
    obtain⟨c',h1,h2⟩:=hput _ _ _ h
    refine⟨c',h1,fun res hx=>?_⟩
    obtain⟨s',h3,h4⟩:=h2 res hx
    refine⟨s',?_,h4⟩
    unfold resS
    simp only
    split
    · rename_i e;rw[hr] at e;cases e
    · exact h3
theorem opsK_spec (hS : S.ok E) {pc : PC} {j : Nat} {rest : List Oper} {st : St} {ev : Ev} {K : List Fm} {k : Cfg → Option Out} {out : Out} (h : opsK E S pc j rest st ev K k = some out) :
  ∃ c',k c'=some out∧∀ res,den E c'=some res→den E ⟨.op pc j rest st,ev,K⟩=some res:=by
 unfold opsK at h
 cases rest with
 |nil=>exact⟨_,h,fun res hr=>hr⟩
 | cons o os =>
  simp only at h
  have hput:∀ v s out,(match putS s o.dst v with
    |some s=>k ⟨.op pc (j+1) os s,ev,K⟩
    |none=>none)=some out→∃ c',k c'=some out∧∀ res,den E c'=some res→∃ s',putS s o.dst v=some s'∧(match runOps E (callN E ev.n) (toHs E ev.D) (opsOf pc.c) os s' with
     |some s=>contE E K ev .normal s
     |none=>none)=some res:=by
   intro v s out h
   split at h
   · rename_i s' hs
     exact⟨_,h,fun res hr=>⟨s',hs,hr⟩⟩
   · cases h
  have fin:∀ {c':Cfg},(∀ res,den E c'=some res→∃ s',oneOp E (callN E ev.n) (toHs E ev.D) (opsOf pc.c) o st=some s'∧(match runOps E (callN E ev.n) (toHs E ev.D) (opsOf pc.c) os s' with
        |some s=>contE E K ev .normal s
        |none=>none)=some res)→∀ res,den E c'=some res→den E ⟨.op pc j (o::os) st,ev,K⟩=some res:=by
   intro c' h res hr
   obtain⟨s',h1,h2⟩:=h res hr
   simp only[den,runOps,h1]
   exact h2
  rcases guardK_spec h with ⟨hw,h⟩|⟨hw,h⟩
  · obtain ⟨c', h1, h2⟩ := hput _ _ _ h
    refine⟨c',h1,fin (fun res hr=>?_)⟩
    obtain⟨s',h3,h4⟩:=h2 res hr
    exact⟨s',by rw[oneOp_resS,hw];exact h3,h4⟩
  · obtain ⟨r, hop, h⟩ := opK_spec h
    obtain⟨c',h1,h2⟩:=resK_spec hS (dst:=o.dst) (contO:=fun s'=>match runOps E (callN E ev.n) (toHs E ev.D) (opsOf pc.c) os s' with
      |some s=>contE E K ev .normal s
      |none=>none) hput (fun v σ Λ res hr=>by
     simp only[contV] at hr
     split at hr
     · cases hr
     · rename_i s hs
       refine⟨s,hs,?_⟩
       split at hr
       · cases hr
       · rename_i s2 hs2
         simp only[hs2];exact hr) h
    refine⟨c',h1,fin (fun res hr=>?_)⟩
    obtain⟨s',h3,h4⟩:=h2 res hr
    exact⟨s',by rw[oneOp_resS,hw];simp only[hop];exact h3,h4⟩
end
end Go.Eng


namespace Go.Eng
open Go
attribute [local irreducible] upTo
section
variable {E:Env} {S:Sy}
theorem restD_done {ev:Ev} {d:DR} {st:St} (h:d.os=[]∨d.fs=[]):restD E ev d st=match (match d.q with|true=>true|false=>looksOK E d.ops d.ph d.lk) with
  |true=>some st
  |false=>none:=by
 have:runD E (callN E ev.n) (toHs E ev.D) d.ops d.n0 d.os d.fs d.i st d.ph d.lk=some (st,d.ph,d.lk):=by
  rcases h with h|h
  · rw[h];cases d.fs<;>rfl
  · rw[h];cases d.os<;>rfl
 unfold restD
 rw[this]
 rfl
theorem restD_step {ev:Ev} {d:DR} {st:St} {o:Oper} {os:List Oper} {f:Inf} {fs:List Inf} (ho:d.os=o::os) (hf:d.fs=f::fs):restD E ev d st=match oneD E (callN E ev.n) (toHs E ev.D) d.ops d.n0 f o st with
  |none=>none
  |some s=>restD E ev (({ d with os:=os,fs:=fs }:DR).nxt o f st.τ s) s:=by
 unfold restD
 rw[ho,hf]
 simp only[runD]
 cases oneD E (callN E ev.n) (toHs E ev.D) d.ops d.n0 f o st with
 |none=>rfl
 |some s=>
  obtain⟨c,a,kk⟩:=f
  match c with
  |0=>rfl
  |1=>rfl
  |n+2=>rfl
theorem drK_spec (hS : S.ok E) {d : DR} {st : St} {ev : Ev} {K : List Fm} {k : Cfg → Option Out} {out : Out} (h : drK E S d st ev K k = some out) :
  ∃ c',k c'=some out∧∀ res,den E c'=some res→den E ⟨.dr d st,ev,K⟩=some res:=by
 unfold drK at h
 split at h
 · rename_i o os f fs ho hf
   simp only at h
   have hput:∀ v s out,(match putS s o.dst v with
     |some s=>k ⟨.dr (({ d with os:=os,fs:=fs }:DR).nxt o f st.τ s) s,ev,K⟩
     |none=>none)=some out→∃ c',k c'=some out∧∀ res,den E c'=some res→∃ s',putS s o.dst v=some s'∧(match restD E ev (({ d with os:=os,fs:=fs }:DR).nxt o f st.τ s') s' with
      |some s=>contE E K ev .normal s
      |none=>none)=some res:=by
    intro v s out h
    split at h
    · rename_i s' hs
      exact⟨_,h,fun res hr=>⟨s',hs,hr⟩⟩
    · cases h
   have fin:∀ {c':Cfg},(∀ res,den E c'=some res→∃ s',oneD E (callN E ev.n) (toHs E ev.D) d.ops d.n0 f o st=some s'∧(match restD E ev (({ d with os:=os,fs:=fs }:DR).nxt o f st.τ s') s' with
         |some s=>contE E K ev .normal s
         |none=>none)=some res)→∀ res,den E c'=some res→den E ⟨.dr d st,ev,K⟩=some res:=by
    intro c' h res hr
    obtain⟨s',h1,h2⟩:=h res hr
    simp only[den]
    rw[restD_step ho hf,h1]
    exact h2
   split at h
   · rename_i hc
     rcases guardK_spec h with ⟨hw,h⟩|⟨hw,h⟩
     · obtain ⟨c', h1, h2⟩ := hput _ _ _ h
       refine⟨c',h1,fin (fun res hr=>?_)⟩
       obtain⟨s',h3,h4⟩:=h2 res hr
       exact⟨s',by unfold oneD;rw[hc];simp only[hw];exact h3,h4⟩
     · split at h
       · rename_i v ao hn
         obtain⟨c',h1,h2⟩:=hput _ _ _ h
         refine⟨c',h1,fin (fun res hr=>?_)⟩
         obtain⟨s',h3,h4⟩:=h2 res hr
         exact⟨s',by unfold oneD;rw[hc];simp only[hw,hn];exact h3,h4⟩
       · cases h
   · rename_i hc
     have hone:oneD E (callN E ev.n) (toHs E ev.D) d.ops d.n0 f o st=oneOp E (callN E ev.n) (toHs E ev.D) d.ops o st:=oneD_of_oneOp (fun e=>hc e)
     rcases guardK_spec h with ⟨hw,h⟩|⟨hw,h⟩
     · obtain ⟨c', h1, h2⟩ := hput _ _ _ h
       refine⟨c',h1,fin (fun res hr=>?_)⟩
       obtain⟨s',h3,h4⟩:=h2 res hr
       exact⟨s',by rw[hone,oneOp_resS,hw];exact h3,h4⟩
     · obtain ⟨r, hop, h⟩ := opK_spec h
       obtain⟨c',h1,h2⟩:=resK_spec hS (dst:=o.dst) (contO:=fun s'=>match restD E ev (({ d with os:=os,fs:=fs }:DR).nxt o f st.τ s') s' with
         |some s=>contE E K ev .normal s
         |none=>none) hput (fun v σ Λ res hr=>by
        simp only[contV] at hr
        split at hr
        · cases hr
        · rename_i s hs
          refine⟨s,hs,?_⟩
          split at hr
          · cases hr
          · rename_i s2 hs2
            simp only[hs2];exact hr) h
       refine⟨c',h1,fin (fun res hr=>?_)⟩
       obtain⟨s',h3,h4⟩:=h2 res hr
       exact⟨s',by rw[hone,oneOp_resS,hw];simp only[hop];exact h3,h4⟩
 · rename_i hne
   have hd:d.os=[]∨d.fs=[]:=by
    cases ho:d.os with
    |nil=>exact .inl rfl
    |cons o os=>
     cases hf:d.fs with
     |nil=>exact .inr rfl
     |cons f fs=>exact absurd hf (hne o os f fs ho)
   split at h
   · rename_i hq
     refine⟨_,h,fun res hr=>?_⟩
     simp only[den,restD_done hd,hq]
     exact hr
   · rename_i hq
     obtain⟨hl,h⟩:=looksK_spec h
     refine⟨_,h,fun res hr=>?_⟩
     simp only[den,restD_done hd,hq,hl]
     exact hr
theorem rounds_upTo {ev:Ev} {b:Code} {n0:Nat} {τ0:Tmps}:∀ (k m:Nat) (st:St) {r:Ex×St},rounds E ev b n0 τ0 (2 ^ k+m) st=some r →
  (∃ st1,upTo (fun s=>roundC n0 τ0 (exec E (callN E ev.n) b (toHs E ev.D) s)) k st=some (none,st1)∧rounds E ev b n0 τ0 m st1=some r) ∨
  (upTo (fun s=>roundC n0 τ0 (exec E (callN E ev.n) b (toHs E ev.D) s)) k st=some (some r.1,r.2))
 |0,m,st,r,h=>by
  rw[show 2 ^ 0+m=m+1 by omega] at h
  simp only[rounds] at h
  rw[upTo]
  split at h
  · rename_i st1 hx
    refine .inl ⟨clean n0 τ0 st1,?_,h⟩
    rw[hx];rfl
  · rename_i hne
    obtain⟨e,s⟩:=r
    refine .inr ?_
    rw[h]
    cases e with
    |normal=>exact absurd h (fun h=>hne s h)
    |exit i=>rfl
    |ret=>rfl
 |k+1,m,st,r,h=>by
  have e:2 ^ (k+1)+m=2 ^ k+(2 ^ k+m):=by rw[Nat.pow_succ];omega
  rw[e] at h
  rw[upTo]
  rcases rounds_upTo k (2 ^ k+m) st h with ⟨st1,h1,h2⟩|h1
  · rw [h1]
    exact rounds_upTo k m st1 h2
  · rw[h1];exact .inr rfl
theorem loop_den (hsy:E.sy=true) {ev:Ev} {b:Code} {st:St} {r:Ex×St} (h:rounds E ev b st.σ.n st.τ (2 ^ 20) st=some r):exec E (callN E ev.n) (.loop b) (toHs E ev.D) st=some r:=by
 rw[exec_loop,hsy]
 simp only
 rcases rounds_upTo 20 0 st h with ⟨st1,h1,h2⟩|h1
 · cases h2
 · rw[h1]
theorem exK_spec (hS : S.ok E) (hsy : E.sy = true) {pc : PC} {st : St} {ev : Ev} {K : List Fm} {k : Cfg → Option Out} {out : Out} (h : exK E S pc st ev K k = some out) :
  ∃ c',k c'=some out∧∀ res,den E c'=some res→den E ⟨.ex pc st,ev,K⟩=some res:=by
 obtain⟨pf,pp,c⟩:=pc
 unfold exK at h
 cases c with
 |skip=>exact⟨_,h,fun res hr=>hr⟩
 |label l=>exact⟨_,h,fun res hr=>hr⟩
 |exit i=>exact⟨_,h,fun res hr=>hr⟩
 |ret=>exact⟨_,h,fun res hr=>hr⟩
 |goto l=>cases h
 |refuse w=>cases h
 |scope b=>exact⟨_,h,fun res hr=>hr⟩
 | region id ops d =>
  cases d with
  |false=>
   refine⟨_,h,fun res hr=>?_⟩
   simp only[den,opsOf] at hr
   simp only[den,exec_region]
   split at hr
   · rename_i s hs;rw[hs];exact hr
   · cases hr
  | true =>
   simp only at h
   have key:∀ {pc:PC} {ops':Array Oper} {fs:List Inf} {na:Nat} {res:Rr},den E ⟨.dr (drOf pc ops' fs na st) { st with σ:=⟨st.σ.t,st.σ.n+na⟩ },ev,K⟩=some res →
     ∃ s,runDrawQ E (callN E ev.n) (toHs E ev.D) ops' fs na st=some s∧contE E K ev .normal s=some res:=by
    intro pc ops' fs na res hr
    simp only[den,restD,drOf] at hr
    split at hr
    · rename_i s hs
      refine⟨s,?_,hr⟩
      unfold runDrawQ
      exact hs
    · cases hr
   split at h
   · rename_i fs na hpl
     refine⟨_,h,fun res hr=>?_⟩
     obtain⟨s,h1,h2⟩:=key hr
     simp only[den,exec_regionD,runDraw,hpl,h1]
     exact h2
   · rename_i hpl
     split at h
     · cases h
     · rename_i ops' hpm
       split at h
       · rename_i fs na hpl2
         refine⟨_,h,fun res hr=>?_⟩
         obtain⟨s,h1,h2⟩:=key hr
         simp only[den,exec_regionD,runDraw,hpl,hpm,runDrawP,hpl2,h1]
         exact h2
       · cases h
 |seq a b=>
  refine⟨_,h,fun res hr=>?_⟩
  simp only[den] at hr⊢
  rw[exec_seq]
  split at hr
  · rename_i e s hs
    rw[hs]
    cases e with
    |normal=>exact hr
    |exit i=>exact hr
    |ret=>exact hr
  · cases hr
 |cond x a b=>
  simp only[evF_eq] at h
  split at h
  · rename_i t ht
    rcases brec h with ⟨rfl,h⟩|⟨rfl,h⟩
    · rw [knowT_spec ht] at h
      refine⟨_,h,fun res hr=>?_⟩
      simp only[den] at hr⊢
      rw[exec_cond,ht];exact hr
    · rw [knowT_spec ht] at h
      refine⟨_,h,fun res hr=>?_⟩
      simp only[den] at hr⊢
      rw[exec_cond,ht];exact hr
  · cases h
 |block i b=>
  refine⟨_,h,fun res hr=>?_⟩
  simp only[den] at hr⊢
  rw[exec_block]
  split at hr
  · rename_i e s hs
    rw[hs]
    cases e with
    |normal=>exact hr
    |exit j=>exact hr
    |ret=>exact hr
  · cases hr
 | loop b =>
  refine⟨_,h,fun res hr=>?_⟩
  simp only[den] at hr⊢
  have key:∀ e s,rounds E ev b st.σ.n st.τ (2 ^ 20) st=some (e,s)→contE E K ev e s=some res→(match exec E (callN E ev.n) (.loop b) (toHs E ev.D) st with
    |some (e,st)=>contE E K ev e st
    |none=>none)=some res:=by
   intro e s h1 h2
   rw[loop_den hsy h1];exact h2
  have e20:(2:Nat) ^ 20=1048575+1:=by decide
  split at hr
  · rename_i e s hs
    cases e with
    |normal=>
     simp only[contE] at hr
     split at hr
     · rename_i e2 s2 h2
       refine key e2 s2 ?_ hr
       rw[e20]
       show (match exec E (callN E ev.n) b (toHs E ev.D) st with
        |some (.normal,st')=>rounds E ev b st.σ.n st.τ 1048575 (clean st.σ.n st.τ st')
        |r=>r)=_
       rw[hs];exact h2
     · cases hr
    |exit i=>
     refine key _ s ?_ hr
     rw[e20]
     show (match exec E (callN E ev.n) b (toHs E ev.D) st with
       |some (.normal,st')=>rounds E ev b st.σ.n st.τ 1048575 (clean st.σ.n st.τ st')
       |r=>r)=_
     rw[hs]
    |ret=>
     refine key _ s ?_ hr
     rw[e20]
     show (match exec E (callN E ev.n) b (toHs E ev.D) st with
       |some (.normal,st')=>rounds E ev b st.σ.n st.τ 1048575 (clean st.σ.n st.τ st')
       |r=>r)=_
     rw[hs]
  · cases hr
 |rangeFunc x ps a b=>
  simp only[evF_eq] at h
  split at h
  · rename_i g first caps hx
    obtain⟨c',h1,h2⟩:=callK_spec hS h
    refine⟨c',h1,fun res hr=>?_⟩
    obtain⟨v,σ',Λ',h3,h4⟩:=h2 res hr
    simp only[den]
    rw[exec_rangeFunc,hx]
    simp only[toHs] at h3
    simp only[h3]
    simp only[contV] at h4
    split at h4
    · exact h4
    · cases h4
  · cases h
theorem resCK_spec {τ : Tmps} {σ : Hp} {out : Out} : ∀ {rs : List ResultVar} {k : List AV → Option Out}, resCK E τ σ k rs = some out → ∃ vs, resultsA E τ σ rs = some vs ∧ k vs = some out
 |[],k,h=>⟨[],rfl,h⟩
 |.tmp t::rs,k,h=>by
  rw[resCK] at h
  split at h
  · rename_i v hv
    obtain⟨vs,h1,h2⟩:=resCK_spec h
    exact⟨v::vs,by simp only[resultsA,hv,h1],h2⟩
  · cases h
 |.cell a t::rs,k,h=>by
  rw[resCK] at h
  split at h
  · rename_i p hp
    split at h
    · rename_i r hr
      split at hr
      · rename_i id off
        split at hr
        · rename_i ro l hget
          obtain⟨v,hk,hv⟩:=loadK_spec hr h
          obtain⟨vs,h1,h2⟩:=resCK_spec hk
          refine⟨v::vs,?_,h2⟩
          rcases hv with ⟨hA,hv⟩|⟨hA,hv,_⟩
          · simp only[resultsA,hp,loadV,hA,loadC,hget,hv,h1]
          · simp only[resultsA,hp,loadV,hA,loadC,hget,hv,h1]
        · cases hr
      · cases hr
    · split at h
      · rename_i v hv
        obtain⟨vs,h1,h2⟩:=resCK_spec h
        exact⟨v::vs,by simp only[resultsA,hp,hv,h1],h2⟩
      · cases h
  · cases h
theorem retK_spec {e : Ex} {st : St} {ev : Ev} {K : List Fm} {k : Cfg → Option Out} {out : Out} (h : retK E S e st ev K k = some out) :
  ∃ c',k c'=some out∧∀ res,den E c'=some res→den E ⟨.rt e st,ev,K⟩=some res:=by
 unfold retK at h
 cases K with
 |nil=>cases h
 | cons F K =>
  cases F with
  |seq b=>
   cases e with
   |normal=>exact⟨_,h,fun res hr=>hr⟩
   |exit i=>exact⟨_,h,fun res hr=>hr⟩
   |ret=>exact⟨_,h,fun res hr=>hr⟩
  |asg b=>
   cases e with
   |normal=>exact⟨_,h,fun res hr=>hr⟩
   |exit i=>cases h
   |ret=>cases h
  |blk i=>
   cases e with
   |normal=>exact⟨_,h,fun res hr=>hr⟩
   |exit i=>exact⟨_,h,fun res hr=>hr⟩
   |ret=>exact⟨_,h,fun res hr=>hr⟩
  | lop b n0 τ0 j =>
   cases e with
   |normal=>
    simp only at h
    split at h
    · cases h
    · rename_i j
      have h:=cleanK_spec h
      refine⟨_,h,fun res hr=>?_⟩
      simp only[den,contE,rounds] at hr⊢
      split at hr
      · rename_i e2 s2 h2
        cases e2 with
        |normal=>simp only[h2];exact hr
        |exit i=>simp only[h2];exact hr
        |ret=>simp only[h2];exact hr
      · cases hr
   |exit i=>exact⟨_,h,fun res hr=>hr⟩
   |ret=>exact⟨_,h,fun res hr=>hr⟩
  | cal rs r =>
   simp only at h
   have key:∀ {c':Cfg},(∃ vs,resultsA E st.τ st.σ rs=some vs∧st.ds=[]∧((∃ v,vs=[v]∧c'=⟨.vl r v st.σ st.Λ,ev,K⟩)∨((∀ v,vs≠[v])∧c'=⟨.vl r (.tup vs) st.σ st.Λ,ev,K⟩)))→(∀ i,e≠.exit i)→∀ res,den E c'=some res→den E ⟨.rt e st,ev,.cal rs r::K⟩=some res:=by
    rintro c' ⟨vs,h1,h2,h3⟩ hne res hr
    have hd:runDefers E (callN E ev.n) (toHs E ev.D) st.ds st.σ st.Λ=some (st.σ,st.Λ):=by rw[h2];rfl
    have:(match resultsA E st.τ st.σ rs with
     |some [v]=>contV E (contE E K) r v st.σ st.Λ
     |some vs=>contV E (contE E K) r (.tup vs) st.σ st.Λ
     |none=>none)=some res:=by
     rcases h3 with ⟨v,rfl,rfl⟩|⟨hnv,rfl⟩
     · rw[h1];exact hr
     · rw [h1]
       split
       · rename_i v e;simp only[Option.some.injEq] at e;exact absurd e (hnv v)
       · rename_i e;simp only[Option.some.injEq] at e;rw[← e];exact hr
       · rename_i e;cases e
    simp only[den,contE]
    cases e with
    |exit i=>exact absurd rfl (hne i)
    |normal=>simp only[hd];exact this
    |ret=>simp only[hd];exact this
   cases e with
   |exit i=>cases h
   |normal=>
    simp only at h
    split at h
    · rename_i hds
      obtain⟨vs,hv,h⟩:=resCK_spec h
      split at h
      · rename_i v
        exact⟨_,h,key ⟨_,hv,hds,.inl ⟨v,rfl,rfl⟩⟩ (fun i h=>by cases h)⟩
      · rename_i hnv
        exact⟨_,h,key ⟨_,hv,hds,.inr ⟨fun v e=>hnv v e,rfl⟩⟩ (fun i h=>by cases h)⟩
    · cases h
   |ret=>
    simp only at h
    split at h
    · rename_i hds
      obtain⟨vs,hv,h⟩:=resCK_spec h
      split at h
      · rename_i v
        exact⟨_,h,key ⟨_,hv,hds,.inl ⟨v,rfl,rfl⟩⟩ (fun i h=>by cases h)⟩
      · rename_i hnv
        exact⟨_,h,key ⟨_,hv,hds,.inr ⟨fun v e=>hnv v e,rfl⟩⟩ (fun i h=>by cases h)⟩
    · cases h
  |rnd pre r=>
   simp only at h
   split at h
   · rename_i hds
     refine⟨_,h,fun res hr=>?_⟩
     simp only[den,contE,hds]
     exact hr
   · cases h
theorem frzTD_spec {v:AV} {σ:Hp} {k:AV→Hp→Option Out} {out:Out} (h:frzTD v σ k=some out):∃ v' σ',frzT v σ=some (v',σ')∧k v' σ'=some out:=by
 cases v with
 | ptr id off =>
  simp only[frzTD] at h
  cases hget:σ.get id with
  |none=>simp only[hget] at h;cases h
  | some o =>
   cases o with
   |cells ro l=>
    simp only[hget] at h
    obtain⟨l',σ',h1,h2⟩:=frzDL_spec 5000 _ h
    exact⟨.cp l' off,σ',by simp only[frzT,hget,h1],h2⟩
   |_=>simp only[hget] at h;cases h
 |_=>
  simp only[frzTD] at h
  obtain⟨v',σ',h1,h2⟩:=frzD_spec 5000 _ h
  exact⟨v',σ',by simp only[frzT];exact h1,h2⟩
theorem frzTDL_spec {out:Out}:∀ (l:List AV) {σ:Hp} {k:List AV→Hp→Option Out},frzTDL l σ k=some out→∃ l' σ',frzTL l σ=some (l',σ')∧k l' σ'=some out
 |[],σ,k,h=>⟨[],σ,rfl,h⟩
 |v::vs,σ,k,h=>by
  simp only[frzTDL] at h
  obtain⟨v',σ1,h1,h2⟩:=frzTD_spec h
  obtain⟨l',σ2,h3,h4⟩:=frzTDL_spec vs h2
  exact⟨v'::l',σ2,by simp only[frzTL,h1,h3],h4⟩
theorem doneK_spec {v:AV} {σ:Hp} {out:Out} (h:doneK v σ=some out):∃ v',frzV v σ=some v'∧out=.done v':=by
 cases v with
 |tup l=>
  simp only[doneK] at h
  obtain⟨l',σ',h1,h2⟩:=frzTDL_spec _ h
  simp only[Option.some.injEq] at h2;subst h2
  exact⟨_,by simp only[frzV,h1],rfl⟩
 |_=>
  simp only[doneK] at h
  obtain⟨l',σ',h1,h2⟩:=frzTD_spec h
  simp only[Option.some.injEq] at h2;subst h2
  exact⟨_,by simp only[frzV,h1],rfl⟩
theorem valK_spec {r:Rt} {v:AV} {σ:Hp} {Λ:List LF} {ev:Ev} {K:List Fm} {k:Cfg→Option Out} {out:Out} (h:valK r v σ Λ K k=some out) :
  (∃ v',out=.done v'∧den E ⟨.vl r v σ Λ,ev,K⟩=some (v,σ,[])∧frzV v σ=some v')∨∃ c',k c'=some out∧∀ res,den E c'=some res→den E ⟨.vl r v σ Λ,ev,K⟩=some res:=by
 unfold valK at h
 cases r with
 |top=>
  simp only at h
  split at h
  · obtain ⟨v', h1, rfl⟩ := doneK_spec h
    exact .inl ⟨v',rfl,rfl,h1⟩
  · cases h
 |op pc j dst rest τ ds nt rnd ev'=>
  simp only at h
  split at h
  · rename_i s hs
    refine .inr ⟨_,h,fun res hr=>?_⟩
    simp only[den] at hr
    simp only[den,contV,hs]
    split at hr
    · rename_i s2 h2;simp only[h2];exact hr
    · cases hr
  · cases h
 |dr d o f τ ds nt rnd ev'=>
  simp only at h
  split at h
  · rename_i s hs
    refine .inr ⟨_,h,fun res hr=>?_⟩
    simp only[den] at hr
    simp only[den,contV,hs]
    split at hr
    · rename_i s2 h2;simp only[h2];exact hr
    · cases hr
  · cases h
 |rng τ ds nt rnd ev'=>
  simp only at h
  split at h
  · exact .inr ⟨_,h,fun res hr=>hr⟩
  · cases h
 |cln n0 r=>cases h
 |dn r=>cases h
theorem stepK_spec (hS:S.ok E) (hsy:E.sy=true) {c:Cfg} {k:Cfg→Option Out} {out:Out} (h:stepK E S c k=some out) :
  (∃ v v0 σ,out=.done v∧den E c=some (v0,σ,[])∧frzV v0 σ=some v)∨∃ c',k c'=some out∧∀ res,den E c'=some res→den E c=some res:=by
 obtain⟨cu,ev,K⟩:=c
 unfold stepK at h
 cases cu with
 |ex pc st=>exact .inr (exK_spec hS hsy h)
 |op pc j rest st=>exact .inr (opsK_spec hS h)
 |dr d st=>exact .inr (drK_spec hS h)
 |rt e st=>exact .inr (retK_spec h)
 |vl r v σ Λ=>
  simp only at h
  split at h
  · rename_i n0 r
    have h:=clnK_spec h
    refine .inr ⟨_,h,fun res hr=>?_⟩
    unfold rtD at hr
    split at hr
    · exact hr
    · exact hr
  · exact .inr ⟨_,h,fun res hr=>hr⟩
  · rcases valK_spec (E := E) (ev := ev) h with ⟨v', h1, h2⟩ | h
    · exact .inl ⟨v',v,σ,h1,h2⟩
    · exact .inr h
def Goto (E:Env) (c c':Cfg):Prop:=∀ res,den E c'=some res→den E c=some res
theorem Goto.refl (c:Cfg):Goto E c c:=fun _ h=>h
theorem Goto.trans {a b c:Cfg} (h:Goto E a b) (k:Goto E b c):Goto E a c:=fun r x=>h r (k r x)
theorem adv_spec (hS:S.ok E) (hsy:E.sy=true):∀ {n:Nat} {c:Cfg} {out:Out},adv E S n c=some out→match out with
  |.stop c'=>Goto E c c'
  |.done v=>∃ v0 σ,den E c=some (v0,σ,[])∧frzV v0 σ=some v
 |0,c,out,h=>by cases h
 |n+1,c,out,h=>by
  simp only[adv] at h
  rcases stepK_spec hS hsy h with ⟨v,v0,σ,rfl,h1⟩|⟨c1,h1,h2⟩
  · exact⟨v0,σ,h1⟩
  · split at h1
    · simp only [Option.some.injEq] at h1; subst h1
      exact h2
    · have := adv_spec hS hsy h1
      cases out with
      |stop c'=>exact Goto.trans h2 this
      |done v=>obtain⟨v0,σ,h3,h4⟩:=this;exact⟨v0,σ,h2 _ h3,h4⟩
noncomputable def callC (f:Nat) (args:List AV) (n:Nat) (fn:Func) (body:Code):Cfg:=
 ⟨.ex ⟨f,[],body⟩ ⟨tmps0 fn.ntmps (.full (dep fn.ntmps)) 0 args,.empty,[],[],args.length+(fn.ntmps-args.length),false⟩,⟨n,[]⟩,[.cal fn.results.toList .top]⟩
theorem callC_spec {f:Nat} {args:List AV} {n:Nat} {fn:Func} {body:Code} {v:AV} {σ:Hp} {Λ:List LF} (hx:E.ext f args=none) (hf:E.fn f=some fn) (hb:fn.body=some body) (h:den E (callC f args n fn body)=some (v,σ,Λ)) :
  ∃ σ',callN E (n+1) f args .empty [] []=some (v,σ',Λ)∧(σ'=σ∨scal1 v=true):=by
 suffices hs:bodyN E (callN E n) f args .empty [] []=some (v,σ,Λ) by
  rw[callN_succ]
  simp only[trimN,hx,hs]
  unfold trimR
  cases E.tr f with
  |false=>exact⟨σ,rfl,.inl rfl⟩
  |true=>
   refine⟨_,rfl,?_⟩
   unfold cln
   cases e:scal1 v with
   |true=>exact .inr rfl
   |false=>exact .inl rfl
 have h':den E ⟨(callC f args n fn body).cu,⟨n,[]⟩,[.cal fn.results.toList .top]⟩=some (v,σ,Λ):=h
 simp only[den,callC] at h'
 simp only[bodyN,hx,hf,hb]
 split at h'
 · rename_i e st hxe
   have hxe':exec E (callN E n) body [] ⟨tmps0 fn.ntmps (.full (dep fn.ntmps)) 0 args,.empty,[],[],args.length+(fn.ntmps-args.length),false⟩=some (e,st):=hxe
   rw[hxe']
   simp only[contE] at h'
   simp only
   split at h'
   · cases h'
   · rename_i hne
     split at h'
     · cases h'
     · rename_i σ1 Λ1 hd
       have hd':runDefers E (callN E n) [] st.ds st.σ st.Λ=some (σ1,Λ1):=hd
       split at h'
       · rename_i w hvs
         simp only[contV,Option.some.injEq,Prod.mk.injEq] at h';obtain⟨rfl,rfl,rfl⟩:=h'
         cases e with
         |exit i=>exact absurd rfl (hne i)
         |normal=>simp only[hd',hvs]
         |ret=>simp only[hd',hvs]
       · rename_i vs hnv hvs
         simp only[contV,Option.some.injEq,Prod.mk.injEq] at h';obtain⟨rfl,rfl,rfl⟩:=h'
         cases e with
         |exit i=>exact absurd rfl (hne i)
         |normal=>simp only[hd',hvs]
         |ret=>simp only[hd',hvs]
       · cases h'
 · cases h'
end
end Go.Eng


namespace Go.Eng
open Go
noncomputable def codeAt (c:Code):List Nat→Code
 |[]=>c
 |i::p=>match c with
  |.seq a b=>match i with|0=>codeAt a p|_=>codeAt b p
  |.cond _ a b=>match i with|0=>codeAt a p|_=>codeAt b p
  |.block _ b=>codeAt b p
  |.loop b=>codeAt b p
  |.scope b=>codeAt b p
  |.rangeFunc _ _ a b=>match i with|0=>codeAt a p|_=>codeAt b p
  |_=>.skip
noncomputable def bodyOf (E:Env) (f:Nat):Code:=
 match E.fn f with
 |some fn=>match fn.body with
  |some b=>b
  |none=>.skip
 |none=>.skip
noncomputable def pcOf (E:Env) (f:Nat) (p:List Nat):PC:=⟨f,p,codeAt (bodyOf E f) p.reverse⟩
noncomputable def tmOf (nt:Nat):List (Nat×AV)→Tmps
 |[]=>.full (dep nt)
 |(i,v)::l=>(tmOf nt l).set i v
noncomputable def hpOf (n:Nat):List (Nat×AO)→Hp
 |[]=>⟨.full 22,n⟩
 |(i,o)::l=>⟨(hpOf n l).t.set i o,n⟩
noncomputable def startC (E:Env) (f:Nat) (args:List AV) (n:Nat):Cfg:=
 match E.fn f with
 |some fn=>match fn.body with
  |some b=>callC f args n fn b
  |none=>⟨.rt .ret ⟨.lf,.empty,[],[],0,false⟩,⟨0,[]⟩,[]⟩
 |none=>⟨.rt .ret ⟨.lf,.empty,[],[],0,false⟩,⟨0,[]⟩,[]⟩
theorem startC_spec {E:Env} {f:Nat} {args:List AV} {n:Nat} {v:AV} {σ:Hp} {Λ:List LF} (hx:E.ext f args=none) (hf:∃ fn b,E.fn f=some fn∧fn.body=some b) (h:den E (startC E f args n)=some (v,σ,Λ)):∃ σ',callN E (n+1) f args .empty [] []=some (v,σ',Λ)∧(σ'=σ∨scal1 v=true):=by
 obtain⟨fn,b,h1,h2⟩:=hf
 simp only[startC,h1,h2] at h
 exact callC_spec hx h1 h2 h
end Go.Eng


namespace Go.Eng
open Go
def Tells (v w:AV):Prop:=∀ V R,VR V v R→VR V w R
def TellsL (v w:List AV):Prop:=∀ V R,VRs V v R→VRs V w R
theorem Tells.refl (v:AV):Tells v v:=fun _ _ h=>h
theorem Tells.trans {a b c:AV} (h:Tells a b) (k:Tells b c):Tells a c:=fun V R x=>k V R (h V R x)
theorem TellsL.refl (v:List AV):TellsL v v:=fun _ _ h=>h
theorem TellsL.nil:TellsL [] []:=fun _ _ h=>h
theorem TellsL.cons {a b:AV} {l m:List AV} (h:Tells a b) (k:TellsL l m):TellsL (a::l) (b::m):=fun V R x=>by
 obtain⟨X,Xs,rfl,hX,hXs⟩:=x.cons_inv
 exact .cons (h V X hX) (k V Xs hXs)
theorem VRs.splitL {V:View}:∀ {a c:List AV} {R:List Value},VRs V (a++c) R→∃ R1 R2,R=R1++R2∧VRs V a R1∧VRs V c R2
 |[],c,R,h=>⟨[],R,rfl,.nil _,h⟩
 |x::a,c,R,h=>by
  obtain⟨X,Xs,rfl,h1,h2⟩:=VRs.cons_inv (az:=a++c) h
  obtain⟨R1,R2,rfl,h3,h4⟩:=VRs.splitL h2
  exact⟨X::R1,R2,rfl,.cons h1 h3,h4⟩
theorem VRs.joinL {V:View}:∀ {a c:List AV} {R1 R2:List Value},VRs V a R1→VRs V c R2→VRs V (a++c) (R1++R2)
 |[],c,R1,R2,h,k=>by cases h.nil_inv;exact k
 |x::a,c,R1,R2,h,k=>by
  obtain⟨X,Xs,rfl,h1,h2⟩:=h.cons_inv
  exact .cons h1 (VRs.joinL h2 k)
theorem TellsL.append {a b c d:List AV} (h:TellsL a b) (k:TellsL c d):TellsL (a++c) (b++d):=by
 intro V R hx
 obtain⟨R1,R2,rfl,h1,h2⟩:=hx.splitL
 exact (h V _ h1).joinL (k V _ h2)
theorem Tells.agg {a b:List AV} (h:TellsL a b):Tells (.agg a) (.agg b):=fun V R x=>by
 obtain⟨L,rfl,hL⟩:=x.agg_inv
 exact .agg' (h V L hL)
theorem Tells.csl {t:Ty} {l:List t.den}:Tells (.csl (flat t l) l.length) (.vs t false l):=fun V R x=>by
 obtain⟨blk,o,cap,A,f,hk,hv,hc,rfl,ha⟩:=x.csl_inv
 exact .vs t l blk o cap A f hk hv hc ha
theorem Tells.nils {t:Ty}:Tells .nils (.vs t true []):=fun V R x=>by cases x;exact .vsn t
def Ans (E:Env) (c:Cfg) (v:AV):Prop:=∃ v0 σ v1,den E c=some (v0,σ,[])∧frzV v0 σ=some v1∧Tells v1 v
section
variable {E:Env} {S:Sy} (hS:S.ok E) (hsy:E.sy=true)
include hS hsy
theorem Ans.stop {n:Nat} {c c':Cfg} {v:AV} (h:adv E S n c=some (.stop c')) (k:Ans E c' v):Ans E c v:=by
 obtain⟨v0,σ,v1,k,k2⟩:=k
 exact⟨v0,σ,v1,adv_spec hS hsy h _ k,k2⟩
theorem Ans.doneT {n:Nat} {c:Cfg} {v1 v:AV} (h:adv E S n c=some (.done v1)) (ht:Tells v1 v):Ans E c v:=by
 obtain⟨v0,σ,h1,h2⟩:=adv_spec hS hsy h
 exact⟨v0,σ,v1,h1,h2,ht⟩
theorem Ans.done {n:Nat} {c:Cfg} {v v':AV} (h:adv E S n c=some (.done v)) (e:v=v'):Ans E c v':=Ans.doneT hS hsy h (e▸.refl _)
end
section
variable {P:Program} {E:Env}
theorem frzT_spec {base:Nat} {V:View} {σ σ':Hp} {W:World} {v v':AV} {R:Value} (H:HR E base V σ W) (hv:VR V v R) (h:frzT v σ=some (v',σ')):∃ V',Fz E base V σ W V' σ'∧VR V'.bare v' R:=by
 cases v with
 | ptr id off =>
  simp only[frzT] at h
  split at h
  · rename_i ro l hget
    split at h
    · rename_i r hcs
      simp only[Option.some.injEq,Prod.mk.injEq] at h;obtain⟨rfl,rfl⟩:=h
      cases hv with
      |ptr _ _ blk s hm=>
       obtain⟨V1,hf1,L,hL,hK⟩:=frz_one H hget hm
       obtain⟨V2,hf2,hcs2⟩:=(frz_both (E:=E) (base:=base) (W:=W) 5000).2 _ _ V1 _ _ L hf1.hr (hL.mono hf1.le) hcs
       refine⟨V2,hf1.trans hf2,.cp r.1 off blk s (fun i=>L.getD i undef) (fun i hi=>?_) (fun i hi=>?_)⟩
       · have hi' : i < L.length := by rw [← hcs2.1]; exact hi
         show V2.K blk (s+i)=_
         rw[hf2.le.K _ _ _ (hK i hi')]
         simp[List.getD,hi']
       · have hi' : i < L.length := by rw [← hcs2.1]; exact hi
         have:=hcs2.2 i hi hi'
         simp only[List.getD,List.getElem?_eq_getElem hi',Option.getD_some]
         exact this
    · cases h
  · cases h
 |_=>
  simp only[frzT] at h
  exact (frz_both (E:=E) (base:=base) (W:=W) 5000).1 _ v' V σ σ' R H hv h
theorem frzTL_spec {base:Nat} {W:World}:∀ (l:List AV) {l':List AV} {V:View} {σ σ':Hp} {L:List Value},HR E base V σ W→VRs V l L→frzTL l σ=some (l',σ')→∃ V',Fz E base V σ W V' σ'∧VRs V'.bare l' L
 |[],l',V,σ,σ',L,H,hl,h=>by
  simp only[frzTL,Option.some.injEq,Prod.mk.injEq] at h;obtain⟨rfl,rfl⟩:=h
  cases hl.nil_inv;exact⟨V,.refl H,.nil _⟩
 |v::vs,l',V,σ,σ',L,H,hl,h=>by
  obtain⟨X,Xs,rfl,hX,hXs⟩:=hl.cons_inv
  simp only[frzTL] at h
  split at h
  · rename_i r hr
    split at h
    · rename_i q hq
      simp only[Option.some.injEq,Prod.mk.injEq] at h;obtain⟨rfl,rfl⟩:=h
      obtain⟨V1,hf1,hx1⟩:=frzT_spec H hX hr
      obtain⟨V2,hf2,hx2⟩:=frzTL_spec vs hf1.hr (hXs.mono hf1.le) hq
      exact⟨V2,hf1.trans hf2,.cons (hx1.mono (View.bare_mono hf2.le.K)) hx2⟩
    · cases h
  · cases h
theorem frzV_spec {base:Nat} {V:View} {σ:Hp} {W:World} {v v':AV} {R:Value} (H:HR E base V σ W) (hv:VR V v R) (h:frzV v σ=some v'):∃ V' σ',Fz E base V σ W V' σ'∧VR V'.bare v' R:=by
 unfold frzV at h
 split at h
 · rename_i l
   split at h
   · rename_i r hr
     simp only[Option.some.injEq] at h;subst h
     cases hv with
     |tup _ A ha hav=>
      obtain⟨V',h1,h2⟩:=frzTL_spec l H ⟨ha,hav⟩ hr
      exact⟨V',_,h1,.tup _ _ h2.1 h2.2⟩
   · cases h
 · split at h
   · rename_i r hr
     simp only[Option.some.injEq] at h;subst h
     obtain⟨V',h1,h2⟩:=frzT_spec H hv hr
     exact⟨V',_,h1,h2⟩
   · cases h
theorem closed_callH (hc:∀ n,CallOK P E (callN E n)) {n f:Nat} {args:List AV} {v0 v:AV} {σ:Hp} (h:callN E n f args .empty [] []=some (v0,σ,[])) (hz:frzV v0 σ=some v) {V:View} {A:List Value} {W:World} (ha:VRs V args A) (hcl:args.all (closedA 9)=true)
  (hK:∀ b o x,V.K b o=some x→W.cell? ⟨b,o,none⟩=some x) (hg:GlobK E V) :
  ∃ R W' V',KG V V' W W'∧VR V' v R∧Fr (fun _=>False) W W'∧Goes P f A.toArray W R W':=by
 obtain⟨V1,O',W',R,hP,hr,_,_,_,hv,hgo⟩:=hc n f args .empty [] [] v0 σ [] h W.heap.size invT (alone V) A (fun _=>False) W invT_ok (fun lvl h e=>by cases e) (HR.alone hK hg _) (Nat.le_refl _) (closedA_list hcl ha) (fun _ h=>h) (fun _ _ h=>h) (fun i x hx=>by simp[Eng.alone] at hx)
 obtain⟨V2,σ2,hf,hv2⟩:=frzV_spec hr hv hz
 have hle:V2.bare.le { V with K:=V2.K }:=⟨fun _ _ h=>by simp[View.bare] at h,fun _ _ h=>by simp[View.bare] at h,fun _ _ _ h=>h,fun _ _ _ h=>by simp[View.bare] at h⟩
 refine⟨R,W',{ V with K:=V2.K },⟨rfl,rfl,rfl,fun b o x hx=>hf.le.K _ _ _ (hP.le.K _ _ _ hx),fun b o x hx=>?_⟩,hv2.mono hle,hP.fr.weaken (fun b _ hb=>hb.elim (no_own b) (fun h=>h)),hgo⟩
 have hcell:=hf.hr.cell _ _ _ hx
 rcases hf.K b o x hx with h1|h1
 · rcases hP.K b o x h1 with h | (h | h) | h
   · exact .inl h
   · exact absurd h (no_own b)
   · exact h.elim
   · exact .inr ⟨h,hcell⟩
 · rcases hP.own b h1 with h | h
   · exact absurd h (no_own b)
   · exact .inr ⟨h,hcell⟩
theorem frzV_boolI {v : AV} {σ : Hp} {b : Bool} (h : frzV v σ = some (.bool b)) : v = .bool b := by
 unfold frzV at h
 split at h
 · split at h<;>cases h
 · rename_i hne
   have hp : ∀ id off, v ≠ .ptr id off := fun id off e => by
    subst e
    simp only[frzT] at h
    split at h
    · rename_i r hr
      split at hr
      · split at hr
        · simp only[Option.some.injEq] at hr;subst hr;cases h
        · cases hr
      · cases hr
    · cases h
   have hT:frzT v σ=frz 5000 v σ:=by
    unfold frzT
    split
    · exact absurd rfl (hp _ _)
    · rfl
   rw[hT] at h
   obtain⟨n,hn⟩:∃ n,(5000:Nat)=n+1:=⟨4999,rfl⟩
   rw[hn] at h
   cases v with
   | sl id off len cl sz =>
    simp only[frz] at h
    split at h
    · rename_i r hr
      split at hr
      · split at hr
        · simp only[Option.some.injEq] at hr;subst hr;cases h
        · split at hr
          · simp only[Option.some.injEq] at hr;subst hr;cases h
          · cases hr
      · cases hr
    · cases h
   |agg l=>
    simp only[frz] at h
    split at h
    · rename_i r hr
      split at hr
      · simp only[Option.some.injEq] at hr;subst hr;cases h
      · cases hr
    · cases h
   |ifc t v=>
    simp only[frz] at h
    split at h
    · rename_i r hr
      split at hr
      · simp only[Option.some.injEq] at hr;subst hr;cases h
      · cases hr
    · cases h
   |tup l=>exact absurd rfl (hne l)
   |ptr|fsl|mp|iter|fn|yld|cp|mv=>simp only[frz] at h;cases h
   |_=>simp only[frz,Option.some.injEq] at h;exact h
theorem adv_true {S:Sy} (hS:S.ok E) (hsy:E.sy=true) {n m f:Nat} {args:List AV} (hx:E.ext f args=none) (hf:∃ fn b,E.fn f=some fn∧fn.body=some b) (h:adv E S n (startC E f args m)=some (.done (.bool true))):∃ σ,callN E (m+1) f args .empty [] []=some (.bool true,σ,[]):=by
 obtain⟨v0,σ,h1,h2⟩:=adv_spec hS hsy h
 have:=frzV_boolI h2
 subst this
 obtain⟨σ',h1,_⟩:=startC_spec hx hf h1
 exact⟨σ',h1⟩
def AnsF (E:Env) (f:Nat) (args:List AV) (v:AV):Prop:=∃ n v0 σ v1,callN E n f args .empty [] []=some (v0,σ,[])∧frzV v0 σ=some v1∧Tells v1 v
theorem Ans.call {f:Nat} {args:List AV} {n:Nat} {v:AV} (hx:E.ext f args=none) (hf:∃ fn b,E.fn f=some fn∧fn.body=some b) (h:Ans E (startC E f args n) v):AnsF E f args v:=by
 obtain⟨v0,σ,v1,h1,h2⟩:=h
 obtain⟨σ',h3,h4⟩:=startC_spec hx hf h1
 refine⟨n+1,v0,σ',v1,h3,?_⟩
 rcases h4 with rfl|h4
 · exact h2
 · cases v0 with
   |bool b=>exact h2
   |int k n=>exact h2
   |_=>cases h4
def Con (E:Env) (S:Nat→List AV→Option AV):Prop:=∀ f args v,S f args=some v→∃ args',TellsL args args'∧args'.all (closedA 9)=true∧AnsF E f args' v
end
noncomputable def under (x:Nat→List AV→Option (Bool×AV)) (f:Nat) (args:List AV):Option AV:=
 match x f args with
 |some (c,v)=>match c with
  |true=>some v
  |false=>none
 |none=>none
theorem under_iff {x:Nat→List AV→Option (Bool×AV)} {f:Nat} {args:List AV} {v:AV}:under x f args=some v↔x f args=some (true,v):=by
 unfold under
 split
 · rename_i c w h
   rw[h]
   cases c<;>simp
 · rename_i h;rw[h];simp
theorem ile_iff {a b:Int}:ile a b=decide (a≤b):=ile_eq a b
theorem ieq_iff {a b:Int}:ieq a b=decide (a=b):=by rw[ieq_eq];rfl
theorem inB_iff {a:Int} {n:Nat}:inB a n=decide (0≤a∧a<n):=by
 cases a with
 |ofNat m=>
  simp only[inB]
  by_cases h:m<n
  · rw[Nat.ble_eq_true_of_le h,decide_eq_true];simp only[Int.ofNat_eq_natCast];omega
  · rw [decide_eq_false (by simp only [Int.ofNat_eq_natCast]; omega)]
    cases e:Nat.ble (m+1) n with
    |false=>rfl
    |true=>exact absurd (Nat.le_of_ble_eq_true e) h
 |negSucc m=>
  simp only[inB]
  rw[decide_eq_false]
  omega
theorem wr_in {n:Int} (h1:-9223372036854775808≤n) (h2:n≤9223372036854775807):wr .i64 n=n:=by
 cases n with
 |ofNat m=>
  simp only[wr]
  rw[Nat.ble_eq_true_of_le (by simp only[Int.ofNat_eq_natCast] at h2;omega)]
 |negSucc m=>
  simp only[wr]
  rw[Nat.ble_eq_true_of_le (by omega)]
end Go.Eng


namespace Go.Eng
open Go
noncomputable def tyCast (T t:Ty) (l:List T.den):Option (List t.den):=if h:Ty.eqb T t=true then some (Ty.eqb_eq h▸l) else none
theorem tyCast_spec {T t:Ty} {l:List T.den} {l':List t.den} (h:tyCast T t l=some l'):∃ e:T=t,l'=e▸l:=by
 unfold tyCast at h
 split at h
 · rename_i e
   simp only[Option.some.injEq] at h
   exact⟨Ty.eqb_eq e,h.symm⟩
 · cases h
section
variable {α:Type} (f:List AV→Option (Bool×α×List AV))
noncomputable def unf:Nat→List AV→List α
 |0,_=>[]
 |n+1,l=>match f l with
  |some (_,d,l)=>d::unf n l
  |none=>[]
noncomputable def isF:Nat→List AV→Bool
 |0,l=>match l with
  |[]=>true
  |_=>false
 |n+1,l=>match f l with
  |some (c,_,l)=>c&&isF n l
  |none=>false
end
noncomputable def rd:(t:Ty)→List AV→Option (Bool×t.den×List AV)
 | .int k, l => match l with
  |.int k' n::l=>match ikb k' k with
   |true=>some (true,n,l)
   |false=>none
  |_=>none
 |.bool,l=>match l with
  |.bool b::l=>some (true,b,l)
  |_=>none
 |.str,l=>match l with
  |.str b::l=>some (true,b,l)
  |_=>none
 |.nil,l=>some (true,(),l)
 | .cons t ts, l => match rd t l with
  |some (c,a,l)=>match rd ts l with
   |some (q,b,l)=>some (c&&q,(a,b),l)
   |none=>none
  |none=>none
 | .sl t, l => match l with
  |.vs T nl x::l=>match tyCast T t x with
   |some x=>some (true,(nl,x),l)
   |none=>none
  |.nils::l=>some (true,(true,[]),l)
  |.csl cells n::l=>some (isF (rd t) n cells,(false,unf (rd t) n cells),l)
  |_=>none
theorem TellsL.one {a b:AV} (h:Tells a b) (l:List AV):TellsL (a::l) ([b]++l):=TellsL.cons h (.refl l)
theorem isF_spec {t:Ty} (ih:∀ (l r:List AV) (d:t.den),rd t l=some (true,d,r)→TellsL l (t.cells d++r)):∀ (n:Nat) (l:List AV),isF (rd t) n l=true→TellsL l (flat t (unf (rd t) n l))∧(unf (rd t) n l).length=n
 |0,l,h=>by
  simp only[isF] at h
  split at h
  · exact⟨.nil,rfl⟩
  · cases h
 |n+1,l,h=>by
  simp only[isF] at h
  split at h
  · rename_i c d r h1
    simp only[Bool.and_eq_true] at h
    obtain⟨rfl,h2⟩:=h
    obtain⟨k1,k2⟩:=isF_spec ih n r h2
    have e:unf (rd t) (n+1) l=d::unf (rd t) n r:=by simp only[unf,h1]
    rw[e]
    refine⟨fun V R hx=>?_,by simp[k2]⟩
    have:=TellsL.append (.refl (t.cells d)) k1 V R (ih _ _ _ h1 V R hx)
    simpa [flat] using this
  · cases h
theorem isF_csl {t:Ty} {n:Nat} {l:List AV} {ds:List t.den} (h1:TellsL l (flat t ds)) (h2:ds.length=n):Tells (.csl l n) (.vs t false ds):=by
 subst h2
 intro V R hx
 obtain⟨blk,o,cap,A,f,hk,hv,hc,rfl,ha⟩:=hx.csl_inv
 have hV:VRs V.bare l ((List.range l.length).map f):=⟨by simp,fun i h h'=>by simp only[List.getElem_map,List.getElem_range];exact hv i h⟩
 have hW:=h1 _ _ hV
 have hlen:(flat t ds).length=l.length:=by rw[hW.1];simp
 refine .vs t ds blk o cap A f (fun i hi=>hk i (by omega)) (fun i hi=>?_) hc ha
 have:=hW.2 i hi (by simp;omega)
 simpa using this
theorem rd_spec:∀ (t:Ty) (l r:List AV) (d:t.den),rd t l=some (true,d,r)→TellsL l (t.cells d++r)
 |.int k,l,r,d,h=>by
  simp only[rd] at h
  split at h
  · split at h
    · rename_i hk
      simp only[Option.some.injEq,Prod.mk.injEq] at h;obtain⟨_,rfl,rfl⟩:=h
      have:=ikb_eq hk;subst this
      exact .refl _
    · cases h
  · cases h
 |.bool,l,r,d,h=>by
  simp only[rd] at h
  split at h
  · simp only [Option.some.injEq, Prod.mk.injEq] at h; obtain ⟨_, rfl, rfl⟩ := h
    exact .refl _
  · cases h
 |.str,l,r,d,h=>by
  simp only[rd] at h
  split at h
  · simp only [Option.some.injEq, Prod.mk.injEq] at h; obtain ⟨_, rfl, rfl⟩ := h
    exact .refl _
  · cases h
 |.nil,l,r,d,h=>by
  simp only[rd,Option.some.injEq,Prod.mk.injEq] at h;obtain⟨_,_,rfl⟩:=h
  exact .refl _
 |.cons t ts,l,r,d,h=>by
  simp only[rd] at h
  split at h
  · rename_i c a l1 h1
    split at h
    · rename_i q b l2 h2
      simp only[Option.some.injEq,Prod.mk.injEq,Bool.and_eq_true] at h;obtain⟨⟨rfl,rfl⟩,rfl,rfl⟩:=h
      have k1:=rd_spec t _ _ _ h1
      have k2:=rd_spec ts _ _ _ h2
      intro V R hx
      have:=TellsL.append (.refl (t.cells a)) k2 V R (k1 V R hx)
      simpa [Ty.cells,List.append_assoc] using this
    · cases h
  · cases h
 |.sl t,l,r,d,h=>by
  simp only[rd] at h
  split at h
  · split at h
    · rename_i hc
      simp only[Option.some.injEq,Prod.mk.injEq] at h;obtain⟨_,rfl,rfl⟩:=h
      obtain⟨e,rfl⟩:=tyCast_spec hc
      subst e
      exact .refl _
    · cases h
  · simp only [Option.some.injEq, Prod.mk.injEq] at h; obtain ⟨_, rfl, rfl⟩ := h
    exact .one .nils _
  · simp only [Option.some.injEq, Prod.mk.injEq] at h; obtain ⟨hc, rfl, rfl⟩ := h
    obtain⟨k1,k2⟩:=isF_spec (fun l r d=>rd_spec t l r d) _ _ hc
    exact .one (isF_csl k1 k2) _
  · cases h
theorem ikb_self (k:IntKind):ikb k k=true:=by cases k<;>rfl
theorem tyCast_self {t:Ty} (l:List t.den):tyCast t t l=some l:=by
 unfold tyCast
 rw[dif_pos (Ty.eqb_self t)]
theorem rd_cells:∀ (t:Ty) (d:t.den) (r:List AV),rd t (t.cells d++r)=some (true,d,r)
 |.int k,d,r=>by simp[rd,Ty.cells,ikb_self]
 |.bool,d,r=>by simp[rd,Ty.cells]
 |.str,d,r=>by simp[rd,Ty.cells]
 |.nil,d,r=>by simp[rd,Ty.cells]
 |.cons t ts,d,r=>by simp[rd,Ty.cells,List.append_assoc,rd_cells t,rd_cells ts]
 |.sl t,d,r=>by simp[rd,Ty.cells,tyCast_self]
theorem unf_flat {t:Ty}:∀ (l:List t.den) (n:Nat),n=l.length→isF (rd t) n (flat t l)=true∧unf (rd t) n (flat t l)=l
 |[],n,h=>by subst h;exact⟨rfl,rfl⟩
 |d::l,n,h=>by
  subst h
  obtain⟨h1,h2⟩:=unf_flat l l.length rfl
  have e:flat t (d::l)=t.cells d++flat t l:=rfl
  exact⟨by simp only[List.length_cons,isF,e,rd_cells,h1,Bool.and_self],by simp only[List.length_cons,unf,e,rd_cells,h2]⟩
noncomputable def rdA (t:Ty) (a:AV):Option (Bool×t.den):=
 match t with
 | .nil => match a with
  |.agg l=>match rd .nil l with
   |some (c,d,[])=>some (c,d)
   |_=>none
  |_=>none
 | .cons x y => match a with
  |.agg l=>match rd (.cons x y) l with
   |some (c,d,[])=>some (c,d)
   |_=>none
  |_=>none
 |t=>match rd t [a] with
  |some (c,d,[])=>some (c,d)
  |_=>none
theorem TellsL.head {a b:AV} (h:TellsL [a] [b]):Tells a b:=fun V R x=>by
 have h1:=h V [R] (.cons x (.nil _))
 obtain⟨X,Xs,e,hX,_⟩:=h1.cons_inv
 simp only[List.cons.injEq] at e
 rw[e.1];exact hX
theorem rdA_spec:∀ (t:Ty) {a:AV} {d:t.den},rdA t a=some (true,d)→Tells a (t.av d)
 |.nil,a,d,h=>by
  simp only[rdA] at h
  split at h
  · split at h
    · rename_i h1
      simp only[Option.some.injEq,Prod.mk.injEq] at h;obtain⟨rfl,_⟩:=h
      have:=rd_spec .nil _ _ _ h1
      exact .agg (by simpa [Ty.cells] using this)
    · cases h
  · cases h
 |.cons x y,a,d,h=>by
  simp only[rdA] at h
  split at h
  · split at h
    · rename_i h1
      simp only[Option.some.injEq,Prod.mk.injEq] at h;obtain⟨rfl,rfl⟩:=h
      have:=rd_spec (.cons x y) _ _ _ h1
      exact .agg (by simpa [Ty.cells] using this)
    · cases h
  · cases h
 |.sl t,a,d,h=>by
  simp only[rdA] at h
  split at h
  · rename_i h1
    simp only[Option.some.injEq,Prod.mk.injEq] at h;obtain⟨rfl,rfl⟩:=h
    exact TellsL.head (by simpa [Ty.cells,Ty.av] using rd_spec (.sl t) _ _ _ h1)
  · cases h
 |.int k,a,d,h=>by
  simp only[rdA] at h
  split at h
  · rename_i h1
    simp only[Option.some.injEq,Prod.mk.injEq] at h;obtain⟨rfl,rfl⟩:=h
    exact TellsL.head (by simpa [Ty.cells,Ty.av] using rd_spec (.int k) _ _ _ h1)
  · cases h
 |.bool,a,d,h=>by
  simp only[rdA] at h
  split at h
  · rename_i h1
    simp only[Option.some.injEq,Prod.mk.injEq] at h;obtain⟨rfl,rfl⟩:=h
    exact TellsL.head (by simpa [Ty.cells,Ty.av] using rd_spec .bool _ _ _ h1)
  · cases h
 |.str,a,d,h=>by
  simp only[rdA] at h
  split at h
  · rename_i h1
    simp only[Option.some.injEq,Prod.mk.injEq] at h;obtain⟨rfl,rfl⟩:=h
    exact TellsL.head (by simpa [Ty.cells,Ty.av] using rd_spec .str _ _ _ h1)
  · cases h
theorem cells_closed:∀ (t:Ty) (d:t.den) (n:Nat),(t.cells d).all (closedA (n+1))=true
 |.int _,_,_=>rfl
 |.bool,_,_=>rfl
 |.str,_,_=>rfl
 |.nil,_,_=>rfl
 |.cons t ts,d,n=>by simp only[Ty.cells,List.all_append,cells_closed t d.1 n,cells_closed ts d.2 n,Bool.and_self]
 |.sl _,_,_=>rfl
theorem av_closed (t:Ty) (d:t.den) (n:Nat):closedA (n+2) (t.av d)=true:=by
 cases t with
 |nil=>rfl
 |cons t ts=>
  have:=cells_closed (.cons t ts) d n
  simp only[Ty.cells] at this
  simp only[Ty.av]
  exact this
 |_=>rfl
noncomputable def con1 (t:Ty) (c:t.den→Bool) (v:t.den→AV) (args:List AV):Option (Bool×AV):=
 match args with
 |[a]=>match rdA t a with
  |some (c1,x)=>some (c1&&c x,v x)
  |_=>none
 |_=>none
noncomputable def con2 (t u:Ty) (c:t.den→u.den→Bool) (v:t.den→u.den→AV) (args:List AV):Option (Bool×AV):=
 match args with
 |[a,b]=>match rdA t a,rdA u b with
  |some (c1,x),some (c2,y)=>some (c1&&(c2&&c x y),v x y)
  |_,_=>none
 |_=>none
noncomputable def con3 (t u w:Ty) (c:t.den→u.den→w.den→Bool) (v:t.den→u.den→w.den→AV) (args:List AV):Option (Bool×AV):=
 match args with
 |[a,b,d]=>match rdA t a,rdA u b,rdA w d with
  |some (c1,x),some (c2,y),some (c3,z)=>some (c1&&(c2&&(c3&&c x y z)),v x y z)
  |_,_,_=>none
 |_=>none
noncomputable def con4 (t u w s:Ty) (c:t.den→u.den→w.den→s.den→Bool) (v:t.den→u.den→w.den→s.den→AV) (args:List AV):Option (Bool×AV):=
 match args with
 |[a,b,d,e]=>match rdA t a,rdA u b,rdA w d,rdA s e with
  |some (c1,x),some (c2,y),some (c3,z),some (c4,q)=>some (c1&&(c2&&(c3&&(c4&&c x y z q))),v x y z q)
  |_,_,_,_=>none
 |_=>none
theorem con1_spec {E:Env} {f:Nat} {t:Ty} {c:t.den→Bool} {v:t.den→AV} (h:∀ x,c x=true→AnsF E f [t.av x] (v x)) {args:List AV} {r:AV} (hc:con1 t c v args=some (true,r)):∃ args',TellsL args args'∧args'.all (closedA 9)=true∧AnsF E f args' r:=by
 unfold con1 at hc
 split at hc
 · split at hc
   · rename_i c1 x hx
     simp only[Option.some.injEq,Prod.mk.injEq,Bool.and_eq_true] at hc;obtain⟨⟨rfl,h1⟩,rfl⟩:=hc
     exact⟨_,.cons (rdA_spec _ hx) .nil,by simp[av_closed],h x h1⟩
   · cases hc
 · cases hc
theorem con2_spec {E:Env} {f:Nat} {t u:Ty} {c:t.den→u.den→Bool} {v:t.den→u.den→AV} (h:∀ x y,c x y=true→AnsF E f [t.av x,u.av y] (v x y)) {args:List AV} {r:AV} (hc:con2 t u c v args=some (true,r)):∃ args',TellsL args args'∧args'.all (closedA 9)=true∧AnsF E f args' r:=by
 unfold con2 at hc
 split at hc
 · split at hc
   · rename_i c1 x c2 y hx hy
     simp only[Option.some.injEq,Prod.mk.injEq,Bool.and_eq_true] at hc;obtain⟨⟨rfl,rfl,h1⟩,rfl⟩:=hc
     exact⟨_,.cons (rdA_spec _ hx) (.cons (rdA_spec _ hy) .nil),by simp[av_closed],h x y h1⟩
   · cases hc
 · cases hc
theorem con3_spec {E:Env} {f:Nat} {t u w:Ty} {c:t.den→u.den→w.den→Bool} {v:t.den→u.den→w.den→AV} (h:∀ x y z,c x y z=true→AnsF E f [t.av x,u.av y,w.av z] (v x y z)) {args:List AV} {r:AV} (hc:con3 t u w c v args=some (true,r)):∃ args',TellsL args args'∧args'.all (closedA 9)=true∧AnsF E f args' r:=by
 unfold con3 at hc
 split at hc
 · split at hc
   · rename_i c1 x c2 y c3 z hx hy hz
     simp only[Option.some.injEq,Prod.mk.injEq,Bool.and_eq_true] at hc;obtain⟨⟨rfl,rfl,rfl,h1⟩,rfl⟩:=hc
     exact⟨_,.cons (rdA_spec _ hx) (.cons (rdA_spec _ hy) (.cons (rdA_spec _ hz) .nil)),by simp[av_closed],h x y z h1⟩
   · cases hc
 · cases hc
theorem con4_spec {E:Env} {f:Nat} {t u w s:Ty} {c:t.den→u.den→w.den→s.den→Bool} {v:t.den→u.den→w.den→s.den→AV} (h:∀ x y z q,c x y z q=true→AnsF E f [t.av x,u.av y,w.av z,s.av q] (v x y z q)) {args:List AV} {r:AV} (hc:con4 t u w s c v args=some (true,r)):∃ args',TellsL args args'∧args'.all (closedA 9)=true∧AnsF E f args' r:=by
 unfold con4 at hc
 split at hc
 · split at hc
   · rename_i c1 x c2 y c3 z c4 q hx hy hz hq
     simp only[Option.some.injEq,Prod.mk.injEq,Bool.and_eq_true] at hc;obtain⟨⟨rfl,rfl,rfl,rfl,h1⟩,rfl⟩:=hc
     exact⟨_,.cons (rdA_spec _ hx) (.cons (rdA_spec _ hy) (.cons (rdA_spec _ hz) (.cons (rdA_spec _ hq) .nil))),by simp[av_closed],h x y z q h1⟩
   · cases hc
 · cases hc
noncomputable def Ty.pv (t:Ty) (d:t.den):AV:=.cp (t.cells d) 0
noncomputable def rdP (t:Ty) (a:AV):Option (Bool×t.den):=
 match a with
 | .cp l off => match off with
  |0=>match rd t l with
   |some (c,d,[])=>some (c,d)
   |_=>none
  |_=>none
 |_=>none
theorem Tells.cp {l l':List AV} (h:TellsL l l'):Tells (.cp l 0) (.cp l' 0):=by
 intro V R hx
 cases hx with
 |cp _ _ blk o f hk hv=>
  have hV:VRs V.bare l ((List.range l.length).map f):=⟨by simp,fun i h h'=>by simp only[List.getElem_map,List.getElem_range];exact hv i h⟩
  have hW:=h _ _ hV
  have hlen:l'.length=l.length:=by rw[hW.1];simp
  refine .cp l' 0 blk o f (fun i hi=>hk i (by omega)) (fun i hi=>?_)
  have:=hW.2 i hi (by simp;omega)
  simpa using this
theorem rdP_spec {t:Ty} {a:AV} {d:t.den} (h:rdP t a=some (true,d)):Tells a (t.pv d):=by
 unfold rdP at h
 split at h
 · split at h
   · split at h
     · rename_i h1
       simp only[Option.some.injEq,Prod.mk.injEq] at h;obtain⟨rfl,rfl⟩:=h
       exact .cp (by simpa using rd_spec t _ _ _ h1)
     · cases h
   · cases h
 · cases h
theorem pv_closed (t:Ty) (d:t.den) (n:Nat):closedA (n+2) (t.pv d)=true:=rfl
noncomputable def conP1 (t:Ty) (c:t.den→Bool) (v:t.den→AV) (args:List AV):Option (Bool×AV):=
 match args with
 |[a]=>match rdP t a with
  |some (c1,x)=>some (c1&&c x,v x)
  |_=>none
 |_=>none
noncomputable def conP2 (t u:Ty) (c:t.den→u.den→Bool) (v:t.den→u.den→AV) (args:List AV):Option (Bool×AV):=
 match args with
 |[a,b]=>match rdP t a,rdA u b with
  |some (c1,x),some (c2,y)=>some (c1&&(c2&&c x y),v x y)
  |_,_=>none
 |_=>none
noncomputable def conP3 (t u w:Ty) (c:t.den→u.den→w.den→Bool) (v:t.den→u.den→w.den→AV) (args:List AV):Option (Bool×AV):=
 match args with
 |[a,b,d]=>match rdP t a,rdA u b,rdA w d with
  |some (c1,x),some (c2,y),some (c3,z)=>some (c1&&(c2&&(c3&&c x y z)),v x y z)
  |_,_,_=>none
 |_=>none
theorem conP1_spec {E:Env} {f:Nat} {t:Ty} {c:t.den→Bool} {v:t.den→AV} (h:∀ x,c x=true→AnsF E f [t.pv x] (v x)) {args:List AV} {r:AV} (hc:conP1 t c v args=some (true,r)):∃ args',TellsL args args'∧args'.all (closedA 9)=true∧AnsF E f args' r:=by
 unfold conP1 at hc
 split at hc
 · split at hc
   · rename_i c1 x hx
     simp only[Option.some.injEq,Prod.mk.injEq,Bool.and_eq_true] at hc;obtain⟨⟨rfl,h1⟩,rfl⟩:=hc
     exact⟨_,.cons (rdP_spec hx) .nil,by simp[pv_closed],h x h1⟩
   · cases hc
 · cases hc
theorem conP2_spec {E:Env} {f:Nat} {t u:Ty} {c:t.den→u.den→Bool} {v:t.den→u.den→AV} (h:∀ x y,c x y=true→AnsF E f [t.pv x,u.av y] (v x y)) {args:List AV} {r:AV} (hc:conP2 t u c v args=some (true,r)):∃ args',TellsL args args'∧args'.all (closedA 9)=true∧AnsF E f args' r:=by
 unfold conP2 at hc
 split at hc
 · split at hc
   · rename_i c1 x c2 y hx hy
     simp only[Option.some.injEq,Prod.mk.injEq,Bool.and_eq_true] at hc;obtain⟨⟨rfl,rfl,h1⟩,rfl⟩:=hc
     exact⟨_,.cons (rdP_spec hx) (.cons (rdA_spec _ hy) .nil),by simp[pv_closed,av_closed],h x y h1⟩
   · cases hc
 · cases hc
theorem conP3_spec {E:Env} {f:Nat} {t u w:Ty} {c:t.den→u.den→w.den→Bool} {v:t.den→u.den→w.den→AV} (h:∀ x y z,c x y z=true→AnsF E f [t.pv x,u.av y,w.av z] (v x y z)) {args:List AV} {r:AV} (hc:conP3 t u w c v args=some (true,r)):∃ args',TellsL args args'∧args'.all (closedA 9)=true∧AnsF E f args' r:=by
 unfold conP3 at hc
 split at hc
 · split at hc
   · rename_i c1 x c2 y c3 z hx hy hz
     simp only[Option.some.injEq,Prod.mk.injEq,Bool.and_eq_true] at hc;obtain⟨⟨rfl,rfl,rfl,h1⟩,rfl⟩:=hc
     exact⟨_,.cons (rdP_spec hx) (.cons (rdA_spec _ hy) (.cons (rdA_spec _ hz) .nil)),by simp[pv_closed,av_closed],h x y z h1⟩
   · cases hc
 · cases hc
end Go.Eng


namespace Go.Eng
open Go
theorem ieq_self (a:Int):ieq a a=true:=by rw[ieq_iff];simp
theorem lbeq_self (a:List Nat):lbeq a a=true:=by rw[lbeq_eq];simp
theorem lbeq_iff {a b:List Nat}:lbeq a b=decide (a=b):=by rw[lbeq_eq];by_cases h:a=b<;>simp[h]
theorem getD_at {α:Type} {l:List α} {k:Nat} {d:α} (h:k<l.length):l.getD (k:Int).toNat d=l[k]:=by simp[h]
theorem inB_at {k n:Nat} (h:k<n):inB (k:Int) n=true:=by rw[inB_iff];simp;omega
theorem ile_lt {k n:Nat} (h:k<n):ile (n:Int) (k:Int)=false:=by rw[ile_iff];simp;omega
theorem ile_ge {k n:Nat} (h:n≤k):ile (n:Int) (k:Int)=true:=by rw[ile_iff];simp;omega
theorem wr_succ {k:Nat} (h:k<1048577):wr .i64 ((k:Int)+1)=((k+1:Nat):Int):=by rw[wr_in (by omega) (by omega)];rfl
theorem wr_pred {k:Nat} (h:k<1048577):wr .i64 ((k+1:Nat)-1:Int)=(k:Int):=by rw[wr_in (by omega) (by omega)];omega
theorem decN_big {s:List Nat} {i:Nat} (hi:i<s.length) (h:127<s.getD i 0):128≤(decN s i).1:=by
 unfold decN
 split
 · rename_i hall
   have hb:∀ (b:ByteArray) (j:Nat),128≤(b.get! (j+0)).toNat→128≤(Utf8.decode b j).1:=by
    intro b j hj
    unfold Utf8.decode
    simp only
    have:¬ (b.get! (j+0)).toNat<0x80:=by omega
    simp only[this,if_false]
    repeat' split
    all_goals (try simp only[Bool.and_eq_true,decide_eq_true_eq,ge_iff_le] at *)
    all_goals (first|omega|(simp only[Utf8.runeError];omega))
   apply hb
   have hs:s[i]<256:=by
    have:=List.all_eq_true.1 hall s[i] (List.getElem_mem hi)
    have:=Nat.le_of_ble_eq_true this
    omega
   have e:(ByteArray.mk (s.map Nat.toUInt8).toArray).get! (i+0)=(s[i]).toUInt8:=by
    simp[ByteArray.get!,hi]
   rw[e]
   have:(s[i]).toUInt8.toNat=s[i]:=by simp[Nat.toUInt8];omega
   rw[this]
   have e2:s.getD i 0=s[i]:=by simp[hi]
   omega
 · decide
section
variable {E:Env} {S:Sy} (hS:S.ok E) (hsy:E.sy=true)
include hS hsy
theorem Ans.doneB {n:Nat} {c:Cfg} {b b':Bool} (h:adv E S n c=some (.done (.bool b))) (e:b=b'):Ans E c (.bool b'):=e▸Ans.done hS hsy h rfl
theorem Ans.doneI {n:Nat} {c:Cfg} {k:IntKind} {b b':Int} (h:adv E S n c=some (.done (.int k b))) (e:b=b'):Ans E c (.int k b'):=e▸Ans.done hS hsy h rfl
theorem Ans.stopE {n:Nat} {c c':Cfg} {v v':AV} (h:adv E S n c=some (.stop c')) (k:Ans E c' v) (e:v=v'):Ans E c v':=e▸Ans.stop hS hsy h k
end
end Go.Eng

set_option maxRecDepth 100000
namespace Go.Proofs.Ytmpaifgmccdipaa
open Go Go.Eng
noncomputable def tyT:Tr KT:=(.nd (.nd (.nd (.nd (.nd (.nd (.nd (.nd .lf (some .fn) .lf) (some (.struct [⟨0,3,true⟩,⟨1,23,true⟩])) .lf) (some .fn) (.nd .lf (some .fn) .lf)) (some .ptr) (.nd (.nd (.nd .lf (some (.struct [⟨0,17,true⟩,⟨1,17,true⟩,⟨2,17,true⟩,⟨3,9,true⟩])) .lf) (some .fn) .lf) (some (.struct [⟨0,23,true⟩,⟨1,3,true⟩,⟨2,3,true⟩])) (.nd .lf (some (.slice 9)) .lf))) (some (.struct [⟨0,2,true⟩,⟨1,3,true⟩,⟨2,4,true⟩,⟨3,6,true⟩])) (.nd (.nd (.nd (.nd .lf (some .fn) .lf) (some .fn) .lf) (some .fn) (.nd .lf (some .fn) .lf)) (some (.slice 3)) (.nd (.nd (.nd .lf (some (.int .u8)) .lf) (some (.arr 3 3)) .lf) (some .fn) (.nd .lf (some (.map 3 3)) .lf)))) (some (.int .i64)) (.nd (.nd (.nd (.nd (.nd .lf (some (.arr 3 130)) .lf) none .lf) (some .fn) (.nd .lf (some .fn) .lf)) (some (.struct [⟨0,17,true⟩])) (.nd (.nd (.nd .lf (some (.struct [⟨0,145,false⟩])) .lf) (some (.struct [⟨0,9,true⟩,⟨1,3,true⟩,⟨2,3,true⟩,⟨3,3,true⟩])) .lf) (some .fn) (.nd .lf (some .fn) .lf))) (some .str) (.nd (.nd (.nd (.nd .lf (some .fn) .lf) (some .fn) .lf) (some .fn) (.nd .lf (some .fn) .lf)) (some (.int .i64)) (.nd (.nd (.nd .lf (some (.int .i32)) .lf) none .lf) (some .fn) (.nd .lf (some .fn) .lf))))) (some .fn) (.nd (.nd (.nd (.nd (.nd (.nd .lf (some .fn) .lf) (some (.arr 8 4)) .lf) none (.nd .lf (some .fn) .lf)) (some .ptr) (.nd (.nd (.nd .lf (some (.arr 0 16)) .lf) (some .fn) .lf) (some .fn) (.nd .lf (some .fn) .lf))) (some .str) (.nd (.nd (.nd (.nd .lf (some .fn) .lf) (some (.struct [⟨0,25,true⟩,⟨6,26,true⟩])) .lf) (some .ptr) (.nd .lf (some .fn) .lf)) (some (.struct [⟨0,3,true⟩,⟨1,22,true⟩,⟨2,3,true⟩,⟨3,3,true⟩,⟨4,3,true⟩,⟨5,23,true⟩])) (.nd (.nd (.nd .lf (some .ptr) .lf) (some .fn) .lf) (some .fn) (.nd .lf (some .fn) .lf)))) (some (.int .u8)) (.nd (.nd (.nd (.nd (.nd .lf (some .fn) .lf) none .lf) (some .fn) (.nd .lf (some .fn) .lf)) (some (.int .i32)) (.nd (.nd (.nd .lf (some (.int .u32)) .lf) (some .fn) .lf) (some .fn) (.nd .lf (some (.slice 23)) .lf))) (some (.struct [⟨0,9,true⟩,⟨1,12,true⟩])) (.nd (.nd (.nd (.nd .lf (some .fn) .lf) (some .fn) .lf) (some .fn) (.nd .lf (some .fn) .lf)) (some .fn) (.nd (.nd (.nd .lf (some (.struct [⟨0,12,true⟩,⟨1,12,true⟩,⟨2,149,true⟩,⟨3,150,true⟩,⟨4,5,true⟩,⟨5,5,true⟩,⟨6,151,true⟩,⟨7,152,true⟩,⟨8,153,true⟩,⟨9,154,true⟩,⟨10,155,true⟩])) .lf) (some .fn) .lf) (some .fn) (.nd .lf (some .fn) .lf)))))) none (.nd (.nd (.nd (.nd (.nd (.nd (.nd .lf (some .fn) .lf) (some (.struct [⟨0,3,true⟩,⟨1,23,true⟩])) .lf) (some .fn) (.nd .lf (some .fn) .lf)) (some .ptr) (.nd (.nd (.nd .lf (some (.struct [⟨0,17,true⟩,⟨1,17,true⟩,⟨2,17,true⟩,⟨3,9,true⟩])) .lf) (some (.arr 4 52)) .lf) (some .fn) (.nd .lf (some .fn) .lf))) (some (.struct [⟨0,2,true⟩,⟨1,3,true⟩,⟨2,4,true⟩,⟨3,6,true⟩])) (.nd (.nd (.nd (.nd .lf (some .fn) .lf) (some (.struct [⟨0,25,true⟩,⟨6,26,true⟩])) .lf) (some .fn) (.nd .lf (some .fn) .lf)) (some (.struct [⟨0,3,true⟩,⟨1,22,true⟩,⟨2,3,true⟩,⟨3,3,true⟩,⟨4,3,true⟩,⟨5,23,true⟩])) (.nd (.nd (.nd .lf (some .fn) .lf) (some .fn) .lf) (some .fn) (.nd .lf (some .fn) .lf)))) (some .bool) (.nd (.nd (.nd (.nd (.nd .lf (some .fn) .lf) (some .fn) .lf) none (.nd .lf (some .fn) .lf)) (some (.ifc true)) (.nd (.nd (.nd .lf (some .fn) .lf) (some .fn) .lf) (some .fn) (.nd .lf (some .fn) .lf))) (some (.int .u64)) (.nd (.nd (.nd (.nd .lf (some (.map 9 4)) .lf) (some .fn) .lf) (some (.slice 47)) (.nd .lf (some .fn) .lf)) none (.nd (.nd (.nd .lf (some (.struct [⟨0,12,true⟩,⟨1,12,true⟩,⟨2,149,true⟩,⟨3,150,true⟩,⟨4,5,true⟩,⟨5,5,true⟩,⟨6,151,true⟩,⟨7,152,true⟩,⟨8,153,true⟩,⟨9,154,true⟩,⟨10,155,true⟩])) .lf) (some .fn) .lf) (some .fn) (.nd .lf (some .fn) .lf))))) (some (.int .i64)) (.nd (.nd (.nd (.nd (.nd (.nd .lf (some .fn) .lf) (some (.arr 8 4)) .lf) (some .fn) (.nd .lf (some .fn) .lf)) (some (.struct [⟨0,17,true⟩])) (.nd (.nd (.nd .lf (some (.struct [⟨0,145,false⟩])) .lf) (some (.struct [⟨0,9,true⟩,⟨1,3,true⟩,⟨2,3,true⟩,⟨3,3,true⟩])) .lf) (some .fn) (.nd .lf (some .fn) .lf))) (some .str) (.nd (.nd (.nd (.nd .lf (some .fn) .lf) (some .fn) .lf) none .lf) (some (.slice 64)) (.nd (.nd (.nd .lf (some (.int .i32)) .lf) (some .fn) .lf) none (.nd .lf (some .fn) .lf)))) (some (.int .u8)) (.nd (.nd (.nd (.nd (.nd .lf (some .fn) .lf) (some .fn) .lf) (some (.slice 4)) (.nd .lf (some .fn) .lf)) (some (.slice 83)) (.nd (.nd (.nd .lf (some (.int .u8)) .lf) (some (.arr 3 3)) .lf) none (.nd .lf (some .fn) .lf))) (some (.struct [⟨0,9,true⟩,⟨1,12,true⟩])) (.nd (.nd (.nd (.nd .lf (some .fn) .lf) (some .fn) .lf) (some (.struct [⟨0,23,true⟩,⟨1,3,true⟩,⟨2,3,true⟩])) (.nd .lf (some .fn) .lf)) (some .fn) (.nd (.nd .lf (some .fn) .lf) (some .fn) (.nd .lf (some .fn) .lf)))))))
noncomputable def szT:Tr Nat:=(.nd (.nd (.nd (.nd (.nd (.nd (.nd (.nd .lf (some 1) .lf) (some 2) .lf) (some 1) (.nd .lf (some 1) .lf)) (some 1) (.nd (.nd (.nd .lf (some 4) .lf) (some 1) .lf) (some 3) (.nd .lf (some 1) .lf))) (some 4) (.nd (.nd (.nd (.nd .lf (some 1) .lf) (some 1) .lf) (some 1) (.nd .lf (some 1) .lf)) (some 1) (.nd (.nd (.nd .lf (some 1) .lf) (some 3) .lf) (some 1) (.nd .lf (some 1) .lf)))) (some 1) (.nd (.nd (.nd (.nd (.nd .lf (some 3) .lf) (some 1) .lf) (some 1) (.nd .lf (some 1) .lf)) (some 1) (.nd (.nd (.nd .lf (some 0) .lf) (some 4) .lf) (some 1) (.nd .lf (some 1) .lf))) (some 1) (.nd (.nd (.nd (.nd .lf (some 1) .lf) (some 1) .lf) (some 1) (.nd .lf (some 1) .lf)) (some 1) (.nd (.nd (.nd .lf (some 1) .lf) (some 1) .lf) (some 1) (.nd .lf (some 1) .lf))))) (some 1) (.nd (.nd (.nd (.nd (.nd (.nd .lf (some 1) .lf) (some 8) .lf) (some 1) (.nd .lf (some 1) .lf)) (some 1) (.nd (.nd (.nd .lf (some 0) .lf) (some 1) .lf) (some 1) (.nd .lf (some 1) .lf))) (some 1) (.nd (.nd (.nd (.nd .lf (some 1) .lf) (some 7) .lf) (some 1) (.nd .lf (some 1) .lf)) (some 6) (.nd (.nd (.nd .lf (some 1) .lf) (some 1) .lf) (some 1) (.nd .lf (some 1) .lf)))) (some 1) (.nd (.nd (.nd (.nd (.nd .lf (some 1) .lf) (some 1) .lf) (some 1) (.nd .lf (some 1) .lf)) (some 1) (.nd (.nd (.nd .lf (some 1) .lf) (some 1) .lf) (some 1) (.nd .lf (some 1) .lf))) (some 2) (.nd (.nd (.nd (.nd .lf (some 1) .lf) (some 1) .lf) (some 1) (.nd .lf (some 1) .lf)) (some 1) (.nd (.nd (.nd .lf (some 11) .lf) (some 1) .lf) (some 1) (.nd .lf (some 1) .lf)))))) (some 1) (.nd (.nd (.nd (.nd (.nd (.nd (.nd .lf (some 1) .lf) (some 2) .lf) (some 1) (.nd .lf (some 1) .lf)) (some 1) (.nd (.nd (.nd .lf (some 4) .lf) (some 4) .lf) (some 1) (.nd .lf (some 1) .lf))) (some 4) (.nd (.nd (.nd (.nd .lf (some 1) .lf) (some 7) .lf) (some 1) (.nd .lf (some 1) .lf)) (some 6) (.nd (.nd (.nd .lf (some 1) .lf) (some 1) .lf) (some 1) (.nd .lf (some 1) .lf)))) (some 1) (.nd (.nd (.nd (.nd (.nd .lf (some 1) .lf) (some 1) .lf) (some 1) (.nd .lf (some 1) .lf)) (some 1) (.nd (.nd (.nd .lf (some 1) .lf) (some 1) .lf) (some 1) (.nd .lf (some 1) .lf))) (some 1) (.nd (.nd (.nd (.nd .lf (some 1) .lf) (some 1) .lf) (some 1) (.nd .lf (some 1) .lf)) (some 1) (.nd (.nd (.nd .lf (some 11) .lf) (some 1) .lf) (some 1) (.nd .lf (some 1) .lf))))) (some 1) (.nd (.nd (.nd (.nd (.nd (.nd .lf (some 1) .lf) (some 8) .lf) (some 1) (.nd .lf (some 1) .lf)) (some 1) (.nd (.nd (.nd .lf (some 0) .lf) (some 4) .lf) (some 1) (.nd .lf (some 1) .lf))) (some 1) (.nd (.nd (.nd (.nd .lf (some 1) .lf) (some 1) .lf) (some 1) (.nd .lf (some 1) .lf)) (some 1) (.nd (.nd (.nd .lf (some 1) .lf) (some 1) .lf) (some 1) (.nd .lf (some 1) .lf)))) (some 1) (.nd (.nd (.nd (.nd (.nd .lf (some 1) .lf) (some 1) .lf) (some 1) (.nd .lf (some 1) .lf)) (some 1) (.nd (.nd (.nd .lf (some 1) .lf) (some 3) .lf) (some 1) (.nd .lf (some 1) .lf))) (some 2) (.nd (.nd (.nd (.nd .lf (some 1) .lf) (some 1) .lf) (some 3) (.nd .lf (some 1) .lf)) (some 1) (.nd (.nd (.nd .lf (some 1) .lf) (some 1) .lf) (some 1) (.nd .lf (some 1) .lf)))))))
noncomputable def byT:Tr Nat:=(.nd (.nd (.nd (.nd (.nd (.nd (.nd (.nd .lf (some 8) .lf) (some 32) .lf) (some 8) (.nd .lf (some 8) .lf)) (some 8) (.nd (.nd (.nd .lf (some 40) .lf) (some 8) .lf) (some 40) (.nd .lf (some 24) .lf))) (some 24) (.nd (.nd (.nd (.nd .lf (some 8) .lf) (some 8) .lf) (some 8) (.nd .lf (some 8) .lf)) (some 24) (.nd (.nd (.nd .lf (some 1) .lf) (some 24) .lf) (some 8) (.nd .lf (some 8) .lf)))) (some 8) (.nd (.nd (.nd (.nd (.nd .lf (some 24) .lf) (some 0) .lf) (some 8) (.nd .lf (some 8) .lf)) (some 8) (.nd (.nd (.nd .lf (some 0) .lf) (some 40) .lf) (some 8) (.nd .lf (some 8) .lf))) (some 16) (.nd (.nd (.nd (.nd .lf (some 8) .lf) (some 8) .lf) (some 8) (.nd .lf (some 8) .lf)) (some 8) (.nd (.nd (.nd .lf (some 4) .lf) (some 0) .lf) (some 8) (.nd .lf (some 8) .lf))))) (some 8) (.nd (.nd (.nd (.nd (.nd (.nd .lf (some 8) .lf) (some 8) .lf) (some 0) (.nd .lf (some 8) .lf)) (some 8) (.nd (.nd (.nd .lf (some 0) .lf) (some 8) .lf) (some 8) (.nd .lf (some 8) .lf))) (some 16) (.nd (.nd (.nd (.nd .lf (some 8) .lf) (some 104) .lf) (some 8) (.nd .lf (some 8) .lf)) (some 80) (.nd (.nd (.nd .lf (some 8) .lf) (some 8) .lf) (some 8) (.nd .lf (some 8) .lf)))) (some 1) (.nd (.nd (.nd (.nd (.nd .lf (some 8) .lf) (some 0) .lf) (some 8) (.nd .lf (some 8) .lf)) (some 4) (.nd (.nd (.nd .lf (some 4) .lf) (some 8) .lf) (some 8) (.nd .lf (some 24) .lf))) (some 24) (.nd (.nd (.nd (.nd .lf (some 8) .lf) (some 8) .lf) (some 8) (.nd .lf (some 8) .lf)) (some 8) (.nd (.nd (.nd .lf (some 48) .lf) (some 8) .lf) (some 8) (.nd .lf (some 8) .lf)))))) (some 0) (.nd (.nd (.nd (.nd (.nd (.nd (.nd .lf (some 8) .lf) (some 32) .lf) (some 8) (.nd .lf (some 8) .lf)) (some 8) (.nd (.nd (.nd .lf (some 40) .lf) (some 32) .lf) (some 8) (.nd .lf (some 8) .lf))) (some 24) (.nd (.nd (.nd (.nd .lf (some 8) .lf) (some 104) .lf) (some 8) (.nd .lf (some 8) .lf)) (some 80) (.nd (.nd (.nd .lf (some 8) .lf) (some 8) .lf) (some 8) (.nd .lf (some 8) .lf)))) (some 1) (.nd (.nd (.nd (.nd (.nd .lf (some 8) .lf) (some 8) .lf) (some 0) (.nd .lf (some 8) .lf)) (some 16) (.nd (.nd (.nd .lf (some 8) .lf) (some 8) .lf) (some 8) (.nd .lf (some 8) .lf))) (some 8) (.nd (.nd (.nd (.nd .lf (some 8) .lf) (some 8) .lf) (some 24) (.nd .lf (some 8) .lf)) (some 0) (.nd (.nd (.nd .lf (some 48) .lf) (some 8) .lf) (some 8) (.nd .lf (some 8) .lf))))) (some 8) (.nd (.nd (.nd (.nd (.nd (.nd .lf (some 8) .lf) (some 8) .lf) (some 8) (.nd .lf (some 8) .lf)) (some 8) (.nd (.nd (.nd .lf (some 0) .lf) (some 40) .lf) (some 8) (.nd .lf (some 8) .lf))) (some 16) (.nd (.nd (.nd (.nd .lf (some 8) .lf) (some 8) .lf) (some 0) (.nd .lf (some 0) .lf)) (some 24) (.nd (.nd (.nd .lf (some 4) .lf) (some 8) .lf) (some 0) (.nd .lf (some 8) .lf)))) (some 1) (.nd (.nd (.nd (.nd (.nd .lf (some 8) .lf) (some 8) .lf) (some 24) (.nd .lf (some 8) .lf)) (some 24) (.nd (.nd (.nd .lf (some 1) .lf) (some 24) .lf) (some 0) (.nd .lf (some 8) .lf))) (some 24) (.nd (.nd (.nd (.nd .lf (some 8) .lf) (some 8) .lf) (some 40) (.nd .lf (some 8) .lf)) (some 8) (.nd (.nd (.nd .lf (some 8) .lf) (some 8) .lf) (some 8) (.nd .lf (some 8) .lf)))))))
noncomputable def zeT:Tr AV:=(.nd (.nd (.nd (.nd (.nd (.nd (.nd (.nd .lf (some .nilf) .lf) (some (.agg [(.int .i64 (0)),.nils])) .lf) (some .nilf) (.nd .lf (some .nilf) .lf)) (some .nilp) (.nd (.nd (.nd .lf (some (.agg [.nilp,.nilp,.nilp,(.str [])])) .lf) (some .nilf) .lf) (some (.agg [.nils,(.int .i64 (0)),(.int .i64 (0))])) (.nd .lf (some .nils) .lf))) (some (.agg [(.int .i64 (0)),(.int .i64 (0)),(.bool false),(.int .u8 (0))])) (.nd (.nd (.nd (.nd .lf (some .nilf) .lf) (some .nilf) .lf) (some .nilf) (.nd .lf (some .nilf) .lf)) (some .nils) (.nd (.nd (.nd .lf (some (.int .u8 (0))) .lf) (some (.agg [(.int .i64 (0)),(.int .i64 (0)),(.int .i64 (0))])) .lf) (some .nilf) (.nd .lf (some .nilm) .lf)))) (some (.int .i64 (0))) (.nd (.nd (.nd (.nd (.nd .lf (some (.agg [.nilf,.nilf,.nilf])) .lf) (some (.tup [.nilp,(.agg [(.bool false),(.bool false),(.bool false),(.bool false),(.bool false),(.bool false),(.bool false),(.bool false)]),(.int .i64 (0))])) .lf) (some .nilf) (.nd .lf (some .nilf) .lf)) (some (.agg [.nilp])) (.nd (.nd (.nd .lf (some (.agg [])) .lf) (some (.agg [(.str []),(.int .i64 (0)),(.int .i64 (0)),(.int .i64 (0))])) .lf) (some .nilf) (.nd .lf (some .nilf) .lf))) (some (.str [])) (.nd (.nd (.nd (.nd .lf (some .nilf) .lf) (some .nilf) .lf) (some .nilf) (.nd .lf (some .nilf) .lf)) (some (.int .i64 (0))) (.nd (.nd (.nd .lf (some (.int .i32 (0))) .lf) (some (.tup [.nils,(.bool false)])) .lf) (some .nilf) (.nd .lf (some .nilf) .lf))))) (some .nilf) (.nd (.nd (.nd (.nd (.nd (.nd .lf (some .nilf) .lf) (some (.agg [(.bool false),(.bool false),(.bool false),(.bool false),(.bool false),(.bool false),(.bool false),(.bool false)])) .lf) (some (.tup [(.int .i64 (0)),(.int .i64 (0)),(.int .i64 (0))])) (.nd .lf (some .nilf) .lf)) (some .nilp) (.nd (.nd (.nd .lf (some (.agg [])) .lf) (some .nilf) .lf) (some .nilf) (.nd .lf (some .nilf) .lf))) (some (.str [])) (.nd (.nd (.nd (.nd .lf (some .nilf) .lf) (some (.agg [(.int .i64 (0)),.nils,(.int .i64 (0)),(.int .i64 (0)),(.int .i64 (0)),.nils,.nils])) .lf) (some .nilp) (.nd .lf (some .nilf) .lf)) (some (.agg [(.int .i64 (0)),.nils,(.int .i64 (0)),(.int .i64 (0)),(.int .i64 (0)),.nils])) (.nd (.nd (.nd .lf (some .nilp) .lf) (some .nilf) .lf) (some .nilf) (.nd .lf (some .nilf) .lf)))) (some (.int .u8 (0))) (.nd (.nd (.nd (.nd (.nd .lf (some .nilf) .lf) (some (.tup [(.agg [.nils,(.int .i64 (0)),(.int .i64 (0))]),(.bool false)])) .lf) (some .nilf) (.nd .lf (some .nilf) .lf)) (some (.int .i32 (0))) (.nd (.nd (.nd .lf (some (.int .u32 (0))) .lf) (some .nilf) .lf) (some .nilf) (.nd .lf (some .nils) .lf))) (some (.agg [(.str []),(.int .u64 (0))])) (.nd (.nd (.nd (.nd .lf (some .nilf) .lf) (some .nilf) .lf) (some .nilf) (.nd .lf (some .nilf) .lf)) (some .nilf) (.nd (.nd (.nd .lf (some (.agg [(.int .u64 (0)),(.int .u64 (0)),(.int .u32 (0)),(.int .u8 (0)),(.int .u8 (0)),(.int .u8 (0)),(.int .u8 (0)),.nilf,.nilp,(.int .i32 (0)),(.int .i32 (0))])) .lf) (some .nilf) .lf) (some .nilf) (.nd .lf (some .nilf) .lf)))))) (some (.tup [])) (.nd (.nd (.nd (.nd (.nd (.nd (.nd .lf (some .nilf) .lf) (some (.agg [(.int .i64 (0)),.nils])) .lf) (some .nilf) (.nd .lf (some .nilf) .lf)) (some .nilp) (.nd (.nd (.nd .lf (some (.agg [.nilp,.nilp,.nilp,(.str [])])) .lf) (some (.agg [.nilf,.nilf,.nilf,.nilf])) .lf) (some .nilf) (.nd .lf (some .nilf) .lf))) (some (.agg [(.int .i64 (0)),(.int .i64 (0)),(.bool false),(.int .u8 (0))])) (.nd (.nd (.nd (.nd .lf (some .nilf) .lf) (some (.agg [(.int .i64 (0)),.nils,(.int .i64 (0)),(.int .i64 (0)),(.int .i64 (0)),.nils,.nils])) .lf) (some .nilf) (.nd .lf (some .nilf) .lf)) (some (.agg [(.int .i64 (0)),.nils,(.int .i64 (0)),(.int .i64 (0)),(.int .i64 (0)),.nils])) (.nd (.nd (.nd .lf (some .nilf) .lf) (some .nilf) .lf) (some .nilf) (.nd .lf (some .nilf) .lf)))) (some (.bool false)) (.nd (.nd (.nd (.nd (.nd .lf (some .nilf) .lf) (some .nilf) .lf) (some (.tup [(.int .i64 (0)),(.int .i64 (0))])) (.nd .lf (some .nilf) .lf)) (some .nili) (.nd (.nd (.nd .lf (some .nilf) .lf) (some .nilf) .lf) (some .nilf) (.nd .lf (some .nilf) .lf))) (some (.int .u64 (0))) (.nd (.nd (.nd (.nd .lf (some .nilm) .lf) (some .nilf) .lf) (some .nils) (.nd .lf (some .nilf) .lf)) (some (.tup [.nils,(.int .i64 (0)),(.int .i64 (0)),(.int .i64 (0))])) (.nd (.nd (.nd .lf (some (.agg [(.int .u64 (0)),(.int .u64 (0)),(.int .u32 (0)),(.int .u8 (0)),(.int .u8 (0)),(.int .u8 (0)),(.int .u8 (0)),.nilf,.nilp,(.int .i32 (0)),(.int .i32 (0))])) .lf) (some .nilf) .lf) (some .nilf) (.nd .lf (some .nilf) .lf))))) (some (.int .i64 (0))) (.nd (.nd (.nd (.nd (.nd (.nd .lf (some .nilf) .lf) (some (.agg [(.bool false),(.bool false),(.bool false),(.bool false),(.bool false),(.bool false),(.bool false),(.bool false)])) .lf) (some .nilf) (.nd .lf (some .nilf) .lf)) (some (.agg [.nilp])) (.nd (.nd (.nd .lf (some (.agg [])) .lf) (some (.agg [(.str []),(.int .i64 (0)),(.int .i64 (0)),(.int .i64 (0))])) .lf) (some .nilf) (.nd .lf (some .nilf) .lf))) (some (.str [])) (.nd (.nd (.nd (.nd .lf (some .nilf) .lf) (some .nilf) .lf) (some (.tup [.nilp,(.int .i64 (0))])) (.nd .lf (some (.tup [(.agg [(.bool false),(.bool false),(.bool false),(.bool false),(.bool false),(.bool false),(.bool false),(.bool false)]),(.int .i64 (0))])) .lf)) (some .nils) (.nd (.nd (.nd .lf (some (.int .i32 (0))) .lf) (some .nilf) .lf) (some (.tup [.nils,(.int .i64 (0))])) (.nd .lf (some .nilf) .lf)))) (some (.int .u8 (0))) (.nd (.nd (.nd (.nd (.nd .lf (some .nilf) .lf) (some .nilf) .lf) (some .nils) (.nd .lf (some .nilf) .lf)) (some .nils) (.nd (.nd (.nd .lf (some (.int .u8 (0))) .lf) (some (.agg [(.int .i64 (0)),(.int .i64 (0)),(.int .i64 (0))])) .lf) (some (.tup [.nils,(.int .i64 (0))])) (.nd .lf (some .nilf) .lf))) (some (.agg [(.str []),(.int .u64 (0))])) (.nd (.nd (.nd (.nd .lf (some .nilf) .lf) (some .nilf) .lf) (some (.agg [.nils,(.int .i64 (0)),(.int .i64 (0))])) (.nd .lf (some .nilf) .lf)) (some .nilf) (.nd (.nd (.nd .lf (some .nilp) .lf) (some .nilf) .lf) (some .nilf) (.nd .lf (some .nilf) .lf)))))))
noncomputable def eqT:Tr Unit:=(.nd (.nd (.nd (.nd (.nd (.nd (.nd .lf (some ()) .lf) none .lf) none (.nd .lf (some ()) .lf)) (some ()) (.nd .lf none (.nd (.nd .lf (some ()) .lf) none .lf))) none (.nd (.nd (.nd (.nd (.nd .lf (some ()) .lf) none .lf) none .lf) none (.nd (.nd .lf (some ()) .lf) none .lf)) none .lf)) none (.nd (.nd (.nd (.nd (.nd .lf (some ()) .lf) none .lf) none (.nd (.nd (.nd .lf (some ()) .lf) none .lf) none .lf)) none (.nd (.nd (.nd .lf (some ()) .lf) none .lf) (some ()) .lf)) none .lf)) none (.nd (.nd (.nd (.nd (.nd (.nd .lf (some ()) .lf) none .lf) none (.nd (.nd .lf (some ()) .lf) none .lf)) (some ()) (.nd (.nd (.nd .lf (some ()) .lf) none .lf) (some ()) .lf)) none .lf) none (.nd (.nd (.nd (.nd (.nd .lf (some ()) .lf) none .lf) none (.nd (.nd .lf (some ()) .lf) none .lf)) none .lf) none (.nd (.nd .lf none (.nd (.nd .lf (some ()) .lf) none .lf)) none (.nd (.nd .lf (some ()) .lf) none .lf)))))
noncomputable def fnT:Tr Func:=(.nd (.nd (.nd (.nd (.nd (.nd (.nd .lf (some Try.f63) .lf) (some Try.f31) (.nd .lf (some Try.f95) .lf)) (some Try.f15) (.nd (.nd .lf (some Try.f79) .lf) (some Try.f47) .lf)) (some Try.f7) (.nd (.nd (.nd .lf (some Try.f71) .lf) (some Try.f39) .lf) (some Try.f23) (.nd (.nd .lf (some Try.f87) .lf) (some Try.f55) .lf))) (some Try.f3) (.nd (.nd (.nd (.nd .lf (some Try.f67) .lf) (some Try.f35) .lf) (some Try.f19) (.nd (.nd .lf (some Try.f83) .lf) (some Try.f51) .lf)) (some Try.f11) (.nd (.nd (.nd .lf (some Try.f75) .lf) (some Try.f43) .lf) (some Try.f27) (.nd (.nd .lf (some Try.f91) .lf) (some Try.f59) .lf)))) none (.nd (.nd (.nd (.nd (.nd .lf (some Try.f65) .lf) (some Try.f33) (.nd .lf (some Try.f97) .lf)) (some Try.f17) (.nd (.nd .lf (some Try.f81) .lf) (some Try.f49) .lf)) (some Try.f9) (.nd (.nd (.nd .lf (some Try.f73) .lf) (some Try.f41) .lf) (some Try.f25) (.nd (.nd .lf (some Try.f89) .lf) (some Try.f57) .lf))) (some Try.f5) (.nd (.nd (.nd (.nd .lf (some Try.f69) .lf) (some Try.f37) .lf) (some Try.f21) (.nd (.nd .lf (some Try.f85) .lf) (some Try.f53) .lf)) (some Try.f13) (.nd (.nd (.nd .lf (some Try.f77) .lf) (some Try.f45) .lf) (some Try.f29) (.nd (.nd .lf (some Try.f93) .lf) (some Try.f61) .lf))))) none (.nd (.nd (.nd (.nd (.nd (.nd .lf (some Try.f64) .lf) (some Try.f32) (.nd .lf (some Try.f96) .lf)) (some Try.f16) (.nd (.nd .lf (some Try.f80) .lf) (some Try.f48) .lf)) (some Try.f8) (.nd (.nd (.nd .lf (some Try.f72) .lf) (some Try.f40) .lf) (some Try.f24) (.nd (.nd .lf (some Try.f88) .lf) (some Try.f56) .lf))) (some Try.f4) (.nd (.nd (.nd (.nd .lf (some Try.f68) .lf) (some Try.f36) .lf) (some Try.f20) (.nd (.nd .lf (some Try.f84) .lf) (some Try.f52) .lf)) (some Try.f12) (.nd (.nd (.nd .lf (some Try.f76) .lf) (some Try.f44) .lf) (some Try.f28) (.nd (.nd .lf (some Try.f92) .lf) (some Try.f60) .lf)))) (some Try.f2) (.nd (.nd (.nd (.nd (.nd .lf (some Try.f66) .lf) (some Try.f34) (.nd .lf (some Try.f98) .lf)) (some Try.f18) (.nd (.nd .lf (some Try.f82) .lf) (some Try.f50) .lf)) (some Try.f10) (.nd (.nd (.nd .lf (some Try.f74) .lf) (some Try.f42) .lf) (some Try.f26) (.nd (.nd .lf (some Try.f90) .lf) (some Try.f58) .lf))) (some Try.f6) (.nd (.nd (.nd (.nd .lf (some Try.f70) .lf) (some Try.f38) .lf) (some Try.f22) (.nd (.nd .lf (some Try.f86) .lf) (some Try.f54) .lf)) (some Try.f14) (.nd (.nd (.nd .lf (some Try.f78) .lf) (some Try.f46) .lf) (some Try.f30) (.nd (.nd .lf (some Try.f94) .lf) (some Try.f62) .lf))))))
noncomputable def glT:Tr (List AV):=.lf
noncomputable def mtT : Tr (List (String × Nat)) := (.nd (.nd (.nd (.nd (.nd .lf (some [("Error", 107), ("RuntimeError", 108)]) (.nd .lf (some [("nore/tender.byDay", 36), ("nore/tender.byNeed", 37), ("nore/tender.byNumber", 38), ("nore/tender.byOrders", 39)]) .lf)) none (.nd .lf none (.nd (.nd (.nd .lf (some [("String", 114)]) .lf) (some [("nore/tender.least", 70), ("nore/tender.next", 84)]) .lf) none .lf))) none (.nd (.nd .lf (some [("Error", 112), ("RuntimeError", 113)]) .lf) (some [("Error", 103), ("RuntimeError", 104)]) .lf)) none (.nd (.nd (.nd .lf (some [("Align", 111)]) .lf) none (.nd (.nd .lf (some [("nore/tender.bears", 32), ("nore/tender.breach", 31), ("nore/tender.breaches", 16), ("nore/tender.countEarly", 73), ("nore/tender.fewest", 47), ("nore/tender.firsts", 83), ("nore/tender.fullCargos", 71), ("nore/tender.fulls", 69), ("nore/tender.further", 35), ("nore/tender.holds", 58), ("nore/tender.leftOn", 44), ("nore/tender.listed", 43), ("nore/tender.mornings", 53), ("nore/tender.must", 48), ("nore/tender.needs", 88), ("nore/tender.with", 75), ("nore/tender.worst", 46)]) .lf) none .lf)) none .lf)) none (.nd (.nd (.nd (.nd .lf (some [("Error", 109), ("RuntimeError", 110)]) .lf) (some [("Error", 99), ("RuntimeError", 100)]) .lf) none .lf) none (.nd (.nd (.nd (.nd (.nd .lf (some [("nore/tender.indices", 55), ("nore/tender.with", 52)]) .lf) none .lf) none .lf) (some [("Error", 101), ("RuntimeError", 102)]) .lf) none (.nd .lf (some [("Error", 105), ("RuntimeError", 106)]) .lf))))
noncomputable def T0:Tabs:=⟨tyT,szT,byT,zeT,eqT,fnT,glT,99999,99999,99999,.lf,mtT,false⟩
theorem fnT_ok:allP (fun f fn=>Try.prog.funcs[f]?=some fn) fnT (fun k=>k):=⟨trivial,⟨trivial,⟨Try.func3,⟨Try.func7,⟨Try.func15,⟨Try.func31,⟨Try.func63,trivial,trivial⟩,⟨Try.func95,trivial,trivial⟩⟩,⟨Try.func47,⟨Try.func79,trivial,trivial⟩,trivial⟩⟩,⟨Try.func23,⟨Try.func39,⟨Try.func71,trivial,trivial⟩,trivial⟩,⟨Try.func55,⟨Try.func87,trivial,trivial⟩,trivial⟩⟩⟩,⟨Try.func11,⟨Try.func19,⟨Try.func35,⟨Try.func67,trivial,trivial⟩,trivial⟩,⟨Try.func51,⟨Try.func83,trivial,trivial⟩,trivial⟩⟩,⟨Try.func27,⟨Try.func43,⟨Try.func75,trivial,trivial⟩,trivial⟩,⟨Try.func59,⟨Try.func91,trivial,trivial⟩,trivial⟩⟩⟩⟩,⟨Try.func5,⟨Try.func9,⟨Try.func17,⟨Try.func33,⟨Try.func65,trivial,trivial⟩,⟨Try.func97,trivial,trivial⟩⟩,⟨Try.func49,⟨Try.func81,trivial,trivial⟩,trivial⟩⟩,⟨Try.func25,⟨Try.func41,⟨Try.func73,trivial,trivial⟩,trivial⟩,⟨Try.func57,⟨Try.func89,trivial,trivial⟩,trivial⟩⟩⟩,⟨Try.func13,⟨Try.func21,⟨Try.func37,⟨Try.func69,trivial,trivial⟩,trivial⟩,⟨Try.func53,⟨Try.func85,trivial,trivial⟩,trivial⟩⟩,⟨Try.func29,⟨Try.func45,⟨Try.func77,trivial,trivial⟩,trivial⟩,⟨Try.func61,⟨Try.func93,trivial,trivial⟩,trivial⟩⟩⟩⟩⟩,⟨Try.func2,⟨Try.func4,⟨Try.func8,⟨Try.func16,⟨Try.func32,⟨Try.func64,trivial,trivial⟩,⟨Try.func96,trivial,trivial⟩⟩,⟨Try.func48,⟨Try.func80,trivial,trivial⟩,trivial⟩⟩,⟨Try.func24,⟨Try.func40,⟨Try.func72,trivial,trivial⟩,trivial⟩,⟨Try.func56,⟨Try.func88,trivial,trivial⟩,trivial⟩⟩⟩,⟨Try.func12,⟨Try.func20,⟨Try.func36,⟨Try.func68,trivial,trivial⟩,trivial⟩,⟨Try.func52,⟨Try.func84,trivial,trivial⟩,trivial⟩⟩,⟨Try.func28,⟨Try.func44,⟨Try.func76,trivial,trivial⟩,trivial⟩,⟨Try.func60,⟨Try.func92,trivial,trivial⟩,trivial⟩⟩⟩⟩,⟨Try.func6,⟨Try.func10,⟨Try.func18,⟨Try.func34,⟨Try.func66,trivial,trivial⟩,⟨Try.func98,trivial,trivial⟩⟩,⟨Try.func50,⟨Try.func82,trivial,trivial⟩,trivial⟩⟩,⟨Try.func26,⟨Try.func42,⟨Try.func74,trivial,trivial⟩,trivial⟩,⟨Try.func58,⟨Try.func90,trivial,trivial⟩,trivial⟩⟩⟩,⟨Try.func14,⟨Try.func22,⟨Try.func38,⟨Try.func70,trivial,trivial⟩,trivial⟩,⟨Try.func54,⟨Try.func86,trivial,trivial⟩,trivial⟩⟩,⟨Try.func30,⟨Try.func46,⟨Try.func78,trivial,trivial⟩,trivial⟩,⟨Try.func62,⟨Try.func94,trivial,trivial⟩,trivial⟩⟩⟩⟩⟩⟩
theorem lib_ok:T0.lb=true→LibOK Try.prog 99999 99999 99999:=fun h=>by cases h
theorem tabs_ok:TabsOK Try.prog T0:=⟨by kernel_rfl,by kernel_rfl,by kernel_rfl,fnT_ok,by kernel_rfl,by kernel_rfl,lib_ok,by kernel_rfl⟩
end Go.Proofs.Ytmpaifgmccdipaa


set_option maxRecDepth 100000
namespace Go.Proofs.Ytmpaifgmccdipaa
open Go Go.Eng
noncomputable def E0:Env:={ T0.env with sy:=true,frz:=fun f=>elemN f [16,17,18,63,52,13,11,6,24,32,58,61,46,49,40,27,19,21,10,86,78,79,80,65,50,41,30,31,14,96,51,87,81,66,67,98],fp:=fun f=>elemN f [16,32,58,46,43,44,31,53,69,83],tr:=fun f=>elemN f [60] }
theorem e0:EnvOK Try.prog E0:=by
 have h:=tabs_ok.env
 refine⟨fun t k ht=>?_,h.zero,h.fn,h.eqok,h.meth⟩
 obtain⟨h1,h2⟩:=h.ty t k ht
 refine⟨h1,?_⟩
 cases k<;>exact h2
theorem n0:NameOK E0:=tabs_ok.name
theorem x0:ExtOK Try.prog E0:=tabs_ok.ext
abbrev tI:Ty:=.int .i64
abbrev tN:Ty:=.cons .str (.cons tI (.cons tI (.cons tI .nil)))
abbrev tS:Ty:=.cons tI (.cons (.sl tN) (.cons tI (.cons tI (.cons tI (.cons (.sl tI) .nil)))))
abbrev tO:Ty:=.cons tI (.cons (.sl tI) .nil)
abbrev tX:Ty:=.cons tS (.cons (.sl tO) .nil)
abbrev tB:Ty:=.cons .bool (.cons .bool (.cons .bool (.cons .bool (.cons .bool (.cons .bool (.cons .bool (.cons .bool .nil)))))))
abbrev tL:Ty:=.cons tI (.cons tI (.cons tI .nil))
noncomputable def hdOf (l:List Nat):Sy:=⟨fun _ _=>none,fun f=>l.any (Nat.beq f),true,[],false,[],[]⟩
theorem hdOf_ok (l:List Nat):(hdOf l).ok E0:=fun _ _ _ h=>by cases h
theorem E0sy:E0.sy=true:=rfl
theorem E0ext (f:Nat) (args:List AV) (h:(E0.ext f args).isNone=true):E0.ext f args=none:=by
 cases e:E0.ext f args with
 |none=>rfl
 |some v=>rw[e] at h;cases h
noncomputable abbrev iI (n:Int):AV:=.int .i64 n
noncomputable def hasB (E:Env) (f:Nat):Bool:=match E.fn f with
 |some fn=>fn.body.isSome
 |none=>false
theorem hasB_spec {E:Env} {f:Nat} (h:hasB E f=true):∃ fn b,E.fn f=some fn∧fn.body=some b:=by
 unfold hasB at h
 split at h
 · rename_i fn e
   obtain⟨b,hb⟩:=Option.isSome_iff_exists.1 h
   exact⟨fn,b,e,hb⟩
 · cases h
end Go.Proofs.Ytmpaifgmccdipaa


set_option maxRecDepth 100000
namespace Go.Proofs.Ytmpaifgmccdipaa
open Go Go.Eng
noncomputable def nameI0 (s:List Nat) (x2:Int) (x8:Nat) (x16:Nat):Cfg:=⟨.ex (pcOf E0 98 [0,0,1,0,1,1,1]) ⟨(tmOf 34 [(0,(.str (s))),(2,(.bool false)),(3,(.int .i32 x2)),(7,(.str (s))),(8,(iI (Int.ofNat s.length))),(9,(.bool false)),(10,(.str (s))),(11,(.iter 0))]),(hpOf 1 [(0,(.siter (s) x8))]),[],[],34,false⟩,⟨3,[]⟩,[(.lop (pcOf E0 98 [0,0,1,0,1,1,1]) 1 (tmOf 34 [(0,(.str (s))),(2,(.bool false)),(3,(.int .i32 (45))),(7,(.str (s))),(8,(iI (Int.ofNat s.length))),(9,(.bool false)),(10,(.str (s))),(11,(.iter 0))]) x16),(.blk 0),(.seq (pcOf E0 98 [1,1,1,1])),(.cal [(.tmp 2)] .top)]⟩
theorem name_start (s:List Nat):adv E0 (hdOf [98]) 3000 (startC E0 98 [.str s] 3)=(bif !ile (↑s.length) 14 then some (.done (.bool (false))) else some (.stop (nameI0 s (45) (0) (1048575)))):=by kernel_rfl
theorem name_step0 (s:List Nat) (x2:Int) (x8:Nat) (x16:Nat):adv E0 (hdOf [98]) 3000 (nameI0 s x2 x8 (x16+1))=(bif (x8+1).ble s.length then (bif (s.getD x8 0).ble 127 then (bif ile 97 (Int.ofNat (s.getD x8 0)) then (bif !ile (Int.ofNat (s.getD x8 0)) 122 then (bif !ieq (Int.ofNat (s.getD x8 0)) 45 then some (.done (.bool (false))) else (bif ieq x2 45 then some (.done (.bool (false))) else some (.stop (nameI0 s (Int.ofNat (s.getD x8 0)) (x8+1) (x16))))) else some (.stop (nameI0 s (Int.ofNat (s.getD x8 0)) (x8+1) (x16)))) else (bif !ieq (Int.ofNat (s.getD x8 0)) 45 then some (.done (.bool (false))) else (bif ieq x2 45 then some (.done (.bool (false))) else some (.stop (nameI0 s (Int.ofNat (s.getD x8 0)) (x8+1) (x16)))))) else (bif ile 97 (Int.ofNat (decN s x8).1) then (bif !ile (Int.ofNat (decN s x8).1) 122 then (bif !ieq (Int.ofNat (decN s x8).1) 45 then some (.done (.bool (false))) else (bif ieq x2 45 then some (.done (.bool (false))) else some (.stop (nameI0 s (Int.ofNat (decN s x8).1) (x8+(decN s x8).2) (x16))))) else some (.stop (nameI0 s (Int.ofNat (decN s x8).1) (x8+(decN s x8).2) (x16)))) else (bif !ieq (Int.ofNat (decN s x8).1) 45 then some (.done (.bool (false))) else (bif ieq x2 45 then some (.done (.bool (false))) else some (.stop (nameI0 s (Int.ofNat (decN s x8).1) (x8+(decN s x8).2) (x16))))))) else some (.done (.bool (!ieq x2 45)))):=by kernel_rfl
noncomputable def rnameI0 (s:List Nat) (x2:Int) (x14:Nat):Cfg:=⟨.ex (pcOf E0 86 [0,0,1,0,1,1]) ⟨(tmOf 46 [(0,(.str (s))),(2,(.bool false)),(3,(iI x2)),(4,(.str (s))),(5,(iI (Int.ofNat s.length))),(6,(.bool (ile (↑s.length) 14))),(7,(.bool false))]),(hpOf 0 []),[],[],46,false⟩,⟨3,[]⟩,[(.lop (pcOf E0 86 [0,0,1,0,1,1]) 0 (tmOf 46 [(0,(.str (s))),(2,(.bool false)),(3,(iI 0)),(4,(.str (s))),(5,(iI (Int.ofNat s.length))),(6,(.bool (ile (↑s.length) 14))),(7,(.bool false))]) x14),(.blk 0),(.seq (pcOf E0 86 [1,1,1])),(.cal [(.tmp 2)] .top)]⟩
theorem rname_start (s:List Nat):adv E0 (hdOf [86]) 3000 (startC E0 86 [.str s] 3)=(bif ile 1 ↑s.length then (bif !ile (↑s.length) 14 then some (.done (.bool (false))) else some (.stop (rnameI0 s (0) (1048575)))) else some (.done (.bool (false)))):=by kernel_rfl
theorem rname_step0 (s:List Nat) (x2:Int) (x14:Nat):adv E0 (hdOf [86]) 3000 (rnameI0 s x2 (x14+1))=(bif !ile (↑s.length) x2 then (bif inB x2 s.length then (bif ile 97 (Int.ofNat (s.getD x2.toNat 0)) then (bif inB x2 s.length then (bif ile (Int.ofNat (s.getD x2.toNat 0)) 122 then some (.stop (rnameI0 s (wr .i64 (x2+1)) (x14))) else (bif inB x2 s.length then (bif !ieq (Int.ofNat (s.getD x2.toNat 0)) 45 then some (.done (.bool (false))) else (bif ieq x2 0 then some (.done (.bool (false))) else (bif ieq x2 (wr .i64 (↑s.length-1)) then some (.done (.bool (false))) else (bif inB (wr .i64 (x2-1)) s.length then (bif ieq (Int.ofNat (s.getD (wr .i64 (x2-1)).toNat 0)) 45 then some (.done (.bool (false))) else some (.stop (rnameI0 s (wr .i64 (x2+1)) (x14)))) else none)))) else none)) else none) else (bif inB x2 s.length then (bif !ieq (Int.ofNat (s.getD x2.toNat 0)) 45 then some (.done (.bool (false))) else (bif ieq x2 0 then some (.done (.bool (false))) else (bif ieq x2 (wr .i64 (↑s.length-1)) then some (.done (.bool (false))) else (bif inB (wr .i64 (x2-1)) s.length then (bif ieq (Int.ofNat (s.getD (wr .i64 (x2-1)).toNat 0)) 45 then some (.done (.bool (false))) else some (.stop (rnameI0 s (wr .i64 (x2+1)) (x14)))) else none)))) else none)) else none) else some (.done (.bool (true)))):=by kernel_rfl
noncomputable def placeI0 (d:(Ty.sl .str).den) (s:List Nat) (x4:Int) (x10:Nat):Cfg:=⟨.ex (pcOf E0 87 [0,0,1,0,1]) ⟨(tmOf 19 [(0,(.vs .str (d.1) (d.2))),(1,(.str (s))),(4,(iI 0)),(5,(iI x4))]),(hpOf 0 []),[],[],19,false⟩,⟨3,[]⟩,[(.lop (pcOf E0 87 [0,0,1,0,1]) 0 (tmOf 19 [(0,(.vs .str (d.1) (d.2))),(1,(.str (s))),(4,(iI 0)),(5,(iI 0))]) x10),(.blk 0),(.seq (pcOf E0 87 [1,1])),(.cal [(.tmp 4)] .top)]⟩
theorem place_start (d:(Ty.sl .str).den) (s:List Nat):adv E0 (hdOf [87]) 3000 (startC E0 87 [.vs .str d.1 d.2,.str s] 3)=some (.stop (placeI0 d s (0) (1048575))):=by kernel_rfl
theorem place_step0 (d:(Ty.sl .str).den) (s:List Nat) (x4:Int) (x10:Nat):adv E0 (hdOf [87]) 3000 (placeI0 d s x4 (x10+1))=(bif !ile (↑d.2.length) x4 then (bif inB x4 d.2.length then (bif lbeq (d.2.getD x4.toNat Ty.str.dflt) s then some (.done (.int .i64 (x4))) else some (.stop (placeI0 d s (wr .i64 (x4+1)) (x10)))) else none) else some (.done (.int .i64 (-1)))):=by kernel_rfl
theorem same_at {α:Type} {l:List α} {j k:Nat} (hk:k<l.length) (hj:j<l.length) (e:k+1=j+1):l[k]=l[j]:=by
 have:k=j:=by omega
 subst this;rfl
def placeF (s:List Nat):List (List Nat)→Nat→Int
 |[],_=>-1
 |a::l,k=>if a=s then k else placeF s l (k+1)
theorem place_ans (d:(Ty.sl .str).den) (s:List Nat) (hl:d.2.length<1048576):∀ (r k m:Nat),k+r=d.2.length→r<m→Ans E0 (placeI0 d s k m) (.int .i64 (placeF s (d.2.drop k) k))
 |0,k,m+1,hk,hm=>by
  have h:=place_step0 d s k m
  simp only[Int.ofNat_eq_natCast,ile_ge (show d.2.length≤k by omega),Bool.not_true,cond_false] at h
  rw[List.drop_eq_nil_of_le (by omega)]
  exact .doneI (hdOf_ok _) E0sy h rfl
 |r+1,k,m+1,hk,hm=>by
  have h:=place_step0 d s k m
  have hlt:k<d.2.length:=by omega
  simp only[Int.ofNat_eq_natCast,ile_lt hlt,inB_at hlt,getD_at hlt,wr_succ (show k<1048577 by omega),Bool.not_false,cond_true,lbeq_iff] at h
  rw[List.drop_eq_getElem_cons hlt,placeF]
  by_cases e:d.2[k]=s
  · simp only [e, decide_true, cond_true] at h
    rw[if_pos e]
    exact .doneI (hdOf_ok _) E0sy h rfl
  · simp only [e, decide_false, cond_false] at h
    rw[if_neg e]
    exact .stop (hdOf_ok _) E0sy h (place_ans d s hl r (k+1) m (by omega) (by omega))
theorem place_call (d:(Ty.sl .str).den) (s:List Nat) (hl:d.2.length<1048575):AnsF E0 87 [.vs .str d.1 d.2,.str s] (.int .i64 (placeF s d.2 0)):=
 Ans.call (n:=3) (E0ext _ _ (by kernel_rfl)) (hasB_spec (by kernel_rfl)) (.stop (hdOf_ok _) E0sy (place_start d s) (place_ans d s (by omega) d.2.length 0 1048575 (by omega) (by omega)))
noncomputable def isL (c:Nat):Bool:=ile 97 (c:Int)&&ile (c:Int) 122
noncomputable def nmF:Int→List Nat→Bool
 |b,[]=>!ieq b 45
 |b,c::l=>bif isL c then nmF c l else (bif ieq (c:Int) 45&&!ieq b 45 then nmF c l else false)
noncomputable def nameS (s:List Nat):Bool:=ile (s.length:Int) 14&&nmF 45 s
theorem name_ans (s:List Nat) (hl:s.length<1048576):∀ (r k m:Nat) (b:Int),k+r=s.length→r<m→Ans E0 (nameI0 s b k m) (.bool (nmF b (s.drop k)))
 | 0, k, m + 1, b, hk, hm => by
  have h:=name_step0 s b k m
  have e:(k+1).ble s.length=false:=by cases e:(k+1).ble s.length with|false=>rfl|true=>exact absurd (Nat.le_of_ble_eq_true e) (by omega)
  simp only[e,cond_false] at h
  rw[List.drop_eq_nil_of_le (by omega),nmF]
  first
   |exact .doneB (hdOf_ok _) E0sy h rfl
   |(cases c1:ieq b 45<;>simp only[c1,cond_true,cond_false,Bool.not_true,Bool.not_false] at h<;>exact .doneB (hdOf_ok _) E0sy h rfl)
 | r + 1, k, m + 1, b, hk, hm => by
  have h:=name_step0 s b k m
  have hlt:k<s.length:=by omega
  have e:(k+1).ble s.length=true:=Nat.ble_eq_true_of_le hlt
  have eg:s.getD k 0=s[k]:=by simp[hlt]
  rw[List.drop_eq_getElem_cons hlt,nmF,isL]
  cases hb:(s[k]).ble 127 with
  | true =>
   simp only[e,cond_true,eg,hb,Int.ofNat_eq_natCast] at h
   have ih:=name_ans s hl r (k+1) m (s[k]:Int) (by omega) (by omega)
   cases c1:ile 97 (s[k]:Int)<;>cases c2:ile (s[k]:Int) 122<;>cases c3:ieq (s[k]:Int) 45<;>cases c4:ieq b 45 <;>
    simp only[c1,c2,c3,c4,cond_true,cond_false,Bool.not_true,Bool.not_false,Bool.and_true,Bool.and_false] at h ⊢ <;>
    first
     |exact .doneB (hdOf_ok _) E0sy h rfl
     |exact .stop (hdOf_ok _) E0sy h ih
  |false=>
   have hbig:128≤(decN s k).1:=decN_big hlt (by rw[eg];exact Nat.lt_of_not_le (fun h'=>by rw[Nat.ble_eq_true_of_le h'] at hb;cases hb))
   have hc:127<s[k]:=Nat.lt_of_not_le (fun h'=>by rw[Nat.ble_eq_true_of_le h'] at hb;cases hb)
   have d1:ile 97 ((decN s k).1:Int)=true:=by rw[ile_iff];simp;omega
   have d2:ile ((decN s k).1:Int) 122=false:=by rw[ile_iff];simp;omega
   have d3:ieq ((decN s k).1:Int) 45=false:=by rw[ieq_iff];simp;omega
   have f2:ile (s[k]:Int) 122=false:=by rw[ile_iff];simp;omega
   have f3:ieq (s[k]:Int) 45=false:=by rw[ieq_iff];simp;omega
   simp only[e,cond_true,cond_false,eg,hb,Int.ofNat_eq_natCast,d1,d2,d3,Bool.not_false] at h
   simp only[f2,f3,Bool.and_false,Bool.false_and,cond_false]
   exact .doneB (hdOf_ok _) E0sy h rfl
theorem name_call (s:List Nat):AnsF E0 98 [.str s] (.bool (nameS s)):=by
 refine Ans.call (n:=3) (E0ext _ _ (by kernel_rfl)) (hasB_spec (by kernel_rfl)) ?_
 have h:=name_start s
 unfold nameS
 cases c1:ile (s.length:Int) 14 with
 |false=>
  simp only[c1,Bool.not_false,cond_true] at h
  exact .doneB (hdOf_ok _) E0sy h rfl
 |true=>
  simp only[c1,Bool.not_true,cond_false] at h
  have hl:s.length≤14:=by rw[ile_iff] at c1;simp at c1;omega
  exact .stopE (hdOf_ok _) E0sy h (name_ans s (by omega) s.length 0 1048575 45 (by omega) (by omega)) (by simp)
theorem rname_ans (s:List Nat) (hl:s.length≤14):∀ (r k m:Nat) (b:Int),k+r=s.length→r<m→(k=0→b=45∧0<s.length)→(∀ j (hj:j<s.length),k=j+1→b=(s[j]:Int))→(k=s.length→ieq b 45=false)→Ans E0 (rnameI0 s k m) (.bool (nmF b (s.drop k)))
 |0,k,m+1,b,hk,hm,h0,hb,he=>by
  have h:=rname_step0 s k m
  simp only[ile_ge (show s.length≤k by omega),Bool.not_true,cond_false] at h
  rw[List.drop_eq_nil_of_le (by omega),nmF,he (by omega)]
  exact .doneB (hdOf_ok _) E0sy h rfl
 | r + 1, k, m + 1, b, hk, hm, h0, hb, he => by
  have h:=rname_step0 s k m
  have hlt:k<s.length:=by omega
  have w1:wr .i64 ((s.length:Int)-1)=(s.length:Int)-1:=wr_in (by omega) (by omega)
  have w2:wr .i64 ((k:Int)-1)=(k:Int)-1:=wr_in (by omega) (by omega)
  simp only[ile_lt hlt,inB_at hlt,getD_at hlt,wr_succ (show k<1048577 by omega),Bool.not_false,cond_true,Int.ofNat_eq_natCast,w1,w2] at h
  rw[List.drop_eq_getElem_cons hlt,nmF,isL]
  have ih:=fun (hne:k+1=s.length→ieq (s[k]:Int) 45=false)=>rname_ans s hl r (k+1) m (s[k]:Int) (by omega) (by omega) (by omega) (fun j hj e=>congrArg (fun n:Nat=>(n:Int)) (same_at hlt hj e)) hne
  cases c3:ieq (s[k]:Int) 45 with
  | false =>
   have ih:=ih (fun _=>c3)
   cases c1:ile 97 (s[k]:Int)<;>cases c2:ile (s[k]:Int) 122 <;>
    simp only[c1,c2,c3,cond_true,cond_false,Bool.not_true,Bool.not_false,Bool.and_true,Bool.and_false,Bool.false_and] at h ⊢ <;>
    first
     |exact .doneB (hdOf_ok _) E0sy h rfl
     |exact .stop (hdOf_ok _) E0sy h ih
  | true =>
   have hc:(s[k]:Int)=45:=by rw[ieq_iff] at c3;simpa using c3
   have c1:ile 97 (s[k]:Int)=false:=by rw[ile_iff,hc];rfl
   simp only[c1,c3,cond_true,cond_false,Bool.not_true,Bool.true_and,Bool.false_and] at h⊢
   cases k with
   |zero=>
    obtain⟨rfl,_⟩:=h0 rfl
    have z:ieq ((0:Nat):Int) 0=true:=by decide
    simp only[z,cond_true] at h
    rw[show ieq 45 45=true by rw[ieq_iff];simp]
    exact .doneB (hdOf_ok _) E0sy h rfl
   | succ j =>
    have z:ieq ((j+1:Nat):Int) 0=false:=by rw[ieq_iff];simp;omega
    have hj:j<s.length:=by omega
    have hbj:=hb j hj rfl
    have e2:((j+1:Nat):Int)-1=(j:Int):=by omega
    simp only[z,cond_false,e2,inB_at hj,getD_at hj,cond_true] at h
    rw[← hbj] at h
    cases c5:ieq ((j+1:Nat):Int) ((s.length:Int)-1) with
    |true=>
     have hr:j+2=s.length:=by rw[ieq_iff] at c5;simp at c5;omega
     simp only[c5,cond_true] at h
     rw[List.drop_eq_nil_of_le (by omega),nmF,hc]
     refine .doneB (hdOf_ok _) E0sy h ?_
     cases ieq b 45<;>rfl
    | false =>
     have hr:j+2≠s.length:=by intro e;rw[ieq_iff] at c5;simp at c5;omega
     simp only[c5,cond_false] at h
     cases c4:ieq b 45 with
     |true=>
      simp only[c4,cond_true,Bool.not_true,cond_false] at h⊢
      exact .doneB (hdOf_ok _) E0sy h rfl
     |false=>
      simp only[c4,cond_true,Bool.not_false,cond_false] at h⊢
      exact .stop (hdOf_ok _) E0sy h (ih (fun e=>absurd e (by omega)))
theorem rname_call (s:List Nat):AnsF E0 86 [.str s] (.bool (nameS s)):=by
 refine Ans.call (n:=3) (E0ext _ _ (by kernel_rfl)) (hasB_spec (by kernel_rfl)) ?_
 have h:=rname_start s
 unfold nameS
 cases c0:ile 1 (s.length:Int) with
 | false =>
  have:s=[]:=by
   rw[ile_iff] at c0
   cases s with
   |nil=>rfl
   |cons a l=>simp at c0;omega
  subst this
  simp only[c0,cond_false] at h
  refine .doneB (hdOf_ok _) E0sy h ?_
  rw[nmF,show ieq 45 45=true by rw[ieq_iff];simp]
  simp
 | true =>
  have h1:1≤s.length:=by rw[ile_iff] at c0;simp at c0;omega
  cases c1:ile (s.length:Int) 14 with
  |false=>
   simp only[c0,c1,Bool.not_false,cond_true] at h
   exact .doneB (hdOf_ok _) E0sy h rfl
  |true=>
   simp only[c0,c1,Bool.not_true,cond_false,cond_true] at h
   have hl:s.length≤14:=by rw[ile_iff] at c1;simp at c1;omega
   exact .stopE (hdOf_ok _) E0sy h (rname_ans s hl s.length 0 1048575 45 (by omega) (by omega) (fun _=>⟨rfl,by omega⟩) (fun j _ e=>by omega) (fun e=>by omega)) (by simp)
end Go.Proofs.Ytmpaifgmccdipaa


namespace Go.Eng
open Go
section
variable {H:Type} {P:Program}
noncomputable def avAll (g:DataW H→Option (List AV)) (sz:Nat):List (DataW H)→Option (List AV)
 |[]=>some []
 | d :: ds => match g d, avAll g sz ds with
  |some l,some r=>match Nat.beq l.length sz with
   |true=>some (l++r)
   |false=>none
  |_,_=>none
noncomputable def avF (P:Program) (g:TypeId→DataW H→Option (List AV)):Nat→List Field→List (DataW H)→Option (List AV)
 |_,[],[]=>some []
 | off, f :: fs, d :: ds => match g f.type d, avF P g (off + P.cellsOf f.type) fs ds with
  |some l,some r=>match Nat.beq f.offset off,Nat.beq l.length (P.cellsOf f.type) with
   |true,true=>some (l++r)
   |_,_=>none
  |_,_=>none
 |_,_,_=>none
noncomputable def full? (P:Program) (t:TypeId):Option (List AV)→Option (List AV)
 |some l=>match Nat.beq l.length (P.cellsOf t) with
  |true=>some l
  |false=>none
 |none=>none
theorem full?_inv {t:TypeId} {r:Option (List AV)} {l:List AV} (h:full? P t r=some l):r=some l∧l.length=P.cellsOf t:=by
 unfold full? at h
 split at h
 · split at h
   · rename_i e
     simp only[Option.some.injEq] at h;subst h
     exact⟨rfl,Nat.eq_of_beq_eq_true e⟩
   · cases h
 · cases h
noncomputable def av (P:Program):Nat→TypeId→DataW H→Option (List AV)
 |0,_,_=>none
 | n + 1, t, d => match P.underlying t with
  |some .bool=>match d with
   |.lit (.bool b)=>some [.bool b]
   |_=>none
  |some (.int _)=>match d with
   |.lit (.int k i)=>some [.int k i]
   |_=>none
  |some .string=>match d with
   |.lit (.string s)=>some [.str (s.map (·.toNat))]
   |_=>none
  | some (.pointer e) => match d with
   |.nil=>some [.nilp]
   |.ptr d=>match Nat.ble 1 (P.cellsOf e) with
    |true=>(av P n e d).map fun l=>[.cp l 0]
    |false=>none
   |_=>none
  | some (.slice e) => match d with
   |.nil=>some [.nils]
   |.slice els _=>match Nat.ble 1 (P.cellsOf e) with
    |true=>(avAll (av P n e) (P.cellsOf e) els).map fun l=>[.csl l els.length]
    |false=>none
   |_=>none
  |some (.struct fs)=>match d with
   |.agg ps=>full? P t (avF P (av P n) 0 fs.toList ps)
   |_=>none
  |some (.array _ e)=>match d with
   |.agg ps=>full? P t (avAll (av P n e) (P.cellsOf e) ps)
   |_=>none
  |_=>none
theorem avAll_cons {g:DataW H→Option (List AV)} {sz:Nat} {d:DataW H} {ds:List (DataW H)} {l:List AV} (h:avAll g sz (d::ds)=some l):∃ a r,g d=some a∧avAll g sz ds=some r∧a.length=sz∧l=a++r:=by
 simp only[avAll] at h
 split at h
 · rename_i a r h1 h2
   split at h
   · rename_i e
     simp only[Option.some.injEq] at h
     exact⟨a,r,h1,h2,Nat.eq_of_beq_eq_true e,h.symm⟩
   · cases h
 · cases h
theorem avF_cons {g:TypeId→DataW H→Option (List AV)} {off:Nat} {f:Field} {fs:List Field} {d:DataW H} {ds:List (DataW H)} {l:List AV} (h:avF P g off (f::fs) (d::ds)=some l) :
  ∃ a r,g f.type d=some a∧avF P g (off+P.cellsOf f.type) fs ds=some r∧f.offset=off∧a.length=P.cellsOf f.type∧l=a++r:=by
 simp only[avF] at h
 split at h
 · rename_i a r h1 h2
   split at h
   · rename_i e e2
     simp only[Option.some.injEq] at h
     exact⟨a,r,h1,h2,Nat.eq_of_beq_eq_true e,Nat.eq_of_beq_eq_true e2,h.symm⟩
   · cases h
 · cases h
variable {enc:TypeId×Value→H} {w:World} {base:Nat} {spare:Nat→Bool} {held:Bool}
def seen (w:World):View:=⟨fun _=>none,fun _=>none,fun b o=>w.cell? ⟨b,o,none⟩,fun _=>0⟩
theorem cells?_get {a:Addr} {n:Nat} {cs:List Value} (h:w.cells? base a n=some cs):cs.length=n∧∀ j,j<n→w.cell? (a.add j)=cs[j]?:=by
 unfold World.cells? at h
 split at h
 · refine ⟨by simpa using mapM_some_length h, fun j hj => ?_⟩
   exact mapM_some_get h j j (by simp[hj])
 · cases h
theorem cell?_spot {a:Addr} {v:Value} (h:w.cell? a=some v):a.spot=none:=by
 unfold World.cell? at h
 split at h
 · split at h
   · cases h
   · rename_i hs;simpa using hs
 · cases h
def Lies (w:World) (blk o:Nat) (l:List AV):Prop:=∀ i (hi:i<l.length),∃ v,w.cell? ⟨blk,o+i,none⟩=some v∧VR (seen w) l[i] v
theorem Lies.append {blk o:Nat} {l r:List AV} (h:Lies w blk o l) (k:Lies w blk (o+l.length) r):Lies w blk o (l++r):=by
 intro i hi
 by_cases hl:i<l.length
 · rw[List.getElem_append_left hl];exact h i hl
 · have hi' : i - l.length < r.length := by rw [List.length_append] at hi; omega
   rw[List.getElem_append_right (by omega)]
   obtain⟨v,h1,h2⟩:=k (i-l.length) hi'
   rw[show o+l.length+(i-l.length)=o+i by omega] at h1
   exact⟨v,h1,h2⟩
theorem Lies.of {blk o:Nat} {l:List AV} {cs:List Value} (h:VRs (seen w) l cs) (hc:∀ j,j<cs.length→w.cell? ⟨blk,o+j,none⟩=cs[j]?):Lies w blk o l:=by
 intro i hi
 have hi':i<cs.length:=h.1▸hi
 exact⟨cs[i],by rw[hc i hi'];simp[hi'],h.2 i hi hi'⟩
theorem Lies.choose {blk o:Nat} {l:List AV} (h:Lies w blk o l):∃ f:Nat→Value,(∀ i,i<l.length→(seen w).K blk (o+i)=some (f i))∧∀ i (hi:i<l.length),VR (seen w).bare l[i] (f i):=by
 refine⟨fun i=>(w.cell? ⟨blk,o+i,none⟩).getD undef,fun i hi=>?_,fun i hi=>?_⟩
 · obtain ⟨v, h1, _⟩ := h i hi
   show w.cell? ⟨blk,o+i,none⟩=_
   simp[h1]
 · obtain ⟨v, h1, h2⟩ := h i hi
   simp only[h1,Option.getD_some]
   exact h2
theorem spot_add {a:Addr} (hs:a.spot=none) (n:Nat):a.add n=⟨a.block,a.off+n,none⟩:=by
 obtain⟨blk,off,spot⟩:=a
 simp only at hs;subst hs
 unfold Addr.add
 split
 · rename_i h;subst h;rfl
 · rfl
theorem spot_add2 {a:Addr} (hs:a.spot=none) (n m:Nat):(a.add n).add m=a.add (n+m):=by
 rw[spot_add hs,spot_add rfl,spot_add hs,Nat.add_assoc]
theorem trod_parts {g:TypeId→List Value→Option (DataW H×List MemPlace)} {n:Nat} (ih:∀ t cs d p l,g t cs=some (d,p)→av P n t d=some l→VRs (seen w) l cs) (cs:List Value) :
  ∀ (fs:List Field) (off:Nat) (xs:List (DataW H×List MemPlace)) (l:List AV),(∀ (i:Nat) (f:Field),fs[i]?=some f→g f.type ((cs.drop f.offset).take (P.cellsOf f.type))=xs[i]?)→avF P (av P n) off fs (xs.map (·.1))=some l→VRs (seen w) l ((cs.drop off).take l.length)
 | [], off, xs, l, h, hl => by
  cases xs with
  |nil=>
   simp only[List.map_nil,avF,Option.some.injEq] at hl;subst hl
   simpa using VRs.nil _
  |cons x xs=>simp[avF] at hl
 |f::fs,off,[],l,h,hl=>by simp[avF] at hl
 |f::fs,off,x::xs,l,h,hl=>by
  rw[List.map_cons] at hl
  obtain⟨a,r,h1,h2,h3,h4,rfl⟩:=avF_cons hl
  have hx:=h 0 f rfl
  rw[List.getElem?_cons_zero] at hx
  have e1:=ih _ _ _ x.2 a hx h1
  have e2:=trod_parts ih cs fs _ xs r (fun i f hf=>by have:=h (i+1) f (by simpa using hf);simpa using this) h2
  rw[h3] at e1
  rw[List.length_append,h4,List.take_add,List.drop_drop]
  exact e1.append e2
theorem trod_elems {g:List Value→Option (DataW H×List MemPlace)} {n sz:Nat} {e:TypeId} (ih:∀ cs d p l,g cs=some (d,p)→av P n e d=some l→VRs (seen w) l cs) (cs:List Value) :
  ∀ (i:Nat) (xs:List (DataW H×List MemPlace)) (l:List AV),(∀ j,j<xs.length→g ((cs.drop ((i+j) * sz)).take sz)=xs[j]?)→avAll (av P n e) sz (xs.map (·.1))=some l→VRs (seen w) l ((cs.drop (i * sz)).take l.length)
 |i,[],l,h,hl=>by
  simp only[List.map_nil,avAll,Option.some.injEq] at hl;subst hl
  simpa using VRs.nil _
 |i,x::xs,l,h,hl=>by
  rw[List.map_cons] at hl
  obtain⟨a,r,h1,h2,h4,rfl⟩:=avAll_cons hl
  have hx:=h 0 (by simp)
  rw[List.getElem?_cons_zero] at hx
  have e1:=ih _ _ x.2 a hx h1
  have e2:=trod_elems ih cs (i+1) xs r (fun j hj=>by have:=h (j+1) (by simpa using hj);rw[show i+1+j=i+(j+1) by omega];simpa using this) h2
  rw[List.length_append,h4,List.take_add,List.drop_drop]
  rw[show i * sz+sz=(i+1) * sz by rw[Nat.add_mul,Nat.one_mul]]
  exact e1.append e2
theorem trod_lies {g:List Value→Option (DataW H×List MemPlace)} {n sz:Nat} {e:TypeId} (ih:∀ cs d p l,g cs=some (d,p)→av P n e d=some l→VRs (seen w) l cs) (a:Addr) (hs:a.spot=none) :
  ∀ (i:Nat) (xs:List (DataW H×List MemPlace)) (l:List AV),(∀ j,j<xs.length→(w.cells? base (a.add ((i+j) * sz)) sz).bind g=xs[j]?)→avAll (av P n e) sz (xs.map (·.1))=some l→Lies w a.block (a.off+i * sz) l
 |i,[],l,h,hl=>by
  simp only[List.map_nil,avAll,Option.some.injEq] at hl;subst hl
  intro i hi;simp at hi
 |i,x::xs,l,h,hl=>by
  rw[List.map_cons] at hl
  obtain⟨b,r,h1,h2,h4,rfl⟩:=avAll_cons hl
  have hx:=h 0 (by simp)
  rw[List.getElem?_cons_zero,Option.bind_eq_some_iff] at hx
  obtain⟨cs,hc,hx⟩:=hx
  have e1:=ih _ _ x.2 b hx h1
  have e2:=trod_lies ih a hs (i+1) xs r (fun j hj=>by have:=h (j+1) (by simpa using hj);rw[show i+1+j=i+(j+1) by omega];simpa using this) h2
  obtain⟨c1,c2⟩:=cells?_get hc
  refine Lies.append (Lies.of e1 fun j hj=>?_) ?_
  · rw [← c2 j (c1 ▸ hj), spot_add hs]
    rw[show a.off+i * sz+j=a.off+((i+0) * sz+j) by rw[Nat.add_zero];omega]
    rw[← spot_add hs,← spot_add2 hs,spot_add hs]
  · rw [h4, show a.off + i * sz + sz = a.off + (i + 1) * sz by rw [Nat.add_mul, Nat.one_mul]; omega]
    exact e2
theorem trod_av (hsp : ∀ b, spare b = true) : ∀ (n m : Nat) (t : TypeId) (cs : List Value) (d : DataW H) (p : List MemPlace) (l : List AV), DataW.trod enc P w base spare held m t cs = some (d, p) → av P n t d = some l → VRs (seen w) l cs
 |0,m,t,cs,d,p,l,h,hl=>by simp[av] at hl
 |n+1,m,t,cs,d,p,l,h,hl=>by
  have ih:=fun m t cs d p l (h:DataW.trod enc P w base spare held m t cs=some (d,p)) (hl:av P n t d=some l)=>trod_av hsp n m t cs d p l h hl
  rw[av.eq_def] at hl
  simp only at hl
  split at hl
  · rename_i hu
    obtain⟨b,rfl,hx⟩:=DataW.trod_bool hu h
    cases hx
    cases hl
    exact .cons (.bool _) (.nil _)
  · rename_i hu
    obtain⟨i,rfl,hx,_⟩:=DataW.trod_int hu h
    cases hx
    cases hl
    exact .cons (.int _ _) (.nil _)
  · rename_i hu
    obtain⟨s,rfl,hx,_⟩:=DataW.trod_string hu h
    cases hx
    cases hl
    exact .cons (.str _) (.nil _)
  · rename_i e hu
    rcases DataW.trod_pointer hu h with ⟨rfl,hx⟩|⟨a,cs',y,k,rfl,rfl,hx,hc,hy⟩
    · cases hx
      cases hl
      exact .cons .nilp (.nil _)
    · cases hx
      simp only at hl
      split at hl
      · rename_i hz
        have hz:=Nat.le_of_ble_eq_true hz
        simp only[Option.map_eq_some_iff] at hl
        obtain⟨l',hl',rfl⟩:=hl
        have e1:=ih _ _ _ _ y.2 _ hy hl'
        obtain⟨c1,c2⟩:=cells?_get hc
        have hs:a.spot=none:=by
         have:=c2 0 (by omega)
         rw[List.getElem?_eq_getElem (by omega)] at this
         exact cell?_spot (a:=a.add 0) this
        have hL:Lies w a.block a.off l':=Lies.of e1 fun j hj=>by rw[← c2 j (c1▸hj),spot_add hs]
        obtain⟨f,f1,f2⟩:=hL.choose
        refine .cons ?_ (.nil _)
        obtain⟨blk,off,spot⟩:=a
        simp only at hs;subst hs
        exact .cp l' 0 blk off f f1 f2
      · cases hl
  · rename_i e hu
    rcases DataW.trod_slice hu h with ⟨rfl,hx⟩|⟨a,len,cap,els,rest,k,rfl,rfl,hx,hb,hlc,_,hlen,h1,h2,_⟩
    · cases hx
      cases hl
      exact .cons .nils (.nil _)
    · cases hx
      simp only at hl
      split at hl
      · rename_i hz
        have hz:=Nat.le_of_ble_eq_true hz
        simp only[Option.map_eq_some_iff] at hl
        obtain⟨l',hl',rfl⟩:=hl
        obtain⟨h2l,h2⟩:=h2 (hsp _)
        have hone:cap≠0→∃ x,((w.cells? base (a.add (0 * P.cellsOf e)) (P.cellsOf e)).bind (DataW.trod enc P w base spare held k e))=some x:=by
         intro hc0
         by_cases hl0:len=0
         · have := h2 0 (by omega)
           rw[List.getElem?_eq_getElem (by omega)] at this
           subst hl0
           exact⟨_,by simpa using this⟩
         · have := h1 0 (by omega)
           rw[List.getElem?_eq_getElem (by omega)] at this
           exact⟨_,this⟩
        have hs:cap=0∨a.spot=none:=by
         by_cases hc0:cap=0
         · exact .inl hc0
         · right
           obtain⟨x,hx⟩:=hone hc0
           rw[Option.bind_eq_some_iff] at hx
           obtain⟨cs',hc,_⟩:=hx
           obtain⟨c1,c2⟩:=cells?_get hc
           have:=c2 0 (by omega)
           rw[List.getElem?_eq_getElem (by omega)] at this
           have:=cell?_spot this
           simpa [Addr.add] using this
        have hL:Lies w a.block a.off l':=by
         rcases hs with hc0|hs
         · have : els = [] := List.eq_nil_of_length_eq_zero (by omega)
           subst this
           simp only[List.map_nil,avAll,Option.some.injEq] at hl';subst hl'
           intro i hi;simp at hi
         · have := trod_lies (w := w) (base := base) (g := DataW.trod enc P w base spare held k e) (n := n) (sz := P.cellsOf e) (e := e) (fun cs d p l h hl => ih _ e cs d p l h hl) a hs 0 els l' (fun j hj => by rw [Nat.zero_add]; exact h1 j (by omega)) hl'
           simpa using this
        obtain⟨f,f1,f2⟩:=hL.choose
        refine .cons ?_ (.nil _)
        rw[show (els.map (·.1)).length=len by rw[List.length_map,hlen]]
        refine .csl l' len a.block a.off cap a f f1 f2 hlc (hs.imp (fun x=>x) fun x=>?_)
        obtain⟨blk,off,spot⟩:=a
        simp only at x;subst x;rfl
      · cases hl
  · rename_i fs hu
    obtain⟨xs,k,rfl,hx,hlen,_,h1⟩:=DataW.trod_struct hu h
    cases hx
    simp only at hl
    obtain⟨hl,hn⟩:=full?_inv hl
    have:=trod_parts (w:=w) (g:=DataW.trod enc P w base spare held k) (fun t cs d p l h hl=>ih k t cs d p l h hl) cs fs.toList 0 xs l (fun i f hf=>h1 i f (by simpa using hf)) hl
    rw[List.drop_zero,hn,← hlen,List.take_length] at this
    exact this
  · rename_i k e hu
    split at hl
    · rename_i ps
      obtain⟨xs,k,rfl,hx,hlen,hxl,h1⟩:=DataW.trod_array hu h
      cases hx
      obtain⟨hl,hn⟩:=full?_inv hl
      have:=trod_elems (w:=w) (g:=DataW.trod enc P w base spare held k e) (n:=n) (sz:=P.cellsOf e) (e:=e) (fun cs d p l h hl=>ih k e cs d p l h hl) cs 0 xs l (fun j hj=>by rw[Nat.zero_add];exact h1 j (by omega)) hl
      rw[Nat.zero_mul,List.drop_zero,hn,← hlen,List.take_length] at this
      exact this
    · cases hl
  · cases hl
end
end Go.Eng


namespace Go.Eng
open Go
section
variable {P:Program}
theorem kept_of_fr {W W':World} (h:Fr (fun _=>False) W W') (may:MemPlace→Prop):W.keptBut W' may:=by
 refine⟨h.os,h.output,fun i hi=>?_⟩
 rw[h.block i hi (fun x=>x)]
 split
 · rename_i h1 h2
   rw[h1] at h2
   cases h2
   exact⟨rfl,rfl,rfl,fun _ _=>rfl⟩
 · rename_i h1 h2
   rw[h1] at h2
   cases h2
   exact .inr ⟨rfl,rfl⟩
 · rfl
noncomputable def glB (P:Program):List (String×DataW Unit)→Nat→List AV→Bool
 |[],_,_=>false
 | (n, d) :: r, g, l => match (match P.globalNamed n with | some g' => Nat.beq g' g | none => false) with
  | true => match P.globals[g]? with
   |some i=>match av P 40 i.type d with
    |some l'=>avbeqL l' l
    |none=>false
   |none=>false
  |false=>glB P r g l
theorem glB_spec : ∀ {laid : List (String × DataW Unit)} {g : Nat} {l : List AV}, glB P laid g l = true → ∃ n d i, (n, d) ∈ laid ∧ P.globalNamed n = some g ∧ P.globals[g]? = some i ∧ av P 40 i.type d = some l
 |[],g,l,h=>by simp[glB] at h
 | (n, d) :: r, g, l, h => by
  rw[glB] at h
  split at h
  · rename_i e
    split at e
    · rename_i g' hg
      have:=Nat.eq_of_beq_eq_true e;subst this
      split at h
      · rename_i i hi
        split at h
        · rename_i l' hl
          have:=avbeqL_eq _ _ h;subst this
          exact⟨n,d,i,List.mem_cons_self,hg,hi,hl⟩
        · cases h
      · cases h
    · cases e
  · obtain ⟨n', d', i, h1, h2⟩ := glB_spec h
    exact⟨n',d',i,List.mem_cons_of_mem _ h1,h2⟩
theorem glob_of {E:Env} {laid:List (String×DataW Unit)} {gl:Tr (List AV)} (hE:E.glob=gl.get) (h:allT (glB P laid) gl (fun k=>k)=true) {W:World} (hL:laidMet P laid W):GlobK E (seen W):=by
 intro g l hg
 rw[hE] at hg
 obtain⟨n,d,i,h1,h2,h3,h4⟩:=glB_spec (allT_spec _ _ h _ _ hg)
 obtain⟨g',t,cs,fuel,p,k1,k2,k3,k4⟩:=Lib.laidMet.reads hL h1
 obtain rfl:=Option.some.inj (h2.symm.trans k1)
 rw[h3] at k2
 simp only[Option.map_some,Option.some.injEq] at k2
 subst k2
 have hv:=trod_av (w:=W) (fun _=>rfl) _ _ _ _ _ _ _ k4 h4
 refine⟨fun i=>(cs[i]?).getD undef,fun i hi=>?_⟩
 have hi':i<cs.toList.length:=hv.1▸hi
 have hc:=World.var?_cell h2 k3 i
 have e:cs[i]?=some cs[i]:=by simp[show i<cs.size by simpa using hi']
 refine⟨?_,?_⟩
 · show W.cell? ⟨g, i, none⟩ = _
   show _=some ((cs[i]?).getD undef)
   rw[hc,e];rfl
 · show VR (seen W) l[i] ((cs[i]?).getD undef)
   rw[e]
   have:=hv.2 i hi hi'
   simpa using this
theorem post0 {H:Type} {enc:TypeId×Value→H} {f:Func} {s:ChangeSpec} {W W':World} {t:TypeId} (hp:f.params=#[]) (hr:f.resultTypes=#[t]) (ht:P.underlying t=some .bool) (hv:s.vars=[])
  (hs:s.fn H []={ results:=[.lit (.bool true)],args:=[] }) {ds gs:List (DataW H)} {before:List MemPlace} (hW:DataW.Whole enc P f.params.toList s.vars false W [] ds gs before) (h:Fr (fun _=>False) W W') :
  s.post enc P f false true false false W #[] (.bool true) W':=by
 obtain⟨p,q,h1,h2,h3,h4,h5⟩:=hW
 have h1':=h1
 have h2':=h2
 rw[hp] at h1'
 rw[hv] at h2'
 have e1:ds=[]:=by
  cases ds with
  |nil=>rfl
  |cons d ds=>exact absurd h1' (fun h=>by cases h)
 have e2:gs=[]:=by
  cases gs with
  |nil=>rfl
  |cons d ds=>exact absurd h2' (fun h=>by cases h)
 subst e1;subst e2
 refine⟨[],[],before,[],[],[],⟨p,q,h1,h2,h3,h4,h5⟩,?_,?_,?_,kept_of_fr h _,fun h=>by cases h⟩
 · rw [List.nil_append, hs, hr]
   exact Go.ChangeShapes.trodAll_mk1 ⟨1,by simp[DataW.trod,Value.cells,ht]⟩
 · rw [List.nil_append, hs, hp]
   rfl
 · rw [List.nil_append, hs, hv]
   rfl
theorem law0 {T:Tabs} {E:Env} (hE:EnvOK P E) (hX:ExtOK P E) (hN:NameOK E) (hmix:P.follows .mixedOrders=true) (hgl:E.glob=T.gl.get) {laid:List (String×DataW Unit)} (hl:allT (glB P laid) T.gl (fun k=>k)=true) {n f:Nat} (h:isTrue E n f=true)
  {W:World} (hL:laidMet P laid W):Calls P f #[] W fun e W'=>e=.returned (.bool true)∧Fr (fun _=>False) W W':=
 calls_true hE hX hN hmix h (V:=seen W) (fun _ _ _ h=>h) (glob_of hgl hl hL)
end
end Go.Eng


namespace Go.Eng
open Go
mutual
noncomputable def fits (P:Program):Ty→TypeId→Bool
 |.int k,T=>match P.underlying T with
  |some (.int k')=>ikb k k'
  |_=>false
 |.bool,T=>match P.underlying T with
  |some .bool=>true
  |_=>false
 |.str,T=>match P.underlying T with
  |some .string=>true
  |_=>false
 | .nil, T => match P.underlying T with
  |some (.struct fs)=>match fs.toList with
   |[]=>Nat.beq 0 (P.cellsOf T)
   |_=>false
  |_=>false
 | .cons a b, T => match P.underlying T with
  |some (.struct fs)=>match fs.toList with
   |f::fs=>Nat.beq f.offset 0&&fits P a f.type&&Nat.beq a.size (P.cellsOf f.type)&&fitsF P b a.size fs&&Nat.beq (a.size+b.size) (P.cellsOf T)
   |[]=>false
  |some (.array n e)=>match n with
   |n+1=>fits P a e&&Nat.beq a.size (P.cellsOf e)&&fitsA P b n e&&Nat.beq (a.size+b.size) (P.cellsOf T)
   |0=>false
  |_=>false
 |.sl t,T=>match P.underlying T with
  |some (.slice e)=>fits P t e&&Nat.beq t.size (P.cellsOf e)&&Nat.ble 1 t.size
  |_=>false
noncomputable def fitsF (P:Program):Ty→Nat→List Field→Bool
 |.nil,_,fs=>match fs with
  |[]=>true
  |_=>false
 |.cons a b,off,fs=>match fs with
  |f::fs=>Nat.beq f.offset off&&fits P a f.type&&Nat.beq a.size (P.cellsOf f.type)&&fitsF P b (off+a.size) fs
  |[]=>false
 |_,_,_=>false
noncomputable def fitsA (P:Program):Ty→Nat→TypeId→Bool
 |.nil,n,_=>Nat.beq n 0
 |.cons a b,n,e=>match n with
  |n+1=>fits P a e&&Nat.beq a.size (P.cellsOf e)&&fitsA P b n e
  |0=>false
 |_,_,_=>false
end
noncomputable def Ty.wf:(t:Ty)→t.den→Bool
 |.int k,n=>decide (k.min≤n)&&decide (n≤k.max)
 |.bool,_=>true
 |.str,_=>true
 |.nil,_=>true
 |.cons t ts,d=>t.wf d.1&&ts.wf d.2
 |.sl t,d=>d.2.all fun x=>t.wf x
section
variable {H:Type} {P:Program} {enc:TypeId×Value→H} {w:World} {base:Nat} {spare:Nat→Bool} {held:Bool}
theorem lies_ty {g:List Value→Option (DataW H×List MemPlace)} {t:Ty} (ih:∀ cs d p,g cs=some (d,p)→∃ x:t.den,VRs (seen w) (t.cells x) cs∧t.wf x=true) (a:Addr) (hs:a.spot=none) :
  ∀ (i:Nat) (xs:List (DataW H×List MemPlace)),(∀ j,j<xs.length→(w.cells? base (a.add ((i+j) * t.size)) t.size).bind g=xs[j]?)→∃ l:List t.den,l.length=xs.length∧Lies w a.block (a.off+i * t.size) (flat t l)∧(l.all fun x=>t.wf x)=true
 |i,[],h=>⟨[],rfl,fun i hi=>by simp[flat] at hi,rfl⟩
 |i,x::xs,h=>by
  have hx:=h 0 (by simp)
  rw[List.getElem?_cons_zero,Option.bind_eq_some_iff] at hx
  obtain⟨cs,hc,hx⟩:=hx
  obtain⟨d,e1,w1⟩:=ih _ x.1 x.2 hx
  obtain⟨l,hl,e2,w2⟩:=lies_ty ih a hs (i+1) xs (fun j hj=>by have:=h (j+1) (by simpa using hj);rw[show i+1+j=i+(j+1) by omega];simpa using this)
  obtain⟨c1,c2⟩:=cells?_get hc
  refine⟨d::l,by simp[hl],?_,by rw[List.all_cons,w1,w2];rfl⟩
  show Lies w a.block (a.off+i * t.size) (t.cells d++flat t l)
  refine Lies.append (Lies.of e1 fun j hj=>?_) ?_
  · rw [← c2 j (c1 ▸ hj), spot_add hs]
    rw[show a.off+i * t.size+j=a.off+((i+0) * t.size+j) by rw[Nat.add_zero];omega]
    rw[← spot_add hs,← spot_add2 hs,spot_add hs]
  · rw [Ty.cells_length, show a.off + i * t.size + t.size = a.off + (i + 1) * t.size by rw [Nat.add_mul, Nat.one_mul]; omega]
    exact e2
mutual
theorem trod_ty (hsp : ∀ b, spare b = true) : ∀ (t : Ty) (T : TypeId) (m : Nat) (cs : List Value) (d : DataW H) (p : List MemPlace), fits P t T = true → DataW.trod enc P w base spare held m T cs = some (d, p) → ∃ x : t.den, VRs (seen w) (t.cells x) cs ∧ t.wf x = true
 |.int k,T,m,cs,d,p,hf,h=>by
  simp only[fits] at hf
  split at hf
  · rename_i k' hu
    obtain⟨i,rfl,hx,hw⟩:=DataW.trod_int hu h
    have:=ikb_eq hf;subst this
    exact⟨i,.cons (.int _ _) (.nil _),hw⟩
  · cases hf
 |.bool,T,m,cs,d,p,hf,h=>by
  simp only[fits] at hf
  split at hf
  · rename_i hu
    obtain⟨b,rfl,hx⟩:=DataW.trod_bool hu h
    exact⟨b,.cons (.bool _) (.nil _),rfl⟩
  · cases hf
 |.str,T,m,cs,d,p,hf,h=>by
  simp only[fits] at hf
  split at hf
  · rename_i hu
    obtain⟨s,rfl,hx,_⟩:=DataW.trod_string hu h
    exact⟨_,.cons (.str _) (.nil _),rfl⟩
  · cases hf
 |.nil,T,m,cs,d,p,hf,h=>by
  simp only[fits] at hf
  split at hf
  · rename_i fs hu
    split at hf
    · have hc := Nat.eq_of_beq_eq_true hf
      obtain⟨xs,k,rfl,hx,hlen,_,h1⟩:=DataW.trod_struct hu h
      have:cs=[]:=List.eq_nil_of_length_eq_zero (by rw[hlen];omega)
      subst this
      exact⟨(),.nil _,rfl⟩
    · cases hf
  · cases hf
 |.cons a b,T,m,cs,d,p,hf,h=>by
  simp only[fits] at hf
  split at hf
  · rename_i fs hu
    split at hf
    · rename_i f fs' hfs
      simp only[Bool.and_eq_true] at hf
      obtain⟨⟨⟨⟨f1,f2⟩,f3⟩,f4⟩,f5⟩:=hf
      have f1:=Nat.eq_of_beq_eq_true f1
      have f3:=Nat.eq_of_beq_eq_true f3
      have f5:=Nat.eq_of_beq_eq_true f5
      obtain⟨xs,k,rfl,hx,hlen,hxl,h1⟩:=DataW.trod_struct hu h
      have hi0 := h1 0 f (by have : fs[0]? = some f := by rw [← Array.getElem?_toList, hfs]; rfl
                             exact this)
      cases xs with
      | nil =>
       exfalso
       have h0:fs.toList.length=0:=by
        have:=hxl
        simp at this
        simp[this]
       rw[hfs] at h0;simp at h0
      | cons y ys =>
       rw[List.getElem?_cons_zero] at hi0
       obtain⟨u,e1,w1⟩:=trod_ty hsp a _ _ _ y.1 y.2 f2 hi0
       have hl2:fs'.length=ys.length:=by
        have h0:fs.toList.length=fs'.length+1:=by rw[hfs];rfl
        have:=hxl
        simp at this h0
        omega
       obtain⟨v,e2,w2⟩:=trod_tyF hsp b k a.size fs' ys cs hl2 (fun i g hg=>by
        have:=h1 (i+1) g (by rw[← Array.getElem?_toList,hfs];simpa using hg)
        simpa using this) f4
       refine⟨(u,v),?_,by show (a.wf u&&b.wf v)=true;rw[w1,w2];rfl⟩
       show VRs (seen w) (a.cells u++b.cells v) cs
       rw[f1,← f3,List.drop_zero] at e1
       have:=e1.append e2
       rw[← List.take_add,f5,← hlen,List.take_length] at this
       exact this
    · cases hf
  · rename_i n0 e hu
    split at hf
    · rename_i n
      simp only[Bool.and_eq_true] at hf
      obtain⟨⟨⟨f1,f2⟩,f3⟩,f4⟩:=hf
      have f2:=Nat.eq_of_beq_eq_true f2
      have f4:=Nat.eq_of_beq_eq_true f4
      obtain⟨xs,k,rfl,hx,hlen,hxl,h1⟩:=DataW.trod_array hu h
      cases xs with
      |nil=>simp at hxl
      | cons y ys =>
       have hi0:=h1 0 (by omega)
       rw[List.getElem?_cons_zero,Nat.zero_mul,List.drop_zero] at hi0
       obtain⟨u,e1,w1⟩:=trod_ty hsp a _ _ _ y.1 y.2 f1 hi0
       obtain⟨v,e2,w2⟩:=trod_tyA hsp b k a.size n e ys cs (by simpa using hxl) (fun i hi=>by
        have:=h1 (i+1) (by omega)
        rw[List.getElem?_cons_succ] at this
        rw[f2,show P.cellsOf e+i * P.cellsOf e=(i+1) * P.cellsOf e by rw[Nat.add_mul,Nat.one_mul,Nat.add_comm]]
        exact this) f3
       refine⟨(u,v),?_,by show (a.wf u&&b.wf v)=true;rw[w1,w2];rfl⟩
       show VRs (seen w) (a.cells u++b.cells v) cs
       rw[← f2] at e1
       have:=e1.append e2
       rw[← List.take_add,f4,← hlen,List.take_length] at this
       exact this
    · cases hf
  · cases hf
 | .sl t, T, m, cs, d, p, hf, h => by
  simp only[fits] at hf
  split at hf
  · rename_i e hu
    simp only[Bool.and_eq_true] at hf
    obtain⟨⟨f1,f2⟩,f3⟩:=hf
    have f2:=Nat.eq_of_beq_eq_true f2
    have hz:=Nat.le_of_ble_eq_true f3
    rcases DataW.trod_slice hu h with ⟨rfl,hx⟩|⟨a,len,cap,els,rest,k,rfl,rfl,hx,hb,hlc,_,hlen,h1,h2,_⟩
    · exact⟨(true,[]),.cons (.vsn _) (.nil _),rfl⟩
    · obtain ⟨h2l, h2⟩ := h2 (hsp _)
      have hone:cap≠0→∃ x,((w.cells? base (a.add (0 * P.cellsOf e)) (P.cellsOf e)).bind (DataW.trod enc P w base spare held k e))=some x:=by
       intro hc0
       by_cases hl0:len=0
       · have := h2 0 (by omega)
         rw[List.getElem?_eq_getElem (by omega)] at this
         subst hl0
         exact⟨_,by simpa using this⟩
       · have := h1 0 (by omega)
         rw[List.getElem?_eq_getElem (by omega)] at this
         exact⟨_,this⟩
      have hs:cap=0∨a.spot=none:=by
       by_cases hc0:cap=0
       · exact .inl hc0
       · right
         obtain⟨x,hx⟩:=hone hc0
         rw[Option.bind_eq_some_iff] at hx
         obtain⟨cs',hc,_⟩:=hx
         obtain⟨c1,c2⟩:=cells?_get hc
         have:=c2 0 (by omega)
         rw[List.getElem?_eq_getElem (by omega)] at this
         have:=cell?_spot this
         simpa [Addr.add] using this
      have hL:∃ l:List t.den,l.length=len∧Lies w a.block a.off (flat t l)∧(l.all fun x=>t.wf x)=true:=by
       rcases hs with hc0|hs
       · exact⟨[],by simp;omega,fun i hi=>by simp[flat] at hi,rfl⟩
       · obtain ⟨l, g1, g2, g3⟩ := lies_ty (w := w) (base := base) (g := DataW.trod enc P w base spare held k e) (t := t) (fun cs d p h => trod_ty hsp t e k cs d p f1 h) a hs 0 els (fun j hj => by rw [Nat.zero_add, f2]; exact h1 j (by omega))
         exact⟨l,by rw[g1,hlen],by simpa using g2,g3⟩
      obtain⟨l,hll,hL,hwf⟩:=hL
      obtain⟨f,g1,g2⟩:=hL.choose
      subst hll
      refine⟨(false,l),.cons ?_ (.nil _),hwf⟩
      refine .vs t l a.block a.off cap a f g1 g2 hlc (hs.imp (fun x=>x) fun x=>?_)
      obtain⟨blk,off,spot⟩:=a
      simp only at x;subst x;rfl
  · cases hf
theorem trod_tyF (hsp:∀ b,spare b=true):∀ (t:Ty) (m off:Nat) (fs:List Field) (xs:List (DataW H×List MemPlace)) (cs:List Value),fs.length=xs.length→(∀ (i:Nat) (f:Field),fs[i]?=some f→DataW.trod enc P w base spare held m f.type ((cs.drop f.offset).take (P.cellsOf f.type))=xs[i]?)→fitsF P t off fs=true→∃ x:t.den,VRs (seen w) (t.cells x) ((cs.drop off).take t.size)∧t.wf x=true
 |.nil,m,off,fs,xs,cs,hn,h,hf=>⟨(),by show VRs _ [] (List.take 0 _);exact .nil _,rfl⟩
 |.cons a b,m,off,fs,xs,cs,hn,h,hf=>by
  simp only[fitsF] at hf
  split at hf
  · rename_i f fs
    simp only[Bool.and_eq_true] at hf
    obtain⟨⟨⟨f1,f2⟩,f3⟩,f4⟩:=hf
    have f1:=Nat.eq_of_beq_eq_true f1
    have f3:=Nat.eq_of_beq_eq_true f3
    have hi0:=h 0 f rfl
    cases xs with
    |nil=>
     exfalso
     simp at hn
    | cons y ys =>
     rw[List.getElem?_cons_zero] at hi0
     obtain⟨u,e1,w1⟩:=trod_ty hsp a _ _ _ y.1 y.2 f2 hi0
     obtain⟨v,e2,w2⟩:=trod_tyF hsp b m (off+a.size) fs ys cs (by simpa using hn) (fun i g hg=>by
      have:=h (i+1) g (by simpa using hg)
      simpa using this) f4
     refine⟨(u,v),?_,by show (a.wf u&&b.wf v)=true;rw[w1,w2];rfl⟩
     show VRs (seen w) (a.cells u++b.cells v) (List.take (a.size+b.size) (cs.drop off))
     rw[f1,← f3] at e1
     rw[List.take_add,List.drop_drop]
     exact e1.append e2
  · cases hf
 |.int _,m,off,fs,xs,cs,hn,h,hf=>by simp[fitsF] at hf
 |.bool,m,off,fs,xs,cs,hn,h,hf=>by simp[fitsF] at hf
 |.str,m,off,fs,xs,cs,hn,h,hf=>by simp[fitsF] at hf
 |.sl _,m,off,fs,xs,cs,hn,h,hf=>by simp[fitsF] at hf
theorem trod_tyA (hsp:∀ b,spare b=true):∀ (t:Ty) (m off n:Nat) (e:TypeId) (xs:List (DataW H×List MemPlace)) (cs:List Value),xs.length=n→(∀ i,i<n→DataW.trod enc P w base spare held m e ((cs.drop (off+i * P.cellsOf e)).take (P.cellsOf e))=xs[i]?)→fitsA P t n e=true→∃ x:t.den,VRs (seen w) (t.cells x) ((cs.drop off).take t.size)∧t.wf x=true
 |.nil,m,off,n,e,xs,cs,hn,h,hf=>⟨(),by show VRs _ [] (List.take 0 _);exact .nil _,rfl⟩
 |.cons a b,m,off,n,e,xs,cs,hn,h,hf=>by
  simp only[fitsA] at hf
  split at hf
  · rename_i n
    simp only[Bool.and_eq_true] at hf
    obtain⟨⟨f1,f2⟩,f3⟩:=hf
    have f2:=Nat.eq_of_beq_eq_true f2
    cases xs with
    |nil=>simp at hn
    | cons y ys =>
     have hi0:=h 0 (by omega)
     rw[List.getElem?_cons_zero,Nat.zero_mul,Nat.add_zero] at hi0
     obtain⟨u,e1,w1⟩:=trod_ty hsp a _ _ _ y.1 y.2 f1 hi0
     obtain⟨v,e2,w2⟩:=trod_tyA hsp b m (off+a.size) n e ys cs (by simpa using hn) (fun i hi=>by
      have:=h (i+1) (by omega)
      rw[List.getElem?_cons_succ] at this
      rw[f2,show off+P.cellsOf e+i * P.cellsOf e=off+(i+1) * P.cellsOf e by rw[Nat.add_mul,Nat.one_mul];omega]
      exact this) f3
     refine⟨(u,v),?_,by show (a.wf u&&b.wf v)=true;rw[w1,w2];rfl⟩
     show VRs (seen w) (a.cells u++b.cells v) (List.take (a.size+b.size) (cs.drop off))
     rw[← f2] at e1
     rw[List.take_add,List.drop_drop]
     exact e1.append e2
  · cases hf
 |.int _,m,off,n,e,xs,cs,hn,h,hf=>by simp[fitsA] at hf
 |.bool,m,off,n,e,xs,cs,hn,h,hf=>by simp[fitsA] at hf
 |.str,m,off,n,e,xs,cs,hn,h,hf=>by simp[fitsA] at hf
 |.sl _,m,off,n,e,xs,cs,hn,h,hf=>by simp[fitsA] at hf
end
end
end Go.Eng


namespace Go.Eng
open Go
attribute [local irreducible] upTo
noncomputable def stepF (E:Env) (call:CallF):CallF:=fun f args σ hs Λ=>Option.rec (motive:=fun _=>RF) (Option.rec (motive:=fun _=>RF) none (fun fn=>funcF E call hs args σ Λ fn) (E.fn f)) (fun v=>some (v,σ,Λ)) (E.ext f args)
theorem stepF_eq (E:Env) (call:CallF):stepF E call=bodyN E call:=by
 funext f args σ hs Λ
 unfold stepF bodyN
 cases E.ext f args with
 |some v=>rfl
 | none =>
  simp only
  cases E.fn f with
  |none=>rfl
  | some fn =>
   simp only[funcF]
   cases fn.body with
   |none=>rfl
   | some body =>
    simp only[bodyF]
    have e:=execF_eq (E:=E) (call:=call) body hs ⟨tmps0 fn.ntmps (.full (dep fn.ntmps)) 0 args,σ,[],Λ,args.length+(fn.ntmps-args.length),false⟩
    simp only at e
    rw[e]
    cases exec E call body hs ⟨tmps0 fn.ntmps (.full (dep fn.ntmps)) 0 args,σ,[],Λ,args.length+(fn.ntmps-args.length),false⟩ with
    |none=>rfl
    |some r=>
     obtain⟨e,st⟩:=r
     cases e with
     |exit i=>rfl
     |normal=>exact finF_eq _ _
     |ret=>exact finF_eq _ _
noncomputable def findF (L:List Ent) (f:Nat) (args:List AV) (σ:Hp):Option Ent:=
 List.rec (motive:=fun _=>Option Ent) none (fun e _ ih=>Bool.rec (motive:=fun _=>Option Ent) ih (Bool.rec (motive:=fun _=>Option Ent) ih (Bool.rec (motive:=fun _=>Option Ent) ih (Bool.rec (motive:=fun _=>Option Ent) ih (some e) (hasAll σ e.need)) (avbeqL e.args args)) (Nat.beq e.n0 σ.n)) (Nat.beq e.f f)) L
theorem findF_eq:∀ (L:List Ent) (f:Nat) (args:List AV) (σ:Hp),findF L f args σ=findE L f args σ
 |[],f,args,σ=>rfl
 |e::L,f,args,σ=>by
  have ih:=findF_eq L f args σ
  show @Bool.rec (fun _=>Option Ent) (findF L f args σ) (@Bool.rec (fun _=>Option Ent) (findF L f args σ) (@Bool.rec (fun _=>Option Ent) (findF L f args σ) (@Bool.rec (fun _=>Option Ent) (findF L f args σ) (some e) (hasAll σ e.need)) (avbeqL e.args args)) (Nat.beq e.n0 σ.n)) (Nat.beq e.f f)=_
  rw[ih]
  simp only[findE]
  cases Nat.beq e.f f<;>cases Nat.beq e.n0 σ.n<;>cases avbeqL e.args args<;>cases hasAll σ e.need<;>rfl
noncomputable def sayF (Λ:List LF) (e:Ent) (σ:Hp):RF:=some (e.v,⟨(putObs σ e.put).t,e.n1⟩,Λ)
noncomputable def callTF (E:Env) (L:List Ent) (n:Nat):CallF:=
 Nat.rec (motive:=fun _=>CallF) (fun _ _ _ _ _=>none) (fun _ ih f args σ hs Λ=>Option.rec (motive:=fun _=>RF) (stepF E ih f args σ hs Λ) (fun e=>sayF Λ e σ) (findF L f args σ)) n
theorem callTF_eq (E:Env) (L:List Ent):∀ n,callTF E L n=callT E L n
 |0=>rfl
 | n + 1 => by
  have ih:=callTF_eq E L n
  funext f args σ hs Λ
  show @Option.rec _ (fun _=>RF) (stepF E (callTF E L n) f args σ hs Λ) (fun e=>sayF Λ e σ) (findF L f args σ)=_
  have e:callT E L (n+1) f args σ hs Λ=match findE L f args σ with
   |some e=>some (e.v,⟨(putObs σ e.put).t,e.n1⟩,Λ)
   |none=>bodyN E (callT E L n) f args σ hs Λ:=rfl
  rw[ih,stepF_eq,findF_eq,e]
  cases findE L f args σ<;>rfl
noncomputable def hasKey (i:Nat) (l:Obs):Bool:=List.rec (motive:=fun _=>Bool) false (fun x _ ih=>Bool.rec (motive:=fun _=>Bool) ih true (Nat.beq x.1 i)) l
noncomputable def keepAll (σ:Hp) (put:Obs):Obs→Bool
 |[]=>true
 | (i, o) :: l => match hasKey i put with
  |true=>keepAll σ put l
  | false => match σ.get i with
   |some o'=>match aobeq o o' with
    |true=>keepAll σ put l
    |false=>false
   |none=>false
theorem hasKey_spec {i:Nat}:∀ {l:Obs},hasKey i l=true→∃ o,(i,o)∈l
 |[],h=>by cases h
 | (j, o) :: l, h => by
  have h':@Bool.rec (fun _=>Bool) (hasKey i l) true (Nat.beq j i)=true:=h
  cases e:Nat.beq j i with
  |true=>have:=Nat.eq_of_beq_eq_true e;subst this;exact⟨o,List.mem_cons_self⟩
  |false=>
   rw[e] at h'
   obtain⟨o',h2⟩:=hasKey_spec (l:=l) h'
   exact⟨o',List.mem_cons_of_mem _ h2⟩
theorem keepAll_spec {σ : Hp} {put : Obs} : ∀ {l : Obs}, keepAll σ put l = true → ∀ i o, (i, o) ∈ l → (∃ o', (i, o') ∈ put) ∨ σ.get i = some o
 |[],_,i,o,hm=>by cases hm
 | (j, o') :: l, h, i, o, hm => by
  simp only[keepAll] at h
  split at h
  · rename_i e
    rcases List.mem_cons.1 hm with e'|hm
    · simp only [Prod.mk.injEq] at e'; obtain ⟨rfl, rfl⟩ := e'
      exact .inl (hasKey_spec e)
    · exact keepAll_spec h i o hm
  · split at h
    · rename_i o2 hg
      split at h
      · rename_i e
        rcases List.mem_cons.1 hm with e'|hm
        · simp only [Prod.mk.injEq] at e'; obtain ⟨rfl, rfl⟩ := e'
          exact .inr (by rw[hg,aobeq_eq e])
        · exact keepAll_spec h i o hm
      · cases h
    · cases h
noncomputable def ansE (e:Ent) (r:RF):Bool:=
 match r with
 |some (w,σ,[])=>match avbeq w e.v,hasAll σ e.put,keepAll σ e.put e.need with
  |true,true,true=>Nat.ble σ.n e.n1
  |_,_,_=>false
 |_=>false
noncomputable def entF (E:Env) (L:List Ent) (n:Nat) (e:Ent):Bool:=ansE e (callTF E L n e.f e.args e.pre [] [])
section
variable {P:Program} {E:Env}
theorem ent_of (hE:EnvOK P E) (hX:ExtOK P E) (hN:NameOK E) (hmix:P.follows .mixedOrders=true) {L:List Ent} (hL:∀ e∈L,EntOK P E e) {n:Nat} {e:Ent} (h:entF E L n e=true):EntOK P E e:=by
 unfold entF at h
 rw[callTF_eq] at h
 unfold ansE at h
 split at h
 · rename_i w σ hc
   split at h
   · rename_i h1 h2 h3
     have:=avbeq_eq _ _ h1;subst this
     exact EntOK.of (callT_ok hE hX hN hmix hL n) hc (hasAll_spec h2) (keepAll_spec h3) (Nat.le_of_ble_eq_true h)
   · cases h
 · cases h
noncomputable def isTrueT (E:Env) (L:List Ent) (n f:Nat):Bool:=
 match E.ext f [],stepF E (callTF E L n) f [] .empty [] [] with
 |none,some (.bool true,_,[])=>true
 |_,_=>false
theorem calls_trueT (hE:EnvOK P E) (hX:ExtOK P E) (hN:NameOK E) (hmix:P.follows .mixedOrders=true) {L:List Ent} (hL:∀ e∈L,EntOK P E e) {n f:Nat} (h:isTrueT E L n f=true) {V:View} {W:World} (hK:∀ b o x,V.K b o=some x→W.cell? ⟨b,o,none⟩=some x) (hg:GlobK E V) :
  Calls P f #[] W fun e W'=>e=.returned (.bool true)∧Fr (fun _=>False) W W':=by
 unfold isTrueT at h
 rw[stepF_eq,callTF_eq] at h
 split at h
 · rename_i σ h1 h2
   refine (calls_of hE hN hmix (callT_ok hE hX hN hmix hL n) h1 h2 (.nil V) rfl hK hg).mono fun e W' ⟨V',R,he,hv,hf⟩=>?_
   cases hv
   exact⟨he,hf⟩
 · cases h
theorem ents_nil:∀ e∈([]:List Ent),EntOK P E e:=fun e he=>by cases he
theorem ents_cons {e:Ent} {L:List Ent} (h:EntOK P E e) (hL:∀ e∈L,EntOK P E e):∀ e'∈e::L,EntOK P E e':=fun e' he=>by
 rcases List.mem_cons.1 he with rfl|he
 · exact h
 · exact hL e' he
end
end Go.Eng


namespace Go.Eng
open Go
section
variable {P:Program}
theorem law0T {T:Tabs} {E:Env} (hE:EnvOK P E) (hX:ExtOK P E) (hN:NameOK E) (hmix:P.follows .mixedOrders=true) (hgl:E.glob=T.gl.get) {laid:List (String×DataW Unit)} (hl:allT (glB P laid) T.gl (fun k=>k)=true) {n f:Nat} {C:List Ent} (hC:∀ e∈C,EntOK P E e) (h:isTrueT E C n f=true)
  {W:World} (hL:laidMet P laid W):Calls P f #[] W fun e W'=>e=.returned (.bool true)∧Fr (fun _=>False) W W':=
 calls_trueT hE hX hN hmix hC h (V:=seen W) (fun _ _ _ h=>h) (glob_of hgl hl hL)
end
end Go.Eng

