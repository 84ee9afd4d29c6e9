/-
  THE ENGINE: one more part of it.
-/
import Derived.Test.YtelibdeanepdjaaGreatPart05
import Derived.Test.YtelibdeanepdjaaGreatPart03
import Derived.ProofKit
set_option linter.unusedSectionVars false
set_option linter.unusedSimpArgs false
set_option linter.unusedVariables false
namespace Go.Eng
open Go
attribute [local irreducible] upTo
noncomputable def optL {α:Type} (o:Option α):Option (List α):=
 match o with
 |some a=>some [a]
 |none=>none
noncomputable def bindL {α β:Type} (f:α→Option (List β)):List α→Option (List β)
 |[]=>some []
 | a :: l => match f a with
  |some x=>match bindL f l with
   |some y=>some (x++y)
   |none=>none
  |none=>none
theorem bindL_mem {α β : Type} {f : α → Option (List β)} : ∀ {l : List α} {r : List β}, bindL f l = some r → ∀ a ∈ l, ∃ x, f a = some x ∧ ∀ b ∈ x, b ∈ r
 |[],r,_,a,ha=>by cases ha
 | b :: l, r, h, a, ha => by
  simp only[bindL] at h
  split at h
  · rename_i x hx
    split at h
    · rename_i y hy
      simp only[Option.some.injEq] at h;subst h
      rcases List.mem_cons.1 ha with rfl|ha
      · exact⟨x,hx,fun b hb=>List.mem_append_left _ hb⟩
      · obtain ⟨x', h1, h2⟩ := bindL_mem hy a ha
        exact⟨x',h1,fun b hb=>List.mem_append_right _ (h2 b hb)⟩
    · cases h
  · cases h
noncomputable def isNextM:Op→Option Operand
 |.next x false=>some x
 |_=>none
theorem isNextM_eq {o:Op} {x:Operand} (h:isNextM o=some x):o=.next x false:=by
 unfold isNextM at h
 split at h
 · simp only[Option.some.injEq] at h;subst h;rfl
 · cases h
noncomputable def oneOpL (E:Env) (call:CallF) (hs:Hnds) (ops:Array Oper) (o:Oper) (st:St):Option (List St):=
 match isNextM o.op with
 | some x => match wantedA ops st.τ o with
  |some true=>match nextL st.τ st.σ x with
   |some l=>bindL (fun r=>optL (putS { st with σ:=r.2 } o.dst r.1)) l
   |none=>none
  |_=>none
 |none=>optL (oneOp E call hs ops o st)
noncomputable def runOpsL (E:Env) (call:CallF) (hs:Hnds) (ops:Array Oper):List Oper→St→Option (List St)
 |[],st=>some [st]
 |o::os,st=>match oneOpL E call hs ops o st with
  |some l=>bindL (runOpsL E call hs ops os) l
  |none=>none
abbrev Outs:=List (Ex×St)
noncomputable def thenL (f:St→Option Outs) (r:Ex×St):Option Outs:=
 match r.1 with
 |.normal=>f r.2
 |_=>some [r]
noncomputable def roundsL (f:St→Option Outs):Nat→St→Option Outs
 |0,_=>none
 |n+1,st=>match f st with
  |some l=>bindL (thenL (roundsL f n)) l
  |none=>none
noncomputable def leaveL (i:Nat) (r:Ex×St):Ex×St:=
 match r.1 with
 |.exit j=>((match Nat.beq j i with|true=>.normal|false=>.exit j),r.2)
 |_=>r
noncomputable def execL (E:Env) (call:CallF) (hs:Hnds):Code→St→Option Outs
 |.seq a b,st=>match execL E call hs a st with
  |some l=>bindL (thenL (execL E call hs b)) l
  |none=>none
 |.cond c a b,st=>match ev st.τ c with
  |some (.bool true)=>execL E call hs a st
  |some (.bool false)=>execL E call hs b st
  |_=>none
 |.block i b,st=>match execL E call hs b st with
  |some l=>some (l.map (leaveL i))
  |none=>none
 |.scope b,st=>execL E call hs b st
 |.loop b,st=>roundsL (execL E call hs b) 24 st
 |.region i ops false,st=>match runOpsL E call hs ops ops.toList st with
  |some l=>some (l.map fun s=>(.normal,s))
  |none=>none
 |c,st=>optL (exec E call c hs st)
section
variable {P:Program} {E:Env} {call:CallF} {base:Nat} {hs:Hnds}
theorem optL_mem {α:Type} {o:Option α} {l:List α} (h:optL o=some l):∃ a,o=some a∧a∈l:=by
 unfold optL at h
 split at h
 · rename_i a
   simp only[Option.some.injEq] at h;subst h
   exact⟨a,rfl,List.mem_cons_self⟩
 · cases h
theorem oneOpL_spec (hE : EnvOK P E) {inv : Inv} (hcx : CxOK inv) (hcall : CallOK P E call) {V : View} {st : St} {A : Array Value} {DS : List Deferred} {M : List Nat} {O : OO} {W : World} (h : SR E base inv V st A DS M O W) (hh : HOK P E base inv V hs) {ops : Array Oper} {i : Nat} {o : Oper} (ho : ops[i]? = some o)
  {l:List St} (hd:oneOpL E call hs ops o st=some l) :
  ∃ st'∈l,∃ V' A' DS' O' W',SR E base inv V' st' A' DS' M O' W'∧Prg V st.σ O W V' st'.σ O' W'∧st'.rnd=st.rnd ∧
   ∀ fn b cs k rest,BOK fn st.rnd b cs→Steps P (lone (mkF b A DS (.inRegion ops (i::rest)::k)) cs W) (lone (mkF b A' DS' (.inRegion ops rest::k)) cs W'):=by
 unfold oneOpL at hd
 split at hd
 · rename_i x hx
   have hop:=isNextM_eq hx
   split at hd
   · rename_i hw
     have hw':=wanted_spec h hw
     split at hd
     · rename_i L hn
       have hnd:∀ c,o.op≠.defer c:=by intro c e;rw[hop] at e;cases e
       have key:∃ r∈L,OpOK P E base V st.σ W ((execOp (mkF default A DS []).eval o).run P W) (.val r.1 r.2):=by
        obtain⟨op,dst,ty,pos,after,guard⟩:=o
        simp only at hop;subst hop
        exact s_nextL hE h.hr h.bs (h.evR default) x hn
       obtain⟨r,hr,V1,W1,v1,e1,s1,r1⟩:=key
       obtain⟨a,ha,hm⟩:=bindL_mem hd r hr
       obtain⟨st',hp,hst'⟩:=optL_mem ha
       have hS:=h.stp hcx s1
       obtain⟨g1,g2,g3⟩:=hS.put r1 hp
       refine⟨st',hm _ hst',V1,_,DS,O,W1,g1,by rw[g2];exact .of_stp s1 (hcx.bound _ _ _ _ h.cx),g3,fun fn b cs k rest hb=>.one (st_value ho hw' (.inr hnd) ?_)⟩
       have:(mkF b A DS []).eval=(mkF default A DS []).eval:=by funext x;rw[mkF_eval,mkF_eval]
       rw[this];exact e1
     · cases hd
   · cases hd
 · obtain ⟨st', h1, h2⟩ := optL_mem hd
   exact⟨st',h2,oneOp_spec hE hcx hcall h hh ho h1⟩
theorem runOpsL_spec (hE:EnvOK P E) {inv:Inv} (hcx:CxOK inv) (hcall:CallOK P E call) {ops:Array Oper} {M:List Nat}:∀ (os:List Oper) (n:Nat) {V:View} {st:St} {l:List St} {A:Array Value} {DS:List Deferred} {O:OO} {W:World},
  ops.toList.drop n=os→SR E base inv V st A DS M O W→HOK P E base inv V hs→runOpsL E call hs ops os st=some l →
  ∃ st'∈l,∃ V' A' DS' O' W',SR E base inv V' st' A' DS' M O' W'∧Prg V st.σ O W V' st'.σ O' W'∧st'.rnd=st.rnd ∧
   ∀ fn b cs k,BOK fn st.rnd b cs→Steps P (lone (mkF b A DS (.inRegion ops (List.range' n os.length)::k)) cs W) (lone (mkF b A' DS' k) cs W')
 |[],n,V,st,l,A,DS,O,W,hos,h,hh,hd=>by
  simp only[runOpsL,Option.some.injEq] at hd;subst hd
  exact⟨st,List.mem_cons_self,V,A,DS,O,W,h,.refl _ _ _ _,rfl,fun fn b cs k hb=>.one st_region_end⟩
 | o :: os, n, V, st, l, A, DS, O, W, hos, h, hh, hd => by
  simp only[runOpsL] at hd
  split at hd
  · rename_i l1 h1
    have ho:ops[n]?=some o:=by
     have:(ops.toList.drop n)[0]?=some o:=by rw[hos];rfl
     rw[List.getElem?_drop] at this
     simpa using this
    have hos':ops.toList.drop (n+1)=os:=by
     have:(ops.toList.drop n).drop 1=os:=by rw[hos];rfl
     rw[List.drop_drop] at this;exact this
    obtain⟨st1,m1,V1,A1,DS1,O1,W1,s1,p1,r1,g1⟩:=oneOpL_spec hE hcx hcall h hh ho h1
    obtain⟨x,hx,hm⟩:=bindL_mem hd st1 m1
    obtain⟨st2,m2,V2,A2,DS2,O2,W2,s2,p2,r2,g2⟩:=runOpsL_spec hE hcx hcall os (n+1) hos' s1 (hh.mono p1.le) hx
    exact⟨st2,hm _ m2,V2,A2,DS2,O2,W2,s2,p1.trans p2,r2.trans r1,fun fn b cs k hb=>(g1 fn b cs k _ hb).trans (g2 fn b cs k (by rw[r1];exact hb))⟩
  · cases hd
def CodeL (P:Program) (E:Env) (base:Nat) (hs:Hnds) (f:St→Option Outs) (c:Code):Prop:=
 ∀ inv,CxOK inv→∀ V st l A DS M O W fn rl,RLOK inv rl→f st=some l→SR E base inv V st A DS M O W→HOK P E base inv V hs →
  ∃ r∈l,∃ V' A' DS' M' O' W',Left E base inv V st M O W V' r.2 A' DS' M' O' W'∧∀ b cs k,BOK fn st.rnd b cs∧b.roundOf=rl→Arr P (lone (mkF b A DS (.code c::k)) cs W) b A' DS' k cs W' r.1
theorem CodeL.one {f:St→Option Outs} {c:Code} (h:CodeOK P E call base hs c) (hf:∀ st,f st=optL (exec E call c hs st)):CodeL P E base hs f c:=by
 intro inv hcx V st l A DS M O W fn rl hrl hl hS hh
 rw[hf] at hl
 obtain⟨⟨e,st'⟩,h1,h2⟩:=optL_mem hl
 obtain⟨V1,A1,DS1,M1,O1,W1,L1,g1⟩:=h inv hcx V st st' e A DS M O W fn rl hrl h1 hS hh
 exact⟨_,h2,V1,A1,DS1,M1,O1,W1,L1,g1⟩
theorem CodeL.seq {f g:St→Option Outs} {x y:Code} (hx:CodeL P E base hs f x) (hy:CodeL P E base hs g y):CodeL P E base hs (fun st=>match f st with|some l=>bindL (thenL g) l|none=>none) (.seq x y):=by
 intro inv hcx V st l A DS M O W fn rl hrl h hS hh
 simp only at h
 split at h
 · rename_i l1 h1
   obtain⟨⟨e1,st1⟩,m1,V1,A1,DS1,M1,O1,W1,L1,g1⟩:=hx inv hcx V st l1 A DS M O W fn rl hrl h1 hS hh
   obtain⟨a,ha,hm⟩:=bindL_mem h _ m1
   cases he:e1 with
   |normal=>
    subst he
    obtain⟨⟨e2,st2⟩,m2,V2,A2,DS2,M2,O2,W2,L2,g2⟩:=hy inv hcx V1 st1 a A1 DS1 M1 O1 W1 fn rl hrl ha L1.sr (hh.mono L1.pr.le)
    exact⟨_,hm _ m2,V2,A2,DS2,M2,O2,W2,L1.trans L2,fun b cs k hb=>.of_steps (.head st_seq (g1 b cs (.code y::k) hb)) (g2 b cs k ⟨by rw[L1.rnd];exact hb.1,hb.2⟩)⟩
   |exit j=>
    subst he
    simp only[thenL,Option.some.injEq] at ha;subst ha
    exact⟨_,hm _ List.mem_cons_self,V1,A1,DS1,M1,O1,W1,L1,fun b cs k hb=>.of_steps (.one st_seq) (Arr.behind (k:=.code y::k) (by simp) (fun i _=>rfl) (g1 b cs (.code y::k) hb))⟩
   |ret=>
    subst he
    simp only[thenL,Option.some.injEq] at ha;subst ha
    exact⟨_,hm _ List.mem_cons_self,V1,A1,DS1,M1,O1,W1,L1,fun b cs k hb=>.of_steps (.one st_seq) (Arr.behind (k:=.code y::k) (by simp) (fun i _=>rfl) (g1 b cs (.code y::k) hb))⟩
 · cases h
theorem CodeL.scope {f:St→Option Outs} {x:Code} (hx:CodeL P E base hs f x):CodeL P E base hs f (.scope x):=by
 intro inv hcx V st l A DS M O W fn rl hrl h hS hh
 obtain⟨⟨e,st1⟩,m1,V1,A1,DS1,M1,O1,W1,L1,g1⟩:=hx inv hcx V st l A DS M O W fn rl hrl h hS hh
 refine⟨_,m1,V1,A1,DS1,M1,O1,W1,L1,fun b cs k hb=>.of_steps (.one st_scope) ?_⟩
 have:=g1 b cs (.inScope x::k) hb
 cases e with
 |normal=>exact this.trans (.one st_inScope)
 |exit i=>exact this.behind (by simp) (fun _ _=>rfl)
 |ret=>exact this.behind (by simp) (fun _ _=>rfl)
theorem CodeL.block {i:Nat} {f:St→Option Outs} {x:Code} (hx:CodeL P E base hs f x):CodeL P E base hs (fun st=>match f st with|some l=>some (l.map (leaveL i))|none=>none) (.block i x):=by
 intro inv hcx V st l A DS M O W fn rl hrl h hS hh
 simp only at h
 split at h
 · rename_i l1 h1
   simp only[Option.some.injEq] at h;subst h
   obtain⟨⟨e,st1⟩,m1,V1,A1,DS1,M1,O1,W1,L1,g1⟩:=hx inv hcx V st l1 A DS M O W fn rl hrl h1 hS hh
   refine⟨_,List.mem_map.2 ⟨_,m1,rfl⟩,V1,A1,DS1,M1,O1,W1,?_,fun b cs k hb=>.of_steps (.one st_block) ?_⟩
   · cases e<;>exact L1
   · have hg := g1 b cs (.inBlock i :: k) hb
     cases e with
     |normal=>exact Steps.trans hg (.one st_inBlock)
     |ret=>exact Arr.behind (e:=.ret) (by simp) (fun _ h=>by cases h) hg
     | exit j =>
      obtain⟨k',h2,h3⟩:=hg
      have hex:exitTo j (.inBlock i::k)=if (i == j)=true then some k else exitTo j k:=rfl
      rw[hex] at h2
      simp only[leaveL]
      cases hij:Nat.beq j i with
      |true=>
       have:j=i:=Nat.eq_of_beq_eq_true hij
       subst this
       rw[if_pos (by simp)] at h2
       exact h3.trans (.one (st_exit h2))
      |false=>
       have:j≠i:=Nat.ne_of_beq_eq_false hij
       rw[if_neg (by simp;exact fun e=>this e.symm)] at h2
       exact⟨k',h2,h3⟩
 · cases h
theorem CodeL.cond {c:Operand} {f g:St→Option Outs} {x y:Code} (hx:CodeL P E base hs f x) (hy:CodeL P E base hs g y):CodeL P E base hs (fun st=>match ev st.τ c with|some (.bool true)=>f st|some (.bool false)=>g st|_=>none) (.cond c x y):=by
 intro inv hcx V st l A DS M O W fn rl hrl h hS hh
 simp only at h
 split at h
 · rename_i hc
   obtain⟨r,m1,V1,A1,DS1,M1,O1,W1,L1,g1⟩:=hx inv hcx V st l A DS M O W fn rl hrl h hS hh
   exact⟨r,m1,V1,A1,DS1,M1,O1,W1,L1,fun b cs k hb=>.of_steps (.one (st_cond (t:=true) ((hS.evR b c _ hc).bool_inv))) (g1 b cs k hb)⟩
 · rename_i hc
   obtain⟨r,m1,V1,A1,DS1,M1,O1,W1,L1,g1⟩:=hy inv hcx V st l A DS M O W fn rl hrl h hS hh
   exact⟨r,m1,V1,A1,DS1,M1,O1,W1,L1,fun b cs k hb=>.of_steps (.one (st_cond (t:=false) ((hS.evR b c _ hc).bool_inv))) (g1 b cs k hb)⟩
 · cases h
theorem roundsL_spec {f:St→Option Outs} {c:Code} (hc:CodeL P E base hs f c):∀ n inv,CxOK inv→∀ V st l A DS M O W fn rl,RLOK inv rl→roundsL f n st=some l→SR E base inv V st A DS M O W→HOK P E base inv V hs →
  ∃ r∈l,∃ V' A' DS' M' O' W',Left E base inv V st M O W V' r.2 A' DS' M' O' W'∧∀ b cs k,BOK fn st.rnd b cs∧b.roundOf=rl→Arr P (lone (mkF b A DS (.code c::.inLoop c::k)) cs W) b A' DS' k cs W' r.1
 |0,inv,hcx,V,st,l,A,DS,M,O,W,fn,rl,hrl,h,hS,hh=>by cases h
 | n + 1, inv, hcx, V, st, l, A, DS, M, O, W, fn, rl, hrl, h, hS, hh => by
  simp only[roundsL] at h
  split at h
  · rename_i l1 h1
    obtain⟨⟨e1,st1⟩,m1,V1,A1,DS1,M1,O1,W1,L1,g1⟩:=hc inv hcx V st l1 A DS M O W fn rl hrl h1 hS hh
    obtain⟨a,ha,hm⟩:=bindL_mem h _ m1
    cases he:e1 with
    |normal=>
     subst he
     obtain⟨r,m2,V2,A2,DS2,M2,O2,W2,L2,g2⟩:=roundsL_spec hc n inv hcx V1 st1 a A1 DS1 M1 O1 W1 fn rl hrl ha L1.sr (hh.mono L1.pr.le)
     exact⟨r,hm _ m2,V2,A2,DS2,M2,O2,W2,L1.trans L2,fun b cs k hb=>.of_steps (Steps.trans (g1 b cs (.inLoop c::k) hb) (.one st_inLoop)) (g2 b cs k ⟨by rw[L1.rnd];exact hb.1,hb.2⟩)⟩
    |exit j=>
     subst he
     simp only[thenL,Option.some.injEq] at ha;subst ha
     exact⟨_,hm _ List.mem_cons_self,V1,A1,DS1,M1,O1,W1,L1,fun b cs k hb=>Arr.behind (k:=.inLoop c::k) (by simp) (fun _ _=>rfl) (g1 b cs (.inLoop c::k) hb)⟩
    |ret=>
     subst he
     simp only[thenL,Option.some.injEq] at ha;subst ha
     exact⟨_,hm _ List.mem_cons_self,V1,A1,DS1,M1,O1,W1,L1,fun b cs k hb=>Arr.behind (k:=.inLoop c::k) (by simp) (fun _ _=>rfl) (g1 b cs (.inLoop c::k) hb)⟩
  · cases h
theorem CodeL.loop {f:St→Option Outs} {x:Code} (n:Nat) (hx:CodeL P E base hs f x):CodeL P E base hs (roundsL f n) (.loop x):=by
 intro inv hcx V st l A DS M O W fn rl hrl h hS hh
 obtain⟨r,m1,V1,A1,DS1,M1,O1,W1,L1,g1⟩:=roundsL_spec hx n inv hcx V st l A DS M O W fn rl hrl h hS hh
 exact⟨r,m1,V1,A1,DS1,M1,O1,W1,L1,fun b cs k hb=>.of_steps (.one st_loop) (g1 b cs k hb)⟩
theorem CodeL.region (hE:EnvOK P E) (hcall:CallOK P E call) {i:Nat} {ops:Array Oper}:CodeL P E base hs (fun st=>match runOpsL E call hs ops ops.toList st with|some l=>some (l.map fun s=>(.normal,s))|none=>none) (.region i ops false):=by
 intro inv hcx V st l A DS M O W fn rl hrl h hS hh
 simp only at h
 split at h
 · rename_i l1 h1
   simp only[Option.some.injEq] at h;subst h
   obtain⟨st1,m1,V1,A1,DS1,O1,W1,s1,p1,r1,g1⟩:=runOpsL_spec hE hcx hcall ops.toList 0 (by simp) hS hh h1
   refine⟨_,List.mem_map.2 ⟨st1,m1,rfl⟩,V1,A1,DS1,M,O1,W1,⟨s1,p1,r1,fun _ h=>.inl h⟩,fun b cs k hb=>?_⟩
   have:=g1 fn b cs k hb.1
   rw[Array.length_toList,← List.range_eq_range'] at this
   exact .head st_region this
 · cases h
theorem codeL_ok (hE:EnvOK P E) (hmix:P.follows .mixedOrders=true) (hcall:CallOK P E call) (c:Code):CodeL P E base hs (execL E call hs c) c:=by
 induction c with
 |seq a b iha ihb=>exact .seq iha ihb
 |cond c a b iha ihb=>exact .cond iha ihb
 |block i b ih=>exact .block ih
 |scope b ih=>exact .scope ih
 |loop b ih=>exact .loop 24 ih
 |region id ops d=>
  cases d with
  |false=>exact .region hE hcall
  |true=>exact .one (code_ok hE hmix call hcall base hs _) (fun _=>rfl)
 |skip=>exact .one (code_ok hE hmix call hcall base hs _) (fun _=>rfl)
 |rangeFunc f ps a b iha ihb=>exact .one (code_ok hE hmix call hcall base hs _) (fun _=>rfl)
 |exit i=>exact .one (code_ok hE hmix call hcall base hs _) (fun _=>rfl)
 |label l=>exact .one (code_ok hE hmix call hcall base hs _) (fun _=>rfl)
 |goto l=>exact .one (code_ok hE hmix call hcall base hs _) (fun _=>rfl)
 |ret=>exact .one (code_ok hE hmix call hcall base hs _) (fun _=>rfl)
 |refuse w=>exact .one (code_ok hE hmix call hcall base hs _) (fun _=>rfl)
end
end Go.Eng


namespace Go.Eng
open Go
attribute [local irreducible] upTo
noncomputable def endL (E:Env) (call:CallF) (hs:Hnds) (fn:Func) (r:Ex×St):Option (AV×Hp×List LF):=
 match r.1 with
 |.exit _=>none
 | _ => match runDefers E call hs r.2.ds r.2.σ r.2.Λ with
  |none=>none
  |some (σ,Λ)=>match resultsA E r.2.τ σ fn.results.toList with
   |some [v]=>some (v,σ,Λ)
   |some vs=>some (.tup vs,σ,Λ)
   |none=>none
noncomputable def bodyL (E:Env) (call:CallF) (f:Nat) (args:List AV) (σ:Hp) (hs:Hnds) (Λ:List LF):Option (List (AV×Hp×List LF)):=
 match E.fn f with
 |none=>none
 | some fn => match fn.body with
  |none=>none
  |some body=>match execL E call hs body ⟨tmps0 fn.ntmps (.full (dep fn.ntmps)) 0 args,σ,[],Λ,args.length+(fn.ntmps-args.length),false⟩ with
   |none=>none
   |some l=>bindL (fun r=>optL (endL E call hs fn r)) l
section
variable {P:Program} {E:Env}
theorem bodyL_ok (hE : EnvOK P E) (hN : NameOK E) (hmix : P.follows .mixedOrders = true) {call : CallF} (ih : CallOK P E call) {f : Nat} {args : List AV} {σ : Hp} {hs : Hnds} {Λ : List LF} {l : List (AV × Hp × List LF)} (h : bodyL E call f args σ hs Λ = some l)
  {base:Nat} {inv:Inv} {V:View} {A:List Value} {O:OO} {W:World} (hcx:CxOK inv) (hh:HOK P E base inv V hs) (H:HR E base V σ W) (hb:base≤W.heap.size) (ha:VRs V args A) (hi:inv Λ V.K O W) (hd:∀ b,Own V σ b→¬ O b) (hlf:LvOK V σ) :
  ∃ r∈l,∃ V' O' W' R,Prg V σ O W V' r.2.1 O' W'∧HR E base V' r.2.1 W'∧inv r.2.2 V'.K O' W'∧(∀ b,Own V' r.2.1 b→¬ O' b)∧LvOK V' r.2.1∧VR V' r.1 R∧Goes P f A.toArray W R W':=by
 unfold bodyL at h
 split at h
 · cases h
 · rename_i fn hfn
   split at h
   · cases h
   · rename_i body hbody
     split at h
     · cases h
     · rename_i L hex
       have hf:=hE.fn f fn hfn
       have hcf:(callFunc f A.toArray).run P W=.ok (.enter f A.toArray) W:=by
        simp[callFunc,Sem.run_bind,hf,hN f fn hfn,hbody]
       have hS:SR E base inv V ⟨tmps0 fn.ntmps (.full (dep fn.ntmps)) 0 args,σ,[],Λ,args.length+(fn.ntmps-args.length),false⟩ (A.toArray++Array.replicate (fn.ntmps-A.length) undef) [] [] O W:=by
        refine⟨H,hb,fun t a ht=>?_,by simp[ha.1],.nil,fun r hr=>absurd hr (by simp),hi,hd,hlf⟩
        rcases tmps0_spec _ _ _ _ _ _ ht with ⟨j,rfl,hj⟩|g
        · obtain ⟨X, h1, h2⟩ := ha.get hj
          have:j<A.length:=(List.getElem?_eq_some_iff.1 h1).1
          have e:(A.toArray++Array.replicate (fn.ntmps-A.length) undef).getD (0+j) undef=X:=by
           rw[Array.getD_eq_getD_getElem?,Nat.zero_add,Array.getElem?_append_left (by simpa using this)]
           simp[h1]
          rw[e];exact h2
        · rw[Tr.get_full] at g;cases g
       obtain⟨⟨e,st1⟩,m1,V1,A1,DS1,M1,O1,W1,L1,g1⟩:=codeL_ok (base:=base) (hs:=hs) hE hmix ih body inv hcx V _ L _ _ _ _ _ f none (fun _ h=>by cases h) hex hS hh
       obtain⟨a,ha',hm⟩:=bindL_mem h _ m1
       obtain⟨⟨v,σ2,Λ2⟩,hend,hr⟩:=optL_mem ha'
       refine⟨_,hm _ hr,?_⟩
       unfold endL at hend
       split at hend
       · cases hend
       · rename_i hne
         simp only at hne g1 L1
         have hret:∀ kind cs,(kind=.normal∨(kind=.deferred∧∃ c rest,cs=c::rest∧c.mode=.returning)) →
           ∃ todo,Steps P (lone (Frame.enter P f A.toArray kind) cs W) (lone (retF (Frame.enter P f A.toArray kind) A1 DS1 todo) cs W1):=by
          intro kind cs hk
          have hent:Frame.enter P f A.toArray kind=mkF (Frame.enter P f A.toArray kind) (A.toArray++Array.replicate (fn.ntmps-A.length) undef) [] [.code body]:=by
           simp[Frame.enter,mkF,hf,hbody]
          have hro:(Frame.enter P f A.toArray kind).roundOf=none:=rfl
          have ha1:=g1 (Frame.enter P f A.toArray kind) cs [] ⟨⟨rfl,rfl,hk⟩,rfl⟩
          rw[← hent] at ha1
          cases e with
          |normal=>exact⟨[],Steps.trans ha1 (.one (st_end hro))⟩
          |exit i=>exact absurd rfl (hne i)
          |ret=>obtain⟨k',h2⟩:=ha1;exact⟨_,h2.trans (.one (st_ret hro))⟩
         split at hend
         · cases hend
         · rename_i σ3 Λ3 hrd
           obtain⟨V2,O2,W2,S2,p2,o2,g2⟩:=unwind_spec hcx ih L1.sr.ds (View.le.refl V1) (st:=st1) L1.sr (hh.mono L1.pr.le) hrd
           have hP:=L1.pr.transM p2 (fun r hr=>(L1.mg r hr).elim (fun x=>absurd x (by simp)) (fun x=>x)) o2
           have fin:∀ vs,resultsA E st1.τ σ3 fn.results.toList=some vs→∃ R,VR V2 (packA vs) R∧Goes P f A.toArray W R W2:=by
            intro vs hvs
            obtain⟨L,h1,h2⟩:=results_run hE S2 (fn:=fn) hvs
            refine⟨pack L,pack_spec h2,.enter W hcf fun kind caller rest hk=>?_⟩
            obtain⟨todo,s1⟩:=hret kind (caller::rest) (hk.imp (fun x=>x) (fun x=>⟨x.1,caller,rest,rfl,x.2⟩))
            refine s1.trans ((g2 _ _ _).trans (.one ?_))
            exact un_done (b:=Frame.enter P f A.toArray kind) (fn:=fn) hf h1 hk
           split at hend
           · rename_i v1 hvs
             simp only[Option.some.injEq,Prod.mk.injEq] at hend;obtain⟨rfl,rfl,rfl⟩:=hend
             obtain⟨R,hv,hg⟩:=fin _ hvs
             exact⟨V2,O2,W2,R,hP,S2.hr,S2.cx,S2.dis,S2.lf,hv,hg⟩
           · rename_i vs hnv hvs
             simp only[Option.some.injEq,Prod.mk.injEq] at hend;obtain⟨rfl,rfl,rfl⟩:=hend
             obtain⟨R,hv,hg⟩:=fin _ hvs
             refine⟨V2,O2,W2,R,hP,S2.hr,S2.cx,S2.dis,S2.lf,?_,hg⟩
             unfold packA at hv
             split at hv
             · exact absurd rfl (hnv _)
             · exact hv
           · cases hend
noncomputable def ansL (e:Ent) (r:AV×Hp×List LF):Bool:=
 match r.2.2,frzArg r.1 r.2.1 with
 |[],(w,σ)=>match avbeq w e.v,hasAll σ e.put,keepAll σ e.put e.need with
  |true,true,true=>Nat.ble σ.n e.n1
  |_,_,_=>false
 |_,_=>false
noncomputable def allL {α:Type} (g:α→Bool):List α→Bool
 |[]=>true
 |a::l=>match g a with
  |true=>allL g l
  |false=>false
theorem allL_mem {α:Type} {g:α→Bool}:∀ {l:List α},allL g l=true→∀ a∈l,g a=true
 |[],_,a,ha=>by cases ha
 |b::l,h,a,ha=>by
  simp only[allL] at h
  split at h
  · rename_i hb
    rcases List.mem_cons.1 ha with rfl|ha
    · exact hb
    · exact allL_mem h a ha
  · cases h
noncomputable def entL (E:Env) (L:List Ent) (n:Nat) (e:Ent):Bool:=
 match bodyL E (callTF E L n) e.f e.args e.pre [] [] with
 |some l=>allL (ansL e) l
 |none=>false
theorem entL_of (hE:EnvOK P E) (hX:ExtOK P E) (hN:NameOK E) (hmix:P.follows .mixedOrders=true) {L:List Ent} (hL:∀ e∈L,EntOK P E e) {n:Nat} {e:Ent} (h:entL E L n e=true):EntOK P E e:=by
 unfold entL at h
 rw[callTF_eq] at h
 split at h
 · rename_i l hl
   refine .gen fun base inv V A O W Λ hcx H hb ha hi hd hlf=>?_
   have hcx':CxOK (fun _ K O W=>inv Λ K O W):=⟨fun _ K O W K' W' h=>hcx.stable Λ K O W K' W' h,fun _ K O W h=>hcx.bound Λ K O W h⟩
   obtain⟨⟨v,σ1,Λ1⟩,hr,V1,O1,W1,R,p1,r1,i1,d1,l1,v1,g1⟩:=bodyL_ok hE hN hmix (callT_ok hE hX hN hmix hL n) hl (inv:=fun _ K O W=>inv Λ K O W) hcx' (fun lvl h e=>by cases e) H hb ha hi hd hlf
   have hans:=allL_mem h _ hr
   simp only at p1 r1 i1 d1 l1 v1
   unfold ansL at hans
   simp only at hans
   split at hans
   · rename_i w σ2 hfr
     split at hans
     · rename_i h1 h2 h3
       have he:=avbeq_eq _ _ h1
       obtain⟨V2,hz,hv2⟩:=frzArg_spec v r1 v1
       rw[hfr] at hz hv2
       simp only at hz hv2
       rw[he] at hv2
       refine⟨σ2,hasAll_spec h2,keepAll_spec h3,Nat.le_of_ble_eq_true hans,V2,O1,W1,R,p1.trans (Prg.of_fz hz O1),hz.hr,?_,fun b hb=>d1 b (hz.ownB hb),fun i x hx=>by rw[hz.n];exact l1 i x (by rw[← hz.lv];exact hx),hv2,g1⟩
       exact hcx.stable _ _ _ _ _ _ i1 hz.le.K (fun b o v hv=>(hz.K b o v hv).imp (fun x=>x) (fun ho=>d1 b ho)) hz.hr.cell (fun _ _=>rfl) (Nat.le_refl _)
     · cases hans
   · cases hans
 · cases h
end
end Go.Eng


set_option maxRecDepth 100000
namespace Go.Proofs.YtelibdeanepdjaaGreat
open Go Go.Eng
noncomputable def E1:Env:={ T0.env with cm:=true }
theorem e1:EnvOK Tryz.prog E1:=by
 have h:=tabs_ok.env
 refine⟨fun t k ht=>?_,h.zero,h.fn,h.eqok,h.meth⟩
 obtain⟨h1,h2⟩:=h.ty t k ht
 refine⟨h1,?_⟩
 cases k<;>exact h2
theorem n1:NameOK E1:=tabs_ok.name
theorem x1:ExtOK Tryz.prog E1:=tabs_ok.ext
noncomputable def c0:Ent:=⟨78,[(.ptr 52 0)],54,[(1,(.cells false [(.int .i64 (3)),(.int .i64 (3)),(.int .i64 (2)),(.int .i64 (2)),(.int .i64 (3))])),(6,(.cells false [(.str [111,105,108]),(.int .i64 (40)),(.int .i64 (50)),(.int .i64 (0)),(.int .i64 (0)),(.int .i64 (8)),(.int .i64 (10)),(.int .i64 (60)),(.int .i64 (1000)),(.str [119,97,116,101,114]),(.int .i64 (30)),(.int .i64 (40)),(.int .i64 (2)),(.int .i64 (3)),(.int .i64 (0)),(.int .i64 (0)),(.int .i64 (40)),(.int .i64 (500))])),(7,(.cells false [(.int .i64 (2)),(.int .i64 (1)),(.int .i64 (10))])),(52,(.cells false [(.sl 1 0 5 5 1),(.sl 6 0 2 2 9),(.sl 7 0 1 1 3),(.str [119,97,116,101,114]),(.int .i64 (30)),(.int .i64 (40)),(.int .i64 (2)),(.int .i64 (3)),(.int .i64 (0)),(.int .i64 (0)),(.int .i64 (40)),(.int .i64 (500)),(.int .i64 (0)),(.int .i64 (0)),(.int .i64 (10)),(.int .i64 (0)),(.int .i64 (0)),(.int .i64 (0)),(.int .i64 (0)),(.int .i64 (0)),(.int .i64 (0)),(.int .i64 (0)),(.int .i64 (0)),(.int .i64 (0)),(.int .i64 (0)),(.int .i64 (0)),(.int .i64 (0)),(.int .i64 (0)),(.int .i64 (0)),(.int .i64 (0)),(.int .i64 (0)),(.int .i64 (0)),(.int .i64 (0)),(.int .i64 (0)),(.int .i64 (0)),(.int .i64 (0)),(.int .i64 (0)),(.int .i64 (0)),(.int .i64 (0)),(.int .i64 (0)),(.int .i64 (0)),(.int .i64 (0)),.nils]))],(.sl 217 0 2 2 3),[(217,(.cells false [(.int .i64 (30)),(.int .i64 (2)),(.int .i64 (0)),(.int .i64 (30)),(.int .i64 (3)),(.int .i64 (0))]))],218⟩
noncomputable def c1:Ent:=⟨78,[(.ptr 286 0)],291,[(1,(.cells false [(.int .i64 (3)),(.int .i64 (3)),(.int .i64 (2)),(.int .i64 (2)),(.int .i64 (3))])),(6,(.cells false [(.str [111,105,108]),(.int .i64 (40)),(.int .i64 (50)),(.int .i64 (0)),(.int .i64 (0)),(.int .i64 (8)),(.int .i64 (10)),(.int .i64 (60)),(.int .i64 (1000)),(.str [119,97,116,101,114]),(.int .i64 (30)),(.int .i64 (40)),(.int .i64 (2)),(.int .i64 (3)),(.int .i64 (0)),(.int .i64 (0)),(.int .i64 (40)),(.int .i64 (500))])),(7,(.cells false [(.int .i64 (2)),(.int .i64 (1)),(.int .i64 (10))])),(290,(.cells false [(.int .i64 (2)),(.int .i64 (0)),(.int .i64 (25)),(.int .i64 (28)),(.int .i64 (0))])),(286,(.cells false [(.sl 1 0 5 5 1),(.sl 6 0 2 2 9),(.sl 7 0 1 1 3),(.str [111,105,108]),(.int .i64 (40)),(.int .i64 (50)),(.int .i64 (0)),(.int .i64 (0)),(.int .i64 (8)),(.int .i64 (10)),(.int .i64 (60)),(.int .i64 (1000)),(.int .i64 (0)),(.int .i64 (0)),(.int .i64 (0)),(.int .i64 (0)),(.int .i64 (0)),(.int .i64 (0)),(.int .i64 (0)),(.int .i64 (0)),(.int .i64 (0)),(.int .i64 (0)),(.int .i64 (0)),(.int .i64 (0)),(.int .i64 (0)),(.int .i64 (0)),(.int .i64 (0)),(.int .i64 (0)),(.int .i64 (0)),(.int .i64 (0)),(.int .i64 (0)),(.int .i64 (0)),(.int .i64 (0)),(.int .i64 (0)),(.int .i64 (0)),(.int .i64 (0)),(.int .i64 (0)),(.int .i64 (0)),(.int .i64 (0)),(.int .i64 (0)),(.int .i64 (0)),(.int .i64 (0)),(.sl 290 0 1 1 5)]))],(.sl 586 0 3 3 3),[(586,(.cells false [(.int .i64 (41)),(.int .i64 (0)),(.int .i64 (8)),(.int .i64 (43)),(.int .i64 (0)),(.int .i64 (9)),(.int .i64 (45)),(.int .i64 (0)),(.int .i64 (10))]))],587⟩
noncomputable def c2:Ent:=⟨13,[(.agg [(.sl 1 0 5 5 1),(.sl 6 0 2 2 9),(.sl 7 0 1 1 3)]),(.sl 235 0 1 1 4),(.int .i64 (0)),(.int .i64 (0))],236,[(1,(.cells false [(.int .i64 (3)),(.int .i64 (3)),(.int .i64 (2)),(.int .i64 (2)),(.int .i64 (3))])),(6,(.cells false [(.str [111,105,108]),(.int .i64 (40)),(.int .i64 (50)),(.int .i64 (0)),(.int .i64 (0)),(.int .i64 (8)),(.int .i64 (10)),(.int .i64 (60)),(.int .i64 (1000)),(.str [119,97,116,101,114]),(.int .i64 (30)),(.int .i64 (40)),(.int .i64 (2)),(.int .i64 (3)),(.int .i64 (0)),(.int .i64 (0)),(.int .i64 (40)),(.int .i64 (500))])),(7,(.cells false [(.int .i64 (2)),(.int .i64 (1)),(.int .i64 (10))])),(235,(.cells false [(.int .i64 (2)),(.int .i64 (0)),(.int .i64 (25)),(.int .i64 (28))]))],(.tup [(.agg [(.int .i64 (41)),(.int .i64 (48))]),(.int .i64 (0))]),[],935⟩
noncomputable def c3:Ent:=⟨78,[(.ptr 976 0)],978,[(1,(.cells false [(.int .i64 (3)),(.int .i64 (3)),(.int .i64 (2)),(.int .i64 (2)),(.int .i64 (3))])),(6,(.cells false [(.str [111,105,108]),(.int .i64 (40)),(.int .i64 (50)),(.int .i64 (0)),(.int .i64 (0)),(.int .i64 (8)),(.int .i64 (10)),(.int .i64 (60)),(.int .i64 (1000)),(.str [119,97,116,101,114]),(.int .i64 (30)),(.int .i64 (40)),(.int .i64 (2)),(.int .i64 (3)),(.int .i64 (0)),(.int .i64 (0)),(.int .i64 (40)),(.int .i64 (500))])),(7,(.cells false [(.int .i64 (2)),(.int .i64 (1)),(.int .i64 (10))])),(976,(.cells false [(.sl 1 0 5 5 1),(.sl 6 0 2 2 9),(.sl 7 0 1 1 3),(.str [111,105,108]),(.int .i64 (40)),(.int .i64 (50)),(.int .i64 (0)),(.int .i64 (0)),(.int .i64 (8)),(.int .i64 (10)),(.int .i64 (60)),(.int .i64 (1000)),(.int .i64 (0)),(.int .i64 (0)),(.int .i64 (0)),(.int .i64 (0)),(.int .i64 (0)),(.int .i64 (0)),(.int .i64 (0)),(.int .i64 (0)),(.int .i64 (0)),(.int .i64 (0)),(.int .i64 (0)),(.int .i64 (0)),(.int .i64 (0)),(.int .i64 (0)),(.int .i64 (0)),(.int .i64 (0)),(.int .i64 (0)),(.int .i64 (0)),(.int .i64 (0)),(.int .i64 (0)),(.int .i64 (0)),(.int .i64 (0)),(.int .i64 (0)),(.int .i64 (0)),(.int .i64 (0)),(.int .i64 (0)),(.int .i64 (0)),(.int .i64 (0)),(.int .i64 (0)),(.int .i64 (0)),.nils]))],(.sl 1220 0 3 3 3),[(1220,(.cells false [(.int .i64 (40)),(.int .i64 (0)),(.int .i64 (8)),(.int .i64 (40)),(.int .i64 (0)),(.int .i64 (9)),(.int .i64 (40)),(.int .i64 (0)),(.int .i64 (10))]))],1221⟩
noncomputable def c4:Ent:=⟨78,[(.ptr 1299 0)],1304,[(1,(.cells false [(.int .i64 (3)),(.int .i64 (3)),(.int .i64 (2)),(.int .i64 (2)),(.int .i64 (3))])),(6,(.cells false [(.str [111,105,108]),(.int .i64 (40)),(.int .i64 (50)),(.int .i64 (0)),(.int .i64 (0)),(.int .i64 (8)),(.int .i64 (10)),(.int .i64 (60)),(.int .i64 (1000)),(.str [119,97,116,101,114]),(.int .i64 (30)),(.int .i64 (40)),(.int .i64 (2)),(.int .i64 (3)),(.int .i64 (0)),(.int .i64 (0)),(.int .i64 (40)),(.int .i64 (500))])),(7,(.cells false [(.int .i64 (2)),(.int .i64 (1)),(.int .i64 (10))])),(1303,(.cells false [(.int .i64 (2)),(.int .i64 (0)),(.int .i64 (25)),(.int .i64 (28)),(.int .i64 (0))])),(1299,(.cells false [(.sl 1 0 5 5 1),(.sl 6 0 2 2 9),(.sl 7 0 1 1 3),(.str [111,105,108]),(.int .i64 (40)),(.int .i64 (50)),(.int .i64 (0)),(.int .i64 (0)),(.int .i64 (8)),(.int .i64 (10)),(.int .i64 (60)),(.int .i64 (1000)),(.int .i64 (0)),(.int .i64 (0)),(.int .i64 (0)),(.int .i64 (0)),(.int .i64 (0)),(.int .i64 (0)),(.int .i64 (0)),(.int .i64 (0)),(.int .i64 (0)),(.int .i64 (0)),(.int .i64 (0)),(.int .i64 (0)),(.int .i64 (0)),(.int .i64 (0)),(.int .i64 (0)),(.int .i64 (0)),(.int .i64 (0)),(.int .i64 (0)),(.int .i64 (0)),(.int .i64 (0)),(.int .i64 (0)),(.int .i64 (0)),(.int .i64 (0)),(.int .i64 (0)),(.int .i64 (0)),(.int .i64 (0)),(.int .i64 (0)),(.int .i64 (0)),(.int .i64 (0)),(.int .i64 (0)),(.sl 1303 0 1 1 5)]))],(.sl 1599 0 3 3 3),[(1599,(.cells false [(.int .i64 (41)),(.int .i64 (0)),(.int .i64 (8)),(.int .i64 (43)),(.int .i64 (0)),(.int .i64 (9)),(.int .i64 (45)),(.int .i64 (0)),(.int .i64 (10))]))],1600⟩
noncomputable def c5:Ent:=⟨17,[(.agg [(.sl 1 0 5 5 1),(.sl 6 0 2 2 9),(.sl 7 0 1 1 3)]),(.sl 1250 0 1 1 4),(.int .i64 (0))],1251,[(1,(.cells false [(.int .i64 (3)),(.int .i64 (3)),(.int .i64 (2)),(.int .i64 (2)),(.int .i64 (3))])),(6,(.cells false [(.str [111,105,108]),(.int .i64 (40)),(.int .i64 (50)),(.int .i64 (0)),(.int .i64 (0)),(.int .i64 (8)),(.int .i64 (10)),(.int .i64 (60)),(.int .i64 (1000)),(.str [119,97,116,101,114]),(.int .i64 (30)),(.int .i64 (40)),(.int .i64 (2)),(.int .i64 (3)),(.int .i64 (0)),(.int .i64 (0)),(.int .i64 (40)),(.int .i64 (500))])),(7,(.cells false [(.int .i64 (2)),(.int .i64 (1)),(.int .i64 (10))])),(1250,(.cells false [(.int .i64 (2)),(.int .i64 (0)),(.int .i64 (25)),(.int .i64 (28))]))],(.tup [(.agg [(.int .i64 (43)),(.int .i64 (0)),(.int .i64 (9))]),(.int .i64 (4)),(.int .i64 (0))]),[],1662⟩
noncomputable def c6:Ent:=⟨78,[(.ptr 1713 0)],1718,[(1,(.cells false [(.int .i64 (3)),(.int .i64 (3)),(.int .i64 (2)),(.int .i64 (2)),(.int .i64 (3))])),(6,(.cells false [(.str [111,105,108]),(.int .i64 (40)),(.int .i64 (50)),(.int .i64 (0)),(.int .i64 (0)),(.int .i64 (8)),(.int .i64 (10)),(.int .i64 (60)),(.int .i64 (1000)),(.str [119,97,116,101,114]),(.int .i64 (30)),(.int .i64 (40)),(.int .i64 (2)),(.int .i64 (3)),(.int .i64 (0)),(.int .i64 (0)),(.int .i64 (40)),(.int .i64 (500))])),(7,(.cells false [(.int .i64 (2)),(.int .i64 (1)),(.int .i64 (10))])),(1717,(.cells false [(.int .i64 (2)),(.int .i64 (0)),(.int .i64 (25)),(.int .i64 (28)),(.int .i64 (0))])),(1713,(.cells false [(.sl 1 0 5 5 1),(.sl 6 0 2 2 9),(.sl 7 0 1 1 3),(.str [111,105,108]),(.int .i64 (40)),(.int .i64 (50)),(.int .i64 (0)),(.int .i64 (0)),(.int .i64 (8)),(.int .i64 (10)),(.int .i64 (60)),(.int .i64 (1000)),(.int .i64 (0)),(.int .i64 (0)),(.int .i64 (0)),(.int .i64 (0)),(.int .i64 (0)),(.int .i64 (0)),(.int .i64 (0)),(.int .i64 (0)),(.int .i64 (0)),(.int .i64 (0)),(.int .i64 (0)),(.int .i64 (0)),(.int .i64 (0)),(.int .i64 (0)),(.int .i64 (0)),(.int .i64 (0)),(.int .i64 (0)),(.int .i64 (0)),(.int .i64 (0)),(.int .i64 (0)),(.int .i64 (0)),(.int .i64 (0)),(.int .i64 (0)),(.int .i64 (0)),(.int .i64 (0)),(.int .i64 (0)),(.int .i64 (0)),(.int .i64 (0)),(.int .i64 (0)),(.int .i64 (0)),(.sl 1717 0 1 1 5)]))],(.sl 2013 0 3 3 3),[(2013,(.cells false [(.int .i64 (41)),(.int .i64 (0)),(.int .i64 (8)),(.int .i64 (43)),(.int .i64 (0)),(.int .i64 (9)),(.int .i64 (45)),(.int .i64 (0)),(.int .i64 (10))]))],2014⟩
noncomputable def c7:Ent:=⟨97,[(.int .i64 (301)),(.fn 98 [] [(.ptr 2017 0),(.ptr 2016 0)])],2018,[(1,(.cells false [(.int .i64 (3)),(.int .i64 (3)),(.int .i64 (2)),(.int .i64 (2)),(.int .i64 (3))])),(6,(.cells false [(.str [111,105,108]),(.int .i64 (40)),(.int .i64 (50)),(.int .i64 (0)),(.int .i64 (0)),(.int .i64 (8)),(.int .i64 (10)),(.int .i64 (60)),(.int .i64 (1000)),(.str [119,97,116,101,114]),(.int .i64 (30)),(.int .i64 (40)),(.int .i64 (2)),(.int .i64 (3)),(.int .i64 (0)),(.int .i64 (0)),(.int .i64 (40)),(.int .i64 (500))])),(7,(.cells false [(.int .i64 (2)),(.int .i64 (1)),(.int .i64 (10))])),(1717,(.cells false [(.int .i64 (2)),(.int .i64 (0)),(.int .i64 (25)),(.int .i64 (28)),(.int .i64 (0))])),(1713,(.cells false [(.sl 1 0 5 5 1),(.sl 6 0 2 2 9),(.sl 7 0 1 1 3),(.str [111,105,108]),(.int .i64 (40)),(.int .i64 (50)),(.int .i64 (0)),(.int .i64 (0)),(.int .i64 (8)),(.int .i64 (10)),(.int .i64 (60)),(.int .i64 (1000)),(.int .i64 (0)),(.int .i64 (0)),(.int .i64 (0)),(.int .i64 (0)),(.int .i64 (0)),(.int .i64 (0)),(.int .i64 (0)),(.int .i64 (0)),(.int .i64 (0)),(.int .i64 (0)),(.int .i64 (0)),(.int .i64 (0)),(.int .i64 (0)),(.int .i64 (0)),(.int .i64 (0)),(.int .i64 (0)),(.int .i64 (0)),(.int .i64 (0)),(.int .i64 (0)),(.int .i64 (0)),(.int .i64 (0)),(.int .i64 (0)),(.int .i64 (0)),(.int .i64 (0)),(.int .i64 (0)),(.int .i64 (0)),(.int .i64 (0)),(.int .i64 (0)),(.int .i64 (0)),(.int .i64 (0)),(.sl 1717 0 1 1 5)])),(2014,(.cells false [(.ptr 1713 0)])),(1665,(.cells false [(.int .i64 (3))])),(2013,(.cells false [(.int .i64 (41)),(.int .i64 (0)),(.int .i64 (8)),(.int .i64 (43)),(.int .i64 (0)),(.int .i64 (9)),(.int .i64 (45)),(.int .i64 (0)),(.int .i64 (10))])),(2015,(.cells false [(.sl 2013 0 3 3 3)])),(2017,(.cells false [(.fn 59 [] [(.ptr 2014 0),(.ptr 1665 0),(.ptr 2015 0)])])),(2016,(.cells false [(.int .i64 (0))]))],(.int .i64 (5)),[],2270⟩
noncomputable def c8:Ent:=⟨31,[(.agg [(.sl 2271 0 5 5 1),(.sl 2276 0 2 2 9),(.sl 2277 0 1 1 3)]),.nils,(.int .i64 (1)),.nils],2279,[(2271,(.cells false [(.int .i64 (3)),(.int .i64 (3)),(.int .i64 (2)),(.int .i64 (2)),(.int .i64 (3))])),(2276,(.cells false [(.str [111,105,108]),(.int .i64 (40)),(.int .i64 (50)),(.int .i64 (0)),(.int .i64 (0)),(.int .i64 (8)),(.int .i64 (10)),(.int .i64 (60)),(.int .i64 (1000)),(.str [119,97,116,101,114]),(.int .i64 (23)),(.int .i64 (23)),(.int .i64 (2)),(.int .i64 (3)),(.int .i64 (0)),(.int .i64 (0)),(.int .i64 (40)),(.int .i64 (500))])),(2277,(.cells false [(.int .i64 (2)),(.int .i64 (1)),(.int .i64 (10))]))],(.tup [(.ptr 2319 0),(.sl 2394 0 2 2 3),(.int .i64 (0))]),[(2319,(.cells false [(.sl 2271 0 5 5 1),(.sl 2276 0 2 2 9),(.sl 2277 0 1 1 3),(.str [119,97,116,101,114]),(.int .i64 (23)),(.int .i64 (23)),(.int .i64 (2)),(.int .i64 (3)),(.int .i64 (0)),(.int .i64 (0)),(.int .i64 (40)),(.int .i64 (500)),(.int .i64 (0)),(.int .i64 (0)),(.int .i64 (10)),(.int .i64 (0)),(.int .i64 (0)),(.int .i64 (0)),(.int .i64 (0)),(.int .i64 (0)),(.int .i64 (0)),(.int .i64 (0)),(.int .i64 (0)),(.int .i64 (0)),(.int .i64 (0)),(.int .i64 (0)),(.int .i64 (0)),(.int .i64 (0)),(.int .i64 (0)),(.int .i64 (0)),(.int .i64 (0)),(.int .i64 (0)),(.int .i64 (0)),(.int .i64 (0)),(.int .i64 (0)),(.int .i64 (0)),(.int .i64 (0)),(.int .i64 (0)),(.int .i64 (0)),(.int .i64 (0)),(.int .i64 (0)),(.int .i64 (0)),.nils])),(2394,(.cells false [(.int .i64 (23)),(.int .i64 (2)),(.int .i64 (0)),(.int .i64 (23)),(.int .i64 (3)),(.int .i64 (0))]))],2395⟩
noncomputable def c9:Ent:=⟨104,[(.mp 2516)],3169,[(2516,(.cmap [((.agg [(.bool true),(.bool false),(.bool false),(.bool false),(.bool false),(.bool false),(.bool false),(.bool false)]),(.bool true)),((.agg [(.bool false),(.bool true),(.bool false),(.bool false),(.bool false),(.bool false),(.bool false),(.bool false)]),(.bool true))] [0,1] 2))],(.csl [(.int .i64 (0))] 1),[],3183⟩
noncomputable def c10:Ent:=⟨82,[(.ptr 2507 0)],2515,[(1,(.cells false [(.int .i64 (3)),(.int .i64 (3)),(.int .i64 (2)),(.int .i64 (2)),(.int .i64 (3))])),(6,(.cells false [(.str [111,105,108]),(.int .i64 (40)),(.int .i64 (50)),(.int .i64 (0)),(.int .i64 (0)),(.int .i64 (8)),(.int .i64 (10)),(.int .i64 (60)),(.int .i64 (1000)),(.str [119,97,116,101,114]),(.int .i64 (30)),(.int .i64 (40)),(.int .i64 (2)),(.int .i64 (3)),(.int .i64 (0)),(.int .i64 (0)),(.int .i64 (40)),(.int .i64 (500))])),(7,(.cells false [(.int .i64 (2)),(.int .i64 (1)),(.int .i64 (10))])),(2514,(.cells false [(.int .i64 (2)),(.int .i64 (0)),(.int .i64 (25)),(.int .i64 (28)),(.int .i64 (0)),(.int .i64 (2)),(.int .i64 (0)),(.int .i64 (0)),(.int .i64 (24)),(.int .i64 (1))])),(2507,(.cells false [(.sl 1 0 5 5 1),(.sl 6 0 2 2 9),(.sl 7 0 1 1 3),(.str [111,105,108]),(.int .i64 (40)),(.int .i64 (50)),(.int .i64 (0)),(.int .i64 (0)),(.int .i64 (8)),(.int .i64 (10)),(.int .i64 (60)),(.int .i64 (1000)),(.int .i64 (0)),(.int .i64 (0)),(.int .i64 (0)),(.int .i64 (0)),(.int .i64 (0)),(.int .i64 (0)),(.int .i64 (0)),(.int .i64 (0)),(.int .i64 (0)),(.int .i64 (0)),(.int .i64 (0)),(.int .i64 (0)),(.int .i64 (0)),(.int .i64 (0)),(.int .i64 (0)),(.int .i64 (0)),(.int .i64 (0)),(.int .i64 (0)),(.int .i64 (0)),(.int .i64 (0)),(.int .i64 (0)),(.int .i64 (0)),(.int .i64 (0)),(.int .i64 (0)),(.int .i64 (0)),(.int .i64 (0)),(.int .i64 (0)),(.int .i64 (0)),(.int .i64 (0)),(.int .i64 (0)),(.sl 2514 0 2 2 5)]))],(.csl [(.int .i64 (0))] 1),[],3183⟩
noncomputable def c11:Ent:=⟨104,[(.mp 3190)],3209,[(3190,(.cmap [((.agg [(.bool false),(.bool false),(.bool false),(.bool false),(.bool false),(.bool false),(.bool false),(.bool false)]),(.bool true))] [0] 1))],.nils,[],3214⟩
noncomputable def c12:Ent:=⟨78,[(.ptr 3257 0)],3259,[(1,(.cells false [(.int .i64 (3)),(.int .i64 (3)),(.int .i64 (2)),(.int .i64 (2)),(.int .i64 (3))])),(6,(.cells false [(.str [111,105,108]),(.int .i64 (40)),(.int .i64 (50)),(.int .i64 (0)),(.int .i64 (0)),(.int .i64 (8)),(.int .i64 (10)),(.int .i64 (60)),(.int .i64 (1000)),(.str [119,97,116,101,114]),(.int .i64 (30)),(.int .i64 (40)),(.int .i64 (2)),(.int .i64 (3)),(.int .i64 (0)),(.int .i64 (0)),(.int .i64 (40)),(.int .i64 (500))])),(7,(.cells false [(.int .i64 (2)),(.int .i64 (1)),(.int .i64 (10))])),(3257,(.cells false [(.sl 1 0 5 5 1),(.sl 6 0 2 2 9),(.sl 7 0 1 1 3),(.str [119,97,116,101,114]),(.int .i64 (30)),(.int .i64 (40)),(.int .i64 (2)),(.int .i64 (3)),(.int .i64 (0)),(.int .i64 (0)),(.int .i64 (40)),(.int .i64 (500)),(.int .i64 (0)),(.int .i64 (0)),(.int .i64 (10)),(.int .i64 (0)),(.int .i64 (0)),(.int .i64 (0)),(.int .i64 (0)),(.int .i64 (0)),(.int .i64 (0)),(.int .i64 (0)),(.int .i64 (0)),(.int .i64 (0)),(.int .i64 (0)),(.int .i64 (0)),(.int .i64 (0)),(.int .i64 (0)),(.int .i64 (0)),(.int .i64 (0)),(.int .i64 (0)),(.int .i64 (0)),(.int .i64 (0)),(.int .i64 (0)),(.int .i64 (0)),(.int .i64 (0)),(.int .i64 (0)),(.int .i64 (0)),(.int .i64 (0)),(.int .i64 (0)),(.int .i64 (0)),(.int .i64 (0)),.nils]))],(.sl 3422 0 2 2 3),[(3422,(.cells false [(.int .i64 (30)),(.int .i64 (2)),(.int .i64 (0)),(.int .i64 (30)),(.int .i64 (3)),(.int .i64 (0))]))],3423⟩
end Go.Proofs.YtelibdeanepdjaaGreat

