/-
  THE ENGINE: one more part of it.
-/
import Derived.Test.YtolgkckmppongaaPart03
import Derived.Test.YtolgkckmppongaaPart04
import Derived.ProofKit
set_option linter.unusedSectionVars false
set_option linter.unusedSimpArgs false
set_option linter.unusedVariables false
namespace Go.Eng
open Go
attribute [local irreducible] upTo
noncomputable def oldAll (since:Nat):List ((AV×AV)×Nat)→Bool
 |[]=>true
 |z::l=>match Nat.ble since z.2 with
  |true=>false
  |false=>oldAll since l
noncomputable def nextL (τ:Tmps) (σ:Hp) (x:Operand):Option (List (AV×Hp)):=
 match ev τ x with
 | some (.iter id) => match σ.get id with
  | some (.miter m since seen last) => match σ.get m with
   | some (.cmap es bs ck) => match (match seen, es with | [], _ => false | _, [] => false | _, _ => allB last bs) with
    |true=>none
    | false => match leftM es bs seen with
     |[]=>some [(.tup [.bool false],σ)]
     |y::l=>match oldAll since (y::l) with
      |true=>some ((y::l).map fun z=>(.tup [.bool true,z.1.1,z.1.2],σ.set id (.miter m since (seen++[z.2]) ck)))
      |false=>none
   |_=>none
  |_=>none
 |_=>none
section
variable {P:Program} {E:Env} {base:Nat} {V:View} {σ:Hp} {W:World} {τ:Tmps} {ρ:Operand→Value}
variable {dst:Option Tmp} {ty:TypeId} {pos:String} {after:Array Edge} {guard:Option (Nat×Bool)}
theorem oldAll_spec {since:Nat}:∀ {l:List ((AV×AV)×Nat)},oldAll since l=true→∀ z∈l,z.2<since
 |[],_,z,hz=>by cases hz
 |y::l,h,z,hz=>by
  simp only[oldAll] at h
  split at h
  · cases h
  · rename_i hb
    rcases List.mem_cons.1 hz with rfl|hz
    · have : ¬ since ≤ z.2 := fun e => by rw [Nat.ble_eq_true_of_le e] at hb; cases hb
      omega
    · exact oldAll_spec h z hz
theorem left_all {seen:List Nat}:∀ {es:List (AV×AV)} {en:List MapEntry},VRs V (es.map (·.1)) (en.map (·.key))→VRs V (es.map (·.2)) (en.map (·.val)) →
  (leftM es (en.map (·.born)) seen).length=(en.filter fun e=>!seen.contains e.born).length ∧
  ∀ (j:Nat) (e:MapEntry),(en.filter fun e=>!seen.contains e.born)[j]?=some e→∃ k v,(leftM es (en.map (·.born)) seen)[j]?=some ((k,v),e.born)∧VR V k e.key∧VR V v e.val
 |[],[],_,_=>⟨rfl,fun j e h=>by rw[List.filter_nil] at h;simp at h⟩
 |[],_::_,h,_=>absurd h.1 (by simp)
 |_::_,[],h,_=>absurd h.1 (by simp)
 | (k, v) :: es, e :: en, h1, h2 => by
  obtain⟨A,As,ea,hx,h1'⟩:=h1.cons_inv
  obtain⟨B,Bs,eb,hv,h2'⟩:=h2.cons_inv
  simp only[List.map_cons,List.cons.injEq] at ea eb
  obtain⟨rfl,rfl⟩:=ea
  obtain⟨rfl,rfl⟩:=eb
  obtain⟨i1,i2⟩:=left_all (seen:=seen) h1' h2'
  simp only[List.map_cons,leftM,memN_eq]
  cases hc:seen.contains e.born with
  |true=>
   rw[List.filter_cons_of_neg (by simp only[hc];decide)]
   exact⟨i1,i2⟩
  | false =>
   rw[List.filter_cons_of_pos (by simp only[hc];rfl)]
   refine⟨by simp only[List.length_cons,i1],fun j e' h=>?_⟩
   cases j with
   |zero=>
    simp only[List.getElem?_cons_zero,Option.some.injEq] at h;subst h
    exact⟨k,v,rfl,hx,hv⟩
   |succ j=>
    rw[List.getElem?_cons_succ] at h
    exact i2 j e' h
theorem run_choose_next {n:Nat} (hn:0<n):∃ i W1,i<n∧(W1=W∨W1=W.drew)∧(choose (.mapNext n)).run P W=.ok i W1:=by
 cases h:(Question.mapNext n).forced with
 |true=>
  refine⟨0,W,hn,.inl rfl,?_⟩
  rw[run_choose,if_pos h]
 |false=>
  refine⟨W.tape W.drawn (.mapNext n) % n,W.drew,Nat.mod_lt _ hn,.inr rfl,?_⟩
  rw[run_choose,if_neg (by rw[h];decide)];rfl
variable (hE:EnvOK P E) (H:HR E base V σ W) (hb:base≤W.heap.size) (hρ:EvR V τ ρ)
include hE H hb hρ
theorem s_nextL (x : Operand) {L : List (AV × Hp)} (h : nextL τ σ x = some L) : ∃ r ∈ L, OpOK P E base V σ W ((execOp ρ ⟨dst, .next x false, ty, pos, after, guard⟩).run P W) (.val r.1 r.2) := by
 unfold nextL at h
 split at h
 · rename_i id hx
   split at h
   · rename_i m since seen last hget
     split at h
     · rename_i es bs ck hgm
       obtain⟨blk,sh,hm,hbase,hlt,rfl,mb,hmb,hobj⟩:=H.obj _ _ hget (by simp)
       obtain⟨blk2,sh2,hm2,_,hlt2,rfl,en,hobj2,hv1,hv2,rfl⟩:=H.obj _ _ hgm (by simp)
       rw[hmb] at hm2;simp only[Option.some.injEq,Prod.mk.injEq,and_true] at hm2;subst hm2
       have hX:ρ x=.pointer (some ⟨blk,0,none⟩):=by
        have:=hρ x _ hx
        generalize ρ x=X at this
        cases this with
        |iter _ blk' hm'=>rw[hm] at hm';simp only[Option.some.injEq,Prod.mk.injEq,and_true] at hm';subst hm';rfl
       have hg:=getObj_run (P:=P) hE H hb hρ hobj (by intro c t f e;cases e)
       have hg2:=getObj_run (P:=P) hE H hb hρ hobj2 (by intro c t f e;cases e)
       split at h
       · cases h
       · rename_i hcond
         have hc:(!seen.toArray.isEmpty&&!en.isEmpty&&en.all (fun e=>decide (e.born ≥ last)))=false:=by
          cases seen with
          |nil=>rfl
          | cons a seen =>
           cases hes:es with
           |nil=>
            subst hes
            have:en.toList.length=0:=by have:=hv1.1;simpa using this.symm
            have:en=#[]:=Array.toList_eq_nil_iff.1 (List.eq_nil_of_length_eq_zero this)
            subst this;simp
           | cons y es' =>
            rw[hes] at hcond
            simp only[allB_eq] at hcond
            have:en.all (fun e=>decide (e.born ≥ last))=false:=by
             rw[← Array.all_toList]
             rw[List.all_map] at hcond
             exact hcond
            rw[this,Bool.and_false]
         obtain⟨hll,hls⟩:=left_all (V:=V) (seen:=seen) hv1 hv2
         have hfilt:en.filter (fun e=>!seen.toArray.contains e.born)=(en.toList.filter fun e=>!seen.contains e.born).toArray:=by
          apply Array.ext'
          rw[Array.toList_filter]
          simp
         split at h
         · rename_i hl
           simp only[Option.some.injEq] at h;subst h
           rw[hl] at hll
           refine⟨_,List.mem_cons_self,.same H (v':=.tuple #[.bool false]) ?_ (VR.tup' (A:=[.bool false]) (.cons (.bool _) (.nil _)))⟩
           have hf0:en.filter (fun e=>!seen.toArray.contains e.born)=#[]:=by rw[hfilt,List.eq_nil_of_length_eq_zero hll.symm]
           simp only[execOp,Instr.next,hX,Sem.run_bind,hg,hg2,Result.andThen_ok,hc,Bool.false_eq_true,if_false,hf0]
           simp[Question.forced]
         · rename_i y l hl
           split at h
           · rename_i hold
             simp only[Option.some.injEq] at h;subst h
             rw[hl] at hll hls
             have hold':=oldAll_spec hold
             have hF:∀ e∈en.toList.filter (fun e=>!seen.contains e.born),e.born<since:=fun e he=>by
              obtain⟨j,hj,hje⟩:=List.getElem_of_mem he
              obtain⟨k,v,h1,_,_⟩:=hls j e (by rw[List.getElem?_eq_getElem hj,hje])
              exact hold' _ (List.mem_of_getElem? h1)
             obtain⟨i,W1,hi,hW1,hch⟩:=run_choose_next (P:=P) (W:=W) (n:=(en.toList.filter fun e=>!seen.contains e.born).length) (by rw[← hll];exact Nat.succ_pos _)
             have he:(en.toList.filter fun e=>!seen.contains e.born)[i]?=some ((en.toList.filter fun e=>!seen.contains e.born)[i]):=List.getElem?_eq_getElem hi
             obtain⟨k,v,h1,hk,hv⟩:=hls i _ he
             refine⟨_,List.mem_map.2 ⟨_,List.mem_of_getElem? h1,rfl⟩,?_⟩
             generalize hee:(en.toList.filter fun e=>!seen.contains e.born)[i]=e at he h1 hk hv
             have H1:HR E base V σ W1:=by
              rcases hW1 with rfl|rfl
              · exact H
              · exact H.drew
             have hobj1:W1.heap[blk]?=some (.mapIter (some mb) since seen.toArray last):=by rcases hW1 with rfl|rfl<;>exact hobj
             have hb1:base≤W1.heap.size:=by rcases hW1 with rfl|rfl<;>exact hb
             have hlt1:blk<W1.heap.size:=by rcases hW1 with rfl|rfl<;>exact hlt
             have hset:=setObj_run (P:=P) hE H1 hb1 hρ hobj1 (by intro c t f e;cases e) (o':=.mapIter (some mb) since (seen++[e.born]).toArray ck)
             have hup:=upd_obj hE H1 hb1 hρ hget (by simp) hm hobj1 (by intro c t f e;cases e) (obj':=.mapIter (some mb) since (seen++[e.born]).toArray ck) (o':=.miter m since (seen++[e.born]) ck) ⟨rfl,mb,hmb,by simp[hlt1]⟩
             have hstp:Stp E base V σ W V (σ.set id (.miter m since (seen++[e.born]) ck)) { W1 with heap:=W1.heap.setIfInBounds blk (.mapIter (some mb) since (seen++[e.born]).toArray ck) }:=by
              rcases hW1 with h1|h1
              · rw[h1] at hup⊢;exact hup
              · rw[h1] at hup⊢;exact hup.of_drew
             refine⟨V,_,.tuple #[.bool true,e.key,e.val],?_,hstp,VR.tup' (A:=[.bool true,e.key,e.val]) (.cons (.bool _) (.cons hk (.cons hv (.nil _))))⟩
             have hfs:en.filter (fun e=>!seen.toArray.contains e.born)=(en.toList.filter fun e=>!seen.contains e.born).toArray:=hfilt
             generalize hFL:(en.toList.filter fun e=>!seen.contains e.born)=F at hfs hF hi hch hee he hll
             have o1:F.toArray.filter (fun x=>decide (x.born<since))=F.toArray:=by
              apply Array.ext'
              rw[Array.toList_filter]
              exact List.filter_eq_self.2 fun e he=>decide_eq_true (hF e he)
             have o2:F.toArray.filter (fun x=>decide (x.born ≥ since))=#[]:=by
              apply Array.ext'
              rw[Array.toList_filter]
              exact List.filter_eq_nil_iff.2 fun e he=>by have:=hF e he;simp;omega
             have hne:F.toArray.isEmpty=false:=by
              cases F with
              |nil=>simp at hi
              |cons a F=>rfl
             simp only[execOp,Instr.next,hX,Sem.run_bind,hg,hg2,Result.andThen_ok,hc,Bool.false_eq_true,if_false,hfs,o1,o2,hne,Array.append_empty,Array.empty_append]
             have e3:(Array.map some F.toArray).size=F.length:=by simp
             have e4:(Array.map some F.toArray)[i]?=some (some e):=by simp[he]
             simp only[e3,hch,Result.andThen_ok,e4,Sem.run_bind]
             rw[← List.push_toArray] at hset
             simp only[hset,Result.andThen_ok,Sem.run_pure]
             rw[List.push_toArray]
           · cases h
     · cases h
   · cases h
 · cases h
end
end Go.Eng


namespace Go.Eng
open Go
attribute [local irreducible] upTo
noncomputable def optL {α:Type} (o:Option α):Option (List α):=
 match o with
 |some a=>some [a]
 |none=>none
noncomputable def bindL {α β:Type} (f:α→Option (List β)):List α→Option (List β)
 |[]=>some []
 | a :: l => match f a with
  |some x=>match bindL f l with
   |some y=>some (x++y)
   |none=>none
  |none=>none
theorem bindL_mem {α β : Type} {f : α → Option (List β)} : ∀ {l : List α} {r : List β}, bindL f l = some r → ∀ a ∈ l, ∃ x, f a = some x ∧ ∀ b ∈ x, b ∈ r
 |[],r,_,a,ha=>by cases ha
 | b :: l, r, h, a, ha => by
  simp only[bindL] at h
  split at h
  · rename_i x hx
    split at h
    · rename_i y hy
      simp only[Option.some.injEq] at h;subst h
      rcases List.mem_cons.1 ha with rfl|ha
      · exact⟨x,hx,fun b hb=>List.mem_append_left _ hb⟩
      · obtain ⟨x', h1, h2⟩ := bindL_mem hy a ha
        exact⟨x',h1,fun b hb=>List.mem_append_right _ (h2 b hb)⟩
    · cases h
  · cases h
noncomputable def isNextM:Op→Option Operand
 |.next x false=>some x
 |_=>none
theorem isNextM_eq {o:Op} {x:Operand} (h:isNextM o=some x):o=.next x false:=by
 unfold isNextM at h
 split at h
 · simp only[Option.some.injEq] at h;subst h;rfl
 · cases h
noncomputable def oneOpL (E:Env) (call:CallF) (hs:Hnds) (ops:Array Oper) (o:Oper) (st:St):Option (List St):=
 match isNextM o.op with
 | some x => match wantedA ops st.τ o with
  |some true=>match nextL st.τ st.σ x with
   |some l=>bindL (fun r=>optL (putS { st with σ:=r.2 } o.dst r.1)) l
   |none=>none
  |_=>none
 |none=>optL (oneOp E call hs ops o st)
noncomputable def runOpsL (E:Env) (call:CallF) (hs:Hnds) (ops:Array Oper):List Oper→St→Option (List St)
 |[],st=>some [st]
 |o::os,st=>match oneOpL E call hs ops o st with
  |some l=>bindL (runOpsL E call hs ops os) l
  |none=>none
abbrev Outs:=List (Ex×St)
noncomputable def thenL (f:St→Option Outs) (r:Ex×St):Option Outs:=
 match r.1 with
 |.normal=>f r.2
 |_=>some [r]
noncomputable def roundsL (f:St→Option Outs):Nat→St→Option Outs
 |0,_=>none
 |n+1,st=>match f st with
  |some l=>bindL (thenL (roundsL f n)) l
  |none=>none
noncomputable def leaveL (i:Nat) (r:Ex×St):Ex×St:=
 match r.1 with
 |.exit j=>((match Nat.beq j i with|true=>.normal|false=>.exit j),r.2)
 |_=>r
noncomputable def execL (E:Env) (call:CallF) (hs:Hnds):Code→St→Option Outs
 |.seq a b,st=>match execL E call hs a st with
  |some l=>bindL (thenL (execL E call hs b)) l
  |none=>none
 |.cond c a b,st=>match ev st.τ c with
  |some (.bool true)=>execL E call hs a st
  |some (.bool false)=>execL E call hs b st
  |_=>none
 |.block i b,st=>match execL E call hs b st with
  |some l=>some (l.map (leaveL i))
  |none=>none
 |.scope b,st=>execL E call hs b st
 |.loop b,st=>roundsL (execL E call hs b) 24 st
 |.region i ops false,st=>match runOpsL E call hs ops ops.toList st with
  |some l=>some (l.map fun s=>(.normal,s))
  |none=>none
 |c,st=>optL (exec E call c hs st)
section
variable {P:Program} {E:Env} {call:CallF} {base:Nat} {hs:Hnds}
theorem optL_mem {α:Type} {o:Option α} {l:List α} (h:optL o=some l):∃ a,o=some a∧a∈l:=by
 unfold optL at h
 split at h
 · rename_i a
   simp only[Option.some.injEq] at h;subst h
   exact⟨a,rfl,List.mem_cons_self⟩
 · cases h
theorem oneOpL_spec (hE : EnvOK P E) {inv : Inv} (hcx : CxOK inv) (hcall : CallOK P E call) {V : View} {st : St} {A : Array Value} {DS : List Deferred} {M : List Nat} {O : OO} {W : World} (h : SR E base inv V st A DS M O W) (hh : HOK P E base inv V hs) {ops : Array Oper} {i : Nat} {o : Oper} (ho : ops[i]? = some o)
  {l:List St} (hd:oneOpL E call hs ops o st=some l) :
  ∃ st'∈l,∃ V' A' DS' O' W',SR E base inv V' st' A' DS' M O' W'∧Prg V st.σ O W V' st'.σ O' W'∧st'.rnd=st.rnd ∧
   ∀ fn b cs k rest,BOK fn st.rnd b cs→Steps P (lone (mkF b A DS (.inRegion ops (i::rest)::k)) cs W) (lone (mkF b A' DS' (.inRegion ops rest::k)) cs W'):=by
 unfold oneOpL at hd
 split at hd
 · rename_i x hx
   have hop:=isNextM_eq hx
   split at hd
   · rename_i hw
     have hw':=wanted_spec h hw
     split at hd
     · rename_i L hn
       have hnd:∀ c,o.op≠.defer c:=by intro c e;rw[hop] at e;cases e
       have key:∃ r∈L,OpOK P E base V st.σ W ((execOp (mkF default A DS []).eval o).run P W) (.val r.1 r.2):=by
        obtain⟨op,dst,ty,pos,after,guard⟩:=o
        simp only at hop;subst hop
        exact s_nextL hE h.hr h.bs (h.evR default) x hn
       obtain⟨r,hr,V1,W1,v1,e1,s1,r1⟩:=key
       obtain⟨a,ha,hm⟩:=bindL_mem hd r hr
       obtain⟨st',hp,hst'⟩:=optL_mem ha
       have hS:=h.stp hcx s1
       obtain⟨g1,g2,g3⟩:=hS.put r1 hp
       refine⟨st',hm _ hst',V1,_,DS,O,W1,g1,by rw[g2];exact .of_stp s1 (hcx.bound _ _ _ _ h.cx),g3,fun fn b cs k rest hb=>.one (st_value ho hw' (.inr hnd) ?_)⟩
       have:(mkF b A DS []).eval=(mkF default A DS []).eval:=by funext x;rw[mkF_eval,mkF_eval]
       rw[this];exact e1
     · cases hd
   · cases hd
 · obtain ⟨st', h1, h2⟩ := optL_mem hd
   exact⟨st',h2,oneOp_spec hE hcx hcall h hh ho h1⟩
theorem runOpsL_spec (hE:EnvOK P E) {inv:Inv} (hcx:CxOK inv) (hcall:CallOK P E call) {ops:Array Oper} {M:List Nat}:∀ (os:List Oper) (n:Nat) {V:View} {st:St} {l:List St} {A:Array Value} {DS:List Deferred} {O:OO} {W:World},
  ops.toList.drop n=os→SR E base inv V st A DS M O W→HOK P E base inv V hs→runOpsL E call hs ops os st=some l →
  ∃ st'∈l,∃ V' A' DS' O' W',SR E base inv V' st' A' DS' M O' W'∧Prg V st.σ O W V' st'.σ O' W'∧st'.rnd=st.rnd ∧
   ∀ fn b cs k,BOK fn st.rnd b cs→Steps P (lone (mkF b A DS (.inRegion ops (List.range' n os.length)::k)) cs W) (lone (mkF b A' DS' k) cs W')
 |[],n,V,st,l,A,DS,O,W,hos,h,hh,hd=>by
  simp only[runOpsL,Option.some.injEq] at hd;subst hd
  exact⟨st,List.mem_cons_self,V,A,DS,O,W,h,.refl _ _ _ _,rfl,fun fn b cs k hb=>.one st_region_end⟩
 | o :: os, n, V, st, l, A, DS, O, W, hos, h, hh, hd => by
  simp only[runOpsL] at hd
  split at hd
  · rename_i l1 h1
    have ho:ops[n]?=some o:=by
     have:(ops.toList.drop n)[0]?=some o:=by rw[hos];rfl
     rw[List.getElem?_drop] at this
     simpa using this
    have hos':ops.toList.drop (n+1)=os:=by
     have:(ops.toList.drop n).drop 1=os:=by rw[hos];rfl
     rw[List.drop_drop] at this;exact this
    obtain⟨st1,m1,V1,A1,DS1,O1,W1,s1,p1,r1,g1⟩:=oneOpL_spec hE hcx hcall h hh ho h1
    obtain⟨x,hx,hm⟩:=bindL_mem hd st1 m1
    obtain⟨st2,m2,V2,A2,DS2,O2,W2,s2,p2,r2,g2⟩:=runOpsL_spec hE hcx hcall os (n+1) hos' s1 (hh.mono p1.le) hx
    exact⟨st2,hm _ m2,V2,A2,DS2,O2,W2,s2,p1.trans p2,r2.trans r1,fun fn b cs k hb=>(g1 fn b cs k _ hb).trans (g2 fn b cs k (by rw[r1];exact hb))⟩
  · cases hd
def CodeL (P:Program) (E:Env) (base:Nat) (hs:Hnds) (f:St→Option Outs) (c:Code):Prop:=
 ∀ inv,CxOK inv→∀ V st l A DS M O W fn rl,RLOK inv rl→f st=some l→SR E base inv V st A DS M O W→HOK P E base inv V hs →
  ∃ r∈l,∃ V' A' DS' M' O' W',Left E base inv V st M O W V' r.2 A' DS' M' O' W'∧∀ b cs k,BOK fn st.rnd b cs∧b.roundOf=rl→Arr P (lone (mkF b A DS (.code c::k)) cs W) b A' DS' k cs W' r.1
theorem CodeL.one {f:St→Option Outs} {c:Code} (h:CodeOK P E call base hs c) (hf:∀ st,f st=optL (exec E call c hs st)):CodeL P E base hs f c:=by
 intro inv hcx V st l A DS M O W fn rl hrl hl hS hh
 rw[hf] at hl
 obtain⟨⟨e,st'⟩,h1,h2⟩:=optL_mem hl
 obtain⟨V1,A1,DS1,M1,O1,W1,L1,g1⟩:=h inv hcx V st st' e A DS M O W fn rl hrl h1 hS hh
 exact⟨_,h2,V1,A1,DS1,M1,O1,W1,L1,g1⟩
theorem CodeL.seq {f g:St→Option Outs} {x y:Code} (hx:CodeL P E base hs f x) (hy:CodeL P E base hs g y):CodeL P E base hs (fun st=>match f st with|some l=>bindL (thenL g) l|none=>none) (.seq x y):=by
 intro inv hcx V st l A DS M O W fn rl hrl h hS hh
 simp only at h
 split at h
 · rename_i l1 h1
   obtain⟨⟨e1,st1⟩,m1,V1,A1,DS1,M1,O1,W1,L1,g1⟩:=hx inv hcx V st l1 A DS M O W fn rl hrl h1 hS hh
   obtain⟨a,ha,hm⟩:=bindL_mem h _ m1
   cases he:e1 with
   |normal=>
    subst he
    obtain⟨⟨e2,st2⟩,m2,V2,A2,DS2,M2,O2,W2,L2,g2⟩:=hy inv hcx V1 st1 a A1 DS1 M1 O1 W1 fn rl hrl ha L1.sr (hh.mono L1.pr.le)
    exact⟨_,hm _ m2,V2,A2,DS2,M2,O2,W2,L1.trans L2,fun b cs k hb=>.of_steps (.head st_seq (g1 b cs (.code y::k) hb)) (g2 b cs k ⟨by rw[L1.rnd];exact hb.1,hb.2⟩)⟩
   |exit j=>
    subst he
    simp only[thenL,Option.some.injEq] at ha;subst ha
    exact⟨_,hm _ List.mem_cons_self,V1,A1,DS1,M1,O1,W1,L1,fun b cs k hb=>.of_steps (.one st_seq) (Arr.behind (k:=.code y::k) (by simp) (fun i _=>rfl) (g1 b cs (.code y::k) hb))⟩
   |ret=>
    subst he
    simp only[thenL,Option.some.injEq] at ha;subst ha
    exact⟨_,hm _ List.mem_cons_self,V1,A1,DS1,M1,O1,W1,L1,fun b cs k hb=>.of_steps (.one st_seq) (Arr.behind (k:=.code y::k) (by simp) (fun i _=>rfl) (g1 b cs (.code y::k) hb))⟩
 · cases h
theorem CodeL.scope {f:St→Option Outs} {x:Code} (hx:CodeL P E base hs f x):CodeL P E base hs f (.scope x):=by
 intro inv hcx V st l A DS M O W fn rl hrl h hS hh
 obtain⟨⟨e,st1⟩,m1,V1,A1,DS1,M1,O1,W1,L1,g1⟩:=hx inv hcx V st l A DS M O W fn rl hrl h hS hh
 refine⟨_,m1,V1,A1,DS1,M1,O1,W1,L1,fun b cs k hb=>.of_steps (.one st_scope) ?_⟩
 have:=g1 b cs (.inScope x::k) hb
 cases e with
 |normal=>exact this.trans (.one st_inScope)
 |exit i=>exact this.behind (by simp) (fun _ _=>rfl)
 |ret=>exact this.behind (by simp) (fun _ _=>rfl)
theorem CodeL.block {i:Nat} {f:St→Option Outs} {x:Code} (hx:CodeL P E base hs f x):CodeL P E base hs (fun st=>match f st with|some l=>some (l.map (leaveL i))|none=>none) (.block i x):=by
 intro inv hcx V st l A DS M O W fn rl hrl h hS hh
 simp only at h
 split at h
 · rename_i l1 h1
   simp only[Option.some.injEq] at h;subst h
   obtain⟨⟨e,st1⟩,m1,V1,A1,DS1,M1,O1,W1,L1,g1⟩:=hx inv hcx V st l1 A DS M O W fn rl hrl h1 hS hh
   refine⟨_,List.mem_map.2 ⟨_,m1,rfl⟩,V1,A1,DS1,M1,O1,W1,?_,fun b cs k hb=>.of_steps (.one st_block) ?_⟩
   · cases e<;>exact L1
   · have hg := g1 b cs (.inBlock i :: k) hb
     cases e with
     |normal=>exact Steps.trans hg (.one st_inBlock)
     |ret=>exact Arr.behind (e:=.ret) (by simp) (fun _ h=>by cases h) hg
     | exit j =>
      obtain⟨k',h2,h3⟩:=hg
      have hex:exitTo j (.inBlock i::k)=if (i == j)=true then some k else exitTo j k:=rfl
      rw[hex] at h2
      simp only[leaveL]
      cases hij:Nat.beq j i with
      |true=>
       have:j=i:=Nat.eq_of_beq_eq_true hij
       subst this
       rw[if_pos (by simp)] at h2
       exact h3.trans (.one (st_exit h2))
      |false=>
       have:j≠i:=Nat.ne_of_beq_eq_false hij
       rw[if_neg (by simp;exact fun e=>this e.symm)] at h2
       exact⟨k',h2,h3⟩
 · cases h
theorem CodeL.cond {c:Operand} {f g:St→Option Outs} {x y:Code} (hx:CodeL P E base hs f x) (hy:CodeL P E base hs g y):CodeL P E base hs (fun st=>match ev st.τ c with|some (.bool true)=>f st|some (.bool false)=>g st|_=>none) (.cond c x y):=by
 intro inv hcx V st l A DS M O W fn rl hrl h hS hh
 simp only at h
 split at h
 · rename_i hc
   obtain⟨r,m1,V1,A1,DS1,M1,O1,W1,L1,g1⟩:=hx inv hcx V st l A DS M O W fn rl hrl h hS hh
   exact⟨r,m1,V1,A1,DS1,M1,O1,W1,L1,fun b cs k hb=>.of_steps (.one (st_cond (t:=true) ((hS.evR b c _ hc).bool_inv))) (g1 b cs k hb)⟩
 · rename_i hc
   obtain⟨r,m1,V1,A1,DS1,M1,O1,W1,L1,g1⟩:=hy inv hcx V st l A DS M O W fn rl hrl h hS hh
   exact⟨r,m1,V1,A1,DS1,M1,O1,W1,L1,fun b cs k hb=>.of_steps (.one (st_cond (t:=false) ((hS.evR b c _ hc).bool_inv))) (g1 b cs k hb)⟩
 · cases h
theorem roundsL_spec {f:St→Option Outs} {c:Code} (hc:CodeL P E base hs f c):∀ n inv,CxOK inv→∀ V st l A DS M O W fn rl,RLOK inv rl→roundsL f n st=some l→SR E base inv V st A DS M O W→HOK P E base inv V hs →
  ∃ r∈l,∃ V' A' DS' M' O' W',Left E base inv V st M O W V' r.2 A' DS' M' O' W'∧∀ b cs k,BOK fn st.rnd b cs∧b.roundOf=rl→Arr P (lone (mkF b A DS (.code c::.inLoop c::k)) cs W) b A' DS' k cs W' r.1
 |0,inv,hcx,V,st,l,A,DS,M,O,W,fn,rl,hrl,h,hS,hh=>by cases h
 | n + 1, inv, hcx, V, st, l, A, DS, M, O, W, fn, rl, hrl, h, hS, hh => by
  simp only[roundsL] at h
  split at h
  · rename_i l1 h1
    obtain⟨⟨e1,st1⟩,m1,V1,A1,DS1,M1,O1,W1,L1,g1⟩:=hc inv hcx V st l1 A DS M O W fn rl hrl h1 hS hh
    obtain⟨a,ha,hm⟩:=bindL_mem h _ m1
    cases he:e1 with
    |normal=>
     subst he
     obtain⟨r,m2,V2,A2,DS2,M2,O2,W2,L2,g2⟩:=roundsL_spec hc n inv hcx V1 st1 a A1 DS1 M1 O1 W1 fn rl hrl ha L1.sr (hh.mono L1.pr.le)
     exact⟨r,hm _ m2,V2,A2,DS2,M2,O2,W2,L1.trans L2,fun b cs k hb=>.of_steps (Steps.trans (g1 b cs (.inLoop c::k) hb) (.one st_inLoop)) (g2 b cs k ⟨by rw[L1.rnd];exact hb.1,hb.2⟩)⟩
    |exit j=>
     subst he
     simp only[thenL,Option.some.injEq] at ha;subst ha
     exact⟨_,hm _ List.mem_cons_self,V1,A1,DS1,M1,O1,W1,L1,fun b cs k hb=>Arr.behind (k:=.inLoop c::k) (by simp) (fun _ _=>rfl) (g1 b cs (.inLoop c::k) hb)⟩
    |ret=>
     subst he
     simp only[thenL,Option.some.injEq] at ha;subst ha
     exact⟨_,hm _ List.mem_cons_self,V1,A1,DS1,M1,O1,W1,L1,fun b cs k hb=>Arr.behind (k:=.inLoop c::k) (by simp) (fun _ _=>rfl) (g1 b cs (.inLoop c::k) hb)⟩
  · cases h
theorem CodeL.loop {f:St→Option Outs} {x:Code} (n:Nat) (hx:CodeL P E base hs f x):CodeL P E base hs (roundsL f n) (.loop x):=by
 intro inv hcx V st l A DS M O W fn rl hrl h hS hh
 obtain⟨r,m1,V1,A1,DS1,M1,O1,W1,L1,g1⟩:=roundsL_spec hx n inv hcx V st l A DS M O W fn rl hrl h hS hh
 exact⟨r,m1,V1,A1,DS1,M1,O1,W1,L1,fun b cs k hb=>.of_steps (.one st_loop) (g1 b cs k hb)⟩
theorem CodeL.region (hE:EnvOK P E) (hcall:CallOK P E call) {i:Nat} {ops:Array Oper}:CodeL P E base hs (fun st=>match runOpsL E call hs ops ops.toList st with|some l=>some (l.map fun s=>(.normal,s))|none=>none) (.region i ops false):=by
 intro inv hcx V st l A DS M O W fn rl hrl h hS hh
 simp only at h
 split at h
 · rename_i l1 h1
   simp only[Option.some.injEq] at h;subst h
   obtain⟨st1,m1,V1,A1,DS1,O1,W1,s1,p1,r1,g1⟩:=runOpsL_spec hE hcx hcall ops.toList 0 (by simp) hS hh h1
   refine⟨_,List.mem_map.2 ⟨st1,m1,rfl⟩,V1,A1,DS1,M,O1,W1,⟨s1,p1,r1,fun _ h=>.inl h⟩,fun b cs k hb=>?_⟩
   have:=g1 fn b cs k hb.1
   rw[Array.length_toList,← List.range_eq_range'] at this
   exact .head st_region this
 · cases h
end
end Go.Eng


namespace Go.Eng
open Go
attribute [local irreducible] upTo
noncomputable def endL (E:Env) (call:CallF) (hs:Hnds) (fn:Func) (r:Ex×St):Option (AV×Hp×List LF):=
 match r.1 with
 |.exit _=>none
 | _ => match runDefers E call hs r.2.ds r.2.σ r.2.Λ with
  |none=>none
  |some (σ,Λ)=>match resultsA E r.2.τ σ fn.results.toList with
   |some [v]=>some (v,σ,Λ)
   |some vs=>some (.tup vs,σ,Λ)
   |none=>none
noncomputable def bodyL (E:Env) (call:CallF) (f:Nat) (args:List AV) (σ:Hp) (hs:Hnds) (Λ:List LF):Option (List (AV×Hp×List LF)):=
 match E.fn f with
 |none=>none
 | some fn => match fn.body with
  |none=>none
  |some body=>match execL E call hs body ⟨tmps0 fn.ntmps (.full (dep fn.ntmps)) 0 args,σ,[],Λ,args.length+(fn.ntmps-args.length),false⟩ with
   |none=>none
   |some l=>bindL (fun r=>optL (endL E call hs fn r)) l
section
variable {P:Program} {E:Env}
noncomputable def ansL (e:Ent) (r:AV×Hp×List LF):Bool:=
 match r.2.2,frzArg r.1 r.2.1 with
 |[],(w,σ)=>match avbeq w e.v,hasAll σ e.put,keepAll σ e.put e.need with
  |true,true,true=>Nat.ble σ.n e.n1
  |_,_,_=>false
 |_,_=>false
noncomputable def allL {α:Type} (g:α→Bool):List α→Bool
 |[]=>true
 |a::l=>match g a with
  |true=>allL g l
  |false=>false
noncomputable def entL (E:Env) (L:List Ent) (n:Nat) (e:Ent):Bool:=
 match bodyL E (callTF E L n) e.f e.args e.pre [] [] with
 |some l=>allL (ansL e) l
 |none=>false
end
end Go.Eng


set_option maxRecDepth 100000
namespace Go.Proofs.Ytolgkckmppongaa
open Go Go.Eng
noncomputable def E1:Env:={ F3 with sy:=false,cm:=true }
theorem e1:EnvOK Try.prog E1:=⟨f3.ty,f3.zero,f3.fn,f3.eqok,f3.meth⟩
theorem n1:NameOK E1:=nf3
theorem x1:ExtOK Try.prog E1:=xf3
noncomputable def c0:Ent:=⟨50,[(.ptr 480 0)],481,[(480,(.cells false [(.int .i64 (20)),(.csl [(.str [111,105,108]),(.int .i64 (10)),(.int .i64 (6)),(.int .i64 (3)),(.str [109,101,110]),(.int .i64 (8)),(.int .i64 (8)),(.int .i64 (2))] 2),(.int .i64 (5)),(.int .i64 (1)),(.int .i64 (2)),(.csl [(.int .i64 (3)),(.int .i64 (5)),(.int .i64 (8)),(.int .i64 (12)),(.int .i64 (15))] 5),(.csl [(.int .i64 (3)),(.csl [(.int .i64 (0)),(.int .i64 (1))] 2),(.int .i64 (5)),(.csl [(.int .i64 (0)),(.int .i64 (1))] 2),(.int .i64 (12)),(.csl [(.int .i64 (0)),(.int .i64 (1))] 2),(.int .i64 (15)),(.csl [(.int .i64 (0)),(.int .i64 (1))] 2)] 4)]))],(.agg [(.int .i64 (1)),(.int .i64 (0)),(.int .i64 (0))]),[],982⟩
noncomputable def c1:Ent:=⟨52,[(.ptr 1505 0),(.sl 1475 0 5 5 1)],1506,[(1505,(.cells false [(.int .i64 (20)),(.csl [(.str [111,105,108]),(.int .i64 (10)),(.int .i64 (6)),(.int .i64 (3)),(.str [109,101,110]),(.int .i64 (8)),(.int .i64 (8)),(.int .i64 (2))] 2),(.int .i64 (4)),(.int .i64 (0)),(.int .i64 (2)),(.csl [(.int .i64 (3)),(.int .i64 (5)),(.int .i64 (8)),(.int .i64 (12)),(.int .i64 (15))] 5),.nils])),(1475,(.cells true [(.int .i64 (3)),(.int .i64 (5)),(.int .i64 (8)),(.int .i64 (12)),(.int .i64 (15))]))],(.tup [(.sl 5602 0 4 4 2),(.bool true)]),[(5604,(.cells false [(.int .i64 (0))])),(5606,(.cells false [(.int .i64 (1))])),(5608,(.cells false [(.int .i64 (0))])),(5610,(.cells false [(.int .i64 (1))])),(5602,(.cells false [(.int .i64 (3)),(.sl 5604 0 1 1 1),(.int .i64 (8)),(.sl 5606 0 1 1 1),(.int .i64 (12)),(.sl 5608 0 1 1 1),(.int .i64 (15)),(.sl 5610 0 1 1 1)]))],5611⟩
noncomputable def c2:Ent:=⟨52,[(.ptr 5641 0),(.sl 2 0 5 5 1)],5642,[(5641,(.cells false [(.int .i64 (20)),(.csl [(.str [111,105,108]),(.int .i64 (10)),(.int .i64 (6)),(.int .i64 (3)),(.str [109,101,110]),(.int .i64 (8)),(.int .i64 (8)),(.int .i64 (2))] 2),(.int .i64 (5)),(.int .i64 (1)),(.int .i64 (2)),(.csl [(.int .i64 (3)),(.int .i64 (5)),(.int .i64 (8)),(.int .i64 (12)),(.int .i64 (15))] 5),.nils])),(2,(.cells true [(.int .i64 (3)),(.int .i64 (5)),(.int .i64 (8)),(.int .i64 (12)),(.int .i64 (15))]))],(.tup [(.sl 7871 0 5 5 2),(.bool true)]),[(7873,(.cells false [(.int .i64 (0)),(.int .i64 (1))])),(7875,(.cells false [(.int .i64 (0)),(.int .i64 (1))])),(7877,(.cells false [(.int .i64 (0)),(.int .i64 (1))])),(7879,(.cells false [(.int .i64 (0)),(.int .i64 (1))])),(7881,(.cells false [(.int .i64 (0)),(.int .i64 (1))])),(7871,(.cells false [(.int .i64 (3)),(.sl 7873 0 2 2 1),(.int .i64 (5)),(.sl 7875 0 2 2 1),(.int .i64 (8)),(.sl 7877 0 2 2 1),(.int .i64 (12)),(.sl 7879 0 2 2 1),(.int .i64 (15)),(.sl 7881 0 2 2 1)]))],7882⟩
noncomputable def c3:Ent:=⟨52,[(.ptr 7910 0),(.sl 7912 0 4 4 1)],7913,[(7910,(.cells false [(.int .i64 (20)),(.csl [(.str [111,105,108]),(.int .i64 (10)),(.int .i64 (6)),(.int .i64 (3)),(.str [109,101,110]),(.int .i64 (8)),(.int .i64 (8)),(.int .i64 (2))] 2),(.int .i64 (5)),(.int .i64 (1)),(.int .i64 (2)),(.csl [(.int .i64 (3)),(.int .i64 (5)),(.int .i64 (8)),(.int .i64 (12)),(.int .i64 (15))] 5),.nils])),(7912,(.cells false [(.int .i64 (5)),(.int .i64 (8)),(.int .i64 (12)),(.int .i64 (15))]))],(.tup [.nils,(.bool false)]),[],8879⟩
noncomputable def c4:Ent:=⟨52,[(.ptr 7910 0),(.sl 8882 0 4 4 1)],8883,[(7910,(.cells false [(.int .i64 (20)),(.csl [(.str [111,105,108]),(.int .i64 (10)),(.int .i64 (6)),(.int .i64 (3)),(.str [109,101,110]),(.int .i64 (8)),(.int .i64 (8)),(.int .i64 (2))] 2),(.int .i64 (5)),(.int .i64 (1)),(.int .i64 (2)),(.csl [(.int .i64 (3)),(.int .i64 (5)),(.int .i64 (8)),(.int .i64 (12)),(.int .i64 (15))] 5),.nils])),(8882,(.cells false [(.int .i64 (3)),(.int .i64 (8)),(.int .i64 (12)),(.int .i64 (15))]))],(.tup [.nils,(.bool false)]),[],9854⟩
noncomputable def c5:Ent:=⟨52,[(.ptr 7910 0),(.sl 9857 0 4 4 1)],9858,[(7910,(.cells false [(.int .i64 (20)),(.csl [(.str [111,105,108]),(.int .i64 (10)),(.int .i64 (6)),(.int .i64 (3)),(.str [109,101,110]),(.int .i64 (8)),(.int .i64 (8)),(.int .i64 (2))] 2),(.int .i64 (5)),(.int .i64 (1)),(.int .i64 (2)),(.csl [(.int .i64 (3)),(.int .i64 (5)),(.int .i64 (8)),(.int .i64 (12)),(.int .i64 (15))] 5),.nils])),(9857,(.cells false [(.int .i64 (3)),(.int .i64 (5)),(.int .i64 (12)),(.int .i64 (15))]))],(.tup [.nils,(.bool false)]),[],10826⟩
noncomputable def c6:Ent:=⟨52,[(.ptr 7910 0),(.sl 10829 0 4 4 1)],10830,[(7910,(.cells false [(.int .i64 (20)),(.csl [(.str [111,105,108]),(.int .i64 (10)),(.int .i64 (6)),(.int .i64 (3)),(.str [109,101,110]),(.int .i64 (8)),(.int .i64 (8)),(.int .i64 (2))] 2),(.int .i64 (5)),(.int .i64 (1)),(.int .i64 (2)),(.csl [(.int .i64 (3)),(.int .i64 (5)),(.int .i64 (8)),(.int .i64 (12)),(.int .i64 (15))] 5),.nils])),(10829,(.cells false [(.int .i64 (3)),(.int .i64 (5)),(.int .i64 (8)),(.int .i64 (15))]))],(.tup [.nils,(.bool false)]),[],11801⟩
noncomputable def c7:Ent:=⟨52,[(.ptr 7910 0),(.sl 11804 0 4 4 1)],11805,[(7910,(.cells false [(.int .i64 (20)),(.csl [(.str [111,105,108]),(.int .i64 (10)),(.int .i64 (6)),(.int .i64 (3)),(.str [109,101,110]),(.int .i64 (8)),(.int .i64 (8)),(.int .i64 (2))] 2),(.int .i64 (5)),(.int .i64 (1)),(.int .i64 (2)),(.csl [(.int .i64 (3)),(.int .i64 (5)),(.int .i64 (8)),(.int .i64 (12)),(.int .i64 (15))] 5),.nils])),(11804,(.cells false [(.int .i64 (3)),(.int .i64 (5)),(.int .i64 (8)),(.int .i64 (12))]))],(.tup [.nils,(.bool false)]),[],12771⟩
end Go.Proofs.Ytolgkckmppongaa

