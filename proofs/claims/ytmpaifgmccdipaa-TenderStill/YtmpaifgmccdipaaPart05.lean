/-
  THE ENGINE: one more part of it.
-/
import Derived.Test.YtmpaifgmccdipaaPart04
import Derived.Test.YtmpaifgmccdipaaPart03
import Derived.ProofKit
set_option linter.unusedSectionVars false
set_option linter.unusedSimpArgs false
set_option linter.unusedVariables false
set_option maxRecDepth 100000
namespace Go.Proofs.Ytmpaifgmccdipaa
open Go Go.Eng
noncomputable def rt0 (x:tX.den) (l:(Ty.sl .bool).den) (n:Int):Rt:=.op (pcOf G0 59 [1,1,1,1]) 7 (some 20) ((opsOf (pcOf G0 59 [1,1,1,1]).c).toList.drop 7) (tmOf 21 [(0,(.yld 9)),(1,(.ptr 6 0)),(2,(.ptr 7 0)),(3,(.ptr 8 0)),(4,(.ptr 10 0)),(5,(.ptr 11 0)),(6,(.ptr 12 0)),(7,iI (fofR l)),(8,fnH),(9,(.tup [(tB.av (fofF l)),iI (fofR l)])),(10,(.vs .bool l.1 l.2)),(11,(.tup [(tB.av (fofF l)),iI (fofR l)])),(12,(tB.av (fofF l))),(13,iI (fofR l)),(14,fnH),(15,(tB.av (fofF l))),(16,(.vs .bool l.1 l.2)),(17,iI (Int.ofNat l.2.length)),(18,iI (fofR l)),(19,iI n)]) [] 21 false ⟨38,evH x l n⟩
noncomputable def fr0 (x:tX.den) (l:(Ty.sl .bool).den) (n:Int):List Fm:=[(.cal [] (.rng (t26 x l n) [] 26 false ⟨39,ev1 x l n⟩)),(.blk 0),(.cal [] (.rng (t12 x l n) [] 12 false ⟨40,[]⟩)),(.blk 0),(.seq (pcOf G0 58 [1,1])),(.cal [(.cell 6 4)] .top)]
noncomputable def SZ:Sy:={ (Y0 []) with np:=[[999,60]] }
theorem hol_start (x:tX.den) (l:(Ty.sl .bool).den) (n:Int):adv G0 SZ 3000 (startC G0 58 [tX.pv x,.vs .bool l.1 l.2,.int .i64 n] 40)=(bif Nat.ble l.2.length 8 then some (.stop (ent x l n [] (fofF l) (Int.ofNat l.2.length) (fofR l) n 37 (rt0 x l n) (fr0 x l n))) else none):=by kernel_rfl
theorem hol_end (x:tX.den) (l:(Ty.sl .bool).den) (n:Int) (d:Nat):adv G0 SZ 3000 (vlH x l n [] true d (rt0 x l n) (fr0 x l n))=some (.done (.bool true)):=by kernel_rfl
theorem hol_endF (x:tX.den) (l:(Ty.sl .bool).den) (n:Int) (d:Nat):adv G0 SZ 3000 (vlH x l n [] false d (rt0 x l n) (fr0 x l n))=some (.done (.bool false)):=by kernel_rfl
noncomputable def rowX (x:tX.den):Int:=x.1.2.2.2.2.1
noncomputable def holV (x:tX.den):Nat→tB.den→Int→Int→Bool
 |0,b,_,_=>!(breT x b).2.2
 |k+1,b,r,m=>bif holV x k b 0 m then (bif ieq m 0 then true else bif ile (rowX x) r then true else holV x k (setF b ((olX x:Int)-((k+1:Nat):Int))) (r+1) (m-1)) else false
theorem goS {S:Sy} (hS:S.ok G0) {n:Nat} {c c':Cfg} (h:adv G0 S n c=some (.stop c')):Goto G0 c c':=adv_spec hS G0sy h
theorem vl_any (x:tX.den) (l:(Ty.sl .bool).den) (n:Int) (os:List AO) (v:Bool) (d d':Nat) (r0:Rt) (K:List Fm):Goto G0 (vlH x l n os v d r0 K) (vlH x l n os v d' r0 K):=fun _ h=>h
theorem vlA {x:tX.den} {l:(Ty.sl .bool).den} {n:Int} {os:List AO} {v:Bool} {d d':Nat} {r0:Rt} {K:List Fm}:Goto G0 (vlH x l n os v d r0 K) (vlH x l n os v d' r0 K):=fun _ h=>h
theorem pl_one {os:List AO} {a:AO} (h:∀ o∈os,plO o=true) (ha:plO a=true):∀ o∈os++[a],plO o=true:=fun o ho=>by
 rcases List.mem_append.1 ho with ho|ho
 · exact h o ho
 · rw[List.mem_singleton] at ho;subst ho;exact ha
theorem pl_two {os:List AO} {a c:AO} (h:∀ o∈os,plO o=true) (ha:plO a=true) (hc:plO c=true):∀ o∈os++[a,c],plO o=true:=fun o ho=>by
 rcases List.mem_append.1 ho with ho|ho
 · exact h o ho
 · rcases List.mem_cons.1 ho with rfl | ho
   · exact ha
   · rw[List.mem_singleton] at ho;subst ho;exact hc
theorem arO_pl (o:Int):plO (arO o)=true:=rfl
theorem hol_go {x:tX.den} {l:(Ty.sl .bool).den} {n:Int} (X:xokB x=true):∀ (k:Nat) (os:List AO) (b:tB.den) (r m:Int) (d:Nat) (r0:Rt) (K:List Fm),os.length+2 * k≤16→k≤olX x→(∀ o∈os,plO o=true)→0≤r→r+k≤1000000→-1000000≤m-k→m≤1000000→k+3≤d →
  Goto G0 (ent x l n os b ((olX x:Int)-(k:Int)) r m d r0 K) (vlH x l n os (holV x k b r m) 0 r0 K)
 | 0, os, b, r, m, d, r0, K, h1, h2, h3, h4, h5, h6, h7, h8 => by
  obtain⟨d,rfl⟩:∃ d',d=Nat.succ (Nat.succ (Nat.succ d')):=⟨d-3,by omega⟩
  have h:=ent_step x l n b ((olX x:Int)-((0:Nat):Int)) r m d r0 K os (Nat.ble_eq_true_of_le (by omega))
  rw[show ieq ((olX x:Int)-((0:Nat):Int)) (Int.ofNat x.2.1.2.length)=true by rw[ieq_iff];exact decide_eq_true (by show (olX x:Int)-0=(olX x:Int);omega),cond_true,X,cond_true] at h
  cases c:(breT x b).2.2 with
  |true=>
   rw[show (breT x b).2.2=true from c,cond_true,allO_of h3] at h
   rw[show holV x 0 b r m=false from by show (!(breT x b).2.2)=false;rw[c];rfl]
   exact (goS (SH_ok _) h).trans (vl_any x l n os false _ 0 r0 K)
  |false=>
   rw[show (breT x b).2.2=false from c,cond_false,allO_of h3] at h
   rw[show holV x 0 b r m=true from by show (!(breT x b).2.2)=true;rw[c];rfl]
   exact (goS (SH_ok _) h).trans (vl_any x l n os true _ 0 r0 K)
 | k + 1, os, b, r, m, d, r0, K, h1, h2, h3, h4, h5, h6, h7, h8 => by
  obtain⟨d,rfl⟩:∃ d',d=Nat.succ (Nat.succ (Nat.succ d')):=⟨d-3,by omega⟩
  have hO:=(xok X).o
  generalize ho:(olX x:Int)-((k+1:Nat):Int)=o
  have ho0:0≤o:=by omega
  have ho8:o<8:=by omega
  have h:=ent_step x l n b o r m d r0 K os (Nat.ble_eq_true_of_le (by omega))
  rw[show ieq o (Int.ofNat x.2.1.2.length)=false by rw[ieq_iff];exact decide_eq_false (by show ¬ o=(olX x:Int);omega),cond_false,wr_in (by omega) (by omega),show o+1=(olX x:Int)-(k:Int) by omega] at h
  have g1:=(goS (SH_ok _) h).trans (hol_go X k (os++[celB b]) b 0 m _ _ _ (by rw[List.length_append];simp only[List.length_cons,List.length_nil];omega) (by omega) (pl_one h3 (celB_pl b)) (by omega) (by omega) (by omega) h7 (by omega))
  have e:holV x (k+1) b r m=bif holV x k b 0 m then (bif ieq m 0 then true else bif ile (rowX x) r then true else holV x k (setF b o) (r+1) (m-1)) else false:=by rw[← ho];rfl
  rw[e]
  cases c:holV x k b 0 m with
  |false=>
   rw[c] at g1
   have h:=rt1_stepF x l n b o r m d r0 K os (Nat.ble_eq_true_of_le (by omega))
   rw[allO_of h3] at h
   rw[cond_false]
   exact (g1.trans vlA).trans ((goS (SH_ok _) h).trans vlA)
  | true =>
   rw[c] at g1
   have h:=rt1_step x l n b o r m d r0 K os (Nat.ble_eq_true_of_le (by omega))
   rw[allO_of h3] at h
   rw[cond_true]
   have g2:=g1.trans (vl_any x l n (os++[celB b]) true 0 (Nat.succ (Nat.succ d)) _ _)
   cases c1:ieq m 0 with
   |true=>
    rw[c1,cond_true] at h
    rw[cond_true]
    exact g2.trans ((goS (SH_ok _) h).trans vlA)
   |false=>
   rw[c1,cond_false] at h
   rw[cond_false]
   cases c2:ile (rowX x) r with
   |true=>
    rw[show ile x.1.2.2.2.2.1 r=true from c2,cond_true] at h
    rw[cond_true]
    exact g2.trans ((goS (SH_ok _) h).trans vlA)
   |false=>
   have h8':inAll 8 [o]=true:=by
    have:inB o 8=true:=by rw[inB_iff];exact decide_eq_true ⟨by omega,by omega⟩
    simp only[inAll,List.all_cons,List.all_nil,this,Bool.and_true]
   rw[show ile x.1.2.2.2.2.1 r=false from c2,cond_false,h8',cond_true,wr_in (show -9223372036854775808≤o+1 by omega) (by omega),show o+1=(olX x:Int)-(k:Int) by omega,wr_in (show -9223372036854775808≤r+1 by omega) (by omega),wr_in (show -9223372036854775808≤m-1 by omega) (by omega)] at h
   rw[cond_false]
   have g3:=(g2.trans (goS (SH_ok _) h)).trans (hol_go X k (os++[celB b,arO o]) (setF b o) (r+1) (m-1) _ _ _ (by rw[List.length_append];simp only[List.length_cons,List.length_nil];omega) (by omega) (pl_two h3 (celB_pl b) (arO_pl o)) (by omega) (by omega) (by omega) (by omega) (by omega))
   cases c3:holV x k (setF b o) (r+1) (m-1) with
   |true=>
    rw[c3] at g3
    have h:=rt2_stept x l n b o r m d r0 K os (Nat.ble_eq_true_of_le (by omega))
    rw[eqB_of,allO_of h3] at h
    exact (g3.trans vlA).trans ((goS (SH_ok _) h).trans vlA)
   |false=>
    rw[c3] at g3
    have h:=rt2_stepf x l n b o r m d r0 K os (Nat.ble_eq_true_of_le (by omega))
    rw[eqB_of,allO_of h3] at h
    exact (g3.trans vlA).trans ((goS (SH_ok _) h).trans vlA)
end Go.Proofs.Ytmpaifgmccdipaa


set_option maxRecDepth 100000
namespace Go.Proofs.Ytmpaifgmccdipaa
open Go Go.Eng
theorem Ans.goto {E:Env} {c c':Cfg} {v:AV} (h:Goto E c c') (k:Ans E c' v):Ans E c v:=by
 obtain⟨v0,σ,v1,h1,h2⟩:=k
 exact⟨v0,σ,v1,h _ h1,h2⟩
theorem fofV_r:∀ (l:List Bool) (k:Int) (f:tB.den) (r:Int),0≤r→0≤(fofV l k f r).2∧(fofV l k f r).2≤r+l.length
 |[],k,f,r,h=>⟨h,by show r≤r+0;omega⟩
 |b::l,k,f,r,h=>by
  have e:fofV (b::l) k f r=bif b then fofV l (k+1) f 0 else fofV l (k+1) (setF f k) (r+1):=rfl
  rw[e]
  have hl:((b::l).length:Int)=l.length+1:=by simp
  cases b with
  |true=>have:=fofV_r l (k+1) f 0 (Int.le_refl 0);rw[cond_true];omega
  |false=>have:=fofV_r l (k+1) (setF f k) (r+1) (by omega);rw[cond_false];omega
noncomputable def hldV (x:tX.den) (l:List Bool) (n:Int):Bool:=holV x (olX x-l.length) (fofV l 0 fno 0).1 (fofV l 0 fno 0).2 n
theorem hld_call {x:tX.den} {l:(Ty.sl .bool).den} {n:Int} (X:xokB x=true) (h:l.2.length≤olX x) (h0:0≤n) (h8:n≤8):AnsF G0 58 [tX.pv x,.vs .bool l.1 l.2,.int .i64 n] (.bool (hldV x l.2 n)):=by
 refine Ans.call (n:=40) (ext_none (by kernel_rfl)) (hasB_spec (by kernel_rfl)) ?_
 have hs:=hol_start x l n
 have hO:=(xok X).o
 rw[Nat.ble_eq_true_of_le (show l.2.length≤8 by omega),cond_true] at hs
 have hr:=fofV_r l.2 0 fno 0 (Int.le_refl 0)
 have g:=hol_go (x:=x) (l:=l) (n:=n) X (olX x-l.2.length) [] (fofF l) (fofR l) n 37 (rt0 x l n) (fr0 x l n) (by simp only[List.length_nil];omega) (by omega) (fun _ h=>by cases h) hr.1 (by have:=hr.2;show (fofV l.2 0 fno 0).2+_≤_;omega) (by omega) (by omega) (by omega)
 rw[show (olX x:Int)-((olX x-l.2.length:Nat):Int)=Int.ofNat l.2.length by show _=((l.2.length:Nat):Int);omega] at g
 refine Ans.goto ((goS (S:=SZ) (Y0_ok []) hs).trans g) ?_
 show Ans G0 (vlH x l n [] (hldV x l.2 n) 0 (rt0 x l n) (fr0 x l n)) _
 cases hldV x l.2 n with
 |true=>exact Ans.done (S:=SZ) (Y0_ok []) G0sy (hol_end x l n 0) rfl
 |false=>exact Ans.done (S:=SZ) (Y0_ok []) G0sy (hol_endF x l n 0) rfl
noncomputable def LG1:List Said:=[(58,conP3 tX (.sl .bool) tI (fun x l n=>xokB x&&(Nat.ble l.2.length (olX x)&&(ile 0 n&&ile n 8))) (fun x l n=>.bool (hldV x l.2 n)))]
theorem LG1_ok:∀ e∈LG1,SaidG Try.prog G0.glob e:=
 saids_cons (SaidOK.g g0 xg0 ng0 tabs_ok.mix (fun _ _ h=>conP3_spec (t:=tX) (u:=.sl .bool) (w:=tI) (fun x l n c=>by
  simp only[Bool.and_eq_true] at c
  exact hld_call c.1 (Nat.le_of_ble_eq_true c.2.1) (ile_le c.2.2.1) (ile_le c.2.2.2)) h) rfl) saids_nil
noncomputable def G1:Env:=G0.say (under (xOf LG1))
theorem g1:EnvOK Try.prog G1:=g0.say _
theorem ng1:NameOK G1:=ng0.say _
theorem xg1:ExtOK Try.prog G1:=xg0.sayL LG1_ok
theorem G1sy:G1.sy=true:=rfl
noncomputable def Y1 (l:List Nat):Sy:=(Y0 []).on LG1 l
theorem Y1_ok (l:List Nat):(Y1 l).ok G1:=Sy.on_ok (Y0_ok _)
end Go.Proofs.Ytmpaifgmccdipaa


set_option maxRecDepth 100000
namespace Go.Proofs.Ytmpaifgmccdipaa
open Go Go.Eng
noncomputable def stiI0 (s:tS.den) (p:(Ty.sl tO).den) (c:(Ty.sl .bool).den) (x2:Int) (x46:Nat):Cfg:=⟨.ex (pcOf G1 56 [0,0,0,1,1]) ⟨(tmOf 19 [(0,(.int .i64 (wr .i64 (↑p.2.length - ↑c.2.length)))),(1,(.fn 57 [] [(.ptr 3 0),(.ptr 4 0)])),(4,(.int .i64 (0))),(5,(.int .i64 x2)),(6,(.int .i64 (0)))]),(hpOf 5 [(0,(.cells false [(.int .i64 (s.1)),(.vs tN (s.2.1.1) (s.2.1.2)),(.int .i64 (s.2.2.1)),(.int .i64 (s.2.2.2.1)),(.int .i64 (s.2.2.2.2.1)),(.vs tI (s.2.2.2.2.2.1.1) (s.2.2.2.2.2.1.2))])),(1,(.cells false [(.int .i64 (s.1)),(.vs tN (s.2.1.1) (s.2.1.2)),(.int .i64 (s.2.2.1)),(.int .i64 (s.2.2.2.1)),(.int .i64 (s.2.2.2.2.1)),(.vs tI (s.2.2.2.2.2.1.1) (s.2.2.2.2.2.1.2))])),(2,(.cells true [(.int .i64 (s.1)),(.vs tN (s.2.1.1) (s.2.1.2)),(.int .i64 (s.2.2.1)),(.int .i64 (s.2.2.2.1)),(.int .i64 (s.2.2.2.2.1)),(.vs tI (s.2.2.2.2.2.1.1) (s.2.2.2.2.2.1.2)),(.vs tO (p.1) (p.2))])),(3,(.cells false [(.cp [(.int .i64 (s.1)),(.vs tN (s.2.1.1) (s.2.1.2)),(.int .i64 (s.2.2.1)),(.int .i64 (s.2.2.2.1)),(.int .i64 (s.2.2.2.2.1)),(.vs tI (s.2.2.2.2.2.1.1) (s.2.2.2.2.2.1.2)),(.vs tO (p.1) (p.2))] 0)])),(4,(.cells false [(.vs .bool (c.1) (c.2))]))]),[],[],19,false⟩,⟨38,[]⟩,[(.lop (pcOf G1 56 [0,0,0,1,1]) 5 (tmOf 19 [(0,(.int .i64 (wr .i64 (↑p.2.length - ↑c.2.length)))),(1,(.fn 57 [] [(.ptr 3 0),(.ptr 4 0)])),(4,(.int .i64 (0))),(5,(.int .i64 (0))),(6,(.int .i64 (0)))]) x46),(.blk 0),(.seq (pcOf G1 56 [1,1,1])),(.cal [(.tmp 4)] (.dr ⟨(pcOf G1 32 [0,1]),opsD (pcOf G1 32 [0,1]).c,5,(opsD (pcOf G1 32 [0,1]).c).toList.drop 10,(fsD (pcOf G1 32 [0,1]).c).drop 10,9,[((hpOf 5 [(0,(.cells false [(.int .i64 (s.1)),(.vs tN (s.2.1.1) (s.2.1.2)),(.int .i64 (s.2.2.1)),(.int .i64 (s.2.2.2.1)),(.int .i64 (s.2.2.2.2.1)),(.vs tI (s.2.2.2.2.2.1.1) (s.2.2.2.2.2.1.2))])),(1,(.cells false [(.int .i64 (s.1)),(.vs tN (s.2.1.1) (s.2.1.2)),(.int .i64 (s.2.2.1)),(.int .i64 (s.2.2.2.1)),(.int .i64 (s.2.2.2.2.1)),(.vs tI (s.2.2.2.2.2.1.1) (s.2.2.2.2.2.1.2))])),(2,(.cells true [(.int .i64 (s.1)),(.vs tN (s.2.1.1) (s.2.1.2)),(.int .i64 (s.2.2.1)),(.int .i64 (s.2.2.2.1)),(.int .i64 (s.2.2.2.2.1)),(.vs tI (s.2.2.2.2.2.1.1) (s.2.2.2.2.2.1.2)),(.vs tO (p.1) (p.2))])),(3,(.cells false [(.cp [(.int .i64 (s.1)),(.vs tN (s.2.1.1) (s.2.1.2)),(.int .i64 (s.2.2.1)),(.int .i64 (s.2.2.2.1)),(.int .i64 (s.2.2.2.2.1)),(.vs tI (s.2.2.2.2.2.1.1) (s.2.2.2.2.2.1.2)),(.vs tO (p.1) (p.2))] 0)])),(4,(.cells false [(.vs .bool (c.1) (c.2))]))]),0,none)],[((opsD (pcOf G1 32 [0,1]).c).getD 6 default,6,32,(tmOf 15 [(0,(.cp [(.int .i64 (s.1)),(.vs tN (s.2.1.1) (s.2.1.2)),(.int .i64 (s.2.2.1)),(.int .i64 (s.2.2.2.1)),(.int .i64 (s.2.2.2.2.1)),(.vs tI (s.2.2.2.2.2.1.1) (s.2.2.2.2.2.1.2)),(.vs tO (p.1) (p.2))] 0)),(1,(.vs .bool (c.1) (c.2))),(2,(.ptr 3 0)),(3,(.ptr 4 0)),(4,(.int .i64 (0))),(5,(.cp [(.int .i64 (s.1)),(.vs tN (s.2.1.1) (s.2.1.2)),(.int .i64 (s.2.2.1)),(.int .i64 (s.2.2.2.1)),(.int .i64 (s.2.2.2.2.1)),(.vs tI (s.2.2.2.2.2.1.1) (s.2.2.2.2.2.1.2)),(.vs tO (p.1) (p.2))] 0)),(6,(.cp [(.int .i64 (s.1)),(.vs tN (s.2.1.1) (s.2.1.2)),(.int .i64 (s.2.2.1)),(.int .i64 (s.2.2.2.1)),(.int .i64 (s.2.2.2.2.1)),(.vs tI (s.2.2.2.2.2.1.1) (s.2.2.2.2.2.1.2)),(.vs tO (p.1) (p.2))] 0)),(7,(.cp [(.int .i64 (s.1)),(.vs tN (s.2.1.1) (s.2.1.2)),(.int .i64 (s.2.2.1)),(.int .i64 (s.2.2.2.1)),(.int .i64 (s.2.2.2.2.1)),(.vs tI (s.2.2.2.2.2.1.1) (s.2.2.2.2.2.1.2)),(.vs tO (p.1) (p.2))] 6)),(8,(.vs tO (p.1) (p.2))),(9,(.int .i64 (Int.ofNat p.2.length))),(10,(.vs .bool (c.1) (c.2)))]),(tmOf 15 [(0,(.cp [(.int .i64 (s.1)),(.vs tN (s.2.1.1) (s.2.1.2)),(.int .i64 (s.2.2.1)),(.int .i64 (s.2.2.2.1)),(.int .i64 (s.2.2.2.2.1)),(.vs tI (s.2.2.2.2.2.1.1) (s.2.2.2.2.2.1.2)),(.vs tO (p.1) (p.2))] 0)),(1,(.vs .bool (c.1) (c.2))),(2,(.ptr 3 0)),(3,(.ptr 4 0)),(4,(.int .i64 (0))),(5,(.cp [(.int .i64 (s.1)),(.vs tN (s.2.1.1) (s.2.1.2)),(.int .i64 (s.2.2.1)),(.int .i64 (s.2.2.2.1)),(.int .i64 (s.2.2.2.2.1)),(.vs tI (s.2.2.2.2.2.1.1) (s.2.2.2.2.2.1.2)),(.vs tO (p.1) (p.2))] 0)),(6,(.cp [(.int .i64 (s.1)),(.vs tN (s.2.1.1) (s.2.1.2)),(.int .i64 (s.2.2.1)),(.int .i64 (s.2.2.2.1)),(.int .i64 (s.2.2.2.2.1)),(.vs tI (s.2.2.2.2.2.1.1) (s.2.2.2.2.2.1.2)),(.vs tO (p.1) (p.2))] 0)),(7,(.cp [(.int .i64 (s.1)),(.vs tN (s.2.1.1) (s.2.1.2)),(.int .i64 (s.2.2.1)),(.int .i64 (s.2.2.2.1)),(.int .i64 (s.2.2.2.2.1)),(.vs tI (s.2.2.2.2.2.1.1) (s.2.2.2.2.2.1.2)),(.vs tO (p.1) (p.2))] 6)),(8,(.vs tO (p.1) (p.2))),(9,(.int .i64 (Int.ofNat p.2.length))),(10,(.vs .bool (c.1) (c.2))),(11,(.int .i64 (Int.ofNat c.2.length)))])),((opsD (pcOf G1 32 [0,1]).c).getD 5 default,5,0,(tmOf 15 [(0,(.cp [(.int .i64 (s.1)),(.vs tN (s.2.1.1) (s.2.1.2)),(.int .i64 (s.2.2.1)),(.int .i64 (s.2.2.2.1)),(.int .i64 (s.2.2.2.2.1)),(.vs tI (s.2.2.2.2.2.1.1) (s.2.2.2.2.2.1.2)),(.vs tO (p.1) (p.2))] 0)),(1,(.vs .bool (c.1) (c.2))),(2,(.ptr 3 0)),(3,(.ptr 4 0)),(4,(.int .i64 (0))),(5,(.cp [(.int .i64 (s.1)),(.vs tN (s.2.1.1) (s.2.1.2)),(.int .i64 (s.2.2.1)),(.int .i64 (s.2.2.2.1)),(.int .i64 (s.2.2.2.2.1)),(.vs tI (s.2.2.2.2.2.1.1) (s.2.2.2.2.2.1.2)),(.vs tO (p.1) (p.2))] 0)),(6,(.cp [(.int .i64 (s.1)),(.vs tN (s.2.1.1) (s.2.1.2)),(.int .i64 (s.2.2.1)),(.int .i64 (s.2.2.2.1)),(.int .i64 (s.2.2.2.2.1)),(.vs tI (s.2.2.2.2.2.1.1) (s.2.2.2.2.2.1.2)),(.vs tO (p.1) (p.2))] 0)),(7,(.cp [(.int .i64 (s.1)),(.vs tN (s.2.1.1) (s.2.1.2)),(.int .i64 (s.2.2.1)),(.int .i64 (s.2.2.2.1)),(.int .i64 (s.2.2.2.2.1)),(.vs tI (s.2.2.2.2.2.1.1) (s.2.2.2.2.2.1.2)),(.vs tO (p.1) (p.2))] 6)),(8,(.vs tO (p.1) (p.2))),(9,(.int .i64 (Int.ofNat p.2.length)))]),(tmOf 15 [(0,(.cp [(.int .i64 (s.1)),(.vs tN (s.2.1.1) (s.2.1.2)),(.int .i64 (s.2.2.1)),(.int .i64 (s.2.2.2.1)),(.int .i64 (s.2.2.2.2.1)),(.vs tI (s.2.2.2.2.2.1.1) (s.2.2.2.2.2.1.2)),(.vs tO (p.1) (p.2))] 0)),(1,(.vs .bool (c.1) (c.2))),(2,(.ptr 3 0)),(3,(.ptr 4 0)),(4,(.int .i64 (0))),(5,(.cp [(.int .i64 (s.1)),(.vs tN (s.2.1.1) (s.2.1.2)),(.int .i64 (s.2.2.1)),(.int .i64 (s.2.2.2.1)),(.int .i64 (s.2.2.2.2.1)),(.vs tI (s.2.2.2.2.2.1.1) (s.2.2.2.2.2.1.2)),(.vs tO (p.1) (p.2))] 0)),(6,(.cp [(.int .i64 (s.1)),(.vs tN (s.2.1.1) (s.2.1.2)),(.int .i64 (s.2.2.1)),(.int .i64 (s.2.2.2.1)),(.int .i64 (s.2.2.2.2.1)),(.vs tI (s.2.2.2.2.2.1.1) (s.2.2.2.2.2.1.2)),(.vs tO (p.1) (p.2))] 0)),(7,(.cp [(.int .i64 (s.1)),(.vs tN (s.2.1.1) (s.2.1.2)),(.int .i64 (s.2.2.1)),(.int .i64 (s.2.2.2.1)),(.int .i64 (s.2.2.2.2.1)),(.vs tI (s.2.2.2.2.2.1.1) (s.2.2.2.2.2.1.2)),(.vs tO (p.1) (p.2))] 6)),(8,(.vs tO (p.1) (p.2))),(9,(.int .i64 (Int.ofNat p.2.length))),(10,(.vs .bool (c.1) (c.2)))])),((opsD (pcOf G1 32 [0,1]).c).getD 4 default,4,15,(tmOf 15 [(0,(.cp [(.int .i64 (s.1)),(.vs tN (s.2.1.1) (s.2.1.2)),(.int .i64 (s.2.2.1)),(.int .i64 (s.2.2.2.1)),(.int .i64 (s.2.2.2.2.1)),(.vs tI (s.2.2.2.2.2.1.1) (s.2.2.2.2.2.1.2)),(.vs tO (p.1) (p.2))] 0)),(1,(.vs .bool (c.1) (c.2))),(2,(.ptr 3 0)),(3,(.ptr 4 0)),(4,(.int .i64 (0))),(5,(.cp [(.int .i64 (s.1)),(.vs tN (s.2.1.1) (s.2.1.2)),(.int .i64 (s.2.2.1)),(.int .i64 (s.2.2.2.1)),(.int .i64 (s.2.2.2.2.1)),(.vs tI (s.2.2.2.2.2.1.1) (s.2.2.2.2.2.1.2)),(.vs tO (p.1) (p.2))] 0)),(6,(.cp [(.int .i64 (s.1)),(.vs tN (s.2.1.1) (s.2.1.2)),(.int .i64 (s.2.2.1)),(.int .i64 (s.2.2.2.1)),(.int .i64 (s.2.2.2.2.1)),(.vs tI (s.2.2.2.2.2.1.1) (s.2.2.2.2.2.1.2)),(.vs tO (p.1) (p.2))] 0)),(7,(.cp [(.int .i64 (s.1)),(.vs tN (s.2.1.1) (s.2.1.2)),(.int .i64 (s.2.2.1)),(.int .i64 (s.2.2.2.1)),(.int .i64 (s.2.2.2.2.1)),(.vs tI (s.2.2.2.2.2.1.1) (s.2.2.2.2.2.1.2)),(.vs tO (p.1) (p.2))] 6)),(8,(.vs tO (p.1) (p.2)))]),(tmOf 15 [(0,(.cp [(.int .i64 (s.1)),(.vs tN (s.2.1.1) (s.2.1.2)),(.int .i64 (s.2.2.1)),(.int .i64 (s.2.2.2.1)),(.int .i64 (s.2.2.2.2.1)),(.vs tI (s.2.2.2.2.2.1.1) (s.2.2.2.2.2.1.2)),(.vs tO (p.1) (p.2))] 0)),(1,(.vs .bool (c.1) (c.2))),(2,(.ptr 3 0)),(3,(.ptr 4 0)),(4,(.int .i64 (0))),(5,(.cp [(.int .i64 (s.1)),(.vs tN (s.2.1.1) (s.2.1.2)),(.int .i64 (s.2.2.1)),(.int .i64 (s.2.2.2.1)),(.int .i64 (s.2.2.2.2.1)),(.vs tI (s.2.2.2.2.2.1.1) (s.2.2.2.2.2.1.2)),(.vs tO (p.1) (p.2))] 0)),(6,(.cp [(.int .i64 (s.1)),(.vs tN (s.2.1.1) (s.2.1.2)),(.int .i64 (s.2.2.1)),(.int .i64 (s.2.2.2.1)),(.int .i64 (s.2.2.2.2.1)),(.vs tI (s.2.2.2.2.2.1.1) (s.2.2.2.2.2.1.2)),(.vs tO (p.1) (p.2))] 0)),(7,(.cp [(.int .i64 (s.1)),(.vs tN (s.2.1.1) (s.2.1.2)),(.int .i64 (s.2.2.1)),(.int .i64 (s.2.2.2.1)),(.int .i64 (s.2.2.2.2.1)),(.vs tI (s.2.2.2.2.2.1.1) (s.2.2.2.2.2.1.2)),(.vs tO (p.1) (p.2))] 6)),(8,(.vs tO (p.1) (p.2))),(9,(.int .i64 (Int.ofNat p.2.length)))])),((opsD (pcOf G1 32 [0,1]).c).getD 3 default,3,7,(tmOf 15 [(0,(.cp [(.int .i64 (s.1)),(.vs tN (s.2.1.1) (s.2.1.2)),(.int .i64 (s.2.2.1)),(.int .i64 (s.2.2.2.1)),(.int .i64 (s.2.2.2.2.1)),(.vs tI (s.2.2.2.2.2.1.1) (s.2.2.2.2.2.1.2)),(.vs tO (p.1) (p.2))] 0)),(1,(.vs .bool (c.1) (c.2))),(2,(.ptr 3 0)),(3,(.ptr 4 0)),(4,(.int .i64 (0))),(5,(.cp [(.int .i64 (s.1)),(.vs tN (s.2.1.1) (s.2.1.2)),(.int .i64 (s.2.2.1)),(.int .i64 (s.2.2.2.1)),(.int .i64 (s.2.2.2.2.1)),(.vs tI (s.2.2.2.2.2.1.1) (s.2.2.2.2.2.1.2)),(.vs tO (p.1) (p.2))] 0)),(6,(.cp [(.int .i64 (s.1)),(.vs tN (s.2.1.1) (s.2.1.2)),(.int .i64 (s.2.2.1)),(.int .i64 (s.2.2.2.1)),(.int .i64 (s.2.2.2.2.1)),(.vs tI (s.2.2.2.2.2.1.1) (s.2.2.2.2.2.1.2)),(.vs tO (p.1) (p.2))] 0)),(7,(.cp [(.int .i64 (s.1)),(.vs tN (s.2.1.1) (s.2.1.2)),(.int .i64 (s.2.2.1)),(.int .i64 (s.2.2.2.1)),(.int .i64 (s.2.2.2.2.1)),(.vs tI (s.2.2.2.2.2.1.1) (s.2.2.2.2.2.1.2)),(.vs tO (p.1) (p.2))] 6))]),(tmOf 15 [(0,(.cp [(.int .i64 (s.1)),(.vs tN (s.2.1.1) (s.2.1.2)),(.int .i64 (s.2.2.1)),(.int .i64 (s.2.2.2.1)),(.int .i64 (s.2.2.2.2.1)),(.vs tI (s.2.2.2.2.2.1.1) (s.2.2.2.2.2.1.2)),(.vs tO (p.1) (p.2))] 0)),(1,(.vs .bool (c.1) (c.2))),(2,(.ptr 3 0)),(3,(.ptr 4 0)),(4,(.int .i64 (0))),(5,(.cp [(.int .i64 (s.1)),(.vs tN (s.2.1.1) (s.2.1.2)),(.int .i64 (s.2.2.1)),(.int .i64 (s.2.2.2.1)),(.int .i64 (s.2.2.2.2.1)),(.vs tI (s.2.2.2.2.2.1.1) (s.2.2.2.2.2.1.2)),(.vs tO (p.1) (p.2))] 0)),(6,(.cp [(.int .i64 (s.1)),(.vs tN (s.2.1.1) (s.2.1.2)),(.int .i64 (s.2.2.1)),(.int .i64 (s.2.2.2.1)),(.int .i64 (s.2.2.2.2.1)),(.vs tI (s.2.2.2.2.2.1.1) (s.2.2.2.2.2.1.2)),(.vs tO (p.1) (p.2))] 0)),(7,(.cp [(.int .i64 (s.1)),(.vs tN (s.2.1.1) (s.2.1.2)),(.int .i64 (s.2.2.1)),(.int .i64 (s.2.2.2.1)),(.int .i64 (s.2.2.2.2.1)),(.vs tI (s.2.2.2.2.2.1.1) (s.2.2.2.2.2.1.2)),(.vs tO (p.1) (p.2))] 6)),(8,(.vs tO (p.1) (p.2)))])),((opsD (pcOf G1 32 [0,1]).c).getD 0 default,0,0,(tmOf 15 [(0,(.cp [(.int .i64 (s.1)),(.vs tN (s.2.1.1) (s.2.1.2)),(.int .i64 (s.2.2.1)),(.int .i64 (s.2.2.2.1)),(.int .i64 (s.2.2.2.2.1)),(.vs tI (s.2.2.2.2.2.1.1) (s.2.2.2.2.2.1.2)),(.vs tO (p.1) (p.2))] 0)),(1,(.vs .bool (c.1) (c.2))),(2,(.ptr 3 0)),(3,(.ptr 4 0)),(4,(.int .i64 (0)))]),(tmOf 15 [(0,(.cp [(.int .i64 (s.1)),(.vs tN (s.2.1.1) (s.2.1.2)),(.int .i64 (s.2.2.1)),(.int .i64 (s.2.2.2.1)),(.int .i64 (s.2.2.2.2.1)),(.vs tI (s.2.2.2.2.2.1.1) (s.2.2.2.2.2.1.2)),(.vs tO (p.1) (p.2))] 0)),(1,(.vs .bool (c.1) (c.2))),(2,(.ptr 3 0)),(3,(.ptr 4 0)),(4,(.int .i64 (0))),(5,(.cp [(.int .i64 (s.1)),(.vs tN (s.2.1.1) (s.2.1.2)),(.int .i64 (s.2.2.1)),(.int .i64 (s.2.2.2.1)),(.int .i64 (s.2.2.2.2.1)),(.vs tI (s.2.2.2.2.2.1.1) (s.2.2.2.2.2.1.2)),(.vs tO (p.1) (p.2))] 0))]))],false⟩ ((opsD (pcOf G1 32 [0,1]).c).getD 9 default) ((fsD (pcOf G1 32 [0,1]).c).getD 9 default) (tmOf 15 [(0,(.cp [(.int .i64 (s.1)),(.vs tN (s.2.1.1) (s.2.1.2)),(.int .i64 (s.2.2.1)),(.int .i64 (s.2.2.2.1)),(.int .i64 (s.2.2.2.2.1)),(.vs tI (s.2.2.2.2.2.1.1) (s.2.2.2.2.2.1.2)),(.vs tO (p.1) (p.2))] 0)),(1,(.vs .bool (c.1) (c.2))),(2,(.ptr 3 0)),(3,(.ptr 4 0)),(4,(.int .i64 (0))),(5,(.cp [(.int .i64 (s.1)),(.vs tN (s.2.1.1) (s.2.1.2)),(.int .i64 (s.2.2.1)),(.int .i64 (s.2.2.2.1)),(.int .i64 (s.2.2.2.2.1)),(.vs tI (s.2.2.2.2.2.1.1) (s.2.2.2.2.2.1.2)),(.vs tO (p.1) (p.2))] 0)),(6,(.cp [(.int .i64 (s.1)),(.vs tN (s.2.1.1) (s.2.1.2)),(.int .i64 (s.2.2.1)),(.int .i64 (s.2.2.2.1)),(.int .i64 (s.2.2.2.2.1)),(.vs tI (s.2.2.2.2.2.1.1) (s.2.2.2.2.2.1.2)),(.vs tO (p.1) (p.2))] 0)),(7,(.cp [(.int .i64 (s.1)),(.vs tN (s.2.1.1) (s.2.1.2)),(.int .i64 (s.2.2.1)),(.int .i64 (s.2.2.2.1)),(.int .i64 (s.2.2.2.2.1)),(.vs tI (s.2.2.2.2.2.1.1) (s.2.2.2.2.2.1.2)),(.vs tO (p.1) (p.2))] 6)),(8,(.vs tO (p.1) (p.2))),(9,(.int .i64 (Int.ofNat p.2.length))),(10,(.vs .bool (c.1) (c.2))),(11,(.int .i64 (Int.ofNat c.2.length))),(12,(.int .i64 (wr .i64 (↑p.2.length - ↑c.2.length)))),(13,(.fn 57 [] [(.ptr 3 0),(.ptr 4 0)]))]) [] 15 false ⟨39,[]⟩)),(.seq (pcOf G1 32 [1,1])),(.cal [(.tmp 4)] (.op (pcOf G1 13 [0,1,1,1,1]) 3 (some 27) ((opsOf (pcOf G1 13 [0,1,1,1,1]).c).toList.drop 3) (tmOf 31 [(0,(.agg [(.int .i64 (s.1)),(.vs tN (s.2.1.1) (s.2.1.2)),(.int .i64 (s.2.2.1)),(.int .i64 (s.2.2.2.1)),(.int .i64 (s.2.2.2.2.1)),(.vs tI (s.2.2.2.2.2.1.1) (s.2.2.2.2.2.1.2))])),(1,(.vs tO (p.1) (p.2))),(2,(.vs .bool (c.1) (c.2))),(3,(.ptr 0 0)),(6,(.int .i64 (0))),(7,(.int .i64 (0))),(8,(.ptr 2 0)),(9,(.int .i64 (0))),(11,(.tup [(.ptr 2 0),(.int .i64 (0))])),(12,(.agg [(.int .i64 (s.1)),(.vs tN (s.2.1.1) (s.2.1.2)),(.int .i64 (s.2.2.1)),(.int .i64 (s.2.2.2.1)),(.int .i64 (s.2.2.2.2.1)),(.vs tI (s.2.2.2.2.2.1.1) (s.2.2.2.2.2.1.2))])),(13,(.vs tO (p.1) (p.2))),(14,(.tup [(.ptr 2 0),(.int .i64 (0))])),(15,(.ptr 2 0)),(16,(.int .i64 (0))),(17,(.int .i64 (0))),(18,(.bool (false))),(20,(.vs .bool (c.1) (c.2))),(21,(.int .i64 (Int.ofNat c.2.length))),(22,(.vs tO (p.1) (p.2))),(23,(.int .i64 (Int.ofNat p.2.length))),(24,(.bool (false))),(25,(.ptr 2 0)),(26,(.vs .bool (c.1) (c.2)))]) [] 31 false ⟨40,[]⟩)),(.seq (pcOf G1 13 [1,1,1,1,1])),(.cal [(.tmp 6),(.tmp 7)] .top)]⟩
theorem sti_start (s:tS.den) (p:(Ty.sl tO).den) (c:(Ty.sl .bool).den):adv G1 (Y1 [56]) 3000 (startC G1 13 [tS.av s,.vs tO p.1 p.2,.vs .bool c.1 c.2] 40)=(bif !ieq (plnV s p.2).2 0 then (bif !ieq (plnV s p.2).2 0 then some (.done (.tup [(.int .i64 (0)),(.int .i64 ((plnV s p.2).2))])) else (bif !ile ↑c.2.length ↑p.2.length then some (.done (.tup [(.int .i64 (0)),(.int .i64 (3))])) else none)) else (bif !ile ↑c.2.length ↑p.2.length then some (.done (.tup [(.int .i64 (0)),(.int .i64 (3))])) else some (.stop (stiI0 s p c (0) (1048575))))):=by kernel_rfl
theorem sti_step0 (s:tS.den) (p:(Ty.sl tO).den) (c:(Ty.sl .bool).den) (x2:Int) (x46:Nat):adv G1 (Y1 [56]) 3000 (stiI0 s p c x2 (x46+1))=(bif ile x2 (wr .i64 (↑p.2.length - ↑c.2.length)) then (bif xokB (s,p,())&&(c.2.length.ble (olX (s,p,()))&&(ile 0 x2&&ile x2 8)) then (bif hldV (s,p,()) c.2 x2 then some (.stop (stiI0 s p c (wr .i64 (x2+1)) (x46))) else (bif bbeq c.1 c.1 then (bif vsB Ty.bool c.2 Ty.bool c.2 then (bif avbeq (AV.cp [AV.int IntKind.i64 s.1,AV.vs tN s.2.1.1 s.2.1.2,AV.int IntKind.i64 s.2.2.1,AV.int IntKind.i64 s.2.2.2.1,AV.int IntKind.i64 s.2.2.2.2.1,AV.vs tI s.2.2.2.2.2.1.1 s.2.2.2.2.2.1.2,AV.vs tO p.1 p.2] 0) (AV.cp [AV.int IntKind.i64 s.1,AV.vs tN s.2.1.1 s.2.1.2,AV.int IntKind.i64 s.2.2.1,AV.int IntKind.i64 s.2.2.2.1,AV.int IntKind.i64 s.2.2.2.2.1,AV.vs tI s.2.2.2.2.2.1.1 s.2.2.2.2.2.1.2,AV.vs tO p.1 p.2] 0) then (bif !ile 0 (wr .i64 (x2-1)) then some (.done (.tup [(.int .i64 (0)),(.int .i64 (9))])) else some (.done (.tup [(.int .i64 (wr .i64 (x2-1))),(.int .i64 (0))]))) else none) else none) else none)) else none) else (bif bbeq c.1 c.1 then (bif vsB Ty.bool c.2 Ty.bool c.2 then (bif avbeq (AV.cp [AV.int IntKind.i64 s.1,AV.vs tN s.2.1.1 s.2.1.2,AV.int IntKind.i64 s.2.2.1,AV.int IntKind.i64 s.2.2.2.1,AV.int IntKind.i64 s.2.2.2.2.1,AV.vs tI s.2.2.2.2.2.1.1 s.2.2.2.2.2.1.2,AV.vs tO p.1 p.2] 0) (AV.cp [AV.int IntKind.i64 s.1,AV.vs tN s.2.1.1 s.2.1.2,AV.int IntKind.i64 s.2.2.1,AV.int IntKind.i64 s.2.2.2.1,AV.int IntKind.i64 s.2.2.2.2.1,AV.vs tI s.2.2.2.2.2.1.1 s.2.2.2.2.2.1.2,AV.vs tO p.1 p.2] 0) then (bif !ile 0 (wr .i64 (x2-1)) then some (.done (.tup [(.int .i64 (0)),(.int .i64 (9))])) else some (.done (.tup [(.int .i64 (wr .i64 (x2-1))),(.int .i64 (0))]))) else none) else none) else none)):=by kernel_rfl
noncomputable def cntV (x:tX.den) (c:List Bool):Nat→Int→Int
 |0,k=>k
 |r+1,k=>bif hldV x c k then cntV x c r (k+1) else k
noncomputable def grE (n:Int):Int×Int:=bif ile 0 (n-1) then (n-1,0) else (0,9)
noncomputable def stiV (s:tS.den) (p:(Ty.sl tO).den) (c:List Bool):Int×Int:=bif ieq (plnV s p.2).2 0 then (bif ile (c.length:Int) (p.2.length:Int) then grE (cntV (xSP s p) c (p.2.length-c.length+1) 0) else (0,3)) else (0,(plnV s p.2).2)
theorem sti_out {n:Int} (h0:0≤n) (h9:n≤9):(bif !ile 0 (wr .i64 (n-1)) then some (Out.done (.tup [(.int .i64 (0)),(.int .i64 (9))])) else some (.done (.tup [(.int .i64 (wr .i64 (n-1))),(.int .i64 (0))])))=some (.done (pairV (grE n))):=by
 rw[wr_in (by omega) (by omega)]
 unfold grE
 cases ile 0 (n-1)<;>rfl
theorem sti_ans {s:tS.den} {p:(Ty.sl tO).den} {c:(Ty.sl .bool).den} (P:POK s p.2) (hc:c.2.length≤p.2.length):∀ (r k m:Nat),k+r=p.2.length-c.2.length+1→r<m→Ans G1 (stiI0 s p c k m) (pairV (grE (cntV (xSP s p) c.2 r k)))
 |0,k,m0,hk,hm=>by
  obtain⟨m,rfl⟩:∃ m,m0=m+1:=⟨m0-1,by omega⟩
  have h:=sti_step0 s p c k m
  have h8:=P.len
  rw[wr_in (show -9223372036854775808≤((p.2.length:Int)-(c.2.length:Int)) by omega) (by omega),ile_f (show ((p.2.length:Int)-(c.2.length:Int))<(k:Int) by omega),cond_false,bbeq_self,cond_true,vsB_self,cond_true,show avbeq (AV.cp [AV.int IntKind.i64 s.1,AV.vs tN s.2.1.1 s.2.1.2,AV.int IntKind.i64 s.2.2.1,AV.int IntKind.i64 s.2.2.2.1,AV.int IntKind.i64 s.2.2.2.2.1,AV.vs tI s.2.2.2.2.2.1.1 s.2.2.2.2.2.1.2,AV.vs tO p.1 p.2] 0) (AV.cp [AV.int IntKind.i64 s.1,AV.vs tN s.2.1.1 s.2.1.2,AV.int IntKind.i64 s.2.2.1,AV.int IntKind.i64 s.2.2.2.1,AV.int IntKind.i64 s.2.2.2.2.1,AV.vs tI s.2.2.2.2.2.1.1 s.2.2.2.2.2.1.2,AV.vs tO p.1 p.2] 0)=true from cpX (s,p,()),cond_true,sti_out (by omega) (by omega)] at h
  exact .done (Y1_ok _) G1sy h rfl
 | r + 1, k, m0, hk, hm => by
  obtain⟨m,rfl⟩:∃ m,m0=m+1:=⟨m0-1,by omega⟩
  have h:=sti_step0 s p c k m
  have h8:=P.len
  have e:cntV (xSP s p) c.2 (r+1) (k:Int)=bif hldV (xSP s p) c.2 (k:Int) then cntV (xSP s p) c.2 r ((k+1:Nat):Int) else (k:Int):=rfl
  rw[wr_in (show -9223372036854775808≤((p.2.length:Int)-(c.2.length:Int)) by omega) (by omega),ile_t (show (k:Int)≤((p.2.length:Int)-(c.2.length:Int)) by omega),cond_true,show xokB (s,p,())=true from xok_of P,show c.2.length.ble (olX (s,p,()))=true from Nat.ble_eq_true_of_le hc,ile_t (show (0:Int)≤(k:Int) by omega),ile_t (show (k:Int)≤8 by omega),wr_succ (show k<1048577 by omega),bbeq_self,vsB_self,show avbeq (AV.cp [AV.int IntKind.i64 s.1,AV.vs tN s.2.1.1 s.2.1.2,AV.int IntKind.i64 s.2.2.1,AV.int IntKind.i64 s.2.2.2.1,AV.int IntKind.i64 s.2.2.2.2.1,AV.vs tI s.2.2.2.2.2.1.1 s.2.2.2.2.2.1.2,AV.vs tO p.1 p.2] 0) (AV.cp [AV.int IntKind.i64 s.1,AV.vs tN s.2.1.1 s.2.1.2,AV.int IntKind.i64 s.2.2.1,AV.int IntKind.i64 s.2.2.2.1,AV.int IntKind.i64 s.2.2.2.2.1,AV.vs tI s.2.2.2.2.2.1.1 s.2.2.2.2.2.1.2,AV.vs tO p.1 p.2] 0)=true from cpX (s,p,()),sti_out (show (0:Int)≤k by omega) (by omega)] at h
  rw[e]
  cases c1:hldV (xSP s p) c.2 (k:Int) with
  |true=>
   rw[show hldV (s,p,()) c.2 (k:Int)=true from c1] at h
   exact .stop (Y1_ok _) G1sy h (sti_ans P hc r (k+1) m (by omega) (by omega))
  |false=>
   rw[show hldV (s,p,()) c.2 (k:Int)=false from c1] at h
   exact .done (Y1_ok _) G1sy h rfl
theorem sti_call (s:tS.den) (p:(Ty.sl tO).den) (c:(Ty.sl .bool).den):AnsF G1 13 [tS.av s,.vs tO p.1 p.2,.vs .bool c.1 c.2] (pairV (stiV s p c.2)):=by
 refine Ans.call (n:=40) (ext_none (by kernel_rfl)) (hasB_spec (by kernel_rfl)) ?_
 have h:=sti_start s p c
 unfold stiV
 cases c0:ieq (plnV s p.2).2 0 with
 |false=>
  rw[show ieq (plnV s p.2).2 0=false from c0] at h
  exact done2 (Y1_ok _) G1sy h rfl
 |true=>
 rw[show ieq (plnV s p.2).2 0=true from c0] at h
 rw[cond_true]
 cases c1:ile (c.2.length:Int) (p.2.length:Int) with
 |false=>
  rw[show ile (↑c.2.length) (↑p.2.length)=false from c1] at h
  exact done2 (Y1_ok _) G1sy h rfl
 |true=>
  rw[show ile (↑c.2.length) (↑p.2.length)=true from c1] at h
  rw[cond_true]
  have hc:=ile_le c1
  exact .stop (Y1_ok _) G1sy h (sti_ans (pln_ok c0) (by omega) (p.2.length-c.2.length+1) 0 1048575 (by omega) (by have:=(pln_ok c0).len;omega))
noncomputable def LG2:List Said:=[(13,con3 tS (.sl tO) (.sl .bool) (fun _ _ _=>true) (fun s p c=>pairV (stiV s p c.2)))]
theorem LG2_ok:∀ e∈LG2,SaidG Try.prog G1.glob e:=
 saids_cons (SaidOK.g g1 xg1 ng1 tabs_ok.mix (fun _ _ h=>con3_spec (t:=tS) (u:=.sl tO) (w:=.sl .bool) (fun s p c _=>sti_call s p c) h) rfl) saids_nil
noncomputable def G2:Env:=G1.say (under (xOf LG2))
theorem g2:EnvOK Try.prog G2:=g1.say _
theorem ng2:NameOK G2:=ng1.say _
theorem xg2:ExtOK Try.prog G2:=xg1.sayL LG2_ok
noncomputable def Y2 (l:List Nat):Sy:=(Y1 []).on LG2 l
theorem Y2_ok (l:List Nat):(Y2 l).ok G2:=Sy.on_ok (Y1_ok _)
noncomputable def LG3:List Said:=[(8,say0 (.bool true))]
noncomputable def G3:Env:=G2.say (under (xOf LG3))
theorem g3:EnvOK Try.prog G3:=g2.say _
theorem ng3:NameOK G3:=ng2.say _
theorem G3sy:G3.sy=true:=rfl
noncomputable def Y3 (l:List Nat):Sy:=(Y2 []).on LG3 l
theorem Y3_ok (l:List Nat):(Y3 l).ok G3:=Sy.on_ok (Y2_ok _)
end Go.Proofs.Ytmpaifgmccdipaa


set_option maxRecDepth 100000
namespace Go.Proofs.Ytmpaifgmccdipaa
open Go Go.Eng
noncomputable def stlI0 (s:tS.den) (p:(Ty.sl tO).den) (c:(Ty.sl .bool).den) (x20:Int) (x21:Int) (x313:Nat):Cfg:=⟨.ex (pcOf G3 5 [0,0,1,0,1,1,1,1,1,1,1,1,1,1,1,1]) ⟨(tmOf 181 [(0,(.agg [(.int .i64 (s.1)),(.vs tN (s.2.1.1) (s.2.1.2)),(.int .i64 (s.2.2.1)),(.int .i64 (s.2.2.2.1)),(.int .i64 (s.2.2.2.2.1)),(.vs tI (s.2.2.2.2.2.1.1) (s.2.2.2.2.2.1.2))])),(1,(.vs tO (p.1) (p.2))),(2,(.vs .bool (c.1) (c.2))),(3,(.ptr 0 0)),(6,(.bool (false))),(7,(.int .i64 ((stiV s p []).1))),(8,(.int .i64 ((stiV s p c.2).2))),(9,(.int .i64 ((stiV s p []).1))),(10,(.int .i64 ((stiV s p (unf (rd Ty.bool) (0+c.2.length+1) ([]++flat Ty.bool c.2++[AV.bool true]))).2))),(13,(.int .i64 ((stiV s p c.2).1))),(14,(.int .i64 (wr .i64 (wr .i64 (↑p.2.length - ↑c.2.length)-1)))),(15,(.int .i64 ((stiV s p (unf (rd Ty.bool) (0+c.2.length+1) ([]++flat Ty.bool c.2++[AV.bool true]))).1))),(16,(.int .i64 x20)),(17,(.int .i64 x21)),(20,(.tup [(.int .i64 ((stiV s p []).1)),(.int .i64 ((stiV s p []).2))])),(21,(.agg [(.int .i64 (s.1)),(.vs tN (s.2.1.1) (s.2.1.2)),(.int .i64 (s.2.2.1)),(.int .i64 (s.2.2.2.1)),(.int .i64 (s.2.2.2.2.1)),(.vs tI (s.2.2.2.2.2.1.1) (s.2.2.2.2.2.1.2))])),(22,(.vs tO (p.1) (p.2))),(23,(.tup [(.int .i64 ((stiV s p []).1)),(.int .i64 ((stiV s p []).2))])),(24,(.int .i64 ((stiV s p []).1))),(25,(.int .i64 ((stiV s p []).2))),(26,(.tup [(.int .i64 ((stiV s p []).1)),(.int .i64 ((stiV s p []).2))])),(27,(.agg [(.int .i64 (s.1)),(.vs tN (s.2.1.1) (s.2.1.2)),(.int .i64 (s.2.2.1)),(.int .i64 (s.2.2.2.1)),(.int .i64 (s.2.2.2.2.1)),(.vs tI (s.2.2.2.2.2.1.1) (s.2.2.2.2.2.1.2))])),(28,(.vs tO (p.1) (p.2))),(29,(.tup [(.int .i64 ((stiV s p []).1)),(.int .i64 ((stiV s p []).2))])),(30,(.int .i64 ((stiV s p []).1))),(31,(.int .i64 ((stiV s p []).2))),(32,(.agg [(.int .i64 (s.1)),(.vs tN (s.2.1.1) (s.2.1.2)),(.int .i64 (s.2.2.1)),(.int .i64 (s.2.2.2.1)),(.int .i64 (s.2.2.2.2.1)),(.vs tI (s.2.2.2.2.2.1.1) (s.2.2.2.2.2.1.2))])),(33,(.vs tO (p.1) (p.2))),(34,(.bool (ieq (plnV s p.2).2 0))),(35,(.bool (false))),(46,(.int .i64 ((stiV s p []).1))),(47,(.int .i64 ((stiV s p []).1))),(48,(.bool (!ieq (stiV s p []).1 (stiV s p []).1))),(49,(.bool (false))),(50,(.int .i64 ((stiV s p []).2))),(51,(.int .i64 ((stiV s p []).2))),(52,(.bool (!ieq (stiV s p []).2 (stiV s p []).2))),(53,(.bool (false))),(54,(.vs .bool (c.1) (c.2))),(55,(.int .i64 (Int.ofNat c.2.length))),(56,(.vs tO (p.1) (p.2))),(57,(.int .i64 (Int.ofNat p.2.length))),(58,(.bool (false))),(82,(.tup [(.int .i64 ((stiV s p c.2).1)),(.int .i64 ((stiV s p c.2).2))])),(83,(.agg [(.int .i64 (s.1)),(.vs tN (s.2.1.1) (s.2.1.2)),(.int .i64 (s.2.2.1)),(.int .i64 (s.2.2.2.1)),(.int .i64 (s.2.2.2.2.1)),(.vs tI (s.2.2.2.2.2.1.1) (s.2.2.2.2.2.1.2))])),(84,(.vs tO (p.1) (p.2))),(85,(.vs .bool (c.1) (c.2))),(86,(.tup [(.int .i64 ((stiV s p c.2).1)),(.int .i64 ((stiV s p c.2).2))])),(87,(.int .i64 ((stiV s p c.2).1))),(88,(.int .i64 ((stiV s p c.2).2))),(89,(.int .i64 ((stiV s p c.2).2))),(90,(.bool (false))),(100,(.vs tO (p.1) (p.2))),(101,(.int .i64 (Int.ofNat p.2.length))),(102,(.vs .bool (c.1) (c.2))),(103,(.int .i64 (Int.ofNat c.2.length))),(104,(.int .i64 (wr .i64 (↑p.2.length - ↑c.2.length)))),(105,(.int .i64 (wr .i64 (wr .i64 (↑p.2.length - ↑c.2.length)-1)))),(106,(.tup [(.int .i64 ((stiV s p (unf (rd Ty.bool) (0+c.2.length+1) ([]++flat Ty.bool c.2++[AV.bool true]))).1)),(.int .i64 ((stiV s p (unf (rd Ty.bool) (0+c.2.length+1) ([]++flat Ty.bool c.2++[AV.bool true]))).2))])),(107,(.agg [(.int .i64 (s.1)),(.vs tN (s.2.1.1) (s.2.1.2)),(.int .i64 (s.2.2.1)),(.int .i64 (s.2.2.2.1)),(.int .i64 (s.2.2.2.2.1)),(.vs tI (s.2.2.2.2.2.1.1) (s.2.2.2.2.2.1.2))])),(108,(.vs tO (p.1) (p.2))),(109,(.sl 3 0 (0) (0) 1)),(110,(.vs .bool (c.1) (c.2))),(111,(.sl 5 0 (0+c.2.length) (0+c.2.length) 1)),(112,(.sl 4 0 (1) (1) 1)),(113,(.sl 6 0 (0+c.2.length+1) (0+c.2.length+1) 1)),(114,(.tup [(.int .i64 ((stiV s p (unf (rd Ty.bool) (0+c.2.length+1) ([]++flat Ty.bool c.2++[AV.bool true]))).1)),(.int .i64 ((stiV s p (unf (rd Ty.bool) (0+c.2.length+1) ([]++flat Ty.bool c.2++[AV.bool true]))).2))])),(115,(.int .i64 ((stiV s p (unf (rd Ty.bool) (0+c.2.length+1) ([]++flat Ty.bool c.2++[AV.bool true]))).1))),(116,(.int .i64 ((stiV s p (unf (rd Ty.bool) (0+c.2.length+1) ([]++flat Ty.bool c.2++[AV.bool true]))).2))),(117,(.int .i64 ((stiV s p (unf (rd Ty.bool) (0+c.2.length+1) ([]++flat Ty.bool c.2++[AV.bool true]))).2))),(118,(.bool (!ieq (stiV s p (unf (rd Ty.bool) (0+c.2.length+1) ([]++flat Ty.bool c.2++[AV.bool true]))).2 0))),(119,(.bool (false))),(120,(.int .i64 ((stiV s p (unf (rd Ty.bool) (0+c.2.length+1) ([]++flat Ty.bool c.2++[AV.bool true]))).1))),(121,(.int .i64 ((stiV s p c.2).1))),(122,(.int .i64 (wr .i64 (wr .i64 (↑p.2.length - ↑c.2.length)-1)))),(123,(.int .i64 (bif ile (stiV s p c.2).1 (wr .i64 (wr .i64 (↑p.2.length - ↑c.2.length)-1)) then (stiV s p c.2).1 else wr .i64 (wr .i64 (↑p.2.length - ↑c.2.length)-1)))),(124,(.bool (!ile (bif ile (stiV s p c.2).1 (wr .i64 (wr .i64 (↑p.2.length - ↑c.2.length)-1)) then (stiV s p c.2).1 else wr .i64 (wr .i64 (↑p.2.length - ↑c.2.length)-1)) (stiV s p (unf (rd Ty.bool) (0+c.2.length+1) ([]++flat Ty.bool c.2++[AV.bool true]))).1))),(125,(.bool (!ile (bif ile (stiV s p c.2).1 (wr .i64 (wr .i64 (↑p.2.length - ↑c.2.length)-1)) then (stiV s p c.2).1 else wr .i64 (wr .i64 (↑p.2.length - ↑c.2.length)-1)) (stiV s p (unf (rd Ty.bool) (0+c.2.length+1) ([]++flat Ty.bool c.2++[AV.bool true]))).1))),(126,(.bool (false))),(127,(.int .i64 ((stiV s p c.2).1))),(128,(.int .i64 (wr .i64 (wr .i64 (↑p.2.length - ↑c.2.length)-1)))),(129,(.int .i64 (wr .i64 (wr .i64 (wr .i64 (↑p.2.length - ↑c.2.length)-1)+1)))),(130,(.bool (!ile (stiV s p c.2).1 (wr .i64 (wr .i64 (wr .i64 (↑p.2.length - ↑c.2.length)-1)+1))))),(131,(.bool (false))),(132,(.vs .bool (c.1) (c.2))),(133,(.int .i64 (Int.ofNat c.2.length))),(134,(.int .i64 (wr .i64 (↑c.2.length-1))))]),(hpOf 7 [(0,(.cells false ([AV.int IntKind.i64 s.1,AV.vs tN s.2.1.1 s.2.1.2,AV.int IntKind.i64 s.2.2.1,AV.int IntKind.i64 s.2.2.2.1,AV.int IntKind.i64 s.2.2.2.2.1,AV.vs tI s.2.2.2.2.2.1.1 s.2.2.2.2.2.1.2]))),(1,(.cells false ([AV.int IntKind.i64 s.1,AV.vs tN s.2.1.1 s.2.1.2,AV.int IntKind.i64 s.2.2.1,AV.int IntKind.i64 s.2.2.2.1,AV.int IntKind.i64 s.2.2.2.2.1,AV.vs tI s.2.2.2.2.2.1.1 s.2.2.2.2.2.1.2]))),(2,(.cells false ([AV.int IntKind.i64 s.1,AV.vs tN s.2.1.1 s.2.1.2,AV.int IntKind.i64 s.2.2.1,AV.int IntKind.i64 s.2.2.2.1,AV.int IntKind.i64 s.2.2.2.2.1,AV.vs tI s.2.2.2.2.2.1.1 s.2.2.2.2.2.1.2]))),(3,.gone),(4,(.cells false ([AV.bool true]))),(5,.gone),(6,(.cells true ([]++flat Ty.bool c.2++[AV.bool true])))]),[],[],181,false⟩,⟨40,[]⟩,[(.lop (pcOf G3 5 [0,0,1,0,1,1,1,1,1,1,1,1,1,1,1,1]) 7 (tmOf 181 [(0,(.agg [(.int .i64 (s.1)),(.vs tN (s.2.1.1) (s.2.1.2)),(.int .i64 (s.2.2.1)),(.int .i64 (s.2.2.2.1)),(.int .i64 (s.2.2.2.2.1)),(.vs tI (s.2.2.2.2.2.1.1) (s.2.2.2.2.2.1.2))])),(1,(.vs tO (p.1) (p.2))),(2,(.vs .bool (c.1) (c.2))),(3,(.ptr 0 0)),(6,(.bool (false))),(7,(.int .i64 ((stiV s p []).1))),(8,(.int .i64 ((stiV s p c.2).2))),(9,(.int .i64 ((stiV s p []).1))),(10,(.int .i64 ((stiV s p (unf (rd Ty.bool) (0+c.2.length+1) ([]++flat Ty.bool c.2++[AV.bool true]))).2))),(13,(.int .i64 ((stiV s p c.2).1))),(14,(.int .i64 (wr .i64 (wr .i64 (↑p.2.length - ↑c.2.length)-1)))),(15,(.int .i64 ((stiV s p (unf (rd Ty.bool) (0+c.2.length+1) ([]++flat Ty.bool c.2++[AV.bool true]))).1))),(16,(.int .i64 (1))),(17,(.int .i64 (wr .i64 (↑c.2.length-1)))),(20,(.tup [(.int .i64 ((stiV s p []).1)),(.int .i64 ((stiV s p []).2))])),(21,(.agg [(.int .i64 (s.1)),(.vs tN (s.2.1.1) (s.2.1.2)),(.int .i64 (s.2.2.1)),(.int .i64 (s.2.2.2.1)),(.int .i64 (s.2.2.2.2.1)),(.vs tI (s.2.2.2.2.2.1.1) (s.2.2.2.2.2.1.2))])),(22,(.vs tO (p.1) (p.2))),(23,(.tup [(.int .i64 ((stiV s p []).1)),(.int .i64 ((stiV s p []).2))])),(24,(.int .i64 ((stiV s p []).1))),(25,(.int .i64 ((stiV s p []).2))),(26,(.tup [(.int .i64 ((stiV s p []).1)),(.int .i64 ((stiV s p []).2))])),(27,(.agg [(.int .i64 (s.1)),(.vs tN (s.2.1.1) (s.2.1.2)),(.int .i64 (s.2.2.1)),(.int .i64 (s.2.2.2.1)),(.int .i64 (s.2.2.2.2.1)),(.vs tI (s.2.2.2.2.2.1.1) (s.2.2.2.2.2.1.2))])),(28,(.vs tO (p.1) (p.2))),(29,(.tup [(.int .i64 ((stiV s p []).1)),(.int .i64 ((stiV s p []).2))])),(30,(.int .i64 ((stiV s p []).1))),(31,(.int .i64 ((stiV s p []).2))),(32,(.agg [(.int .i64 (s.1)),(.vs tN (s.2.1.1) (s.2.1.2)),(.int .i64 (s.2.2.1)),(.int .i64 (s.2.2.2.1)),(.int .i64 (s.2.2.2.2.1)),(.vs tI (s.2.2.2.2.2.1.1) (s.2.2.2.2.2.1.2))])),(33,(.vs tO (p.1) (p.2))),(34,(.bool (ieq (plnV s p.2).2 0))),(35,(.bool (false))),(46,(.int .i64 ((stiV s p []).1))),(47,(.int .i64 ((stiV s p []).1))),(48,(.bool (!ieq (stiV s p []).1 (stiV s p []).1))),(49,(.bool (false))),(50,(.int .i64 ((stiV s p []).2))),(51,(.int .i64 ((stiV s p []).2))),(52,(.bool (!ieq (stiV s p []).2 (stiV s p []).2))),(53,(.bool (false))),(54,(.vs .bool (c.1) (c.2))),(55,(.int .i64 (Int.ofNat c.2.length))),(56,(.vs tO (p.1) (p.2))),(57,(.int .i64 (Int.ofNat p.2.length))),(58,(.bool (false))),(82,(.tup [(.int .i64 ((stiV s p c.2).1)),(.int .i64 ((stiV s p c.2).2))])),(83,(.agg [(.int .i64 (s.1)),(.vs tN (s.2.1.1) (s.2.1.2)),(.int .i64 (s.2.2.1)),(.int .i64 (s.2.2.2.1)),(.int .i64 (s.2.2.2.2.1)),(.vs tI (s.2.2.2.2.2.1.1) (s.2.2.2.2.2.1.2))])),(84,(.vs tO (p.1) (p.2))),(85,(.vs .bool (c.1) (c.2))),(86,(.tup [(.int .i64 ((stiV s p c.2).1)),(.int .i64 ((stiV s p c.2).2))])),(87,(.int .i64 ((stiV s p c.2).1))),(88,(.int .i64 ((stiV s p c.2).2))),(89,(.int .i64 ((stiV s p c.2).2))),(90,(.bool (false))),(100,(.vs tO (p.1) (p.2))),(101,(.int .i64 (Int.ofNat p.2.length))),(102,(.vs .bool (c.1) (c.2))),(103,(.int .i64 (Int.ofNat c.2.length))),(104,(.int .i64 (wr .i64 (↑p.2.length - ↑c.2.length)))),(105,(.int .i64 (wr .i64 (wr .i64 (↑p.2.length - ↑c.2.length)-1)))),(106,(.tup [(.int .i64 ((stiV s p (unf (rd Ty.bool) (0+c.2.length+1) ([]++flat Ty.bool c.2++[AV.bool true]))).1)),(.int .i64 ((stiV s p (unf (rd Ty.bool) (0+c.2.length+1) ([]++flat Ty.bool c.2++[AV.bool true]))).2))])),(107,(.agg [(.int .i64 (s.1)),(.vs tN (s.2.1.1) (s.2.1.2)),(.int .i64 (s.2.2.1)),(.int .i64 (s.2.2.2.1)),(.int .i64 (s.2.2.2.2.1)),(.vs tI (s.2.2.2.2.2.1.1) (s.2.2.2.2.2.1.2))])),(108,(.vs tO (p.1) (p.2))),(109,(.sl 3 0 (0) (0) 1)),(110,(.vs .bool (c.1) (c.2))),(111,(.sl 5 0 (0+c.2.length) (0+c.2.length) 1)),(112,(.sl 4 0 (1) (1) 1)),(113,(.sl 6 0 (0+c.2.length+1) (0+c.2.length+1) 1)),(114,(.tup [(.int .i64 ((stiV s p (unf (rd Ty.bool) (0+c.2.length+1) ([]++flat Ty.bool c.2++[AV.bool true]))).1)),(.int .i64 ((stiV s p (unf (rd Ty.bool) (0+c.2.length+1) ([]++flat Ty.bool c.2++[AV.bool true]))).2))])),(115,(.int .i64 ((stiV s p (unf (rd Ty.bool) (0+c.2.length+1) ([]++flat Ty.bool c.2++[AV.bool true]))).1))),(116,(.int .i64 ((stiV s p (unf (rd Ty.bool) (0+c.2.length+1) ([]++flat Ty.bool c.2++[AV.bool true]))).2))),(117,(.int .i64 ((stiV s p (unf (rd Ty.bool) (0+c.2.length+1) ([]++flat Ty.bool c.2++[AV.bool true]))).2))),(118,(.bool (!ieq (stiV s p (unf (rd Ty.bool) (0+c.2.length+1) ([]++flat Ty.bool c.2++[AV.bool true]))).2 0))),(119,(.bool (false))),(120,(.int .i64 ((stiV s p (unf (rd Ty.bool) (0+c.2.length+1) ([]++flat Ty.bool c.2++[AV.bool true]))).1))),(121,(.int .i64 ((stiV s p c.2).1))),(122,(.int .i64 (wr .i64 (wr .i64 (↑p.2.length - ↑c.2.length)-1)))),(123,(.int .i64 (bif ile (stiV s p c.2).1 (wr .i64 (wr .i64 (↑p.2.length - ↑c.2.length)-1)) then (stiV s p c.2).1 else wr .i64 (wr .i64 (↑p.2.length - ↑c.2.length)-1)))),(124,(.bool (!ile (bif ile (stiV s p c.2).1 (wr .i64 (wr .i64 (↑p.2.length - ↑c.2.length)-1)) then (stiV s p c.2).1 else wr .i64 (wr .i64 (↑p.2.length - ↑c.2.length)-1)) (stiV s p (unf (rd Ty.bool) (0+c.2.length+1) ([]++flat Ty.bool c.2++[AV.bool true]))).1))),(125,(.bool (!ile (bif ile (stiV s p c.2).1 (wr .i64 (wr .i64 (↑p.2.length - ↑c.2.length)-1)) then (stiV s p c.2).1 else wr .i64 (wr .i64 (↑p.2.length - ↑c.2.length)-1)) (stiV s p (unf (rd Ty.bool) (0+c.2.length+1) ([]++flat Ty.bool c.2++[AV.bool true]))).1))),(126,(.bool (false))),(127,(.int .i64 ((stiV s p c.2).1))),(128,(.int .i64 (wr .i64 (wr .i64 (↑p.2.length - ↑c.2.length)-1)))),(129,(.int .i64 (wr .i64 (wr .i64 (wr .i64 (↑p.2.length - ↑c.2.length)-1)+1)))),(130,(.bool (!ile (stiV s p c.2).1 (wr .i64 (wr .i64 (wr .i64 (↑p.2.length - ↑c.2.length)-1)+1))))),(131,(.bool (false))),(132,(.vs .bool (c.1) (c.2))),(133,(.int .i64 (Int.ofNat c.2.length))),(134,(.int .i64 (wr .i64 (↑c.2.length-1))))]) x313),(.blk 0),(.seq (pcOf G3 5 [1,1,1,1,1,1,1,1,1,1,1,1,1])),(.cal [(.tmp 6)] .top)]⟩
noncomputable def stlI1 (s:tS.den) (p:(Ty.sl tO).den) (c:(Ty.sl .bool).den) (x20:Int) (x21:Int) (x313:Nat):Cfg:=⟨.ex (pcOf G3 5 [0,0,1,0,1,1,1,1,1,1,1,1,1,1,1,1]) ⟨(tmOf 181 [(0,(.agg [(.int .i64 (s.1)),(.vs tN (s.2.1.1) (s.2.1.2)),(.int .i64 (s.2.2.1)),(.int .i64 (s.2.2.2.1)),(.int .i64 (s.2.2.2.2.1)),(.vs tI (s.2.2.2.2.2.1.1) (s.2.2.2.2.2.1.2))])),(1,(.vs tO (p.1) (p.2))),(2,(.vs .bool (c.1) (c.2))),(3,(.ptr 0 0)),(6,(.bool (false))),(7,(.int .i64 ((stiV s p []).1))),(8,(.int .i64 ((stiV s p c.2).2))),(9,(.int .i64 ((stiV s p []).1))),(10,(.int .i64 ((stiV s p (unf (rd Ty.bool) (0+1) [AV.bool true])).2))),(13,(.int .i64 ((stiV s p c.2).1))),(14,(.int .i64 (wr .i64 (wr .i64 (↑p.2.length - ↑c.2.length)-1)))),(15,(.int .i64 ((stiV s p (unf (rd Ty.bool) (0+1) [AV.bool true])).1))),(16,(.int .i64 x20)),(17,(.int .i64 x21)),(20,(.tup [(.int .i64 ((stiV s p []).1)),(.int .i64 ((stiV s p []).2))])),(21,(.agg [(.int .i64 (s.1)),(.vs tN (s.2.1.1) (s.2.1.2)),(.int .i64 (s.2.2.1)),(.int .i64 (s.2.2.2.1)),(.int .i64 (s.2.2.2.2.1)),(.vs tI (s.2.2.2.2.2.1.1) (s.2.2.2.2.2.1.2))])),(22,(.vs tO (p.1) (p.2))),(23,(.tup [(.int .i64 ((stiV s p []).1)),(.int .i64 ((stiV s p []).2))])),(24,(.int .i64 ((stiV s p []).1))),(25,(.int .i64 ((stiV s p []).2))),(26,(.tup [(.int .i64 ((stiV s p []).1)),(.int .i64 ((stiV s p []).2))])),(27,(.agg [(.int .i64 (s.1)),(.vs tN (s.2.1.1) (s.2.1.2)),(.int .i64 (s.2.2.1)),(.int .i64 (s.2.2.2.1)),(.int .i64 (s.2.2.2.2.1)),(.vs tI (s.2.2.2.2.2.1.1) (s.2.2.2.2.2.1.2))])),(28,(.vs tO (p.1) (p.2))),(29,(.tup [(.int .i64 ((stiV s p []).1)),(.int .i64 ((stiV s p []).2))])),(30,(.int .i64 ((stiV s p []).1))),(31,(.int .i64 ((stiV s p []).2))),(32,(.agg [(.int .i64 (s.1)),(.vs tN (s.2.1.1) (s.2.1.2)),(.int .i64 (s.2.2.1)),(.int .i64 (s.2.2.2.1)),(.int .i64 (s.2.2.2.2.1)),(.vs tI (s.2.2.2.2.2.1.1) (s.2.2.2.2.2.1.2))])),(33,(.vs tO (p.1) (p.2))),(34,(.bool (ieq (plnV s p.2).2 0))),(35,(.bool (false))),(46,(.int .i64 ((stiV s p []).1))),(47,(.int .i64 ((stiV s p []).1))),(48,(.bool (!ieq (stiV s p []).1 (stiV s p []).1))),(49,(.bool (false))),(50,(.int .i64 ((stiV s p []).2))),(51,(.int .i64 ((stiV s p []).2))),(52,(.bool (!ieq (stiV s p []).2 (stiV s p []).2))),(53,(.bool (false))),(54,(.vs .bool (c.1) (c.2))),(55,(.int .i64 (Int.ofNat c.2.length))),(56,(.vs tO (p.1) (p.2))),(57,(.int .i64 (Int.ofNat p.2.length))),(58,(.bool (false))),(82,(.tup [(.int .i64 ((stiV s p c.2).1)),(.int .i64 ((stiV s p c.2).2))])),(83,(.agg [(.int .i64 (s.1)),(.vs tN (s.2.1.1) (s.2.1.2)),(.int .i64 (s.2.2.1)),(.int .i64 (s.2.2.2.1)),(.int .i64 (s.2.2.2.2.1)),(.vs tI (s.2.2.2.2.2.1.1) (s.2.2.2.2.2.1.2))])),(84,(.vs tO (p.1) (p.2))),(85,(.vs .bool (c.1) (c.2))),(86,(.tup [(.int .i64 ((stiV s p c.2).1)),(.int .i64 ((stiV s p c.2).2))])),(87,(.int .i64 ((stiV s p c.2).1))),(88,(.int .i64 ((stiV s p c.2).2))),(89,(.int .i64 ((stiV s p c.2).2))),(90,(.bool (false))),(100,(.vs tO (p.1) (p.2))),(101,(.int .i64 (Int.ofNat p.2.length))),(102,(.vs .bool (c.1) (c.2))),(103,(.int .i64 (Int.ofNat c.2.length))),(104,(.int .i64 (wr .i64 (↑p.2.length - ↑c.2.length)))),(105,(.int .i64 (wr .i64 (wr .i64 (↑p.2.length - ↑c.2.length)-1)))),(106,(.tup [(.int .i64 ((stiV s p (unf (rd Ty.bool) (0+1) [AV.bool true])).1)),(.int .i64 ((stiV s p (unf (rd Ty.bool) (0+1) [AV.bool true])).2))])),(107,(.agg [(.int .i64 (s.1)),(.vs tN (s.2.1.1) (s.2.1.2)),(.int .i64 (s.2.2.1)),(.int .i64 (s.2.2.2.1)),(.int .i64 (s.2.2.2.2.1)),(.vs tI (s.2.2.2.2.2.1.1) (s.2.2.2.2.2.1.2))])),(108,(.vs tO (p.1) (p.2))),(109,(.sl 3 0 (0) (0) 1)),(110,(.vs .bool (c.1) (c.2))),(111,(.sl 3 0 (0) (0) 1)),(112,(.sl 4 0 (1) (1) 1)),(113,(.sl 5 0 (1) (1) 1)),(114,(.tup [(.int .i64 ((stiV s p (unf (rd Ty.bool) (0+1) [AV.bool true])).1)),(.int .i64 ((stiV s p (unf (rd Ty.bool) (0+1) [AV.bool true])).2))])),(115,(.int .i64 ((stiV s p (unf (rd Ty.bool) (0+1) [AV.bool true])).1))),(116,(.int .i64 ((stiV s p (unf (rd Ty.bool) (0+1) [AV.bool true])).2))),(117,(.int .i64 ((stiV s p (unf (rd Ty.bool) (0+1) [AV.bool true])).2))),(118,(.bool (!ieq (stiV s p (unf (rd Ty.bool) (0+1) [AV.bool true])).2 0))),(119,(.bool (false))),(120,(.int .i64 ((stiV s p (unf (rd Ty.bool) (0+1) [AV.bool true])).1))),(121,(.int .i64 ((stiV s p c.2).1))),(122,(.int .i64 (wr .i64 (wr .i64 (↑p.2.length - ↑c.2.length)-1)))),(123,(.int .i64 (bif ile (stiV s p c.2).1 (wr .i64 (wr .i64 (↑p.2.length - ↑c.2.length)-1)) then (stiV s p c.2).1 else wr .i64 (wr .i64 (↑p.2.length - ↑c.2.length)-1)))),(124,(.bool (!ile (bif ile (stiV s p c.2).1 (wr .i64 (wr .i64 (↑p.2.length - ↑c.2.length)-1)) then (stiV s p c.2).1 else wr .i64 (wr .i64 (↑p.2.length - ↑c.2.length)-1)) (stiV s p (unf (rd Ty.bool) (0+1) [AV.bool true])).1))),(125,(.bool (!ile (bif ile (stiV s p c.2).1 (wr .i64 (wr .i64 (↑p.2.length - ↑c.2.length)-1)) then (stiV s p c.2).1 else wr .i64 (wr .i64 (↑p.2.length - ↑c.2.length)-1)) (stiV s p (unf (rd Ty.bool) (0+1) [AV.bool true])).1))),(126,(.bool (false))),(127,(.int .i64 ((stiV s p c.2).1))),(128,(.int .i64 (wr .i64 (wr .i64 (↑p.2.length - ↑c.2.length)-1)))),(129,(.int .i64 (wr .i64 (wr .i64 (wr .i64 (↑p.2.length - ↑c.2.length)-1)+1)))),(130,(.bool (!ile (stiV s p c.2).1 (wr .i64 (wr .i64 (wr .i64 (↑p.2.length - ↑c.2.length)-1)+1))))),(131,(.bool (false))),(132,(.vs .bool (c.1) (c.2))),(133,(.int .i64 (Int.ofNat c.2.length))),(134,(.int .i64 (wr .i64 (↑c.2.length-1))))]),(hpOf 6 [(0,(.cells false ([AV.int IntKind.i64 s.1,AV.vs tN s.2.1.1 s.2.1.2,AV.int IntKind.i64 s.2.2.1,AV.int IntKind.i64 s.2.2.2.1,AV.int IntKind.i64 s.2.2.2.2.1,AV.vs tI s.2.2.2.2.2.1.1 s.2.2.2.2.2.1.2]))),(1,(.cells false ([AV.int IntKind.i64 s.1,AV.vs tN s.2.1.1 s.2.1.2,AV.int IntKind.i64 s.2.2.1,AV.int IntKind.i64 s.2.2.2.1,AV.int IntKind.i64 s.2.2.2.2.1,AV.vs tI s.2.2.2.2.2.1.1 s.2.2.2.2.2.1.2]))),(2,(.cells false ([AV.int IntKind.i64 s.1,AV.vs tN s.2.1.1 s.2.1.2,AV.int IntKind.i64 s.2.2.1,AV.int IntKind.i64 s.2.2.2.1,AV.int IntKind.i64 s.2.2.2.2.1,AV.vs tI s.2.2.2.2.2.1.1 s.2.2.2.2.2.1.2]))),(3,.gone),(4,(.cells false ([AV.bool true]))),(5,(.cells true ([AV.bool true])))]),[],[],181,false⟩,⟨40,[]⟩,[(.lop (pcOf G3 5 [0,0,1,0,1,1,1,1,1,1,1,1,1,1,1,1]) 6 (tmOf 181 [(0,(.agg [(.int .i64 (s.1)),(.vs tN (s.2.1.1) (s.2.1.2)),(.int .i64 (s.2.2.1)),(.int .i64 (s.2.2.2.1)),(.int .i64 (s.2.2.2.2.1)),(.vs tI (s.2.2.2.2.2.1.1) (s.2.2.2.2.2.1.2))])),(1,(.vs tO (p.1) (p.2))),(2,(.vs .bool (c.1) (c.2))),(3,(.ptr 0 0)),(6,(.bool (false))),(7,(.int .i64 ((stiV s p []).1))),(8,(.int .i64 ((stiV s p c.2).2))),(9,(.int .i64 ((stiV s p []).1))),(10,(.int .i64 ((stiV s p (unf (rd Ty.bool) (0+1) [AV.bool true])).2))),(13,(.int .i64 ((stiV s p c.2).1))),(14,(.int .i64 (wr .i64 (wr .i64 (↑p.2.length - ↑c.2.length)-1)))),(15,(.int .i64 ((stiV s p (unf (rd Ty.bool) (0+1) [AV.bool true])).1))),(16,(.int .i64 (1))),(17,(.int .i64 (wr .i64 (↑c.2.length-1)))),(20,(.tup [(.int .i64 ((stiV s p []).1)),(.int .i64 ((stiV s p []).2))])),(21,(.agg [(.int .i64 (s.1)),(.vs tN (s.2.1.1) (s.2.1.2)),(.int .i64 (s.2.2.1)),(.int .i64 (s.2.2.2.1)),(.int .i64 (s.2.2.2.2.1)),(.vs tI (s.2.2.2.2.2.1.1) (s.2.2.2.2.2.1.2))])),(22,(.vs tO (p.1) (p.2))),(23,(.tup [(.int .i64 ((stiV s p []).1)),(.int .i64 ((stiV s p []).2))])),(24,(.int .i64 ((stiV s p []).1))),(25,(.int .i64 ((stiV s p []).2))),(26,(.tup [(.int .i64 ((stiV s p []).1)),(.int .i64 ((stiV s p []).2))])),(27,(.agg [(.int .i64 (s.1)),(.vs tN (s.2.1.1) (s.2.1.2)),(.int .i64 (s.2.2.1)),(.int .i64 (s.2.2.2.1)),(.int .i64 (s.2.2.2.2.1)),(.vs tI (s.2.2.2.2.2.1.1) (s.2.2.2.2.2.1.2))])),(28,(.vs tO (p.1) (p.2))),(29,(.tup [(.int .i64 ((stiV s p []).1)),(.int .i64 ((stiV s p []).2))])),(30,(.int .i64 ((stiV s p []).1))),(31,(.int .i64 ((stiV s p []).2))),(32,(.agg [(.int .i64 (s.1)),(.vs tN (s.2.1.1) (s.2.1.2)),(.int .i64 (s.2.2.1)),(.int .i64 (s.2.2.2.1)),(.int .i64 (s.2.2.2.2.1)),(.vs tI (s.2.2.2.2.2.1.1) (s.2.2.2.2.2.1.2))])),(33,(.vs tO (p.1) (p.2))),(34,(.bool (ieq (plnV s p.2).2 0))),(35,(.bool (false))),(46,(.int .i64 ((stiV s p []).1))),(47,(.int .i64 ((stiV s p []).1))),(48,(.bool (!ieq (stiV s p []).1 (stiV s p []).1))),(49,(.bool (false))),(50,(.int .i64 ((stiV s p []).2))),(51,(.int .i64 ((stiV s p []).2))),(52,(.bool (!ieq (stiV s p []).2 (stiV s p []).2))),(53,(.bool (false))),(54,(.vs .bool (c.1) (c.2))),(55,(.int .i64 (Int.ofNat c.2.length))),(56,(.vs tO (p.1) (p.2))),(57,(.int .i64 (Int.ofNat p.2.length))),(58,(.bool (false))),(82,(.tup [(.int .i64 ((stiV s p c.2).1)),(.int .i64 ((stiV s p c.2).2))])),(83,(.agg [(.int .i64 (s.1)),(.vs tN (s.2.1.1) (s.2.1.2)),(.int .i64 (s.2.2.1)),(.int .i64 (s.2.2.2.1)),(.int .i64 (s.2.2.2.2.1)),(.vs tI (s.2.2.2.2.2.1.1) (s.2.2.2.2.2.1.2))])),(84,(.vs tO (p.1) (p.2))),(85,(.vs .bool (c.1) (c.2))),(86,(.tup [(.int .i64 ((stiV s p c.2).1)),(.int .i64 ((stiV s p c.2).2))])),(87,(.int .i64 ((stiV s p c.2).1))),(88,(.int .i64 ((stiV s p c.2).2))),(89,(.int .i64 ((stiV s p c.2).2))),(90,(.bool (false))),(100,(.vs tO (p.1) (p.2))),(101,(.int .i64 (Int.ofNat p.2.length))),(102,(.vs .bool (c.1) (c.2))),(103,(.int .i64 (Int.ofNat c.2.length))),(104,(.int .i64 (wr .i64 (↑p.2.length - ↑c.2.length)))),(105,(.int .i64 (wr .i64 (wr .i64 (↑p.2.length - ↑c.2.length)-1)))),(106,(.tup [(.int .i64 ((stiV s p (unf (rd Ty.bool) (0+1) [AV.bool true])).1)),(.int .i64 ((stiV s p (unf (rd Ty.bool) (0+1) [AV.bool true])).2))])),(107,(.agg [(.int .i64 (s.1)),(.vs tN (s.2.1.1) (s.2.1.2)),(.int .i64 (s.2.2.1)),(.int .i64 (s.2.2.2.1)),(.int .i64 (s.2.2.2.2.1)),(.vs tI (s.2.2.2.2.2.1.1) (s.2.2.2.2.2.1.2))])),(108,(.vs tO (p.1) (p.2))),(109,(.sl 3 0 (0) (0) 1)),(110,(.vs .bool (c.1) (c.2))),(111,(.sl 3 0 (0) (0) 1)),(112,(.sl 4 0 (1) (1) 1)),(113,(.sl 5 0 (1) (1) 1)),(114,(.tup [(.int .i64 ((stiV s p (unf (rd Ty.bool) (0+1) [AV.bool true])).1)),(.int .i64 ((stiV s p (unf (rd Ty.bool) (0+1) [AV.bool true])).2))])),(115,(.int .i64 ((stiV s p (unf (rd Ty.bool) (0+1) [AV.bool true])).1))),(116,(.int .i64 ((stiV s p (unf (rd Ty.bool) (0+1) [AV.bool true])).2))),(117,(.int .i64 ((stiV s p (unf (rd Ty.bool) (0+1) [AV.bool true])).2))),(118,(.bool (!ieq (stiV s p (unf (rd Ty.bool) (0+1) [AV.bool true])).2 0))),(119,(.bool (false))),(120,(.int .i64 ((stiV s p (unf (rd Ty.bool) (0+1) [AV.bool true])).1))),(121,(.int .i64 ((stiV s p c.2).1))),(122,(.int .i64 (wr .i64 (wr .i64 (↑p.2.length - ↑c.2.length)-1)))),(123,(.int .i64 (bif ile (stiV s p c.2).1 (wr .i64 (wr .i64 (↑p.2.length - ↑c.2.length)-1)) then (stiV s p c.2).1 else wr .i64 (wr .i64 (↑p.2.length - ↑c.2.length)-1)))),(124,(.bool (!ile (bif ile (stiV s p c.2).1 (wr .i64 (wr .i64 (↑p.2.length - ↑c.2.length)-1)) then (stiV s p c.2).1 else wr .i64 (wr .i64 (↑p.2.length - ↑c.2.length)-1)) (stiV s p (unf (rd Ty.bool) (0+1) [AV.bool true])).1))),(125,(.bool (!ile (bif ile (stiV s p c.2).1 (wr .i64 (wr .i64 (↑p.2.length - ↑c.2.length)-1)) then (stiV s p c.2).1 else wr .i64 (wr .i64 (↑p.2.length - ↑c.2.length)-1)) (stiV s p (unf (rd Ty.bool) (0+1) [AV.bool true])).1))),(126,(.bool (false))),(127,(.int .i64 ((stiV s p c.2).1))),(128,(.int .i64 (wr .i64 (wr .i64 (↑p.2.length - ↑c.2.length)-1)))),(129,(.int .i64 (wr .i64 (wr .i64 (wr .i64 (↑p.2.length - ↑c.2.length)-1)+1)))),(130,(.bool (!ile (stiV s p c.2).1 (wr .i64 (wr .i64 (wr .i64 (↑p.2.length - ↑c.2.length)-1)+1))))),(131,(.bool (false))),(132,(.vs .bool (c.1) (c.2))),(133,(.int .i64 (Int.ofNat c.2.length))),(134,(.int .i64 (wr .i64 (↑c.2.length-1))))]) x313),(.blk 0),(.seq (pcOf G3 5 [1,1,1,1,1,1,1,1,1,1,1,1,1])),(.cal [(.tmp 6)] .top)]⟩
noncomputable def sS (s:tS.den) (k:Option Out):Option Out:=bif ieq s.1 s.1 then (bif bbeq s.2.1.1 s.2.1.1 then (bif vsB tN s.2.1.2 tN s.2.1.2 then (bif ieq s.2.2.1 s.2.2.1 then (bif ieq s.2.2.2.1 s.2.2.2.1 then (bif ieq s.2.2.2.2.1 s.2.2.2.2.1 then (bif bbeq s.2.2.2.2.2.1.1 s.2.2.2.2.2.1.1 then (bif vsB tI s.2.2.2.2.2.1.2 tI s.2.2.2.2.2.1.2 then k else none) else none) else none) else none) else none) else none) else none) else none
theorem sS_of (s:tS.den) (k:Option Out):sS s k=k:=by
 unfold sS;simp only[ieq_self,bbeq_self,vsB_self,cond_true]
noncomputable def appG (s:tS.den) (c:(Ty.sl .bool).den) (b:Bool) (k1 k2:List Bool→Option Out):Option Out:=bif c.2.length.ble 1048576&&oneAll (flat Ty.bool c.2)&&(G3.bytes 4).ble 65536 then (bif c.2.length.beq 0 then sS s (sS s (sS s (k1 (unf (rd Ty.bool) (0+1) [AV.bool b])))) else (bif (0+(0+c.2.length) * 1).beq (List.drop 0 (repl 0 (AV.bool false).cells)++flat Ty.bool c.2).length then (bif (0+c.2.length).ble 1048576 then (bif plainL ([]++flat Ty.bool c.2++[AV.bool b]) then (bif isF (rd Ty.bool) (0+c.2.length+1) ([]++flat Ty.bool c.2++[AV.bool b])&&true then sS s (sS s (sS s (k2 (unf (rd Ty.bool) (0+c.2.length+1) ([]++flat Ty.bool c.2++[AV.bool b]))))) else none) else none) else none) else none)) else none
theorem oneB:∀ l:List Bool,oneAll (flat Ty.bool l)=true
 |[]=>rfl
 |b::l=>by rw[flat_cons];exact oneB l
theorem plnB:∀ l:List Bool,plainL (flat Ty.bool l)=true
 |[]=>rfl
 |b::l=>by rw[flat_cons];exact plnB l
theorem flatB_len (l:List Bool):(flat Ty.bool l).length=l.length:=by
 rw[flat_length];show l.length * 1=_;omega
theorem flatB_add (l:List Bool) (b:Bool):[]++flat Ty.bool l++[AV.bool b]=flat Ty.bool (l++[b]):=by
 rw[flat_append];rfl
theorem byt4:(G3.bytes 4).ble 65536=true:=by kernel_rfl
theorem appG_of (s:tS.den) {c:(Ty.sl .bool).den} (h:c.2.length≤8) (b:Bool) (k1 k2:List Bool→Option Out):appG s c b k1 k2=bif c.2.length.beq 0 then k1 [b] else k2 (c.2++[b]):=by
 have e2:=unf_flat (t:=.bool) (c.2++[b]) (0+c.2.length+1) (by simp)
 unfold appG
 rw[Nat.ble_eq_true_of_le (show c.2.length≤1048576 by omega),oneB,byt4,flatB_add,plnB,e2.1,e2.2,Nat.ble_eq_true_of_le (show 0+c.2.length≤1048576 by omega),
  show (0+(0+c.2.length) * 1).beq (List.drop 0 (repl 0 (AV.bool false).cells)++flat Ty.bool c.2).length=true by
   rw[show List.drop 0 (repl 0 (AV.bool false).cells)++flat Ty.bool c.2=flat Ty.bool c.2 from rfl,flatB_len,show 0+(0+c.2.length) * 1=c.2.length by omega];exact Nat.beq_refl _]
 simp only[sS_of,Bool.and_true,cond_true]
 rfl
noncomputable def mnI (a b:Int):Int:=bif ile a b then a else b
noncomputable def lftI (p:(Ty.sl tO).den) (c:(Ty.sl .bool).den):Int:=wr .i64 (wr .i64 ((p.2.length:Int)-(c.2.length:Int))-1)
noncomputable def kG (I:Cfg) (s:tS.den) (p:(Ty.sl tO).den) (c:(Ty.sl .bool).den) (l:List Bool):Option Out:=bif !ieq (stiV s p l).2 0 then some (.done (.bool false)) else bif !ile (mnI (stiV s p c.2).1 (lftI p c)) (stiV s p l).1 then some (.done (.bool false)) else bif !ile (stiV s p c.2).1 (wr .i64 (lftI p c+1)) then some (.done (.bool false)) else some (.stop I)
noncomputable def kB (s:tS.den) (p:(Ty.sl tO).den) (c:(Ty.sl .bool).den) (l:List Bool):Option Out:=bif ieq (stiV s p l).2 0 then (bif ile (mnI (wr .i64 ((stiV s p c.2).1-1)) (lftI p c)) (stiV s p l).1 then some (.done (.bool true)) else some (.done (.bool false))) else some (.done (.bool false))
noncomputable def tlS (s:tS.den) (p:(Ty.sl tO).den) (c:(Ty.sl .bool).den) (r:Int):Option Out:=bif !ile r s.2.2.2.2.1 then some (.done (.bool true)) else bif ieq (stiV s p c.2).1 0 then some (.done (.bool true)) else appG s c false (kB s p c) (kB s p c)
theorem stl_start (s:tS.den) (p:(Ty.sl tO).den) (c:(Ty.sl .bool).den):adv G3 (Y3 [5]) 3000 (startC G3 5 [tS.av s,.vs tO p.1 p.2,.vs .bool c.1 c.2] 40)=(bif !ieq (plnV s p.2).2 0 then (bif !ieq (stiV s p []).2 0 then (bif ieq (stiV s p []).2 (stiV s p []).2 then some (.done (.bool (true))) else some (.done (.bool (false)))) else some (.done (.bool (false)))) else (bif !ieq (stiV s p []).1 (stiV s p []).1 then some (.done (.bool (false))) else (bif !ieq (stiV s p []).2 (stiV s p []).2 then some (.done (.bool (false))) else (bif ile ↑p.2.length ↑c.2.length then (bif ieq ↑c.2.length ↑p.2.length then (bif ieq (stiV s p c.2).1 0 then some (.done (.bool (true))) else some (.done (.bool (false)))) else (bif ieq (stiV s p c.2).2 3 then (bif ieq (stiV s p c.2).1 0 then some (.done (.bool (true))) else some (.done (.bool (false)))) else some (.done (.bool (false))))) else (bif !ieq (stiV s p c.2).2 0 then (bif ieq (stiV s p c.2).2 9 then (bif ieq (stiV s p c.2).1 0 then some (.done (.bool (true))) else some (.done (.bool (false)))) else some (.done (.bool (false)))) else appG s c true (kG (stlI1 s p c (1) (wr .i64 (↑c.2.length-1)) (1048575)) s p c) (kG (stlI0 s p c (1) (wr .i64 (↑c.2.length-1)) (1048575)) s p c)))))):=by kernel_rfl
theorem stl_step0 (s:tS.den) (p:(Ty.sl tO).den) (c:(Ty.sl .bool).den) (x20:Int) (x21:Int) (x313:Nat):adv G3 (Y3 [5]) 3000 (stlI0 s p c x20 x21 (x313+1))=(bif ile 0 x21 then (bif inB x21 c.2.length then (bif !c.2.getD x21.toNat Ty.bool.dflt then (bif plO (AO.cells true ([]++flat Ty.bool c.2++[AV.bool true])) then some (.stop (stlI0 s p c (wr .i64 (x20+1)) (wr .i64 (x21-1)) (x313))) else none) else tlS s p c x20) else none) else tlS s p c x20):=by kernel_rfl
theorem stl_step1 (s:tS.den) (p:(Ty.sl tO).den) (c:(Ty.sl .bool).den) (x20:Int) (x21:Int) (x313:Nat):adv G3 (Y3 [5]) 3000 (stlI1 s p c x20 x21 (x313+1))=(bif ile 0 x21 then (bif inB x21 c.2.length then (bif !c.2.getD x21.toNat Ty.bool.dflt then some (.stop (stlI1 s p c (wr .i64 (x20+1)) (wr .i64 (x21-1)) (x313))) else tlS s p c x20) else none) else tlS s p c x20):=by kernel_rfl
end Go.Proofs.Ytmpaifgmccdipaa


set_option maxRecDepth 100000
namespace Go.Proofs.Ytmpaifgmccdipaa
open Go Go.Eng
theorem fofV_app:∀ (l:List Bool) (b:Bool) (k:Int) (f:tB.den) (r:Int),fofV (l++[b]) k f r=bif b then ((fofV l k f r).1,0) else (setF (fofV l k f r).1 (k+(l.length:Int)),(fofV l k f r).2+1)
 |[],b,k,f,r=>by
  show (bif b then (f,(0:Int)) else (setF f k,r+1))=bif b then (f,0) else (setF f (k+((0:Nat):Int)),r+1)
  rw[show k+((0:Nat):Int)=k by omega]
 |a::l,b,k,f,r=>by
  have hl:k+(((a::l).length:Nat):Int)=k+1+(l.length:Int):=by rw[List.length_cons];omega
  rw[hl]
  cases a with
  |true=>exact fofV_app l b (k+1) f 0
  |false=>exact fofV_app l b (k+1) (setF f k) (r+1)
theorem bif_t {a b:Bool} (h:(bif a then b else false)=true):a=true∧b=true:=by
 cases a with
 |true=>exact⟨rfl,h⟩
 |false=>cases h
theorem hld_came {x:tX.den} {c:List Bool} {k:Int} (h:c.length<olX x) (H:hldV x c k=true):hldV x (c++[true]) k=true:=by
 unfold hldV at H⊢
 obtain⟨j,hj⟩:∃ j,olX x-c.length=j+1:=⟨olX x-c.length-1,by omega⟩
 rw[hj] at H
 rw[fofV_app,cond_true,show olX x-(c++[true]).length=j by rw[List.length_append];simp only[List.length_cons,List.length_nil];omega]
 exact (bif_t H).1
theorem hld_fail {x:tX.den} {c:List Bool} {k:Int} (h:c.length<olX x) (h1:1≤k) (hr:(fofV c 0 fno 0).2<rowX x) (H:hldV x c k=true):hldV x (c++[false]) (k-1)=true:=by
 unfold hldV at H⊢
 obtain⟨j,hj⟩:∃ j,olX x-c.length=j+1:=⟨olX x-c.length-1,by omega⟩
 rw[hj] at H
 rw[fofV_app,cond_false,show olX x-(c++[false]).length=j by rw[List.length_append];simp only[List.length_cons,List.length_nil];omega]
 have H2:(bif ieq k 0 then true else bif ile (rowX x) (fofV c 0 fno 0).2 then true else holV x j (setF (fofV c 0 fno 0).1 ((olX x:Int)-((j+1:Nat):Int))) ((fofV c 0 fno 0).2+1) (k-1))=true:=(bif_t H).2
 rw[show ieq k 0=false by rw[ieq_iff];exact decide_eq_false (by omega),cond_false,ile_f hr,cond_false] at H2
 rw[show (0:Int)+(c.length:Int)=(olX x:Int)-((j+1:Nat):Int) by omega]
 exact H2
theorem cnt_rng (x:tX.den) (c:List Bool):∀ (r:Nat) (k:Int),k≤cntV x c r k∧cntV x c r k≤k+r
 |0,k=>⟨Int.le_refl _,by show k≤k+0;omega⟩
 |r+1,k=>by
  have e:cntV x c (r+1) k=bif hldV x c k then cntV x c r (k+1) else k:=rfl
  have:=cnt_rng x c r (k+1)
  rw[e]
  cases hldV x c k with
  |true=>rw[cond_true];omega
  |false=>rw[cond_false];omega
theorem cnt_hold (x:tX.den) (c:List Bool):∀ (r:Nat) (k i:Int),k≤i→i<cntV x c r k→hldV x c i=true
 |0,k,i,h1,h2=>by have h2':i<k:=h2;omega
 | r + 1, k, i, h1, h2 => by
  have e:cntV x c (r+1) k=bif hldV x c k then cntV x c r (k+1) else k:=rfl
  rw[e] at h2
  cases h:hldV x c k with
  |true=>
   rw[h,cond_true] at h2
   by_cases hk:i=k
   · rw[hk];exact h
   · exact cnt_hold x c r (k+1) i (by omega) h2
  |false=>rw[h,cond_false] at h2;omega
theorem cnt_ge (x:tX.den) (c:List Bool):∀ (r:Nat) (k a:Int),(∀ i,k≤i→i<a→hldV x c i=true)→a≤k+r→a≤cntV x c r k
 |0,k,a,_,h=>by show a≤k;omega
 |r+1,k,a,H,h=>by
  have e:cntV x c (r+1) k=bif hldV x c k then cntV x c r (k+1) else k:=rfl
  rw[e]
  by_cases hk:k<a
  · rw [H k (Int.le_refl _) hk, cond_true]
    exact cnt_ge x c r (k+1) a (fun i h1 h2=>H i (by omega) h2) (by omega)
  · have := cnt_rng x c r (k + 1)
    cases hldV x c k with
    |true=>rw[cond_true];omega
    |false=>rw[cond_false];omega
theorem grE_pos {n:Int} (h:1≤n):grE n=(n-1,0):=by
 unfold grE;rw[ile_t (by omega),cond_true]
theorem grE_neg {n:Int} (h:n<1):grE n=(0,9):=by
 unfold grE;rw[ile_f (by omega),cond_false]
theorem sti_eq {s:tS.den} {p:(Ty.sl tO).den} {c:List Bool} (V:ieq (plnV s p.2).2 0=true) (h:c.length≤p.2.length):stiV s p c=grE (cntV (xSP s p) c (p.2.length-c.length+1) 0):=by
 unfold stiV;rw[V,cond_true,ile_t (by omega),cond_true]
theorem sti_came {s:tS.den} {p:(Ty.sl tO).den} {c:List Bool} (V:ieq (plnV s p.2).2 0=true) (h:c.length<p.2.length) (h0:(stiV s p c).2=0) :
  (stiV s p (c++[true])).2=0∧mnI (stiV s p c).1 ((p.2.length:Int)-c.length-1)≤(stiV s p (c++[true])).1∧(stiV s p c).1≤(p.2.length:Int)-c.length:=by
 have hl:(c++[true]).length=c.length+1:=by simp
 rw[sti_eq (c:=c) V (by omega)] at h0⊢
 rw[sti_eq (c:=c++[true]) V (by omega),hl]
 generalize hn:cntV (xSP s p) c (p.2.length-c.length+1) 0=n at h0⊢
 have hr:=cnt_rng (xSP s p) c (p.2.length-c.length+1) 0
 rw[hn] at hr
 have hn1:1≤n:=by
  by_cases q:1≤n
  · exact q
  · rw[grE_neg (by omega)] at h0;cases h0
 have hg:(if n≤(p.2.length:Int)-c.length then n else (p.2.length:Int)-c.length)≤cntV (xSP s p) (c++[true]) (p.2.length-(c.length+1)+1) 0:=by
  refine cnt_ge _ _ _ _ _ (fun i h1 h2=>hld_came h (cnt_hold _ _ (p.2.length-c.length+1) 0 i h1 (by rw[hn];split at h2<;>omega))) (by split<;>omega)
 generalize cntV (xSP s p) (c++[true]) (p.2.length-(c.length+1)+1) 0=m at hg⊢
 have hm:1≤m:=by split at hg<;>omega
 rw[grE_pos hn1,grE_pos hm]
 refine⟨rfl,?_,by show n-1≤_;omega⟩
 show mnI (n-1) _≤m-1
 unfold mnI
 cases q:ile (n-1) ((p.2.length:Int)-c.length-1) with
 |true=>have:=ile_le q;rw[cond_true];split at hg<;>omega
 |false=>have:=ile_gt q;rw[cond_false];split at hg<;>omega
theorem sti_fail {s:tS.den} {p:(Ty.sl tO).den} {c:List Bool} (V:ieq (plnV s p.2).2 0=true) (h:c.length<p.2.length) (h0:(stiV s p c).2=0) (h1:1≤(stiV s p c).1) (hr:(fofV c 0 fno 0).2<rowX (xSP s p)) :
  (stiV s p (c++[false])).2=0∧mnI ((stiV s p c).1-1) ((p.2.length:Int)-c.length-1)≤(stiV s p (c++[false])).1:=by
 have hl:(c++[false]).length=c.length+1:=by simp
 rw[sti_eq (c:=c) V (by omega)] at h0 h1⊢
 rw[sti_eq (c:=c++[false]) V (by omega),hl]
 generalize hn:cntV (xSP s p) c (p.2.length-c.length+1) 0=n at h0 h1⊢
 have hn1:1≤n:=by
  by_cases q:1≤n
  · exact q
  · rw[grE_neg (by omega)] at h0;cases h0
 rw[grE_pos hn1] at h1⊢
 have h1':1≤n-1:=h1
 have hg:(if n-1≤(p.2.length:Int)-c.length then n-1 else (p.2.length:Int)-c.length)≤cntV (xSP s p) (c++[false]) (p.2.length-(c.length+1)+1) 0:=by
  refine cnt_ge _ _ _ _ _ (fun i h1 h2=>?_) (by split<;>omega)
  have:=hld_fail (x:=xSP s p) (c:=c) (k:=i+1) h (by omega) hr (cnt_hold _ _ (p.2.length-c.length+1) 0 (i+1) (by omega) (by rw[hn];split at h2<;>omega))
  rw[show i+1-1=i by omega] at this
  exact this
 generalize cntV (xSP s p) (c++[false]) (p.2.length-(c.length+1)+1) 0=m at hg⊢
 have hm:1≤m:=by split at hg<;>omega
 rw[grE_pos hm]
 refine⟨rfl,?_⟩
 show mnI (n-1-1) _≤m-1
 unfold mnI
 cases q:ile (n-1-1) ((p.2.length:Int)-c.length-1) with
 |true=>have:=ile_le q;rw[cond_true];split at hg<;>omega
 |false=>have:=ile_gt q;rw[cond_false];split at hg<;>omega
end Go.Proofs.Ytmpaifgmccdipaa


set_option maxRecDepth 100000
namespace Go.Proofs.Ytmpaifgmccdipaa
open Go Go.Eng
theorem lft_eq {p:(Ty.sl tO).den} {c:(Ty.sl .bool).den} (h:c.2.length<p.2.length) (h8:p.2.length≤8):lftI p c=(p.2.length:Int)-c.2.length-1:=by
 unfold lftI;rw[wr_in (show -9223372036854775808≤((p.2.length:Int)-(c.2.length:Int)) by omega) (by omega),wr_in (by omega) (by omega)]
theorem sti_0 {s:tS.den} {p:(Ty.sl tO).den} {c:List Bool} (V:ieq (plnV s p.2).2 0=true) (h:c.length≤p.2.length):0≤(stiV s p c).1∧(stiV s p c).1≤9:=by
 rw[sti_eq V h]
 have hr:=cnt_rng (xSP s p) c (p.2.length-c.length+1) 0
 have h8:=(pln_ok V).len
 generalize cntV (xSP s p) c (p.2.length-c.length+1) 0=n at hr⊢
 by_cases q:1≤n
 · rw[grE_pos q];show 0≤n-1∧n-1≤9;omega
 · rw[grE_neg (by omega)];exact⟨Int.le_refl _,by decide⟩
theorem tl_fin {s:tS.den} {p:(Ty.sl tO).den} {c:(Ty.sl .bool).den} (V:ieq (plnV s p.2).2 0=true) (hc:c.2.length<p.2.length) (h0:(stiV s p c.2).2=0) {cfg:Cfg} {q:Nat} {r:Int} (hr:r=(fofV c.2 0 fno 0).2+1) (h:adv G3 (Y3 [5]) q cfg=tlS s p c r):AnsB G3 cfg true:=by
 have h8:=(pln_ok V).len
 unfold tlS at h
 cases c1:ile r s.2.2.2.2.1 with
 |false=>rw[c1] at h;exact .doneB (Y3_ok _) G3sy h rfl
 |true=>
 rw[c1,Bool.not_true,cond_false] at h
 cases c2:ieq (stiV s p c.2).1 0 with
 |true=>rw[c2] at h;exact .doneB (Y3_ok _) G3sy h rfl
 |false=>
 rw[c2,cond_false,appG_of s (by omega)] at h
 have hn:=sti_0 (s:=s) (c:=c.2) V (by omega)
 have hn0:(stiV s p c.2).1≠0:=fun e=>by rw[e] at c2;cases c2
 have hlt:(fofV c.2 0 fno 0).2<rowX (xSP s p):=by
  have q:(fofV c.2 0 fno 0).2+1≤rowX (xSP s p):=by rw[← hr];exact ile_le c1
  exact Int.add_one_le_iff.1 q
 obtain⟨k1,k2⟩:=sti_fail V hc h0 (by omega) hlt
 have e:kB s p c (c.2++[false])=some (.done (.bool true)):=by
  unfold kB
  rw[k1,lft_eq hc h8,wr_in (show -9223372036854775808≤(stiV s p c.2).1-1 by omega) (by omega),ile_t k2];rfl
 cases hz:c.2.length.beq 0 with
 |true=>
  have:c.2=[]:=List.length_eq_zero_iff.1 (Nat.eq_of_beq_eq_true hz)
  rw[hz,cond_true] at h
  rw[this,List.nil_append] at e
  rw[e] at h
  exact .doneB (Y3_ok _) G3sy h rfl
 |false=>rw[hz,cond_false,e] at h;exact .doneB (Y3_ok _) G3sy h rfl
theorem stl_lp0 {s:tS.den} {p:(Ty.sl tO).den} {c:(Ty.sl .bool).den} (V:ieq (plnV s p.2).2 0=true) (hc:c.2.length<p.2.length) (h0:(stiV s p c.2).2=0):∀ (i j m0:Nat),i+j=c.2.length→i<m0→(fofV c.2 0 fno 0).2=(fofV (c.2.take i) 0 fno 0).2+j→AnsB G3 (stlI0 s p c ((j:Int)+1) ((i:Int)-1) m0) true
 |0,j,m0,hj,hm,hf=>by
  obtain⟨m,rfl⟩:∃ m,m0=m+1:=⟨m0-1,by omega⟩
  have h:=stl_step0 s p c ((j:Int)+1) (((0:Nat):Int)-1) m
  rw[ile_f (show (((0:Nat):Int)-1)<0 by omega),cond_false] at h
  rw[List.take_zero] at hf
  have hf':(fofV c.2 0 fno 0).2=0+(j:Int):=hf
  exact tl_fin V hc h0 (by omega) h
 | i + 1, j, m0, hj, hm, hf => by
  obtain⟨m,rfl⟩:∃ m,m0=m+1:=⟨m0-1,by omega⟩
  have h8:=(pln_ok V).len
  have hlt:i<c.2.length:=by omega
  have h:=stl_step0 s p c ((j:Int)+1) (((i+1:Nat):Int)-1) m
  rw[show ((i+1:Nat):Int)-1=(i:Int) by omega] at h⊢
  rw[ile_t (show (0:Int)≤(i:Int) by omega),cond_true,inB_at hlt,cond_true,getD_at hlt,flatB_add,show plO (AO.cells true (flat Ty.bool (c.2++[true])))=true from plnB _,cond_true,wr_in (show -9223372036854775808≤(j:Int)+1+1 by omega) (by omega),wr_in (show -9223372036854775808≤(i:Int)-1 by omega) (by omega)] at h
  have ht:c.2.take (i+1)=c.2.take i++[c.2[i]]:=by
   rw[List.take_add_one,List.getElem?_eq_getElem hlt];rfl
  rw[ht,fofV_app] at hf
  cases cb:(c.2[i]:Bool) with
  |true=>
   rw[show (c.2[i]:Bool)=true from cb,Bool.not_true,cond_false] at h
   rw[cb,cond_true] at hf
   have hf':(fofV c.2 0 fno 0).2=0+(j:Int):=hf
   exact tl_fin V hc h0 (by omega) h
  |false=>
   rw[show (c.2[i]:Bool)=false from cb,Bool.not_false,cond_true] at h
   rw[cb,cond_false] at hf
   have hf':(fofV c.2 0 fno 0).2=(fofV (c.2.take i) 0 fno 0).2+1+(j:Int):=hf
   have:=stl_lp0 V hc h0 i (j+1) m (by omega) (by omega) (by omega)
   rw[show (((j+1:Nat):Int)+1)=(j:Int)+1+1 by omega] at this
   exact .stop (Y3_ok _) G3sy h this
theorem stl_true (s:tS.den) (p:(Ty.sl tO).den) (c:(Ty.sl .bool).den):∃ σ,callN G3 (40+1) 5 [tS.av s,(Ty.sl tO).av p,(Ty.sl .bool).av c] .empty [] []=some (.bool true,σ,[]):=by
 refine AnsB.call (ext_none (by kernel_rfl)) (hasB_spec (by kernel_rfl)) ?_
 have h:=stl_start s p c
 cases V:ieq (plnV s p.2).2 0 with
 |false=>
  have e:stiV s p []=(0,(plnV s p.2).2):=by unfold stiV;rw[V];rfl
  rw[e,show ieq (plnV s p.2).2 0=false from V] at h
  simp only[Bool.not_false,cond_true,ieq_self] at h
  exact .doneB (Y3_ok _) G3sy h rfl
 |true=>
 have h8:=(pln_ok V).len
 rw[show ieq (plnV s p.2).2 0=true from V] at h
 simp only[Bool.not_true,cond_false,ieq_self] at h
 cases c1:ile (p.2.length:Int) (c.2.length:Int) with
 | true =>
  rw[show ile (↑p.2.length) (↑c.2.length)=true from c1,cond_true] at h
  have hle:=ile_le c1
  cases c2:ieq (c.2.length:Int) (p.2.length:Int) with
  | true =>
   have he:=ieq_eq c2
   have hr:=cnt_rng (xSP s p) c.2 (p.2.length-c.2.length+1) 0
   have e:(stiV s p c.2).1=0:=by
    rw[sti_eq V (by omega)]
    generalize cntV (xSP s p) c.2 (p.2.length-c.2.length+1) 0=n at hr⊢
    by_cases q:1≤n
    · rw[grE_pos q];show n-1=0;omega
    · rw[grE_neg (by omega)]
   rw[show ieq (↑c.2.length) (↑p.2.length)=true from c2,e] at h
   exact .doneB (Y3_ok _) G3sy h rfl
  | false =>
   have hne:¬ (c.2.length:Int)≤(p.2.length:Int):=fun hh=>by
    have:(c.2.length:Int)=p.2.length:=by omega
    rw[this,ieq_self] at c2;cases c2
   have e:stiV s p c.2=(0,3):=by unfold stiV;rw[V,cond_true,ile_f (by omega),cond_false]
   rw[show ieq (↑c.2.length) (↑p.2.length)=false from c2,e] at h
   exact .doneB (Y3_ok _) G3sy h rfl
 |false=>
 rw[show ile (↑p.2.length) (↑c.2.length)=false from c1,cond_false] at h
 have hlt:c.2.length<p.2.length:=by have:=ile_gt c1;omega
 cases c2:ieq (stiV s p c.2).2 0 with
 | false =>
  have e:stiV s p c.2=(0,9):=by
   rw[sti_eq V (by omega)] at c2⊢
   generalize cntV (xSP s p) c.2 (p.2.length-c.2.length+1) 0=n at c2⊢
   by_cases q:1≤n
   · rw[grE_pos q] at c2;cases c2
   · exact grE_neg (by omega)
  rw[e] at h
  exact .doneB (Y3_ok _) G3sy h rfl
 |true=>
 have h0:(stiV s p c.2).2=0:=ieq_eq c2
 obtain⟨k1,k2,k3⟩:=sti_came V hlt h0
 have hn:=sti_0 (s:=s) (c:=c.2) V (by omega)
 have hk:∀ I,kG I s p c (c.2++[true])=some (.stop I):=fun I=>by
  unfold kG
  rw[k1,lft_eq hlt h8,ile_t k2,wr_in (show -9223372036854775808≤(p.2.length:Int)-c.2.length-1+1 by omega) (by omega),ile_t (show (stiV s p c.2).1≤(p.2.length:Int)-c.2.length-1+1 by omega)];rfl
 rw[show ieq (stiV s p c.2).2 0=true from c2,Bool.not_true,cond_false,appG_of s (by omega)] at h
 cases hz:c.2.length.beq 0 with
 |true=>
  have hl0:c.2.length=0:=Nat.eq_of_beq_eq_true hz
  have he:c.2=[]:=List.length_eq_zero_iff.1 hl0
  have hk1:=hk (stlI1 s p c (1) (wr .i64 (↑c.2.length-1)) (1048575))
  have e1:c.2++[true]=[true]:=by rw[he,List.nil_append]
  rw[e1] at hk1
  rw[show c.2.length.beq 0=true from hz,cond_true,hk1] at h
  refine .stop (Y3_ok _) G3sy h ?_
  have h2:=stl_step1 s p c 1 (wr .i64 (↑c.2.length-1)) 1048574
  rw[wr_in (show -9223372036854775808≤(c.2.length:Int)-1 by omega) (by omega),ile_f (show (c.2.length:Int)-1<0 by omega),cond_false] at h2
  rw[wr_in (show -9223372036854775808≤(c.2.length:Int)-1 by omega) (by omega)]
  exact tl_fin V hlt h0 (by rw[he];rfl) h2
 |false=>
  rw[show c.2.length.beq 0=false from hz,cond_false,hk,wr_in (show -9223372036854775808≤(c.2.length:Int)-1 by omega) (by omega)] at h
  refine .stop (Y3_ok _) G3sy h ?_
  exact stl_lp0 V hlt h0 c.2.length 0 1048575 (by omega) (by omega) (by rw[List.take_length];show _=_+((0:Nat):Int);omega)
end Go.Proofs.Ytmpaifgmccdipaa


namespace Go.Eng
open Go
attribute [local irreducible] upTo
noncomputable def oldAll (since:Nat):List ((AV×AV)×Nat)→Bool
 |[]=>true
 |z::l=>match Nat.ble since z.2 with
  |true=>false
  |false=>oldAll since l
noncomputable def nextL (τ:Tmps) (σ:Hp) (x:Operand):Option (List (AV×Hp)):=
 match ev τ x with
 | some (.iter id) => match σ.get id with
  | some (.miter m since seen last) => match σ.get m with
   | some (.cmap es bs ck) => match (match seen, es with | [], _ => false | _, [] => false | _, _ => allB last bs) with
    |true=>none
    | false => match leftM es bs seen with
     |[]=>some [(.tup [.bool false],σ)]
     |y::l=>match oldAll since (y::l) with
      |true=>some ((y::l).map fun z=>(.tup [.bool true,z.1.1,z.1.2],σ.set id (.miter m since (seen++[z.2]) ck)))
      |false=>none
   |_=>none
  |_=>none
 |_=>none
section
variable {P:Program} {E:Env} {base:Nat} {V:View} {σ:Hp} {W:World} {τ:Tmps} {ρ:Operand→Value}
variable {dst:Option Tmp} {ty:TypeId} {pos:String} {after:Array Edge} {guard:Option (Nat×Bool)}
theorem oldAll_spec {since:Nat}:∀ {l:List ((AV×AV)×Nat)},oldAll since l=true→∀ z∈l,z.2<since
 |[],_,z,hz=>by cases hz
 |y::l,h,z,hz=>by
  simp only[oldAll] at h
  split at h
  · cases h
  · rename_i hb
    rcases List.mem_cons.1 hz with rfl|hz
    · have : ¬ since ≤ z.2 := fun e => by rw [Nat.ble_eq_true_of_le e] at hb; cases hb
      omega
    · exact oldAll_spec h z hz
theorem left_all {seen:List Nat}:∀ {es:List (AV×AV)} {en:List MapEntry},VRs V (es.map (·.1)) (en.map (·.key))→VRs V (es.map (·.2)) (en.map (·.val)) →
  (leftM es (en.map (·.born)) seen).length=(en.filter fun e=>!seen.contains e.born).length ∧
  ∀ (j:Nat) (e:MapEntry),(en.filter fun e=>!seen.contains e.born)[j]?=some e→∃ k v,(leftM es (en.map (·.born)) seen)[j]?=some ((k,v),e.born)∧VR V k e.key∧VR V v e.val
 |[],[],_,_=>⟨rfl,fun j e h=>by rw[List.filter_nil] at h;simp at h⟩
 |[],_::_,h,_=>absurd h.1 (by simp)
 |_::_,[],h,_=>absurd h.1 (by simp)
 | (k, v) :: es, e :: en, h1, h2 => by
  obtain⟨A,As,ea,hx,h1'⟩:=h1.cons_inv
  obtain⟨B,Bs,eb,hv,h2'⟩:=h2.cons_inv
  simp only[List.map_cons,List.cons.injEq] at ea eb
  obtain⟨rfl,rfl⟩:=ea
  obtain⟨rfl,rfl⟩:=eb
  obtain⟨i1,i2⟩:=left_all (seen:=seen) h1' h2'
  simp only[List.map_cons,leftM,memN_eq]
  cases hc:seen.contains e.born with
  |true=>
   rw[List.filter_cons_of_neg (by simp only[hc];decide)]
   exact⟨i1,i2⟩
  | false =>
   rw[List.filter_cons_of_pos (by simp only[hc];rfl)]
   refine⟨by simp only[List.length_cons,i1],fun j e' h=>?_⟩
   cases j with
   |zero=>
    simp only[List.getElem?_cons_zero,Option.some.injEq] at h;subst h
    exact⟨k,v,rfl,hx,hv⟩
   |succ j=>
    rw[List.getElem?_cons_succ] at h
    exact i2 j e' h
theorem run_choose_next {n:Nat} (hn:0<n):∃ i W1,i<n∧(W1=W∨W1=W.drew)∧(choose (.mapNext n)).run P W=.ok i W1:=by
 cases h:(Question.mapNext n).forced with
 |true=>
  refine⟨0,W,hn,.inl rfl,?_⟩
  rw[run_choose,if_pos h]
 |false=>
  refine⟨W.tape W.drawn (.mapNext n) % n,W.drew,Nat.mod_lt _ hn,.inr rfl,?_⟩
  rw[run_choose,if_neg (by rw[h];decide)];rfl
variable (hE:EnvOK P E) (H:HR E base V σ W) (hb:base≤W.heap.size) (hρ:EvR V τ ρ)
include hE H hb hρ
theorem s_nextL (x : Operand) {L : List (AV × Hp)} (h : nextL τ σ x = some L) : ∃ r ∈ L, OpOK P E base V σ W ((execOp ρ ⟨dst, .next x false, ty, pos, after, guard⟩).run P W) (.val r.1 r.2) := by
 unfold nextL at h
 split at h
 · rename_i id hx
   split at h
   · rename_i m since seen last hget
     split at h
     · rename_i es bs ck hgm
       obtain⟨blk,sh,hm,hbase,hlt,rfl,mb,hmb,hobj⟩:=H.obj _ _ hget (by simp)
       obtain⟨blk2,sh2,hm2,_,hlt2,rfl,en,hobj2,hv1,hv2,rfl⟩:=H.obj _ _ hgm (by simp)
       rw[hmb] at hm2;simp only[Option.some.injEq,Prod.mk.injEq,and_true] at hm2;subst hm2
       have hX:ρ x=.pointer (some ⟨blk,0,none⟩):=by
        have:=hρ x _ hx
        generalize ρ x=X at this
        cases this with
        |iter _ blk' hm'=>rw[hm] at hm';simp only[Option.some.injEq,Prod.mk.injEq,and_true] at hm';subst hm';rfl
       have hg:=getObj_run (P:=P) hE H hb hρ hobj (by intro c t f e;cases e)
       have hg2:=getObj_run (P:=P) hE H hb hρ hobj2 (by intro c t f e;cases e)
       split at h
       · cases h
       · rename_i hcond
         have hc:(!seen.toArray.isEmpty&&!en.isEmpty&&en.all (fun e=>decide (e.born ≥ last)))=false:=by
          cases seen with
          |nil=>rfl
          | cons a seen =>
           cases hes:es with
           |nil=>
            subst hes
            have:en.toList.length=0:=by have:=hv1.1;simpa using this.symm
            have:en=#[]:=Array.toList_eq_nil_iff.1 (List.eq_nil_of_length_eq_zero this)
            subst this;simp
           | cons y es' =>
            rw[hes] at hcond
            simp only[allB_eq] at hcond
            have:en.all (fun e=>decide (e.born ≥ last))=false:=by
             rw[← Array.all_toList]
             rw[List.all_map] at hcond
             exact hcond
            rw[this,Bool.and_false]
         obtain⟨hll,hls⟩:=left_all (V:=V) (seen:=seen) hv1 hv2
         have hfilt:en.filter (fun e=>!seen.toArray.contains e.born)=(en.toList.filter fun e=>!seen.contains e.born).toArray:=by
          apply Array.ext'
          rw[Array.toList_filter]
          simp
         split at h
         · rename_i hl
           simp only[Option.some.injEq] at h;subst h
           rw[hl] at hll
           refine⟨_,List.mem_cons_self,.same H (v':=.tuple #[.bool false]) ?_ (VR.tup' (A:=[.bool false]) (.cons (.bool _) (.nil _)))⟩
           have hf0:en.filter (fun e=>!seen.toArray.contains e.born)=#[]:=by rw[hfilt,List.eq_nil_of_length_eq_zero hll.symm]
           simp only[execOp,Instr.next,hX,Sem.run_bind,hg,hg2,Result.andThen_ok,hc,Bool.false_eq_true,if_false,hf0]
           simp[Question.forced]
         · rename_i y l hl
           split at h
           · rename_i hold
             simp only[Option.some.injEq] at h;subst h
             rw[hl] at hll hls
             have hold':=oldAll_spec hold
             have hF:∀ e∈en.toList.filter (fun e=>!seen.contains e.born),e.born<since:=fun e he=>by
              obtain⟨j,hj,hje⟩:=List.getElem_of_mem he
              obtain⟨k,v,h1,_,_⟩:=hls j e (by rw[List.getElem?_eq_getElem hj,hje])
              exact hold' _ (List.mem_of_getElem? h1)
             obtain⟨i,W1,hi,hW1,hch⟩:=run_choose_next (P:=P) (W:=W) (n:=(en.toList.filter fun e=>!seen.contains e.born).length) (by rw[← hll];exact Nat.succ_pos _)
             have he:(en.toList.filter fun e=>!seen.contains e.born)[i]?=some ((en.toList.filter fun e=>!seen.contains e.born)[i]):=List.getElem?_eq_getElem hi
             obtain⟨k,v,h1,hk,hv⟩:=hls i _ he
             refine⟨_,List.mem_map.2 ⟨_,List.mem_of_getElem? h1,rfl⟩,?_⟩
             generalize hee:(en.toList.filter fun e=>!seen.contains e.born)[i]=e at he h1 hk hv
             have H1:HR E base V σ W1:=by
              rcases hW1 with rfl|rfl
              · exact H
              · exact H.drew
             have hobj1:W1.heap[blk]?=some (.mapIter (some mb) since seen.toArray last):=by rcases hW1 with rfl|rfl<;>exact hobj
             have hb1:base≤W1.heap.size:=by rcases hW1 with rfl|rfl<;>exact hb
             have hlt1:blk<W1.heap.size:=by rcases hW1 with rfl|rfl<;>exact hlt
             have hset:=setObj_run (P:=P) hE H1 hb1 hρ hobj1 (by intro c t f e;cases e) (o':=.mapIter (some mb) since (seen++[e.born]).toArray ck)
             have hup:=upd_obj hE H1 hb1 hρ hget (by simp) hm hobj1 (by intro c t f e;cases e) (obj':=.mapIter (some mb) since (seen++[e.born]).toArray ck) (o':=.miter m since (seen++[e.born]) ck) ⟨rfl,mb,hmb,by simp[hlt1]⟩
             have hstp:Stp E base V σ W V (σ.set id (.miter m since (seen++[e.born]) ck)) { W1 with heap:=W1.heap.setIfInBounds blk (.mapIter (some mb) since (seen++[e.born]).toArray ck) }:=by
              rcases hW1 with h1|h1
              · rw[h1] at hup⊢;exact hup
              · rw[h1] at hup⊢;exact hup.of_drew
             refine⟨V,_,.tuple #[.bool true,e.key,e.val],?_,hstp,VR.tup' (A:=[.bool true,e.key,e.val]) (.cons (.bool _) (.cons hk (.cons hv (.nil _))))⟩
             have hfs:en.filter (fun e=>!seen.toArray.contains e.born)=(en.toList.filter fun e=>!seen.contains e.born).toArray:=hfilt
             generalize hFL:(en.toList.filter fun e=>!seen.contains e.born)=F at hfs hF hi hch hee he hll
             have o1:F.toArray.filter (fun x=>decide (x.born<since))=F.toArray:=by
              apply Array.ext'
              rw[Array.toList_filter]
              exact List.filter_eq_self.2 fun e he=>decide_eq_true (hF e he)
             have o2:F.toArray.filter (fun x=>decide (x.born ≥ since))=#[]:=by
              apply Array.ext'
              rw[Array.toList_filter]
              exact List.filter_eq_nil_iff.2 fun e he=>by have:=hF e he;simp;omega
             have hne:F.toArray.isEmpty=false:=by
              cases F with
              |nil=>simp at hi
              |cons a F=>rfl
             simp only[execOp,Instr.next,hX,Sem.run_bind,hg,hg2,Result.andThen_ok,hc,Bool.false_eq_true,if_false,hfs,o1,o2,hne,Array.append_empty,Array.empty_append]
             have e3:(Array.map some F.toArray).size=F.length:=by simp
             have e4:(Array.map some F.toArray)[i]?=some (some e):=by simp[he]
             simp only[e3,hch,Result.andThen_ok,e4,Sem.run_bind]
             rw[← List.push_toArray] at hset
             simp only[hset,Result.andThen_ok,Sem.run_pure]
             rw[List.push_toArray]
           · cases h
     · cases h
   · cases h
 · cases h
end
end Go.Eng


namespace Go.Eng
open Go
attribute [local irreducible] upTo
noncomputable def optL {α:Type} (o:Option α):Option (List α):=
 match o with
 |some a=>some [a]
 |none=>none
noncomputable def bindL {α β:Type} (f:α→Option (List β)):List α→Option (List β)
 |[]=>some []
 | a :: l => match f a with
  |some x=>match bindL f l with
   |some y=>some (x++y)
   |none=>none
  |none=>none
theorem bindL_mem {α β : Type} {f : α → Option (List β)} : ∀ {l : List α} {r : List β}, bindL f l = some r → ∀ a ∈ l, ∃ x, f a = some x ∧ ∀ b ∈ x, b ∈ r
 |[],r,_,a,ha=>by cases ha
 | b :: l, r, h, a, ha => by
  simp only[bindL] at h
  split at h
  · rename_i x hx
    split at h
    · rename_i y hy
      simp only[Option.some.injEq] at h;subst h
      rcases List.mem_cons.1 ha with rfl|ha
      · exact⟨x,hx,fun b hb=>List.mem_append_left _ hb⟩
      · obtain ⟨x', h1, h2⟩ := bindL_mem hy a ha
        exact⟨x',h1,fun b hb=>List.mem_append_right _ (h2 b hb)⟩
    · cases h
  · cases h
noncomputable def isNextM:Op→Option Operand
 |.next x false=>some x
 |_=>none
theorem isNextM_eq {o:Op} {x:Operand} (h:isNextM o=some x):o=.next x false:=by
 unfold isNextM at h
 split at h
 · simp only[Option.some.injEq] at h;subst h;rfl
 · cases h
noncomputable def oneOpL (E:Env) (call:CallF) (hs:Hnds) (ops:Array Oper) (o:Oper) (st:St):Option (List St):=
 match isNextM o.op with
 | some x => match wantedA ops st.τ o with
  |some true=>match nextL st.τ st.σ x with
   |some l=>bindL (fun r=>optL (putS { st with σ:=r.2 } o.dst r.1)) l
   |none=>none
  |_=>none
 |none=>optL (oneOp E call hs ops o st)
noncomputable def runOpsL (E:Env) (call:CallF) (hs:Hnds) (ops:Array Oper):List Oper→St→Option (List St)
 |[],st=>some [st]
 |o::os,st=>match oneOpL E call hs ops o st with
  |some l=>bindL (runOpsL E call hs ops os) l
  |none=>none
abbrev Outs:=List (Ex×St)
noncomputable def thenL (f:St→Option Outs) (r:Ex×St):Option Outs:=
 match r.1 with
 |.normal=>f r.2
 |_=>some [r]
noncomputable def roundsL (f:St→Option Outs):Nat→St→Option Outs
 |0,_=>none
 |n+1,st=>match f st with
  |some l=>bindL (thenL (roundsL f n)) l
  |none=>none
noncomputable def leaveL (i:Nat) (r:Ex×St):Ex×St:=
 match r.1 with
 |.exit j=>((match Nat.beq j i with|true=>.normal|false=>.exit j),r.2)
 |_=>r
noncomputable def execL (E:Env) (call:CallF) (hs:Hnds):Code→St→Option Outs
 |.seq a b,st=>match execL E call hs a st with
  |some l=>bindL (thenL (execL E call hs b)) l
  |none=>none
 |.cond c a b,st=>match ev st.τ c with
  |some (.bool true)=>execL E call hs a st
  |some (.bool false)=>execL E call hs b st
  |_=>none
 |.block i b,st=>match execL E call hs b st with
  |some l=>some (l.map (leaveL i))
  |none=>none
 |.scope b,st=>execL E call hs b st
 |.loop b,st=>roundsL (execL E call hs b) 24 st
 |.region i ops false,st=>match runOpsL E call hs ops ops.toList st with
  |some l=>some (l.map fun s=>(.normal,s))
  |none=>none
 |c,st=>optL (exec E call c hs st)
section
variable {P:Program} {E:Env} {call:CallF} {base:Nat} {hs:Hnds}
theorem optL_mem {α:Type} {o:Option α} {l:List α} (h:optL o=some l):∃ a,o=some a∧a∈l:=by
 unfold optL at h
 split at h
 · rename_i a
   simp only[Option.some.injEq] at h;subst h
   exact⟨a,rfl,List.mem_cons_self⟩
 · cases h
theorem oneOpL_spec (hE : EnvOK P E) {inv : Inv} (hcx : CxOK inv) (hcall : CallOK P E call) {V : View} {st : St} {A : Array Value} {DS : List Deferred} {M : List Nat} {O : OO} {W : World} (h : SR E base inv V st A DS M O W) (hh : HOK P E base inv V hs) {ops : Array Oper} {i : Nat} {o : Oper} (ho : ops[i]? = some o)
  {l:List St} (hd:oneOpL E call hs ops o st=some l) :
  ∃ st'∈l,∃ V' A' DS' O' W',SR E base inv V' st' A' DS' M O' W'∧Prg V st.σ O W V' st'.σ O' W'∧st'.rnd=st.rnd ∧
   ∀ fn b cs k rest,BOK fn st.rnd b cs→Steps P (lone (mkF b A DS (.inRegion ops (i::rest)::k)) cs W) (lone (mkF b A' DS' (.inRegion ops rest::k)) cs W'):=by
 unfold oneOpL at hd
 split at hd
 · rename_i x hx
   have hop:=isNextM_eq hx
   split at hd
   · rename_i hw
     have hw':=wanted_spec h hw
     split at hd
     · rename_i L hn
       have hnd:∀ c,o.op≠.defer c:=by intro c e;rw[hop] at e;cases e
       have key:∃ r∈L,OpOK P E base V st.σ W ((execOp (mkF default A DS []).eval o).run P W) (.val r.1 r.2):=by
        obtain⟨op,dst,ty,pos,after,guard⟩:=o
        simp only at hop;subst hop
        exact s_nextL hE h.hr h.bs (h.evR default) x hn
       obtain⟨r,hr,V1,W1,v1,e1,s1,r1⟩:=key
       obtain⟨a,ha,hm⟩:=bindL_mem hd r hr
       obtain⟨st',hp,hst'⟩:=optL_mem ha
       have hS:=h.stp hcx s1
       obtain⟨g1,g2,g3⟩:=hS.put r1 hp
       refine⟨st',hm _ hst',V1,_,DS,O,W1,g1,by rw[g2];exact .of_stp s1 (hcx.bound _ _ _ _ h.cx),g3,fun fn b cs k rest hb=>.one (st_value ho hw' (.inr hnd) ?_)⟩
       have:(mkF b A DS []).eval=(mkF default A DS []).eval:=by funext x;rw[mkF_eval,mkF_eval]
       rw[this];exact e1
     · cases hd
   · cases hd
 · obtain ⟨st', h1, h2⟩ := optL_mem hd
   exact⟨st',h2,oneOp_spec hE hcx hcall h hh ho h1⟩
theorem runOpsL_spec (hE:EnvOK P E) {inv:Inv} (hcx:CxOK inv) (hcall:CallOK P E call) {ops:Array Oper} {M:List Nat}:∀ (os:List Oper) (n:Nat) {V:View} {st:St} {l:List St} {A:Array Value} {DS:List Deferred} {O:OO} {W:World},
  ops.toList.drop n=os→SR E base inv V st A DS M O W→HOK P E base inv V hs→runOpsL E call hs ops os st=some l →
  ∃ st'∈l,∃ V' A' DS' O' W',SR E base inv V' st' A' DS' M O' W'∧Prg V st.σ O W V' st'.σ O' W'∧st'.rnd=st.rnd ∧
   ∀ fn b cs k,BOK fn st.rnd b cs→Steps P (lone (mkF b A DS (.inRegion ops (List.range' n os.length)::k)) cs W) (lone (mkF b A' DS' k) cs W')
 |[],n,V,st,l,A,DS,O,W,hos,h,hh,hd=>by
  simp only[runOpsL,Option.some.injEq] at hd;subst hd
  exact⟨st,List.mem_cons_self,V,A,DS,O,W,h,.refl _ _ _ _,rfl,fun fn b cs k hb=>.one st_region_end⟩
 | o :: os, n, V, st, l, A, DS, O, W, hos, h, hh, hd => by
  simp only[runOpsL] at hd
  split at hd
  · rename_i l1 h1
    have ho:ops[n]?=some o:=by
     have:(ops.toList.drop n)[0]?=some o:=by rw[hos];rfl
     rw[List.getElem?_drop] at this
     simpa using this
    have hos':ops.toList.drop (n+1)=os:=by
     have:(ops.toList.drop n).drop 1=os:=by rw[hos];rfl
     rw[List.drop_drop] at this;exact this
    obtain⟨st1,m1,V1,A1,DS1,O1,W1,s1,p1,r1,g1⟩:=oneOpL_spec hE hcx hcall h hh ho h1
    obtain⟨x,hx,hm⟩:=bindL_mem hd st1 m1
    obtain⟨st2,m2,V2,A2,DS2,O2,W2,s2,p2,r2,g2⟩:=runOpsL_spec hE hcx hcall os (n+1) hos' s1 (hh.mono p1.le) hx
    exact⟨st2,hm _ m2,V2,A2,DS2,O2,W2,s2,p1.trans p2,r2.trans r1,fun fn b cs k hb=>(g1 fn b cs k _ hb).trans (g2 fn b cs k (by rw[r1];exact hb))⟩
  · cases hd
def CodeL (P:Program) (E:Env) (base:Nat) (hs:Hnds) (f:St→Option Outs) (c:Code):Prop:=
 ∀ inv,CxOK inv→∀ V st l A DS M O W fn rl,RLOK inv rl→f st=some l→SR E base inv V st A DS M O W→HOK P E base inv V hs →
  ∃ r∈l,∃ V' A' DS' M' O' W',Left E base inv V st M O W V' r.2 A' DS' M' O' W'∧∀ b cs k,BOK fn st.rnd b cs∧b.roundOf=rl→Arr P (lone (mkF b A DS (.code c::k)) cs W) b A' DS' k cs W' r.1
theorem CodeL.one {f:St→Option Outs} {c:Code} (h:CodeOK P E call base hs c) (hf:∀ st,f st=optL (exec E call c hs st)):CodeL P E base hs f c:=by
 intro inv hcx V st l A DS M O W fn rl hrl hl hS hh
 rw[hf] at hl
 obtain⟨⟨e,st'⟩,h1,h2⟩:=optL_mem hl
 obtain⟨V1,A1,DS1,M1,O1,W1,L1,g1⟩:=h inv hcx V st st' e A DS M O W fn rl hrl h1 hS hh
 exact⟨_,h2,V1,A1,DS1,M1,O1,W1,L1,g1⟩
theorem CodeL.seq {f g:St→Option Outs} {x y:Code} (hx:CodeL P E base hs f x) (hy:CodeL P E base hs g y):CodeL P E base hs (fun st=>match f st with|some l=>bindL (thenL g) l|none=>none) (.seq x y):=by
 intro inv hcx V st l A DS M O W fn rl hrl h hS hh
 simp only at h
 split at h
 · rename_i l1 h1
   obtain⟨⟨e1,st1⟩,m1,V1,A1,DS1,M1,O1,W1,L1,g1⟩:=hx inv hcx V st l1 A DS M O W fn rl hrl h1 hS hh
   obtain⟨a,ha,hm⟩:=bindL_mem h _ m1
   cases he:e1 with
   |normal=>
    subst he
    obtain⟨⟨e2,st2⟩,m2,V2,A2,DS2,M2,O2,W2,L2,g2⟩:=hy inv hcx V1 st1 a A1 DS1 M1 O1 W1 fn rl hrl ha L1.sr (hh.mono L1.pr.le)
    exact⟨_,hm _ m2,V2,A2,DS2,M2,O2,W2,L1.trans L2,fun b cs k hb=>.of_steps (.head st_seq (g1 b cs (.code y::k) hb)) (g2 b cs k ⟨by rw[L1.rnd];exact hb.1,hb.2⟩)⟩
   |exit j=>
    subst he
    simp only[thenL,Option.some.injEq] at ha;subst ha
    exact⟨_,hm _ List.mem_cons_self,V1,A1,DS1,M1,O1,W1,L1,fun b cs k hb=>.of_steps (.one st_seq) (Arr.behind (k:=.code y::k) (by simp) (fun i _=>rfl) (g1 b cs (.code y::k) hb))⟩
   |ret=>
    subst he
    simp only[thenL,Option.some.injEq] at ha;subst ha
    exact⟨_,hm _ List.mem_cons_self,V1,A1,DS1,M1,O1,W1,L1,fun b cs k hb=>.of_steps (.one st_seq) (Arr.behind (k:=.code y::k) (by simp) (fun i _=>rfl) (g1 b cs (.code y::k) hb))⟩
 · cases h
theorem CodeL.scope {f:St→Option Outs} {x:Code} (hx:CodeL P E base hs f x):CodeL P E base hs f (.scope x):=by
 intro inv hcx V st l A DS M O W fn rl hrl h hS hh
 obtain⟨⟨e,st1⟩,m1,V1,A1,DS1,M1,O1,W1,L1,g1⟩:=hx inv hcx V st l A DS M O W fn rl hrl h hS hh
 refine⟨_,m1,V1,A1,DS1,M1,O1,W1,L1,fun b cs k hb=>.of_steps (.one st_scope) ?_⟩
 have:=g1 b cs (.inScope x::k) hb
 cases e with
 |normal=>exact this.trans (.one st_inScope)
 |exit i=>exact this.behind (by simp) (fun _ _=>rfl)
 |ret=>exact this.behind (by simp) (fun _ _=>rfl)
theorem CodeL.block {i:Nat} {f:St→Option Outs} {x:Code} (hx:CodeL P E base hs f x):CodeL P E base hs (fun st=>match f st with|some l=>some (l.map (leaveL i))|none=>none) (.block i x):=by
 intro inv hcx V st l A DS M O W fn rl hrl h hS hh
 simp only at h
 split at h
 · rename_i l1 h1
   simp only[Option.some.injEq] at h;subst h
   obtain⟨⟨e,st1⟩,m1,V1,A1,DS1,M1,O1,W1,L1,g1⟩:=hx inv hcx V st l1 A DS M O W fn rl hrl h1 hS hh
   refine⟨_,List.mem_map.2 ⟨_,m1,rfl⟩,V1,A1,DS1,M1,O1,W1,?_,fun b cs k hb=>.of_steps (.one st_block) ?_⟩
   · cases e<;>exact L1
   · have hg := g1 b cs (.inBlock i :: k) hb
     cases e with
     |normal=>exact Steps.trans hg (.one st_inBlock)
     |ret=>exact Arr.behind (e:=.ret) (by simp) (fun _ h=>by cases h) hg
     | exit j =>
      obtain⟨k',h2,h3⟩:=hg
      have hex:exitTo j (.inBlock i::k)=if (i == j)=true then some k else exitTo j k:=rfl
      rw[hex] at h2
      simp only[leaveL]
      cases hij:Nat.beq j i with
      |true=>
       have:j=i:=Nat.eq_of_beq_eq_true hij
       subst this
       rw[if_pos (by simp)] at h2
       exact h3.trans (.one (st_exit h2))
      |false=>
       have:j≠i:=Nat.ne_of_beq_eq_false hij
       rw[if_neg (by simp;exact fun e=>this e.symm)] at h2
       exact⟨k',h2,h3⟩
 · cases h
theorem CodeL.cond {c:Operand} {f g:St→Option Outs} {x y:Code} (hx:CodeL P E base hs f x) (hy:CodeL P E base hs g y):CodeL P E base hs (fun st=>match ev st.τ c with|some (.bool true)=>f st|some (.bool false)=>g st|_=>none) (.cond c x y):=by
 intro inv hcx V st l A DS M O W fn rl hrl h hS hh
 simp only at h
 split at h
 · rename_i hc
   obtain⟨r,m1,V1,A1,DS1,M1,O1,W1,L1,g1⟩:=hx inv hcx V st l A DS M O W fn rl hrl h hS hh
   exact⟨r,m1,V1,A1,DS1,M1,O1,W1,L1,fun b cs k hb=>.of_steps (.one (st_cond (t:=true) ((hS.evR b c _ hc).bool_inv))) (g1 b cs k hb)⟩
 · rename_i hc
   obtain⟨r,m1,V1,A1,DS1,M1,O1,W1,L1,g1⟩:=hy inv hcx V st l A DS M O W fn rl hrl h hS hh
   exact⟨r,m1,V1,A1,DS1,M1,O1,W1,L1,fun b cs k hb=>.of_steps (.one (st_cond (t:=false) ((hS.evR b c _ hc).bool_inv))) (g1 b cs k hb)⟩
 · cases h
theorem roundsL_spec {f:St→Option Outs} {c:Code} (hc:CodeL P E base hs f c):∀ n inv,CxOK inv→∀ V st l A DS M O W fn rl,RLOK inv rl→roundsL f n st=some l→SR E base inv V st A DS M O W→HOK P E base inv V hs →
  ∃ r∈l,∃ V' A' DS' M' O' W',Left E base inv V st M O W V' r.2 A' DS' M' O' W'∧∀ b cs k,BOK fn st.rnd b cs∧b.roundOf=rl→Arr P (lone (mkF b A DS (.code c::.inLoop c::k)) cs W) b A' DS' k cs W' r.1
 |0,inv,hcx,V,st,l,A,DS,M,O,W,fn,rl,hrl,h,hS,hh=>by cases h
 | n + 1, inv, hcx, V, st, l, A, DS, M, O, W, fn, rl, hrl, h, hS, hh => by
  simp only[roundsL] at h
  split at h
  · rename_i l1 h1
    obtain⟨⟨e1,st1⟩,m1,V1,A1,DS1,M1,O1,W1,L1,g1⟩:=hc inv hcx V st l1 A DS M O W fn rl hrl h1 hS hh
    obtain⟨a,ha,hm⟩:=bindL_mem h _ m1
    cases he:e1 with
    |normal=>
     subst he
     obtain⟨r,m2,V2,A2,DS2,M2,O2,W2,L2,g2⟩:=roundsL_spec hc n inv hcx V1 st1 a A1 DS1 M1 O1 W1 fn rl hrl ha L1.sr (hh.mono L1.pr.le)
     exact⟨r,hm _ m2,V2,A2,DS2,M2,O2,W2,L1.trans L2,fun b cs k hb=>.of_steps (Steps.trans (g1 b cs (.inLoop c::k) hb) (.one st_inLoop)) (g2 b cs k ⟨by rw[L1.rnd];exact hb.1,hb.2⟩)⟩
    |exit j=>
     subst he
     simp only[thenL,Option.some.injEq] at ha;subst ha
     exact⟨_,hm _ List.mem_cons_self,V1,A1,DS1,M1,O1,W1,L1,fun b cs k hb=>Arr.behind (k:=.inLoop c::k) (by simp) (fun _ _=>rfl) (g1 b cs (.inLoop c::k) hb)⟩
    |ret=>
     subst he
     simp only[thenL,Option.some.injEq] at ha;subst ha
     exact⟨_,hm _ List.mem_cons_self,V1,A1,DS1,M1,O1,W1,L1,fun b cs k hb=>Arr.behind (k:=.inLoop c::k) (by simp) (fun _ _=>rfl) (g1 b cs (.inLoop c::k) hb)⟩
  · cases h
theorem CodeL.loop {f:St→Option Outs} {x:Code} (n:Nat) (hx:CodeL P E base hs f x):CodeL P E base hs (roundsL f n) (.loop x):=by
 intro inv hcx V st l A DS M O W fn rl hrl h hS hh
 obtain⟨r,m1,V1,A1,DS1,M1,O1,W1,L1,g1⟩:=roundsL_spec hx n inv hcx V st l A DS M O W fn rl hrl h hS hh
 exact⟨r,m1,V1,A1,DS1,M1,O1,W1,L1,fun b cs k hb=>.of_steps (.one st_loop) (g1 b cs k hb)⟩
theorem CodeL.region (hE:EnvOK P E) (hcall:CallOK P E call) {i:Nat} {ops:Array Oper}:CodeL P E base hs (fun st=>match runOpsL E call hs ops ops.toList st with|some l=>some (l.map fun s=>(.normal,s))|none=>none) (.region i ops false):=by
 intro inv hcx V st l A DS M O W fn rl hrl h hS hh
 simp only at h
 split at h
 · rename_i l1 h1
   simp only[Option.some.injEq] at h;subst h
   obtain⟨st1,m1,V1,A1,DS1,O1,W1,s1,p1,r1,g1⟩:=runOpsL_spec hE hcx hcall ops.toList 0 (by simp) hS hh h1
   refine⟨_,List.mem_map.2 ⟨st1,m1,rfl⟩,V1,A1,DS1,M,O1,W1,⟨s1,p1,r1,fun _ h=>.inl h⟩,fun b cs k hb=>?_⟩
   have:=g1 fn b cs k hb.1
   rw[Array.length_toList,← List.range_eq_range'] at this
   exact .head st_region this
 · cases h
end
end Go.Eng


namespace Go.Eng
open Go
attribute [local irreducible] upTo
noncomputable def endL (E:Env) (call:CallF) (hs:Hnds) (fn:Func) (r:Ex×St):Option (AV×Hp×List LF):=
 match r.1 with
 |.exit _=>none
 | _ => match runDefers E call hs r.2.ds r.2.σ r.2.Λ with
  |none=>none
  |some (σ,Λ)=>match resultsA E r.2.τ σ fn.results.toList with
   |some [v]=>some (v,σ,Λ)
   |some vs=>some (.tup vs,σ,Λ)
   |none=>none
noncomputable def bodyL (E:Env) (call:CallF) (f:Nat) (args:List AV) (σ:Hp) (hs:Hnds) (Λ:List LF):Option (List (AV×Hp×List LF)):=
 match E.fn f with
 |none=>none
 | some fn => match fn.body with
  |none=>none
  |some body=>match execL E call hs body ⟨tmps0 fn.ntmps (.full (dep fn.ntmps)) 0 args,σ,[],Λ,args.length+(fn.ntmps-args.length),false⟩ with
   |none=>none
   |some l=>bindL (fun r=>optL (endL E call hs fn r)) l
section
variable {P:Program} {E:Env}
noncomputable def ansL (e:Ent) (r:AV×Hp×List LF):Bool:=
 match r.2.2,frzArg r.1 r.2.1 with
 |[],(w,σ)=>match avbeq w e.v,hasAll σ e.put,keepAll σ e.put e.need with
  |true,true,true=>Nat.ble σ.n e.n1
  |_,_,_=>false
 |_,_=>false
noncomputable def allL {α:Type} (g:α→Bool):List α→Bool
 |[]=>true
 |a::l=>match g a with
  |true=>allL g l
  |false=>false
noncomputable def entL (E:Env) (L:List Ent) (n:Nat) (e:Ent):Bool:=
 match bodyL E (callTF E L n) e.f e.args e.pre [] [] with
 |some l=>allL (ansL e) l
 |none=>false
end
end Go.Eng


set_option maxRecDepth 100000
namespace Go.Proofs.Ytmpaifgmccdipaa
open Go Go.Eng
noncomputable def E1:Env:={ F3 with sy:=false,cm:=true,frz:=fun f=>elemN f [49,40,27,19,21,10,86,78,79,80,65,50,41,30,31,14,96,51,87,81,66,67,98],fp:=fun f=>elemN f [43,44,31,53,69,83] }
theorem e1:EnvOK Try.prog E1:=⟨f3.ty,f3.zero,f3.fn,f3.eqok,f3.meth⟩
theorem n1:NameOK E1:=nf3
theorem x1:ExtOK Try.prog E1:=xf3
noncomputable def c0:Ent:=⟨46,[(.ptr 480 0)],481,[(480,(.cells false [(.int .i64 (20)),(.csl [(.str [111,105,108]),(.int .i64 (10)),(.int .i64 (6)),(.int .i64 (3)),(.str [109,101,110]),(.int .i64 (8)),(.int .i64 (8)),(.int .i64 (2))] 2),(.int .i64 (5)),(.int .i64 (1)),(.int .i64 (2)),(.csl [(.int .i64 (3)),(.int .i64 (5)),(.int .i64 (8)),(.int .i64 (12)),(.int .i64 (15))] 5),(.csl [(.int .i64 (3)),(.csl [(.int .i64 (0)),(.int .i64 (1))] 2),(.int .i64 (5)),(.csl [(.int .i64 (0)),(.int .i64 (1))] 2),(.int .i64 (12)),(.csl [(.int .i64 (0)),(.int .i64 (1))] 2),(.int .i64 (15)),(.csl [(.int .i64 (0)),(.int .i64 (1))] 2)] 4)]))],(.agg [(.int .i64 (1)),(.int .i64 (0)),(.int .i64 (0))]),[],982⟩
noncomputable def c1:Ent:=⟨47,[(.ptr 1505 0),(.sl 1475 0 5 5 1)],1506,[(1505,(.cells false [(.int .i64 (20)),(.csl [(.str [111,105,108]),(.int .i64 (10)),(.int .i64 (6)),(.int .i64 (3)),(.str [109,101,110]),(.int .i64 (8)),(.int .i64 (8)),(.int .i64 (2))] 2),(.int .i64 (4)),(.int .i64 (0)),(.int .i64 (2)),(.csl [(.int .i64 (3)),(.int .i64 (5)),(.int .i64 (8)),(.int .i64 (12)),(.int .i64 (15))] 5),.nils])),(1475,(.cells true [(.int .i64 (3)),(.int .i64 (5)),(.int .i64 (8)),(.int .i64 (12)),(.int .i64 (15))]))],(.tup [(.sl 5602 0 4 4 2),(.bool true)]),[(5604,(.cells false [(.int .i64 (0))])),(5606,(.cells false [(.int .i64 (1))])),(5608,(.cells false [(.int .i64 (0))])),(5610,(.cells false [(.int .i64 (1))])),(5602,(.cells false [(.int .i64 (3)),(.sl 5604 0 1 1 1),(.int .i64 (8)),(.sl 5606 0 1 1 1),(.int .i64 (12)),(.sl 5608 0 1 1 1),(.int .i64 (15)),(.sl 5610 0 1 1 1)]))],5611⟩
noncomputable def c2:Ent:=⟨47,[(.ptr 5641 0),(.sl 2 0 5 5 1)],5642,[(5641,(.cells false [(.int .i64 (20)),(.csl [(.str [111,105,108]),(.int .i64 (10)),(.int .i64 (6)),(.int .i64 (3)),(.str [109,101,110]),(.int .i64 (8)),(.int .i64 (8)),(.int .i64 (2))] 2),(.int .i64 (5)),(.int .i64 (1)),(.int .i64 (2)),(.csl [(.int .i64 (3)),(.int .i64 (5)),(.int .i64 (8)),(.int .i64 (12)),(.int .i64 (15))] 5),.nils])),(2,(.cells true [(.int .i64 (3)),(.int .i64 (5)),(.int .i64 (8)),(.int .i64 (12)),(.int .i64 (15))]))],(.tup [(.sl 7871 0 5 5 2),(.bool true)]),[(7873,(.cells false [(.int .i64 (0)),(.int .i64 (1))])),(7875,(.cells false [(.int .i64 (0)),(.int .i64 (1))])),(7877,(.cells false [(.int .i64 (0)),(.int .i64 (1))])),(7879,(.cells false [(.int .i64 (0)),(.int .i64 (1))])),(7881,(.cells false [(.int .i64 (0)),(.int .i64 (1))])),(7871,(.cells false [(.int .i64 (3)),(.sl 7873 0 2 2 1),(.int .i64 (5)),(.sl 7875 0 2 2 1),(.int .i64 (8)),(.sl 7877 0 2 2 1),(.int .i64 (12)),(.sl 7879 0 2 2 1),(.int .i64 (15)),(.sl 7881 0 2 2 1)]))],7882⟩
noncomputable def c3:Ent:=⟨47,[(.ptr 7910 0),(.sl 7912 0 4 4 1)],7913,[(7910,(.cells false [(.int .i64 (20)),(.csl [(.str [111,105,108]),(.int .i64 (10)),(.int .i64 (6)),(.int .i64 (3)),(.str [109,101,110]),(.int .i64 (8)),(.int .i64 (8)),(.int .i64 (2))] 2),(.int .i64 (5)),(.int .i64 (1)),(.int .i64 (2)),(.csl [(.int .i64 (3)),(.int .i64 (5)),(.int .i64 (8)),(.int .i64 (12)),(.int .i64 (15))] 5),.nils])),(7912,(.cells false [(.int .i64 (5)),(.int .i64 (8)),(.int .i64 (12)),(.int .i64 (15))]))],(.tup [.nils,(.bool false)]),[],8879⟩
noncomputable def c4:Ent:=⟨47,[(.ptr 7910 0),(.sl 8882 0 4 4 1)],8883,[(7910,(.cells false [(.int .i64 (20)),(.csl [(.str [111,105,108]),(.int .i64 (10)),(.int .i64 (6)),(.int .i64 (3)),(.str [109,101,110]),(.int .i64 (8)),(.int .i64 (8)),(.int .i64 (2))] 2),(.int .i64 (5)),(.int .i64 (1)),(.int .i64 (2)),(.csl [(.int .i64 (3)),(.int .i64 (5)),(.int .i64 (8)),(.int .i64 (12)),(.int .i64 (15))] 5),.nils])),(8882,(.cells false [(.int .i64 (3)),(.int .i64 (8)),(.int .i64 (12)),(.int .i64 (15))]))],(.tup [.nils,(.bool false)]),[],9854⟩
noncomputable def c5:Ent:=⟨47,[(.ptr 7910 0),(.sl 9857 0 4 4 1)],9858,[(7910,(.cells false [(.int .i64 (20)),(.csl [(.str [111,105,108]),(.int .i64 (10)),(.int .i64 (6)),(.int .i64 (3)),(.str [109,101,110]),(.int .i64 (8)),(.int .i64 (8)),(.int .i64 (2))] 2),(.int .i64 (5)),(.int .i64 (1)),(.int .i64 (2)),(.csl [(.int .i64 (3)),(.int .i64 (5)),(.int .i64 (8)),(.int .i64 (12)),(.int .i64 (15))] 5),.nils])),(9857,(.cells false [(.int .i64 (3)),(.int .i64 (5)),(.int .i64 (12)),(.int .i64 (15))]))],(.tup [.nils,(.bool false)]),[],10826⟩
noncomputable def c6:Ent:=⟨47,[(.ptr 7910 0),(.sl 10829 0 4 4 1)],10830,[(7910,(.cells false [(.int .i64 (20)),(.csl [(.str [111,105,108]),(.int .i64 (10)),(.int .i64 (6)),(.int .i64 (3)),(.str [109,101,110]),(.int .i64 (8)),(.int .i64 (8)),(.int .i64 (2))] 2),(.int .i64 (5)),(.int .i64 (1)),(.int .i64 (2)),(.csl [(.int .i64 (3)),(.int .i64 (5)),(.int .i64 (8)),(.int .i64 (12)),(.int .i64 (15))] 5),.nils])),(10829,(.cells false [(.int .i64 (3)),(.int .i64 (5)),(.int .i64 (8)),(.int .i64 (15))]))],(.tup [.nils,(.bool false)]),[],11801⟩
noncomputable def c7:Ent:=⟨47,[(.ptr 7910 0),(.sl 11804 0 4 4 1)],11805,[(7910,(.cells false [(.int .i64 (20)),(.csl [(.str [111,105,108]),(.int .i64 (10)),(.int .i64 (6)),(.int .i64 (3)),(.str [109,101,110]),(.int .i64 (8)),(.int .i64 (8)),(.int .i64 (2))] 2),(.int .i64 (5)),(.int .i64 (1)),(.int .i64 (2)),(.csl [(.int .i64 (3)),(.int .i64 (5)),(.int .i64 (8)),(.int .i64 (12)),(.int .i64 (15))] 5),.nils])),(11804,(.cells false [(.int .i64 (3)),(.int .i64 (5)),(.int .i64 (8)),(.int .i64 (12))]))],(.tup [.nils,(.bool false)]),[],12771⟩
end Go.Proofs.Ytmpaifgmccdipaa

