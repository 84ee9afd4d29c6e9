/-
  THE ENGINE: one more part of it.
-/
import Derived.Test.YtmpaifgmccdipaaPart04
import Derived.Test.YtmpaifgmccdipaaPart03
import Derived.ProofKit
set_option linter.unusedSectionVars false
set_option linter.unusedSimpArgs false
set_option linter.unusedVariables false
set_option maxRecDepth 100000
namespace Go.Proofs.Ytmpaifgmccdipaa
open Go Go.Eng
noncomputable def rt0 (x:tX.den) (l:(Ty.sl .bool).den) (n:Int):Rt:=.op (pcOf G0 59 [1,1,1,1]) 7 (some 20) ((opsOf (pcOf G0 59 [1,1,1,1]).c).toList.drop 7) (tmOf 21 [(0,(.yld 9)),(1,(.ptr 6 0)),(2,(.ptr 7 0)),(3,(.ptr 8 0)),(4,(.ptr 10 0)),(5,(.ptr 11 0)),(6,(.ptr 12 0)),(7,iI (fofR l)),(8,fnH),(9,(.tup [(tB.av (fofF l)),iI (fofR l)])),(10,(.vs .bool l.1 l.2)),(11,(.tup [(tB.av (fofF l)),iI (fofR l)])),(12,(tB.av (fofF l))),(13,iI (fofR l)),(14,fnH),(15,(tB.av (fofF l))),(16,(.vs .bool l.1 l.2)),(17,iI (Int.ofNat l.2.length)),(18,iI (fofR l)),(19,iI n)]) [] 21 false ⟨38,evH x l n⟩
noncomputable def fr0 (x:tX.den) (l:(Ty.sl .bool).den) (n:Int):List Fm:=[(.cal [] (.rng (t26 x l n) [] 26 false ⟨39,ev1 x l n⟩)),(.blk 0),(.cal [] (.rng (t12 x l n) [] 12 false ⟨40,[]⟩)),(.blk 0),(.seq (pcOf G0 58 [1,1])),(.cal [(.cell 6 4)] .top)]
noncomputable def SZ:Sy:={ (Y0 []) with np:=[[999,60]] }
theorem hol_start (x:tX.den) (l:(Ty.sl .bool).den) (n:Int):adv G0 SZ 3000 (startC G0 58 [tX.pv x,.vs .bool l.1 l.2,.int .i64 n] 40)=(bif Nat.ble l.2.length 8 then some (.stop (ent x l n [] (fofF l) (Int.ofNat l.2.length) (fofR l) n 37 (rt0 x l n) (fr0 x l n))) else none):=by kernel_rfl
theorem hol_end (x:tX.den) (l:(Ty.sl .bool).den) (n:Int) (d:Nat):adv G0 SZ 3000 (vlH x l n [] true d (rt0 x l n) (fr0 x l n))=some (.done (.bool true)):=by kernel_rfl
theorem hol_endF (x:tX.den) (l:(Ty.sl .bool).den) (n:Int) (d:Nat):adv G0 SZ 3000 (vlH x l n [] false d (rt0 x l n) (fr0 x l n))=some (.done (.bool false)):=by kernel_rfl
noncomputable def rowX (x:tX.den):Int:=x.1.2.2.2.2.1
noncomputable def holV (x:tX.den):Nat→tB.den→Int→Int→Bool
 |0,b,_,_=>!(breT x b).2.2
 |k+1,b,r,m=>bif holV x k b 0 m then (bif ieq m 0 then true else bif ile (rowX x) r then true else holV x k (setF b ((olX x:Int)-((k+1:Nat):Int))) (r+1) (m-1)) else false
theorem goS {S:Sy} (hS:S.ok G0) {n:Nat} {c c':Cfg} (h:adv G0 S n c=some (.stop c')):Goto G0 c c':=adv_spec hS G0sy h
theorem vl_any (x:tX.den) (l:(Ty.sl .bool).den) (n:Int) (os:List AO) (v:Bool) (d d':Nat) (r0:Rt) (K:List Fm):Goto G0 (vlH x l n os v d r0 K) (vlH x l n os v d' r0 K):=fun _ h=>h
theorem vlA {x:tX.den} {l:(Ty.sl .bool).den} {n:Int} {os:List AO} {v:Bool} {d d':Nat} {r0:Rt} {K:List Fm}:Goto G0 (vlH x l n os v d r0 K) (vlH x l n os v d' r0 K):=fun _ h=>h
theorem pl_one {os:List AO} {a:AO} (h:∀ o∈os,plO o=true) (ha:plO a=true):∀ o∈os++[a],plO o=true:=fun o ho=>by
 rcases List.mem_append.1 ho with ho|ho
 · exact h o ho
 · rw[List.mem_singleton] at ho;subst ho;exact ha
theorem pl_two {os:List AO} {a c:AO} (h:∀ o∈os,plO o=true) (ha:plO a=true) (hc:plO c=true):∀ o∈os++[a,c],plO o=true:=fun o ho=>by
 rcases List.mem_append.1 ho with ho|ho
 · exact h o ho
 · rcases List.mem_cons.1 ho with rfl | ho
   · exact ha
   · rw[List.mem_singleton] at ho;subst ho;exact hc
theorem arO_pl (o:Int):plO (arO o)=true:=rfl
theorem hol_go {x:tX.den} {l:(Ty.sl .bool).den} {n:Int} (X:xokB x=true):∀ (k:Nat) (os:List AO) (b:tB.den) (r m:Int) (d:Nat) (r0:Rt) (K:List Fm),os.length+2 * k≤16→k≤olX x→(∀ o∈os,plO o=true)→0≤r→r+k≤1000000→-1000000≤m-k→m≤1000000→k+3≤d →
  Goto G0 (ent x l n os b ((olX x:Int)-(k:Int)) r m d r0 K) (vlH x l n os (holV x k b r m) 0 r0 K)
 | 0, os, b, r, m, d, r0, K, h1, h2, h3, h4, h5, h6, h7, h8 => by
  obtain⟨d,rfl⟩:∃ d',d=Nat.succ (Nat.succ (Nat.succ d')):=⟨d-3,by omega⟩
  have h:=ent_step x l n b ((olX x:Int)-((0:Nat):Int)) r m d r0 K os (Nat.ble_eq_true_of_le (by omega))
  rw[show ieq ((olX x:Int)-((0:Nat):Int)) (Int.ofNat x.2.1.2.length)=true by rw[ieq_iff];exact decide_eq_true (by show (olX x:Int)-0=(olX x:Int);omega),cond_true,X,cond_true] at h
  cases c:(breT x b).2.2 with
  |true=>
   rw[show (breT x b).2.2=true from c,cond_true,allO_of h3] at h
   rw[show holV x 0 b r m=false from by show (!(breT x b).2.2)=false;rw[c];rfl]
   exact (goS (SH_ok _) h).trans (vl_any x l n os false _ 0 r0 K)
  |false=>
   rw[show (breT x b).2.2=false from c,cond_false,allO_of h3] at h
   rw[show holV x 0 b r m=true from by show (!(breT x b).2.2)=true;rw[c];rfl]
   exact (goS (SH_ok _) h).trans (vl_any x l n os true _ 0 r0 K)
 | k + 1, os, b, r, m, d, r0, K, h1, h2, h3, h4, h5, h6, h7, h8 => by
  obtain⟨d,rfl⟩:∃ d',d=Nat.succ (Nat.succ (Nat.succ d')):=⟨d-3,by omega⟩
  have hO:=(xok X).o
  generalize ho:(olX x:Int)-((k+1:Nat):Int)=o
  have ho0:0≤o:=by omega
  have ho8:o<8:=by omega
  have h:=ent_step x l n b o r m d r0 K os (Nat.ble_eq_true_of_le (by omega))
  rw[show ieq o (Int.ofNat x.2.1.2.length)=false by rw[ieq_iff];exact decide_eq_false (by show ¬ o=(olX x:Int);omega),cond_false,wr_in (by omega) (by omega),show o+1=(olX x:Int)-(k:Int) by omega] at h
  have g1:=(goS (SH_ok _) h).trans (hol_go X k (os++[celB b]) b 0 m _ _ _ (by rw[List.length_append];simp only[List.length_cons,List.length_nil];omega) (by omega) (pl_one h3 (celB_pl b)) (by omega) (by omega) (by omega) h7 (by omega))
  have e:holV x (k+1) b r m=bif holV x k b 0 m then (bif ieq m 0 then true else bif ile (rowX x) r then true else holV x k (setF b o) (r+1) (m-1)) else false:=by rw[← ho];rfl
  rw[e]
  cases c:holV x k b 0 m with
  |false=>
   rw[c] at g1
   have h:=rt1_stepF x l n b o r m d r0 K os (Nat.ble_eq_true_of_le (by omega))
   rw[allO_of h3] at h
   rw[cond_false]
   exact (g1.trans vlA).trans ((goS (SH_ok _) h).trans vlA)
  | true =>
   rw[c] at g1
   have h:=rt1_step x l n b o r m d r0 K os (Nat.ble_eq_true_of_le (by omega))
   rw[allO_of h3] at h
   rw[cond_true]
   have g2:=g1.trans (vl_any x l n (os++[celB b]) true 0 (Nat.succ (Nat.succ d)) _ _)
   cases c1:ieq m 0 with
   |true=>
    rw[c1,cond_true] at h
    rw[cond_true]
    exact g2.trans ((goS (SH_ok _) h).trans vlA)
   |false=>
   rw[c1,cond_false] at h
   rw[cond_false]
   cases c2:ile (rowX x) r with
   |true=>
    rw[show ile x.1.2.2.2.2.1 r=true from c2,cond_true] at h
    rw[cond_true]
    exact g2.trans ((goS (SH_ok _) h).trans vlA)
   |false=>
   have h8':inAll 8 [o]=true:=by
    have:inB o 8=true:=by rw[inB_iff];exact decide_eq_true ⟨by omega,by omega⟩
    simp only[inAll,List.all_cons,List.all_nil,this,Bool.and_true]
   rw[show ile x.1.2.2.2.2.1 r=false from c2,cond_false,h8',cond_true,wr_in (show -9223372036854775808≤o+1 by omega) (by omega),show o+1=(olX x:Int)-(k:Int) by omega,wr_in (show -9223372036854775808≤r+1 by omega) (by omega),wr_in (show -9223372036854775808≤m-1 by omega) (by omega)] at h
   rw[cond_false]
   have g3:=(g2.trans (goS (SH_ok _) h)).trans (hol_go X k (os++[celB b,arO o]) (setF b o) (r+1) (m-1) _ _ _ (by rw[List.length_append];simp only[List.length_cons,List.length_nil];omega) (by omega) (pl_two h3 (celB_pl b) (arO_pl o)) (by omega) (by omega) (by omega) (by omega) (by omega))
   cases c3:holV x k (setF b o) (r+1) (m-1) with
   |true=>
    rw[c3] at g3
    have h:=rt2_stept x l n b o r m d r0 K os (Nat.ble_eq_true_of_le (by omega))
    rw[eqB_of,allO_of h3] at h
    exact (g3.trans vlA).trans ((goS (SH_ok _) h).trans vlA)
   |false=>
    rw[c3] at g3
    have h:=rt2_stepf x l n b o r m d r0 K os (Nat.ble_eq_true_of_le (by omega))
    rw[eqB_of,allO_of h3] at h
    exact (g3.trans vlA).trans ((goS (SH_ok _) h).trans vlA)
end Go.Proofs.Ytmpaifgmccdipaa


set_option maxRecDepth 100000
namespace Go.Proofs.Ytmpaifgmccdipaa
open Go Go.Eng
theorem Ans.goto {E:Env} {c c':Cfg} {v:AV} (h:Goto E c c') (k:Ans E c' v):Ans E c v:=by
 obtain⟨v0,σ,v1,h1,h2⟩:=k
 exact⟨v0,σ,v1,h _ h1,h2⟩
theorem fofV_r:∀ (l:List Bool) (k:Int) (f:tB.den) (r:Int),0≤r→0≤(fofV l k f r).2∧(fofV l k f r).2≤r+l.length
 |[],k,f,r,h=>⟨h,by show r≤r+0;omega⟩
 |b::l,k,f,r,h=>by
  have e:fofV (b::l) k f r=bif b then fofV l (k+1) f 0 else fofV l (k+1) (setF f k) (r+1):=rfl
  rw[e]
  have hl:((b::l).length:Int)=l.length+1:=by simp
  cases b with
  |true=>have:=fofV_r l (k+1) f 0 (Int.le_refl 0);rw[cond_true];omega
  |false=>have:=fofV_r l (k+1) (setF f k) (r+1) (by omega);rw[cond_false];omega
noncomputable def hldV (x:tX.den) (l:List Bool) (n:Int):Bool:=holV x (olX x-l.length) (fofV l 0 fno 0).1 (fofV l 0 fno 0).2 n
theorem hld_call {x:tX.den} {l:(Ty.sl .bool).den} {n:Int} (X:xokB x=true) (h:l.2.length≤olX x) (h0:0≤n) (h8:n≤8):AnsF G0 58 [tX.pv x,.vs .bool l.1 l.2,.int .i64 n] (.bool (hldV x l.2 n)):=by
 refine Ans.call (n:=40) (ext_none (by kernel_rfl)) (hasB_spec (by kernel_rfl)) ?_
 have hs:=hol_start x l n
 have hO:=(xok X).o
 rw[Nat.ble_eq_true_of_le (show l.2.length≤8 by omega),cond_true] at hs
 have hr:=fofV_r l.2 0 fno 0 (Int.le_refl 0)
 have g:=hol_go (x:=x) (l:=l) (n:=n) X (olX x-l.2.length) [] (fofF l) (fofR l) n 37 (rt0 x l n) (fr0 x l n) (by simp only[List.length_nil];omega) (by omega) (fun _ h=>by cases h) hr.1 (by have:=hr.2;show (fofV l.2 0 fno 0).2+_≤_;omega) (by omega) (by omega) (by omega)
 rw[show (olX x:Int)-((olX x-l.2.length:Nat):Int)=Int.ofNat l.2.length by show _=((l.2.length:Nat):Int);omega] at g
 refine Ans.goto ((goS (S:=SZ) (Y0_ok []) hs).trans g) ?_
 show Ans G0 (vlH x l n [] (hldV x l.2 n) 0 (rt0 x l n) (fr0 x l n)) _
 cases hldV x l.2 n with
 |true=>exact Ans.done (S:=SZ) (Y0_ok []) G0sy (hol_end x l n 0) rfl
 |false=>exact Ans.done (S:=SZ) (Y0_ok []) G0sy (hol_endF x l n 0) rfl
noncomputable def LG1:List Said:=[(58,conP3 tX (.sl .bool) tI (fun x l n=>xokB x&&(Nat.ble l.2.length (olX x)&&(ile 0 n&&ile n 8))) (fun x l n=>.bool (hldV x l.2 n)))]
theorem LG1_ok:∀ e∈LG1,SaidG Try.prog G0.glob e:=
 saids_cons (SaidOK.g g0 xg0 ng0 tabs_ok.mix (fun _ _ h=>conP3_spec (t:=tX) (u:=.sl .bool) (w:=tI) (fun x l n c=>by
  simp only[Bool.and_eq_true] at c
  exact hld_call c.1 (Nat.le_of_ble_eq_true c.2.1) (ile_le c.2.2.1) (ile_le c.2.2.2)) h) rfl) saids_nil
noncomputable def G1:Env:=G0.say (under (xOf LG1))
theorem g1:EnvOK Try.prog G1:=g0.say _
theorem ng1:NameOK G1:=ng0.say _
theorem xg1:ExtOK Try.prog G1:=xg0.sayL LG1_ok
theorem G1sy:G1.sy=true:=rfl
noncomputable def Y1 (l:List Nat):Sy:=(Y0 []).on LG1 l
theorem Y1_ok (l:List Nat):(Y1 l).ok G1:=Sy.on_ok (Y0_ok _)
end Go.Proofs.Ytmpaifgmccdipaa


set_option maxRecDepth 100000
namespace Go.Proofs.Ytmpaifgmccdipaa
open Go Go.Eng
noncomputable def stiI0 (s:tS.den) (p:(Ty.sl tO).den) (c:(Ty.sl .bool).den) (x2:Int) (x46:Nat):Cfg:=⟨.ex (pcOf G1 56 [0,0,0,1,1]) ⟨(tmOf 19 [(0,(.int .i64 (wr .i64 (↑p.2.length - ↑c.2.length)))),(1,(.fn 57 [] [(.ptr 3 0),(.ptr 4 0)])),(4,(.int .i64 (0))),(5,(.int .i64 x2)),(6,(.int .i64 (0)))]),(hpOf 5 [(0,(.cells false [(.int .i64 (s.1)),(.vs tN (s.2.1.1) (s.2.1.2)),(.int .i64 (s.2.2.1)),(.int .i64 (s.2.2.2.1)),(.int .i64 (s.2.2.2.2.1)),(.vs tI (s.2.2.2.2.2.1.1) (s.2.2.2.2.2.1.2))])),(1,(.cells false [(.int .i64 (s.1)),(.vs tN (s.2.1.1) (s.2.1.2)),(.int .i64 (s.2.2.1)),(.int .i64 (s.2.2.2.1)),(.int .i64 (s.2.2.2.2.1)),(.vs tI (s.2.2.2.2.2.1.1) (s.2.2.2.2.2.1.2))])),(2,(.cells true [(.int .i64 (s.1)),(.vs tN (s.2.1.1) (s.2.1.2)),(.int .i64 (s.2.2.1)),(.int .i64 (s.2.2.2.1)),(.int .i64 (s.2.2.2.2.1)),(.vs tI (s.2.2.2.2.2.1.1) (s.2.2.2.2.2.1.2)),(.vs tO (p.1) (p.2))])),(3,(.cells false [(.cp [(.int .i64 (s.1)),(.vs tN (s.2.1.1) (s.2.1.2)),(.int .i64 (s.2.2.1)),(.int .i64 (s.2.2.2.1)),(.int .i64 (s.2.2.2.2.1)),(.vs tI (s.2.2.2.2.2.1.1) (s.2.2.2.2.2.1.2)),(.vs tO (p.1) (p.2))] 0)])),(4,(.cells false [(.vs .bool (c.1) (c.2))]))]),[],[],19,false⟩,⟨38,[]⟩,[(.lop (pcOf G1 56 [0,0,0,1,1]) 5 (tmOf 19 [(0,(.int .i64 (wr .i64 (↑p.2.length - ↑c.2.length)))),(1,(.fn 57 [] [(.ptr 3 0),(.ptr 4 0)])),(4,(.int .i64 (0))),(5,(.int .i64 (0))),(6,(.int .i64 (0)))]) x46),(.blk 0),(.seq (pcOf G1 56 [1,1,1])),(.cal [(.tmp 4)] (.dr ⟨(pcOf G1 32 [0,1]),opsD (pcOf G1 32 [0,1]).c,5,(opsD (pcOf G1 32 [0,1]).c).toList.drop 10,(fsD (pcOf G1 32 [0,1]).c).drop 10,9,[((hpOf 5 [(0,(.cells false [(.int .i64 (s.1)),(.vs tN (s.2.1.1) (s.2.1.2)),(.int .i64 (s.2.2.1)),(.int .i64 (s.2.2.2.1)),(.int .i64 (s.2.2.2.2.1)),(.vs tI (s.2.2.2.2.2.1.1) (s.2.2.2.2.2.1.2))])),(1,(.cells false [(.int .i64 (s.1)),(.vs tN (s.2.1.1) (s.2.1.2)),(.int .i64 (s.2.2.1)),(.int .i64 (s.2.2.2.1)),(.int .i64 (s.2.2.2.2.1)),(.vs tI (s.2.2.2.2.2.1.1) (s.2.2.2.2.2.1.2))])),(2,(.cells true [(.int .i64 (s.1)),(.vs tN (s.2.1.1) (s.2.1.2)),(.int .i64 (s.2.2.1)),(.int .i64 (s.2.2.2.1)),(.int .i64 (s.2.2.2.2.1)),(.vs tI (s.2.2.2.2.2.1.1) (s.2.2.2.2.2.1.2)),(.vs tO (p.1) (p.2))])),(3,(.cells false [(.cp [(.int .i64 (s.1)),(.vs tN (s.2.1.1) (s.2.1.2)),(.int .i64 (s.2.2.1)),(.int .i64 (s.2.2.2.1)),(.int .i64 (s.2.2.2.2.1)),(.vs tI (s.2.2.2.2.2.1.1) (s.2.2.2.2.2.1.2)),(.vs tO (p.1) (p.2))] 0)])),(4,(.cells false [(.vs .bool (c.1) (c.2))]))]),0,none)],[((opsD (pcOf G1 32 [0,1]).c).getD 6 default,6,32,(tmOf 15 [(0,(.cp [(.int .i64 (s.1)),(.vs tN (s.2.1.1) (s.2.1.2)),(.int .i64 (s.2.2.1)),(.int .i64 (s.2.2.2.1)),(.int .i64 (s.2.2.2.2.1)),(.vs tI (s.2.2.2.2.2.1.1) (s.2.2.2.2.2.1.2)),(.vs tO (p.1) (p.2))] 0)),(1,(.vs .bool (c.1) (c.2))),(2,(.ptr 3 0)),(3,(.ptr 4 0)),(4,(.int .i64 (0))),(5,(.cp [(.int .i64 (s.1)),(.vs tN (s.2.1.1) (s.2.1.2)),(.int .i64 (s.2.2.1)),(.int .i64 (s.2.2.2.1)),(.int .i64 (s.2.2.2.2.1)),(.vs tI (s.2.2.2.2.2.1.1) (s.2.2.2.2.2.1.2)),(.vs tO (p.1) (p.2))] 0)),(6,(.cp [(.int .i64 (s.1)),(.vs tN (s.2.1.1) (s.2.1.2)),(.int .i64 (s.2.2.1)),(.int .i64 (s.2.2.2.1)),(.int .i64 (s.2.2.2.2.1)),(.vs tI (s.2.2.2.2.2.1.1) (s.2.2.2.2.2.1.2)),(.vs tO (p.1) (p.2))] 0)),(7,(.cp [(.int .i64 (s.1)),(.vs tN (s.2.1.1) (s.2.1.2)),(.int .i64 (s.2.2.1)),(.int .i64 (s.2.2.2.1)),(.int .i64 (s.2.2.2.2.1)),(.vs tI (s.2.2.2.2.2.1.1) (s.2.2.2.2.2.1.2)),(.vs tO (p.1) (p.2))] 6)),(8,(.vs tO (p.1) (p.2))),(9,(.int .i64 (Int.ofNat p.2.length))),(10,(.vs .bool (c.1) (c.2)))]),(tmOf 15 [(0,(.cp [(.int .i64 (s.1)),(.vs tN (s.2.1.1) (s.2.1.2)),(.int .i64 (s.2.2.1)),(.int .i64 (s.2.2.2.1)),(.int .i64 (s.2.2.2.2.1)),(.vs tI (s.2.2.2.2.2.1.1) (s.2.2.2.2.2.1.2)),(.vs tO (p.1) (p.2))] 0)),(1,(.vs .bool (c.1) (c.2))),(2,(.ptr 3 0)),(3,(.ptr 4 0)),(4,(.int .i64 (0))),(5,(.cp [(.int .i64 (s.1)),(.vs tN (s.2.1.1) (s.2.1.2)),(.int .i64 (s.2.2.1)),(.int .i64 (s.2.2.2.1)),(.int .i64 (s.2.2.2.2.1)),(.vs tI (s.2.2.2.2.2.1.1) (s.2.2.2.2.2.1.2)),(.vs tO (p.1) (p.2))] 0)),(6,(.cp [(.int .i64 (s.1)),(.vs tN (s.2.1.1) (s.2.1.2)),(.int .i64 (s.2.2.1)),(.int .i64 (s.2.2.2.1)),(.int .i64 (s.2.2.2.2.1)),(.vs tI (s.2.2.2.2.2.1.1) (s.2.2.2.2.2.1.2)),(.vs tO (p.1) (p.2))] 0)),(7,(.cp [(.int .i64 (s.1)),(.vs tN (s.2.1.1) (s.2.1.2)),(.int .i64 (s.2.2.1)),(.int .i64 (s.2.2.2.1)),(.int .i64 (s.2.2.2.2.1)),(.vs tI (s.2.2.2.2.2.1.1) (s.2.2.2.2.2.1.2)),(.vs tO (p.1) (p.2))] 6)),(8,(.vs tO (p.1) (p.2))),(9,(.int .i64 (Int.ofNat p.2.length))),(10,(.vs .bool (c.1) (c.2))),(11,(.int .i64 (Int.ofNat c.2.length)))])),((opsD (pcOf G1 32 [0,1]).c).getD 5 default,5,0,(tmOf 15 [(0,(.cp [(.int .i64 (s.1)),(.vs tN (s.2.1.1) (s.2.1.2)),(.int .i64 (s.2.2.1)),(.int .i64 (s.2.2.2.1)),(.int .i64 (s.2.2.2.2.1)),(.vs tI (s.2.2.2.2.2.1.1) (s.2.2.2.2.2.1.2)),(.vs tO (p.1) (p.2))] 0)),(1,(.vs .bool (c.1) (c.2))),(2,(.ptr 3 0)),(3,(.ptr 4 0)),(4,(.int .i64 (0))),(5,(.cp [(.int .i64 (s.1)),(.vs tN (s.2.1.1) (s.2.1.2)),(.int .i64 (s.2.2.1)),(.int .i64 (s.2.2.2.1)),(.int .i64 (s.2.2.2.2.1)),(.vs tI (s.2.2.2.2.2.1.1) (s.2.2.2.2.2.1.2)),(.vs tO (p.1) (p.2))] 0)),(6,(.cp [(.int .i64 (s.1)),(.vs tN (s.2.1.1) (s.2.1.2)),(.int .i64 (s.2.2.1)),(.int .i64 (s.2.2.2.1)),(.int .i64 (s.2.2.2.2.1)),(.vs tI (s.2.2.2.2.2.1.1) (s.2.2.2.2.2.1.2)),(.vs tO (p.1) (p.2))] 0)),(7,(.cp [(.int .i64 (s.1)),(.vs tN (s.2.1.1) (s.2.1.2)),(.int .i64 (s.2.2.1)),(.int .i64 (s.2.2.2.1)),(.int .i64 (s.2.2.2.2.1)),(.vs tI (s.2.2.2.2.2.1.1) (s.2.2.2.2.2.1.2)),(.vs tO (p.1) (p.2))] 6)),(8,(.vs tO (p.1) (p.2))),(9,(.int .i64 (Int.ofNat p.2.length)))]),(tmOf 15 [(0,(.cp [(.int .i64 (s.1)),(.vs tN (s.2.1.1) (s.2.1.2)),(.int .i64 (s.2.2.1)),(.int .i64 (s.2.2.2.1)),(.int .i64 (s.2.2.2.2.1)),(.vs tI (s.2.2.2.2.2.1.1) (s.2.2.2.2.2.1.2)),(.vs tO (p.1) (p.2))] 0)),(1,(.vs .bool (c.1) (c.2))),(2,(.ptr 3 0)),(3,(.ptr 4 0)),(4,(.int .i64 (0))),(5,(.cp [(.int .i64 (s.1)),(.vs tN (s.2.1.1) (s.2.1.2)),(.int .i64 (s.2.2.1)),(.int .i64 (s.2.2.2.1)),(.int .i64 (s.2.2.2.2.1)),(.vs tI (s.2.2.2.2.2.1.1) (s.2.2.2.2.2.1.2)),(.vs tO (p.1) (p.2))] 0)),(6,(.cp [(.int .i64 (s.1)),(.vs tN (s.2.1.1) (s.2.1.2)),(.int .i64 (s.2.2.1)),(.int .i64 (s.2.2.2.1)),(.int .i64 (s.2.2.2.2.1)),(.vs tI (s.2.2.2.2.2.1.1) (s.2.2.2.2.2.1.2)),(.vs tO (p.1) (p.2))] 0)),(7,(.cp [(.int .i64 (s.1)),(.vs tN (s.2.1.1) (s.2.1.2)),(.int .i64 (s.2.2.1)),(.int .i64 (s.2.2.2.1)),(.int .i64 (s.2.2.2.2.1)),(.vs tI (s.2.2.2.2.2.1.1) (s.2.2.2.2.2.1.2)),(.vs tO (p.1) (p.2))] 6)),(8,(.vs tO (p.1) (p.2))),(9,(.int .i64 (Int.ofNat p.2.length))),(10,(.vs .bool (c.1) (c.2)))])),((opsD (pcOf G1 32 [0,1]).c).getD 4 default,4,15,(tmOf 15 [(0,(.cp [(.int .i64 (s.1)),(.vs tN (s.2.1.1) (s.2.1.2)),(.int .i64 (s.2.2.1)),(.int .i64 (s.2.2.2.1)),(.int .i64 (s.2.2.2.2.1)),(.vs tI (s.2.2.2.2.2.1.1) (s.2.2.2.2.2.1.2)),(.vs tO (p.1) (p.2))] 0)),(1,(.vs .bool (c.1) (c.2))),(2,(.ptr 3 0)),(3,(.ptr 4 0)),(4,(.int .i64 (0))),(5,(.cp [(.int .i64 (s.1)),(.vs tN (s.2.1.1) (s.2.1.2)),(.int .i64 (s.2.2.1)),(.int .i64 (s.2.2.2.1)),(.int .i64 (s.2.2.2.2.1)),(.vs tI (s.2.2.2.2.2.1.1) (s.2.2.2.2.2.1.2)),(.vs tO (p.1) (p.2))] 0)),(6,(.cp [(.int .i64 (s.1)),(.vs tN (s.2.1.1) (s.2.1.2)),(.int .i64 (s.2.2.1)),(.int .i64 (s.2.2.2.1)),(.int .i64 (s.2.2.2.2.1)),(.vs tI (s.2.2.2.2.2.1.1) (s.2.2.2.2.2.1.2)),(.vs tO (p.1) (p.2))] 0)),(7,(.cp [(.int .i64 (s.1)),(.vs tN (s.2.1.1) (s.2.1.2)),(.int .i64 (s.2.2.1)),(.int .i64 (s.2.2.2.1)),(.int .i64 (s.2.2.2.2.1)),(.vs tI (s.2.2.2.2.2.1.1) (s.2.2.2.2.2.1.2)),(.vs tO (p.1) (p.2))] 6)),(8,(.vs tO (p.1) (p.2)))]),(tmOf 15 [(0,(.cp [(.int .i64 (s.1)),(.vs tN (s.2.1.1) (s.2.1.2)),(.int .i64 (s.2.2.1)),(.int .i64 (s.2.2.2.1)),(.int .i64 (s.2.2.2.2.1)),(.vs tI (s.2.2.2.2.2.1.1) (s.2.2.2.2.2.1.2)),(.vs tO (p.1) (p.2))] 0)),(1,(.vs .bool (c.1) (c.2))),(2,(.ptr 3 0)),(3,(.ptr 4 0)),(4,(.int .i64 (0))),(5,(.cp [(.int .i64 (s.1)),(.vs tN (s.2.1.1) (s.2.1.2)),(.int .i64 (s.2.2.1)),(.int .i64 (s.2.2.2.1)),(.int .i64 (s.2.2.2.2.1)),(.vs tI (s.2.2.2.2.2.1.1) (s.2.2.2.2.2.1.2)),(.vs tO (p.1) (p.2))] 0)),(6,(.cp [(.int .i64 (s.1)),(.vs tN (s.2.1.1) (s.2.1.2)),(.int .i64 (s.2.2.1)),(.int .i64 (s.2.2.2.1)),(.int .i64 (s.2.2.2.2.1)),(.vs tI (s.2.2.2.2.2.1.1) (s.2.2.2.2.2.1.2)),(.vs tO (p.1) (p.2))] 0)),(7,(.cp [(.int .i64 (s.1)),(.vs tN (s.2.1.1) (s.2.1.2)),(.int .i64 (s.2.2.1)),(.int .i64 (s.2.2.2.1)),(.int .i64 (s.2.2.2.2.1)),(.vs tI (s.2.2.2.2.2.1.1) (s.2.2.2.2.2.1.2)),(.vs tO (p.1) (p.2))] 6)),(8,(.vs tO (p.1) (p.2))),(9,(.int .i64 (Int.ofNat p.2.length)))])),((opsD (pcOf G1 32 [0,1]).c).getD 3 default,3,7,(tmOf 15 [(0,(.cp [(.int .i64 (s.1)),(.vs tN (s.2.1.1) (s.2.1.2)),(.int .i64 (s.2.2.1)),(.int .i64 (s.2.2.2.1)),(.int .i64 (s.2.2.2.2.1)),(.vs tI (s.2.2.2.2.2.1.1) (s.2.2.2.2.2.1.2)),(.vs tO (p.1) (p.2))] 0)),(1,(.vs .bool (c.1) (c.2))),(2,(.ptr 3 0)),(3,(.ptr 4 0)),(4,(.int .i64 (0))),(5,(.cp [(.int .i64 (s.1)),(.vs tN (s.2.1.1) (s.2.1.2)),(.int .i64 (s.2.2.1)),(.int .i64 (s.2.2.2.1)),(.int .i64 (s.2.2.2.2.1)),(.vs tI (s.2.2.2.2.2.1.1) (s.2.2.2.2.2.1.2)),(.vs tO (p.1) (p.2))] 0)),(6,(.cp [(.int .i64 (s.1)),(.vs tN (s.2.1.1) (s.2.1.2)),(.int .i64 (s.2.2.1)),(.int .i64 (s.2.2.2.1)),(.int .i64 (s.2.2.2.2.1)),(.vs tI (s.2.2.2.2.2.1.1) (s.2.2.2.2.2.1.2)),(.vs tO (p.1) (p.2))] 0)),(7,(.cp [(.int .i64 (s.1)),(.vs tN (s.2.1.1) (s.2.1.2)),(.int .i64 (s.2.2.1)),(.int .i64 (s.2.2.2.1)),(.int .i64 (s.2.2.2.2.1)),(.vs tI (s.2.2.2.2.2.1.1) (s.2.2.2.2.2.1.2)),(.vs tO (p.1) (p.2))] 6))]),(tmOf 15 [(0,(.cp [(.int .i64 (s.1)),(.vs tN (s.2.1.1) (s.2.1.2)),(.int .i64 (s.2.2.1)),(.int .i64 (s.2.2.2.1)),(.int .i64 (s.2.2.2.2.1)),(.vs tI (s.2.2.2.2.2.1.1) (s.2.2.2.2.2.1.2)),(.vs tO (p.1) (p.2))] 0)),(1,(.vs .bool (c.1) (c.2))),(2,(.ptr 3 0)),(3,(.ptr 4 0)),(4,(.int .i64 (0))),(5,(.cp [(.int .i64 (s.1)),(.vs tN (s.2.1.1) (s.2.1.2)),(.int .i64 (s.2.2.1)),(.int .i64 (s.2.2.2.1)),(.int .i64 (s.2.2.2.2.1)),(.vs tI (s.2.2.2.2.2.1.1) (s.2.2.2.2.2.1.2)),(.vs tO (p.1) (p.2))] 0)),(6,(.cp [(.int .i64 (s.1)),(.vs tN (s.2.1.1) (s.2.1.2)),(.int .i64 (s.2.2.1)),(.int .i64 (s.2.2.2.1)),(.int .i64 (s.2.2.2.2.1)),(.vs tI (s.2.2.2.2.2.1.1) (s.2.2.2.2.2.1.2)),(.vs tO (p.1) (p.2))] 0)),(7,(.cp [(.int .i64 (s.1)),(.vs tN (s.2.1.1) (s.2.1.2)),(.int .i64 (s.2.2.1)),(.int .i64 (s.2.2.2.1)),(.int .i64 (s.2.2.2.2.1)),(.vs tI (s.2.2.2.2.2.1.1) (s.2.2.2.2.2.1.2)),(.vs tO (p.1) (p.2))] 6)),(8,(.vs tO (p.1) (p.2)))])),((opsD (pcOf G1 32 [0,1]).c).getD 0 default,0,0,(tmOf 15 [(0,(.cp [(.int .i64 (s.1)),(.vs tN (s.2.1.1) (s.2.1.2)),(.int .i64 (s.2.2.1)),(.int .i64 (s.2.2.2.1)),(.int .i64 (s.2.2.2.2.1)),(.vs tI (s.2.2.2.2.2.1.1) (s.2.2.2.2.2.1.2)),(.vs tO (p.1) (p.2))] 0)),(1,(.vs .bool (c.1) (c.2))),(2,(.ptr 3 0)),(3,(.ptr 4 0)),(4,(.int .i64 (0)))]),(tmOf 15 [(0,(.cp [(.int .i64 (s.1)),(.vs tN (s.2.1.1) (s.2.1.2)),(.int .i64 (s.2.2.1)),(.int .i64 (s.2.2.2.1)),(.int .i64 (s.2.2.2.2.1)),(.vs tI (s.2.2.2.2.2.1.1) (s.2.2.2.2.2.1.2)),(.vs tO (p.1) (p.2))] 0)),(1,(.vs .bool (c.1) (c.2))),(2,(.ptr 3 0)),(3,(.ptr 4 0)),(4,(.int .i64 (0))),(5,(.cp [(.int .i64 (s.1)),(.vs tN (s.2.1.1) (s.2.1.2)),(.int .i64 (s.2.2.1)),(.int .i64 (s.2.2.2.1)),(.int .i64 (s.2.2.2.2.1)),(.vs tI (s.2.2.2.2.2.1.1) (s.2.2.2.2.2.1.2)),(.vs tO (p.1) (p.2))] 0))]))],false⟩ ((opsD (pcOf G1 32 [0,1]).c).getD 9 default) ((fsD (pcOf G1 32 [0,1]).c).getD 9 default) (tmOf 15 [(0,(.cp [(.int .i64 (s.1)),(.vs tN (s.2.1.1) (s.2.1.2)),(.int .i64 (s.2.2.1)),(.int .i64 (s.2.2.2.1)),(.int .i64 (s.2.2.2.2.1)),(.vs tI (s.2.2.2.2.2.1.1) (s.2.2.2.2.2.1.2)),(.vs tO (p.1) (p.2))] 0)),(1,(.vs .bool (c.1) (c.2))),(2,(.ptr 3 0)),(3,(.ptr 4 0)),(4,(.int .i64 (0))),(5,(.cp [(.int .i64 (s.1)),(.vs tN (s.2.1.1) (s.2.1.2)),(.int .i64 (s.2.2.1)),(.int .i64 (s.2.2.2.1)),(.int .i64 (s.2.2.2.2.1)),(.vs tI (s.2.2.2.2.2.1.1) (s.2.2.2.2.2.1.2)),(.vs tO (p.1) (p.2))] 0)),(6,(.cp [(.int .i64 (s.1)),(.vs tN (s.2.1.1) (s.2.1.2)),(.int .i64 (s.2.2.1)),(.int .i64 (s.2.2.2.1)),(.int .i64 (s.2.2.2.2.1)),(.vs tI (s.2.2.2.2.2.1.1) (s.2.2.2.2.2.1.2)),(.vs tO (p.1) (p.2))] 0)),(7,(.cp [(.int .i64 (s.1)),(.vs tN (s.2.1.1) (s.2.1.2)),(.int .i64 (s.2.2.1)),(.int .i64 (s.2.2.2.1)),(.int .i64 (s.2.2.2.2.1)),(.vs tI (s.2.2.2.2.2.1.1) (s.2.2.2.2.2.1.2)),(.vs tO (p.1) (p.2))] 6)),(8,(.vs tO (p.1) (p.2))),(9,(.int .i64 (Int.ofNat p.2.length))),(10,(.vs .bool (c.1) (c.2))),(11,(.int .i64 (Int.ofNat c.2.length))),(12,(.int .i64 (wr .i64 (↑p.2.length - ↑c.2.length)))),(13,(.fn 57 [] [(.ptr 3 0),(.ptr 4 0)]))]) [] 15 false ⟨39,[]⟩)),(.seq (pcOf G1 32 [1,1])),(.cal [(.tmp 4)] (.op (pcOf G1 13 [0,1,1,1,1]) 3 (some 27) ((opsOf (pcOf G1 13 [0,1,1,1,1]).c).toList.drop 3) (tmOf 31 [(0,(.agg [(.int .i64 (s.1)),(.vs tN (s.2.1.1) (s.2.1.2)),(.int .i64 (s.2.2.1)),(.int .i64 (s.2.2.2.1)),(.int .i64 (s.2.2.2.2.1)),(.vs tI (s.2.2.2.2.2.1.1) (s.2.2.2.2.2.1.2))])),(1,(.vs tO (p.1) (p.2))),(2,(.vs .bool (c.1) (c.2))),(3,(.ptr 0 0)),(6,(.int .i64 (0))),(7,(.int .i64 (0))),(8,(.ptr 2 0)),(9,(.int .i64 (0))),(11,(.tup [(.ptr 2 0),(.int .i64 (0))])),(12,(.agg [(.int .i64 (s.1)),(.vs tN (s.2.1.1) (s.2.1.2)),(.int .i64 (s.2.2.1)),(.int .i64 (s.2.2.2.1)),(.int .i64 (s.2.2.2.2.1)),(.vs tI (s.2.2.2.2.2.1.1) (s.2.2.2.2.2.1.2))])),(13,(.vs tO (p.1) (p.2))),(14,(.tup [(.ptr 2 0),(.int .i64 (0))])),(15,(.ptr 2 0)),(16,(.int .i64 (0))),(17,(.int .i64 (0))),(18,(.bool (false))),(20,(.vs .bool (c.1) (c.2))),(21,(.int .i64 (Int.ofNat c.2.length))),(22,(.vs tO (p.1) (p.2))),(23,(.int .i64 (Int.ofNat p.2.length))),(24,(.bool (false))),(25,(.ptr 2 0)),(26,(.vs .bool (c.1) (c.2)))]) [] 31 false ⟨40,[]⟩)),(.seq (pcOf G1 13 [1,1,1,1,1])),(.cal [(.tmp 6),(.tmp 7)] .top)]⟩
theorem sti_start (s:tS.den) (p:(Ty.sl tO).den) (c:(Ty.sl .bool).den):adv G1 (Y1 [56]) 3000 (startC G1 13 [tS.av s,.vs tO p.1 p.2,.vs .bool c.1 c.2] 40)=(bif !ieq (plnV s p.2).2 0 then (bif !ieq (plnV s p.2).2 0 then some (.done (.tup [(.int .i64 (0)),(.int .i64 ((plnV s p.2).2))])) else (bif !ile ↑c.2.length ↑p.2.length then some (.done (.tup [(.int .i64 (0)),(.int .i64 (3))])) else none)) else (bif !ile ↑c.2.length ↑p.2.length then some (.done (.tup [(.int .i64 (0)),(.int .i64 (3))])) else some (.stop (stiI0 s p c (0) (1048575))))):=by kernel_rfl
theorem sti_step0 (s:tS.den) (p:(Ty.sl tO).den) (c:(Ty.sl .bool).den) (x2:Int) (x46:Nat):adv G1 (Y1 [56]) 3000 (stiI0 s p c x2 (x46+1))=(bif ile x2 (wr .i64 (↑p.2.length - ↑c.2.length)) then (bif xokB (s,p,())&&(c.2.length.ble (olX (s,p,()))&&(ile 0 x2&&ile x2 8)) then (bif hldV (s,p,()) c.2 x2 then some (.stop (stiI0 s p c (wr .i64 (x2+1)) (x46))) else (bif bbeq c.1 c.1 then (bif vsB Ty.bool c.2 Ty.bool c.2 then (bif avbeq (AV.cp [AV.int IntKind.i64 s.1,AV.vs tN s.2.1.1 s.2.1.2,AV.int IntKind.i64 s.2.2.1,AV.int IntKind.i64 s.2.2.2.1,AV.int IntKind.i64 s.2.2.2.2.1,AV.vs tI s.2.2.2.2.2.1.1 s.2.2.2.2.2.1.2,AV.vs tO p.1 p.2] 0) (AV.cp [AV.int IntKind.i64 s.1,AV.vs tN s.2.1.1 s.2.1.2,AV.int IntKind.i64 s.2.2.1,AV.int IntKind.i64 s.2.2.2.1,AV.int IntKind.i64 s.2.2.2.2.1,AV.vs tI s.2.2.2.2.2.1.1 s.2.2.2.2.2.1.2,AV.vs tO p.1 p.2] 0) then (bif !ile 0 (wr .i64 (x2-1)) then some (.done (.tup [(.int .i64 (0)),(.int .i64 (9))])) else some (.done (.tup [(.int .i64 (wr .i64 (x2-1))),(.int .i64 (0))]))) else none) else none) else none)) else none) else (bif bbeq c.1 c.1 then (bif vsB Ty.bool c.2 Ty.bool c.2 then (bif avbeq (AV.cp [AV.int IntKind.i64 s.1,AV.vs tN s.2.1.1 s.2.1.2,AV.int IntKind.i64 s.2.2.1,AV.int IntKind.i64 s.2.2.2.1,AV.int IntKind.i64 s.2.2.2.2.1,AV.vs tI s.2.2.2.2.2.1.1 s.2.2.2.2.2.1.2,AV.vs tO p.1 p.2] 0) (AV.cp [AV.int IntKind.i64 s.1,AV.vs tN s.2.1.1 s.2.1.2,AV.int IntKind.i64 s.2.2.1,AV.int IntKind.i64 s.2.2.2.1,AV.int IntKind.i64 s.2.2.2.2.1,AV.vs tI s.2.2.2.2.2.1.1 s.2.2.2.2.2.1.2,AV.vs tO p.1 p.2] 0) then (bif !ile 0 (wr .i64 (x2-1)) then some (.done (.tup [(.int .i64 (0)),(.int .i64 (9))])) else some (.done (.tup [(.int .i64 (wr .i64 (x2-1))),(.int .i64 (0))]))) else none) else none) else none)):=by kernel_rfl
noncomputable def cntV (x:tX.den) (c:List Bool):Nat→Int→Int
 |0,k=>k
 |r+1,k=>bif hldV x c k then cntV x c r (k+1) else k
noncomputable def grE (n:Int):Int×Int:=bif ile 0 (n-1) then (n-1,0) else (0,9)
noncomputable def stiV (s:tS.den) (p:(Ty.sl tO).den) (c:List Bool):Int×Int:=bif ieq (plnV s p.2).2 0 then (bif ile (c.length:Int) (p.2.length:Int) then grE (cntV (xSP s p) c (p.2.length-c.length+1) 0) else (0,3)) else (0,(plnV s p.2).2)
theorem sti_out {n:Int} (h0:0≤n) (h9:n≤9):(bif !ile 0 (wr .i64 (n-1)) then some (Out.done (.tup [(.int .i64 (0)),(.int .i64 (9))])) else some (.done (.tup [(.int .i64 (wr .i64 (n-1))),(.int .i64 (0))])))=some (.done (pairV (grE n))):=by
 rw[wr_in (by omega) (by omega)]
 unfold grE
 cases ile 0 (n-1)<;>rfl
theorem sti_ans {s:tS.den} {p:(Ty.sl tO).den} {c:(Ty.sl .bool).den} (P:POK s p.2) (hc:c.2.length≤p.2.length):∀ (r k m:Nat),k+r=p.2.length-c.2.length+1→r<m→Ans G1 (stiI0 s p c k m) (pairV (grE (cntV (xSP s p) c.2 r k)))
 |0,k,m0,hk,hm=>by
  obtain⟨m,rfl⟩:∃ m,m0=m+1:=⟨m0-1,by omega⟩
  have h:=sti_step0 s p c k m
  have h8:=P.len
  rw[wr_in (show -9223372036854775808≤((p.2.length:Int)-(c.2.length:Int)) by omega) (by omega),ile_f (show ((p.2.length:Int)-(c.2.length:Int))<(k:Int) by omega),cond_false,bbeq_self,cond_true,vsB_self,cond_true,show avbeq (AV.cp [AV.int IntKind.i64 s.1,AV.vs tN s.2.1.1 s.2.1.2,AV.int IntKind.i64 s.2.2.1,AV.int IntKind.i64 s.2.2.2.1,AV.int IntKind.i64 s.2.2.2.2.1,AV.vs tI s.2.2.2.2.2.1.1 s.2.2.2.2.2.1.2,AV.vs tO p.1 p.2] 0) (AV.cp [AV.int IntKind.i64 s.1,AV.vs tN s.2.1.1 s.2.1.2,AV.int IntKind.i64 s.2.2.1,AV.int IntKind.i64 s.2.2.2.1,AV.int IntKind.i64 s.2.2.2.2.1,AV.vs tI s.2.2.2.2.2.1.1 s.2.2.2.2.2.1.2,AV.vs tO p.1 p.2] 0)=true from cpX (s,p,()),cond_true,sti_out (by omega) (by omega)] at h
  exact .done (Y1_ok _) G1sy h rfl
 | r + 1, k, m0, hk, hm => by
  obtain⟨m,rfl⟩:∃ m,m0=m+1:=⟨m0-1,by omega⟩
  have h:=sti_step0 s p c k m
  have h8:=P.len
  have e:cntV (xSP s p) c.2 (r+1) (k:Int)=bif hldV (xSP s p) c.2 (k:Int) then cntV (xSP s p) c.2 r ((k+1:Nat):Int) else (k:Int):=rfl
  rw[wr_in (show -9223372036854775808≤((p.2.length:Int)-(c.2.length:Int)) by omega) (by omega),ile_t (show (k:Int)≤((p.2.length:Int)-(c.2.length:Int)) by omega),cond_true,show xokB (s,p,())=true from xok_of P,show c.2.length.ble (olX (s,p,()))=true from Nat.ble_eq_true_of_le hc,ile_t (show (0:Int)≤(k:Int) by omega),ile_t (show (k:Int)≤8 by omega),wr_succ (show k<1048577 by omega),bbeq_self,vsB_self,show avbeq (AV.cp [AV.int IntKind.i64 s.1,AV.vs tN s.2.1.1 s.2.1.2,AV.int IntKind.i64 s.2.2.1,AV.int IntKind.i64 s.2.2.2.1,AV.int IntKind.i64 s.2.2.2.2.1,AV.vs tI s.2.2.2.2.2.1.1 s.2.2.2.2.2.1.2,AV.vs tO p.1 p.2] 0) (AV.cp [AV.int IntKind.i64 s.1,AV.vs tN s.2.1.1 s.2.1.2,AV.int IntKind.i64 s.2.2.1,AV.int IntKind.i64 s.2.2.2.1,AV.int IntKind.i64 s.2.2.2.2.1,AV.vs tI s.2.2.2.2.2.1.1 s.2.2.2.2.2.1.2,AV.vs tO p.1 p.2] 0)=true from cpX (s,p,()),sti_out (show (0:Int)≤k by omega) (by omega)] at h
  rw[e]
  cases c1:hldV (xSP s p) c.2 (k:Int) with
  |true=>
   rw[show hldV (s,p,()) c.2 (k:Int)=true from c1] at h
   exact .stop (Y1_ok _) G1sy h (sti_ans P hc r (k+1) m (by omega) (by omega))
  |false=>
   rw[show hldV (s,p,()) c.2 (k:Int)=false from c1] at h
   exact .done (Y1_ok _) G1sy h rfl
theorem sti_call (s:tS.den) (p:(Ty.sl tO).den) (c:(Ty.sl .bool).den):AnsF G1 13 [tS.av s,.vs tO p.1 p.2,.vs .bool c.1 c.2] (pairV (stiV s p c.2)):=by
 refine Ans.call (n:=40) (ext_none (by kernel_rfl)) (hasB_spec (by kernel_rfl)) ?_
 have h:=sti_start s p c
 unfold stiV
 cases c0:ieq (plnV s p.2).2 0 with
 |false=>
  rw[show ieq (plnV s p.2).2 0=false from c0] at h
  exact done2 (Y1_ok _) G1sy h rfl
 |true=>
 rw[show ieq (plnV s p.2).2 0=true from c0] at h
 rw[cond_true]
 cases c1:ile (c.2.length:Int) (p.2.length:Int) with
 |false=>
  rw[show ile (↑c.2.length) (↑p.2.length)=false from c1] at h
  exact done2 (Y1_ok _) G1sy h rfl
 |true=>
  rw[show ile (↑c.2.length) (↑p.2.length)=true from c1] at h
  rw[cond_true]
  have hc:=ile_le c1
  exact .stop (Y1_ok _) G1sy h (sti_ans (pln_ok c0) (by omega) (p.2.length-c.2.length+1) 0 1048575 (by omega) (by have:=(pln_ok c0).len;omega))
noncomputable def LG2:List Said:=[(13,con3 tS (.sl tO) (.sl .bool) (fun _ _ _=>true) (fun s p c=>pairV (stiV s p c.2)))]
theorem LG2_ok:∀ e∈LG2,SaidG Try.prog G1.glob e:=
 saids_cons (SaidOK.g g1 xg1 ng1 tabs_ok.mix (fun _ _ h=>con3_spec (t:=tS) (u:=.sl tO) (w:=.sl .bool) (fun s p c _=>sti_call s p c) h) rfl) saids_nil
noncomputable def G2:Env:=G1.say (under (xOf LG2))
theorem g2:EnvOK Try.prog G2:=g1.say _
theorem ng2:NameOK G2:=ng1.say _
theorem xg2:ExtOK Try.prog G2:=xg1.sayL LG2_ok
theorem G2sy:G2.sy=true:=rfl
noncomputable def Y2 (l:List Nat):Sy:=(Y1 []).on LG2 l
theorem Y2_ok (l:List Nat):(Y2 l).ok G2:=Sy.on_ok (Y1_ok _)
noncomputable def LG3:List Said:=[(8,say0 (.bool true))]
noncomputable def G3:Env:=G2.say (under (xOf LG3))
theorem g3:EnvOK Try.prog G3:=g2.say _
end Go.Proofs.Ytmpaifgmccdipaa


set_option maxRecDepth 100000
namespace Go.Proofs.Ytmpaifgmccdipaa
open Go Go.Eng
noncomputable def scpI0 (a b:(Ty.sl tI).den) (x8:Int) (x18:Nat):Cfg:=⟨.ex (pcOf G2 63 [0,0,1,0,1]) ⟨(tmOf 36 [(0,(.vs tI (a.1) (a.2))),(1,(.vs tI (b.1) (b.2))),(4,(.int .i64 (0))),(9,(.vs tI (a.1) (a.2))),(10,(.int .i64 (Int.ofNat a.2.length))),(11,(.int .i64 x8))]),(hpOf 0 []),[],[],36,false⟩,⟨20,[]⟩,[(.lop (pcOf G2 63 [0,0,1,0,1]) 0 (tmOf 36 [(0,(.vs tI (a.1) (a.2))),(1,(.vs tI (b.1) (b.2))),(4,(.int .i64 (0))),(9,(.vs tI (a.1) (a.2))),(10,(.int .i64 (Int.ofNat a.2.length))),(11,(.int .i64 (0)))]) x18),(.blk 0),(.seq (pcOf G2 63 [1,1])),(.cal [(.tmp 4)] .top)]⟩
theorem scp_start (a b:(Ty.sl tI).den):adv G2 (Y2 [63]) 3000 (startC G2 63 [.vs tI a.1 a.2,.vs tI b.1 b.2] 20)=some (.stop (scpI0 a b (0) (1048575))):=by kernel_rfl
theorem scp_step0 (a b:(Ty.sl tI).den) (x8:Int) (x18:Nat):adv G2 (Y2 [63]) 3000 (scpI0 a b x8 (x18+1))=(bif !ile (Int.ofNat a.2.length) x8 then (bif inB x8 a.2.length then (bif ile (↑b.2.length) x8 then some (.done (.int .i64 (1))) else (bif inB x8 b.2.length then (bif !ieq (a.2.getD x8.toNat tI.dflt) (a.2.getD x8.toNat tI.dflt) then (bif !ieq (b.2.getD x8.toNat tI.dflt) (b.2.getD x8.toNat tI.dflt) then some (.stop (scpI0 a b (wr .i64 (x8+1)) (x18))) else some (.done (.int .i64 (-1)))) else (bif !ieq (b.2.getD x8.toNat tI.dflt) (b.2.getD x8.toNat tI.dflt) then some (.done (.int .i64 (1))) else (bif !ile (b.2.getD x8.toNat tI.dflt) (a.2.getD x8.toNat tI.dflt) then some (.done (.int .i64 (-1))) else (bif !ile (a.2.getD x8.toNat tI.dflt) (b.2.getD x8.toNat tI.dflt) then some (.done (.int .i64 (1))) else some (.stop (scpI0 a b (wr .i64 (x8+1)) (x18))))))) else none)) else none) else (bif !ile ↑b.2.length ↑a.2.length then some (.done (.int .i64 (-1))) else some (.done (.int .i64 (0))))):=by kernel_rfl
noncomputable def lexV:List Int→List Int→Int
 |[],[]=>0
 |[],_::_=>-1
 |_::_,[]=>1
 |x::a,y::b=>bif !ile y x then -1 else bif !ile x y then 1 else lexV a b
theorem scp_ans {a b:(Ty.sl tI).den} (H:a.2.length≤1000):∀ (r k m0:Nat),k+r=a.2.length→r<m0→k≤b.2.length→Ans G2 (scpI0 a b k m0) (.int .i64 (lexV (a.2.drop k) (b.2.drop k)))
 |0,k,m0,hk,hm,hb=>by
  obtain⟨m,rfl⟩:∃ m,m0=m+1:=⟨m0-1,by omega⟩
  have h:=scp_step0 a b k m
  rw[ile_t (show Int.ofNat a.2.length≤(k:Int) by show ((a.2.length:Nat):Int)≤k;omega),Bool.not_true,cond_false] at h
  rw[List.drop_eq_nil_of_le (show a.2.length≤k by omega)]
  by_cases hb2:b.2.length≤a.2.length
  · rw [ile_t (by omega), Bool.not_true, cond_false] at h
    rw[List.drop_eq_nil_of_le (show b.2.length≤k by omega)]
    exact .done (Y2_ok _) G2sy h rfl
  · rw [ile_f (by omega), Bool.not_false, cond_true] at h
    rw[List.drop_eq_getElem_cons (show k<b.2.length by omega)]
    exact .done (Y2_ok _) G2sy h rfl
 | r + 1, k, m0, hk, hm, hb => by
  obtain⟨m,rfl⟩:∃ m,m0=m+1:=⟨m0-1,by omega⟩
  have h:=scp_step0 a b k m
  have hlt:k<a.2.length:=by omega
  rw[ile_f (show (k:Int)<Int.ofNat a.2.length by show (k:Int)<((a.2.length:Nat):Int);omega),Bool.not_false,cond_true,inB_at hlt,cond_true,getD_at hlt] at h
  rw[List.drop_eq_getElem_cons hlt]
  by_cases hb2:b.2.length≤k
  · rw [ile_t (by omega), cond_true] at h
    rw[List.drop_eq_nil_of_le hb2]
    exact .done (Y2_ok _) G2sy h rfl
  · have hlt2 : k < b.2.length := by omega
    rw[ile_f (by omega),cond_false,inB_at hlt2,cond_true,getD_at hlt2,ieq_self,ieq_self,Bool.not_true,cond_false,cond_false,wr_succ (show k<1048577 by omega)] at h
    rw[List.drop_eq_getElem_cons hlt2]
    have e:lexV (a.2[k]::a.2.drop (k+1)) (b.2[k]::b.2.drop (k+1))=bif !ile b.2[k] a.2[k] then -1 else bif !ile a.2[k] b.2[k] then 1 else lexV (a.2.drop (k+1)) (b.2.drop (k+1)):=rfl
    rw[e]
    cases c1:ile (b.2[k]) (a.2[k]) with
    |false=>rw[show ile (b.2[k]) (a.2[k])=false from c1] at h;exact .done (Y2_ok _) G2sy h rfl
    |true=>
    cases c2:ile (a.2[k]) (b.2[k]) with
    |false=>rw[show ile (b.2[k]) (a.2[k])=true from c1,show ile (a.2[k]) (b.2[k])=false from c2] at h;exact .done (Y2_ok _) G2sy h rfl
    |true=>
     rw[show ile (b.2[k]) (a.2[k])=true from c1,show ile (a.2[k]) (b.2[k])=true from c2] at h
     exact .stop (Y2_ok _) G2sy h (scp_ans H r (k+1) m (by omega) (by omega) (by omega))
theorem scp_call {a b:(Ty.sl tI).den} (H:a.2.length≤1000):AnsF G2 63 [.vs tI a.1 a.2,.vs tI b.1 b.2] (.int .i64 (lexV a.2 b.2)):=by
 refine Ans.call (n:=20) (ext_none (by kernel_rfl)) (hasB_spec (by kernel_rfl)) ?_
 exact .stop (Y2_ok _) G2sy (scp_start a b) (scp_ans H a.2.length 0 1048575 (Nat.zero_add _) (by omega) (Nat.zero_le _))
abbrev tW:Ty:=.cons (.sl tI) (.cons tI (.cons tI .nil))
noncomputable def LC0:List Said:=[(63,con2 (.sl tI) (.sl tI) (fun a _=>le1k a.2) (fun a b=>.int .i64 (lexV a.2 b.2)))]
theorem LC0_ok:∀ e∈LC0,SaidG Try.prog G2.glob e:=
 saids_cons (SaidOK.g g2 xg2 ng2 tabs_ok.mix (fun _ _ h=>con2_spec (t:=.sl tI) (u:=.sl tI) (fun a b c=>scp_call (le1k_le c)) h) rfl) saids_nil
noncomputable def C0:Env:=G2.say (under (xOf LC0))
theorem cc0:EnvOK Try.prog C0:=g2.say _
theorem nC0:NameOK C0:=ng2.say _
theorem xC0:ExtOK Try.prog C0:=xg2.sayL LC0_ok
theorem C0sy:C0.sy=true:=rfl
noncomputable def U0 (l:List Nat):Sy:=(Y2 []).on LC0 l
theorem U0_ok (l:List Nat):(U0 l).ok C0:=Sy.on_ok (Y2_ok _)
end Go.Proofs.Ytmpaifgmccdipaa


set_option maxRecDepth 100000
namespace Go.Proofs.Ytmpaifgmccdipaa
open Go Go.Eng
theorem cpr_start (a b:tW.den):adv C0 (U0 []) 3000 (startC C0 18 [tW.av a,tW.av b] 20)=(bif !ieq a.2.1 a.2.1 then (bif !ieq b.2.1 b.2.1 then (bif !ieq a.2.2.1 a.2.2.1 then (bif !ieq b.2.2.1 b.2.2.1 then (bif !ieq ↑a.1.2.length ↑a.1.2.length then (bif !ieq ↑b.1.2.length ↑b.1.2.length then (bif le1k a.1.2 then (bif !ieq (lexV a.1.2 b.1.2) 0 then some (.done (.int .i64 (lexV a.1.2 b.1.2))) else some (.done (.int .i64 (0)))) else none) else some (.done (.int .i64 (-1)))) else (bif !ieq ↑b.1.2.length ↑b.1.2.length then some (.done (.int .i64 (1))) else (bif !ile ↑b.1.2.length ↑a.1.2.length then some (.done (.int .i64 (-1))) else (bif !ile ↑a.1.2.length ↑b.1.2.length then some (.done (.int .i64 (1))) else (bif le1k a.1.2 then (bif !ieq (lexV a.1.2 b.1.2) 0 then some (.done (.int .i64 (lexV a.1.2 b.1.2))) else some (.done (.int .i64 (0)))) else none))))) else some (.done (.int .i64 (-1)))) else (bif !ieq b.2.2.1 b.2.2.1 then some (.done (.int .i64 (1))) else (bif !ile b.2.2.1 a.2.2.1 then some (.done (.int .i64 (-1))) else (bif !ile a.2.2.1 b.2.2.1 then some (.done (.int .i64 (1))) else (bif !ieq ↑a.1.2.length ↑a.1.2.length then (bif !ieq ↑b.1.2.length ↑b.1.2.length then (bif le1k a.1.2 then (bif !ieq (lexV a.1.2 b.1.2) 0 then some (.done (.int .i64 (lexV a.1.2 b.1.2))) else some (.done (.int .i64 (0)))) else none) else some (.done (.int .i64 (-1)))) else (bif !ieq ↑b.1.2.length ↑b.1.2.length then some (.done (.int .i64 (1))) else (bif !ile ↑b.1.2.length ↑a.1.2.length then some (.done (.int .i64 (-1))) else (bif !ile ↑a.1.2.length ↑b.1.2.length then some (.done (.int .i64 (1))) else (bif le1k a.1.2 then (bif !ieq (lexV a.1.2 b.1.2) 0 then some (.done (.int .i64 (lexV a.1.2 b.1.2))) else some (.done (.int .i64 (0)))) else none))))))))) else some (.done (.int .i64 (-1)))) else (bif !ieq b.2.1 b.2.1 then some (.done (.int .i64 (1))) else (bif !ile b.2.1 a.2.1 then some (.done (.int .i64 (-1))) else (bif !ile a.2.1 b.2.1 then some (.done (.int .i64 (1))) else (bif !ieq a.2.2.1 a.2.2.1 then (bif !ieq b.2.2.1 b.2.2.1 then (bif !ieq ↑a.1.2.length ↑a.1.2.length then (bif !ieq ↑b.1.2.length ↑b.1.2.length then (bif le1k a.1.2 then (bif !ieq (lexV a.1.2 b.1.2) 0 then some (.done (.int .i64 (lexV a.1.2 b.1.2))) else some (.done (.int .i64 (0)))) else none) else some (.done (.int .i64 (-1)))) else (bif !ieq ↑b.1.2.length ↑b.1.2.length then some (.done (.int .i64 (1))) else (bif !ile ↑b.1.2.length ↑a.1.2.length then some (.done (.int .i64 (-1))) else (bif !ile ↑a.1.2.length ↑b.1.2.length then some (.done (.int .i64 (1))) else (bif le1k a.1.2 then (bif !ieq (lexV a.1.2 b.1.2) 0 then some (.done (.int .i64 (lexV a.1.2 b.1.2))) else some (.done (.int .i64 (0)))) else none))))) else some (.done (.int .i64 (-1)))) else (bif !ieq b.2.2.1 b.2.2.1 then some (.done (.int .i64 (1))) else (bif !ile b.2.2.1 a.2.2.1 then some (.done (.int .i64 (-1))) else (bif !ile a.2.2.1 b.2.2.1 then some (.done (.int .i64 (1))) else (bif !ieq ↑a.1.2.length ↑a.1.2.length then (bif !ieq ↑b.1.2.length ↑b.1.2.length then (bif le1k a.1.2 then (bif !ieq (lexV a.1.2 b.1.2) 0 then some (.done (.int .i64 (lexV a.1.2 b.1.2))) else some (.done (.int .i64 (0)))) else none) else some (.done (.int .i64 (-1)))) else (bif !ieq ↑b.1.2.length ↑b.1.2.length then some (.done (.int .i64 (1))) else (bif !ile ↑b.1.2.length ↑a.1.2.length then some (.done (.int .i64 (-1))) else (bif !ile ↑a.1.2.length ↑b.1.2.length then some (.done (.int .i64 (1))) else (bif le1k a.1.2 then (bif !ieq (lexV a.1.2 b.1.2) 0 then some (.done (.int .i64 (lexV a.1.2 b.1.2))) else some (.done (.int .i64 (0)))) else none))))))))))))):=by kernel_rfl
noncomputable def cmpI (a b k:Int):Int:=bif !ile b a then -1 else bif !ile a b then 1 else k
noncomputable def cmpV (a b:tW.den):Int:=cmpI a.2.1 b.2.1 (cmpI a.2.2.1 b.2.2.1 (cmpI (a.1.2.length:Int) (b.1.2.length:Int) (lexV a.1.2 b.1.2)))
theorem cpr_call {a b:tW.den} (H:a.1.2.length≤1000):AnsF C0 18 [tW.av a,tW.av b] (.int .i64 (cmpV a b)):=by
 refine Ans.call (n:=20) (ext_none (by kernel_rfl)) (hasB_spec (by kernel_rfl)) ?_
 have h:=cpr_start a b
 simp only[ieq_self,Bool.not_true,cond_false,show le1k a.1.2=true from Nat.ble_eq_true_of_le H,cond_true] at h
 have key:∀ {v:Int},adv C0 (U0 []) 3000 (startC C0 18 [tW.av a,tW.av b] 20)=some (.done (.int .i64 v))→v=cmpV a b→Ans C0 (startC C0 18 [tW.av a,tW.av b] 20) (.int .i64 (cmpV a b)):=fun h e=>.done (U0_ok _) C0sy h (by rw[e])
 unfold cmpV cmpI at key⊢
 cases c1:ile b.2.1 a.2.1 with
 |false=>rw[show ile b.2.1 a.2.1=false from c1] at h;rw[c1] at key;exact key h rfl
 |true=>
 cases c2:ile a.2.1 b.2.1 with
 |false=>rw[show ile b.2.1 a.2.1=true from c1,show ile a.2.1 b.2.1=false from c2] at h;rw[c1,c2] at key;exact key h rfl
 |true=>
 rw[show ile b.2.1 a.2.1=true from c1,show ile a.2.1 b.2.1=true from c2] at h;rw[c1,c2] at key
 simp only[Bool.not_true,cond_false] at h key⊢
 cases c3:ile b.2.2.1 a.2.2.1 with
 |false=>rw[show ile b.2.2.1 a.2.2.1=false from c3] at h;rw[c3] at key;exact key h rfl
 |true=>
 cases c4:ile a.2.2.1 b.2.2.1 with
 |false=>rw[show ile b.2.2.1 a.2.2.1=true from c3,show ile a.2.2.1 b.2.2.1=false from c4] at h;rw[c3,c4] at key;exact key h rfl
 |true=>
 rw[show ile b.2.2.1 a.2.2.1=true from c3,show ile a.2.2.1 b.2.2.1=true from c4] at h;rw[c3,c4] at key
 simp only[Bool.not_true,cond_false] at h key⊢
 cases c5:ile (b.1.2.length:Int) (a.1.2.length:Int) with
 |false=>rw[show ile (↑b.1.2.length) (↑a.1.2.length)=false from c5] at h;rw[c5] at key;exact key h rfl
 |true=>
 cases c6:ile (a.1.2.length:Int) (b.1.2.length:Int) with
 |false=>rw[show ile (↑b.1.2.length) (↑a.1.2.length)=true from c5,show ile (↑a.1.2.length) (↑b.1.2.length)=false from c6] at h;rw[c5,c6] at key;exact key h rfl
 |true=>
 rw[show ile (↑b.1.2.length) (↑a.1.2.length)=true from c5,show ile (↑a.1.2.length) (↑b.1.2.length)=true from c6] at h;rw[c5,c6] at key
 simp only[Bool.not_true,cond_false] at h key⊢
 cases c7:ieq (lexV a.1.2 b.1.2) 0 with
 |false=>rw[show ieq (lexV a.1.2 b.1.2) 0=false from c7] at h;exact key h rfl
 |true=>rw[show ieq (lexV a.1.2 b.1.2) 0=true from c7] at h;exact key h (ieq_eq c7).symm
noncomputable def LC1:List Said:=[(18,con2 tW tW (fun a _=>le1k a.1.2) (fun a b=>.int .i64 (cmpV a b)))]
theorem LC1_ok:∀ e∈LC1,SaidG Try.prog C0.glob e:=
 saids_cons (SaidOK.g cc0 xC0 nC0 tabs_ok.mix (fun _ _ h=>con2_spec (t:=tW) (u:=tW) (fun a b c=>cpr_call (le1k_le c)) h) rfl) saids_nil
noncomputable def C1:Env:=C0.say (under (xOf LC1))
theorem cc1:EnvOK Try.prog C1:=cc0.say _
theorem nC1:NameOK C1:=nC0.say _
theorem xC1:ExtOK Try.prog C1:=xC0.sayL LC1_ok
theorem C1sy:C1.sy=true:=rfl
noncomputable def U1 (l:List Nat):Sy:=(U0 []).on LC1 l
theorem U1_ok (l:List Nat):(U1 l).ok C1:=Sy.on_ok (U0_ok _)
end Go.Proofs.Ytmpaifgmccdipaa


set_option maxRecDepth 100000
namespace Go.Proofs.Ytmpaifgmccdipaa
open Go Go.Eng
noncomputable def mnfI0 (l:(Ty.sl tW).den) (x2:Int) (x19:Bool) (x20:List (Ty.den tI)) (x21:Int) (x22:Int) (x40:Nat):Cfg:=⟨.ex (pcOf C1 17 [0,0,1,0,1,1,1]) ⟨(tmOf 33 [(0,(.vs tW (l.1) (l.2))),(1,(.fn 18 [] [])),(4,(.ptr 0 0)),(5,(.ptr 1 0)),(6,(.int .i64 x2)),(7,(.vs tW (l.1) (l.2))),(8,(.int .i64 (Int.ofNat l.2.length))),(9,(.bool (false))),(11,(.vs tW (l.1) (l.2))),(12,(.cp [(.vs tI ((l.2.getD (Int.toNat 0) tW.dflt).1.1) ((l.2.getD (Int.toNat 0) tW.dflt).1.2)),(.int .i64 ((l.2.getD (Int.toNat 0) tW.dflt).2.1)),(.int .i64 ((l.2.getD (Int.toNat 0) tW.dflt).2.2.1))] 0)),(13,(.agg [(.vs tI ((l.2.getD (Int.toNat 0) tW.dflt).1.1) ((l.2.getD (Int.toNat 0) tW.dflt).1.2)),(.int .i64 ((l.2.getD (Int.toNat 0) tW.dflt).2.1)),(.int .i64 ((l.2.getD (Int.toNat 0) tW.dflt).2.2.1))]))]),(hpOf 2 [(0,(.cells false [.nils,(.int .i64 (0)),(.int .i64 (0))])),(1,(.cells false [(.vs tI x19 x20),(.int .i64 x21),(.int .i64 x22)]))]),[],[],33,false⟩,⟨20,[]⟩,[(.lop (pcOf C1 17 [0,0,1,0,1,1,1]) 2 (tmOf 33 [(0,(.vs tW (l.1) (l.2))),(1,(.fn 18 [] [])),(4,(.ptr 0 0)),(5,(.ptr 1 0)),(6,(.int .i64 (1))),(7,(.vs tW (l.1) (l.2))),(8,(.int .i64 (Int.ofNat l.2.length))),(9,(.bool (false))),(11,(.vs tW (l.1) (l.2))),(12,(.cp [(.vs tI ((l.2.getD (Int.toNat 0) tW.dflt).1.1) ((l.2.getD (Int.toNat 0) tW.dflt).1.2)),(.int .i64 ((l.2.getD (Int.toNat 0) tW.dflt).2.1)),(.int .i64 ((l.2.getD (Int.toNat 0) tW.dflt).2.2.1))] 0)),(13,(.agg [(.vs tI ((l.2.getD (Int.toNat 0) tW.dflt).1.1) ((l.2.getD (Int.toNat 0) tW.dflt).1.2)),(.int .i64 ((l.2.getD (Int.toNat 0) tW.dflt).2.1)),(.int .i64 ((l.2.getD (Int.toNat 0) tW.dflt).2.2.1))]))]) x40),(.blk 0),(.seq (pcOf C1 17 [1,1,1,1])),(.cal [(.cell 4 47)] .top)]⟩
theorem mnf_start (l:(Ty.sl tW).den):adv C1 (U1 [17]) 3000 (startC C1 17 [.vs tW l.1 l.2,.fn 18 [] []] 20)=(bif !ile 1 ↑l.2.length then none else (bif inB 0 l.2.length then some (.stop (mnfI0 l (1) ((l.2.getD (Int.toNat 0) tW.dflt).1.1) ((l.2.getD (Int.toNat 0) tW.dflt).1.2) ((l.2.getD (Int.toNat 0) tW.dflt).2.1) ((l.2.getD (Int.toNat 0) tW.dflt).2.2.1) (1048575))) else none)):=by kernel_rfl
theorem mnf_step0 (l:(Ty.sl tW).den) (x2:Int) (x19:Bool) (x20:List (Ty.den tI)) (x21:Int) (x22:Int) (x40:Nat):adv C1 (U1 [17]) 3000 (mnfI0 l x2 x19 x20 x21 x22 (x40+1))=(bif !ile (↑l.2.length) x2 then (bif inB x2 l.2.length then (bif le1k (l.2.getD x2.toNat tW.dflt).1.2 then (bif bbeq x19 x19 then (bif vsB tI x20 tI x20 then (bif ieq x21 x21 then (bif ieq x22 x22 then (bif !ile 0 (cmpV (l.2.getD x2.toNat tW.dflt) ((x19,x20),x21,x22,())) then (bif inB x2 l.2.length then some (.stop (mnfI0 l (wr .i64 (x2+1)) ((l.2.getD x2.toNat tW.dflt).1.1) ((l.2.getD x2.toNat tW.dflt).1.2) ((l.2.getD x2.toNat tW.dflt).2.1) ((l.2.getD x2.toNat tW.dflt).2.2.1) (x40))) else none) else some (.stop (mnfI0 l (wr .i64 (x2+1)) (x19) (x20) (x21) (x22) (x40)))) else none) else none) else none) else none) else none) else none) else some (.done (.agg [(.vs tI (x19) (x20)),(.int .i64 (x21)),(.int .i64 (x22))]))):=by kernel_rfl
noncomputable def minV:tW.den→List tW.den→tW.den
 |m,[]=>m
 |m,a::l=>bif !ile 0 (cmpV a m) then minV a l else minV m l
theorem mnf_ans {l:(Ty.sl tW).den} (H:l.2.length≤1000000) (HL:∀ a∈l.2,a.1.2.length≤1000):∀ (r k m0:Nat) (w:tW.den),k+r=l.2.length→r<m0→Ans C1 (mnfI0 l k w.1.1 w.1.2 w.2.1 w.2.2.1 m0) (tW.av (minV w (l.2.drop k)))
 |0,k,m0,w,hk,hm=>by
  obtain⟨m,rfl⟩:∃ m,m0=m+1:=⟨m0-1,by omega⟩
  have h:=mnf_step0 l k w.1.1 w.1.2 w.2.1 w.2.2.1 m
  rw[ile_t (show (l.2.length:Int)≤(k:Int) by omega),Bool.not_true,cond_false] at h
  rw[List.drop_eq_nil_of_le (show l.2.length≤k by omega)]
  exact .done (U1_ok _) C1sy h rfl
 | r + 1, k, m0, w, hk, hm => by
  obtain⟨m,rfl⟩:∃ m,m0=m+1:=⟨m0-1,by omega⟩
  have h:=mnf_step0 l k w.1.1 w.1.2 w.2.1 w.2.2.1 m
  have hlt:k<l.2.length:=by omega
  rw[ile_f (show (k:Int)<(l.2.length:Int) by omega),Bool.not_false,cond_true,inB_at hlt,cond_true,getD_at hlt,show le1k (l.2[k]).1.2=true from Nat.ble_eq_true_of_le (HL _ (List.getElem_mem hlt)),cond_true,bbeq_self,cond_true,vsB_self,cond_true,ieq_self,cond_true,ieq_self,cond_true,cond_true,wr_succ (show k<1048577 by omega)] at h
  have e:minV w (l.2.drop k)=bif !ile 0 (cmpV (l.2[k]) w) then minV (l.2[k]) (l.2.drop (k+1)) else minV w (l.2.drop (k+1)):=by
   rw[List.drop_eq_getElem_cons hlt];rfl
  rw[e]
  cases c1:ile 0 (cmpV (l.2[k]) w) with
  |true=>
   rw[show ile 0 (cmpV (l.2[k]) ((w.1.1,w.1.2),w.2.1,w.2.2.1,()))=true from c1] at h
   exact .stop (U1_ok _) C1sy h (mnf_ans H HL r (k+1) m w (by omega) (by omega))
  |false=>
   rw[show ile 0 (cmpV (l.2[k]) ((w.1.1,w.1.2),w.2.1,w.2.2.1,()))=false from c1] at h
   exact .stop (U1_ok _) C1sy h (mnf_ans H HL r (k+1) m (l.2[k]) (by omega) (by omega))
noncomputable def leastV (l:List tW.den):tW.den:=minV (l.getD 0 tW.dflt) (l.drop 1)
theorem mnf_call {l:(Ty.sl tW).den} (H:l.2.length≤1000000) (H1:1≤l.2.length) (HL:∀ a∈l.2,a.1.2.length≤1000):AnsF C1 17 [.vs tW l.1 l.2,.fn 18 [] []] (tW.av (leastV l.2)):=by
 refine Ans.call (n:=20) (ext_none (by kernel_rfl)) (hasB_spec (by kernel_rfl)) ?_
 have h:=mnf_start l
 rw[ile_t (show (1:Int)≤(l.2.length:Int) by omega),Bool.not_true,cond_false,show inB 0 l.2.length=true by rw[inB_iff];exact decide_eq_true ⟨by omega,by omega⟩,cond_true] at h
 exact .stop (U1_ok _) C1sy h (mnf_ans H HL (l.2.length-1) 1 1048575 (l.2.getD 0 tW.dflt) (by omega) (by omega))
noncomputable def conF (t:Ty) (g:Nat) (c:t.den→Bool) (v:t.den→AV) (args:List AV):Option (Bool×AV):=
 match args with
 |[a,.fn f [] []]=>match Nat.beq f g,rdA t a with
  |true,some (c1,x)=>some (c1&&c x,v x)
  |_,_=>none
 |_=>none
theorem conF_spec {E:Env} {f g:Nat} {t:Ty} {c:t.den→Bool} {v:t.den→AV} (h:∀ x,c x=true→AnsF E f [t.av x,.fn g [] []] (v x)) {args:List AV} {r:AV} (hc:conF t g c v args=some (true,r)):∃ args',TellsL args args'∧args'.all (closedA 9)=true∧AnsF E f args' r:=by
 unfold conF at hc
 split at hc
 · split at hc
   · rename_i c1 x hg hx
     have hg:=Nat.eq_of_beq_eq_true hg
     subst hg
     simp only[Option.some.injEq,Prod.mk.injEq,Bool.and_eq_true] at hc;obtain⟨⟨rfl,h1⟩,rfl⟩:=hc
     exact⟨_,.cons (rdA_spec _ hx) (.cons (.refl _) .nil),by simp only[List.all_cons,List.all_nil,av_closed,Bool.and_true,Bool.true_and];rfl,h x h1⟩
   · cases hc
 · cases hc
noncomputable def okW (l:List tW.den):Bool:=Nat.ble l.length 1000000&&(Nat.ble 1 l.length&&l.all (fun a=>le1k a.1.2))
noncomputable def LC2:List Said:=[(17,conF (.sl tW) 18 (fun l=>okW l.2) (fun l=>tW.av (leastV l.2)))]
theorem LC2_ok:∀ e∈LC2,SaidG Try.prog C1.glob e:=
 saids_cons (SaidOK.g cc1 xC1 nC1 tabs_ok.mix (fun _ _ h=>conF_spec (t:=.sl tW) (fun l c=>by
  unfold okW at c
  simp only[Bool.and_eq_true,List.all_eq_true] at c
  exact mnf_call (Nat.le_of_ble_eq_true c.1) (Nat.le_of_ble_eq_true c.2.1) (fun a ha=>le1k_le (c.2.2 a ha))) h) rfl) saids_nil
noncomputable def C2:Env:=C1.say (under (xOf LC2))
theorem cc2:EnvOK Try.prog C2:=cc1.say _
theorem nC2:NameOK C2:=nC1.say _
theorem xC2:ExtOK Try.prog C2:=xC1.sayL LC2_ok
theorem C2sy:C2.sy=true:=rfl
noncomputable def U2 (l:List Nat):Sy:=(U1 []).on LC2 l
theorem U2_ok (l:List Nat):(U2 l).ok C2:=Sy.on_ok (U1_ok _)
end Go.Proofs.Ytmpaifgmccdipaa


set_option maxRecDepth 100000
namespace Go.Proofs.Ytmpaifgmccdipaa
open Go Go.Eng
noncomputable def fnC:AV:=.fn 60 [] [.ptr 9 0,.ptr 13 0,.ptr 14 0]
noncomputable def clC:AV:=.fn 34 [] [.ptr 3 0,.ptr 4 0,.ptr 5 0]
noncomputable def nuC (s:tS.den):AV:=iI s.2.2.2.1
noncomputable def mkL (f:Nat→AO):Nat→Nat→List AO
 |_,0=>[]
 |k,n+1=>f k::mkL f (k+1) n
noncomputable def hpC (s:tS.den) (p:(Ty.sl tO).den) (sv:AV) (N:Nat) (os:List AO):Hp:=hpOf N ([(0,.cells false (tS.cells s)),(1,.cells false (tS.cells s)),(2,.cells true (tX.cells (xSP s p))),(3,.cells false [tX.pv (xSP s p)]),(4,.cells false [.nils]),(5,.cells false [nuC s]),(6,.cells false [sv]),(8,.cells false [.yld 7]),(9,.cells false [tX.pv (xSP s p)]),(10,.cells false [.nils]),(11,.cells false [nuC s]),(13,.cells false [.yld 12]),(14,.cells false [fnC]),(15,.cells false (flL fno))]++lofA 16 os)
noncomputable def t26C (s:tS.den) (p:(Ty.sl tO).den):Tmps:=tmOf 26 [(0,(.yld 7)),(1,(.ptr 3 0)),(2,(.ptr 4 0)),(3,(.ptr 5 0)),(4,(.ptr 8 0)),(8,tX.pv (xSP s p)),(9,.nils),(10,nuC s),(11,(.fn 59 [] [(.ptr 9 0),(.ptr 10 0),(.ptr 11 0)]))]
noncomputable def t13C:Tmps:=tmOf 13 [(0,.nils),(1,clC),(2,(.ptr 6 0)),(4,.nils),(6,clC)]
noncomputable def ev1C:List HD:=[⟨7,13,38,t13C,#[7],(pcOf C2 33 [0,0,1,0,1]),(pcOf C2 33 [1,0,1,0,1])⟩]
noncomputable def evC (s:tS.den) (p:(Ty.sl tO).den):List HD:=⟨12,26,37,t26C s p,#[12],(pcOf C2 34 [0,0,1,1]),(pcOf C2 34 [1,0,1,1])⟩::ev1C
noncomputable def entC (s:tS.den) (p:(Ty.sl tO).den) (sv:AV) (N:Nat) (os:List AO) (b:tB.den) (o r m:Int) (d:Nat) (r0:Rt) (K:List Fm):Cfg:=⟨.ex (pcOf C2 60 []) ⟨(tmOf 52 [(0,tB.av b),(1,iI o),(2,iI r),(3,iI m),(4,.ptr 9 0),(5,.ptr 13 0),(6,.ptr 14 0)]),hpC s p sv N os,[],[⟨false,.normal⟩,⟨false,.normal⟩],52,false⟩,⟨d,evC s p⟩,.cal [.tmp 11] (.cln N r0)::K⟩
noncomputable def vlC (s:tS.den) (p:(Ty.sl tO).den) (sv:AV) (N:Nat) (os:List AO) (d:Nat) (r0:Rt) (K:List Fm):Cfg:=⟨.vl r0 (.bool true) (hpC s p sv N os) [⟨false,.normal⟩,⟨false,.normal⟩],⟨d,evC s p⟩,K⟩
noncomputable def tl1C (x:tX.den) (N:Nat) (b:tB.den) (o r m:Int):List (Nat×AV):=[(0,tB.av b),(1,iI o),(2,iI r),(3,iI m),(4,.ptr 9 0),(5,.ptr 13 0),(6,.ptr 14 0),(7,.ptr N 0),(11,.bool false),(12,iI o),(13,tX.pv x),(14,tX.pv x),(15,.cp (Ty.cells tX x) 6),(16,.vs tO x.2.1.1 x.2.1.2),(17,iI (Int.ofNat x.2.1.2.length)),(18,.bool false),(22,fnC),(23,tB.av b),(24,iI o),(25,iI (wr .i64 (o+1))),(26,iI m)]
noncomputable def rt1C (s:tS.den) (p:(Ty.sl tO).den) (N:Nat) (b:tB.den) (o r m:Int) (d:Nat):Rt:=.op (pcOf C2 60 [0,0,1,1]) 6 (some 27) ((opsOf (pcOf C2 60 [0,0,1,1]).c).toList.drop 6) (tmOf 52 (tl1C (xSP s p) N b o r m)) [] 52 false ⟨d,evC s p⟩
noncomputable def fr1C (N:Nat) (r0:Rt) (K:List Fm):List Fm:=.seq (pcOf C2 60 [1,0,1,1])::.seq (pcOf C2 60 [1,1,1])::.cal [.tmp 11] (.cln N r0)::K
noncomputable def tl2C (x:tX.den) (N:Nat) (b:tB.den) (o r m:Int):List (Nat×AV):=tl1C x N b o r m++[(27,.bool true),(28,.bool false),(29,iI m),(30,.bool (ieq m 0)),(31,.bool false),(32,iI r),(33,tX.pv x),(34,tX.pv x),(35,tX.pv x),(36,.cp (Ty.cells tX x) 4),(37,iI x.1.2.2.2.2.1),(38,.bool (ile x.1.2.2.2.2.1 r)),(39,.bool false)]
noncomputable def pc2C:PC:=pcOf C2 60 [0,1,1,1,1]
noncomputable def rt2C (s:tS.den) (p:(Ty.sl tO).den) (sv1:AV) (os1:List AO) (N M:Nat) (b:tB.den) (o r m:Int) (d:Nat):Rt:=
 .dr ⟨pc2C,opsD pc2C.c,M,(opsD pc2C.c).toList.drop 12,(fsD pc2C.c).drop 12,11,[(hpC s p sv1 (M+1) (os1++[arO o]),14,some 4),(hpC s p sv1 (M+1) os1,0,none)],
  [((opsD pc2C.c).getD 1 default,1,0,tmOf 52 (tl2C (xSP s p) N b o r m++[(40,fnC)]),tmOf 52 (tl2C (xSP s p) N b o r m++[(40,fnC),(41,tB.av b)])),((opsD pc2C.c).getD 0 default,0,0,tmOf 52 (tl2C (xSP s p) N b o r m),tmOf 52 (tl2C (xSP s p) N b o r m++[(40,fnC)]))],false⟩
  ((opsD pc2C.c).getD 11 default) ((fsD pc2C.c).getD 11 default) (tmOf 52 (tl2C (xSP s p) N b o r m++[(40,fnC),(41,tB.av b),(42,iI o),(43,.sl M 0 1 1 1),(44,tB.av (setF b o)),(45,iI o),(46,iI (wr .i64 (o+1))),(47,iI r),(48,iI (wr .i64 (r+1))),(49,iI m),(50,iI (wr .i64 (m-1)))])) [] 52 false ⟨d,evC s p⟩
noncomputable def fr2C (N:Nat) (r0:Rt) (K:List Fm):List Fm:=.seq (pcOf C2 60 [1,1,1,1,1])::.cal [.tmp 11] (.cln N r0)::K
noncomputable def SC:Sy:={ ((U2 []).flat (idF 16 34)) with np:=[[999,60],[993]] }
theorem SC_ok:SC.ok C2:=U2_ok []
noncomputable def rowO (C:List AV):AO:=.cells false C
end Go.Proofs.Ytmpaifgmccdipaa


set_option maxRecDepth 100000
namespace Go.Proofs.Ytmpaifgmccdipaa
open Go Go.Eng
noncomputable def svC (i n:Nat):AV:=.sl i 0 n n 3
noncomputable def wC (x:tX.den) (b:tB.den):List AV:=[AV.vs tI (bif (breT x b).2.2 then noI (indV b) else true) (bif (breT x b).2.2 then indV b else []),.int .i64 (breT x b).1,.int .i64 (breT x b).2.1]
noncomputable def osR (f g:Nat→AO) (a c:Nat) (C:List AV):List AO:=mkL f 0 a++(rowO C::mkL g 0 c)
noncomputable def enRA (s:tS.den) (p:(Ty.sl tO).den) (f g h:Nat→AO) (h2:AO) (sv1:AV) (C:List AV) (n:Nat) (b:tB.den) (o r m:Int) (d:Nat) (r0:Rt) (K:List Fm) (a c:Nat):Option Out:=adv C2 SC 3000 (entC s p (svC (16+a) n) (17+a+c) (osR f g a c C) b o r m (Nat.succ (Nat.succ (Nat.succ d))) r0 K)
noncomputable def enRB (s:tS.den) (p:(Ty.sl tO).den) (f g h:Nat→AO) (h2:AO) (sv1:AV) (C:List AV) (n:Nat) (b:tB.den) (o r m:Int) (d:Nat) (r0:Rt) (K:List Fm) (a c:Nat):Option Out:=(bif ieq o (Int.ofNat (xSP s p).2.1.2.length) then (bif xokB (xSP s p) then (bif (breT (xSP s p) b).2.2 then (bif (0+n * 3).beq C.length then (bif n.ble 1048576 then allO ((mkL f 0 a)++(mkL g 0 c++[rowO (C++(wC (xSP s p) b))])) (some (.stop (vlC s p (svC (17+a+c) (n+1)) (18+a+c) ((mkL f 0 a)++(.gone::(mkL g 0 c++[rowO (C++(wC (xSP s p) b))]))) (Nat.succ (Nat.succ (Nat.succ d))) (.dn r0) K))) else none) else none) else allO (osR f g a c C) (some (.stop (vlC s p (svC (16+a) n) (17+a+c) (osR f g a c C) (Nat.succ (Nat.succ (Nat.succ d))) (.dn r0) K)))) else none) else some (.stop (entC s p (svC (16+a) n) (18+a+c) ((osR f g a c C)++[celB b]) b (wr .i64 (o+1)) 0 m (Nat.succ (Nat.succ d)) (rt1C s p (17+a+c) b o r m (Nat.succ (Nat.succ (Nat.succ d)))) (fr1C (17+a+c) r0 K))))
noncomputable def raRA (s:tS.den) (p:(Ty.sl tO).den) (f g h:Nat→AO) (h2:AO) (sv1:AV) (C:List AV) (n:Nat) (b:tB.den) (o r m:Int) (d:Nat) (r0:Rt) (K:List Fm) (a c:Nat):Option Out:=adv C2 SC 3000 (vlC s p (svC (16+a) n) (18+a+c) ((osR f g a c C)++[celB b]) (Nat.succ (Nat.succ d)) (rt1C s p (17+a+c) b o r m (Nat.succ (Nat.succ (Nat.succ d)))) (fr1C (17+a+c) r0 K))
noncomputable def raRB (s:tS.den) (p:(Ty.sl tO).den) (f g h:Nat→AO) (h2:AO) (sv1:AV) (C:List AV) (n:Nat) (b:tB.den) (o r m:Int) (d:Nat) (r0:Rt) (K:List Fm) (a c:Nat):Option Out:=(bif ieq m 0 then allO (osR f g a c C) (some (.stop (vlC s p (svC (16+a) n) (17+a+c) (osR f g a c C) (Nat.succ (Nat.succ (Nat.succ d))) (.dn r0) K))) else bif ile (xSP s p).1.2.2.2.2.1 r then allO (osR f g a c C) (some (.stop (vlC s p (svC (16+a) n) (17+a+c) (osR f g a c C) (Nat.succ (Nat.succ (Nat.succ d))) (.dn r0) K))) else bif inAll 8 [o] then some (.stop (entC s p (svC (16+a) n) (19+a+c) ((osR f g a c C)++[celB b,arO o]) (setF b o) (wr .i64 (o+1)) (wr .i64 (r+1)) (wr .i64 (m-1)) (Nat.succ (Nat.succ d)) (rt2C s p (svC (16+a) n) ((osR f g a c C)++[celB b]) (17+a+c) (18+a+c) b o r m (Nat.succ (Nat.succ (Nat.succ d)))) (fr2C (17+a+c) r0 K))) else none)
noncomputable def rbRA (s:tS.den) (p:(Ty.sl tO).den) (f g h:Nat→AO) (h2:AO) (sv1:AV) (C:List AV) (n:Nat) (b:tB.den) (o r m:Int) (d:Nat) (r0:Rt) (K:List Fm) (a c:Nat):Option Out:=adv C2 SC 3000 (vlC s p (svC (16+a) n) (19+a+c) ((osR f g a c C)++[celB b,arO o]) (Nat.succ (Nat.succ d)) (rt2C s p sv1 (mkL h 0 (a+1+c)++[celB b]) (17+a+c) (18+a+c) b o r m (Nat.succ (Nat.succ (Nat.succ d)))) (fr2C (17+a+c) r0 K))
noncomputable def rbRB (s:tS.den) (p:(Ty.sl tO).den) (f g h:Nat→AO) (h2:AO) (sv1:AV) (C:List AV) (n:Nat) (b:tB.den) (o r m:Int) (d:Nat) (r0:Rt) (K:List Fm) (a c:Nat):Option Out:=eqB b (allO (osR f g a c C) (some (.stop (vlC s p (svC (16+a) n) (17+a+c) (osR f g a c C) (Nat.succ (Nat.succ (Nat.succ d))) (.dn r0) K))))
end Go.Proofs.Ytmpaifgmccdipaa


set_option maxRecDepth 100000
namespace Go.Proofs.Ytmpaifgmccdipaa
open Go Go.Eng
theorem enN (s:tS.den) (p:(Ty.sl tO).den) (f g h:Nat→AO) (h2:AO) (sv1:AV) (C:List AV) (n:Nat) (b:tB.den) (o r m:Int) (d:Nat) (r0:Rt) (K:List Fm):∀ a:Nat,Nat.ble a 24=true→adv C2 SC 3000 (entC s p .nils (16+a) (mkL f 0 a) b o r m (Nat.succ (Nat.succ (Nat.succ d))) r0 K)=(bif ieq o (Int.ofNat (xSP s p).2.1.2.length) then (bif xokB (xSP s p) then (bif (breT (xSP s p) b).2.2 then allO (mkL f 0 a) (some (.stop (vlC s p (svC (16+a) 1) (17+a) ((mkL f 0 a)++[rowO (wC (xSP s p) b)]) (Nat.succ (Nat.succ (Nat.succ d))) (.dn r0) K))) else allO (mkL f 0 a) (some (.stop (vlC s p .nils (16+a) (mkL f 0 a) (Nat.succ (Nat.succ (Nat.succ d))) (.dn r0) K)))) else none) else some (.stop (entC s p .nils (17+a) ((mkL f 0 a)++[celB b]) b (wr .i64 (o+1)) 0 m (Nat.succ (Nat.succ d)) (rt1C s p (16+a) b o r m (Nat.succ (Nat.succ (Nat.succ d)))) (fr1C (16+a) r0 K))))
 |0,_=>by kernel_rfl
 |1,_=>by kernel_rfl
 |2,_=>by kernel_rfl
 |3,_=>by kernel_rfl
 |4,_=>by kernel_rfl
 |5,_=>by kernel_rfl
 |6,_=>by kernel_rfl
 |7,_=>by kernel_rfl
 |8,_=>by kernel_rfl
 |9,_=>by kernel_rfl
 |10,_=>by kernel_rfl
 |11,_=>by kernel_rfl
 |12,_=>by kernel_rfl
 |13,_=>by kernel_rfl
 |14,_=>by kernel_rfl
 |15,_=>by kernel_rfl
 |16,_=>by kernel_rfl
 |17,_=>by kernel_rfl
 |18,_=>by kernel_rfl
 |19,_=>by kernel_rfl
 |20,_=>by kernel_rfl
 |21,_=>by kernel_rfl
 |22,_=>by kernel_rfl
 |23,_=>by kernel_rfl
 |24,_=>by kernel_rfl
 |a+25,h=>absurd (Nat.le_of_ble_eq_true h) (by omega)
theorem raN (s:tS.den) (p:(Ty.sl tO).den) (f g h:Nat→AO) (h2:AO) (sv1:AV) (C:List AV) (n:Nat) (b:tB.den) (o r m:Int) (d:Nat) (r0:Rt) (K:List Fm):∀ a:Nat,Nat.ble a 21=true→adv C2 SC 3000 (vlC s p .nils (17+a) ((mkL f 0 a)++[celB b]) (Nat.succ (Nat.succ d)) (rt1C s p (16+a) b o r m (Nat.succ (Nat.succ (Nat.succ d)))) (fr1C (16+a) r0 K))=(bif ieq m 0 then allO (mkL f 0 a) (some (.stop (vlC s p .nils (16+a) (mkL f 0 a) (Nat.succ (Nat.succ (Nat.succ d))) (.dn r0) K))) else bif ile (xSP s p).1.2.2.2.2.1 r then allO (mkL f 0 a) (some (.stop (vlC s p .nils (16+a) (mkL f 0 a) (Nat.succ (Nat.succ (Nat.succ d))) (.dn r0) K))) else bif inAll 8 [o] then some (.stop (entC s p .nils (18+a) ((mkL f 0 a)++[celB b,arO o]) (setF b o) (wr .i64 (o+1)) (wr .i64 (r+1)) (wr .i64 (m-1)) (Nat.succ (Nat.succ d)) (rt2C s p .nils ((mkL f 0 a)++[celB b]) (16+a) (17+a) b o r m (Nat.succ (Nat.succ (Nat.succ d)))) (fr2C (16+a) r0 K))) else none)
 |0,_=>by kernel_rfl
 |1,_=>by kernel_rfl
 |2,_=>by kernel_rfl
 |3,_=>by kernel_rfl
 |4,_=>by kernel_rfl
 |5,_=>by kernel_rfl
 |6,_=>by kernel_rfl
 |7,_=>by kernel_rfl
 |8,_=>by kernel_rfl
 |9,_=>by kernel_rfl
 |10,_=>by kernel_rfl
 |11,_=>by kernel_rfl
 |12,_=>by kernel_rfl
 |13,_=>by kernel_rfl
 |14,_=>by kernel_rfl
 |15,_=>by kernel_rfl
 |16,_=>by kernel_rfl
 |17,_=>by kernel_rfl
 |18,_=>by kernel_rfl
 |19,_=>by kernel_rfl
 |20,_=>by kernel_rfl
 |21,_=>by kernel_rfl
 |a+22,h=>absurd (Nat.le_of_ble_eq_true h) (by omega)
theorem raC (s:tS.den) (p:(Ty.sl tO).den) (f g h:Nat→AO) (h2:AO) (sv1:AV) (C:List AV) (n:Nat) (b:tB.den) (o r m:Int) (d:Nat) (r0:Rt) (K:List Fm):∀ a:Nat,Nat.ble a 21=true→adv C2 SC 3000 (vlC s p (svC (17+a) n) (18+a) ((mkL f 0 a)++[celB b,rowO C]) (Nat.succ (Nat.succ d)) (rt1C s p (16+a) b o r m (Nat.succ (Nat.succ (Nat.succ d)))) (fr1C (16+a) r0 K))=(bif ieq m 0 then allO ((mkL f 0 a)++[rowO C]) (some (.stop (vlC s p (svC (16+a) n) (17+a) ((mkL f 0 a)++[rowO C]) (Nat.succ (Nat.succ (Nat.succ d))) (.dn r0) K))) else bif ile (xSP s p).1.2.2.2.2.1 r then allO ((mkL f 0 a)++[rowO C]) (some (.stop (vlC s p (svC (16+a) n) (17+a) ((mkL f 0 a)++[rowO C]) (Nat.succ (Nat.succ (Nat.succ d))) (.dn r0) K))) else bif inAll 8 [o] then some (.stop (entC s p (svC (17+a) n) (19+a) ((mkL f 0 a)++[celB b,rowO C,arO o]) (setF b o) (wr .i64 (o+1)) (wr .i64 (r+1)) (wr .i64 (m-1)) (Nat.succ (Nat.succ d)) (rt2C s p (svC (17+a) n) ((mkL f 0 a)++[celB b,rowO C]) (16+a) (18+a) b o r m (Nat.succ (Nat.succ (Nat.succ d)))) (fr2C (16+a) r0 K))) else none)
 |0,_=>by kernel_rfl
 |1,_=>by kernel_rfl
 |2,_=>by kernel_rfl
 |3,_=>by kernel_rfl
 |4,_=>by kernel_rfl
 |5,_=>by kernel_rfl
 |6,_=>by kernel_rfl
 |7,_=>by kernel_rfl
 |8,_=>by kernel_rfl
 |9,_=>by kernel_rfl
 |10,_=>by kernel_rfl
 |11,_=>by kernel_rfl
 |12,_=>by kernel_rfl
 |13,_=>by kernel_rfl
 |14,_=>by kernel_rfl
 |15,_=>by kernel_rfl
 |16,_=>by kernel_rfl
 |17,_=>by kernel_rfl
 |18,_=>by kernel_rfl
 |19,_=>by kernel_rfl
 |20,_=>by kernel_rfl
 |21,_=>by kernel_rfl
 |a+22,h=>absurd (Nat.le_of_ble_eq_true h) (by omega)
theorem rbN (s:tS.den) (p:(Ty.sl tO).den) (f g h:Nat→AO) (h2:AO) (sv1:AV) (C:List AV) (n:Nat) (b:tB.den) (o r m:Int) (d:Nat) (r0:Rt) (K:List Fm):∀ a:Nat,Nat.ble a 21=true→adv C2 SC 3000 (vlC s p .nils (18+a) ((mkL f 0 a)++[celB b,arO o]) (Nat.succ (Nat.succ d)) (rt2C s p sv1 (mkL h 0 a++[celB b]) (16+a) (17+a) b o r m (Nat.succ (Nat.succ (Nat.succ d)))) (fr2C (16+a) r0 K))=eqB b (allO (mkL f 0 a) (some (.stop (vlC s p .nils (16+a) (mkL f 0 a) (Nat.succ (Nat.succ (Nat.succ d))) (.dn r0) K))))
 |0,_=>by kernel_rfl
 |1,_=>by kernel_rfl
 |2,_=>by kernel_rfl
 |3,_=>by kernel_rfl
 |4,_=>by kernel_rfl
 |5,_=>by kernel_rfl
 |6,_=>by kernel_rfl
 |7,_=>by kernel_rfl
 |8,_=>by kernel_rfl
 |9,_=>by kernel_rfl
 |10,_=>by kernel_rfl
 |11,_=>by kernel_rfl
 |12,_=>by kernel_rfl
 |13,_=>by kernel_rfl
 |14,_=>by kernel_rfl
 |15,_=>by kernel_rfl
 |16,_=>by kernel_rfl
 |17,_=>by kernel_rfl
 |18,_=>by kernel_rfl
 |19,_=>by kernel_rfl
 |20,_=>by kernel_rfl
 |21,_=>by kernel_rfl
 |a+22,h=>absurd (Nat.le_of_ble_eq_true h) (by omega)
theorem rbC (s:tS.den) (p:(Ty.sl tO).den) (f g h:Nat→AO) (h2:AO) (sv1:AV) (C:List AV) (n:Nat) (b:tB.den) (o r m:Int) (d:Nat) (r0:Rt) (K:List Fm):∀ a:Nat,Nat.ble a 21=true→adv C2 SC 3000 (vlC s p (svC (18+a) n) (19+a) ((mkL f 0 a)++[celB b,arO o,rowO C]) (Nat.succ (Nat.succ d)) (rt2C s p sv1 (mkL h 0 a++[celB b]) (16+a) (17+a) b o r m (Nat.succ (Nat.succ (Nat.succ d)))) (fr2C (16+a) r0 K))=eqB b (allO ((mkL f 0 a)++[rowO C]) (some (.stop (vlC s p (svC (16+a) n) (17+a) ((mkL f 0 a)++[rowO C]) (Nat.succ (Nat.succ (Nat.succ d))) (.dn r0) K))))
 |0,_=>by kernel_rfl
 |1,_=>by kernel_rfl
 |2,_=>by kernel_rfl
 |3,_=>by kernel_rfl
 |4,_=>by kernel_rfl
 |5,_=>by kernel_rfl
 |6,_=>by kernel_rfl
 |7,_=>by kernel_rfl
 |8,_=>by kernel_rfl
 |9,_=>by kernel_rfl
 |10,_=>by kernel_rfl
 |11,_=>by kernel_rfl
 |12,_=>by kernel_rfl
 |13,_=>by kernel_rfl
 |14,_=>by kernel_rfl
 |15,_=>by kernel_rfl
 |16,_=>by kernel_rfl
 |17,_=>by kernel_rfl
 |18,_=>by kernel_rfl
 |19,_=>by kernel_rfl
 |20,_=>by kernel_rfl
 |21,_=>by kernel_rfl
 |a+22,h=>absurd (Nat.le_of_ble_eq_true h) (by omega)
theorem rcU (s:tS.den) (p:(Ty.sl tO).den) (f g h:Nat→AO) (h2:AO) (sv1:AV) (C:List AV) (n:Nat) (b:tB.den) (o r m:Int) (d:Nat) (r0:Rt) (K:List Fm):∀ a:Nat,Nat.ble a 21=true→adv C2 SC 3000 (vlC s p (svC (17+a) n) (19+a) ((mkL f 0 a)++[celB b,rowO C,arO o]) (Nat.succ (Nat.succ d)) (rt2C s p sv1 (mkL h 0 a++[celB b,h2]) (16+a) (18+a) b o r m (Nat.succ (Nat.succ (Nat.succ d)))) (fr2C (16+a) r0 K))=eqB b (allO ((mkL f 0 a)++[rowO C]) (some (.stop (vlC s p (svC (16+a) n) (17+a) ((mkL f 0 a)++[rowO C]) (Nat.succ (Nat.succ (Nat.succ d))) (.dn r0) K))))
 |0,_=>by kernel_rfl
 |1,_=>by kernel_rfl
 |2,_=>by kernel_rfl
 |3,_=>by kernel_rfl
 |4,_=>by kernel_rfl
 |5,_=>by kernel_rfl
 |6,_=>by kernel_rfl
 |7,_=>by kernel_rfl
 |8,_=>by kernel_rfl
 |9,_=>by kernel_rfl
 |10,_=>by kernel_rfl
 |11,_=>by kernel_rfl
 |12,_=>by kernel_rfl
 |13,_=>by kernel_rfl
 |14,_=>by kernel_rfl
 |15,_=>by kernel_rfl
 |16,_=>by kernel_rfl
 |17,_=>by kernel_rfl
 |18,_=>by kernel_rfl
 |19,_=>by kernel_rfl
 |20,_=>by kernel_rfl
 |21,_=>by kernel_rfl
 |a+22,h=>absurd (Nat.le_of_ble_eq_true h) (by omega)
theorem rcC (s:tS.den) (p:(Ty.sl tO).den) (f g h:Nat→AO) (h2:AO) (sv1:AV) (C:List AV) (n:Nat) (b:tB.den) (o r m:Int) (d:Nat) (r0:Rt) (K:List Fm):∀ a:Nat,Nat.ble a 21=true→adv C2 SC 3000 (vlC s p (svC (19+a) n) (20+a) ((mkL f 0 a)++[celB b,.gone,arO o,rowO C]) (Nat.succ (Nat.succ d)) (rt2C s p sv1 (mkL h 0 a++[celB b,h2]) (16+a) (18+a) b o r m (Nat.succ (Nat.succ (Nat.succ d)))) (fr2C (16+a) r0 K))=eqB b (allO ((mkL f 0 a)++[rowO C]) (some (.stop (vlC s p (svC (16+a) n) (17+a) ((mkL f 0 a)++[rowO C]) (Nat.succ (Nat.succ (Nat.succ d))) (.dn r0) K))))
 |0,_=>by kernel_rfl
 |1,_=>by kernel_rfl
 |2,_=>by kernel_rfl
 |3,_=>by kernel_rfl
 |4,_=>by kernel_rfl
 |5,_=>by kernel_rfl
 |6,_=>by kernel_rfl
 |7,_=>by kernel_rfl
 |8,_=>by kernel_rfl
 |9,_=>by kernel_rfl
 |10,_=>by kernel_rfl
 |11,_=>by kernel_rfl
 |12,_=>by kernel_rfl
 |13,_=>by kernel_rfl
 |14,_=>by kernel_rfl
 |15,_=>by kernel_rfl
 |16,_=>by kernel_rfl
 |17,_=>by kernel_rfl
 |18,_=>by kernel_rfl
 |19,_=>by kernel_rfl
 |20,_=>by kernel_rfl
 |21,_=>by kernel_rfl
 |a+22,h=>absurd (Nat.le_of_ble_eq_true h) (by omega)
end Go.Proofs.Ytmpaifgmccdipaa


set_option maxRecDepth 100000
namespace Go.Proofs.Ytmpaifgmccdipaa
open Go Go.Eng
theorem enR0 (s:tS.den) (p:(Ty.sl tO).den) (f g h:Nat→AO) (h2:AO) (sv1:AV) (C:List AV) (n:Nat) (b:tB.den) (o r m:Int) (d:Nat) (r0:Rt) (K:List Fm):∀ c:Nat,Nat.ble c 23=true→enRA s p f g h h2 sv1 C n b o r m d r0 K 0 c=enRB s p f g h h2 sv1 C n b o r m d r0 K 0 c
 |0,_=>by kernel_rfl
 |1,_=>by kernel_rfl
 |2,_=>by kernel_rfl
 |3,_=>by kernel_rfl
 |4,_=>by kernel_rfl
 |5,_=>by kernel_rfl
 |6,_=>by kernel_rfl
 |7,_=>by kernel_rfl
 |8,_=>by kernel_rfl
 |9,_=>by kernel_rfl
 |10,_=>by kernel_rfl
 |11,_=>by kernel_rfl
 |12,_=>by kernel_rfl
 |13,_=>by kernel_rfl
 |14,_=>by kernel_rfl
 |15,_=>by kernel_rfl
 |16,_=>by kernel_rfl
 |17,_=>by kernel_rfl
 |18,_=>by kernel_rfl
 |19,_=>by kernel_rfl
 |20,_=>by kernel_rfl
 |21,_=>by kernel_rfl
 |22,_=>by kernel_rfl
 |23,_=>by kernel_rfl
 |c+24,h=>absurd (Nat.le_of_ble_eq_true h) (by omega)
theorem enR1 (s:tS.den) (p:(Ty.sl tO).den) (f g h:Nat→AO) (h2:AO) (sv1:AV) (C:List AV) (n:Nat) (b:tB.den) (o r m:Int) (d:Nat) (r0:Rt) (K:List Fm):∀ c:Nat,Nat.ble c 22=true→enRA s p f g h h2 sv1 C n b o r m d r0 K 1 c=enRB s p f g h h2 sv1 C n b o r m d r0 K 1 c
 |0,_=>by kernel_rfl
 |1,_=>by kernel_rfl
 |2,_=>by kernel_rfl
 |3,_=>by kernel_rfl
 |4,_=>by kernel_rfl
 |5,_=>by kernel_rfl
 |6,_=>by kernel_rfl
 |7,_=>by kernel_rfl
 |8,_=>by kernel_rfl
 |9,_=>by kernel_rfl
 |10,_=>by kernel_rfl
 |11,_=>by kernel_rfl
 |12,_=>by kernel_rfl
 |13,_=>by kernel_rfl
 |14,_=>by kernel_rfl
 |15,_=>by kernel_rfl
 |16,_=>by kernel_rfl
 |17,_=>by kernel_rfl
 |18,_=>by kernel_rfl
 |19,_=>by kernel_rfl
 |20,_=>by kernel_rfl
 |21,_=>by kernel_rfl
 |22,_=>by kernel_rfl
 |c+23,h=>absurd (Nat.le_of_ble_eq_true h) (by omega)
theorem enR2 (s:tS.den) (p:(Ty.sl tO).den) (f g h:Nat→AO) (h2:AO) (sv1:AV) (C:List AV) (n:Nat) (b:tB.den) (o r m:Int) (d:Nat) (r0:Rt) (K:List Fm):∀ c:Nat,Nat.ble c 21=true→enRA s p f g h h2 sv1 C n b o r m d r0 K 2 c=enRB s p f g h h2 sv1 C n b o r m d r0 K 2 c
 |0,_=>by kernel_rfl
 |1,_=>by kernel_rfl
 |2,_=>by kernel_rfl
 |3,_=>by kernel_rfl
 |4,_=>by kernel_rfl
 |5,_=>by kernel_rfl
 |6,_=>by kernel_rfl
 |7,_=>by kernel_rfl
 |8,_=>by kernel_rfl
 |9,_=>by kernel_rfl
 |10,_=>by kernel_rfl
 |11,_=>by kernel_rfl
 |12,_=>by kernel_rfl
 |13,_=>by kernel_rfl
 |14,_=>by kernel_rfl
 |15,_=>by kernel_rfl
 |16,_=>by kernel_rfl
 |17,_=>by kernel_rfl
 |18,_=>by kernel_rfl
 |19,_=>by kernel_rfl
 |20,_=>by kernel_rfl
 |21,_=>by kernel_rfl
 |c+22,h=>absurd (Nat.le_of_ble_eq_true h) (by omega)
theorem enR3 (s:tS.den) (p:(Ty.sl tO).den) (f g h:Nat→AO) (h2:AO) (sv1:AV) (C:List AV) (n:Nat) (b:tB.den) (o r m:Int) (d:Nat) (r0:Rt) (K:List Fm):∀ c:Nat,Nat.ble c 20=true→enRA s p f g h h2 sv1 C n b o r m d r0 K 3 c=enRB s p f g h h2 sv1 C n b o r m d r0 K 3 c
 |0,_=>by kernel_rfl
 |1,_=>by kernel_rfl
 |2,_=>by kernel_rfl
 |3,_=>by kernel_rfl
 |4,_=>by kernel_rfl
 |5,_=>by kernel_rfl
 |6,_=>by kernel_rfl
 |7,_=>by kernel_rfl
 |8,_=>by kernel_rfl
 |9,_=>by kernel_rfl
 |10,_=>by kernel_rfl
 |11,_=>by kernel_rfl
 |12,_=>by kernel_rfl
 |13,_=>by kernel_rfl
 |14,_=>by kernel_rfl
 |15,_=>by kernel_rfl
 |16,_=>by kernel_rfl
 |17,_=>by kernel_rfl
 |18,_=>by kernel_rfl
 |19,_=>by kernel_rfl
 |20,_=>by kernel_rfl
 |c+21,h=>absurd (Nat.le_of_ble_eq_true h) (by omega)
end Go.Proofs.Ytmpaifgmccdipaa


set_option maxRecDepth 100000
namespace Go.Proofs.Ytmpaifgmccdipaa
open Go Go.Eng
theorem enR4 (s:tS.den) (p:(Ty.sl tO).den) (f g h:Nat→AO) (h2:AO) (sv1:AV) (C:List AV) (n:Nat) (b:tB.den) (o r m:Int) (d:Nat) (r0:Rt) (K:List Fm):∀ c:Nat,Nat.ble c 19=true→enRA s p f g h h2 sv1 C n b o r m d r0 K 4 c=enRB s p f g h h2 sv1 C n b o r m d r0 K 4 c
 |0,_=>by kernel_rfl
 |1,_=>by kernel_rfl
 |2,_=>by kernel_rfl
 |3,_=>by kernel_rfl
 |4,_=>by kernel_rfl
 |5,_=>by kernel_rfl
 |6,_=>by kernel_rfl
 |7,_=>by kernel_rfl
 |8,_=>by kernel_rfl
 |9,_=>by kernel_rfl
 |10,_=>by kernel_rfl
 |11,_=>by kernel_rfl
 |12,_=>by kernel_rfl
 |13,_=>by kernel_rfl
 |14,_=>by kernel_rfl
 |15,_=>by kernel_rfl
 |16,_=>by kernel_rfl
 |17,_=>by kernel_rfl
 |18,_=>by kernel_rfl
 |19,_=>by kernel_rfl
 |c+20,h=>absurd (Nat.le_of_ble_eq_true h) (by omega)
theorem enR5 (s:tS.den) (p:(Ty.sl tO).den) (f g h:Nat→AO) (h2:AO) (sv1:AV) (C:List AV) (n:Nat) (b:tB.den) (o r m:Int) (d:Nat) (r0:Rt) (K:List Fm):∀ c:Nat,Nat.ble c 18=true→enRA s p f g h h2 sv1 C n b o r m d r0 K 5 c=enRB s p f g h h2 sv1 C n b o r m d r0 K 5 c
 |0,_=>by kernel_rfl
 |1,_=>by kernel_rfl
 |2,_=>by kernel_rfl
 |3,_=>by kernel_rfl
 |4,_=>by kernel_rfl
 |5,_=>by kernel_rfl
 |6,_=>by kernel_rfl
 |7,_=>by kernel_rfl
 |8,_=>by kernel_rfl
 |9,_=>by kernel_rfl
 |10,_=>by kernel_rfl
 |11,_=>by kernel_rfl
 |12,_=>by kernel_rfl
 |13,_=>by kernel_rfl
 |14,_=>by kernel_rfl
 |15,_=>by kernel_rfl
 |16,_=>by kernel_rfl
 |17,_=>by kernel_rfl
 |18,_=>by kernel_rfl
 |c+19,h=>absurd (Nat.le_of_ble_eq_true h) (by omega)
theorem enR6 (s:tS.den) (p:(Ty.sl tO).den) (f g h:Nat→AO) (h2:AO) (sv1:AV) (C:List AV) (n:Nat) (b:tB.den) (o r m:Int) (d:Nat) (r0:Rt) (K:List Fm):∀ c:Nat,Nat.ble c 17=true→enRA s p f g h h2 sv1 C n b o r m d r0 K 6 c=enRB s p f g h h2 sv1 C n b o r m d r0 K 6 c
 |0,_=>by kernel_rfl
 |1,_=>by kernel_rfl
 |2,_=>by kernel_rfl
 |3,_=>by kernel_rfl
 |4,_=>by kernel_rfl
 |5,_=>by kernel_rfl
 |6,_=>by kernel_rfl
 |7,_=>by kernel_rfl
 |8,_=>by kernel_rfl
 |9,_=>by kernel_rfl
 |10,_=>by kernel_rfl
 |11,_=>by kernel_rfl
 |12,_=>by kernel_rfl
 |13,_=>by kernel_rfl
 |14,_=>by kernel_rfl
 |15,_=>by kernel_rfl
 |16,_=>by kernel_rfl
 |17,_=>by kernel_rfl
 |c+18,h=>absurd (Nat.le_of_ble_eq_true h) (by omega)
theorem enR7 (s:tS.den) (p:(Ty.sl tO).den) (f g h:Nat→AO) (h2:AO) (sv1:AV) (C:List AV) (n:Nat) (b:tB.den) (o r m:Int) (d:Nat) (r0:Rt) (K:List Fm):∀ c:Nat,Nat.ble c 16=true→enRA s p f g h h2 sv1 C n b o r m d r0 K 7 c=enRB s p f g h h2 sv1 C n b o r m d r0 K 7 c
 |0,_=>by kernel_rfl
 |1,_=>by kernel_rfl
 |2,_=>by kernel_rfl
 |3,_=>by kernel_rfl
 |4,_=>by kernel_rfl
 |5,_=>by kernel_rfl
 |6,_=>by kernel_rfl
 |7,_=>by kernel_rfl
 |8,_=>by kernel_rfl
 |9,_=>by kernel_rfl
 |10,_=>by kernel_rfl
 |11,_=>by kernel_rfl
 |12,_=>by kernel_rfl
 |13,_=>by kernel_rfl
 |14,_=>by kernel_rfl
 |15,_=>by kernel_rfl
 |16,_=>by kernel_rfl
 |c+17,h=>absurd (Nat.le_of_ble_eq_true h) (by omega)
theorem enR8 (s:tS.den) (p:(Ty.sl tO).den) (f g h:Nat→AO) (h2:AO) (sv1:AV) (C:List AV) (n:Nat) (b:tB.den) (o r m:Int) (d:Nat) (r0:Rt) (K:List Fm):∀ c:Nat,Nat.ble c 15=true→enRA s p f g h h2 sv1 C n b o r m d r0 K 8 c=enRB s p f g h h2 sv1 C n b o r m d r0 K 8 c
 |0,_=>by kernel_rfl
 |1,_=>by kernel_rfl
 |2,_=>by kernel_rfl
 |3,_=>by kernel_rfl
 |4,_=>by kernel_rfl
 |5,_=>by kernel_rfl
 |6,_=>by kernel_rfl
 |7,_=>by kernel_rfl
 |8,_=>by kernel_rfl
 |9,_=>by kernel_rfl
 |10,_=>by kernel_rfl
 |11,_=>by kernel_rfl
 |12,_=>by kernel_rfl
 |13,_=>by kernel_rfl
 |14,_=>by kernel_rfl
 |15,_=>by kernel_rfl
 |c+16,h=>absurd (Nat.le_of_ble_eq_true h) (by omega)
end Go.Proofs.Ytmpaifgmccdipaa


set_option maxRecDepth 100000
namespace Go.Proofs.Ytmpaifgmccdipaa
open Go Go.Eng
theorem enR9 (s:tS.den) (p:(Ty.sl tO).den) (f g h:Nat→AO) (h2:AO) (sv1:AV) (C:List AV) (n:Nat) (b:tB.den) (o r m:Int) (d:Nat) (r0:Rt) (K:List Fm):∀ c:Nat,Nat.ble c 14=true→enRA s p f g h h2 sv1 C n b o r m d r0 K 9 c=enRB s p f g h h2 sv1 C n b o r m d r0 K 9 c
 |0,_=>by kernel_rfl
 |1,_=>by kernel_rfl
 |2,_=>by kernel_rfl
 |3,_=>by kernel_rfl
 |4,_=>by kernel_rfl
 |5,_=>by kernel_rfl
 |6,_=>by kernel_rfl
 |7,_=>by kernel_rfl
 |8,_=>by kernel_rfl
 |9,_=>by kernel_rfl
 |10,_=>by kernel_rfl
 |11,_=>by kernel_rfl
 |12,_=>by kernel_rfl
 |13,_=>by kernel_rfl
 |14,_=>by kernel_rfl
 |c+15,h=>absurd (Nat.le_of_ble_eq_true h) (by omega)
theorem enR10 (s:tS.den) (p:(Ty.sl tO).den) (f g h:Nat→AO) (h2:AO) (sv1:AV) (C:List AV) (n:Nat) (b:tB.den) (o r m:Int) (d:Nat) (r0:Rt) (K:List Fm):∀ c:Nat,Nat.ble c 13=true→enRA s p f g h h2 sv1 C n b o r m d r0 K 10 c=enRB s p f g h h2 sv1 C n b o r m d r0 K 10 c
 |0,_=>by kernel_rfl
 |1,_=>by kernel_rfl
 |2,_=>by kernel_rfl
 |3,_=>by kernel_rfl
 |4,_=>by kernel_rfl
 |5,_=>by kernel_rfl
 |6,_=>by kernel_rfl
 |7,_=>by kernel_rfl
 |8,_=>by kernel_rfl
 |9,_=>by kernel_rfl
 |10,_=>by kernel_rfl
 |11,_=>by kernel_rfl
 |12,_=>by kernel_rfl
 |13,_=>by kernel_rfl
 |c+14,h=>absurd (Nat.le_of_ble_eq_true h) (by omega)
theorem enR11 (s:tS.den) (p:(Ty.sl tO).den) (f g h:Nat→AO) (h2:AO) (sv1:AV) (C:List AV) (n:Nat) (b:tB.den) (o r m:Int) (d:Nat) (r0:Rt) (K:List Fm):∀ c:Nat,Nat.ble c 12=true→enRA s p f g h h2 sv1 C n b o r m d r0 K 11 c=enRB s p f g h h2 sv1 C n b o r m d r0 K 11 c
 |0,_=>by kernel_rfl
 |1,_=>by kernel_rfl
 |2,_=>by kernel_rfl
 |3,_=>by kernel_rfl
 |4,_=>by kernel_rfl
 |5,_=>by kernel_rfl
 |6,_=>by kernel_rfl
 |7,_=>by kernel_rfl
 |8,_=>by kernel_rfl
 |9,_=>by kernel_rfl
 |10,_=>by kernel_rfl
 |11,_=>by kernel_rfl
 |12,_=>by kernel_rfl
 |c+13,h=>absurd (Nat.le_of_ble_eq_true h) (by omega)
theorem enR12 (s:tS.den) (p:(Ty.sl tO).den) (f g h:Nat→AO) (h2:AO) (sv1:AV) (C:List AV) (n:Nat) (b:tB.den) (o r m:Int) (d:Nat) (r0:Rt) (K:List Fm):∀ c:Nat,Nat.ble c 11=true→enRA s p f g h h2 sv1 C n b o r m d r0 K 12 c=enRB s p f g h h2 sv1 C n b o r m d r0 K 12 c
 |0,_=>by kernel_rfl
 |1,_=>by kernel_rfl
 |2,_=>by kernel_rfl
 |3,_=>by kernel_rfl
 |4,_=>by kernel_rfl
 |5,_=>by kernel_rfl
 |6,_=>by kernel_rfl
 |7,_=>by kernel_rfl
 |8,_=>by kernel_rfl
 |9,_=>by kernel_rfl
 |10,_=>by kernel_rfl
 |11,_=>by kernel_rfl
 |c+12,h=>absurd (Nat.le_of_ble_eq_true h) (by omega)
theorem enR13 (s:tS.den) (p:(Ty.sl tO).den) (f g h:Nat→AO) (h2:AO) (sv1:AV) (C:List AV) (n:Nat) (b:tB.den) (o r m:Int) (d:Nat) (r0:Rt) (K:List Fm):∀ c:Nat,Nat.ble c 10=true→enRA s p f g h h2 sv1 C n b o r m d r0 K 13 c=enRB s p f g h h2 sv1 C n b o r m d r0 K 13 c
 |0,_=>by kernel_rfl
 |1,_=>by kernel_rfl
 |2,_=>by kernel_rfl
 |3,_=>by kernel_rfl
 |4,_=>by kernel_rfl
 |5,_=>by kernel_rfl
 |6,_=>by kernel_rfl
 |7,_=>by kernel_rfl
 |8,_=>by kernel_rfl
 |9,_=>by kernel_rfl
 |10,_=>by kernel_rfl
 |c+11,h=>absurd (Nat.le_of_ble_eq_true h) (by omega)
theorem enR14 (s:tS.den) (p:(Ty.sl tO).den) (f g h:Nat→AO) (h2:AO) (sv1:AV) (C:List AV) (n:Nat) (b:tB.den) (o r m:Int) (d:Nat) (r0:Rt) (K:List Fm):∀ c:Nat,Nat.ble c 9=true→enRA s p f g h h2 sv1 C n b o r m d r0 K 14 c=enRB s p f g h h2 sv1 C n b o r m d r0 K 14 c
 |0,_=>by kernel_rfl
 |1,_=>by kernel_rfl
 |2,_=>by kernel_rfl
 |3,_=>by kernel_rfl
 |4,_=>by kernel_rfl
 |5,_=>by kernel_rfl
 |6,_=>by kernel_rfl
 |7,_=>by kernel_rfl
 |8,_=>by kernel_rfl
 |9,_=>by kernel_rfl
 |c+10,h=>absurd (Nat.le_of_ble_eq_true h) (by omega)
theorem enR15 (s:tS.den) (p:(Ty.sl tO).den) (f g h:Nat→AO) (h2:AO) (sv1:AV) (C:List AV) (n:Nat) (b:tB.den) (o r m:Int) (d:Nat) (r0:Rt) (K:List Fm):∀ c:Nat,Nat.ble c 8=true→enRA s p f g h h2 sv1 C n b o r m d r0 K 15 c=enRB s p f g h h2 sv1 C n b o r m d r0 K 15 c
 |0,_=>by kernel_rfl
 |1,_=>by kernel_rfl
 |2,_=>by kernel_rfl
 |3,_=>by kernel_rfl
 |4,_=>by kernel_rfl
 |5,_=>by kernel_rfl
 |6,_=>by kernel_rfl
 |7,_=>by kernel_rfl
 |8,_=>by kernel_rfl
 |c+9,h=>absurd (Nat.le_of_ble_eq_true h) (by omega)
theorem enR16 (s:tS.den) (p:(Ty.sl tO).den) (f g h:Nat→AO) (h2:AO) (sv1:AV) (C:List AV) (n:Nat) (b:tB.den) (o r m:Int) (d:Nat) (r0:Rt) (K:List Fm):∀ c:Nat,Nat.ble c 7=true→enRA s p f g h h2 sv1 C n b o r m d r0 K 16 c=enRB s p f g h h2 sv1 C n b o r m d r0 K 16 c
 |0,_=>by kernel_rfl
 |1,_=>by kernel_rfl
 |2,_=>by kernel_rfl
 |3,_=>by kernel_rfl
 |4,_=>by kernel_rfl
 |5,_=>by kernel_rfl
 |6,_=>by kernel_rfl
 |7,_=>by kernel_rfl
 |c+8,h=>absurd (Nat.le_of_ble_eq_true h) (by omega)
end Go.Proofs.Ytmpaifgmccdipaa


set_option maxRecDepth 100000
namespace Go.Proofs.Ytmpaifgmccdipaa
open Go Go.Eng
theorem enR17 (s:tS.den) (p:(Ty.sl tO).den) (f g h:Nat→AO) (h2:AO) (sv1:AV) (C:List AV) (n:Nat) (b:tB.den) (o r m:Int) (d:Nat) (r0:Rt) (K:List Fm):∀ c:Nat,Nat.ble c 6=true→enRA s p f g h h2 sv1 C n b o r m d r0 K 17 c=enRB s p f g h h2 sv1 C n b o r m d r0 K 17 c
 |0,_=>by kernel_rfl
 |1,_=>by kernel_rfl
 |2,_=>by kernel_rfl
 |3,_=>by kernel_rfl
 |4,_=>by kernel_rfl
 |5,_=>by kernel_rfl
 |6,_=>by kernel_rfl
 |c+7,h=>absurd (Nat.le_of_ble_eq_true h) (by omega)
theorem enR18 (s:tS.den) (p:(Ty.sl tO).den) (f g h:Nat→AO) (h2:AO) (sv1:AV) (C:List AV) (n:Nat) (b:tB.den) (o r m:Int) (d:Nat) (r0:Rt) (K:List Fm):∀ c:Nat,Nat.ble c 5=true→enRA s p f g h h2 sv1 C n b o r m d r0 K 18 c=enRB s p f g h h2 sv1 C n b o r m d r0 K 18 c
 |0,_=>by kernel_rfl
 |1,_=>by kernel_rfl
 |2,_=>by kernel_rfl
 |3,_=>by kernel_rfl
 |4,_=>by kernel_rfl
 |5,_=>by kernel_rfl
 |c+6,h=>absurd (Nat.le_of_ble_eq_true h) (by omega)
theorem enR19 (s:tS.den) (p:(Ty.sl tO).den) (f g h:Nat→AO) (h2:AO) (sv1:AV) (C:List AV) (n:Nat) (b:tB.den) (o r m:Int) (d:Nat) (r0:Rt) (K:List Fm):∀ c:Nat,Nat.ble c 4=true→enRA s p f g h h2 sv1 C n b o r m d r0 K 19 c=enRB s p f g h h2 sv1 C n b o r m d r0 K 19 c
 |0,_=>by kernel_rfl
 |1,_=>by kernel_rfl
 |2,_=>by kernel_rfl
 |3,_=>by kernel_rfl
 |4,_=>by kernel_rfl
 |c+5,h=>absurd (Nat.le_of_ble_eq_true h) (by omega)
theorem enR20 (s:tS.den) (p:(Ty.sl tO).den) (f g h:Nat→AO) (h2:AO) (sv1:AV) (C:List AV) (n:Nat) (b:tB.den) (o r m:Int) (d:Nat) (r0:Rt) (K:List Fm):∀ c:Nat,Nat.ble c 3=true→enRA s p f g h h2 sv1 C n b o r m d r0 K 20 c=enRB s p f g h h2 sv1 C n b o r m d r0 K 20 c
 |0,_=>by kernel_rfl
 |1,_=>by kernel_rfl
 |2,_=>by kernel_rfl
 |3,_=>by kernel_rfl
 |c+4,h=>absurd (Nat.le_of_ble_eq_true h) (by omega)
theorem enR21 (s:tS.den) (p:(Ty.sl tO).den) (f g h:Nat→AO) (h2:AO) (sv1:AV) (C:List AV) (n:Nat) (b:tB.den) (o r m:Int) (d:Nat) (r0:Rt) (K:List Fm):∀ c:Nat,Nat.ble c 2=true→enRA s p f g h h2 sv1 C n b o r m d r0 K 21 c=enRB s p f g h h2 sv1 C n b o r m d r0 K 21 c
 |0,_=>by kernel_rfl
 |1,_=>by kernel_rfl
 |2,_=>by kernel_rfl
 |c+3,h=>absurd (Nat.le_of_ble_eq_true h) (by omega)
theorem enR22 (s:tS.den) (p:(Ty.sl tO).den) (f g h:Nat→AO) (h2:AO) (sv1:AV) (C:List AV) (n:Nat) (b:tB.den) (o r m:Int) (d:Nat) (r0:Rt) (K:List Fm):∀ c:Nat,Nat.ble c 1=true→enRA s p f g h h2 sv1 C n b o r m d r0 K 22 c=enRB s p f g h h2 sv1 C n b o r m d r0 K 22 c
 |0,_=>by kernel_rfl
 |1,_=>by kernel_rfl
 |c+2,h=>absurd (Nat.le_of_ble_eq_true h) (by omega)
theorem enR23 (s:tS.den) (p:(Ty.sl tO).den) (f g h:Nat→AO) (h2:AO) (sv1:AV) (C:List AV) (n:Nat) (b:tB.den) (o r m:Int) (d:Nat) (r0:Rt) (K:List Fm):∀ c:Nat,Nat.ble c 0=true→enRA s p f g h h2 sv1 C n b o r m d r0 K 23 c=enRB s p f g h h2 sv1 C n b o r m d r0 K 23 c
 |0,_=>by kernel_rfl
 |c+1,h=>absurd (Nat.le_of_ble_eq_true h) (by omega)
end Go.Proofs.Ytmpaifgmccdipaa


set_option maxRecDepth 100000
namespace Go.Proofs.Ytmpaifgmccdipaa
open Go Go.Eng
theorem raR0 (s:tS.den) (p:(Ty.sl tO).den) (f g h:Nat→AO) (h2:AO) (sv1:AV) (C:List AV) (n:Nat) (b:tB.den) (o r m:Int) (d:Nat) (r0:Rt) (K:List Fm):∀ c:Nat,Nat.ble c 20=true→raRA s p f g h h2 sv1 C n b o r m d r0 K 0 c=raRB s p f g h h2 sv1 C n b o r m d r0 K 0 c
 |0,_=>by kernel_rfl
 |1,_=>by kernel_rfl
 |2,_=>by kernel_rfl
 |3,_=>by kernel_rfl
 |4,_=>by kernel_rfl
 |5,_=>by kernel_rfl
 |6,_=>by kernel_rfl
 |7,_=>by kernel_rfl
 |8,_=>by kernel_rfl
 |9,_=>by kernel_rfl
 |10,_=>by kernel_rfl
 |11,_=>by kernel_rfl
 |12,_=>by kernel_rfl
 |13,_=>by kernel_rfl
 |14,_=>by kernel_rfl
 |15,_=>by kernel_rfl
 |16,_=>by kernel_rfl
 |17,_=>by kernel_rfl
 |18,_=>by kernel_rfl
 |19,_=>by kernel_rfl
 |20,_=>by kernel_rfl
 |c+21,h=>absurd (Nat.le_of_ble_eq_true h) (by omega)
theorem raR1 (s:tS.den) (p:(Ty.sl tO).den) (f g h:Nat→AO) (h2:AO) (sv1:AV) (C:List AV) (n:Nat) (b:tB.den) (o r m:Int) (d:Nat) (r0:Rt) (K:List Fm):∀ c:Nat,Nat.ble c 19=true→raRA s p f g h h2 sv1 C n b o r m d r0 K 1 c=raRB s p f g h h2 sv1 C n b o r m d r0 K 1 c
 |0,_=>by kernel_rfl
 |1,_=>by kernel_rfl
 |2,_=>by kernel_rfl
 |3,_=>by kernel_rfl
 |4,_=>by kernel_rfl
 |5,_=>by kernel_rfl
 |6,_=>by kernel_rfl
 |7,_=>by kernel_rfl
 |8,_=>by kernel_rfl
 |9,_=>by kernel_rfl
 |10,_=>by kernel_rfl
 |11,_=>by kernel_rfl
 |12,_=>by kernel_rfl
 |13,_=>by kernel_rfl
 |14,_=>by kernel_rfl
 |15,_=>by kernel_rfl
 |16,_=>by kernel_rfl
 |17,_=>by kernel_rfl
 |18,_=>by kernel_rfl
 |19,_=>by kernel_rfl
 |c+20,h=>absurd (Nat.le_of_ble_eq_true h) (by omega)
theorem raR2 (s:tS.den) (p:(Ty.sl tO).den) (f g h:Nat→AO) (h2:AO) (sv1:AV) (C:List AV) (n:Nat) (b:tB.den) (o r m:Int) (d:Nat) (r0:Rt) (K:List Fm):∀ c:Nat,Nat.ble c 18=true→raRA s p f g h h2 sv1 C n b o r m d r0 K 2 c=raRB s p f g h h2 sv1 C n b o r m d r0 K 2 c
 |0,_=>by kernel_rfl
 |1,_=>by kernel_rfl
 |2,_=>by kernel_rfl
 |3,_=>by kernel_rfl
 |4,_=>by kernel_rfl
 |5,_=>by kernel_rfl
 |6,_=>by kernel_rfl
 |7,_=>by kernel_rfl
 |8,_=>by kernel_rfl
 |9,_=>by kernel_rfl
 |10,_=>by kernel_rfl
 |11,_=>by kernel_rfl
 |12,_=>by kernel_rfl
 |13,_=>by kernel_rfl
 |14,_=>by kernel_rfl
 |15,_=>by kernel_rfl
 |16,_=>by kernel_rfl
 |17,_=>by kernel_rfl
 |18,_=>by kernel_rfl
 |c+19,h=>absurd (Nat.le_of_ble_eq_true h) (by omega)
theorem raR3 (s:tS.den) (p:(Ty.sl tO).den) (f g h:Nat→AO) (h2:AO) (sv1:AV) (C:List AV) (n:Nat) (b:tB.den) (o r m:Int) (d:Nat) (r0:Rt) (K:List Fm):∀ c:Nat,Nat.ble c 17=true→raRA s p f g h h2 sv1 C n b o r m d r0 K 3 c=raRB s p f g h h2 sv1 C n b o r m d r0 K 3 c
 |0,_=>by kernel_rfl
 |1,_=>by kernel_rfl
 |2,_=>by kernel_rfl
 |3,_=>by kernel_rfl
 |4,_=>by kernel_rfl
 |5,_=>by kernel_rfl
 |6,_=>by kernel_rfl
 |7,_=>by kernel_rfl
 |8,_=>by kernel_rfl
 |9,_=>by kernel_rfl
 |10,_=>by kernel_rfl
 |11,_=>by kernel_rfl
 |12,_=>by kernel_rfl
 |13,_=>by kernel_rfl
 |14,_=>by kernel_rfl
 |15,_=>by kernel_rfl
 |16,_=>by kernel_rfl
 |17,_=>by kernel_rfl
 |c+18,h=>absurd (Nat.le_of_ble_eq_true h) (by omega)
theorem raR4 (s:tS.den) (p:(Ty.sl tO).den) (f g h:Nat→AO) (h2:AO) (sv1:AV) (C:List AV) (n:Nat) (b:tB.den) (o r m:Int) (d:Nat) (r0:Rt) (K:List Fm):∀ c:Nat,Nat.ble c 16=true→raRA s p f g h h2 sv1 C n b o r m d r0 K 4 c=raRB s p f g h h2 sv1 C n b o r m d r0 K 4 c
 |0,_=>by kernel_rfl
 |1,_=>by kernel_rfl
 |2,_=>by kernel_rfl
 |3,_=>by kernel_rfl
 |4,_=>by kernel_rfl
 |5,_=>by kernel_rfl
 |6,_=>by kernel_rfl
 |7,_=>by kernel_rfl
 |8,_=>by kernel_rfl
 |9,_=>by kernel_rfl
 |10,_=>by kernel_rfl
 |11,_=>by kernel_rfl
 |12,_=>by kernel_rfl
 |13,_=>by kernel_rfl
 |14,_=>by kernel_rfl
 |15,_=>by kernel_rfl
 |16,_=>by kernel_rfl
 |c+17,h=>absurd (Nat.le_of_ble_eq_true h) (by omega)
end Go.Proofs.Ytmpaifgmccdipaa


set_option maxRecDepth 100000
namespace Go.Proofs.Ytmpaifgmccdipaa
open Go Go.Eng
theorem raR5 (s:tS.den) (p:(Ty.sl tO).den) (f g h:Nat→AO) (h2:AO) (sv1:AV) (C:List AV) (n:Nat) (b:tB.den) (o r m:Int) (d:Nat) (r0:Rt) (K:List Fm):∀ c:Nat,Nat.ble c 15=true→raRA s p f g h h2 sv1 C n b o r m d r0 K 5 c=raRB s p f g h h2 sv1 C n b o r m d r0 K 5 c
 |0,_=>by kernel_rfl
 |1,_=>by kernel_rfl
 |2,_=>by kernel_rfl
 |3,_=>by kernel_rfl
 |4,_=>by kernel_rfl
 |5,_=>by kernel_rfl
 |6,_=>by kernel_rfl
 |7,_=>by kernel_rfl
 |8,_=>by kernel_rfl
 |9,_=>by kernel_rfl
 |10,_=>by kernel_rfl
 |11,_=>by kernel_rfl
 |12,_=>by kernel_rfl
 |13,_=>by kernel_rfl
 |14,_=>by kernel_rfl
 |15,_=>by kernel_rfl
 |c+16,h=>absurd (Nat.le_of_ble_eq_true h) (by omega)
theorem raR6 (s:tS.den) (p:(Ty.sl tO).den) (f g h:Nat→AO) (h2:AO) (sv1:AV) (C:List AV) (n:Nat) (b:tB.den) (o r m:Int) (d:Nat) (r0:Rt) (K:List Fm):∀ c:Nat,Nat.ble c 14=true→raRA s p f g h h2 sv1 C n b o r m d r0 K 6 c=raRB s p f g h h2 sv1 C n b o r m d r0 K 6 c
 |0,_=>by kernel_rfl
 |1,_=>by kernel_rfl
 |2,_=>by kernel_rfl
 |3,_=>by kernel_rfl
 |4,_=>by kernel_rfl
 |5,_=>by kernel_rfl
 |6,_=>by kernel_rfl
 |7,_=>by kernel_rfl
 |8,_=>by kernel_rfl
 |9,_=>by kernel_rfl
 |10,_=>by kernel_rfl
 |11,_=>by kernel_rfl
 |12,_=>by kernel_rfl
 |13,_=>by kernel_rfl
 |14,_=>by kernel_rfl
 |c+15,h=>absurd (Nat.le_of_ble_eq_true h) (by omega)
theorem raR7 (s:tS.den) (p:(Ty.sl tO).den) (f g h:Nat→AO) (h2:AO) (sv1:AV) (C:List AV) (n:Nat) (b:tB.den) (o r m:Int) (d:Nat) (r0:Rt) (K:List Fm):∀ c:Nat,Nat.ble c 13=true→raRA s p f g h h2 sv1 C n b o r m d r0 K 7 c=raRB s p f g h h2 sv1 C n b o r m d r0 K 7 c
 |0,_=>by kernel_rfl
 |1,_=>by kernel_rfl
 |2,_=>by kernel_rfl
 |3,_=>by kernel_rfl
 |4,_=>by kernel_rfl
 |5,_=>by kernel_rfl
 |6,_=>by kernel_rfl
 |7,_=>by kernel_rfl
 |8,_=>by kernel_rfl
 |9,_=>by kernel_rfl
 |10,_=>by kernel_rfl
 |11,_=>by kernel_rfl
 |12,_=>by kernel_rfl
 |13,_=>by kernel_rfl
 |c+14,h=>absurd (Nat.le_of_ble_eq_true h) (by omega)
theorem raR8 (s:tS.den) (p:(Ty.sl tO).den) (f g h:Nat→AO) (h2:AO) (sv1:AV) (C:List AV) (n:Nat) (b:tB.den) (o r m:Int) (d:Nat) (r0:Rt) (K:List Fm):∀ c:Nat,Nat.ble c 12=true→raRA s p f g h h2 sv1 C n b o r m d r0 K 8 c=raRB s p f g h h2 sv1 C n b o r m d r0 K 8 c
 |0,_=>by kernel_rfl
 |1,_=>by kernel_rfl
 |2,_=>by kernel_rfl
 |3,_=>by kernel_rfl
 |4,_=>by kernel_rfl
 |5,_=>by kernel_rfl
 |6,_=>by kernel_rfl
 |7,_=>by kernel_rfl
 |8,_=>by kernel_rfl
 |9,_=>by kernel_rfl
 |10,_=>by kernel_rfl
 |11,_=>by kernel_rfl
 |12,_=>by kernel_rfl
 |c+13,h=>absurd (Nat.le_of_ble_eq_true h) (by omega)
theorem raR9 (s:tS.den) (p:(Ty.sl tO).den) (f g h:Nat→AO) (h2:AO) (sv1:AV) (C:List AV) (n:Nat) (b:tB.den) (o r m:Int) (d:Nat) (r0:Rt) (K:List Fm):∀ c:Nat,Nat.ble c 11=true→raRA s p f g h h2 sv1 C n b o r m d r0 K 9 c=raRB s p f g h h2 sv1 C n b o r m d r0 K 9 c
 |0,_=>by kernel_rfl
 |1,_=>by kernel_rfl
 |2,_=>by kernel_rfl
 |3,_=>by kernel_rfl
 |4,_=>by kernel_rfl
 |5,_=>by kernel_rfl
 |6,_=>by kernel_rfl
 |7,_=>by kernel_rfl
 |8,_=>by kernel_rfl
 |9,_=>by kernel_rfl
 |10,_=>by kernel_rfl
 |11,_=>by kernel_rfl
 |c+12,h=>absurd (Nat.le_of_ble_eq_true h) (by omega)
theorem raR10 (s:tS.den) (p:(Ty.sl tO).den) (f g h:Nat→AO) (h2:AO) (sv1:AV) (C:List AV) (n:Nat) (b:tB.den) (o r m:Int) (d:Nat) (r0:Rt) (K:List Fm):∀ c:Nat,Nat.ble c 10=true→raRA s p f g h h2 sv1 C n b o r m d r0 K 10 c=raRB s p f g h h2 sv1 C n b o r m d r0 K 10 c
 |0,_=>by kernel_rfl
 |1,_=>by kernel_rfl
 |2,_=>by kernel_rfl
 |3,_=>by kernel_rfl
 |4,_=>by kernel_rfl
 |5,_=>by kernel_rfl
 |6,_=>by kernel_rfl
 |7,_=>by kernel_rfl
 |8,_=>by kernel_rfl
 |9,_=>by kernel_rfl
 |10,_=>by kernel_rfl
 |c+11,h=>absurd (Nat.le_of_ble_eq_true h) (by omega)
theorem raR11 (s:tS.den) (p:(Ty.sl tO).den) (f g h:Nat→AO) (h2:AO) (sv1:AV) (C:List AV) (n:Nat) (b:tB.den) (o r m:Int) (d:Nat) (r0:Rt) (K:List Fm):∀ c:Nat,Nat.ble c 9=true→raRA s p f g h h2 sv1 C n b o r m d r0 K 11 c=raRB s p f g h h2 sv1 C n b o r m d r0 K 11 c
 |0,_=>by kernel_rfl
 |1,_=>by kernel_rfl
 |2,_=>by kernel_rfl
 |3,_=>by kernel_rfl
 |4,_=>by kernel_rfl
 |5,_=>by kernel_rfl
 |6,_=>by kernel_rfl
 |7,_=>by kernel_rfl
 |8,_=>by kernel_rfl
 |9,_=>by kernel_rfl
 |c+10,h=>absurd (Nat.le_of_ble_eq_true h) (by omega)
end Go.Proofs.Ytmpaifgmccdipaa


set_option maxRecDepth 100000
namespace Go.Proofs.Ytmpaifgmccdipaa
open Go Go.Eng
theorem raR12 (s:tS.den) (p:(Ty.sl tO).den) (f g h:Nat→AO) (h2:AO) (sv1:AV) (C:List AV) (n:Nat) (b:tB.den) (o r m:Int) (d:Nat) (r0:Rt) (K:List Fm):∀ c:Nat,Nat.ble c 8=true→raRA s p f g h h2 sv1 C n b o r m d r0 K 12 c=raRB s p f g h h2 sv1 C n b o r m d r0 K 12 c
 |0,_=>by kernel_rfl
 |1,_=>by kernel_rfl
 |2,_=>by kernel_rfl
 |3,_=>by kernel_rfl
 |4,_=>by kernel_rfl
 |5,_=>by kernel_rfl
 |6,_=>by kernel_rfl
 |7,_=>by kernel_rfl
 |8,_=>by kernel_rfl
 |c+9,h=>absurd (Nat.le_of_ble_eq_true h) (by omega)
theorem raR13 (s:tS.den) (p:(Ty.sl tO).den) (f g h:Nat→AO) (h2:AO) (sv1:AV) (C:List AV) (n:Nat) (b:tB.den) (o r m:Int) (d:Nat) (r0:Rt) (K:List Fm):∀ c:Nat,Nat.ble c 7=true→raRA s p f g h h2 sv1 C n b o r m d r0 K 13 c=raRB s p f g h h2 sv1 C n b o r m d r0 K 13 c
 |0,_=>by kernel_rfl
 |1,_=>by kernel_rfl
 |2,_=>by kernel_rfl
 |3,_=>by kernel_rfl
 |4,_=>by kernel_rfl
 |5,_=>by kernel_rfl
 |6,_=>by kernel_rfl
 |7,_=>by kernel_rfl
 |c+8,h=>absurd (Nat.le_of_ble_eq_true h) (by omega)
theorem raR14 (s:tS.den) (p:(Ty.sl tO).den) (f g h:Nat→AO) (h2:AO) (sv1:AV) (C:List AV) (n:Nat) (b:tB.den) (o r m:Int) (d:Nat) (r0:Rt) (K:List Fm):∀ c:Nat,Nat.ble c 6=true→raRA s p f g h h2 sv1 C n b o r m d r0 K 14 c=raRB s p f g h h2 sv1 C n b o r m d r0 K 14 c
 |0,_=>by kernel_rfl
 |1,_=>by kernel_rfl
 |2,_=>by kernel_rfl
 |3,_=>by kernel_rfl
 |4,_=>by kernel_rfl
 |5,_=>by kernel_rfl
 |6,_=>by kernel_rfl
 |c+7,h=>absurd (Nat.le_of_ble_eq_true h) (by omega)
theorem raR15 (s:tS.den) (p:(Ty.sl tO).den) (f g h:Nat→AO) (h2:AO) (sv1:AV) (C:List AV) (n:Nat) (b:tB.den) (o r m:Int) (d:Nat) (r0:Rt) (K:List Fm):∀ c:Nat,Nat.ble c 5=true→raRA s p f g h h2 sv1 C n b o r m d r0 K 15 c=raRB s p f g h h2 sv1 C n b o r m d r0 K 15 c
 |0,_=>by kernel_rfl
 |1,_=>by kernel_rfl
 |2,_=>by kernel_rfl
 |3,_=>by kernel_rfl
 |4,_=>by kernel_rfl
 |5,_=>by kernel_rfl
 |c+6,h=>absurd (Nat.le_of_ble_eq_true h) (by omega)
theorem raR16 (s:tS.den) (p:(Ty.sl tO).den) (f g h:Nat→AO) (h2:AO) (sv1:AV) (C:List AV) (n:Nat) (b:tB.den) (o r m:Int) (d:Nat) (r0:Rt) (K:List Fm):∀ c:Nat,Nat.ble c 4=true→raRA s p f g h h2 sv1 C n b o r m d r0 K 16 c=raRB s p f g h h2 sv1 C n b o r m d r0 K 16 c
 |0,_=>by kernel_rfl
 |1,_=>by kernel_rfl
 |2,_=>by kernel_rfl
 |3,_=>by kernel_rfl
 |4,_=>by kernel_rfl
 |c+5,h=>absurd (Nat.le_of_ble_eq_true h) (by omega)
theorem raR17 (s:tS.den) (p:(Ty.sl tO).den) (f g h:Nat→AO) (h2:AO) (sv1:AV) (C:List AV) (n:Nat) (b:tB.den) (o r m:Int) (d:Nat) (r0:Rt) (K:List Fm):∀ c:Nat,Nat.ble c 3=true→raRA s p f g h h2 sv1 C n b o r m d r0 K 17 c=raRB s p f g h h2 sv1 C n b o r m d r0 K 17 c
 |0,_=>by kernel_rfl
 |1,_=>by kernel_rfl
 |2,_=>by kernel_rfl
 |3,_=>by kernel_rfl
 |c+4,h=>absurd (Nat.le_of_ble_eq_true h) (by omega)
theorem raR18 (s:tS.den) (p:(Ty.sl tO).den) (f g h:Nat→AO) (h2:AO) (sv1:AV) (C:List AV) (n:Nat) (b:tB.den) (o r m:Int) (d:Nat) (r0:Rt) (K:List Fm):∀ c:Nat,Nat.ble c 2=true→raRA s p f g h h2 sv1 C n b o r m d r0 K 18 c=raRB s p f g h h2 sv1 C n b o r m d r0 K 18 c
 |0,_=>by kernel_rfl
 |1,_=>by kernel_rfl
 |2,_=>by kernel_rfl
 |c+3,h=>absurd (Nat.le_of_ble_eq_true h) (by omega)
theorem raR19 (s:tS.den) (p:(Ty.sl tO).den) (f g h:Nat→AO) (h2:AO) (sv1:AV) (C:List AV) (n:Nat) (b:tB.den) (o r m:Int) (d:Nat) (r0:Rt) (K:List Fm):∀ c:Nat,Nat.ble c 1=true→raRA s p f g h h2 sv1 C n b o r m d r0 K 19 c=raRB s p f g h h2 sv1 C n b o r m d r0 K 19 c
 |0,_=>by kernel_rfl
 |1,_=>by kernel_rfl
 |c+2,h=>absurd (Nat.le_of_ble_eq_true h) (by omega)
theorem raR20 (s:tS.den) (p:(Ty.sl tO).den) (f g h:Nat→AO) (h2:AO) (sv1:AV) (C:List AV) (n:Nat) (b:tB.den) (o r m:Int) (d:Nat) (r0:Rt) (K:List Fm):∀ c:Nat,Nat.ble c 0=true→raRA s p f g h h2 sv1 C n b o r m d r0 K 20 c=raRB s p f g h h2 sv1 C n b o r m d r0 K 20 c
 |0,_=>by kernel_rfl
 |c+1,h=>absurd (Nat.le_of_ble_eq_true h) (by omega)
end Go.Proofs.Ytmpaifgmccdipaa


set_option maxRecDepth 100000
namespace Go.Proofs.Ytmpaifgmccdipaa
open Go Go.Eng
theorem rbR0 (s:tS.den) (p:(Ty.sl tO).den) (f g h:Nat→AO) (h2:AO) (sv1:AV) (C:List AV) (n:Nat) (b:tB.den) (o r m:Int) (d:Nat) (r0:Rt) (K:List Fm):∀ c:Nat,Nat.ble c 20=true→rbRA s p f g h h2 sv1 C n b o r m d r0 K 0 c=rbRB s p f g h h2 sv1 C n b o r m d r0 K 0 c
 |0,_=>by kernel_rfl
 |1,_=>by kernel_rfl
 |2,_=>by kernel_rfl
 |3,_=>by kernel_rfl
 |4,_=>by kernel_rfl
 |5,_=>by kernel_rfl
 |6,_=>by kernel_rfl
 |7,_=>by kernel_rfl
 |8,_=>by kernel_rfl
 |9,_=>by kernel_rfl
 |10,_=>by kernel_rfl
 |11,_=>by kernel_rfl
 |12,_=>by kernel_rfl
 |13,_=>by kernel_rfl
 |14,_=>by kernel_rfl
 |15,_=>by kernel_rfl
 |16,_=>by kernel_rfl
 |17,_=>by kernel_rfl
 |18,_=>by kernel_rfl
 |19,_=>by kernel_rfl
 |20,_=>by kernel_rfl
 |c+21,h=>absurd (Nat.le_of_ble_eq_true h) (by omega)
theorem rbR1 (s:tS.den) (p:(Ty.sl tO).den) (f g h:Nat→AO) (h2:AO) (sv1:AV) (C:List AV) (n:Nat) (b:tB.den) (o r m:Int) (d:Nat) (r0:Rt) (K:List Fm):∀ c:Nat,Nat.ble c 19=true→rbRA s p f g h h2 sv1 C n b o r m d r0 K 1 c=rbRB s p f g h h2 sv1 C n b o r m d r0 K 1 c
 |0,_=>by kernel_rfl
 |1,_=>by kernel_rfl
 |2,_=>by kernel_rfl
 |3,_=>by kernel_rfl
 |4,_=>by kernel_rfl
 |5,_=>by kernel_rfl
 |6,_=>by kernel_rfl
 |7,_=>by kernel_rfl
 |8,_=>by kernel_rfl
 |9,_=>by kernel_rfl
 |10,_=>by kernel_rfl
 |11,_=>by kernel_rfl
 |12,_=>by kernel_rfl
 |13,_=>by kernel_rfl
 |14,_=>by kernel_rfl
 |15,_=>by kernel_rfl
 |16,_=>by kernel_rfl
 |17,_=>by kernel_rfl
 |18,_=>by kernel_rfl
 |19,_=>by kernel_rfl
 |c+20,h=>absurd (Nat.le_of_ble_eq_true h) (by omega)
theorem rbR2 (s:tS.den) (p:(Ty.sl tO).den) (f g h:Nat→AO) (h2:AO) (sv1:AV) (C:List AV) (n:Nat) (b:tB.den) (o r m:Int) (d:Nat) (r0:Rt) (K:List Fm):∀ c:Nat,Nat.ble c 18=true→rbRA s p f g h h2 sv1 C n b o r m d r0 K 2 c=rbRB s p f g h h2 sv1 C n b o r m d r0 K 2 c
 |0,_=>by kernel_rfl
 |1,_=>by kernel_rfl
 |2,_=>by kernel_rfl
 |3,_=>by kernel_rfl
 |4,_=>by kernel_rfl
 |5,_=>by kernel_rfl
 |6,_=>by kernel_rfl
 |7,_=>by kernel_rfl
 |8,_=>by kernel_rfl
 |9,_=>by kernel_rfl
 |10,_=>by kernel_rfl
 |11,_=>by kernel_rfl
 |12,_=>by kernel_rfl
 |13,_=>by kernel_rfl
 |14,_=>by kernel_rfl
 |15,_=>by kernel_rfl
 |16,_=>by kernel_rfl
 |17,_=>by kernel_rfl
 |18,_=>by kernel_rfl
 |c+19,h=>absurd (Nat.le_of_ble_eq_true h) (by omega)
theorem rbR3 (s:tS.den) (p:(Ty.sl tO).den) (f g h:Nat→AO) (h2:AO) (sv1:AV) (C:List AV) (n:Nat) (b:tB.den) (o r m:Int) (d:Nat) (r0:Rt) (K:List Fm):∀ c:Nat,Nat.ble c 17=true→rbRA s p f g h h2 sv1 C n b o r m d r0 K 3 c=rbRB s p f g h h2 sv1 C n b o r m d r0 K 3 c
 |0,_=>by kernel_rfl
 |1,_=>by kernel_rfl
 |2,_=>by kernel_rfl
 |3,_=>by kernel_rfl
 |4,_=>by kernel_rfl
 |5,_=>by kernel_rfl
 |6,_=>by kernel_rfl
 |7,_=>by kernel_rfl
 |8,_=>by kernel_rfl
 |9,_=>by kernel_rfl
 |10,_=>by kernel_rfl
 |11,_=>by kernel_rfl
 |12,_=>by kernel_rfl
 |13,_=>by kernel_rfl
 |14,_=>by kernel_rfl
 |15,_=>by kernel_rfl
 |16,_=>by kernel_rfl
 |17,_=>by kernel_rfl
 |c+18,h=>absurd (Nat.le_of_ble_eq_true h) (by omega)
theorem rbR4 (s:tS.den) (p:(Ty.sl tO).den) (f g h:Nat→AO) (h2:AO) (sv1:AV) (C:List AV) (n:Nat) (b:tB.den) (o r m:Int) (d:Nat) (r0:Rt) (K:List Fm):∀ c:Nat,Nat.ble c 16=true→rbRA s p f g h h2 sv1 C n b o r m d r0 K 4 c=rbRB s p f g h h2 sv1 C n b o r m d r0 K 4 c
 |0,_=>by kernel_rfl
 |1,_=>by kernel_rfl
 |2,_=>by kernel_rfl
 |3,_=>by kernel_rfl
 |4,_=>by kernel_rfl
 |5,_=>by kernel_rfl
 |6,_=>by kernel_rfl
 |7,_=>by kernel_rfl
 |8,_=>by kernel_rfl
 |9,_=>by kernel_rfl
 |10,_=>by kernel_rfl
 |11,_=>by kernel_rfl
 |12,_=>by kernel_rfl
 |13,_=>by kernel_rfl
 |14,_=>by kernel_rfl
 |15,_=>by kernel_rfl
 |16,_=>by kernel_rfl
 |c+17,h=>absurd (Nat.le_of_ble_eq_true h) (by omega)
end Go.Proofs.Ytmpaifgmccdipaa


set_option maxRecDepth 100000
namespace Go.Proofs.Ytmpaifgmccdipaa
open Go Go.Eng
theorem rbR5 (s:tS.den) (p:(Ty.sl tO).den) (f g h:Nat→AO) (h2:AO) (sv1:AV) (C:List AV) (n:Nat) (b:tB.den) (o r m:Int) (d:Nat) (r0:Rt) (K:List Fm):∀ c:Nat,Nat.ble c 15=true→rbRA s p f g h h2 sv1 C n b o r m d r0 K 5 c=rbRB s p f g h h2 sv1 C n b o r m d r0 K 5 c
 |0,_=>by kernel_rfl
 |1,_=>by kernel_rfl
 |2,_=>by kernel_rfl
 |3,_=>by kernel_rfl
 |4,_=>by kernel_rfl
 |5,_=>by kernel_rfl
 |6,_=>by kernel_rfl
 |7,_=>by kernel_rfl
 |8,_=>by kernel_rfl
 |9,_=>by kernel_rfl
 |10,_=>by kernel_rfl
 |11,_=>by kernel_rfl
 |12,_=>by kernel_rfl
 |13,_=>by kernel_rfl
 |14,_=>by kernel_rfl
 |15,_=>by kernel_rfl
 |c+16,h=>absurd (Nat.le_of_ble_eq_true h) (by omega)
theorem rbR6 (s:tS.den) (p:(Ty.sl tO).den) (f g h:Nat→AO) (h2:AO) (sv1:AV) (C:List AV) (n:Nat) (b:tB.den) (o r m:Int) (d:Nat) (r0:Rt) (K:List Fm):∀ c:Nat,Nat.ble c 14=true→rbRA s p f g h h2 sv1 C n b o r m d r0 K 6 c=rbRB s p f g h h2 sv1 C n b o r m d r0 K 6 c
 |0,_=>by kernel_rfl
 |1,_=>by kernel_rfl
 |2,_=>by kernel_rfl
 |3,_=>by kernel_rfl
 |4,_=>by kernel_rfl
 |5,_=>by kernel_rfl
 |6,_=>by kernel_rfl
 |7,_=>by kernel_rfl
 |8,_=>by kernel_rfl
 |9,_=>by kernel_rfl
 |10,_=>by kernel_rfl
 |11,_=>by kernel_rfl
 |12,_=>by kernel_rfl
 |13,_=>by kernel_rfl
 |14,_=>by kernel_rfl
 |c+15,h=>absurd (Nat.le_of_ble_eq_true h) (by omega)
theorem rbR7 (s:tS.den) (p:(Ty.sl tO).den) (f g h:Nat→AO) (h2:AO) (sv1:AV) (C:List AV) (n:Nat) (b:tB.den) (o r m:Int) (d:Nat) (r0:Rt) (K:List Fm):∀ c:Nat,Nat.ble c 13=true→rbRA s p f g h h2 sv1 C n b o r m d r0 K 7 c=rbRB s p f g h h2 sv1 C n b o r m d r0 K 7 c
 |0,_=>by kernel_rfl
 |1,_=>by kernel_rfl
 |2,_=>by kernel_rfl
 |3,_=>by kernel_rfl
 |4,_=>by kernel_rfl
 |5,_=>by kernel_rfl
 |6,_=>by kernel_rfl
 |7,_=>by kernel_rfl
 |8,_=>by kernel_rfl
 |9,_=>by kernel_rfl
 |10,_=>by kernel_rfl
 |11,_=>by kernel_rfl
 |12,_=>by kernel_rfl
 |13,_=>by kernel_rfl
 |c+14,h=>absurd (Nat.le_of_ble_eq_true h) (by omega)
theorem rbR8 (s:tS.den) (p:(Ty.sl tO).den) (f g h:Nat→AO) (h2:AO) (sv1:AV) (C:List AV) (n:Nat) (b:tB.den) (o r m:Int) (d:Nat) (r0:Rt) (K:List Fm):∀ c:Nat,Nat.ble c 12=true→rbRA s p f g h h2 sv1 C n b o r m d r0 K 8 c=rbRB s p f g h h2 sv1 C n b o r m d r0 K 8 c
 |0,_=>by kernel_rfl
 |1,_=>by kernel_rfl
 |2,_=>by kernel_rfl
 |3,_=>by kernel_rfl
 |4,_=>by kernel_rfl
 |5,_=>by kernel_rfl
 |6,_=>by kernel_rfl
 |7,_=>by kernel_rfl
 |8,_=>by kernel_rfl
 |9,_=>by kernel_rfl
 |10,_=>by kernel_rfl
 |11,_=>by kernel_rfl
 |12,_=>by kernel_rfl
 |c+13,h=>absurd (Nat.le_of_ble_eq_true h) (by omega)
theorem rbR9 (s:tS.den) (p:(Ty.sl tO).den) (f g h:Nat→AO) (h2:AO) (sv1:AV) (C:List AV) (n:Nat) (b:tB.den) (o r m:Int) (d:Nat) (r0:Rt) (K:List Fm):∀ c:Nat,Nat.ble c 11=true→rbRA s p f g h h2 sv1 C n b o r m d r0 K 9 c=rbRB s p f g h h2 sv1 C n b o r m d r0 K 9 c
 |0,_=>by kernel_rfl
 |1,_=>by kernel_rfl
 |2,_=>by kernel_rfl
 |3,_=>by kernel_rfl
 |4,_=>by kernel_rfl
 |5,_=>by kernel_rfl
 |6,_=>by kernel_rfl
 |7,_=>by kernel_rfl
 |8,_=>by kernel_rfl
 |9,_=>by kernel_rfl
 |10,_=>by kernel_rfl
 |11,_=>by kernel_rfl
 |c+12,h=>absurd (Nat.le_of_ble_eq_true h) (by omega)
theorem rbR10 (s:tS.den) (p:(Ty.sl tO).den) (f g h:Nat→AO) (h2:AO) (sv1:AV) (C:List AV) (n:Nat) (b:tB.den) (o r m:Int) (d:Nat) (r0:Rt) (K:List Fm):∀ c:Nat,Nat.ble c 10=true→rbRA s p f g h h2 sv1 C n b o r m d r0 K 10 c=rbRB s p f g h h2 sv1 C n b o r m d r0 K 10 c
 |0,_=>by kernel_rfl
 |1,_=>by kernel_rfl
 |2,_=>by kernel_rfl
 |3,_=>by kernel_rfl
 |4,_=>by kernel_rfl
 |5,_=>by kernel_rfl
 |6,_=>by kernel_rfl
 |7,_=>by kernel_rfl
 |8,_=>by kernel_rfl
 |9,_=>by kernel_rfl
 |10,_=>by kernel_rfl
 |c+11,h=>absurd (Nat.le_of_ble_eq_true h) (by omega)
theorem rbR11 (s:tS.den) (p:(Ty.sl tO).den) (f g h:Nat→AO) (h2:AO) (sv1:AV) (C:List AV) (n:Nat) (b:tB.den) (o r m:Int) (d:Nat) (r0:Rt) (K:List Fm):∀ c:Nat,Nat.ble c 9=true→rbRA s p f g h h2 sv1 C n b o r m d r0 K 11 c=rbRB s p f g h h2 sv1 C n b o r m d r0 K 11 c
 |0,_=>by kernel_rfl
 |1,_=>by kernel_rfl
 |2,_=>by kernel_rfl
 |3,_=>by kernel_rfl
 |4,_=>by kernel_rfl
 |5,_=>by kernel_rfl
 |6,_=>by kernel_rfl
 |7,_=>by kernel_rfl
 |8,_=>by kernel_rfl
 |9,_=>by kernel_rfl
 |c+10,h=>absurd (Nat.le_of_ble_eq_true h) (by omega)
end Go.Proofs.Ytmpaifgmccdipaa


set_option maxRecDepth 100000
namespace Go.Proofs.Ytmpaifgmccdipaa
open Go Go.Eng
theorem rbR12 (s:tS.den) (p:(Ty.sl tO).den) (f g h:Nat→AO) (h2:AO) (sv1:AV) (C:List AV) (n:Nat) (b:tB.den) (o r m:Int) (d:Nat) (r0:Rt) (K:List Fm):∀ c:Nat,Nat.ble c 8=true→rbRA s p f g h h2 sv1 C n b o r m d r0 K 12 c=rbRB s p f g h h2 sv1 C n b o r m d r0 K 12 c
 |0,_=>by kernel_rfl
 |1,_=>by kernel_rfl
 |2,_=>by kernel_rfl
 |3,_=>by kernel_rfl
 |4,_=>by kernel_rfl
 |5,_=>by kernel_rfl
 |6,_=>by kernel_rfl
 |7,_=>by kernel_rfl
 |8,_=>by kernel_rfl
 |c+9,h=>absurd (Nat.le_of_ble_eq_true h) (by omega)
theorem rbR13 (s:tS.den) (p:(Ty.sl tO).den) (f g h:Nat→AO) (h2:AO) (sv1:AV) (C:List AV) (n:Nat) (b:tB.den) (o r m:Int) (d:Nat) (r0:Rt) (K:List Fm):∀ c:Nat,Nat.ble c 7=true→rbRA s p f g h h2 sv1 C n b o r m d r0 K 13 c=rbRB s p f g h h2 sv1 C n b o r m d r0 K 13 c
 |0,_=>by kernel_rfl
 |1,_=>by kernel_rfl
 |2,_=>by kernel_rfl
 |3,_=>by kernel_rfl
 |4,_=>by kernel_rfl
 |5,_=>by kernel_rfl
 |6,_=>by kernel_rfl
 |7,_=>by kernel_rfl
 |c+8,h=>absurd (Nat.le_of_ble_eq_true h) (by omega)
theorem rbR14 (s:tS.den) (p:(Ty.sl tO).den) (f g h:Nat→AO) (h2:AO) (sv1:AV) (C:List AV) (n:Nat) (b:tB.den) (o r m:Int) (d:Nat) (r0:Rt) (K:List Fm):∀ c:Nat,Nat.ble c 6=true→rbRA s p f g h h2 sv1 C n b o r m d r0 K 14 c=rbRB s p f g h h2 sv1 C n b o r m d r0 K 14 c
 |0,_=>by kernel_rfl
 |1,_=>by kernel_rfl
 |2,_=>by kernel_rfl
 |3,_=>by kernel_rfl
 |4,_=>by kernel_rfl
 |5,_=>by kernel_rfl
 |6,_=>by kernel_rfl
 |c+7,h=>absurd (Nat.le_of_ble_eq_true h) (by omega)
theorem rbR15 (s:tS.den) (p:(Ty.sl tO).den) (f g h:Nat→AO) (h2:AO) (sv1:AV) (C:List AV) (n:Nat) (b:tB.den) (o r m:Int) (d:Nat) (r0:Rt) (K:List Fm):∀ c:Nat,Nat.ble c 5=true→rbRA s p f g h h2 sv1 C n b o r m d r0 K 15 c=rbRB s p f g h h2 sv1 C n b o r m d r0 K 15 c
 |0,_=>by kernel_rfl
 |1,_=>by kernel_rfl
 |2,_=>by kernel_rfl
 |3,_=>by kernel_rfl
 |4,_=>by kernel_rfl
 |5,_=>by kernel_rfl
 |c+6,h=>absurd (Nat.le_of_ble_eq_true h) (by omega)
theorem rbR16 (s:tS.den) (p:(Ty.sl tO).den) (f g h:Nat→AO) (h2:AO) (sv1:AV) (C:List AV) (n:Nat) (b:tB.den) (o r m:Int) (d:Nat) (r0:Rt) (K:List Fm):∀ c:Nat,Nat.ble c 4=true→rbRA s p f g h h2 sv1 C n b o r m d r0 K 16 c=rbRB s p f g h h2 sv1 C n b o r m d r0 K 16 c
 |0,_=>by kernel_rfl
 |1,_=>by kernel_rfl
 |2,_=>by kernel_rfl
 |3,_=>by kernel_rfl
 |4,_=>by kernel_rfl
 |c+5,h=>absurd (Nat.le_of_ble_eq_true h) (by omega)
theorem rbR17 (s:tS.den) (p:(Ty.sl tO).den) (f g h:Nat→AO) (h2:AO) (sv1:AV) (C:List AV) (n:Nat) (b:tB.den) (o r m:Int) (d:Nat) (r0:Rt) (K:List Fm):∀ c:Nat,Nat.ble c 3=true→rbRA s p f g h h2 sv1 C n b o r m d r0 K 17 c=rbRB s p f g h h2 sv1 C n b o r m d r0 K 17 c
 |0,_=>by kernel_rfl
 |1,_=>by kernel_rfl
 |2,_=>by kernel_rfl
 |3,_=>by kernel_rfl
 |c+4,h=>absurd (Nat.le_of_ble_eq_true h) (by omega)
theorem rbR18 (s:tS.den) (p:(Ty.sl tO).den) (f g h:Nat→AO) (h2:AO) (sv1:AV) (C:List AV) (n:Nat) (b:tB.den) (o r m:Int) (d:Nat) (r0:Rt) (K:List Fm):∀ c:Nat,Nat.ble c 2=true→rbRA s p f g h h2 sv1 C n b o r m d r0 K 18 c=rbRB s p f g h h2 sv1 C n b o r m d r0 K 18 c
 |0,_=>by kernel_rfl
 |1,_=>by kernel_rfl
 |2,_=>by kernel_rfl
 |c+3,h=>absurd (Nat.le_of_ble_eq_true h) (by omega)
theorem rbR19 (s:tS.den) (p:(Ty.sl tO).den) (f g h:Nat→AO) (h2:AO) (sv1:AV) (C:List AV) (n:Nat) (b:tB.den) (o r m:Int) (d:Nat) (r0:Rt) (K:List Fm):∀ c:Nat,Nat.ble c 1=true→rbRA s p f g h h2 sv1 C n b o r m d r0 K 19 c=rbRB s p f g h h2 sv1 C n b o r m d r0 K 19 c
 |0,_=>by kernel_rfl
 |1,_=>by kernel_rfl
 |c+2,h=>absurd (Nat.le_of_ble_eq_true h) (by omega)
theorem rbR20 (s:tS.den) (p:(Ty.sl tO).den) (f g h:Nat→AO) (h2:AO) (sv1:AV) (C:List AV) (n:Nat) (b:tB.den) (o r m:Int) (d:Nat) (r0:Rt) (K:List Fm):∀ c:Nat,Nat.ble c 0=true→rbRA s p f g h h2 sv1 C n b o r m d r0 K 20 c=rbRB s p f g h h2 sv1 C n b o r m d r0 K 20 c
 |0,_=>by kernel_rfl
 |c+1,h=>absurd (Nat.le_of_ble_eq_true h) (by omega)
end Go.Proofs.Ytmpaifgmccdipaa


set_option maxRecDepth 100000
namespace Go.Proofs.Ytmpaifgmccdipaa
open Go Go.Eng
theorem enR (s:tS.den) (p:(Ty.sl tO).den) (f g h:Nat→AO) (h2:AO) (sv1:AV) (C:List AV) (n:Nat) (b:tB.den) (o r m:Int) (d:Nat) (r0:Rt) (K:List Fm):∀ a c:Nat,Nat.ble (a+c) 23=true→enRA s p f g h h2 sv1 C n b o r m d r0 K a c=enRB s p f g h h2 sv1 C n b o r m d r0 K a c
 |0,c,hh=>enR0 s p f g h h2 sv1 C n b o r m d r0 K c (Nat.ble_eq_true_of_le (by have:=Nat.le_of_ble_eq_true hh;omega))
 |1,c,hh=>enR1 s p f g h h2 sv1 C n b o r m d r0 K c (Nat.ble_eq_true_of_le (by have:=Nat.le_of_ble_eq_true hh;omega))
 |2,c,hh=>enR2 s p f g h h2 sv1 C n b o r m d r0 K c (Nat.ble_eq_true_of_le (by have:=Nat.le_of_ble_eq_true hh;omega))
 |3,c,hh=>enR3 s p f g h h2 sv1 C n b o r m d r0 K c (Nat.ble_eq_true_of_le (by have:=Nat.le_of_ble_eq_true hh;omega))
 |4,c,hh=>enR4 s p f g h h2 sv1 C n b o r m d r0 K c (Nat.ble_eq_true_of_le (by have:=Nat.le_of_ble_eq_true hh;omega))
 |5,c,hh=>enR5 s p f g h h2 sv1 C n b o r m d r0 K c (Nat.ble_eq_true_of_le (by have:=Nat.le_of_ble_eq_true hh;omega))
 |6,c,hh=>enR6 s p f g h h2 sv1 C n b o r m d r0 K c (Nat.ble_eq_true_of_le (by have:=Nat.le_of_ble_eq_true hh;omega))
 |7,c,hh=>enR7 s p f g h h2 sv1 C n b o r m d r0 K c (Nat.ble_eq_true_of_le (by have:=Nat.le_of_ble_eq_true hh;omega))
 |8,c,hh=>enR8 s p f g h h2 sv1 C n b o r m d r0 K c (Nat.ble_eq_true_of_le (by have:=Nat.le_of_ble_eq_true hh;omega))
 |9,c,hh=>enR9 s p f g h h2 sv1 C n b o r m d r0 K c (Nat.ble_eq_true_of_le (by have:=Nat.le_of_ble_eq_true hh;omega))
 |10,c,hh=>enR10 s p f g h h2 sv1 C n b o r m d r0 K c (Nat.ble_eq_true_of_le (by have:=Nat.le_of_ble_eq_true hh;omega))
 |11,c,hh=>enR11 s p f g h h2 sv1 C n b o r m d r0 K c (Nat.ble_eq_true_of_le (by have:=Nat.le_of_ble_eq_true hh;omega))
 |12,c,hh=>enR12 s p f g h h2 sv1 C n b o r m d r0 K c (Nat.ble_eq_true_of_le (by have:=Nat.le_of_ble_eq_true hh;omega))
 |13,c,hh=>enR13 s p f g h h2 sv1 C n b o r m d r0 K c (Nat.ble_eq_true_of_le (by have:=Nat.le_of_ble_eq_true hh;omega))
 |14,c,hh=>enR14 s p f g h h2 sv1 C n b o r m d r0 K c (Nat.ble_eq_true_of_le (by have:=Nat.le_of_ble_eq_true hh;omega))
 |15,c,hh=>enR15 s p f g h h2 sv1 C n b o r m d r0 K c (Nat.ble_eq_true_of_le (by have:=Nat.le_of_ble_eq_true hh;omega))
 |16,c,hh=>enR16 s p f g h h2 sv1 C n b o r m d r0 K c (Nat.ble_eq_true_of_le (by have:=Nat.le_of_ble_eq_true hh;omega))
 |17,c,hh=>enR17 s p f g h h2 sv1 C n b o r m d r0 K c (Nat.ble_eq_true_of_le (by have:=Nat.le_of_ble_eq_true hh;omega))
 |18,c,hh=>enR18 s p f g h h2 sv1 C n b o r m d r0 K c (Nat.ble_eq_true_of_le (by have:=Nat.le_of_ble_eq_true hh;omega))
 |19,c,hh=>enR19 s p f g h h2 sv1 C n b o r m d r0 K c (Nat.ble_eq_true_of_le (by have:=Nat.le_of_ble_eq_true hh;omega))
 |20,c,hh=>enR20 s p f g h h2 sv1 C n b o r m d r0 K c (Nat.ble_eq_true_of_le (by have:=Nat.le_of_ble_eq_true hh;omega))
 |21,c,hh=>enR21 s p f g h h2 sv1 C n b o r m d r0 K c (Nat.ble_eq_true_of_le (by have:=Nat.le_of_ble_eq_true hh;omega))
 |22,c,hh=>enR22 s p f g h h2 sv1 C n b o r m d r0 K c (Nat.ble_eq_true_of_le (by have:=Nat.le_of_ble_eq_true hh;omega))
 |23,c,hh=>enR23 s p f g h h2 sv1 C n b o r m d r0 K c (Nat.ble_eq_true_of_le (by have:=Nat.le_of_ble_eq_true hh;omega))
 |a+24,c,hh=>absurd (Nat.le_of_ble_eq_true hh) (by omega)
theorem raR (s:tS.den) (p:(Ty.sl tO).den) (f g h:Nat→AO) (h2:AO) (sv1:AV) (C:List AV) (n:Nat) (b:tB.den) (o r m:Int) (d:Nat) (r0:Rt) (K:List Fm):∀ a c:Nat,Nat.ble (a+c) 20=true→raRA s p f g h h2 sv1 C n b o r m d r0 K a c=raRB s p f g h h2 sv1 C n b o r m d r0 K a c
 |0,c,hh=>raR0 s p f g h h2 sv1 C n b o r m d r0 K c (Nat.ble_eq_true_of_le (by have:=Nat.le_of_ble_eq_true hh;omega))
 |1,c,hh=>raR1 s p f g h h2 sv1 C n b o r m d r0 K c (Nat.ble_eq_true_of_le (by have:=Nat.le_of_ble_eq_true hh;omega))
 |2,c,hh=>raR2 s p f g h h2 sv1 C n b o r m d r0 K c (Nat.ble_eq_true_of_le (by have:=Nat.le_of_ble_eq_true hh;omega))
 |3,c,hh=>raR3 s p f g h h2 sv1 C n b o r m d r0 K c (Nat.ble_eq_true_of_le (by have:=Nat.le_of_ble_eq_true hh;omega))
 |4,c,hh=>raR4 s p f g h h2 sv1 C n b o r m d r0 K c (Nat.ble_eq_true_of_le (by have:=Nat.le_of_ble_eq_true hh;omega))
 |5,c,hh=>raR5 s p f g h h2 sv1 C n b o r m d r0 K c (Nat.ble_eq_true_of_le (by have:=Nat.le_of_ble_eq_true hh;omega))
 |6,c,hh=>raR6 s p f g h h2 sv1 C n b o r m d r0 K c (Nat.ble_eq_true_of_le (by have:=Nat.le_of_ble_eq_true hh;omega))
 |7,c,hh=>raR7 s p f g h h2 sv1 C n b o r m d r0 K c (Nat.ble_eq_true_of_le (by have:=Nat.le_of_ble_eq_true hh;omega))
 |8,c,hh=>raR8 s p f g h h2 sv1 C n b o r m d r0 K c (Nat.ble_eq_true_of_le (by have:=Nat.le_of_ble_eq_true hh;omega))
 |9,c,hh=>raR9 s p f g h h2 sv1 C n b o r m d r0 K c (Nat.ble_eq_true_of_le (by have:=Nat.le_of_ble_eq_true hh;omega))
 |10,c,hh=>raR10 s p f g h h2 sv1 C n b o r m d r0 K c (Nat.ble_eq_true_of_le (by have:=Nat.le_of_ble_eq_true hh;omega))
 |11,c,hh=>raR11 s p f g h h2 sv1 C n b o r m d r0 K c (Nat.ble_eq_true_of_le (by have:=Nat.le_of_ble_eq_true hh;omega))
 |12,c,hh=>raR12 s p f g h h2 sv1 C n b o r m d r0 K c (Nat.ble_eq_true_of_le (by have:=Nat.le_of_ble_eq_true hh;omega))
 |13,c,hh=>raR13 s p f g h h2 sv1 C n b o r m d r0 K c (Nat.ble_eq_true_of_le (by have:=Nat.le_of_ble_eq_true hh;omega))
 |14,c,hh=>raR14 s p f g h h2 sv1 C n b o r m d r0 K c (Nat.ble_eq_true_of_le (by have:=Nat.le_of_ble_eq_true hh;omega))
 |15,c,hh=>raR15 s p f g h h2 sv1 C n b o r m d r0 K c (Nat.ble_eq_true_of_le (by have:=Nat.le_of_ble_eq_true hh;omega))
 |16,c,hh=>raR16 s p f g h h2 sv1 C n b o r m d r0 K c (Nat.ble_eq_true_of_le (by have:=Nat.le_of_ble_eq_true hh;omega))
 |17,c,hh=>raR17 s p f g h h2 sv1 C n b o r m d r0 K c (Nat.ble_eq_true_of_le (by have:=Nat.le_of_ble_eq_true hh;omega))
 |18,c,hh=>raR18 s p f g h h2 sv1 C n b o r m d r0 K c (Nat.ble_eq_true_of_le (by have:=Nat.le_of_ble_eq_true hh;omega))
 |19,c,hh=>raR19 s p f g h h2 sv1 C n b o r m d r0 K c (Nat.ble_eq_true_of_le (by have:=Nat.le_of_ble_eq_true hh;omega))
 |20,c,hh=>raR20 s p f g h h2 sv1 C n b o r m d r0 K c (Nat.ble_eq_true_of_le (by have:=Nat.le_of_ble_eq_true hh;omega))
 |a+21,c,hh=>absurd (Nat.le_of_ble_eq_true hh) (by omega)
theorem rbR (s:tS.den) (p:(Ty.sl tO).den) (f g h:Nat→AO) (h2:AO) (sv1:AV) (C:List AV) (n:Nat) (b:tB.den) (o r m:Int) (d:Nat) (r0:Rt) (K:List Fm):∀ a c:Nat,Nat.ble (a+c) 20=true→rbRA s p f g h h2 sv1 C n b o r m d r0 K a c=rbRB s p f g h h2 sv1 C n b o r m d r0 K a c
 |0,c,hh=>rbR0 s p f g h h2 sv1 C n b o r m d r0 K c (Nat.ble_eq_true_of_le (by have:=Nat.le_of_ble_eq_true hh;omega))
 |1,c,hh=>rbR1 s p f g h h2 sv1 C n b o r m d r0 K c (Nat.ble_eq_true_of_le (by have:=Nat.le_of_ble_eq_true hh;omega))
 |2,c,hh=>rbR2 s p f g h h2 sv1 C n b o r m d r0 K c (Nat.ble_eq_true_of_le (by have:=Nat.le_of_ble_eq_true hh;omega))
 |3,c,hh=>rbR3 s p f g h h2 sv1 C n b o r m d r0 K c (Nat.ble_eq_true_of_le (by have:=Nat.le_of_ble_eq_true hh;omega))
 |4,c,hh=>rbR4 s p f g h h2 sv1 C n b o r m d r0 K c (Nat.ble_eq_true_of_le (by have:=Nat.le_of_ble_eq_true hh;omega))
 |5,c,hh=>rbR5 s p f g h h2 sv1 C n b o r m d r0 K c (Nat.ble_eq_true_of_le (by have:=Nat.le_of_ble_eq_true hh;omega))
 |6,c,hh=>rbR6 s p f g h h2 sv1 C n b o r m d r0 K c (Nat.ble_eq_true_of_le (by have:=Nat.le_of_ble_eq_true hh;omega))
 |7,c,hh=>rbR7 s p f g h h2 sv1 C n b o r m d r0 K c (Nat.ble_eq_true_of_le (by have:=Nat.le_of_ble_eq_true hh;omega))
 |8,c,hh=>rbR8 s p f g h h2 sv1 C n b o r m d r0 K c (Nat.ble_eq_true_of_le (by have:=Nat.le_of_ble_eq_true hh;omega))
 |9,c,hh=>rbR9 s p f g h h2 sv1 C n b o r m d r0 K c (Nat.ble_eq_true_of_le (by have:=Nat.le_of_ble_eq_true hh;omega))
 |10,c,hh=>rbR10 s p f g h h2 sv1 C n b o r m d r0 K c (Nat.ble_eq_true_of_le (by have:=Nat.le_of_ble_eq_true hh;omega))
 |11,c,hh=>rbR11 s p f g h h2 sv1 C n b o r m d r0 K c (Nat.ble_eq_true_of_le (by have:=Nat.le_of_ble_eq_true hh;omega))
 |12,c,hh=>rbR12 s p f g h h2 sv1 C n b o r m d r0 K c (Nat.ble_eq_true_of_le (by have:=Nat.le_of_ble_eq_true hh;omega))
 |13,c,hh=>rbR13 s p f g h h2 sv1 C n b o r m d r0 K c (Nat.ble_eq_true_of_le (by have:=Nat.le_of_ble_eq_true hh;omega))
 |14,c,hh=>rbR14 s p f g h h2 sv1 C n b o r m d r0 K c (Nat.ble_eq_true_of_le (by have:=Nat.le_of_ble_eq_true hh;omega))
 |15,c,hh=>rbR15 s p f g h h2 sv1 C n b o r m d r0 K c (Nat.ble_eq_true_of_le (by have:=Nat.le_of_ble_eq_true hh;omega))
 |16,c,hh=>rbR16 s p f g h h2 sv1 C n b o r m d r0 K c (Nat.ble_eq_true_of_le (by have:=Nat.le_of_ble_eq_true hh;omega))
 |17,c,hh=>rbR17 s p f g h h2 sv1 C n b o r m d r0 K c (Nat.ble_eq_true_of_le (by have:=Nat.le_of_ble_eq_true hh;omega))
 |18,c,hh=>rbR18 s p f g h h2 sv1 C n b o r m d r0 K c (Nat.ble_eq_true_of_le (by have:=Nat.le_of_ble_eq_true hh;omega))
 |19,c,hh=>rbR19 s p f g h h2 sv1 C n b o r m d r0 K c (Nat.ble_eq_true_of_le (by have:=Nat.le_of_ble_eq_true hh;omega))
 |20,c,hh=>rbR20 s p f g h h2 sv1 C n b o r m d r0 K c (Nat.ble_eq_true_of_le (by have:=Nat.le_of_ble_eq_true hh;omega))
 |a+21,c,hh=>absurd (Nat.le_of_ble_eq_true hh) (by omega)
end Go.Proofs.Ytmpaifgmccdipaa


set_option maxRecDepth 100000
namespace Go.Proofs.Ytmpaifgmccdipaa
open Go Go.Eng
noncomputable def wayV (x:tX.den) (b:tB.den):tW.den:=((noI (indV b),indV b),(breT x b).1,(breT x b).2.1,())
noncomputable def alwV (x:tX.den):Nat→tB.den→Int→Int→List tW.den
 |0,b,_,_=>bif (breT x b).2.2 then [wayV x b] else []
 |k+1,b,r,m=>alwV x k b 0 m++(bif ieq m 0 then [] else bif ile (rowX x) r then [] else alwV x k (setF b ((olX x:Int)-((k+1:Nat):Int))) (r+1) (m-1))
theorem mkL_of:∀ (l:List AO) (k:Nat) (f:Nat→AO),(∀ i,f (k+i)=l.getD i .gone)→mkL f k l.length=l
 |[],_,_,_=>rfl
 |o::l,k,f,h=>by
  show f k::mkL f (k+1) l.length=o::l
  rw[show f k=o from h 0,mkL_of l (k+1) f (fun i=>by rw[show k+1+i=k+(i+1) by omega];exact h (i+1))]
theorem mkL_get (l:List AO):mkL (fun i=>l.getD i .gone) 0 l.length=l:=mkL_of l 0 _ (fun i=>by rw[Nat.zero_add])
theorem flatW_len (L:List tW.den):(flat tW L).length=L.length * 3:=by rw[flat_length];rfl
theorem flatW_pl:∀ L:List tW.den,plainL (flat tW L)=true
 |[]=>rfl
 |w::L=>by rw[flat_cons];exact flatW_pl L
theorem rowW_pl (L:List tW.den):plO (rowO (flat tW L))=true:=flatW_pl L
theorem flatW_one (x:tX.den) (b:tB.den) (h:(breT x b).2.2=true):wC x b=flat tW [wayV x b]:=by
 unfold wC
 rw[h]
 rfl
theorem flatW_add (x:tX.den) (b:tB.den) (h:(breT x b).2.2=true) (L:List tW.den):flat tW L++wC x b=flat tW (L++[wayV x b]):=by
 rw[flat_append]
 unfold wC
 rw[h]
 rfl
inductive RS where
 |no (l:List AO)
 |row (l1 l2:List AO)
noncomputable def RS.os:RS→List AV→List AO
 |.no l,_=>l
 |.row l1 l2,C=>l1++(rowO C::l2)
noncomputable def RS.sv:RS→Nat→AV
 |.no _,_=>.nils
 |.row l1 _,n=>svC (16+l1.length) n
noncomputable def RS.gon:RS→List AO
 |.no l=>l
 |.row l1 l2=>l1++(.gone::l2)
noncomputable def RS.push:RS→AO→RS
 |.no l,q=>.no (l++[q])
 |.row l1 l2,q=>.row l1 (l2++[q])
noncomputable def RS.len:RS→Nat
 |.no l=>l.length
 |.row l1 l2=>l1.length+1+l2.length
def RS.ok:RS→List tW.den→Prop
 |.no l,L=>L=[]∧∀ o∈l,plO o=true
 |.row l1 l2,_=>(∀ o∈l1,plO o=true)∧∀ o∈l2,plO o=true
noncomputable def RS.nxt (st:RS):List tW.den→RS
 |[]=>st
 |_::_=>.row st.gon []
theorem RS.gon_len (st:RS):st.gon.length=st.len:=by
 cases st with
 |no l=>rfl
 |row l1 l2=>show (l1++(AO.gone::l2)).length=l1.length+1+l2.length;rw[List.length_append,List.length_cons];omega
theorem RS.os_len (st:RS) (C:List AV):(st.os C).length=st.len:=by
 cases st with
 |no l=>rfl
 |row l1 l2=>show (l1++(rowO C::l2)).length=l1.length+1+l2.length;rw[List.length_append,List.length_cons];omega
theorem RS.push_len (st:RS) (q:AO):(st.push q).len=st.len+1:=by
 cases st with
 |no l=>show (l++[q]).length=_;rw[List.length_append];rfl
 |row l1 l2=>show l1.length+1+(l2++[q]).length=l1.length+1+l2.length+1;rw[List.length_append];rfl
theorem RS.push_gon (st:RS) (q:AO):(st.push q).gon=st.gon++[q]:=by
 cases st with
 |no l=>rfl
 |row l1 l2=>show l1++(AO.gone::(l2++[q]))=l1++(AO.gone::l2)++[q];simp
theorem RS.push_os (st:RS) (q:AO) (C:List AV):(st.push q).os C=st.os C++[q]:=by
 cases st with
 |no l=>rfl
 |row l1 l2=>show l1++(rowO C::(l2++[q]))=l1++(rowO C::l2)++[q];simp
theorem RS.push_sv (st:RS) (q:AO) (n:Nat):(st.push q).sv n=st.sv n:=by
 cases st<;>rfl
theorem RS.push_ok {st:RS} {q:AO} {L:List tW.den} (h:st.ok L) (hq:plO q=true):(st.push q).ok L:=by
 cases st with
 |no l=>exact⟨h.1,pl_one h.2 hq⟩
 |row l1 l2=>exact⟨h.1,pl_one h.2 hq⟩
theorem RS.gon_pl {st:RS} {L:List tW.den} (h:st.ok L):∀ o∈st.gon,plO o=true:=by
 cases st with
 |no l=>exact h.2
 |row l1 l2=>
  intro o ho
  rcases List.mem_append.1 ho with ho|ho
  · exact h.1 o ho
  · rcases List.mem_cons.1 ho with rfl | ho
    · rfl
    · exact h.2 o ho
theorem RS.os_pl {st:RS} {L:List tW.den} (h:st.ok L):∀ o∈st.os (flat tW L),plO o=true:=by
 cases st with
 |no l=>exact h.2
 |row l1 l2=>
  intro o ho
  rcases List.mem_append.1 ho with ho|ho
  · exact h.1 o ho
  · rcases List.mem_cons.1 ho with rfl | ho
    · exact rowW_pl L
    · exact h.2 o ho
theorem RS.nxt_ok {st:RS} {L:List tW.den} (h:st.ok L) (A:List tW.den):(st.nxt A).ok (L++A):=by
 cases A with
 |nil=>rw[List.append_nil];exact h
 |cons a A=>exact⟨RS.gon_pl h,fun _ h=>by cases h⟩
theorem RS.nxt_len (st:RS) (A:List tW.den):(st.nxt A).len≤st.len+1:=by
 cases A with
 |nil=>exact Nat.le_succ _
 |cons a A=>show st.gon.length+1+0≤_;rw[RS.gon_len];omega
theorem goC {n:Nat} {c c':Cfg} (h:adv C2 SC n c=some (.stop c')):Goto C2 c c':=adv_spec SC_ok C2sy h
theorem vlC_dn {s:tS.den} {p:(Ty.sl tO).den} {sv:AV} {N:Nat} {os:List AO} {d d':Nat} {r0:Rt} {K:List Fm}:Goto C2 (vlC s p sv N os d (.dn r0) K) (vlC s p sv N os d' r0 K):=fun _ h=>h
theorem vlC_d {s:tS.den} {p:(Ty.sl tO).den} {sv:AV} {N:Nat} {os:List AO} {d d':Nat} {r0:Rt} {K:List Fm}:Goto C2 (vlC s p sv N os d r0 K) (vlC s p sv N os d' r0 K):=fun _ h=>h
theorem allO_two {l1 l2:List AO} {q:AO} {k:Option Out} (h1:∀ o∈l1,plO o=true) (h2:∀ o∈l2,plO o=true) (hq:plO q=true):allO (l1++(l2++[q])) k=k:=allO_of (fun o ho=>by
 rcases List.mem_append.1 ho with ho|ho
 · exact h1 o ho
 · exact pl_one h2 hq o ho)
attribute [local irreducible] vlC entC adv
section
variable {s:tS.den} {p:(Ty.sl tO).den} {b:tB.den} {o r m:Int} {d:Nat} {r0:Rt} {K:List Fm}
def ColG (s:tS.den) (p:(Ty.sl tO).den) (st:RS) (L A:List tW.den) (b:tB.den) (o r m:Int) (d:Nat) (r0:Rt) (K:List Fm):Prop:=
 Goto C2 (entC s p (st.sv L.length) (16+st.len) (st.os (flat tW L)) b o r m d r0 K) (vlC s p ((st.nxt A).sv (L++A).length) (16+(st.nxt A).len) ((st.nxt A).os (flat tW (L++A))) 0 r0 K)
theorem col_leaf (X:xokB (xSP s p)=true) (ho:ieq o (Int.ofNat (xSP s p).2.1.2.length)=true) {st:RS} {L:List tW.den} (h:st.ok L) (hl:st.len≤24) (hL:L.length≤1000000) :
  ColG s p st L (alwV (xSP s p) 0 b r m) b o r m (Nat.succ (Nat.succ (Nat.succ d))) r0 K:=by
 have eA:alwV (xSP s p) 0 b r m=bif (breT (xSP s p) b).2.2 then [wayV (xSP s p) b] else []:=rfl
 rw[eA]
 unfold ColG
 cases st with
 | no l =>
  obtain⟨rfl,hp⟩:=h
  have q:=enN s p (fun i=>l.getD i .gone) (fun _=>.gone) (fun _=>.gone) .gone .nils [] 0 b o r m d r0 K l.length (Nat.ble_eq_true_of_le hl)
  rw[mkL_get,ho,X,cond_true,cond_true] at q
  cases c:(breT (xSP s p) b).2.2 with
  |true=>
   rw[c,cond_true,allO_of hp,show 17+l.length=16+(l.length+1+0) by omega,flatW_one _ _ c] at q
   exact (goC q).trans vlC_dn
  |false=>
   rw[c,cond_false,allO_of hp] at q
   exact (goC q).trans vlC_dn
 | row l1 l2 =>
  obtain⟨hp,hq⟩:=h
  have hl':l1.length+1+l2.length≤24:=hl
  have q:=enR s p (fun i=>l1.getD i .gone) (fun i=>l2.getD i .gone) (fun _=>.gone) .gone .nils (flat tW L) L.length b o r m d r0 K l1.length l2.length (Nat.ble_eq_true_of_le (by omega))
  unfold enRA enRB osR at q
  rw[mkL_get,mkL_get,ho,X,cond_true,cond_true,show 17+l1.length+l2.length=16+(l1.length+1+l2.length) by omega,show 18+l1.length+l2.length=16+(l1.length+1+l2.length+1+0) by omega] at q
  cases c:(breT (xSP s p) b).2.2 with
  | true =>
   rw[c,cond_true,flatW_add _ _ c,flatW_len,show (0+L.length * 3).beq (L.length * 3)=true by rw[Nat.zero_add];exact Nat.beq_refl _,Nat.ble_eq_true_of_le (show L.length≤1048576 by omega),cond_true,cond_true,allO_two hp hq (rowW_pl _)] at q
   rw[cond_true]
   show Goto C2 (entC s p (svC (16+l1.length) L.length) (16+(l1.length+1+l2.length)) (l1++(rowO (flat tW L)::l2)) b o r m d.succ.succ.succ r0 K) (vlC s p (svC (16+(l1++(AO.gone::l2)).length) (L++[wayV (xSP s p) b]).length) (16+((l1++(AO.gone::l2)).length+1+0)) ((l1++(AO.gone::l2))++(rowO (flat tW (L++[wayV (xSP s p) b]))::[])) 0 r0 K)
   rw[show (l1++(AO.gone::l2)).length=l1.length+1+l2.length by rw[List.length_append,List.length_cons];omega,show (L++[wayV (xSP s p) b]).length=L.length+1 by rw[List.length_append];rfl,
    show (l1++(AO.gone::l2))++(rowO (flat tW (L++[wayV (xSP s p) b]))::[])=l1++(AO.gone::(l2++[rowO (flat tW (L++[wayV (xSP s p) b]))])) by simp]
   exact (goC q).trans vlC_dn
  |false=>
   rw[c,cond_false,allO_of (os:=l1++(rowO (flat tW L)::l2)) (RS.os_pl (st:=.row l1 l2) (L:=L) ⟨hp,hq⟩)] at q
   rw[cond_false,List.append_nil]
   exact (goC q).trans vlC_dn
theorem col_in (ho:ieq o (Int.ofNat (xSP s p).2.1.2.length)=false) {st:RS} {L:List tW.den} (h:st.ok L) (hl:st.len≤24) :
  Goto C2 (entC s p (st.sv L.length) (16+st.len) (st.os (flat tW L)) b o r m (Nat.succ (Nat.succ (Nat.succ d))) r0 K)
   (entC s p ((st.push (celB b)).sv L.length) (16+(st.push (celB b)).len) ((st.push (celB b)).os (flat tW L)) b (wr .i64 (o+1)) 0 m (Nat.succ (Nat.succ d)) (rt1C s p (16+st.len) b o r m (Nat.succ (Nat.succ (Nat.succ d)))) (fr1C (16+st.len) r0 K)):=by
 rw[RS.push_len,RS.push_os,RS.push_sv]
 cases st with
 |no l=>
  obtain⟨rfl,hp⟩:=h
  have q:=enN s p (fun i=>l.getD i .gone) (fun _=>.gone) (fun _=>.gone) .gone .nils [] 0 b o r m d r0 K l.length (Nat.ble_eq_true_of_le hl)
  rw[mkL_get,ho,cond_false,show 17+l.length=16+(l.length+1) by omega] at q
  exact goC q
 |row l1 l2=>
  have hl':l1.length+1+l2.length≤24:=hl
  have q:=enR s p (fun i=>l1.getD i .gone) (fun i=>l2.getD i .gone) (fun _=>.gone) .gone .nils (flat tW L) L.length b o r m d r0 K l1.length l2.length (Nat.ble_eq_true_of_le (by omega))
  unfold enRA enRB osR at q
  rw[mkL_get,mkL_get,ho,cond_false,show 17+l1.length+l2.length=16+(l1.length+1+l2.length) by omega,show 18+l1.length+l2.length=16+(l1.length+1+l2.length+1) by omega] at q
  exact goC q
end
end Go.Proofs.Ytmpaifgmccdipaa


set_option maxRecDepth 100000
namespace Go.Proofs.Ytmpaifgmccdipaa
open Go Go.Eng
attribute [local irreducible] vlC entC adv rt1C rt2C fr1C fr2C
section
variable {s:tS.den} {p:(Ty.sl tO).den} {b:tB.den} {o r m:Int} {d:Nat} {r0:Rt} {K:List Fm}
theorem two_app {α:Type} (l:List α) (x y:α):l++[x]++(y::[])=l++[x,y]:=by simp
theorem col_ret1 {st:RS} {L:List tW.den} (A:List tW.den) (h:st.ok L) (hl:st.len≤21) :
  adv C2 SC 3000 (vlC s p (((st.push (celB b)).nxt A).sv (L++A).length) (16+((st.push (celB b)).nxt A).len) (((st.push (celB b)).nxt A).os (flat tW (L++A))) (Nat.succ (Nat.succ d)) (rt1C s p (16+st.len) b o r m (Nat.succ (Nat.succ (Nat.succ d)))) (fr1C (16+st.len) r0 K)) =
  (bif ieq m 0 then some (.stop (vlC s p ((st.nxt A).sv (L ++ A).length) (16 + (st.nxt A).len) ((st.nxt A).os (flat tW (L ++ A))) (Nat.succ (Nat.succ (Nat.succ d))) (.dn r0) K))
   else bif ile (rowX (xSP s p)) r then some (.stop (vlC s p ((st.nxt A).sv (L++A).length) (16+(st.nxt A).len) ((st.nxt A).os (flat tW (L++A))) (Nat.succ (Nat.succ (Nat.succ d))) (.dn r0) K))
   else bif inAll 8 [o] then some (.stop (entC s p ((((st.push (celB b)).nxt A).push (arO o)).sv (L++A).length) (16+(((st.push (celB b)).nxt A).push (arO o)).len) ((((st.push (celB b)).nxt A).push (arO o)).os (flat tW (L++A))) (setF b o) (wr .i64 (o+1)) (wr .i64 (r+1)) (wr .i64 (m-1)) (Nat.succ (Nat.succ d)) (rt2C s p (((st.push (celB b)).nxt A).sv (L++A).length) (((st.push (celB b)).nxt A).os (flat tW (L++A))) (16+st.len) (16+((st.push (celB b)).nxt A).len) b o r m (Nat.succ (Nat.succ (Nat.succ d)))) (fr2C (16+st.len) r0 K))) else none):=by
 cases A with
 | nil =>
  rw[List.append_nil]
  show adv C2 SC 3000 (vlC s p ((st.push (celB b)).sv L.length) (16+(st.push (celB b)).len) ((st.push (celB b)).os (flat tW L)) (Nat.succ (Nat.succ d)) (rt1C s p (16+st.len) b o r m (Nat.succ (Nat.succ (Nat.succ d)))) (fr1C (16+st.len) r0 K)) =
   (bif ieq m 0 then some (.stop (vlC s p (st.sv L.length) (16+st.len) (st.os (flat tW L)) (Nat.succ (Nat.succ (Nat.succ d))) (.dn r0) K))
   else bif ile (rowX (xSP s p)) r then some (.stop (vlC s p (st.sv L.length) (16+st.len) (st.os (flat tW L)) (Nat.succ (Nat.succ (Nat.succ d))) (.dn r0) K))
   else bif inAll 8 [o] then some (.stop (entC s p (((st.push (celB b)).push (arO o)).sv L.length) (16+((st.push (celB b)).push (arO o)).len) (((st.push (celB b)).push (arO o)).os (flat tW L)) (setF b o) (wr .i64 (o+1)) (wr .i64 (r+1)) (wr .i64 (m-1)) (Nat.succ (Nat.succ d)) (rt2C s p ((st.push (celB b)).sv L.length) ((st.push (celB b)).os (flat tW L)) (16+st.len) (16+(st.push (celB b)).len) b o r m (Nat.succ (Nat.succ (Nat.succ d)))) (fr2C (16+st.len) r0 K))) else none)
  simp only[RS.push_sv,RS.push_len,RS.push_os,List.append_assoc,List.cons_append,List.nil_append]
  cases st with
  |no l=>
   obtain⟨rfl,hp⟩:=h
   have q:=raN s p (fun i=>l.getD i .gone) (fun _=>.gone) (fun _=>.gone) .gone .nils [] 0 b o r m d r0 K l.length (Nat.ble_eq_true_of_le hl)
   rw[mkL_get,allO_of hp,show 17+l.length=16+(l.length+1) by omega,show 18+l.length=16+(l.length+1+1) by omega] at q
   exact q
  |row l1 l2=>
   have hl':l1.length+1+l2.length≤21:=hl
   have q:=raR s p (fun i=>l1.getD i .gone) (fun i=>l2.getD i .gone) (fun _=>.gone) .gone .nils (flat tW L) L.length b o r m d r0 K l1.length l2.length (Nat.ble_eq_true_of_le (by omega))
   unfold raRA raRB osR at q
   rw[mkL_get,mkL_get,allO_of (os:=l1++(rowO (flat tW L)::l2)) (RS.os_pl (st:=.row l1 l2) (L:=L) h),show 17+l1.length+l2.length=16+(l1.length+1+l2.length) by omega,show 18+l1.length+l2.length=16+(l1.length+1+l2.length+1) by omega,show 19+l1.length+l2.length=16+(l1.length+1+l2.length+1+1) by omega] at q
   exact q
 | cons a A =>
  have e0:(st.push (celB b)).nxt (a::A)=.row (st.gon++[celB b]) []:=by rw[← RS.push_gon];rfl
  have e1:st.nxt (a::A)=.row st.gon []:=rfl
  rw[e0,e1]
  generalize L++a::A=L1
  have hg:=RS.gon_pl h
  have hl2:st.gon.length≤21:=by rw[RS.gon_len];exact hl
  rw[← RS.gon_len st]
  generalize st.gon=l at hg hl2
  have q:=raC s p (fun i=>l.getD i .gone) (fun _=>.gone) (fun _=>.gone) .gone .nils (flat tW L1) L1.length b o r m d r0 K l.length (Nat.ble_eq_true_of_le hl2)
  rw[mkL_get,allO_of (pl_one hg (rowW_pl L1))] at q
  show adv C2 SC 3000 (vlC s p (svC (16+(l++[celB b]).length) L1.length) (16+((l++[celB b]).length+1+0)) (l++[celB b]++(rowO (flat tW L1)::[])) (Nat.succ (Nat.succ d)) (rt1C s p (16+l.length) b o r m (Nat.succ (Nat.succ (Nat.succ d)))) (fr1C (16+l.length) r0 K)) =
   (bif ieq m 0 then some (.stop (vlC s p (svC (16+l.length) L1.length) (16+(l.length+1+0)) (l++(rowO (flat tW L1)::[])) (Nat.succ (Nat.succ (Nat.succ d))) (.dn r0) K))
   else bif ile (rowX (xSP s p)) r then some (.stop (vlC s p (svC (16+l.length) L1.length) (16+(l.length+1+0)) (l++(rowO (flat tW L1)::[])) (Nat.succ (Nat.succ (Nat.succ d))) (.dn r0) K))
   else bif inAll 8 [o] then some (.stop (entC s p (svC (16+(l++[celB b]).length) L1.length) (16+((l++[celB b]).length+1+([]++[arO o]).length)) (l++[celB b]++(rowO (flat tW L1)::([]++[arO o]))) (setF b o) (wr .i64 (o+1)) (wr .i64 (r+1)) (wr .i64 (m-1)) (Nat.succ (Nat.succ d)) (rt2C s p (svC (16+(l++[celB b]).length) L1.length) (l++[celB b]++(rowO (flat tW L1)::[])) (16+l.length) (16+((l++[celB b]).length+1+0)) b o r m (Nat.succ (Nat.succ (Nat.succ d)))) (fr2C (16+l.length) r0 K))) else none)
  rw[show (l++[celB b]).length=l.length+1 by rw[List.length_append];rfl,show (([]:List AO)++[arO o]).length=1 from rfl,two_app,show l++[celB b]++(rowO (flat tW L1)::([]++[arO o]))=l++[celB b,rowO (flat tW L1),arO o] by simp,
   show 16+(l.length+1+1+1)=19+l.length by omega,show 16+(l.length+1+1+0)=18+l.length by omega,show 16+(l.length+1+0)=17+l.length by omega]
  exact q
theorem col_ret2 {st:RS} {L:List tW.den} (A B:List tW.den) (h:st.ok L) (hl:st.len≤21) :
  adv C2 SC 3000 (vlC s p (((((st.push (celB b)).nxt A).push (arO o)).nxt B).sv (L++A++B).length) (16+((((st.push (celB b)).nxt A).push (arO o)).nxt B).len) (((((st.push (celB b)).nxt A).push (arO o)).nxt B).os (flat tW (L++A++B))) (Nat.succ (Nat.succ d)) (rt2C s p (((st.push (celB b)).nxt A).sv (L++A).length) (((st.push (celB b)).nxt A).os (flat tW (L++A))) (16+st.len) (16+((st.push (celB b)).nxt A).len) b o r m (Nat.succ (Nat.succ (Nat.succ d)))) (fr2C (16+st.len) r0 K)) =
   some (.stop (vlC s p ((st.nxt (A++B)).sv (L++A++B).length) (16+(st.nxt (A++B)).len) ((st.nxt (A++B)).os (flat tW (L++A++B))) (Nat.succ (Nat.succ (Nat.succ d))) (.dn r0) K)):=by
 have hg:=RS.gon_pl h
 have hgl:=RS.gon_len st
 cases A with
 | nil =>
  cases B with
  | nil =>
   simp only[List.append_nil]
   show adv C2 SC 3000 (vlC s p (((st.push (celB b)).push (arO o)).sv L.length) (16+((st.push (celB b)).push (arO o)).len) (((st.push (celB b)).push (arO o)).os (flat tW L)) (Nat.succ (Nat.succ d)) (rt2C s p ((st.push (celB b)).sv L.length) ((st.push (celB b)).os (flat tW L)) (16+st.len) (16+(st.push (celB b)).len) b o r m (Nat.succ (Nat.succ (Nat.succ d)))) (fr2C (16+st.len) r0 K)) =
    some (.stop (vlC s p (st.sv L.length) (16+st.len) (st.os (flat tW L)) (Nat.succ (Nat.succ (Nat.succ d))) (.dn r0) K))
   simp only[RS.push_sv,RS.push_len,RS.push_os,List.append_assoc,List.cons_append,List.nil_append]
   cases st with
   |no l=>
    obtain⟨rfl,hp⟩:=h
    have q:=rbN s p (fun i=>l.getD i .gone) (fun _=>.gone) (fun i=>l.getD i .gone) .gone .nils [] 0 b o r m d r0 K l.length (Nat.ble_eq_true_of_le hl)
    rw[mkL_get,eqB_of,allO_of hp,show 17+l.length=16+(l.length+1) by omega,show 18+l.length=16+(l.length+1+1) by omega] at q
    exact q
   |row l1 l2=>
    have hl':l1.length+1+l2.length≤21:=hl
    have q:=rbR s p (fun i=>l1.getD i .gone) (fun i=>l2.getD i .gone) (fun i=>(l1++(rowO (flat tW L)::l2)).getD i .gone) .gone (svC (16+l1.length) L.length) (flat tW L) L.length b o r m d r0 K l1.length l2.length (Nat.ble_eq_true_of_le (by omega))
    unfold rbRA rbRB osR at q
    have e:l1.length+1+l2.length=(l1++(rowO (flat tW L)::l2)).length:=by rw[List.length_append,List.length_cons];omega
    rw[e,mkL_get,mkL_get,mkL_get,eqB_of,allO_of (os:=l1++(rowO (flat tW L)::l2)) (RS.os_pl (st:=.row l1 l2) (L:=L) h),show 17+l1.length+l2.length=16+(l1.length+1+l2.length) by omega,show 18+l1.length+l2.length=16+(l1.length+1+l2.length+1) by omega,show 19+l1.length+l2.length=16+(l1.length+1+l2.length+1+1) by omega] at q
    exact q
  | cons a B =>
   have e0:(((st.push (celB b)).nxt []).push (arO o)).nxt (a::B)=.row (st.gon++[celB b]++[arO o]) []:=by
    show RS.row ((st.push (celB b)).push (arO o)).gon []=_
    rw[RS.push_gon,RS.push_gon]
   have e1:st.nxt ([]++a::B)=.row st.gon []:=rfl
   have e2:(st.push (celB b)).nxt []=st.push (celB b):=rfl
   rw[e0,e1,e2,RS.push_sv,RS.push_os,RS.push_len,List.append_nil]
   have ho:(st.os (flat tW L)).length=st.gon.length:=by rw[RS.os_len,RS.gon_len]
   rw[← hgl]
   have hl2:st.gon.length≤21:=by rw[hgl];exact hl
   generalize st.gon=l at hg hl2 ho
   generalize st.os (flat tW L)=l0 at ho
   generalize st.sv L.length=v0
   generalize L++a::B=L1
   have q:=rbC s p (fun i=>l.getD i .gone) (fun _=>.gone) (fun i=>l0.getD i .gone) .gone v0 (flat tW L1) L1.length b o r m d r0 K l.length (Nat.ble_eq_true_of_le hl2)
   have eh:mkL (fun i=>l0.getD i .gone) 0 l.length=l0:=by rw[← ho];exact mkL_get l0
   rw[mkL_get,eh,eqB_of,allO_of (pl_one hg (rowW_pl L1))] at q
   show adv C2 SC 3000 (vlC s p (svC (16+(l++[celB b]++[arO o]).length) L1.length) (16+((l++[celB b]++[arO o]).length+1+0)) (l++[celB b]++[arO o]++(rowO (flat tW L1)::[])) (Nat.succ (Nat.succ d)) (rt2C s p v0 (l0++[celB b]) (16+l.length) (16+(l.length+1)) b o r m (Nat.succ (Nat.succ (Nat.succ d)))) (fr2C (16+l.length) r0 K)) =
    some (.stop (vlC s p (svC (16+l.length) L1.length) (16+(l.length+1+0)) (l++(rowO (flat tW L1)::[])) (Nat.succ (Nat.succ (Nat.succ d))) (.dn r0) K))
   rw[show (l++[celB b]++[arO o]).length=l.length+2 by simp,show l++[celB b]++[arO o]++(rowO (flat tW L1)::[])=l++[celB b,arO o,rowO (flat tW L1)] by simp,show 16+(l.length+2)=18+l.length by omega,show 16+(l.length+2+1+0)=19+l.length by omega,show 16+(l.length+1+0)=17+l.length by omega]
   exact q
 | cons a A =>
  have e0:(st.push (celB b)).nxt (a::A)=.row (st.gon++[celB b]) []:=by rw[← RS.push_gon];rfl
  have hl2:st.gon.length≤21:=by rw[hgl];exact hl
  have e1:st.nxt (a::A++B)=.row st.gon []:=rfl
  rw[e0,e1,← hgl]
  generalize st.gon=l at hg hl2
  cases B with
  | nil =>
   rw[List.append_nil]
   generalize L++a::A=L1
   have q:=rcU s p (fun i=>l.getD i .gone) (fun _=>.gone) (fun i=>l.getD i .gone) (rowO (flat tW L1)) (svC (17+l.length) L1.length) (flat tW L1) L1.length b o r m d r0 K l.length (Nat.ble_eq_true_of_le hl2)
   rw[mkL_get,eqB_of,allO_of (pl_one hg (rowW_pl L1))] at q
   show adv C2 SC 3000 (vlC s p (svC (16+(l++[celB b]).length) L1.length) (16+((l++[celB b]).length+1+(([]:List AO)++[arO o]).length)) (l++[celB b]++(rowO (flat tW L1)::([]++[arO o]))) (Nat.succ (Nat.succ d)) (rt2C s p (svC (16+(l++[celB b]).length) L1.length) (l++[celB b]++(rowO (flat tW L1)::[])) (16+l.length) (16+((l++[celB b]).length+1+0)) b o r m (Nat.succ (Nat.succ (Nat.succ d)))) (fr2C (16+l.length) r0 K)) =
    some (.stop (vlC s p (svC (16+l.length) L1.length) (16+(l.length+1+0)) (l++(rowO (flat tW L1)::[])) (Nat.succ (Nat.succ (Nat.succ d))) (.dn r0) K))
   rw[show (l++[celB b]).length=l.length+1 by rw[List.length_append];rfl,show (([]:List AO)++[arO o]).length=1 from rfl,two_app,show l++[celB b]++(rowO (flat tW L1)::([]++[arO o]))=l++[celB b,rowO (flat tW L1),arO o] by simp,
    show 16+(l.length+1+1+1)=19+l.length by omega,show 16+(l.length+1+1+0)=18+l.length by omega,show 16+(l.length+1+0)=17+l.length by omega]
   exact q
  | cons c B =>
   generalize L++a::A=L1
   generalize L1++c::B=L2
   have q:=rcC s p (fun i=>l.getD i .gone) (fun _=>.gone) (fun i=>l.getD i .gone) (rowO (flat tW L1)) (svC (17+l.length) L1.length) (flat tW L2) L2.length b o r m d r0 K l.length (Nat.ble_eq_true_of_le hl2)
   rw[mkL_get,eqB_of,allO_of (pl_one hg (rowW_pl L2))] at q
   show adv C2 SC 3000 (vlC s p (svC (16+(l++[celB b]++(AO.gone::([]++[arO o]))).length) L2.length) (16+((l++[celB b]++(AO.gone::([]++[arO o]))).length+1+0)) (l++[celB b]++(AO.gone::([]++[arO o]))++(rowO (flat tW L2)::[])) (Nat.succ (Nat.succ d)) (rt2C s p (svC (16+(l++[celB b]).length) L1.length) (l++[celB b]++(rowO (flat tW L1)::[])) (16+l.length) (16+((l++[celB b]).length+1+0)) b o r m (Nat.succ (Nat.succ (Nat.succ d)))) (fr2C (16+l.length) r0 K)) =
    some (.stop (vlC s p (svC (16+l.length) L2.length) (16+(l.length+1+0)) (l++(rowO (flat tW L2)::[])) (Nat.succ (Nat.succ (Nat.succ d))) (.dn r0) K))
   rw[show (l++[celB b]++(AO.gone::([]++[arO o]))).length=l.length+3 by simp,show (l++[celB b]).length=l.length+1 by rw[List.length_append];rfl,two_app,show l++[celB b]++(AO.gone::([]++[arO o]))++(rowO (flat tW L2)::[])=l++[celB b,.gone,arO o,rowO (flat tW L2)] by simp,
    show 16+(l.length+3+1+0)=20+l.length by omega,show 16+(l.length+3)=19+l.length by omega,show 16+(l.length+1+1+0)=18+l.length by omega,show 16+(l.length+1+0)=17+l.length by omega]
   exact q
end
end Go.Proofs.Ytmpaifgmccdipaa


set_option maxRecDepth 100000
namespace Go.Proofs.Ytmpaifgmccdipaa
open Go Go.Eng
attribute [local irreducible] vlC entC adv rt1C rt2C fr1C fr2C
theorem alw_len (x:tX.den):∀ (k:Nat) (b:tB.den) (r m:Int),(alwV x k b r m).length≤2 ^ k
 |0,b,r,m=>by
  have e:alwV x 0 b r m=bif (breT x b).2.2 then [wayV x b] else []:=rfl
  rw[e]
  cases (breT x b).2.2 with
  |true=>exact Nat.le_refl _
  |false=>exact Nat.zero_le _
 | k + 1, b, r, m => by
  have e:alwV x (k+1) b r m=alwV x k b 0 m++(bif ieq m 0 then [] else bif ile (rowX x) r then [] else alwV x k (setF b ((olX x:Int)-((k+1:Nat):Int))) (r+1) (m-1)):=rfl
  rw[e,List.length_append,Nat.pow_succ]
  have h1:=alw_len x k b 0 m
  have h2:=alw_len x k (setF b ((olX x:Int)-((k+1:Nat):Int))) (r+1) (m-1)
  cases ieq m 0 with
  |true=>simp only[cond_true,List.length_nil];omega
  |false=>
   cases ile (rowX x) r with
   |true=>simp only[cond_true,cond_false,List.length_nil];omega
   |false=>simp only[cond_false];omega
theorem col_go {s:tS.den} {p:(Ty.sl tO).den} (X:xokB (xSP s p)=true):∀ (k:Nat) (st:RS) (L:List tW.den) (b:tB.den) (r m:Int) (d:Nat) (r0:Rt) (K:List Fm),st.ok L→st.len+3 * k≤24→k≤olX (xSP s p)→L.length+2 ^ k≤1000000→0≤r→r+k≤1000000→-1000000≤m-k→m≤1000000→k+3≤d →
  ColG s p st L (alwV (xSP s p) k b r m) b ((olX (xSP s p):Int)-(k:Int)) r m d r0 K
 |0,st,L,b,r,m,d,r0,K,h0,h1,h2,h3,h4,h5,h6,h7,h8=>by
  obtain⟨d,rfl⟩:∃ d',d=Nat.succ (Nat.succ (Nat.succ d')):=⟨d-3,by omega⟩
  exact col_leaf X (by rw[ieq_iff];exact decide_eq_true (by show (olX (xSP s p):Int)-((0:Nat):Int)=(olX (xSP s p):Int);omega)) h0 (by omega) (by omega)
 | k + 1, st, L, b, r, m, d, r0, K, h0, h1, h2, h3, h4, h5, h6, h7, h8 => by
  obtain⟨d,rfl⟩:∃ d',d=Nat.succ (Nat.succ (Nat.succ d')):=⟨d-3,by omega⟩
  have hO:=(xok X).o
  have hp2:2 ^ (k+1)=2 ^ k * 2:=Nat.pow_succ ..
  generalize ho:(olX (xSP s p):Int)-((k+1:Nat):Int)=o
  have ho0:0≤o:=by omega
  have ho8:o<8:=by omega
  have g1:=col_in (s:=s) (p:=p) (b:=b) (o:=o) (r:=r) (m:=m) (d:=d) (r0:=r0) (K:=K) (by rw[ieq_iff];exact decide_eq_false (by show ¬ o=(olX (xSP s p):Int);omega)) h0 (by omega)
  rw[wr_in (show -9223372036854775808≤o+1 by omega) (by omega),show o+1=(olX (xSP s p):Int)-(k:Int) by omega] at g1
  have g2:=col_go X k (st.push (celB b)) L b 0 m (Nat.succ (Nat.succ d)) (rt1C s p (16+st.len) b o r m (Nat.succ (Nat.succ (Nat.succ d)))) (fr1C (16+st.len) r0 K) (RS.push_ok h0 (celB_pl b)) (by rw[RS.push_len];omega) (by omega) (by omega) (by omega) (by omega) (by omega) h7 (by omega)
  unfold ColG at g2⊢
  have g3:=(g1.trans g2).trans (vlC_d (d':=Nat.succ (Nat.succ d)))
  have e:alwV (xSP s p) (k+1) b r m=alwV (xSP s p) k b 0 m++(bif ieq m 0 then [] else bif ile (rowX (xSP s p)) r then [] else alwV (xSP s p) k (setF b o) (r+1) (m-1)):=by rw[← ho];rfl
  rw[e]
  have hA:=alw_len (xSP s p) k b 0 m
  generalize alwV (xSP s p) k b 0 m=A at g3 hA
  have q1:=col_ret1 (s:=s) (p:=p) (b:=b) (o:=o) (r:=r) (m:=m) (d:=d) (r0:=r0) (K:=K) A h0 (by omega)
  cases c1:ieq m 0 with
  |true=>
   rw[c1,cond_true] at q1
   rw[cond_true,List.append_nil]
   exact g3.trans ((goC q1).trans vlC_dn)
  |false=>
  rw[c1,cond_false] at q1
  rw[cond_false]
  cases c2:ile (rowX (xSP s p)) r with
  |true=>
   rw[c2,cond_true] at q1
   rw[cond_true,List.append_nil]
   exact g3.trans ((goC q1).trans vlC_dn)
  |false=>
  have h8':inAll 8 [o]=true:=by
   have:inB o 8=true:=by rw[inB_iff];exact decide_eq_true ⟨by omega,by omega⟩
   simp only[inAll,List.all_cons,List.all_nil,this,Bool.and_true]
  rw[c2,cond_false,h8',cond_true,wr_in (show -9223372036854775808≤o+1 by omega) (by omega),show o+1=(olX (xSP s p):Int)-(k:Int) by omega,wr_in (show -9223372036854775808≤r+1 by omega) (by omega),wr_in (show -9223372036854775808≤m-1 by omega) (by omega)] at q1
  rw[cond_false]
  have hl1:=RS.nxt_len (st.push (celB b)) A
  rw[RS.push_len] at hl1
  have g4:=col_go X k (((st.push (celB b)).nxt A).push (arO o)) (L++A) (setF b o) (r+1) (m-1) (Nat.succ (Nat.succ d)) (rt2C s p (((st.push (celB b)).nxt A).sv (L++A).length) (((st.push (celB b)).nxt A).os (flat tW (L++A))) (16+st.len) (16+((st.push (celB b)).nxt A).len) b o r m (Nat.succ (Nat.succ (Nat.succ d)))) (fr2C (16+st.len) r0 K)
   (RS.push_ok (RS.nxt_ok (RS.push_ok h0 (celB_pl b)) A) (arO_pl o)) (by rw[RS.push_len];omega) (by omega) (by rw[List.length_append];omega) (by omega) (by omega) (by omega) (by omega) (by omega)
  unfold ColG at g4
  generalize alwV (xSP s p) k (setF b o) (r+1) (m-1)=B at g4
  have q2:=col_ret2 (s:=s) (p:=p) (b:=b) (o:=o) (r:=r) (m:=m) (d:=d) (r0:=r0) (K:=K) A B h0 (by omega)
  rw[← List.append_assoc]
  exact (((g3.trans (goC q1)).trans g4).trans (vlC_d (d':=Nat.succ (Nat.succ d)))).trans ((goC q2).trans vlC_dn)
end Go.Proofs.Ytmpaifgmccdipaa


set_option maxRecDepth 100000
namespace Go.Proofs.Ytmpaifgmccdipaa
open Go Go.Eng
noncomputable def brkI1 (s:tS.den) (p:(Ty.sl tO).den):Cfg:=⟨.ex (pcOf C2 60 []) ⟨(tmOf 52 [(0,(.agg [(.bool (false)),(.bool (false)),(.bool (false)),(.bool (false)),(.bool (false)),(.bool (false)),(.bool (false)),(.bool (false))])),(1,(.int .i64 (0))),(2,(.int .i64 (0))),(3,(.int .i64 (s.2.2.2.1))),(4,(.ptr 8 0)),(5,(.ptr 12 0)),(6,(.ptr 13 0))]),(hpOf 15 [(0,(.cells false [(.int .i64 (s.1)),(.vs tN (s.2.1.1) (s.2.1.2)),(.int .i64 (s.2.2.1)),(.int .i64 (s.2.2.2.1)),(.int .i64 (s.2.2.2.2.1)),(.vs tI (s.2.2.2.2.2.1.1) (s.2.2.2.2.2.1.2))])),(1,(.cells false [(.int .i64 (s.1)),(.vs tN (s.2.1.1) (s.2.1.2)),(.int .i64 (s.2.2.1)),(.int .i64 (s.2.2.2.1)),(.int .i64 (s.2.2.2.2.1)),(.vs tI (s.2.2.2.2.2.1.1) (s.2.2.2.2.2.1.2))])),(2,(.cells false [.nilp])),(3,(.cells false [.nils])),(4,(.cells false [(.int .i64 (s.2.2.2.1))])),(5,(.cells false [.nils])),(7,(.cells false [(.yld 6)])),(8,(.cells false [.nilp])),(9,(.cells false [.nils])),(10,(.cells false [(.int .i64 (s.2.2.2.1))])),(12,(.cells false [(.yld 11)])),(13,(.cells false [(.fn 60 [] [(.ptr 8 0),(.ptr 12 0),(.ptr 13 0)])])),(14,(.cells false [(.bool (false)),(.bool (false)),(.bool (false)),(.bool (false)),(.bool (false)),(.bool (false)),(.bool (false)),(.bool (false))]))]),[],[⟨false,.normal⟩,⟨false,.normal⟩],52,false⟩,⟨35,[⟨11,26,37,(tmOf 26 [(0,(.yld 6)),(1,(.ptr 2 0)),(2,(.ptr 3 0)),(3,(.ptr 4 0)),(4,(.ptr 7 0)),(8,.nilp),(9,.nils),(10,(.int .i64 (s.2.2.2.1))),(11,(.fn 59 [] [(.ptr 8 0),(.ptr 9 0),(.ptr 10 0)]))]),#[12],(pcOf C2 34 [0,0,1,1]),(pcOf C2 34 [1,0,1,1])⟩,⟨6,13,38,(tmOf 13 [(0,.nils),(1,(.fn 34 [] [(.ptr 2 0),(.ptr 3 0),(.ptr 4 0)])),(2,(.ptr 5 0)),(4,.nils),(6,(.fn 34 [] [(.ptr 2 0),(.ptr 3 0),(.ptr 4 0)]))]),#[7],(pcOf C2 33 [0,0,1,0,1]),(pcOf C2 33 [1,0,1,0,1])⟩]⟩,[(.cal [(.tmp 11)] (.cln 15 (.op (pcOf C2 59 [1,1,1,1]) 7 (some 20) ((opsOf (pcOf C2 59 [1,1,1,1]).c).toList.drop 7) (tmOf 21 [(0,(.yld 11)),(1,(.ptr 8 0)),(2,(.ptr 9 0)),(3,(.ptr 10 0)),(4,(.ptr 12 0)),(5,(.ptr 13 0)),(6,(.ptr 14 0)),(7,(.int .i64 (0))),(8,(.fn 60 [] [(.ptr 8 0),(.ptr 12 0),(.ptr 13 0)])),(9,(.tup [(.agg [(.bool (false)),(.bool (false)),(.bool (false)),(.bool (false)),(.bool (false)),(.bool (false)),(.bool (false)),(.bool (false))]),(.int .i64 (0))])),(10,.nils),(11,(.tup [(.agg [(.bool (false)),(.bool (false)),(.bool (false)),(.bool (false)),(.bool (false)),(.bool (false)),(.bool (false)),(.bool (false))]),(.int .i64 (0))])),(12,(.agg [(.bool (false)),(.bool (false)),(.bool (false)),(.bool (false)),(.bool (false)),(.bool (false)),(.bool (false)),(.bool (false))])),(13,(.int .i64 (0))),(14,(.fn 60 [] [(.ptr 8 0),(.ptr 12 0),(.ptr 13 0)])),(15,(.agg [(.bool (false)),(.bool (false)),(.bool (false)),(.bool (false)),(.bool (false)),(.bool (false)),(.bool (false)),(.bool (false))])),(16,.nils),(17,(.int .i64 (0))),(18,(.int .i64 (0))),(19,(.int .i64 (s.2.2.2.1)))]) [] 21 false ⟨36,[⟨11,26,37,(tmOf 26 [(0,(.yld 6)),(1,(.ptr 2 0)),(2,(.ptr 3 0)),(3,(.ptr 4 0)),(4,(.ptr 7 0)),(8,.nilp),(9,.nils),(10,(.int .i64 (s.2.2.2.1))),(11,(.fn 59 [] [(.ptr 8 0),(.ptr 9 0),(.ptr 10 0)]))]),#[12],(pcOf C2 34 [0,0,1,1]),(pcOf C2 34 [1,0,1,1])⟩,⟨6,13,38,(tmOf 13 [(0,.nils),(1,(.fn 34 [] [(.ptr 2 0),(.ptr 3 0),(.ptr 4 0)])),(2,(.ptr 5 0)),(4,.nils),(6,(.fn 34 [] [(.ptr 2 0),(.ptr 3 0),(.ptr 4 0)]))]),#[7],(pcOf C2 33 [0,0,1,0,1]),(pcOf C2 33 [1,0,1,0,1])⟩]⟩))),(.cal [] (.rng (tmOf 26 [(0,(.yld 6)),(1,(.ptr 2 0)),(2,(.ptr 3 0)),(3,(.ptr 4 0)),(4,(.ptr 7 0)),(8,.nilp),(9,.nils),(10,(.int .i64 (s.2.2.2.1))),(11,(.fn 59 [] [(.ptr 8 0),(.ptr 9 0),(.ptr 10 0)]))]) [] 26 false ⟨37,[⟨6,13,38,(tmOf 13 [(0,.nils),(1,(.fn 34 [] [(.ptr 2 0),(.ptr 3 0),(.ptr 4 0)])),(2,(.ptr 5 0)),(4,.nils),(6,(.fn 34 [] [(.ptr 2 0),(.ptr 3 0),(.ptr 4 0)]))]),#[7],(pcOf C2 33 [0,0,1,0,1]),(pcOf C2 33 [1,0,1,0,1])⟩]⟩)),(.blk 0),(.cal [] (.rng (tmOf 13 [(0,.nils),(1,(.fn 34 [] [(.ptr 2 0),(.ptr 3 0),(.ptr 4 0)])),(2,(.ptr 5 0)),(4,.nils),(6,(.fn 34 [] [(.ptr 2 0),(.ptr 3 0),(.ptr 4 0)]))]) [] 13 false ⟨38,[]⟩)),(.blk 0),(.seq (pcOf C2 33 [1,1])),(.cal [(.tmp 4)] (.op (pcOf C2 15 [0,1]) 2 (some 4) ((opsOf (pcOf C2 15 [0,1]).c).toList.drop 2) (tmOf 5 [(0,(.fn 34 [] [(.ptr 2 0),(.ptr 3 0),(.ptr 4 0)])),(2,.nils),(3,(.fn 34 [] [(.ptr 2 0),(.ptr 3 0),(.ptr 4 0)]))]) [] 5 false ⟨39,[]⟩)),(.seq (pcOf C2 15 [1,1])),(.cal [(.tmp 2)] (.op (pcOf C2 6 [0,1,1,1]) 5 (some 24) ((opsOf (pcOf C2 6 [0,1,1,1]).c).toList.drop 5) (tmOf 36 [(0,(.agg [(.int .i64 (s.1)),(.vs tN (s.2.1.1) (s.2.1.2)),(.int .i64 (s.2.2.1)),(.int .i64 (s.2.2.2.1)),(.int .i64 (s.2.2.2.2.1)),(.vs tI (s.2.2.2.2.2.1.1) (s.2.2.2.2.2.1.2))])),(1,(.vs tO (p.1) (p.2))),(2,(.ptr 0 0)),(4,.nils),(5,(.int .i64 (0))),(6,(.int .i64 (0))),(7,(.int .i64 ((plnV s p.2).2))),(8,.nilp),(11,(.tup [.nilp,(.int .i64 ((plnV s p.2).2))])),(12,(.agg [(.int .i64 (s.1)),(.vs tN (s.2.1.1) (s.2.1.2)),(.int .i64 (s.2.2.1)),(.int .i64 (s.2.2.2.1)),(.int .i64 (s.2.2.2.2.1)),(.vs tI (s.2.2.2.2.2.1.1) (s.2.2.2.2.2.1.2))])),(13,(.vs tO (p.1) (p.2))),(14,(.tup [.nilp,(.int .i64 ((plnV s p.2).2))])),(15,.nilp),(16,(.int .i64 ((plnV s p.2).2))),(17,(.int .i64 ((plnV s p.2).2))),(18,(.bool (false))),(20,.nilp),(21,(.ptr 0 3)),(22,(.int .i64 (s.2.2.2.1))),(23,(.fn 34 [] [(.ptr 2 0),(.ptr 3 0),(.ptr 4 0)]))]) [] 36 false ⟨40,[]⟩)),(.seq (pcOf C2 6 [1,1,1,1])),(.cal [(.tmp 4),(.tmp 5),(.tmp 6),(.tmp 7)] .top)]⟩
noncomputable def rt0C (s:tS.den) (p:(Ty.sl tO).den):Rt:=.op (pcOf C2 59 [1,1,1,1]) 7 (some 20) ((opsOf (pcOf C2 59 [1,1,1,1]).c).toList.drop 7) (tmOf 21 [(0,.yld 12),(1,.ptr 9 0),(2,.ptr 10 0),(3,.ptr 11 0),(4,.ptr 13 0),(5,.ptr 14 0),(6,.ptr 15 0),(7,iI 0),(8,fnC),(9,.tup [tB.av fno,iI 0]),(10,.nils),(11,.tup [tB.av fno,iI 0]),(12,tB.av fno),(13,iI 0),(14,fnC),(15,tB.av fno),(16,.nils),(17,iI 0),(18,iI 0),(19,nuC s)]) [] 21 false ⟨36,evC s p⟩
noncomputable def fr0C (s:tS.den) (p:(Ty.sl tO).den):List Fm:=[.cal [] (.rng (t26C s p) [] 26 false ⟨37,ev1C⟩),.blk 0,.cal [] (.rng t13C [] 13 false ⟨38,[]⟩),.blk 0,.seq (pcOf C2 33 [1,1]),.cal [.tmp 4] (.op (pcOf C2 15 [0,1]) 2 (some 4) ((opsOf (pcOf C2 15 [0,1]).c).toList.drop 2) (tmOf 5 [(0,clC),(2,.nils),(3,clC)]) [] 5 false ⟨39,[]⟩),.seq (pcOf C2 15 [1,1]),.cal [.tmp 2] (.op (pcOf C2 6 [0,1,1,1]) 5 (some 24) ((opsOf (pcOf C2 6 [0,1,1,1]).c).toList.drop 5) (tmOf 36 [(0,tS.av s),(1,.vs tO p.1 p.2),(2,.ptr 0 0),(4,.nils),(5,iI 0),(6,iI 0),(7,iI 0),(8,.ptr 2 0),(11,.tup [.ptr 2 0,iI 0]),(12,tS.av s),(13,.vs tO p.1 p.2),(14,.tup [.ptr 2 0,iI 0]),(15,.ptr 2 0),(16,iI 0),(17,iI 0),(18,.bool false),(20,.ptr 2 0),(21,.ptr 0 3),(22,nuC s),(23,clC)]) [] 36 false ⟨40,[]⟩),.seq (pcOf C2 6 [1,1,1,1]),.cal [.tmp 4,.tmp 5,.tmp 6,.tmp 7] .top]
noncomputable def SCZ:Sy:={ (U2 []) with np:=[[999,60]] }
theorem brk_start (s:tS.den) (p:(Ty.sl tO).den):adv C2 SCZ 3000 (startC C2 6 [tS.av s,.vs tO p.1 p.2] 40)=(bif !ieq (plnV s p.2).2 0 then (bif !ieq (plnV s p.2).2 0 then some (.done (.tup [.nils,(.int .i64 (0)),(.int .i64 (0)),(.int .i64 ((plnV s p.2).2))])) else some (.stop (brkI1 s p))) else some (.stop (entC s p .nils 16 [] fno 0 0 s.2.2.2.1 35 (rt0C s p) (fr0C s p)))):=by kernel_rfl
theorem brk_none (s:tS.den) (p:(Ty.sl tO).den) (d:Nat):adv C2 SCZ 3000 (vlC s p .nils 16 [] d (rt0C s p) (fr0C s p))=some (.done (.tup [.nils,iI 0,iI 0,iI 4])):=by kernel_rfl
end Go.Proofs.Ytmpaifgmccdipaa


set_option maxRecDepth 100000
namespace Go.Proofs.Ytmpaifgmccdipaa
open Go Go.Eng
theorem brq_start (s:tS.den) (p:(Ty.sl tO).den) (C:List AV) (n d:Nat):adv C2 SCZ 3000 (vlC s p (svC 16 n) 17 [rowO C] d (rt0C s p) (fr0C s p))=(bif ieq (↑n) 0 then some (.done (.tup [.nils,(.int .i64 (0)),(.int .i64 (0)),(.int .i64 (4))])) else (bif plainL C then (bif isF (rd tW) n C&&okW (unf (rd tW) n C) then some (.done (.tup [(.vs tI ((leastV (unf (rd tW) n C)).1.1) ((leastV (unf (rd tW) n C)).1.2)),(.int .i64 ((leastV (unf (rd tW) n C)).2.1)),(.int .i64 ((leastV (unf (rd tW) n C)).2.2.1)),(.int .i64 (0))])) else none) else none)):=by kernel_rfl
theorem num_ok {s:tS.den} {p:(Ty.sl tO).den} (V:ieq (plnV s p.2).2 0=true):numB s=true:=by
 unfold plnV at V
 cases c:ieq (chkV s).2.2 0 with
 |false=>rw[c,cond_false] at V;rw[show ieq (chkV s).2.2 0=true from V] at c;cases c
 |true=>
 unfold chkV at c
 cases n:numB s with
 |false=>rw[n] at c;cases c
 |true=>rfl
theorem fail_ok {s:tS.den} (h:numB s=true):@LE.le Int _ 0 s.2.2.2.1∧@LE.le Int _ s.2.2.2.1 8∧@LE.le Int _ 1 s.2.2.2.2.1∧@LE.le Int _ s.2.2.2.2.1 8:=by
 unfold numB at h
 simp only[Bool.and_eq_true] at h
 exact⟨ile_le h.2.2.1.1,ile_le h.2.2.1.2,ile_le h.2.2.2.1,ile_le h.2.2.2.2⟩
noncomputable def brkA (s:tS.den) (p:(Ty.sl tO).den):List tW.den:=alwV (xSP s p) (olX (xSP s p)) fno 0 s.2.2.2.1
noncomputable def brkR (s:tS.den) (p:(Ty.sl tO).den):tW.den×Int:=bif ieq (plnV s p.2).2 0 then (match brkA s p with
 |[]=>(((true,[]),0,0,()),4)
 |w::A=>(leastV (w::A),0)) else (((true,[]),0,0,()),(plnV s p.2).2)
noncomputable def brkV (r:tW.den×Int):AV:=.tup [.vs tI r.1.1.1 r.1.1.2,iI r.1.2.1,iI r.1.2.2.1,iI r.2]
theorem way_le (x:tX.den):∀ (k:Nat) (b:tB.den) (r m:Int),∀ w∈alwV x k b r m,∃ g,w=wayV x g∧(breT x g).2.2=true
 |0,b,r,m,w,hw=>by
  have e:alwV x 0 b r m=bif (breT x b).2.2 then [wayV x b] else []:=rfl
  rw[e] at hw
  cases c:(breT x b).2.2 with
  |true=>rw[c,cond_true,List.mem_singleton] at hw;exact⟨b,hw,c⟩
  |false=>rw[c] at hw;cases hw
 |k+1,b,r,m,w,hw=>by
  have e:alwV x (k+1) b r m=alwV x k b 0 m++(bif ieq m 0 then [] else bif ile (rowX x) r then [] else alwV x k (setF b ((olX x:Int)-((k+1:Nat):Int))) (r+1) (m-1)):=rfl
  rw[e] at hw
  rcases List.mem_append.1 hw with hw|hw
  · exact way_le x k b 0 m w hw
  · cases c1 : ieq m 0 with
    |true=>rw[c1] at hw;cases hw
    |false=>
    cases c2:ile (rowX x) r with
    |true=>rw[c1,c2] at hw;cases hw
    |false=>rw[c1,c2] at hw;exact way_le x k _ _ _ w hw
theorem ind_len8 (f:tB.den):(indV f).length≤8:=by rw[← indK8];exact indK_len f 8
theorem brk_call (s:tS.den) (p:(Ty.sl tO).den):AnsF C2 6 [tS.av s,.vs tO p.1 p.2] (brkV (brkR s p)):=by
 refine Ans.call (n:=40) (ext_none (by kernel_rfl)) (hasB_spec (by kernel_rfl)) ?_
 have h:=brk_start s p
 unfold brkR
 cases V:ieq (plnV s p.2).2 0 with
 |false=>
  rw[V] at h
  rw[cond_false]
  exact .doneT (S:=SCZ) (U2_ok []) C2sy h (Tells.tupL (.cons Tells.nils (.refl _)))
 | true =>
  rw[V,Bool.not_true,cond_false] at h
  rw[cond_true]
  have P:=pln_ok V
  have X:=xok_of P
  have hO:=(xok X).o
  obtain⟨f0,f8,r1,r8⟩:=fail_ok (num_ok V)
  obtain⟨F,hF⟩:∃ F:Int,s.2.2.2.1=F:=⟨_,rfl⟩
  rw[hF] at f0 f8
  have hp2:2 ^ olX (xSP s p)≤2 ^ 8:=Nat.pow_le_pow_right (by omega) hO
  have g:=col_go X (olX (xSP s p)) (.no []) [] fno 0 F 35 (rt0C s p) (fr0C s p) ⟨rfl,fun _ h=>by cases h⟩ (by show 0+3 * _≤24;omega) (Nat.le_refl _) (by show 0+_≤1000000;omega) (Int.le_refl _) (by omega) (by omega) (by omega) (by omega)
  unfold ColG at g
  rw[show (olX (xSP s p):Int)-((olX (xSP s p):Nat):Int)=0 by omega] at g
  have hA:brkA s p=alwV (xSP s p) (olX (xSP s p)) fno 0 F:=by unfold brkA;rw[hF]
  have hw:=way_le (xSP s p) (olX (xSP s p)) fno 0 F
  have hl:=alw_len (xSP s p) (olX (xSP s p)) fno 0 F
  rw[hF] at h
  rw[hA]
  generalize alwV (xSP s p) (olX (xSP s p)) fno 0 F=A at g hw hl
  refine Ans.goto ((adv_spec (S:=SCZ) (U2_ok []) C2sy h:Goto C2 _ _).trans g) ?_
  cases A with
  |nil=>exact .doneT (S:=SCZ) (U2_ok []) C2sy (brk_none s p 0) (Tells.tupL (.cons Tells.nils (.refl _)))
  | cons w A =>
   have q:=brq_start s p (flat tW (w::A)) (w::A).length 0
   obtain⟨u1,u2⟩:=unf_flat (t:=tW) (w::A) (w::A).length rfl
   have hk:okW (w::A)=true:=by
    unfold okW
    rw[Nat.ble_eq_true_of_le (show (w::A).length≤1000000 by omega),Nat.ble_eq_true_of_le (show 1≤(w::A).length by rw[List.length_cons];omega),Bool.true_and,Bool.true_and,List.all_eq_true]
    intro v hv
    obtain⟨g,rfl,_⟩:=hw v hv
    exact Nat.ble_eq_true_of_le (Nat.le_trans (ind_len8 g) (by omega))
   rw[show ieq (((w::A).length:Nat):Int) 0=false by rw[ieq_iff];exact decide_eq_false (by rw[List.length_cons];omega),cond_false,flatW_pl,cond_true,u1,u2,hk,Bool.and_self,cond_true] at q
   exact .done (S:=SCZ) (U2_ok []) C2sy q rfl
end Go.Proofs.Ytmpaifgmccdipaa


set_option maxRecDepth 100000
namespace Go.Proofs.Ytmpaifgmccdipaa
open Go Go.Eng
noncomputable def LC3:List Said:=[(6,con2 tS (.sl tO) (fun _ _=>true) (fun s p=>brkV (brkR s p)))]
theorem LC3_ok:∀ e∈LC3,SaidG Try.prog C2.glob e:=
 saids_cons (SaidOK.g cc2 xC2 nC2 tabs_ok.mix (fun _ _ h=>con2_spec (t:=tS) (u:=.sl tO) (fun s p _=>brk_call s p) h) rfl) saids_nil
noncomputable def C3:Env:=C2.say (under (xOf LC3))
theorem cc3:EnvOK Try.prog C3:=cc2.say _
theorem nC3:NameOK C3:=nC2.say _
theorem xC3:ExtOK Try.prog C3:=xC2.sayL LC3_ok
theorem C3sy:C3.sy=true:=rfl
noncomputable def U3 (l:List Nat):Sy:=(U2 []).on LC3 l
theorem U3_ok (l:List Nat):(U3 l).ok C3:=Sy.on_ok (U2_ok _)
end Go.Proofs.Ytmpaifgmccdipaa


set_option maxRecDepth 100000
namespace Go.Proofs.Ytmpaifgmccdipaa
open Go Go.Eng
noncomputable def somI0 (s:tS.den) (n m b:Int) (x12:Int) (x34:Nat):Cfg:=⟨.ex (pcOf C3 9 [0,0,1,0,1,1,1]) ⟨(tmOf 41 [(0,(.agg [(.int .i64 (s.1)),(.vs tN (s.2.1.1) (s.2.1.2)),(.int .i64 (s.2.2.1)),(.int .i64 (s.2.2.2.1)),(.int .i64 (s.2.2.2.2.1)),(.vs tI (s.2.2.2.2.2.1.1) (s.2.2.2.2.2.1.2))])),(1,(.int .i64 (n))),(2,(.int .i64 (m))),(3,(.int .u8 (b))),(4,(.ptr 0 0)),(8,.nils),(9,.nils),(10,(.int .i64 (0))),(11,(.int .i64 x12))]),(hpOf 1 [(0,(.cells false [(.int .i64 (s.1)),(.vs tN (s.2.1.1) (s.2.1.2)),(.int .i64 (s.2.2.1)),(.int .i64 (s.2.2.2.1)),(.int .i64 (s.2.2.2.2.1)),(.vs tI (s.2.2.2.2.2.1.1) (s.2.2.2.2.2.1.2))]))]),[],[],41,false⟩,⟨20,[]⟩,[(.lop (pcOf C3 9 [0,0,1,0,1,1,1]) 1 (tmOf 41 [(0,(.agg [(.int .i64 (s.1)),(.vs tN (s.2.1.1) (s.2.1.2)),(.int .i64 (s.2.2.1)),(.int .i64 (s.2.2.2.1)),(.int .i64 (s.2.2.2.2.1)),(.vs tI (s.2.2.2.2.2.1.1) (s.2.2.2.2.2.1.2))])),(1,(.int .i64 (n))),(2,(.int .i64 (m))),(3,(.int .u8 (b))),(4,(.ptr 0 0)),(8,.nils),(9,.nils),(10,(.int .i64 (0))),(11,(.int .i64 (0)))]) x34),(.blk 0),(.seq (pcOf C3 9 [1,1,1,1])),(.cal [(.tmp 8)] .top)]⟩
noncomputable def somI1 (s:tS.den) (n m b:Int) (x11:Nat) (x13:Int) (x14:Int) (x23:List AV) (x37:Nat):Cfg:=⟨.ex (pcOf C3 9 [0,0,1,0,1,1,1]) ⟨(tmOf 41 [(0,(.agg [(.int .i64 (s.1)),(.vs tN (s.2.1.1) (s.2.1.2)),(.int .i64 (s.2.2.1)),(.int .i64 (s.2.2.2.1)),(.int .i64 (s.2.2.2.2.1)),(.vs tI (s.2.2.2.2.2.1.1) (s.2.2.2.2.2.1.2))])),(1,(.int .i64 (n))),(2,(.int .i64 (m))),(3,(.int .u8 (b))),(4,(.ptr 0 0)),(8,.nils),(9,(.sl 1 0 x11 x11 1)),(10,(.int .i64 x13)),(11,(.int .i64 x14))]),(hpOf 2 [(0,(.cells false [(.int .i64 (s.1)),(.vs tN (s.2.1.1) (s.2.1.2)),(.int .i64 (s.2.2.1)),(.int .i64 (s.2.2.2.1)),(.int .i64 (s.2.2.2.2.1)),(.vs tI (s.2.2.2.2.2.1.1) (s.2.2.2.2.2.1.2))])),(1,(.cells false x23))]),[],[],41,false⟩,⟨20,[]⟩,[(.lop (pcOf C3 9 [0,0,1,0,1,1,1]) 1 (tmOf 41 [(0,(.agg [(.int .i64 (s.1)),(.vs tN (s.2.1.1) (s.2.1.2)),(.int .i64 (s.2.2.1)),(.int .i64 (s.2.2.2.1)),(.int .i64 (s.2.2.2.2.1)),(.vs tI (s.2.2.2.2.2.1.1) (s.2.2.2.2.2.1.2))])),(1,(.int .i64 (n))),(2,(.int .i64 (m))),(3,(.int .u8 (b))),(4,(.ptr 0 0)),(8,.nils),(9,.nils),(10,(.int .i64 (0))),(11,(.int .i64 (0)))]) x37),(.blk 0),(.seq (pcOf C3 9 [1,1,1,1])),(.cal [(.tmp 8)] .top)]⟩
theorem som_start (s:tS.den) (n m b:Int):adv C3 (U3 [9]) 3000 (startC C3 9 [tS.av s,.int .i64 n,.int .i64 m,.int .u8 b] 20)=some (.stop (somI0 s n m b (0) (1048575))):=by kernel_rfl
theorem som_step0 (s:tS.den) (n m b:Int) (x12:Int) (x34:Nat):adv C3 (U3 [9]) 3000 (somI0 s n m b x12 (x34+1))=(bif !ile n x12 then (bif ile 0 x12 then (bif ieq ((b.fdiv (2 ^ min x12.toNat IntKind.u8.bits)).tmod 2) 1 then (bif !ile m 0 then (bif !ile s.2.2.2.2.1 0 then some (.stop (somI1 s n m b (1) (1) (wr .i64 (x12+1)) ([AV.int IntKind.i64 x12]) (x34))) else some (.stop (somI0 s n m b (wr .i64 (x12+1)) (x34)))) else some (.stop (somI0 s n m b (wr .i64 (x12+1)) (x34)))) else some (.stop (somI0 s n m b (wr .i64 (x12+1)) (x34)))) else none) else some (.done .nils)):=by kernel_rfl
theorem som_step1 (s:tS.den) (n m b:Int) (x11:Nat) (x13:Int) (x14:Int) (x23:List AV) (x37:Nat):adv C3 (U3 [9]) 3000 (somI1 s n m b x11 x13 x14 x23 (x37+1))=(bif !ile n x14 then (bif ile 0 x14 then (bif ieq ((b.fdiv (2 ^ min x14.toNat IntKind.u8.bits)).tmod 2) 1 then (bif !ile m ↑x11 then (bif !ile s.2.2.2.2.1 x13 then (bif (0+x11 * 1).beq x23.length then (bif x11.ble 1048576 then (bif plO (AO.cells false (x23++[AV.int IntKind.i64 x14])) then some (.stop (somI1 s n m b (x11+1) (wr .i64 (x13+1)) (wr .i64 (x14+1)) (x23++[AV.int IntKind.i64 x14]) (x37))) else none) else none) else none) else (bif plO (AO.cells false x23) then some (.stop (somI1 s n m b (x11) (0) (wr .i64 (x14+1)) (x23) (x37))) else none)) else (bif plO (AO.cells false x23) then some (.stop (somI1 s n m b (x11) (0) (wr .i64 (x14+1)) (x23) (x37))) else none)) else (bif plO (AO.cells false x23) then some (.stop (somI1 s n m b (x11) (0) (wr .i64 (x14+1)) (x23) (x37))) else none)) else none) else (bif plainL x23 then some (.done (.csl (x23) (x11))) else none)):=by kernel_rfl
noncomputable def bitV (b i:Int):Bool:=ieq ((b.fdiv (2 ^ min i.toNat IntKind.u8.bits)).tmod 2) 1
noncomputable def somN (w m b:Int):Nat→Int→Int→Int→List Int
 |0,_,_,_=>[]
 |k+1,i,l,r=>bif bitV b i&&(!ile m l&&!ile w r) then i::somN w m b k (i+1) (l+1) (r+1) else somN w m b k (i+1) l 0
theorem som_ans1 {s:tS.den} {n:Nat} {m b:Int} (H:n≤1000):∀ (k i m0:Nat) (out:List Int) (r:Int),i+k=n→k<m0→0≤r→r≤i→out.length≤i→out≠[]→Ans C3 (somI1 s n m b out.length r i (flat tI out) m0) (.vs tI false (out++somN s.2.2.2.2.1 m b k i out.length r))
 |0,i,m0,out,r,hk,hm,h0,hr,hl,hne=>by
  obtain⟨q,rfl⟩:∃ q,m0=q+1:=⟨m0-1,by omega⟩
  have h:=som_step1 s n m b out.length r i (flat tI out) q
  rw[ile_t (show ((n:Nat):Int)≤(i:Int) by omega),Bool.not_true,cond_false,flatI_plain,cond_true] at h
  rw[show somN s.2.2.2.2.1 m b 0 i out.length r=[] from rfl,List.append_nil]
  exact .doneT (U3_ok _) C3sy h Tells.csl
 | k + 1, i, m0, out, r, hk, hm, h0, hr, hl, hne => by
  obtain⟨q,rfl⟩:∃ q,m0=q+1:=⟨m0-1,by omega⟩
  have h:=som_step1 s n m b out.length r i (flat tI out) q
  have e:somN s.2.2.2.2.1 m b (k+1) i out.length r=bif bitV b i&&(!ile m out.length&&!ile s.2.2.2.2.1 r) then (i:Int)::somN s.2.2.2.2.1 m b k ((i:Int)+1) ((out.length:Int)+1) (r+1) else somN s.2.2.2.2.1 m b k ((i:Int)+1) out.length 0:=rfl
  rw[ile_f (show (i:Int)<((n:Nat):Int) by omega),Bool.not_false,cond_true,ile_t (show (0:Int)≤(i:Int) by omega),cond_true,show plO (AO.cells false (flat tI out))=true from flatI_plain out,cond_true,wr_in (show -9223372036854775808≤(i:Int)+1 by omega) (by omega),wr_in (show -9223372036854775808≤r+1 by omega) (by omega),flatI_add,show plO (AO.cells false (flat tI (out++[(i:Int)])))=true from flatI_plain _,cond_true,flatI_len,show (0+out.length * 1).beq out.length=true by rw[Nat.zero_add,Nat.mul_one];exact Nat.beq_refl _,cond_true,Nat.ble_eq_true_of_le (show out.length≤1048576 by omega),cond_true] at h
  rw[e]
  have go0:Ans C3 (somI1 s n m b out.length 0 ((i:Int)+1) (flat tI out) q) (.vs tI false (out++somN s.2.2.2.2.1 m b k ((i:Int)+1) out.length 0)):=
   som_ans1 H k (i+1) q out 0 (by omega) (by omega) (by omega) (by omega) (by omega) hne
  cases c1:bitV b i with
  |false=>rw[show ieq ((b.fdiv (2 ^ min (i:Int).toNat IntKind.u8.bits)).tmod 2) 1=false from c1] at h;exact .stop (U3_ok _) C3sy h go0
  |true=>
  cases c2:ile m out.length with
  |true=>rw[show ieq ((b.fdiv (2 ^ min (i:Int).toNat IntKind.u8.bits)).tmod 2) 1=true from c1,c2] at h;exact .stop (U3_ok _) C3sy h go0
  |false=>
  cases c3:ile s.2.2.2.2.1 r with
  |true=>rw[show ieq ((b.fdiv (2 ^ min (i:Int).toNat IntKind.u8.bits)).tmod 2) 1=true from c1,c2,show ile s.2.2.2.2.1 r=true from c3] at h;exact .stop (U3_ok _) C3sy h go0
  |false=>
   rw[show ieq ((b.fdiv (2 ^ min (i:Int).toNat IntKind.u8.bits)).tmod 2) 1=true from c1,c2,show ile s.2.2.2.2.1 r=false from c3] at h
   have hl2:(out++[(i:Int)]).length=out.length+1:=by rw[List.length_append];rfl
   have g:=som_ans1 (s:=s) (m:=m) (b:=b) H k (i+1) q (out++[(i:Int)]) (r+1) (by omega) (by omega) (by omega) (by omega) (by omega) (by simp)
   rw[hl2,List.append_assoc] at g
   exact .stop (U3_ok _) C3sy h g
theorem som_ans0 {s:tS.den} {n:Nat} {m b:Int} (H:n≤1000):∀ (k i m0:Nat),i+k=n→k<m0→Ans C3 (somI0 s n m b i m0) (.vs tI (noI (somN s.2.2.2.2.1 m b k i 0 0)) (somN s.2.2.2.2.1 m b k i 0 0))
 |0,i,m0,hk,hm=>by
  obtain⟨q,rfl⟩:∃ q,m0=q+1:=⟨m0-1,by omega⟩
  have h:=som_step0 s n m b i q
  rw[ile_t (show ((n:Nat):Int)≤(i:Int) by omega),Bool.not_true,cond_false] at h
  exact .doneT (U3_ok _) C3sy h Tells.nils
 | k + 1, i, m0, hk, hm => by
  obtain⟨q,rfl⟩:∃ q,m0=q+1:=⟨m0-1,by omega⟩
  have h:=som_step0 s n m b i q
  have e:somN s.2.2.2.2.1 m b (k+1) i 0 0=bif bitV b i&&(!ile m 0&&!ile s.2.2.2.2.1 0) then (i:Int)::somN s.2.2.2.2.1 m b k ((i:Int)+1) (0+1) (0+1) else somN s.2.2.2.2.1 m b k ((i:Int)+1) 0 0:=rfl
  rw[ile_f (show (i:Int)<((n:Nat):Int) by omega),Bool.not_false,cond_true,ile_t (show (0:Int)≤(i:Int) by omega),cond_true,wr_in (show -9223372036854775808≤(i:Int)+1 by omega) (by omega)] at h
  rw[e]
  have go0:Ans C3 (somI0 s n m b ((i:Int)+1) q) (.vs tI (noI (somN s.2.2.2.2.1 m b k ((i:Int)+1) 0 0)) (somN s.2.2.2.2.1 m b k ((i:Int)+1) 0 0)):=som_ans0 H k (i+1) q (by omega) (by omega)
  cases c1:bitV b i with
  |false=>rw[show ieq ((b.fdiv (2 ^ min (i:Int).toNat IntKind.u8.bits)).tmod 2) 1=false from c1] at h;exact .stop (U3_ok _) C3sy h go0
  |true=>
  cases c2:ile m 0 with
  |true=>rw[show ieq ((b.fdiv (2 ^ min (i:Int).toNat IntKind.u8.bits)).tmod 2) 1=true from c1,c2] at h;exact .stop (U3_ok _) C3sy h go0
  |false=>
  cases c3:ile s.2.2.2.2.1 0 with
  |true=>rw[show ieq ((b.fdiv (2 ^ min (i:Int).toNat IntKind.u8.bits)).tmod 2) 1=true from c1,c2,show ile s.2.2.2.2.1 0=true from c3] at h;exact .stop (U3_ok _) C3sy h go0
  |false=>
   rw[show ieq ((b.fdiv (2 ^ min (i:Int).toNat IntKind.u8.bits)).tmod 2) 1=true from c1,c2,show ile s.2.2.2.2.1 0=false from c3] at h
   exact .stop (U3_ok _) C3sy h (som_ans1 (s:=s) (m:=m) (b:=b) H k (i+1) q [(i:Int)] 1 (by omega) (by omega) (by omega) (by omega) (by show 1≤i+1;omega) (by simp))
noncomputable def somV (s:tS.den) (n m b:Int):List Int:=somN s.2.2.2.2.1 m b n.toNat 0 0 0
theorem som_call {s:tS.den} {n m b:Int} (h0:0≤n) (h8:n≤1000):AnsF C3 9 [tS.av s,.int .i64 n,.int .i64 m,.int .u8 b] (.vs tI (noI (somV s n m b)) (somV s n m b)):=by
 refine Ans.call (n:=20) (ext_none (by kernel_rfl)) (hasB_spec (by kernel_rfl)) ?_
 obtain⟨N,rfl⟩:∃ N:Nat,n=(N:Int):=⟨n.toNat,(Int.toNat_of_nonneg h0).symm⟩
 have g:=som_ans0 (s:=s) (n:=N) (m:=m) (b:=b) (by omega) N 0 1048575 (by omega) (by omega)
 exact .stop (U3_ok _) C3sy (som_start s N m b) g
abbrev tU:Ty:=.int .u8
noncomputable def LC4:List Said:=[(9,con4 tS tI tI tU (fun _ n _ _=>ile 0 n&&ile n 1000) (fun s n m b=>.vs tI (noI (somV s n m b)) (somV s n m b)))]
theorem LC4_ok:∀ e∈LC4,SaidG Try.prog C3.glob e:=
 saids_cons (SaidOK.g cc3 xC3 nC3 tabs_ok.mix (fun _ _ h=>con4_spec (t:=tS) (u:=tI) (w:=tI) (s:=tU) (fun s n m b c=>by
  simp only[Bool.and_eq_true] at c
  exact som_call (ile_le c.1) (ile_le c.2)) h) rfl) saids_nil
noncomputable def C4:Env:=C3.say (under (xOf LC4))
theorem cc4:EnvOK Try.prog C4:=cc3.say _
theorem nC4:NameOK C4:=nC3.say _
theorem xC4:ExtOK Try.prog C4:=xC3.sayL LC4_ok
noncomputable def U4 (l:List Nat):Sy:=(U3 []).on LC4 l
theorem U4_ok (l:List Nat):(U4 l).ok C4:=Sy.on_ok (U3_ok _)
noncomputable def LC5:List Said:=[(8,say0 (.bool true))]
noncomputable def C5:Env:=C4.say (under (xOf LC5))
theorem cc5:EnvOK Try.prog C5:=cc4.say _
theorem nC5:NameOK C5:=nC4.say _
theorem C5sy:C5.sy=true:=rfl
noncomputable def U5 (l:List Nat):Sy:=(U4 []).on LC5 l
theorem U5_ok (l:List Nat):(U5 l).ok C5:=Sy.on_ok (U4_ok _)
end Go.Proofs.Ytmpaifgmccdipaa


set_option maxRecDepth 100000
namespace Go.Proofs.Ytmpaifgmccdipaa
open Go Go.Eng
end Go.Proofs.Ytmpaifgmccdipaa


set_option maxRecDepth 100000
namespace Go.Proofs.Ytmpaifgmccdipaa
open Go Go.Eng
theorem bif_t {a b:Bool} (h:(bif a then b else false)=true):a=true∧b=true:=by
 cases a with
 |true=>exact⟨rfl,h⟩
 |false=>cases h
end Go.Proofs.Ytmpaifgmccdipaa


set_option maxRecDepth 100000
namespace Go.Proofs.Ytmpaifgmccdipaa
open Go Go.Eng
theorem hol_path (x:tX.den) (m b:Int):∀ (k:Nat) (f:tB.den) (l r:Int),holV x k f r (m-l)=true→(breT x (withV (somN (rowX x) m b k ((olX x:Int)-(k:Int)) l r) f)).2.2=false
 |0,f,l,r,h=>by
  have h':(!(breT x f).2.2)=true:=h
  show (breT x f).2.2=false
  cases c:(breT x f).2.2 with
  |true=>rw[c] at h';cases h'
  |false=>rfl
 | k + 1, f, l, r, h => by
  have e:somN (rowX x) m b (k+1) ((olX x:Int)-((k+1:Nat):Int)) l r=bif bitV b ((olX x:Int)-((k+1:Nat):Int))&&(!ile m l&&!ile (rowX x) r) then ((olX x:Int)-((k+1:Nat):Int))::somN (rowX x) m b k ((olX x:Int)-((k+1:Nat):Int)+1) (l+1) (r+1) else somN (rowX x) m b k ((olX x:Int)-((k+1:Nat):Int)+1) l 0:=rfl
  rw[e,show (olX x:Int)-((k+1:Nat):Int)+1=(olX x:Int)-(k:Int) by omega]
  have h1:=bif_t h
  cases c:bitV b ((olX x:Int)-((k+1:Nat):Int))&&(!ile m l&&!ile (rowX x) r) with
  |false=>exact hol_path x m b k f l 0 h1.1
  |true=>
   simp only[Bool.and_eq_true,Bool.not_eq_true'] at c
   obtain⟨_,c2,c3⟩:=c
   have hlt:=ile_gt c2
   have h2:(bif ieq (m-l) 0 then true else bif ile (rowX x) r then true else holV x k (setF f ((olX x:Int)-((k+1:Nat):Int))) (r+1) (m-l-1))=true:=h1.2
   rw[show ieq (m-l) 0=false by rw[ieq_iff];exact decide_eq_false (by omega),cond_false,c3,cond_false,show m-l-1=m-(l+1) by omega] at h2
   exact hol_path x m b k _ (l+1) (r+1) h2
theorem asc_som (w m b e o:Int):∀ (k:Nat) (i l r b0:Int) (j:Nat),b0<i→i+k=e→0≤i→ascV (e-1) o (somN w m b k i l r) b0 j=(0,0)
 |0,_,_,_,_,_,_,_,_=>rfl
 | k + 1, i, l, r, b0, j, h1, h2, h3 => by
  have es:somN w m b (k+1) i l r=bif bitV b i&&(!ile m l&&!ile w r) then i::somN w m b k (i+1) (l+1) (r+1) else somN w m b k (i+1) l 0:=rfl
  rw[es]
  cases bitV b i&&(!ile m l&&!ile w r) with
  |false=>exact asc_som w m b e o k (i+1) l 0 b0 j (by omega) (by omega) (by omega)
  |true=>
   show (bif ile 0 i&&ile i (e-1) then (bif ile i b0 then ((j:Int),2) else ascV (e-1) o (somN w m b k (i+1) (l+1) (r+1)) i (j+1)) else ((j:Int),o))=(0,0)
   rw[ile_t h3,ile_t (show i≤e-1 by omega),Bool.and_self,cond_true,ile_f h1,cond_false]
   exact asc_som w m b e o k (i+1) (l+1) (r+1) i (j+1) (by omega) (by omega) (by omega)
theorem ask_som {s:tS.den} {p:(Ty.sl tO).den} (V:ieq (plnV s p.2).2 0=true) (m b:Int):askV s p.2 (somV s (p.2.length:Int) m b)=0:=by
 have h8:=(pln_ok V).len
 unfold askV rixV
 rw[V,cond_true,wr_in (by omega) (by omega)]
 unfold somV
 rw[asc_som s.2.2.2.2.1 m b (p.2.length:Int) 4 (p.2.length:Int).toNat 0 0 0 (-1) 0 (by omega) (by omega) (by omega)]
end Go.Proofs.Ytmpaifgmccdipaa


set_option maxRecDepth 100000
namespace Go.Proofs.Ytmpaifgmccdipaa
open Go Go.Eng
noncomputable def pths (w:Int):Nat→Int→Int→Int→List (List Int)
 |0,_,_,_=>[[]]
 |k+1,o,r,m=>pths w k (o+1) 0 m++(bif ieq m 0 then [] else bif ile w r then [] else (pths w k (o+1) (r+1) (m-1)).map (o::·))
def okL (w:Int):Int→Int→List Int→Prop
 |_,_,[]=>True
 |prev,run,o::l=>prev<o∧(if o=prev+1 then run+1 else 1)≤w∧okL w o (if o=prev+1 then run+1 else 1) l
theorem okL_skip {w:Int} (o prev run:Int) (hp:prev<o):∀ (l:List Int),okL w o 0 l→(∀ i∈l,o+1≤i)→okL w prev run l
 |[],_,_=>trivial
 |i::l,h,hb=>by
  have h1:o+1≤i:=hb i List.mem_cons_self
  obtain⟨a1,a2,a3⟩:=h
  have e:(if i=o+1 then (0:Int)+1 else 1)=1:=by split<;>rfl
  rw[e] at a2 a3
  refine⟨by omega,?_⟩
  rw[if_neg (show ¬ i=prev+1 by omega)]
  exact⟨a2,a3⟩
theorem pths_ok (w:Int):∀ (k:Nat) (o r m:Int) (l:List Int),l∈pths w k o r m→0≤m→0≤r→okL w (o-1) r l∧(∀ i∈l,o≤i∧i<o+k)∧(l.length:Int)≤m
 |0,o,r,m,l,h,hm,hr=>by
  have h':l∈[([]:List Int)]:=h
  rw[List.mem_singleton] at h';subst h'
  exact⟨trivial,fun i hi=>(by cases hi),hm⟩
 | k + 1, o, r, m, l, h, hm, hr => by
  have h':l∈pths w k (o+1) 0 m++(bif ieq m 0 then [] else bif ile w r then [] else (pths w k (o+1) (r+1) (m-1)).map (o::·)):=h
  rcases List.mem_append.1 h' with h1|h1
  · obtain ⟨a1, a2, a3⟩ := pths_ok w k (o + 1) 0 m l h1 hm (Int.le_refl _)
    rw[show o+1-1=o by omega] at a1
    exact⟨okL_skip o (o-1) r (by omega) l a1 (fun i hi=>(a2 i hi).1),fun i hi=>by have:=a2 i hi;omega,a3⟩
  · cases c1 : ieq m 0 with
    |true=>rw[c1] at h1;cases h1
    |false=>
    cases c2:ile w r with
    |true=>rw[c1,c2] at h1;cases h1
    |false=>
     rw[c1,c2,cond_false,cond_false] at h1
     obtain⟨l',hl',rfl⟩:=List.mem_map.1 h1
     have hm0:m≠0:=fun e=>by rw[e,ieq_self] at c1;cases c1
     have hw:=ile_gt c2
     obtain⟨a1,a2,a3⟩:=pths_ok w k (o+1) (r+1) (m-1) l' hl' (by omega) (by omega)
     rw[show o+1-1=o by omega] at a1
     refine⟨⟨by omega,?_⟩,fun i hi=>?_,by rw[List.length_cons];omega⟩
     · rw[if_pos (show o=o-1+1 by omega)];exact⟨by omega,a1⟩
     · rcases List.mem_cons.1 hi with rfl | hi
       · omega
       · have:=a2 i hi;omega
def clr (f:tB.den) (o:Int):Prop:=(o≤0→f.1=false)∧(o≤1→f.2.1=false)∧(o≤2→f.2.2.1=false)∧(o≤3→f.2.2.2.1=false)∧(o≤4→f.2.2.2.2.1=false)∧(o≤5→f.2.2.2.2.2.1=false)∧(o≤6→f.2.2.2.2.2.2.1=false)∧(o≤7→f.2.2.2.2.2.2.2.1=false)
theorem clr_up {f:tB.den} {o:Int} (h:clr f o):clr f (o+1):=by
 obtain⟨a0,a1,a2,a3,a4,a5,a6,a7⟩:=h
 exact⟨fun h=>a0 (by omega),fun h=>a1 (by omega),fun h=>a2 (by omega),fun h=>a3 (by omega),fun h=>a4 (by omega),fun h=>a5 (by omega),fun h=>a6 (by omega),fun h=>a7 (by omega)⟩
theorem clr_set {f:tB.den} {o:Int} (h:clr f o):clr (setF f o) (o+1):=by
 obtain⟨a0,a1,a2,a3,a4,a5,a6,a7⟩:=h
 have z:∀ {i:Int},o+1≤i→ieq o i=false:=fun h=>by rw[ieq_iff];exact decide_eq_false (by omega)
 refine⟨fun h=>?_,fun h=>?_,fun h=>?_,fun h=>?_,fun h=>?_,fun h=>?_,fun h=>?_,fun h=>?_⟩
 · show (bif ieq o 0 then true else f.1)=false;rw[z h];exact a0 (by omega)
 · show (bif ieq o 1 then true else f.2.1)=false;rw[z h];exact a1 (by omega)
 · show (bif ieq o 2 then true else f.2.2.1)=false;rw[z h];exact a2 (by omega)
 · show (bif ieq o 3 then true else f.2.2.2.1)=false;rw[z h];exact a3 (by omega)
 · show (bif ieq o 4 then true else f.2.2.2.2.1)=false;rw[z h];exact a4 (by omega)
 · show (bif ieq o 5 then true else f.2.2.2.2.2.1)=false;rw[z h];exact a5 (by omega)
 · show (bif ieq o 6 then true else f.2.2.2.2.2.2.1)=false;rw[z h];exact a6 (by omega)
 · show (bif ieq o 7 then true else f.2.2.2.2.2.2.2.1)=false;rw[z h];exact a7 (by omega)
theorem ind_set {f:tB.den} {o:Int} (h:clr f o) (h8:inB o 8=true):indV (setF f o)=indV f++[o]:=by
 obtain⟨b0,b1,b2,b3,b4,b5,b6,b7,u⟩:=f
 obtain⟨a0,a1,a2,a3,a4,a5,a6,a7⟩:=h
 simp only at a0 a1 a2 a3 a4 a5 a6 a7
 rcases in8_cases h8 with rfl|rfl|rfl|rfl|rfl|rfl|rfl|rfl
 · rw[a0 (by omega),a1 (by omega),a2 (by omega),a3 (by omega),a4 (by omega),a5 (by omega),a6 (by omega),a7 (by omega)];rfl
 · rw[a1 (by omega),a2 (by omega),a3 (by omega),a4 (by omega),a5 (by omega),a6 (by omega),a7 (by omega)];cases b0<;>rfl
 · rw[a2 (by omega),a3 (by omega),a4 (by omega),a5 (by omega),a6 (by omega),a7 (by omega)];cases b0<;>cases b1<;>rfl
 · rw[a3 (by omega),a4 (by omega),a5 (by omega),a6 (by omega),a7 (by omega)];cases b0<;>cases b1<;>cases b2<;>rfl
 · rw[a4 (by omega),a5 (by omega),a6 (by omega),a7 (by omega)];cases b0<;>cases b1<;>cases b2<;>cases b3<;>rfl
 · rw[a5 (by omega),a6 (by omega),a7 (by omega)];cases b0<;>cases b1<;>cases b2<;>cases b3<;>cases b4<;>rfl
 · rw[a6 (by omega),a7 (by omega)];cases b0<;>cases b1<;>cases b2<;>cases b3<;>cases b4<;>cases b5<;>rfl
 · rw[a7 (by omega)];cases b0<;>cases b1<;>cases b2<;>cases b3<;>cases b4<;>cases b5<;>cases b6<;>rfl
theorem way_pth {x:tX.den} (hO:olX x≤8):∀ (k:Nat) (f:tB.den) (r m:Int) (w:tW.den),w∈alwV x k f r m→k≤olX x→clr f ((olX x:Int)-(k:Int))→∃ g l,w=wayV x g∧(breT x g).2.2=true∧indV g=indV f++l∧l∈pths (rowX x) k ((olX x:Int)-(k:Int)) r m
 | 0, f, r, m, w, hw, hk, hc => by
  have hw':w∈bif (breT x f).2.2 then [wayV x f] else []:=hw
  cases c:(breT x f).2.2 with
  |false=>rw[c] at hw';cases hw'
  |true=>
   rw[c,cond_true,List.mem_singleton] at hw'
   exact⟨f,[],hw',c,(List.append_nil _).symm,List.mem_singleton.2 rfl⟩
 | k + 1, f, r, m, w, hw, hk, hc => by
  have ho:(olX x:Int)-((k+1:Nat):Int)+1=(olX x:Int)-(k:Int):=by omega
  have hw':w∈alwV x k f 0 m++(bif ieq m 0 then [] else bif ile (rowX x) r then [] else alwV x k (setF f ((olX x:Int)-((k+1:Nat):Int))) (r+1) (m-1)):=hw
  have hc1:=clr_up hc
  have hc2:=clr_set hc
  rw[ho] at hc1 hc2
  have goal:∀ l,(l∈pths (rowX x) k ((olX x:Int)-(k:Int)) 0 m∨(ieq m 0=false∧ile (rowX x) r=false∧∃ l',l'∈pths (rowX x) k ((olX x:Int)-(k:Int)) (r+1) (m-1)∧l=((olX x:Int)-((k+1:Nat):Int))::l'))→l∈pths (rowX x) (k+1) ((olX x:Int)-((k+1:Nat):Int)) r m:=fun l h=>by
   show l∈pths (rowX x) k ((olX x:Int)-((k+1:Nat):Int)+1) 0 m++(bif ieq m 0 then [] else bif ile (rowX x) r then [] else (pths (rowX x) k ((olX x:Int)-((k+1:Nat):Int)+1) (r+1) (m-1)).map (((olX x:Int)-((k+1:Nat):Int))::·))
   rw[ho]
   rcases h with h|⟨c1,c2,l',h,rfl⟩
   · exact List.mem_append_left _ h
   · rw [c1, c2, cond_false, cond_false]
     exact List.mem_append_right _ (List.mem_map.2 ⟨l',h,rfl⟩)
  rcases List.mem_append.1 hw' with h1|h1
  · obtain ⟨g, l, q1, q2, q3, q4⟩ := way_pth hO k f 0 m w h1 (by omega) hc1
    exact⟨g,l,q1,q2,q3,goal l (.inl q4)⟩
  · cases c1 : ieq m 0 with
    |true=>rw[c1] at h1;cases h1
    |false=>
    cases c2:ile (rowX x) r with
    |true=>rw[c1,c2] at h1;cases h1
    |false=>
     rw[c1,c2,cond_false,cond_false] at h1
     obtain⟨g,l,q1,q2,q3,q4⟩:=way_pth hO k _ (r+1) (m-1) w h1 (by omega) hc2
     rw[ind_set hc (by rw[inB_iff];exact decide_eq_true ⟨by omega,by omega⟩),List.append_assoc] at q3
     exact⟨g,_,q1,q2,q3,goal _ (.inr ⟨c1,c2,l,q4,rfl⟩)⟩
theorem with_app:∀ (a b:List Int) (f:tB.den),withV (a++b) f=withV b (withV a f)
 |[],_,_=>rfl
 |i::a,b,f=>with_app a b (setF f i)
theorem with_ind (g:tB.den):withV (indV g) fno=g:=by
 obtain⟨b0,b1,b2,b3,b4,b5,b6,b7,u⟩:=g
 unfold indV
 rw[with_app,with_app,with_app,with_app,with_app,with_app,with_app]
 rw[show withV (bif b0 then [0] else []) fno=(b0,false,false,false,false,false,false,false,()) by cases b0<;>rfl]
 rw[show withV (bif b1 then [1] else []) (b0,false,false,false,false,false,false,false,())=(b0,b1,false,false,false,false,false,false,()) by cases b1<;>rfl]
 rw[show withV (bif b2 then [2] else []) (b0,b1,false,false,false,false,false,false,())=(b0,b1,b2,false,false,false,false,false,()) by cases b2<;>rfl]
 rw[show withV (bif b3 then [3] else []) (b0,b1,b2,false,false,false,false,false,())=(b0,b1,b2,b3,false,false,false,false,()) by cases b3<;>rfl]
 rw[show withV (bif b4 then [4] else []) (b0,b1,b2,b3,false,false,false,false,())=(b0,b1,b2,b3,b4,false,false,false,()) by cases b4<;>rfl]
 rw[show withV (bif b5 then [5] else []) (b0,b1,b2,b3,b4,false,false,false,())=(b0,b1,b2,b3,b4,b5,false,false,()) by cases b5<;>rfl]
 rw[show withV (bif b6 then [6] else []) (b0,b1,b2,b3,b4,b5,false,false,())=(b0,b1,b2,b3,b4,b5,b6,false,()) by cases b6<;>rfl]
 cases b7<;>rfl
theorem asc_ok (w e o:Int):∀ (l:List Int) (prev run:Int) (j:Nat),okL w prev run l→(∀ i∈l,0≤i∧i<e)→ascV (e-1) o l prev j=(0,0)
 |[],_,_,_,_,_=>rfl
 |i::l,prev,run,j,h,hb=>by
  have h1:=hb i List.mem_cons_self
  show (bif ile 0 i&&ile i (e-1) then (bif ile i prev then ((j:Int),2) else ascV (e-1) o l i (j+1)) else ((j:Int),o))=(0,0)
  rw[ile_t h1.1,ile_t (show i≤e-1 by omega),Bool.and_self,cond_true,ile_f h.1,cond_false]
  exact asc_ok w e o l i _ (j+1) h.2.2 (fun i hi=>hb i (List.mem_cons_of_mem _ hi))
theorem alw_path (x:tX.den) (m b:Int):∀ (k:Nat) (f:tB.den) (l r:Int),(breT x (withV (somN (rowX x) m b k ((olX x:Int)-(k:Int)) l r) f)).2.2=true→wayV x (withV (somN (rowX x) m b k ((olX x:Int)-(k:Int)) l r) f)∈alwV x k f r (m-l)
 |0,f,l,r,h=>by
  have h':(breT x f).2.2=true:=h
  show wayV x f∈bif (breT x f).2.2 then [wayV x f] else []
  rw[h'];exact List.mem_singleton.2 rfl
 | k + 1, f, l, r, h => by
  have e:somN (rowX x) m b (k+1) ((olX x:Int)-((k+1:Nat):Int)) l r=bif bitV b ((olX x:Int)-((k+1:Nat):Int))&&(!ile m l&&!ile (rowX x) r) then ((olX x:Int)-((k+1:Nat):Int))::somN (rowX x) m b k ((olX x:Int)-((k+1:Nat):Int)+1) (l+1) (r+1) else somN (rowX x) m b k ((olX x:Int)-((k+1:Nat):Int)+1) l 0:=rfl
  rw[e,show (olX x:Int)-((k+1:Nat):Int)+1=(olX x:Int)-(k:Int) by omega] at h⊢
  show _∈alwV x k f 0 (m-l)++(bif ieq (m-l) 0 then [] else bif ile (rowX x) r then [] else alwV x k (setF f ((olX x:Int)-((k+1:Nat):Int))) (r+1) (m-l-1))
  cases c:bitV b ((olX x:Int)-((k+1:Nat):Int))&&(!ile m l&&!ile (rowX x) r) with
  |false=>
   rw[c,cond_false] at h
   rw[cond_false]
   exact List.mem_append_left _ (alw_path x m b k f l 0 h)
  |true=>
   rw[c,cond_true] at h
   rw[cond_true]
   simp only[Bool.and_eq_true,Bool.not_eq_true'] at c
   obtain⟨_,c2,c3⟩:=c
   have hlt:=ile_gt c2
   rw[show ieq (m-l) 0=false by rw[ieq_iff];exact decide_eq_false (by omega),cond_false,c3,cond_false,show m-l-1=m-(l+1) by omega]
   exact List.mem_append_right _ (alw_path x m b k _ (l+1) (r+1) h)
def leW (a b:tW.den):Prop:=@LT.lt Int _ a.2.1 b.2.1∨(a.2.1=b.2.1∧@LE.le Int _ a.2.2.1 b.2.2.1)
theorem leW_refl (a:tW.den):leW a a:=.inr ⟨rfl,Int.le_refl _⟩
theorem leW_trans {a b c:tW.den} (h:leW a b) (k:leW b c):leW a c:=by
 rcases h with h|⟨h,h'⟩<;>rcases k with k|⟨k,k'⟩
 · exact .inl (Int.lt_trans h k)
 · exact .inl (k▸h)
 · exact .inl (h.symm▸k)
 · exact .inr ⟨h.trans k,Int.le_trans h' k'⟩
theorem cmp_neg {a b:tW.den} (h:ile 0 (cmpV a b)=false):leW a b:=by
 unfold cmpV cmpI at h
 cases c1:ile b.2.1 a.2.1 with
 |false=>exact .inl (ile_gt c1)
 |true=>
 cases c2:ile a.2.1 b.2.1 with
 |false=>rw[c1,c2] at h;cases h
 |true=>
 have e:=Int.le_antisymm (ile_le c2) (ile_le c1)
 rw[c1,c2] at h
 simp only[Bool.not_true,cond_false] at h
 cases c3:ile b.2.2.1 a.2.2.1 with
 |false=>exact .inr ⟨e,Int.le_of_lt (ile_gt c3)⟩
 |true=>
 cases c4:ile a.2.2.1 b.2.2.1 with
 |false=>rw[c3,c4] at h;cases h
 |true=>exact .inr ⟨e,ile_le c4⟩
theorem cmp_pos {a b:tW.den} (h:ile 0 (cmpV a b)=true):leW b a:=by
 unfold cmpV cmpI at h
 cases c1:ile b.2.1 a.2.1 with
 |false=>rw[c1] at h;cases h
 |true=>
 cases c2:ile a.2.1 b.2.1 with
 |false=>exact .inl (ile_gt c2)
 |true=>
 have e:=Int.le_antisymm (ile_le c1) (ile_le c2)
 rw[c1,c2] at h
 simp only[Bool.not_true,cond_false] at h
 cases c3:ile b.2.2.1 a.2.2.1 with
 |false=>rw[c3] at h;cases h
 |true=>exact .inr ⟨e,ile_le c3⟩
theorem min_spec:∀ (l:List tW.den) (m:tW.den),minV m l∈m::l∧∀ w∈m::l,leW (minV m l) w
 |[],m=>⟨List.mem_singleton.2 rfl,fun w hw=>by rw[List.mem_singleton] at hw;subst hw;exact leW_refl _⟩
 | a :: l, m => by
  have e:minV m (a::l)=bif !ile 0 (cmpV a m) then minV a l else minV m l:=rfl
  rw[e]
  cases c:ile 0 (cmpV a m) with
  |false=>
   obtain⟨h1,h2⟩:=min_spec l a
   refine⟨List.mem_cons_of_mem _ h1,fun w hw=>?_⟩
   rcases List.mem_cons.1 hw with rfl|hw
   · exact leW_trans (h2 a List.mem_cons_self) (cmp_neg c)
   · exact h2 w hw
  |true=>
   obtain⟨h1,h2⟩:=min_spec l m
   refine⟨?_,fun w hw=>?_⟩
   · rcases List.mem_cons.1 h1 with h | h
     · rw[Bool.not_true,cond_false,h];exact List.mem_cons_self
     · exact List.mem_cons_of_mem _ (List.mem_cons_of_mem _ h)
   · rcases List.mem_cons.1 hw with rfl | hw
     · exact h2 w List.mem_cons_self
     · rcases List.mem_cons.1 hw with rfl | hw
       · exact leW_trans (h2 m List.mem_cons_self) (cmp_pos c)
       · exact h2 w (List.mem_cons_of_mem _ hw)
theorem least_spec (w:tW.den) (A:List tW.den):leastV (w::A)∈w::A∧∀ v∈w::A,leW (leastV (w::A)) v:=min_spec A w
end Go.Proofs.Ytmpaifgmccdipaa


set_option maxRecDepth 100000
namespace Go.Proofs.Ytmpaifgmccdipaa
open Go Go.Eng
noncomputable def sW (s:tS.den) (p:(Ty.sl tO).den) (b:Int):List Int:=somV s (p.2.length:Int) s.2.2.2.1 b
noncomputable def oW (s:tS.den) (p:(Ty.sl tO).den) (b:Int):Int×Int×Int:=outV s p (sW s p b)
noncomputable abbrev bW (s:tS.den) (p:(Ty.sl tO).den):tW.den×Int:=brkR s p
noncomputable def twC (s:tS.den) (p:(Ty.sl tO).den) (b:Int):List (Nat×AV):=[(0,(tS.av s)),(1,(.vs tO p.1 p.2)),(2,(.int .u8 (b))),(3,(.ptr 0 0)),(6,(.bool (false))),(7,(.vs tI ((bW s p).1.1.1) ((bW s p).1.1.2))),(8,(.int .i64 ((bW s p).1.2.1))),(9,(.int .i64 ((bW s p).1.2.2.1))),(10,(.int .i64 ((bW s p).2))),(11,(.vs tI (noI (sW s p b)) (sW s p b))),(12,(.int .i64 ((oW s p b).1))),(13,(.int .i64 ((oW s p b).2.1))),(14,(.int .i64 ((oW s p b).2.2))),(20,(.tup [(.vs tI ((bW s p).1.1.1) ((bW s p).1.1.2)),(.int .i64 ((bW s p).1.2.1)),(.int .i64 ((bW s p).1.2.2.1)),(.int .i64 ((bW s p).2))])),(21,(tS.av s)),(22,(.vs tO p.1 p.2)),(23,(.tup [(.vs tI ((bW s p).1.1.1) ((bW s p).1.1.2)),(.int .i64 ((bW s p).1.2.1)),(.int .i64 ((bW s p).1.2.2.1)),(.int .i64 ((bW s p).2))])),(24,(.vs tI ((bW s p).1.1.1) ((bW s p).1.1.2))),(25,(.int .i64 ((bW s p).1.2.1))),(26,(.int .i64 ((bW s p).1.2.2.1))),(27,(.int .i64 ((bW s p).2))),(28,(tS.av s)),(29,(.vs tO p.1 p.2)),(30,(.bool (ieq (plnV s p.2).2 0))),(31,(.bool (false))),(42,(tS.av s)),(43,(.vs tO p.1 p.2)),(44,(.int .i64 (Int.ofNat p.2.length))),(45,(.ptr 0 3)),(46,(.int .i64 (s.2.2.2.1))),(47,(.int .u8 (b))),(48,(.vs tI (noI (sW s p b)) (sW s p b))),(49,(.tup [(.int .i64 ((oW s p b).1)),(.int .i64 ((oW s p b).2.1)),(.int .i64 ((oW s p b).2.2))])),(50,(tS.av s)),(51,(.vs tO p.1 p.2)),(52,(.vs tI (noI (sW s p b)) (sW s p b))),(53,(.tup [(.int .i64 ((oW s p b).1)),(.int .i64 ((oW s p b).2.1)),(.int .i64 ((oW s p b).2.2))])),(54,(.int .i64 ((oW s p b).1))),(55,(.int .i64 ((oW s p b).2.1))),(56,(.int .i64 ((oW s p b).2.2))),(57,(.int .i64 ((oW s p b).2.2))),(58,(.bool (!ieq (oW s p b).2.2 0))),(62,(.bool (false))),(63,(.int .i64 ((bW s p).2))),(64,(.bool (false))),(79,(.int .i64 ((oW s p b).2.2))),(80,(.bool (ieq (oW s p b).2.2 0))),(95,(.bool (false)))]
noncomputable def twI (s:tS.den) (p:(Ty.sl tO).den) (b:Int) (R:List (Nat×AV)) (x22 x23:Int) (m:Nat):Cfg:=⟨.ex (pcOf C5 3 [0,0,1,0,1,1,1,1,1,1,1,1,1]) ⟨(tmOf 185 ((15,.int .i64 x22)::(16,.int .i64 x23)::(R++twC s p b))),(hpOf 2 [(0,(.cells false (tS.cells s))),(1,(.cells false (tS.cells s)))]),[],[],185,false⟩,⟨40,[]⟩,[(.lop (pcOf C5 3 [0,0,1,0,1,1,1,1,1,1,1,1,1]) 2 (tmOf 185 ((15,.int .i64 0)::(16,.int .i64 0)::(R++twC s p b))) m),(.blk 0),(.seq (pcOf C5 3 [1,1,1,1,1,1,1,1,1,1])),(.cal [(.tmp 6)] .top)]⟩
noncomputable def twR0 (s:tS.den) (p:(Ty.sl tO).den) (b:Int):List (Nat×AV):=[(59,(.bool (false))),(60,(.tup [])),(61,(.tup [])),(81,(.bool (false))),(82,(.tup [])),(83,(.tup [])),(84,(.tup [])),(85,(.tup [])),(86,(.tup [])),(87,(.tup [])),(88,(.tup [])),(89,(.tup [])),(90,(.tup [])),(91,(.tup [])),(92,(.tup [])),(93,(.tup [])),(94,(.tup []))]
noncomputable def twR1 (s:tS.den) (p:(Ty.sl tO).den) (b:Int):List (Nat×AV):=[(59,(.bool (false))),(60,(.tup [])),(61,(.tup [])),(81,(.bool (true))),(82,(.int .i64 ((oW s p b).1))),(83,(.int .i64 ((bW s p).1.2.1))),(84,(.bool (!ile (bW s p).1.2.1 (oW s p b).1))),(85,(.bool (false))),(86,(.int .i64 ((oW s p b).1))),(87,(.int .i64 ((bW s p).1.2.1))),(88,(.bool (ieq (oW s p b).1 (bW s p).1.2.1))),(89,(.bool (false))),(90,(.tup [])),(91,(.tup [])),(92,(.tup [])),(93,(.bool (false))),(94,(.bool (false)))]
noncomputable def twR2 (s:tS.den) (p:(Ty.sl tO).den) (b:Int):List (Nat×AV):=[(59,(.bool (false))),(60,(.tup [])),(61,(.tup [])),(81,(.bool (true))),(82,(.int .i64 ((oW s p b).1))),(83,(.int .i64 ((bW s p).1.2.1))),(84,(.bool (!ile (bW s p).1.2.1 (oW s p b).1))),(85,(.bool (false))),(86,(.int .i64 ((oW s p b).1))),(87,(.int .i64 ((bW s p).1.2.1))),(88,(.bool (ieq (oW s p b).1 (bW s p).1.2.1))),(89,(.bool (true))),(90,(.int .i64 ((oW s p b).2.1))),(91,(.int .i64 ((bW s p).1.2.2.1))),(92,(.bool (!ile (bW s p).1.2.2.1 (oW s p b).2.1))),(93,(.bool (!ile (bW s p).1.2.2.1 (oW s p b).2.1))),(94,(.bool (!ile (bW s p).1.2.2.1 (oW s p b).2.1)))]
noncomputable def twR3 (s:tS.den) (p:(Ty.sl tO).den) (b:Int):List (Nat×AV):=[(59,(.bool (true))),(60,(.int .i64 ((oW s p b).2.2))),(61,(.bool (!ieq (oW s p b).2.2 4))),(81,(.bool (false))),(82,(.tup [])),(83,(.tup [])),(84,(.tup [])),(85,(.tup [])),(86,(.tup [])),(87,(.tup [])),(88,(.tup [])),(89,(.tup [])),(90,(.tup [])),(91,(.tup [])),(92,(.tup [])),(93,(.tup [])),(94,(.tup []))]
noncomputable def twR4 (s:tS.den) (p:(Ty.sl tO).den) (b:Int):List (Nat×AV):=[(59,(.bool (true))),(60,(.int .i64 ((oW s p b).2.2))),(61,(.bool (!ieq (oW s p b).2.2 4))),(81,(.bool (true))),(82,(.int .i64 ((oW s p b).1))),(83,(.int .i64 ((bW s p).1.2.1))),(84,(.bool (!ile (bW s p).1.2.1 (oW s p b).1))),(85,(.bool (false))),(86,(.int .i64 ((oW s p b).1))),(87,(.int .i64 ((bW s p).1.2.1))),(88,(.bool (ieq (oW s p b).1 (bW s p).1.2.1))),(89,(.bool (false))),(90,(.tup [])),(91,(.tup [])),(92,(.tup [])),(93,(.bool (false))),(94,(.bool (false)))]
noncomputable def twR5 (s:tS.den) (p:(Ty.sl tO).den) (b:Int):List (Nat×AV):=[(59,(.bool (true))),(60,(.int .i64 ((oW s p b).2.2))),(61,(.bool (!ieq (oW s p b).2.2 4))),(81,(.bool (true))),(82,(.int .i64 ((oW s p b).1))),(83,(.int .i64 ((bW s p).1.2.1))),(84,(.bool (!ile (bW s p).1.2.1 (oW s p b).1))),(85,(.bool (false))),(86,(.int .i64 ((oW s p b).1))),(87,(.int .i64 ((bW s p).1.2.1))),(88,(.bool (ieq (oW s p b).1 (bW s p).1.2.1))),(89,(.bool (true))),(90,(.int .i64 ((oW s p b).2.1))),(91,(.int .i64 ((bW s p).1.2.2.1))),(92,(.bool (!ile (bW s p).1.2.2.1 (oW s p b).2.1))),(93,(.bool (!ile (bW s p).1.2.2.1 (oW s p b).2.1))),(94,(.bool (!ile (bW s p).1.2.2.1 (oW s p b).2.1)))]
noncomputable def chkR (s:tS.den) (p:(Ty.sl tO).den) (L:List Int) (x23 r:Int) (nx:Option Out):Option Out:=
 bif inB x23 L.length then (bif !ile 0 (L.getD x23.toNat tI.dflt) then some (.done (.bool false)) else (bif inB x23 L.length then (bif ile (p.2.length:Int) (L.getD x23.toNat tI.dflt) then some (.done (.bool false)) else (bif !ile x23 0 then (bif inB x23 L.length then (bif inB (wr .i64 (x23-1)) L.length then (bif ile (L.getD x23.toNat tI.dflt) (L.getD (wr .i64 (x23-1)).toNat tI.dflt) then some (.done (.bool false)) else (bif !ile r s.2.2.2.2.1 then some (.done (.bool false)) else nx)) else none) else none) else (bif !ile r s.2.2.2.2.1 then some (.done (.bool false)) else nx))) else none)) else none
noncomputable def lpW (s:tS.den) (p:(Ty.sl tO).den) (x22 x23:Int) (nx:Int→Option Out):Option Out:=
 bif !ile ((bW s p).1.1.2.length:Int) x23 then (bif !ile x23 0 then (bif inB x23 (bW s p).1.1.2.length then (bif inB (wr .i64 (x23-1)) (bW s p).1.1.2.length then (bif !ieq ((bW s p).1.1.2.getD x23.toNat tI.dflt) (wr .i64 ((bW s p).1.1.2.getD (wr .i64 (x23-1)).toNat tI.dflt+1)) then chkR s p (bW s p).1.1.2 x23 1 (nx 1) else chkR s p (bW s p).1.1.2 x23 (wr .i64 (x22+1)) (nx (wr .i64 (x22+1)))) else none) else none) else chkR s p (bW s p).1.1.2 x23 (wr .i64 (x22+1)) (nx (wr .i64 (x22+1))))
 else (bif ile ((bW s p).1.1.2.length:Int) s.2.2.2.1 then (bif ieq (outV s p (bW s p).1.1.2).2.2 0 then (bif ieq (outV s p (bW s p).1.1.2).1 (bW s p).1.2.1 then (bif ieq (outV s p (bW s p).1.1.2).2.1 (bW s p).1.2.2.1 then some (.done (.bool true)) else some (.done (.bool false))) else some (.done (.bool false))) else some (.done (.bool false))) else some (.done (.bool false)))
theorem twh_start (s:tS.den) (p:(Ty.sl tO).den) (b:Int):adv C5 (U5 [3]) 3000 (startC C5 3 [tS.av s,.vs tO p.1 p.2,.int .u8 b] 40)=(bif !ieq (plnV s p.2).2 0 then (bif !ieq (bW s p).2 0 then (bif ieq (↑(bW s p).1.1.2.length) 0 then some (.done (.bool (true))) else some (.done (.bool (false)))) else some (.done (.bool (false)))) else (bif ile (↑p.2.length) 1000 then (bif !ieq (oW s p b).2.2 0 then (bif !ieq (oW s p b).2.2 4 then some (.done (.bool (false))) else (bif !ieq (bW s p).2 0 then (bif ieq (bW s p).2 4 then (bif ieq (oW s p b).2.2 4 then (bif ieq (↑(bW s p).1.1.2.length) 0 then some (.done (.bool (true))) else some (.done (.bool (false)))) else some (.done (.bool (false)))) else some (.done (.bool (false)))) else (bif ieq (oW s p b).2.2 0 then (bif !ile (bW s p).1.2.1 (oW s p b).1 then some (.done (.bool (false))) else (bif ieq (oW s p b).1 (bW s p).1.2.1 then (bif !ile (bW s p).1.2.2.1 (oW s p b).2.1 then some (.done (.bool (false))) else some (.stop (twI s p b (twR5 s p b) 0 0 1048575))) else some (.stop (twI s p b (twR4 s p b) 0 0 1048575)))) else some (.stop (twI s p b (twR3 s p b) 0 0 1048575))))) else (bif !ieq (bW s p).2 0 then (bif ieq (bW s p).2 4 then (bif ieq (oW s p b).2.2 4 then (bif ieq (↑(bW s p).1.1.2.length) 0 then some (.done (.bool (true))) else some (.done (.bool (false)))) else some (.done (.bool (false)))) else some (.done (.bool (false)))) else (bif ieq (oW s p b).2.2 0 then (bif !ile (bW s p).1.2.1 (oW s p b).1 then some (.done (.bool (false))) else (bif ieq (oW s p b).1 (bW s p).1.2.1 then (bif !ile (bW s p).1.2.2.1 (oW s p b).2.1 then some (.done (.bool (false))) else some (.stop (twI s p b (twR2 s p b) 0 0 1048575))) else some (.stop (twI s p b (twR1 s p b) 0 0 1048575)))) else some (.stop (twI s p b (twR0 s p b) 0 0 1048575))))) else none)):=by kernel_rfl
theorem twh_step1 (s:tS.den) (p:(Ty.sl tO).den) (b:Int) (x22 x23:Int) (m:Nat):adv C5 (U5 [3]) 3000 (twI s p b (twR1 s p b) x22 x23 (m+1))=lpW s p x22 x23 (fun r=>some (.stop (twI s p b (twR1 s p b) r (wr .i64 (x23+1)) m))):=by kernel_rfl
theorem twh_step2 (s:tS.den) (p:(Ty.sl tO).den) (b:Int) (x22 x23:Int) (m:Nat):adv C5 (U5 [3]) 3000 (twI s p b (twR2 s p b) x22 x23 (m+1))=lpW s p x22 x23 (fun r=>some (.stop (twI s p b (twR2 s p b) r (wr .i64 (x23+1)) m))):=by kernel_rfl
theorem twh_step3 (s:tS.den) (p:(Ty.sl tO).den) (b:Int) (x22 x23:Int) (m:Nat):adv C5 (U5 [3]) 3000 (twI s p b (twR3 s p b) x22 x23 (m+1))=lpW s p x22 x23 (fun r=>some (.stop (twI s p b (twR3 s p b) r (wr .i64 (x23+1)) m))):=by kernel_rfl
end Go.Proofs.Ytmpaifgmccdipaa


set_option maxRecDepth 100000
namespace Go.Proofs.Ytmpaifgmccdipaa
open Go Go.Eng
theorem chk_nx {s:tS.den} {p:(Ty.sl tO).den} {L:List Int} {k:Nat} {r:Int} {nx:Option Out} (hk:k<L.length) (h8:L.length≤8) (h0:0≤L[k]) (hl:L[k]<(p.2.length:Int)) (hp:∀ j (h:j<L.length),k=j+1→L[j]<L[k]) (hr:ile r s.2.2.2.2.1=true):chkR s p L (k:Int) r nx=nx:=by
 unfold chkR
 rw[inB_at hk,cond_true,getD_at hk,ile_t h0,Bool.not_true,cond_false,cond_true,ile_f hl,cond_false,hr]
 cases k with
 |zero=>rw[ile_t (show (((0:Nat):Int))≤0 by omega)];rfl
 |succ j=>
  have hj:j<L.length:=by omega
  rw[ile_f (show (0:Int)<((j+1:Nat):Int) by omega),Bool.not_false,cond_true,cond_true,wr_in (show -9223372036854775808≤((j+1:Nat):Int)-1 by omega) (by omega),show ((j+1:Nat):Int)-1=(j:Int) by omega,inB_at hj,cond_true,getD_at hj,ile_f (hp j hj rfl)]
  rfl
section
variable {s:tS.den} {p:(Ty.sl tO).den} {b:Int} {R:List (Nat×AV)}
theorem tw_lp (hst:∀ (x22 x23:Int) (m:Nat),adv C5 (U5 [3]) 3000 (twI s p b R x22 x23 (m+1))=lpW s p x22 x23 (fun r=>some (.stop (twI s p b R r (wr .i64 (x23+1)) m))))
  {L:List Int} (hL:(bW s p).1.1.2=L) (h8:L.length≤8) (hp8:p.2.length≤8) (hb:∀ i∈L,0≤i∧i<(p.2.length:Int)) (hF:ile (L.length:Int) s.2.2.2.1=true) (ho:outV s p L=((bW s p).1.2.1,(bW s p).1.2.2.1,0)) :
  ∀ (rem k m0:Nat) (prev run:Int),k+rem=L.length→rem<m0→okL s.2.2.2.2.1 prev run (L.drop k)→(k=0→prev=-1∧run=0)→(∀ j (h:j<L.length),k=j+1→L[j]=prev)→0≤run→run≤k→AnsB C5 (twI s p b R run k m0) true
 |0,k,m0,prev,run,h1,h2,h3,h4,h5,h6,h7=>by
  obtain⟨m,rfl⟩:∃ m,m0=m+1:=⟨m0-1,by omega⟩
  have h:=hst run k m
  unfold lpW at h
  rw[hL,ile_t (show (L.length:Int)≤(k:Int) by omega),Bool.not_true,cond_false,hF,cond_true,ho,ieq_self,ieq_self,ieq_self] at h
  exact .doneB (U5_ok _) C5sy h rfl
 | rem + 1, k, m0, prev, run, h1, h2, h3, h4, h5, h6, h7 => by
  obtain⟨m,rfl⟩:∃ m,m0=m+1:=⟨m0-1,by omega⟩
  have hk:k<L.length:=by omega
  have h:=hst run k m
  have hbk:=hb _ (List.getElem_mem hk)
  rw[List.drop_eq_getElem_cons hk] at h3
  obtain⟨a1,a2,a3⟩:=h3
  have hpp:∀ j (h:j<L.length),k=j+1→L[j]<L[k]:=fun j hj e=>by rw[h5 j hj e];exact a1
  have hjk:∀ j (h:j<L.length),k+1=j+1→L[j]=L[k]:=fun j hj e=>by
   have e':j=k:=by omega
   subst e'
   rfl
  have fin:∀ r:Int,r=(if L[k]=prev+1 then run+1 else 1)→AnsB C5 (twI s p b R r ((k+1:Nat):Int) m) true:=fun r e=>
   tw_lp hst hL h8 hp8 hb hF ho rem (k+1) m (L[k]) r (by omega) (by omega) (by rw[e];exact a3) (fun h=>by omega) hjk (by rw[e];split<;>omega) (by rw[e];split<;>omega)
  unfold lpW at h
  rw[hL,ile_f (show (k:Int)<(L.length:Int) by omega),Bool.not_false,cond_true,wr_succ (show k<1048577 by omega)] at h
  cases k with
  |zero=>
   obtain⟨rfl,rfl⟩:=h4 rfl
   have e1:(1:Int)=(if L[0]=-1+1 then (0:Int)+1 else 1):=by split<;>rfl
   rw[ile_t (show (((0:Nat):Int))≤0 by omega),Bool.not_true,cond_false,wr_in (show -9223372036854775808≤(0:Int)+1 by omega) (by omega),show (0:Int)+1=1 from rfl,chk_nx hk h8 hbk.1 hbk.2 hpp (ile_t (by rw[e1];exact a2))] at h
   exact .stop (U5_ok _) C5sy h (fin 1 e1)
  | succ j =>
   have hj:j<L.length:=by omega
   have hpj:=h5 j hj rfl
   have hbj:=hb _ (List.getElem_mem hj)
   rw[hpj] at hbj
   rw[ile_f (show (0:Int)<((j+1:Nat):Int) by omega),Bool.not_false,cond_true,inB_at hk,cond_true,wr_in (show -9223372036854775808≤((j+1:Nat):Int)-1 by omega) (by omega),show ((j+1:Nat):Int)-1=(j:Int) by omega,inB_at hj,cond_true,getD_at hk,getD_at hj,hpj,wr_in (show -9223372036854775808≤prev+1 by omega) (by omega),wr_in (show -9223372036854775808≤run+1 by omega) (by omega)] at h
   cases c:ieq (L[j+1]) (prev+1) with
   |true=>
    have e:=ieq_eq c
    have e1:run+1=(if L[j+1]=prev+1 then run+1 else 1):=by rw[if_pos e]
    rw[c,Bool.not_true,cond_false,chk_nx hk h8 hbk.1 hbk.2 hpp (ile_t (by rw[e1];exact a2))] at h
    exact .stop (U5_ok _) C5sy h (fin _ e1)
   |false=>
    have e1:(1:Int)=(if L[j+1]=prev+1 then run+1 else 1):=by rw[if_neg (fun e=>by rw[e,ieq_self] at c;cases c)]
    rw[c,Bool.not_false,cond_true,chk_nx hk h8 hbk.1 hbk.2 hpp (ile_t (by rw[e1];exact a2))] at h
    exact .stop (U5_ok _) C5sy h (fin _ e1)
end
theorem twh_true (s:tS.den) (p:(Ty.sl tO).den) (b:Int):∃ σ,callN C5 (40+1) 3 [tS.av s,(Ty.sl tO).av p,tU.av b] .empty [] []=some (.bool true,σ,[]):=by
 refine AnsB.call (ext_none (by kernel_rfl)) (hasB_spec (by kernel_rfl)) ?_
 have h:=twh_start s p b
 cases V:ieq (plnV s p.2).2 0 with
 |false=>
  have e:bW s p=(((true,[]),0,0,()),(plnV s p.2).2):=by unfold bW brkR;rw[V];rfl
  rw[e,V] at h
  exact .doneB (U5_ok _) C5sy h rfl
 |true=>
 have h8:=(pln_ok V).len
 have X:=xok_of (pln_ok V)
 obtain⟨f0,f8,r1,r8⟩:=fail_ok (num_ok V)
 have eO:oW s p b=bif (breT (xSP s p) (withV (sW s p b) fno)).2.2 then ((breT (xSP s p) (withV (sW s p b) fno)).1,(breT (xSP s p) (withV (sW s p b) fno)).2.1,0) else (0,0,4):=by
  unfold oW outV sW
  rw[ask_som V,ieq_self,cond_true]
 have hin:(breT (xSP s p) (withV (sW s p b) fno)).2.2=true→wayV (xSP s p) (withV (sW s p b) fno)∈brkA s p:=fun q=>by
  have:=alw_path (xSP s p) s.2.2.2.1 b (olX (xSP s p)) fno 0 0
  rw[show (olX (xSP s p):Int)-((olX (xSP s p):Nat):Int)=0 by omega] at this
  have:=this q
  rw[Int.sub_zero] at this
  exact this
 rw[V,ile_t (show (p.2.length:Int)≤1000 by omega)] at h
 cases hA:brkA s p with
 | nil =>
  have e:bW s p=(((true,[]),0,0,()),4):=by unfold bW brkR;rw[V,cond_true,hA]
  have hb:(breT (xSP s p) (withV (sW s p b) fno)).2.2=false:=by
   cases q:(breT (xSP s p) (withV (sW s p b) fno)).2.2 with
   |false=>rfl
   |true=>have:=hin q;rw[hA] at this;cases this
  rw[hb,cond_false] at eO
  rw[e,eO] at h
  exact .doneB (U5_ok _) C5sy h rfl
 | cons w A =>
  have e:bW s p=(leastV (w::A),0):=by unfold bW brkR;rw[V,cond_true,hA]
  obtain⟨m1,m2⟩:=least_spec w A
  have m1':leastV (w::A)∈brkA s p:=by rw[hA];exact m1
  obtain⟨g,l,q1,q2,q3,q4⟩:=way_pth (xok X).o (olX (xSP s p)) fno 0 s.2.2.2.1 (leastV (w::A)) m1' (Nat.le_refl _) ⟨fun _=>rfl,fun _=>rfl,fun _=>rfl,fun _=>rfl,fun _=>rfl,fun _=>rfl,fun _=>rfl,fun _=>rfl⟩
  rw[show (olX (xSP s p):Int)-((olX (xSP s p):Nat):Int)=0 by omega] at q4
  have q3':indV g=l:=q3
  obtain⟨p1,p2,p3⟩:=pths_ok (rowX (xSP s p)) (olX (xSP s p)) 0 0 s.2.2.2.1 l q4 f0 (Int.le_refl _)
  rw[show (0:Int)-1=-1 from rfl] at p1
  have e2:bW s p=(wayV (xSP s p) g,0):=by rw[e,q1]
  have hL:(bW s p).1.1.2=l:=by rw[e2];exact q3'
  have hb:∀ i∈l,0≤i∧i<(p.2.length:Int):=fun i hi=>by
   have:=p2 i hi
   exact⟨this.1,by have h2:i<0+(p.2.length:Int):=this.2;omega⟩
  have hl8:l.length≤8:=by rw[← q3'];exact ind_len8 g
  have ho:outV s p l=((bW s p).1.2.1,(bW s p).1.2.2.1,0):=by
   have ea:askV s p.2 l=0:=by
    unfold askV rixV
    rw[V,cond_true,wr_in (by omega) (by omega),asc_ok (rowX (xSP s p)) (p.2.length:Int) 4 l (-1) 0 0 p1 hb]
   unfold outV
   rw[ea,ieq_self,cond_true,← q3',with_ind,q2,cond_true,e2]
   rfl
  have hF:ile (l.length:Int) s.2.2.2.1=true:=ile_t p3
  have fin:∀ {R:List (Nat×AV)},(∀ (x22 x23:Int) (m:Nat),adv C5 (U5 [3]) 3000 (twI s p b R x22 x23 (m+1))=lpW s p x22 x23 (fun r=>some (.stop (twI s p b R r (wr .i64 (x23+1)) m))))→AnsB C5 (twI s p b R 0 0 1048575) true:=fun {R} hst=>
   tw_lp hst hL hl8 h8 hb hF ho l.length 0 1048575 (-1) 0 (by omega) (by omega) p1 (fun _=>⟨rfl,rfl⟩) (fun j _ e=>by omega) (Int.le_refl _) (Int.le_refl _)
  have e3:(bW s p).2=0:=by rw[e]
  cases q:(breT (xSP s p) (withV (sW s p b) fno)).2.2 with
  |false=>
   rw[q,cond_false] at eO
   rw[e3,eO] at h
   exact .stop (U5_ok _) C5sy h (fin (twh_step3 s p b))
  | true =>
   rw[q,cond_true] at eO
   have hle:=m2 _ (by rw[← hA];exact hin q)
   have hd:(bW s p).1=leastV (w::A):=by rw[e]
   rw[← hd] at hle
   rw[e3,eO] at h
   generalize (bW s p).1=W at h hle
   obtain⟨D,hD⟩:∃ D:Int,(breT (xSP s p) (withV (sW s p b) fno)).1=D:=⟨_,rfl⟩
   obtain⟨N,hN⟩:∃ N:Int,(breT (xSP s p) (withV (sW s p b) fno)).2.1=N:=⟨_,rfl⟩
   obtain⟨D',hD'⟩:∃ D':Int,W.2.1=D':=⟨_,rfl⟩
   obtain⟨N',hN'⟩:∃ N':Int,W.2.2.1=N':=⟨_,rfl⟩
   have hle':D'<D∨(D'=D∧N'≤N):=by
    unfold leW at hle
    rw[hD',hN'] at hle
    have hle2:@LT.lt Int _ D' (breT (xSP s p) (withV (sW s p b) fno)).1∨(D'=(breT (xSP s p) (withV (sW s p b) fno)).1∧@LE.le Int _ N' (breT (xSP s p) (withV (sW s p b) fno)).2.1):=hle
    rw[hD,hN] at hle2
    exact hle2
   rw[hD,hN,hD',hN'] at h
   have t1:ile D' D=true:=ile_t (by omega)
   simp only[ieq_self,Bool.not_true,cond_false,cond_true,t1] at h
   cases c:ieq D D' with
   |false=>rw[c] at h;exact .stop (U5_ok _) C5sy h (fin (twh_step1 s p b))
   |true=>
    have t2:ile N' N=true:=ile_t (by have:=ieq_eq c;omega)
    rw[c,t2] at h
    exact .stop (U5_ok _) C5sy h (fin (twh_step2 s p b))
end Go.Proofs.Ytmpaifgmccdipaa


namespace Go.Eng
open Go
attribute [local irreducible] upTo
noncomputable def oldAll (since:Nat):List ((AV×AV)×Nat)→Bool
 |[]=>true
 |z::l=>match Nat.ble since z.2 with
  |true=>false
  |false=>oldAll since l
noncomputable def nextL (τ:Tmps) (σ:Hp) (x:Operand):Option (List (AV×Hp)):=
 match ev τ x with
 | some (.iter id) => match σ.get id with
  | some (.miter m since seen last) => match σ.get m with
   | some (.cmap es bs ck) => match (match seen, es with | [], _ => false | _, [] => false | _, _ => allB last bs) with
    |true=>none
    | false => match leftM es bs seen with
     |[]=>some [(.tup [.bool false],σ)]
     |y::l=>match oldAll since (y::l) with
      |true=>some ((y::l).map fun z=>(.tup [.bool true,z.1.1,z.1.2],σ.set id (.miter m since (seen++[z.2]) ck)))
      |false=>none
   |_=>none
  |_=>none
 |_=>none
section
variable {P:Program} {E:Env} {base:Nat} {V:View} {σ:Hp} {W:World} {τ:Tmps} {ρ:Operand→Value}
variable {dst:Option Tmp} {ty:TypeId} {pos:String} {after:Array Edge} {guard:Option (Nat×Bool)}
theorem oldAll_spec {since:Nat}:∀ {l:List ((AV×AV)×Nat)},oldAll since l=true→∀ z∈l,z.2<since
 |[],_,z,hz=>by cases hz
 |y::l,h,z,hz=>by
  simp only[oldAll] at h
  split at h
  · cases h
  · rename_i hb
    rcases List.mem_cons.1 hz with rfl|hz
    · have : ¬ since ≤ z.2 := fun e => by rw [Nat.ble_eq_true_of_le e] at hb; cases hb
      omega
    · exact oldAll_spec h z hz
theorem left_all {seen:List Nat}:∀ {es:List (AV×AV)} {en:List MapEntry},VRs V (es.map (·.1)) (en.map (·.key))→VRs V (es.map (·.2)) (en.map (·.val)) →
  (leftM es (en.map (·.born)) seen).length=(en.filter fun e=>!seen.contains e.born).length ∧
  ∀ (j:Nat) (e:MapEntry),(en.filter fun e=>!seen.contains e.born)[j]?=some e→∃ k v,(leftM es (en.map (·.born)) seen)[j]?=some ((k,v),e.born)∧VR V k e.key∧VR V v e.val
 |[],[],_,_=>⟨rfl,fun j e h=>by rw[List.filter_nil] at h;simp at h⟩
 |[],_::_,h,_=>absurd h.1 (by simp)
 |_::_,[],h,_=>absurd h.1 (by simp)
 | (k, v) :: es, e :: en, h1, h2 => by
  obtain⟨A,As,ea,hx,h1'⟩:=h1.cons_inv
  obtain⟨B,Bs,eb,hv,h2'⟩:=h2.cons_inv
  simp only[List.map_cons,List.cons.injEq] at ea eb
  obtain⟨rfl,rfl⟩:=ea
  obtain⟨rfl,rfl⟩:=eb
  obtain⟨i1,i2⟩:=left_all (seen:=seen) h1' h2'
  simp only[List.map_cons,leftM,memN_eq]
  cases hc:seen.contains e.born with
  |true=>
   rw[List.filter_cons_of_neg (by simp only[hc];decide)]
   exact⟨i1,i2⟩
  | false =>
   rw[List.filter_cons_of_pos (by simp only[hc];rfl)]
   refine⟨by simp only[List.length_cons,i1],fun j e' h=>?_⟩
   cases j with
   |zero=>
    simp only[List.getElem?_cons_zero,Option.some.injEq] at h;subst h
    exact⟨k,v,rfl,hx,hv⟩
   |succ j=>
    rw[List.getElem?_cons_succ] at h
    exact i2 j e' h
theorem run_choose_next {n:Nat} (hn:0<n):∃ i W1,i<n∧(W1=W∨W1=W.drew)∧(choose (.mapNext n)).run P W=.ok i W1:=by
 cases h:(Question.mapNext n).forced with
 |true=>
  refine⟨0,W,hn,.inl rfl,?_⟩
  rw[run_choose,if_pos h]
 |false=>
  refine⟨W.tape W.drawn (.mapNext n) % n,W.drew,Nat.mod_lt _ hn,.inr rfl,?_⟩
  rw[run_choose,if_neg (by rw[h];decide)];rfl
variable (hE:EnvOK P E) (H:HR E base V σ W) (hb:base≤W.heap.size) (hρ:EvR V τ ρ)
include hE H hb hρ
theorem s_nextL (x : Operand) {L : List (AV × Hp)} (h : nextL τ σ x = some L) : ∃ r ∈ L, OpOK P E base V σ W ((execOp ρ ⟨dst, .next x false, ty, pos, after, guard⟩).run P W) (.val r.1 r.2) := by
 unfold nextL at h
 split at h
 · rename_i id hx
   split at h
   · rename_i m since seen last hget
     split at h
     · rename_i es bs ck hgm
       obtain⟨blk,sh,hm,hbase,hlt,rfl,mb,hmb,hobj⟩:=H.obj _ _ hget (by simp)
       obtain⟨blk2,sh2,hm2,_,hlt2,rfl,en,hobj2,hv1,hv2,rfl⟩:=H.obj _ _ hgm (by simp)
       rw[hmb] at hm2;simp only[Option.some.injEq,Prod.mk.injEq,and_true] at hm2;subst hm2
       have hX:ρ x=.pointer (some ⟨blk,0,none⟩):=by
        have:=hρ x _ hx
        generalize ρ x=X at this
        cases this with
        |iter _ blk' hm'=>rw[hm] at hm';simp only[Option.some.injEq,Prod.mk.injEq,and_true] at hm';subst hm';rfl
       have hg:=getObj_run (P:=P) hE H hb hρ hobj (by intro c t f e;cases e)
       have hg2:=getObj_run (P:=P) hE H hb hρ hobj2 (by intro c t f e;cases e)
       split at h
       · cases h
       · rename_i hcond
         have hc:(!seen.toArray.isEmpty&&!en.isEmpty&&en.all (fun e=>decide (e.born ≥ last)))=false:=by
          cases seen with
          |nil=>rfl
          | cons a seen =>
           cases hes:es with
           |nil=>
            subst hes
            have:en.toList.length=0:=by have:=hv1.1;simpa using this.symm
            have:en=#[]:=Array.toList_eq_nil_iff.1 (List.eq_nil_of_length_eq_zero this)
            subst this;simp
           | cons y es' =>
            rw[hes] at hcond
            simp only[allB_eq] at hcond
            have:en.all (fun e=>decide (e.born ≥ last))=false:=by
             rw[← Array.all_toList]
             rw[List.all_map] at hcond
             exact hcond
            rw[this,Bool.and_false]
         obtain⟨hll,hls⟩:=left_all (V:=V) (seen:=seen) hv1 hv2
         have hfilt:en.filter (fun e=>!seen.toArray.contains e.born)=(en.toList.filter fun e=>!seen.contains e.born).toArray:=by
          apply Array.ext'
          rw[Array.toList_filter]
          simp
         split at h
         · rename_i hl
           simp only[Option.some.injEq] at h;subst h
           rw[hl] at hll
           refine⟨_,List.mem_cons_self,.same H (v':=.tuple #[.bool false]) ?_ (VR.tup' (A:=[.bool false]) (.cons (.bool _) (.nil _)))⟩
           have hf0:en.filter (fun e=>!seen.toArray.contains e.born)=#[]:=by rw[hfilt,List.eq_nil_of_length_eq_zero hll.symm]
           simp only[execOp,Instr.next,hX,Sem.run_bind,hg,hg2,Result.andThen_ok,hc,Bool.false_eq_true,if_false,hf0]
           simp[Question.forced]
         · rename_i y l hl
           split at h
           · rename_i hold
             simp only[Option.some.injEq] at h;subst h
             rw[hl] at hll hls
             have hold':=oldAll_spec hold
             have hF:∀ e∈en.toList.filter (fun e=>!seen.contains e.born),e.born<since:=fun e he=>by
              obtain⟨j,hj,hje⟩:=List.getElem_of_mem he
              obtain⟨k,v,h1,_,_⟩:=hls j e (by rw[List.getElem?_eq_getElem hj,hje])
              exact hold' _ (List.mem_of_getElem? h1)
             obtain⟨i,W1,hi,hW1,hch⟩:=run_choose_next (P:=P) (W:=W) (n:=(en.toList.filter fun e=>!seen.contains e.born).length) (by rw[← hll];exact Nat.succ_pos _)
             have he:(en.toList.filter fun e=>!seen.contains e.born)[i]?=some ((en.toList.filter fun e=>!seen.contains e.born)[i]):=List.getElem?_eq_getElem hi
             obtain⟨k,v,h1,hk,hv⟩:=hls i _ he
             refine⟨_,List.mem_map.2 ⟨_,List.mem_of_getElem? h1,rfl⟩,?_⟩
             generalize hee:(en.toList.filter fun e=>!seen.contains e.born)[i]=e at he h1 hk hv
             have H1:HR E base V σ W1:=by
              rcases hW1 with rfl|rfl
              · exact H
              · exact H.drew
             have hobj1:W1.heap[blk]?=some (.mapIter (some mb) since seen.toArray last):=by rcases hW1 with rfl|rfl<;>exact hobj
             have hb1:base≤W1.heap.size:=by rcases hW1 with rfl|rfl<;>exact hb
             have hlt1:blk<W1.heap.size:=by rcases hW1 with rfl|rfl<;>exact hlt
             have hset:=setObj_run (P:=P) hE H1 hb1 hρ hobj1 (by intro c t f e;cases e) (o':=.mapIter (some mb) since (seen++[e.born]).toArray ck)
             have hup:=upd_obj hE H1 hb1 hρ hget (by simp) hm hobj1 (by intro c t f e;cases e) (obj':=.mapIter (some mb) since (seen++[e.born]).toArray ck) (o':=.miter m since (seen++[e.born]) ck) ⟨rfl,mb,hmb,by simp[hlt1]⟩
             have hstp:Stp E base V σ W V (σ.set id (.miter m since (seen++[e.born]) ck)) { W1 with heap:=W1.heap.setIfInBounds blk (.mapIter (some mb) since (seen++[e.born]).toArray ck) }:=by
              rcases hW1 with h1|h1
              · rw[h1] at hup⊢;exact hup
              · rw[h1] at hup⊢;exact hup.of_drew
             refine⟨V,_,.tuple #[.bool true,e.key,e.val],?_,hstp,VR.tup' (A:=[.bool true,e.key,e.val]) (.cons (.bool _) (.cons hk (.cons hv (.nil _))))⟩
             have hfs:en.filter (fun e=>!seen.toArray.contains e.born)=(en.toList.filter fun e=>!seen.contains e.born).toArray:=hfilt
             generalize hFL:(en.toList.filter fun e=>!seen.contains e.born)=F at hfs hF hi hch hee he hll
             have o1:F.toArray.filter (fun x=>decide (x.born<since))=F.toArray:=by
              apply Array.ext'
              rw[Array.toList_filter]
              exact List.filter_eq_self.2 fun e he=>decide_eq_true (hF e he)
             have o2:F.toArray.filter (fun x=>decide (x.born ≥ since))=#[]:=by
              apply Array.ext'
              rw[Array.toList_filter]
              exact List.filter_eq_nil_iff.2 fun e he=>by have:=hF e he;simp;omega
             have hne:F.toArray.isEmpty=false:=by
              cases F with
              |nil=>simp at hi
              |cons a F=>rfl
             simp only[execOp,Instr.next,hX,Sem.run_bind,hg,hg2,Result.andThen_ok,hc,Bool.false_eq_true,if_false,hfs,o1,o2,hne,Array.append_empty,Array.empty_append]
             have e3:(Array.map some F.toArray).size=F.length:=by simp
             have e4:(Array.map some F.toArray)[i]?=some (some e):=by simp[he]
             simp only[e3,hch,Result.andThen_ok,e4,Sem.run_bind]
             rw[← List.push_toArray] at hset
             simp only[hset,Result.andThen_ok,Sem.run_pure]
             rw[List.push_toArray]
           · cases h
     · cases h
   · cases h
 · cases h
end
end Go.Eng


namespace Go.Eng
open Go
attribute [local irreducible] upTo
noncomputable def optL {α:Type} (o:Option α):Option (List α):=
 match o with
 |some a=>some [a]
 |none=>none
noncomputable def bindL {α β:Type} (f:α→Option (List β)):List α→Option (List β)
 |[]=>some []
 | a :: l => match f a with
  |some x=>match bindL f l with
   |some y=>some (x++y)
   |none=>none
  |none=>none
theorem bindL_mem {α β : Type} {f : α → Option (List β)} : ∀ {l : List α} {r : List β}, bindL f l = some r → ∀ a ∈ l, ∃ x, f a = some x ∧ ∀ b ∈ x, b ∈ r
 |[],r,_,a,ha=>by cases ha
 | b :: l, r, h, a, ha => by
  simp only[bindL] at h
  split at h
  · rename_i x hx
    split at h
    · rename_i y hy
      simp only[Option.some.injEq] at h;subst h
      rcases List.mem_cons.1 ha with rfl|ha
      · exact⟨x,hx,fun b hb=>List.mem_append_left _ hb⟩
      · obtain ⟨x', h1, h2⟩ := bindL_mem hy a ha
        exact⟨x',h1,fun b hb=>List.mem_append_right _ (h2 b hb)⟩
    · cases h
  · cases h
noncomputable def isNextM:Op→Option Operand
 |.next x false=>some x
 |_=>none
theorem isNextM_eq {o:Op} {x:Operand} (h:isNextM o=some x):o=.next x false:=by
 unfold isNextM at h
 split at h
 · simp only[Option.some.injEq] at h;subst h;rfl
 · cases h
noncomputable def oneOpL (E:Env) (call:CallF) (hs:Hnds) (ops:Array Oper) (o:Oper) (st:St):Option (List St):=
 match isNextM o.op with
 | some x => match wantedA ops st.τ o with
  |some true=>match nextL st.τ st.σ x with
   |some l=>bindL (fun r=>optL (putS { st with σ:=r.2 } o.dst r.1)) l
   |none=>none
  |_=>none
 |none=>optL (oneOp E call hs ops o st)
noncomputable def runOpsL (E:Env) (call:CallF) (hs:Hnds) (ops:Array Oper):List Oper→St→Option (List St)
 |[],st=>some [st]
 |o::os,st=>match oneOpL E call hs ops o st with
  |some l=>bindL (runOpsL E call hs ops os) l
  |none=>none
abbrev Outs:=List (Ex×St)
noncomputable def thenL (f:St→Option Outs) (r:Ex×St):Option Outs:=
 match r.1 with
 |.normal=>f r.2
 |_=>some [r]
noncomputable def roundsL (f:St→Option Outs):Nat→St→Option Outs
 |0,_=>none
 |n+1,st=>match f st with
  |some l=>bindL (thenL (roundsL f n)) l
  |none=>none
noncomputable def leaveL (i:Nat) (r:Ex×St):Ex×St:=
 match r.1 with
 |.exit j=>((match Nat.beq j i with|true=>.normal|false=>.exit j),r.2)
 |_=>r
noncomputable def execL (E:Env) (call:CallF) (hs:Hnds):Code→St→Option Outs
 |.seq a b,st=>match execL E call hs a st with
  |some l=>bindL (thenL (execL E call hs b)) l
  |none=>none
 |.cond c a b,st=>match ev st.τ c with
  |some (.bool true)=>execL E call hs a st
  |some (.bool false)=>execL E call hs b st
  |_=>none
 |.block i b,st=>match execL E call hs b st with
  |some l=>some (l.map (leaveL i))
  |none=>none
 |.scope b,st=>execL E call hs b st
 |.loop b,st=>roundsL (execL E call hs b) 24 st
 |.region i ops false,st=>match runOpsL E call hs ops ops.toList st with
  |some l=>some (l.map fun s=>(.normal,s))
  |none=>none
 |c,st=>optL (exec E call c hs st)
section
variable {P:Program} {E:Env} {call:CallF} {base:Nat} {hs:Hnds}
theorem optL_mem {α:Type} {o:Option α} {l:List α} (h:optL o=some l):∃ a,o=some a∧a∈l:=by
 unfold optL at h
 split at h
 · rename_i a
   simp only[Option.some.injEq] at h;subst h
   exact⟨a,rfl,List.mem_cons_self⟩
 · cases h
theorem oneOpL_spec (hE : EnvOK P E) {inv : Inv} (hcx : CxOK inv) (hcall : CallOK P E call) {V : View} {st : St} {A : Array Value} {DS : List Deferred} {M : List Nat} {O : OO} {W : World} (h : SR E base inv V st A DS M O W) (hh : HOK P E base inv V hs) {ops : Array Oper} {i : Nat} {o : Oper} (ho : ops[i]? = some o)
  {l:List St} (hd:oneOpL E call hs ops o st=some l) :
  ∃ st'∈l,∃ V' A' DS' O' W',SR E base inv V' st' A' DS' M O' W'∧Prg V st.σ O W V' st'.σ O' W'∧st'.rnd=st.rnd ∧
   ∀ fn b cs k rest,BOK fn st.rnd b cs→Steps P (lone (mkF b A DS (.inRegion ops (i::rest)::k)) cs W) (lone (mkF b A' DS' (.inRegion ops rest::k)) cs W'):=by
 unfold oneOpL at hd
 split at hd
 · rename_i x hx
   have hop:=isNextM_eq hx
   split at hd
   · rename_i hw
     have hw':=wanted_spec h hw
     split at hd
     · rename_i L hn
       have hnd:∀ c,o.op≠.defer c:=by intro c e;rw[hop] at e;cases e
       have key:∃ r∈L,OpOK P E base V st.σ W ((execOp (mkF default A DS []).eval o).run P W) (.val r.1 r.2):=by
        obtain⟨op,dst,ty,pos,after,guard⟩:=o
        simp only at hop;subst hop
        exact s_nextL hE h.hr h.bs (h.evR default) x hn
       obtain⟨r,hr,V1,W1,v1,e1,s1,r1⟩:=key
       obtain⟨a,ha,hm⟩:=bindL_mem hd r hr
       obtain⟨st',hp,hst'⟩:=optL_mem ha
       have hS:=h.stp hcx s1
       obtain⟨g1,g2,g3⟩:=hS.put r1 hp
       refine⟨st',hm _ hst',V1,_,DS,O,W1,g1,by rw[g2];exact .of_stp s1 (hcx.bound _ _ _ _ h.cx),g3,fun fn b cs k rest hb=>.one (st_value ho hw' (.inr hnd) ?_)⟩
       have:(mkF b A DS []).eval=(mkF default A DS []).eval:=by funext x;rw[mkF_eval,mkF_eval]
       rw[this];exact e1
     · cases hd
   · cases hd
 · obtain ⟨st', h1, h2⟩ := optL_mem hd
   exact⟨st',h2,oneOp_spec hE hcx hcall h hh ho h1⟩
theorem runOpsL_spec (hE:EnvOK P E) {inv:Inv} (hcx:CxOK inv) (hcall:CallOK P E call) {ops:Array Oper} {M:List Nat}:∀ (os:List Oper) (n:Nat) {V:View} {st:St} {l:List St} {A:Array Value} {DS:List Deferred} {O:OO} {W:World},
  ops.toList.drop n=os→SR E base inv V st A DS M O W→HOK P E base inv V hs→runOpsL E call hs ops os st=some l →
  ∃ st'∈l,∃ V' A' DS' O' W',SR E base inv V' st' A' DS' M O' W'∧Prg V st.σ O W V' st'.σ O' W'∧st'.rnd=st.rnd ∧
   ∀ fn b cs k,BOK fn st.rnd b cs→Steps P (lone (mkF b A DS (.inRegion ops (List.range' n os.length)::k)) cs W) (lone (mkF b A' DS' k) cs W')
 |[],n,V,st,l,A,DS,O,W,hos,h,hh,hd=>by
  simp only[runOpsL,Option.some.injEq] at hd;subst hd
  exact⟨st,List.mem_cons_self,V,A,DS,O,W,h,.refl _ _ _ _,rfl,fun fn b cs k hb=>.one st_region_end⟩
 | o :: os, n, V, st, l, A, DS, O, W, hos, h, hh, hd => by
  simp only[runOpsL] at hd
  split at hd
  · rename_i l1 h1
    have ho:ops[n]?=some o:=by
     have:(ops.toList.drop n)[0]?=some o:=by rw[hos];rfl
     rw[List.getElem?_drop] at this
     simpa using this
    have hos':ops.toList.drop (n+1)=os:=by
     have:(ops.toList.drop n).drop 1=os:=by rw[hos];rfl
     rw[List.drop_drop] at this;exact this
    obtain⟨st1,m1,V1,A1,DS1,O1,W1,s1,p1,r1,g1⟩:=oneOpL_spec hE hcx hcall h hh ho h1
    obtain⟨x,hx,hm⟩:=bindL_mem hd st1 m1
    obtain⟨st2,m2,V2,A2,DS2,O2,W2,s2,p2,r2,g2⟩:=runOpsL_spec hE hcx hcall os (n+1) hos' s1 (hh.mono p1.le) hx
    exact⟨st2,hm _ m2,V2,A2,DS2,O2,W2,s2,p1.trans p2,r2.trans r1,fun fn b cs k hb=>(g1 fn b cs k _ hb).trans (g2 fn b cs k (by rw[r1];exact hb))⟩
  · cases hd
def CodeL (P:Program) (E:Env) (base:Nat) (hs:Hnds) (f:St→Option Outs) (c:Code):Prop:=
 ∀ inv,CxOK inv→∀ V st l A DS M O W fn rl,RLOK inv rl→f st=some l→SR E base inv V st A DS M O W→HOK P E base inv V hs →
  ∃ r∈l,∃ V' A' DS' M' O' W',Left E base inv V st M O W V' r.2 A' DS' M' O' W'∧∀ b cs k,BOK fn st.rnd b cs∧b.roundOf=rl→Arr P (lone (mkF b A DS (.code c::k)) cs W) b A' DS' k cs W' r.1
theorem CodeL.one {f:St→Option Outs} {c:Code} (h:CodeOK P E call base hs c) (hf:∀ st,f st=optL (exec E call c hs st)):CodeL P E base hs f c:=by
 intro inv hcx V st l A DS M O W fn rl hrl hl hS hh
 rw[hf] at hl
 obtain⟨⟨e,st'⟩,h1,h2⟩:=optL_mem hl
 obtain⟨V1,A1,DS1,M1,O1,W1,L1,g1⟩:=h inv hcx V st st' e A DS M O W fn rl hrl h1 hS hh
 exact⟨_,h2,V1,A1,DS1,M1,O1,W1,L1,g1⟩
theorem CodeL.seq {f g:St→Option Outs} {x y:Code} (hx:CodeL P E base hs f x) (hy:CodeL P E base hs g y):CodeL P E base hs (fun st=>match f st with|some l=>bindL (thenL g) l|none=>none) (.seq x y):=by
 intro inv hcx V st l A DS M O W fn rl hrl h hS hh
 simp only at h
 split at h
 · rename_i l1 h1
   obtain⟨⟨e1,st1⟩,m1,V1,A1,DS1,M1,O1,W1,L1,g1⟩:=hx inv hcx V st l1 A DS M O W fn rl hrl h1 hS hh
   obtain⟨a,ha,hm⟩:=bindL_mem h _ m1
   cases he:e1 with
   |normal=>
    subst he
    obtain⟨⟨e2,st2⟩,m2,V2,A2,DS2,M2,O2,W2,L2,g2⟩:=hy inv hcx V1 st1 a A1 DS1 M1 O1 W1 fn rl hrl ha L1.sr (hh.mono L1.pr.le)
    exact⟨_,hm _ m2,V2,A2,DS2,M2,O2,W2,L1.trans L2,fun b cs k hb=>.of_steps (.head st_seq (g1 b cs (.code y::k) hb)) (g2 b cs k ⟨by rw[L1.rnd];exact hb.1,hb.2⟩)⟩
   |exit j=>
    subst he
    simp only[thenL,Option.some.injEq] at ha;subst ha
    exact⟨_,hm _ List.mem_cons_self,V1,A1,DS1,M1,O1,W1,L1,fun b cs k hb=>.of_steps (.one st_seq) (Arr.behind (k:=.code y::k) (by simp) (fun i _=>rfl) (g1 b cs (.code y::k) hb))⟩
   |ret=>
    subst he
    simp only[thenL,Option.some.injEq] at ha;subst ha
    exact⟨_,hm _ List.mem_cons_self,V1,A1,DS1,M1,O1,W1,L1,fun b cs k hb=>.of_steps (.one st_seq) (Arr.behind (k:=.code y::k) (by simp) (fun i _=>rfl) (g1 b cs (.code y::k) hb))⟩
 · cases h
theorem CodeL.scope {f:St→Option Outs} {x:Code} (hx:CodeL P E base hs f x):CodeL P E base hs f (.scope x):=by
 intro inv hcx V st l A DS M O W fn rl hrl h hS hh
 obtain⟨⟨e,st1⟩,m1,V1,A1,DS1,M1,O1,W1,L1,g1⟩:=hx inv hcx V st l A DS M O W fn rl hrl h hS hh
 refine⟨_,m1,V1,A1,DS1,M1,O1,W1,L1,fun b cs k hb=>.of_steps (.one st_scope) ?_⟩
 have:=g1 b cs (.inScope x::k) hb
 cases e with
 |normal=>exact this.trans (.one st_inScope)
 |exit i=>exact this.behind (by simp) (fun _ _=>rfl)
 |ret=>exact this.behind (by simp) (fun _ _=>rfl)
theorem CodeL.block {i:Nat} {f:St→Option Outs} {x:Code} (hx:CodeL P E base hs f x):CodeL P E base hs (fun st=>match f st with|some l=>some (l.map (leaveL i))|none=>none) (.block i x):=by
 intro inv hcx V st l A DS M O W fn rl hrl h hS hh
 simp only at h
 split at h
 · rename_i l1 h1
   simp only[Option.some.injEq] at h;subst h
   obtain⟨⟨e,st1⟩,m1,V1,A1,DS1,M1,O1,W1,L1,g1⟩:=hx inv hcx V st l1 A DS M O W fn rl hrl h1 hS hh
   refine⟨_,List.mem_map.2 ⟨_,m1,rfl⟩,V1,A1,DS1,M1,O1,W1,?_,fun b cs k hb=>.of_steps (.one st_block) ?_⟩
   · cases e<;>exact L1
   · have hg := g1 b cs (.inBlock i :: k) hb
     cases e with
     |normal=>exact Steps.trans hg (.one st_inBlock)
     |ret=>exact Arr.behind (e:=.ret) (by simp) (fun _ h=>by cases h) hg
     | exit j =>
      obtain⟨k',h2,h3⟩:=hg
      have hex:exitTo j (.inBlock i::k)=if (i == j)=true then some k else exitTo j k:=rfl
      rw[hex] at h2
      simp only[leaveL]
      cases hij:Nat.beq j i with
      |true=>
       have:j=i:=Nat.eq_of_beq_eq_true hij
       subst this
       rw[if_pos (by simp)] at h2
       exact h3.trans (.one (st_exit h2))
      |false=>
       have:j≠i:=Nat.ne_of_beq_eq_false hij
       rw[if_neg (by simp;exact fun e=>this e.symm)] at h2
       exact⟨k',h2,h3⟩
 · cases h
theorem CodeL.cond {c:Operand} {f g:St→Option Outs} {x y:Code} (hx:CodeL P E base hs f x) (hy:CodeL P E base hs g y):CodeL P E base hs (fun st=>match ev st.τ c with|some (.bool true)=>f st|some (.bool false)=>g st|_=>none) (.cond c x y):=by
 intro inv hcx V st l A DS M O W fn rl hrl h hS hh
 simp only at h
 split at h
 · rename_i hc
   obtain⟨r,m1,V1,A1,DS1,M1,O1,W1,L1,g1⟩:=hx inv hcx V st l A DS M O W fn rl hrl h hS hh
   exact⟨r,m1,V1,A1,DS1,M1,O1,W1,L1,fun b cs k hb=>.of_steps (.one (st_cond (t:=true) ((hS.evR b c _ hc).bool_inv))) (g1 b cs k hb)⟩
 · rename_i hc
   obtain⟨r,m1,V1,A1,DS1,M1,O1,W1,L1,g1⟩:=hy inv hcx V st l A DS M O W fn rl hrl h hS hh
   exact⟨r,m1,V1,A1,DS1,M1,O1,W1,L1,fun b cs k hb=>.of_steps (.one (st_cond (t:=false) ((hS.evR b c _ hc).bool_inv))) (g1 b cs k hb)⟩
 · cases h
theorem roundsL_spec {f:St→Option Outs} {c:Code} (hc:CodeL P E base hs f c):∀ n inv,CxOK inv→∀ V st l A DS M O W fn rl,RLOK inv rl→roundsL f n st=some l→SR E base inv V st A DS M O W→HOK P E base inv V hs →
  ∃ r∈l,∃ V' A' DS' M' O' W',Left E base inv V st M O W V' r.2 A' DS' M' O' W'∧∀ b cs k,BOK fn st.rnd b cs∧b.roundOf=rl→Arr P (lone (mkF b A DS (.code c::.inLoop c::k)) cs W) b A' DS' k cs W' r.1
 |0,inv,hcx,V,st,l,A,DS,M,O,W,fn,rl,hrl,h,hS,hh=>by cases h
 | n + 1, inv, hcx, V, st, l, A, DS, M, O, W, fn, rl, hrl, h, hS, hh => by
  simp only[roundsL] at h
  split at h
  · rename_i l1 h1
    obtain⟨⟨e1,st1⟩,m1,V1,A1,DS1,M1,O1,W1,L1,g1⟩:=hc inv hcx V st l1 A DS M O W fn rl hrl h1 hS hh
    obtain⟨a,ha,hm⟩:=bindL_mem h _ m1
    cases he:e1 with
    |normal=>
     subst he
     obtain⟨r,m2,V2,A2,DS2,M2,O2,W2,L2,g2⟩:=roundsL_spec hc n inv hcx V1 st1 a A1 DS1 M1 O1 W1 fn rl hrl ha L1.sr (hh.mono L1.pr.le)
     exact⟨r,hm _ m2,V2,A2,DS2,M2,O2,W2,L1.trans L2,fun b cs k hb=>.of_steps (Steps.trans (g1 b cs (.inLoop c::k) hb) (.one st_inLoop)) (g2 b cs k ⟨by rw[L1.rnd];exact hb.1,hb.2⟩)⟩
    |exit j=>
     subst he
     simp only[thenL,Option.some.injEq] at ha;subst ha
     exact⟨_,hm _ List.mem_cons_self,V1,A1,DS1,M1,O1,W1,L1,fun b cs k hb=>Arr.behind (k:=.inLoop c::k) (by simp) (fun _ _=>rfl) (g1 b cs (.inLoop c::k) hb)⟩
    |ret=>
     subst he
     simp only[thenL,Option.some.injEq] at ha;subst ha
     exact⟨_,hm _ List.mem_cons_self,V1,A1,DS1,M1,O1,W1,L1,fun b cs k hb=>Arr.behind (k:=.inLoop c::k) (by simp) (fun _ _=>rfl) (g1 b cs (.inLoop c::k) hb)⟩
  · cases h
theorem CodeL.loop {f:St→Option Outs} {x:Code} (n:Nat) (hx:CodeL P E base hs f x):CodeL P E base hs (roundsL f n) (.loop x):=by
 intro inv hcx V st l A DS M O W fn rl hrl h hS hh
 obtain⟨r,m1,V1,A1,DS1,M1,O1,W1,L1,g1⟩:=roundsL_spec hx n inv hcx V st l A DS M O W fn rl hrl h hS hh
 exact⟨r,m1,V1,A1,DS1,M1,O1,W1,L1,fun b cs k hb=>.of_steps (.one st_loop) (g1 b cs k hb)⟩
theorem CodeL.region (hE:EnvOK P E) (hcall:CallOK P E call) {i:Nat} {ops:Array Oper}:CodeL P E base hs (fun st=>match runOpsL E call hs ops ops.toList st with|some l=>some (l.map fun s=>(.normal,s))|none=>none) (.region i ops false):=by
 intro inv hcx V st l A DS M O W fn rl hrl h hS hh
 simp only at h
 split at h
 · rename_i l1 h1
   simp only[Option.some.injEq] at h;subst h
   obtain⟨st1,m1,V1,A1,DS1,O1,W1,s1,p1,r1,g1⟩:=runOpsL_spec hE hcx hcall ops.toList 0 (by simp) hS hh h1
   refine⟨_,List.mem_map.2 ⟨st1,m1,rfl⟩,V1,A1,DS1,M,O1,W1,⟨s1,p1,r1,fun _ h=>.inl h⟩,fun b cs k hb=>?_⟩
   have:=g1 fn b cs k hb.1
   rw[Array.length_toList,← List.range_eq_range'] at this
   exact .head st_region this
 · cases h
end
end Go.Eng


namespace Go.Eng
open Go
attribute [local irreducible] upTo
noncomputable def endL (E:Env) (call:CallF) (hs:Hnds) (fn:Func) (r:Ex×St):Option (AV×Hp×List LF):=
 match r.1 with
 |.exit _=>none
 | _ => match runDefers E call hs r.2.ds r.2.σ r.2.Λ with
  |none=>none
  |some (σ,Λ)=>match resultsA E r.2.τ σ fn.results.toList with
   |some [v]=>some (v,σ,Λ)
   |some vs=>some (.tup vs,σ,Λ)
   |none=>none
noncomputable def bodyL (E:Env) (call:CallF) (f:Nat) (args:List AV) (σ:Hp) (hs:Hnds) (Λ:List LF):Option (List (AV×Hp×List LF)):=
 match E.fn f with
 |none=>none
 | some fn => match fn.body with
  |none=>none
  |some body=>match execL E call hs body ⟨tmps0 fn.ntmps (.full (dep fn.ntmps)) 0 args,σ,[],Λ,args.length+(fn.ntmps-args.length),false⟩ with
   |none=>none
   |some l=>bindL (fun r=>optL (endL E call hs fn r)) l
section
variable {P:Program} {E:Env}
noncomputable def ansL (e:Ent) (r:AV×Hp×List LF):Bool:=
 match r.2.2,frzArg r.1 r.2.1 with
 |[],(w,σ)=>match avbeq w e.v,hasAll σ e.put,keepAll σ e.put e.need with
  |true,true,true=>Nat.ble σ.n e.n1
  |_,_,_=>false
 |_,_=>false
noncomputable def allL {α:Type} (g:α→Bool):List α→Bool
 |[]=>true
 |a::l=>match g a with
  |true=>allL g l
  |false=>false
noncomputable def entL (E:Env) (L:List Ent) (n:Nat) (e:Ent):Bool:=
 match bodyL E (callTF E L n) e.f e.args e.pre [] [] with
 |some l=>allL (ansL e) l
 |none=>false
end
end Go.Eng


set_option maxRecDepth 100000
namespace Go.Proofs.Ytmpaifgmccdipaa
open Go Go.Eng
noncomputable def E1:Env:={ F3 with sy:=false,cm:=true,frz:=fun f=>elemN f [49,40,27,19,21,10,86,78,79,80,65,50,41,30,31,14,96,51,87,81,66,67,98],fp:=fun f=>elemN f [43,44,31,53,69,83] }
theorem e1:EnvOK Try.prog E1:=⟨f3.ty,f3.zero,f3.fn,f3.eqok,f3.meth⟩
theorem n1:NameOK E1:=nf3
theorem x1:ExtOK Try.prog E1:=xf3
noncomputable def c0:Ent:=⟨46,[(.ptr 480 0)],481,[(480,(.cells false [(.int .i64 (20)),(.csl [(.str [111,105,108]),(.int .i64 (10)),(.int .i64 (6)),(.int .i64 (3)),(.str [109,101,110]),(.int .i64 (8)),(.int .i64 (8)),(.int .i64 (2))] 2),(.int .i64 (5)),(.int .i64 (1)),(.int .i64 (2)),(.csl [(.int .i64 (3)),(.int .i64 (5)),(.int .i64 (8)),(.int .i64 (12)),(.int .i64 (15))] 5),(.csl [(.int .i64 (3)),(.csl [(.int .i64 (0)),(.int .i64 (1))] 2),(.int .i64 (5)),(.csl [(.int .i64 (0)),(.int .i64 (1))] 2),(.int .i64 (12)),(.csl [(.int .i64 (0)),(.int .i64 (1))] 2),(.int .i64 (15)),(.csl [(.int .i64 (0)),(.int .i64 (1))] 2)] 4)]))],(.agg [(.int .i64 (1)),(.int .i64 (0)),(.int .i64 (0))]),[],982⟩
noncomputable def c1:Ent:=⟨47,[(.ptr 1505 0),(.sl 1475 0 5 5 1)],1506,[(1505,(.cells false [(.int .i64 (20)),(.csl [(.str [111,105,108]),(.int .i64 (10)),(.int .i64 (6)),(.int .i64 (3)),(.str [109,101,110]),(.int .i64 (8)),(.int .i64 (8)),(.int .i64 (2))] 2),(.int .i64 (4)),(.int .i64 (0)),(.int .i64 (2)),(.csl [(.int .i64 (3)),(.int .i64 (5)),(.int .i64 (8)),(.int .i64 (12)),(.int .i64 (15))] 5),.nils])),(1475,(.cells true [(.int .i64 (3)),(.int .i64 (5)),(.int .i64 (8)),(.int .i64 (12)),(.int .i64 (15))]))],(.tup [(.sl 5602 0 4 4 2),(.bool true)]),[(5604,(.cells false [(.int .i64 (0))])),(5606,(.cells false [(.int .i64 (1))])),(5608,(.cells false [(.int .i64 (0))])),(5610,(.cells false [(.int .i64 (1))])),(5602,(.cells false [(.int .i64 (3)),(.sl 5604 0 1 1 1),(.int .i64 (8)),(.sl 5606 0 1 1 1),(.int .i64 (12)),(.sl 5608 0 1 1 1),(.int .i64 (15)),(.sl 5610 0 1 1 1)]))],5611⟩
noncomputable def c2:Ent:=⟨47,[(.ptr 5641 0),(.sl 2 0 5 5 1)],5642,[(5641,(.cells false [(.int .i64 (20)),(.csl [(.str [111,105,108]),(.int .i64 (10)),(.int .i64 (6)),(.int .i64 (3)),(.str [109,101,110]),(.int .i64 (8)),(.int .i64 (8)),(.int .i64 (2))] 2),(.int .i64 (5)),(.int .i64 (1)),(.int .i64 (2)),(.csl [(.int .i64 (3)),(.int .i64 (5)),(.int .i64 (8)),(.int .i64 (12)),(.int .i64 (15))] 5),.nils])),(2,(.cells true [(.int .i64 (3)),(.int .i64 (5)),(.int .i64 (8)),(.int .i64 (12)),(.int .i64 (15))]))],(.tup [(.sl 7871 0 5 5 2),(.bool true)]),[(7873,(.cells false [(.int .i64 (0)),(.int .i64 (1))])),(7875,(.cells false [(.int .i64 (0)),(.int .i64 (1))])),(7877,(.cells false [(.int .i64 (0)),(.int .i64 (1))])),(7879,(.cells false [(.int .i64 (0)),(.int .i64 (1))])),(7881,(.cells false [(.int .i64 (0)),(.int .i64 (1))])),(7871,(.cells false [(.int .i64 (3)),(.sl 7873 0 2 2 1),(.int .i64 (5)),(.sl 7875 0 2 2 1),(.int .i64 (8)),(.sl 7877 0 2 2 1),(.int .i64 (12)),(.sl 7879 0 2 2 1),(.int .i64 (15)),(.sl 7881 0 2 2 1)]))],7882⟩
noncomputable def c3:Ent:=⟨47,[(.ptr 7910 0),(.sl 7912 0 4 4 1)],7913,[(7910,(.cells false [(.int .i64 (20)),(.csl [(.str [111,105,108]),(.int .i64 (10)),(.int .i64 (6)),(.int .i64 (3)),(.str [109,101,110]),(.int .i64 (8)),(.int .i64 (8)),(.int .i64 (2))] 2),(.int .i64 (5)),(.int .i64 (1)),(.int .i64 (2)),(.csl [(.int .i64 (3)),(.int .i64 (5)),(.int .i64 (8)),(.int .i64 (12)),(.int .i64 (15))] 5),.nils])),(7912,(.cells false [(.int .i64 (5)),(.int .i64 (8)),(.int .i64 (12)),(.int .i64 (15))]))],(.tup [.nils,(.bool false)]),[],8879⟩
noncomputable def c4:Ent:=⟨47,[(.ptr 7910 0),(.sl 8882 0 4 4 1)],8883,[(7910,(.cells false [(.int .i64 (20)),(.csl [(.str [111,105,108]),(.int .i64 (10)),(.int .i64 (6)),(.int .i64 (3)),(.str [109,101,110]),(.int .i64 (8)),(.int .i64 (8)),(.int .i64 (2))] 2),(.int .i64 (5)),(.int .i64 (1)),(.int .i64 (2)),(.csl [(.int .i64 (3)),(.int .i64 (5)),(.int .i64 (8)),(.int .i64 (12)),(.int .i64 (15))] 5),.nils])),(8882,(.cells false [(.int .i64 (3)),(.int .i64 (8)),(.int .i64 (12)),(.int .i64 (15))]))],(.tup [.nils,(.bool false)]),[],9854⟩
noncomputable def c5:Ent:=⟨47,[(.ptr 7910 0),(.sl 9857 0 4 4 1)],9858,[(7910,(.cells false [(.int .i64 (20)),(.csl [(.str [111,105,108]),(.int .i64 (10)),(.int .i64 (6)),(.int .i64 (3)),(.str [109,101,110]),(.int .i64 (8)),(.int .i64 (8)),(.int .i64 (2))] 2),(.int .i64 (5)),(.int .i64 (1)),(.int .i64 (2)),(.csl [(.int .i64 (3)),(.int .i64 (5)),(.int .i64 (8)),(.int .i64 (12)),(.int .i64 (15))] 5),.nils])),(9857,(.cells false [(.int .i64 (3)),(.int .i64 (5)),(.int .i64 (12)),(.int .i64 (15))]))],(.tup [.nils,(.bool false)]),[],10826⟩
noncomputable def c6:Ent:=⟨47,[(.ptr 7910 0),(.sl 10829 0 4 4 1)],10830,[(7910,(.cells false [(.int .i64 (20)),(.csl [(.str [111,105,108]),(.int .i64 (10)),(.int .i64 (6)),(.int .i64 (3)),(.str [109,101,110]),(.int .i64 (8)),(.int .i64 (8)),(.int .i64 (2))] 2),(.int .i64 (5)),(.int .i64 (1)),(.int .i64 (2)),(.csl [(.int .i64 (3)),(.int .i64 (5)),(.int .i64 (8)),(.int .i64 (12)),(.int .i64 (15))] 5),.nils])),(10829,(.cells false [(.int .i64 (3)),(.int .i64 (5)),(.int .i64 (8)),(.int .i64 (15))]))],(.tup [.nils,(.bool false)]),[],11801⟩
noncomputable def c7:Ent:=⟨47,[(.ptr 7910 0),(.sl 11804 0 4 4 1)],11805,[(7910,(.cells false [(.int .i64 (20)),(.csl [(.str [111,105,108]),(.int .i64 (10)),(.int .i64 (6)),(.int .i64 (3)),(.str [109,101,110]),(.int .i64 (8)),(.int .i64 (8)),(.int .i64 (2))] 2),(.int .i64 (5)),(.int .i64 (1)),(.int .i64 (2)),(.csl [(.int .i64 (3)),(.int .i64 (5)),(.int .i64 (8)),(.int .i64 (12)),(.int .i64 (15))] 5),.nils])),(11804,(.cells false [(.int .i64 (3)),(.int .i64 (5)),(.int .i64 (8)),(.int .i64 (12))]))],(.tup [.nils,(.bool false)]),[],12771⟩
end Go.Proofs.Ytmpaifgmccdipaa

