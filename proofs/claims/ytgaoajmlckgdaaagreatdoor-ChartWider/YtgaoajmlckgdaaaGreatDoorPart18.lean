/-
  What is proved: norelaw01.ChartWider returns true for every chart, four numbers by how much wider, and every list of numbers. Conditions: none but those of the given card (package-level variables start as the program's text lays them).
-/
import Derived.Test.YtgaoajmlckgdaaaGreatDoorPart06
import Derived.Test.YtgaoajmlckgdaaaGreatDoorPart07
import Derived.Test.YtgaoajmlckgdaaaGreatDoorPart08
import Derived.Test.YtgaoajmlckgdaaaGreatDoorPart09
import Derived.Test.YtgaoajmlckgdaaaGreatDoorPart10
import Derived.Test.YtgaoajmlckgdaaaGreatDoorPart11
import Derived.Test.YtgaoajmlckgdaaaGreatDoorPart17
import Derived.Test.YtgaoajmlckgdaaaGreatDoorPart12
import Derived.Test.YtgaoajmlckgdaaaGreatDoorPart13
import Derived.Test.YtgaoajmlckgdaaaGreatDoorPart14
import Derived.Test.YtgaoajmlckgdaaaGreatDoorPart15
import Derived.Test.YtgaoajmlckgdaaaGreatDoorPart05
import Derived.Test.YtgaoajmlckgdaaaGreatDoorRows
import Derived.Test.YtgaoajmlckgdaaaGreatDoorCards
import Derived.Test.YtgaoajmlckgdaaaGreatDoorTie
import Derived.ProofKit
import Derived.LaidMore
import Derived.OpenShut
import Derived.Stop.Joined
import Derived.Lay
import Derived.SevenTiedAt
set_option linter.unusedSectionVars false
set_option linter.unusedSimpArgs false
set_option linter.unusedVariables false
set_option maxRecDepth 100000
namespace Go.Proofs.YtgaoajmlckgdaaaGreatDoor
open Go Go.Eng
noncomputable def L3:List Ent:=[c0,c1,c2,c3,c4,c5,c6,c7,c8,c9,c10]
theorem l3:∀ e∈L3,EntOK Tryz.prog EA e:=ents_cons o0 (ents_cons o1 (ents_cons o2 (ents_cons o3 (ents_cons o4 (ents_cons o5 (ents_cons o6 (ents_cons o7 (ents_cons o8 (ents_cons o9 (ents_cons o10 (ents_nil)))))))))))
end Go.Proofs.YtgaoajmlckgdaaaGreatDoor


set_option maxRecDepth 100000
namespace Go.Proofs.YtgaoajmlckgdaaaGreatDoor
open Go Go.Eng
theorem kn_true:isTrueT EA L3 40 22=true:=by kernel_rfl
end Go.Proofs.YtgaoajmlckgdaaaGreatDoor


set_option maxRecDepth 100000
namespace Go.Proofs.YtgaoajmlckgdaaaGreatDoor
open Go Go.Eng
noncomputable def withI0 (a b:(Ty.sl tI).den) (x5:Int) (x12:Nat):Cfg:=⟨.ex (pcOf H3 45 [0,0,1,0,1]) ⟨(tmOf 19 [(0,(.vs tI (a.1) (a.2))),(1,(.vs tI (b.1) (b.2))),(4,(.bool (false))),(5,(.int .i64 x5))]),(hpOf 0 []),[],[],19,false⟩,⟨6,[]⟩,[(.lop (pcOf H3 45 [0,0,1,0,1]) 0 (tmOf 19 [(0,(.vs tI (a.1) (a.2))),(1,(.vs tI (b.1) (b.2))),(4,(.bool (false))),(5,(.int .i64 (0)))]) x12),(.blk 0),(.seq (pcOf H3 45 [1,1])),(.cal [(.tmp 4)] .top)]⟩
theorem with_start (a b:(Ty.sl tI).den):adv H3 (Y3 [45]) 3000 (startC H3 45 [.vs tI a.1 a.2,.vs tI b.1 b.2] 6)=some (.stop (withI0 a b (0) (1048575))):=by kernel_rfl
theorem with_step0 (a b:(Ty.sl tI).den) (x5:Int) (x12:Nat):adv H3 (Y3 [45]) 3000 (withI0 a b x5 (x12+1))=(bif !ile (↑a.2.length) x5 then (bif inB x5 a.2.length then (bif b.2.length.ble 1000 then (bif !hasS b.2 (a.2.getD x5.toNat tI.dflt) then some (.done (.bool (false))) else some (.stop (withI0 a b (wr .i64 (x5+1)) (x12)))) else none) else none) else some (.done (.bool (true)))):=by kernel_rfl
theorem near_start (c:tChart.den) (l:(Ty.sl (.int .u16)).den):adv H3 (Y3 []) 3000 (startC H3 44 [tChart.av c,.vs (.int .u16) l.1 l.2] 6)=(bif u16 l.2&&ile 0 1 then (bif u16 l.2&&ile 0 2 then (bif !ile (↑c.2.1.2.length) 0 then (bif u16 l.2&&ile 0 0 then (bif ieq (↑c.2.1.2.length) 0 then none else (bif inB ((turnS l.2 0).tmod ↑c.2.1.2.length) c.2.1.2.length then (bif bbeq c.2.1.1 c.2.1.1 then (bif vsB tSand c.2.1.2 tSand c.2.1.2 then (bif bbeq c.2.1.1 c.2.1.1 then (bif vsB tSand c.2.1.2 tSand c.2.1.2 then (bif bbeq c.2.1.1 c.2.1.1 then (bif vsB tSand c.2.1.2 tSand c.2.1.2 then (bif bbeq c.2.1.1 c.2.1.1 then (bif vsB tSand c.2.1.2 tSand c.2.1.2 then (bif u16 l.2&&ile 0 3 then (bif ieq (↑(c.2.1.2.getD ((turnS l.2 0).tmod ↑c.2.1.2.length).toNat tSand.dflt).2.1.2.length) 0 then none else (bif inB ((turnS l.2 3).tmod ↑(c.2.1.2.getD ((turnS l.2 0).tmod ↑c.2.1.2.length).toNat tSand.dflt).2.1.2.length) (c.2.1.2.getD ((turnS l.2 0).tmod ↑c.2.1.2.length).toNat tSand.dflt).2.1.2.length then (bif bbeq (c.2.1.2.getD ((turnS l.2 0).tmod ↑c.2.1.2.length).toNat tSand.dflt).2.1.1 (c.2.1.2.getD ((turnS l.2 0).tmod ↑c.2.1.2.length).toNat tSand.dflt).2.1.1 then (bif vsB tP (c.2.1.2.getD ((turnS l.2 0).tmod ↑c.2.1.2.length).toNat tSand.dflt).2.1.2 tP (c.2.1.2.getD ((turnS l.2 0).tmod ↑c.2.1.2.length).toNat tSand.dflt).2.1.2 then (bif bbeq (c.2.1.2.getD ((turnS l.2 0).tmod ↑c.2.1.2.length).toNat tSand.dflt).2.1.1 (c.2.1.2.getD ((turnS l.2 0).tmod ↑c.2.1.2.length).toNat tSand.dflt).2.1.1 then (bif vsB tP (c.2.1.2.getD ((turnS l.2 0).tmod ↑c.2.1.2.length).toNat tSand.dflt).2.1.2 tP (c.2.1.2.getD ((turnS l.2 0).tmod ↑c.2.1.2.length).toNat tSand.dflt).2.1.2 then (bif bbeq (c.2.1.2.getD ((turnS l.2 0).tmod ↑c.2.1.2.length).toNat tSand.dflt).2.1.1 (c.2.1.2.getD ((turnS l.2 0).tmod ↑c.2.1.2.length).toNat tSand.dflt).2.1.1 then (bif vsB tP (c.2.1.2.getD ((turnS l.2 0).tmod ↑c.2.1.2.length).toNat tSand.dflt).2.1.2 tP (c.2.1.2.getD ((turnS l.2 0).tmod ↑c.2.1.2.length).toNat tSand.dflt).2.1.2 then (bif bbeq (c.2.1.2.getD ((turnS l.2 0).tmod ↑c.2.1.2.length).toNat tSand.dflt).2.1.1 (c.2.1.2.getD ((turnS l.2 0).tmod ↑c.2.1.2.length).toNat tSand.dflt).2.1.1 then (bif vsB tP (c.2.1.2.getD ((turnS l.2 0).tmod ↑c.2.1.2.length).toNat tSand.dflt).2.1.2 tP (c.2.1.2.getD ((turnS l.2 0).tmod ↑c.2.1.2.length).toNat tSand.dflt).2.1.2 then (bif ieq (wr .i64 ((turnS l.2 1).tmod 400-200)) (wr .i64 ((turnS l.2 1).tmod 400-200)) then (bif ieq (wr .i64 ((turnS l.2 2).tmod 400-200)) (wr .i64 ((turnS l.2 2).tmod 400-200)) then (bif ieq (wr .i64 ((turnS l.2 1).tmod 400-200)) (wr .i64 ((turnS l.2 1).tmod 400-200)) then (bif ieq (wr .i64 ((turnS l.2 2).tmod 400-200)) (wr .i64 ((turnS l.2 2).tmod 400-200)) then some (.done (.agg [(.int .i64 (bif ile (bif ile 10000 (wr .i64 (wr .i64 ((turnS l.2 1).tmod 400-200)+((c.2.1.2.getD ((turnS l.2 0).tmod ↑c.2.1.2.length).toNat tSand.dflt).2.1.2.getD ((turnS l.2 3).tmod ↑(c.2.1.2.getD ((turnS l.2 0).tmod ↑c.2.1.2.length).toNat tSand.dflt).2.1.2.length).toNat tP.dflt).1)) then 10000 else wr .i64 (wr .i64 ((turnS l.2 1).tmod 400-200)+((c.2.1.2.getD ((turnS l.2 0).tmod ↑c.2.1.2.length).toNat tSand.dflt).2.1.2.getD ((turnS l.2 3).tmod ↑(c.2.1.2.getD ((turnS l.2 0).tmod ↑c.2.1.2.length).toNat tSand.dflt).2.1.2.length).toNat tP.dflt).1)) (-10000) then -10000 else bif ile 10000 (wr .i64 (wr .i64 ((turnS l.2 1).tmod 400-200)+((c.2.1.2.getD ((turnS l.2 0).tmod ↑c.2.1.2.length).toNat tSand.dflt).2.1.2.getD ((turnS l.2 3).tmod ↑(c.2.1.2.getD ((turnS l.2 0).tmod ↑c.2.1.2.length).toNat tSand.dflt).2.1.2.length).toNat tP.dflt).1)) then 10000 else wr .i64 (wr .i64 ((turnS l.2 1).tmod 400-200)+((c.2.1.2.getD ((turnS l.2 0).tmod ↑c.2.1.2.length).toNat tSand.dflt).2.1.2.getD ((turnS l.2 3).tmod ↑(c.2.1.2.getD ((turnS l.2 0).tmod ↑c.2.1.2.length).toNat tSand.dflt).2.1.2.length).toNat tP.dflt).1))),(.int .i64 (bif ile (bif ile 10000 (wr .i64 (wr .i64 ((turnS l.2 2).tmod 400-200)+((c.2.1.2.getD ((turnS l.2 0).tmod ↑c.2.1.2.length).toNat tSand.dflt).2.1.2.getD ((turnS l.2 3).tmod ↑(c.2.1.2.getD ((turnS l.2 0).tmod ↑c.2.1.2.length).toNat tSand.dflt).2.1.2.length).toNat tP.dflt).2.1)) then 10000 else wr .i64 (wr .i64 ((turnS l.2 2).tmod 400-200)+((c.2.1.2.getD ((turnS l.2 0).tmod ↑c.2.1.2.length).toNat tSand.dflt).2.1.2.getD ((turnS l.2 3).tmod ↑(c.2.1.2.getD ((turnS l.2 0).tmod ↑c.2.1.2.length).toNat tSand.dflt).2.1.2.length).toNat tP.dflt).2.1)) (-10000) then -10000 else bif ile 10000 (wr .i64 (wr .i64 ((turnS l.2 2).tmod 400-200)+((c.2.1.2.getD ((turnS l.2 0).tmod ↑c.2.1.2.length).toNat tSand.dflt).2.1.2.getD ((turnS l.2 3).tmod ↑(c.2.1.2.getD ((turnS l.2 0).tmod ↑c.2.1.2.length).toNat tSand.dflt).2.1.2.length).toNat tP.dflt).2.1)) then 10000 else wr .i64 (wr .i64 ((turnS l.2 2).tmod 400-200)+((c.2.1.2.getD ((turnS l.2 0).tmod ↑c.2.1.2.length).toNat tSand.dflt).2.1.2.getD ((turnS l.2 3).tmod ↑(c.2.1.2.getD ((turnS l.2 0).tmod ↑c.2.1.2.length).toNat tSand.dflt).2.1.2.length).toNat tP.dflt).2.1)))])) else none) else none) else none) else none) else none) else none) else none) else none) else none) else none) else none) else none) else none)) else none) else none) else none) else none) else none) else none) else none) else none) else none) else none)) else none) else some (.done (.agg [(.int .i64 (bif ile (bif ile 10000 (wr .i64 ((turnS l.2 1).tmod 400-200)) then 10000 else wr .i64 ((turnS l.2 1).tmod 400-200)) (-10000) then -10000 else bif ile 10000 (wr .i64 ((turnS l.2 1).tmod 400-200)) then 10000 else wr .i64 ((turnS l.2 1).tmod 400-200))),(.int .i64 (bif ile (bif ile 10000 (wr .i64 ((turnS l.2 2).tmod 400-200)) then 10000 else wr .i64 ((turnS l.2 2).tmod 400-200)) (-10000) then -10000 else bif ile 10000 (wr .i64 ((turnS l.2 2).tmod 400-200)) then 10000 else wr .i64 ((turnS l.2 2).tmod 400-200)))]))) else none) else none):=by kernel_rfl
noncomputable def withS:List tI.den→List tI.den→Bool
 |[],_=>true
 |x::l,b=>bif hasS b x then withS l b else false
theorem with_ans (a b:(Ty.sl tI).den) (hl:a.2.length<1048576) (hb:b.2.length.ble 1000=true):∀ (r k m:Nat),k+r=a.2.length→r<m→Ans H3 (withI0 a b k m) (.bool (withS (a.2.drop k) b.2))
 |0,k,m+1,hk,hm=>by
  have h:=with_step0 a b k m
  simp only[ile_ge (show a.2.length≤k by omega),Bool.not_true,cond_false] at h
  rw[List.drop_eq_nil_of_le (by omega)]
  exact .doneB (Y3_ok _) H3sy h rfl
 |r+1,k,m+1,hk,hm=>by
  have h:=with_step0 a b k m
  have hlt:k<a.2.length:=by omega
  simp only[ile_lt hlt,inB_at hlt,getD_at hlt,hb,wr_succ (show k<1048577 by omega),Bool.not_false,cond_true] at h
  rw[List.drop_eq_getElem_cons hlt,withS]
  cases e:hasS b.2 (a.2[k]) with
  |true=>simp only[e,Bool.not_true,cond_true,cond_false] at h⊢;exact .stop (Y3_ok _) H3sy h (with_ans a b hl hb r (k+1) m (by omega) (by omega))
  |false=>simp only[e,Bool.not_false,cond_true,cond_false] at h⊢;exact .doneB (Y3_ok _) H3sy h rfl
theorem with_call (a b:(Ty.sl tI).den) (hl:a.2.length<1048575) (hb:b.2.length.ble 1000=true):AnsF H3 45 [.vs tI a.1 a.2,.vs tI b.1 b.2] (.bool (withS a.2 b.2)):=
 Ans.call (n:=6) (ext_none (by kernel_rfl)) (hasB_spec (by kernel_rfl)) (.stop (Y3_ok _) H3sy (with_start a b) (with_ans a b (by omega) hb a.2.length 0 1048575 (by omega) (by omega)))
noncomputable def clp (v:Int):Int:=bif ile (bif ile 10000 v then 10000 else v) (-10000) then -10000 else bif ile 10000 v then 10000 else v
theorem clp_in (v:Int):in10 (clp v)=true:=by
 rw[in10_iff]
 unfold clp
 cases c1:ile 10000 v with
 |true=>simp only[cond_true,show ile 10000 (-10000)=false from rfl,cond_false];omega
 | false =>
  rw[ile_iff] at c1
  simp only[decide_eq_false_iff_not] at c1
  simp only[cond_false]
  cases c2:ile v (-10000) with
  |true=>simp only[cond_true];omega
  |false=>
   rw[ile_iff] at c2
   simp only[decide_eq_false_iff_not] at c2
   simp only[cond_false];omega
noncomputable def nrC (c:tChart.den) (l:List Int):tP.den:=(c.2.1.2.getD ((turnS l 0).tmod (c.2.1.2.length:Int)).toNat tSand.dflt).2.1.2.getD ((turnS l 3).tmod ((c.2.1.2.getD ((turnS l 0).tmod (c.2.1.2.length:Int)).toNat tSand.dflt).2.1.2.length:Int)).toNat tP.dflt
noncomputable def nX (c:tChart.den) (l:List Int):Int:=bif ile (c.2.1.2.length:Int) 0 then clp (wr .i64 ((turnS l 1).tmod 400-200)) else clp (wr .i64 (wr .i64 ((turnS l 1).tmod 400-200)+(nrC c l).1))
noncomputable def nY (c:tChart.den) (l:List Int):Int:=bif ile (c.2.1.2.length:Int) 0 then clp (wr .i64 ((turnS l 2).tmod 400-200)) else clp (wr .i64 (wr .i64 ((turnS l 2).tmod 400-200)+(nrC c l).2.1))
theorem nX_in (c:tChart.den) (l:List Int):in10 (nX c l)=true:=by unfold nX;cases ile (c.2.1.2.length:Int) 0<;>exact clp_in _
theorem nY_in (c:tChart.den) (l:List Int):in10 (nY c l)=true:=by unfold nY;cases ile (c.2.1.2.length:Int) 0<;>exact clp_in _
theorem mod_at {a:Int} {n:Nat} (ha:0≤a) (hn:0<n):inB (a.tmod (n:Int)) n=true∧(a.tmod (n:Int)).toNat<n:=by
 have e:a.tmod (n:Int)=a % (n:Int):=Int.tmod_eq_emod_of_nonneg ha
 have h1:=Int.emod_nonneg a (show (n:Int)≠0 by omega)
 have h2:=Int.emod_lt_of_pos a (show 0<(n:Int) by omega)
 rw[e]
 exact⟨by rw[inB_iff];exact decide_eq_true ⟨h1,h2⟩,by omega⟩
theorem near_call (c:tChart.den) (l:(Ty.sl (.int .u16)).den) (hl:u16 l.2=true) (hv:(chkS c).2.2=0):AnsF H3 44 [tChart.av c,.vs (.int .u16) l.1 l.2] (.agg [.int .i64 (nX c l.2),.int .i64 (nY c l.2)]):=by
 refine Ans.call (n:=6) (ext_none (by kernel_rfl)) (hasB_spec (by kernel_rfl)) ?_
 have h:=near_start c l
 have t1:ile 0 1=true:=rfl
 have t2:ile 0 2=true:=rfl
 have t3:ile 0 3=true:=rfl
 have t0:ile 0 0=true:=rfl
 have q0:=turnS_b hl 0
 have q3:=turnS_b hl 3
 unfold nX nY
 cases c1:ile (c.2.1.2.length:Int) 0 with
 |true=>
  simp only[hl,t1,t2,c1,Bool.and_self,Bool.not_true,cond_true,cond_false] at h⊢
  exact .done (Y3_ok _) H3sy h rfl
 |false=>
  have hpos:0<c.2.1.2.length:=by rw[ile_iff] at c1;simp only[decide_eq_false_iff_not] at c1;omega
  obtain⟨m1,m2⟩:=mod_at q0.1 hpos
  have hg:=goodS_len (sd_good hv m2)
  have z1:ieq (c.2.1.2.length:Int) 0=false:=by rw[ieq_iff];exact decide_eq_false (by omega)
  unfold nrC
  unfold sd at hg
  generalize hS:c.2.1.2.getD ((turnS l.2 0).tmod (c.2.1.2.length:Int)).toNat tSand.dflt=S at h hg
  obtain⟨m3,m4⟩:=mod_at q3.1 (show 0<S.2.1.2.length by omega)
  have z2:ieq (S.2.1.2.length:Int) 0=false:=by rw[ieq_iff];exact decide_eq_false (by omega)
  simp only[hl,t0,t1,t2,t3,c1,m1,m3,z1,z2,ieq_self,bbeq_self,vsB_self,Bool.and_self,Bool.not_false,cond_true,cond_false] at h⊢
  exact .done (Y3_ok _) H3sy h rfl
noncomputable def mX (s:tSand.den) (l:List Int) (n:Int):Int:=amS s.2.2.1.1.1 s.2.2.1.1.2.1 (turnS l (2 * n))
noncomputable def mY (s:tSand.den) (l:List Int) (n:Int):Int:=amS s.2.2.1.2.1.1 s.2.2.1.2.1.2.1 (turnS l (2 * n+1))
noncomputable def LK:List Said:=[(45,con2 (.sl tI) (.sl tI) (fun a b=>Nat.ble a.2.length 1000&&Nat.ble b.2.length 1000) (fun a b=>.bool (withS a.2 b.2))),
 (44,con2 tChart (.sl (.int .u16)) (fun c l=>u16 l.2&&ieq (chkS c).2.2 0) (fun c l=>.agg [.int .i64 (nX c l.2),.int .i64 (nY c l.2)])),
 (47,con3 tSand (.sl (.int .u16)) tI (fun s l n=>u16 l.2&&goodS s&&ile 0 n&&ile n 1000) (fun s l n=>.agg [.int .i64 (mX s l.2 n),.int .i64 (mY s l.2 n)])),(22,say0 (.bool true))]
noncomputable def H4:Env:=H3.say (under (xOf LK))
theorem h4:EnvOK Tryz.prog H4:=h3.say _
end Go.Proofs.YtgaoajmlckgdaaaGreatDoor


set_option maxRecDepth 100000
namespace Go.Proofs.YtgaoajmlckgdaaaGreatDoor
open Go Go.Eng
noncomputable def liesS (s:tSand.den) (px py u v:Int):Bool:=liesF s.2.1.2 (px-u) (py-v) 0 s.2.1.2.length
theorem any_iff {s:tSand.den} {x0 x1 y0 y1:Int} (e0:s.2.2.1.1.1=x0) (e1:s.2.2.1.1.2.1=x1) (e2:s.2.2.1.2.1.1=y0) (e3:s.2.2.1.2.1.2.1=y1) (hg:goodS s=true) {px py:Int}:anyS s px py=true↔∃ u v:Int,(x0≤u∧u≤x1)∧(y0≤v∧v≤y1)∧liesS s px py u v=true:=by
 obtain⟨_,_,g6,g7⟩:=goodS_iff e0 e1 e2 e3 hg
 unfold anyS mvSd mvS liesS
 rw[e0,e1,e2,e3]
 have h:=mvF_any (C:=s.2.1.2) (fx:=px) (fy:=py) g7.1 (x1-x0+1).toNat x0
 constructor
 · intro hh
   rw[ile_iff] at hh
   simp only[Bool.not_eq_true',decide_eq_false_iff_not] at hh
   obtain⟨u,v,h1,h2,h3⟩:=h.1 (by omega)
   exact⟨u,v,by omega,h2,h3⟩
 · rintro ⟨u, v, h1, h2, h3⟩
   have:=h.2 ⟨u,v,by omega,h2,h3⟩
   rw[ile_iff,decide_eq_false (by omega)];rfl
theorem all_iff {s:tSand.den} {x0 x1 y0 y1:Int} (e0:s.2.2.1.1.1=x0) (e1:s.2.2.1.1.2.1=x1) (e2:s.2.2.1.2.1.1=y0) (e3:s.2.2.1.2.1.2.1=y1) (hg:goodS s=true) {px py:Int}:allS s px py=true↔∀ u v:Int,(x0≤u∧u≤x1)→(y0≤v∧v≤y1)→liesS s px py u v=true:=by
 obtain⟨_,_,g6,g7⟩:=goodS_iff e0 e1 e2 e3 hg
 unfold allS mvSd mvS liesS totSd
 rw[e0,e1,e2,e3]
 have h:=mvF_all (C:=s.2.1.2) (fx:=px) (fy:=py) g7.1 (x1-x0+1).toNat x0
 rw[show (((x1-x0+1).toNat:Nat):Int)=x1-x0+1 by omega] at h
 constructor
 · intro hh u v h1 h2
   exact h.1 (ieq_t' hh) u v (by omega) h2
 · intro hh
   rw[ieq_iff]
   exact decide_eq_true (h.2 (fun u v h1 h2=>hh u v (by omega) h2))
theorem hasS_iff {n:Int}:∀ {l:List tI.den},hasS l n=true↔n∈l
 |[]=>by rw[hasS];simp
 | x :: l => by
  rw[hasS,List.mem_cons]
  cases e:ieq x n with
  |true=>rw[cond_true];have:=ieq_t' e;simp[this]
  |false=>
   rw[cond_false,hasS_iff]
   have:=ieq_f' e
   constructor
   · exact Or.inr
   · rintro (h | h)
     · exact absurd h.symm this
     · exact h
theorem withS_of {b:List tI.den}:∀ {l:List tI.den},(∀ x∈l,x∈b)→withS l b=true
 |[],_=>rfl
 |x::l,h=>by
  rw[withS,hasS_iff.2 (h x List.mem_cons_self),cond_true]
  exact withS_of (fun y hy=>h y (List.mem_cons_of_mem _ hy))
theorem onF_mem {c:tChart.den} {px py:Int} {n:Int}:∀ {r k:Nat} {s t:List Int},
  (n∈(onF c px py s t k r).1↔n∈s∨∃ j:Nat,n=j∧k≤j∧j<k+r∧allS (sd c j) px py=true) ∧
  (n∈(onF c px py s t k r).2↔n∈t∨∃ j:Nat,n=j∧k≤j∧j<k+r∧anyS (sd c j) px py=true) ∧
  ((onF c px py s t k r).1.length≤s.length+r∧(onF c px py s t k r).2.length≤t.length+r)
 |0,k,s,t=>by
  rw[onF]
  refine⟨⟨Or.inl,?_⟩,⟨Or.inl,?_⟩,by simp,by simp⟩
  · rintro (h | ⟨j, _, h1, h2, _⟩)
    · exact h
    · omega
  · rintro (h | ⟨j, _, h1, h2, _⟩)
    · exact h
    · omega
 | r + 1, k, s, t => by
  rw[onF]
  obtain⟨h1,h2,h3,h4⟩:=onF_mem (c:=c) (px:=px) (py:=py) (n:=n) (r:=r) (k:=k+1) (s:=bif allS (sd c k) px py then s++[(k:Int)] else s) (t:=bif anyS (sd c k) px py then t++[(k:Int)] else t)
  refine⟨h1.trans ?_,h2.trans ?_,?_,?_⟩
  · cases e : allS (sd c k) px py with
    |true=>
     simp only[cond_true,List.mem_append,List.mem_singleton]
     constructor
     · rintro ((h | h) | ⟨j, p1, p2, p3, p4⟩)
       · exact .inl h
       · exact .inr ⟨k,h,Nat.le_refl _,by omega,e⟩
       · exact .inr ⟨j,p1,by omega,by omega,p4⟩
     · rintro (h | ⟨j, p1, p2, p3, p4⟩)
       · exact .inl (.inl h)
       · by_cases hj : j = k
         · subst hj;exact .inl (.inr p1)
         · exact .inr ⟨j,p1,by omega,by omega,p4⟩
    |false=>
     simp only[cond_false]
     constructor
     · rintro (h | ⟨j, p1, p2, p3, p4⟩)
       · exact .inl h
       · exact .inr ⟨j,p1,by omega,by omega,p4⟩
     · rintro (h | ⟨j, p1, p2, p3, p4⟩)
       · exact .inl h
       · by_cases hj : j = k
         · subst hj;rw[e] at p4;cases p4
         · exact .inr ⟨j,p1,by omega,by omega,p4⟩
  · cases e : anyS (sd c k) px py with
    |true=>
     simp only[cond_true,List.mem_append,List.mem_singleton]
     constructor
     · rintro ((h | h) | ⟨j, p1, p2, p3, p4⟩)
       · exact .inl h
       · exact .inr ⟨k,h,Nat.le_refl _,by omega,e⟩
       · exact .inr ⟨j,p1,by omega,by omega,p4⟩
     · rintro (h | ⟨j, p1, p2, p3, p4⟩)
       · exact .inl (.inl h)
       · by_cases hj : j = k
         · subst hj;exact .inl (.inr p1)
         · exact .inr ⟨j,p1,by omega,by omega,p4⟩
    |false=>
     simp only[cond_false]
     constructor
     · rintro (h | ⟨j, p1, p2, p3, p4⟩)
       · exact .inl h
       · exact .inr ⟨j,p1,by omega,by omega,p4⟩
     · rintro (h | ⟨j, p1, p2, p3, p4⟩)
       · exact .inl h
       · by_cases hj : j = k
         · subst hj;rw[e] at p4;cases p4
         · exact .inr ⟨j,p1,by omega,by omega,p4⟩
  · cases e:allS (sd c k) px py<;>(rw[e] at h3;simp only[cond_true,cond_false,List.length_append,List.length_singleton] at h3⊢;omega)
  · cases e:anyS (sd c k) px py<;>(rw[e] at h4;simp only[cond_true,cond_false,List.length_append,List.length_singleton] at h4⊢;omega)
theorem onS_ok {c:tChart.den} {px py:Int} (hv:(chkS c).2.2=0) (h1:in10 px=true) (h2:in10 py=true):onS c px py=(onF c px py [] [] 0 c.2.1.2.length,0):=by
 unfold onS
 rw[hv,ieq_self,h1,h2];rfl
end Go.Proofs.YtgaoajmlckgdaaaGreatDoor


set_option maxRecDepth 100000
namespace Go.Proofs.YtgaoajmlckgdaaaGreatDoor
open Go Go.Eng
abbrev tB4:Ty:=.cons (.int .u8) (.cons (.int .u8) (.cons (.int .u8) (.cons (.int .u8) .nil)))
noncomputable def LV:List Said:=[(23,con2 tChart tP (fun _ _=>true) (fun c p=>tupS (onS c p.1 p.2.1))),
 (28,con2 tChart tP (fun _ _=>true) (fun c p=>.tup [.int .i64 (radS c p.1 p.2.1).1,.int .i64 (radS c p.1 p.2.1).2])),
 (43,con1 tChart (fun _=>true) (fun c=>.bool (ieq (chkS c).2.2 0))),
 (45,con2 (.sl tI) (.sl tI) (fun a b=>Nat.ble a.2.length 1000&&Nat.ble b.2.length 1000) (fun a b=>.bool (withS a.2 b.2))),
 (44,con2 tChart (.sl (.int .u16)) (fun c l=>u16 l.2&&ieq (chkS c).2.2 0) (fun c l=>.agg [.int .i64 (nX c l.2),.int .i64 (nY c l.2)])),(22,say0 (.bool true))]
theorem LV_ok:∀ e∈LV,SaidG Tryz.prog N4.glob e:=
 saids_cons (SaidOK.g h2 xh2 nh2 tabs_ok.mix (fun _ _ h=>con2_spec (t:=tChart) (u:=tP) (fun c p _=>on_call c p.1 p.2.1) h) rfl)
 (saids_cons (SaidOK.g en4 xn4 nn4 tabs_ok.mix (fun _ _ h=>con2_spec (t:=tChart) (u:=tP) (fun c p _=>radi_call c p) h) rfl)
 (saids_cons (SaidOK.g h2 xh2 nh2 tabs_ok.mix (fun _ _ h=>con1_spec (t:=tChart) (fun c _=>vali_call c) h) rfl)
 (saids_cons (SaidOK.g h3 xh3 nh3 tabs_ok.mix (fun _ _ h => con2_spec (t := .sl tI) (u := .sl tI) (fun a b hc => by
  rw[Bool.and_eq_true] at hc
  exact with_call a b (by have:=Nat.le_of_ble_eq_true hc.1;omega) hc.2) h) rfl)
 (saids_cons (SaidOK.g h3 xh3 nh3 tabs_ok.mix (fun _ _ h => con2_spec (t := tChart) (u := .sl (.int .u16)) (fun c l hc => by
  rw[Bool.and_eq_true] at hc
  exact near_call c l hc.1 (ieq_t' hc.2)) h) rfl)
 (saids_cons (XG.g (XG.closedT eA xA nA tabs_ok.mix l3 kn_true) rfl) saids_nil)))))
noncomputable def Po1:Env:=N4.say (under (xOf LV))
theorem po1:EnvOK Tryz.prog Po1:=en4.say _
theorem npo1:NameOK Po1:=nn4.say _
theorem xpo1:ExtOK Tryz.prog Po1:=xn4.sayL LV_ok
theorem Po1sy:Po1.sy=true:=rfl
noncomputable def Q1 (l:List Nat):Sy:=(V4 []).on LV l
theorem Q1_ok (l:List Nat):(Q1 l).ok Po1:=Sy.on_ok (V4_ok _)
theorem rad_is {c:tChart.den} {P Q:Int} (hv:(chkS c).2.2=0) (h1:in10 P=true) (h2:in10 Q=true):radS c P Q=(topR c.2.1.2 P Q,0):=by
 unfold radS;rw[hv,ieq_self,h1,h2];rfl
theorem hit_iff {S:List tSand.den} {px py r:Int} (hr:0<r) (hS:S.all goodS=true):hitR S px py r=true↔∃ i:Nat,i<S.length∧∃ a b:Int,
  ((S.getD i tSand.dflt).2.2.1.1.1≤a∧a≤(S.getD i tSand.dflt).2.2.1.1.2.1)∧((S.getD i tSand.dflt).2.2.1.2.1.1≤b∧b≤(S.getD i tSand.dflt).2.2.1.2.1.2.1)∧incF (S.getD i tSand.dflt).2.1.2 (px-a) (py-b) r=true:=by
 have hg:∀ i,i<S.length→goodS (S.getD i tSand.dflt)=true:=fun i hi=>by
  rw[List.getD_eq_getElem?_getD,List.getElem?_eq_getElem hi]
  exact List.all_eq_true.1 hS _ (List.getElem_mem hi)
 constructor
 · intro h
   have hf:firS S px py r=firF S px py r 0 S.length:=by
    unfold firS
    rw[show ieq r 0=false by rw[ieq_iff];exact decide_eq_false (by omega),cond_false]
   unfold hitR at h
   rw[hf] at h
   obtain⟨j,hj,e1,e2,e3⟩:=(firF_is S.length 0).1 h
   obtain⟨u,v,po1,p2,p3,p4,p5⟩:=(fmP_is (px:=px) (py:=py) (r:=r) rfl rfl rfl rfl (hg j (by omega))).1 e2
   exact⟨j,by omega,u,v,p2,p3,p4⟩
 · rintro ⟨i, hi, a, b, h1, h2, h3⟩
   cases e:hitR S px py r with
   |true=>rfl
   |false=>
    have:=clear_all hr e hi (hg i hi) h1 h2
    rw[h3] at this;cases this
end Go.Proofs.YtgaoajmlckgdaaaGreatDoor


set_option maxRecDepth 100000
namespace Go.Proofs.YtgaoajmlckgdaaaGreatDoor
open Go Go.Eng
def Wid (s t:tSand.den):Prop:=t.2.1.2=s.2.1.2∧(t.2.2.1.1.1≤s.2.2.1.1.1∧s.2.2.1.1.2.1≤t.2.2.1.1.2.1)∧t.2.2.1.2.1.1≤s.2.2.1.2.1.1∧s.2.2.1.2.1.2.1≤t.2.2.1.2.1.2.1
theorem wid_any {s t:tSand.den} (h:Wid s t) (hs:goodS s=true) (ht:goodS t=true) {P Q:Int} (ha:anyS s P Q=true):anyS t P Q=true:=by
 obtain⟨u,v,h1,h2,h3⟩:=(any_iff rfl rfl rfl rfl hs).1 ha
 obtain⟨e,⟨a1,a2⟩,a3,a4⟩:=h
 refine (any_iff rfl rfl rfl rfl ht).2 ⟨u,v,⟨Int.le_trans a1 h1.1,Int.le_trans h1.2 a2⟩,⟨Int.le_trans a3 h2.1,Int.le_trans h2.2 a4⟩,?_⟩
 unfold liesS at h3⊢
 rw[e];exact h3
theorem wid_all {s t:tSand.den} (h:Wid s t) (hs:goodS s=true) (ht:goodS t=true) {P Q:Int} (ha:allS t P Q=true):allS s P Q=true:=by
 have h0:=(all_iff rfl rfl rfl rfl ht).1 ha
 obtain⟨e,⟨a1,a2⟩,a3,a4⟩:=h
 refine (all_iff rfl rfl rfl rfl hs).2 (fun u v h1 h2=>?_)
 have:=h0 u v ⟨Int.le_trans a1 h1.1,Int.le_trans h1.2 a2⟩ ⟨Int.le_trans a3 h2.1,Int.le_trans h2.2 a4⟩
 unfold liesS at this⊢
 rw[e] at this;exact this
section
variable {c W:tChart.den} (hc:(chkS c).2.2=0) (hW:(chkS W).2.2=0) (hl:W.2.1.2.length=c.2.1.2.length) (h:∀ i,i<c.2.1.2.length→Wid (sd c i) (sd W i)) {P Q:Int} (hP:in10 P=true) (hQ:in10 Q=true)
include hc hW hl h hP hQ
theorem wid_some:withS (onS c P Q).1.2 (onS W P Q).1.2=true:=by
 rw[onS_ok hc hP hQ,onS_ok hW hP hQ]
 refine withS_of (fun x hx=>?_)
 have h1:=(onF_mem (c:=c) (px:=P) (py:=Q) (n:=x) (r:=c.2.1.2.length) (k:=0) (s:=[]) (t:=[])).2.1
 have h2:=(onF_mem (c:=W) (px:=P) (py:=Q) (n:=x) (r:=W.2.1.2.length) (k:=0) (s:=[]) (t:=[])).2.1
 rcases h1.1 hx with hh|⟨j,e,_,hj,ha⟩
 · cases hh
 · have hj' : j < c.2.1.2.length := by omega
   exact h2.2 (.inr ⟨j,e,Nat.zero_le _,by omega,wid_any (h j hj') (sd_good hc hj') (sd_good hW (by omega)) ha⟩)
theorem wid_sure:withS (onS W P Q).1.1 (onS c P Q).1.1=true:=by
 rw[onS_ok hc hP hQ,onS_ok hW hP hQ]
 refine withS_of (fun x hx=>?_)
 have h1:=(onF_mem (c:=c) (px:=P) (py:=Q) (n:=x) (r:=c.2.1.2.length) (k:=0) (s:=[]) (t:=[])).1
 have h2:=(onF_mem (c:=W) (px:=P) (py:=Q) (n:=x) (r:=W.2.1.2.length) (k:=0) (s:=[]) (t:=[])).1
 rcases h2.1 hx with hh|⟨j,e,_,hj,ha⟩
 · cases hh
 · have hj' : j < c.2.1.2.length := by omega
   exact h1.2 (.inr ⟨j,e,Nat.zero_le _,by omega,wid_all (h j hj') (sd_good hc hj') (sd_good hW (by omega)) ha⟩)
theorem wid_top:topR W.2.1.2 P Q≤topR c.2.1.2 P Q:=by
 obtain⟨⟨a1,a2⟩,a3⟩:=topR_is c.2.1.2 P Q
 obtain⟨⟨b1,b2⟩,b3⟩:=topR_is W.2.1.2 P Q
 refine Int.not_lt.1 (fun hlt=>?_)
 obtain⟨x,hx⟩:∃ x,topR c.2.1.2 P Q+1=x:=⟨_,rfl⟩
 have hh:=(a3 x (by omega) (by omega)).2 (by omega)
 obtain⟨i,hi,a,b,h1,h2,h3⟩:=(hit_iff (by omega) (valid_sands hc).2).1 hh
 obtain⟨e,⟨w1,w2⟩,w3,w4⟩:=h i hi
 have hit:hitR W.2.1.2 P Q x=true:=(hit_iff (by omega) (valid_sands hW).2).2 ⟨i,by omega,a,b,⟨Int.le_trans w1 h1.1,Int.le_trans h1.2 w2⟩,⟨Int.le_trans w3 h2.1,Int.le_trans h2.2 w4⟩,by
  have e':(W.2.1.2.getD i tSand.dflt).2.1.2=(c.2.1.2.getD i tSand.dflt).2.1.2:=e
  rw[e'];exact h3⟩
 have:=(b3 x (by omega) (by omega)).1 hit
 omega
end
noncomputable def wS (b:tB4.den) (s:tSand.den):tSand.den:=(s.1,s.2.1,((wr .i64 (s.2.2.1.1.1-(wr .i64 b.1).tmod 8),wr .i64 (s.2.2.1.1.2.1+(wr .i64 b.2.1).tmod 8),()),(wr .i64 (s.2.2.1.2.1.1-(wr .i64 b.2.2.1).tmod 8),wr .i64 (s.2.2.1.2.1.2.1+(wr .i64 b.2.2.2.1).tmod 8),()),()),())
theorem wS_wid {b:tB4.den} {s:tSand.den} (hg:goodS s=true) (h0:0≤b.1∧b.1≤255) (h1:0≤b.2.1∧b.2.1≤255) (h2:0≤b.2.2.1∧b.2.2.1≤255) (h3:0≤b.2.2.2.1∧b.2.2.2.1≤255):Wid s (wS b s):=by
 obtain⟨x0,e0⟩:∃ x:Int,s.2.2.1.1.1=x:=⟨_,rfl⟩
 obtain⟨x1,e1⟩:∃ x:Int,s.2.2.1.1.2.1=x:=⟨_,rfl⟩
 obtain⟨y0,e2⟩:∃ x:Int,s.2.2.1.2.1.1=x:=⟨_,rfl⟩
 obtain⟨y1,e3⟩:∃ x:Int,s.2.2.1.2.1.2.1=x:=⟨_,rfl⟩
 obtain⟨_,⟨⟨g2,g3⟩,g4,g5⟩,_,_⟩:=goodS_iff e0 e1 e2 e3 hg
 have i0:=in5_iff.1 g2
 have i1:=in5_iff.1 g3
 have i2:=in5_iff.1 g4
 have i3:=in5_iff.1 g5
 have m:∀ n:Int,0≤n∧n≤255→0≤(wr .i64 n).tmod 8∧(wr .i64 n).tmod 8<8:=fun n hn=>by
  rw[wr_in (n:=n) (by omega) (by omega),Int.tmod_eq_emod_of_nonneg hn.1]
  exact⟨Int.emod_nonneg _ (by decide),Int.emod_lt_of_pos _ (by decide)⟩
 have m0:=m _ h0
 have m1:=m _ h1
 have m2:=m _ h2
 have m3:=m _ h3
 unfold Wid wS
 simp only[e0,e1,e2,e3]
 obtain⟨z0,f0⟩:∃ x:Int,(wr .i64 b.1).tmod 8=x:=⟨_,rfl⟩
 obtain⟨z1,f1⟩:∃ x:Int,(wr .i64 b.2.1).tmod 8=x:=⟨_,rfl⟩
 obtain⟨z2,f2⟩:∃ x:Int,(wr .i64 b.2.2.1).tmod 8=x:=⟨_,rfl⟩
 obtain⟨z3,f3⟩:∃ x:Int,(wr .i64 b.2.2.2.1).tmod 8=x:=⟨_,rfl⟩
 rw[f0] at m0;rw[f1] at m1;rw[f2] at m2;rw[f3] at m3
 rw[f0,f1,f2,f3,wr_in (n:=x0-z0) (by omega) (by omega),wr_in (n:=x1+z1) (by omega) (by omega),wr_in (n:=y0-z2) (by omega) (by omega),wr_in (n:=y1+z3) (by omega) (by omega)]
 exact⟨trivial,⟨show (x0-z0:Int)≤x0 by omega,show (x1:Int)≤x1+z1 by omega⟩,show (y0-z2:Int)≤y0 by omega,show (y1:Int)≤y1+z3 by omega⟩
end Go.Proofs.YtgaoajmlckgdaaaGreatDoor


set_option maxRecDepth 100000
namespace Go.Proofs.YtgaoajmlckgdaaaGreatDoor
open Go Go.Eng
noncomputable def cwidI0 (c:tChart.den) (b:tB4.den) (y:(Ty.sl (.int .u16)).den) (x54:Nat):Cfg:=⟨.ex (pcOf Po1 10 [0,0,1,0,1,1,1,1]) ⟨(tmOf 148 [(0,(.agg [(.vs tMark (c.1.1) (c.1.2)),(.vs tSand (c.2.1.1) (c.2.1.2))])),(1,(.agg [(.int .u8 (b.1)),(.int .u8 (b.2.1)),(.int .u8 (b.2.2.1)),(.int .u8 (b.2.2.2.1))])),(2,(.vs (.int .u16) (y.1) (y.2))),(3,(.ptr 0 0)),(4,(.ptr 1 0)),(6,(.bool (false))),(7,(.ptr 2 0)),(8,(.int .i64 (0))),(21,(.agg [(.vs tMark (c.1.1) (c.1.2)),(.vs tSand (c.2.1.1) (c.2.1.2))])),(22,(.bool (ieq (chkS c).2.2 0))),(23,(.bool (false))),(25,(.agg [(.vs tMark (c.1.1) (c.1.2)),(.vs tSand (c.2.1.1) (c.2.1.2))])),(26,(.ptr 2 1))]),(hpOf 3 [(0,(.cells false [(.vs tMark (c.1.1) (c.1.2)),(.vs tSand (c.2.1.1) (c.2.1.2))])),(1,(.cells false [(.int .u8 (b.1)),(.int .u8 (b.2.1)),(.int .u8 (b.2.2.1)),(.int .u8 (b.2.2.2.1))])),(2,(.cells false [(.vs tMark (c.1.1) (c.1.2)),.nils]))]),[],[],148,false⟩,⟨8,[]⟩,[(.lop (pcOf Po1 10 [0,0,1,0,1,1,1,1]) 3 (tmOf 148 [(0,(.agg [(.vs tMark (c.1.1) (c.1.2)),(.vs tSand (c.2.1.1) (c.2.1.2))])),(1,(.agg [(.int .u8 (b.1)),(.int .u8 (b.2.1)),(.int .u8 (b.2.2.1)),(.int .u8 (b.2.2.2.1))])),(2,(.vs (.int .u16) (y.1) (y.2))),(3,(.ptr 0 0)),(4,(.ptr 1 0)),(6,(.bool (false))),(7,(.ptr 2 0)),(8,(.int .i64 (0))),(21,(.agg [(.vs tMark (c.1.1) (c.1.2)),(.vs tSand (c.2.1.1) (c.2.1.2))])),(22,(.bool (ieq (chkS c).2.2 0))),(23,(.bool (false))),(25,(.agg [(.vs tMark (c.1.1) (c.1.2)),(.vs tSand (c.2.1.1) (c.2.1.2))])),(26,(.ptr 2 1))]) x54),(.blk 0),(.seq (pcOf Po1 10 [1,1,1,1,1])),(.cal [(.tmp 6)] .top)]⟩
noncomputable def cwidI1 (c:tChart.den) (b:tB4.den) (y:(Ty.sl (.int .u16)).den) (x11:Int) (x32:Nat) (x34:List AV) (x57:Nat):Cfg:=⟨.ex (pcOf Po1 10 [0,0,1,0,1,1,1,1]) ⟨(tmOf 148 [(0,(.agg [(.vs tMark (c.1.1) (c.1.2)),(.vs tSand (c.2.1.1) (c.2.1.2))])),(1,(.agg [(.int .u8 (b.1)),(.int .u8 (b.2.1)),(.int .u8 (b.2.2.1)),(.int .u8 (b.2.2.2.1))])),(2,(.vs (.int .u16) (y.1) (y.2))),(3,(.ptr 0 0)),(4,(.ptr 1 0)),(6,(.bool (false))),(7,(.ptr 2 0)),(8,(.int .i64 x11)),(21,(.agg [(.vs tMark (c.1.1) (c.1.2)),(.vs tSand (c.2.1.1) (c.2.1.2))])),(22,(.bool (ieq (chkS c).2.2 0))),(23,(.bool (false))),(25,(.agg [(.vs tMark (c.1.1) (c.1.2)),(.vs tSand (c.2.1.1) (c.2.1.2))])),(26,(.ptr 2 1))]),(hpOf 4 [(0,(.cells false [(.vs tMark (c.1.1) (c.1.2)),(.vs tSand (c.2.1.1) (c.2.1.2))])),(1,(.cells false [(.int .u8 (b.1)),(.int .u8 (b.2.1)),(.int .u8 (b.2.2.1)),(.int .u8 (b.2.2.2.1))])),(2,(.cells false [(.vs tMark (c.1.1) (c.1.2)),(.sl 3 0 x32 x32 6)])),(3,(.cells false x34))]),[],[],148,false⟩,⟨8,[]⟩,[(.lop (pcOf Po1 10 [0,0,1,0,1,1,1,1]) 3 (tmOf 148 [(0,(.agg [(.vs tMark (c.1.1) (c.1.2)),(.vs tSand (c.2.1.1) (c.2.1.2))])),(1,(.agg [(.int .u8 (b.1)),(.int .u8 (b.2.1)),(.int .u8 (b.2.2.1)),(.int .u8 (b.2.2.2.1))])),(2,(.vs (.int .u16) (y.1) (y.2))),(3,(.ptr 0 0)),(4,(.ptr 1 0)),(6,(.bool (false))),(7,(.ptr 2 0)),(8,(.int .i64 (0))),(21,(.agg [(.vs tMark (c.1.1) (c.1.2)),(.vs tSand (c.2.1.1) (c.2.1.2))])),(22,(.bool (ieq (chkS c).2.2 0))),(23,(.bool (false))),(25,(.agg [(.vs tMark (c.1.1) (c.1.2)),(.vs tSand (c.2.1.1) (c.2.1.2))])),(26,(.ptr 2 1))]) x57),(.blk 0),(.seq (pcOf Po1 10 [1,1,1,1,1])),(.cal [(.tmp 6)] .top)]⟩
theorem cwid_start (c:tChart.den) (b:tB4.den) (y:(Ty.sl (.int .u16)).den):adv Po1 (Q1 [10]) 3000 (startC Po1 10 [tChart.av c,tB4.av b,.vs (.int .u16) y.1 y.2] 8)=(bif !ieq (chkS c).2.2 0 then some (.done (.bool (true))) else some (.stop (cwidI0 c b y (1048575)))):=by kernel_rfl
theorem cwid_step0 (c:tChart.den) (b:tB4.den) (y:(Ty.sl (.int .u16)).den) (x54:Nat):adv Po1 (Q1 [10]) 3000 (cwidI0 c b y (x54+1))=(bif !ile (↑c.2.1.2.length) 0 then (bif inB 0 c.2.1.2.length then some (.stop (cwidI1 c b y (1) (1) ([AV.str (c.2.1.2.getD (Int.toNat 0) tSand.dflt).1,AV.vs tP (c.2.1.2.getD (Int.toNat 0) tSand.dflt).2.1.1 (c.2.1.2.getD (Int.toNat 0) tSand.dflt).2.1.2,AV.int IntKind.i64 (wr .i64 ((c.2.1.2.getD (Int.toNat 0) tSand.dflt).2.2.1.1.1-(wr .i64 b.1).tmod 8)),AV.int IntKind.i64 (wr .i64 ((c.2.1.2.getD (Int.toNat 0) tSand.dflt).2.2.1.1.2.1+(wr .i64 b.2.1).tmod 8)),AV.int IntKind.i64 (wr .i64 ((c.2.1.2.getD (Int.toNat 0) tSand.dflt).2.2.1.2.1.1-(wr .i64 b.2.2.1).tmod 8)),AV.int IntKind.i64 (wr .i64 ((c.2.1.2.getD (Int.toNat 0) tSand.dflt).2.2.1.2.1.2.1+(wr .i64 b.2.2.2.1).tmod 8))]) (x54))) else none) else (bif !ieq (chkS (c.1,(true,[]),())).2.2 0 then some (.done (.bool (true))) else (bif u16 y.2&&ieq (chkS c).2.2 0 then (bif ieq (onS c (nX c y.2) (nY c y.2)).2 0 then (bif ieq (onS (c.1,(true,[]),()) (nX c y.2) (nY c y.2)).2 0 then (bif ieq (radS c (nX c y.2) (nY c y.2)).2 0 then (bif ieq (radS (c.1,(true,[]),()) (nX c y.2) (nY c y.2)).2 0 then (bif (onS c (nX c y.2) (nY c y.2)).1.2.length.ble 1000&&(onS (c.1,(true,[]),()) (nX c y.2) (nY c y.2)).1.2.length.ble 1000 then (bif withS (onS c (nX c y.2) (nY c y.2)).1.2 (onS (c.1,(true,[]),()) (nX c y.2) (nY c y.2)).1.2 then (bif (onS (c.1,(true,[]),()) (nX c y.2) (nY c y.2)).1.1.length.ble 1000&&(onS c (nX c y.2) (nY c y.2)).1.1.length.ble 1000 then (bif withS (onS (c.1,(true,[]),()) (nX c y.2) (nY c y.2)).1.1 (onS c (nX c y.2) (nY c y.2)).1.1 then (bif ile (radS (c.1,(true,[]),()) (nX c y.2) (nY c y.2)).1 (radS c (nX c y.2) (nY c y.2)).1 then some (.done (.bool (true))) else some (.done (.bool (false)))) else some (.done (.bool (false)))) else none) else some (.done (.bool (false)))) else none) else some (.done (.bool (false)))) else some (.done (.bool (false)))) else some (.done (.bool (false)))) else some (.done (.bool (false)))) else none))):=by kernel_rfl
theorem cwid_step1 (c:tChart.den) (b:tB4.den) (y:(Ty.sl (.int .u16)).den) (x11:Int) (x32:Nat) (x34:List AV) (x57:Nat):adv Po1 (Q1 [10]) 3000 (cwidI1 c b y x11 x32 x34 (x57+1))=(bif !ile (↑c.2.1.2.length) x11 then (bif inB x11 c.2.1.2.length then (bif (0+x32 * 6).beq x34.length then (bif x32.ble 1048576 then (bif plO (AO.cells false (x34++[AV.str (c.2.1.2.getD x11.toNat tSand.dflt).1,AV.vs tP (c.2.1.2.getD x11.toNat tSand.dflt).2.1.1 (c.2.1.2.getD x11.toNat tSand.dflt).2.1.2,AV.int IntKind.i64 (wr .i64 ((c.2.1.2.getD x11.toNat tSand.dflt).2.2.1.1.1-(wr .i64 b.1).tmod 8)),AV.int IntKind.i64 (wr .i64 ((c.2.1.2.getD x11.toNat tSand.dflt).2.2.1.1.2.1+(wr .i64 b.2.1).tmod 8)),AV.int IntKind.i64 (wr .i64 ((c.2.1.2.getD x11.toNat tSand.dflt).2.2.1.2.1.1-(wr .i64 b.2.2.1).tmod 8)),AV.int IntKind.i64 (wr .i64 ((c.2.1.2.getD x11.toNat tSand.dflt).2.2.1.2.1.2.1+(wr .i64 b.2.2.2.1).tmod 8))])) then some (.stop (cwidI1 c b y (wr .i64 (x11+1)) (x32+1) (x34++[AV.str (c.2.1.2.getD x11.toNat tSand.dflt).1,AV.vs tP (c.2.1.2.getD x11.toNat tSand.dflt).2.1.1 (c.2.1.2.getD x11.toNat tSand.dflt).2.1.2,AV.int IntKind.i64 (wr .i64 ((c.2.1.2.getD x11.toNat tSand.dflt).2.2.1.1.1-(wr .i64 b.1).tmod 8)),AV.int IntKind.i64 (wr .i64 ((c.2.1.2.getD x11.toNat tSand.dflt).2.2.1.1.2.1+(wr .i64 b.2.1).tmod 8)),AV.int IntKind.i64 (wr .i64 ((c.2.1.2.getD x11.toNat tSand.dflt).2.2.1.2.1.1-(wr .i64 b.2.2.1).tmod 8)),AV.int IntKind.i64 (wr .i64 ((c.2.1.2.getD x11.toNat tSand.dflt).2.2.1.2.1.2.1+(wr .i64 b.2.2.2.1).tmod 8))]) (x57))) else none) else none) else none) else none) else (bif plainL x34 then (bif isF (rd tSand) x32 x34&&true&&true then (bif !ieq (chkS (c.1,(false,unf (rd tSand) x32 x34),())).2.2 0 then some (.done (.bool (true))) else (bif u16 y.2&&ieq (chkS c).2.2 0 then (bif plainL x34 then (bif isF (rd tSand) x32 x34&&true&&true then (bif plainL x34 then (bif isF (rd tSand) x32 x34&&true&&true then (bif ieq (onS c (nX c y.2) (nY c y.2)).2 0 then (bif ieq (onS (c.1,(false,unf (rd tSand) x32 x34),()) (nX c y.2) (nY c y.2)).2 0 then (bif ieq (radS c (nX c y.2) (nY c y.2)).2 0 then (bif ieq (radS (c.1,(false,unf (rd tSand) x32 x34),()) (nX c y.2) (nY c y.2)).2 0 then (bif (onS c (nX c y.2) (nY c y.2)).1.2.length.ble 1000&&(onS (c.1,(false,unf (rd tSand) x32 x34),()) (nX c y.2) (nY c y.2)).1.2.length.ble 1000 then (bif withS (onS c (nX c y.2) (nY c y.2)).1.2 (onS (c.1,(false,unf (rd tSand) x32 x34),()) (nX c y.2) (nY c y.2)).1.2 then (bif (onS (c.1,(false,unf (rd tSand) x32 x34),()) (nX c y.2) (nY c y.2)).1.1.length.ble 1000&&(onS c (nX c y.2) (nY c y.2)).1.1.length.ble 1000 then (bif withS (onS (c.1,(false,unf (rd tSand) x32 x34),()) (nX c y.2) (nY c y.2)).1.1 (onS c (nX c y.2) (nY c y.2)).1.1 then (bif ile (radS (c.1,(false,unf (rd tSand) x32 x34),()) (nX c y.2) (nY c y.2)).1 (radS c (nX c y.2) (nY c y.2)).1 then some (.done (.bool (true))) else some (.done (.bool (false)))) else some (.done (.bool (false)))) else none) else some (.done (.bool (false)))) else none) else some (.done (.bool (false)))) else some (.done (.bool (false)))) else some (.done (.bool (false)))) else some (.done (.bool (false)))) else none) else none) else none) else none) else none)) else none) else none)):=by kernel_rfl
theorem flatS_len (l:List tSand.den):(flat tSand l).length=l.length * 6:=by
 induction l with
 |nil=>rfl
 |cons a l ih=>rw[show flat tSand (a::l)=tSand.cells a++flat tSand l from rfl,List.length_append,ih,List.length_cons,show (tSand.cells a).length=6 from rfl];omega
theorem flatS_plain (l:List tSand.den):plainL (flat tSand l)=true:=by
 induction l with
 |nil=>rfl
 |cons a l ih=>exact ih
theorem flatS_beq {l:List tSand.den} {n:Nat} (h:l.length=n):(0+n * 6).beq (flat tSand l).length=true:=by
 rw[flatS_len,h,Nat.zero_add];exact Nat.beq_refl _
theorem flatS_add (b:tB4.den) (l:List tSand.den) (s:tSand.den):flat tSand l++[AV.str s.1,AV.vs tP s.2.1.1 s.2.1.2,AV.int .i64 (wr .i64 (s.2.2.1.1.1-(wr .i64 b.1).tmod 8)),AV.int .i64 (wr .i64 (s.2.2.1.1.2.1+(wr .i64 b.2.1).tmod 8)),AV.int .i64 (wr .i64 (s.2.2.1.2.1.1-(wr .i64 b.2.2.1).tmod 8)),AV.int .i64 (wr .i64 (s.2.2.1.2.1.2.1+(wr .i64 b.2.2.2.1).tmod 8))]=flat tSand (l++[wS b s]):=by
 unfold flat
 rw[List.flatMap_append]
 rfl
theorem gdN {α:Type} {l:List α} {i:Nat} {d:α} (h:i<l.length):l.getD i d=l[i]:=by
 rw[List.getD_eq_getElem?_getD,List.getElem?_eq_getElem h];rfl
noncomputable def wC (c:tChart.den) (b:tB4.den):tChart.den:=(c.1,(false,c.2.1.2.map (wS b)),())
section
variable {c W:tChart.den} (hc:(chkS c).2.2=0) (hW:(chkS W).2.2=0) (hl:W.2.1.2.length=c.2.1.2.length) (h:∀ i,i<c.2.1.2.length→Wid (sd c i) (sd W i)) {P Q:Int} (hP:in10 P=true) (hQ:in10 Q=true)
include hc hP hQ
theorem on_ble:(onS c P Q).2=0∧(onS c P Q).1.1.length.ble 1000=true∧(onS c P Q).1.2.length.ble 1000=true:=by
 rw[onS_ok hc hP hQ]
 obtain⟨h1,h2⟩:=(onF_mem (c:=c) (px:=P) (py:=Q) (n:=0) (r:=c.2.1.2.length) (k:=0) (s:=[]) (t:=[])).2.2
 have h4:=(valid_sands hc).1
 simp only[List.length_nil,Nat.zero_add] at h1 h2
 exact⟨rfl,Nat.ble_eq_true_of_le (Nat.le_trans h1 (by omega)),Nat.ble_eq_true_of_le (Nat.le_trans h2 (by omega))⟩
include hW hl h
end
theorem wid_end (c W:tChart.den) (y:(Ty.sl (.int .u16)).den) (hy:u16 y.2=true) (hc:(chkS c).2.2=0) (hl:W.2.1.2.length=c.2.1.2.length) (h:∀ i,i<c.2.1.2.length→Wid (sd c i) (sd W i)) {x:Option Out} {n:Nat} {S:Cfg}
  (hx : x = (bif !ieq (chkS W).2.2 0 then some (.done (.bool true)) else (bif u16 y.2 && ieq (chkS c).2.2 0 then (bif ieq (onS c (nX c y.2) (nY c y.2)).2 0 then (bif ieq (onS W (nX c y.2) (nY c y.2)).2 0 then (bif ieq (radS c (nX c y.2) (nY c y.2)).2 0 then (bif ieq (radS W (nX c y.2) (nY c y.2)).2 0 then
   (bif (onS c (nX c y.2) (nY c y.2)).1.2.length.ble 1000&&(onS W (nX c y.2) (nY c y.2)).1.2.length.ble 1000 then (bif withS (onS c (nX c y.2) (nY c y.2)).1.2 (onS W (nX c y.2) (nY c y.2)).1.2 then (bif (onS W (nX c y.2) (nY c y.2)).1.1.length.ble 1000&&(onS c (nX c y.2) (nY c y.2)).1.1.length.ble 1000 then
   (bif withS (onS W (nX c y.2) (nY c y.2)).1.1 (onS c (nX c y.2) (nY c y.2)).1.1 then (bif ile (radS W (nX c y.2) (nY c y.2)).1 (radS c (nX c y.2) (nY c y.2)).1 then some (.done (.bool true)) else some (.done (.bool false))) else some (.done (.bool false))) else none) else some (.done (.bool false))) else none)
   else some (.done (.bool false))) else some (.done (.bool false))) else some (.done (.bool false))) else some (.done (.bool false))) else none))) (e:adv Po1 (Q1 [10]) n S=x):AnsB Po1 S true:=by
 subst hx
 cases c1:ieq (chkS W).2.2 0 with
 |false=>
  simp only[c1,Bool.not_false,cond_true] at e
  exact .doneB (Q1_ok _) Po1sy e rfl
 | true =>
  have hW:=ieq_t' c1
  have hP:=nX_in c y.2
  have hQ:=nY_in c y.2
  obtain⟨a1,a2,a3⟩:=on_ble hc hP hQ
  obtain⟨b1,b2,b3⟩:=on_ble hW hP hQ
  simp only[c1,hy,hc,a1,a2,a3,b1,b2,b3,rad_is hc hP hQ,rad_is hW hP hQ,wid_some hc hW hl h hP hQ,wid_sure hc hW hl h hP hQ,ieq_self,Bool.and_self,Bool.not_true,cond_true,cond_false,
   show ile (topR W.2.1.2 (nX c y.2) (nY c y.2)) (topR c.2.1.2 (nX c y.2) (nY c y.2))=true by rw[ile_iff];exact decide_eq_true (wid_top hc hW hl h hP hQ)] at e
  exact .doneB (Q1_ok _) Po1sy e rfl
section
variable (c:tChart.den) (b:tB4.den) (y:(Ty.sl (.int .u16)).den) (hc:(chkS c).2.2=0) (hy:u16 y.2=true) (hb:(0≤b.1∧b.1≤255)∧(0≤b.2.1∧b.2.1≤255)∧(0≤b.2.2.1∧b.2.2.1≤255)∧0≤b.2.2.2.1∧b.2.2.2.1≤255)
include hc hb
theorem wC_wid (i:Nat) (hi:i<c.2.1.2.length):Wid (sd c i) (sd (wC c b) i):=by
 have e:sd (wC c b) i=wS b (sd c i):=by
  unfold sd
  have h1:i<(c.2.1.2.map (wS b)).length:=by rw[List.length_map];exact hi
  show (c.2.1.2.map (wS b)).getD i tSand.dflt=_
  rw[gdN h1,gdN hi,List.getElem_map]
 rw[e]
 exact wS_wid (sd_good hc hi) hb.1 hb.2.1 hb.2.2.1 hb.2.2.2
include hy
theorem cwid_loop:∀ (r k m:Nat),k+r=c.2.1.2.length→r<m→AnsB Po1 (cwidI1 c b y k k (flat tSand ((c.2.1.2.take k).map (wS b))) m) true
 |0,k,m+1,hk,hm=>by
  have h:=cwid_step1 c b y k k (flat tSand ((c.2.1.2.take k).map (wS b))) m
  have hk':k=c.2.1.2.length:=by omega
  have ht:c.2.1.2.take k=c.2.1.2:=by rw[hk',List.take_length]
  rw[ht] at h⊢
  obtain⟨u1,u2⟩:=unf_flat (t:=tSand) (c.2.1.2.map (wS b)) k (by rw[List.length_map];exact hk')
  simp only[ile_ge (show c.2.1.2.length≤k by omega),List.drop_zero,flatS_plain,u1,u2,Bool.and_true,Bool.not_true,cond_true,cond_false] at h
  exact wid_end c (wC c b) y hy hc (List.length_map ..) (wC_wid c b hc hb) rfl h
 | r + 1, k, m + 1, hk, hm => by
  have h:=cwid_step1 c b y k k (flat tSand ((c.2.1.2.take k).map (wS b))) m
  have hlt:k<c.2.1.2.length:=by omega
  have h4:=(valid_sands hc).1
  have e1:((c.2.1.2.take k).map (wS b)).length=k:=by rw[List.length_map,List.length_take];omega
  have e2:(c.2.1.2.take k).map (wS b)++[wS b (c.2.1.2.getD k tSand.dflt)]=(c.2.1.2.take (k+1)).map (wS b):=by
   rw[gdN hlt,List.take_succ_eq_append_getElem hlt,List.map_append];rfl
  have e3:=flatS_add b ((c.2.1.2.take k).map (wS b)) (c.2.1.2.getD k tSand.dflt)
  rw[e2] at e3
  simp only[ile_lt hlt,inB_at hlt,nat_to,flatS_beq e1,Nat.ble_eq_true_of_le (show k≤1048576 by omega),plO,wr_succ (show k<1048577 by omega),Bool.not_false,cond_true] at h
  have h':adv Po1 (Q1 [10]) 3000 (cwidI1 c b y k k (flat tSand ((c.2.1.2.take k).map (wS b))) (m+1))=bif plainL (flat tSand ((c.2.1.2.take (k+1)).map (wS b))) then some (.stop (cwidI1 c b y ((k+1:Nat):Int) (k+1) (flat tSand ((c.2.1.2.take (k+1)).map (wS b))) m)) else none:=by
   rw[← e3];exact h
  rw[flatS_plain,cond_true] at h'
  exact .stop (Q1_ok _) Po1sy h' (cwid_loop r (k+1) m (by omega) (by omega))
theorem cwid_ans:AnsB Po1 (startC Po1 10 [tChart.av c,tB4.av b,.vs (.int .u16) y.1 y.2] 8) true:=by
 have h:=cwid_start c b y
 simp only[hc,ieq_self,Bool.not_true,cond_false] at h
 refine .stop (Q1_ok _) Po1sy h ?_
 have h:=cwid_step0 c b y 1048574
 by_cases hlt:0<c.2.1.2.length
 · have h4 := (valid_sands hc).1
   have e2:[wS b (c.2.1.2.getD (Int.toNat 0) tSand.dflt)]=(c.2.1.2.take 1).map (wS b):=by
    show [wS b (c.2.1.2.getD 0 tSand.dflt)]=_
    rw[gdN hlt,show (1:Nat)=0+1 from rfl,List.take_succ_eq_append_getElem hlt];rfl
   have e3:=flatS_add b [] (c.2.1.2.getD (Int.toNat 0) tSand.dflt)
   rw[List.nil_append,e2,show flat tSand []=[] from rfl,List.nil_append] at e3
   simp only[ile_lt0 hlt,inB_0 hlt,Bool.not_false,cond_true] at h
   have h':adv Po1 (Q1 [10]) 3000 (cwidI0 c b y (1048574+1))=some (.stop (cwidI1 c b y ((1:Nat):Int) 1 (flat tSand ((c.2.1.2.take 1).map (wS b))) 1048574)):=by
    rw[← e3];exact h
   exact .stop (Q1_ok _) Po1sy h' (cwid_loop c b y hc hy hb (c.2.1.2.length-1) 1 _ (by omega) (by omega))
 · have hz : c.2.1.2.length = 0 := by omega
   simp only[show ile (c.2.1.2.length:Int) 0=true by rw[hz];rfl,Bool.not_true,cond_false] at h
   exact wid_end c (c.1,(true,[]),()) y hy hc (by rw[hz];rfl) (fun i hi=>by omega) rfl h
end
theorem u16_wfZ {l:(Ty.sl (.int .u16)).den} (h:(Ty.sl (.int .u16)).wf l=true):u16 l.2=true:=by
 unfold u16
 rw[List.all_eq_true] at *
 intro n hn
 have:=List.all_eq_true.1 h n hn
 simp only[Ty.wf,Bool.and_eq_true,decide_eq_true_eq] at this
 rw[ile_iff,ile_iff,Bool.and_eq_true]
 exact⟨decide_eq_true this.1,decide_eq_true this.2⟩
theorem wider_true (c:tChart.den) (b:tB4.den) (y:(Ty.sl (.int .u16)).den) (hb:tB4.wf b=true) (hy:(Ty.sl (.int .u16)).wf y=true):∃ σ,callN Po1 (8+1) 10 [tChart.av c,tB4.av b,(Ty.sl (.int .u16)).av y] .empty [] []=some (.bool true,σ,[]):=by
 refine AnsB.call (ext_none (by kernel_rfl)) (hasB_spec (by kernel_rfl)) ?_
 cases c1:ieq (chkS c).2.2 0 with
 |false=>
  have h:=cwid_start c b y
  simp only[c1,Bool.not_false,cond_true] at h
  exact .doneB (Q1_ok _) Po1sy h rfl
 |true=>
  simp only[Ty.wf,Bool.and_eq_true,decide_eq_true_eq] at hb
  exact cwid_ans c b y (ieq_t' c1) (u16_wfZ hy) ⟨hb.1,hb.2.1,hb.2.2.1,hb.2.2.2.1⟩
end Go.Proofs.YtgaoajmlckgdaaaGreatDoor


namespace Go.Proofs.YtgaoajmlckgdaaaGreatDoor
open Go Go.ChangeShapes Go.WideShapes Go.Eng
theorem kOwn:ownKnob Tryz.prog.godebug=none:=by kernel_rfl
theorem kPlain:(Rows.chartWiderRow.laid.all fun x=>x.2.handleName?.isNone)=true:=by kernel_rfl
theorem kLaid:allT (glB Tryz.prog Rows.chartWiderRow.laid) T0.gl (fun k=>k)=true:=by kernel_rfl
theorem kParams:Tryz.f10.params=#[25,79,64]:=by kernel_rfl
theorem kResults:Tryz.f10.resultTypes=#[4]:=by kernel_rfl
theorem kLaidOut:laidOutB Tryz.prog=true:=by kernel_rfl
theorem kRead:Tryz.f10.params.toList.all (fun t=>Tryz.prog.readableRec t&&decide (t<Tryz.prog.types.size))=true:=by kernel_rfl
theorem kFit1:fits Tryz.prog (tChart) 25=true:=by kernel_rfl
theorem kFit2:fits Tryz.prog (tB4) 79=true:=by kernel_rfl
theorem kFit3:fits Tryz.prog (Ty.sl (.int .u16)) 64=true:=by kernel_rfl
theorem kGlob:Po1.glob=T0.gl.get:=rfl
theorem kExt (c1:(tChart).den) (c2:(tB4).den) (c3:(Ty.sl (.int .u16)).den):Po1.ext 10 [tChart.av c1,tB4.av c2,(Ty.sl (.int .u16)).av c3]=none:=ext_none (by kernel_rfl)
set_option maxRecDepth 100000 in
theorem kLifted (os:Os) (started:os.Started) (H:Type) (enc:TypeId×Value→H) :
  ReturnsInHanded {} Tryz.checked os 10 .any (fun w args=>(Rows.chartWiderSpec.pre enc Tryz.prog Tryz.f10 [] false w args∧laidMetH Tryz.prog Rows.chartWiderRow.laid w)∧sizedMet enc Tryz.prog Tryz.f10 (OpenSpec.ofChange Rows.chartWiderSpec) false w args)
   (Rows.chartWiderSpec.post enc Tryz.prog Tryz.f10 false true false false):=by
 refine returnsInHanded_of_change_and (C:=Tryz.checked) (X:=fun w _=>laidMetH Tryz.prog Rows.chartWiderRow.laid w) (fun _ _ _ hh h=>h.of_heap hh) kOwn started (by kernel_rfl) Tryz.func10
  (ChangeSpec.witness_shaped (enc := enc) (C := Tryz.checked) (os := os) (X := fun w _ => laidMetH Tryz.prog Rows.chartWiderRow.laid w) false (World.laidAll Tryz.prog os Rows.chartWiderRow.laid) #[.agg #[.slice none 0 0, .slice none 0 0], .agg #[.int .u8 0, .int .u8 0, .int .u8 0, .int .u8 0], .slice none 0 0] 8 (World.laidAll_os _ _ _)
   (World.shaped_of_ZipB (by kernel_rfl) (by kernel_rfl)) (by kernel_rfl) (by kernel_rfl) (by kernel_rfl)
   (by rw[MakeChecks.laidMetH_plain _ _ _ kPlain];exact laidMet_laidAll _ (by kernel_rfl) (by kernel_rfl))) ?_
 intro W base args ds gs before hok hW _ _ hL _
 have hL':laidMet Tryz.prog Rows.chartWiderRow.laid W:=by rw[← MakeChecks.laidMetH_plain _ _ _ kPlain];exact hL
 have hW':=hW
 obtain⟨p,q,hA,_⟩:=hW
 rw[kParams] at hA
 obtain⟨v1,v2,v3,d1,d2,d3,p1,p2,p3,e1',e2',hp,t1,t2,t3⟩:=trodAll_three hA
 subst e1';subst e2'
 rw[kParams] at hok
 obtain⟨c1,h1,w1⟩:=arg_ty (t:=tChart) (hok 0 25 v1 rfl rfl) kFit1 t1
 obtain⟨c2,h2,w2⟩:=arg_ty (t:=tB4) (hok 1 79 v2 rfl rfl) kFit2 t2
 obtain⟨c3,h3,w3⟩:=arg_ty (t:=Ty.sl (.int .u16)) (hok 2 64 v3 rfl rfl) kFit3 t3
 obtain⟨σ,hrun⟩:=wider_true c1 c2 c3 w2 w3
 refine (law_run (A:=[v1,v2,v3]) (V:=Go.Eng.seen W) po1 xpo1 npo1 tabs_ok.mix (kExt c1 c2 c3) hrun (.cons h1 (.cons h2 (.cons h3 (.nil _)))) (by kernel_rfl) (fun _ _ _ h=>h) (glob_of kGlob kLaid hL')).mono fun e W' ⟨he,hf⟩=>?_
 subst he
 exact⟨_,rfl,post_law kLaidOut kRead kResults Tryz.underlying4 rfl rfl hW' hf⟩
theorem kHolds:Rows.ChartWiderSaid:=
 OpenClaim.holds_of_wide 10 Tryz.f10 rfl rfl rfl rfl rfl rfl rfl ⟨rfl,rfl,rfl,rfl,rfl⟩ rfl rfl rfl rfl rfl (by kernel_rfl) Tryz.func10 (by kernel_rfl)
  (of_decide_eq_true (by kernel_rfl)) (by unfold Func.isWrapper;first|(rw[if_pos (by decide +kernel)];kernel_rfl)|(rw[if_neg (by decide +kernel)];exact⟨rfl,rfl⟩))
  (fun os started H enc _=>kLifted os started H enc)
theorem chartWider_holds:Rows.ChartWiderCardSaid:=
 Claim7.holds_tied_plain_at .later [] Rows.chartWiderCard.laidKinds true Rows.chartWiderCard.stood.harness true
  kHolds (fun _ h=>by cases h) (by kernel_rfl) (fun _ h=>by cases h) chartWider_row_tie rfl ⟨rfl,rfl⟩ (by kernel_rfl) rfl
  (fun f fn hf hfn => by
   obtain rfl : f = 10 := Option.some.inj ((show Tryz.prog.funcNamed "nore/norelaw01.ChartWider" = some 10 by kernel_rfl).symm.trans hf) |>.symm
   obtain rfl:fn=Tryz.f10:=(Option.some.inj (Tryz.func10.symm.trans hfn)).symm
   exact⟨by kernel_rfl,fun j t ht=>by
    rw[kParams] at ht
    rcases j with _|_|_|j<;>simp at ht<;>subst ht<;>kernel_rfl⟩)
  (by kernel_rfl)
#print axioms chartWider_holds
end Go.Proofs.YtgaoajmlckgdaaaGreatDoor

