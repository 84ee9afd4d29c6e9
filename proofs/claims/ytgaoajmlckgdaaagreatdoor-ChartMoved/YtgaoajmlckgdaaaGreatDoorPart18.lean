/-
  What is proved: norelaw01.ChartMoved returns true for every chart, vector, day, mark, place and list of numbers. Conditions: none but those of the given card (package-level variables start as the program's text lays them).
-/
import Derived.Test.YtgaoajmlckgdaaaGreatDoorPart06
import Derived.Test.YtgaoajmlckgdaaaGreatDoorPart07
import Derived.Test.YtgaoajmlckgdaaaGreatDoorPart08
import Derived.Test.YtgaoajmlckgdaaaGreatDoorPart09
import Derived.Test.YtgaoajmlckgdaaaGreatDoorPart10
import Derived.Test.YtgaoajmlckgdaaaGreatDoorPart11
import Derived.Test.YtgaoajmlckgdaaaGreatDoorPart17
import Derived.Test.YtgaoajmlckgdaaaGreatDoorPart12
import Derived.Test.YtgaoajmlckgdaaaGreatDoorPart13
import Derived.Test.YtgaoajmlckgdaaaGreatDoorPart14
import Derived.Test.YtgaoajmlckgdaaaGreatDoorPart15
import Derived.Test.YtgaoajmlckgdaaaGreatDoorPart05
import Derived.Test.YtgaoajmlckgdaaaGreatDoorPart03
import Derived.Test.YtgaoajmlckgdaaaGreatDoorPart04
import Derived.Test.YtgaoajmlckgdaaaGreatDoorRows
import Derived.Test.YtgaoajmlckgdaaaGreatDoorCards
import Derived.Test.YtgaoajmlckgdaaaGreatDoorTie
import Derived.ProofKit
import Derived.LaidMore
import Derived.OpenShut
import Derived.Stop.Joined
import Derived.Lay
import Derived.SevenTiedAt
set_option linter.unusedSectionVars false
set_option linter.unusedSimpArgs false
set_option linter.unusedVariables false
set_option maxRecDepth 100000
namespace Go.Proofs.YtgaoajmlckgdaaaGreatDoor
open Go Go.Eng
noncomputable def L3:List Ent:=[c0,c1,c2,c3,c4,c5,c6,c7,c8,c9,c10]
theorem l3:∀ e∈L3,EntOK Tryz.prog EA e:=ents_cons o0 (ents_cons o1 (ents_cons o2 (ents_cons o3 (ents_cons o4 (ents_cons o5 (ents_cons o6 (ents_cons o7 (ents_cons o8 (ents_cons o9 (ents_cons o10 (ents_nil)))))))))))
end Go.Proofs.YtgaoajmlckgdaaaGreatDoor


set_option maxRecDepth 100000
namespace Go.Proofs.YtgaoajmlckgdaaaGreatDoor
open Go Go.Eng
theorem kn_true:isTrueT EA L3 40 22=true:=by kernel_rfl
end Go.Proofs.YtgaoajmlckgdaaaGreatDoor


set_option maxRecDepth 100000
namespace Go.Proofs.YtgaoajmlckgdaaaGreatDoor
open Go Go.Eng
theorem near_start (c:tChart.den) (l:(Ty.sl (.int .u16)).den):adv H3 (Y3 []) 3000 (startC H3 44 [tChart.av c,.vs (.int .u16) l.1 l.2] 6)=(bif u16 l.2&&ile 0 1 then (bif u16 l.2&&ile 0 2 then (bif !ile (↑c.2.1.2.length) 0 then (bif u16 l.2&&ile 0 0 then (bif ieq (↑c.2.1.2.length) 0 then none else (bif inB ((turnS l.2 0).tmod ↑c.2.1.2.length) c.2.1.2.length then (bif bbeq c.2.1.1 c.2.1.1 then (bif vsB tSand c.2.1.2 tSand c.2.1.2 then (bif bbeq c.2.1.1 c.2.1.1 then (bif vsB tSand c.2.1.2 tSand c.2.1.2 then (bif bbeq c.2.1.1 c.2.1.1 then (bif vsB tSand c.2.1.2 tSand c.2.1.2 then (bif bbeq c.2.1.1 c.2.1.1 then (bif vsB tSand c.2.1.2 tSand c.2.1.2 then (bif u16 l.2&&ile 0 3 then (bif ieq (↑(c.2.1.2.getD ((turnS l.2 0).tmod ↑c.2.1.2.length).toNat tSand.dflt).2.1.2.length) 0 then none else (bif inB ((turnS l.2 3).tmod ↑(c.2.1.2.getD ((turnS l.2 0).tmod ↑c.2.1.2.length).toNat tSand.dflt).2.1.2.length) (c.2.1.2.getD ((turnS l.2 0).tmod ↑c.2.1.2.length).toNat tSand.dflt).2.1.2.length then (bif bbeq (c.2.1.2.getD ((turnS l.2 0).tmod ↑c.2.1.2.length).toNat tSand.dflt).2.1.1 (c.2.1.2.getD ((turnS l.2 0).tmod ↑c.2.1.2.length).toNat tSand.dflt).2.1.1 then (bif vsB tP (c.2.1.2.getD ((turnS l.2 0).tmod ↑c.2.1.2.length).toNat tSand.dflt).2.1.2 tP (c.2.1.2.getD ((turnS l.2 0).tmod ↑c.2.1.2.length).toNat tSand.dflt).2.1.2 then (bif bbeq (c.2.1.2.getD ((turnS l.2 0).tmod ↑c.2.1.2.length).toNat tSand.dflt).2.1.1 (c.2.1.2.getD ((turnS l.2 0).tmod ↑c.2.1.2.length).toNat tSand.dflt).2.1.1 then (bif vsB tP (c.2.1.2.getD ((turnS l.2 0).tmod ↑c.2.1.2.length).toNat tSand.dflt).2.1.2 tP (c.2.1.2.getD ((turnS l.2 0).tmod ↑c.2.1.2.length).toNat tSand.dflt).2.1.2 then (bif bbeq (c.2.1.2.getD ((turnS l.2 0).tmod ↑c.2.1.2.length).toNat tSand.dflt).2.1.1 (c.2.1.2.getD ((turnS l.2 0).tmod ↑c.2.1.2.length).toNat tSand.dflt).2.1.1 then (bif vsB tP (c.2.1.2.getD ((turnS l.2 0).tmod ↑c.2.1.2.length).toNat tSand.dflt).2.1.2 tP (c.2.1.2.getD ((turnS l.2 0).tmod ↑c.2.1.2.length).toNat tSand.dflt).2.1.2 then (bif bbeq (c.2.1.2.getD ((turnS l.2 0).tmod ↑c.2.1.2.length).toNat tSand.dflt).2.1.1 (c.2.1.2.getD ((turnS l.2 0).tmod ↑c.2.1.2.length).toNat tSand.dflt).2.1.1 then (bif vsB tP (c.2.1.2.getD ((turnS l.2 0).tmod ↑c.2.1.2.length).toNat tSand.dflt).2.1.2 tP (c.2.1.2.getD ((turnS l.2 0).tmod ↑c.2.1.2.length).toNat tSand.dflt).2.1.2 then (bif ieq (wr .i64 ((turnS l.2 1).tmod 400-200)) (wr .i64 ((turnS l.2 1).tmod 400-200)) then (bif ieq (wr .i64 ((turnS l.2 2).tmod 400-200)) (wr .i64 ((turnS l.2 2).tmod 400-200)) then (bif ieq (wr .i64 ((turnS l.2 1).tmod 400-200)) (wr .i64 ((turnS l.2 1).tmod 400-200)) then (bif ieq (wr .i64 ((turnS l.2 2).tmod 400-200)) (wr .i64 ((turnS l.2 2).tmod 400-200)) then some (.done (.agg [(.int .i64 (bif ile (bif ile 10000 (wr .i64 (wr .i64 ((turnS l.2 1).tmod 400-200)+((c.2.1.2.getD ((turnS l.2 0).tmod ↑c.2.1.2.length).toNat tSand.dflt).2.1.2.getD ((turnS l.2 3).tmod ↑(c.2.1.2.getD ((turnS l.2 0).tmod ↑c.2.1.2.length).toNat tSand.dflt).2.1.2.length).toNat tP.dflt).1)) then 10000 else wr .i64 (wr .i64 ((turnS l.2 1).tmod 400-200)+((c.2.1.2.getD ((turnS l.2 0).tmod ↑c.2.1.2.length).toNat tSand.dflt).2.1.2.getD ((turnS l.2 3).tmod ↑(c.2.1.2.getD ((turnS l.2 0).tmod ↑c.2.1.2.length).toNat tSand.dflt).2.1.2.length).toNat tP.dflt).1)) (-10000) then -10000 else bif ile 10000 (wr .i64 (wr .i64 ((turnS l.2 1).tmod 400-200)+((c.2.1.2.getD ((turnS l.2 0).tmod ↑c.2.1.2.length).toNat tSand.dflt).2.1.2.getD ((turnS l.2 3).tmod ↑(c.2.1.2.getD ((turnS l.2 0).tmod ↑c.2.1.2.length).toNat tSand.dflt).2.1.2.length).toNat tP.dflt).1)) then 10000 else wr .i64 (wr .i64 ((turnS l.2 1).tmod 400-200)+((c.2.1.2.getD ((turnS l.2 0).tmod ↑c.2.1.2.length).toNat tSand.dflt).2.1.2.getD ((turnS l.2 3).tmod ↑(c.2.1.2.getD ((turnS l.2 0).tmod ↑c.2.1.2.length).toNat tSand.dflt).2.1.2.length).toNat tP.dflt).1))),(.int .i64 (bif ile (bif ile 10000 (wr .i64 (wr .i64 ((turnS l.2 2).tmod 400-200)+((c.2.1.2.getD ((turnS l.2 0).tmod ↑c.2.1.2.length).toNat tSand.dflt).2.1.2.getD ((turnS l.2 3).tmod ↑(c.2.1.2.getD ((turnS l.2 0).tmod ↑c.2.1.2.length).toNat tSand.dflt).2.1.2.length).toNat tP.dflt).2.1)) then 10000 else wr .i64 (wr .i64 ((turnS l.2 2).tmod 400-200)+((c.2.1.2.getD ((turnS l.2 0).tmod ↑c.2.1.2.length).toNat tSand.dflt).2.1.2.getD ((turnS l.2 3).tmod ↑(c.2.1.2.getD ((turnS l.2 0).tmod ↑c.2.1.2.length).toNat tSand.dflt).2.1.2.length).toNat tP.dflt).2.1)) (-10000) then -10000 else bif ile 10000 (wr .i64 (wr .i64 ((turnS l.2 2).tmod 400-200)+((c.2.1.2.getD ((turnS l.2 0).tmod ↑c.2.1.2.length).toNat tSand.dflt).2.1.2.getD ((turnS l.2 3).tmod ↑(c.2.1.2.getD ((turnS l.2 0).tmod ↑c.2.1.2.length).toNat tSand.dflt).2.1.2.length).toNat tP.dflt).2.1)) then 10000 else wr .i64 (wr .i64 ((turnS l.2 2).tmod 400-200)+((c.2.1.2.getD ((turnS l.2 0).tmod ↑c.2.1.2.length).toNat tSand.dflt).2.1.2.getD ((turnS l.2 3).tmod ↑(c.2.1.2.getD ((turnS l.2 0).tmod ↑c.2.1.2.length).toNat tSand.dflt).2.1.2.length).toNat tP.dflt).2.1)))])) else none) else none) else none) else none) else none) else none) else none) else none) else none) else none) else none) else none) else none)) else none) else none) else none) else none) else none) else none) else none) else none) else none) else none)) else none) else some (.done (.agg [(.int .i64 (bif ile (bif ile 10000 (wr .i64 ((turnS l.2 1).tmod 400-200)) then 10000 else wr .i64 ((turnS l.2 1).tmod 400-200)) (-10000) then -10000 else bif ile 10000 (wr .i64 ((turnS l.2 1).tmod 400-200)) then 10000 else wr .i64 ((turnS l.2 1).tmod 400-200))),(.int .i64 (bif ile (bif ile 10000 (wr .i64 ((turnS l.2 2).tmod 400-200)) then 10000 else wr .i64 ((turnS l.2 2).tmod 400-200)) (-10000) then -10000 else bif ile 10000 (wr .i64 ((turnS l.2 2).tmod 400-200)) then 10000 else wr .i64 ((turnS l.2 2).tmod 400-200)))]))) else none) else none):=by kernel_rfl
noncomputable def withS:List tI.den→List tI.den→Bool
 |[],_=>true
 |x::l,b=>bif hasS b x then withS l b else false
noncomputable def clp (v:Int):Int:=bif ile (bif ile 10000 v then 10000 else v) (-10000) then -10000 else bif ile 10000 v then 10000 else v
theorem clp_in (v:Int):in10 (clp v)=true:=by
 rw[in10_iff]
 unfold clp
 cases c1:ile 10000 v with
 |true=>simp only[cond_true,show ile 10000 (-10000)=false from rfl,cond_false];omega
 | false =>
  rw[ile_iff] at c1
  simp only[decide_eq_false_iff_not] at c1
  simp only[cond_false]
  cases c2:ile v (-10000) with
  |true=>simp only[cond_true];omega
  |false=>
   rw[ile_iff] at c2
   simp only[decide_eq_false_iff_not] at c2
   simp only[cond_false];omega
noncomputable def nrC (c:tChart.den) (l:List Int):tP.den:=(c.2.1.2.getD ((turnS l 0).tmod (c.2.1.2.length:Int)).toNat tSand.dflt).2.1.2.getD ((turnS l 3).tmod ((c.2.1.2.getD ((turnS l 0).tmod (c.2.1.2.length:Int)).toNat tSand.dflt).2.1.2.length:Int)).toNat tP.dflt
noncomputable def nX (c:tChart.den) (l:List Int):Int:=bif ile (c.2.1.2.length:Int) 0 then clp (wr .i64 ((turnS l 1).tmod 400-200)) else clp (wr .i64 (wr .i64 ((turnS l 1).tmod 400-200)+(nrC c l).1))
noncomputable def nY (c:tChart.den) (l:List Int):Int:=bif ile (c.2.1.2.length:Int) 0 then clp (wr .i64 ((turnS l 2).tmod 400-200)) else clp (wr .i64 (wr .i64 ((turnS l 2).tmod 400-200)+(nrC c l).2.1))
theorem nX_in (c:tChart.den) (l:List Int):in10 (nX c l)=true:=by unfold nX;cases ile (c.2.1.2.length:Int) 0<;>exact clp_in _
theorem nY_in (c:tChart.den) (l:List Int):in10 (nY c l)=true:=by unfold nY;cases ile (c.2.1.2.length:Int) 0<;>exact clp_in _
theorem mod_at {a:Int} {n:Nat} (ha:0≤a) (hn:0<n):inB (a.tmod (n:Int)) n=true∧(a.tmod (n:Int)).toNat<n:=by
 have e:a.tmod (n:Int)=a % (n:Int):=Int.tmod_eq_emod_of_nonneg ha
 have h1:=Int.emod_nonneg a (show (n:Int)≠0 by omega)
 have h2:=Int.emod_lt_of_pos a (show 0<(n:Int) by omega)
 rw[e]
 exact⟨by rw[inB_iff];exact decide_eq_true ⟨h1,h2⟩,by omega⟩
theorem near_call (c:tChart.den) (l:(Ty.sl (.int .u16)).den) (hl:u16 l.2=true) (hv:(chkS c).2.2=0):AnsF H3 44 [tChart.av c,.vs (.int .u16) l.1 l.2] (.agg [.int .i64 (nX c l.2),.int .i64 (nY c l.2)]):=by
 refine Ans.call (n:=6) (ext_none (by kernel_rfl)) (hasB_spec (by kernel_rfl)) ?_
 have h:=near_start c l
 have t1:ile 0 1=true:=rfl
 have t2:ile 0 2=true:=rfl
 have t3:ile 0 3=true:=rfl
 have t0:ile 0 0=true:=rfl
 have q0:=turnS_b hl 0
 have q3:=turnS_b hl 3
 unfold nX nY
 cases c1:ile (c.2.1.2.length:Int) 0 with
 |true=>
  simp only[hl,t1,t2,c1,Bool.and_self,Bool.not_true,cond_true,cond_false] at h⊢
  exact .done (Y3_ok _) H3sy h rfl
 |false=>
  have hpos:0<c.2.1.2.length:=by rw[ile_iff] at c1;simp only[decide_eq_false_iff_not] at c1;omega
  obtain⟨m1,m2⟩:=mod_at q0.1 hpos
  have hg:=goodS_len (sd_good hv m2)
  have z1:ieq (c.2.1.2.length:Int) 0=false:=by rw[ieq_iff];exact decide_eq_false (by omega)
  unfold nrC
  unfold sd at hg
  generalize hS:c.2.1.2.getD ((turnS l.2 0).tmod (c.2.1.2.length:Int)).toNat tSand.dflt=S at h hg
  obtain⟨m3,m4⟩:=mod_at q3.1 (show 0<S.2.1.2.length by omega)
  have z2:ieq (S.2.1.2.length:Int) 0=false:=by rw[ieq_iff];exact decide_eq_false (by omega)
  simp only[hl,t0,t1,t2,t3,c1,m1,m3,z1,z2,ieq_self,bbeq_self,vsB_self,Bool.and_self,Bool.not_false,cond_true,cond_false] at h⊢
  exact .done (Y3_ok _) H3sy h rfl
noncomputable def mX (s:tSand.den) (l:List Int) (n:Int):Int:=amS s.2.2.1.1.1 s.2.2.1.1.2.1 (turnS l (2 * n))
noncomputable def mY (s:tSand.den) (l:List Int) (n:Int):Int:=amS s.2.2.1.2.1.1 s.2.2.1.2.1.2.1 (turnS l (2 * n+1))
noncomputable def LK:List Said:=[(45,con2 (.sl tI) (.sl tI) (fun a b=>Nat.ble a.2.length 1000&&Nat.ble b.2.length 1000) (fun a b=>.bool (withS a.2 b.2))),
 (44,con2 tChart (.sl (.int .u16)) (fun c l=>u16 l.2&&ieq (chkS c).2.2 0) (fun c l=>.agg [.int .i64 (nX c l.2),.int .i64 (nY c l.2)])),
 (47,con3 tSand (.sl (.int .u16)) tI (fun s l n=>u16 l.2&&goodS s&&ile 0 n&&ile n 1000) (fun s l n=>.agg [.int .i64 (mX s l.2 n),.int .i64 (mY s l.2 n)])),(22,say0 (.bool true))]
noncomputable def H4:Env:=H3.say (under (xOf LK))
theorem h4:EnvOK Tryz.prog H4:=h3.say _
end Go.Proofs.YtgaoajmlckgdaaaGreatDoor


set_option maxRecDepth 100000
namespace Go.Proofs.YtgaoajmlckgdaaaGreatDoor
open Go Go.Eng
noncomputable def liesS (s:tSand.den) (px py u v:Int):Bool:=liesF s.2.1.2 (px-u) (py-v) 0 s.2.1.2.length
theorem any_iff {s:tSand.den} {x0 x1 y0 y1:Int} (e0:s.2.2.1.1.1=x0) (e1:s.2.2.1.1.2.1=x1) (e2:s.2.2.1.2.1.1=y0) (e3:s.2.2.1.2.1.2.1=y1) (hg:goodS s=true) {px py:Int}:anyS s px py=true↔∃ u v:Int,(x0≤u∧u≤x1)∧(y0≤v∧v≤y1)∧liesS s px py u v=true:=by
 obtain⟨_,_,g6,g7⟩:=goodS_iff e0 e1 e2 e3 hg
 unfold anyS mvSd mvS liesS
 rw[e0,e1,e2,e3]
 have h:=mvF_any (C:=s.2.1.2) (fx:=px) (fy:=py) g7.1 (x1-x0+1).toNat x0
 constructor
 · intro hh
   rw[ile_iff] at hh
   simp only[Bool.not_eq_true',decide_eq_false_iff_not] at hh
   obtain⟨u,v,h1,h2,h3⟩:=h.1 (by omega)
   exact⟨u,v,by omega,h2,h3⟩
 · rintro ⟨u, v, h1, h2, h3⟩
   have:=h.2 ⟨u,v,by omega,h2,h3⟩
   rw[ile_iff,decide_eq_false (by omega)];rfl
theorem all_iff {s:tSand.den} {x0 x1 y0 y1:Int} (e0:s.2.2.1.1.1=x0) (e1:s.2.2.1.1.2.1=x1) (e2:s.2.2.1.2.1.1=y0) (e3:s.2.2.1.2.1.2.1=y1) (hg:goodS s=true) {px py:Int}:allS s px py=true↔∀ u v:Int,(x0≤u∧u≤x1)→(y0≤v∧v≤y1)→liesS s px py u v=true:=by
 obtain⟨_,_,g6,g7⟩:=goodS_iff e0 e1 e2 e3 hg
 unfold allS mvSd mvS liesS totSd
 rw[e0,e1,e2,e3]
 have h:=mvF_all (C:=s.2.1.2) (fx:=px) (fy:=py) g7.1 (x1-x0+1).toNat x0
 rw[show (((x1-x0+1).toNat:Nat):Int)=x1-x0+1 by omega] at h
 constructor
 · intro hh u v h1 h2
   exact h.1 (ieq_t' hh) u v (by omega) h2
 · intro hh
   rw[ieq_iff]
   exact decide_eq_true (h.2 (fun u v h1 h2=>hh u v (by omega) h2))
theorem onF_mem {c:tChart.den} {px py:Int} {n:Int}:∀ {r k:Nat} {s t:List Int},
  (n∈(onF c px py s t k r).1↔n∈s∨∃ j:Nat,n=j∧k≤j∧j<k+r∧allS (sd c j) px py=true) ∧
  (n∈(onF c px py s t k r).2↔n∈t∨∃ j:Nat,n=j∧k≤j∧j<k+r∧anyS (sd c j) px py=true) ∧
  ((onF c px py s t k r).1.length≤s.length+r∧(onF c px py s t k r).2.length≤t.length+r)
 |0,k,s,t=>by
  rw[onF]
  refine⟨⟨Or.inl,?_⟩,⟨Or.inl,?_⟩,by simp,by simp⟩
  · rintro (h | ⟨j, _, h1, h2, _⟩)
    · exact h
    · omega
  · rintro (h | ⟨j, _, h1, h2, _⟩)
    · exact h
    · omega
 | r + 1, k, s, t => by
  rw[onF]
  obtain⟨h1,h2,h3,h4⟩:=onF_mem (c:=c) (px:=px) (py:=py) (n:=n) (r:=r) (k:=k+1) (s:=bif allS (sd c k) px py then s++[(k:Int)] else s) (t:=bif anyS (sd c k) px py then t++[(k:Int)] else t)
  refine⟨h1.trans ?_,h2.trans ?_,?_,?_⟩
  · cases e : allS (sd c k) px py with
    |true=>
     simp only[cond_true,List.mem_append,List.mem_singleton]
     constructor
     · rintro ((h | h) | ⟨j, p1, p2, p3, p4⟩)
       · exact .inl h
       · exact .inr ⟨k,h,Nat.le_refl _,by omega,e⟩
       · exact .inr ⟨j,p1,by omega,by omega,p4⟩
     · rintro (h | ⟨j, p1, p2, p3, p4⟩)
       · exact .inl (.inl h)
       · by_cases hj : j = k
         · subst hj;exact .inl (.inr p1)
         · exact .inr ⟨j,p1,by omega,by omega,p4⟩
    |false=>
     simp only[cond_false]
     constructor
     · rintro (h | ⟨j, p1, p2, p3, p4⟩)
       · exact .inl h
       · exact .inr ⟨j,p1,by omega,by omega,p4⟩
     · rintro (h | ⟨j, p1, p2, p3, p4⟩)
       · exact .inl h
       · by_cases hj : j = k
         · subst hj;rw[e] at p4;cases p4
         · exact .inr ⟨j,p1,by omega,by omega,p4⟩
  · cases e : anyS (sd c k) px py with
    |true=>
     simp only[cond_true,List.mem_append,List.mem_singleton]
     constructor
     · rintro ((h | h) | ⟨j, p1, p2, p3, p4⟩)
       · exact .inl h
       · exact .inr ⟨k,h,Nat.le_refl _,by omega,e⟩
       · exact .inr ⟨j,p1,by omega,by omega,p4⟩
     · rintro (h | ⟨j, p1, p2, p3, p4⟩)
       · exact .inl (.inl h)
       · by_cases hj : j = k
         · subst hj;exact .inl (.inr p1)
         · exact .inr ⟨j,p1,by omega,by omega,p4⟩
    |false=>
     simp only[cond_false]
     constructor
     · rintro (h | ⟨j, p1, p2, p3, p4⟩)
       · exact .inl h
       · exact .inr ⟨j,p1,by omega,by omega,p4⟩
     · rintro (h | ⟨j, p1, p2, p3, p4⟩)
       · exact .inl h
       · by_cases hj : j = k
         · subst hj;rw[e] at p4;cases p4
         · exact .inr ⟨j,p1,by omega,by omega,p4⟩
  · cases e:allS (sd c k) px py<;>(rw[e] at h3;simp only[cond_true,cond_false,List.length_append,List.length_singleton] at h3⊢;omega)
  · cases e:anyS (sd c k) px py<;>(rw[e] at h4;simp only[cond_true,cond_false,List.length_append,List.length_singleton] at h4⊢;omega)
theorem onS_ok {c:tChart.den} {px py:Int} (hv:(chkS c).2.2=0) (h1:in10 px=true) (h2:in10 py=true):onS c px py=(onF c px py [] [] 0 c.2.1.2.length,0):=by
 unfold onS
 rw[hv,ieq_self,h1,h2];rfl
end Go.Proofs.YtgaoajmlckgdaaaGreatDoor


set_option maxRecDepth 100000
namespace Go.Proofs.YtgaoajmlckgdaaaGreatDoor
open Go Go.Eng
theorem ckdy_start (c:tChart.den) (d m:Int):adv F1 (Z1 []) 3000 (startC F1 77 [tChart.av c,.int .i64 d,.int .i64 m] 6)=(bif !ieq (chkS c).2.2 0 then some (.done (.int .i64 ((chkS c).2.2))) else (bif !ile 0 d then some (.done (.int .i64 (7))) else (bif !ile d 40000 then some (.done (.int .i64 (7))) else (bif !ile 0 m then some (.done (.int .i64 (4))) else (bif !ile m (wr .i64 (↑c.1.2.length-1)) then some (.done (.int .i64 (4))) else some (.done (.int .i64 (0)))))))):=by kernel_rfl
theorem datd_start (c:tChart.den) (d m:Int):adv F1 (Z1 []) 3000 (startC F1 79 [tChart.av c,.int .i64 d,.int .i64 m] 6)=(bif ieq (chkS c).2.2 0 then (bif ile 0 d then (bif !ile d 40000 then some (.done (.int .i64 (7))) else (bif ieq (chkS c).2.2 0 then (bif ile 0 m then (bif !ile m (wr .i64 (↑c.1.2.length-1)) then some (.done (.int .i64 (4))) else some (.done (.int .i64 ((chkS c).2.2)))) else some (.done (.int .i64 (4)))) else some (.done (.int .i64 ((chkS c).2.2))))) else some (.done (.int .i64 (7)))) else (bif ieq (chkS c).2.2 0 then (bif ile 0 m then (bif !ile m (wr .i64 (↑c.1.2.length-1)) then some (.done (.int .i64 (4))) else some (.done (.int .i64 ((chkS c).2.2)))) else some (.done (.int .i64 (4)))) else some (.done (.int .i64 ((chkS c).2.2))))):=by kernel_rfl
theorem ckst_start (c:tChart.den) (d m:Int):adv F1 (Z1 []) 3000 (startC F1 81 [tChart.av c,.int .i64 d,.int .i64 m] 6)=(bif !ieq (chkS c).2.2 0 then (bif !ieq (chkS c).2.2 0 then some (.done (.int .i64 ((chkS c).2.2))) else (bif inB m c.1.2.length then (bif (c.1.2.getD m.toNat tMark.dflt).2.2.1.2.length.ble 1000 then (bif ieq (colF d 0 (c.1.2.getD m.toNat tMark.dflt).2.2.1.2) 0 then some (.done (.int .i64 (9))) else some (.done (.int .i64 (0)))) else none) else none)) else (bif !ile 0 d then some (.done (.int .i64 (7))) else (bif !ile d 40000 then some (.done (.int .i64 (7))) else (bif !ile 0 m then some (.done (.int .i64 (4))) else (bif !ile m (wr .i64 (↑c.1.2.length-1)) then some (.done (.int .i64 (4))) else (bif inB m c.1.2.length then (bif (c.1.2.getD m.toNat tMark.dflt).2.2.1.2.length.ble 1000 then (bif ieq (colF d 0 (c.1.2.getD m.toNat tMark.dflt).2.2.1.2) 0 then some (.done (.int .i64 (9))) else some (.done (.int .i64 (0)))) else none) else none)))))):=by kernel_rfl
theorem stnd_start (c:tChart.den) (d m:Int):adv F1 (Z1 []) 3000 (startC F1 84 [tChart.av c,.int .i64 d,.int .i64 m] 6)=(bif ieq (chkS c).2.2 0 then (bif ile 0 d then (bif !ile d 40000 then some (.done (.int .i64 (7))) else (bif ieq (chkS c).2.2 0 then (bif ile 0 m then (bif !ile m (wr .i64 (↑c.1.2.length-1)) then some (.done (.int .i64 (4))) else (bif ieq (chkS c).2.2 0 then (bif inB m c.1.2.length then (bif (c.1.2.getD m.toNat tMark.dflt).2.2.1.2.length.ble 1000 then (bif ieq (colF d 0 (c.1.2.getD m.toNat tMark.dflt).2.2.1.2) 0 then some (.done (.int .i64 (9))) else some (.done (.int .i64 ((chkS c).2.2)))) else none) else none) else some (.done (.int .i64 ((chkS c).2.2))))) else some (.done (.int .i64 (4)))) else (bif ieq (chkS c).2.2 0 then (bif inB m c.1.2.length then (bif (c.1.2.getD m.toNat tMark.dflt).2.2.1.2.length.ble 1000 then (bif ieq (colF d 0 (c.1.2.getD m.toNat tMark.dflt).2.2.1.2) 0 then some (.done (.int .i64 (9))) else some (.done (.int .i64 ((chkS c).2.2)))) else none) else none) else some (.done (.int .i64 ((chkS c).2.2)))))) else some (.done (.int .i64 (7)))) else (bif ieq (chkS c).2.2 0 then (bif ile 0 m then (bif !ile m (wr .i64 (↑c.1.2.length-1)) then some (.done (.int .i64 (4))) else (bif ieq (chkS c).2.2 0 then (bif inB m c.1.2.length then (bif (c.1.2.getD m.toNat tMark.dflt).2.2.1.2.length.ble 1000 then (bif ieq (colF d 0 (c.1.2.getD m.toNat tMark.dflt).2.2.1.2) 0 then some (.done (.int .i64 (9))) else some (.done (.int .i64 ((chkS c).2.2)))) else none) else none) else some (.done (.int .i64 ((chkS c).2.2))))) else some (.done (.int .i64 (4)))) else (bif ieq (chkS c).2.2 0 then (bif inB m c.1.2.length then (bif (c.1.2.getD m.toNat tMark.dflt).2.2.1.2.length.ble 1000 then (bif ieq (colF d 0 (c.1.2.getD m.toNat tMark.dflt).2.2.1.2) 0 then some (.done (.int .i64 (9))) else some (.done (.int .i64 ((chkS c).2.2)))) else none) else none) else some (.done (.int .i64 ((chkS c).2.2)))))):=by kernel_rfl
theorem ieq_t {a b:Int} (h:ieq a b=true):a=b:=by rw[ieq_iff] at h;simpa using h
theorem ieq_f {a b:Int} (h:ieq a b=false):a≠b:=by rw[ieq_iff] at h;simpa using h
theorem paintsE_len {l:List tP.den} (h:paintsE l=0):l.length≤4:=by
 unfold paintsE at h
 cases c1:ile 1 (l.length:Int)<;>cases c2:ile (l.length:Int) 4<;>simp only[c1,c2,Bool.and_true,Bool.and_false,Bool.and_self,cond_true,cond_false] at h<;>first|(exact absurd h (by decide))|skip
 rw[ile_iff] at c2;simp at c2;omega
noncomputable def goodM (m:tMark.den):Bool:=inF m.2.1&&Nat.ble m.2.2.1.2.length 4
theorem markE_good {mem:List Nat→Bool} {m:tMark.den} (h:markE mem m=0):goodM m=true:=by
 unfold markE at h
 cases c1:nameS m.1<;>simp only[c1,cond_true,cond_false] at h
 · exact absurd h (by decide)
 cases c2:mem m.1<;>simp only[c2,cond_true,cond_false] at h
 · cases c3 : inF m.2.1 <;> simp only [c3, cond_true, cond_false] at h
   · exact absurd h (by decide)
   · unfold goodM;rw[c3,Nat.ble_eq_true_of_le (paintsE_len h)];rfl
 · exact absurd h (by decide)
theorem marksS_good {k:(List Nat→Bool)→Int×Int×Int}:∀ {l:List tMark.den} {mem:List Nat→Bool} {i:Nat},(marksS k mem i l).2.2=0→l.all goodM=true∧∃ mem',marksS k mem i l=k mem'
 |[],mem,i,h=>⟨rfl,mem,rfl⟩
 | m :: l, mem, i, h => by
  rw[marksS] at h⊢
  cases c:ieq (markE mem m) 0 with
  |false=>rw[c,cond_false] at h;exact absurd h (ieq_f c)
  |true=>
   rw[c,cond_true] at h
   obtain⟨h1,mem',h2⟩:=marksS_good h
   refine⟨?_,mem',by rw[cond_true];exact h2⟩
   rw[List.all_cons,h1,markE_good (ieq_t c)];rfl
theorem valid_marks {c:tChart.den} (h:(chkS c).2.2=0):c.1.2.length≤8∧c.1.2.all goodM=true:=by
 unfold chkS at h
 cases e:ile (c.1.2.length:Int) 8<;>rw[e] at h
 · rw[cond_false] at h;exact absurd h (by decide)
 · rw [cond_true] at h
   refine⟨?_,(marksS_good h).1⟩
   rw[ile_iff] at e;simp at e;omega
noncomputable def mk (c:tChart.den) (m:Int):tMark.den:=c.1.2.getD m.toNat tMark.dflt
theorem mk_good {c:tChart.den} (h:(chkS c).2.2=0) {m:Int} (hm:inB m c.1.2.length=true):inF (mk c m).2.1=true∧(mk c m).2.2.1.2.length≤4:=by
 have h1:=(valid_marks h).2
 rw[inB_iff] at hm
 simp only[decide_eq_true_eq] at hm
 have hlt:m.toNat<c.1.2.length:=by omega
 have h2:=List.all_eq_true.1 h1 (mk c m) (by unfold mk;simp[hlt])
 unfold goodM at h2
 rw[Bool.and_eq_true] at h2
 exact⟨h2.1,Nat.le_of_ble_eq_true h2.2⟩
theorem wr_len {n:Nat} (h:n≤8):wr .i64 ((n:Int)-1)=(n:Int)-1:=wr_in (by omega) (by omega)
theorem inB_of {m:Int} {n:Nat} (h1:ile 0 m=true) (h2:ile m ((n:Int)-1)=true):inB m n=true:=by
 rw[ile_iff] at h1 h2
 rw[inB_iff]
 simp only[decide_eq_true_eq] at h1 h2⊢
 omega
noncomputable def datE (c:tChart.den) (d m:Int):Int:=bif ieq (chkS c).2.2 0 then (bif ile 0 d&&ile d 40000 then (bif ile 0 m&&ile m ((c.1.2.length:Int)-1) then 0 else 4) else 7) else (chkS c).2.2
theorem ckdy_call (c:tChart.den) (d m:Int):AnsF F1 77 [tChart.av c,.int .i64 d,.int .i64 m] (.int .i64 (datE c d m)):=by
 refine Ans.call (n:=6) (ext_none (by kernel_rfl)) (hasB_spec (by kernel_rfl)) ?_
 have h:=ckdy_start c d m
 unfold datE
 cases c1:ieq (chkS c).2.2 0 with
 |false=>
  simp only[c1,Bool.not_false,cond_true,cond_false] at h⊢
  exact .doneI (Z1_ok _) F1sy h rfl
 | true =>
  simp only[wr_len (valid_marks (ieq_t c1)).1] at h
  cases d1:ile 0 d<;>cases d2:ile d 40000<;>cases m1:ile 0 m<;>cases m2:ile m ((c.1.2.length:Int)-1) <;>
   (simp only[c1,d1,d2,m1,m2,Bool.not_false,Bool.not_true,cond_true,cond_false,Bool.and_self,Bool.and_true,Bool.and_false] at h⊢;exact .doneI (Z1_ok _) F1sy h rfl)
theorem datd_call (c:tChart.den) (d m:Int):AnsF F1 79 [tChart.av c,.int .i64 d,.int .i64 m] (.int .i64 (datE c d m)):=by
 refine Ans.call (n:=6) (ext_none (by kernel_rfl)) (hasB_spec (by kernel_rfl)) ?_
 have h:=datd_start c d m
 unfold datE
 cases c1:ieq (chkS c).2.2 0 with
 |false=>
  simp only[c1,Bool.not_false,cond_true,cond_false] at h⊢
  exact .doneI (Z1_ok _) F1sy h rfl
 | true =>
  simp only[wr_len (valid_marks (ieq_t c1)).1,ieq_t c1] at h
  cases d1:ile 0 d<;>cases d2:ile d 40000<;>cases m1:ile 0 m<;>cases m2:ile m ((c.1.2.length:Int)-1) <;>
   (simp only[d1,d2,m1,m2,ieq_self,Bool.not_false,Bool.not_true,cond_true,cond_false,Bool.and_self,Bool.and_true,Bool.and_false] at h⊢;exact .doneI (Z1_ok _) F1sy h rfl)
noncomputable def stdE (c:tChart.den) (d m:Int):Int:=bif ieq (datE c d m) 0 then (bif ieq (colF d 0 (mk c m).2.2.1.2) 0 then 9 else 0) else datE c d m
theorem ckst_call (c:tChart.den) (d m:Int):AnsF F1 81 [tChart.av c,.int .i64 d,.int .i64 m] (.int .i64 (stdE c d m)):=by
 refine Ans.call (n:=6) (ext_none (by kernel_rfl)) (hasB_spec (by kernel_rfl)) ?_
 have h:=ckst_start c d m
 unfold stdE datE
 cases c1:ieq (chkS c).2.2 0 with
 |false=>
  simp only[c1,Bool.not_false,cond_true,cond_false] at h⊢
  exact .doneI (Z1_ok _) F1sy h rfl
 | true =>
  have hv:=ieq_t c1
  simp only[wr_len (valid_marks hv).1] at h
  have e4:ieq 4 0=false:=rfl
  have e7:ieq 7 0=false:=rfl
  cases d1:ile 0 d<;>cases d2:ile d 40000<;>cases m1:ile 0 m<;>cases m2:ile m ((c.1.2.length:Int)-1) <;>
   try (simp only[c1,d1,d2,m1,m2,e4,e7,Bool.not_false,Bool.not_true,cond_true,cond_false,Bool.and_self,Bool.and_true,Bool.and_false] at h⊢;exact .doneI (Z1_ok _) F1sy h rfl)
  have hb:=inB_of m1 m2
  have hp:((mk c m).2.2.1.2.length).ble 1000=true:=Nat.ble_eq_true_of_le (by have:=(mk_good hv hb).2;omega)
  unfold mk at hp⊢
  cases e:ieq (colF d 0 (c.1.2.getD m.toNat tMark.dflt).2.2.1.2) 0 <;>
   (simp only[c1,d1,d2,m1,m2,hb,hp,e,ieq_self,Bool.not_false,Bool.not_true,cond_true,cond_false,Bool.and_self] at h⊢;exact .doneI (Z1_ok _) F1sy h rfl)
theorem stnd_call (c:tChart.den) (d m:Int):AnsF F1 84 [tChart.av c,.int .i64 d,.int .i64 m] (.int .i64 (stdE c d m)):=by
 refine Ans.call (n:=6) (ext_none (by kernel_rfl)) (hasB_spec (by kernel_rfl)) ?_
 have h:=stnd_start c d m
 unfold stdE datE
 cases c1:ieq (chkS c).2.2 0 with
 |false=>
  simp only[c1,Bool.not_false,cond_true,cond_false] at h⊢
  exact .doneI (Z1_ok _) F1sy h rfl
 | true =>
  have hv:=ieq_t c1
  simp only[wr_len (valid_marks hv).1,hv] at h
  have e4:ieq 4 0=false:=rfl
  have e7:ieq 7 0=false:=rfl
  cases d1:ile 0 d<;>cases d2:ile d 40000<;>cases m1:ile 0 m<;>cases m2:ile m ((c.1.2.length:Int)-1) <;>
   try (simp only[d1,d2,m1,m2,e4,e7,ieq_self,Bool.not_false,Bool.not_true,cond_true,cond_false,Bool.and_self,Bool.and_true,Bool.and_false] at h⊢;exact .doneI (Z1_ok _) F1sy h rfl)
  have hb:=inB_of m1 m2
  have hp:((mk c m).2.2.1.2.length).ble 1000=true:=Nat.ble_eq_true_of_le (by have:=(mk_good hv hb).2;omega)
  unfold mk at hp⊢
  cases e:ieq (colF d 0 (c.1.2.getD m.toNat tMark.dflt).2.2.1.2) 0 <;>
   (simp only[d1,d2,m1,m2,hb,hp,e,ieq_self,Bool.not_false,Bool.not_true,cond_true,cond_false,Bool.and_self] at h⊢;exact .doneI (Z1_ok _) F1sy h rfl)
noncomputable def datX:List AV→Option (Bool×AV):=con3 tChart tI tI (fun _ _ _=>true) (fun c d m=>.int .i64 (datE c d m))
noncomputable def stdX:List AV→Option (Bool×AV):=con3 tChart tI tI (fun _ _ _=>true) (fun c d m=>.int .i64 (stdE c d m))
noncomputable def LB:List Said:=[(77,datX),(79,datX),(81,stdX),(84,stdX),(82,con1 tP (fun v=>inW v.1 v.2.1) (fun v=>.int .i64 (ptF v.1 v.2.1))),
 (85,con1 tP (fun v=>inW v.1 v.2.1&&nz v.1 v.2.1) (fun v=>.int .i64 (ptF v.1 v.2.1))),(72,con1 tBox (fun b=>bK b.1.1 b.1.2.1 b.2.1.1 b.2.1.2.1) (fun b=>.vs tP false (pts b.1.1 b.1.2.1 b.2.1.1 b.2.1.2.1)))]
theorem LB_ok:∀ e∈LB,SaidG Tryz.prog F1.glob e:=
 saids_cons (SaidOK.g f1 xf1 nf1 tabs_ok.mix (fun _ _ h=>con3_spec (t:=tChart) (u:=tI) (w:=tI) (fun c d m _=>ckdy_call c d m) h) rfl)
 (saids_cons (SaidOK.g f1 xf1 nf1 tabs_ok.mix (fun _ _ h=>con3_spec (t:=tChart) (u:=tI) (w:=tI) (fun c d m _=>datd_call c d m) h) rfl)
 (saids_cons (SaidOK.g f1 xf1 nf1 tabs_ok.mix (fun _ _ h=>con3_spec (t:=tChart) (u:=tI) (w:=tI) (fun c d m _=>ckst_call c d m) h) rfl)
 (saids_cons (SaidOK.g f1 xf1 nf1 tabs_ok.mix (fun _ _ h=>con3_spec (t:=tChart) (u:=tI) (w:=tI) (fun c d m _=>stnd_call c d m) h) rfl)
 (saids_cons (SaidOK.g f1 xf1 nf1 tabs_ok.mix (fun _ _ h=>con1_spec (t:=tP) (fun v hv=>ptOf_call v hv) h) rfl)
 (saids_cons (SaidOK.g f1 xf1 nf1 tabs_ok.mix (fun _ _ h=>con1_spec (t:=tP) (fun v hv=>towa_call v (Bool.and_eq_true _ _▸hv).1 (Bool.and_eq_true _ _▸hv).2) h) rfl)
 (saids_cons (SaidOK.g f1 xf1 nf1 tabs_ok.mix (fun _ _ h=>con1_spec (t:=tBox) (fun b hb=>movs_call b hb) h) rfl) saids_nil))))))
noncomputable def F2:Env:=F1.say (under (xOf LB))
theorem f2:EnvOK Tryz.prog F2:=f1.say _
theorem nf2:NameOK F2:=nf1.say _
theorem xf2:ExtOK Tryz.prog F2:=xf1.sayL LB_ok
theorem F2sy:F2.sy=true:=rfl
noncomputable def Z2 (l:List Nat):Sy:=(Z1 []).on LB l
theorem Z2_ok (l:List Nat):(Z2 l).ok F2:=Sy.on_ok (Z1_ok _)
end Go.Proofs.YtgaoajmlckgdaaaGreatDoor


set_option maxRecDepth 100000
namespace Go.Proofs.YtgaoajmlckgdaaaGreatDoor
open Go Go.Eng
theorem seen_start (c:tChart.den) (d m:Int) (v:tP.den):adv F2 (Z2 []) 3000 (startC F2 32 [tChart.av c,.int .i64 d,.int .i64 m,tP.av v] 6)=(bif !ieq (stdE c d m) 0 then some (.done (.tup [(.int .i64 (0)),(.int .i64 (stdE c d m))])) else (bif !ile (-30000) v.1 then some (.done (.tup [(.int .i64 (0)),(.int .i64 (7))])) else (bif !ile v.1 30000 then some (.done (.tup [(.int .i64 (0)),(.int .i64 (7))])) else (bif !ile (-30000) v.2.1 then some (.done (.tup [(.int .i64 (0)),(.int .i64 (7))])) else (bif !ile v.2.1 30000 then some (.done (.tup [(.int .i64 (0)),(.int .i64 (7))])) else (bif inB m c.1.2.length then (bif ieq (c.1.2.getD m.toNat tMark.dflt).2.1.1 v.1&&(ieq (c.1.2.getD m.toNat tMark.dflt).2.1.2.1 v.2.1&&true) then some (.done (.tup [(.int .i64 (0)),(.int .i64 (8))])) else (bif inW (wr .i64 ((c.1.2.getD m.toNat tMark.dflt).2.1.1-v.1)) (wr .i64 ((c.1.2.getD m.toNat tMark.dflt).2.1.2.1-v.2.1)) then some (.done (.tup [(.int .i64 (ptF (wr .i64 ((c.1.2.getD m.toNat tMark.dflt).2.1.1-v.1)) (wr .i64 ((c.1.2.getD m.toNat tMark.dflt).2.1.2.1-v.2.1)))),(.int .i64 (0))])) else none)) else none)))))):=by kernel_rfl
noncomputable def tup2 (r:Int×Int):AV:=.tup [.int .i64 r.1,.int .i64 r.2]
theorem done2 {E:Env} {S:Sy} (hS:S.ok E) (hsy:E.sy=true) {n:Nat} {c:Cfg} {a b:Int} {r:Int×Int} (h:adv E S n c=some (.done (.tup [.int .i64 a,.int .i64 b]))) (e:(a,b)=r):Ans E c (tup2 r):=
 e▸Ans.done hS hsy h rfl
theorem datE_ok {c:tChart.den} {d m:Int} (h:datE c d m=0):(chkS c).2.2=0∧inB m c.1.2.length=true:=by
 unfold datE at h
 cases c1:ieq (chkS c).2.2 0 with
 |false=>rw[c1,cond_false] at h;exact absurd h (ieq_f c1)
 | true =>
  rw[c1,cond_true] at h
  cases d1:ile 0 d<;>cases d2:ile d 40000<;>cases m1:ile 0 m<;>cases m2:ile m ((c.1.2.length:Int)-1) <;>
   simp only[d1,d2,m1,m2,Bool.and_self,Bool.and_true,Bool.and_false,cond_true,cond_false] at h <;>
   first
    |(exact absurd h (by decide))
    |exact⟨ieq_t c1,inB_of m1 m2⟩
theorem stdE_ok {c:tChart.den} {d m:Int} (h:stdE c d m=0):datE c d m=0:=by
 unfold stdE at h
 cases c1:ieq (datE c d m) 0 with
 |false=>rw[c1,cond_false] at h;exact h
 |true=>exact ieq_t c1
noncomputable def inR (x y:Int):Bool:=ile (-30000) x&&ile x 30000&&ile (-30000) y&&ile y 30000
theorem inR_iff {x y:Int}:inR x y=true↔((-30000≤x∧x≤30000)∧-30000≤y)∧y≤30000:=by
 simp only[inR,Bool.and_eq_true,ile_iff,decide_eq_true_eq]
noncomputable def seeF (a b x y:Int):Int×Int:=bif ieq a x&&ieq b y then (0,8) else (ptF (a-x) (b-y),0)
noncomputable def seeS (c:tChart.den) (d m x y:Int):Int×Int:=bif ieq (stdE c d m) 0 then (bif inR x y then seeF (mk c m).2.1.1 (mk c m).2.1.2.1 x y else (0,7)) else (0,stdE c d m)
theorem wm30:wr .i64 (0-30000)=-30000:=rfl
theorem dif_wr {a b x y:Int} (h:inR a b=true) (k:inR x y=true):wr .i64 (a-x)=a-x∧wr .i64 (b-y)=b-y∧inW (a-x) (b-y)=true:=by
 rw[inR_iff] at h k
 refine⟨wr_in (by omega) (by omega),wr_in (by omega) (by omega),?_⟩
 rw[inW_iff];omega
theorem mk_in {c:tChart.den} (h:(chkS c).2.2=0) {m:Int} (hm:inB m c.1.2.length=true):inR (mk c m).2.1.1 (mk c m).2.1.2.1=true:=(mk_good h hm).1
theorem seen_call (c:tChart.den) (d m:Int) (v:tP.den):AnsF F2 32 [tChart.av c,.int .i64 d,.int .i64 m,tP.av v] (tup2 (seeS c d m v.1 v.2.1)):=by
 refine Ans.call (n:=6) (ext_none (by kernel_rfl)) (hasB_spec (by kernel_rfl)) ?_
 have h:=seen_start c d m v
 unfold seeS
 cases c1:ieq (stdE c d m) 0 with
 |false=>
  simp only[c1,Bool.not_false,cond_true,cond_false] at h⊢
  exact done2 (Z2_ok _) F2sy h rfl
 | true =>
  have hv:=datE_ok (stdE_ok (ieq_t c1))
  have hm:=mk_in hv.1 hv.2
  obtain⟨x,hx⟩:∃ x:Int,v.1=x:=⟨_,rfl⟩
  obtain⟨y,hy⟩:∃ y:Int,v.2.1=y:=⟨_,rfl⟩
  unfold mk at hm⊢
  obtain⟨a,ha⟩:∃ x:Int,(c.1.2.getD m.toNat tMark.dflt).2.1.1=x:=⟨_,rfl⟩
  obtain⟨b,hb⟩:∃ x:Int,(c.1.2.getD m.toNat tMark.dflt).2.1.2.1=x:=⟨_,rfl⟩
  simp only[c1,hv.2,hx,hy,ha,hb,Bool.not_true,cond_true,cond_false] at h hm⊢
  unfold inR at⊢
  cases d1:ile (-30000) x<;>cases d2:ile x 30000<;>cases d3:ile (-30000) y<;>cases d4:ile y 30000 <;>
   try (simp only[d1,d2,d3,d4,Bool.not_false,Bool.not_true,Bool.and_self,Bool.and_true,Bool.and_false,Bool.false_and,cond_true,cond_false] at h⊢;exact done2 (Z2_ok _) F2sy h rfl)
  have hxy:inR x y=true:=by unfold inR;rw[d1,d2,d3,d4];rfl
  obtain⟨w1,w2,w3⟩:=dif_wr hm hxy
  simp only[d1,d2,d3,d4,w1,w2,w3,Bool.not_true,Bool.and_true,cond_true,cond_false] at h⊢
  unfold seeF
  cases e:(ieq a x&&ieq b y)<;>(simp only[e,cond_true,cond_false] at h⊢;exact done2 (Z2_ok _) F2sy h rfl)
end Go.Proofs.YtgaoajmlckgdaaaGreatDoor


set_option maxRecDepth 100000
namespace Go.Proofs.YtgaoajmlckgdaaaGreatDoor
open Go Go.Eng
noncomputable def intzI0 (a b:(Ty.sl tI).den) (x5:Int) (x26:Nat):Cfg:=⟨.ex (pcOf H2 25 [0,0,1,0,1,1]) ⟨(tmOf 26 [(0,(.vs tI (a.1) (a.2))),(1,(.vs tI (b.1) (b.2))),(4,(.bool (false))),(5,(.int .i64 x5)),(6,(.vs tI (a.1) (a.2))),(7,(.int .i64 (Int.ofNat a.2.length))),(8,(.vs tI (b.1) (b.2))),(9,(.int .i64 (Int.ofNat b.2.length))),(10,(.bool (false)))]),(hpOf 0 []),[],[],26,false⟩,⟨6,[]⟩,[(.lop (pcOf H2 25 [0,0,1,0,1,1]) 0 (tmOf 26 [(0,(.vs tI (a.1) (a.2))),(1,(.vs tI (b.1) (b.2))),(4,(.bool (false))),(5,(.int .i64 (0))),(6,(.vs tI (a.1) (a.2))),(7,(.int .i64 (Int.ofNat a.2.length))),(8,(.vs tI (b.1) (b.2))),(9,(.int .i64 (Int.ofNat b.2.length))),(10,(.bool (false)))]) x26),(.blk 0),(.seq (pcOf H2 25 [1,1,1])),(.cal [(.tmp 4)] .top)]⟩
theorem intz_start (a b:(Ty.sl tI).den):adv H2 (Y2 [25]) 3000 (startC H2 25 [.vs tI a.1 a.2,.vs tI b.1 b.2] 6)=(bif !ieq ↑a.2.length ↑b.2.length then some (.done (.bool (false))) else some (.stop (intzI0 a b (0) (1048575)))):=by kernel_rfl
theorem intz_step0 (a b:(Ty.sl tI).den) (x5:Int) (x26:Nat):adv H2 (Y2 [25]) 3000 (intzI0 a b x5 (x26+1))=(bif !ile (↑a.2.length) x5 then (bif inB x5 a.2.length then (bif inB x5 b.2.length then (bif !ieq (a.2.getD x5.toNat tI.dflt) (b.2.getD x5.toNat tI.dflt) then some (.done (.bool (false))) else some (.stop (intzI0 a b (wr .i64 (x5+1)) (x26)))) else none) else none) else some (.done (.bool (true)))):=by kernel_rfl
noncomputable def intzG (a b:List tI.den):Nat→Nat→Bool
 |_,0=>true
 |k,r+1=>bif ieq (a.getD k tI.dflt) (b.getD k tI.dflt) then intzG a b (k+1) r else false
noncomputable def intzS (a b:List tI.den):Bool:=bif ieq (a.length:Int) (b.length:Int) then intzG a b 0 a.length else false
theorem intz_ans (a b:(Ty.sl tI).den) (hl:a.2.length<1048576) (he:a.2.length=b.2.length):∀ (r k m:Nat),k+r=a.2.length→r<m→Ans H2 (intzI0 a b k m) (.bool (intzG a.2 b.2 k r))
 |0,k,m+1,hk,hm=>by
  have h:=intz_step0 a b k m
  simp only[ile_ge (show a.2.length≤k by omega),Bool.not_true,cond_false] at h
  exact .doneB (Y2_ok _) H2sy h rfl
 | r + 1, k, m + 1, hk, hm => by
  have h:=intz_step0 a b k m
  have e:(k:Int).toNat=k:=by simp
  simp only[ile_lt (show k<a.2.length by omega),inB_at (show k<a.2.length by omega),inB_at (show k<b.2.length by omega),e,wr_succ (show k<1048577 by omega),Bool.not_false,cond_true] at h
  rw[intzG]
  cases c1:ieq (a.2.getD k tI.dflt) (b.2.getD k tI.dflt) with
  |true=>
   simp only[c1,Bool.not_true,cond_true,cond_false] at h⊢
   exact .stop (Y2_ok _) H2sy h (intz_ans a b hl he r (k+1) m (by omega) (by omega))
  |false=>
   simp only[c1,Bool.not_false,cond_true,cond_false] at h⊢
   exact .doneB (Y2_ok _) H2sy h rfl
theorem intz_call (a b:(Ty.sl tI).den) (hl:a.2.length<1048575):AnsF H2 25 [.vs tI a.1 a.2,.vs tI b.1 b.2] (.bool (intzS a.2 b.2)):=by
 refine Ans.call (n:=6) (ext_none (by kernel_rfl)) (hasB_spec (by kernel_rfl)) ?_
 have h:=intz_start a b
 unfold intzS
 cases c1:ieq (a.2.length:Int) (b.2.length:Int) with
 |false=>
  simp only[c1,Bool.not_false,cond_true,cond_false] at h⊢
  exact .doneB (Y2_ok _) H2sy h rfl
 |true=>
  simp only[c1,Bool.not_true,cond_true,cond_false] at h⊢
  exact .stop (Y2_ok _) H2sy h (intz_ans a b (by omega) (by have:=ieq_t' c1;omega) a.2.length 0 1048575 (by omega) (by omega))
theorem intzG_self (a:List tI.den):∀ (r k:Nat),intzG a a k r=true
 |0,_=>rfl
 |r+1,k=>by rw[intzG,ieq_self,cond_true];exact intzG_self a r (k+1)
theorem intzS_self (a:List tI.den):intzS a a=true:=by unfold intzS;rw[ieq_self,cond_true];exact intzG_self a _ _
end Go.Proofs.YtgaoajmlckgdaaaGreatDoor


set_option maxRecDepth 100000
namespace Go.Proofs.YtgaoajmlckgdaaaGreatDoor
open Go Go.Eng
abbrev tB2:Ty:=.cons (.int .i8) (.cons (.int .i8) .nil)
abbrev tI2:Ty:=.cons (.int .i16) (.cons (.int .i16) .nil)
abbrev tFrom:Ty:=.cons (.int .u16) (.cons (.int .u8) (.cons tI2 .nil))
abbrev tBoth:Ty:=.cons tFrom (.cons (.sl (.int .u16)) .nil)
noncomputable def LM:List Said:=[(23,con2 tChart tP (fun _ _=>true) (fun c p=>tupS (onS c p.1 p.2.1))),
 (28,con2 tChart tP (fun _ _=>true) (fun c p=>.tup [.int .i64 (radS c p.1 p.2.1).1,.int .i64 (radS c p.1 p.2.1).2])),
 (43,con1 tChart (fun _=>true) (fun c=>.bool (ieq (chkS c).2.2 0))),
 (44,con2 tChart (.sl (.int .u16)) (fun c l=>u16 l.2&&ieq (chkS c).2.2 0) (fun c l=>.agg [.int .i64 (nX c l.2),.int .i64 (nY c l.2)])),
 (32,con4 tChart tI tI tP (fun _ _ _ _=>true) (fun c d m v=>tup2 (seeS c d m v.1 v.2.1))),
 (25,con2 (.sl tI) (.sl tI) (fun a _=>Nat.ble a.2.length 1000) (fun a b=>.bool (intzS a.2 b.2))),(22,say0 (.bool true))]
theorem LM_ok:∀ e∈LM,SaidG Tryz.prog N4.glob e:=
 saids_cons (SaidOK.g h2 xh2 nh2 tabs_ok.mix (fun _ _ h=>con2_spec (t:=tChart) (u:=tP) (fun c p _=>on_call c p.1 p.2.1) h) rfl)
 (saids_cons (SaidOK.g en4 xn4 nn4 tabs_ok.mix (fun _ _ h=>con2_spec (t:=tChart) (u:=tP) (fun c p _=>radi_call c p) h) rfl)
 (saids_cons (SaidOK.g h2 xh2 nh2 tabs_ok.mix (fun _ _ h=>con1_spec (t:=tChart) (fun c _=>vali_call c) h) rfl)
 (saids_cons (SaidOK.g h3 xh3 nh3 tabs_ok.mix (fun _ _ h => con2_spec (t := tChart) (u := .sl (.int .u16)) (fun c l hc => by
  rw[Bool.and_eq_true] at hc
  exact near_call c l hc.1 (ieq_t' hc.2)) h) rfl)
 (saids_cons (SaidOK.g f2 xf2 nf2 tabs_ok.mix (fun _ _ h=>con4_spec (t:=tChart) (u:=tI) (w:=tI) (s:=tP) (fun c d m v _=>seen_call c d m v) h) rfl)
 (saids_cons (SaidOK.g h2 xh2 nh2 tabs_ok.mix (fun _ _ h=>con2_spec (t:=.sl tI) (u:=.sl tI) (fun a b hc=>intz_call a b (by have:=Nat.le_of_ble_eq_true hc;omega)) h) rfl)
 (saids_cons (XG.g (XG.closedT eA xA nA tabs_ok.mix l3 kn_true) rfl) saids_nil))))))
noncomputable def Mo1:Env:=N4.say (under (xOf LM))
theorem mo1:EnvOK Tryz.prog Mo1:=en4.say _
theorem nmo1:NameOK Mo1:=nn4.say _
theorem xmo1:ExtOK Tryz.prog Mo1:=xn4.sayL LM_ok
theorem Mo1sy:Mo1.sy=true:=rfl
noncomputable def Mq (l:List Nat):Sy:=(V4 []).on LM l
theorem Mq_ok (l:List Nat):(Mq l).ok Mo1:=Sy.on_ok (V4_ok _)
end Go.Proofs.YtgaoajmlckgdaaaGreatDoor


set_option maxRecDepth 100000
namespace Go.Proofs.YtgaoajmlckgdaaaGreatDoor
open Go Go.Eng
theorem rad_is {c:tChart.den} {P Q:Int} (hv:(chkS c).2.2=0) (h1:in10 P=true) (h2:in10 Q=true):radS c P Q=(topR c.2.1.2 P Q,0):=by
 unfold radS;rw[hv,ieq_self,h1,h2];rfl
theorem hit_iff {S:List tSand.den} {px py r:Int} (hr:0<r) (hS:S.all goodS=true):hitR S px py r=true↔∃ i:Nat,i<S.length∧∃ a b:Int,
  ((S.getD i tSand.dflt).2.2.1.1.1≤a∧a≤(S.getD i tSand.dflt).2.2.1.1.2.1)∧((S.getD i tSand.dflt).2.2.1.2.1.1≤b∧b≤(S.getD i tSand.dflt).2.2.1.2.1.2.1)∧incF (S.getD i tSand.dflt).2.1.2 (px-a) (py-b) r=true:=by
 have hg:∀ i,i<S.length→goodS (S.getD i tSand.dflt)=true:=fun i hi=>by
  rw[List.getD_eq_getElem?_getD,List.getElem?_eq_getElem hi]
  exact List.all_eq_true.1 hS _ (List.getElem_mem hi)
 constructor
 · intro h
   have hf:firS S px py r=firF S px py r 0 S.length:=by
    unfold firS
    rw[show ieq r 0=false by rw[ieq_iff];exact decide_eq_false (by omega),cond_false]
   unfold hitR at h
   rw[hf] at h
   obtain⟨j,hj,e1,e2,e3⟩:=(firF_is S.length 0).1 h
   obtain⟨u,v,po1,p2,p3,p4,p5⟩:=(fmP_is (px:=px) (py:=py) (r:=r) rfl rfl rfl rfl (hg j (by omega))).1 e2
   exact⟨j,by omega,u,v,p2,p3,p4⟩
 · rintro ⟨i, hi, a, b, h1, h2, h3⟩
   cases e:hitR S px py r with
   |true=>rfl
   |false=>
    have:=clear_all hr e hi (hg i hi) h1 h2
    rw[h3] at this;cases this
def MovC (vx vy:Int) (C D:List tP.den):Prop:=D.length=C.length∧∀ k,k<C.length→gx D k=gx C k+vx∧gy D k=gy C k+vy
theorem sAB_mov {vx vy:Int} {C D:List tP.den} (h:MovC vx vy C D) {k:Nat} (hk:k<C.length):sA D k=sA C k∧sB D k=sB C k∧∀ dx dy,sL D k (dx+vx) (dy+vy)=sL C k dx dy:=by
 obtain⟨hl,h⟩:=h
 have a:=h k hk
 have b:=h _ (Nat.mod_lt (k+1) (show C.length > 0 by omega))
 have e1:sA D k=sA C k:=by unfold sA;rw[hl,a.1,b.1];omega
 have e2:sB D k=sB C k:=by unfold sB;rw[hl,a.2,b.2];omega
 refine⟨e1,e2,fun dx dy=>?_⟩
 unfold sL
 rw[e1,e2,a.1,a.2,show dy+vy-(gy C k+vy)=dy-gy C k by omega,show dx+vx-(gx C k+vx)=dx-gx C k by omega]
theorem lies_mov {vx vy dx dy:Int} {C D:List tP.den} (h:MovC vx vy C D):∀ (r k:Nat),k+r≤C.length→liesF D (dx+vx) (dy+vy) k r=liesF C dx dy k r
 |0,_,_=>rfl
 |r+1,k,hk=>by rw[liesF,liesF,(sAB_mov h (show k<C.length by omega)).2.2,lies_mov h r (k+1) (by omega)]
theorem sid_mov {vx vy dx dy r:Int} {C D:List tP.den} (h:MovC vx vy C D):∀ (n k:Nat),k+n≤C.length→sidF D (dx+vx) (dy+vy) r k n=sidF C dx dy r k n
 |0,_,_=>rfl
 |n+1,k,hk=>by
  have a:=h.2 k (by omega)
  obtain⟨e1,e2,_⟩:=sAB_mov h (show k<C.length by omega)
  rw[sidF,sidF,e1,e2,a.1,a.2,show dy+vy-(gy C k+vy)=dy-gy C k by omega,show dx+vx-(gx C k+vx)=dx-gx C k by omega,sid_mov h n (k+1) (by omega)]
theorem inc_mov {vx vy P Q u v r:Int} {C D:List tP.den} (h:MovC vx vy C D):incF D (P+vx-u) (Q+vy-v) r=incF C (P-u) (Q-v) r:=by
 unfold incF
 rw[show P+vx-u=P-u+vx by omega,show Q+vy-v=Q-v+vy by omega,h.1,sid_mov h _ _ (by omega),lies_mov h _ _ (by omega)]
def MovS (vx vy:Int) (s t:tSand.den):Prop:=MovC vx vy s.2.1.2 t.2.1.2∧t.2.2=s.2.2
theorem liesS_mov {vx vy P Q u v:Int} {s t:tSand.den} (h:MovS vx vy s t):liesS t (P+vx) (Q+vy) u v=liesS s P Q u v:=by
 unfold liesS
 rw[show P+vx-u=P-u+vx by omega,show Q+vy-v=Q-v+vy by omega,h.1.1,lies_mov h.1 _ _ (by omega)]
theorem any_mov {vx vy P Q:Int} {s t:tSand.den} (h:MovS vx vy s t) (hs:goodS s=true) (ht:goodS t=true):anyS t (P+vx) (Q+vy)=anyS s P Q:=by
 rw[Bool.eq_iff_iff,any_iff (s:=t) (x0:=s.2.2.1.1.1) (x1:=s.2.2.1.1.2.1) (y0:=s.2.2.1.2.1.1) (y1:=s.2.2.1.2.1.2.1) (by rw[h.2]) (by rw[h.2]) (by rw[h.2]) (by rw[h.2]) ht,any_iff rfl rfl rfl rfl hs]
 simp only[liesS_mov h]
theorem all_mov {vx vy P Q:Int} {s t:tSand.den} (h:MovS vx vy s t) (hs:goodS s=true) (ht:goodS t=true):allS t (P+vx) (Q+vy)=allS s P Q:=by
 rw[Bool.eq_iff_iff,all_iff (s:=t) (x0:=s.2.2.1.1.1) (x1:=s.2.2.1.1.2.1) (y0:=s.2.2.1.2.1.1) (y1:=s.2.2.1.2.1.2.1) (by rw[h.2]) (by rw[h.2]) (by rw[h.2]) (by rw[h.2]) ht,all_iff rfl rfl rfl rfl hs]
 simp only[liesS_mov h]
def MovM (vx vy:Int) (m t:tMark.den):Prop:=(t.2.1.1=m.2.1.1+vx∧t.2.1.2.1=m.2.1.2.1+vy)∧t.2.2=m.2.2
section
variable {c W:tChart.den} {vx vy:Int} (hc:(chkS c).2.2=0) (hW:(chkS W).2.2=0) (hl:W.2.1.2.length=c.2.1.2.length) (h:∀ i,i<c.2.1.2.length→MovS vx vy (sd c i) (sd W i)) {P Q:Int} (hP:in10 P=true) (hQ:in10 Q=true) (hP':in10 (P+vx)=true) (hQ':in10 (Q+vy)=true)
include hc hW hl h
theorem onF_mov:∀ (r k:Nat) (s t:List Int),k+r≤c.2.1.2.length→onF W (P+vx) (Q+vy) s t k r=onF c P Q s t k r
 |0,_,_,_,_=>rfl
 |r+1,k,s,t,hk=>by
  have hk':k<c.2.1.2.length:=by omega
  rw[onF,onF,all_mov (h k hk') (sd_good hc hk') (sd_good hW (by omega)),any_mov (h k hk') (sd_good hc hk') (sd_good hW (by omega)),onF_mov r (k+1) _ _ (by omega)]
include hP hQ hP' hQ'
theorem on_mov:onS W (P+vx) (Q+vy)=onS c P Q:=by
 rw[onS_ok hc hP hQ,onS_ok hW hP' hQ',hl,onF_mov hc hW hl h _ _ _ _ (by omega)]
omit hP hQ hP' hQ' in
theorem hit_mov {r:Int} (hr:0<r):hitR W.2.1.2 (P+vx) (Q+vy) r=hitR c.2.1.2 P Q r:=by
 rw[Bool.eq_iff_iff,hit_iff hr (valid_sands hc).2,hit_iff hr (valid_sands hW).2,hl]
 have e:∀ i,i<c.2.1.2.length→∀ a b:Int,incF (W.2.1.2.getD i tSand.dflt).2.1.2 (P+vx-a) (Q+vy-b) r=incF (c.2.1.2.getD i tSand.dflt).2.1.2 (P-a) (Q-b) r:=fun i hi a b=>inc_mov (h i hi).1
 have m:∀ i,i<c.2.1.2.length→(W.2.1.2.getD i tSand.dflt).2.2=(c.2.1.2.getD i tSand.dflt).2.2:=fun i hi=>(h i hi).2
 constructor
 · rintro ⟨i, hi, a, b, h1, h2, h3⟩
   rw[m i hi] at h1 h2
   rw[e i hi] at h3
   exact⟨i,hi,a,b,h1,h2,h3⟩
 · rintro ⟨i, hi, a, b, h1, h2, h3⟩
   refine⟨i,hi,a,b,?_,?_,?_⟩
   · rw[m i hi];exact h1
   · rw[m i hi];exact h2
   · rw[e i hi];exact h3
theorem rad_mov:radS W (P+vx) (Q+vy)=radS c P Q:=by
 rw[rad_is hc hP hQ,rad_is hW hP' hQ']
 obtain⟨⟨a1,a2⟩,a3⟩:=topR_is c.2.1.2 P Q
 obtain⟨⟨b1,b2⟩,b3⟩:=topR_is W.2.1.2 (P+vx) (Q+vy)
 have key:topR W.2.1.2 (P+vx) (Q+vy)=topR c.2.1.2 P Q:=by
  obtain⟨x,hx⟩:∃ x,topR c.2.1.2 P Q=x:=⟨_,rfl⟩
  obtain⟨y,hy⟩:∃ y,topR W.2.1.2 (P+vx) (Q+vy)=y:=⟨_,rfl⟩
  rw[hx] at a1 a2 a3
  rw[hy] at b1 b2 b3
  rw[hx,hy]
  refine Classical.byContradiction (fun hne=>?_)
  by_cases hlt:x<y
  · have h1 := (a3 (x + 1) (by omega) (by omega)).2 (by omega)
    rw[← hit_mov hc hW hl h (by omega)] at h1
    have:=(b3 (x+1) (by omega) (by omega)).1 h1
    omega
  · have h1 := (b3 (y + 1) (by omega) (by omega)).2 (by omega)
    rw[hit_mov hc hW hl h (by omega)] at h1
    have:=(a3 (y+1) (by omega) (by omega)).1 h1
    omega
 rw[key]
end
theorem see_mov {c W:tChart.den} {vx vy d m x y:Int} (hc:(chkS c).2.2=0) (hW:(chkS W).2.2=0) (hl:W.1.2.length=c.1.2.length) (h:∀ i,i<c.1.2.length→MovM vx vy (c.1.2.getD i tMark.dflt) (W.1.2.getD i tMark.dflt)) (h1:inR x y=true) (h2:inR (x+vx) (y+vy)=true) :
  seeS W d m (x+vx) (y+vy)=seeS c d m x y:=by
 have hd:datE W d m=datE c d m:=by unfold datE;rw[hc,hW,hl]
 unfold seeS stdE
 rw[hd]
 cases e:ieq (datE c d m) 0 with
 |false=>simp only[cond_false,e]
 |true=>
  obtain⟨_,hm⟩:=datE_ok (ieq_t' e)
  rw[inB_iff,decide_eq_true_eq] at hm
  obtain⟨⟨g1,g2⟩,g3⟩:=h m.toNat (by omega)
  have g1':(mk W m).2.1.1=(mk c m).2.1.1+vx:=g1
  have g2':(mk W m).2.1.2.1=(mk c m).2.1.2.1+vy:=g2
  have g3':(mk W m).2.2=(mk c m).2.2:=g3
  rw[g1',g2',g3',h1,h2]
  have e1:∀ a b:Int,∀ v:Int,ieq (a+v) (b+v)=ieq a b:=fun a b v=>by rw[ieq_iff,ieq_iff,decide_eq_decide];omega
  unfold seeF
  obtain⟨a,ea⟩:∃ a:Int,(mk c m).2.1.1=a:=⟨_,rfl⟩
  obtain⟨b,eb⟩:∃ b:Int,(mk c m).2.1.2.1=b:=⟨_,rfl⟩
  rw[ea,eb,e1,e1,show a+vx-(x+vx)=a-x by omega,show b+vy-(y+vy)=b-y by omega]
end Go.Proofs.YtgaoajmlckgdaaaGreatDoor


set_option maxRecDepth 100000
namespace Go.Proofs.YtgaoajmlckgdaaaGreatDoor
open Go Go.Eng
noncomputable def svP (b:tB2.den) (p:tP.den):tP.den:=(wr .i64 (p.1+wr .i64 b.1),wr .i64 (p.2.1+wr .i64 b.2.1),())
noncomputable def svM (b:tB2.den) (m:tMark.den):tMark.den:=(m.1,svP b m.2.1,m.2.2)
noncomputable def svS (b:tB2.den) (s:tSand.den):tSand.den:=(s.1,(false,s.2.1.2.map (svP b)),s.2.2)
noncomputable def rowS (b:tB2.den) (s:tSand.den):List AV:=[AV.str s.1,AV.csl (flat tP (s.2.1.2.map (svP b))) s.2.1.2.length,AV.int .i64 s.2.2.1.1.1,AV.int .i64 s.2.2.1.1.2.1,AV.int .i64 s.2.2.1.2.1.1,AV.int .i64 s.2.2.1.2.1.2.1]
noncomputable def rowsS (b:tB2.den) (L:List tSand.den):List AV:=L.flatMap (rowS b)
theorem rowsS_plain (b:tB2.den):∀ L,plainL (rowsS b L)=true
 |[]=>rfl
 |_::L=>rowsS_plain b L
theorem rowsS_len (b:tB2.den):∀ L,(rowsS b L).length=L.length * 6
 |[]=>rfl
 |s::L=>by rw[show rowsS b (s::L)=rowS b s++rowsS b L from rfl,List.length_append,rowsS_len b L,List.length_cons,show (rowS b s).length=6 from rfl];omega
theorem rowsS_beq {b:tB2.den} {L:List tSand.den} {n:Nat} (h:L.length=n):(0+n * 6).beq (rowsS b L).length=true:=by
 rw[rowsS_len,h,Nat.zero_add];exact Nat.beq_refl _
theorem rowsS_add (b:tB2.den) (L:List tSand.den) (s:tSand.den):rowsS b L++rowS b s=rowsS b (L++[s]):=by
 unfold rowsS
 rw[List.flatMap_append]
 rfl
theorem rowS_rd (b:tB2.den) (s:tSand.den) (r:List AV):rd tSand (rowS b s++r)=some (true,svS b s,r):=by
 obtain⟨h1,h2⟩:=unf_flat (t:=tP) (s.2.1.2.map (svP b)) s.2.1.2.length (by rw[List.length_map])
 have:rd tSand (rowS b s++r)=some (isF (rd tP) s.2.1.2.length (flat tP (s.2.1.2.map (svP b)))&&true,(s.1,(false,unf (rd tP) s.2.1.2.length (flat tP (s.2.1.2.map (svP b)))),s.2.2),r):=rfl
 rw[this,h1,h2];rfl
theorem rowsS_rd (b:tB2.den):∀ (L:List tSand.den) (n:Nat),n=L.length→isF (rd tSand) n (rowsS b L)=true∧unf (rd tSand) n (rowsS b L)=L.map (svS b)
 |[],n,h=>by subst h;exact⟨rfl,rfl⟩
 |s::L,n,h=>by
  subst h
  obtain⟨h1,h2⟩:=rowsS_rd b L L.length rfl
  have e:rowsS b (s::L)=rowS b s++rowsS b L:=rfl
  exact⟨by simp only[List.length_cons,isF,e,rowS_rd,h1,Bool.and_self],by simp only[List.length_cons,unf,e,rowS_rd,h2,List.map_cons]⟩
theorem flatM_plain:∀ L:List tMark.den,plainL (flat tMark L)=true
 |[]=>rfl
 |_::L=>flatM_plain L
theorem flatM_beq {L:List tMark.den} {n:Nat} (h:L.length=n):(0+n * 4).beq (flat tMark L).length=true:=by
 rw[flat_length,h,Nat.zero_add];exact Nat.beq_refl _
theorem flatM_add (b:tB2.den) (L:List tMark.den) (m:tMark.den):flat tMark L++[AV.str m.1,AV.int .i64 (wr .i64 (m.2.1.1+wr .i64 b.1)),AV.int .i64 (wr .i64 (m.2.1.2.1+wr .i64 b.2.1)),AV.vs tP m.2.2.1.1 m.2.2.1.2]=flat tMark (L++[svM b m]):=by
 unfold flat
 rw[List.flatMap_append]
 rfl
theorem flatQ_beq {L:List tP.den} {n:Nat} (h:L.length=n):(0+n * 2).beq (flat tP L).length=true:=by
 rw[flat_length,h,Nat.zero_add];exact Nat.beq_refl _
theorem flatQ_add (b:tB2.den) (L:List tP.den) (p:tP.den):flat tP L++[AV.int .i64 (wr .i64 (p.1+wr .i64 b.1)),AV.int .i64 (wr .i64 (p.2.1+wr .i64 b.2.1))]=flat tP (L++[svP b p]):=by
 unfold flat
 rw[List.flatMap_append]
 rfl
theorem avbeq_sl (i n:Nat):avbeq (AV.sl i 0 n n 2) (AV.sl i 0 n n 2)=true:=by
 simp[avbeq]
theorem gdN {α:Type} {l:List α} {i:Nat} {d:α} (h:i<l.length):l.getD i d=l[i]:=by
 rw[List.getD_eq_getElem?_getD,List.getElem?_eq_getElem h];rfl
theorem take_add {α β:Type} (f:α→β) {l:List α} {i:Nat} (d:α) (h:i<l.length):(l.take i).map f++[f (l.getD i d)]=(l.take (i+1)).map f:=by
 rw[gdN h,List.take_succ_eq_append_getElem h,List.map_append];rfl
theorem take_len {α β:Type} (f:α→β) {l:List α} {i:Nat} (h:i≤l.length):((l.take i).map f).length=i:=by
 rw[List.length_map,List.length_take];omega
noncomputable def restM (c W:tChart.den) (b:tB2.den) (z:tBoth.den):Option Out:=(bif ile (wr .i64 (0-10000)) (wr .i64 (nX c z.2.1.2+wr .i64 b.1)) then (bif ile (wr .i64 (nX c z.2.1.2+wr .i64 b.1)) 10000 then (bif ile (wr .i64 (0-10000)) (wr .i64 (nY c z.2.1.2+wr .i64 b.2.1)) then (bif !ile (wr .i64 (nY c z.2.1.2+wr .i64 b.2.1)) 10000 then some (.done (.bool (true))) else (bif (onS c (nX c z.2.1.2) (nY c z.2.1.2)).1.1.length.ble 1000 then (bif !intzS (onS c (nX c z.2.1.2) (nY c z.2.1.2)).1.1 (onS W (wr .i64 (nX c z.2.1.2+wr .i64 b.1)) (wr .i64 (nY c z.2.1.2+wr .i64 b.2.1))).1.1 then some (.done (.bool (false))) else (bif (onS c (nX c z.2.1.2) (nY c z.2.1.2)).1.2.length.ble 1000 then (bif !intzS (onS c (nX c z.2.1.2) (nY c z.2.1.2)).1.2 (onS W (wr .i64 (nX c z.2.1.2+wr .i64 b.1)) (wr .i64 (nY c z.2.1.2+wr .i64 b.2.1))).1.2 then some (.done (.bool (false))) else (bif !ieq (onS c (nX c z.2.1.2) (nY c z.2.1.2)).2 0 then some (.done (.bool (false))) else (bif !ieq (onS W (wr .i64 (nX c z.2.1.2+wr .i64 b.1)) (wr .i64 (nY c z.2.1.2+wr .i64 b.2.1))).2 (onS c (nX c z.2.1.2) (nY c z.2.1.2)).2 then some (.done (.bool (false))) else (bif !ieq (radS c (nX c z.2.1.2) (nY c z.2.1.2)).1 (radS W (wr .i64 (nX c z.2.1.2+wr .i64 b.1)) (wr .i64 (nY c z.2.1.2+wr .i64 b.2.1))).1 then some (.done (.bool (false))) else (bif !ieq (radS c (nX c z.2.1.2) (nY c z.2.1.2)).2 0 then some (.done (.bool (false))) else (bif !ieq (radS W (wr .i64 (nX c z.2.1.2+wr .i64 b.1)) (wr .i64 (nY c z.2.1.2+wr .i64 b.2.1))).2 (radS c (nX c z.2.1.2) (nY c z.2.1.2)).2 then some (.done (.bool (false))) else (bif ieq (↑c.1.2.length) 0 then some (.done (.bool (true))) else (bif ile (wr .i64 (0-30000)) (wr .i64 z.1.2.2.1.1) then (bif ile (wr .i64 z.1.2.2.1.1) 30000 then (bif ile (wr .i64 (0-30000)) (wr .i64 z.1.2.2.1.2.1) then (bif !ile (wr .i64 z.1.2.2.1.2.1) 30000 then some (.done (.bool (true))) else (bif ile (wr .i64 (0-30000)) (wr .i64 (wr .i64 z.1.2.2.1.1+wr .i64 b.1)) then (bif ile (wr .i64 (wr .i64 z.1.2.2.1.1+wr .i64 b.1)) 30000 then (bif ile (wr .i64 (0-30000)) (wr .i64 (wr .i64 z.1.2.2.1.2.1+wr .i64 b.2.1)) then (bif !ile (wr .i64 (wr .i64 z.1.2.2.1.2.1+wr .i64 b.2.1)) 30000 then some (.done (.bool (true))) else (bif ieq (↑c.1.2.length) 0 then none else (bif ieq (seeS c ((wr .i64 z.1.1).tmod 40001) ((wr .i64 z.1.2.1).tmod ↑c.1.2.length) (wr .i64 z.1.2.2.1.1) (wr .i64 z.1.2.2.1.2.1)).1 (seeS W ((wr .i64 z.1.1).tmod 40001) ((wr .i64 z.1.2.1).tmod ↑c.1.2.length) (wr .i64 (wr .i64 z.1.2.2.1.1+wr .i64 b.1)) (wr .i64 (wr .i64 z.1.2.2.1.2.1+wr .i64 b.2.1))).1 then (bif ieq (seeS c ((wr .i64 z.1.1).tmod 40001) ((wr .i64 z.1.2.1).tmod ↑c.1.2.length) (wr .i64 z.1.2.2.1.1) (wr .i64 z.1.2.2.1.2.1)).2 (seeS W ((wr .i64 z.1.1).tmod 40001) ((wr .i64 z.1.2.1).tmod ↑c.1.2.length) (wr .i64 (wr .i64 z.1.2.2.1.1+wr .i64 b.1)) (wr .i64 (wr .i64 z.1.2.2.1.2.1+wr .i64 b.2.1))).2 then some (.done (.bool (true))) else some (.done (.bool (false)))) else some (.done (.bool (false)))))) else some (.done (.bool (true)))) else some (.done (.bool (true)))) else some (.done (.bool (true))))) else some (.done (.bool (true)))) else some (.done (.bool (true)))) else some (.done (.bool (true))))))))))) else none)) else none)) else some (.done (.bool (true)))) else some (.done (.bool (true)))) else some (.done (.bool (true))))
noncomputable def endM (c W:tChart.den) (b:tB2.den) (z:tBoth.den):Option Out:=bif u16 z.2.1.2&&ieq (chkS c).2.2 0 then (bif !ieq (chkS W).2.2 0 then some (.done (.bool true)) else restM c W b z) else none
def wfB (b:tB2.den):Prop:=(-128≤b.1∧b.1≤127)∧-128≤b.2.1∧b.2.1≤127
theorem restM_true {c W:tChart.den} {b:tB2.den} {z:tBoth.den} (hb:wfB b) (hzX:-32768≤z.1.2.2.1.1∧z.1.2.2.1.1≤32767) (hzY:-32768≤z.1.2.2.1.2.1∧z.1.2.2.1.2.1≤32767) (hc:(chkS c).2.2=0) (hW:(chkS W).2.2=0)
  (hl:W.2.1.2.length=c.2.1.2.length) (h:∀ i,i<c.2.1.2.length→MovS b.1 b.2.1 (sd c i) (sd W i)) (hlM:W.1.2.length=c.1.2.length) (hM:∀ i,i<c.1.2.length→MovM b.1 b.2.1 (c.1.2.getD i tMark.dflt) (W.1.2.getD i tMark.dflt)):restM c W b z=some (.done (.bool true)):=by
 have hP:=nX_in c z.2.1.2
 have hQ:=nY_in c z.2.1.2
 unfold wfB at hb
 unfold restM
 generalize nX c z.2.1.2=P at hP⊢
 generalize nY c z.2.1.2=Q at hQ⊢
 obtain⟨vx,ex⟩:∃ v:Int,b.1=v:=⟨_,rfl⟩
 obtain⟨vy,ey⟩:∃ v:Int,b.2.1=v:=⟨_,rfl⟩
 obtain⟨X,eX⟩:∃ v:Int,z.1.2.2.1.1=v:=⟨_,rfl⟩
 obtain⟨Y,eY⟩:∃ v:Int,z.1.2.2.1.2.1=v:=⟨_,rfl⟩
 rw[ex,ey] at hb h hM
 rw[eX] at hzX
 rw[eY] at hzY
 replace hb:(-128≤vx∧vx≤127)∧-128≤vy∧vy≤127:=hb
 replace hzX:-32768≤X∧X≤32767:=hzX
 replace hzY:-32768≤Y∧Y≤32767:=hzY
 have bP:=in10_iff.1 hP
 have bQ:=in10_iff.1 hQ
 rw[ex,ey,eX,eY,wr_in (n:=vx) (by omega) (by omega),wr_in (n:=vy) (by omega) (by omega),wr_in (n:=P+vx) (by omega) (by omega),wr_in (n:=Q+vy) (by omega) (by omega),wr_in (n:=X) (by omega) (by omega),wr_in (n:=Y) (by omega) (by omega),
  wr_in (n:=X+vx) (by omega) (by omega),wr_in (n:=Y+vy) (by omega) (by omega),m10,wm30]
 have hc4:=(valid_sands hc).1
 obtain⟨o1,o2⟩:=(onF_mem (c:=c) (px:=P) (py:=Q) (n:=0) (r:=c.2.1.2.length) (k:=0) (s:=[]) (t:=[])).2.2
 simp only[List.length_nil,Nat.zero_add] at o1 o2
 have b1:(onS c P Q).1.1.length.ble 1000=true:=by rw[onS_ok hc hP hQ];exact Nat.ble_eq_true_of_le (Nat.le_trans o1 (by omega))
 have b2:(onS c P Q).1.2.length.ble 1000=true:=by rw[onS_ok hc hP hQ];exact Nat.ble_eq_true_of_le (Nat.le_trans o2 (by omega))
 have b3:(onS c P Q).2=0:=by rw[onS_ok hc hP hQ]
 have b4:(radS c P Q).2=0:=by rw[rad_is hc hP hQ]
 cases q1:ile (-10000) (P+vx) with
 |false=>rfl
 |true=>
 cases q2:ile (P+vx) 10000 with
 |false=>rfl
 |true=>
 cases q3:ile (-10000) (Q+vy) with
 |false=>rfl
 |true=>
 cases q4:ile (Q+vy) 10000 with
 |false=>rfl
 |true=>
 have hP':in10 (P+vx)=true:=by unfold in10;rw[q1,q2];rfl
 have hQ':in10 (Q+vy)=true:=by unfold in10;rw[q3,q4];rfl
 rw[on_mov hc hW hl h hP hQ hP' hQ',rad_mov hc hW hl h hP hQ hP' hQ']
 simp only[b1,b2,b3,b4,intzS_self,ieq_self,Bool.not_true,cond_true,cond_false]
 cases n0:ieq (c.1.2.length:Int) 0 with
 |true=>rfl
 |false=>
 cases p1:ile (-30000) X with
 |false=>rfl
 |true=>
 cases p2:ile X 30000 with
 |false=>rfl
 |true=>
 cases p3:ile (-30000) Y with
 |false=>rfl
 |true=>
 cases p4:ile Y 30000 with
 |false=>rfl
 |true=>
 cases p5:ile (-30000) (X+vx) with
 |false=>rfl
 |true=>
 cases p6:ile (X+vx) 30000 with
 |false=>rfl
 |true=>
 cases p7:ile (-30000) (Y+vy) with
 |false=>rfl
 |true=>
 cases p8:ile (Y+vy) 30000 with
 |false=>rfl
 |true=>
 have h1:inR X Y=true:=by unfold inR;rw[p1,p2,p3,p4];rfl
 have h2:inR (X+vx) (Y+vy)=true:=by unfold inR;rw[p5,p6,p7,p8];rfl
 simp only[see_mov hc hW hlM hM h1 h2,ieq_self,Bool.not_true,cond_true,cond_false]
theorem endM_true {c W:tChart.den} {b:tB2.den} {z:tBoth.den} (hy:u16 z.2.1.2=true) (hb:wfB b) (hzX:-32768≤z.1.2.2.1.1∧z.1.2.2.1.1≤32767) (hzY:-32768≤z.1.2.2.1.2.1∧z.1.2.2.1.2.1≤32767) (hc:(chkS c).2.2=0)
  (hl:W.2.1.2.length=c.2.1.2.length) (h:(chkS W).2.2=0→∀ i,i<c.2.1.2.length→MovS b.1 b.2.1 (sd c i) (sd W i)) (hlM:W.1.2.length=c.1.2.length) (hM:∀ i,i<c.1.2.length→MovM b.1 b.2.1 (c.1.2.getD i tMark.dflt) (W.1.2.getD i tMark.dflt)):endM c W b z=some (.done (.bool true)):=by
 unfold endM
 rw[hy,hc,ieq_self]
 cases e:ieq (chkS W).2.2 0 with
 |false=>rfl
 |true=>exact restM_true hb hzX hzY hc (ieq_t' e) hl (h (ieq_t' e)) hlM hM
theorem movM_is {b:tB2.den} (hb:wfB b) {c:tChart.den} (hc:(chkS c).2.2=0) {i:Nat} (hi:i<c.1.2.length):MovM b.1 b.2.1 (c.1.2.getD i tMark.dflt) ((c.1.2.map (svM b)).getD i tMark.dflt):=by
 have e:(c.1.2.map (svM b)).getD i tMark.dflt=svM b (c.1.2.getD i tMark.dflt):=by
  rw[gdN (by rw[List.length_map];exact hi),gdN hi,List.getElem_map]
 have hm:=mk_in hc (m:=(i:Int)) (by rw[inB_iff];exact decide_eq_true (by omega))
 have hk:mk c (i:Int)=c.1.2.getD i tMark.dflt:=rfl
 rw[hk] at hm
 rw[e]
 generalize c.1.2.getD i tMark.dflt=m at hm
 obtain⟨x,ex⟩:∃ x:Int,m.2.1.1=x:=⟨_,rfl⟩
 obtain⟨y,ey⟩:∃ y:Int,m.2.1.2.1=y:=⟨_,rfl⟩
 obtain⟨vx,evx⟩:∃ x:Int,b.1=x:=⟨_,rfl⟩
 obtain⟨vy,evy⟩:∃ x:Int,b.2.1=x:=⟨_,rfl⟩
 unfold wfB at hb
 rw[evx,evy] at hb
 replace hb:(-128≤vx∧vx≤127)∧-128≤vy∧vy≤127:=hb
 rw[ex,ey,inR_iff] at hm
 unfold MovM svM svP
 rw[ex,ey,evx,evy,wr_in (n:=vx) (by omega) (by omega),wr_in (n:=vy) (by omega) (by omega),wr_in (n:=x+vx) (by omega) (by omega),wr_in (n:=y+vy) (by omega) (by omega)]
 exact⟨⟨rfl,rfl⟩,rfl⟩
theorem movS_is {b:tB2.den} (hb:wfB b) {s:tSand.den} (hg:goodS s=true):MovS b.1 b.2.1 s (svS b s):=by
 obtain⟨_,hin⟩:=cOK_in (goodS_iff rfl rfl rfl rfl hg).1
 unfold wfB at hb
 refine⟨⟨by show (s.2.1.2.map (svP b)).length=_;rw[List.length_map],fun k hk=>?_⟩,rfl⟩
 have g:=hin k hk
 have e:(svS b s).2.1.2.getD k tP.dflt=svP b (s.2.1.2.getD k tP.dflt):=by
  show (s.2.1.2.map (svP b)).getD k tP.dflt=_
  rw[gdN (by rw[List.length_map];exact hk),gdN hk,List.getElem_map]
 unfold gx gy at g⊢
 rw[e]
 generalize s.2.1.2.getD k tP.dflt=p at g
 obtain⟨x,ex⟩:∃ x:Int,p.1=x:=⟨_,rfl⟩
 obtain⟨y,ey⟩:∃ y:Int,p.2.1=y:=⟨_,rfl⟩
 obtain⟨vx,evx⟩:∃ x:Int,b.1=x:=⟨_,rfl⟩
 obtain⟨vy,evy⟩:∃ x:Int,b.2.1=x:=⟨_,rfl⟩
 rw[evx,evy] at hb
 replace hb:(-128≤vx∧vx≤127)∧-128≤vy∧vy≤127:=hb
 rw[ex,ey] at g
 unfold svP
 rw[ex,ey,evx,evy,wr_in (n:=vx) (by omega) (by omega),wr_in (n:=vy) (by omega) (by omega),wr_in (n:=x+vx) (by omega) (by omega),wr_in (n:=y+vy) (by omega) (by omega)]
 exact⟨rfl,rfl⟩
theorem sdS_is {b:tB2.den} {c:tChart.den} {X:Bool×List tMark.den} {i:Nat} (hi:i<c.2.1.2.length):sd (X,(false,c.2.1.2.map (svS b)),()) i=svS b (sd c i):=by
 unfold sd
 show (c.2.1.2.map (svS b)).getD i tSand.dflt=_
 rw[gdN (by rw[List.length_map];exact hi),gdN hi,List.getElem_map]
end Go.Proofs.YtgaoajmlckgdaaaGreatDoor


set_option maxRecDepth 100000
namespace Go.Proofs.YtgaoajmlckgdaaaGreatDoor
open Go Go.Eng
noncomputable def uM0 (z:tBoth.den):AV:=.agg [(.int .u16 (z.1.1)),(.int .u8 (z.1.2.1)),(.int .i16 (z.1.2.2.1.1)),(.int .i16 (z.1.2.2.1.2.1)),(.vs (.int .u16) (z.2.1.1) (z.2.1.2))]
noncomputable def uM1 (c:tChart.den):AV:=.agg [(.vs tMark (c.1.1) (c.1.2)),(.vs tSand (c.2.1.1) (c.2.1.2))]
noncomputable def uM2 (c:tChart.den):AV:=.agg [(.str ((c.2.1.2.getD (Int.toNat 0) tSand.dflt).1)),(.vs tP ((c.2.1.2.getD (Int.toNat 0) tSand.dflt).2.1.1) ((c.2.1.2.getD (Int.toNat 0) tSand.dflt).2.1.2)),(.int .i64 ((c.2.1.2.getD (Int.toNat 0) tSand.dflt).2.2.1.1.1)),(.int .i64 ((c.2.1.2.getD (Int.toNat 0) tSand.dflt).2.2.1.1.2.1)),(.int .i64 ((c.2.1.2.getD (Int.toNat 0) tSand.dflt).2.2.1.2.1.1)),(.int .i64 ((c.2.1.2.getD (Int.toNat 0) tSand.dflt).2.2.1.2.1.2.1))]
noncomputable def uM3 (b:tB2.den):AV:=.agg [(.int .i64 (wr .i64 b.1)),(.int .i64 (wr .i64 b.2.1))]
noncomputable def uM4 (z:tBoth.den):AO:=.cells false [(.int .u16 (z.1.1)),(.int .u8 (z.1.2.1)),(.int .i16 (z.1.2.2.1.1)),(.int .i16 (z.1.2.2.1.2.1)),(.vs (.int .u16) (z.2.1.1) (z.2.1.2))]
noncomputable def uM5 (b:tB2.den):AO:=.cells false [(.int .i64 (wr .i64 b.1)),(.int .i64 (wr .i64 b.2.1))]
noncomputable def uM6 (c:tChart.den):AV:=.vs tSand (c.2.1.1) (c.2.1.2)
noncomputable def uM7 (b:tB2.den):AV:=.agg [(.int .i8 (b.1)),(.int .i8 (b.2.1))]
noncomputable def uM8 (c:tChart.den):AV:=.int .i64 (Int.ofNat c.1.2.length)
noncomputable def uM9 (c:tChart.den):AV:=.int .i64 ((c.2.1.2.getD (Int.toNat 0) tSand.dflt).2.2.1.2.1.2.1)
noncomputable def uM10 (c:tChart.den):AV:=.vs tP ((c.2.1.2.getD (Int.toNat 0) tSand.dflt).2.1.1) ((c.2.1.2.getD (Int.toNat 0) tSand.dflt).2.1.2)
noncomputable def uM11 (c:tChart.den):AV:=.int .i64 ((c.2.1.2.getD (Int.toNat 0) tSand.dflt).2.2.1.1.2.1)
noncomputable def uM12 (c:tChart.den):AV:=.int .i64 ((c.2.1.2.getD (Int.toNat 0) tSand.dflt).2.2.1.2.1.1)
noncomputable def uM13 (c:tChart.den):AV:=.int .i64 ((c.2.1.2.getD (Int.toNat 0) tSand.dflt).2.2.1.1.1)
noncomputable def uM14 (c:tChart.den):AO:=.cells false [(.vs tMark (c.1.1) (c.1.2)),(uM6 c)]
noncomputable def uM15 (b:tB2.den):AO:=.cells false [(.int .i8 (b.1)),(.int .i8 (b.2.1))]
noncomputable def uM16 (c:tChart.den):AV:=.int .i64 (Int.ofNat c.2.1.2.length)
noncomputable def uMs0 (c:tChart.den) (b:tB2.den):List (Nat×AV):=[(34,(uM1 c)),(35,(.bool (ieq (chkS c).2.2 0))),(36,(.bool (false))),(38,(.ptr 1 0)),(39,(.int .i8 (b.1))),(40,(.int .i64 (wr .i64 b.1))),(41,(.ptr 1 1)),(42,(.int .i8 (b.2.1))),(43,(.int .i64 (wr .i64 b.2.1))),(44,(uM3 b))]
noncomputable def uMs1 (c:tChart.den) (b:tB2.den) (z:tBoth.den):List (Nat×AV):=[(0,(uM1 c)),(1,(uM7 b)),(2,(uM0 z)),(3,(.ptr 0 0)),(4,(.ptr 1 0)),(5,(.ptr 2 0)),(6,(.bool (false))),(7,(.ptr 4 0)),(8,(.ptr 5 0))]
noncomputable def cmovI0 (c:tChart.den) (b:tB2.den) (z:tBoth.den) (x68:Nat):Cfg:=⟨.ex (pcOf Mo1 12 [0,0,1,0,1,1,1,1]) ⟨(tmOf 258 (uMs1 c b z++[(9,(.int .i64 (0)))]++uMs0 c b)),(hpOf 6 [(0,(uM14 c)),(1,(uM15 b)),(2,(uM4 z)),(3,(uM5 b)),(4,(uM5 b)),(5,(.cells false [.nils,.nils]))]),[],[],258,false⟩,⟨8,[]⟩,[(.lop (pcOf Mo1 12 [0,0,1,0,1,1,1,1]) 6 (tmOf 258 (uMs1 c b z++[(9,(.int .i64 (0)))]++uMs0 c b)) x68),(.blk 0),(.seq (pcOf Mo1 12 [1,1,1,1,1])),(.cal [(.tmp 6)] .top)]⟩
noncomputable def cmovI1 (c:tChart.den) (b:tB2.den) (z:tBoth.den) (x80:Nat):Cfg:=⟨.ex (pcOf Mo1 12 [0,0,1,0,1,1,1,1,1]) ⟨(tmOf 258 (uMs1 c b z++[(9,(.int .i64 (0))),(11,(.int .i64 (0)))]++uMs0 c b++[(45,(.int .i64 (0))),(46,(.ptr 0 0)),(47,(.vs tMark (c.1.1) (c.1.2))),(48,(uM8 c)),(49,(.bool (false)))])),(hpOf 6 [(0,(uM14 c)),(1,(uM15 b)),(2,(uM4 z)),(3,(uM5 b)),(4,(uM5 b)),(5,(.cells false [.nils,.nils]))]),[],[],258,false⟩,⟨8,[]⟩,[(.lop (pcOf Mo1 12 [0,0,1,0,1,1,1,1,1]) 6 (tmOf 258 (uMs1 c b z++[(9,(.int .i64 (0))),(11,(.int .i64 (0)))]++uMs0 c b++[(45,(.int .i64 (0))),(46,(.ptr 0 0)),(47,(.vs tMark (c.1.1) (c.1.2))),(48,(uM8 c)),(49,(.bool (false)))])) x80),(.blk 2),(.seq (pcOf Mo1 12 [1,1,1,1,1,1])),(.cal [(.tmp 6)] .top)]⟩
noncomputable def cmovI2 (c:tChart.den) (b:tB2.den) (z:tBoth.den) (x13:Int) (x42:Nat) (x44:List AV) (x71:Nat):Cfg:=⟨.ex (pcOf Mo1 12 [0,0,1,0,1,1,1,1]) ⟨(tmOf 258 (uMs1 c b z++[(9,(.int .i64 x13))]++uMs0 c b)),(hpOf 7 [(0,(uM14 c)),(1,(uM15 b)),(2,(uM4 z)),(3,(uM5 b)),(4,(uM5 b)),(5,(.cells false [(.sl 6 0 x42 x42 4),.nils])),(6,(.cells false x44))]),[],[],258,false⟩,⟨8,[]⟩,[(.lop (pcOf Mo1 12 [0,0,1,0,1,1,1,1]) 6 (tmOf 258 (uMs1 c b z++[(9,(.int .i64 (0)))]++uMs0 c b)) x71),(.blk 0),(.seq (pcOf Mo1 12 [1,1,1,1,1])),(.cal [(.tmp 6)] .top)]⟩
noncomputable def cmovI3 (c:tChart.den) (b:tB2.den) (z:tBoth.den) (x131:Nat) (x164:Nat):Cfg:=⟨.ex (pcOf Mo1 12 [0,0,1,0,1,1,0,0,1,0,0,1,0,1,1,1,1,1]) ⟨(tmOf 258 (uMs1 c b z++[(9,(.int .i64 (0))),(11,(.int .i64 (0))),(12,(.ptr 6 0)),(13,(.int .i64 (0)))]++uMs0 c b++[(45,(.int .i64 (0))),(46,(.ptr 0 0)),(47,(.vs tMark (c.1.1) (c.1.2))),(48,(uM8 c)),(49,(.bool (false))),(68,(.int .i64 (0))),(69,(.ptr 0 1)),(70,(uM6 c)),(71,(uM16 c)),(72,(.bool (true))),(75,(.ptr 0 1)),(76,(uM6 c)),(77,(.int .i64 (0))),(78,(.cp [(.str ((c.2.1.2.getD (Int.toNat 0) tSand.dflt).1)),(uM10 c),(uM13 c),(uM11 c),(uM12 c),(uM9 c)] 0)),(79,(uM2 c)),(80,(.ptr 6 1))])),(hpOf 7 [(0,(uM14 c)),(1,(uM15 b)),(2,(uM4 z)),(3,(uM5 b)),(4,(uM5 b)),(5,(.cells false [.nils,.nils])),(6,(.cells false [(.str ((c.2.1.2.getD (Int.toNat 0) tSand.dflt).1)),.nils,(uM13 c),(uM11 c),(uM12 c),(uM9 c)]))]),[],[],258,false⟩,⟨8,[]⟩,[(.lop (pcOf Mo1 12 [0,0,1,0,1,1,0,0,1,0,0,1,0,1,1,1,1,1]) 7 (tmOf 258 (uMs1 c b z++[(9,(.int .i64 (0))),(11,(.int .i64 (0))),(12,(.ptr 6 0)),(13,(.int .i64 (0)))]++uMs0 c b++[(45,(.int .i64 (0))),(46,(.ptr 0 0)),(47,(.vs tMark (c.1.1) (c.1.2))),(48,(uM8 c)),(49,(.bool (false))),(68,(.int .i64 (0))),(69,(.ptr 0 1)),(70,(uM6 c)),(71,(uM16 c)),(72,(.bool (true))),(75,(.ptr 0 1)),(76,(uM6 c)),(77,(.int .i64 (0))),(78,(.cp [(.str ((c.2.1.2.getD (Int.toNat 0) tSand.dflt).1)),(uM10 c),(uM13 c),(uM11 c),(uM12 c),(uM9 c)] 0)),(79,(uM2 c)),(80,(.ptr 6 1))])) x131),(.blk 4),(.seq (pcOf Mo1 12 [1,1,1,0,0,1,0,0,1,0,1,1,1,1,1])),(.blk 3),(.seq (pcOf Mo1 12 [1,1,0,0,1,0,1,1,1,1,1])),(.lop (pcOf Mo1 12 [0,0,1,0,1,1,1,1,1]) 6 (tmOf 258 (uMs1 c b z++[(9,(.int .i64 (0))),(11,(.int .i64 (0)))]++uMs0 c b++[(45,(.int .i64 (0))),(46,(.ptr 0 0)),(47,(.vs tMark (c.1.1) (c.1.2))),(48,(uM8 c)),(49,(.bool (false)))])) x164),(.blk 2),(.seq (pcOf Mo1 12 [1,1,1,1,1,1])),(.cal [(.tmp 6)] .top)]⟩
noncomputable def cmovI4 (c:tChart.den) (b:tB2.den) (z:tBoth.den) (x13:Int) (x48:Nat) (x50:List AV) (x83:Nat):Cfg:=⟨.ex (pcOf Mo1 12 [0,0,1,0,1,1,1,1,1]) ⟨(tmOf 258 (uMs1 c b z++[(9,(.int .i64 x13)),(11,(.int .i64 (0)))]++uMs0 c b++[(45,(.int .i64 x13)),(46,(.ptr 0 0)),(47,(.vs tMark (c.1.1) (c.1.2))),(48,(uM8 c)),(49,(.bool (false)))])),(hpOf 7 [(0,(uM14 c)),(1,(uM15 b)),(2,(uM4 z)),(3,(uM5 b)),(4,(uM5 b)),(5,(.cells false [(.sl 6 0 x48 x48 4),.nils])),(6,(.cells false x50))]),[],[],258,false⟩,⟨8,[]⟩,[(.lop (pcOf Mo1 12 [0,0,1,0,1,1,1,1,1]) 7 (tmOf 258 (uMs1 c b z++[(9,(.int .i64 x13)),(11,(.int .i64 (0)))]++uMs0 c b++[(45,(.int .i64 x13)),(46,(.ptr 0 0)),(47,(.vs tMark (c.1.1) (c.1.2))),(48,(uM8 c)),(49,(.bool (false)))])) x83),(.blk 2),(.seq (pcOf Mo1 12 [1,1,1,1,1,1])),(.cal [(.tmp 6)] .top)]⟩
noncomputable def cmovI5 (c:tChart.den) (b:tB2.den) (z:tBoth.den) (x14:Int) (x48:Nat) (x50:List AV) (x83:Nat):Cfg:=⟨.ex (pcOf Mo1 12 [0,0,1,0,1,1,1,1,1]) ⟨(tmOf 258 (uMs1 c b z++[(9,(.int .i64 (0))),(11,(.int .i64 x14))]++uMs0 c b++[(45,(.int .i64 (0))),(46,(.ptr 0 0)),(47,(.vs tMark (c.1.1) (c.1.2))),(48,(uM8 c)),(49,(.bool (false)))])),(hpOf 7 [(0,(uM14 c)),(1,(uM15 b)),(2,(uM4 z)),(3,(uM5 b)),(4,(uM5 b)),(5,(.cells false [.nils,(.sl 6 0 x48 x48 6)])),(6,(.cells false x50))]),[],[],258,false⟩,⟨8,[]⟩,[(.lop (pcOf Mo1 12 [0,0,1,0,1,1,1,1,1]) 6 (tmOf 258 (uMs1 c b z++[(9,(.int .i64 (0))),(11,(.int .i64 (0)))]++uMs0 c b++[(45,(.int .i64 (0))),(46,(.ptr 0 0)),(47,(.vs tMark (c.1.1) (c.1.2))),(48,(uM8 c)),(49,(.bool (false)))])) x83),(.blk 2),(.seq (pcOf Mo1 12 [1,1,1,1,1,1])),(.cal [(.tmp 6)] .top)]⟩
noncomputable def cmovI6 (c:tChart.den) (b:tB2.den) (z:tBoth.den) (x15:Int) (x72:Nat) (x78:List AV) (x134:Nat) (x167:Nat):Cfg:=⟨.ex (pcOf Mo1 12 [0,0,1,0,1,1,0,0,1,0,0,1,0,1,1,1,1,1]) ⟨(tmOf 258 (uMs1 c b z++[(9,(.int .i64 (0))),(11,(.int .i64 (0))),(12,(.ptr 6 0)),(13,(.int .i64 x15))]++uMs0 c b++[(45,(.int .i64 (0))),(46,(.ptr 0 0)),(47,(.vs tMark (c.1.1) (c.1.2))),(48,(uM8 c)),(49,(.bool (false))),(68,(.int .i64 (0))),(69,(.ptr 0 1)),(70,(uM6 c)),(71,(uM16 c)),(72,(.bool (true))),(75,(.ptr 0 1)),(76,(uM6 c)),(77,(.int .i64 (0))),(78,(.cp [(.str ((c.2.1.2.getD (Int.toNat 0) tSand.dflt).1)),(uM10 c),(uM13 c),(uM11 c),(uM12 c),(uM9 c)] 0)),(79,(uM2 c)),(80,(.ptr 6 1))])),(hpOf 8 [(0,(uM14 c)),(1,(uM15 b)),(2,(uM4 z)),(3,(uM5 b)),(4,(uM5 b)),(5,(.cells false [.nils,.nils])),(6,(.cells false [(.str ((c.2.1.2.getD (Int.toNat 0) tSand.dflt).1)),(.sl 7 0 x72 x72 2),(uM13 c),(uM11 c),(uM12 c),(uM9 c)])),(7,(.cells false x78))]),[],[],258,false⟩,⟨8,[]⟩,[(.lop (pcOf Mo1 12 [0,0,1,0,1,1,0,0,1,0,0,1,0,1,1,1,1,1]) 7 (tmOf 258 (uMs1 c b z++[(9,(.int .i64 (0))),(11,(.int .i64 (0))),(12,(.ptr 6 0)),(13,(.int .i64 (0)))]++uMs0 c b++[(45,(.int .i64 (0))),(46,(.ptr 0 0)),(47,(.vs tMark (c.1.1) (c.1.2))),(48,(uM8 c)),(49,(.bool (false))),(68,(.int .i64 (0))),(69,(.ptr 0 1)),(70,(uM6 c)),(71,(uM16 c)),(72,(.bool (true))),(75,(.ptr 0 1)),(76,(uM6 c)),(77,(.int .i64 (0))),(78,(.cp [(.str ((c.2.1.2.getD (Int.toNat 0) tSand.dflt).1)),(uM10 c),(uM13 c),(uM11 c),(uM12 c),(uM9 c)] 0)),(79,(uM2 c)),(80,(.ptr 6 1))])) x134),(.blk 4),(.seq (pcOf Mo1 12 [1,1,1,0,0,1,0,0,1,0,1,1,1,1,1])),(.blk 3),(.seq (pcOf Mo1 12 [1,1,0,0,1,0,1,1,1,1,1])),(.lop (pcOf Mo1 12 [0,0,1,0,1,1,1,1,1]) 6 (tmOf 258 (uMs1 c b z++[(9,(.int .i64 (0))),(11,(.int .i64 (0)))]++uMs0 c b++[(45,(.int .i64 (0))),(46,(.ptr 0 0)),(47,(.vs tMark (c.1.1) (c.1.2))),(48,(uM8 c)),(49,(.bool (false)))])) x167),(.blk 2),(.seq (pcOf Mo1 12 [1,1,1,1,1,1])),(.cal [(.tmp 6)] .top)]⟩
noncomputable def cmovI7 (c:tChart.den) (b:tB2.den) (z:tBoth.den) (x13:Int) (x71:Nat) (x73:List AV) (x134:Nat) (x167:Nat):Cfg:=⟨.ex (pcOf Mo1 12 [0,0,1,0,1,1,0,0,1,0,0,1,0,1,1,1,1,1]) ⟨(tmOf 258 (uMs1 c b z++[(9,(.int .i64 x13)),(11,(.int .i64 (0))),(12,(.ptr 7 0)),(13,(.int .i64 (0)))]++uMs0 c b++[(45,(.int .i64 x13)),(46,(.ptr 0 0)),(47,(.vs tMark (c.1.1) (c.1.2))),(48,(uM8 c)),(49,(.bool (false))),(68,(.int .i64 (0))),(69,(.ptr 0 1)),(70,(uM6 c)),(71,(uM16 c)),(72,(.bool (true))),(75,(.ptr 0 1)),(76,(uM6 c)),(77,(.int .i64 (0))),(78,(.cp [(.str ((c.2.1.2.getD (Int.toNat 0) tSand.dflt).1)),(uM10 c),(uM13 c),(uM11 c),(uM12 c),(uM9 c)] 0)),(79,(uM2 c)),(80,(.ptr 7 1))])),(hpOf 8 [(0,(uM14 c)),(1,(uM15 b)),(2,(uM4 z)),(3,(uM5 b)),(4,(uM5 b)),(5,(.cells false [(.sl 6 0 x71 x71 4),.nils])),(6,(.cells false x73)),(7,(.cells false [(.str ((c.2.1.2.getD (Int.toNat 0) tSand.dflt).1)),.nils,(uM13 c),(uM11 c),(uM12 c),(uM9 c)]))]),[],[],258,false⟩,⟨8,[]⟩,[(.lop (pcOf Mo1 12 [0,0,1,0,1,1,0,0,1,0,0,1,0,1,1,1,1,1]) 8 (tmOf 258 (uMs1 c b z++[(9,(.int .i64 x13)),(11,(.int .i64 (0))),(12,(.ptr 7 0)),(13,(.int .i64 (0)))]++uMs0 c b++[(45,(.int .i64 x13)),(46,(.ptr 0 0)),(47,(.vs tMark (c.1.1) (c.1.2))),(48,(uM8 c)),(49,(.bool (false))),(68,(.int .i64 (0))),(69,(.ptr 0 1)),(70,(uM6 c)),(71,(uM16 c)),(72,(.bool (true))),(75,(.ptr 0 1)),(76,(uM6 c)),(77,(.int .i64 (0))),(78,(.cp [(.str ((c.2.1.2.getD (Int.toNat 0) tSand.dflt).1)),(uM10 c),(uM13 c),(uM11 c),(uM12 c),(uM9 c)] 0)),(79,(uM2 c)),(80,(.ptr 7 1))])) x134),(.blk 4),(.seq (pcOf Mo1 12 [1,1,1,0,0,1,0,0,1,0,1,1,1,1,1])),(.blk 3),(.seq (pcOf Mo1 12 [1,1,0,0,1,0,1,1,1,1,1])),(.lop (pcOf Mo1 12 [0,0,1,0,1,1,1,1,1]) 7 (tmOf 258 (uMs1 c b z++[(9,(.int .i64 x13)),(11,(.int .i64 (0)))]++uMs0 c b++[(45,(.int .i64 x13)),(46,(.ptr 0 0)),(47,(.vs tMark (c.1.1) (c.1.2))),(48,(uM8 c)),(49,(.bool (false)))])) x167),(.blk 2),(.seq (pcOf Mo1 12 [1,1,1,1,1,1])),(.cal [(.tmp 6)] .top)]⟩
noncomputable def cmovI8 (c:tChart.den) (b:tB2.den) (z:tBoth.den) (x14:Int) (x41:List Nat) (x42:Bool) (x43:List (Ty.den tP)) (x44:Int) (x45:Int) (x46:Int) (x47:Int) (x71:Nat) (x73:List AV) (x134:Nat) (x167:Nat):Cfg:=⟨.ex (pcOf Mo1 12 [0,0,1,0,1,1,0,0,1,0,0,1,0,1,1,1,1,1]) ⟨(tmOf 258 (uMs1 c b z++[(9,(.int .i64 (0))),(11,(.int .i64 x14)),(12,(.ptr 7 0)),(13,(.int .i64 (0)))]++uMs0 c b++[(45,(.int .i64 (0))),(46,(.ptr 0 0)),(47,(.vs tMark (c.1.1) (c.1.2))),(48,(uM8 c)),(49,(.bool (false))),(68,(.int .i64 x14)),(69,(.ptr 0 1)),(70,(uM6 c)),(71,(uM16 c)),(72,(.bool (true))),(75,(.ptr 0 1)),(76,(uM6 c)),(77,(.int .i64 x14)),(78,(.cp [(.str x41),(.vs tP x42 x43),(.int .i64 x44),(.int .i64 x45),(.int .i64 x46),(.int .i64 x47)] 0)),(79,(.agg [(.str x41),(.vs tP x42 x43),(.int .i64 x44),(.int .i64 x45),(.int .i64 x46),(.int .i64 x47)])),(80,(.ptr 7 1))])),(hpOf 8 [(0,(uM14 c)),(1,(uM15 b)),(2,(uM4 z)),(3,(uM5 b)),(4,(uM5 b)),(5,(.cells false [.nils,(.sl 6 0 x71 x71 6)])),(6,(.cells false x73)),(7,(.cells false [(.str x41),.nils,(.int .i64 x44),(.int .i64 x45),(.int .i64 x46),(.int .i64 x47)]))]),[],[],258,false⟩,⟨8,[]⟩,[(.lop (pcOf Mo1 12 [0,0,1,0,1,1,0,0,1,0,0,1,0,1,1,1,1,1]) 8 (tmOf 258 (uMs1 c b z++[(9,(.int .i64 (0))),(11,(.int .i64 x14)),(12,(.ptr 7 0)),(13,(.int .i64 (0)))]++uMs0 c b++[(45,(.int .i64 (0))),(46,(.ptr 0 0)),(47,(.vs tMark (c.1.1) (c.1.2))),(48,(uM8 c)),(49,(.bool (false))),(68,(.int .i64 x14)),(69,(.ptr 0 1)),(70,(uM6 c)),(71,(uM16 c)),(72,(.bool (true))),(75,(.ptr 0 1)),(76,(uM6 c)),(77,(.int .i64 x14)),(78,(.cp [(.str x41),(.vs tP x42 x43),(.int .i64 x44),(.int .i64 x45),(.int .i64 x46),(.int .i64 x47)] 0)),(79,(.agg [(.str x41),(.vs tP x42 x43),(.int .i64 x44),(.int .i64 x45),(.int .i64 x46),(.int .i64 x47)])),(80,(.ptr 7 1))])) x134),(.blk 4),(.seq (pcOf Mo1 12 [1,1,1,0,0,1,0,0,1,0,1,1,1,1,1])),(.blk 3),(.seq (pcOf Mo1 12 [1,1,0,0,1,0,1,1,1,1,1])),(.lop (pcOf Mo1 12 [0,0,1,0,1,1,1,1,1]) 6 (tmOf 258 (uMs1 c b z++[(9,(.int .i64 (0))),(11,(.int .i64 (0)))]++uMs0 c b++[(45,(.int .i64 (0))),(46,(.ptr 0 0)),(47,(.vs tMark (c.1.1) (c.1.2))),(48,(uM8 c)),(49,(.bool (false)))])) x167),(.blk 2),(.seq (pcOf Mo1 12 [1,1,1,1,1,1])),(.cal [(.tmp 6)] .top)]⟩
noncomputable def cmovI9 (c:tChart.den) (b:tB2.den) (z:tBoth.den) (x13:Int) (x14:Int) (x48:Nat) (x50:Nat) (x52:List AV) (x53:List AV) (x86:Nat):Cfg:=⟨.ex (pcOf Mo1 12 [0,0,1,0,1,1,1,1,1]) ⟨(tmOf 258 (uMs1 c b z++[(9,(.int .i64 x13)),(11,(.int .i64 x14))]++uMs0 c b++[(45,(.int .i64 x13)),(46,(.ptr 0 0)),(47,(.vs tMark (c.1.1) (c.1.2))),(48,(uM8 c)),(49,(.bool (false)))])),(hpOf 8 [(0,(uM14 c)),(1,(uM15 b)),(2,(uM4 z)),(3,(uM5 b)),(4,(uM5 b)),(5,(.cells false [(.sl 6 0 x48 x48 4),(.sl 7 0 x50 x50 6)])),(6,(.cells false x52)),(7,(.cells false x53))]),[],[],258,false⟩,⟨8,[]⟩,[(.lop (pcOf Mo1 12 [0,0,1,0,1,1,1,1,1]) 7 (tmOf 258 (uMs1 c b z++[(9,(.int .i64 x13)),(11,(.int .i64 (0)))]++uMs0 c b++[(45,(.int .i64 x13)),(46,(.ptr 0 0)),(47,(.vs tMark (c.1.1) (c.1.2))),(48,(uM8 c)),(49,(.bool (false)))])) x86),(.blk 2),(.seq (pcOf Mo1 12 [1,1,1,1,1,1])),(.cal [(.tmp 6)] .top)]⟩
noncomputable def cmovI10 (c:tChart.den) (b:tB2.den) (z:tBoth.den) (x13:Int) (x15:Int) (x71:Nat) (x73:List AV) (x75:Nat) (x81:List AV) (x137:Nat) (x170:Nat):Cfg:=⟨.ex (pcOf Mo1 12 [0,0,1,0,1,1,0,0,1,0,0,1,0,1,1,1,1,1]) ⟨(tmOf 258 (uMs1 c b z++[(9,(.int .i64 x13)),(11,(.int .i64 (0))),(12,(.ptr 7 0)),(13,(.int .i64 x15))]++uMs0 c b++[(45,(.int .i64 x13)),(46,(.ptr 0 0)),(47,(.vs tMark (c.1.1) (c.1.2))),(48,(uM8 c)),(49,(.bool (false))),(68,(.int .i64 (0))),(69,(.ptr 0 1)),(70,(uM6 c)),(71,(uM16 c)),(72,(.bool (true))),(75,(.ptr 0 1)),(76,(uM6 c)),(77,(.int .i64 (0))),(78,(.cp [(.str ((c.2.1.2.getD (Int.toNat 0) tSand.dflt).1)),(uM10 c),(uM13 c),(uM11 c),(uM12 c),(uM9 c)] 0)),(79,(uM2 c)),(80,(.ptr 7 1))])),(hpOf 9 [(0,(uM14 c)),(1,(uM15 b)),(2,(uM4 z)),(3,(uM5 b)),(4,(uM5 b)),(5,(.cells false [(.sl 6 0 x71 x71 4),.nils])),(6,(.cells false x73)),(7,(.cells false [(.str ((c.2.1.2.getD (Int.toNat 0) tSand.dflt).1)),(.sl 8 0 x75 x75 2),(uM13 c),(uM11 c),(uM12 c),(uM9 c)])),(8,(.cells false x81))]),[],[],258,false⟩,⟨8,[]⟩,[(.lop (pcOf Mo1 12 [0,0,1,0,1,1,0,0,1,0,0,1,0,1,1,1,1,1]) 8 (tmOf 258 (uMs1 c b z++[(9,(.int .i64 x13)),(11,(.int .i64 (0))),(12,(.ptr 7 0)),(13,(.int .i64 (0)))]++uMs0 c b++[(45,(.int .i64 x13)),(46,(.ptr 0 0)),(47,(.vs tMark (c.1.1) (c.1.2))),(48,(uM8 c)),(49,(.bool (false))),(68,(.int .i64 (0))),(69,(.ptr 0 1)),(70,(uM6 c)),(71,(uM16 c)),(72,(.bool (true))),(75,(.ptr 0 1)),(76,(uM6 c)),(77,(.int .i64 (0))),(78,(.cp [(.str ((c.2.1.2.getD (Int.toNat 0) tSand.dflt).1)),(uM10 c),(uM13 c),(uM11 c),(uM12 c),(uM9 c)] 0)),(79,(uM2 c)),(80,(.ptr 7 1))])) x137),(.blk 4),(.seq (pcOf Mo1 12 [1,1,1,0,0,1,0,0,1,0,1,1,1,1,1])),(.blk 3),(.seq (pcOf Mo1 12 [1,1,0,0,1,0,1,1,1,1,1])),(.lop (pcOf Mo1 12 [0,0,1,0,1,1,1,1,1]) 7 (tmOf 258 (uMs1 c b z++[(9,(.int .i64 x13)),(11,(.int .i64 (0)))]++uMs0 c b++[(45,(.int .i64 x13)),(46,(.ptr 0 0)),(47,(.vs tMark (c.1.1) (c.1.2))),(48,(uM8 c)),(49,(.bool (false)))])) x170),(.blk 2),(.seq (pcOf Mo1 12 [1,1,1,1,1,1])),(.cal [(.tmp 6)] .top)]⟩
noncomputable def cmovI11 (c:tChart.den) (b:tB2.den) (z:tBoth.den) (x14:Int) (x15:Int) (x41:List Nat) (x42:Bool) (x43:List (Ty.den tP)) (x44:Int) (x45:Int) (x46:Int) (x47:Int) (x71:Nat) (x73:List AV) (x75:Nat) (x81:List AV) (x137:Nat) (x170:Nat):Cfg:=⟨.ex (pcOf Mo1 12 [0,0,1,0,1,1,0,0,1,0,0,1,0,1,1,1,1,1]) ⟨(tmOf 258 (uMs1 c b z++[(9,(.int .i64 (0))),(11,(.int .i64 x14)),(12,(.ptr 7 0)),(13,(.int .i64 x15))]++uMs0 c b++[(45,(.int .i64 (0))),(46,(.ptr 0 0)),(47,(.vs tMark (c.1.1) (c.1.2))),(48,(uM8 c)),(49,(.bool (false))),(68,(.int .i64 x14)),(69,(.ptr 0 1)),(70,(uM6 c)),(71,(uM16 c)),(72,(.bool (true))),(75,(.ptr 0 1)),(76,(uM6 c)),(77,(.int .i64 x14)),(78,(.cp [(.str x41),(.vs tP x42 x43),(.int .i64 x44),(.int .i64 x45),(.int .i64 x46),(.int .i64 x47)] 0)),(79,(.agg [(.str x41),(.vs tP x42 x43),(.int .i64 x44),(.int .i64 x45),(.int .i64 x46),(.int .i64 x47)])),(80,(.ptr 7 1))])),(hpOf 9 [(0,(uM14 c)),(1,(uM15 b)),(2,(uM4 z)),(3,(uM5 b)),(4,(uM5 b)),(5,(.cells false [.nils,(.sl 6 0 x71 x71 6)])),(6,(.cells false x73)),(7,(.cells false [(.str x41),(.sl 8 0 x75 x75 2),(.int .i64 x44),(.int .i64 x45),(.int .i64 x46),(.int .i64 x47)])),(8,(.cells false x81))]),[],[],258,false⟩,⟨8,[]⟩,[(.lop (pcOf Mo1 12 [0,0,1,0,1,1,0,0,1,0,0,1,0,1,1,1,1,1]) 8 (tmOf 258 (uMs1 c b z++[(9,(.int .i64 (0))),(11,(.int .i64 x14)),(12,(.ptr 7 0)),(13,(.int .i64 (0)))]++uMs0 c b++[(45,(.int .i64 (0))),(46,(.ptr 0 0)),(47,(.vs tMark (c.1.1) (c.1.2))),(48,(uM8 c)),(49,(.bool (false))),(68,(.int .i64 x14)),(69,(.ptr 0 1)),(70,(uM6 c)),(71,(uM16 c)),(72,(.bool (true))),(75,(.ptr 0 1)),(76,(uM6 c)),(77,(.int .i64 x14)),(78,(.cp [(.str x41),(.vs tP x42 x43),(.int .i64 x44),(.int .i64 x45),(.int .i64 x46),(.int .i64 x47)] 0)),(79,(.agg [(.str x41),(.vs tP x42 x43),(.int .i64 x44),(.int .i64 x45),(.int .i64 x46),(.int .i64 x47)])),(80,(.ptr 7 1))])) x137),(.blk 4),(.seq (pcOf Mo1 12 [1,1,1,0,0,1,0,0,1,0,1,1,1,1,1])),(.blk 3),(.seq (pcOf Mo1 12 [1,1,0,0,1,0,1,1,1,1,1])),(.lop (pcOf Mo1 12 [0,0,1,0,1,1,1,1,1]) 6 (tmOf 258 (uMs1 c b z++[(9,(.int .i64 (0))),(11,(.int .i64 (0)))]++uMs0 c b++[(45,(.int .i64 (0))),(46,(.ptr 0 0)),(47,(.vs tMark (c.1.1) (c.1.2))),(48,(uM8 c)),(49,(.bool (false)))])) x170),(.blk 2),(.seq (pcOf Mo1 12 [1,1,1,1,1,1])),(.cal [(.tmp 6)] .top)]⟩
noncomputable def cmovI12 (c:tChart.den) (b:tB2.den) (z:tBoth.den) (x13:Int) (x14:Int) (x41:List Nat) (x42:Bool) (x43:List (Ty.den tP)) (x44:Int) (x45:Int) (x46:Int) (x47:Int) (x71:Nat) (x73:Nat) (x75:List AV) (x76:List AV) (x137:Nat) (x170:Nat):Cfg:=⟨.ex (pcOf Mo1 12 [0,0,1,0,1,1,0,0,1,0,0,1,0,1,1,1,1,1]) ⟨(tmOf 258 (uMs1 c b z++[(9,(.int .i64 x13)),(11,(.int .i64 x14)),(12,(.ptr 8 0)),(13,(.int .i64 (0)))]++uMs0 c b++[(45,(.int .i64 x13)),(46,(.ptr 0 0)),(47,(.vs tMark (c.1.1) (c.1.2))),(48,(uM8 c)),(49,(.bool (false))),(68,(.int .i64 x14)),(69,(.ptr 0 1)),(70,(uM6 c)),(71,(uM16 c)),(72,(.bool (true))),(75,(.ptr 0 1)),(76,(uM6 c)),(77,(.int .i64 x14)),(78,(.cp [(.str x41),(.vs tP x42 x43),(.int .i64 x44),(.int .i64 x45),(.int .i64 x46),(.int .i64 x47)] 0)),(79,(.agg [(.str x41),(.vs tP x42 x43),(.int .i64 x44),(.int .i64 x45),(.int .i64 x46),(.int .i64 x47)])),(80,(.ptr 8 1))])),(hpOf 9 [(0,(uM14 c)),(1,(uM15 b)),(2,(uM4 z)),(3,(uM5 b)),(4,(uM5 b)),(5,(.cells false [(.sl 6 0 x71 x71 4),(.sl 7 0 x73 x73 6)])),(6,(.cells false x75)),(7,(.cells false x76)),(8,(.cells false [(.str x41),.nils,(.int .i64 x44),(.int .i64 x45),(.int .i64 x46),(.int .i64 x47)]))]),[],[],258,false⟩,⟨8,[]⟩,[(.lop (pcOf Mo1 12 [0,0,1,0,1,1,0,0,1,0,0,1,0,1,1,1,1,1]) 9 (tmOf 258 (uMs1 c b z++[(9,(.int .i64 x13)),(11,(.int .i64 x14)),(12,(.ptr 8 0)),(13,(.int .i64 (0)))]++uMs0 c b++[(45,(.int .i64 x13)),(46,(.ptr 0 0)),(47,(.vs tMark (c.1.1) (c.1.2))),(48,(uM8 c)),(49,(.bool (false))),(68,(.int .i64 x14)),(69,(.ptr 0 1)),(70,(uM6 c)),(71,(uM16 c)),(72,(.bool (true))),(75,(.ptr 0 1)),(76,(uM6 c)),(77,(.int .i64 x14)),(78,(.cp [(.str x41),(.vs tP x42 x43),(.int .i64 x44),(.int .i64 x45),(.int .i64 x46),(.int .i64 x47)] 0)),(79,(.agg [(.str x41),(.vs tP x42 x43),(.int .i64 x44),(.int .i64 x45),(.int .i64 x46),(.int .i64 x47)])),(80,(.ptr 8 1))])) x137),(.blk 4),(.seq (pcOf Mo1 12 [1,1,1,0,0,1,0,0,1,0,1,1,1,1,1])),(.blk 3),(.seq (pcOf Mo1 12 [1,1,0,0,1,0,1,1,1,1,1])),(.lop (pcOf Mo1 12 [0,0,1,0,1,1,1,1,1]) 7 (tmOf 258 (uMs1 c b z++[(9,(.int .i64 x13)),(11,(.int .i64 (0)))]++uMs0 c b++[(45,(.int .i64 x13)),(46,(.ptr 0 0)),(47,(.vs tMark (c.1.1) (c.1.2))),(48,(uM8 c)),(49,(.bool (false)))])) x170),(.blk 2),(.seq (pcOf Mo1 12 [1,1,1,1,1,1])),(.cal [(.tmp 6)] .top)]⟩
noncomputable def cmovI13 (c:tChart.den) (b:tB2.den) (z:tBoth.den) (x13:Int) (x14:Int) (x15:Int) (x41:List Nat) (x42:Bool) (x43:List (Ty.den tP)) (x44:Int) (x45:Int) (x46:Int) (x47:Int) (x71:Nat) (x73:Nat) (x75:List AV) (x76:List AV) (x78:Nat) (x84:List AV) (x140:Nat) (x173:Nat):Cfg:=⟨.ex (pcOf Mo1 12 [0,0,1,0,1,1,0,0,1,0,0,1,0,1,1,1,1,1]) ⟨(tmOf 258 (uMs1 c b z++[(9,(.int .i64 x13)),(11,(.int .i64 x14)),(12,(.ptr 8 0)),(13,(.int .i64 x15))]++uMs0 c b++[(45,(.int .i64 x13)),(46,(.ptr 0 0)),(47,(.vs tMark (c.1.1) (c.1.2))),(48,(uM8 c)),(49,(.bool (false))),(68,(.int .i64 x14)),(69,(.ptr 0 1)),(70,(uM6 c)),(71,(uM16 c)),(72,(.bool (true))),(75,(.ptr 0 1)),(76,(uM6 c)),(77,(.int .i64 x14)),(78,(.cp [(.str x41),(.vs tP x42 x43),(.int .i64 x44),(.int .i64 x45),(.int .i64 x46),(.int .i64 x47)] 0)),(79,(.agg [(.str x41),(.vs tP x42 x43),(.int .i64 x44),(.int .i64 x45),(.int .i64 x46),(.int .i64 x47)])),(80,(.ptr 8 1))])),(hpOf 10 [(0,(uM14 c)),(1,(uM15 b)),(2,(uM4 z)),(3,(uM5 b)),(4,(uM5 b)),(5,(.cells false [(.sl 6 0 x71 x71 4),(.sl 7 0 x73 x73 6)])),(6,(.cells false x75)),(7,(.cells false x76)),(8,(.cells false [(.str x41),(.sl 9 0 x78 x78 2),(.int .i64 x44),(.int .i64 x45),(.int .i64 x46),(.int .i64 x47)])),(9,(.cells false x84))]),[],[],258,false⟩,⟨8,[]⟩,[(.lop (pcOf Mo1 12 [0,0,1,0,1,1,0,0,1,0,0,1,0,1,1,1,1,1]) 9 (tmOf 258 (uMs1 c b z++[(9,(.int .i64 x13)),(11,(.int .i64 x14)),(12,(.ptr 8 0)),(13,(.int .i64 (0)))]++uMs0 c b++[(45,(.int .i64 x13)),(46,(.ptr 0 0)),(47,(.vs tMark (c.1.1) (c.1.2))),(48,(uM8 c)),(49,(.bool (false))),(68,(.int .i64 x14)),(69,(.ptr 0 1)),(70,(uM6 c)),(71,(uM16 c)),(72,(.bool (true))),(75,(.ptr 0 1)),(76,(uM6 c)),(77,(.int .i64 x14)),(78,(.cp [(.str x41),(.vs tP x42 x43),(.int .i64 x44),(.int .i64 x45),(.int .i64 x46),(.int .i64 x47)] 0)),(79,(.agg [(.str x41),(.vs tP x42 x43),(.int .i64 x44),(.int .i64 x45),(.int .i64 x46),(.int .i64 x47)])),(80,(.ptr 8 1))])) x140),(.blk 4),(.seq (pcOf Mo1 12 [1,1,1,0,0,1,0,0,1,0,1,1,1,1,1])),(.blk 3),(.seq (pcOf Mo1 12 [1,1,0,0,1,0,1,1,1,1,1])),(.lop (pcOf Mo1 12 [0,0,1,0,1,1,1,1,1]) 7 (tmOf 258 (uMs1 c b z++[(9,(.int .i64 x13)),(11,(.int .i64 (0)))]++uMs0 c b++[(45,(.int .i64 x13)),(46,(.ptr 0 0)),(47,(.vs tMark (c.1.1) (c.1.2))),(48,(uM8 c)),(49,(.bool (false)))])) x173),(.blk 2),(.seq (pcOf Mo1 12 [1,1,1,1,1,1])),(.cal [(.tmp 6)] .top)]⟩
theorem cmov_start (c:tChart.den) (b:tB2.den) (z:tBoth.den):adv Mo1 ((Mq [12]).vars) 3000 (startC Mo1 12 [tChart.av c,tB2.av b,tBoth.av z] 8)=(bif !ieq (chkS c).2.2 0 then some (.done (.bool (true))) else some (.stop (cmovI0 c b z (1048575)))):=by kernel_rfl
theorem cmov_step0 (c:tChart.den) (b:tB2.den) (z:tBoth.den) (x68:Nat):adv Mo1 ((Mq [12]).vars) 3000 (cmovI0 c b z (x68+1))=(bif !ile (↑c.1.2.length) 0 then (bif inB 0 c.1.2.length then some (.stop (cmovI2 c b z (1) (1) ([AV.str (c.1.2.getD (Int.toNat 0) tMark.dflt).1,AV.int IntKind.i64 (wr .i64 ((c.1.2.getD (Int.toNat 0) tMark.dflt).2.1.1+wr .i64 b.1)),AV.int IntKind.i64 (wr .i64 ((c.1.2.getD (Int.toNat 0) tMark.dflt).2.1.2.1+wr .i64 b.2.1)),AV.vs tP (c.1.2.getD (Int.toNat 0) tMark.dflt).2.2.1.1 (c.1.2.getD (Int.toNat 0) tMark.dflt).2.2.1.2]) (x68))) else none) else some (.stop (cmovI1 c b z (1048575)))):=by kernel_rfl
theorem cmov_step1 (c:tChart.den) (b:tB2.den) (z:tBoth.den) (x80:Nat):adv Mo1 ((Mq [12]).vars) 3000 (cmovI1 c b z (x80+1))=(let z1:=(wr .i64 (nY c z.2.1.2+wr .i64 b.2.1));let z2:=(wr .i64 (nX c z.2.1.2+wr .i64 b.1));let z3:=(wr .i64 (wr .i64 z.1.2.2.1.2.1+wr .i64 b.2.1));let z4:=(wr .i64 (wr .i64 z.1.2.2.1.1+wr .i64 b.1));let z5:=(wr .i64 z.1.2.2.1.2.1);let z6:=(wr .i64 z.1.2.2.1.1);let z7:=(wr .i64 z.1.2.1);(bif !ile (↑c.2.1.2.length) 0 then (bif inB 0 c.2.1.2.length then some (.stop (cmovI3 c b z (1048575) (x80+1))) else none) else (bif u16 z.2.1.2&&ieq (chkS c).2.2 0 then (bif ile (wr .i64 (0-10000)) z2 then (bif ile z2 10000 then (bif ile (wr .i64 (0-10000)) z1 then (bif !ile z1 10000 then some (.done (.bool (true))) else (bif (onS c (nX c z.2.1.2) (nY c z.2.1.2)).1.1.length.ble 1000 then (bif !intzS (onS c (nX c z.2.1.2) (nY c z.2.1.2)).1.1 (onS ((true,[]),(true,[]),()) z2 z1).1.1 then some (.done (.bool (false))) else (bif (onS c (nX c z.2.1.2) (nY c z.2.1.2)).1.2.length.ble 1000 then (bif !intzS (onS c (nX c z.2.1.2) (nY c z.2.1.2)).1.2 (onS ((true,[]),(true,[]),()) z2 z1).1.2 then some (.done (.bool (false))) else (bif !ieq (onS c (nX c z.2.1.2) (nY c z.2.1.2)).2 0 then some (.done (.bool (false))) else (bif !ieq (onS ((true,[]),(true,[]),()) z2 z1).2 (onS c (nX c z.2.1.2) (nY c z.2.1.2)).2 then some (.done (.bool (false))) else (bif !ieq (radS c (nX c z.2.1.2) (nY c z.2.1.2)).1 (radS ((true,[]),(true,[]),()) z2 z1).1 then some (.done (.bool (false))) else (bif !ieq (radS c (nX c z.2.1.2) (nY c z.2.1.2)).2 0 then some (.done (.bool (false))) else (bif !ieq (radS ((true,[]),(true,[]),()) z2 z1).2 (radS c (nX c z.2.1.2) (nY c z.2.1.2)).2 then some (.done (.bool (false))) else (bif ieq (↑c.1.2.length) 0 then some (.done (.bool (true))) else (bif ile (wr .i64 (0-30000)) z6 then (bif ile z6 30000 then (bif ile (wr .i64 (0-30000)) z5 then (bif !ile z5 30000 then some (.done (.bool (true))) else (bif ile (wr .i64 (0-30000)) z4 then (bif ile z4 30000 then (bif ile (wr .i64 (0-30000)) z3 then (bif !ile z3 30000 then some (.done (.bool (true))) else (bif ieq (↑c.1.2.length) 0 then none else (bif ieq (seeS c ((wr .i64 z.1.1).tmod 40001) (z7.tmod ↑c.1.2.length) z6 z5).1 (seeS ((true,[]),(true,[]),()) ((wr .i64 z.1.1).tmod 40001) (z7.tmod ↑c.1.2.length) z4 z3).1 then (bif ieq (seeS c ((wr .i64 z.1.1).tmod 40001) (z7.tmod ↑c.1.2.length) z6 z5).2 (seeS ((true,[]),(true,[]),()) ((wr .i64 z.1.1).tmod 40001) (z7.tmod ↑c.1.2.length) z4 z3).2 then some (.done (.bool (true))) else some (.done (.bool (false)))) else some (.done (.bool (false)))))) else some (.done (.bool (true)))) else some (.done (.bool (true)))) else some (.done (.bool (true))))) else some (.done (.bool (true)))) else some (.done (.bool (true)))) else some (.done (.bool (true))))))))))) else none)) else none)) else some (.done (.bool (true)))) else some (.done (.bool (true)))) else some (.done (.bool (true)))) else none))):=by kernel_rfl
theorem cmov_step2 (c:tChart.den) (b:tB2.den) (z:tBoth.den) (x13:Int) (x42:Nat) (x44:List AV) (x71:Nat):adv Mo1 ((Mq [12]).vars) 3000 (cmovI2 c b z x13 x42 x44 (x71+1))=(let z1:=(wr .i64 ((c.1.2.getD x13.toNat tMark.dflt).2.1.2.1+wr .i64 b.2.1));let z2:=(wr .i64 ((c.1.2.getD x13.toNat tMark.dflt).2.1.1+wr .i64 b.1));(bif !ile (↑c.1.2.length) x13 then (bif inB x13 c.1.2.length then (bif (0+x42 * 4).beq x44.length then (bif x42.ble 1048576 then (bif plO (AO.cells false (x44++[AV.str (c.1.2.getD x13.toNat tMark.dflt).1,AV.int IntKind.i64 z2,AV.int IntKind.i64 z1,AV.vs tP (c.1.2.getD x13.toNat tMark.dflt).2.2.1.1 (c.1.2.getD x13.toNat tMark.dflt).2.2.1.2])) then some (.stop (cmovI2 c b z (wr .i64 (x13+1)) (x42+1) (x44++[AV.str (c.1.2.getD x13.toNat tMark.dflt).1,AV.int IntKind.i64 z2,AV.int IntKind.i64 z1,AV.vs tP (c.1.2.getD x13.toNat tMark.dflt).2.2.1.1 (c.1.2.getD x13.toNat tMark.dflt).2.2.1.2]) (x71))) else none) else none) else none) else none) else some (.stop (cmovI4 c b z (x13) (x42) (x44) (1048575))))):=by kernel_rfl
theorem cmov_step3 (c:tChart.den) (b:tB2.den) (z:tBoth.den) (x131:Nat) (x164:Nat):adv Mo1 ((Mq [12]).vars) 3000 (cmovI3 c b z (x131+1) (x164+1))=(bif inB 0 c.2.1.2.length then (bif !ile (↑(c.2.1.2.getD (Int.toNat 0) tSand.dflt).2.1.2.length) 0 then (bif inB 0 c.2.1.2.length then (bif inB 0 (c.2.1.2.getD (Int.toNat 0) tSand.dflt).2.1.2.length then (bif ieq (wr .i64 b.1) (wr .i64 b.1) then (bif ieq (wr .i64 b.2.1) (wr .i64 b.2.1) then (bif bbeq c.2.1.1 c.2.1.1 then (bif vsB tSand c.2.1.2 tSand c.2.1.2 then some (.stop (cmovI6 c b z (1) (1) ([AV.int IntKind.i64 (wr .i64 (((c.2.1.2.getD (Int.toNat 0) tSand.dflt).2.1.2.getD (Int.toNat 0) tP.dflt).1+wr .i64 b.1)),AV.int IntKind.i64 (wr .i64 (((c.2.1.2.getD (Int.toNat 0) tSand.dflt).2.1.2.getD (Int.toNat 0) tP.dflt).2.1+wr .i64 b.2.1))]) (x131) (x164+1))) else none) else none) else none) else none) else none) else none) else some (.stop (cmovI5 c b z (1) (1) ([AV.str (c.2.1.2.getD (Int.toNat 0) tSand.dflt).1,AV.nils,AV.int IntKind.i64 (c.2.1.2.getD (Int.toNat 0) tSand.dflt).2.2.1.1.1,AV.int IntKind.i64 (c.2.1.2.getD (Int.toNat 0) tSand.dflt).2.2.1.1.2.1,AV.int IntKind.i64 (c.2.1.2.getD (Int.toNat 0) tSand.dflt).2.2.1.2.1.1,AV.int IntKind.i64 (c.2.1.2.getD (Int.toNat 0) tSand.dflt).2.2.1.2.1.2.1]) (x164)))) else none):=by kernel_rfl
theorem cmov_step4 (c:tChart.den) (b:tB2.den) (z:tBoth.den) (x13:Int) (x48:Nat) (x50:List AV) (x83:Nat):adv Mo1 ((Mq [12]).vars) 3000 (cmovI4 c b z x13 x48 x50 (x83+1))=(let z1:=(wr .i64 (nY c z.2.1.2+wr .i64 b.2.1));let z2:=(wr .i64 (nX c z.2.1.2+wr .i64 b.1));let z3:=(wr .i64 (wr .i64 z.1.2.2.1.2.1+wr .i64 b.2.1));let z4:=(wr .i64 (wr .i64 z.1.2.2.1.1+wr .i64 b.1));let z5:=(wr .i64 z.1.2.2.1.2.1);let z6:=(wr .i64 z.1.2.2.1.1);let z7:=(wr .i64 z.1.2.1);(bif !ile (↑c.2.1.2.length) 0 then (bif inB 0 c.2.1.2.length then some (.stop (cmovI7 c b z (x13) (x48) (x50) (1048575) (x83+1))) else none) else (bif u16 z.2.1.2&&ieq (chkS c).2.2 0 then (bif plainL x50 then (bif isF (rd tMark) x48 x50&&true&&true then (bif !ieq (chkS ((false,unf (rd tMark) x48 x50),(true,[]),())).2.2 0 then some (.done (.bool (true))) else (bif ile (wr .i64 (0-10000)) z2 then (bif ile z2 10000 then (bif ile (wr .i64 (0-10000)) z1 then (bif !ile z1 10000 then some (.done (.bool (true))) else (bif plainL x50 then (bif isF (rd tMark) x48 x50&&true&&true then (bif plainL x50 then (bif isF (rd tMark) x48 x50&&true&&true then (bif (onS c (nX c z.2.1.2) (nY c z.2.1.2)).1.1.length.ble 1000 then (bif !intzS (onS c (nX c z.2.1.2) (nY c z.2.1.2)).1.1 (onS ((false,unf (rd tMark) x48 x50),(true,[]),()) z2 z1).1.1 then some (.done (.bool (false))) else (bif (onS c (nX c z.2.1.2) (nY c z.2.1.2)).1.2.length.ble 1000 then (bif !intzS (onS c (nX c z.2.1.2) (nY c z.2.1.2)).1.2 (onS ((false,unf (rd tMark) x48 x50),(true,[]),()) z2 z1).1.2 then some (.done (.bool (false))) else (bif !ieq (onS c (nX c z.2.1.2) (nY c z.2.1.2)).2 0 then some (.done (.bool (false))) else (bif !ieq (onS ((false,unf (rd tMark) x48 x50),(true,[]),()) z2 z1).2 (onS c (nX c z.2.1.2) (nY c z.2.1.2)).2 then some (.done (.bool (false))) else (bif !ieq (radS c (nX c z.2.1.2) (nY c z.2.1.2)).1 (radS ((false,unf (rd tMark) x48 x50),(true,[]),()) z2 z1).1 then some (.done (.bool (false))) else (bif !ieq (radS c (nX c z.2.1.2) (nY c z.2.1.2)).2 0 then some (.done (.bool (false))) else (bif !ieq (radS ((false,unf (rd tMark) x48 x50),(true,[]),()) z2 z1).2 (radS c (nX c z.2.1.2) (nY c z.2.1.2)).2 then some (.done (.bool (false))) else (bif ieq (↑c.1.2.length) 0 then some (.done (.bool (true))) else (bif ile (wr .i64 (0-30000)) z6 then (bif ile z6 30000 then (bif ile (wr .i64 (0-30000)) z5 then (bif !ile z5 30000 then some (.done (.bool (true))) else (bif ile (wr .i64 (0-30000)) z4 then (bif ile z4 30000 then (bif ile (wr .i64 (0-30000)) z3 then (bif !ile z3 30000 then some (.done (.bool (true))) else (bif ieq (↑c.1.2.length) 0 then none else (bif plainL x50 then (bif isF (rd tMark) x48 x50&&true&&true then (bif ieq (seeS c ((wr .i64 z.1.1).tmod 40001) (z7.tmod ↑c.1.2.length) z6 z5).1 (seeS ((false,unf (rd tMark) x48 x50),(true,[]),()) ((wr .i64 z.1.1).tmod 40001) (z7.tmod ↑c.1.2.length) z4 z3).1 then (bif ieq (seeS c ((wr .i64 z.1.1).tmod 40001) (z7.tmod ↑c.1.2.length) z6 z5).2 (seeS ((false,unf (rd tMark) x48 x50),(true,[]),()) ((wr .i64 z.1.1).tmod 40001) (z7.tmod ↑c.1.2.length) z4 z3).2 then some (.done (.bool (true))) else some (.done (.bool (false)))) else some (.done (.bool (false)))) else none) else none))) else some (.done (.bool (true)))) else some (.done (.bool (true)))) else some (.done (.bool (true))))) else some (.done (.bool (true)))) else some (.done (.bool (true)))) else some (.done (.bool (true))))))))))) else none)) else none) else none) else none) else none) else none)) else some (.done (.bool (true)))) else some (.done (.bool (true)))) else some (.done (.bool (true))))) else none) else none) else none))):=by kernel_rfl
theorem cmov_step5 (c:tChart.den) (b:tB2.den) (z:tBoth.den) (x14:Int) (x48:Nat) (x50:List AV) (x83:Nat):adv Mo1 ((Mq [12]).vars) 3000 (cmovI5 c b z x14 x48 x50 (x83+1))=(let z1:=(wr .i64 (nY c z.2.1.2+wr .i64 b.2.1));let z2:=(wr .i64 (nX c z.2.1.2+wr .i64 b.1));let z3:=(wr .i64 (wr .i64 z.1.2.2.1.2.1+wr .i64 b.2.1));let z4:=(wr .i64 (wr .i64 z.1.2.2.1.1+wr .i64 b.1));let z5:=(wr .i64 z.1.2.2.1.2.1);let z6:=(wr .i64 z.1.2.2.1.1);let z7:=(wr .i64 z.1.2.1);(bif !ile (↑c.2.1.2.length) x14 then (bif inB x14 c.2.1.2.length then some (.stop (cmovI8 c b z (x14) ((c.2.1.2.getD x14.toNat tSand.dflt).1) ((c.2.1.2.getD x14.toNat tSand.dflt).2.1.1) ((c.2.1.2.getD x14.toNat tSand.dflt).2.1.2) ((c.2.1.2.getD x14.toNat tSand.dflt).2.2.1.1.1) ((c.2.1.2.getD x14.toNat tSand.dflt).2.2.1.1.2.1) ((c.2.1.2.getD x14.toNat tSand.dflt).2.2.1.2.1.1) ((c.2.1.2.getD x14.toNat tSand.dflt).2.2.1.2.1.2.1) (x48) (x50) (1048575) (x83+1))) else none) else (bif u16 z.2.1.2&&ieq (chkS c).2.2 0 then (bif plainL x50 then (bif isF (rd tSand) x48 x50&&true&&true then (bif !ieq (chkS ((true,[]),(false,unf (rd tSand) x48 x50),())).2.2 0 then some (.done (.bool (true))) else (bif ile (wr .i64 (0-10000)) z2 then (bif ile z2 10000 then (bif ile (wr .i64 (0-10000)) z1 then (bif !ile z1 10000 then some (.done (.bool (true))) else (bif plainL x50 then (bif isF (rd tSand) x48 x50&&true&&true then (bif plainL x50 then (bif isF (rd tSand) x48 x50&&true&&true then (bif (onS c (nX c z.2.1.2) (nY c z.2.1.2)).1.1.length.ble 1000 then (bif !intzS (onS c (nX c z.2.1.2) (nY c z.2.1.2)).1.1 (onS ((true,[]),(false,unf (rd tSand) x48 x50),()) z2 z1).1.1 then some (.done (.bool (false))) else (bif (onS c (nX c z.2.1.2) (nY c z.2.1.2)).1.2.length.ble 1000 then (bif !intzS (onS c (nX c z.2.1.2) (nY c z.2.1.2)).1.2 (onS ((true,[]),(false,unf (rd tSand) x48 x50),()) z2 z1).1.2 then some (.done (.bool (false))) else (bif !ieq (onS c (nX c z.2.1.2) (nY c z.2.1.2)).2 0 then some (.done (.bool (false))) else (bif !ieq (onS ((true,[]),(false,unf (rd tSand) x48 x50),()) z2 z1).2 (onS c (nX c z.2.1.2) (nY c z.2.1.2)).2 then some (.done (.bool (false))) else (bif !ieq (radS c (nX c z.2.1.2) (nY c z.2.1.2)).1 (radS ((true,[]),(false,unf (rd tSand) x48 x50),()) z2 z1).1 then some (.done (.bool (false))) else (bif !ieq (radS c (nX c z.2.1.2) (nY c z.2.1.2)).2 0 then some (.done (.bool (false))) else (bif !ieq (radS ((true,[]),(false,unf (rd tSand) x48 x50),()) z2 z1).2 (radS c (nX c z.2.1.2) (nY c z.2.1.2)).2 then some (.done (.bool (false))) else (bif ieq (↑c.1.2.length) 0 then some (.done (.bool (true))) else (bif ile (wr .i64 (0-30000)) z6 then (bif ile z6 30000 then (bif ile (wr .i64 (0-30000)) z5 then (bif !ile z5 30000 then some (.done (.bool (true))) else (bif ile (wr .i64 (0-30000)) z4 then (bif ile z4 30000 then (bif ile (wr .i64 (0-30000)) z3 then (bif !ile z3 30000 then some (.done (.bool (true))) else (bif ieq (↑c.1.2.length) 0 then none else (bif plainL x50 then (bif isF (rd tSand) x48 x50&&true&&true then (bif ieq (seeS c ((wr .i64 z.1.1).tmod 40001) (z7.tmod ↑c.1.2.length) z6 z5).1 (seeS ((true,[]),(false,unf (rd tSand) x48 x50),()) ((wr .i64 z.1.1).tmod 40001) (z7.tmod ↑c.1.2.length) z4 z3).1 then (bif ieq (seeS c ((wr .i64 z.1.1).tmod 40001) (z7.tmod ↑c.1.2.length) z6 z5).2 (seeS ((true,[]),(false,unf (rd tSand) x48 x50),()) ((wr .i64 z.1.1).tmod 40001) (z7.tmod ↑c.1.2.length) z4 z3).2 then some (.done (.bool (true))) else some (.done (.bool (false)))) else some (.done (.bool (false)))) else none) else none))) else some (.done (.bool (true)))) else some (.done (.bool (true)))) else some (.done (.bool (true))))) else some (.done (.bool (true)))) else some (.done (.bool (true)))) else some (.done (.bool (true))))))))))) else none)) else none) else none) else none) else none) else none)) else some (.done (.bool (true)))) else some (.done (.bool (true)))) else some (.done (.bool (true))))) else none) else none) else none))):=by kernel_rfl
theorem cmov_step6 (c:tChart.den) (b:tB2.den) (z:tBoth.den) (x15:Int) (x72:Nat) (x78:List AV) (x134:Nat) (x167:Nat):adv Mo1 ((Mq [12]).vars) 3000 (cmovI6 c b z x15 x72 x78 (x134+1) (x167+1))=(let z1:=(wr .i64 (((c.2.1.2.getD (Int.toNat 0) tSand.dflt).2.1.2.getD x15.toNat tP.dflt).2.1+wr .i64 b.2.1));let z2:=(wr .i64 (((c.2.1.2.getD (Int.toNat 0) tSand.dflt).2.1.2.getD x15.toNat tP.dflt).1+wr .i64 b.1));(bif inB 0 c.2.1.2.length then (bif !ile (↑(c.2.1.2.getD (Int.toNat 0) tSand.dflt).2.1.2.length) x15 then (bif inB 0 c.2.1.2.length then (bif inB x15 (c.2.1.2.getD (Int.toNat 0) tSand.dflt).2.1.2.length then (bif (0+x72 * 2).beq x78.length then (bif x72.ble 1048576 then (bif ieq (wr .i64 b.1) (wr .i64 b.1) then (bif ieq (wr .i64 b.2.1) (wr .i64 b.2.1) then (bif bbeq c.2.1.1 c.2.1.1 then (bif vsB tSand c.2.1.2 tSand c.2.1.2 then (bif avbeq (AV.sl 7 0 x72 x72 2) (AV.sl 7 0 x72 x72 2) then (bif avbeq (AV.sl 7 0 x72 x72 2) (AV.sl 7 0 x72 x72 2) then (bif plO (AO.cells false (x78++[AV.int IntKind.i64 z2,AV.int IntKind.i64 z1])) then some (.stop (cmovI6 c b z (wr .i64 (x15+1)) (x72+1) (x78++[AV.int IntKind.i64 z2,AV.int IntKind.i64 z1]) (x134) (x167+1))) else none) else none) else none) else none) else none) else none) else none) else none) else none) else none) else none) else (bif plainL x78 then (bif plO (AO.cells true x78) then some (.stop (cmovI5 c b z (1) (1) ([AV.str (c.2.1.2.getD (Int.toNat 0) tSand.dflt).1,AV.csl x78 x72,AV.int IntKind.i64 (c.2.1.2.getD (Int.toNat 0) tSand.dflt).2.2.1.1.1,AV.int IntKind.i64 (c.2.1.2.getD (Int.toNat 0) tSand.dflt).2.2.1.1.2.1,AV.int IntKind.i64 (c.2.1.2.getD (Int.toNat 0) tSand.dflt).2.2.1.2.1.1,AV.int IntKind.i64 (c.2.1.2.getD (Int.toNat 0) tSand.dflt).2.2.1.2.1.2.1]) (x167))) else none) else none)) else none)):=by kernel_rfl
theorem cmov_step7 (c:tChart.den) (b:tB2.den) (z:tBoth.den) (x13:Int) (x71:Nat) (x73:List AV) (x134:Nat) (x167:Nat):adv Mo1 ((Mq [12]).vars) 3000 (cmovI7 c b z x13 x71 x73 (x134+1) (x167+1))=(bif inB 0 c.2.1.2.length then (bif !ile (↑(c.2.1.2.getD (Int.toNat 0) tSand.dflt).2.1.2.length) 0 then (bif inB 0 c.2.1.2.length then (bif inB 0 (c.2.1.2.getD (Int.toNat 0) tSand.dflt).2.1.2.length then (bif ieq (wr .i64 b.1) (wr .i64 b.1) then (bif ieq (wr .i64 b.2.1) (wr .i64 b.2.1) then (bif bbeq c.2.1.1 c.2.1.1 then (bif vsB tSand c.2.1.2 tSand c.2.1.2 then (bif plO (AO.cells false x73) then some (.stop (cmovI10 c b z (x13) (1) (x71) (x73) (1) ([AV.int IntKind.i64 (wr .i64 (((c.2.1.2.getD (Int.toNat 0) tSand.dflt).2.1.2.getD (Int.toNat 0) tP.dflt).1+wr .i64 b.1)),AV.int IntKind.i64 (wr .i64 (((c.2.1.2.getD (Int.toNat 0) tSand.dflt).2.1.2.getD (Int.toNat 0) tP.dflt).2.1+wr .i64 b.2.1))]) (x134) (x167+1))) else none) else none) else none) else none) else none) else none) else none) else (bif plO (AO.cells false x73) then some (.stop (cmovI9 c b z (x13) (1) (x71) (1) (x73) ([AV.str (c.2.1.2.getD (Int.toNat 0) tSand.dflt).1,AV.nils,AV.int IntKind.i64 (c.2.1.2.getD (Int.toNat 0) tSand.dflt).2.2.1.1.1,AV.int IntKind.i64 (c.2.1.2.getD (Int.toNat 0) tSand.dflt).2.2.1.1.2.1,AV.int IntKind.i64 (c.2.1.2.getD (Int.toNat 0) tSand.dflt).2.2.1.2.1.1,AV.int IntKind.i64 (c.2.1.2.getD (Int.toNat 0) tSand.dflt).2.2.1.2.1.2.1]) (x167))) else none)) else none):=by kernel_rfl
theorem cmov_step8 (c:tChart.den) (b:tB2.den) (z:tBoth.den) (x14:Int) (x41:List Nat) (x42:Bool) (x43:List (Ty.den tP)) (x44:Int) (x45:Int) (x46:Int) (x47:Int) (x71:Nat) (x73:List AV) (x134:Nat) (x167:Nat):adv Mo1 ((Mq [12]).vars) 3000 (cmovI8 c b z x14 x41 x42 x43 x44 x45 x46 x47 x71 x73 (x134+1) (x167+1))=(bif inB x14 c.2.1.2.length then (bif !ile (↑(c.2.1.2.getD x14.toNat tSand.dflt).2.1.2.length) 0 then (bif inB x14 c.2.1.2.length then (bif inB 0 (c.2.1.2.getD x14.toNat tSand.dflt).2.1.2.length then (bif ieq (wr .i64 b.1) (wr .i64 b.1) then (bif ieq (wr .i64 b.2.1) (wr .i64 b.2.1) then (bif bbeq c.2.1.1 c.2.1.1 then (bif vsB tSand c.2.1.2 tSand c.2.1.2 then (bif plO (AO.cells false x73) then some (.stop (cmovI11 c b z (x14) (1) (x41) (x42) (x43) (x44) (x45) (x46) (x47) (x71) (x73) (1) ([AV.int IntKind.i64 (wr .i64 (((c.2.1.2.getD x14.toNat tSand.dflt).2.1.2.getD (Int.toNat 0) tP.dflt).1+wr .i64 b.1)),AV.int IntKind.i64 (wr .i64 (((c.2.1.2.getD x14.toNat tSand.dflt).2.1.2.getD (Int.toNat 0) tP.dflt).2.1+wr .i64 b.2.1))]) (x134) (x167+1))) else none) else none) else none) else none) else none) else none) else none) else (bif (0+x71 * 6).beq x73.length then (bif x71.ble 1048576 then (bif plO (AO.cells false (x73++[AV.str x41,AV.nils,AV.int IntKind.i64 x44,AV.int IntKind.i64 x45,AV.int IntKind.i64 x46,AV.int IntKind.i64 x47])) then some (.stop (cmovI5 c b z (wr .i64 (x14+1)) (x71+1) (x73++[AV.str x41,AV.nils,AV.int IntKind.i64 x44,AV.int IntKind.i64 x45,AV.int IntKind.i64 x46,AV.int IntKind.i64 x47]) (x167))) else none) else none) else none)) else none):=by kernel_rfl
theorem cmov_step9 (c:tChart.den) (b:tB2.den) (z:tBoth.den) (x13:Int) (x14:Int) (x48:Nat) (x50:Nat) (x52:List AV) (x53:List AV) (x86:Nat):adv Mo1 ((Mq [12]).vars) 3000 (cmovI9 c b z x13 x14 x48 x50 x52 x53 (x86+1))=(let z1:=(wr .i64 (nY c z.2.1.2+wr .i64 b.2.1));let z2:=(wr .i64 (nX c z.2.1.2+wr .i64 b.1));let z3:=(wr .i64 (wr .i64 z.1.2.2.1.2.1+wr .i64 b.2.1));let z4:=(wr .i64 (wr .i64 z.1.2.2.1.1+wr .i64 b.1));let z5:=(wr .i64 z.1.2.2.1.2.1);let z6:=(wr .i64 z.1.2.2.1.1);let z7:=(wr .i64 z.1.2.1);(bif !ile (↑c.2.1.2.length) x14 then (bif inB x14 c.2.1.2.length then some (.stop (cmovI12 c b z (x13) (x14) ((c.2.1.2.getD x14.toNat tSand.dflt).1) ((c.2.1.2.getD x14.toNat tSand.dflt).2.1.1) ((c.2.1.2.getD x14.toNat tSand.dflt).2.1.2) ((c.2.1.2.getD x14.toNat tSand.dflt).2.2.1.1.1) ((c.2.1.2.getD x14.toNat tSand.dflt).2.2.1.1.2.1) ((c.2.1.2.getD x14.toNat tSand.dflt).2.2.1.2.1.1) ((c.2.1.2.getD x14.toNat tSand.dflt).2.2.1.2.1.2.1) (x48) (x50) (x52) (x53) (1048575) (x86+1))) else none) else (bif u16 z.2.1.2&&ieq (chkS c).2.2 0 then (bif plainL x52 then (bif plainL x53 then (bif isF (rd tMark) x48 x52&&(isF (rd tSand) x50 x53&&true)&&true then (bif !ieq (chkS ((false,unf (rd tMark) x48 x52),(false,unf (rd tSand) x50 x53),())).2.2 0 then some (.done (.bool (true))) else (bif ile (wr .i64 (0-10000)) z2 then (bif ile z2 10000 then (bif ile (wr .i64 (0-10000)) z1 then (bif !ile z1 10000 then some (.done (.bool (true))) else (bif plainL x52 then (bif plainL x53 then (bif isF (rd tMark) x48 x52&&(isF (rd tSand) x50 x53&&true)&&true then (bif plainL x52 then (bif plainL x53 then (bif isF (rd tMark) x48 x52&&(isF (rd tSand) x50 x53&&true)&&true then (bif (onS c (nX c z.2.1.2) (nY c z.2.1.2)).1.1.length.ble 1000 then (bif !intzS (onS c (nX c z.2.1.2) (nY c z.2.1.2)).1.1 (onS ((false,unf (rd tMark) x48 x52),(false,unf (rd tSand) x50 x53),()) z2 z1).1.1 then some (.done (.bool (false))) else (bif (onS c (nX c z.2.1.2) (nY c z.2.1.2)).1.2.length.ble 1000 then (bif !intzS (onS c (nX c z.2.1.2) (nY c z.2.1.2)).1.2 (onS ((false,unf (rd tMark) x48 x52),(false,unf (rd tSand) x50 x53),()) z2 z1).1.2 then some (.done (.bool (false))) else (bif !ieq (onS c (nX c z.2.1.2) (nY c z.2.1.2)).2 0 then some (.done (.bool (false))) else (bif !ieq (onS ((false,unf (rd tMark) x48 x52),(false,unf (rd tSand) x50 x53),()) z2 z1).2 (onS c (nX c z.2.1.2) (nY c z.2.1.2)).2 then some (.done (.bool (false))) else (bif !ieq (radS c (nX c z.2.1.2) (nY c z.2.1.2)).1 (radS ((false,unf (rd tMark) x48 x52),(false,unf (rd tSand) x50 x53),()) z2 z1).1 then some (.done (.bool (false))) else (bif !ieq (radS c (nX c z.2.1.2) (nY c z.2.1.2)).2 0 then some (.done (.bool (false))) else (bif !ieq (radS ((false,unf (rd tMark) x48 x52),(false,unf (rd tSand) x50 x53),()) z2 z1).2 (radS c (nX c z.2.1.2) (nY c z.2.1.2)).2 then some (.done (.bool (false))) else (bif ieq (↑c.1.2.length) 0 then some (.done (.bool (true))) else (bif ile (wr .i64 (0-30000)) z6 then (bif ile z6 30000 then (bif ile (wr .i64 (0-30000)) z5 then (bif !ile z5 30000 then some (.done (.bool (true))) else (bif ile (wr .i64 (0-30000)) z4 then (bif ile z4 30000 then (bif ile (wr .i64 (0-30000)) z3 then (bif !ile z3 30000 then some (.done (.bool (true))) else (bif ieq (↑c.1.2.length) 0 then none else (bif plainL x52 then (bif plainL x53 then (bif isF (rd tMark) x48 x52&&(isF (rd tSand) x50 x53&&true)&&true then (bif ieq (seeS c ((wr .i64 z.1.1).tmod 40001) (z7.tmod ↑c.1.2.length) z6 z5).1 (seeS ((false,unf (rd tMark) x48 x52),(false,unf (rd tSand) x50 x53),()) ((wr .i64 z.1.1).tmod 40001) (z7.tmod ↑c.1.2.length) z4 z3).1 then (bif ieq (seeS c ((wr .i64 z.1.1).tmod 40001) (z7.tmod ↑c.1.2.length) z6 z5).2 (seeS ((false,unf (rd tMark) x48 x52),(false,unf (rd tSand) x50 x53),()) ((wr .i64 z.1.1).tmod 40001) (z7.tmod ↑c.1.2.length) z4 z3).2 then some (.done (.bool (true))) else some (.done (.bool (false)))) else some (.done (.bool (false)))) else none) else none) else none))) else some (.done (.bool (true)))) else some (.done (.bool (true)))) else some (.done (.bool (true))))) else some (.done (.bool (true)))) else some (.done (.bool (true)))) else some (.done (.bool (true))))))))))) else none)) else none) else none) else none) else none) else none) else none) else none)) else some (.done (.bool (true)))) else some (.done (.bool (true)))) else some (.done (.bool (true))))) else none) else none) else none) else none))):=by kernel_rfl
theorem cmov_step10 (c:tChart.den) (b:tB2.den) (z:tBoth.den) (x13:Int) (x15:Int) (x71:Nat) (x73:List AV) (x75:Nat) (x81:List AV) (x137:Nat) (x170:Nat):adv Mo1 ((Mq [12]).vars) 3000 (cmovI10 c b z x13 x15 x71 x73 x75 x81 (x137+1) (x170+1))=(let z1:=(wr .i64 (((c.2.1.2.getD (Int.toNat 0) tSand.dflt).2.1.2.getD x15.toNat tP.dflt).2.1+wr .i64 b.2.1));let z2:=(wr .i64 (((c.2.1.2.getD (Int.toNat 0) tSand.dflt).2.1.2.getD x15.toNat tP.dflt).1+wr .i64 b.1));(bif inB 0 c.2.1.2.length then (bif !ile (↑(c.2.1.2.getD (Int.toNat 0) tSand.dflt).2.1.2.length) x15 then (bif inB 0 c.2.1.2.length then (bif inB x15 (c.2.1.2.getD (Int.toNat 0) tSand.dflt).2.1.2.length then (bif (0+x75 * 2).beq x81.length then (bif x75.ble 1048576 then (bif ieq (wr .i64 b.1) (wr .i64 b.1) then (bif ieq (wr .i64 b.2.1) (wr .i64 b.2.1) then (bif bbeq c.2.1.1 c.2.1.1 then (bif vsB tSand c.2.1.2 tSand c.2.1.2 then (bif avbeq (AV.sl 8 0 x75 x75 2) (AV.sl 8 0 x75 x75 2) then (bif avbeq (AV.sl 8 0 x75 x75 2) (AV.sl 8 0 x75 x75 2) then (bif plO (AO.cells false x73) then (bif plO (AO.cells false (x81++[AV.int IntKind.i64 z2,AV.int IntKind.i64 z1])) then some (.stop (cmovI10 c b z (x13) (wr .i64 (x15+1)) (x71) (x73) (x75+1) (x81++[AV.int IntKind.i64 z2,AV.int IntKind.i64 z1]) (x137) (x170+1))) else none) else none) else none) else none) else none) else none) else none) else none) else none) else none) else none) else none) else (bif plainL x81 then (bif plO (AO.cells true x81) then (bif plO (AO.cells false x73) then some (.stop (cmovI9 c b z (x13) (1) (x71) (1) (x73) ([AV.str (c.2.1.2.getD (Int.toNat 0) tSand.dflt).1,AV.csl x81 x75,AV.int IntKind.i64 (c.2.1.2.getD (Int.toNat 0) tSand.dflt).2.2.1.1.1,AV.int IntKind.i64 (c.2.1.2.getD (Int.toNat 0) tSand.dflt).2.2.1.1.2.1,AV.int IntKind.i64 (c.2.1.2.getD (Int.toNat 0) tSand.dflt).2.2.1.2.1.1,AV.int IntKind.i64 (c.2.1.2.getD (Int.toNat 0) tSand.dflt).2.2.1.2.1.2.1]) (x170))) else none) else none) else none)) else none)):=by kernel_rfl
theorem cmov_step11 (c:tChart.den) (b:tB2.den) (z:tBoth.den) (x14:Int) (x15:Int) (x41:List Nat) (x42:Bool) (x43:List (Ty.den tP)) (x44:Int) (x45:Int) (x46:Int) (x47:Int) (x71:Nat) (x73:List AV) (x75:Nat) (x81:List AV) (x137:Nat) (x170:Nat):adv Mo1 ((Mq [12]).vars) 3000 (cmovI11 c b z x14 x15 x41 x42 x43 x44 x45 x46 x47 x71 x73 x75 x81 (x137+1) (x170+1))=(let z1:=(wr .i64 (((c.2.1.2.getD x14.toNat tSand.dflt).2.1.2.getD x15.toNat tP.dflt).2.1+wr .i64 b.2.1));let z2:=(wr .i64 (((c.2.1.2.getD x14.toNat tSand.dflt).2.1.2.getD x15.toNat tP.dflt).1+wr .i64 b.1));(bif inB x14 c.2.1.2.length then (bif !ile (↑(c.2.1.2.getD x14.toNat tSand.dflt).2.1.2.length) x15 then (bif inB x14 c.2.1.2.length then (bif inB x15 (c.2.1.2.getD x14.toNat tSand.dflt).2.1.2.length then (bif (0+x75 * 2).beq x81.length then (bif x75.ble 1048576 then (bif ieq (wr .i64 b.1) (wr .i64 b.1) then (bif ieq (wr .i64 b.2.1) (wr .i64 b.2.1) then (bif bbeq c.2.1.1 c.2.1.1 then (bif vsB tSand c.2.1.2 tSand c.2.1.2 then (bif avbeq (AV.sl 8 0 x75 x75 2) (AV.sl 8 0 x75 x75 2) then (bif avbeq (AV.sl 8 0 x75 x75 2) (AV.sl 8 0 x75 x75 2) then (bif plO (AO.cells false x73) then (bif plO (AO.cells false (x81++[AV.int IntKind.i64 z2,AV.int IntKind.i64 z1])) then some (.stop (cmovI11 c b z (x14) (wr .i64 (x15+1)) (x41) (x42) (x43) (x44) (x45) (x46) (x47) (x71) (x73) (x75+1) (x81++[AV.int IntKind.i64 z2,AV.int IntKind.i64 z1]) (x137) (x170+1))) else none) else none) else none) else none) else none) else none) else none) else none) else none) else none) else none) else none) else (bif plainL x81 then (bif (0+x71 * 6).beq x73.length then (bif x71.ble 1048576 then (bif plO (AO.cells true x81) then (bif plO (AO.cells false (x73++[AV.str x41,AV.csl x81 x75,AV.int IntKind.i64 x44,AV.int IntKind.i64 x45,AV.int IntKind.i64 x46,AV.int IntKind.i64 x47])) then some (.stop (cmovI5 c b z (wr .i64 (x14+1)) (x71+1) (x73++[AV.str x41,AV.csl x81 x75,AV.int IntKind.i64 x44,AV.int IntKind.i64 x45,AV.int IntKind.i64 x46,AV.int IntKind.i64 x47]) (x170))) else none) else none) else none) else none) else none)) else none)):=by kernel_rfl
theorem cmov_step12 (c:tChart.den) (b:tB2.den) (z:tBoth.den) (x13:Int) (x14:Int) (x41:List Nat) (x42:Bool) (x43:List (Ty.den tP)) (x44:Int) (x45:Int) (x46:Int) (x47:Int) (x71:Nat) (x73:Nat) (x75:List AV) (x76:List AV) (x137:Nat) (x170:Nat):adv Mo1 ((Mq [12]).vars) 3000 (cmovI12 c b z x13 x14 x41 x42 x43 x44 x45 x46 x47 x71 x73 x75 x76 (x137+1) (x170+1))=(bif inB x14 c.2.1.2.length then (bif !ile (↑(c.2.1.2.getD x14.toNat tSand.dflt).2.1.2.length) 0 then (bif inB x14 c.2.1.2.length then (bif inB 0 (c.2.1.2.getD x14.toNat tSand.dflt).2.1.2.length then (bif ieq (wr .i64 b.1) (wr .i64 b.1) then (bif ieq (wr .i64 b.2.1) (wr .i64 b.2.1) then (bif bbeq c.2.1.1 c.2.1.1 then (bif vsB tSand c.2.1.2 tSand c.2.1.2 then (bif plO (AO.cells false x76) then (bif plO (AO.cells false x75) then some (.stop (cmovI13 c b z (x13) (x14) (1) (x41) (x42) (x43) (x44) (x45) (x46) (x47) (x71) (x73) (x75) (x76) (1) ([AV.int IntKind.i64 (wr .i64 (((c.2.1.2.getD x14.toNat tSand.dflt).2.1.2.getD (Int.toNat 0) tP.dflt).1+wr .i64 b.1)),AV.int IntKind.i64 (wr .i64 (((c.2.1.2.getD x14.toNat tSand.dflt).2.1.2.getD (Int.toNat 0) tP.dflt).2.1+wr .i64 b.2.1))]) (x137) (x170+1))) else none) else none) else none) else none) else none) else none) else none) else none) else (bif (0+x73 * 6).beq x76.length then (bif x73.ble 1048576 then (bif plO (AO.cells false (x76++[AV.str x41,AV.nils,AV.int IntKind.i64 x44,AV.int IntKind.i64 x45,AV.int IntKind.i64 x46,AV.int IntKind.i64 x47])) then (bif plO (AO.cells false x75) then some (.stop (cmovI9 c b z (x13) (wr .i64 (x14+1)) (x71) (x73+1) (x75) (x76++[AV.str x41,AV.nils,AV.int IntKind.i64 x44,AV.int IntKind.i64 x45,AV.int IntKind.i64 x46,AV.int IntKind.i64 x47]) (x170))) else none) else none) else none) else none)) else none):=by kernel_rfl
theorem cmov_step13 (c:tChart.den) (b:tB2.den) (z:tBoth.den) (x13:Int) (x14:Int) (x15:Int) (x41:List Nat) (x42:Bool) (x43:List (Ty.den tP)) (x44:Int) (x45:Int) (x46:Int) (x47:Int) (x71:Nat) (x73:Nat) (x75:List AV) (x76:List AV) (x78:Nat) (x84:List AV) (x140:Nat) (x173:Nat):adv Mo1 ((Mq [12]).vars) 3000 (cmovI13 c b z x13 x14 x15 x41 x42 x43 x44 x45 x46 x47 x71 x73 x75 x76 x78 x84 (x140+1) (x173+1))=(let z1:=(wr .i64 (((c.2.1.2.getD x14.toNat tSand.dflt).2.1.2.getD x15.toNat tP.dflt).2.1+wr .i64 b.2.1));let z2:=(wr .i64 (((c.2.1.2.getD x14.toNat tSand.dflt).2.1.2.getD x15.toNat tP.dflt).1+wr .i64 b.1));(bif inB x14 c.2.1.2.length then (bif !ile (↑(c.2.1.2.getD x14.toNat tSand.dflt).2.1.2.length) x15 then (bif inB x14 c.2.1.2.length then (bif inB x15 (c.2.1.2.getD x14.toNat tSand.dflt).2.1.2.length then (bif (0+x78 * 2).beq x84.length then (bif x78.ble 1048576 then (bif ieq (wr .i64 b.1) (wr .i64 b.1) then (bif ieq (wr .i64 b.2.1) (wr .i64 b.2.1) then (bif bbeq c.2.1.1 c.2.1.1 then (bif vsB tSand c.2.1.2 tSand c.2.1.2 then (bif avbeq (AV.sl 9 0 x78 x78 2) (AV.sl 9 0 x78 x78 2) then (bif avbeq (AV.sl 9 0 x78 x78 2) (AV.sl 9 0 x78 x78 2) then (bif plO (AO.cells false x76) then (bif plO (AO.cells false x75) then (bif plO (AO.cells false (x84++[AV.int IntKind.i64 z2,AV.int IntKind.i64 z1])) then some (.stop (cmovI13 c b z (x13) (x14) (wr .i64 (x15+1)) (x41) (x42) (x43) (x44) (x45) (x46) (x47) (x71) (x73) (x75) (x76) (x78+1) (x84++[AV.int IntKind.i64 z2,AV.int IntKind.i64 z1]) (x140) (x173+1))) else none) else none) else none) else none) else none) else none) else none) else none) else none) else none) else none) else none) else none) else (bif plainL x84 then (bif (0+x73 * 6).beq x76.length then (bif x73.ble 1048576 then (bif plO (AO.cells true x84) then (bif plO (AO.cells false (x76++[AV.str x41,AV.csl x84 x78,AV.int IntKind.i64 x44,AV.int IntKind.i64 x45,AV.int IntKind.i64 x46,AV.int IntKind.i64 x47])) then (bif plO (AO.cells false x75) then some (.stop (cmovI9 c b z (x13) (wr .i64 (x14+1)) (x71) (x73+1) (x75) (x76++[AV.str x41,AV.csl x84 x78,AV.int IntKind.i64 x44,AV.int IntKind.i64 x45,AV.int IntKind.i64 x46,AV.int IntKind.i64 x47]) (x173))) else none) else none) else none) else none) else none) else none)) else none)):=by kernel_rfl
section
variable (c:tChart.den) (b:tB2.den) (z:tBoth.den)
theorem lpA (hj:0<c.2.1.2.length) (h3:(sd c 0).2.1.2.length≤1000) (h4:c.2.1.2.length≤4) (m':Nat) (K:AnsB Mo1 (cmovI5 c b z ((1:Nat):Int) 1 (rowsS b (c.2.1.2.take 1)) m') true):∀ (r k m:Nat),k+r=(sd c 0).2.1.2.length→r<m→AnsB Mo1 (cmovI6 c b z (k:Int) k (flat tP (((sd c 0).2.1.2.take k).map (svP b))) m (m'+1)) true
 | 0, k, m + 1, hk, hm => by
  have h:=cmov_step6 c b z (k:Int) k (flat tP (((sd c 0).2.1.2.take k).map (svP b))) m m'
  have hkk:k=(sd c 0).2.1.2.length:=by omega
  have ht:(sd c 0).2.1.2.take k=(sd c 0).2.1.2:=by rw[hkk,List.take_length]
  have hsd:c.2.1.2.getD (Int.toNat 0) tSand.dflt=sd c 0:=rfl
  have e3:rowS b (sd c 0)=rowsS b (c.2.1.2.take 1):=by
   rw[show (1:Nat)=0+1 from rfl,List.take_succ_eq_append_getElem hj]
   have:c.2.1.2[0]=sd c 0:=(gdN hj).symm
   rw[this];rfl
  rw[ht] at h⊢
  have q:=flatQ_beq (L:=(sd c 0).2.1.2.map (svP b)) (n:=k) (by rw[List.length_map];exact hkk.symm)
  simp only[inB_0 hj,nat_to,hsd,ile_ge (show (sd c 0).2.1.2.length≤k by omega),flatP_plain,plO,Bool.not_true,cond_true,cond_false] at h
  have h':adv Mo1 ((Mq [12]).vars) 3000 (cmovI6 c b z (k:Int) k (flat tP ((sd c 0).2.1.2.map (svP b))) (m+1) (m'+1))=some (.stop (cmovI5 c b z ((1:Nat):Int) 1 (rowsS b (c.2.1.2.take 1)) m')):=by
   rw[← e3,hkk];rw[hkk] at h;exact h
  exact .stop (Sy.vars_ok (Mq_ok _)) Mo1sy h' K
 | r + 1, k, m + 1, hk, hm => by
  have h:=cmov_step6 c b z (k:Int) k (flat tP (((sd c 0).2.1.2.take k).map (svP b))) m m'
  have hlt:k<(sd c 0).2.1.2.length:=by omega
  have hsd:c.2.1.2.getD (Int.toNat 0) tSand.dflt=sd c 0:=rfl
  have e1:=take_len (svP b) (l:=(sd c 0).2.1.2) (i:=k) (by omega)
  have e2:=take_add (svP b) (l:=(sd c 0).2.1.2) (i:=k) tP.dflt hlt
  have e4:=flatQ_add b (((sd c 0).2.1.2.take k).map (svP b)) ((sd c 0).2.1.2.getD k tP.dflt)
  rw[e2] at e4
  simp only[inB_0 hj,nat_to,hsd,ile_lt hlt,inB_at hlt,flatQ_beq e1,Nat.ble_eq_true_of_le (show k≤1048576 by omega),ieq_self,bbeq_self,vsB_self,avbeq_sl,wr_succ (show k<1048577 by omega),rowsS_plain,plO,Bool.not_false,cond_true] at h
  have h':adv Mo1 ((Mq [12]).vars) 3000 (cmovI6 c b z (k:Int) k (flat tP (((sd c 0).2.1.2.take k).map (svP b))) (m+1) (m'+1))=bif plainL (flat tP (((sd c 0).2.1.2.take (k+1)).map (svP b))) then some (.stop (cmovI6 c b z ((k+1:Nat):Int) (k+1) (flat tP (((sd c 0).2.1.2.take (k+1)).map (svP b))) m (m'+1))) else none:=by
   rw[← e4];exact h
  rw[flatP_plain,cond_true] at h'
  exact .stop (Sy.vars_ok (Mq_ok _)) Mo1sy h' (lpA hj h3 h4 m' K r (k+1) m (by omega) (by omega))
theorem stA (hj:0<c.2.1.2.length) (h3:(sd c 0).2.1.2.length≤1000) (h4:c.2.1.2.length≤4) (h0:0<(sd c 0).2.1.2.length) (M m':Nat) (hM:(sd c 0).2.1.2.length<M) (K:AnsB Mo1 (cmovI5 c b z ((1:Nat):Int) 1 (rowsS b (c.2.1.2.take 1)) m') true):AnsB Mo1 (cmovI3 c b z M (m'+1)) true:=by
 obtain⟨m,rfl⟩:∃ m,M=m+1:=⟨M-1,by omega⟩
 have h:=cmov_step3 c b z m m'
 have hsd:c.2.1.2.getD (Int.toNat 0) tSand.dflt=sd c 0:=rfl
 have e2:=take_add (svP b) (l:=(sd c 0).2.1.2) (i:=0) tP.dflt h0
 have e4:=flatQ_add b [] ((sd c 0).2.1.2.getD 0 tP.dflt)
 rw[List.nil_append,show flat tP []=[] from rfl,List.nil_append] at e4
 rw[show ((sd c 0).2.1.2.take 0).map (svP b)=[] from rfl,List.nil_append] at e2
 rw[e2] at e4
 simp only[inB_0 hj,nat_to,hsd,ile_lt0 h0,inB_0 h0,ieq_self,bbeq_self,vsB_self,rowsS_plain,plO,Bool.not_false,cond_true] at h
 have h':adv Mo1 ((Mq [12]).vars) 3000 (cmovI3 c b z (m+1) (m'+1))=some (.stop (cmovI6 c b z ((1:Nat):Int) 1 (flat tP (((sd c 0).2.1.2.take 1).map (svP b))) m (m'+1))):=by
  rw[← e4];exact h
 exact .stop (Sy.vars_ok (Mq_ok _)) Mo1sy h' (lpA c b z hj h3 h4 m' K ((sd c 0).2.1.2.length-1) 1 m (by omega) (by omega))
theorem lpB (x13:Int) (n1:Nat) (l1:List AV) (hl1:plainL l1=true) (hj:0<c.2.1.2.length) (h3:(sd c 0).2.1.2.length≤1000) (h4:c.2.1.2.length≤4) (m':Nat) (K:AnsB Mo1 (cmovI9 c b z x13 ((1:Nat):Int) n1 1 l1 (rowsS b (c.2.1.2.take 1)) m') true):∀ (r k m:Nat),k+r=(sd c 0).2.1.2.length→r<m→AnsB Mo1 (cmovI10 c b z x13 (k:Int) n1 l1 k (flat tP (((sd c 0).2.1.2.take k).map (svP b))) m (m'+1)) true
 | 0, k, m + 1, hk, hm => by
  have h:=cmov_step10 c b z x13 (k:Int) n1 l1 k (flat tP (((sd c 0).2.1.2.take k).map (svP b))) m m'
  have hkk:k=(sd c 0).2.1.2.length:=by omega
  have ht:(sd c 0).2.1.2.take k=(sd c 0).2.1.2:=by rw[hkk,List.take_length]
  have hsd:c.2.1.2.getD (Int.toNat 0) tSand.dflt=sd c 0:=rfl
  have e3:rowS b (sd c 0)=rowsS b (c.2.1.2.take 1):=by
   rw[show (1:Nat)=0+1 from rfl,List.take_succ_eq_append_getElem hj]
   have:c.2.1.2[0]=sd c 0:=(gdN hj).symm
   rw[this];rfl
  rw[ht] at h⊢
  have q:=flatQ_beq (L:=(sd c 0).2.1.2.map (svP b)) (n:=k) (by rw[List.length_map];exact hkk.symm)
  simp only[inB_0 hj,nat_to,hsd,ile_ge (show (sd c 0).2.1.2.length≤k by omega),flatP_plain,hl1,plO,Bool.not_true,cond_true,cond_false] at h
  have h':adv Mo1 ((Mq [12]).vars) 3000 (cmovI10 c b z x13 (k:Int) n1 l1 k (flat tP ((sd c 0).2.1.2.map (svP b))) (m+1) (m'+1))=some (.stop (cmovI9 c b z x13 ((1:Nat):Int) n1 1 l1 (rowsS b (c.2.1.2.take 1)) m')):=by
   rw[← e3,hkk];rw[hkk] at h;exact h
  exact .stop (Sy.vars_ok (Mq_ok _)) Mo1sy h' K
 | r + 1, k, m + 1, hk, hm => by
  have h:=cmov_step10 c b z x13 (k:Int) n1 l1 k (flat tP (((sd c 0).2.1.2.take k).map (svP b))) m m'
  have hlt:k<(sd c 0).2.1.2.length:=by omega
  have hsd:c.2.1.2.getD (Int.toNat 0) tSand.dflt=sd c 0:=rfl
  have e1:=take_len (svP b) (l:=(sd c 0).2.1.2) (i:=k) (by omega)
  have e2:=take_add (svP b) (l:=(sd c 0).2.1.2) (i:=k) tP.dflt hlt
  have e4:=flatQ_add b (((sd c 0).2.1.2.take k).map (svP b)) ((sd c 0).2.1.2.getD k tP.dflt)
  rw[e2] at e4
  simp only[inB_0 hj,nat_to,hsd,ile_lt hlt,inB_at hlt,flatQ_beq e1,Nat.ble_eq_true_of_le (show k≤1048576 by omega),ieq_self,bbeq_self,vsB_self,avbeq_sl,wr_succ (show k<1048577 by omega),rowsS_plain,hl1,plO,Bool.not_false,cond_true] at h
  have h':adv Mo1 ((Mq [12]).vars) 3000 (cmovI10 c b z x13 (k:Int) n1 l1 k (flat tP (((sd c 0).2.1.2.take k).map (svP b))) (m+1) (m'+1))=bif plainL (flat tP (((sd c 0).2.1.2.take (k+1)).map (svP b))) then some (.stop (cmovI10 c b z x13 ((k+1:Nat):Int) n1 l1 (k+1) (flat tP (((sd c 0).2.1.2.take (k+1)).map (svP b))) m (m'+1))) else none:=by
   rw[← e4];exact h
  rw[flatP_plain,cond_true] at h'
  exact .stop (Sy.vars_ok (Mq_ok _)) Mo1sy h' (lpB x13 n1 l1 hl1 hj h3 h4 m' K r (k+1) m (by omega) (by omega))
theorem stB (x13:Int) (n1:Nat) (l1:List AV) (hl1:plainL l1=true) (hj:0<c.2.1.2.length) (h3:(sd c 0).2.1.2.length≤1000) (h4:c.2.1.2.length≤4) (h0:0<(sd c 0).2.1.2.length) (M m':Nat) (hM:(sd c 0).2.1.2.length<M) (K:AnsB Mo1 (cmovI9 c b z x13 ((1:Nat):Int) n1 1 l1 (rowsS b (c.2.1.2.take 1)) m') true):AnsB Mo1 (cmovI7 c b z x13 n1 l1 M (m'+1)) true:=by
 obtain⟨m,rfl⟩:∃ m,M=m+1:=⟨M-1,by omega⟩
 have h:=cmov_step7 c b z x13 n1 l1 m m'
 have hsd:c.2.1.2.getD (Int.toNat 0) tSand.dflt=sd c 0:=rfl
 have e2:=take_add (svP b) (l:=(sd c 0).2.1.2) (i:=0) tP.dflt h0
 have e4:=flatQ_add b [] ((sd c 0).2.1.2.getD 0 tP.dflt)
 rw[List.nil_append,show flat tP []=[] from rfl,List.nil_append] at e4
 rw[show ((sd c 0).2.1.2.take 0).map (svP b)=[] from rfl,List.nil_append] at e2
 rw[e2] at e4
 simp only[inB_0 hj,nat_to,hsd,ile_lt0 h0,inB_0 h0,ieq_self,bbeq_self,vsB_self,rowsS_plain,hl1,plO,Bool.not_false,cond_true] at h
 have h':adv Mo1 ((Mq [12]).vars) 3000 (cmovI7 c b z x13 n1 l1 (m+1) (m'+1))=some (.stop (cmovI10 c b z x13 ((1:Nat):Int) n1 l1 1 (flat tP (((sd c 0).2.1.2.take 1).map (svP b))) m (m'+1))):=by
  rw[← e4];exact h
 exact .stop (Sy.vars_ok (Mq_ok _)) Mo1sy h' (lpB c b z x13 n1 l1 hl1 hj h3 h4 m' K ((sd c 0).2.1.2.length-1) 1 m (by omega) (by omega))
theorem lpC (j:Nat) (hj:j<c.2.1.2.length) (h3:(sd c j).2.1.2.length≤1000) (h4:c.2.1.2.length≤4) (m':Nat) (K:AnsB Mo1 (cmovI5 c b z ((j+1:Nat):Int) (j+1) (rowsS b (c.2.1.2.take (j+1))) m') true):∀ (r k m:Nat),k+r=(sd c j).2.1.2.length→r<m→AnsB Mo1 (cmovI11 c b z j (k:Int) (sd c j).1 (sd c j).2.1.1 (sd c j).2.1.2 (sd c j).2.2.1.1.1 (sd c j).2.2.1.1.2.1 (sd c j).2.2.1.2.1.1 (sd c j).2.2.1.2.1.2.1 j (rowsS b (c.2.1.2.take j)) k (flat tP (((sd c j).2.1.2.take k).map (svP b))) m (m'+1)) true
 | 0, k, m + 1, hk, hm => by
  have h:=cmov_step11 c b z j (k:Int) (sd c j).1 (sd c j).2.1.1 (sd c j).2.1.2 (sd c j).2.2.1.1.1 (sd c j).2.2.1.1.2.1 (sd c j).2.2.1.2.1.1 (sd c j).2.2.1.2.1.2.1 j (rowsS b (c.2.1.2.take j)) k (flat tP (((sd c j).2.1.2.take k).map (svP b))) m m'
  have hkk:k=(sd c j).2.1.2.length:=by omega
  have ht:(sd c j).2.1.2.take k=(sd c j).2.1.2:=by rw[hkk,List.take_length]
  have hsd:c.2.1.2.getD j tSand.dflt=sd c j:=rfl
  have hrl:(c.2.1.2.take j).length=j:=by rw[List.length_take];omega
  have e3:rowsS b (c.2.1.2.take j)++rowS b (sd c j)=rowsS b (c.2.1.2.take (j+1)):=by
   rw[rowsS_add,List.take_succ_eq_append_getElem hj]
   have:c.2.1.2[j]=sd c j:=(gdN hj).symm
   rw[this]
  rw[ht] at h⊢
  have q:=flatQ_beq (L:=(sd c j).2.1.2.map (svP b)) (n:=k) (by rw[List.length_map];exact hkk.symm)
  simp only[inB_at hj,nat_to,hsd,ile_ge (show (sd c j).2.1.2.length≤k by omega),flatP_plain,rowsS_beq hrl,Nat.ble_eq_true_of_le (show j≤1048576 by omega),wr_succ (show j<1048577 by omega),plO,Bool.not_true,cond_true,cond_false] at h
  have h':adv Mo1 ((Mq [12]).vars) 3000 (cmovI11 c b z j (k:Int) (sd c j).1 (sd c j).2.1.1 (sd c j).2.1.2 (sd c j).2.2.1.1.1 (sd c j).2.2.1.1.2.1 (sd c j).2.2.1.2.1.1 (sd c j).2.2.1.2.1.2.1 j (rowsS b (c.2.1.2.take j)) k (flat tP ((sd c j).2.1.2.map (svP b))) (m+1) (m'+1))=bif plainL (rowsS b (c.2.1.2.take (j+1))) then some (.stop (cmovI5 c b z ((j+1:Nat):Int) (j+1) (rowsS b (c.2.1.2.take (j+1))) m')) else none:=by
   rw[← e3,hkk];rw[hkk] at h;exact h
  rw[rowsS_plain,cond_true] at h'
  exact .stop (Sy.vars_ok (Mq_ok _)) Mo1sy h' K
 | r + 1, k, m + 1, hk, hm => by
  have h:=cmov_step11 c b z j (k:Int) (sd c j).1 (sd c j).2.1.1 (sd c j).2.1.2 (sd c j).2.2.1.1.1 (sd c j).2.2.1.1.2.1 (sd c j).2.2.1.2.1.1 (sd c j).2.2.1.2.1.2.1 j (rowsS b (c.2.1.2.take j)) k (flat tP (((sd c j).2.1.2.take k).map (svP b))) m m'
  have hlt:k<(sd c j).2.1.2.length:=by omega
  have hsd:c.2.1.2.getD j tSand.dflt=sd c j:=rfl
  have e1:=take_len (svP b) (l:=(sd c j).2.1.2) (i:=k) (by omega)
  have e2:=take_add (svP b) (l:=(sd c j).2.1.2) (i:=k) tP.dflt hlt
  have e4:=flatQ_add b (((sd c j).2.1.2.take k).map (svP b)) ((sd c j).2.1.2.getD k tP.dflt)
  rw[e2] at e4
  simp only[inB_at hj,nat_to,hsd,ile_lt hlt,inB_at hlt,flatQ_beq e1,Nat.ble_eq_true_of_le (show k≤1048576 by omega),ieq_self,bbeq_self,vsB_self,avbeq_sl,wr_succ (show k<1048577 by omega),rowsS_plain,plO,Bool.not_false,cond_true] at h
  have h':adv Mo1 ((Mq [12]).vars) 3000 (cmovI11 c b z j (k:Int) (sd c j).1 (sd c j).2.1.1 (sd c j).2.1.2 (sd c j).2.2.1.1.1 (sd c j).2.2.1.1.2.1 (sd c j).2.2.1.2.1.1 (sd c j).2.2.1.2.1.2.1 j (rowsS b (c.2.1.2.take j)) k (flat tP (((sd c j).2.1.2.take k).map (svP b))) (m+1) (m'+1))=bif plainL (flat tP (((sd c j).2.1.2.take (k+1)).map (svP b))) then some (.stop (cmovI11 c b z j ((k+1:Nat):Int) (sd c j).1 (sd c j).2.1.1 (sd c j).2.1.2 (sd c j).2.2.1.1.1 (sd c j).2.2.1.1.2.1 (sd c j).2.2.1.2.1.1 (sd c j).2.2.1.2.1.2.1 j (rowsS b (c.2.1.2.take j)) (k+1) (flat tP (((sd c j).2.1.2.take (k+1)).map (svP b))) m (m'+1))) else none:=by
   rw[← e4];exact h
  rw[flatP_plain,cond_true] at h'
  exact .stop (Sy.vars_ok (Mq_ok _)) Mo1sy h' (lpC j hj h3 h4 m' K r (k+1) m (by omega) (by omega))
theorem stC (j:Nat) (hj:j<c.2.1.2.length) (h3:(sd c j).2.1.2.length≤1000) (h4:c.2.1.2.length≤4) (h0:0<(sd c j).2.1.2.length) (M m':Nat) (hM:(sd c j).2.1.2.length<M) (K:AnsB Mo1 (cmovI5 c b z ((j+1:Nat):Int) (j+1) (rowsS b (c.2.1.2.take (j+1))) m') true):AnsB Mo1 (cmovI8 c b z j (sd c j).1 (sd c j).2.1.1 (sd c j).2.1.2 (sd c j).2.2.1.1.1 (sd c j).2.2.1.1.2.1 (sd c j).2.2.1.2.1.1 (sd c j).2.2.1.2.1.2.1 j (rowsS b (c.2.1.2.take j)) M (m'+1)) true:=by
 obtain⟨m,rfl⟩:∃ m,M=m+1:=⟨M-1,by omega⟩
 have h:=cmov_step8 c b z j (sd c j).1 (sd c j).2.1.1 (sd c j).2.1.2 (sd c j).2.2.1.1.1 (sd c j).2.2.1.1.2.1 (sd c j).2.2.1.2.1.1 (sd c j).2.2.1.2.1.2.1 j (rowsS b (c.2.1.2.take j)) m m'
 have hsd:c.2.1.2.getD j tSand.dflt=sd c j:=rfl
 have e2:=take_add (svP b) (l:=(sd c j).2.1.2) (i:=0) tP.dflt h0
 have e4:=flatQ_add b [] ((sd c j).2.1.2.getD 0 tP.dflt)
 rw[List.nil_append,show flat tP []=[] from rfl,List.nil_append] at e4
 rw[show ((sd c j).2.1.2.take 0).map (svP b)=[] from rfl,List.nil_append] at e2
 rw[e2] at e4
 simp only[inB_at hj,nat_to,hsd,ile_lt0 h0,inB_0 h0,ieq_self,bbeq_self,vsB_self,rowsS_plain,plO,Bool.not_false,cond_true] at h
 have h':adv Mo1 ((Mq [12]).vars) 3000 (cmovI8 c b z j (sd c j).1 (sd c j).2.1.1 (sd c j).2.1.2 (sd c j).2.2.1.1.1 (sd c j).2.2.1.1.2.1 (sd c j).2.2.1.2.1.1 (sd c j).2.2.1.2.1.2.1 j (rowsS b (c.2.1.2.take j)) (m+1) (m'+1))=some (.stop (cmovI11 c b z j ((1:Nat):Int) (sd c j).1 (sd c j).2.1.1 (sd c j).2.1.2 (sd c j).2.2.1.1.1 (sd c j).2.2.1.1.2.1 (sd c j).2.2.1.2.1.1 (sd c j).2.2.1.2.1.2.1 j (rowsS b (c.2.1.2.take j)) 1 (flat tP (((sd c j).2.1.2.take 1).map (svP b))) m (m'+1))):=by
  rw[← e4];exact h
 exact .stop (Sy.vars_ok (Mq_ok _)) Mo1sy h' (lpC c b z j hj h3 h4 m' K ((sd c j).2.1.2.length-1) 1 m (by omega) (by omega))
theorem lpD (x13:Int) (n1:Nat) (l1:List AV) (hl1:plainL l1=true) (j:Nat) (hj:j<c.2.1.2.length) (h3:(sd c j).2.1.2.length≤1000) (h4:c.2.1.2.length≤4) (m':Nat) (K:AnsB Mo1 (cmovI9 c b z x13 ((j+1:Nat):Int) n1 (j+1) l1 (rowsS b (c.2.1.2.take (j+1))) m') true):∀ (r k m:Nat),k+r=(sd c j).2.1.2.length→r<m→AnsB Mo1 (cmovI13 c b z x13 j (k:Int) (sd c j).1 (sd c j).2.1.1 (sd c j).2.1.2 (sd c j).2.2.1.1.1 (sd c j).2.2.1.1.2.1 (sd c j).2.2.1.2.1.1 (sd c j).2.2.1.2.1.2.1 n1 j l1 (rowsS b (c.2.1.2.take j)) k (flat tP (((sd c j).2.1.2.take k).map (svP b))) m (m'+1)) true
 | 0, k, m + 1, hk, hm => by
  have h:=cmov_step13 c b z x13 j (k:Int) (sd c j).1 (sd c j).2.1.1 (sd c j).2.1.2 (sd c j).2.2.1.1.1 (sd c j).2.2.1.1.2.1 (sd c j).2.2.1.2.1.1 (sd c j).2.2.1.2.1.2.1 n1 j l1 (rowsS b (c.2.1.2.take j)) k (flat tP (((sd c j).2.1.2.take k).map (svP b))) m m'
  have hkk:k=(sd c j).2.1.2.length:=by omega
  have ht:(sd c j).2.1.2.take k=(sd c j).2.1.2:=by rw[hkk,List.take_length]
  have hsd:c.2.1.2.getD j tSand.dflt=sd c j:=rfl
  have hrl:(c.2.1.2.take j).length=j:=by rw[List.length_take];omega
  have e3:rowsS b (c.2.1.2.take j)++rowS b (sd c j)=rowsS b (c.2.1.2.take (j+1)):=by
   rw[rowsS_add,List.take_succ_eq_append_getElem hj]
   have:c.2.1.2[j]=sd c j:=(gdN hj).symm
   rw[this]
  rw[ht] at h⊢
  have q:=flatQ_beq (L:=(sd c j).2.1.2.map (svP b)) (n:=k) (by rw[List.length_map];exact hkk.symm)
  simp only[inB_at hj,nat_to,hsd,ile_ge (show (sd c j).2.1.2.length≤k by omega),flatP_plain,hl1,rowsS_beq hrl,Nat.ble_eq_true_of_le (show j≤1048576 by omega),wr_succ (show j<1048577 by omega),plO,Bool.not_true,cond_true,cond_false] at h
  have h':adv Mo1 ((Mq [12]).vars) 3000 (cmovI13 c b z x13 j (k:Int) (sd c j).1 (sd c j).2.1.1 (sd c j).2.1.2 (sd c j).2.2.1.1.1 (sd c j).2.2.1.1.2.1 (sd c j).2.2.1.2.1.1 (sd c j).2.2.1.2.1.2.1 n1 j l1 (rowsS b (c.2.1.2.take j)) k (flat tP ((sd c j).2.1.2.map (svP b))) (m+1) (m'+1))=bif plainL (rowsS b (c.2.1.2.take (j+1))) then some (.stop (cmovI9 c b z x13 ((j+1:Nat):Int) n1 (j+1) l1 (rowsS b (c.2.1.2.take (j+1))) m')) else none:=by
   rw[← e3,hkk];rw[hkk] at h;exact h
  rw[rowsS_plain,cond_true] at h'
  exact .stop (Sy.vars_ok (Mq_ok _)) Mo1sy h' K
 | r + 1, k, m + 1, hk, hm => by
  have h:=cmov_step13 c b z x13 j (k:Int) (sd c j).1 (sd c j).2.1.1 (sd c j).2.1.2 (sd c j).2.2.1.1.1 (sd c j).2.2.1.1.2.1 (sd c j).2.2.1.2.1.1 (sd c j).2.2.1.2.1.2.1 n1 j l1 (rowsS b (c.2.1.2.take j)) k (flat tP (((sd c j).2.1.2.take k).map (svP b))) m m'
  have hlt:k<(sd c j).2.1.2.length:=by omega
  have hsd:c.2.1.2.getD j tSand.dflt=sd c j:=rfl
  have e1:=take_len (svP b) (l:=(sd c j).2.1.2) (i:=k) (by omega)
  have e2:=take_add (svP b) (l:=(sd c j).2.1.2) (i:=k) tP.dflt hlt
  have e4:=flatQ_add b (((sd c j).2.1.2.take k).map (svP b)) ((sd c j).2.1.2.getD k tP.dflt)
  rw[e2] at e4
  simp only[inB_at hj,nat_to,hsd,ile_lt hlt,inB_at hlt,flatQ_beq e1,Nat.ble_eq_true_of_le (show k≤1048576 by omega),ieq_self,bbeq_self,vsB_self,avbeq_sl,wr_succ (show k<1048577 by omega),rowsS_plain,hl1,plO,Bool.not_false,cond_true] at h
  have h':adv Mo1 ((Mq [12]).vars) 3000 (cmovI13 c b z x13 j (k:Int) (sd c j).1 (sd c j).2.1.1 (sd c j).2.1.2 (sd c j).2.2.1.1.1 (sd c j).2.2.1.1.2.1 (sd c j).2.2.1.2.1.1 (sd c j).2.2.1.2.1.2.1 n1 j l1 (rowsS b (c.2.1.2.take j)) k (flat tP (((sd c j).2.1.2.take k).map (svP b))) (m+1) (m'+1))=bif plainL (flat tP (((sd c j).2.1.2.take (k+1)).map (svP b))) then some (.stop (cmovI13 c b z x13 j ((k+1:Nat):Int) (sd c j).1 (sd c j).2.1.1 (sd c j).2.1.2 (sd c j).2.2.1.1.1 (sd c j).2.2.1.1.2.1 (sd c j).2.2.1.2.1.1 (sd c j).2.2.1.2.1.2.1 n1 j l1 (rowsS b (c.2.1.2.take j)) (k+1) (flat tP (((sd c j).2.1.2.take (k+1)).map (svP b))) m (m'+1))) else none:=by
   rw[← e4];exact h
  rw[flatP_plain,cond_true] at h'
  exact .stop (Sy.vars_ok (Mq_ok _)) Mo1sy h' (lpD x13 n1 l1 hl1 j hj h3 h4 m' K r (k+1) m (by omega) (by omega))
theorem stD (x13:Int) (n1:Nat) (l1:List AV) (hl1:plainL l1=true) (j:Nat) (hj:j<c.2.1.2.length) (h3:(sd c j).2.1.2.length≤1000) (h4:c.2.1.2.length≤4) (h0:0<(sd c j).2.1.2.length) (M m':Nat) (hM:(sd c j).2.1.2.length<M) (K:AnsB Mo1 (cmovI9 c b z x13 ((j+1:Nat):Int) n1 (j+1) l1 (rowsS b (c.2.1.2.take (j+1))) m') true):AnsB Mo1 (cmovI12 c b z x13 j (sd c j).1 (sd c j).2.1.1 (sd c j).2.1.2 (sd c j).2.2.1.1.1 (sd c j).2.2.1.1.2.1 (sd c j).2.2.1.2.1.1 (sd c j).2.2.1.2.1.2.1 n1 j l1 (rowsS b (c.2.1.2.take j)) M (m'+1)) true:=by
 obtain⟨m,rfl⟩:∃ m,M=m+1:=⟨M-1,by omega⟩
 have h:=cmov_step12 c b z x13 j (sd c j).1 (sd c j).2.1.1 (sd c j).2.1.2 (sd c j).2.2.1.1.1 (sd c j).2.2.1.1.2.1 (sd c j).2.2.1.2.1.1 (sd c j).2.2.1.2.1.2.1 n1 j l1 (rowsS b (c.2.1.2.take j)) m m'
 have hsd:c.2.1.2.getD j tSand.dflt=sd c j:=rfl
 have e2:=take_add (svP b) (l:=(sd c j).2.1.2) (i:=0) tP.dflt h0
 have e4:=flatQ_add b [] ((sd c j).2.1.2.getD 0 tP.dflt)
 rw[List.nil_append,show flat tP []=[] from rfl,List.nil_append] at e4
 rw[show ((sd c j).2.1.2.take 0).map (svP b)=[] from rfl,List.nil_append] at e2
 rw[e2] at e4
 simp only[inB_at hj,nat_to,hsd,ile_lt0 h0,inB_0 h0,ieq_self,bbeq_self,vsB_self,rowsS_plain,hl1,plO,Bool.not_false,cond_true] at h
 have h':adv Mo1 ((Mq [12]).vars) 3000 (cmovI12 c b z x13 j (sd c j).1 (sd c j).2.1.1 (sd c j).2.1.2 (sd c j).2.2.1.1.1 (sd c j).2.2.1.1.2.1 (sd c j).2.2.1.2.1.1 (sd c j).2.2.1.2.1.2.1 n1 j l1 (rowsS b (c.2.1.2.take j)) (m+1) (m'+1))=some (.stop (cmovI13 c b z x13 j ((1:Nat):Int) (sd c j).1 (sd c j).2.1.1 (sd c j).2.1.2 (sd c j).2.2.1.1.1 (sd c j).2.2.1.1.2.1 (sd c j).2.2.1.2.1.1 (sd c j).2.2.1.2.1.2.1 n1 j l1 (rowsS b (c.2.1.2.take j)) 1 (flat tP (((sd c j).2.1.2.take 1).map (svP b))) m (m'+1))):=by
  rw[← e4];exact h
 exact .stop (Sy.vars_ok (Mq_ok _)) Mo1sy h' (lpD c b z x13 n1 l1 hl1 j hj h3 h4 m' K ((sd c j).2.1.2.length-1) 1 m (by omega) (by omega))
end
end Go.Proofs.YtgaoajmlckgdaaaGreatDoor


set_option maxRecDepth 100000
namespace Go.Proofs.YtgaoajmlckgdaaaGreatDoor
open Go Go.Eng
section
variable (c:tChart.den) (b:tB2.den) (z:tBoth.den) (hc:(chkS c).2.2=0) (hy:u16 z.2.1.2=true) (hb:wfB b) (hzX:-32768≤z.1.2.2.1.1∧z.1.2.2.1.1≤32767) (hzY:-32768≤z.1.2.2.1.2.1∧z.1.2.2.1.2.1≤32767)
include hc
theorem sd_len {j:Nat} (hj:j<c.2.1.2.length):3≤(sd c j).2.1.2.length∧(sd c j).2.1.2.length≤100:=by
 have hg:=sd_good hc hj
 exact⟨goodS_len hg,(cOK_in (goodS_iff rfl rfl rfl rfl hg).1).1⟩
include hy hb hzX hzY
theorem endNS (hm:c.1.2.length=0):endM c ((true,[]),(false,c.2.1.2.map (svS b)),()) b z=some (.done (.bool true)):=
 endM_true hy hb hzX hzY hc (List.length_map ..) (fun _ i hi=>by rw[sdS_is hi];exact movS_is hb (sd_good hc hi)) hm.symm (fun i hi=>by omega)
theorem endMS:endM c ((false,c.1.2.map (svM b)),(false,c.2.1.2.map (svS b)),()) b z=some (.done (.bool true)):=
 endM_true hy hb hzX hzY hc (List.length_map ..) (fun _ i hi=>by rw[sdS_is hi];exact movS_is hb (sd_good hc hi)) (List.length_map ..) (fun i hi=>movM_is hb hc hi)
theorem endM0 (hs:c.2.1.2.length=0):endM c ((false,c.1.2.map (svM b)),(true,[]),()) b z=some (.done (.bool true)):=
 endM_true hy hb hzX hzY hc hs.symm (fun _ i hi=>by omega) (List.length_map ..) (fun i hi=>movM_is hb hc hi)
theorem lp5 (hm:c.1.2.length=0):∀ (r j M:Nat),j+r=c.2.1.2.length→r<M→AnsB Mo1 (cmovI5 c b z j j (rowsS b (c.2.1.2.take j)) M) true
 |0,j,M+1,hk,hM=>by
  have h:=cmov_step5 c b z j j (rowsS b (c.2.1.2.take j)) M
  have ht:c.2.1.2.take j=c.2.1.2:=by rw[show j=c.2.1.2.length by omega,List.take_length]
  rw[ht] at h⊢
  obtain⟨u1,u2⟩:=rowsS_rd b c.2.1.2 j (by omega)
  simp only[ile_ge (show c.2.1.2.length≤j by omega),rowsS_plain,u1,u2,Bool.and_true,Bool.not_true,cond_true,cond_false] at h
  exact .doneB (Sy.vars_ok (Mq_ok _)) Mo1sy (h.trans (endNS c b z hc hy hb hzX hzY hm)) rfl
 |r+1,j,M+1,hk,hM=>by
  have h:=cmov_step5 c b z j j (rowsS b (c.2.1.2.take j)) M
  have hlt:j<c.2.1.2.length:=by omega
  have h4:=(valid_sands hc).1
  obtain⟨l3,l1⟩:=sd_len c hc hlt
  have hsd:c.2.1.2.getD j tSand.dflt=sd c j:=rfl
  simp only[ile_lt hlt,inB_at hlt,nat_to,hsd,Bool.not_false,cond_true] at h
  exact .stop (Sy.vars_ok (Mq_ok _)) Mo1sy h (stC c b z j hlt (by omega) h4 (by omega) 1048575 M (by omega) (lp5 hm r (j+1) M (by omega) (by omega)))
theorem lp9 (x13:Int):∀ (r j M:Nat),j+r=c.2.1.2.length→r<M→AnsB Mo1 (cmovI9 c b z x13 j c.1.2.length j (flat tMark (c.1.2.map (svM b))) (rowsS b (c.2.1.2.take j)) M) true
 |0,j,M+1,hk,hM=>by
  have h:=cmov_step9 c b z x13 j c.1.2.length j (flat tMark (c.1.2.map (svM b))) (rowsS b (c.2.1.2.take j)) M
  have ht:c.2.1.2.take j=c.2.1.2:=by rw[show j=c.2.1.2.length by omega,List.take_length]
  rw[ht] at h⊢
  obtain⟨u1,u2⟩:=rowsS_rd b c.2.1.2 j (by omega)
  obtain⟨w1,w2⟩:=unf_flat (t:=tMark) (c.1.2.map (svM b)) c.1.2.length (by rw[List.length_map])
  simp only[ile_ge (show c.2.1.2.length≤j by omega),rowsS_plain,flatM_plain,u1,u2,w1,w2,Bool.and_true,Bool.and_self,Bool.not_true,cond_true,cond_false] at h
  exact .doneB (Sy.vars_ok (Mq_ok _)) Mo1sy (h.trans (endMS c b z hc hy hb hzX hzY)) rfl
 |r+1,j,M+1,hk,hM=>by
  have h:=cmov_step9 c b z x13 j c.1.2.length j (flat tMark (c.1.2.map (svM b))) (rowsS b (c.2.1.2.take j)) M
  have hlt:j<c.2.1.2.length:=by omega
  have h4:=(valid_sands hc).1
  obtain⟨l3,l1⟩:=sd_len c hc hlt
  have hsd:c.2.1.2.getD j tSand.dflt=sd c j:=rfl
  simp only[ile_lt hlt,inB_at hlt,nat_to,hsd,Bool.not_false,cond_true] at h
  exact .stop (Sy.vars_ok (Mq_ok _)) Mo1sy h (stD c b z x13 c.1.2.length (flat tMark (c.1.2.map (svM b))) (flatM_plain _) j hlt (by omega) h4 (by omega) 1048575 M (by omega) (lp9 x13 r (j+1) M (by omega) (by omega)))
theorem lp1 (hm:c.1.2.length=0):AnsB Mo1 (cmovI1 c b z 1048575) true:=by
 have h:=cmov_step1 c b z 1048574
 by_cases hlt:0<c.2.1.2.length
 · have h4 := (valid_sands hc).1
   obtain⟨l3,l1⟩:=sd_len c hc hlt
   simp only[ile_lt0 hlt,inB_0 hlt,Bool.not_false,cond_true] at h
   exact .stop (Sy.vars_ok (Mq_ok _)) Mo1sy h (stA c b z hlt (by omega) h4 (by omega) 1048575 1048574 (by omega) (lp5 c b z hc hy hb hzX hzY hm (c.2.1.2.length-1) 1 1048574 (by omega) (by omega)))
 · have hz : c.2.1.2.length = 0 := by omega
   have r:=restM_true (W:=((true,[]),(true,[]),())) hb hzX hzY hc (by kernel_rfl) hz.symm (fun i hi=>by omega) hm.symm (fun i hi=>by omega)
   simp only[show ile (c.2.1.2.length:Int) 0=true by rw[hz];rfl,hy,hc,ieq_self,Bool.and_self,Bool.not_true,cond_true,cond_false] at h
   exact .doneB (Sy.vars_ok (Mq_ok _)) Mo1sy (h.trans r) rfl
theorem lp4 (x13:Int):AnsB Mo1 (cmovI4 c b z x13 c.1.2.length (flat tMark (c.1.2.map (svM b))) 1048575) true:=by
 have h:=cmov_step4 c b z x13 c.1.2.length (flat tMark (c.1.2.map (svM b))) 1048574
 by_cases hlt:0<c.2.1.2.length
 · have h4 := (valid_sands hc).1
   obtain⟨l3,l1⟩:=sd_len c hc hlt
   simp only[ile_lt0 hlt,inB_0 hlt,Bool.not_false,cond_true] at h
   exact .stop (Sy.vars_ok (Mq_ok _)) Mo1sy h (stB c b z x13 c.1.2.length (flat tMark (c.1.2.map (svM b))) (flatM_plain _) hlt (by omega) h4 (by omega) 1048575 1048574 (by omega) (lp9 c b z hc hy hb hzX hzY x13 (c.2.1.2.length-1) 1 1048574 (by omega) (by omega)))
 · have hz : c.2.1.2.length = 0 := by omega
   obtain⟨w1,w2⟩:=unf_flat (t:=tMark) (c.1.2.map (svM b)) c.1.2.length (by rw[List.length_map])
   simp only[show ile (c.2.1.2.length:Int) 0=true by rw[hz];rfl,flatM_plain,w1,w2,Bool.and_true,Bool.not_true,cond_true,cond_false] at h
   exact .doneB (Sy.vars_ok (Mq_ok _)) Mo1sy (h.trans (endM0 c b z hc hy hb hzX hzY hz)) rfl
theorem lp2:∀ (r k m:Nat),k+r=c.1.2.length→r<m→AnsB Mo1 (cmovI2 c b z k k (flat tMark ((c.1.2.take k).map (svM b))) m) true
 |0,k,m+1,hk,hm=>by
  have h:=cmov_step2 c b z k k (flat tMark ((c.1.2.take k).map (svM b))) m
  have hkk:k=c.1.2.length:=by omega
  have ht:c.1.2.take k=c.1.2:=by rw[hkk,List.take_length]
  rw[ht] at h⊢
  simp only[ile_ge (show c.1.2.length≤k by omega),Bool.not_true,cond_false] at h
  have K:=lp4 c b z hc hy hb hzX hzY (k:Int)
  rw[← hkk] at K
  exact .stop (Sy.vars_ok (Mq_ok _)) Mo1sy h K
 | r + 1, k, m + 1, hk, hm => by
  have h:=cmov_step2 c b z k k (flat tMark ((c.1.2.take k).map (svM b))) m
  have hlt:k<c.1.2.length:=by omega
  have h8:=(valid_marks hc).1
  have e1:=take_len (svM b) (l:=c.1.2) (i:=k) (by omega)
  have e2:=take_add (svM b) (l:=c.1.2) (i:=k) tMark.dflt hlt
  have e4:=flatM_add b ((c.1.2.take k).map (svM b)) (c.1.2.getD k tMark.dflt)
  rw[e2] at e4
  simp only[ile_lt hlt,inB_at hlt,nat_to,flatM_beq e1,Nat.ble_eq_true_of_le (show k≤1048576 by omega),wr_succ (show k<1048577 by omega),plO,Bool.not_false,cond_true] at h
  have h':adv Mo1 ((Mq [12]).vars) 3000 (cmovI2 c b z k k (flat tMark ((c.1.2.take k).map (svM b))) (m+1))=bif plainL (flat tMark ((c.1.2.take (k+1)).map (svM b))) then some (.stop (cmovI2 c b z ((k+1:Nat):Int) (k+1) (flat tMark ((c.1.2.take (k+1)).map (svM b))) m)) else none:=by
   rw[← e4];exact h
  rw[flatM_plain,cond_true] at h'
  exact .stop (Sy.vars_ok (Mq_ok _)) Mo1sy h' (lp2 r (k+1) m (by omega) (by omega))
theorem cmov_ans:AnsB Mo1 (startC Mo1 12 [tChart.av c,tB2.av b,tBoth.av z] 8) true:=by
 have h:=cmov_start c b z
 simp only[hc,ieq_self,Bool.not_true,cond_false] at h
 refine .stop (Sy.vars_ok (Mq_ok _)) Mo1sy h ?_
 have h:=cmov_step0 c b z 1048574
 by_cases hlt:0<c.1.2.length
 · have h8 := (valid_marks hc).1
   have e2:=take_add (svM b) (l:=c.1.2) (i:=0) tMark.dflt hlt
   have e4:=flatM_add b [] (c.1.2.getD 0 tMark.dflt)
   rw[List.nil_append,show flat tMark []=[] from rfl,List.nil_append] at e4
   rw[show (c.1.2.take 0).map (svM b)=[] from rfl,List.nil_append] at e2
   rw[e2] at e4
   simp only[ile_lt0 hlt,inB_0 hlt,Bool.not_false,cond_true] at h
   have h':adv Mo1 ((Mq [12]).vars) 3000 (cmovI0 c b z (1048574+1))=some (.stop (cmovI2 c b z ((1:Nat):Int) 1 (flat tMark ((c.1.2.take 1).map (svM b))) 1048574)):=by
    rw[← e4];exact h
   exact .stop (Sy.vars_ok (Mq_ok _)) Mo1sy h' (lp2 c b z hc hy hb hzX hzY (c.1.2.length-1) 1 1048574 (by omega) (by omega))
 · have hz : c.1.2.length = 0 := by omega
   simp only[show ile (c.1.2.length:Int) 0=true by rw[hz];rfl,Bool.not_true,cond_false] at h
   exact .stop (Sy.vars_ok (Mq_ok _)) Mo1sy h (lp1 c b z hc hy hb hzX hzY hz)
end
theorem u16_wfZ {l:(Ty.sl (.int .u16)).den} (h:(Ty.sl (.int .u16)).wf l=true):u16 l.2=true:=by
 unfold u16
 rw[List.all_eq_true] at *
 intro n hn
 have:=List.all_eq_true.1 h n hn
 simp only[Ty.wf,Bool.and_eq_true,decide_eq_true_eq] at this
 rw[ile_iff,ile_iff,Bool.and_eq_true]
 exact⟨decide_eq_true this.1,decide_eq_true this.2⟩
theorem moved_true (c:tChart.den) (b:tB2.den) (z:tBoth.den) (hb:tB2.wf b=true) (hz:tBoth.wf z=true):∃ σ,callN Mo1 (8+1) 12 [tChart.av c,tB2.av b,tBoth.av z] .empty [] []=some (.bool true,σ,[]):=by
 refine AnsB.call (ext_none (by kernel_rfl)) (hasB_spec (by kernel_rfl)) ?_
 cases c1:ieq (chkS c).2.2 0 with
 |false=>
  have h:=cmov_start c b z
  simp only[c1,Bool.not_false,cond_true] at h
  exact .doneB (Sy.vars_ok (Mq_ok _)) Mo1sy h rfl
 |true=>
  have h1:(tFrom.wf z.1&&((Ty.sl (.int .u16)).wf z.2.1&&true))=true:=hz
  simp only[Bool.and_eq_true] at h1
  obtain⟨h1,h2,_⟩:=h1
  simp only[Ty.wf,Bool.and_eq_true,decide_eq_true_eq] at h1 hb
  exact cmov_ans c b z (ieq_t' c1) (u16_wfZ h2) ⟨hb.1,hb.2.1⟩ h1.2.2.1.1 h1.2.2.1.2.1
end Go.Proofs.YtgaoajmlckgdaaaGreatDoor


namespace Go.Proofs.YtgaoajmlckgdaaaGreatDoor
open Go Go.ChangeShapes Go.WideShapes Go.Eng
theorem kOwn:ownKnob Tryz.prog.godebug=none:=by kernel_rfl
theorem kPlain:(Rows.chartMovedRow.laid.all fun x=>x.2.handleName?.isNone)=true:=by kernel_rfl
theorem kLaid:allT (glB Tryz.prog Rows.chartMovedRow.laid) T0.gl (fun k=>k)=true:=by kernel_rfl
theorem kParams:Tryz.f12.params=#[25,90,92]:=by kernel_rfl
theorem kResults:Tryz.f12.resultTypes=#[4]:=by kernel_rfl
theorem kLaidOut:laidOutB Tryz.prog=true:=by kernel_rfl
theorem kRead:Tryz.f12.params.toList.all (fun t=>Tryz.prog.readableRec t&&decide (t<Tryz.prog.types.size))=true:=by kernel_rfl
theorem kFit1:fits Tryz.prog (tChart) 25=true:=by kernel_rfl
theorem kFit2:fits Tryz.prog (tB2) 90=true:=by kernel_rfl
theorem kFit3:fits Tryz.prog (tBoth) 92=true:=by kernel_rfl
theorem kGlob:Mo1.glob=T0.gl.get:=rfl
theorem kExt (c1:(tChart).den) (c2:(tB2).den) (c3:(tBoth).den):Mo1.ext 12 [tChart.av c1,tB2.av c2,tBoth.av c3]=none:=ext_none (by kernel_rfl)
set_option maxRecDepth 100000 in
theorem kLifted (os:Os) (started:os.Started) (H:Type) (enc:TypeId×Value→H) :
  ReturnsInHanded {} Tryz.checked os 12 .any (fun w args=>(Rows.chartMovedSpec.pre enc Tryz.prog Tryz.f12 [] false w args∧laidMetH Tryz.prog Rows.chartMovedRow.laid w)∧sizedMet enc Tryz.prog Tryz.f12 (OpenSpec.ofChange Rows.chartMovedSpec) false w args)
   (Rows.chartMovedSpec.post enc Tryz.prog Tryz.f12 false true false false):=by
 refine returnsInHanded_of_change_and (C:=Tryz.checked) (X:=fun w _=>laidMetH Tryz.prog Rows.chartMovedRow.laid w) (fun _ _ _ hh h=>h.of_heap hh) kOwn started (by kernel_rfl) Tryz.func12
  (ChangeSpec.witness_shaped (enc := enc) (C := Tryz.checked) (os := os) (X := fun w _ => laidMetH Tryz.prog Rows.chartMovedRow.laid w) false (World.laidAll Tryz.prog os Rows.chartMovedRow.laid) #[.agg #[.slice none 0 0, .slice none 0 0], .agg #[.int .i8 0, .int .i8 0], .agg #[.int .u16 0, .int .u8 0, .int .i16 0, .int .i16 0, .slice none 0 0]] 8 (World.laidAll_os _ _ _)
   (World.shaped_of_ZipB (by kernel_rfl) (by kernel_rfl)) (by kernel_rfl) (by kernel_rfl) (by kernel_rfl)
   (by rw[MakeChecks.laidMetH_plain _ _ _ kPlain];exact laidMet_laidAll _ (by kernel_rfl) (by kernel_rfl))) ?_
 intro W base args ds gs before hok hW _ _ hL _
 have hL':laidMet Tryz.prog Rows.chartMovedRow.laid W:=by rw[← MakeChecks.laidMetH_plain _ _ _ kPlain];exact hL
 have hW':=hW
 obtain⟨p,q,hA,_⟩:=hW
 rw[kParams] at hA
 obtain⟨v1,v2,v3,d1,d2,d3,p1,p2,p3,e1',e2',hp,t1,t2,t3⟩:=trodAll_three hA
 subst e1';subst e2'
 rw[kParams] at hok
 obtain⟨c1,h1,w1⟩:=arg_ty (t:=tChart) (hok 0 25 v1 rfl rfl) kFit1 t1
 obtain⟨c2,h2,w2⟩:=arg_ty (t:=tB2) (hok 1 90 v2 rfl rfl) kFit2 t2
 obtain⟨c3,h3,w3⟩:=arg_ty (t:=tBoth) (hok 2 92 v3 rfl rfl) kFit3 t3
 obtain⟨σ,hrun⟩:=moved_true c1 c2 c3 w2 w3
 refine (law_run (A:=[v1,v2,v3]) (V:=Go.Eng.seen W) mo1 xmo1 nmo1 tabs_ok.mix (kExt c1 c2 c3) hrun (.cons h1 (.cons h2 (.cons h3 (.nil _)))) (by kernel_rfl) (fun _ _ _ h=>h) (glob_of kGlob kLaid hL')).mono fun e W' ⟨he,hf⟩=>?_
 subst he
 exact⟨_,rfl,post_law kLaidOut kRead kResults Tryz.underlying4 rfl rfl hW' hf⟩
theorem kHolds:Rows.ChartMovedSaid:=
 OpenClaim.holds_of_wide 12 Tryz.f12 rfl rfl rfl rfl rfl rfl rfl ⟨rfl,rfl,rfl,rfl,rfl⟩ rfl rfl rfl rfl rfl (by kernel_rfl) Tryz.func12 (by kernel_rfl)
  (of_decide_eq_true (by kernel_rfl)) (by unfold Func.isWrapper;first|(rw[if_pos (by decide +kernel)];kernel_rfl)|(rw[if_neg (by decide +kernel)];exact⟨rfl,rfl⟩))
  (fun os started H enc _=>kLifted os started H enc)
theorem chartMoved_holds:Rows.ChartMovedCardSaid:=
 Claim7.holds_tied_plain_at .later [] Rows.chartMovedCard.laidKinds true Rows.chartMovedCard.stood.harness true
  kHolds (fun _ h=>by cases h) (by kernel_rfl) (fun _ h=>by cases h) chartMoved_row_tie rfl ⟨rfl,rfl⟩ (by kernel_rfl) rfl
  (fun f fn hf hfn => by
   obtain rfl : f = 12 := Option.some.inj ((show Tryz.prog.funcNamed "nore/norelaw01.ChartMoved" = some 12 by kernel_rfl).symm.trans hf) |>.symm
   obtain rfl:fn=Tryz.f12:=(Option.some.inj (Tryz.func12.symm.trans hfn)).symm
   exact⟨by kernel_rfl,fun j t ht=>by
    rw[kParams] at ht
    rcases j with _|_|_|j<;>simp at ht<;>subst ht<;>kernel_rfl⟩)
  (by kernel_rfl)
#print axioms chartMoved_holds
end Go.Proofs.YtgaoajmlckgdaaaGreatDoor

