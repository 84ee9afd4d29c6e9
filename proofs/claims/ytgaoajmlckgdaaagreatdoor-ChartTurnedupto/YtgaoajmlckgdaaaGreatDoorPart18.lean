/-
  What is proved: norelaw01.ChartTurned returns true for every chart, day, mark, place and list of numbers that hold together at most 1048576 values and letters. Conditions: that bound, and none but those of the given card (package-level variables start as the program's text lays them).
-/
import Derived.Test.YtgaoajmlckgdaaaGreatDoorPart06
import Derived.Test.YtgaoajmlckgdaaaGreatDoorPart07
import Derived.Test.YtgaoajmlckgdaaaGreatDoorPart08
import Derived.Test.YtgaoajmlckgdaaaGreatDoorPart09
import Derived.Test.YtgaoajmlckgdaaaGreatDoorPart10
import Derived.Test.YtgaoajmlckgdaaaGreatDoorPart11
import Derived.Test.YtgaoajmlckgdaaaGreatDoorPart17
import Derived.Test.YtgaoajmlckgdaaaGreatDoorPart12
import Derived.Test.YtgaoajmlckgdaaaGreatDoorPart13
import Derived.Test.YtgaoajmlckgdaaaGreatDoorPart14
import Derived.Test.YtgaoajmlckgdaaaGreatDoorPart15
import Derived.Test.YtgaoajmlckgdaaaGreatDoorPart05
import Derived.Test.YtgaoajmlckgdaaaGreatDoorPart03
import Derived.Test.YtgaoajmlckgdaaaGreatDoorPart04
import Derived.Test.YtgaoajmlckgdaaaGreatDoorRows
import Derived.Test.YtgaoajmlckgdaaaGreatDoorCards
import Derived.Test.YtgaoajmlckgdaaaGreatDoorTie
import Derived.ProofKit
import Derived.LaidMore
import Derived.OpenShut
import Derived.Stop.Joined
import Derived.Lay
import Derived.SevenTiedAt
import Derived.Deep.DeepHandedRow
set_option linter.unusedSectionVars false
set_option linter.unusedSimpArgs false
set_option linter.unusedVariables false
set_option maxRecDepth 100000
namespace Go.Proofs.YtgaoajmlckgdaaaGreatDoor
open Go Go.Eng
noncomputable def L3:List Ent:=[c0,c1,c2,c3,c4,c5,c6,c7,c8,c9,c10]
theorem l3:∀ e∈L3,EntOK Tryz.prog EA e:=ents_cons o0 (ents_cons o1 (ents_cons o2 (ents_cons o3 (ents_cons o4 (ents_cons o5 (ents_cons o6 (ents_cons o7 (ents_cons o8 (ents_cons o9 (ents_cons o10 (ents_nil)))))))))))
end Go.Proofs.YtgaoajmlckgdaaaGreatDoor


set_option maxRecDepth 100000
namespace Go.Proofs.YtgaoajmlckgdaaaGreatDoor
open Go Go.Eng
theorem kn_true:isTrueT EA L3 40 22=true:=by kernel_rfl
end Go.Proofs.YtgaoajmlckgdaaaGreatDoor


set_option maxRecDepth 100000
namespace Go.Proofs.YtgaoajmlckgdaaaGreatDoor
open Go Go.Eng
theorem near_start (c:tChart.den) (l:(Ty.sl (.int .u16)).den):adv H3 (Y3 []) 3000 (startC H3 44 [tChart.av c,.vs (.int .u16) l.1 l.2] 6)=(bif u16 l.2&&ile 0 1 then (bif u16 l.2&&ile 0 2 then (bif !ile (↑c.2.1.2.length) 0 then (bif u16 l.2&&ile 0 0 then (bif ieq (↑c.2.1.2.length) 0 then none else (bif inB ((turnS l.2 0).tmod ↑c.2.1.2.length) c.2.1.2.length then (bif bbeq c.2.1.1 c.2.1.1 then (bif vsB tSand c.2.1.2 tSand c.2.1.2 then (bif bbeq c.2.1.1 c.2.1.1 then (bif vsB tSand c.2.1.2 tSand c.2.1.2 then (bif bbeq c.2.1.1 c.2.1.1 then (bif vsB tSand c.2.1.2 tSand c.2.1.2 then (bif bbeq c.2.1.1 c.2.1.1 then (bif vsB tSand c.2.1.2 tSand c.2.1.2 then (bif u16 l.2&&ile 0 3 then (bif ieq (↑(c.2.1.2.getD ((turnS l.2 0).tmod ↑c.2.1.2.length).toNat tSand.dflt).2.1.2.length) 0 then none else (bif inB ((turnS l.2 3).tmod ↑(c.2.1.2.getD ((turnS l.2 0).tmod ↑c.2.1.2.length).toNat tSand.dflt).2.1.2.length) (c.2.1.2.getD ((turnS l.2 0).tmod ↑c.2.1.2.length).toNat tSand.dflt).2.1.2.length then (bif bbeq (c.2.1.2.getD ((turnS l.2 0).tmod ↑c.2.1.2.length).toNat tSand.dflt).2.1.1 (c.2.1.2.getD ((turnS l.2 0).tmod ↑c.2.1.2.length).toNat tSand.dflt).2.1.1 then (bif vsB tP (c.2.1.2.getD ((turnS l.2 0).tmod ↑c.2.1.2.length).toNat tSand.dflt).2.1.2 tP (c.2.1.2.getD ((turnS l.2 0).tmod ↑c.2.1.2.length).toNat tSand.dflt).2.1.2 then (bif bbeq (c.2.1.2.getD ((turnS l.2 0).tmod ↑c.2.1.2.length).toNat tSand.dflt).2.1.1 (c.2.1.2.getD ((turnS l.2 0).tmod ↑c.2.1.2.length).toNat tSand.dflt).2.1.1 then (bif vsB tP (c.2.1.2.getD ((turnS l.2 0).tmod ↑c.2.1.2.length).toNat tSand.dflt).2.1.2 tP (c.2.1.2.getD ((turnS l.2 0).tmod ↑c.2.1.2.length).toNat tSand.dflt).2.1.2 then (bif bbeq (c.2.1.2.getD ((turnS l.2 0).tmod ↑c.2.1.2.length).toNat tSand.dflt).2.1.1 (c.2.1.2.getD ((turnS l.2 0).tmod ↑c.2.1.2.length).toNat tSand.dflt).2.1.1 then (bif vsB tP (c.2.1.2.getD ((turnS l.2 0).tmod ↑c.2.1.2.length).toNat tSand.dflt).2.1.2 tP (c.2.1.2.getD ((turnS l.2 0).tmod ↑c.2.1.2.length).toNat tSand.dflt).2.1.2 then (bif bbeq (c.2.1.2.getD ((turnS l.2 0).tmod ↑c.2.1.2.length).toNat tSand.dflt).2.1.1 (c.2.1.2.getD ((turnS l.2 0).tmod ↑c.2.1.2.length).toNat tSand.dflt).2.1.1 then (bif vsB tP (c.2.1.2.getD ((turnS l.2 0).tmod ↑c.2.1.2.length).toNat tSand.dflt).2.1.2 tP (c.2.1.2.getD ((turnS l.2 0).tmod ↑c.2.1.2.length).toNat tSand.dflt).2.1.2 then (bif ieq (wr .i64 ((turnS l.2 1).tmod 400-200)) (wr .i64 ((turnS l.2 1).tmod 400-200)) then (bif ieq (wr .i64 ((turnS l.2 2).tmod 400-200)) (wr .i64 ((turnS l.2 2).tmod 400-200)) then (bif ieq (wr .i64 ((turnS l.2 1).tmod 400-200)) (wr .i64 ((turnS l.2 1).tmod 400-200)) then (bif ieq (wr .i64 ((turnS l.2 2).tmod 400-200)) (wr .i64 ((turnS l.2 2).tmod 400-200)) then some (.done (.agg [(.int .i64 (bif ile (bif ile 10000 (wr .i64 (wr .i64 ((turnS l.2 1).tmod 400-200)+((c.2.1.2.getD ((turnS l.2 0).tmod ↑c.2.1.2.length).toNat tSand.dflt).2.1.2.getD ((turnS l.2 3).tmod ↑(c.2.1.2.getD ((turnS l.2 0).tmod ↑c.2.1.2.length).toNat tSand.dflt).2.1.2.length).toNat tP.dflt).1)) then 10000 else wr .i64 (wr .i64 ((turnS l.2 1).tmod 400-200)+((c.2.1.2.getD ((turnS l.2 0).tmod ↑c.2.1.2.length).toNat tSand.dflt).2.1.2.getD ((turnS l.2 3).tmod ↑(c.2.1.2.getD ((turnS l.2 0).tmod ↑c.2.1.2.length).toNat tSand.dflt).2.1.2.length).toNat tP.dflt).1)) (-10000) then -10000 else bif ile 10000 (wr .i64 (wr .i64 ((turnS l.2 1).tmod 400-200)+((c.2.1.2.getD ((turnS l.2 0).tmod ↑c.2.1.2.length).toNat tSand.dflt).2.1.2.getD ((turnS l.2 3).tmod ↑(c.2.1.2.getD ((turnS l.2 0).tmod ↑c.2.1.2.length).toNat tSand.dflt).2.1.2.length).toNat tP.dflt).1)) then 10000 else wr .i64 (wr .i64 ((turnS l.2 1).tmod 400-200)+((c.2.1.2.getD ((turnS l.2 0).tmod ↑c.2.1.2.length).toNat tSand.dflt).2.1.2.getD ((turnS l.2 3).tmod ↑(c.2.1.2.getD ((turnS l.2 0).tmod ↑c.2.1.2.length).toNat tSand.dflt).2.1.2.length).toNat tP.dflt).1))),(.int .i64 (bif ile (bif ile 10000 (wr .i64 (wr .i64 ((turnS l.2 2).tmod 400-200)+((c.2.1.2.getD ((turnS l.2 0).tmod ↑c.2.1.2.length).toNat tSand.dflt).2.1.2.getD ((turnS l.2 3).tmod ↑(c.2.1.2.getD ((turnS l.2 0).tmod ↑c.2.1.2.length).toNat tSand.dflt).2.1.2.length).toNat tP.dflt).2.1)) then 10000 else wr .i64 (wr .i64 ((turnS l.2 2).tmod 400-200)+((c.2.1.2.getD ((turnS l.2 0).tmod ↑c.2.1.2.length).toNat tSand.dflt).2.1.2.getD ((turnS l.2 3).tmod ↑(c.2.1.2.getD ((turnS l.2 0).tmod ↑c.2.1.2.length).toNat tSand.dflt).2.1.2.length).toNat tP.dflt).2.1)) (-10000) then -10000 else bif ile 10000 (wr .i64 (wr .i64 ((turnS l.2 2).tmod 400-200)+((c.2.1.2.getD ((turnS l.2 0).tmod ↑c.2.1.2.length).toNat tSand.dflt).2.1.2.getD ((turnS l.2 3).tmod ↑(c.2.1.2.getD ((turnS l.2 0).tmod ↑c.2.1.2.length).toNat tSand.dflt).2.1.2.length).toNat tP.dflt).2.1)) then 10000 else wr .i64 (wr .i64 ((turnS l.2 2).tmod 400-200)+((c.2.1.2.getD ((turnS l.2 0).tmod ↑c.2.1.2.length).toNat tSand.dflt).2.1.2.getD ((turnS l.2 3).tmod ↑(c.2.1.2.getD ((turnS l.2 0).tmod ↑c.2.1.2.length).toNat tSand.dflt).2.1.2.length).toNat tP.dflt).2.1)))])) else none) else none) else none) else none) else none) else none) else none) else none) else none) else none) else none) else none) else none)) else none) else none) else none) else none) else none) else none) else none) else none) else none) else none)) else none) else some (.done (.agg [(.int .i64 (bif ile (bif ile 10000 (wr .i64 ((turnS l.2 1).tmod 400-200)) then 10000 else wr .i64 ((turnS l.2 1).tmod 400-200)) (-10000) then -10000 else bif ile 10000 (wr .i64 ((turnS l.2 1).tmod 400-200)) then 10000 else wr .i64 ((turnS l.2 1).tmod 400-200))),(.int .i64 (bif ile (bif ile 10000 (wr .i64 ((turnS l.2 2).tmod 400-200)) then 10000 else wr .i64 ((turnS l.2 2).tmod 400-200)) (-10000) then -10000 else bif ile 10000 (wr .i64 ((turnS l.2 2).tmod 400-200)) then 10000 else wr .i64 ((turnS l.2 2).tmod 400-200)))]))) else none) else none):=by kernel_rfl
noncomputable def withS:List tI.den→List tI.den→Bool
 |[],_=>true
 |x::l,b=>bif hasS b x then withS l b else false
noncomputable def clp (v:Int):Int:=bif ile (bif ile 10000 v then 10000 else v) (-10000) then -10000 else bif ile 10000 v then 10000 else v
theorem clp_in (v:Int):in10 (clp v)=true:=by
 rw[in10_iff]
 unfold clp
 cases c1:ile 10000 v with
 |true=>simp only[cond_true,show ile 10000 (-10000)=false from rfl,cond_false];omega
 | false =>
  rw[ile_iff] at c1
  simp only[decide_eq_false_iff_not] at c1
  simp only[cond_false]
  cases c2:ile v (-10000) with
  |true=>simp only[cond_true];omega
  |false=>
   rw[ile_iff] at c2
   simp only[decide_eq_false_iff_not] at c2
   simp only[cond_false];omega
noncomputable def nrC (c:tChart.den) (l:List Int):tP.den:=(c.2.1.2.getD ((turnS l 0).tmod (c.2.1.2.length:Int)).toNat tSand.dflt).2.1.2.getD ((turnS l 3).tmod ((c.2.1.2.getD ((turnS l 0).tmod (c.2.1.2.length:Int)).toNat tSand.dflt).2.1.2.length:Int)).toNat tP.dflt
noncomputable def nX (c:tChart.den) (l:List Int):Int:=bif ile (c.2.1.2.length:Int) 0 then clp (wr .i64 ((turnS l 1).tmod 400-200)) else clp (wr .i64 (wr .i64 ((turnS l 1).tmod 400-200)+(nrC c l).1))
noncomputable def nY (c:tChart.den) (l:List Int):Int:=bif ile (c.2.1.2.length:Int) 0 then clp (wr .i64 ((turnS l 2).tmod 400-200)) else clp (wr .i64 (wr .i64 ((turnS l 2).tmod 400-200)+(nrC c l).2.1))
theorem nX_in (c:tChart.den) (l:List Int):in10 (nX c l)=true:=by unfold nX;cases ile (c.2.1.2.length:Int) 0<;>exact clp_in _
theorem nY_in (c:tChart.den) (l:List Int):in10 (nY c l)=true:=by unfold nY;cases ile (c.2.1.2.length:Int) 0<;>exact clp_in _
theorem mod_at {a:Int} {n:Nat} (ha:0≤a) (hn:0<n):inB (a.tmod (n:Int)) n=true∧(a.tmod (n:Int)).toNat<n:=by
 have e:a.tmod (n:Int)=a % (n:Int):=Int.tmod_eq_emod_of_nonneg ha
 have h1:=Int.emod_nonneg a (show (n:Int)≠0 by omega)
 have h2:=Int.emod_lt_of_pos a (show 0<(n:Int) by omega)
 rw[e]
 exact⟨by rw[inB_iff];exact decide_eq_true ⟨h1,h2⟩,by omega⟩
theorem near_call (c:tChart.den) (l:(Ty.sl (.int .u16)).den) (hl:u16 l.2=true) (hv:(chkS c).2.2=0):AnsF H3 44 [tChart.av c,.vs (.int .u16) l.1 l.2] (.agg [.int .i64 (nX c l.2),.int .i64 (nY c l.2)]):=by
 refine Ans.call (n:=6) (ext_none (by kernel_rfl)) (hasB_spec (by kernel_rfl)) ?_
 have h:=near_start c l
 have t1:ile 0 1=true:=rfl
 have t2:ile 0 2=true:=rfl
 have t3:ile 0 3=true:=rfl
 have t0:ile 0 0=true:=rfl
 have q0:=turnS_b hl 0
 have q3:=turnS_b hl 3
 unfold nX nY
 cases c1:ile (c.2.1.2.length:Int) 0 with
 |true=>
  simp only[hl,t1,t2,c1,Bool.and_self,Bool.not_true,cond_true,cond_false] at h⊢
  exact .done (Y3_ok _) H3sy h rfl
 |false=>
  have hpos:0<c.2.1.2.length:=by rw[ile_iff] at c1;simp only[decide_eq_false_iff_not] at c1;omega
  obtain⟨m1,m2⟩:=mod_at q0.1 hpos
  have hg:=goodS_len (sd_good hv m2)
  have z1:ieq (c.2.1.2.length:Int) 0=false:=by rw[ieq_iff];exact decide_eq_false (by omega)
  unfold nrC
  unfold sd at hg
  generalize hS:c.2.1.2.getD ((turnS l.2 0).tmod (c.2.1.2.length:Int)).toNat tSand.dflt=S at h hg
  obtain⟨m3,m4⟩:=mod_at q3.1 (show 0<S.2.1.2.length by omega)
  have z2:ieq (S.2.1.2.length:Int) 0=false:=by rw[ieq_iff];exact decide_eq_false (by omega)
  simp only[hl,t0,t1,t2,t3,c1,m1,m3,z1,z2,ieq_self,bbeq_self,vsB_self,Bool.and_self,Bool.not_false,cond_true,cond_false] at h⊢
  exact .done (Y3_ok _) H3sy h rfl
noncomputable def mX (s:tSand.den) (l:List Int) (n:Int):Int:=amS s.2.2.1.1.1 s.2.2.1.1.2.1 (turnS l (2 * n))
noncomputable def mY (s:tSand.den) (l:List Int) (n:Int):Int:=amS s.2.2.1.2.1.1 s.2.2.1.2.1.2.1 (turnS l (2 * n+1))
noncomputable def LK:List Said:=[(45,con2 (.sl tI) (.sl tI) (fun a b=>Nat.ble a.2.length 1000&&Nat.ble b.2.length 1000) (fun a b=>.bool (withS a.2 b.2))),
 (44,con2 tChart (.sl (.int .u16)) (fun c l=>u16 l.2&&ieq (chkS c).2.2 0) (fun c l=>.agg [.int .i64 (nX c l.2),.int .i64 (nY c l.2)])),
 (47,con3 tSand (.sl (.int .u16)) tI (fun s l n=>u16 l.2&&goodS s&&ile 0 n&&ile n 1000) (fun s l n=>.agg [.int .i64 (mX s l.2 n),.int .i64 (mY s l.2 n)])),(22,say0 (.bool true))]
noncomputable def H4:Env:=H3.say (under (xOf LK))
theorem h4:EnvOK Tryz.prog H4:=h3.say _
end Go.Proofs.YtgaoajmlckgdaaaGreatDoor


set_option maxRecDepth 100000
namespace Go.Proofs.YtgaoajmlckgdaaaGreatDoor
open Go Go.Eng
end Go.Proofs.YtgaoajmlckgdaaaGreatDoor


set_option maxRecDepth 100000
namespace Go.Proofs.YtgaoajmlckgdaaaGreatDoor
open Go Go.Eng
theorem ckdy_start (c:tChart.den) (d m:Int):adv F1 (Z1 []) 3000 (startC F1 77 [tChart.av c,.int .i64 d,.int .i64 m] 6)=(bif !ieq (chkS c).2.2 0 then some (.done (.int .i64 ((chkS c).2.2))) else (bif !ile 0 d then some (.done (.int .i64 (7))) else (bif !ile d 40000 then some (.done (.int .i64 (7))) else (bif !ile 0 m then some (.done (.int .i64 (4))) else (bif !ile m (wr .i64 (↑c.1.2.length-1)) then some (.done (.int .i64 (4))) else some (.done (.int .i64 (0)))))))):=by kernel_rfl
theorem datd_start (c:tChart.den) (d m:Int):adv F1 (Z1 []) 3000 (startC F1 79 [tChart.av c,.int .i64 d,.int .i64 m] 6)=(bif ieq (chkS c).2.2 0 then (bif ile 0 d then (bif !ile d 40000 then some (.done (.int .i64 (7))) else (bif ieq (chkS c).2.2 0 then (bif ile 0 m then (bif !ile m (wr .i64 (↑c.1.2.length-1)) then some (.done (.int .i64 (4))) else some (.done (.int .i64 ((chkS c).2.2)))) else some (.done (.int .i64 (4)))) else some (.done (.int .i64 ((chkS c).2.2))))) else some (.done (.int .i64 (7)))) else (bif ieq (chkS c).2.2 0 then (bif ile 0 m then (bif !ile m (wr .i64 (↑c.1.2.length-1)) then some (.done (.int .i64 (4))) else some (.done (.int .i64 ((chkS c).2.2)))) else some (.done (.int .i64 (4)))) else some (.done (.int .i64 ((chkS c).2.2))))):=by kernel_rfl
theorem ckst_start (c:tChart.den) (d m:Int):adv F1 (Z1 []) 3000 (startC F1 81 [tChart.av c,.int .i64 d,.int .i64 m] 6)=(bif !ieq (chkS c).2.2 0 then (bif !ieq (chkS c).2.2 0 then some (.done (.int .i64 ((chkS c).2.2))) else (bif inB m c.1.2.length then (bif (c.1.2.getD m.toNat tMark.dflt).2.2.1.2.length.ble 1000 then (bif ieq (colF d 0 (c.1.2.getD m.toNat tMark.dflt).2.2.1.2) 0 then some (.done (.int .i64 (9))) else some (.done (.int .i64 (0)))) else none) else none)) else (bif !ile 0 d then some (.done (.int .i64 (7))) else (bif !ile d 40000 then some (.done (.int .i64 (7))) else (bif !ile 0 m then some (.done (.int .i64 (4))) else (bif !ile m (wr .i64 (↑c.1.2.length-1)) then some (.done (.int .i64 (4))) else (bif inB m c.1.2.length then (bif (c.1.2.getD m.toNat tMark.dflt).2.2.1.2.length.ble 1000 then (bif ieq (colF d 0 (c.1.2.getD m.toNat tMark.dflt).2.2.1.2) 0 then some (.done (.int .i64 (9))) else some (.done (.int .i64 (0)))) else none) else none)))))):=by kernel_rfl
theorem stnd_start (c:tChart.den) (d m:Int):adv F1 (Z1 []) 3000 (startC F1 84 [tChart.av c,.int .i64 d,.int .i64 m] 6)=(bif ieq (chkS c).2.2 0 then (bif ile 0 d then (bif !ile d 40000 then some (.done (.int .i64 (7))) else (bif ieq (chkS c).2.2 0 then (bif ile 0 m then (bif !ile m (wr .i64 (↑c.1.2.length-1)) then some (.done (.int .i64 (4))) else (bif ieq (chkS c).2.2 0 then (bif inB m c.1.2.length then (bif (c.1.2.getD m.toNat tMark.dflt).2.2.1.2.length.ble 1000 then (bif ieq (colF d 0 (c.1.2.getD m.toNat tMark.dflt).2.2.1.2) 0 then some (.done (.int .i64 (9))) else some (.done (.int .i64 ((chkS c).2.2)))) else none) else none) else some (.done (.int .i64 ((chkS c).2.2))))) else some (.done (.int .i64 (4)))) else (bif ieq (chkS c).2.2 0 then (bif inB m c.1.2.length then (bif (c.1.2.getD m.toNat tMark.dflt).2.2.1.2.length.ble 1000 then (bif ieq (colF d 0 (c.1.2.getD m.toNat tMark.dflt).2.2.1.2) 0 then some (.done (.int .i64 (9))) else some (.done (.int .i64 ((chkS c).2.2)))) else none) else none) else some (.done (.int .i64 ((chkS c).2.2)))))) else some (.done (.int .i64 (7)))) else (bif ieq (chkS c).2.2 0 then (bif ile 0 m then (bif !ile m (wr .i64 (↑c.1.2.length-1)) then some (.done (.int .i64 (4))) else (bif ieq (chkS c).2.2 0 then (bif inB m c.1.2.length then (bif (c.1.2.getD m.toNat tMark.dflt).2.2.1.2.length.ble 1000 then (bif ieq (colF d 0 (c.1.2.getD m.toNat tMark.dflt).2.2.1.2) 0 then some (.done (.int .i64 (9))) else some (.done (.int .i64 ((chkS c).2.2)))) else none) else none) else some (.done (.int .i64 ((chkS c).2.2))))) else some (.done (.int .i64 (4)))) else (bif ieq (chkS c).2.2 0 then (bif inB m c.1.2.length then (bif (c.1.2.getD m.toNat tMark.dflt).2.2.1.2.length.ble 1000 then (bif ieq (colF d 0 (c.1.2.getD m.toNat tMark.dflt).2.2.1.2) 0 then some (.done (.int .i64 (9))) else some (.done (.int .i64 ((chkS c).2.2)))) else none) else none) else some (.done (.int .i64 ((chkS c).2.2)))))):=by kernel_rfl
theorem ieq_t {a b:Int} (h:ieq a b=true):a=b:=by rw[ieq_iff] at h;simpa using h
theorem ieq_f {a b:Int} (h:ieq a b=false):a≠b:=by rw[ieq_iff] at h;simpa using h
theorem paintsE_len {l:List tP.den} (h:paintsE l=0):l.length≤4:=by
 unfold paintsE at h
 cases c1:ile 1 (l.length:Int)<;>cases c2:ile (l.length:Int) 4<;>simp only[c1,c2,Bool.and_true,Bool.and_false,Bool.and_self,cond_true,cond_false] at h<;>first|(exact absurd h (by decide))|skip
 rw[ile_iff] at c2;simp at c2;omega
noncomputable def goodM (m:tMark.den):Bool:=inF m.2.1&&Nat.ble m.2.2.1.2.length 4
theorem markE_good {mem:List Nat→Bool} {m:tMark.den} (h:markE mem m=0):goodM m=true:=by
 unfold markE at h
 cases c1:nameS m.1<;>simp only[c1,cond_true,cond_false] at h
 · exact absurd h (by decide)
 cases c2:mem m.1<;>simp only[c2,cond_true,cond_false] at h
 · cases c3 : inF m.2.1 <;> simp only [c3, cond_true, cond_false] at h
   · exact absurd h (by decide)
   · unfold goodM;rw[c3,Nat.ble_eq_true_of_le (paintsE_len h)];rfl
 · exact absurd h (by decide)
theorem marksS_good {k:(List Nat→Bool)→Int×Int×Int}:∀ {l:List tMark.den} {mem:List Nat→Bool} {i:Nat},(marksS k mem i l).2.2=0→l.all goodM=true∧∃ mem',marksS k mem i l=k mem'
 |[],mem,i,h=>⟨rfl,mem,rfl⟩
 | m :: l, mem, i, h => by
  rw[marksS] at h⊢
  cases c:ieq (markE mem m) 0 with
  |false=>rw[c,cond_false] at h;exact absurd h (ieq_f c)
  |true=>
   rw[c,cond_true] at h
   obtain⟨h1,mem',h2⟩:=marksS_good h
   refine⟨?_,mem',by rw[cond_true];exact h2⟩
   rw[List.all_cons,h1,markE_good (ieq_t c)];rfl
theorem valid_marks {c:tChart.den} (h:(chkS c).2.2=0):c.1.2.length≤8∧c.1.2.all goodM=true:=by
 unfold chkS at h
 cases e:ile (c.1.2.length:Int) 8<;>rw[e] at h
 · rw[cond_false] at h;exact absurd h (by decide)
 · rw [cond_true] at h
   refine⟨?_,(marksS_good h).1⟩
   rw[ile_iff] at e;simp at e;omega
noncomputable def mk (c:tChart.den) (m:Int):tMark.den:=c.1.2.getD m.toNat tMark.dflt
theorem mk_good {c:tChart.den} (h:(chkS c).2.2=0) {m:Int} (hm:inB m c.1.2.length=true):inF (mk c m).2.1=true∧(mk c m).2.2.1.2.length≤4:=by
 have h1:=(valid_marks h).2
 rw[inB_iff] at hm
 simp only[decide_eq_true_eq] at hm
 have hlt:m.toNat<c.1.2.length:=by omega
 have h2:=List.all_eq_true.1 h1 (mk c m) (by unfold mk;simp[hlt])
 unfold goodM at h2
 rw[Bool.and_eq_true] at h2
 exact⟨h2.1,Nat.le_of_ble_eq_true h2.2⟩
theorem wr_len {n:Nat} (h:n≤8):wr .i64 ((n:Int)-1)=(n:Int)-1:=wr_in (by omega) (by omega)
theorem inB_of {m:Int} {n:Nat} (h1:ile 0 m=true) (h2:ile m ((n:Int)-1)=true):inB m n=true:=by
 rw[ile_iff] at h1 h2
 rw[inB_iff]
 simp only[decide_eq_true_eq] at h1 h2⊢
 omega
noncomputable def datE (c:tChart.den) (d m:Int):Int:=bif ieq (chkS c).2.2 0 then (bif ile 0 d&&ile d 40000 then (bif ile 0 m&&ile m ((c.1.2.length:Int)-1) then 0 else 4) else 7) else (chkS c).2.2
theorem ckdy_call (c:tChart.den) (d m:Int):AnsF F1 77 [tChart.av c,.int .i64 d,.int .i64 m] (.int .i64 (datE c d m)):=by
 refine Ans.call (n:=6) (ext_none (by kernel_rfl)) (hasB_spec (by kernel_rfl)) ?_
 have h:=ckdy_start c d m
 unfold datE
 cases c1:ieq (chkS c).2.2 0 with
 |false=>
  simp only[c1,Bool.not_false,cond_true,cond_false] at h⊢
  exact .doneI (Z1_ok _) F1sy h rfl
 | true =>
  simp only[wr_len (valid_marks (ieq_t c1)).1] at h
  cases d1:ile 0 d<;>cases d2:ile d 40000<;>cases m1:ile 0 m<;>cases m2:ile m ((c.1.2.length:Int)-1) <;>
   (simp only[c1,d1,d2,m1,m2,Bool.not_false,Bool.not_true,cond_true,cond_false,Bool.and_self,Bool.and_true,Bool.and_false] at h⊢;exact .doneI (Z1_ok _) F1sy h rfl)
theorem datd_call (c:tChart.den) (d m:Int):AnsF F1 79 [tChart.av c,.int .i64 d,.int .i64 m] (.int .i64 (datE c d m)):=by
 refine Ans.call (n:=6) (ext_none (by kernel_rfl)) (hasB_spec (by kernel_rfl)) ?_
 have h:=datd_start c d m
 unfold datE
 cases c1:ieq (chkS c).2.2 0 with
 |false=>
  simp only[c1,Bool.not_false,cond_true,cond_false] at h⊢
  exact .doneI (Z1_ok _) F1sy h rfl
 | true =>
  simp only[wr_len (valid_marks (ieq_t c1)).1,ieq_t c1] at h
  cases d1:ile 0 d<;>cases d2:ile d 40000<;>cases m1:ile 0 m<;>cases m2:ile m ((c.1.2.length:Int)-1) <;>
   (simp only[d1,d2,m1,m2,ieq_self,Bool.not_false,Bool.not_true,cond_true,cond_false,Bool.and_self,Bool.and_true,Bool.and_false] at h⊢;exact .doneI (Z1_ok _) F1sy h rfl)
noncomputable def stdE (c:tChart.den) (d m:Int):Int:=bif ieq (datE c d m) 0 then (bif ieq (colF d 0 (mk c m).2.2.1.2) 0 then 9 else 0) else datE c d m
theorem ckst_call (c:tChart.den) (d m:Int):AnsF F1 81 [tChart.av c,.int .i64 d,.int .i64 m] (.int .i64 (stdE c d m)):=by
 refine Ans.call (n:=6) (ext_none (by kernel_rfl)) (hasB_spec (by kernel_rfl)) ?_
 have h:=ckst_start c d m
 unfold stdE datE
 cases c1:ieq (chkS c).2.2 0 with
 |false=>
  simp only[c1,Bool.not_false,cond_true,cond_false] at h⊢
  exact .doneI (Z1_ok _) F1sy h rfl
 | true =>
  have hv:=ieq_t c1
  simp only[wr_len (valid_marks hv).1] at h
  have e4:ieq 4 0=false:=rfl
  have e7:ieq 7 0=false:=rfl
  cases d1:ile 0 d<;>cases d2:ile d 40000<;>cases m1:ile 0 m<;>cases m2:ile m ((c.1.2.length:Int)-1) <;>
   try (simp only[c1,d1,d2,m1,m2,e4,e7,Bool.not_false,Bool.not_true,cond_true,cond_false,Bool.and_self,Bool.and_true,Bool.and_false] at h⊢;exact .doneI (Z1_ok _) F1sy h rfl)
  have hb:=inB_of m1 m2
  have hp:((mk c m).2.2.1.2.length).ble 1000=true:=Nat.ble_eq_true_of_le (by have:=(mk_good hv hb).2;omega)
  unfold mk at hp⊢
  cases e:ieq (colF d 0 (c.1.2.getD m.toNat tMark.dflt).2.2.1.2) 0 <;>
   (simp only[c1,d1,d2,m1,m2,hb,hp,e,ieq_self,Bool.not_false,Bool.not_true,cond_true,cond_false,Bool.and_self] at h⊢;exact .doneI (Z1_ok _) F1sy h rfl)
theorem stnd_call (c:tChart.den) (d m:Int):AnsF F1 84 [tChart.av c,.int .i64 d,.int .i64 m] (.int .i64 (stdE c d m)):=by
 refine Ans.call (n:=6) (ext_none (by kernel_rfl)) (hasB_spec (by kernel_rfl)) ?_
 have h:=stnd_start c d m
 unfold stdE datE
 cases c1:ieq (chkS c).2.2 0 with
 |false=>
  simp only[c1,Bool.not_false,cond_true,cond_false] at h⊢
  exact .doneI (Z1_ok _) F1sy h rfl
 | true =>
  have hv:=ieq_t c1
  simp only[wr_len (valid_marks hv).1,hv] at h
  have e4:ieq 4 0=false:=rfl
  have e7:ieq 7 0=false:=rfl
  cases d1:ile 0 d<;>cases d2:ile d 40000<;>cases m1:ile 0 m<;>cases m2:ile m ((c.1.2.length:Int)-1) <;>
   try (simp only[d1,d2,m1,m2,e4,e7,ieq_self,Bool.not_false,Bool.not_true,cond_true,cond_false,Bool.and_self,Bool.and_true,Bool.and_false] at h⊢;exact .doneI (Z1_ok _) F1sy h rfl)
  have hb:=inB_of m1 m2
  have hp:((mk c m).2.2.1.2.length).ble 1000=true:=Nat.ble_eq_true_of_le (by have:=(mk_good hv hb).2;omega)
  unfold mk at hp⊢
  cases e:ieq (colF d 0 (c.1.2.getD m.toNat tMark.dflt).2.2.1.2) 0 <;>
   (simp only[d1,d2,m1,m2,hb,hp,e,ieq_self,Bool.not_false,Bool.not_true,cond_true,cond_false,Bool.and_self] at h⊢;exact .doneI (Z1_ok _) F1sy h rfl)
noncomputable def datX:List AV→Option (Bool×AV):=con3 tChart tI tI (fun _ _ _=>true) (fun c d m=>.int .i64 (datE c d m))
noncomputable def stdX:List AV→Option (Bool×AV):=con3 tChart tI tI (fun _ _ _=>true) (fun c d m=>.int .i64 (stdE c d m))
noncomputable def LB:List Said:=[(77,datX),(79,datX),(81,stdX),(84,stdX),(82,con1 tP (fun v=>inW v.1 v.2.1) (fun v=>.int .i64 (ptF v.1 v.2.1))),
 (85,con1 tP (fun v=>inW v.1 v.2.1&&nz v.1 v.2.1) (fun v=>.int .i64 (ptF v.1 v.2.1))),(72,con1 tBox (fun b=>bK b.1.1 b.1.2.1 b.2.1.1 b.2.1.2.1) (fun b=>.vs tP false (pts b.1.1 b.1.2.1 b.2.1.1 b.2.1.2.1)))]
theorem LB_ok:∀ e∈LB,SaidG Tryz.prog F1.glob e:=
 saids_cons (SaidOK.g f1 xf1 nf1 tabs_ok.mix (fun _ _ h=>con3_spec (t:=tChart) (u:=tI) (w:=tI) (fun c d m _=>ckdy_call c d m) h) rfl)
 (saids_cons (SaidOK.g f1 xf1 nf1 tabs_ok.mix (fun _ _ h=>con3_spec (t:=tChart) (u:=tI) (w:=tI) (fun c d m _=>datd_call c d m) h) rfl)
 (saids_cons (SaidOK.g f1 xf1 nf1 tabs_ok.mix (fun _ _ h=>con3_spec (t:=tChart) (u:=tI) (w:=tI) (fun c d m _=>ckst_call c d m) h) rfl)
 (saids_cons (SaidOK.g f1 xf1 nf1 tabs_ok.mix (fun _ _ h=>con3_spec (t:=tChart) (u:=tI) (w:=tI) (fun c d m _=>stnd_call c d m) h) rfl)
 (saids_cons (SaidOK.g f1 xf1 nf1 tabs_ok.mix (fun _ _ h=>con1_spec (t:=tP) (fun v hv=>ptOf_call v hv) h) rfl)
 (saids_cons (SaidOK.g f1 xf1 nf1 tabs_ok.mix (fun _ _ h=>con1_spec (t:=tP) (fun v hv=>towa_call v (Bool.and_eq_true _ _▸hv).1 (Bool.and_eq_true _ _▸hv).2) h) rfl)
 (saids_cons (SaidOK.g f1 xf1 nf1 tabs_ok.mix (fun _ _ h=>con1_spec (t:=tBox) (fun b hb=>movs_call b hb) h) rfl) saids_nil))))))
noncomputable def F2:Env:=F1.say (under (xOf LB))
theorem f2:EnvOK Tryz.prog F2:=f1.say _
theorem nf2:NameOK F2:=nf1.say _
theorem xf2:ExtOK Tryz.prog F2:=xf1.sayL LB_ok
theorem F2sy:F2.sy=true:=rfl
noncomputable def Z2 (l:List Nat):Sy:=(Z1 []).on LB l
theorem Z2_ok (l:List Nat):(Z2 l).ok F2:=Sy.on_ok (Z1_ok _)
end Go.Proofs.YtgaoajmlckgdaaaGreatDoor


set_option maxRecDepth 100000
namespace Go.Proofs.YtgaoajmlckgdaaaGreatDoor
open Go Go.Eng
theorem seen_start (c:tChart.den) (d m:Int) (v:tP.den):adv F2 (Z2 []) 3000 (startC F2 32 [tChart.av c,.int .i64 d,.int .i64 m,tP.av v] 6)=(bif !ieq (stdE c d m) 0 then some (.done (.tup [(.int .i64 (0)),(.int .i64 (stdE c d m))])) else (bif !ile (-30000) v.1 then some (.done (.tup [(.int .i64 (0)),(.int .i64 (7))])) else (bif !ile v.1 30000 then some (.done (.tup [(.int .i64 (0)),(.int .i64 (7))])) else (bif !ile (-30000) v.2.1 then some (.done (.tup [(.int .i64 (0)),(.int .i64 (7))])) else (bif !ile v.2.1 30000 then some (.done (.tup [(.int .i64 (0)),(.int .i64 (7))])) else (bif inB m c.1.2.length then (bif ieq (c.1.2.getD m.toNat tMark.dflt).2.1.1 v.1&&(ieq (c.1.2.getD m.toNat tMark.dflt).2.1.2.1 v.2.1&&true) then some (.done (.tup [(.int .i64 (0)),(.int .i64 (8))])) else (bif inW (wr .i64 ((c.1.2.getD m.toNat tMark.dflt).2.1.1-v.1)) (wr .i64 ((c.1.2.getD m.toNat tMark.dflt).2.1.2.1-v.2.1)) then some (.done (.tup [(.int .i64 (ptF (wr .i64 ((c.1.2.getD m.toNat tMark.dflt).2.1.1-v.1)) (wr .i64 ((c.1.2.getD m.toNat tMark.dflt).2.1.2.1-v.2.1)))),(.int .i64 (0))])) else none)) else none)))))):=by kernel_rfl
noncomputable def tup2 (r:Int×Int):AV:=.tup [.int .i64 r.1,.int .i64 r.2]
theorem done2 {E:Env} {S:Sy} (hS:S.ok E) (hsy:E.sy=true) {n:Nat} {c:Cfg} {a b:Int} {r:Int×Int} (h:adv E S n c=some (.done (.tup [.int .i64 a,.int .i64 b]))) (e:(a,b)=r):Ans E c (tup2 r):=
 e▸Ans.done hS hsy h rfl
theorem datE_ok {c:tChart.den} {d m:Int} (h:datE c d m=0):(chkS c).2.2=0∧inB m c.1.2.length=true:=by
 unfold datE at h
 cases c1:ieq (chkS c).2.2 0 with
 |false=>rw[c1,cond_false] at h;exact absurd h (ieq_f c1)
 | true =>
  rw[c1,cond_true] at h
  cases d1:ile 0 d<;>cases d2:ile d 40000<;>cases m1:ile 0 m<;>cases m2:ile m ((c.1.2.length:Int)-1) <;>
   simp only[d1,d2,m1,m2,Bool.and_self,Bool.and_true,Bool.and_false,cond_true,cond_false] at h <;>
   first
    |(exact absurd h (by decide))
    |exact⟨ieq_t c1,inB_of m1 m2⟩
theorem stdE_ok {c:tChart.den} {d m:Int} (h:stdE c d m=0):datE c d m=0:=by
 unfold stdE at h
 cases c1:ieq (datE c d m) 0 with
 |false=>rw[c1,cond_false] at h;exact h
 |true=>exact ieq_t c1
noncomputable def inR (x y:Int):Bool:=ile (-30000) x&&ile x 30000&&ile (-30000) y&&ile y 30000
theorem inR_iff {x y:Int}:inR x y=true↔((-30000≤x∧x≤30000)∧-30000≤y)∧y≤30000:=by
 simp only[inR,Bool.and_eq_true,ile_iff,decide_eq_true_eq]
noncomputable def seeF (a b x y:Int):Int×Int:=bif ieq a x&&ieq b y then (0,8) else (ptF (a-x) (b-y),0)
noncomputable def seeS (c:tChart.den) (d m x y:Int):Int×Int:=bif ieq (stdE c d m) 0 then (bif inR x y then seeF (mk c m).2.1.1 (mk c m).2.1.2.1 x y else (0,7)) else (0,stdE c d m)
theorem dif_wr {a b x y:Int} (h:inR a b=true) (k:inR x y=true):wr .i64 (a-x)=a-x∧wr .i64 (b-y)=b-y∧inW (a-x) (b-y)=true:=by
 rw[inR_iff] at h k
 refine⟨wr_in (by omega) (by omega),wr_in (by omega) (by omega),?_⟩
 rw[inW_iff];omega
theorem mk_in {c:tChart.den} (h:(chkS c).2.2=0) {m:Int} (hm:inB m c.1.2.length=true):inR (mk c m).2.1.1 (mk c m).2.1.2.1=true:=(mk_good h hm).1
theorem seen_call (c:tChart.den) (d m:Int) (v:tP.den):AnsF F2 32 [tChart.av c,.int .i64 d,.int .i64 m,tP.av v] (tup2 (seeS c d m v.1 v.2.1)):=by
 refine Ans.call (n:=6) (ext_none (by kernel_rfl)) (hasB_spec (by kernel_rfl)) ?_
 have h:=seen_start c d m v
 unfold seeS
 cases c1:ieq (stdE c d m) 0 with
 |false=>
  simp only[c1,Bool.not_false,cond_true,cond_false] at h⊢
  exact done2 (Z2_ok _) F2sy h rfl
 | true =>
  have hv:=datE_ok (stdE_ok (ieq_t c1))
  have hm:=mk_in hv.1 hv.2
  obtain⟨x,hx⟩:∃ x:Int,v.1=x:=⟨_,rfl⟩
  obtain⟨y,hy⟩:∃ y:Int,v.2.1=y:=⟨_,rfl⟩
  unfold mk at hm⊢
  obtain⟨a,ha⟩:∃ x:Int,(c.1.2.getD m.toNat tMark.dflt).2.1.1=x:=⟨_,rfl⟩
  obtain⟨b,hb⟩:∃ x:Int,(c.1.2.getD m.toNat tMark.dflt).2.1.2.1=x:=⟨_,rfl⟩
  simp only[c1,hv.2,hx,hy,ha,hb,Bool.not_true,cond_true,cond_false] at h hm⊢
  unfold inR at⊢
  cases d1:ile (-30000) x<;>cases d2:ile x 30000<;>cases d3:ile (-30000) y<;>cases d4:ile y 30000 <;>
   try (simp only[d1,d2,d3,d4,Bool.not_false,Bool.not_true,Bool.and_self,Bool.and_true,Bool.and_false,Bool.false_and,cond_true,cond_false] at h⊢;exact done2 (Z2_ok _) F2sy h rfl)
  have hxy:inR x y=true:=by unfold inR;rw[d1,d2,d3,d4];rfl
  obtain⟨w1,w2,w3⟩:=dif_wr hm hxy
  simp only[d1,d2,d3,d4,w1,w2,w3,Bool.not_true,Bool.and_true,cond_true,cond_false] at h⊢
  unfold seeF
  cases e:(ieq a x&&ieq b y)<;>(simp only[e,cond_true,cond_false] at h⊢;exact done2 (Z2_ok _) F2sy h rfl)
end Go.Proofs.YtgaoajmlckgdaaaGreatDoor


set_option maxRecDepth 100000
namespace Go.Proofs.YtgaoajmlckgdaaaGreatDoor
open Go Go.Eng
end Go.Proofs.YtgaoajmlckgdaaaGreatDoor


set_option maxRecDepth 100000
namespace Go.Proofs.YtgaoajmlckgdaaaGreatDoor
open Go Go.Eng
abbrev tI2:Ty:=.cons (.int .i16) (.cons (.int .i16) .nil)
abbrev tFrom:Ty:=.cons (.int .u16) (.cons (.int .u8) (.cons tI2 .nil))
end Go.Proofs.YtgaoajmlckgdaaaGreatDoor


set_option maxRecDepth 100000
namespace Go.Proofs.YtgaoajmlckgdaaaGreatDoor
open Go Go.Eng
noncomputable def tx (k:Nat):Int:=(vtab.getD k (0,0)).1
noncomputable def ty (k:Nat):Int:=(vtab.getD k (0,0)).2
noncomputable def lN (x y:Int) (k:Nat):Int:=tx k * y-ty k * x
theorem lN_eq {x y:Int} {k:Nat} (hk:k<32):lf x y k=lN x y k:=by
 have hv:inV (k:Int)=true:=by rw[inV_iff];omega
 unfold lf vx vy lN tx ty
 rw[hv];rfl
noncomputable def dN (a b:Nat):Int:=tx a * ty b-ty a * tx b
theorem dN_neg:((List.range 32).all fun a=>(List.range 14).all fun t=>!ile 0 (dN a ((a+t+2) % 32))&&!ile 0 (dN ((a+1) % 32) ((a+t+2) % 32))&&!ile 0 (dN a ((a+1) % 32)))=true:=by kernel_rfl
theorem t_opp:((List.range 32).all fun a=>ieq (tx ((a+16) % 32)) (-tx a)&&ieq (ty ((a+16) % 32)) (-ty a))=true:=by kernel_rfl
theorem ile_n {a:Int} (h:(!ile 0 a)=true):a<0:=by
 rw[Bool.not_eq_true',ile_iff,decide_eq_false_iff_not] at h
 omega
theorem dN_at {a t:Nat} (ha:a<32) (ht:2≤t) (ht2:t<16):dN a ((a+t) % 32)<0∧dN ((a+1) % 32) ((a+t) % 32)<0∧dN a ((a+1) % 32)<0:=by
 have h:=List.all_eq_true.1 (List.all_eq_true.1 dN_neg a (List.mem_range.2 ha)) (t-2) (List.mem_range.2 (by omega))
 rw[show a+(t-2)+2=a+t by omega] at h
 simp only[Bool.and_eq_true] at h
 exact⟨ile_n h.1.1,ile_n h.1.2,ile_n h.2⟩
theorem lN_opp {x y:Int} {a:Nat} (ha:a<32):lN (-x) (-y) ((a+16) % 32)=lN x y a∧lN x y ((a+16) % 32)=-lN x y a:=by
 have h:=List.all_eq_true.1 t_opp a (List.mem_range.2 ha)
 simp only[Bool.and_eq_true,ieq_iff,decide_eq_true_eq] at h
 unfold lN
 rw[h.1,h.2]
 constructor
 · rw[Int.neg_mul_neg,Int.neg_mul_neg]
 · rw[Int.neg_mul,Int.neg_mul];omega
theorem lN_conv {x y:Int} (i j k:Nat):lN x y j * dN i k=dN j k * lN x y i+dN i j * lN x y k:=by
 unfold lN dN
 generalize tx i=a
 generalize tx j=b
 generalize tx k=c
 generalize ty i=d
 generalize ty j=e
 generalize ty k=f
 grind
theorem mul_pos' {a b:Int} (ha:a<0) (hb:b≤0):0≤a * b:=by
 have:=Int.mul_nonneg (show 0≤-a by omega) (show 0≤-b by omega)
 rwa [Int.neg_mul_neg] at this
theorem good_iff {x y:Int} {k:Nat} (hk:k<32):goodP x y k=true↔lN x y k≤0∧0<lN x y ((k+1) % 32):=by
 unfold goodP
 rw[nxt_eq,lN_eq hk,lN_eq (Nat.mod_lt _ (by omega))]
 simp only[Bool.and_eq_true,Bool.not_eq_true',ile_iff,decide_eq_true_eq,decide_eq_false_iff_not]
 omega
theorem good_near {x y:Int} {a t:Nat} (ha:a<32) (h1:0<t) (h2:t≤16) (g:goodP x y a=true) (h:goodP x y ((a+t) % 32)=true):False:=by
 rw[good_iff ha] at g
 rw[good_iff (Nat.mod_lt _ (by omega))] at h
 by_cases e:t=1
 · subst e;omega
 by_cases e2:t=16
 · subst e2
   have q:=(lN_opp (x:=x) (y:=y) (Nat.mod_lt (a+1) (show 32 > 0 by omega))).2
   rw[show ((a+1) % 32+16) % 32=((a+16) % 32+1) % 32 by omega] at q
   omega
 obtain⟨d1,d2,d3⟩:=dN_at ha (show 2≤t by omega) (show t<16 by omega)
 have c:=lN_conv (x:=x) (y:=y) a ((a+1) % 32) ((a+t) % 32)
 have z1:=mul_pos' d2 g.1
 have z2:=mul_pos' d3 h.1
 have z3:=Int.mul_neg_of_pos_of_neg g.2 d1
 omega
theorem good_one {x y:Int} {a b:Nat} (ha:a<32) (hb:b<32) (g:goodP x y a=true) (h:goodP x y b=true):a=b:=by
 refine Classical.byContradiction (fun hne=>?_)
 by_cases hl:a<b
 · by_cases hd : b - a ≤ 16
   · exact good_near ha (show 0<b-a by omega) hd g (by rw[show (a+(b-a)) % 32=b by omega];exact h)
   · exact good_near hb (show 0<32-(b-a) by omega) (by omega) h (by rw[show (b+(32-(b-a))) % 32=a by omega];exact g)
 · by_cases hd : a - b ≤ 16
   · exact good_near hb (show 0<a-b by omega) hd h (by rw[show (b+(a-b)) % 32=a by omega];exact g)
   · exact good_near ha (show 0<32-(a-b) by omega) (by omega) g (by rw[show (a+(32-(a-b))) % 32=b by omega];exact h)
theorem ptGo_good {x y:Int}:∀ (r k:Nat),(∃ j,k≤j∧j<k+r∧goodP x y j=true)→∃ j,j<k+r∧goodP x y j=true∧ptGo x y k r=(j:Int)
 |0,k,⟨j,h1,h2,_⟩=>by omega
 | r + 1, k, ⟨j, h1, h2, h3⟩ => by
  rw[ptGo]
  cases e:goodP x y k with
  |true=>exact⟨k,by omega,e,rfl⟩
  | false =>
   rw[cond_false]
   obtain⟨i,h4,h5,h6⟩:=ptGo_good r (k+1) ⟨j,by
    have:j≠k:=fun q=>by rw[q,e] at h3;cases h3
    omega,by omega,h3⟩
   exact⟨i,by omega,h5,h6⟩
theorem ptF_good {x y:Int} (h:¬(x=0∧y=0)):∃ j,j<32∧goodP x y j=true∧ptF x y=(j:Int):=by
 obtain⟨j,h1,h2⟩:=good_ex x y h
 obtain⟨i,h3,h4,h5⟩:=ptGo_good 32 0 ⟨j,by omega,by omega,h2⟩
 exact⟨i,by omega,h4,h5⟩
end Go.Proofs.YtgaoajmlckgdaaaGreatDoor


set_option maxRecDepth 100000
namespace Go.Proofs.YtgaoajmlckgdaaaGreatDoor
open Go Go.Eng
theorem rad_is {c:tChart.den} {P Q:Int} (hv:(chkS c).2.2=0) (h1:in10 P=true) (h2:in10 Q=true):radS c P Q=(topR c.2.1.2 P Q,0):=by
 unfold radS;rw[hv,ieq_self,h1,h2];rfl
theorem hit_iff {S:List tSand.den} {px py r:Int} (hr:0<r) (hS:S.all goodS=true):hitR S px py r=true↔∃ i:Nat,i<S.length∧∃ a b:Int,
  ((S.getD i tSand.dflt).2.2.1.1.1≤a∧a≤(S.getD i tSand.dflt).2.2.1.1.2.1)∧((S.getD i tSand.dflt).2.2.1.2.1.1≤b∧b≤(S.getD i tSand.dflt).2.2.1.2.1.2.1)∧incF (S.getD i tSand.dflt).2.1.2 (px-a) (py-b) r=true:=by
 have hg:∀ i,i<S.length→goodS (S.getD i tSand.dflt)=true:=fun i hi=>by
  rw[List.getD_eq_getElem?_getD,List.getElem?_eq_getElem hi]
  exact List.all_eq_true.1 hS _ (List.getElem_mem hi)
 constructor
 · intro h
   have hf:firS S px py r=firF S px py r 0 S.length:=by
    unfold firS
    rw[show ieq r 0=false by rw[ieq_iff];exact decide_eq_false (by omega),cond_false]
   unfold hitR at h
   rw[hf] at h
   obtain⟨j,hj,e1,e2,e3⟩:=(firF_is S.length 0).1 h
   obtain⟨u,v,po1,p2,p3,p4,p5⟩:=(fmP_is (px:=px) (py:=py) (r:=r) rfl rfl rfl rfl (hg j (by omega))).1 e2
   exact⟨j,by omega,u,v,p2,p3,p4⟩
 · rintro ⟨i, hi, a, b, h1, h2, h3⟩
   cases e:hitR S px py r with
   |true=>rfl
   |false=>
    have:=clear_all hr e hi (hg i hi) h1 h2
    rw[h3] at this;cases this
theorem t_rot:((List.range 32).all fun a=>ieq (tx ((a+8) % 32)) (ty a)&&ieq (ty ((a+8) % 32)) (-tx a))=true:=by kernel_rfl
theorem lN_rot {x y:Int} {a:Nat} (ha:a<32):lN y (-x) ((a+8) % 32)=lN x y a:=by
 have h:=List.all_eq_true.1 t_rot a (List.mem_range.2 ha)
 simp only[Bool.and_eq_true,ieq_iff,decide_eq_true_eq] at h
 unfold lN
 rw[h.1,h.2,Int.mul_neg,Int.neg_mul]
 omega
theorem ptF_rot {x y:Int} (h:¬(x=0∧y=0)):ptF y (-x)=(ptF x y+8) % 32∧0≤ptF x y∧ptF x y<32:=by
 obtain⟨i,h1,h2,h3⟩:=ptF_good h
 obtain⟨j,h4,h5,h6⟩:=ptF_good (x:=y) (y:=-x) (by omega)
 have g:goodP y (-x) ((i+8) % 32)=true:=by
  rw[good_iff (Nat.mod_lt _ (by omega))]
  rw[good_iff h1] at h2
  have e1:=lN_rot (x:=x) (y:=y) h1
  have e2:=lN_rot (x:=x) (y:=y) (Nat.mod_lt (i+1) (show 32 > 0 by omega))
  rw[show ((i+1) % 32+8) % 32=((i+8) % 32+1) % 32 by omega] at e2
  rw[e1,e2];exact h2
 have:=good_one h4 (Nat.mod_lt _ (by omega)) h5 g
 rw[h3,h6,this]
 omega
def RotC (C D:List tP.den):Prop:=D.length=C.length∧∀ k,k<C.length→gx D k=gy C k∧gy D k=-gx C k
theorem sAB_rot {C D:List tP.den} (h:RotC C D) {k:Nat} (hk:k<C.length):sA D k=sB C k∧sB D k=-sA C k∧∀ dx dy,sL D k dy (-dx)=sL C k dx dy:=by
 obtain⟨hl,h⟩:=h
 have a:=h k hk
 have b:=h _ (Nat.mod_lt (k+1) (show C.length > 0 by omega))
 have e1:sA D k=sB C k:=by unfold sA sB;rw[hl,a.1,b.1]
 have e2:sB D k=-sA C k:=by unfold sA sB;rw[hl,a.2,b.2];omega
 refine⟨e1,e2,fun dx dy=>?_⟩
 unfold sL
 rw[e1,e2,a.1,a.2,show -dx - -gx C k=-(dx-gx C k) by omega,Int.mul_neg,Int.neg_mul]
 omega
theorem lies_rot {dx dy:Int} {C D:List tP.den} (h:RotC C D):∀ (r k:Nat),k+r≤C.length→liesF D dy (-dx) k r=liesF C dx dy k r
 |0,_,_=>rfl
 |r+1,k,hk=>by rw[liesF,liesF,(sAB_rot h (show k<C.length by omega)).2.2,lies_rot h r (k+1) (by omega)]
theorem near_rot (ax ay vx vy r:Int):nearI ay (-ax) vy (-vx) r=nearI ax ay vx vy r:=by
 have e1:ay * vy + -ax * -vx=ax * vx+ay * vy:=by rw[Int.neg_mul_neg];omega
 have e2:vy * vy + -vx * -vx=vx * vx+vy * vy:=by rw[Int.neg_mul_neg];omega
 have e3:ay * ay + -ax * -ax=ax * ax+ay * ay:=by rw[Int.neg_mul_neg];omega
 have e4:(vy-ay) * (vy-ay)+(-vx - -ax) * (-vx - -ax)=(vx-ax) * (vx-ax)+(vy-ay) * (vy-ay):=by
  rw[show -vx - -ax=-(vx-ax) by omega,Int.neg_mul_neg];omega
 have e5:ay * -vx - -ax * vy=ax * vy-ay * vx:=by rw[Int.mul_neg,Int.neg_mul];omega
 unfold nearI
 rw[e1,e2,e3,e4,e5]
theorem sid_rot {dx dy r:Int} {C D:List tP.den} (h:RotC C D):∀ (n k:Nat),k+n≤C.length→sidF D dy (-dx) r k n=sidF C dx dy r k n
 |0,_,_=>rfl
 |n+1,k,hk=>by
  have a:=h.2 k (by omega)
  obtain⟨e1,e2,_⟩:=sAB_rot h (show k<C.length by omega)
  rw[sidF,sidF,e1,e2,a.1,a.2,show -dx - -gx C k=-(dx-gx C k) by omega,near_rot,sid_rot h n (k+1) (by omega)]
theorem inc_rot {P Q u v r:Int} {C D:List tP.den} (h:RotC C D):incF D (Q-v) (-P - -u) r=incF C (P-u) (Q-v) r:=by
 unfold incF
 rw[show -P - -u=-(P-u) by omega,h.1,sid_rot h _ _ (by omega),lies_rot h _ _ (by omega)]
def RotS (s t:tSand.den):Prop:=RotC s.2.1.2 t.2.1.2∧(t.2.2.1.1.1=s.2.2.1.2.1.1∧t.2.2.1.1.2.1=s.2.2.1.2.1.2.1)∧t.2.2.1.2.1.1=-s.2.2.1.1.2.1∧t.2.2.1.2.1.2.1=-s.2.2.1.1.1
section
variable {c W:tChart.den} (hc:(chkS c).2.2=0) (hW:(chkS W).2.2=0) (hl:W.2.1.2.length=c.2.1.2.length) (h:∀ i,i<c.2.1.2.length→RotS (sd c i) (sd W i)) {P Q:Int}
include hc hW hl h
theorem hit_rot {r:Int} (hr:0<r):hitR W.2.1.2 Q (-P) r=hitR c.2.1.2 P Q r:=by
 rw[Bool.eq_iff_iff,hit_iff hr (valid_sands hc).2,hit_iff hr (valid_sands hW).2,hl]
 constructor
 · rintro ⟨i, hi, a, b, h1, h2, h3⟩
   obtain⟨hC,⟨m1,m2⟩,m3,m4⟩:=h i hi
   unfold sd at hC m1 m2 m3 m4
   obtain⟨x0,e0⟩:∃ x:Int,(c.2.1.2.getD i tSand.dflt).2.2.1.1.1=x:=⟨_,rfl⟩
   obtain⟨x1,e1⟩:∃ x:Int,(c.2.1.2.getD i tSand.dflt).2.2.1.1.2.1=x:=⟨_,rfl⟩
   rw[m1,m2] at h1
   rw[m3,m4,e0,e1] at h2
   refine⟨i,hi,-b,a,?_,h1,?_⟩
   · rw [e0, e1]
     have h2':-x1≤b∧b≤-x0:=h2
     exact⟨show x0≤-b by omega,show -b≤x1 by omega⟩
   · rw[← inc_rot hC,Int.neg_neg];exact h3
 · rintro ⟨i, hi, a, b, h1, h2, h3⟩
   obtain⟨hC,⟨m1,m2⟩,m3,m4⟩:=h i hi
   unfold sd at hC m1 m2 m3 m4
   obtain⟨x0,e0⟩:∃ x:Int,(c.2.1.2.getD i tSand.dflt).2.2.1.1.1=x:=⟨_,rfl⟩
   obtain⟨x1,e1⟩:∃ x:Int,(c.2.1.2.getD i tSand.dflt).2.2.1.1.2.1=x:=⟨_,rfl⟩
   rw[e0,e1] at h1
   refine⟨i,hi,b,-a,?_,?_,?_⟩
   · rw[m1,m2];exact h2
   · rw [m3, m4, e0, e1]
     have h1':x0≤a∧a≤x1:=h1
     exact⟨show -x1≤-a by omega,show -a≤-x0 by omega⟩
   · rw[inc_rot hC];exact h3
theorem rad_rot (hP:in10 P=true) (hQ:in10 Q=true) (hP':in10 (-P)=true):radS W Q (-P)=radS c P Q:=by
 rw[rad_is hc hP hQ,rad_is hW hQ hP']
 obtain⟨⟨a1,a2⟩,a3⟩:=topR_is c.2.1.2 P Q
 obtain⟨⟨b1,b2⟩,b3⟩:=topR_is W.2.1.2 Q (-P)
 have key:topR W.2.1.2 Q (-P)=topR c.2.1.2 P Q:=by
  obtain⟨x,hx⟩:∃ x,topR c.2.1.2 P Q=x:=⟨_,rfl⟩
  obtain⟨y,hy⟩:∃ y,topR W.2.1.2 Q (-P)=y:=⟨_,rfl⟩
  rw[hx] at a1 a2 a3
  rw[hy] at b1 b2 b3
  rw[hx,hy]
  refine Classical.byContradiction (fun hne=>?_)
  by_cases hlt:x<y
  · have h1 := (a3 (x + 1) (by omega) (by omega)).2 (by omega)
    rw[← hit_rot hc hW hl h (by omega)] at h1
    have:=(b3 (x+1) (by omega) (by omega)).1 h1
    omega
  · have h1 := (b3 (y + 1) (by omega) (by omega)).2 (by omega)
    rw[hit_rot hc hW hl h (by omega)] at h1
    have:=(a3 (y+1) (by omega) (by omega)).1 h1
    omega
 rw[key]
end
def RotM (m t:tMark.den):Prop:=(t.2.1.1=m.2.1.2.1∧t.2.1.2.1=-m.2.1.1)∧t.2.2=m.2.2
theorem see_rot {c W:tChart.den} {d m x y:Int} (hc:(chkS c).2.2=0) (hW:(chkS W).2.2=0) (hl:W.1.2.length=c.1.2.length) (h:∀ i,i<c.1.2.length→RotM (c.1.2.getD i tMark.dflt) (W.1.2.getD i tMark.dflt)) (h1:inR x y=true) (h2:inR y (-x)=true) :
  (seeS W d m y (-x)).2=(seeS c d m x y).2∧((seeS c d m x y).2=0→(seeS W d m y (-x)).1=((seeS c d m x y).1+8) % 32∧0≤(seeS c d m x y).1∧(seeS c d m x y).1<32)∧((seeS c d m x y).2≠0→(seeS c d m x y).1=0∧(seeS W d m y (-x)).1=0):=by
 have hd:datE W d m=datE c d m:=by unfold datE;rw[hc,hW,hl]
 unfold seeS stdE
 rw[hd]
 cases e:ieq (datE c d m) 0 with
 |false=>
  simp only[cond_false,e]
  refine⟨trivial,fun hh=>?_,fun _=>⟨trivial,trivial⟩⟩
  exact absurd hh (ieq_f' e)
 | true =>
  obtain⟨_,hm⟩:=datE_ok (ieq_t' e)
  rw[inB_iff,decide_eq_true_eq] at hm
  obtain⟨⟨g1,g2⟩,g3⟩:=h m.toNat (by omega)
  have g1':(mk W m).2.1.1=(mk c m).2.1.2.1:=g1
  have g2':(mk W m).2.1.2.1=-(mk c m).2.1.1:=g2
  have g3':(mk W m).2.2=(mk c m).2.2:=g3
  rw[g1',g2',g3',h1,h2]
  obtain⟨a,ea⟩:∃ a:Int,(mk c m).2.1.1=a:=⟨_,rfl⟩
  obtain⟨b,eb⟩:∃ b:Int,(mk c m).2.1.2.1=b:=⟨_,rfl⟩
  rw[ea,eb]
  cases ieq (colF d 0 (mk c m).2.2.1.2) 0 with
  |true=>exact⟨rfl,(fun hh=>by cases hh),fun _=>⟨rfl,rfl⟩⟩
  | false =>
   simp only[cond_true,cond_false,ieq_self]
   unfold seeF
   have hsym:(ieq b y&&ieq (-a) (-x))=(ieq a x&&ieq b y):=by
    rw[ieq_iff,ieq_iff,ieq_iff,decide_eq_decide.2 (show -a=-x↔a=x by omega),Bool.and_comm]
   rw[hsym]
   cases q:ieq a x&&ieq b y with
   |true=>exact⟨rfl,(fun hh=>by cases hh),fun _=>⟨rfl,rfl⟩⟩
   | false =>
    refine⟨rfl,fun _=>?_,fun hh=>absurd rfl hh⟩
    have hn:¬(a-x=0∧b-y=0):=by
     rw[ieq_iff,ieq_iff,← Bool.decide_and,decide_eq_false_iff_not] at q
     omega
    obtain⟨o1,o2,o3⟩:=ptF_rot hn
    show ptF (b-y) (-a - -x)=(ptF (a-x) (b-y)+8) % 32∧0≤ptF (a-x) (b-y)∧ptF (a-x) (b-y)<32
    rw[show -a - -x=-(a-x) by omega]
    exact⟨o1,o2,o3⟩
end Go.Proofs.YtgaoajmlckgdaaaGreatDoor


set_option maxRecDepth 100000
namespace Go.Proofs.YtgaoajmlckgdaaaGreatDoor
open Go Go.Eng
noncomputable def trP (p:tP.den):tP.den:=(p.2.1,wr .i64 (0-p.1),())
noncomputable def trM (m:tMark.den):tMark.den:=(m.1,trP m.2.1,m.2.2)
noncomputable def trS (s:tSand.den):tSand.den:=(s.1,(s.2.1.2.isEmpty,s.2.1.2.map trP),((s.2.2.1.2.1.1,s.2.2.1.2.1.2.1,()),(wr .i64 (0-s.2.2.1.1.2.1),wr .i64 (0-s.2.2.1.1.1),()),()),())
noncomputable def trC (c:tChart.den):tChart.den:=((c.1.2.isEmpty,c.1.2.map trM),(c.2.1.2.isEmpty,c.2.1.2.map trS),())
theorem gdN {α:Type} {l:List α} {i:Nat} {d:α} (h:i<l.length):l.getD i d=l[i]:=by
 rw[List.getD_eq_getElem?_getD,List.getElem?_eq_getElem h];rfl
theorem all_ext {α:Type} {f g:α→Bool}:∀ {l:List α},(∀ x∈l,f x=g x)→l.all f=l.all g
 |[],_=>rfl
 |a::l,h=>by rw[List.all_cons,List.all_cons,h a List.mem_cons_self,all_ext (fun x hx=>h x (List.mem_cons_of_mem _ hx))]
theorem inP_iff {p:tP.den} {x y:Int} (e1:p.1=x) (e2:p.2.1=y):inP p=true↔(-10000≤x∧x≤10000)∧-10000≤y∧y≤10000:=by
 unfold inP
 rw[e1,e2]
 simp only[Bool.and_eq_true,ile_iff,decide_eq_true_eq]
 omega
theorem trP_in {p:tP.den} (h:inP p=true):inP (trP p)=true∧trP p=(p.2.1,(-p.1:Int),()):=by
 obtain⟨x,ex⟩:∃ x:Int,p.1=x:=⟨_,rfl⟩
 obtain⟨y,ey⟩:∃ y:Int,p.2.1=y:=⟨_,rfl⟩
 have hh:=(inP_iff ex ey).1 h
 have e:trP p=(p.2.1,(-p.1:Int),()):=by
  unfold trP
  rw[ex,wr_in (n:=0-x) (by omega) (by omega)]
  rw[show (0:Int)-x=-x by omega]
 refine⟨?_,e⟩
 rw[e]
 exact (inP_iff (x:=y) (y:=-x) ey (by show (-p.1:Int)=-x;rw[ex])).2 (by omega)
theorem crs_in {ax ay cx cy x y:Int} {q:tP.den} (e1:q.1=x) (e2:q.2.1=y) (h1:-20000≤ax∧ax≤20000) (h2:-20000≤ay∧ay≤20000) (h3:-10000≤cx∧cx≤10000) (h4:-10000≤cy∧cy≤10000) (h5:-10000≤x∧x≤10000) (h6:-10000≤y∧y≤10000) :
  crs ax ay cx cy q=ax * (y-cy)-ay * (x-cx):=by
 unfold crs
 rw[e1,e2,wr_in (n:=y-cy) (by omega) (by omega),wr_in (n:=x-cx) (by omega) (by omega)]
 have a:=mul_b (a:=ax) (b:=y-cy) (m:=20000) (n:=20000) (by omega) (by omega) (by omega) (by omega)
 have b:=mul_b (a:=ay) (b:=x-cx) (m:=20000) (n:=20000) (by omega) (by omega) (by omega) (by omega)
 rw[wr_in (n:=ax * (y-cy)) (by omega) (by omega),wr_in (n:=ay * (x-cx)) (by omega) (by omega),wr_in (by omega) (by omega)]
section
variable {C:List tP.den} (hC:C.all inP=true)
include hC
theorem at_in {j:Nat} (hj:j<C.length):inP (at' C j)=true:=by
 unfold at'
 rw[gdN hj]
 exact List.all_eq_true.1 hC _ (List.getElem_mem hj)
theorem at_rot {j:Nat} (hj:j<C.length):at' (C.map trP) j=((at' C j).2.1,(-(at' C j).1:Int),()):=by
 rw[← (trP_in (at_in hC hj)).2]
 unfold at'
 rw[gdN (by rw[List.length_map];exact hj),gdN hj,List.getElem_map]
theorem posI_rot {i k j:Nat} (hi:i<C.length) (hk:k<C.length) (hj:j<C.length):posI (C.map trP) i k j=posI C i k j:=by
 unfold posI posC
 rw[at_rot hC hi,at_rot hC hk,at_rot hC hj]
 have gi:=at_in hC hi
 have gk:=at_in hC hk
 have gj:=at_in hC hj
 generalize at' C i=p at gi⊢
 generalize at' C k=q at gk⊢
 generalize at' C j=r at gj⊢
 obtain⟨a,ea⟩:∃ x:Int,p.1=x:=⟨_,rfl⟩
 obtain⟨b,eb⟩:∃ x:Int,p.2.1=x:=⟨_,rfl⟩
 obtain⟨d,ed⟩:∃ x:Int,q.1=x:=⟨_,rfl⟩
 obtain⟨e,ee⟩:∃ x:Int,q.2.1=x:=⟨_,rfl⟩
 obtain⟨f,ef⟩:∃ x:Int,r.1=x:=⟨_,rfl⟩
 obtain⟨g,eg⟩:∃ x:Int,r.2.1=x:=⟨_,rfl⟩
 rw[inP_iff ea eb] at gi
 rw[inP_iff ed ee] at gk
 rw[inP_iff ef eg] at gj
 show (!ile (crs (wr .i64 (q.2.1-p.2.1)) (wr .i64 (-q.1 - -p.1)) p.2.1 (-p.1) (r.2.1,(-r.1:Int),())) 0)=_
 rw[ea,eb,ed,ee,wr_in (n:=e-b) (by omega) (by omega),wr_in (n:=-d - -a) (by omega) (by omega),wr_in (n:=d-a) (by omega) (by omega)]
 rw[crs_in (q:=r) ef eg (by omega) (by omega) (by omega) (by omega) (by omega) (by omega),crs_in (q:=(r.2.1,(-r.1:Int),())) (x:=g) (y:=-f) eg (by show (-r.1:Int)=-f;rw[ef]) (by omega) (by omega) (by omega) (by omega) (by omega) (by omega)]
 rw[show (e-b) * (-f - -a)-(-d - -a) * (g-b)=(d-a) * (g-b)-(e-b) * (f-a) by
  rw[show -f - -a=-(f-a) by omega,show -d - -a=-(d-a) by omega,Int.mul_neg,Int.neg_mul];omega]
theorem round_rot:roundS (C.map trP)=roundS C:=by
 unfold roundS
 rw[List.length_map]
 refine all_ext (fun i hi=>?_)
 have hi':i<C.length:=by have:=List.mem_range'.1 hi;omega
 unfold rowR
 rw[List.length_map]
 refine all_ext (fun j hj=>?_)
 have hj':j<C.length:=by have:=List.mem_range'.1 hj;omega
 unfold cellR
 rw[posI_rot hC hi' (Nat.mod_lt _ (by omega)) hj']
end
theorem sandE_parts {s:tSand.den} (h:sandE s=0):(ile 3 (s.2.1.2.length:Int)&&ile (s.2.1.2.length:Int) 8)=true∧s.2.1.2.all inP=true∧inB4 s.2.2.1.1.1 s.2.2.1.1.2.1 s.2.2.1.2.1.1 s.2.2.1.2.1.2.1=true∧fit4 s.2.2.1.1.1 s.2.2.1.1.2.1 s.2.2.1.2.1.1 s.2.2.1.2.1.2.1=true∧roundS s.2.1.2=true:=by
 unfold sandE at h
 cases c1:ile 3 (s.2.1.2.length:Int)&&ile (s.2.1.2.length:Int) 8<;>simp only[c1,cond_true,cond_false] at h
 · exact absurd h (by decide)
 cases c3:s.2.1.2.all inP<;>simp only[c3,cond_true,cond_false] at h
 · exact absurd h (by decide)
 unfold sandT at h
 cases c4:inB4 s.2.2.1.1.1 s.2.2.1.1.2.1 s.2.2.1.2.1.1 s.2.2.1.2.1.2.1<;>simp only[c4,cond_true,cond_false] at h
 · exact absurd h (by decide)
 cases c5:fit4 s.2.2.1.1.1 s.2.2.1.1.2.1 s.2.2.1.2.1.1 s.2.2.1.2.1.2.1<;>simp only[c5,cond_true,cond_false] at h
 · exact absurd h (by decide)
 cases c6:roundS s.2.1.2<;>simp only[c6,cond_true,cond_false] at h
 · exact absurd h (by decide)
 exact⟨rfl,rfl,rfl,rfl,rfl⟩
theorem fit_rot {a b d e:Int} (h1:inB4 a b d e=true) (h2:fit4 a b d e=true):inB4 d e (-b) (-a)=true∧fit4 d e (-b) (-a)=true∧wr .i64 (0-b)=-b∧wr .i64 (0-a)=-a:=by
 unfold inB4 at h1⊢
 unfold fit4 at h2⊢
 simp only[Bool.and_eq_true,ile_iff,decide_eq_true_eq] at h1 h2⊢
 refine⟨by omega,by omega,?_,?_⟩
 · rw[wr_in (by omega) (by omega)];omega
 · rw[wr_in (by omega) (by omega)];omega
theorem sandE_rot {s:tSand.den} (h:sandE s=0):sandE (trS s)=0:=by
 obtain⟨h1,h2,h3,h4,h5⟩:=sandE_parts h
 obtain⟨r1,r2,r3,r4⟩:=fit_rot h3 h4
 have e1:(trS s).2.1.2=s.2.1.2.map trP:=rfl
 have e2:(trS s).2.2.1.1.1=s.2.2.1.2.1.1:=rfl
 have e3:(trS s).2.2.1.1.2.1=s.2.2.1.2.1.2.1:=rfl
 have e4:(trS s).2.2.1.2.1.1=-s.2.2.1.1.2.1:=r3
 have e5:(trS s).2.2.1.2.1.2.1=-s.2.2.1.1.1:=r4
 have ha:(s.2.1.2.map trP).all inP=true:=by
  rw[List.all_eq_true]
  intro p hp
  obtain⟨q,hq,rfl⟩:=List.mem_map.1 hp
  exact (trP_in (List.all_eq_true.1 h2 q hq)).1
 unfold sandE sandT
 rw[e1,e2,e3,e4,e5,List.length_map,h1,ha,r1,r2,round_rot h2,h5];rfl
theorem sandsS_rot:∀ {l:List tSand.den} {mem:List Nat→Bool} {i:Nat},(sandsS mem i l).2.2=0→(sandsS mem i (l.map trS)).2.2=0
 |[],_,_,_=>rfl
 | s :: l, mem, i, h => by
  rw[sandsS] at h
  cases q:ieq (sandN mem s) 0 with
  |false=>rw[q,cond_false] at h;exact absurd h (ieq_f' q)
  | true =>
   rw[q,cond_true] at h
   have h0:=ieq_t' q
   have e:sandN mem (trS s)=0:=by
    unfold sandN at h0⊢
    show (bif nameS s.1 then (bif mem s.1 then 5 else sandE (trS s)) else 6)=0
    cases c1:nameS s.1<;>simp only[c1,cond_true,cond_false] at h0⊢
    · exact absurd h0 (by decide)
    cases c2:mem s.1<;>simp only[c2,cond_true,cond_false] at h0⊢
    · exact sandE_rot h0
    · exact absurd h0 (by decide)
   rw[List.map_cons,sandsS,e,ieq_self,cond_true]
   exact sandsS_rot h
theorem inF_rot {p:tP.den} (h:inF p=true):inF (trP p)=true∧trP p=(p.2.1,(-p.1:Int),()):=by
 obtain⟨x,ex⟩:∃ x:Int,p.1=x:=⟨_,rfl⟩
 obtain⟨y,ey⟩:∃ y:Int,p.2.1=y:=⟨_,rfl⟩
 unfold inF at h
 rw[ex,ey] at h
 simp only[Bool.and_eq_true,ile_iff,decide_eq_true_eq] at h
 have e:trP p=(p.2.1,(-p.1:Int),()):=by
  unfold trP
  rw[ex,wr_in (n:=0-x) (by omega) (by omega)]
  rw[show (0:Int)-x=-x by omega]
 refine⟨?_,e⟩
 rw[e]
 unfold inF
 show (ile (-30000) p.2.1&&ile p.2.1 30000&&ile (-30000) (-p.1)&&ile (-p.1) 30000)=true
 rw[ex,ey]
 simp only[Bool.and_eq_true,ile_iff,decide_eq_true_eq]
 omega
theorem marksS_rot {k k':(List Nat→Bool)→Int×Int×Int} (hk:∀ mem,(k mem).2.2=0→(k' mem).2.2=0):∀ {l:List tMark.den} {mem:List Nat→Bool} {i:Nat},(marksS k mem i l).2.2=0→(marksS k' mem i (l.map trM)).2.2=0
 |[],mem,_,h=>hk mem h
 | m :: l, mem, i, h => by
  rw[marksS] at h
  cases q:ieq (markE mem m) 0 with
  |false=>rw[q,cond_false] at h;exact absurd h (ieq_f' q)
  | true =>
   rw[q,cond_true] at h
   have h0:=ieq_t' q
   have e:markE mem (trM m)=0:=by
    unfold markE at h0⊢
    show (bif nameS m.1 then (bif mem m.1 then 5 else (bif inF (trP m.2.1) then paintsE m.2.2.1.2 else 7)) else 6)=0
    cases c1:nameS m.1<;>simp only[c1,cond_true,cond_false] at h0⊢
    · exact absurd h0 (by decide)
    cases c2:mem m.1<;>simp only[c2,cond_true,cond_false] at h0⊢
    · cases c3 : inF m.2.1 <;> simp only [c3, cond_true, cond_false] at h0
      · exact absurd h0 (by decide)
      · rw[(inF_rot c3).1,cond_true];exact h0
    · exact absurd h0 (by decide)
   rw[List.map_cons,marksS,e,ieq_self,cond_true]
   exact marksS_rot hk h
theorem chk_rot {c:tChart.den} (h:(chkS c).2.2=0):(chkS (trC c)).2.2=0:=by
 unfold chkS at h⊢
 have e1:(trC c).1.2=c.1.2.map trM:=rfl
 have e2:(trC c).2.1.2=c.2.1.2.map trS:=rfl
 rw[e1,List.length_map]
 cases q:ile (c.1.2.length:Int) 8 with
 |false=>rw[q,cond_false] at h;exact absurd h (by decide)
 |true=>
  rw[q,cond_true] at h
  rw[cond_true]
  refine marksS_rot (fun mem hm=>?_) h
  unfold sandsK at hm⊢
  rw[e2,List.length_map]
  cases q2:ile (c.2.1.2.length:Int) 4 with
  |false=>rw[q2,cond_false] at hm;exact absurd hm (by decide)
  |true=>rw[q2,cond_true] at hm;rw[cond_true];exact sandsS_rot hm
theorem rotS_is {s:tSand.den} (hg:goodS s=true):RotS s (trS s):=by
 obtain⟨gc,g2,_,_⟩:=goodS_iff rfl rfl rfl rfl hg
 obtain⟨_,hin⟩:=cOK_in gc
 have hB:∀ k,k<s.2.1.2.length→inP (s.2.1.2.getD k tP.dflt)=true:=fun k hk=>by
  have g:=hin k hk
  unfold gx gy at g
  exact (inP_iff rfl rfl).2 g
 refine⟨⟨by show (s.2.1.2.map trP).length=_;rw[List.length_map],fun k hk=>?_⟩,⟨rfl,rfl⟩,?_,?_⟩
 · have e : (trS s).2.1.2.getD k tP.dflt = ((s.2.1.2.getD k tP.dflt).2.1, (-(s.2.1.2.getD k tP.dflt).1 : Int), ()) := by
    rw[← (trP_in (hB k hk)).2]
    show (s.2.1.2.map trP).getD k tP.dflt=_
    rw[gdN (by rw[List.length_map];exact hk),gdN hk,List.getElem_map]
   unfold gx gy
   rw[e]
   exact⟨rfl,rfl⟩
 · obtain ⟨x, ex⟩ : ∃ x : Int, s.2.2.1.1.2.1 = x := ⟨_, rfl⟩
   have:=in5_iff.1 g2.1.2
   rw[ex] at this
   show wr .i64 (0-s.2.2.1.1.2.1)=-s.2.2.1.1.2.1
   rw[ex,wr_in (by omega) (by omega)];omega
 · obtain ⟨x, ex⟩ : ∃ x : Int, s.2.2.1.1.1 = x := ⟨_, rfl⟩
   have:=in5_iff.1 g2.1.1
   rw[ex] at this
   show wr .i64 (0-s.2.2.1.1.1)=-s.2.2.1.1.1
   rw[ex,wr_in (by omega) (by omega)];omega
theorem sdT_is {c:tChart.den} {i:Nat} (hi:i<c.2.1.2.length):sd (trC c) i=trS (sd c i):=by
 unfold sd
 show (c.2.1.2.map trS).getD i tSand.dflt=_
 rw[gdN (by rw[List.length_map];exact hi),gdN hi,List.getElem_map]
theorem rotM_is {c:tChart.den} (hc:(chkS c).2.2=0) {i:Nat} (hi:i<c.1.2.length):RotM (c.1.2.getD i tMark.dflt) ((trC c).1.2.getD i tMark.dflt):=by
 have e:(trC c).1.2.getD i tMark.dflt=trM (c.1.2.getD i tMark.dflt):=by
  show (c.1.2.map trM).getD i tMark.dflt=_
  rw[gdN (by rw[List.length_map];exact hi),gdN hi,List.getElem_map]
 have hm:=(mk_good hc (m:=(i:Int)) (by rw[inB_iff];exact decide_eq_true (by omega))).1
 have hk:mk c (i:Int)=c.1.2.getD i tMark.dflt:=rfl
 rw[hk] at hm
 rw[e]
 have:=(inF_rot hm).2
 unfold RotM trM
 rw[this]
 exact⟨⟨rfl,rfl⟩,rfl⟩
end Go.Proofs.YtgaoajmlckgdaaaGreatDoor


set_option maxRecDepth 100000
namespace Go.Proofs.YtgaoajmlckgdaaaGreatDoor
open Go Go.Eng
noncomputable def uT0 (c:tChart.den):AV:=.agg [(.str ((c.2.1.2.getD (Int.toNat 0) tSand.dflt).1)),(.vs tP ((c.2.1.2.getD (Int.toNat 0) tSand.dflt).2.1.1) ((c.2.1.2.getD (Int.toNat 0) tSand.dflt).2.1.2)),(.int .i64 ((c.2.1.2.getD (Int.toNat 0) tSand.dflt).2.2.1.1.1)),(.int .i64 ((c.2.1.2.getD (Int.toNat 0) tSand.dflt).2.2.1.1.2.1)),(.int .i64 ((c.2.1.2.getD (Int.toNat 0) tSand.dflt).2.2.1.2.1.1)),(.int .i64 ((c.2.1.2.getD (Int.toNat 0) tSand.dflt).2.2.1.2.1.2.1))]
noncomputable def uT1 (c:tChart.den):AV:=.vs tSand (c.2.1.1) (c.2.1.2)
noncomputable def uT2 (c:tChart.den):AV:=.agg [(.int .i64 ((c.2.1.2.getD (Int.toNat 0) tSand.dflt).2.2.1.2.1.1)),(.int .i64 ((c.2.1.2.getD (Int.toNat 0) tSand.dflt).2.2.1.2.1.2.1)),(.int .i64 (wr .i64 (0-(c.2.1.2.getD (Int.toNat 0) tSand.dflt).2.2.1.1.2.1))),(.int .i64 (wr .i64 (0-(c.2.1.2.getD (Int.toNat 0) tSand.dflt).2.2.1.1.1)))]
noncomputable def uT3 (c:tChart.den):AV:=.int .i64 ((c.2.1.2.getD (Int.toNat 0) tSand.dflt).2.2.1.2.1.2.1)
noncomputable def uT4 (c:tChart.den):AV:=.int .i64 ((c.2.1.2.getD (Int.toNat 0) tSand.dflt).2.2.1.2.1.1)
noncomputable def uT5 (c:tChart.den):AV:=.agg [(.vs tMark (c.1.1) (c.1.2)),(uT1 c)]
noncomputable def uT6 (c:tChart.den):AV:=.int .i64 (wr .i64 (0-(c.2.1.2.getD (Int.toNat 0) tSand.dflt).2.2.1.1.2.1))
noncomputable def uT7 (c:tChart.den):AV:=.int .i64 (wr .i64 (0-(c.2.1.2.getD (Int.toNat 0) tSand.dflt).2.2.1.1.1))
noncomputable def uT8 (c:tChart.den):AV:=.int .i64 ((c.2.1.2.getD (Int.toNat 0) tSand.dflt).2.2.1.1.2.1)
noncomputable def uT9 (c:tChart.den):AV:=.int .i64 ((c.2.1.2.getD (Int.toNat 0) tSand.dflt).2.2.1.1.1)
noncomputable def uT10 (c:tChart.den):AV:=.int .i64 (Int.ofNat c.1.2.length)
noncomputable def uT11 (c:tChart.den):AV:=.vs tP ((c.2.1.2.getD (Int.toNat 0) tSand.dflt).2.1.1) ((c.2.1.2.getD (Int.toNat 0) tSand.dflt).2.1.2)
noncomputable def uT12 (c:tChart.den):AO:=.cells false [(.vs tMark (c.1.1) (c.1.2)),(uT1 c)]
noncomputable def uT13 (c:tChart.den):AV:=.int .i64 (Int.ofNat c.2.1.2.length)
noncomputable def uTs0 (c:tChart.den):List (Nat×AV):=[(11,(.ptr 0 0)),(12,(.vs tMark (c.1.1) (c.1.2))),(13,(uT10 c)),(14,(.bool (false))),(37,(.int .i64 (0))),(38,(.ptr 0 1)),(39,(uT1 c)),(40,(uT13 c)),(41,(.bool (true))),(44,(.ptr 0 1)),(45,(uT1 c)),(46,(.int .i64 (0))),(47,(.cp [(.str ((c.2.1.2.getD (Int.toNat 0) tSand.dflt).1)),(uT11 c),(uT9 c),(uT8 c),(uT4 c),(uT3 c)] 0)),(48,(uT0 c))]
noncomputable def uTs1 (c:tChart.den):List (Nat×AV):=[(11,(.ptr 0 0)),(12,(.vs tMark (c.1.1) (c.1.2))),(13,(uT10 c)),(14,(.bool (false)))]
noncomputable def uTs2 (c:tChart.den):List (Nat×AV):=[(0,(uT5 c)),(1,(.ptr 0 0)),(2,(.ptr 1 0)),(3,(.ptr 2 0))]
noncomputable def ctrnI0 (c:tChart.den) (x14:Nat):Cfg:=⟨.ex (pcOf N4 53 [0,0,1,0,1,1]) ⟨(tmOf 108 (uTs2 c++[(4,(.int .i64 (0)))])),(hpOf 3 [(0,(uT12 c)),(1,(.cells false [.nils,.nils])),(2,(.cells false [.nils,.nils]))]),[],[],108,false⟩,⟨8,[]⟩,[(.lop (pcOf N4 53 [0,0,1,0,1,1]) 3 (tmOf 108 (uTs2 c++[(4,(.int .i64 (0)))])) x14),(.blk 0),(.seq (pcOf N4 53 [1,1,1])),(.cal [(.cell 2 25)] .top)]⟩
noncomputable def ctrnI1 (c:tChart.den) (x26:Nat):Cfg:=⟨.ex (pcOf N4 53 [0,0,1,0,1,1,1]) ⟨(tmOf 108 (uTs2 c++[(4,(.int .i64 (0))),(6,(.int .i64 (0))),(10,(.int .i64 (0)))]++uTs1 c)),(hpOf 3 [(0,(uT12 c)),(1,(.cells false [.nils,.nils])),(2,(.cells false [.nils,.nils]))]),[],[],108,false⟩,⟨8,[]⟩,[(.lop (pcOf N4 53 [0,0,1,0,1,1,1]) 3 (tmOf 108 (uTs2 c++[(4,(.int .i64 (0))),(6,(.int .i64 (0))),(10,(.int .i64 (0)))]++uTs1 c)) x26),(.blk 2),(.seq (pcOf N4 53 [1,1,1,1])),(.cal [(.cell 2 25)] .top)]⟩
noncomputable def ctrnI2 (c:tChart.den) (x4:Int) (x9:Nat) (x11:List AV) (x17:Nat):Cfg:=⟨.ex (pcOf N4 53 [0,0,1,0,1,1]) ⟨(tmOf 108 (uTs2 c++[(4,(.int .i64 x4))])),(hpOf 4 [(0,(uT12 c)),(1,(.cells false [.nils,.nils])),(2,(.cells false [(.sl 3 0 x9 x9 4),.nils])),(3,(.cells false x11))]),[],[],108,false⟩,⟨8,[]⟩,[(.lop (pcOf N4 53 [0,0,1,0,1,1]) 3 (tmOf 108 (uTs2 c++[(4,(.int .i64 (0)))])) x17),(.blk 0),(.seq (pcOf N4 53 [1,1,1])),(.cal [(.cell 2 25)] .top)]⟩
noncomputable def ctrnI3 (c:tChart.den) (x101:Nat) (x113:Nat):Cfg:=⟨.ex (pcOf N4 53 [0,0,1,0,1,1,1,0,0,1,0,0,1,0,1,1,1]) ⟨(tmOf 108 (uTs2 c++[(4,(.int .i64 (0))),(6,(.int .i64 (0))),(7,(.ptr 3 0)),(8,(.int .i64 (0))),(10,(.int .i64 (0)))]++uTs0 c++[(49,(.ptr 3 2)),(50,(.ptr 3 4)),(51,(.ptr 3 4)),(52,(uT4 c)),(53,(.ptr 3 2)),(54,(.ptr 3 4)),(55,(.ptr 3 5)),(56,(uT3 c)),(57,(.ptr 3 2)),(58,(.ptr 3 2)),(59,(.ptr 3 3)),(60,(uT8 c)),(61,(uT6 c)),(62,(.ptr 3 2)),(63,(.ptr 3 2)),(64,(.ptr 3 2)),(65,(uT9 c)),(66,(uT7 c)),(67,(uT2 c)),(68,(.ptr 3 2)),(69,(.ptr 3 1))])),(hpOf 5 [(0,(uT12 c)),(1,(.cells false [.nils,.nils])),(2,(.cells false [.nils,.nils])),(3,(.cells false [(.str ((c.2.1.2.getD (Int.toNat 0) tSand.dflt).1)),.nils,(uT4 c),(uT3 c),(uT6 c),(uT7 c)])),(4,(.cells false [(uT4 c),(uT3 c),(uT6 c),(uT7 c)]))]),[],[],108,false⟩,⟨8,[]⟩,[(.lop (pcOf N4 53 [0,0,1,0,1,1,1,0,0,1,0,0,1,0,1,1,1]) 5 (tmOf 108 (uTs2 c++[(4,(.int .i64 (0))),(6,(.int .i64 (0))),(7,(.ptr 3 0)),(8,(.int .i64 (0))),(10,(.int .i64 (0)))]++uTs0 c++[(49,(.ptr 3 2)),(50,(.ptr 3 4)),(51,(.ptr 3 4)),(52,(uT4 c)),(53,(.ptr 3 2)),(54,(.ptr 3 4)),(55,(.ptr 3 5)),(56,(uT3 c)),(57,(.ptr 3 2)),(58,(.ptr 3 2)),(59,(.ptr 3 3)),(60,(uT8 c)),(61,(uT6 c)),(62,(.ptr 3 2)),(63,(.ptr 3 2)),(64,(.ptr 3 2)),(65,(uT9 c)),(66,(uT7 c)),(67,(uT2 c)),(68,(.ptr 3 2)),(69,(.ptr 3 1))])) x101),(.blk 4),(.seq (pcOf N4 53 [1,1,1,1,0,0,1,0,0,1,0,1,1,1])),(.blk 3),(.seq (pcOf N4 53 [1,1,0,0,1,0,1,1,1])),(.lop (pcOf N4 53 [0,0,1,0,1,1,1]) 3 (tmOf 108 (uTs2 c++[(4,(.int .i64 (0))),(6,(.int .i64 (0))),(10,(.int .i64 (0)))]++uTs1 c)) x113),(.blk 2),(.seq (pcOf N4 53 [1,1,1,1])),(.cal [(.cell 2 25)] .top)]⟩
noncomputable def ctrnI4 (c:tChart.den) (x4:Int) (x15:Nat) (x17:List AV) (x29:Nat):Cfg:=⟨.ex (pcOf N4 53 [0,0,1,0,1,1,1]) ⟨(tmOf 108 (uTs2 c++[(4,(.int .i64 x4)),(6,(.int .i64 (0))),(10,(.int .i64 x4))]++uTs1 c)),(hpOf 4 [(0,(uT12 c)),(1,(.cells false [.nils,.nils])),(2,(.cells false [(.sl 3 0 x15 x15 4),.nils])),(3,(.cells false x17))]),[],[],108,false⟩,⟨8,[]⟩,[(.lop (pcOf N4 53 [0,0,1,0,1,1,1]) 4 (tmOf 108 (uTs2 c++[(4,(.int .i64 x4)),(6,(.int .i64 (0))),(10,(.int .i64 x4))]++uTs1 c)) x29),(.blk 2),(.seq (pcOf N4 53 [1,1,1,1])),(.cal [(.cell 2 25)] .top)]⟩
noncomputable def ctrnI5 (c:tChart.den) (x5:Int) (x15:Nat) (x17:List AV) (x29:Nat):Cfg:=⟨.ex (pcOf N4 53 [0,0,1,0,1,1,1]) ⟨(tmOf 108 (uTs2 c++[(4,(.int .i64 (0))),(6,(.int .i64 x5)),(10,(.int .i64 (0)))]++uTs1 c)),(hpOf 4 [(0,(uT12 c)),(1,(.cells false [.nils,.nils])),(2,(.cells false [.nils,(.sl 3 0 x15 x15 6)])),(3,(.cells false x17))]),[],[],108,false⟩,⟨8,[]⟩,[(.lop (pcOf N4 53 [0,0,1,0,1,1,1]) 3 (tmOf 108 (uTs2 c++[(4,(.int .i64 (0))),(6,(.int .i64 (0))),(10,(.int .i64 (0)))]++uTs1 c)) x29),(.blk 2),(.seq (pcOf N4 53 [1,1,1,1])),(.cal [(.cell 2 25)] .top)]⟩
noncomputable def ctrnI6 (c:tChart.den) (x6:Int) (x49:Nat) (x59:List AV) (x104:Nat) (x116:Nat):Cfg:=⟨.ex (pcOf N4 53 [0,0,1,0,1,1,1,0,0,1,0,0,1,0,1,1,1]) ⟨(tmOf 108 (uTs2 c++[(4,(.int .i64 (0))),(6,(.int .i64 (0))),(7,(.ptr 3 0)),(8,(.int .i64 x6)),(10,(.int .i64 (0)))]++uTs0 c++[(49,(.ptr 3 2)),(50,(.ptr 3 4)),(51,(.ptr 3 4)),(52,(uT4 c)),(53,(.ptr 3 2)),(54,(.ptr 3 4)),(55,(.ptr 3 5)),(56,(uT3 c)),(57,(.ptr 3 2)),(58,(.ptr 3 2)),(59,(.ptr 3 3)),(60,(uT8 c)),(61,(uT6 c)),(62,(.ptr 3 2)),(63,(.ptr 3 2)),(64,(.ptr 3 2)),(65,(uT9 c)),(66,(uT7 c)),(67,(uT2 c)),(68,(.ptr 3 2)),(69,(.ptr 3 1))])),(hpOf 6 [(0,(uT12 c)),(1,(.cells false [.nils,.nils])),(2,(.cells false [.nils,.nils])),(3,(.cells false [(.str ((c.2.1.2.getD (Int.toNat 0) tSand.dflt).1)),(.sl 5 0 x49 x49 2),(uT4 c),(uT3 c),(uT6 c),(uT7 c)])),(4,(.cells false [(uT4 c),(uT3 c),(uT6 c),(uT7 c)])),(5,(.cells false x59))]),[],[],108,false⟩,⟨8,[]⟩,[(.lop (pcOf N4 53 [0,0,1,0,1,1,1,0,0,1,0,0,1,0,1,1,1]) 5 (tmOf 108 (uTs2 c++[(4,(.int .i64 (0))),(6,(.int .i64 (0))),(7,(.ptr 3 0)),(8,(.int .i64 (0))),(10,(.int .i64 (0)))]++uTs0 c++[(49,(.ptr 3 2)),(50,(.ptr 3 4)),(51,(.ptr 3 4)),(52,(uT4 c)),(53,(.ptr 3 2)),(54,(.ptr 3 4)),(55,(.ptr 3 5)),(56,(uT3 c)),(57,(.ptr 3 2)),(58,(.ptr 3 2)),(59,(.ptr 3 3)),(60,(uT8 c)),(61,(uT6 c)),(62,(.ptr 3 2)),(63,(.ptr 3 2)),(64,(.ptr 3 2)),(65,(uT9 c)),(66,(uT7 c)),(67,(uT2 c)),(68,(.ptr 3 2)),(69,(.ptr 3 1))])) x104),(.blk 4),(.seq (pcOf N4 53 [1,1,1,1,0,0,1,0,0,1,0,1,1,1])),(.blk 3),(.seq (pcOf N4 53 [1,1,0,0,1,0,1,1,1])),(.lop (pcOf N4 53 [0,0,1,0,1,1,1]) 3 (tmOf 108 (uTs2 c++[(4,(.int .i64 (0))),(6,(.int .i64 (0))),(10,(.int .i64 (0)))]++uTs1 c)) x116),(.blk 2),(.seq (pcOf N4 53 [1,1,1,1])),(.cal [(.cell 2 25)] .top)]⟩
noncomputable def ctrnI7 (c:tChart.den) (x4:Int) (x48:Nat) (x50:List AV) (x104:Nat) (x116:Nat):Cfg:=⟨.ex (pcOf N4 53 [0,0,1,0,1,1,1,0,0,1,0,0,1,0,1,1,1]) ⟨(tmOf 108 (uTs2 c++[(4,(.int .i64 x4)),(6,(.int .i64 (0))),(7,(.ptr 4 0)),(8,(.int .i64 (0))),(10,(.int .i64 x4))]++uTs0 c++[(49,(.ptr 4 2)),(50,(.ptr 4 4)),(51,(.ptr 4 4)),(52,(uT4 c)),(53,(.ptr 4 2)),(54,(.ptr 4 4)),(55,(.ptr 4 5)),(56,(uT3 c)),(57,(.ptr 4 2)),(58,(.ptr 4 2)),(59,(.ptr 4 3)),(60,(uT8 c)),(61,(uT6 c)),(62,(.ptr 4 2)),(63,(.ptr 4 2)),(64,(.ptr 4 2)),(65,(uT9 c)),(66,(uT7 c)),(67,(uT2 c)),(68,(.ptr 4 2)),(69,(.ptr 4 1))])),(hpOf 6 [(0,(uT12 c)),(1,(.cells false [.nils,.nils])),(2,(.cells false [(.sl 3 0 x48 x48 4),.nils])),(3,(.cells false x50)),(4,(.cells false [(.str ((c.2.1.2.getD (Int.toNat 0) tSand.dflt).1)),.nils,(uT4 c),(uT3 c),(uT6 c),(uT7 c)])),(5,(.cells false [(uT4 c),(uT3 c),(uT6 c),(uT7 c)]))]),[],[],108,false⟩,⟨8,[]⟩,[(.lop (pcOf N4 53 [0,0,1,0,1,1,1,0,0,1,0,0,1,0,1,1,1]) 6 (tmOf 108 (uTs2 c++[(4,(.int .i64 x4)),(6,(.int .i64 (0))),(7,(.ptr 4 0)),(8,(.int .i64 (0))),(10,(.int .i64 x4))]++uTs0 c++[(49,(.ptr 4 2)),(50,(.ptr 4 4)),(51,(.ptr 4 4)),(52,(uT4 c)),(53,(.ptr 4 2)),(54,(.ptr 4 4)),(55,(.ptr 4 5)),(56,(uT3 c)),(57,(.ptr 4 2)),(58,(.ptr 4 2)),(59,(.ptr 4 3)),(60,(uT8 c)),(61,(uT6 c)),(62,(.ptr 4 2)),(63,(.ptr 4 2)),(64,(.ptr 4 2)),(65,(uT9 c)),(66,(uT7 c)),(67,(uT2 c)),(68,(.ptr 4 2)),(69,(.ptr 4 1))])) x104),(.blk 4),(.seq (pcOf N4 53 [1,1,1,1,0,0,1,0,0,1,0,1,1,1])),(.blk 3),(.seq (pcOf N4 53 [1,1,0,0,1,0,1,1,1])),(.lop (pcOf N4 53 [0,0,1,0,1,1,1]) 4 (tmOf 108 (uTs2 c++[(4,(.int .i64 x4)),(6,(.int .i64 (0))),(10,(.int .i64 x4))]++uTs1 c)) x116),(.blk 2),(.seq (pcOf N4 53 [1,1,1,1])),(.cal [(.cell 2 25)] .top)]⟩
noncomputable def ctrnI8 (c:tChart.den) (x5:Int) (x20:List Nat) (x21:Bool) (x22:List (Ty.den tP)) (x23:Int) (x24:Int) (x25:Int) (x26:Int) (x37:Int) (x39:Int) (x48:Nat) (x50:List AV) (x104:Nat) (x116:Nat):Cfg:=⟨.ex (pcOf N4 53 [0,0,1,0,1,1,1,0,0,1,0,0,1,0,1,1,1]) ⟨(tmOf 108 (uTs2 c++[(4,(.int .i64 (0))),(6,(.int .i64 x5)),(7,(.ptr 4 0)),(8,(.int .i64 (0))),(10,(.int .i64 (0)))]++uTs1 c++[(37,(.int .i64 x5)),(38,(.ptr 0 1)),(39,(uT1 c)),(40,(uT13 c)),(41,(.bool (true))),(44,(.ptr 0 1)),(45,(uT1 c)),(46,(.int .i64 x5)),(47,(.cp [(.str x20),(.vs tP x21 x22),(.int .i64 x23),(.int .i64 x24),(.int .i64 x25),(.int .i64 x26)] 0)),(48,(.agg [(.str x20),(.vs tP x21 x22),(.int .i64 x23),(.int .i64 x24),(.int .i64 x25),(.int .i64 x26)])),(49,(.ptr 4 2)),(50,(.ptr 4 4)),(51,(.ptr 4 4)),(52,(.int .i64 x25)),(53,(.ptr 4 2)),(54,(.ptr 4 4)),(55,(.ptr 4 5)),(56,(.int .i64 x26)),(57,(.ptr 4 2)),(58,(.ptr 4 2)),(59,(.ptr 4 3)),(60,(.int .i64 x24)),(61,(.int .i64 x37)),(62,(.ptr 4 2)),(63,(.ptr 4 2)),(64,(.ptr 4 2)),(65,(.int .i64 x23)),(66,(.int .i64 x39)),(67,(.agg [(.int .i64 x25),(.int .i64 x26),(.int .i64 x37),(.int .i64 x39)])),(68,(.ptr 4 2)),(69,(.ptr 4 1))])),(hpOf 6 [(0,(uT12 c)),(1,(.cells false [.nils,.nils])),(2,(.cells false [.nils,(.sl 3 0 x48 x48 6)])),(3,(.cells false x50)),(4,(.cells false [(.str x20),.nils,(.int .i64 x25),(.int .i64 x26),(.int .i64 x37),(.int .i64 x39)])),(5,(.cells false [(.int .i64 x25),(.int .i64 x26),(.int .i64 x37),(.int .i64 x39)]))]),[],[],108,false⟩,⟨8,[]⟩,[(.lop (pcOf N4 53 [0,0,1,0,1,1,1,0,0,1,0,0,1,0,1,1,1]) 6 (tmOf 108 (uTs2 c++[(4,(.int .i64 (0))),(6,(.int .i64 x5)),(7,(.ptr 4 0)),(8,(.int .i64 (0))),(10,(.int .i64 (0)))]++uTs1 c++[(37,(.int .i64 x5)),(38,(.ptr 0 1)),(39,(uT1 c)),(40,(uT13 c)),(41,(.bool (true))),(44,(.ptr 0 1)),(45,(uT1 c)),(46,(.int .i64 x5)),(47,(.cp [(.str x20),(.vs tP x21 x22),(.int .i64 x23),(.int .i64 x24),(.int .i64 x25),(.int .i64 x26)] 0)),(48,(.agg [(.str x20),(.vs tP x21 x22),(.int .i64 x23),(.int .i64 x24),(.int .i64 x25),(.int .i64 x26)])),(49,(.ptr 4 2)),(50,(.ptr 4 4)),(51,(.ptr 4 4)),(52,(.int .i64 x25)),(53,(.ptr 4 2)),(54,(.ptr 4 4)),(55,(.ptr 4 5)),(56,(.int .i64 x26)),(57,(.ptr 4 2)),(58,(.ptr 4 2)),(59,(.ptr 4 3)),(60,(.int .i64 x24)),(61,(.int .i64 x37)),(62,(.ptr 4 2)),(63,(.ptr 4 2)),(64,(.ptr 4 2)),(65,(.int .i64 x23)),(66,(.int .i64 x39)),(67,(.agg [(.int .i64 x25),(.int .i64 x26),(.int .i64 x37),(.int .i64 x39)])),(68,(.ptr 4 2)),(69,(.ptr 4 1))])) x104),(.blk 4),(.seq (pcOf N4 53 [1,1,1,1,0,0,1,0,0,1,0,1,1,1])),(.blk 3),(.seq (pcOf N4 53 [1,1,0,0,1,0,1,1,1])),(.lop (pcOf N4 53 [0,0,1,0,1,1,1]) 3 (tmOf 108 (uTs2 c++[(4,(.int .i64 (0))),(6,(.int .i64 (0))),(10,(.int .i64 (0)))]++uTs1 c)) x116),(.blk 2),(.seq (pcOf N4 53 [1,1,1,1])),(.cal [(.cell 2 25)] .top)]⟩
noncomputable def ctrnI9 (c:tChart.den) (x4:Int) (x5:Int) (x15:Nat) (x17:Nat) (x19:List AV) (x20:List AV) (x32:Nat):Cfg:=⟨.ex (pcOf N4 53 [0,0,1,0,1,1,1]) ⟨(tmOf 108 (uTs2 c++[(4,(.int .i64 x4)),(6,(.int .i64 x5)),(10,(.int .i64 x4))]++uTs1 c)),(hpOf 5 [(0,(uT12 c)),(1,(.cells false [.nils,.nils])),(2,(.cells false [(.sl 3 0 x15 x15 4),(.sl 4 0 x17 x17 6)])),(3,(.cells false x19)),(4,(.cells false x20))]),[],[],108,false⟩,⟨8,[]⟩,[(.lop (pcOf N4 53 [0,0,1,0,1,1,1]) 4 (tmOf 108 (uTs2 c++[(4,(.int .i64 x4)),(6,(.int .i64 (0))),(10,(.int .i64 x4))]++uTs1 c)) x32),(.blk 2),(.seq (pcOf N4 53 [1,1,1,1])),(.cal [(.cell 2 25)] .top)]⟩
noncomputable def ctrnI10 (c:tChart.den) (x4:Int) (x6:Int) (x48:Nat) (x50:List AV) (x52:Nat) (x62:List AV) (x107:Nat) (x119:Nat):Cfg:=⟨.ex (pcOf N4 53 [0,0,1,0,1,1,1,0,0,1,0,0,1,0,1,1,1]) ⟨(tmOf 108 (uTs2 c++[(4,(.int .i64 x4)),(6,(.int .i64 (0))),(7,(.ptr 4 0)),(8,(.int .i64 x6)),(10,(.int .i64 x4))]++uTs0 c++[(49,(.ptr 4 2)),(50,(.ptr 4 4)),(51,(.ptr 4 4)),(52,(uT4 c)),(53,(.ptr 4 2)),(54,(.ptr 4 4)),(55,(.ptr 4 5)),(56,(uT3 c)),(57,(.ptr 4 2)),(58,(.ptr 4 2)),(59,(.ptr 4 3)),(60,(uT8 c)),(61,(uT6 c)),(62,(.ptr 4 2)),(63,(.ptr 4 2)),(64,(.ptr 4 2)),(65,(uT9 c)),(66,(uT7 c)),(67,(uT2 c)),(68,(.ptr 4 2)),(69,(.ptr 4 1))])),(hpOf 7 [(0,(uT12 c)),(1,(.cells false [.nils,.nils])),(2,(.cells false [(.sl 3 0 x48 x48 4),.nils])),(3,(.cells false x50)),(4,(.cells false [(.str ((c.2.1.2.getD (Int.toNat 0) tSand.dflt).1)),(.sl 6 0 x52 x52 2),(uT4 c),(uT3 c),(uT6 c),(uT7 c)])),(5,(.cells false [(uT4 c),(uT3 c),(uT6 c),(uT7 c)])),(6,(.cells false x62))]),[],[],108,false⟩,⟨8,[]⟩,[(.lop (pcOf N4 53 [0,0,1,0,1,1,1,0,0,1,0,0,1,0,1,1,1]) 6 (tmOf 108 (uTs2 c++[(4,(.int .i64 x4)),(6,(.int .i64 (0))),(7,(.ptr 4 0)),(8,(.int .i64 (0))),(10,(.int .i64 x4))]++uTs0 c++[(49,(.ptr 4 2)),(50,(.ptr 4 4)),(51,(.ptr 4 4)),(52,(uT4 c)),(53,(.ptr 4 2)),(54,(.ptr 4 4)),(55,(.ptr 4 5)),(56,(uT3 c)),(57,(.ptr 4 2)),(58,(.ptr 4 2)),(59,(.ptr 4 3)),(60,(uT8 c)),(61,(uT6 c)),(62,(.ptr 4 2)),(63,(.ptr 4 2)),(64,(.ptr 4 2)),(65,(uT9 c)),(66,(uT7 c)),(67,(uT2 c)),(68,(.ptr 4 2)),(69,(.ptr 4 1))])) x107),(.blk 4),(.seq (pcOf N4 53 [1,1,1,1,0,0,1,0,0,1,0,1,1,1])),(.blk 3),(.seq (pcOf N4 53 [1,1,0,0,1,0,1,1,1])),(.lop (pcOf N4 53 [0,0,1,0,1,1,1]) 4 (tmOf 108 (uTs2 c++[(4,(.int .i64 x4)),(6,(.int .i64 (0))),(10,(.int .i64 x4))]++uTs1 c)) x119),(.blk 2),(.seq (pcOf N4 53 [1,1,1,1])),(.cal [(.cell 2 25)] .top)]⟩
noncomputable def ctrnI11 (c:tChart.den) (x5:Int) (x6:Int) (x20:List Nat) (x21:Bool) (x22:List (Ty.den tP)) (x23:Int) (x24:Int) (x25:Int) (x26:Int) (x37:Int) (x39:Int) (x48:Nat) (x50:List AV) (x52:Nat) (x62:List AV) (x107:Nat) (x119:Nat):Cfg:=⟨.ex (pcOf N4 53 [0,0,1,0,1,1,1,0,0,1,0,0,1,0,1,1,1]) ⟨(tmOf 108 (uTs2 c++[(4,(.int .i64 (0))),(6,(.int .i64 x5)),(7,(.ptr 4 0)),(8,(.int .i64 x6)),(10,(.int .i64 (0)))]++uTs1 c++[(37,(.int .i64 x5)),(38,(.ptr 0 1)),(39,(uT1 c)),(40,(uT13 c)),(41,(.bool (true))),(44,(.ptr 0 1)),(45,(uT1 c)),(46,(.int .i64 x5)),(47,(.cp [(.str x20),(.vs tP x21 x22),(.int .i64 x23),(.int .i64 x24),(.int .i64 x25),(.int .i64 x26)] 0)),(48,(.agg [(.str x20),(.vs tP x21 x22),(.int .i64 x23),(.int .i64 x24),(.int .i64 x25),(.int .i64 x26)])),(49,(.ptr 4 2)),(50,(.ptr 4 4)),(51,(.ptr 4 4)),(52,(.int .i64 x25)),(53,(.ptr 4 2)),(54,(.ptr 4 4)),(55,(.ptr 4 5)),(56,(.int .i64 x26)),(57,(.ptr 4 2)),(58,(.ptr 4 2)),(59,(.ptr 4 3)),(60,(.int .i64 x24)),(61,(.int .i64 x37)),(62,(.ptr 4 2)),(63,(.ptr 4 2)),(64,(.ptr 4 2)),(65,(.int .i64 x23)),(66,(.int .i64 x39)),(67,(.agg [(.int .i64 x25),(.int .i64 x26),(.int .i64 x37),(.int .i64 x39)])),(68,(.ptr 4 2)),(69,(.ptr 4 1))])),(hpOf 7 [(0,(uT12 c)),(1,(.cells false [.nils,.nils])),(2,(.cells false [.nils,(.sl 3 0 x48 x48 6)])),(3,(.cells false x50)),(4,(.cells false [(.str x20),(.sl 6 0 x52 x52 2),(.int .i64 x25),(.int .i64 x26),(.int .i64 x37),(.int .i64 x39)])),(5,(.cells false [(.int .i64 x25),(.int .i64 x26),(.int .i64 x37),(.int .i64 x39)])),(6,(.cells false x62))]),[],[],108,false⟩,⟨8,[]⟩,[(.lop (pcOf N4 53 [0,0,1,0,1,1,1,0,0,1,0,0,1,0,1,1,1]) 6 (tmOf 108 (uTs2 c++[(4,(.int .i64 (0))),(6,(.int .i64 x5)),(7,(.ptr 4 0)),(8,(.int .i64 (0))),(10,(.int .i64 (0)))]++uTs1 c++[(37,(.int .i64 x5)),(38,(.ptr 0 1)),(39,(uT1 c)),(40,(uT13 c)),(41,(.bool (true))),(44,(.ptr 0 1)),(45,(uT1 c)),(46,(.int .i64 x5)),(47,(.cp [(.str x20),(.vs tP x21 x22),(.int .i64 x23),(.int .i64 x24),(.int .i64 x25),(.int .i64 x26)] 0)),(48,(.agg [(.str x20),(.vs tP x21 x22),(.int .i64 x23),(.int .i64 x24),(.int .i64 x25),(.int .i64 x26)])),(49,(.ptr 4 2)),(50,(.ptr 4 4)),(51,(.ptr 4 4)),(52,(.int .i64 x25)),(53,(.ptr 4 2)),(54,(.ptr 4 4)),(55,(.ptr 4 5)),(56,(.int .i64 x26)),(57,(.ptr 4 2)),(58,(.ptr 4 2)),(59,(.ptr 4 3)),(60,(.int .i64 x24)),(61,(.int .i64 x37)),(62,(.ptr 4 2)),(63,(.ptr 4 2)),(64,(.ptr 4 2)),(65,(.int .i64 x23)),(66,(.int .i64 x39)),(67,(.agg [(.int .i64 x25),(.int .i64 x26),(.int .i64 x37),(.int .i64 x39)])),(68,(.ptr 4 2)),(69,(.ptr 4 1))])) x107),(.blk 4),(.seq (pcOf N4 53 [1,1,1,1,0,0,1,0,0,1,0,1,1,1])),(.blk 3),(.seq (pcOf N4 53 [1,1,0,0,1,0,1,1,1])),(.lop (pcOf N4 53 [0,0,1,0,1,1,1]) 3 (tmOf 108 (uTs2 c++[(4,(.int .i64 (0))),(6,(.int .i64 (0))),(10,(.int .i64 (0)))]++uTs1 c)) x119),(.blk 2),(.seq (pcOf N4 53 [1,1,1,1])),(.cal [(.cell 2 25)] .top)]⟩
noncomputable def ctrnI12 (c:tChart.den) (x4:Int) (x5:Int) (x20:List Nat) (x21:Bool) (x22:List (Ty.den tP)) (x23:Int) (x24:Int) (x25:Int) (x26:Int) (x37:Int) (x39:Int) (x48:Nat) (x50:Nat) (x52:List AV) (x53:List AV) (x107:Nat) (x119:Nat):Cfg:=⟨.ex (pcOf N4 53 [0,0,1,0,1,1,1,0,0,1,0,0,1,0,1,1,1]) ⟨(tmOf 108 (uTs2 c++[(4,(.int .i64 x4)),(6,(.int .i64 x5)),(7,(.ptr 5 0)),(8,(.int .i64 (0))),(10,(.int .i64 x4))]++uTs1 c++[(37,(.int .i64 x5)),(38,(.ptr 0 1)),(39,(uT1 c)),(40,(uT13 c)),(41,(.bool (true))),(44,(.ptr 0 1)),(45,(uT1 c)),(46,(.int .i64 x5)),(47,(.cp [(.str x20),(.vs tP x21 x22),(.int .i64 x23),(.int .i64 x24),(.int .i64 x25),(.int .i64 x26)] 0)),(48,(.agg [(.str x20),(.vs tP x21 x22),(.int .i64 x23),(.int .i64 x24),(.int .i64 x25),(.int .i64 x26)])),(49,(.ptr 5 2)),(50,(.ptr 5 4)),(51,(.ptr 5 4)),(52,(.int .i64 x25)),(53,(.ptr 5 2)),(54,(.ptr 5 4)),(55,(.ptr 5 5)),(56,(.int .i64 x26)),(57,(.ptr 5 2)),(58,(.ptr 5 2)),(59,(.ptr 5 3)),(60,(.int .i64 x24)),(61,(.int .i64 x37)),(62,(.ptr 5 2)),(63,(.ptr 5 2)),(64,(.ptr 5 2)),(65,(.int .i64 x23)),(66,(.int .i64 x39)),(67,(.agg [(.int .i64 x25),(.int .i64 x26),(.int .i64 x37),(.int .i64 x39)])),(68,(.ptr 5 2)),(69,(.ptr 5 1))])),(hpOf 7 [(0,(uT12 c)),(1,(.cells false [.nils,.nils])),(2,(.cells false [(.sl 3 0 x48 x48 4),(.sl 4 0 x50 x50 6)])),(3,(.cells false x52)),(4,(.cells false x53)),(5,(.cells false [(.str x20),.nils,(.int .i64 x25),(.int .i64 x26),(.int .i64 x37),(.int .i64 x39)])),(6,(.cells false [(.int .i64 x25),(.int .i64 x26),(.int .i64 x37),(.int .i64 x39)]))]),[],[],108,false⟩,⟨8,[]⟩,[(.lop (pcOf N4 53 [0,0,1,0,1,1,1,0,0,1,0,0,1,0,1,1,1]) 7 (tmOf 108 (uTs2 c++[(4,(.int .i64 x4)),(6,(.int .i64 x5)),(7,(.ptr 5 0)),(8,(.int .i64 (0))),(10,(.int .i64 x4))]++uTs1 c++[(37,(.int .i64 x5)),(38,(.ptr 0 1)),(39,(uT1 c)),(40,(uT13 c)),(41,(.bool (true))),(44,(.ptr 0 1)),(45,(uT1 c)),(46,(.int .i64 x5)),(47,(.cp [(.str x20),(.vs tP x21 x22),(.int .i64 x23),(.int .i64 x24),(.int .i64 x25),(.int .i64 x26)] 0)),(48,(.agg [(.str x20),(.vs tP x21 x22),(.int .i64 x23),(.int .i64 x24),(.int .i64 x25),(.int .i64 x26)])),(49,(.ptr 5 2)),(50,(.ptr 5 4)),(51,(.ptr 5 4)),(52,(.int .i64 x25)),(53,(.ptr 5 2)),(54,(.ptr 5 4)),(55,(.ptr 5 5)),(56,(.int .i64 x26)),(57,(.ptr 5 2)),(58,(.ptr 5 2)),(59,(.ptr 5 3)),(60,(.int .i64 x24)),(61,(.int .i64 x37)),(62,(.ptr 5 2)),(63,(.ptr 5 2)),(64,(.ptr 5 2)),(65,(.int .i64 x23)),(66,(.int .i64 x39)),(67,(.agg [(.int .i64 x25),(.int .i64 x26),(.int .i64 x37),(.int .i64 x39)])),(68,(.ptr 5 2)),(69,(.ptr 5 1))])) x107),(.blk 4),(.seq (pcOf N4 53 [1,1,1,1,0,0,1,0,0,1,0,1,1,1])),(.blk 3),(.seq (pcOf N4 53 [1,1,0,0,1,0,1,1,1])),(.lop (pcOf N4 53 [0,0,1,0,1,1,1]) 4 (tmOf 108 (uTs2 c++[(4,(.int .i64 x4)),(6,(.int .i64 (0))),(10,(.int .i64 x4))]++uTs1 c)) x119),(.blk 2),(.seq (pcOf N4 53 [1,1,1,1])),(.cal [(.cell 2 25)] .top)]⟩
noncomputable def ctrnI13 (c:tChart.den) (x4:Int) (x5:Int) (x6:Int) (x20:List Nat) (x21:Bool) (x22:List (Ty.den tP)) (x23:Int) (x24:Int) (x25:Int) (x26:Int) (x37:Int) (x39:Int) (x48:Nat) (x50:Nat) (x52:List AV) (x53:List AV) (x55:Nat) (x65:List AV) (x110:Nat) (x122:Nat):Cfg:=⟨.ex (pcOf N4 53 [0,0,1,0,1,1,1,0,0,1,0,0,1,0,1,1,1]) ⟨(tmOf 108 (uTs2 c++[(4,(.int .i64 x4)),(6,(.int .i64 x5)),(7,(.ptr 5 0)),(8,(.int .i64 x6)),(10,(.int .i64 x4))]++uTs1 c++[(37,(.int .i64 x5)),(38,(.ptr 0 1)),(39,(uT1 c)),(40,(uT13 c)),(41,(.bool (true))),(44,(.ptr 0 1)),(45,(uT1 c)),(46,(.int .i64 x5)),(47,(.cp [(.str x20),(.vs tP x21 x22),(.int .i64 x23),(.int .i64 x24),(.int .i64 x25),(.int .i64 x26)] 0)),(48,(.agg [(.str x20),(.vs tP x21 x22),(.int .i64 x23),(.int .i64 x24),(.int .i64 x25),(.int .i64 x26)])),(49,(.ptr 5 2)),(50,(.ptr 5 4)),(51,(.ptr 5 4)),(52,(.int .i64 x25)),(53,(.ptr 5 2)),(54,(.ptr 5 4)),(55,(.ptr 5 5)),(56,(.int .i64 x26)),(57,(.ptr 5 2)),(58,(.ptr 5 2)),(59,(.ptr 5 3)),(60,(.int .i64 x24)),(61,(.int .i64 x37)),(62,(.ptr 5 2)),(63,(.ptr 5 2)),(64,(.ptr 5 2)),(65,(.int .i64 x23)),(66,(.int .i64 x39)),(67,(.agg [(.int .i64 x25),(.int .i64 x26),(.int .i64 x37),(.int .i64 x39)])),(68,(.ptr 5 2)),(69,(.ptr 5 1))])),(hpOf 8 [(0,(uT12 c)),(1,(.cells false [.nils,.nils])),(2,(.cells false [(.sl 3 0 x48 x48 4),(.sl 4 0 x50 x50 6)])),(3,(.cells false x52)),(4,(.cells false x53)),(5,(.cells false [(.str x20),(.sl 7 0 x55 x55 2),(.int .i64 x25),(.int .i64 x26),(.int .i64 x37),(.int .i64 x39)])),(6,(.cells false [(.int .i64 x25),(.int .i64 x26),(.int .i64 x37),(.int .i64 x39)])),(7,(.cells false x65))]),[],[],108,false⟩,⟨8,[]⟩,[(.lop (pcOf N4 53 [0,0,1,0,1,1,1,0,0,1,0,0,1,0,1,1,1]) 7 (tmOf 108 (uTs2 c++[(4,(.int .i64 x4)),(6,(.int .i64 x5)),(7,(.ptr 5 0)),(8,(.int .i64 (0))),(10,(.int .i64 x4))]++uTs1 c++[(37,(.int .i64 x5)),(38,(.ptr 0 1)),(39,(uT1 c)),(40,(uT13 c)),(41,(.bool (true))),(44,(.ptr 0 1)),(45,(uT1 c)),(46,(.int .i64 x5)),(47,(.cp [(.str x20),(.vs tP x21 x22),(.int .i64 x23),(.int .i64 x24),(.int .i64 x25),(.int .i64 x26)] 0)),(48,(.agg [(.str x20),(.vs tP x21 x22),(.int .i64 x23),(.int .i64 x24),(.int .i64 x25),(.int .i64 x26)])),(49,(.ptr 5 2)),(50,(.ptr 5 4)),(51,(.ptr 5 4)),(52,(.int .i64 x25)),(53,(.ptr 5 2)),(54,(.ptr 5 4)),(55,(.ptr 5 5)),(56,(.int .i64 x26)),(57,(.ptr 5 2)),(58,(.ptr 5 2)),(59,(.ptr 5 3)),(60,(.int .i64 x24)),(61,(.int .i64 x37)),(62,(.ptr 5 2)),(63,(.ptr 5 2)),(64,(.ptr 5 2)),(65,(.int .i64 x23)),(66,(.int .i64 x39)),(67,(.agg [(.int .i64 x25),(.int .i64 x26),(.int .i64 x37),(.int .i64 x39)])),(68,(.ptr 5 2)),(69,(.ptr 5 1))])) x110),(.blk 4),(.seq (pcOf N4 53 [1,1,1,1,0,0,1,0,0,1,0,1,1,1])),(.blk 3),(.seq (pcOf N4 53 [1,1,0,0,1,0,1,1,1])),(.lop (pcOf N4 53 [0,0,1,0,1,1,1]) 4 (tmOf 108 (uTs2 c++[(4,(.int .i64 x4)),(6,(.int .i64 (0))),(10,(.int .i64 x4))]++uTs1 c)) x122),(.blk 2),(.seq (pcOf N4 53 [1,1,1,1])),(.cal [(.cell 2 25)] .top)]⟩
theorem ctrn_start (c:tChart.den):adv N4 ((V4 [53]).vars) 3000 (startC N4 53 [tChart.av c] 8)=some (.stop (ctrnI0 c (1048575))):=by kernel_rfl
theorem ctrn_step0 (c:tChart.den) (x14:Nat):adv N4 ((V4 [53]).vars) 3000 (ctrnI0 c (x14+1))=(bif !ile (↑c.1.2.length) 0 then (bif inB 0 c.1.2.length then some (.stop (ctrnI2 c (1) (1) ([AV.str (c.1.2.getD (Int.toNat 0) tMark.dflt).1,AV.int IntKind.i64 (c.1.2.getD (Int.toNat 0) tMark.dflt).2.1.2.1,AV.int IntKind.i64 (wr .i64 (0-(c.1.2.getD (Int.toNat 0) tMark.dflt).2.1.1)),AV.vs tP (c.1.2.getD (Int.toNat 0) tMark.dflt).2.2.1.1 (c.1.2.getD (Int.toNat 0) tMark.dflt).2.2.1.2]) (x14))) else none) else some (.stop (ctrnI1 c (1048575)))):=by kernel_rfl
theorem ctrn_step1 (c:tChart.den) (x26:Nat):adv N4 ((V4 [53]).vars) 3000 (ctrnI1 c (x26+1))=(bif !ile (↑c.2.1.2.length) 0 then (bif inB 0 c.2.1.2.length then some (.stop (ctrnI3 c (1048575) (x26+1))) else none) else some (.done (.agg [.nils,.nils]))):=by kernel_rfl
theorem ctrn_step2 (c:tChart.den) (x4:Int) (x9:Nat) (x11:List AV) (x17:Nat):adv N4 ((V4 [53]).vars) 3000 (ctrnI2 c x4 x9 x11 (x17+1))=(bif !ile (↑c.1.2.length) x4 then (bif inB x4 c.1.2.length then (bif (0+x9 * 4).beq x11.length then (bif x9.ble 1048576 then (bif plO (AO.cells false (x11++[AV.str (c.1.2.getD x4.toNat tMark.dflt).1,AV.int IntKind.i64 (c.1.2.getD x4.toNat tMark.dflt).2.1.2.1,AV.int IntKind.i64 (wr .i64 (0-(c.1.2.getD x4.toNat tMark.dflt).2.1.1)),AV.vs tP (c.1.2.getD x4.toNat tMark.dflt).2.2.1.1 (c.1.2.getD x4.toNat tMark.dflt).2.2.1.2])) then some (.stop (ctrnI2 c (wr .i64 (x4+1)) (x9+1) (x11++[AV.str (c.1.2.getD x4.toNat tMark.dflt).1,AV.int IntKind.i64 (c.1.2.getD x4.toNat tMark.dflt).2.1.2.1,AV.int IntKind.i64 (wr .i64 (0-(c.1.2.getD x4.toNat tMark.dflt).2.1.1)),AV.vs tP (c.1.2.getD x4.toNat tMark.dflt).2.2.1.1 (c.1.2.getD x4.toNat tMark.dflt).2.2.1.2]) (x17))) else none) else none) else none) else none) else some (.stop (ctrnI4 c (x4) (x9) (x11) (1048575)))):=by kernel_rfl
theorem ctrn_step3 (c:tChart.den) (x101:Nat) (x113:Nat):adv N4 ((V4 [53]).vars) 3000 (ctrnI3 c (x101+1) (x113+1))=(bif inB 0 c.2.1.2.length then (bif !ile (↑(c.2.1.2.getD (Int.toNat 0) tSand.dflt).2.1.2.length) 0 then (bif inB 0 c.2.1.2.length then (bif inB 0 (c.2.1.2.getD (Int.toNat 0) tSand.dflt).2.1.2.length then (bif ieq ((c.2.1.2.getD (Int.toNat 0) tSand.dflt).2.1.2.getD (Int.toNat 0) tP.dflt).1 ((c.2.1.2.getD (Int.toNat 0) tSand.dflt).2.1.2.getD (Int.toNat 0) tP.dflt).1 then (bif ieq ((c.2.1.2.getD (Int.toNat 0) tSand.dflt).2.1.2.getD (Int.toNat 0) tP.dflt).2.1 ((c.2.1.2.getD (Int.toNat 0) tSand.dflt).2.1.2.getD (Int.toNat 0) tP.dflt).2.1 then some (.stop (ctrnI6 c (1) (1) ([AV.int IntKind.i64 ((c.2.1.2.getD (Int.toNat 0) tSand.dflt).2.1.2.getD (Int.toNat 0) tP.dflt).2.1,AV.int IntKind.i64 (wr .i64 (0-((c.2.1.2.getD (Int.toNat 0) tSand.dflt).2.1.2.getD (Int.toNat 0) tP.dflt).1))]) (x101) (x113+1))) else none) else none) else none) else none) else some (.stop (ctrnI5 c (1) (1) ([AV.str (c.2.1.2.getD (Int.toNat 0) tSand.dflt).1,AV.nils,AV.int IntKind.i64 (c.2.1.2.getD (Int.toNat 0) tSand.dflt).2.2.1.2.1.1,AV.int IntKind.i64 (c.2.1.2.getD (Int.toNat 0) tSand.dflt).2.2.1.2.1.2.1,AV.int IntKind.i64 (wr .i64 (0-(c.2.1.2.getD (Int.toNat 0) tSand.dflt).2.2.1.1.2.1)),AV.int IntKind.i64 (wr .i64 (0-(c.2.1.2.getD (Int.toNat 0) tSand.dflt).2.2.1.1.1))]) (x113)))) else none):=by kernel_rfl
theorem ctrn_step4 (c:tChart.den) (x4:Int) (x15:Nat) (x17:List AV) (x29:Nat):adv N4 ((V4 [53]).vars) 3000 (ctrnI4 c x4 x15 x17 (x29+1))=(bif !ile (↑c.2.1.2.length) 0 then (bif inB 0 c.2.1.2.length then some (.stop (ctrnI7 c (x4) (x15) (x17) (1048575) (x29+1))) else none) else (bif plainL x17 then some (.done (.agg [(.csl (x17) (x15)),.nils])) else none)):=by kernel_rfl
theorem ctrn_step5 (c:tChart.den) (x5:Int) (x15:Nat) (x17:List AV) (x29:Nat):adv N4 ((V4 [53]).vars) 3000 (ctrnI5 c x5 x15 x17 (x29+1))=(bif !ile (↑c.2.1.2.length) x5 then (bif inB x5 c.2.1.2.length then some (.stop (ctrnI8 c (x5) ((c.2.1.2.getD x5.toNat tSand.dflt).1) ((c.2.1.2.getD x5.toNat tSand.dflt).2.1.1) ((c.2.1.2.getD x5.toNat tSand.dflt).2.1.2) ((c.2.1.2.getD x5.toNat tSand.dflt).2.2.1.1.1) ((c.2.1.2.getD x5.toNat tSand.dflt).2.2.1.1.2.1) ((c.2.1.2.getD x5.toNat tSand.dflt).2.2.1.2.1.1) ((c.2.1.2.getD x5.toNat tSand.dflt).2.2.1.2.1.2.1) (wr .i64 (0-(c.2.1.2.getD x5.toNat tSand.dflt).2.2.1.1.2.1)) (wr .i64 (0-(c.2.1.2.getD x5.toNat tSand.dflt).2.2.1.1.1)) (x15) (x17) (1048575) (x29+1))) else none) else (bif plainL x17 then some (.done (.agg [.nils,(.csl (x17) (x15))])) else none)):=by kernel_rfl
theorem ctrn_step6 (c:tChart.den) (x6:Int) (x49:Nat) (x59:List AV) (x104:Nat) (x116:Nat):adv N4 ((V4 [53]).vars) 3000 (ctrnI6 c x6 x49 x59 (x104+1) (x116+1))=(let z1:=(wr .i64 (0-((c.2.1.2.getD (Int.toNat 0) tSand.dflt).2.1.2.getD x6.toNat tP.dflt).1));(bif inB 0 c.2.1.2.length then (bif !ile (↑(c.2.1.2.getD (Int.toNat 0) tSand.dflt).2.1.2.length) x6 then (bif inB 0 c.2.1.2.length then (bif inB x6 (c.2.1.2.getD (Int.toNat 0) tSand.dflt).2.1.2.length then (bif (0+x49 * 2).beq x59.length then (bif x49.ble 1048576 then (bif ieq ((c.2.1.2.getD (Int.toNat 0) tSand.dflt).2.1.2.getD x6.toNat tP.dflt).1 ((c.2.1.2.getD (Int.toNat 0) tSand.dflt).2.1.2.getD x6.toNat tP.dflt).1 then (bif ieq ((c.2.1.2.getD (Int.toNat 0) tSand.dflt).2.1.2.getD x6.toNat tP.dflt).2.1 ((c.2.1.2.getD (Int.toNat 0) tSand.dflt).2.1.2.getD x6.toNat tP.dflt).2.1 then (bif avbeq (AV.sl 5 0 x49 x49 2) (AV.sl 5 0 x49 x49 2) then (bif avbeq (AV.sl 5 0 x49 x49 2) (AV.sl 5 0 x49 x49 2) then (bif plO (AO.cells false (x59++[AV.int IntKind.i64 ((c.2.1.2.getD (Int.toNat 0) tSand.dflt).2.1.2.getD x6.toNat tP.dflt).2.1,AV.int IntKind.i64 z1])) then some (.stop (ctrnI6 c (wr .i64 (x6+1)) (x49+1) (x59++[AV.int IntKind.i64 ((c.2.1.2.getD (Int.toNat 0) tSand.dflt).2.1.2.getD x6.toNat tP.dflt).2.1,AV.int IntKind.i64 z1]) (x104) (x116+1))) else none) else none) else none) else none) else none) else none) else none) else none) else none) else (bif plainL x59 then (bif plO (AO.cells true x59) then some (.stop (ctrnI5 c (1) (1) ([AV.str (c.2.1.2.getD (Int.toNat 0) tSand.dflt).1,AV.csl x59 x49,AV.int IntKind.i64 (c.2.1.2.getD (Int.toNat 0) tSand.dflt).2.2.1.2.1.1,AV.int IntKind.i64 (c.2.1.2.getD (Int.toNat 0) tSand.dflt).2.2.1.2.1.2.1,AV.int IntKind.i64 (wr .i64 (0-(c.2.1.2.getD (Int.toNat 0) tSand.dflt).2.2.1.1.2.1)),AV.int IntKind.i64 (wr .i64 (0-(c.2.1.2.getD (Int.toNat 0) tSand.dflt).2.2.1.1.1))]) (x116))) else none) else none)) else none)):=by kernel_rfl
theorem ctrn_step7 (c:tChart.den) (x4:Int) (x48:Nat) (x50:List AV) (x104:Nat) (x116:Nat):adv N4 ((V4 [53]).vars) 3000 (ctrnI7 c x4 x48 x50 (x104+1) (x116+1))=(bif inB 0 c.2.1.2.length then (bif !ile (↑(c.2.1.2.getD (Int.toNat 0) tSand.dflt).2.1.2.length) 0 then (bif inB 0 c.2.1.2.length then (bif inB 0 (c.2.1.2.getD (Int.toNat 0) tSand.dflt).2.1.2.length then (bif ieq ((c.2.1.2.getD (Int.toNat 0) tSand.dflt).2.1.2.getD (Int.toNat 0) tP.dflt).1 ((c.2.1.2.getD (Int.toNat 0) tSand.dflt).2.1.2.getD (Int.toNat 0) tP.dflt).1 then (bif ieq ((c.2.1.2.getD (Int.toNat 0) tSand.dflt).2.1.2.getD (Int.toNat 0) tP.dflt).2.1 ((c.2.1.2.getD (Int.toNat 0) tSand.dflt).2.1.2.getD (Int.toNat 0) tP.dflt).2.1 then (bif plO (AO.cells false x50) then some (.stop (ctrnI10 c (x4) (1) (x48) (x50) (1) ([AV.int IntKind.i64 ((c.2.1.2.getD (Int.toNat 0) tSand.dflt).2.1.2.getD (Int.toNat 0) tP.dflt).2.1,AV.int IntKind.i64 (wr .i64 (0-((c.2.1.2.getD (Int.toNat 0) tSand.dflt).2.1.2.getD (Int.toNat 0) tP.dflt).1))]) (x104) (x116+1))) else none) else none) else none) else none) else none) else (bif plO (AO.cells false x50) then some (.stop (ctrnI9 c (x4) (1) (x48) (1) (x50) ([AV.str (c.2.1.2.getD (Int.toNat 0) tSand.dflt).1,AV.nils,AV.int IntKind.i64 (c.2.1.2.getD (Int.toNat 0) tSand.dflt).2.2.1.2.1.1,AV.int IntKind.i64 (c.2.1.2.getD (Int.toNat 0) tSand.dflt).2.2.1.2.1.2.1,AV.int IntKind.i64 (wr .i64 (0-(c.2.1.2.getD (Int.toNat 0) tSand.dflt).2.2.1.1.2.1)),AV.int IntKind.i64 (wr .i64 (0-(c.2.1.2.getD (Int.toNat 0) tSand.dflt).2.2.1.1.1))]) (x116))) else none)) else none):=by kernel_rfl
theorem ctrn_step8 (c:tChart.den) (x5:Int) (x20:List Nat) (x21:Bool) (x22:List (Ty.den tP)) (x23:Int) (x24:Int) (x25:Int) (x26:Int) (x37:Int) (x39:Int) (x48:Nat) (x50:List AV) (x104:Nat) (x116:Nat):adv N4 ((V4 [53]).vars) 3000 (ctrnI8 c x5 x20 x21 x22 x23 x24 x25 x26 x37 x39 x48 x50 (x104+1) (x116+1))=(bif inB x5 c.2.1.2.length then (bif !ile (↑(c.2.1.2.getD x5.toNat tSand.dflt).2.1.2.length) 0 then (bif inB x5 c.2.1.2.length then (bif inB 0 (c.2.1.2.getD x5.toNat tSand.dflt).2.1.2.length then (bif ieq ((c.2.1.2.getD x5.toNat tSand.dflt).2.1.2.getD (Int.toNat 0) tP.dflt).1 ((c.2.1.2.getD x5.toNat tSand.dflt).2.1.2.getD (Int.toNat 0) tP.dflt).1 then (bif ieq ((c.2.1.2.getD x5.toNat tSand.dflt).2.1.2.getD (Int.toNat 0) tP.dflt).2.1 ((c.2.1.2.getD x5.toNat tSand.dflt).2.1.2.getD (Int.toNat 0) tP.dflt).2.1 then (bif plO (AO.cells false x50) then some (.stop (ctrnI11 c (x5) (1) (x20) (x21) (x22) (x23) (x24) (x25) (x26) (x37) (x39) (x48) (x50) (1) ([AV.int IntKind.i64 ((c.2.1.2.getD x5.toNat tSand.dflt).2.1.2.getD (Int.toNat 0) tP.dflt).2.1,AV.int IntKind.i64 (wr .i64 (0-((c.2.1.2.getD x5.toNat tSand.dflt).2.1.2.getD (Int.toNat 0) tP.dflt).1))]) (x104) (x116+1))) else none) else none) else none) else none) else none) else (bif (0+x48 * 6).beq x50.length then (bif x48.ble 1048576 then (bif plO (AO.cells false (x50++[AV.str x20,AV.nils,AV.int IntKind.i64 x25,AV.int IntKind.i64 x26,AV.int IntKind.i64 x37,AV.int IntKind.i64 x39])) then some (.stop (ctrnI5 c (wr .i64 (x5+1)) (x48+1) (x50++[AV.str x20,AV.nils,AV.int IntKind.i64 x25,AV.int IntKind.i64 x26,AV.int IntKind.i64 x37,AV.int IntKind.i64 x39]) (x116))) else none) else none) else none)) else none):=by kernel_rfl
theorem ctrn_step9 (c:tChart.den) (x4:Int) (x5:Int) (x15:Nat) (x17:Nat) (x19:List AV) (x20:List AV) (x32:Nat):adv N4 ((V4 [53]).vars) 3000 (ctrnI9 c x4 x5 x15 x17 x19 x20 (x32+1))=(bif !ile (↑c.2.1.2.length) x5 then (bif inB x5 c.2.1.2.length then some (.stop (ctrnI12 c (x4) (x5) ((c.2.1.2.getD x5.toNat tSand.dflt).1) ((c.2.1.2.getD x5.toNat tSand.dflt).2.1.1) ((c.2.1.2.getD x5.toNat tSand.dflt).2.1.2) ((c.2.1.2.getD x5.toNat tSand.dflt).2.2.1.1.1) ((c.2.1.2.getD x5.toNat tSand.dflt).2.2.1.1.2.1) ((c.2.1.2.getD x5.toNat tSand.dflt).2.2.1.2.1.1) ((c.2.1.2.getD x5.toNat tSand.dflt).2.2.1.2.1.2.1) (wr .i64 (0-(c.2.1.2.getD x5.toNat tSand.dflt).2.2.1.1.2.1)) (wr .i64 (0-(c.2.1.2.getD x5.toNat tSand.dflt).2.2.1.1.1)) (x15) (x17) (x19) (x20) (1048575) (x32+1))) else none) else (bif plainL x19 then (bif plainL x20 then some (.done (.agg [(.csl (x19) (x15)),(.csl (x20) (x17))])) else none) else none)):=by kernel_rfl
theorem ctrn_step10 (c:tChart.den) (x4:Int) (x6:Int) (x48:Nat) (x50:List AV) (x52:Nat) (x62:List AV) (x107:Nat) (x119:Nat):adv N4 ((V4 [53]).vars) 3000 (ctrnI10 c x4 x6 x48 x50 x52 x62 (x107+1) (x119+1))=(let z1:=(wr .i64 (0-((c.2.1.2.getD (Int.toNat 0) tSand.dflt).2.1.2.getD x6.toNat tP.dflt).1));(bif inB 0 c.2.1.2.length then (bif !ile (↑(c.2.1.2.getD (Int.toNat 0) tSand.dflt).2.1.2.length) x6 then (bif inB 0 c.2.1.2.length then (bif inB x6 (c.2.1.2.getD (Int.toNat 0) tSand.dflt).2.1.2.length then (bif (0+x52 * 2).beq x62.length then (bif x52.ble 1048576 then (bif ieq ((c.2.1.2.getD (Int.toNat 0) tSand.dflt).2.1.2.getD x6.toNat tP.dflt).1 ((c.2.1.2.getD (Int.toNat 0) tSand.dflt).2.1.2.getD x6.toNat tP.dflt).1 then (bif ieq ((c.2.1.2.getD (Int.toNat 0) tSand.dflt).2.1.2.getD x6.toNat tP.dflt).2.1 ((c.2.1.2.getD (Int.toNat 0) tSand.dflt).2.1.2.getD x6.toNat tP.dflt).2.1 then (bif avbeq (AV.sl 6 0 x52 x52 2) (AV.sl 6 0 x52 x52 2) then (bif avbeq (AV.sl 6 0 x52 x52 2) (AV.sl 6 0 x52 x52 2) then (bif plO (AO.cells false (x62++[AV.int IntKind.i64 ((c.2.1.2.getD (Int.toNat 0) tSand.dflt).2.1.2.getD x6.toNat tP.dflt).2.1,AV.int IntKind.i64 z1])) then (bif plO (AO.cells false x50) then some (.stop (ctrnI10 c (x4) (wr .i64 (x6+1)) (x48) (x50) (x52+1) (x62++[AV.int IntKind.i64 ((c.2.1.2.getD (Int.toNat 0) tSand.dflt).2.1.2.getD x6.toNat tP.dflt).2.1,AV.int IntKind.i64 z1]) (x107) (x119+1))) else none) else none) else none) else none) else none) else none) else none) else none) else none) else none) else (bif plainL x62 then (bif plO (AO.cells true x62) then (bif plO (AO.cells false x50) then some (.stop (ctrnI9 c (x4) (1) (x48) (1) (x50) ([AV.str (c.2.1.2.getD (Int.toNat 0) tSand.dflt).1,AV.csl x62 x52,AV.int IntKind.i64 (c.2.1.2.getD (Int.toNat 0) tSand.dflt).2.2.1.2.1.1,AV.int IntKind.i64 (c.2.1.2.getD (Int.toNat 0) tSand.dflt).2.2.1.2.1.2.1,AV.int IntKind.i64 (wr .i64 (0-(c.2.1.2.getD (Int.toNat 0) tSand.dflt).2.2.1.1.2.1)),AV.int IntKind.i64 (wr .i64 (0-(c.2.1.2.getD (Int.toNat 0) tSand.dflt).2.2.1.1.1))]) (x119))) else none) else none) else none)) else none)):=by kernel_rfl
theorem ctrn_step11 (c:tChart.den) (x5:Int) (x6:Int) (x20:List Nat) (x21:Bool) (x22:List (Ty.den tP)) (x23:Int) (x24:Int) (x25:Int) (x26:Int) (x37:Int) (x39:Int) (x48:Nat) (x50:List AV) (x52:Nat) (x62:List AV) (x107:Nat) (x119:Nat):adv N4 ((V4 [53]).vars) 3000 (ctrnI11 c x5 x6 x20 x21 x22 x23 x24 x25 x26 x37 x39 x48 x50 x52 x62 (x107+1) (x119+1))=(let z1:=(wr .i64 (0-((c.2.1.2.getD x5.toNat tSand.dflt).2.1.2.getD x6.toNat tP.dflt).1));(bif inB x5 c.2.1.2.length then (bif !ile (↑(c.2.1.2.getD x5.toNat tSand.dflt).2.1.2.length) x6 then (bif inB x5 c.2.1.2.length then (bif inB x6 (c.2.1.2.getD x5.toNat tSand.dflt).2.1.2.length then (bif (0+x52 * 2).beq x62.length then (bif x52.ble 1048576 then (bif ieq ((c.2.1.2.getD x5.toNat tSand.dflt).2.1.2.getD x6.toNat tP.dflt).1 ((c.2.1.2.getD x5.toNat tSand.dflt).2.1.2.getD x6.toNat tP.dflt).1 then (bif ieq ((c.2.1.2.getD x5.toNat tSand.dflt).2.1.2.getD x6.toNat tP.dflt).2.1 ((c.2.1.2.getD x5.toNat tSand.dflt).2.1.2.getD x6.toNat tP.dflt).2.1 then (bif avbeq (AV.sl 6 0 x52 x52 2) (AV.sl 6 0 x52 x52 2) then (bif avbeq (AV.sl 6 0 x52 x52 2) (AV.sl 6 0 x52 x52 2) then (bif plO (AO.cells false (x62++[AV.int IntKind.i64 ((c.2.1.2.getD x5.toNat tSand.dflt).2.1.2.getD x6.toNat tP.dflt).2.1,AV.int IntKind.i64 z1])) then (bif plO (AO.cells false x50) then some (.stop (ctrnI11 c (x5) (wr .i64 (x6+1)) (x20) (x21) (x22) (x23) (x24) (x25) (x26) (x37) (x39) (x48) (x50) (x52+1) (x62++[AV.int IntKind.i64 ((c.2.1.2.getD x5.toNat tSand.dflt).2.1.2.getD x6.toNat tP.dflt).2.1,AV.int IntKind.i64 z1]) (x107) (x119+1))) else none) else none) else none) else none) else none) else none) else none) else none) else none) else none) else (bif plainL x62 then (bif (0+x48 * 6).beq x50.length then (bif x48.ble 1048576 then (bif plO (AO.cells true x62) then (bif plO (AO.cells false (x50++[AV.str x20,AV.csl x62 x52,AV.int IntKind.i64 x25,AV.int IntKind.i64 x26,AV.int IntKind.i64 x37,AV.int IntKind.i64 x39])) then some (.stop (ctrnI5 c (wr .i64 (x5+1)) (x48+1) (x50++[AV.str x20,AV.csl x62 x52,AV.int IntKind.i64 x25,AV.int IntKind.i64 x26,AV.int IntKind.i64 x37,AV.int IntKind.i64 x39]) (x119))) else none) else none) else none) else none) else none)) else none)):=by kernel_rfl
theorem ctrn_step12 (c:tChart.den) (x4:Int) (x5:Int) (x20:List Nat) (x21:Bool) (x22:List (Ty.den tP)) (x23:Int) (x24:Int) (x25:Int) (x26:Int) (x37:Int) (x39:Int) (x48:Nat) (x50:Nat) (x52:List AV) (x53:List AV) (x107:Nat) (x119:Nat):adv N4 ((V4 [53]).vars) 3000 (ctrnI12 c x4 x5 x20 x21 x22 x23 x24 x25 x26 x37 x39 x48 x50 x52 x53 (x107+1) (x119+1))=(bif inB x5 c.2.1.2.length then (bif !ile (↑(c.2.1.2.getD x5.toNat tSand.dflt).2.1.2.length) 0 then (bif inB x5 c.2.1.2.length then (bif inB 0 (c.2.1.2.getD x5.toNat tSand.dflt).2.1.2.length then (bif ieq ((c.2.1.2.getD x5.toNat tSand.dflt).2.1.2.getD (Int.toNat 0) tP.dflt).1 ((c.2.1.2.getD x5.toNat tSand.dflt).2.1.2.getD (Int.toNat 0) tP.dflt).1 then (bif ieq ((c.2.1.2.getD x5.toNat tSand.dflt).2.1.2.getD (Int.toNat 0) tP.dflt).2.1 ((c.2.1.2.getD x5.toNat tSand.dflt).2.1.2.getD (Int.toNat 0) tP.dflt).2.1 then (bif plO (AO.cells false x53) then (bif plO (AO.cells false x52) then some (.stop (ctrnI13 c (x4) (x5) (1) (x20) (x21) (x22) (x23) (x24) (x25) (x26) (x37) (x39) (x48) (x50) (x52) (x53) (1) ([AV.int IntKind.i64 ((c.2.1.2.getD x5.toNat tSand.dflt).2.1.2.getD (Int.toNat 0) tP.dflt).2.1,AV.int IntKind.i64 (wr .i64 (0-((c.2.1.2.getD x5.toNat tSand.dflt).2.1.2.getD (Int.toNat 0) tP.dflt).1))]) (x107) (x119+1))) else none) else none) else none) else none) else none) else none) else (bif (0+x50 * 6).beq x53.length then (bif x50.ble 1048576 then (bif plO (AO.cells false (x53++[AV.str x20,AV.nils,AV.int IntKind.i64 x25,AV.int IntKind.i64 x26,AV.int IntKind.i64 x37,AV.int IntKind.i64 x39])) then (bif plO (AO.cells false x52) then some (.stop (ctrnI9 c (x4) (wr .i64 (x5+1)) (x48) (x50+1) (x52) (x53++[AV.str x20,AV.nils,AV.int IntKind.i64 x25,AV.int IntKind.i64 x26,AV.int IntKind.i64 x37,AV.int IntKind.i64 x39]) (x119))) else none) else none) else none) else none)) else none):=by kernel_rfl
theorem ctrn_step13 (c:tChart.den) (x4:Int) (x5:Int) (x6:Int) (x20:List Nat) (x21:Bool) (x22:List (Ty.den tP)) (x23:Int) (x24:Int) (x25:Int) (x26:Int) (x37:Int) (x39:Int) (x48:Nat) (x50:Nat) (x52:List AV) (x53:List AV) (x55:Nat) (x65:List AV) (x110:Nat) (x122:Nat):adv N4 ((V4 [53]).vars) 3000 (ctrnI13 c x4 x5 x6 x20 x21 x22 x23 x24 x25 x26 x37 x39 x48 x50 x52 x53 x55 x65 (x110+1) (x122+1))=(let z1:=(wr .i64 (0-((c.2.1.2.getD x5.toNat tSand.dflt).2.1.2.getD x6.toNat tP.dflt).1));(bif inB x5 c.2.1.2.length then (bif !ile (↑(c.2.1.2.getD x5.toNat tSand.dflt).2.1.2.length) x6 then (bif inB x5 c.2.1.2.length then (bif inB x6 (c.2.1.2.getD x5.toNat tSand.dflt).2.1.2.length then (bif (0+x55 * 2).beq x65.length then (bif x55.ble 1048576 then (bif ieq ((c.2.1.2.getD x5.toNat tSand.dflt).2.1.2.getD x6.toNat tP.dflt).1 ((c.2.1.2.getD x5.toNat tSand.dflt).2.1.2.getD x6.toNat tP.dflt).1 then (bif ieq ((c.2.1.2.getD x5.toNat tSand.dflt).2.1.2.getD x6.toNat tP.dflt).2.1 ((c.2.1.2.getD x5.toNat tSand.dflt).2.1.2.getD x6.toNat tP.dflt).2.1 then (bif avbeq (AV.sl 7 0 x55 x55 2) (AV.sl 7 0 x55 x55 2) then (bif avbeq (AV.sl 7 0 x55 x55 2) (AV.sl 7 0 x55 x55 2) then (bif plO (AO.cells false (x65++[AV.int IntKind.i64 ((c.2.1.2.getD x5.toNat tSand.dflt).2.1.2.getD x6.toNat tP.dflt).2.1,AV.int IntKind.i64 z1])) then (bif plO (AO.cells false x53) then (bif plO (AO.cells false x52) then some (.stop (ctrnI13 c (x4) (x5) (wr .i64 (x6+1)) (x20) (x21) (x22) (x23) (x24) (x25) (x26) (x37) (x39) (x48) (x50) (x52) (x53) (x55+1) (x65++[AV.int IntKind.i64 ((c.2.1.2.getD x5.toNat tSand.dflt).2.1.2.getD x6.toNat tP.dflt).2.1,AV.int IntKind.i64 z1]) (x110) (x122+1))) else none) else none) else none) else none) else none) else none) else none) else none) else none) else none) else none) else (bif plainL x65 then (bif (0+x50 * 6).beq x53.length then (bif x50.ble 1048576 then (bif plO (AO.cells true x65) then (bif plO (AO.cells false (x53++[AV.str x20,AV.csl x65 x55,AV.int IntKind.i64 x25,AV.int IntKind.i64 x26,AV.int IntKind.i64 x37,AV.int IntKind.i64 x39])) then (bif plO (AO.cells false x52) then some (.stop (ctrnI9 c (x4) (wr .i64 (x5+1)) (x48) (x50+1) (x52) (x53++[AV.str x20,AV.csl x65 x55,AV.int IntKind.i64 x25,AV.int IntKind.i64 x26,AV.int IntKind.i64 x37,AV.int IntKind.i64 x39]) (x122))) else none) else none) else none) else none) else none) else none)) else none)):=by kernel_rfl
noncomputable def rowC (s:tSand.den):List AV:=[AV.str s.1,AV.csl (flat tP (s.2.1.2.map trP)) s.2.1.2.length,AV.int .i64 s.2.2.1.2.1.1,AV.int .i64 s.2.2.1.2.1.2.1,AV.int .i64 (wr .i64 (0-s.2.2.1.1.2.1)),AV.int .i64 (wr .i64 (0-s.2.2.1.1.1))]
noncomputable def rowN (s:tSand.den):List AV:=[AV.str s.1,AV.nils,AV.int .i64 s.2.2.1.2.1.1,AV.int .i64 s.2.2.1.2.1.2.1,AV.int .i64 (wr .i64 (0-s.2.2.1.1.2.1)),AV.int .i64 (wr .i64 (0-s.2.2.1.1.1))]
noncomputable def rowT (s:tSand.den):List AV:=bif s.2.1.2.isEmpty then rowN s else rowC s
theorem rowT_ne {s:tSand.den} (h:0<s.2.1.2.length):rowT s=rowC s:=by
 unfold rowT
 cases e:s.2.1.2 with
 |nil=>rw[e] at h;cases h
 |cons a l=>rfl
theorem rowT_em {s:tSand.den} (h:s.2.1.2.length=0):rowT s=rowN s:=by
 unfold rowT
 cases e:s.2.1.2 with
 |nil=>rfl
 |cons a l=>rw[e] at h;cases h
noncomputable def rowsT (L:List tSand.den):List AV:=L.flatMap rowT
theorem rowT_plain (s:tSand.den) (r:List AV):plainL (rowT s++r)=plainL r∧(rowT s).length=6:=by
 unfold rowT
 cases s.2.1.2.isEmpty<;>exact⟨rfl,rfl⟩
theorem rowsT_plain:∀ L,plainL (rowsT L)=true
 |[]=>rfl
 |s::L=>by rw[show rowsT (s::L)=rowT s++rowsT L from rfl,(rowT_plain s _).1];exact rowsT_plain L
theorem rowsT_len:∀ L,(rowsT L).length=L.length * 6
 |[]=>rfl
 |s::L=>by rw[show rowsT (s::L)=rowT s++rowsT L from rfl,List.length_append,rowsT_len L,List.length_cons,(rowT_plain s []).2];omega
theorem rowsT_beq {L:List tSand.den} {n:Nat} (h:L.length=n):(0+n * 6).beq (rowsT L).length=true:=by
 rw[rowsT_len,h,Nat.zero_add];exact Nat.beq_refl _
theorem rowsT_add (L:List tSand.den) (s:tSand.den):rowsT L++rowT s=rowsT (L++[s]):=by
 unfold rowsT
 rw[List.flatMap_append,List.flatMap_cons,List.flatMap_nil,List.append_nil]
theorem rowT_rd (s:tSand.den) (r:List AV):rd tSand (rowT s++r)=some (true,trS s,r):=by
 unfold rowT trS
 cases e:s.2.1.2 with
 |nil=>rfl
 |cons a l=>
  obtain⟨h1,h2⟩:=unf_flat (t:=tP) (s.2.1.2.map trP) s.2.1.2.length (by rw[List.length_map])
  have:rd tSand (rowC s++r)=some (isF (rd tP) s.2.1.2.length (flat tP (s.2.1.2.map trP))&&true,(s.1,(false,unf (rd tP) s.2.1.2.length (flat tP (s.2.1.2.map trP))),((s.2.2.1.2.1.1,s.2.2.1.2.1.2.1,()),(wr .i64 (0-s.2.2.1.1.2.1),wr .i64 (0-s.2.2.1.1.1),()),()),()),r):=rfl
  show rd tSand (rowC s++r)=_
  rw[this,h1,h2,e];rfl
theorem rowsT_rd:∀ (L:List tSand.den) (n:Nat),n=L.length→isF (rd tSand) n (rowsT L)=true∧unf (rd tSand) n (rowsT L)=L.map trS
 |[],n,h=>by subst h;exact⟨rfl,rfl⟩
 |s::L,n,h=>by
  subst h
  obtain⟨h1,h2⟩:=rowsT_rd L L.length rfl
  have e:rowsT (s::L)=rowT s++rowsT L:=rfl
  exact⟨by simp only[List.length_cons,isF,e,rowT_rd,h1,Bool.and_self],by simp only[List.length_cons,unf,e,rowT_rd,h2,List.map_cons]⟩
theorem flatM_plain:∀ L:List tMark.den,plainL (flat tMark L)=true
 |[]=>rfl
 |_::L=>flatM_plain L
theorem flatM_beq {L:List tMark.den} {n:Nat} (h:L.length=n):(0+n * 4).beq (flat tMark L).length=true:=by
 rw[flat_length,h,Nat.zero_add];exact Nat.beq_refl _
theorem flatM_add (L:List tMark.den) (m:tMark.den):flat tMark L++[AV.str m.1,AV.int .i64 m.2.1.2.1,AV.int .i64 (wr .i64 (0-m.2.1.1)),AV.vs tP m.2.2.1.1 m.2.2.1.2]=flat tMark (L++[trM m]):=by
 unfold flat
 rw[List.flatMap_append]
 rfl
theorem flatQ_beq {L:List tP.den} {n:Nat} (h:L.length=n):(0+n * 2).beq (flat tP L).length=true:=by
 rw[flat_length,h,Nat.zero_add];exact Nat.beq_refl _
theorem flatQ_add (L:List tP.den) (p:tP.den):flat tP L++[AV.int .i64 p.2.1,AV.int .i64 (wr .i64 (0-p.1))]=flat tP (L++[trP p]):=by
 unfold flat
 rw[List.flatMap_append]
 rfl
theorem avbeq_sl (i n:Nat):avbeq (AV.sl i 0 n n 2) (AV.sl i 0 n n 2)=true:=by
 simp[avbeq]
theorem take_add {α β:Type} (f:α→β) {l:List α} {i:Nat} (d:α) (h:i<l.length):(l.take i).map f++[f (l.getD i d)]=(l.take (i+1)).map f:=by
 rw[gdN h,List.take_succ_eq_append_getElem h,List.map_append];rfl
theorem take_len {α β:Type} (f:α→β) {l:List α} {i:Nat} (h:i≤l.length):((l.take i).map f).length=i:=by
 rw[List.length_map,List.length_take];omega
section
variable (c:tChart.den) {V:AV}
theorem tlA (hj:0<c.2.1.2.length) (h3:(sd c 0).2.1.2.length≤1000000) (h4:c.2.1.2.length≤1000000) (m':Nat) (h0:0<(sd c 0).2.1.2.length) (K:Ans N4 (ctrnI5 c ((1:Nat):Int) 1 (rowsT (c.2.1.2.take 1)) m') V):∀ (r k m:Nat),k+r=(sd c 0).2.1.2.length→r<m→Ans N4 (ctrnI6 c (k:Int) k (flat tP (((sd c 0).2.1.2.take k).map trP)) m (m'+1)) V
 | 0, k, m + 1, hk, hm => by
  have h:=ctrn_step6 c (k:Int) k (flat tP (((sd c 0).2.1.2.take k).map trP)) m m'
  have hkk:k=(sd c 0).2.1.2.length:=by omega
  have ht:(sd c 0).2.1.2.take k=(sd c 0).2.1.2:=by rw[hkk,List.take_length]
  have hsd:c.2.1.2.getD (Int.toNat 0) tSand.dflt=sd c 0:=rfl
  have e3:rowC (sd c 0)=rowsT (c.2.1.2.take 1):=by
   rw[show (1:Nat)=0+1 from rfl,List.take_succ_eq_append_getElem hj]
   have:c.2.1.2[0]=sd c 0:=(gdN hj).symm
   rw[this,List.take_zero,List.nil_append]
   show _=rowT (sd c 0)++[]
   rw[rowT_ne h0,List.append_nil]
  rw[ht] at h⊢
  have q:=flatQ_beq (L:=(sd c 0).2.1.2.map trP) (n:=k) (by rw[List.length_map];exact hkk.symm)
  simp only[inB_0 hj,nat_to,hsd,ile_ge (show (sd c 0).2.1.2.length≤k by omega),flatP_plain,plO,Bool.not_true,cond_true,cond_false] at h
  have h':adv N4 ((V4 [53]).vars) 3000 (ctrnI6 c (k:Int) k (flat tP ((sd c 0).2.1.2.map trP)) (m+1) (m'+1))=some (.stop (ctrnI5 c ((1:Nat):Int) 1 (rowsT (c.2.1.2.take 1)) m')):=by
   rw[← e3,hkk];rw[hkk] at h;exact h
  exact .stop (Sy.vars_ok (V4_ok _)) N4sy h' K
 | r + 1, k, m + 1, hk, hm => by
  have h:=ctrn_step6 c (k:Int) k (flat tP (((sd c 0).2.1.2.take k).map trP)) m m'
  have hlt:k<(sd c 0).2.1.2.length:=by omega
  have hsd:c.2.1.2.getD (Int.toNat 0) tSand.dflt=sd c 0:=rfl
  have e1:=take_len trP (l:=(sd c 0).2.1.2) (i:=k) (by omega)
  have e2:=take_add trP (l:=(sd c 0).2.1.2) (i:=k) tP.dflt hlt
  have e4:=flatQ_add (((sd c 0).2.1.2.take k).map trP) ((sd c 0).2.1.2.getD k tP.dflt)
  rw[e2] at e4
  simp only[inB_0 hj,nat_to,hsd,ile_lt hlt,inB_at hlt,flatQ_beq e1,Nat.ble_eq_true_of_le (show k≤1048576 by omega),ieq_self,bbeq_self,vsB_self,avbeq_sl,wr_succ (show k<1048577 by omega),rowsT_plain,plO,Bool.not_false,cond_true] at h
  have h':adv N4 ((V4 [53]).vars) 3000 (ctrnI6 c (k:Int) k (flat tP (((sd c 0).2.1.2.take k).map trP)) (m+1) (m'+1))=bif plainL (flat tP (((sd c 0).2.1.2.take (k+1)).map trP)) then some (.stop (ctrnI6 c ((k+1:Nat):Int) (k+1) (flat tP (((sd c 0).2.1.2.take (k+1)).map trP)) m (m'+1))) else none:=by
   rw[← e4];exact h
  rw[flatP_plain,cond_true] at h'
  exact .stop (Sy.vars_ok (V4_ok _)) N4sy h' (tlA hj h3 h4 m' h0 K r (k+1) m (by omega) (by omega))
theorem tsA (hj:0<c.2.1.2.length) (h3:(sd c 0).2.1.2.length≤1000000) (h4:c.2.1.2.length≤1000000) (M m':Nat) (hM:(sd c 0).2.1.2.length<M) (K:Ans N4 (ctrnI5 c ((1:Nat):Int) 1 (rowsT (c.2.1.2.take 1)) m') V):Ans N4 (ctrnI3 c M (m'+1)) V:=by
 obtain⟨m,rfl⟩:∃ m,M=m+1:=⟨M-1,by omega⟩
 have h:=ctrn_step3 c m m'
 have hsd:c.2.1.2.getD (Int.toNat 0) tSand.dflt=sd c 0:=rfl
 by_cases h0:0<(sd c 0).2.1.2.length
 · have e2 := take_add trP (l := (sd c 0).2.1.2) (i := 0) tP.dflt h0
   have e4:=flatQ_add [] ((sd c 0).2.1.2.getD 0 tP.dflt)
   rw[List.nil_append,show flat tP []=[] from rfl,List.nil_append] at e4
   rw[show ((sd c 0).2.1.2.take 0).map trP=[] from rfl,List.nil_append] at e2
   rw[e2] at e4
   simp only[inB_0 hj,nat_to,hsd,ile_lt0 h0,inB_0 h0,ieq_self,bbeq_self,vsB_self,rowsT_plain,plO,Bool.not_false,cond_true] at h
   have h':adv N4 ((V4 [53]).vars) 3000 (ctrnI3 c (m+1) (m'+1))=some (.stop (ctrnI6 c ((1:Nat):Int) 1 (flat tP (((sd c 0).2.1.2.take 1).map trP)) m (m'+1))):=by
    rw[← e4];exact h
   exact .stop (Sy.vars_ok (V4_ok _)) N4sy h' (tlA c hj h3 h4 m' h0 K ((sd c 0).2.1.2.length-1) 1 m (by omega) (by omega))
 · have hz : (sd c 0).2.1.2.length = 0 := by omega
   have e3:rowN (sd c 0)=rowsT (c.2.1.2.take 1):=by
    rw[show (1:Nat)=0+1 from rfl,List.take_succ_eq_append_getElem hj]
    have:c.2.1.2[0]=sd c 0:=(gdN hj).symm
    rw[this,List.take_zero,List.nil_append]
    show _=rowT (sd c 0)++[]
    rw[rowT_em hz,List.append_nil]
   simp only[inB_0 hj,nat_to,hsd,show ile ((sd c 0).2.1.2.length:Int) 0=true by rw[hz];rfl,rowsT_plain,plO,Bool.not_true,cond_true,cond_false] at h
   have h':adv N4 ((V4 [53]).vars) 3000 (ctrnI3 c (m+1) (m'+1))=some (.stop (ctrnI5 c ((1:Nat):Int) 1 (rowsT (c.2.1.2.take 1)) m')):=by
    rw[← e3];exact h
   exact .stop (Sy.vars_ok (V4_ok _)) N4sy h' K
theorem tlB (x4:Int) (n1:Nat) (l1:List AV) (hl1:plainL l1=true) (hj:0<c.2.1.2.length) (h3:(sd c 0).2.1.2.length≤1000000) (h4:c.2.1.2.length≤1000000) (m':Nat) (h0:0<(sd c 0).2.1.2.length) (K:Ans N4 (ctrnI9 c x4 ((1:Nat):Int) n1 1 l1 (rowsT (c.2.1.2.take 1)) m') V):∀ (r k m:Nat),k+r=(sd c 0).2.1.2.length→r<m→Ans N4 (ctrnI10 c x4 (k:Int) n1 l1 k (flat tP (((sd c 0).2.1.2.take k).map trP)) m (m'+1)) V
 | 0, k, m + 1, hk, hm => by
  have h:=ctrn_step10 c x4 (k:Int) n1 l1 k (flat tP (((sd c 0).2.1.2.take k).map trP)) m m'
  have hkk:k=(sd c 0).2.1.2.length:=by omega
  have ht:(sd c 0).2.1.2.take k=(sd c 0).2.1.2:=by rw[hkk,List.take_length]
  have hsd:c.2.1.2.getD (Int.toNat 0) tSand.dflt=sd c 0:=rfl
  have e3:rowC (sd c 0)=rowsT (c.2.1.2.take 1):=by
   rw[show (1:Nat)=0+1 from rfl,List.take_succ_eq_append_getElem hj]
   have:c.2.1.2[0]=sd c 0:=(gdN hj).symm
   rw[this,List.take_zero,List.nil_append]
   show _=rowT (sd c 0)++[]
   rw[rowT_ne h0,List.append_nil]
  rw[ht] at h⊢
  have q:=flatQ_beq (L:=(sd c 0).2.1.2.map trP) (n:=k) (by rw[List.length_map];exact hkk.symm)
  simp only[inB_0 hj,nat_to,hsd,ile_ge (show (sd c 0).2.1.2.length≤k by omega),flatP_plain,hl1,plO,Bool.not_true,cond_true,cond_false] at h
  have h':adv N4 ((V4 [53]).vars) 3000 (ctrnI10 c x4 (k:Int) n1 l1 k (flat tP ((sd c 0).2.1.2.map trP)) (m+1) (m'+1))=some (.stop (ctrnI9 c x4 ((1:Nat):Int) n1 1 l1 (rowsT (c.2.1.2.take 1)) m')):=by
   rw[← e3,hkk];rw[hkk] at h;exact h
  exact .stop (Sy.vars_ok (V4_ok _)) N4sy h' K
 | r + 1, k, m + 1, hk, hm => by
  have h:=ctrn_step10 c x4 (k:Int) n1 l1 k (flat tP (((sd c 0).2.1.2.take k).map trP)) m m'
  have hlt:k<(sd c 0).2.1.2.length:=by omega
  have hsd:c.2.1.2.getD (Int.toNat 0) tSand.dflt=sd c 0:=rfl
  have e1:=take_len trP (l:=(sd c 0).2.1.2) (i:=k) (by omega)
  have e2:=take_add trP (l:=(sd c 0).2.1.2) (i:=k) tP.dflt hlt
  have e4:=flatQ_add (((sd c 0).2.1.2.take k).map trP) ((sd c 0).2.1.2.getD k tP.dflt)
  rw[e2] at e4
  simp only[inB_0 hj,nat_to,hsd,ile_lt hlt,inB_at hlt,flatQ_beq e1,Nat.ble_eq_true_of_le (show k≤1048576 by omega),ieq_self,bbeq_self,vsB_self,avbeq_sl,wr_succ (show k<1048577 by omega),rowsT_plain,hl1,plO,Bool.not_false,cond_true] at h
  have h':adv N4 ((V4 [53]).vars) 3000 (ctrnI10 c x4 (k:Int) n1 l1 k (flat tP (((sd c 0).2.1.2.take k).map trP)) (m+1) (m'+1))=bif plainL (flat tP (((sd c 0).2.1.2.take (k+1)).map trP)) then some (.stop (ctrnI10 c x4 ((k+1:Nat):Int) n1 l1 (k+1) (flat tP (((sd c 0).2.1.2.take (k+1)).map trP)) m (m'+1))) else none:=by
   rw[← e4];exact h
  rw[flatP_plain,cond_true] at h'
  exact .stop (Sy.vars_ok (V4_ok _)) N4sy h' (tlB x4 n1 l1 hl1 hj h3 h4 m' h0 K r (k+1) m (by omega) (by omega))
theorem tsB (x4:Int) (n1:Nat) (l1:List AV) (hl1:plainL l1=true) (hj:0<c.2.1.2.length) (h3:(sd c 0).2.1.2.length≤1000000) (h4:c.2.1.2.length≤1000000) (M m':Nat) (hM:(sd c 0).2.1.2.length<M) (K:Ans N4 (ctrnI9 c x4 ((1:Nat):Int) n1 1 l1 (rowsT (c.2.1.2.take 1)) m') V):Ans N4 (ctrnI7 c x4 n1 l1 M (m'+1)) V:=by
 obtain⟨m,rfl⟩:∃ m,M=m+1:=⟨M-1,by omega⟩
 have h:=ctrn_step7 c x4 n1 l1 m m'
 have hsd:c.2.1.2.getD (Int.toNat 0) tSand.dflt=sd c 0:=rfl
 by_cases h0:0<(sd c 0).2.1.2.length
 · have e2 := take_add trP (l := (sd c 0).2.1.2) (i := 0) tP.dflt h0
   have e4:=flatQ_add [] ((sd c 0).2.1.2.getD 0 tP.dflt)
   rw[List.nil_append,show flat tP []=[] from rfl,List.nil_append] at e4
   rw[show ((sd c 0).2.1.2.take 0).map trP=[] from rfl,List.nil_append] at e2
   rw[e2] at e4
   simp only[inB_0 hj,nat_to,hsd,ile_lt0 h0,inB_0 h0,ieq_self,bbeq_self,vsB_self,rowsT_plain,hl1,plO,Bool.not_false,cond_true] at h
   have h':adv N4 ((V4 [53]).vars) 3000 (ctrnI7 c x4 n1 l1 (m+1) (m'+1))=some (.stop (ctrnI10 c x4 ((1:Nat):Int) n1 l1 1 (flat tP (((sd c 0).2.1.2.take 1).map trP)) m (m'+1))):=by
    rw[← e4];exact h
   exact .stop (Sy.vars_ok (V4_ok _)) N4sy h' (tlB c x4 n1 l1 hl1 hj h3 h4 m' h0 K ((sd c 0).2.1.2.length-1) 1 m (by omega) (by omega))
 · have hz : (sd c 0).2.1.2.length = 0 := by omega
   have e3:rowN (sd c 0)=rowsT (c.2.1.2.take 1):=by
    rw[show (1:Nat)=0+1 from rfl,List.take_succ_eq_append_getElem hj]
    have:c.2.1.2[0]=sd c 0:=(gdN hj).symm
    rw[this,List.take_zero,List.nil_append]
    show _=rowT (sd c 0)++[]
    rw[rowT_em hz,List.append_nil]
   simp only[inB_0 hj,nat_to,hsd,show ile ((sd c 0).2.1.2.length:Int) 0=true by rw[hz];rfl,hl1,rowsT_plain,plO,Bool.not_true,cond_true,cond_false] at h
   have h':adv N4 ((V4 [53]).vars) 3000 (ctrnI7 c x4 n1 l1 (m+1) (m'+1))=some (.stop (ctrnI9 c x4 ((1:Nat):Int) n1 1 l1 (rowsT (c.2.1.2.take 1)) m')):=by
    rw[← e3];exact h
   exact .stop (Sy.vars_ok (V4_ok _)) N4sy h' K
theorem tlC (j:Nat) (hj:j<c.2.1.2.length) (h3:(sd c j).2.1.2.length≤1000000) (h4:c.2.1.2.length≤1000000) (m':Nat) (h0:0<(sd c j).2.1.2.length) (K:Ans N4 (ctrnI5 c ((j+1:Nat):Int) (j+1) (rowsT (c.2.1.2.take (j+1))) m') V):∀ (r k m:Nat),k+r=(sd c j).2.1.2.length→r<m→Ans N4 (ctrnI11 c j (k:Int) (sd c j).1 (sd c j).2.1.1 (sd c j).2.1.2 (sd c j).2.2.1.1.1 (sd c j).2.2.1.1.2.1 (sd c j).2.2.1.2.1.1 (sd c j).2.2.1.2.1.2.1 (wr .i64 (0-(sd c j).2.2.1.1.2.1)) (wr .i64 (0-(sd c j).2.2.1.1.1)) j (rowsT (c.2.1.2.take j)) k (flat tP (((sd c j).2.1.2.take k).map trP)) m (m'+1)) V
 | 0, k, m + 1, hk, hm => by
  have h:=ctrn_step11 c j (k:Int) (sd c j).1 (sd c j).2.1.1 (sd c j).2.1.2 (sd c j).2.2.1.1.1 (sd c j).2.2.1.1.2.1 (sd c j).2.2.1.2.1.1 (sd c j).2.2.1.2.1.2.1 (wr .i64 (0-(sd c j).2.2.1.1.2.1)) (wr .i64 (0-(sd c j).2.2.1.1.1)) j (rowsT (c.2.1.2.take j)) k (flat tP (((sd c j).2.1.2.take k).map trP)) m m'
  have hkk:k=(sd c j).2.1.2.length:=by omega
  have ht:(sd c j).2.1.2.take k=(sd c j).2.1.2:=by rw[hkk,List.take_length]
  have hsd:c.2.1.2.getD j tSand.dflt=sd c j:=rfl
  have hrl:(c.2.1.2.take j).length=j:=by rw[List.length_take];omega
  have e3:rowsT (c.2.1.2.take j)++rowC (sd c j)=rowsT (c.2.1.2.take (j+1)):=by
   rw[← rowT_ne h0,rowsT_add,List.take_succ_eq_append_getElem hj]
   have:c.2.1.2[j]=sd c j:=(gdN hj).symm
   rw[this]
  rw[ht] at h⊢
  have q:=flatQ_beq (L:=(sd c j).2.1.2.map trP) (n:=k) (by rw[List.length_map];exact hkk.symm)
  simp only[inB_at hj,nat_to,hsd,ile_ge (show (sd c j).2.1.2.length≤k by omega),flatP_plain,rowsT_beq hrl,Nat.ble_eq_true_of_le (show j≤1048576 by omega),wr_succ (show j<1048577 by omega),plO,Bool.not_true,cond_true,cond_false] at h
  have h':adv N4 ((V4 [53]).vars) 3000 (ctrnI11 c j (k:Int) (sd c j).1 (sd c j).2.1.1 (sd c j).2.1.2 (sd c j).2.2.1.1.1 (sd c j).2.2.1.1.2.1 (sd c j).2.2.1.2.1.1 (sd c j).2.2.1.2.1.2.1 (wr .i64 (0-(sd c j).2.2.1.1.2.1)) (wr .i64 (0-(sd c j).2.2.1.1.1)) j (rowsT (c.2.1.2.take j)) k (flat tP ((sd c j).2.1.2.map trP)) (m+1) (m'+1))=bif plainL (rowsT (c.2.1.2.take (j+1))) then some (.stop (ctrnI5 c ((j+1:Nat):Int) (j+1) (rowsT (c.2.1.2.take (j+1))) m')) else none:=by
   rw[← e3,hkk];rw[hkk] at h;exact h
  rw[rowsT_plain,cond_true] at h'
  exact .stop (Sy.vars_ok (V4_ok _)) N4sy h' K
 | r + 1, k, m + 1, hk, hm => by
  have h:=ctrn_step11 c j (k:Int) (sd c j).1 (sd c j).2.1.1 (sd c j).2.1.2 (sd c j).2.2.1.1.1 (sd c j).2.2.1.1.2.1 (sd c j).2.2.1.2.1.1 (sd c j).2.2.1.2.1.2.1 (wr .i64 (0-(sd c j).2.2.1.1.2.1)) (wr .i64 (0-(sd c j).2.2.1.1.1)) j (rowsT (c.2.1.2.take j)) k (flat tP (((sd c j).2.1.2.take k).map trP)) m m'
  have hlt:k<(sd c j).2.1.2.length:=by omega
  have hsd:c.2.1.2.getD j tSand.dflt=sd c j:=rfl
  have e1:=take_len trP (l:=(sd c j).2.1.2) (i:=k) (by omega)
  have e2:=take_add trP (l:=(sd c j).2.1.2) (i:=k) tP.dflt hlt
  have e4:=flatQ_add (((sd c j).2.1.2.take k).map trP) ((sd c j).2.1.2.getD k tP.dflt)
  rw[e2] at e4
  simp only[inB_at hj,nat_to,hsd,ile_lt hlt,inB_at hlt,flatQ_beq e1,Nat.ble_eq_true_of_le (show k≤1048576 by omega),ieq_self,bbeq_self,vsB_self,avbeq_sl,wr_succ (show k<1048577 by omega),rowsT_plain,plO,Bool.not_false,cond_true] at h
  have h':adv N4 ((V4 [53]).vars) 3000 (ctrnI11 c j (k:Int) (sd c j).1 (sd c j).2.1.1 (sd c j).2.1.2 (sd c j).2.2.1.1.1 (sd c j).2.2.1.1.2.1 (sd c j).2.2.1.2.1.1 (sd c j).2.2.1.2.1.2.1 (wr .i64 (0-(sd c j).2.2.1.1.2.1)) (wr .i64 (0-(sd c j).2.2.1.1.1)) j (rowsT (c.2.1.2.take j)) k (flat tP (((sd c j).2.1.2.take k).map trP)) (m+1) (m'+1))=bif plainL (flat tP (((sd c j).2.1.2.take (k+1)).map trP)) then some (.stop (ctrnI11 c j ((k+1:Nat):Int) (sd c j).1 (sd c j).2.1.1 (sd c j).2.1.2 (sd c j).2.2.1.1.1 (sd c j).2.2.1.1.2.1 (sd c j).2.2.1.2.1.1 (sd c j).2.2.1.2.1.2.1 (wr .i64 (0-(sd c j).2.2.1.1.2.1)) (wr .i64 (0-(sd c j).2.2.1.1.1)) j (rowsT (c.2.1.2.take j)) (k+1) (flat tP (((sd c j).2.1.2.take (k+1)).map trP)) m (m'+1))) else none:=by
   rw[← e4];exact h
  rw[flatP_plain,cond_true] at h'
  exact .stop (Sy.vars_ok (V4_ok _)) N4sy h' (tlC j hj h3 h4 m' h0 K r (k+1) m (by omega) (by omega))
theorem tsC (j:Nat) (hj:j<c.2.1.2.length) (h3:(sd c j).2.1.2.length≤1000000) (h4:c.2.1.2.length≤1000000) (M m':Nat) (hM:(sd c j).2.1.2.length<M) (K:Ans N4 (ctrnI5 c ((j+1:Nat):Int) (j+1) (rowsT (c.2.1.2.take (j+1))) m') V):Ans N4 (ctrnI8 c j (sd c j).1 (sd c j).2.1.1 (sd c j).2.1.2 (sd c j).2.2.1.1.1 (sd c j).2.2.1.1.2.1 (sd c j).2.2.1.2.1.1 (sd c j).2.2.1.2.1.2.1 (wr .i64 (0-(sd c j).2.2.1.1.2.1)) (wr .i64 (0-(sd c j).2.2.1.1.1)) j (rowsT (c.2.1.2.take j)) M (m'+1)) V:=by
 obtain⟨m,rfl⟩:∃ m,M=m+1:=⟨M-1,by omega⟩
 have h:=ctrn_step8 c j (sd c j).1 (sd c j).2.1.1 (sd c j).2.1.2 (sd c j).2.2.1.1.1 (sd c j).2.2.1.1.2.1 (sd c j).2.2.1.2.1.1 (sd c j).2.2.1.2.1.2.1 (wr .i64 (0-(sd c j).2.2.1.1.2.1)) (wr .i64 (0-(sd c j).2.2.1.1.1)) j (rowsT (c.2.1.2.take j)) m m'
 have hsd:c.2.1.2.getD j tSand.dflt=sd c j:=rfl
 by_cases h0:0<(sd c j).2.1.2.length
 · have e2 := take_add trP (l := (sd c j).2.1.2) (i := 0) tP.dflt h0
   have e4:=flatQ_add [] ((sd c j).2.1.2.getD 0 tP.dflt)
   rw[List.nil_append,show flat tP []=[] from rfl,List.nil_append] at e4
   rw[show ((sd c j).2.1.2.take 0).map trP=[] from rfl,List.nil_append] at e2
   rw[e2] at e4
   simp only[inB_at hj,nat_to,hsd,ile_lt0 h0,inB_0 h0,ieq_self,bbeq_self,vsB_self,rowsT_plain,plO,Bool.not_false,cond_true] at h
   have h':adv N4 ((V4 [53]).vars) 3000 (ctrnI8 c j (sd c j).1 (sd c j).2.1.1 (sd c j).2.1.2 (sd c j).2.2.1.1.1 (sd c j).2.2.1.1.2.1 (sd c j).2.2.1.2.1.1 (sd c j).2.2.1.2.1.2.1 (wr .i64 (0-(sd c j).2.2.1.1.2.1)) (wr .i64 (0-(sd c j).2.2.1.1.1)) j (rowsT (c.2.1.2.take j)) (m+1) (m'+1))=some (.stop (ctrnI11 c j ((1:Nat):Int) (sd c j).1 (sd c j).2.1.1 (sd c j).2.1.2 (sd c j).2.2.1.1.1 (sd c j).2.2.1.1.2.1 (sd c j).2.2.1.2.1.1 (sd c j).2.2.1.2.1.2.1 (wr .i64 (0-(sd c j).2.2.1.1.2.1)) (wr .i64 (0-(sd c j).2.2.1.1.1)) j (rowsT (c.2.1.2.take j)) 1 (flat tP (((sd c j).2.1.2.take 1).map trP)) m (m'+1))):=by
    rw[← e4];exact h
   exact .stop (Sy.vars_ok (V4_ok _)) N4sy h' (tlC c j hj h3 h4 m' h0 K ((sd c j).2.1.2.length-1) 1 m (by omega) (by omega))
 · have hz : (sd c j).2.1.2.length = 0 := by omega
   have hrl:(c.2.1.2.take j).length=j:=by rw[List.length_take];omega
   have e3:rowsT (c.2.1.2.take j)++rowN (sd c j)=rowsT (c.2.1.2.take (j+1)):=by
    rw[← rowT_em hz,rowsT_add,List.take_succ_eq_append_getElem hj]
    have:c.2.1.2[j]=sd c j:=(gdN hj).symm
    rw[this]
   simp only[inB_at hj,nat_to,hsd,show ile ((sd c j).2.1.2.length:Int) 0=true by rw[hz];rfl,rowsT_plain,rowsT_beq hrl,Nat.ble_eq_true_of_le (show j≤1048576 by omega),wr_succ (show j<1048577 by omega),plO,Bool.not_true,cond_true,cond_false] at h
   have h':adv N4 ((V4 [53]).vars) 3000 (ctrnI8 c j (sd c j).1 (sd c j).2.1.1 (sd c j).2.1.2 (sd c j).2.2.1.1.1 (sd c j).2.2.1.1.2.1 (sd c j).2.2.1.2.1.1 (sd c j).2.2.1.2.1.2.1 (wr .i64 (0-(sd c j).2.2.1.1.2.1)) (wr .i64 (0-(sd c j).2.2.1.1.1)) j (rowsT (c.2.1.2.take j)) (m+1) (m'+1))=bif plainL (rowsT (c.2.1.2.take (j+1))) then some (.stop (ctrnI5 c ((j+1:Nat):Int) (j+1) (rowsT (c.2.1.2.take (j+1))) m')) else none:=by
    rw[← e3];exact h
   rw[rowsT_plain,cond_true] at h'
   exact .stop (Sy.vars_ok (V4_ok _)) N4sy h' K
theorem tlD (x4:Int) (n1:Nat) (l1:List AV) (hl1:plainL l1=true) (j:Nat) (hj:j<c.2.1.2.length) (h3:(sd c j).2.1.2.length≤1000000) (h4:c.2.1.2.length≤1000000) (m':Nat) (h0:0<(sd c j).2.1.2.length) (K:Ans N4 (ctrnI9 c x4 ((j+1:Nat):Int) n1 (j+1) l1 (rowsT (c.2.1.2.take (j+1))) m') V):∀ (r k m:Nat),k+r=(sd c j).2.1.2.length→r<m→Ans N4 (ctrnI13 c x4 j (k:Int) (sd c j).1 (sd c j).2.1.1 (sd c j).2.1.2 (sd c j).2.2.1.1.1 (sd c j).2.2.1.1.2.1 (sd c j).2.2.1.2.1.1 (sd c j).2.2.1.2.1.2.1 (wr .i64 (0-(sd c j).2.2.1.1.2.1)) (wr .i64 (0-(sd c j).2.2.1.1.1)) n1 j l1 (rowsT (c.2.1.2.take j)) k (flat tP (((sd c j).2.1.2.take k).map trP)) m (m'+1)) V
 | 0, k, m + 1, hk, hm => by
  have h:=ctrn_step13 c x4 j (k:Int) (sd c j).1 (sd c j).2.1.1 (sd c j).2.1.2 (sd c j).2.2.1.1.1 (sd c j).2.2.1.1.2.1 (sd c j).2.2.1.2.1.1 (sd c j).2.2.1.2.1.2.1 (wr .i64 (0-(sd c j).2.2.1.1.2.1)) (wr .i64 (0-(sd c j).2.2.1.1.1)) n1 j l1 (rowsT (c.2.1.2.take j)) k (flat tP (((sd c j).2.1.2.take k).map trP)) m m'
  have hkk:k=(sd c j).2.1.2.length:=by omega
  have ht:(sd c j).2.1.2.take k=(sd c j).2.1.2:=by rw[hkk,List.take_length]
  have hsd:c.2.1.2.getD j tSand.dflt=sd c j:=rfl
  have hrl:(c.2.1.2.take j).length=j:=by rw[List.length_take];omega
  have e3:rowsT (c.2.1.2.take j)++rowC (sd c j)=rowsT (c.2.1.2.take (j+1)):=by
   rw[← rowT_ne h0,rowsT_add,List.take_succ_eq_append_getElem hj]
   have:c.2.1.2[j]=sd c j:=(gdN hj).symm
   rw[this]
  rw[ht] at h⊢
  have q:=flatQ_beq (L:=(sd c j).2.1.2.map trP) (n:=k) (by rw[List.length_map];exact hkk.symm)
  simp only[inB_at hj,nat_to,hsd,ile_ge (show (sd c j).2.1.2.length≤k by omega),flatP_plain,hl1,rowsT_beq hrl,Nat.ble_eq_true_of_le (show j≤1048576 by omega),wr_succ (show j<1048577 by omega),plO,Bool.not_true,cond_true,cond_false] at h
  have h':adv N4 ((V4 [53]).vars) 3000 (ctrnI13 c x4 j (k:Int) (sd c j).1 (sd c j).2.1.1 (sd c j).2.1.2 (sd c j).2.2.1.1.1 (sd c j).2.2.1.1.2.1 (sd c j).2.2.1.2.1.1 (sd c j).2.2.1.2.1.2.1 (wr .i64 (0-(sd c j).2.2.1.1.2.1)) (wr .i64 (0-(sd c j).2.2.1.1.1)) n1 j l1 (rowsT (c.2.1.2.take j)) k (flat tP ((sd c j).2.1.2.map trP)) (m+1) (m'+1))=bif plainL (rowsT (c.2.1.2.take (j+1))) then some (.stop (ctrnI9 c x4 ((j+1:Nat):Int) n1 (j+1) l1 (rowsT (c.2.1.2.take (j+1))) m')) else none:=by
   rw[← e3,hkk];rw[hkk] at h;exact h
  rw[rowsT_plain,cond_true] at h'
  exact .stop (Sy.vars_ok (V4_ok _)) N4sy h' K
 | r + 1, k, m + 1, hk, hm => by
  have h:=ctrn_step13 c x4 j (k:Int) (sd c j).1 (sd c j).2.1.1 (sd c j).2.1.2 (sd c j).2.2.1.1.1 (sd c j).2.2.1.1.2.1 (sd c j).2.2.1.2.1.1 (sd c j).2.2.1.2.1.2.1 (wr .i64 (0-(sd c j).2.2.1.1.2.1)) (wr .i64 (0-(sd c j).2.2.1.1.1)) n1 j l1 (rowsT (c.2.1.2.take j)) k (flat tP (((sd c j).2.1.2.take k).map trP)) m m'
  have hlt:k<(sd c j).2.1.2.length:=by omega
  have hsd:c.2.1.2.getD j tSand.dflt=sd c j:=rfl
  have e1:=take_len trP (l:=(sd c j).2.1.2) (i:=k) (by omega)
  have e2:=take_add trP (l:=(sd c j).2.1.2) (i:=k) tP.dflt hlt
  have e4:=flatQ_add (((sd c j).2.1.2.take k).map trP) ((sd c j).2.1.2.getD k tP.dflt)
  rw[e2] at e4
  simp only[inB_at hj,nat_to,hsd,ile_lt hlt,inB_at hlt,flatQ_beq e1,Nat.ble_eq_true_of_le (show k≤1048576 by omega),ieq_self,bbeq_self,vsB_self,avbeq_sl,wr_succ (show k<1048577 by omega),rowsT_plain,hl1,plO,Bool.not_false,cond_true] at h
  have h':adv N4 ((V4 [53]).vars) 3000 (ctrnI13 c x4 j (k:Int) (sd c j).1 (sd c j).2.1.1 (sd c j).2.1.2 (sd c j).2.2.1.1.1 (sd c j).2.2.1.1.2.1 (sd c j).2.2.1.2.1.1 (sd c j).2.2.1.2.1.2.1 (wr .i64 (0-(sd c j).2.2.1.1.2.1)) (wr .i64 (0-(sd c j).2.2.1.1.1)) n1 j l1 (rowsT (c.2.1.2.take j)) k (flat tP (((sd c j).2.1.2.take k).map trP)) (m+1) (m'+1))=bif plainL (flat tP (((sd c j).2.1.2.take (k+1)).map trP)) then some (.stop (ctrnI13 c x4 j ((k+1:Nat):Int) (sd c j).1 (sd c j).2.1.1 (sd c j).2.1.2 (sd c j).2.2.1.1.1 (sd c j).2.2.1.1.2.1 (sd c j).2.2.1.2.1.1 (sd c j).2.2.1.2.1.2.1 (wr .i64 (0-(sd c j).2.2.1.1.2.1)) (wr .i64 (0-(sd c j).2.2.1.1.1)) n1 j l1 (rowsT (c.2.1.2.take j)) (k+1) (flat tP (((sd c j).2.1.2.take (k+1)).map trP)) m (m'+1))) else none:=by
   rw[← e4];exact h
  rw[flatP_plain,cond_true] at h'
  exact .stop (Sy.vars_ok (V4_ok _)) N4sy h' (tlD x4 n1 l1 hl1 j hj h3 h4 m' h0 K r (k+1) m (by omega) (by omega))
theorem tsD (x4:Int) (n1:Nat) (l1:List AV) (hl1:plainL l1=true) (j:Nat) (hj:j<c.2.1.2.length) (h3:(sd c j).2.1.2.length≤1000000) (h4:c.2.1.2.length≤1000000) (M m':Nat) (hM:(sd c j).2.1.2.length<M) (K:Ans N4 (ctrnI9 c x4 ((j+1:Nat):Int) n1 (j+1) l1 (rowsT (c.2.1.2.take (j+1))) m') V):Ans N4 (ctrnI12 c x4 j (sd c j).1 (sd c j).2.1.1 (sd c j).2.1.2 (sd c j).2.2.1.1.1 (sd c j).2.2.1.1.2.1 (sd c j).2.2.1.2.1.1 (sd c j).2.2.1.2.1.2.1 (wr .i64 (0-(sd c j).2.2.1.1.2.1)) (wr .i64 (0-(sd c j).2.2.1.1.1)) n1 j l1 (rowsT (c.2.1.2.take j)) M (m'+1)) V:=by
 obtain⟨m,rfl⟩:∃ m,M=m+1:=⟨M-1,by omega⟩
 have h:=ctrn_step12 c x4 j (sd c j).1 (sd c j).2.1.1 (sd c j).2.1.2 (sd c j).2.2.1.1.1 (sd c j).2.2.1.1.2.1 (sd c j).2.2.1.2.1.1 (sd c j).2.2.1.2.1.2.1 (wr .i64 (0-(sd c j).2.2.1.1.2.1)) (wr .i64 (0-(sd c j).2.2.1.1.1)) n1 j l1 (rowsT (c.2.1.2.take j)) m m'
 have hsd:c.2.1.2.getD j tSand.dflt=sd c j:=rfl
 by_cases h0:0<(sd c j).2.1.2.length
 · have e2 := take_add trP (l := (sd c j).2.1.2) (i := 0) tP.dflt h0
   have e4:=flatQ_add [] ((sd c j).2.1.2.getD 0 tP.dflt)
   rw[List.nil_append,show flat tP []=[] from rfl,List.nil_append] at e4
   rw[show ((sd c j).2.1.2.take 0).map trP=[] from rfl,List.nil_append] at e2
   rw[e2] at e4
   simp only[inB_at hj,nat_to,hsd,ile_lt0 h0,inB_0 h0,ieq_self,bbeq_self,vsB_self,rowsT_plain,hl1,plO,Bool.not_false,cond_true] at h
   have h':adv N4 ((V4 [53]).vars) 3000 (ctrnI12 c x4 j (sd c j).1 (sd c j).2.1.1 (sd c j).2.1.2 (sd c j).2.2.1.1.1 (sd c j).2.2.1.1.2.1 (sd c j).2.2.1.2.1.1 (sd c j).2.2.1.2.1.2.1 (wr .i64 (0-(sd c j).2.2.1.1.2.1)) (wr .i64 (0-(sd c j).2.2.1.1.1)) n1 j l1 (rowsT (c.2.1.2.take j)) (m+1) (m'+1))=some (.stop (ctrnI13 c x4 j ((1:Nat):Int) (sd c j).1 (sd c j).2.1.1 (sd c j).2.1.2 (sd c j).2.2.1.1.1 (sd c j).2.2.1.1.2.1 (sd c j).2.2.1.2.1.1 (sd c j).2.2.1.2.1.2.1 (wr .i64 (0-(sd c j).2.2.1.1.2.1)) (wr .i64 (0-(sd c j).2.2.1.1.1)) n1 j l1 (rowsT (c.2.1.2.take j)) 1 (flat tP (((sd c j).2.1.2.take 1).map trP)) m (m'+1))):=by
    rw[← e4];exact h
   exact .stop (Sy.vars_ok (V4_ok _)) N4sy h' (tlD c x4 n1 l1 hl1 j hj h3 h4 m' h0 K ((sd c j).2.1.2.length-1) 1 m (by omega) (by omega))
 · have hz : (sd c j).2.1.2.length = 0 := by omega
   have hrl:(c.2.1.2.take j).length=j:=by rw[List.length_take];omega
   have e3:rowsT (c.2.1.2.take j)++rowN (sd c j)=rowsT (c.2.1.2.take (j+1)):=by
    rw[← rowT_em hz,rowsT_add,List.take_succ_eq_append_getElem hj]
    have:c.2.1.2[j]=sd c j:=(gdN hj).symm
    rw[this]
   simp only[inB_at hj,nat_to,hsd,show ile ((sd c j).2.1.2.length:Int) 0=true by rw[hz];rfl,hl1,rowsT_plain,rowsT_beq hrl,Nat.ble_eq_true_of_le (show j≤1048576 by omega),wr_succ (show j<1048577 by omega),plO,Bool.not_true,cond_true,cond_false] at h
   have h':adv N4 ((V4 [53]).vars) 3000 (ctrnI12 c x4 j (sd c j).1 (sd c j).2.1.1 (sd c j).2.1.2 (sd c j).2.2.1.1.1 (sd c j).2.2.1.1.2.1 (sd c j).2.2.1.2.1.1 (sd c j).2.2.1.2.1.2.1 (wr .i64 (0-(sd c j).2.2.1.1.2.1)) (wr .i64 (0-(sd c j).2.2.1.1.1)) n1 j l1 (rowsT (c.2.1.2.take j)) (m+1) (m'+1))=bif plainL (rowsT (c.2.1.2.take (j+1))) then some (.stop (ctrnI9 c x4 ((j+1:Nat):Int) n1 (j+1) l1 (rowsT (c.2.1.2.take (j+1))) m')) else none:=by
    rw[← e3];exact h
   rw[rowsT_plain,cond_true] at h'
   exact .stop (Sy.vars_ok (V4_ok _)) N4sy h' K
end
end Go.Proofs.YtgaoajmlckgdaaaGreatDoor


set_option maxRecDepth 100000
namespace Go.Proofs.YtgaoajmlckgdaaaGreatDoor
open Go Go.Eng
section
variable (c:tChart.den) (h4:c.2.1.2.length≤1000000) (hC:∀ j,j<c.2.1.2.length→(sd c j).2.1.2.length≤1000000)
theorem len_em {α:Type} {l:List α} (h:l.length=0):l=[]:=List.eq_nil_of_length_eq_zero h
theorem len_ne {α:Type} {l:List α} (h:0<l.length):l.isEmpty=false:=by
 cases l with
 |nil=>cases h
 |cons a l=>rfl
theorem rdT5 (hm:c.1.2.length=0) (hs:0<c.2.1.2.length) {n:Nat} (hn:n=c.2.1.2.length):rdA tChart (.agg [.nils,.csl (rowsT c.2.1.2) n])=some (true,trC c):=by
 obtain⟨u1,u2⟩:=rowsT_rd c.2.1.2 n hn
 have:rdA tChart (.agg [.nils,.csl (rowsT c.2.1.2) n])=some (isF (rd tSand) n (rowsT c.2.1.2)&&true,((true,[]),(false,unf (rd tSand) n (rowsT c.2.1.2)),())):=rfl
 rw[this,u1,u2]
 unfold trC
 rw[len_em hm,len_ne hs];rfl
theorem rdT9 (hm:0<c.1.2.length) (hs:0<c.2.1.2.length) {n:Nat} (hn:n=c.2.1.2.length):rdA tChart (.agg [.csl (flat tMark (c.1.2.map trM)) c.1.2.length,.csl (rowsT c.2.1.2) n])=some (true,trC c):=by
 obtain⟨u1,u2⟩:=rowsT_rd c.2.1.2 n hn
 obtain⟨w1,w2⟩:=unf_flat (t:=tMark) (c.1.2.map trM) c.1.2.length (by rw[List.length_map])
 have:rdA tChart (.agg [.csl (flat tMark (c.1.2.map trM)) c.1.2.length,.csl (rowsT c.2.1.2) n])=some (isF (rd tMark) c.1.2.length (flat tMark (c.1.2.map trM))&&(isF (rd tSand) n (rowsT c.2.1.2)&&true),((false,unf (rd tMark) c.1.2.length (flat tMark (c.1.2.map trM))),(false,unf (rd tSand) n (rowsT c.2.1.2)),())):=rfl
 rw[this,u1,u2,w1,w2]
 unfold trC
 rw[len_ne hm,len_ne hs];rfl
theorem rdT4 (hm:0<c.1.2.length) (hs:c.2.1.2.length=0):rdA tChart (.agg [.csl (flat tMark (c.1.2.map trM)) c.1.2.length,.nils])=some (true,trC c):=by
 obtain⟨w1,w2⟩:=unf_flat (t:=tMark) (c.1.2.map trM) c.1.2.length (by rw[List.length_map])
 have:rdA tChart (.agg [.csl (flat tMark (c.1.2.map trM)) c.1.2.length,.nils])=some (isF (rd tMark) c.1.2.length (flat tMark (c.1.2.map trM))&&true,((false,unf (rd tMark) c.1.2.length (flat tMark (c.1.2.map trM))),(true,[]),())):=rfl
 rw[this,w1,w2]
 unfold trC
 rw[len_ne hm,len_em hs];rfl
theorem rdT1 (hm:c.1.2.length=0) (hs:c.2.1.2.length=0):rdA tChart (.agg [.nils,.nils])=some (true,trC c):=by
 have:rdA tChart (.agg [.nils,.nils])=some (true,((true,[]),(true,[]),())):=rfl
 rw[this]
 unfold trC
 rw[len_em hm,len_em hs];rfl
include h4 hC
theorem tl5 (hm:c.1.2.length=0):∀ (r j M:Nat),j+r=c.2.1.2.length→0<j→r<M→Ans N4 (ctrnI5 c j j (rowsT (c.2.1.2.take j)) M) (tChart.av (trC c))
 |0,j,M+1,hk,h0,hM=>by
  have h:=ctrn_step5 c j j (rowsT (c.2.1.2.take j)) M
  have ht:c.2.1.2.take j=c.2.1.2:=by rw[show j=c.2.1.2.length by omega,List.take_length]
  rw[ht] at h⊢
  simp only[ile_ge (show c.2.1.2.length≤j by omega),rowsT_plain,Bool.not_true,cond_true,cond_false] at h
  exact .doneT (Sy.vars_ok (V4_ok _)) N4sy h (rdA_spec _ (rdT5 c hm (by omega) (by omega)))
 |r+1,j,M+1,hk,h0,hM=>by
  have h:=ctrn_step5 c j j (rowsT (c.2.1.2.take j)) M
  have hlt:j<c.2.1.2.length:=by omega
  have l1:=hC j hlt
  have hsd:c.2.1.2.getD j tSand.dflt=sd c j:=rfl
  simp only[ile_lt hlt,inB_at hlt,nat_to,hsd,Bool.not_false,cond_true] at h
  exact .stop (Sy.vars_ok (V4_ok _)) N4sy h (tsC c j hlt l1 h4 1048575 M (by omega) (tl5 hm r (j+1) M (by omega) (by omega) (by omega)))
theorem tl9 (hm:0<c.1.2.length) (x4:Int):∀ (r j M:Nat),j+r=c.2.1.2.length→0<j→r<M→Ans N4 (ctrnI9 c x4 j c.1.2.length j (flat tMark (c.1.2.map trM)) (rowsT (c.2.1.2.take j)) M) (tChart.av (trC c))
 |0,j,M+1,hk,h0,hM=>by
  have h:=ctrn_step9 c x4 j c.1.2.length j (flat tMark (c.1.2.map trM)) (rowsT (c.2.1.2.take j)) M
  have ht:c.2.1.2.take j=c.2.1.2:=by rw[show j=c.2.1.2.length by omega,List.take_length]
  rw[ht] at h⊢
  simp only[ile_ge (show c.2.1.2.length≤j by omega),rowsT_plain,flatM_plain,Bool.not_true,cond_true,cond_false] at h
  exact .doneT (Sy.vars_ok (V4_ok _)) N4sy h (rdA_spec _ (rdT9 c hm (by omega) (by omega)))
 |r+1,j,M+1,hk,h0,hM=>by
  have h:=ctrn_step9 c x4 j c.1.2.length j (flat tMark (c.1.2.map trM)) (rowsT (c.2.1.2.take j)) M
  have hlt:j<c.2.1.2.length:=by omega
  have l1:=hC j hlt
  have hsd:c.2.1.2.getD j tSand.dflt=sd c j:=rfl
  simp only[ile_lt hlt,inB_at hlt,nat_to,hsd,Bool.not_false,cond_true] at h
  exact .stop (Sy.vars_ok (V4_ok _)) N4sy h (tsD c x4 c.1.2.length (flat tMark (c.1.2.map trM)) (flatM_plain _) j hlt l1 h4 1048575 M (by omega) (tl9 hm x4 r (j+1) M (by omega) (by omega) (by omega)))
theorem tl1 (hm:c.1.2.length=0):Ans N4 (ctrnI1 c 1048575) (tChart.av (trC c)):=by
 have h:=ctrn_step1 c 1048574
 by_cases hlt:0<c.2.1.2.length
 · have l1 := hC 0 hlt
   simp only[ile_lt0 hlt,inB_0 hlt,Bool.not_false,cond_true] at h
   exact .stop (Sy.vars_ok (V4_ok _)) N4sy h (tsA c hlt l1 h4 1048575 1048574 (by omega) (tl5 c h4 hC hm (c.2.1.2.length-1) 1 1048574 (by omega) (by omega) (by omega)))
 · have hz : c.2.1.2.length = 0 := by omega
   simp only[show ile (c.2.1.2.length:Int) 0=true by rw[hz];rfl,Bool.not_true,cond_false] at h
   exact .doneT (Sy.vars_ok (V4_ok _)) N4sy h (rdA_spec _ (rdT1 c hm hz))
theorem tl4 (hm:0<c.1.2.length) (x4:Int):Ans N4 (ctrnI4 c x4 c.1.2.length (flat tMark (c.1.2.map trM)) 1048575) (tChart.av (trC c)):=by
 have h:=ctrn_step4 c x4 c.1.2.length (flat tMark (c.1.2.map trM)) 1048574
 by_cases hlt:0<c.2.1.2.length
 · have l1 := hC 0 hlt
   simp only[ile_lt0 hlt,inB_0 hlt,Bool.not_false,cond_true] at h
   exact .stop (Sy.vars_ok (V4_ok _)) N4sy h (tsB c x4 c.1.2.length (flat tMark (c.1.2.map trM)) (flatM_plain _) hlt l1 h4 1048575 1048574 (by omega) (tl9 c h4 hC hm x4 (c.2.1.2.length-1) 1 1048574 (by omega) (by omega) (by omega)))
 · have hz : c.2.1.2.length = 0 := by omega
   simp only[show ile (c.2.1.2.length:Int) 0=true by rw[hz];rfl,flatM_plain,Bool.not_true,cond_true,cond_false] at h
   exact .doneT (Sy.vars_ok (V4_ok _)) N4sy h (rdA_spec _ (rdT4 c hm hz))
variable (h8:c.1.2.length≤1000000)
include h8
theorem tl2:∀ (r k m:Nat),k+r=c.1.2.length→0<k→r<m→Ans N4 (ctrnI2 c k k (flat tMark ((c.1.2.take k).map trM)) m) (tChart.av (trC c))
 |0,k,m+1,hk,h0,hm=>by
  have h:=ctrn_step2 c k k (flat tMark ((c.1.2.take k).map trM)) m
  have hkk:k=c.1.2.length:=by omega
  have ht:c.1.2.take k=c.1.2:=by rw[hkk,List.take_length]
  rw[ht] at h⊢
  simp only[ile_ge (show c.1.2.length≤k by omega),Bool.not_true,cond_false] at h
  have K:=tl4 c h4 hC (by omega) (k:Int)
  rw[← hkk] at K
  exact .stop (Sy.vars_ok (V4_ok _)) N4sy h K
 | r + 1, k, m + 1, hk, h0, hm => by
  have h:=ctrn_step2 c k k (flat tMark ((c.1.2.take k).map trM)) m
  have hlt:k<c.1.2.length:=by omega
  have e1:=take_len trM (l:=c.1.2) (i:=k) (by omega)
  have e2:=take_add trM (l:=c.1.2) (i:=k) tMark.dflt hlt
  have e4:=flatM_add ((c.1.2.take k).map trM) (c.1.2.getD k tMark.dflt)
  rw[e2] at e4
  simp only[ile_lt hlt,inB_at hlt,nat_to,flatM_beq e1,Nat.ble_eq_true_of_le (show k≤1048576 by omega),wr_succ (show k<1048577 by omega),plO,Bool.not_false,cond_true] at h
  have h':adv N4 ((V4 [53]).vars) 3000 (ctrnI2 c k k (flat tMark ((c.1.2.take k).map trM)) (m+1))=bif plainL (flat tMark ((c.1.2.take (k+1)).map trM)) then some (.stop (ctrnI2 c ((k+1:Nat):Int) (k+1) (flat tMark ((c.1.2.take (k+1)).map trM)) m)) else none:=by
   rw[← e4];exact h
  rw[flatM_plain,cond_true] at h'
  exact .stop (Sy.vars_ok (V4_ok _)) N4sy h' (tl2 r (k+1) m (by omega) (by omega) (by omega))
theorem turned_call:AnsF N4 53 [tChart.av c] (tChart.av (trC c)):=by
 refine Ans.call (n:=8) (ext_none (by kernel_rfl)) (hasB_spec (by kernel_rfl)) (.stop (Sy.vars_ok (V4_ok _)) N4sy (ctrn_start c) ?_)
 have h:=ctrn_step0 c 1048574
 by_cases hlt:0<c.1.2.length
 · have e2 := take_add trM (l := c.1.2) (i := 0) tMark.dflt hlt
   have e4:=flatM_add [] (c.1.2.getD 0 tMark.dflt)
   rw[List.nil_append,show flat tMark []=[] from rfl,List.nil_append] at e4
   rw[show (c.1.2.take 0).map trM=[] from rfl,List.nil_append] at e2
   rw[e2] at e4
   simp only[ile_lt0 hlt,inB_0 hlt,Bool.not_false,cond_true] at h
   have h':adv N4 ((V4 [53]).vars) 3000 (ctrnI0 c (1048574+1))=some (.stop (ctrnI2 c ((1:Nat):Int) 1 (flat tMark ((c.1.2.take 1).map trM)) 1048574)):=by
    rw[← e4];exact h
   exact .stop (Sy.vars_ok (V4_ok _)) N4sy h' (tl2 c h4 hC h8 (c.1.2.length-1) 1 1048574 (by omega) (by omega) (by omega))
 · have hz : c.1.2.length = 0 := by omega
   simp only[show ile (c.1.2.length:Int) 0=true by rw[hz];rfl,Bool.not_true,cond_false] at h
   exact .stop (Sy.vars_ok (V4_ok _)) N4sy h (tl1 c h4 hC hz)
end
noncomputable def szC (c:tChart.den):Bool:=Nat.ble c.1.2.length 1000000&&Nat.ble c.2.1.2.length 1000000&&c.2.1.2.all fun s=>Nat.ble s.2.1.2.length 1000000
theorem turn_szC {c:tChart.den} (h:szC c=true):AnsF N4 53 [tChart.av c] (tChart.av (trC c)):=by
 unfold szC at h
 simp only[Bool.and_eq_true] at h
 refine turned_call c (Nat.le_of_ble_eq_true h.1.2) (fun j hj=>?_) (Nat.le_of_ble_eq_true h.1.1)
 have:=List.all_eq_true.1 h.2 (sd c j) (by unfold sd;rw[gdN hj];exact List.getElem_mem hj)
 exact Nat.le_of_ble_eq_true this
end Go.Proofs.YtgaoajmlckgdaaaGreatDoor


set_option maxRecDepth 100000
namespace Go.Proofs.YtgaoajmlckgdaaaGreatDoor
open Go Go.Eng
noncomputable def LT3:List Said:=[(28,con2 tChart tP (fun _ _=>true) (fun c p=>.tup [.int .i64 (radS c p.1 p.2.1).1,.int .i64 (radS c p.1 p.2.1).2])),
 (43,con1 tChart (fun _=>true) (fun c=>.bool (ieq (chkS c).2.2 0))),
 (44,con2 tChart (.sl (.int .u16)) (fun c l=>u16 l.2&&ieq (chkS c).2.2 0) (fun c l=>.agg [.int .i64 (nX c l.2),.int .i64 (nY c l.2)])),
 (32,con4 tChart tI tI tP (fun _ _ _ _=>true) (fun c d m v=>tup2 (seeS c d m v.1 v.2.1))),
 (53,con1 tChart szC (fun c=>tChart.av (trC c))),(22,say0 (.bool true))]
theorem LT3_ok:∀ e∈LT3,SaidG Tryz.prog N4.glob e:=
 saids_cons (SaidOK.g en4 xn4 nn4 tabs_ok.mix (fun _ _ h=>con2_spec (t:=tChart) (u:=tP) (fun c p _=>radi_call c p) h) rfl)
 (saids_cons (SaidOK.g h2 xh2 nh2 tabs_ok.mix (fun _ _ h=>con1_spec (t:=tChart) (fun c _=>vali_call c) h) rfl)
 (saids_cons (SaidOK.g h3 xh3 nh3 tabs_ok.mix (fun _ _ h => con2_spec (t := tChart) (u := .sl (.int .u16)) (fun c l hc => by
  rw[Bool.and_eq_true] at hc
  exact near_call c l hc.1 (ieq_t' hc.2)) h) rfl)
 (saids_cons (SaidOK.g f2 xf2 nf2 tabs_ok.mix (fun _ _ h=>con4_spec (t:=tChart) (u:=tI) (w:=tI) (s:=tP) (fun c d m v _=>seen_call c d m v) h) rfl)
 (saids_cons (SaidOK.g en4 xn4 nn4 tabs_ok.mix (fun _ _ h=>con1_spec (t:=tChart) (fun c hc=>turn_szC hc) h) rfl)
 (saids_cons (XG.g (XG.closedT eA xA nA tabs_ok.mix l3 kn_true) rfl) saids_nil)))))
noncomputable def Tn1:Env:=N4.say (under (xOf LT3))
theorem tn1:EnvOK Tryz.prog Tn1:=en4.say _
theorem ntn1:NameOK Tn1:=nn4.say _
theorem xtn1:ExtOK Tryz.prog Tn1:=xn4.sayL LT3_ok
theorem Tn1sy:Tn1.sy=true:=rfl
noncomputable def Tq (l:List Nat):Sy:=(V4 []).on LT3 l
theorem Tq_ok (l:List Nat):(Tq l).ok Tn1:=Sy.on_ok (V4_ok _)
end Go.Proofs.YtgaoajmlckgdaaaGreatDoor


set_option maxRecDepth 100000
namespace Go.Proofs.YtgaoajmlckgdaaaGreatDoor
open Go Go.Eng
theorem claw_start (c:tChart.den) (x:tFrom.den) (y:(Ty.sl (.int .u16)).den):adv Tn1 (Tq [11]) 3000 (startC Tn1 11 [tChart.av c,tFrom.av x,.vs (.int .u16) y.1 y.2] 8)=(bif szC c then (bif !ieq (chkS c).2.2 0 then (bif bbeq c.1.1 c.1.1 then (bif vsB tMark c.1.2 tMark c.1.2 then (bif bbeq c.2.1.1 c.2.1.1 then (bif vsB tSand c.2.1.2 tSand c.2.1.2 then (bif bbeq c.1.1 c.1.1 then (bif vsB tMark c.1.2 tMark c.1.2 then (bif bbeq c.2.1.1 c.2.1.1 then (bif vsB tSand c.2.1.2 tSand c.2.1.2 then (bif !ieq (radS c 0 0).2 0 then some (.done (.bool (true))) else some (.done (.bool (false)))) else none) else none) else none) else none) else none) else none) else none) else none) else (bif u16 y.2&&ieq (chkS c).2.2 0 then (bif ieq (nX c y.2) (nX c y.2) then (bif ieq (nY c y.2) (nY c y.2) then (bif bbeq (trC c).1.1 (trC c).1.1 then (bif vsB tMark (trC c).1.2 tMark (trC c).1.2 then (bif bbeq (trC c).2.1.1 (trC c).2.1.1 then (bif vsB tSand (trC c).2.1.2 tSand (trC c).2.1.2 then (bif bbeq (trC c).1.1 (trC c).1.1 then (bif vsB tMark (trC c).1.2 tMark (trC c).1.2 then (bif bbeq (trC c).2.1.1 (trC c).2.1.1 then (bif vsB tSand (trC c).2.1.2 tSand (trC c).2.1.2 then (bif !ieq (radS c (nX c y.2) (nY c y.2)).2 0 then some (.done (.bool (false))) else (bif !ieq (radS (trC c) (nY c y.2) (wr .i64 (0-nX c y.2))).2 0 then some (.done (.bool (false))) else (bif !ieq (radS c (nX c y.2) (nY c y.2)).1 (radS (trC c) (nY c y.2) (wr .i64 (0-nX c y.2))).1 then some (.done (.bool (false))) else (bif ieq (↑c.1.2.length) 0 then some (.done (.bool (true))) else (bif ieq (↑c.1.2.length) 0 then none else (bif ieq ((wr .i64 x.2.2.1.1).tmod 30001) ((wr .i64 x.2.2.1.1).tmod 30001) then (bif ieq ((wr .i64 x.2.2.1.2.1).tmod 30001) ((wr .i64 x.2.2.1.2.1).tmod 30001) then (bif bbeq (trC c).1.1 (trC c).1.1 then (bif vsB tMark (trC c).1.2 tMark (trC c).1.2 then (bif bbeq (trC c).2.1.1 (trC c).2.1.1 then (bif vsB tSand (trC c).2.1.2 tSand (trC c).2.1.2 then (bif bbeq (trC c).1.1 (trC c).1.1 then (bif vsB tMark (trC c).1.2 tMark (trC c).1.2 then (bif bbeq (trC c).2.1.1 (trC c).2.1.1 then (bif vsB tSand (trC c).2.1.2 tSand (trC c).2.1.2 then (bif !ieq (seeS c ((wr .i64 x.1).tmod 40001) ((wr .i64 x.2.1).tmod ↑c.1.2.length) ((wr .i64 x.2.2.1.1).tmod 30001) ((wr .i64 x.2.2.1.2.1).tmod 30001)).2 0 then (bif ieq (seeS c ((wr .i64 x.1).tmod 40001) ((wr .i64 x.2.1).tmod ↑c.1.2.length) ((wr .i64 x.2.2.1.1).tmod 30001) ((wr .i64 x.2.2.1.2.1).tmod 30001)).2 (seeS (trC c) ((wr .i64 x.1).tmod 40001) ((wr .i64 x.2.1).tmod ↑c.1.2.length) ((wr .i64 x.2.2.1.2.1).tmod 30001) (wr .i64 (0-(wr .i64 x.2.2.1.1).tmod 30001))).2 then (bif ieq (seeS c ((wr .i64 x.1).tmod 40001) ((wr .i64 x.2.1).tmod ↑c.1.2.length) ((wr .i64 x.2.2.1.1).tmod 30001) ((wr .i64 x.2.2.1.2.1).tmod 30001)).1 0 then (bif ieq (seeS (trC c) ((wr .i64 x.1).tmod 40001) ((wr .i64 x.2.1).tmod ↑c.1.2.length) ((wr .i64 x.2.2.1.2.1).tmod 30001) (wr .i64 (0-(wr .i64 x.2.2.1.1).tmod 30001))).1 0 then some (.done (.bool (true))) else some (.done (.bool (false)))) else some (.done (.bool (false)))) else some (.done (.bool (false)))) else (bif ieq (seeS (trC c) ((wr .i64 x.1).tmod 40001) ((wr .i64 x.2.1).tmod ↑c.1.2.length) ((wr .i64 x.2.2.1.2.1).tmod 30001) (wr .i64 (0-(wr .i64 x.2.2.1.1).tmod 30001))).2 0 then (bif ieq (seeS (trC c) ((wr .i64 x.1).tmod 40001) ((wr .i64 x.2.1).tmod ↑c.1.2.length) ((wr .i64 x.2.2.1.2.1).tmod 30001) (wr .i64 (0-(wr .i64 x.2.2.1.1).tmod 30001))).1 ((wr .i64 ((seeS c ((wr .i64 x.1).tmod 40001) ((wr .i64 x.2.1).tmod ↑c.1.2.length) ((wr .i64 x.2.2.1.1).tmod 30001) ((wr .i64 x.2.2.1.2.1).tmod 30001)).1+8)).tmod 32) then some (.done (.bool (true))) else some (.done (.bool (false)))) else some (.done (.bool (false))))) else none) else none) else none) else none) else none) else none) else none) else none) else none) else none)))))) else none) else none) else none) else none) else none) else none) else none) else none) else none) else none) else none)) else none):=by kernel_rfl
theorem tmod_b {a:Int} {n:Nat} (hn:0<n):-(n:Int)<a.tmod n∧a.tmod n<n:=by
 by_cases h:0≤a
 · rw [Int.tmod_eq_emod_of_nonneg h]
   have h1:=Int.emod_nonneg a (show (n:Int)≠0 by omega)
   have h2:=Int.emod_lt_of_pos a (show 0<(n:Int) by omega)
   omega
 · have h1 := Int.emod_nonneg (-a) (show (n : Int) ≠ 0 by omega)
   have h2:=Int.emod_lt_of_pos (-a) (show 0<(n:Int) by omega)
   have e:a.tmod n=-((-a).tmod n):=by rw[Int.neg_tmod];omega
   rw[e,Int.tmod_eq_emod_of_nonneg (by omega)]
   omega
theorem u16_wfZ {l:(Ty.sl (.int .u16)).den} (h:(Ty.sl (.int .u16)).wf l=true):u16 l.2=true:=by
 unfold u16
 rw[List.all_eq_true] at *
 intro n hn
 have:=List.all_eq_true.1 h n hn
 simp only[Ty.wf,Bool.and_eq_true,decide_eq_true_eq] at this
 rw[ile_iff,ile_iff,Bool.and_eq_true]
 exact⟨decide_eq_true this.1,decide_eq_true this.2⟩
theorem turned_true (c:tChart.den) (x:tFrom.den) (y:(Ty.sl (.int .u16)).den) (hsz:szC c=true) (hy:(Ty.sl (.int .u16)).wf y=true):∃ σ,callN Tn1 (8+1) 11 [tChart.av c,tFrom.av x,(Ty.sl (.int .u16)).av y] .empty [] []=some (.bool true,σ,[]):=by
 refine AnsB.call (ext_none (by kernel_rfl)) (hasB_spec (by kernel_rfl)) ?_
 have h:=claw_start c x y
 obtain⟨X,eX⟩:∃ v:Int,(wr .i64 x.2.2.1.1).tmod 30001=v:=⟨_,rfl⟩
 obtain⟨Y,eY⟩:∃ v:Int,(wr .i64 x.2.2.1.2.1).tmod 30001=v:=⟨_,rfl⟩
 have hX:-30000≤X∧X≤30000:=by
  have:=tmod_b (a:=wr .i64 x.2.2.1.1) (n:=30001) (by omega)
  rw[show (wr .i64 x.2.2.1.1).tmod ((30001:Nat):Int)=X from eX] at this
  omega
 have hY:-30000≤Y∧Y≤30000:=by
  have:=tmod_b (a:=wr .i64 x.2.2.1.2.1) (n:=30001) (by omega)
  rw[show (wr .i64 x.2.2.1.2.1).tmod ((30001:Nat):Int)=Y from eY] at this
  omega
 rw[eX,eY] at h
 generalize (wr .i64 x.1).tmod 40001=D at h
 generalize (wr .i64 x.2.1).tmod (c.1.2.length:Int)=M at h
 have hu:=u16_wfZ hy
 cases c1:ieq (chkS c).2.2 0 with
 |false=>
  have hne:=ieq_f' c1
  have r0:(radS c 0 0).2=(chkS c).2.2:=by unfold radS;rw[c1];rfl
  simp only[hsz,c1,r0,bbeq_self,vsB_self,Bool.not_false,cond_true] at h
  exact .doneB (Tq_ok _) Tn1sy h rfl
 | true =>
  have hc:=ieq_t' c1
  have hW:=chk_rot hc
  have hP:=nX_in c y.2
  have hQ:=nY_in c y.2
  have bP:=in10_iff.1 hP
  have hP':in10 (-nX c y.2)=true:=by rw[in10_iff];omega
  have hl:(trC c).2.1.2.length=c.2.1.2.length:=List.length_map ..
  have hlM:(trC c).1.2.length=c.1.2.length:=List.length_map ..
  have hr:=rad_rot hc hW hl (fun i hi=>by rw[sdT_is hi];exact rotS_is (sd_good hc hi)) hP hQ hP'
  have w1:wr .i64 (0-nX c y.2)=-nX c y.2:=by rw[wr_in (by omega) (by omega)];omega
  have w2:wr .i64 (0-X)=-X:=by rw[wr_in (by omega) (by omega)];omega
  have h1:inR X Y=true:=by rw[inR_iff];exact⟨⟨hX,hY.1⟩,hY.2⟩
  have h2:inR Y (-X)=true:=by rw[inR_iff];omega
  obtain⟨s1,s2,s3⟩:=see_rot (d:=D) (m:=M) hc hW hlM (fun i hi=>rotM_is hc hi) h1 h2
  have r0:(radS c (nX c y.2) (nY c y.2)).2=0:=by rw[rad_is hc hP hQ]
  simp only[hsz,c1,hu,w1,w2,hr,r0,s1,ieq_self,bbeq_self,vsB_self,Bool.and_self,Bool.not_true,cond_true,cond_false] at h
  cases n0:ieq (c.1.2.length:Int) 0 with
  |true=>
   simp only[n0,cond_true] at h
   exact .doneB (Tq_ok _) Tn1sy h rfl
  | false =>
   simp only[n0,cond_false] at h
   cases e:ieq (seeS c D M X Y).2 0 with
   | true =>
    obtain⟨t1,t2,t3⟩:=s2 (ieq_t' e)
    have t4:(wr .i64 ((seeS c D M X Y).1+8)).tmod 32=((seeS c D M X Y).1+8) % 32:=by
     rw[wr_in (by omega) (by omega),Int.tmod_eq_emod_of_nonneg (by omega)]
    simp only[e,t1,t4,ieq_self,Bool.not_true,cond_true,cond_false] at h
    exact .doneB (Tq_ok _) Tn1sy h rfl
   |false=>
    obtain⟨t1,t2⟩:=s3 (ieq_f' e)
    simp only[e,t1,t2,ieq_self,Bool.not_false,cond_true] at h
    exact .doneB (Tq_ok _) Tn1sy h rfl
end Go.Proofs.YtgaoajmlckgdaaaGreatDoor


namespace Go.Proofs.YtgaoajmlckgdaaaGreatDoor
open Go Go.Eng
theorem one_bk {H:Type} (d:DataW H):1≤Rows.uptoBulk d:=by
 cases d with
 |lit l=>cases l<;>simp[Rows.uptoBulk]
 |nil=>simp[Rows.uptoBulk]
 |ptr d=>simp[Rows.uptoBulk]
 |slice elems spare=>simp[Rows.uptoBulk]
 |agg parts=>simp[Rows.uptoBulk]
 |iface t d=>simp[Rows.uptoBulk]
 |map entries=>simp[Rows.uptoBulk]
 |held h=>simp[Rows.uptoBulk]
noncomputable def tyBk:(t:Ty)→t.den→Nat
 |.int _,_=>1
 |.bool,_=>1
 |.str,_=>1
 |.nil,_=>0
 |.cons t ts,d=>tyBk t d.1+tyBk ts d.2
 |.sl t,d=>1+(d.2.map fun x=>tyBk t x).sum
mutual
noncomputable def fits2 (P:Program):Ty→TypeId→Bool
 |.int _,_=>true
 |.bool,_=>true
 |.str,_=>true
 |.nil,_=>true
 | .cons a b, T => match P.underlying T with
  |some (.struct fs)=>match fs.toList with
   |f::fs=>Nat.beq f.offset 0&&fits2 P a f.type&&Nat.beq a.size (P.cellsOf f.type)&&fitsF2 P b a.size fs&&Nat.beq (a.size+b.size) (P.cellsOf T)
   |[]=>false
  |_=>false
 |.sl t,T=>match P.underlying T with
  |some (.slice e)=>fits2 P t e&&Nat.beq t.size (P.cellsOf e)&&Nat.ble 1 t.size
  |_=>false
noncomputable def fitsF2 (P:Program):Ty→Nat→List Field→Bool
 |.nil,_,_=>true
 |.cons a b,off,fs=>match fs with
  |f::fs=>Nat.beq f.offset off&&fits2 P a f.type&&Nat.beq a.size (P.cellsOf f.type)&&fitsF2 P b (off+a.size) fs
  |[]=>false
 |_,_,_=>false
end
theorem VRs.split {V:View} {a b:List AV} {L:List Value} (h:VRs V (a++b) L):VRs V a (L.take a.length)∧VRs V b (L.drop a.length):=by
 obtain⟨h1,h2⟩:=h
 rw[List.length_append] at h1
 refine⟨⟨by rw[List.length_take];omega,fun i hi hj=>?_⟩,⟨by rw[List.length_drop];omega,fun i hi hj=>?_⟩⟩
 · have := h2 i (by rw [List.length_append]; omega) (by omega)
   rw[List.getElem_append_left hi] at this
   rw[List.getElem_take];exact this
 · have := h2 (a.length + i) (by rw [List.length_append]; omega) (by omega)
   rw[List.getElem_append_right (by omega)] at this
   simp only[Nat.add_sub_cancel_left] at this
   rw[List.getElem_drop];exact this
section
variable {H:Type} {P:Program} {enc:TypeId×Value→H} {w:World} {base:Nat} {spare:Nat→Bool} {held:Bool}
theorem lies_bk {g:List Value→Option (DataW H×List MemPlace)} {t:Ty} (ih:∀ cs d p (x:t.den),g cs=some (d,p)→VRs (Go.Eng.seen w) (t.cells x) cs→tyBk t x≤Rows.uptoBulk d) (a:Addr) (hs:a.spot=none) :
  ∀ (i:Nat) (xs:List (DataW H×List MemPlace)) (l:List t.den),l.length=xs.length→(∀ j,j<xs.length→(w.cells? base (a.add ((i+j) * t.size)) t.size).bind g=xs[j]?)→Lies w a.block (a.off+i * t.size) (flat t l)→(l.map fun x=>tyBk t x).sum≤Rows.uptoBulkAll (xs.map (·.1))
 |i,[],l,hn,_,_=>by
  have:l=[]:=List.eq_nil_of_length_eq_zero (by simpa using hn)
  subst this
  simp
 | i, x :: xs, l, hn, h, hL => by
  cases l with
  |nil=>simp at hn
  | cons y l =>
   have hx:=h 0 (by simp)
   rw[List.getElem?_cons_zero,Option.bind_eq_some_iff] at hx
   obtain⟨cs,hc,hx⟩:=hx
   obtain⟨c1,c2⟩:=cells?_get hc
   have e:flat t (y::l)=t.cells y++flat t l:=rfl
   rw[e] at hL
   have hsz:=Ty.cells_length t y
   have hy:VRs (Go.Eng.seen w) (t.cells y) cs:=⟨by omega,fun k hk hk'=>by
    obtain⟨v,h1,h2⟩:=hL k (by rw[List.length_append];omega)
    rw[List.getElem_append_left hk] at h2
    have:=c2 k (by omega)
    rw[Nat.add_zero,spot_add2 hs,spot_add hs,List.getElem?_eq_getElem hk'] at this
    rw[show a.off+(i * t.size+k)=a.off+i * t.size+k by omega,h1] at this
    rw[← Option.some.inj this];exact h2⟩
   have h1:=ih _ x.1 x.2 y hx hy
   have h2:=lies_bk ih a hs (i+1) xs l (by simpa using hn) (fun j hj=>by have:=h (j+1) (by simpa using hj);rw[show i+1+j=i+(j+1) by omega];simpa using this) (fun k hk=>by
    obtain⟨v,h1,h2⟩:=hL (t.size+k) (by rw[List.length_append];omega)
    rw[List.getElem_append_right (by omega)] at h2
    simp only[hsz,Nat.add_sub_cancel_left] at h2
    refine⟨v,?_,h2⟩
    rw[← h1,Nat.add_mul,Nat.one_mul]
    congr 2
    omega)
   simp only[List.map_cons,List.sum_cons,Rows.uptoBulkAll]
   omega
mutual
theorem bk_ty : ∀ (t : Ty) (T : TypeId) (m : Nat) (cs : List Value) (d : DataW H) (p : List MemPlace) (x : t.den), fits2 P t T = true → DataW.trod enc P w base spare held m T cs = some (d, p) → VRs (Go.Eng.seen w) (t.cells x) cs → tyBk t x ≤ Rows.uptoBulk d
 |.int _,_,_,_,d,_,_,_,_,_=>one_bk d
 |.bool,_,_,_,d,_,_,_,_,_=>one_bk d
 |.str,_,_,_,d,_,_,_,_,_=>one_bk d
 |.nil,_,_,_,d,_,_,_,_,_=>Nat.zero_le _
 | .cons a b, T, m, cs, d, p, x, hf, h, hv => by
  simp only[fits2] at hf
  split at hf
  · rename_i fs hu
    split at hf
    · rename_i f fs' hfs
      simp only[Bool.and_eq_true] at hf
      obtain⟨⟨⟨⟨f1,f2⟩,f3⟩,f4⟩,f5⟩:=hf
      have f1:=Nat.eq_of_beq_eq_true f1
      have f3:=Nat.eq_of_beq_eq_true f3
      have f5:=Nat.eq_of_beq_eq_true f5
      obtain⟨xs,k,rfl,hx,hlen,hxl,h1⟩:=DataW.trod_struct hu h
      simp only[Prod.mk.injEq] at hx
      obtain⟨rfl,_⟩:=hx
      have hi0 := h1 0 f (by have : fs[0]? = some f := by rw [← Array.getElem?_toList, hfs]; rfl
                             exact this)
      cases xs with
      | nil =>
       exfalso
       have h0:fs.toList.length=0:=by
        have:=hxl
        simp at this
        simp[this]
       rw[hfs] at h0;simp at h0
      | cons y ys =>
       rw[List.getElem?_cons_zero] at hi0
       have hv':VRs (Go.Eng.seen w) (a.cells x.1++b.cells x.2) cs:=hv
       obtain⟨v1,v2⟩:=VRs.split hv'
       rw[Ty.cells_length] at v1 v2
       have e1:=bk_ty a _ _ _ y.1 y.2 x.1 f2 hi0 (by rw[f1,← f3,List.drop_zero];exact v1)
       have hl2:fs'.length=ys.length:=by
        have h0:fs.toList.length=fs'.length+1:=by rw[hfs];rfl
        have:=hxl
        simp at this h0
        omega
       have e2:=bk_tyF b k a.size fs' ys cs x.2 hl2 (fun i g hg=>by
        have:=h1 (i+1) g (by rw[← Array.getElem?_toList,hfs];simpa using hg)
        simpa using this) f4 (by
         have hl:cs.length=a.size+b.size:=by rw[f5];exact hlen
         rw[List.take_of_length_le (by rw[List.length_drop];omega)];exact v2)
       simp only[tyBk,List.map_cons,Rows.uptoBulk,Rows.uptoBulkAll]
       omega
    · cases hf
  · cases hf
 | .sl t, T, m, cs, d, p, x, hf, h, hv => by
  simp only[fits2] at hf
  split at hf
  · rename_i e hu
    simp only[Bool.and_eq_true] at hf
    obtain⟨⟨f1,f2⟩,f3⟩:=hf
    have f2:=Nat.eq_of_beq_eq_true f2
    have hz:=Nat.le_of_ble_eq_true f3
    have hv':VRs (Go.Eng.seen w) [.vs t x.1 x.2] cs:=hv
    obtain⟨V,Vs,ecs,hV,hVs⟩:=hv'.cons_inv
    have hVs0:=hVs.nil_inv
    subst hVs0
    rcases DataW.trod_slice hu h with ⟨rfl,hx⟩|⟨a,len,cap,els,rest,k,rfl,rfl,hx,hb,hlc,_,hlen,h1,h2,_⟩
    · simp only [List.cons.injEq, and_true] at ecs
      subst ecs
      rcases hV.vs_inv with ⟨_,e2,_⟩|⟨_,e2⟩
      · have := one_bk d
        simp only[tyBk,e2]
        simpa using this
      · cases e2
    · simp only [List.cons.injEq, and_true] at ecs
      subst ecs
      simp only[Prod.mk.injEq] at hx
      obtain⟨rfl,_⟩:=hx
      obtain⟨nl,l⟩:=x
      simp only at hV
      have key:(l.map fun x=>tyBk t x).sum≤Rows.uptoBulkAll (els.map (·.1)):=by
       cases hV with
       | vs _ _ blk o _ A f hk hvv hc ha =>
        by_cases hl0:l=[]
        · subst hl0;simp
        · have hpos : 0 < l.length := List.length_pos_iff.2 hl0
          rcases ha with ha|ha
          · omega
          · subst ha
            refine lies_bk (fun cs d p x h hv=>bk_ty t e k cs d p x f1 h hv) ⟨blk,o,none⟩ rfl 0 els l hlen.symm (fun j hj=>by rw[Nat.zero_add,f2];exact h1 j (by omega)) (fun i hi=>⟨f i,?_,hvv i hi⟩)
            show w.cell? ⟨blk,o+0 * t.size+i,none⟩=_
            rw[Nat.zero_mul,Nat.add_zero]
            exact hk i hi
      simp only[tyBk,Rows.uptoBulk]
      omega
  · cases hf
theorem bk_tyF:∀ (t:Ty) (m off:Nat) (fs:List Field) (xs:List (DataW H×List MemPlace)) (cs:List Value) (x:t.den),fs.length=xs.length→(∀ (i:Nat) (f:Field),fs[i]?=some f→DataW.trod enc P w base spare held m f.type ((cs.drop f.offset).take (P.cellsOf f.type))=xs[i]?)→fitsF2 P t off fs=true →
  VRs (Go.Eng.seen w) (t.cells x) ((cs.drop off).take t.size)→tyBk t x≤Rows.uptoBulkAll (xs.map (·.1))
 |.nil,_,_,_,_,_,_,_,_,_,_=>Nat.zero_le _
 |.cons a b,m,off,fs,xs,cs,x,hn,h,hf,hv=>by
  simp only[fitsF2] at hf
  split at hf
  · rename_i f fs
    simp only[Bool.and_eq_true] at hf
    obtain⟨⟨⟨f1,f2⟩,f3⟩,f4⟩:=hf
    have f1:=Nat.eq_of_beq_eq_true f1
    have f3:=Nat.eq_of_beq_eq_true f3
    have hi0:=h 0 f rfl
    cases xs with
    |nil=>
     exfalso
     simp at hn
    | cons y ys =>
     rw[List.getElem?_cons_zero] at hi0
     have hv':VRs (Go.Eng.seen w) (a.cells x.1++b.cells x.2) ((cs.drop off).take (a.size+b.size)):=hv
     rw[List.take_add,List.drop_drop] at hv'
     obtain⟨v1,v2⟩:=VRs.split hv'
     have hl0:=hv'.1
     rw[Ty.cells_length] at v1 v2
     have la:((cs.drop off).take a.size).length=a.size:=by
      have:=v1.1
      rw[Ty.cells_length,List.length_take] at this
      have h3:=hl0
      rw[List.length_append,List.length_append,Ty.cells_length,Ty.cells_length] at h3
      have h4:((cs.drop (off+a.size)).take b.size).length≤b.size:=List.length_take_le _ _
      have h5:((cs.drop off).take a.size).length≤a.size:=List.length_take_le _ _
      omega
     rw[List.take_append_of_le_length (by omega),List.take_of_length_le (by omega)] at v1
     rw[List.drop_append_of_le_length (by omega),List.drop_of_length_le (by omega),List.nil_append] at v2
     have e1:=bk_ty a _ _ _ y.1 y.2 x.1 f2 hi0 (by rw[f1,← f3];exact v1)
     have e2:=bk_tyF b m (off+a.size) fs ys cs x.2 (by simpa using hn) (fun i g hg=>by
      have:=h (i+1) g (by simpa using hg)
      simpa using this) f4 v2
     simp only[tyBk,List.map_cons,Rows.uptoBulkAll]
     omega
  · cases hf
 |.int _,_,_,_,_,_,_,_,_,hf,_=>by simp[fitsF2] at hf
 |.bool,_,_,_,_,_,_,_,_,hf,_=>by simp[fitsF2] at hf
 |.str,_,_,_,_,_,_,_,_,hf,_=>by simp[fitsF2] at hf
 |.sl _,_,_,_,_,_,_,_,_,hf,_=>by simp[fitsF2] at hf
end
theorem sum_len {t:Ty} {n:Nat} (h:∀ x:t.den,n≤tyBk t x):∀ l:List t.den,n * l.length≤(l.map fun x=>tyBk t x).sum
 |[]=>by simp
 |x::l=>by
  have h1:=h x
  have h2:=sum_len h l
  simp only[List.length_cons,List.map_cons,List.sum_cons,Nat.mul_add,Nat.mul_one]
  omega
theorem sum_mem {t:Ty} {x:t.den}:∀ {l:List t.den},x∈l→tyBk t x≤(l.map fun x=>tyBk t x).sum
 |y::l,h=>by
  simp only[List.map_cons,List.sum_cons]
  rcases List.mem_cons.1 h with rfl|h
  · omega
  · have:=sum_mem h;omega
end
end Go.Proofs.YtgaoajmlckgdaaaGreatDoor


namespace Go.Proofs.YtgaoajmlckgdaaaGreatDoor
open Go Go.ChangeShapes Go.WideShapes Go.Eng
theorem kOwn:ownKnob Tryz.prog.godebug=none:=by kernel_rfl
theorem kPlain:(Rows.chartTurnedUptoRow.laid.all fun x=>x.2.handleName?.isNone)=true:=by kernel_rfl
theorem kLaid:allT (glB Tryz.prog Rows.chartTurnedUptoRow.laid) T0.gl (fun k=>k)=true:=by kernel_rfl
theorem kParams:Tryz.f11.params=#[25,86,64]:=by kernel_rfl
theorem kResults:Tryz.f11.resultTypes=#[4]:=by kernel_rfl
theorem kLaidOut:laidOutB Tryz.prog=true:=by kernel_rfl
theorem kRead:Tryz.f11.params.toList.all (fun t=>Tryz.prog.readableRec t&&decide (t<Tryz.prog.types.size))=true:=by kernel_rfl
theorem kFit1:fits Tryz.prog (tChart) 25=true:=by kernel_rfl
theorem kFit2:fits Tryz.prog (tFrom) 86=true:=by kernel_rfl
theorem kFit3:fits Tryz.prog (Ty.sl (.int .u16)) 64=true:=by kernel_rfl
theorem kFitB:fits2 Tryz.prog (tChart) 25=true:=by kernel_rfl
theorem kGlob:Tn1.glob=T0.gl.get:=rfl
theorem kExt (c1:(tChart).den) (c2:(tFrom).den) (c3:(Ty.sl (.int .u16)).den):Tn1.ext 11 [tChart.av c1,tFrom.av c2,(Ty.sl (.int .u16)).av c3]=none:=ext_none (by kernel_rfl)
theorem szC_of {c:tChart.den} (h:tyBk tChart c≤1048576):szC c=true:=by
 have e:tyBk tChart c=(1+(c.1.2.map fun x=>tyBk tMark x).sum)+((1+(c.2.1.2.map fun x=>tyBk tSand x).sum)+0):=rfl
 have h1:=sum_len (t:=tMark) (n:=2) (fun x=>by
  have:tyBk tMark x=1+((1+(1+0))+((1+(x.2.2.1.2.map fun y=>tyBk tP y).sum)+0)):=rfl
  omega) c.1.2
 have h2:=sum_len (t:=tSand) (n:=2) (fun x=>by
  have:tyBk tSand x=1+((1+(x.2.1.2.map fun y=>tyBk tP y).sum)+(((1+(1+0))+((1+(1+0))+0))+0)):=rfl
  omega) c.2.1.2
 unfold szC
 rw[Nat.ble_eq_true_of_le (show c.1.2.length≤1000000 by omega),Nat.ble_eq_true_of_le (show c.2.1.2.length≤1000000 by omega)]
 show (c.2.1.2.all fun s=>Nat.ble s.2.1.2.length 1000000)=true
 rw[List.all_eq_true]
 intro s hs
 have h3:=sum_mem (t:=tSand) hs
 have h4:tyBk tSand s=1+((1+(s.2.1.2.map fun y=>tyBk tP y).sum)+(((1+(1+0))+((1+(1+0))+0))+0)):=rfl
 have h5:=sum_len (t:=tP) (n:=2) (fun x=>by
  have:tyBk tP x=1+(1+0):=rfl
  omega) s.2.1.2
 exact Nat.ble_eq_true_of_le (by omega)
noncomputable def kWit:Array Value:=#[.agg #[.slice none 0 0,.slice none 0 0],.agg #[.int .u16 0,.int .u8 0,.int .i16 0,.int .i16 0],.slice none 0 0]
theorem kReads (os:Os) {H:Type} (enc:TypeId×Value→H):∃ places,DataW.whole enc Tryz.prog ((World.laidAll Tryz.prog os Rows.chartTurnedUptoRow.laid).forCall (fun _ _=>0) ⟨#[],kWit,[]⟩).memory Tryz.f11.params.toList Rows.chartTurnedSpec.vars false kWit.toList 8 =
  some ([.agg [.nil,.nil],.agg [.lit (.int .u16 0),.lit (.int .u8 0),.agg [.lit (.int .i16 0),.lit (.int .i16 0)]],.nil],[],places):=⟨[],by kernel_rfl⟩
set_option maxRecDepth 100000 in
theorem kLifted (os:Os) (started:os.Started) (H:Type) (enc:TypeId×Value→H) (F:Stop.Interp) :
  ReturnsInHanded {} Tryz.checked os 11 .any ((Rows.OpenSpec.upto Rows.chartTurnedSpec).preRow enc Tryz.prog Tryz.f11 Rows.chartTurnedUptoRow.domain false Rows.chartTurnedUptoRow.laid)
   (((Rows.OpenSpec.upto Rows.chartTurnedSpec).at F).post enc Tryz.prog Tryz.f11 false true false false):=by
 obtain⟨places,hx⟩:=kReads os enc
 refine returnsInHanded_of_row (C:=Tryz.checked) (s:=Rows.OpenSpec.upto Rows.chartTurnedSpec) kOwn started (by kernel_rfl) Tryz.func11
  (witness_row_at (enc := enc) (C := Tryz.checked) false (World.laidAll Tryz.prog os Rows.chartTurnedUptoRow.laid) kWit (World.laidAll_os _ _ _) (by kernel_rfl) (by kernel_rfl) (by kernel_rfl)
   (OpenSpec.preRow_of_cond 8 hx (by kernel_rfl) (fun k hk=>by cases hk;kernel_rfl) (by kernel_rfl) (by rw[MakeChecks.laidMetH_plain _ _ _ kPlain];exact laidMet_laidAll _ (by kernel_rfl) (by kernel_rfl)))) ?_
 intro W base args ds gs before hok hW _ hcond _ hL _ _
 have hL':laidMet Tryz.prog Rows.chartTurnedUptoRow.laid W:=by rw[← MakeChecks.laidMetH_plain _ _ _ kPlain];exact hL
 have hW':=hW
 have hk:=hcond _ rfl
 obtain⟨p,q,hA,_⟩:=hW
 rw[kParams] at hA
 obtain⟨v1,v2,v3,d1,d2,d3,p1,p2,p3,e1',e2',hp,t1,t2,t3⟩:=trodAll_three hA
 subst e1';subst e2'
 rw[kParams] at hok
 obtain⟨c1,h1,w1⟩:=arg_ty (t:=tChart) (hok 0 25 v1 rfl rfl) kFit1 t1
 obtain⟨c2,h2,w2⟩:=arg_ty (t:=tFrom) (hok 1 86 v2 rfl rfl) kFit2 t2
 obtain⟨c3,h3,w3⟩:=arg_ty (t:=Ty.sl (.int .u16)) (hok 2 64 v3 rfl rfl) kFit3 t3
 have hb:tyBk tChart c1≤1048576:=by
  have hk2:Rows.uptoBulkAll ([d1,d2,d3]++gs)≤1048576:=of_decide_eq_true hk
  simp only[List.cons_append,Rows.uptoBulkAll] at hk2
  obtain⟨fuel,t1'⟩:=t1
  have h1':VRs (Go.Eng.seen W) (tChart.cells c1) v1.cells.toList:=by
   obtain⟨L,e,hL⟩:=VR.agg_inv (show VR (Go.Eng.seen W) (.agg (tChart.cells c1)) v1 from h1)
   subst e
   exact hL
  have:=bk_ty tChart 25 fuel _ d1 p1 c1 kFitB t1' h1'
  omega
 obtain⟨σ,hrun⟩:=turned_true c1 c2 c3 (szC_of hb) w3
 refine (law_run (A:=[v1,v2,v3]) (V:=Go.Eng.seen W) tn1 xtn1 ntn1 tabs_ok.mix (kExt c1 c2 c3) hrun (.cons h1 (.cons h2 (.cons h3 (.nil _)))) (by kernel_rfl) (fun _ _ _ h=>h) (glob_of kGlob kLaid hL')).mono fun e W' ⟨he,hf⟩=>?_
 subst he
 exact⟨_,rfl,post_law (s:=Rows.chartTurnedSpec) kLaidOut kRead kResults Tryz.underlying4 rfl rfl hW' hf⟩
theorem kHolds:Rows.ChartTurnedUptoSaid:=
 OpenClaim.holds_of_cond 11 Tryz.f11 rfl rfl rfl rfl rfl rfl rfl ⟨rfl,rfl,rfl,rfl,rfl⟩ rfl rfl rfl rfl rfl (by kernel_rfl) Tryz.func11 (by kernel_rfl)
  (of_decide_eq_true (by kernel_rfl)) (by unfold Func.isWrapper;first|(rw[if_pos (by decide +kernel)];kernel_rfl)|(rw[if_neg (by decide +kernel)];exact⟨rfl,rfl⟩))
  (fun os started H enc _ F=>by rw[OpenClaim.pre_eq_preRow];exact kLifted os started H enc F)
theorem chartTurnedUpto_holds:Rows.ChartTurnedUptoCardSaid:=
 Claim7.holds_tied_plain_at .later [] Rows.chartTurnedUptoCard.laidKinds true Rows.chartTurnedUptoCard.stood.harness true
  kHolds (fun _ h=>by cases h) (by kernel_rfl) (fun _ h=>by cases h) chartTurnedUpto_row_tie rfl ⟨rfl,rfl⟩ (by kernel_rfl) rfl
  (fun f fn hf hfn => by
   obtain rfl : f = 11 := Option.some.inj ((show Tryz.prog.funcNamed "nore/norelaw01.ChartTurned" = some 11 by kernel_rfl).symm.trans hf) |>.symm
   obtain rfl:fn=Tryz.f11:=(Option.some.inj (Tryz.func11.symm.trans hfn)).symm
   exact⟨by kernel_rfl,fun j t ht=>by
    rw[kParams] at ht
    rcases j with _|_|_|j<;>simp at ht<;>subst ht<;>kernel_rfl⟩)
  (by kernel_rfl)
#print axioms chartTurnedUpto_holds
end Go.Proofs.YtgaoajmlckgdaaaGreatDoor

