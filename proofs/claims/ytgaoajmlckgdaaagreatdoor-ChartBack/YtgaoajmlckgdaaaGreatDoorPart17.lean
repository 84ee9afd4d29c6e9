/-
  What is proved: norelaw01.ChartBack returns true for every chart, day, mark and place. Conditions: none but those of the given card (package-level variables start as the program's text lays them).
-/
import Derived.Test.YtgaoajmlckgdaaaGreatDoorPart05
import Derived.Test.YtgaoajmlckgdaaaGreatDoorPart06
import Derived.Test.YtgaoajmlckgdaaaGreatDoorPart07
import Derived.Test.YtgaoajmlckgdaaaGreatDoorPart08
import Derived.Test.YtgaoajmlckgdaaaGreatDoorPart09
import Derived.Test.YtgaoajmlckgdaaaGreatDoorPart10
import Derived.Test.YtgaoajmlckgdaaaGreatDoorPart16
import Derived.Test.YtgaoajmlckgdaaaGreatDoorPart11
import Derived.Test.YtgaoajmlckgdaaaGreatDoorPart12
import Derived.Test.YtgaoajmlckgdaaaGreatDoorPart13
import Derived.Test.YtgaoajmlckgdaaaGreatDoorPart14
import Derived.Test.YtgaoajmlckgdaaaGreatDoorPart04
import Derived.Test.YtgaoajmlckgdaaaGreatDoorRows
import Derived.Test.YtgaoajmlckgdaaaGreatDoorCards
import Derived.Test.YtgaoajmlckgdaaaGreatDoorTie
import Derived.ProofKit
import Derived.LaidMore
import Derived.OpenShut
import Derived.Stop.Joined
import Derived.Lay
import Derived.SevenTiedAt
set_option linter.unusedSectionVars false
set_option linter.unusedSimpArgs false
set_option linter.unusedVariables false
set_option maxRecDepth 100000
namespace Go.Proofs.YtgaoajmlckgdaaaGreatDoor
open Go Go.Eng
noncomputable def L3:List Ent:=[c0,c1,c2,c3,c4,c5,c6,c7,c8,c9,c10]
theorem l3:∀ e∈L3,EntOK Tryz.prog EA e:=ents_cons o0 (ents_cons o1 (ents_cons o2 (ents_cons o3 (ents_cons o4 (ents_cons o5 (ents_cons o6 (ents_cons o7 (ents_cons o8 (ents_cons o9 (ents_cons o10 (ents_nil)))))))))))
end Go.Proofs.YtgaoajmlckgdaaaGreatDoor


set_option maxRecDepth 100000
namespace Go.Proofs.YtgaoajmlckgdaaaGreatDoor
open Go Go.Eng
theorem kn_true:isTrueT EA L3 40 22=true:=by kernel_rfl
end Go.Proofs.YtgaoajmlckgdaaaGreatDoor


set_option maxRecDepth 100000
namespace Go.Proofs.YtgaoajmlckgdaaaGreatDoor
open Go Go.Eng
theorem valf_start (c:tChart.den):adv F2 (Z2 []) 3000 (startC F2 43 [tChart.av c] 6)=some (.done (.bool (ieq (chkS c).2.2 0))):=by kernel_rfl
abbrev tI2:Ty:=.cons (.int .i16) (.cons (.int .i16) .nil)
abbrev tFrom:Ty:=.cons (.int .u16) (.cons (.int .u8) (.cons tI2 .nil))
theorem valf_call (c:tChart.den):AnsF F2 43 [tChart.av c] (.bool (ieq (chkS c).2.2 0)):=
 Ans.call (n:=6) (ext_none (by kernel_rfl)) (hasB_spec (by kernel_rfl)) (.doneB (Z2_ok _) F2sy (valf_start c) rfl)
noncomputable def LY:List Said:=[(32,con4 tChart tI tI tP (fun _ _ _ _=>true) (fun c d m v=>tup2 (seeS c d m v.1 v.2.1))),(43,con1 tChart (fun _=>true) (fun c=>.bool (ieq (chkS c).2.2 0))),(22,say0 (.bool true))]
theorem LY_ok:∀ e∈LY,SaidG Tryz.prog F2.glob e:=
 saids_cons (SaidOK.g f2 xf2 nf2 tabs_ok.mix (fun _ _ h=>con4_spec (t:=tChart) (u:=tI) (w:=tI) (s:=tP) (fun c d m v _=>seen_call c d m v) h) rfl)
 (saids_cons (SaidOK.g f2 xf2 nf2 tabs_ok.mix (fun _ _ h=>con1_spec (t:=tChart) (fun c _=>valf_call c) h) rfl)
 (saids_cons (XG.g (XG.closedT eA xA nA tabs_ok.mix l3 kn_true) rfl) saids_nil))
noncomputable def B1:Env:=F2.say (under (xOf LY))
theorem b1:EnvOK Tryz.prog B1:=f2.say _
theorem nb1:NameOK B1:=nf2.say _
theorem xb1:ExtOK Tryz.prog B1:=xf2.sayL LY_ok
theorem B1sy:B1.sy=true:=rfl
noncomputable def C1 (l:List Nat):Sy:=(Z2 []).on LY l
theorem C1_ok (l:List Nat):(C1 l).ok B1:=Sy.on_ok (Z2_ok _)
end Go.Proofs.YtgaoajmlckgdaaaGreatDoor


set_option maxRecDepth 100000
namespace Go.Proofs.YtgaoajmlckgdaaaGreatDoor
open Go Go.Eng
noncomputable def tx (k:Nat):Int:=(vtab.getD k (0,0)).1
noncomputable def ty (k:Nat):Int:=(vtab.getD k (0,0)).2
noncomputable def lN (x y:Int) (k:Nat):Int:=tx k * y-ty k * x
theorem lN_eq {x y:Int} {k:Nat} (hk:k<32):lf x y k=lN x y k:=by
 have hv:inV (k:Int)=true:=by rw[inV_iff];omega
 unfold lf vx vy lN tx ty
 rw[hv];rfl
noncomputable def dN (a b:Nat):Int:=tx a * ty b-ty a * tx b
theorem dN_neg:((List.range 32).all fun a=>(List.range 14).all fun t=>!ile 0 (dN a ((a+t+2) % 32))&&!ile 0 (dN ((a+1) % 32) ((a+t+2) % 32))&&!ile 0 (dN a ((a+1) % 32)))=true:=by kernel_rfl
theorem t_opp:((List.range 32).all fun a=>ieq (tx ((a+16) % 32)) (-tx a)&&ieq (ty ((a+16) % 32)) (-ty a))=true:=by kernel_rfl
theorem ile_n {a:Int} (h:(!ile 0 a)=true):a<0:=by
 rw[Bool.not_eq_true',ile_iff,decide_eq_false_iff_not] at h
 omega
theorem dN_at {a t:Nat} (ha:a<32) (ht:2≤t) (ht2:t<16):dN a ((a+t) % 32)<0∧dN ((a+1) % 32) ((a+t) % 32)<0∧dN a ((a+1) % 32)<0:=by
 have h:=List.all_eq_true.1 (List.all_eq_true.1 dN_neg a (List.mem_range.2 ha)) (t-2) (List.mem_range.2 (by omega))
 rw[show a+(t-2)+2=a+t by omega] at h
 simp only[Bool.and_eq_true] at h
 exact⟨ile_n h.1.1,ile_n h.1.2,ile_n h.2⟩
theorem lN_opp {x y:Int} {a:Nat} (ha:a<32):lN (-x) (-y) ((a+16) % 32)=lN x y a∧lN x y ((a+16) % 32)=-lN x y a:=by
 have h:=List.all_eq_true.1 t_opp a (List.mem_range.2 ha)
 simp only[Bool.and_eq_true,ieq_iff,decide_eq_true_eq] at h
 unfold lN
 rw[h.1,h.2]
 constructor
 · rw[Int.neg_mul_neg,Int.neg_mul_neg]
 · rw[Int.neg_mul,Int.neg_mul];omega
theorem lN_conv {x y:Int} (i j k:Nat):lN x y j * dN i k=dN j k * lN x y i+dN i j * lN x y k:=by
 unfold lN dN
 generalize tx i=a
 generalize tx j=b
 generalize tx k=c
 generalize ty i=d
 generalize ty j=e
 generalize ty k=f
 grind
theorem mul_pos' {a b:Int} (ha:a<0) (hb:b≤0):0≤a * b:=by
 have:=Int.mul_nonneg (show 0≤-a by omega) (show 0≤-b by omega)
 rwa [Int.neg_mul_neg] at this
theorem good_iff {x y:Int} {k:Nat} (hk:k<32):goodP x y k=true↔lN x y k≤0∧0<lN x y ((k+1) % 32):=by
 unfold goodP
 rw[nxt_eq,lN_eq hk,lN_eq (Nat.mod_lt _ (by omega))]
 simp only[Bool.and_eq_true,Bool.not_eq_true',ile_iff,decide_eq_true_eq,decide_eq_false_iff_not]
 omega
theorem good_near {x y:Int} {a t:Nat} (ha:a<32) (h1:0<t) (h2:t≤16) (g:goodP x y a=true) (h:goodP x y ((a+t) % 32)=true):False:=by
 rw[good_iff ha] at g
 rw[good_iff (Nat.mod_lt _ (by omega))] at h
 by_cases e:t=1
 · subst e;omega
 by_cases e2:t=16
 · subst e2
   have q:=(lN_opp (x:=x) (y:=y) (Nat.mod_lt (a+1) (show 32 > 0 by omega))).2
   rw[show ((a+1) % 32+16) % 32=((a+16) % 32+1) % 32 by omega] at q
   omega
 obtain⟨d1,d2,d3⟩:=dN_at ha (show 2≤t by omega) (show t<16 by omega)
 have c:=lN_conv (x:=x) (y:=y) a ((a+1) % 32) ((a+t) % 32)
 have z1:=mul_pos' d2 g.1
 have z2:=mul_pos' d3 h.1
 have z3:=Int.mul_neg_of_pos_of_neg g.2 d1
 omega
theorem good_one {x y:Int} {a b:Nat} (ha:a<32) (hb:b<32) (g:goodP x y a=true) (h:goodP x y b=true):a=b:=by
 refine Classical.byContradiction (fun hne=>?_)
 by_cases hl:a<b
 · by_cases hd : b - a ≤ 16
   · exact good_near ha (show 0<b-a by omega) hd g (by rw[show (a+(b-a)) % 32=b by omega];exact h)
   · exact good_near hb (show 0<32-(b-a) by omega) (by omega) h (by rw[show (b+(32-(b-a))) % 32=a by omega];exact g)
 · by_cases hd : a - b ≤ 16
   · exact good_near hb (show 0<a-b by omega) hd h (by rw[show (b+(a-b)) % 32=a by omega];exact g)
   · exact good_near ha (show 0<32-(a-b) by omega) (by omega) g (by rw[show (a+(32-(a-b))) % 32=b by omega];exact h)
theorem ptGo_good {x y:Int}:∀ (r k:Nat),(∃ j,k≤j∧j<k+r∧goodP x y j=true)→∃ j,j<k+r∧goodP x y j=true∧ptGo x y k r=(j:Int)
 |0,k,⟨j,h1,h2,_⟩=>by omega
 | r + 1, k, ⟨j, h1, h2, h3⟩ => by
  rw[ptGo]
  cases e:goodP x y k with
  |true=>exact⟨k,by omega,e,rfl⟩
  | false =>
   rw[cond_false]
   obtain⟨i,h4,h5,h6⟩:=ptGo_good r (k+1) ⟨j,by
    have:j≠k:=fun q=>by rw[q,e] at h3;cases h3
    omega,by omega,h3⟩
   exact⟨i,by omega,h5,h6⟩
theorem ptF_good {x y:Int} (h:¬(x=0∧y=0)):∃ j,j<32∧goodP x y j=true∧ptF x y=(j:Int):=by
 obtain⟨j,h1,h2⟩:=good_ex x y h
 obtain⟨i,h3,h4,h5⟩:=ptGo_good 32 0 ⟨j,by omega,by omega,h2⟩
 exact⟨i,by omega,h4,h5⟩
theorem ptF_opp {x y:Int} (h:¬(x=0∧y=0)):ptF (-x) (-y)=(ptF x y+16) % 32∧0≤ptF x y∧ptF x y<32:=by
 obtain⟨i,h1,h2,h3⟩:=ptF_good h
 obtain⟨j,h4,h5,h6⟩:=ptF_good (x:=-x) (y:=-y) (by omega)
 have g:goodP (-x) (-y) ((i+16) % 32)=true:=by
  rw[good_iff (Nat.mod_lt _ (by omega))]
  rw[good_iff h1] at h2
  have e1:=(lN_opp (x:=x) (y:=y) h1).1
  have e2:=(lN_opp (x:=x) (y:=y) (Nat.mod_lt (i+1) (show 32 > 0 by omega))).1
  rw[show ((i+1) % 32+16) % 32=((i+16) % 32+1) % 32 by omega] at e2
  rw[e1,e2];exact h2
 have:=good_one h4 (Nat.mod_lt _ (by omega)) h5 g
 rw[h3,h6,this]
 omega
end Go.Proofs.YtgaoajmlckgdaaaGreatDoor


set_option maxRecDepth 100000
namespace Go.Proofs.YtgaoajmlckgdaaaGreatDoor
open Go Go.Eng
theorem cbak_start (c:tChart.den) (x:tFrom.den):adv B1 (C1 [14]) 3000 (startC B1 14 [tChart.av c,tFrom.av x] 8)=(bif !ieq (chkS c).2.2 0 then some (.done (.bool (true))) else (bif ieq (↑c.1.2.length) 0 then some (.done (.bool (true))) else (bif ieq (↑c.1.2.length) 8 then some (.done (.bool (true))) else (bif ieq (↑c.1.2.length) 0 then none else (bif c.1.2.length.ble 1048576&&oneAll (flat tMark c.1.2)&&(B1.bytes 95).ble 65536 then (bif c.1.2.length.beq 0 then (bif ieq ((wr .i64 x.2.2.1.1).tmod 30001) ((wr .i64 x.2.2.1.1).tmod 30001) then (bif ieq ((wr .i64 x.2.2.1.2.1).tmod 30001) ((wr .i64 x.2.2.1.2.1).tmod 30001) then (bif ieq ((wr .i64 x.2.2.1.1).tmod 30001) ((wr .i64 x.2.2.1.1).tmod 30001) then (bif ieq ((wr .i64 x.2.2.1.2.1).tmod 30001) ((wr .i64 x.2.2.1.2.1).tmod 30001) then (bif bbeq c.1.1 c.1.1 then (bif vsB tMark c.1.2 tMark c.1.2 then (bif !ieq (chkS ((false,unf (rd tMark) (0+1) [AV.str [115,104,105,112],AV.int IntKind.i64 ((wr .i64 x.2.2.1.1).tmod 30001),AV.int IntKind.i64 ((wr .i64 x.2.2.1.2.1).tmod 30001),AV.csl [AV.int IntKind.i64 0,AV.int IntKind.i64 2] 1]),c.2)).2.2 0 then some (.done (.bool (true))) else (bif inB ((wr .i64 x.2.1).tmod ↑c.1.2.length) c.1.2.length then (bif bbeq c.1.1 c.1.1 then (bif vsB tMark c.1.2 tMark c.1.2 then (bif bbeq c.1.1 c.1.1 then (bif vsB tMark c.1.2 tMark c.1.2 then (bif bbeq c.2.1.1 c.2.1.1 then (bif vsB tSand c.2.1.2 tSand c.2.1.2 then (bif ieq (seeS c ((wr .i64 x.1).tmod 40001) ((wr .i64 x.2.1).tmod ↑c.1.2.length) ((wr .i64 x.2.2.1.1).tmod 30001) ((wr .i64 x.2.2.1.2.1).tmod 30001)).2 8 then (bif ieq (seeS ((false,unf (rd tMark) (0+1) [AV.str [115,104,105,112],AV.int IntKind.i64 ((wr .i64 x.2.2.1.1).tmod 30001),AV.int IntKind.i64 ((wr .i64 x.2.2.1.2.1).tmod 30001),AV.csl [AV.int IntKind.i64 0,AV.int IntKind.i64 2] 1]),c.2) ((wr .i64 x.1).tmod 40001) (↑c.1.2.length) (c.1.2.getD ((wr .i64 x.2.1).tmod ↑c.1.2.length).toNat tMark.dflt).2.1.1 (c.1.2.getD ((wr .i64 x.2.1).tmod ↑c.1.2.length).toNat tMark.dflt).2.1.2.1).2 (seeS c ((wr .i64 x.1).tmod 40001) ((wr .i64 x.2.1).tmod ↑c.1.2.length) ((wr .i64 x.2.2.1.1).tmod 30001) ((wr .i64 x.2.2.1.2.1).tmod 30001)).2 then some (.done (.bool (true))) else some (.done (.bool (false)))) else (bif !ieq (seeS c ((wr .i64 x.1).tmod 40001) ((wr .i64 x.2.1).tmod ↑c.1.2.length) ((wr .i64 x.2.2.1.1).tmod 30001) ((wr .i64 x.2.2.1.2.1).tmod 30001)).2 0 then (bif ieq (seeS c ((wr .i64 x.1).tmod 40001) ((wr .i64 x.2.1).tmod ↑c.1.2.length) ((wr .i64 x.2.2.1.1).tmod 30001) ((wr .i64 x.2.2.1.2.1).tmod 30001)).2 9 then (bif ieq (seeS ((false,unf (rd tMark) (0+1) [AV.str [115,104,105,112],AV.int IntKind.i64 ((wr .i64 x.2.2.1.1).tmod 30001),AV.int IntKind.i64 ((wr .i64 x.2.2.1.2.1).tmod 30001),AV.csl [AV.int IntKind.i64 0,AV.int IntKind.i64 2] 1]),c.2) ((wr .i64 x.1).tmod 40001) (↑c.1.2.length) (c.1.2.getD ((wr .i64 x.2.1).tmod ↑c.1.2.length).toNat tMark.dflt).2.1.1 (c.1.2.getD ((wr .i64 x.2.1).tmod ↑c.1.2.length).toNat tMark.dflt).2.1.2.1).2 0 then some (.done (.bool (true))) else (bif ieq (seeS ((false,unf (rd tMark) (0+1) [AV.str [115,104,105,112],AV.int IntKind.i64 ((wr .i64 x.2.2.1.1).tmod 30001),AV.int IntKind.i64 ((wr .i64 x.2.2.1.2.1).tmod 30001),AV.csl [AV.int IntKind.i64 0,AV.int IntKind.i64 2] 1]),c.2) ((wr .i64 x.1).tmod 40001) (↑c.1.2.length) (c.1.2.getD ((wr .i64 x.2.1).tmod ↑c.1.2.length).toNat tMark.dflt).2.1.1 (c.1.2.getD ((wr .i64 x.2.1).tmod ↑c.1.2.length).toNat tMark.dflt).2.1.2.1).2 8 then some (.done (.bool (true))) else some (.done (.bool (false))))) else some (.done (.bool (false)))) else (bif ieq (seeS ((false,unf (rd tMark) (0+1) [AV.str [115,104,105,112],AV.int IntKind.i64 ((wr .i64 x.2.2.1.1).tmod 30001),AV.int IntKind.i64 ((wr .i64 x.2.2.1.2.1).tmod 30001),AV.csl [AV.int IntKind.i64 0,AV.int IntKind.i64 2] 1]),c.2) ((wr .i64 x.1).tmod 40001) (↑c.1.2.length) (c.1.2.getD ((wr .i64 x.2.1).tmod ↑c.1.2.length).toNat tMark.dflt).2.1.1 (c.1.2.getD ((wr .i64 x.2.1).tmod ↑c.1.2.length).toNat tMark.dflt).2.1.2.1).2 0 then (bif ieq (seeS ((false,unf (rd tMark) (0+1) [AV.str [115,104,105,112],AV.int IntKind.i64 ((wr .i64 x.2.2.1.1).tmod 30001),AV.int IntKind.i64 ((wr .i64 x.2.2.1.2.1).tmod 30001),AV.csl [AV.int IntKind.i64 0,AV.int IntKind.i64 2] 1]),c.2) ((wr .i64 x.1).tmod 40001) (↑c.1.2.length) (c.1.2.getD ((wr .i64 x.2.1).tmod ↑c.1.2.length).toNat tMark.dflt).2.1.1 (c.1.2.getD ((wr .i64 x.2.1).tmod ↑c.1.2.length).toNat tMark.dflt).2.1.2.1).1 ((wr .i64 ((seeS c ((wr .i64 x.1).tmod 40001) ((wr .i64 x.2.1).tmod ↑c.1.2.length) ((wr .i64 x.2.2.1.1).tmod 30001) ((wr .i64 x.2.2.1.2.1).tmod 30001)).1+16)).tmod 32) then some (.done (.bool (true))) else some (.done (.bool (false)))) else some (.done (.bool (false)))))) else none) else none) else none) else none) else none) else none) else none)) else none) else none) else none) else none) else none) else none) else (bif (0+(0+c.1.2.length) * 4).beq (List.drop 0 (repl 0 (AV.agg [AV.str [],AV.int IntKind.i64 0,AV.int IntKind.i64 0,AV.nils]).cells)++flat tMark c.1.2).length then (bif (0+c.1.2.length).ble 1048576 then (bif ieq ((wr .i64 x.2.2.1.1).tmod 30001) ((wr .i64 x.2.2.1.1).tmod 30001) then (bif ieq ((wr .i64 x.2.2.1.2.1).tmod 30001) ((wr .i64 x.2.2.1.2.1).tmod 30001) then (bif ieq ((wr .i64 x.2.2.1.1).tmod 30001) ((wr .i64 x.2.2.1.1).tmod 30001) then (bif ieq ((wr .i64 x.2.2.1.2.1).tmod 30001) ((wr .i64 x.2.2.1.2.1).tmod 30001) then (bif bbeq c.1.1 c.1.1 then (bif vsB tMark c.1.2 tMark c.1.2 then (bif plainL ([]++flat tMark c.1.2++[AV.str [115,104,105,112],AV.int IntKind.i64 ((wr .i64 x.2.2.1.1).tmod 30001),AV.int IntKind.i64 ((wr .i64 x.2.2.1.2.1).tmod 30001),AV.csl [AV.int IntKind.i64 0,AV.int IntKind.i64 2] 1]) then (bif isF (rd tMark) (0+c.1.2.length+1) ([]++flat tMark c.1.2++[AV.str [115,104,105,112],AV.int IntKind.i64 ((wr .i64 x.2.2.1.1).tmod 30001),AV.int IntKind.i64 ((wr .i64 x.2.2.1.2.1).tmod 30001),AV.csl [AV.int IntKind.i64 0,AV.int IntKind.i64 2] 1])&&true&&true then (bif !ieq (chkS ((false,unf (rd tMark) (0+c.1.2.length+1) ([]++flat tMark c.1.2++[AV.str [115,104,105,112],AV.int IntKind.i64 ((wr .i64 x.2.2.1.1).tmod 30001),AV.int IntKind.i64 ((wr .i64 x.2.2.1.2.1).tmod 30001),AV.csl [AV.int IntKind.i64 0,AV.int IntKind.i64 2] 1])),c.2)).2.2 0 then some (.done (.bool (true))) else (bif inB ((wr .i64 x.2.1).tmod ↑c.1.2.length) c.1.2.length then (bif plainL ([]++flat tMark c.1.2++[AV.str [115,104,105,112],AV.int IntKind.i64 ((wr .i64 x.2.2.1.1).tmod 30001),AV.int IntKind.i64 ((wr .i64 x.2.2.1.2.1).tmod 30001),AV.csl [AV.int IntKind.i64 0,AV.int IntKind.i64 2] 1]) then (bif isF (rd tMark) (0+c.1.2.length+1) ([]++flat tMark c.1.2++[AV.str [115,104,105,112],AV.int IntKind.i64 ((wr .i64 x.2.2.1.1).tmod 30001),AV.int IntKind.i64 ((wr .i64 x.2.2.1.2.1).tmod 30001),AV.csl [AV.int IntKind.i64 0,AV.int IntKind.i64 2] 1])&&true&&true then (bif bbeq c.1.1 c.1.1 then (bif vsB tMark c.1.2 tMark c.1.2 then (bif bbeq c.1.1 c.1.1 then (bif vsB tMark c.1.2 tMark c.1.2 then (bif avbeq (AV.sl 9 0 (0+c.1.2.length+1) (0+c.1.2.length+1) 4) (AV.sl 9 0 (0+c.1.2.length+1) (0+c.1.2.length+1) 4) then (bif bbeq c.2.1.1 c.2.1.1 then (bif vsB tSand c.2.1.2 tSand c.2.1.2 then (bif ieq (seeS c ((wr .i64 x.1).tmod 40001) ((wr .i64 x.2.1).tmod ↑c.1.2.length) ((wr .i64 x.2.2.1.1).tmod 30001) ((wr .i64 x.2.2.1.2.1).tmod 30001)).2 8 then (bif ieq (seeS ((false,unf (rd tMark) (0+c.1.2.length+1) ([]++flat tMark c.1.2++[AV.str [115,104,105,112],AV.int IntKind.i64 ((wr .i64 x.2.2.1.1).tmod 30001),AV.int IntKind.i64 ((wr .i64 x.2.2.1.2.1).tmod 30001),AV.csl [AV.int IntKind.i64 0,AV.int IntKind.i64 2] 1])),c.2) ((wr .i64 x.1).tmod 40001) (↑c.1.2.length) (c.1.2.getD ((wr .i64 x.2.1).tmod ↑c.1.2.length).toNat tMark.dflt).2.1.1 (c.1.2.getD ((wr .i64 x.2.1).tmod ↑c.1.2.length).toNat tMark.dflt).2.1.2.1).2 (seeS c ((wr .i64 x.1).tmod 40001) ((wr .i64 x.2.1).tmod ↑c.1.2.length) ((wr .i64 x.2.2.1.1).tmod 30001) ((wr .i64 x.2.2.1.2.1).tmod 30001)).2 then some (.done (.bool (true))) else some (.done (.bool (false)))) else (bif !ieq (seeS c ((wr .i64 x.1).tmod 40001) ((wr .i64 x.2.1).tmod ↑c.1.2.length) ((wr .i64 x.2.2.1.1).tmod 30001) ((wr .i64 x.2.2.1.2.1).tmod 30001)).2 0 then (bif ieq (seeS c ((wr .i64 x.1).tmod 40001) ((wr .i64 x.2.1).tmod ↑c.1.2.length) ((wr .i64 x.2.2.1.1).tmod 30001) ((wr .i64 x.2.2.1.2.1).tmod 30001)).2 9 then (bif ieq (seeS ((false,unf (rd tMark) (0+c.1.2.length+1) ([]++flat tMark c.1.2++[AV.str [115,104,105,112],AV.int IntKind.i64 ((wr .i64 x.2.2.1.1).tmod 30001),AV.int IntKind.i64 ((wr .i64 x.2.2.1.2.1).tmod 30001),AV.csl [AV.int IntKind.i64 0,AV.int IntKind.i64 2] 1])),c.2) ((wr .i64 x.1).tmod 40001) (↑c.1.2.length) (c.1.2.getD ((wr .i64 x.2.1).tmod ↑c.1.2.length).toNat tMark.dflt).2.1.1 (c.1.2.getD ((wr .i64 x.2.1).tmod ↑c.1.2.length).toNat tMark.dflt).2.1.2.1).2 0 then some (.done (.bool (true))) else (bif ieq (seeS ((false,unf (rd tMark) (0+c.1.2.length+1) ([]++flat tMark c.1.2++[AV.str [115,104,105,112],AV.int IntKind.i64 ((wr .i64 x.2.2.1.1).tmod 30001),AV.int IntKind.i64 ((wr .i64 x.2.2.1.2.1).tmod 30001),AV.csl [AV.int IntKind.i64 0,AV.int IntKind.i64 2] 1])),c.2) ((wr .i64 x.1).tmod 40001) (↑c.1.2.length) (c.1.2.getD ((wr .i64 x.2.1).tmod ↑c.1.2.length).toNat tMark.dflt).2.1.1 (c.1.2.getD ((wr .i64 x.2.1).tmod ↑c.1.2.length).toNat tMark.dflt).2.1.2.1).2 8 then some (.done (.bool (true))) else some (.done (.bool (false))))) else some (.done (.bool (false)))) else (bif ieq (seeS ((false,unf (rd tMark) (0+c.1.2.length+1) ([]++flat tMark c.1.2++[AV.str [115,104,105,112],AV.int IntKind.i64 ((wr .i64 x.2.2.1.1).tmod 30001),AV.int IntKind.i64 ((wr .i64 x.2.2.1.2.1).tmod 30001),AV.csl [AV.int IntKind.i64 0,AV.int IntKind.i64 2] 1])),c.2) ((wr .i64 x.1).tmod 40001) (↑c.1.2.length) (c.1.2.getD ((wr .i64 x.2.1).tmod ↑c.1.2.length).toNat tMark.dflt).2.1.1 (c.1.2.getD ((wr .i64 x.2.1).tmod ↑c.1.2.length).toNat tMark.dflt).2.1.2.1).2 0 then (bif ieq (seeS ((false,unf (rd tMark) (0+c.1.2.length+1) ([]++flat tMark c.1.2++[AV.str [115,104,105,112],AV.int IntKind.i64 ((wr .i64 x.2.2.1.1).tmod 30001),AV.int IntKind.i64 ((wr .i64 x.2.2.1.2.1).tmod 30001),AV.csl [AV.int IntKind.i64 0,AV.int IntKind.i64 2] 1])),c.2) ((wr .i64 x.1).tmod 40001) (↑c.1.2.length) (c.1.2.getD ((wr .i64 x.2.1).tmod ↑c.1.2.length).toNat tMark.dflt).2.1.1 (c.1.2.getD ((wr .i64 x.2.1).tmod ↑c.1.2.length).toNat tMark.dflt).2.1.2.1).1 ((wr .i64 ((seeS c ((wr .i64 x.1).tmod 40001) ((wr .i64 x.2.1).tmod ↑c.1.2.length) ((wr .i64 x.2.2.1.1).tmod 30001) ((wr .i64 x.2.2.1.2.1).tmod 30001)).1+16)).tmod 32) then some (.done (.bool (true))) else some (.done (.bool (false)))) else some (.done (.bool (false)))))) else none) else none) else none) else none) else none) else none) else none) else none) else none) else none)) else none) else none) else none) else none) else none) else none) else none) else none) else none) else none)) else none))))):=by kernel_rfl
noncomputable def shp (px py:Int):tMark.den:=([115,104,105,112],(px,py,()),(false,[((0:Int),(2:Int),())]),())
noncomputable def oC (c:tChart.den) (px py:Int):tChart.den:=((false,c.1.2++[shp px py]),c.2)
noncomputable def rowZ (px py:Int):List AV:=[AV.str ([115,104,105,112]),AV.int .i64 px,AV.int .i64 py,AV.csl [AV.int .i64 0,AV.int .i64 2] 1]
theorem isF_app {t:Ty} (k:Nat) (r:List AV):∀ (L:List t.den),isF (rd t) (L.length+k) (flat t L++r)=isF (rd t) k r∧unf (rd t) (L.length+k) (flat t L++r)=L++unf (rd t) k r
 |[]=>by rw[List.length_nil,Nat.zero_add];exact⟨rfl,rfl⟩
 |d::L=>by
  obtain⟨h1,h2⟩:=isF_app k r L
  have e:flat t (d::L)++r=t.cells d++(flat t L++r):=by rw[← List.append_assoc];rfl
  rw[e,List.length_cons,show L.length+1+k=(L.length+k)+1 by omega]
  exact⟨by simp only[isF,rd_cells,h1,Bool.true_and],by simp only[unf,rd_cells,h2,List.cons_append]⟩
theorem rowZ_is (px py:Int):isF (rd tMark) 1 (rowZ px py)=true∧unf (rd tMark) 1 (rowZ px py)=[shp px py]:=⟨by kernel_rfl,by kernel_rfl⟩
theorem plainM (r:List AV):∀ L:List tMark.den,plainL (flat tMark L++r)=plainL r
 |[]=>rfl
 |_::L=>plainM r L
theorem oneM:∀ L:List tMark.den,oneAll (flat tMark L)=true
 |[]=>rfl
 |_::L=>oneM L
theorem other_is (L:List tMark.den) (px py:Int):isF (rd tMark) (0+L.length+1) ([]++flat tMark L++rowZ px py)=true∧unf (rd tMark) (0+L.length+1) ([]++flat tMark L++rowZ px py)=L++[shp px py]∧plainL ([]++flat tMark L++rowZ px py)=true:=by
 rw[Nat.zero_add,List.nil_append]
 obtain⟨h1,h2⟩:=isF_app 1 (rowZ px py) L
 obtain⟨h3,h4⟩:=rowZ_is px py
 exact⟨h1.trans h3,by rw[h2,h4],(plainM _ L).trans rfl⟩
section
variable {c:tChart.den} {d m px py:Int} (hc:(chkS c).2.2=0) (ho:(chkS (oC c px py)).2.2=0) (d0:0≤d) (d1:d≤40000) (hm:inB m c.1.2.length=true) (hp:inR px py=true)
include hc d0 d1 hm
theorem dat_c:datE c d m=0:=by
 have h8:=(valid_marks hc).1
 rw[inB_iff,decide_eq_true_eq] at hm
 unfold datE
 rw[hc,ieq_self,show ile 0 d=true by rw[ile_iff];exact decide_eq_true d0,show ile d 40000=true by rw[ile_iff];exact decide_eq_true d1,show ile 0 m=true by rw[ile_iff];exact decide_eq_true hm.1,
  show ile m ((c.1.2.length:Int)-1)=true by rw[ile_iff];exact decide_eq_true (by omega)];rfl
include ho
omit hm in
theorem std_o:stdE (oC c px py) d c.1.2.length=0:=by
 have e:(oC c px py).1.2.length=c.1.2.length+1:=by show (c.1.2++[shp px py]).length=_;rw[List.length_append];rfl
 have hd:datE (oC c px py) d c.1.2.length=0:=dat_c ho d0 d1 (by rw[inB_iff,e];exact decide_eq_true (by omega))
 have hk:mk (oC c px py) c.1.2.length=shp px py:=by
  unfold mk
  show (c.1.2++[shp px py]).getD ((c.1.2.length:Int)).toNat tMark.dflt=_
  rw[Int.toNat_natCast,List.getD_eq_getElem?_getD,List.getElem?_append_right (by omega),Nat.sub_self];rfl
 unfold stdE
 rw[hd,ieq_self,hk,cond_true]
 have:colF d 0 (shp px py).2.2.1.2=2:=by
  show colF d (bif ile 0 d then 2 else 0) []=2
  rw[show ile 0 d=true by rw[ile_iff];exact decide_eq_true d0];rfl
 rw[this];rfl
include hp
theorem back_is:(∀ e,(seeS c d m px py).2=e→e≠0→e=8∧(seeS (oC c px py) d c.1.2.length (mk c m).2.1.1 (mk c m).2.1.2.1).2=8∨e=9∧((seeS (oC c px py) d c.1.2.length (mk c m).2.1.1 (mk c m).2.1.2.1).2=0∨(seeS (oC c px py) d c.1.2.length (mk c m).2.1.1 (mk c m).2.1.2.1).2=8)) ∧
  ((seeS c d m px py).2=0→(seeS (oC c px py) d c.1.2.length (mk c m).2.1.1 (mk c m).2.1.2.1).2=0∧(seeS (oC c px py) d c.1.2.length (mk c m).2.1.1 (mk c m).2.1.2.1).1=(wr .i64 ((seeS c d m px py).1+16)).tmod 32):=by
 have hin:=mk_in hc hm
 have hk:mk (oC c px py) c.1.2.length=shp px py:=by
  unfold mk
  show (c.1.2++[shp px py]).getD ((c.1.2.length:Int)).toNat tMark.dflt=_
  rw[Int.toNat_natCast,List.getD_eq_getElem?_getD,List.getElem?_append_right (by omega),Nat.sub_self];rfl
 obtain⟨a,ea⟩:∃ a:Int,(mk c m).2.1.1=a:=⟨_,rfl⟩
 obtain⟨b,eb⟩:∃ b:Int,(mk c m).2.1.2.1=b:=⟨_,rfl⟩
 rw[ea,eb] at hin
 have so:seeS (oC c px py) d c.1.2.length a b=seeF px py a b:=by
  unfold seeS
  rw[std_o hc ho d0 d1,ieq_self,hin,hk];rfl
 have sc:seeS c d m px py=bif ieq (colF d 0 (mk c m).2.2.1.2) 0 then (0,9) else seeF a b px py:=by
  unfold seeS stdE
  rw[dat_c hc d0 d1 hm,ieq_self,hp,ea,eb]
  cases ieq (colF d 0 (mk c m).2.2.1.2) 0<;>rfl
 rw[ea,eb,so,sc]
 have hsym:(ieq px a&&ieq py b)=(ieq a px&&ieq b py):=by
  rw[ieq_iff,ieq_iff,ieq_iff,ieq_iff,decide_eq_decide.2 (show px=a↔a=px from ⟨Eq.symm,Eq.symm⟩),decide_eq_decide.2 (show py=b↔b=py from ⟨Eq.symm,Eq.symm⟩)]
 unfold seeF
 rw[hsym]
 cases q:ieq a px&&ieq b py with
 |true=>
  cases ieq (colF d 0 (mk c m).2.2.1.2) 0 with
  |true=>exact⟨fun e h1 h2=>.inr ⟨h1.symm,.inr rfl⟩,fun h=>by cases h⟩
  |false=>exact⟨fun e h1 h2=>.inl ⟨h1.symm,rfl⟩,fun h=>by cases h⟩
 | false =>
  cases ieq (colF d 0 (mk c m).2.2.1.2) 0 with
  |true=>exact⟨fun e h1 h2=>.inr ⟨h1.symm,.inl rfl⟩,fun h=>by cases h⟩
  | false =>
   refine⟨fun e h1 h2=>absurd h1.symm h2,fun _=>⟨rfl,?_⟩⟩
   show ptF (px-a) (py-b)=(wr .i64 (ptF (a-px) (b-py)+16)).tmod 32
   have hn:¬(a-px=0∧b-py=0):=by
    rw[ieq_iff,ieq_iff,← Bool.decide_and,decide_eq_false_iff_not] at q
    omega
   obtain⟨o1,o2,o3⟩:=ptF_opp hn
   rw[show -(a-px)=px-a by omega,show -(b-py)=py-b by omega] at o1
   rw[o1,wr_in (by omega) (by omega),Int.tmod_eq_emod_of_nonneg (by omega)]
end
theorem avbeq_sl (n:Nat):avbeq (AV.sl 9 0 n n 4) (AV.sl 9 0 n n 4)=true:=by
 simp[avbeq]
theorem tmod_b {a:Int} {n:Nat} (hn:0<n):-(n:Int)<a.tmod n∧a.tmod n<n:=by
 by_cases h:0≤a
 · rw [Int.tmod_eq_emod_of_nonneg h]
   have h1:=Int.emod_nonneg a (show (n:Int)≠0 by omega)
   have h2:=Int.emod_lt_of_pos a (show 0<(n:Int) by omega)
   omega
 · have h1 := Int.emod_nonneg (-a) (show (n : Int) ≠ 0 by omega)
   have h2:=Int.emod_lt_of_pos (-a) (show 0<(n:Int) by omega)
   have e:a.tmod n=-((-a).tmod n):=by rw[Int.neg_tmod];omega
   rw[e,Int.tmod_eq_emod_of_nonneg (by omega)]
   omega
theorem cbak_end (c:tChart.den) (X Y D m:Int) {n:Nat} {S:Cfg} (hc:(chkS c).2.2=0) (ho:(chkS (oC c X Y)).2.2=0) (d0:0≤D) (d1:D≤40000) (hm:inB m c.1.2.length=true) (hp:inR X Y=true)
  (h : adv B1 (C1 [14]) n S = bif ieq (seeS c D m X Y).2 8 then (bif ieq (seeS (oC c X Y) D c.1.2.length (mk c m).2.1.1 (mk c m).2.1.2.1).2 (seeS c D m X Y).2 then some (.done (.bool true)) else some (.done (.bool false))) else
   (bif !ieq (seeS c D m X Y).2 0 then (bif ieq (seeS c D m X Y).2 9 then (bif ieq (seeS (oC c X Y) D c.1.2.length (mk c m).2.1.1 (mk c m).2.1.2.1).2 0 then some (.done (.bool true)) else (bif ieq (seeS (oC c X Y) D c.1.2.length (mk c m).2.1.1 (mk c m).2.1.2.1).2 8 then some (.done (.bool true)) else some (.done (.bool false)))) else some (.done (.bool false))) else
   (bif ieq (seeS (oC c X Y) D c.1.2.length (mk c m).2.1.1 (mk c m).2.1.2.1).2 0 then (bif ieq (seeS (oC c X Y) D c.1.2.length (mk c m).2.1.1 (mk c m).2.1.2.1).1 ((wr .i64 ((seeS c D m X Y).1+16)).tmod 32) then some (.done (.bool true)) else some (.done (.bool false))) else some (.done (.bool false))))):AnsB B1 S true:=by
 obtain⟨k1,k2⟩:=back_is hc ho d0 d1 hm hp
 refine .doneB (C1_ok _) B1sy (h.trans ?_) rfl
 by_cases z:(seeS c D m X Y).2=0
 · obtain ⟨z1, z2⟩ := k2 z
   rw[z,z1,z2,ieq_self,ieq_self];rfl
 · rcases k1 _ rfl z with ⟨e1, e2⟩ | ⟨e1, e2 | e2⟩
   · rw[e1,e2];rfl
   · rw[e1,e2];rfl
   · rw[e1,e2];rfl
theorem back_true (c:tChart.den) (x:tFrom.den) (hx:tFrom.wf x=true):∃ σ,callN B1 (8+1) 14 [tChart.av c,tFrom.av x] .empty [] []=some (.bool true,σ,[]):=by
 refine AnsB.call (ext_none (by kernel_rfl)) (hasB_spec (by kernel_rfl)) ?_
 have h:=cbak_start c x
 simp only[Ty.wf,Bool.and_eq_true,decide_eq_true_eq] at hx
 obtain⟨X,eX⟩:∃ v:Int,(wr .i64 x.2.2.1.1).tmod 30001=v:=⟨_,rfl⟩
 obtain⟨Y,eY⟩:∃ v:Int,(wr .i64 x.2.2.1.2.1).tmod 30001=v:=⟨_,rfl⟩
 obtain⟨D,eD⟩:∃ v:Int,(wr .i64 x.1).tmod 40001=v:=⟨_,rfl⟩
 obtain⟨N,eN⟩:∃ v:Int,wr .i64 x.2.1=v:=⟨_,rfl⟩
 obtain⟨⟨x1,x2⟩,⟨x3,x4⟩,⟨⟨x5,x6⟩,⟨x7,x8⟩,_⟩,_⟩:=hx
 have hX:-30000≤X∧X≤30000:=by
  have:=tmod_b (a:=wr .i64 x.2.2.1.1) (n:=30001) (by omega)
  rw[show (wr .i64 x.2.2.1.1).tmod ((30001:Nat):Int)=X from eX] at this
  omega
 have hY:-30000≤Y∧Y≤30000:=by
  have:=tmod_b (a:=wr .i64 x.2.2.1.2.1) (n:=30001) (by omega)
  rw[show (wr .i64 x.2.2.1.2.1).tmod ((30001:Nat):Int)=Y from eY] at this
  omega
 have hD:0≤D∧D≤40000:=by
  obtain⟨u,eu⟩:∃ v:Int,x.1=v:=⟨_,rfl⟩
  have y1:0≤u:=by rw[← eu];exact x1
  have y2:u≤65535:=by rw[← eu];exact x2
  rw[eu,wr_in (n:=u) (by omega) (by omega),Int.tmod_eq_emod_of_nonneg y1] at eD
  omega
 have hN:0≤N:=by
  obtain⟨u,eu⟩:∃ v:Int,x.2.1=v:=⟨_,rfl⟩
  have y1:0≤u:=by rw[← eu];exact x3
  have y2:u≤255:=by rw[← eu];exact x4
  rw[eu,wr_in (n:=u) (by omega) (by omega)] at eN
  omega
 have hp:inR X Y=true:=by rw[inR_iff];exact⟨⟨hX,hY.1⟩,hY.2⟩
 rw[eX,eY,eD,eN] at h
 have av:startC B1 14 [tChart.av c,tFrom.av x] 8=startC B1 14 [tChart.av c,tFrom.av x] 8:=rfl
 cases c1:ieq (chkS c).2.2 0 with
 |false=>
  simp only[c1,Bool.not_false,cond_true] at h
  exact .doneB (C1_ok _) B1sy h rfl
 | true =>
  have hc:=ieq_t c1
  have h8:=(valid_marks hc).1
  cases n0:ieq (c.1.2.length:Int) 0 with
  |true=>
   simp only[c1,n0,Bool.not_true,cond_true,cond_false] at h
   exact .doneB (C1_ok _) B1sy h rfl
  |false=>
  cases n8:ieq (c.1.2.length:Int) 8 with
  |true=>
   simp only[c1,n0,n8,Bool.not_true,cond_true,cond_false] at h
   exact .doneB (C1_ok _) B1sy h rfl
  |false=>
  have hn:=ieq_f n0
  have q1:(c.1.2.length.ble 1048576&&oneAll (flat tMark c.1.2)&&(B1.bytes 95).ble 65536)=true:=by
   rw[oneM,Nat.ble_eq_true_of_le (show c.1.2.length≤1048576 by omega)];kernel_rfl
  have q2:c.1.2.length.beq 0=false:=by
   cases e:c.1.2.length with
   |zero=>rw[e] at hn;exact absurd rfl hn
   |succ k=>rfl
  have q3:(0+(0+c.1.2.length) * 4).beq (List.drop 0 (repl 0 (AV.agg [AV.str [],AV.int .i64 0,AV.int .i64 0,AV.nils]).cells)++flat tMark c.1.2).length=true:=by
   show (0+(0+c.1.2.length) * 4).beq (flat tMark c.1.2).length=true
   rw[flat_length,show tMark.size=4 from rfl,Nat.zero_add,Nat.zero_add];exact Nat.beq_refl _
  have q4:(0+c.1.2.length).ble 1048576=true:=Nat.ble_eq_true_of_le (by omega)
  obtain⟨o1,o2,o3⟩:=other_is c.1.2 X Y
  unfold rowZ at o1 o2 o3
  have q5:inB (N.tmod (c.1.2.length:Int)) c.1.2.length=true:=by
   rw[Int.tmod_eq_emod_of_nonneg hN,inB_iff]
   exact decide_eq_true ⟨Int.emod_nonneg _ hn,Int.emod_lt_of_pos _ (by omega)⟩
  have hO:((false,c.1.2++[shp X Y]),c.2)=oC c X Y:=rfl
  simp only[c1,n0,n8,q1,q2,q3,q4,q5,o1,o2,o3,hO,ieq_self,bbeq_self,vsB_self,avbeq_sl,Bool.and_true,Bool.not_true,Bool.not_false,cond_true,cond_false] at h
  cases c2:ieq (chkS (oC c X Y)).2.2 0 with
  |false=>
   simp only[c2,Bool.not_false,cond_true] at h
   exact .doneB (C1_ok _) B1sy h rfl
  |true=>
   rw[c2] at h
   exact cbak_end c X Y D (N.tmod (c.1.2.length:Int)) hc (ieq_t c2) hD.1 hD.2 q5 hp h
end Go.Proofs.YtgaoajmlckgdaaaGreatDoor


namespace Go.Proofs.YtgaoajmlckgdaaaGreatDoor
open Go Go.ChangeShapes Go.WideShapes Go.Eng
theorem kOwn:ownKnob Tryz.prog.godebug=none:=by kernel_rfl
theorem kPlain:(Rows.chartBackRow.laid.all fun x=>x.2.handleName?.isNone)=true:=by kernel_rfl
theorem kLaid:allT (glB Tryz.prog Rows.chartBackRow.laid) T0.gl (fun k=>k)=true:=by kernel_rfl
theorem kParams:Tryz.f14.params=#[25,86]:=by kernel_rfl
theorem kResults:Tryz.f14.resultTypes=#[4]:=by kernel_rfl
theorem kLaidOut:laidOutB Tryz.prog=true:=by kernel_rfl
theorem kRead:Tryz.f14.params.toList.all (fun t=>Tryz.prog.readableRec t&&decide (t<Tryz.prog.types.size))=true:=by kernel_rfl
theorem kFit1:fits Tryz.prog (tChart) 25=true:=by kernel_rfl
theorem kFit2:fits Tryz.prog (tFrom) 86=true:=by kernel_rfl
theorem kGlob:B1.glob=T0.gl.get:=rfl
theorem kExt (c1:(tChart).den) (c2:(tFrom).den):B1.ext 14 [tChart.av c1,tFrom.av c2]=none:=ext_none (by kernel_rfl)
set_option maxRecDepth 100000 in
theorem kLifted (os:Os) (started:os.Started) (H:Type) (enc:TypeId×Value→H) :
  ReturnsInHanded {} Tryz.checked os 14 .any (fun w args=>(Rows.chartBackSpec.pre enc Tryz.prog Tryz.f14 [] false w args∧laidMetH Tryz.prog Rows.chartBackRow.laid w)∧sizedMet enc Tryz.prog Tryz.f14 (OpenSpec.ofChange Rows.chartBackSpec) false w args)
   (Rows.chartBackSpec.post enc Tryz.prog Tryz.f14 false true false false):=by
 refine returnsInHanded_of_change_and (C:=Tryz.checked) (X:=fun w _=>laidMetH Tryz.prog Rows.chartBackRow.laid w) (fun _ _ _ hh h=>h.of_heap hh) kOwn started (by kernel_rfl) Tryz.func14
  (ChangeSpec.witness_shaped (enc := enc) (C := Tryz.checked) (os := os) (X := fun w _ => laidMetH Tryz.prog Rows.chartBackRow.laid w) false (World.laidAll Tryz.prog os Rows.chartBackRow.laid) #[.agg #[.slice none 0 0, .slice none 0 0], .agg #[.int .u16 0, .int .u8 0, .int .i16 0, .int .i16 0]] 8 (World.laidAll_os _ _ _)
   (World.shaped_of_ZipB (by kernel_rfl) (by kernel_rfl)) (by kernel_rfl) (by kernel_rfl) (by kernel_rfl)
   (by rw[MakeChecks.laidMetH_plain _ _ _ kPlain];exact laidMet_laidAll _ (by kernel_rfl) (by kernel_rfl))) ?_
 intro W base args ds gs before hok hW _ _ hL _
 have hL':laidMet Tryz.prog Rows.chartBackRow.laid W:=by rw[← MakeChecks.laidMetH_plain _ _ _ kPlain];exact hL
 have hW':=hW
 obtain⟨p,q,hA,_⟩:=hW
 rw[kParams] at hA
 obtain⟨v1,v2,d1,d2,p1,p2,e1',e2',hp,t1,t2⟩:=trodAll_two hA
 subst e1';subst e2'
 rw[kParams] at hok
 obtain⟨c1,h1,w1⟩:=arg_ty (t:=tChart) (hok 0 25 v1 rfl rfl) kFit1 t1
 obtain⟨c2,h2,w2⟩:=arg_ty (t:=tFrom) (hok 1 86 v2 rfl rfl) kFit2 t2
 obtain⟨σ,hrun⟩:=back_true c1 c2 w2
 refine (law_run (A:=[v1,v2]) (V:=Go.Eng.seen W) b1 xb1 nb1 tabs_ok.mix (kExt c1 c2) hrun (.cons h1 (.cons h2 (.nil _))) (by kernel_rfl) (fun _ _ _ h=>h) (glob_of kGlob kLaid hL')).mono fun e W' ⟨he,hf⟩=>?_
 subst he
 exact⟨_,rfl,post_law kLaidOut kRead kResults Tryz.underlying4 rfl rfl hW' hf⟩
theorem kHolds:Rows.ChartBackSaid:=
 OpenClaim.holds_of_wide 14 Tryz.f14 rfl rfl rfl rfl rfl rfl rfl ⟨rfl,rfl,rfl,rfl,rfl⟩ rfl rfl rfl rfl rfl (by kernel_rfl) Tryz.func14 (by kernel_rfl)
  (of_decide_eq_true (by kernel_rfl)) (by unfold Func.isWrapper;first|(rw[if_pos (by decide +kernel)];kernel_rfl)|(rw[if_neg (by decide +kernel)];exact⟨rfl,rfl⟩))
  (fun os started H enc _=>kLifted os started H enc)
theorem chartBack_holds:Rows.ChartBackCardSaid:=
 Claim7.holds_tied_plain_at .later [] Rows.chartBackCard.laidKinds true Rows.chartBackCard.stood.harness true
  kHolds (fun _ h=>by cases h) (by kernel_rfl) (fun _ h=>by cases h) chartBack_row_tie rfl ⟨rfl,rfl⟩ (by kernel_rfl) rfl
  (fun f fn hf hfn => by
   obtain rfl : f = 14 := Option.some.inj ((show Tryz.prog.funcNamed "nore/norelaw01.ChartBack" = some 14 by kernel_rfl).symm.trans hf) |>.symm
   obtain rfl:fn=Tryz.f14:=(Option.some.inj (Tryz.func14.symm.trans hfn)).symm
   exact⟨by kernel_rfl,fun j t ht=>by
    rw[kParams] at ht
    rcases j with _|_|j<;>simp at ht<;>subst ht<;>kernel_rfl⟩)
  (by kernel_rfl)
#print axioms chartBack_holds
end Go.Proofs.YtgaoajmlckgdaaaGreatDoor

