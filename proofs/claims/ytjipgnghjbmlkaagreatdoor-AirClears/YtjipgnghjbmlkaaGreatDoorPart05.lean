/-
  What is proved: norelaw06.AirClears returns true for any station, night and reports. Conditions: none but those of the given card (package-level variables start as the program's text lays them).
-/
import Derived.Test.YtjipgnghjbmlkaaGreatDoorPart04
import Derived.Test.YtjipgnghjbmlkaaGreatDoorPart03
import Derived.Test.YtjipgnghjbmlkaaGreatDoorRows
import Derived.Test.YtjipgnghjbmlkaaGreatDoorCards
import Derived.Test.YtjipgnghjbmlkaaGreatDoorTie
import Derived.ProofKit
import Derived.LaidMore
import Derived.OpenShut
import Derived.Stop.Joined
import Derived.Lay
import Derived.SevenTiedAt
set_option linter.unusedSectionVars false
set_option linter.unusedSimpArgs false
set_option linter.unusedVariables false
set_option maxRecDepth 100000
namespace Go.Proofs.YtjipgnghjbmlkaaGreatDoor
open Go Go.Eng
noncomputable def rclrk3 (z0:tSt.den):AV:=(.agg [(.vs tGr (z0.1.1) (z0.1.2)),(iI (z0.2.1.1)),(iI (z0.2.1.2.1)),(iI (z0.2.2.1.1)),(iI (z0.2.2.1.2.1))])
noncomputable def rclrk4 (z0:tNi.den):AV:=(.agg [(iI (z0.1.1)),(iI (z0.1.2.1)),(iI (z0.2.1)),(iI (z0.2.2.1)),(iI (z0.2.2.2.1))])
noncomputable def rclrk2 (z0:tSt.den) (z1:tNi.den) (z2:(Ty.sl tRe).den):AV:=(.vs tP ((trT z0 z1 z2.2 false).isEmpty) (trT z0 z1 z2.2 false))
noncomputable def rclrk1 (z0:tSt.den) (z1:tNi.den) (z2:(Ty.sl tRe).den):AV:=(iI (((trT z0 z1 z2.2 false).getD (Int.toNat 0) tP.dflt).1))
noncomputable def rclrk0 (z0:tSt.den) (z1:tNi.den) (z2:(Ty.sl tRe).den):AV:=(iI (((trT z0 z1 z2.2 false).getD (Int.toNat 0) tP.dflt).2.1))
noncomputable def rclrk5 (z0:tSt.den):AO:=(cF [(.vs tGr (z0.1.1) (z0.1.2)),(iI (z0.2.1.1)),(iI (z0.2.1.2.1)),(iI (z0.2.2.1.1)),(iI (z0.2.2.1.2.1))])
noncomputable def rclrI0 (s:tSt.den) (n:tNi.den) (l:(Ty.sl tRe).den) (x18:Int) (x121:Int) (x122:Int) (x123:Int) (x124:Int) (x220:Nat):Cfg:=⟨.ex (pcOf H7 18 [0,0,1,0,1,1,1,1,1]) ⟨(tmOf 95 [(0,(rclrk3 s)),(1,(rclrk4 n)),(2,(.vs tRe (l.1) (l.2))),(3,(pP 0 0)),(4,(pP 1 0)),(6,(pP 2 0)),(7,(pP 3 0)),(8,(iI 0)),(9,(iI ((cknS s n l.2).1))),(10,(iI 0)),(11,(rclrk2 s n l)),(12,(pP 6 0)),(13,(pP 7 0)),(14,(iI x18)),(15,(.tup [(iI ((cknS s n l.2).1)),(iI ((cknS s n l.2).2))])),(16,(rclrk3 s)),(17,(rclrk4 n)),(18,(.vs tRe (l.1) (l.2))),(19,(.tup [(iI ((cknS s n l.2).1)),(iI ((cknS s n l.2).2))])),(20,(iI ((cknS s n l.2).1))),(21,(iI ((cknS s n l.2).2))),(22,(.tup [(rclrk2 s n l),(iI 0)])),(23,(rclrk3 s)),(24,(rclrk4 n)),(25,(.vs tRe (l.1) (l.2))),(26,(iI ((cknS s n l.2).2))),(27,(.tup [(rclrk2 s n l),(iI 0)])),(28,(rclrk2 s n l)),(29,(iI 0)),(30,(iI 0)),(31,(.bool false)),(35,(rclrk2 s n l)),(36,(.cp [(rclrk1 s n l),(rclrk0 s n l)] 0)),(37,(.cp [(rclrk1 s n l),(rclrk0 s n l)] 0)),(38,(rclrk1 s n l)),(39,(rclrk2 s n l)),(40,(.cp [(rclrk1 s n l),(rclrk0 s n l)] 0)),(41,(.cp [(rclrk1 s n l),(rclrk0 s n l)] 0)),(42,(rclrk1 s n l)),(43,(.agg [(rclrk1 s n l),(rclrk1 s n l)])),(44,(rclrk2 s n l)),(45,(.cp [(rclrk1 s n l),(rclrk0 s n l)] 0)),(46,(.cp [(rclrk1 s n l),(rclrk0 s n l)] 1)),(47,(rclrk0 s n l)),(48,(rclrk2 s n l)),(49,(.cp [(rclrk1 s n l),(rclrk0 s n l)] 0)),(50,(.cp [(rclrk1 s n l),(rclrk0 s n l)] 1)),(51,(rclrk0 s n l)),(52,(.agg [(rclrk0 s n l),(rclrk0 s n l)]))]),(hpOf 8 [(0,(rclrk5 s)),(1,(cF [(iI (n.1.1)),(iI (n.1.2.1)),(iI (n.2.1)),(iI (n.2.2.1)),(iI (n.2.2.2.1))])),(2,(cF [(iI 0),(iI 0)])),(3,(cF [(iI 0),(iI 0)])),(4,(rclrk5 s)),(5,(cF [(iI (n.1.1)),(iI (n.1.2.1)),(iI (n.2.1)),(iI (n.2.2.1)),(iI (n.2.2.2.1))])),(6,(cF [(iI x121),(iI x122)])),(7,(cF [(iI x123),(iI x124)]))]),[],[],95,false⟩,⟨12,[]⟩,[(.lop (pcOf H7 18 [0,0,1,0,1,1,1,1,1]) 8 (tmOf 95 [(0,(rclrk3 s)),(1,(rclrk4 n)),(2,(.vs tRe (l.1) (l.2))),(3,(pP 0 0)),(4,(pP 1 0)),(6,(pP 2 0)),(7,(pP 3 0)),(8,(iI 0)),(9,(iI ((cknS s n l.2).1))),(10,(iI 0)),(11,(rclrk2 s n l)),(12,(pP 6 0)),(13,(pP 7 0)),(14,(iI 0)),(15,(.tup [(iI ((cknS s n l.2).1)),(iI ((cknS s n l.2).2))])),(16,(rclrk3 s)),(17,(rclrk4 n)),(18,(.vs tRe (l.1) (l.2))),(19,(.tup [(iI ((cknS s n l.2).1)),(iI ((cknS s n l.2).2))])),(20,(iI ((cknS s n l.2).1))),(21,(iI ((cknS s n l.2).2))),(22,(.tup [(rclrk2 s n l),(iI 0)])),(23,(rclrk3 s)),(24,(rclrk4 n)),(25,(.vs tRe (l.1) (l.2))),(26,(iI ((cknS s n l.2).2))),(27,(.tup [(rclrk2 s n l),(iI 0)])),(28,(rclrk2 s n l)),(29,(iI 0)),(30,(iI 0)),(31,(.bool false)),(35,(rclrk2 s n l)),(36,(.cp [(rclrk1 s n l),(rclrk0 s n l)] 0)),(37,(.cp [(rclrk1 s n l),(rclrk0 s n l)] 0)),(38,(rclrk1 s n l)),(39,(rclrk2 s n l)),(40,(.cp [(rclrk1 s n l),(rclrk0 s n l)] 0)),(41,(.cp [(rclrk1 s n l),(rclrk0 s n l)] 0)),(42,(rclrk1 s n l)),(43,(.agg [(rclrk1 s n l),(rclrk1 s n l)])),(44,(rclrk2 s n l)),(45,(.cp [(rclrk1 s n l),(rclrk0 s n l)] 0)),(46,(.cp [(rclrk1 s n l),(rclrk0 s n l)] 1)),(47,(rclrk0 s n l)),(48,(rclrk2 s n l)),(49,(.cp [(rclrk1 s n l),(rclrk0 s n l)] 0)),(50,(.cp [(rclrk1 s n l),(rclrk0 s n l)] 1)),(51,(rclrk0 s n l)),(52,(.agg [(rclrk0 s n l),(rclrk0 s n l)]))]) x220),(.blk 0),(.seq (pcOf H7 18 [1,1,1,1,1,1])),(.cal [(.cell 6 24),(.cell 7 24),(.tmp 8)] .top)]⟩
theorem rclr_start (s:tSt.den) (n:tNi.den) (l:(Ty.sl tRe).den):adv H7 (Y7 [18]) 20000 (startC H7 18 [tSt.av s,tNi.av n,.vs tRe l.1 l.2] 12)=(bif !ieq (cknS s n l.2).2 0 then (bif !ieq (cknS s n l.2).2 0 then some (.done (.tup [(.agg [(.int .i64 (0)),(.int .i64 (0))]),(.agg [(.int .i64 (0)),(.int .i64 (0))]),(.int .i64 ((cknS s n l.2).2))])) else none) else (bif okN s n l.2 then (bif ieq (↑(trT s n l.2 false).length) 0 then some (.done (.tup [(.agg [(.int .i64 (0)),(.int .i64 (0))]),(.agg [(.int .i64 (0)),(.int .i64 (0))]),(.int .i64 (9))])) else (bif inB 0 (trT s n l.2 false).length then (bif inB 0 (trT s n l.2 false).length then (bif inB 0 (trT s n l.2 false).length then (bif inB 0 (trT s n l.2 false).length then some (.stop (rclrI0 s n l (0) (((trT s n l.2 false).getD (Int.toNat 0) tP.dflt).1) (((trT s n l.2 false).getD (Int.toNat 0) tP.dflt).1) (((trT s n l.2 false).getD (Int.toNat 0) tP.dflt).2.1) (((trT s n l.2 false).getD (Int.toNat 0) tP.dflt).2.1) (1048575))) else none) else none) else none) else none)) else none)):=by kernel_rfl
theorem rclr_step0 (s:tSt.den) (n:tNi.den) (l:(Ty.sl tRe).den) (x18:Int) (x121:Int) (x122:Int) (x123:Int) (x124:Int) (x220:Nat):adv H7 (Y7 [18]) 20000 (rclrI0 s n l x18 x121 x122 x123 x124 (x220+1))=(bif !ile (↑(trT s n l.2 false).length) x18 then (bif inB x18 (trT s n l.2 false).length then (bif inB x18 (trT s n l.2 false).length then (bif ieq x122 x122 then (bif ieq x121 x121 then (bif inB x18 (trT s n l.2 false).length then (bif inB x18 (trT s n l.2 false).length then (bif ieq x124 x124 then (bif ieq x123 x123 then some (.stop (rclrI0 s n l (wr .i64 (x18+1)) (bif ile x121 ((trT s n l.2 false).getD x18.toNat tP.dflt).1 then x121 else ((trT s n l.2 false).getD x18.toNat tP.dflt).1) (bif ile ((trT s n l.2 false).getD x18.toNat tP.dflt).1 x122 then x122 else ((trT s n l.2 false).getD x18.toNat tP.dflt).1) (bif ile x123 ((trT s n l.2 false).getD x18.toNat tP.dflt).2.1 then x123 else ((trT s n l.2 false).getD x18.toNat tP.dflt).2.1) (bif ile ((trT s n l.2 false).getD x18.toNat tP.dflt).2.1 x124 then x124 else ((trT s n l.2 false).getD x18.toNat tP.dflt).2.1) (x220))) else none) else none) else none) else none) else none) else none) else none) else none) else (bif ieq x123 x123 then (bif ieq x124 x124 then (bif ieq x123 x123 then (bif ieq x124 x124 then (bif ieq x121 x121 then (bif ieq x122 x122 then some (.done (.tup [(.agg [(.int .i64 (x121)),(.int .i64 (x122))]),(.agg [(.int .i64 (x123)),(.int .i64 (x124))]),(.int .i64 (0))])) else none) else none) else none) else none) else none) else none)):=by kernel_rfl
theorem rclr_0 {s:tSt.den} {n:tNi.den} {l:(Ty.sl tRe).den} (hN:NigOK s n l.2):∀ (r k m:Nat) (a b c d:Int),k+r=(trT s n l.2 false).length→r<m→Ans H7 (rclrI0 s n l (k:Int) a b c d m) (clrV (((trT s n l.2 false).drop k).foldl mt6 (a,b,true,c,d,true)))
 |0,k,m+1,a,b,c,d,hk,hm=>by
  have h:=rclr_step0 s n l (k:Int) a b c d m
  simp only[ile_t (show (((trT s n l.2 false).length:Nat):Int)≤k by omega),Bool.not_true,cond_false,ieq_self,cond_true] at h
  rw[List.drop_eq_nil_of_le (by omega)]
  exact .done (Y7_ok _) H7sy h rfl
 |r+1,k,m+1,a,b,c,d,hk,hm=>by
  have h:=rclr_step0 s n l (k:Int) a b c d m
  have hlt:k<(trT s n l.2 false).length:=by omega
  have:=trT_len hN false
  simp only[ile_f (show (k:Int)<(((trT s n l.2 false).length:Nat):Int) by omega),Bool.not_false,cond_true,inB_at hlt,getD_at hlt,ieq_self,wr_succ (show k<1048577 by omega)] at h
  rw[List.drop_eq_getElem_cons hlt,List.foldl_cons]
  exact .stop (Y7_ok _) H7sy h (rclr_0 hN r (k+1) m _ _ _ _ (by omega) (by omega))
theorem rclr_call (s:tSt.den) (n:tNi.den) (l:(Ty.sl tRe).den):AnsF H7 18 [tSt.av s,tNi.av n,.vs tRe l.1 l.2] (clrS s n l.2):=by
 refine Ans.call (n:=12) (ext_none (by kernel_rfl)) (hasB_spec (by kernel_rfl)) ?_
 have h:=rclr_start s n l
 unfold clrS
 cases c:ieq (cknS s n l.2).2 0 with
 |false=>
  simp only[c,Bool.not_false,cond_true] at h
  rw[cond_false]
  exact .done (Y7_ok _) H7sy h rfl
 | true =>
  have hN:=nig_ok c
  have ho:okN s n l.2=true:=c
  simp only[c,Bool.not_true,cond_false,ho,cond_true] at h
  rw[cond_true]
  show Ans H7 _ (clrV ((trT s n l.2 false).foldl mt6 (0,0,false,0,0,false)))
  have:=trT_len hN false
  cases hT:trT s n l.2 false with
  |nil=>
   simp only[hT,show ieq ((([]:List tP.den).length:Nat):Int) 0=true from rfl,cond_true] at h
   exact .done (Y7_ok _) H7sy h rfl
  | cons p q =>
   have hlt:0<(trT s n l.2 false).length:=by rw[hT];simp
   have i0:inB 0 (trT s n l.2 false).length=true:=inB_at (k:=0) hlt
   have g0:(trT s n l.2 false).getD (Int.toNat 0) tP.dflt=p:=by rw[hT];rfl
   have z:ieq (((trT s n l.2 false).length:Nat):Int) 0=false:=by rw[ieq_iff];exact decide_eq_false (by omega)
   simp only[z,cond_false,i0,g0,cond_true] at h
   have k:=rclr_0 hN (trT s n l.2 false).length 0 1048575 p.1 p.1 p.2.1 p.2.1 (by omega) (by omega)
   have e:((trT s n l.2 false).drop 0).foldl mt6 (p.1,p.1,true,p.2.1,p.2.1,true)=(p::q).foldl mt6 (0,0,false,0,0,false):=by
    rw[List.drop_zero,hT,List.foldl_cons,List.foldl_cons]
    unfold mt6
    simp only[mtL_new,mtH_new,mtL_same,mtH_same]
   rw[e] at k
   exact .stop (Y7_ok _) H7sy h k
end Go.Proofs.YtjipgnghjbmlkaaGreatDoor


set_option maxRecDepth 100000
namespace Go.Proofs.YtjipgnghjbmlkaaGreatDoor
open Go Go.Eng
noncomputable def rwndk6 (z0:tSt.den):AO:=(cF [(.vs tGr (z0.1.1) (z0.1.2)),(iI (z0.2.1.1)),(iI (z0.2.1.2.1)),(iI (z0.2.2.1.1)),(iI (z0.2.2.1.2.1))])
noncomputable def rwndk7 (z0:tNi.den):AO:=(cF [(iI (z0.1.1)),(iI (z0.1.2.1)),(iI (z0.2.1)),(iI (z0.2.2.1)),(iI (z0.2.2.2.1))])
noncomputable def rwndQ0 (s:tSt.den) (n:tNi.den) (y0:Int) (y1:Int) (y2:List AV):Hp:=(hpOf 7 [(0,(rwndk6 s)),(1,(rwndk7 n)),(2,(cF [(iI 0),(iI 0)])),(3,(rwndk6 s)),(4,(rwndk7 n)),(5,(cF [(iI y0),(iI y1)])),(6,(cF y2))])
noncomputable def rwndk0 (z0:tSt.den):AV:=(.agg [(.vs tGr (z0.1.1) (z0.1.2)),(iI (z0.2.1.1)),(iI (z0.2.1.2.1)),(iI (z0.2.2.1.1)),(iI (z0.2.2.1.2.1))])
noncomputable def rwndk3 (z0:tNi.den):AV:=(.agg [(iI (z0.1.1)),(iI (z0.1.2.1)),(iI (z0.2.1)),(iI (z0.2.2.1)),(iI (z0.2.2.2.1))])
noncomputable def rwndk2 (z0:tSt.den) (z1:tNi.den) (z2:(Ty.sl tRe).den):AV:=(.vs tP ((trT z0 z1 z2.2 true).isEmpty) (trT z0 z1 z2.2 true))
noncomputable def rwndk5 (z0:tSt.den) (z1:tNi.den) (z2:(Ty.sl tRe).den):AV:=(.tup [(iI ((cknS z0 z1 z2.2).1)),(iI ((cknS z0 z1 z2.2).2))])
noncomputable def rwndk1 (z0:tSt.den) (z1:tNi.den) (z2:(Ty.sl tRe).den):AV:=(iI (((trT z0 z1 z2.2 true).getD (Int.toNat 0) tP.dflt).1))
noncomputable def rwndk4 (z0:tSt.den) (z1:tNi.den) (z2:(Ty.sl tRe).den):AV:=(iI (((trT z0 z1 z2.2 true).getD (Int.toNat 0) tP.dflt).2.1))
noncomputable def rwndI0 (s:tSt.den) (n:tNi.den) (l:(Ty.sl tRe).den) (x20:Int) (x107:Int) (x108:Int) (x109:List AV) (x193:Nat):Cfg:=⟨.ex (pcOf H7 20 [0,0,1,0,1,1,1,1,1,1]) ⟨(tmOf 92 [(0,(rwndk0 s)),(1,(rwndk3 n)),(2,(.vs tRe (l.1) (l.2))),(3,(pP 0 0)),(4,(pP 1 0)),(6,(pP 2 0)),(7,.nils),(8,(iI 0)),(9,(iI ((cknS s n l.2).1))),(10,(iI 0)),(11,(rwndk2 s n l)),(12,(pP 5 0)),(13,(.sl 6 0 (32) (32) 1)),(14,(iI x20)),(17,(rwndk5 s n l)),(18,(rwndk0 s)),(19,(rwndk3 n)),(20,(.vs tRe (l.1) (l.2))),(21,(rwndk5 s n l)),(22,(iI ((cknS s n l.2).1))),(23,(iI ((cknS s n l.2).2))),(24,(.tup [(rwndk2 s n l),(iI 0)])),(25,(rwndk0 s)),(26,(rwndk3 n)),(27,(.vs tRe (l.1) (l.2))),(28,(iI ((cknS s n l.2).2))),(29,(.tup [(rwndk2 s n l),(iI 0)])),(30,(rwndk2 s n l)),(31,(iI 0)),(32,(iI 0)),(33,(.bool false)),(36,(rwndk2 s n l)),(37,(.cp [(rwndk1 s n l),(rwndk4 s n l)] 0)),(38,(.cp [(rwndk1 s n l),(rwndk4 s n l)] 0)),(39,(rwndk1 s n l)),(40,(rwndk2 s n l)),(41,(.cp [(rwndk1 s n l),(rwndk4 s n l)] 0)),(42,(.cp [(rwndk1 s n l),(rwndk4 s n l)] 0)),(43,(rwndk1 s n l)),(44,(.agg [(rwndk1 s n l),(rwndk1 s n l)])),(45,(.sl 6 0 (32) (32) 1))]),(rwndQ0 s n x107 x108 x109),[],[],92,false⟩,⟨12,[]⟩,[(.lop (pcOf H7 20 [0,0,1,0,1,1,1,1,1,1]) 7 (tmOf 92 [(0,(rwndk0 s)),(1,(rwndk3 n)),(2,(.vs tRe (l.1) (l.2))),(3,(pP 0 0)),(4,(pP 1 0)),(6,(pP 2 0)),(7,.nils),(8,(iI 0)),(9,(iI ((cknS s n l.2).1))),(10,(iI 0)),(11,(rwndk2 s n l)),(12,(pP 5 0)),(13,(.sl 6 0 (32) (32) 1)),(14,(iI 0)),(17,(rwndk5 s n l)),(18,(rwndk0 s)),(19,(rwndk3 n)),(20,(.vs tRe (l.1) (l.2))),(21,(rwndk5 s n l)),(22,(iI ((cknS s n l.2).1))),(23,(iI ((cknS s n l.2).2))),(24,(.tup [(rwndk2 s n l),(iI 0)])),(25,(rwndk0 s)),(26,(rwndk3 n)),(27,(.vs tRe (l.1) (l.2))),(28,(iI ((cknS s n l.2).2))),(29,(.tup [(rwndk2 s n l),(iI 0)])),(30,(rwndk2 s n l)),(31,(iI 0)),(32,(iI 0)),(33,(.bool false)),(36,(rwndk2 s n l)),(37,(.cp [(rwndk1 s n l),(rwndk4 s n l)] 0)),(38,(.cp [(rwndk1 s n l),(rwndk4 s n l)] 0)),(39,(rwndk1 s n l)),(40,(rwndk2 s n l)),(41,(.cp [(rwndk1 s n l),(rwndk4 s n l)] 0)),(42,(.cp [(rwndk1 s n l),(rwndk4 s n l)] 0)),(43,(rwndk1 s n l)),(44,(.agg [(rwndk1 s n l),(rwndk1 s n l)])),(45,(.sl 6 0 (32) (32) 1))]) x193),(.blk 0),(.seq (pcOf H7 20 [1,1,1,1,1,1,1])),(.cal [(.cell 6 24),(.tmp 7),(.tmp 8)] .top)]⟩
noncomputable def rwndQ1 (s:tSt.den) (n:tNi.den) (l:(Ty.sl tRe).den) (y0:Int):Tmps:=(tmOf 92 [(0,(rwndk0 s)),(1,(rwndk3 n)),(2,(.vs tRe (l.1) (l.2))),(3,(pP 0 0)),(4,(pP 1 0)),(6,(pP 2 0)),(7,.nils),(8,(iI 0)),(9,(iI ((cknS s n l.2).1))),(10,(iI 0)),(11,(rwndk2 s n l)),(12,(pP 5 0)),(13,(.sl 6 0 (32) (32) 1)),(14,(iI y0)),(15,.nils),(16,(iI 0)),(17,(rwndk5 s n l)),(18,(rwndk0 s)),(19,(rwndk3 n)),(20,(.vs tRe (l.1) (l.2))),(21,(rwndk5 s n l)),(22,(iI ((cknS s n l.2).1))),(23,(iI ((cknS s n l.2).2))),(24,(.tup [(rwndk2 s n l),(iI 0)])),(25,(rwndk0 s)),(26,(rwndk3 n)),(27,(.vs tRe (l.1) (l.2))),(28,(iI ((cknS s n l.2).2))),(29,(.tup [(rwndk2 s n l),(iI 0)])),(30,(rwndk2 s n l)),(31,(iI 0)),(32,(iI 0)),(33,(.bool false)),(36,(rwndk2 s n l)),(37,(.cp [(rwndk1 s n l),(rwndk4 s n l)] 0)),(38,(.cp [(rwndk1 s n l),(rwndk4 s n l)] 0)),(39,(rwndk1 s n l)),(40,(rwndk2 s n l)),(41,(.cp [(rwndk1 s n l),(rwndk4 s n l)] 0)),(42,(.cp [(rwndk1 s n l),(rwndk4 s n l)] 0)),(43,(rwndk1 s n l)),(44,(.agg [(rwndk1 s n l),(rwndk1 s n l)])),(45,(.sl 6 0 (32) (32) 1)),(46,(iI y0)),(47,(rwndk2 s n l)),(48,(iI (Int.ofNat (trT s n l.2 true).length))),(49,(.bool false))])
noncomputable def rwndk8:PC:=(pcOf H7 20 [0,0,1,0,1,1,1,1,1,1,1,1])
noncomputable def rwndI1 (s:tSt.den) (n:tNi.den) (l:(Ty.sl tRe).den) (x20:Int) (x21:Int) (x113:Int) (x114:Int) (x115:List AV) (x205:Nat):Cfg:=⟨.ex (rwndk8) ⟨(tmOf 92 [(0,(rwndk0 s)),(1,(rwndk3 n)),(2,(.vs tRe (l.1) (l.2))),(3,(pP 0 0)),(4,(pP 1 0)),(6,(pP 2 0)),(7,.nils),(8,(iI 0)),(9,(iI ((cknS s n l.2).1))),(10,(iI 0)),(11,(rwndk2 s n l)),(12,(pP 5 0)),(13,(.sl 6 0 (32) (32) 1)),(14,(iI x20)),(15,.nils),(16,(iI x21)),(17,(rwndk5 s n l)),(18,(rwndk0 s)),(19,(rwndk3 n)),(20,(.vs tRe (l.1) (l.2))),(21,(rwndk5 s n l)),(22,(iI ((cknS s n l.2).1))),(23,(iI ((cknS s n l.2).2))),(24,(.tup [(rwndk2 s n l),(iI 0)])),(25,(rwndk0 s)),(26,(rwndk3 n)),(27,(.vs tRe (l.1) (l.2))),(28,(iI ((cknS s n l.2).2))),(29,(.tup [(rwndk2 s n l),(iI 0)])),(30,(rwndk2 s n l)),(31,(iI 0)),(32,(iI 0)),(33,(.bool false)),(36,(rwndk2 s n l)),(37,(.cp [(rwndk1 s n l),(rwndk4 s n l)] 0)),(38,(.cp [(rwndk1 s n l),(rwndk4 s n l)] 0)),(39,(rwndk1 s n l)),(40,(rwndk2 s n l)),(41,(.cp [(rwndk1 s n l),(rwndk4 s n l)] 0)),(42,(.cp [(rwndk1 s n l),(rwndk4 s n l)] 0)),(43,(rwndk1 s n l)),(44,(.agg [(rwndk1 s n l),(rwndk1 s n l)])),(45,(.sl 6 0 (32) (32) 1)),(46,(iI x20)),(47,(rwndk2 s n l)),(48,(iI (Int.ofNat (trT s n l.2 true).length))),(49,(.bool false))]),(rwndQ0 s n x113 x114 x115),[],[],92,false⟩,⟨12,[]⟩,[(.lop (rwndk8) 7 (rwndQ1 s n l x20) x205),(.blk 2),(.seq (pcOf H7 20 [1,1,1,1,1,1,1,1,1])),(.cal [(.cell 6 24),(.tmp 7),(.tmp 8)] .top)]⟩
noncomputable def rwndI2 (s:tSt.den) (n:tNi.den) (l:(Ty.sl tRe).den) (x20:Int) (x21:Nat) (x23:Int) (x115:Int) (x116:Int) (x117:List AV) (x118:List AV) (x208:Nat):Cfg:=⟨.ex (rwndk8) ⟨(tmOf 92 [(0,(rwndk0 s)),(1,(rwndk3 n)),(2,(.vs tRe (l.1) (l.2))),(3,(pP 0 0)),(4,(pP 1 0)),(6,(pP 2 0)),(7,.nils),(8,(iI 0)),(9,(iI ((cknS s n l.2).1))),(10,(iI 0)),(11,(rwndk2 s n l)),(12,(pP 5 0)),(13,(.sl 6 0 (32) (32) 1)),(14,(iI x20)),(15,(.sl 7 0 x21 x21 1)),(16,(iI x23)),(17,(rwndk5 s n l)),(18,(rwndk0 s)),(19,(rwndk3 n)),(20,(.vs tRe (l.1) (l.2))),(21,(rwndk5 s n l)),(22,(iI ((cknS s n l.2).1))),(23,(iI ((cknS s n l.2).2))),(24,(.tup [(rwndk2 s n l),(iI 0)])),(25,(rwndk0 s)),(26,(rwndk3 n)),(27,(.vs tRe (l.1) (l.2))),(28,(iI ((cknS s n l.2).2))),(29,(.tup [(rwndk2 s n l),(iI 0)])),(30,(rwndk2 s n l)),(31,(iI 0)),(32,(iI 0)),(33,(.bool false)),(36,(rwndk2 s n l)),(37,(.cp [(rwndk1 s n l),(rwndk4 s n l)] 0)),(38,(.cp [(rwndk1 s n l),(rwndk4 s n l)] 0)),(39,(rwndk1 s n l)),(40,(rwndk2 s n l)),(41,(.cp [(rwndk1 s n l),(rwndk4 s n l)] 0)),(42,(.cp [(rwndk1 s n l),(rwndk4 s n l)] 0)),(43,(rwndk1 s n l)),(44,(.agg [(rwndk1 s n l),(rwndk1 s n l)])),(45,(.sl 6 0 (32) (32) 1)),(46,(iI x20)),(47,(rwndk2 s n l)),(48,(iI (Int.ofNat (trT s n l.2 true).length))),(49,(.bool false))]),(hpOf 8 [(0,(rwndk6 s)),(1,(rwndk7 n)),(2,(cF [(iI 0),(iI 0)])),(3,(rwndk6 s)),(4,(rwndk7 n)),(5,(cF [(iI x115),(iI x116)])),(6,(cF x117)),(7,(cF x118))]),[],[],92,false⟩,⟨12,[]⟩,[(.lop (rwndk8) 7 (rwndQ1 s n l x20) x208),(.blk 2),(.seq (pcOf H7 20 [1,1,1,1,1,1,1,1,1])),(.cal [(.cell 6 24),(.tmp 7),(.tmp 8)] .top)]⟩
theorem rwnd_start (s:tSt.den) (n:tNi.den) (l:(Ty.sl tRe).den):adv H7 ((Y7 [20]).flat [0,1,2,3,4]) 20000 (startC H7 20 [tSt.av s,tNi.av n,.vs tRe l.1 l.2] 12)=(bif !ieq (cknS s n l.2).2 0 then (bif !ieq (cknS s n l.2).2 0 then some (.done (.tup [(.agg [(.int .i64 (0)),(.int .i64 (0))]),.nils,(.int .i64 ((cknS s n l.2).2))])) else none) else (bif okN s n l.2 then (bif ieq (↑(trT s n l.2 true).length) 0 then some (.done (.tup [(.agg [(.int .i64 (0)),(.int .i64 (0))]),.nils,(.int .i64 (9))])) else (bif inB 0 (trT s n l.2 true).length then (bif inB 0 (trT s n l.2 true).length then some (.stop (rwndI0 s n l (0) (((trT s n l.2 true).getD (Int.toNat 0) tP.dflt).1) (((trT s n l.2 true).getD (Int.toNat 0) tP.dflt).1) (repl 32 [AV.bool false]) (1048575))) else none) else none)) else none)):=by kernel_rfl
theorem rwnd_step0 (s:tSt.den) (n:tNi.den) (l:(Ty.sl tRe).den) (x20:Int) (x107:Int) (x108:Int) (x109:List AV) (x193:Nat):adv H7 ((Y7 [20]).flat [0,1,2,3,4]) 20000 (rwndI0 s n l x20 x107 x108 x109 (x193+1))=(bif !ile (↑(trT s n l.2 true).length) x20 then (bif inB x20 (trT s n l.2 true).length then (bif inB x20 (trT s n l.2 true).length then (bif ieq x108 x108 then (bif ieq x107 x107 then (bif inB x20 (trT s n l.2 true).length then (bif inB ((trT s n l.2 true).getD x20.toNat tP.dflt).2.1 32 then (bif (0+Int.toNat ((trT s n l.2 true).getD x20.toNat tP.dflt).2.1 * 1+1).ble x109.length then (bif plO (AO.cells false (x109.set (0+Int.toNat ((trT s n l.2 true).getD x20.toNat tP.dflt).2.1 * 1) (AV.bool true))) then some (.stop (rwndI0 s n l (wr .i64 (x20+1)) (bif ile x107 ((trT s n l.2 true).getD x20.toNat tP.dflt).1 then x107 else ((trT s n l.2 true).getD x20.toNat tP.dflt).1) (bif ile ((trT s n l.2 true).getD x20.toNat tP.dflt).1 x108 then x108 else ((trT s n l.2 true).getD x20.toNat tP.dflt).1) (x109.set (0+Int.toNat ((trT s n l.2 true).getD x20.toNat tP.dflt).2.1 * 1) (AV.bool true)) (x193))) else none) else none) else none) else none) else none) else none) else none) else none) else some (.stop (rwndI1 s n l (x20) (0) (x107) (x108) (x109) (1048575)))):=by kernel_rfl
theorem rwnd_step1 (s:tSt.den) (n:tNi.den) (l:(Ty.sl tRe).den) (x20:Int) (x21:Int) (x113:Int) (x114:Int) (x115:List AV) (x205:Nat):adv H7 ((Y7 [20]).flat [0,1,2,3,4]) 20000 (rwndI1 s n l x20 x21 x113 x114 x115 (x205+1))=(bif !ile (↑32) x21 then (bif inB x21 32 then (bif isZs x115 [AV.bool false] (0+x21.toNat * 1) then (bif toB (x115.getD (0+x21.toNat * 1) AV.nili) then (bif plO (AO.cells false x115) then some (.stop (rwndI2 s n l (x20) (1) (wr .i64 (x21+1)) (x113) (x114) (x115) ([AV.int IntKind.i64 x21]) (x205))) else none) else (bif plO (AO.cells false x115) then some (.stop (rwndI1 s n l (x20) (wr .i64 (x21+1)) (x113) (x114) (x115) (x205))) else none)) else none) else none) else some (.done (.tup [(.agg [(.int .i64 (x113)),(.int .i64 (x114))]),.nils,(.int .i64 (0))]))):=by kernel_rfl
theorem rwnd_step2 (s:tSt.den) (n:tNi.den) (l:(Ty.sl tRe).den) (x20:Int) (x21:Nat) (x23:Int) (x115:Int) (x116:Int) (x117:List AV) (x118:List AV) (x208:Nat):adv H7 ((Y7 [20]).flat [0,1,2,3,4]) 20000 (rwndI2 s n l x20 x21 x23 x115 x116 x117 x118 (x208+1))=(bif !ile (↑32) x23 then (bif inB x23 32 then (bif isZs x117 [AV.bool false] (0+x23.toNat * 1) then (bif toB (x117.getD (0+x23.toNat * 1) AV.nili) then (bif (0+x21 * 1).beq x118.length then (bif x21.ble 1048576 then (bif plO (AO.cells false x117) then (bif plO (AO.cells false (x118++[AV.int IntKind.i64 x23])) then some (.stop (rwndI2 s n l (x20) (x21+1) (wr .i64 (x23+1)) (x115) (x116) (x117) (x118++[AV.int IntKind.i64 x23]) (x208))) else none) else none) else none) else none) else (bif plO (AO.cells false x117) then (bif plO (AO.cells false x118) then some (.stop (rwndI2 s n l (x20) (x21) (wr .i64 (x23+1)) (x115) (x116) (x117) (x118) (x208))) else none) else none)) else none) else none) else (bif plainL x118 then some (.done (.tup [(.agg [(.int .i64 (x115)),(.int .i64 (x116))]),(.csl (x118) (x21)),(.int .i64 (0))])) else none)):=by kernel_rfl
theorem Y7w_ok:((Y7 [20]).flat [0,1,2,3,4]).ok H7:=Y7_ok [20]
section
variable {s:tSt.den} {n:tNi.den} {l:(Ty.sl tRe).den}
theorem rwnd_2 (x:Int) (a b:Int) (B:List Bool) (hB:B.length=32):∀ (r k m:Nat) (L:List Int),k+r=32→r<m→L.length≤k→L≠[]→Ans H7 (rwndI2 s n l x L.length (k:Int) a b (bl B) (flat tI L) m) (wtup a b (L++outG B k r) 0)
 |0,k,m+1,L,hk,hm,hl,hn=>by
  have h:=rwnd_step2 s n l x L.length (k:Int) a b (bl B) (flat tI L) m
  rw[ile_t (show (32:Int)≤k by omega),Bool.not_true,cond_false,flatI_plain,cond_true] at h
  rw[outG,List.append_nil]
  exact doneW1 Y7w_ok H7sy hn h
 | r + 1, k, m + 1, L, hk, hm, hl, hn => by
  have h:=rwnd_step2 s n l x L.length (k:Int) a b (bl B) (flat tI L) m
  obtain⟨z1,z2⟩:=bl_at0 (B:=B) (k:=k) (by omega)
  have p1:plO (.cells false (bl B))=true:=bl_plain B
  have p2:plO (.cells false (flat tI L))=true:=flatI_plain L
  have p3:plO (.cells false (flat tI (L++[(k:Int)])))=true:=flatI_plain _
  rw[ile_f (show (k:Int)<(32:Int) by omega),Bool.not_false,cond_true,inB_at (show k<32 by omega),cond_true,z1,cond_true,z2,wr_succ (show k<1048577 by omega)] at h
  rw[outG]
  cases c:B.getD k false with
  |false=>
   rw[c,cond_false,p1,cond_true,p2,cond_true] at h
   rw[cond_false]
   exact .stop Y7w_ok H7sy h (rwnd_2 x a b B hB r (k+1) m L (by omega) (by omega) (by omega) hn)
  |true=>
   rw[c,cond_true,beq_flatI,cond_true,Nat.ble_eq_true_of_le (show L.length≤1048576 by omega),cond_true,p1,cond_true,flatI_add,p3,cond_true] at h
   rw[cond_true]
   have ih:=rwnd_2 x a b B hB r (k+1) m (L++[(k:Int)]) (by omega) (by omega) (by rw[List.length_append];show L.length+1≤_;omega) (by simp)
   rw[show (L++[(k:Int)]).length=L.length+1 from List.length_append,List.append_assoc] at ih
   exact .stop Y7w_ok H7sy h ih
theorem rwnd_1 (x:Int) (a b:Int) (B:List Bool) (hB:B.length=32):∀ (r k m:Nat),k+r=32→r<m→Ans H7 (rwndI1 s n l x (k:Int) a b (bl B) m) (wtup a b (outG B k r) 0)
 |0,k,m+1,hk,hm=>by
  have h:=rwnd_step1 s n l x (k:Int) a b (bl B) m
  rw[ile_t (show (32:Int)≤k by omega),Bool.not_true,cond_false] at h
  exact doneW0 Y7w_ok H7sy h
 | r + 1, k, m + 1, hk, hm => by
  have h:=rwnd_step1 s n l x (k:Int) a b (bl B) m
  obtain⟨z1,z2⟩:=bl_at0 (B:=B) (k:=k) (by omega)
  have p1:plO (.cells false (bl B))=true:=bl_plain B
  rw[ile_f (show (k:Int)<(32:Int) by omega),Bool.not_false,cond_true,inB_at (show k<32 by omega),cond_true,z1,cond_true,z2,wr_succ (show k<1048577 by omega)] at h
  rw[outG]
  cases c:B.getD k false with
  |false=>
   rw[c,cond_false,p1,cond_true] at h
   rw[cond_false]
   exact .stop Y7w_ok H7sy h (rwnd_1 x a b B hB r (k+1) m (by omega) (by omega))
  |true=>
   rw[c,cond_true,p1,cond_true] at h
   rw[cond_true]
   have ih:=rwnd_2 (s:=s) (n:=n) (l:=l) x a b B hB r (k+1) m [(k:Int)] (by omega) (by omega) (by show 1≤_;omega) (by simp)
   exact .stop Y7w_ok H7sy h ih
theorem rwnd_0 (hN:NigOK s n l.2):∀ (r k m:Nat) (a b:Int) (B:List Bool),B.length=32→k+r=(trT s n l.2 true).length→r<m→Ans H7 (rwndI0 s n l (k:Int) a b (bl B) m) (wndV (((trT s n l.2 true).drop k).foldl mtW ((a,b,true),B)))
 |0,k,m+1,a,b,B,hB,hk,hm=>by
  have h:=rwnd_step0 s n l (k:Int) a b (bl B) m
  simp only[ile_t (show (((trT s n l.2 true).length:Nat):Int)≤k by omega),Bool.not_true,cond_false] at h
  rw[List.drop_eq_nil_of_le (by omega)]
  exact .stop Y7w_ok H7sy h (rwnd_1 (k:Int) a b B hB 32 0 1048575 (by omega) (by omega))
 | r + 1, k, m + 1, a, b, B, hB, hk, hm => by
  have h:=rwnd_step0 s n l (k:Int) a b (bl B) m
  have hlt:k<(trT s n l.2 true).length:=by omega
  have:=trT_len hN true
  have ht:=trT_tru hN true (List.getElem_mem hlt)
  have hv:inV (trT s n l.2 true)[k].2.1=true:=by
   simp only[truB,cond_true,Bool.and_eq_true] at ht;exact ht.2
  have hv2:=hv
  simp only[inV,Bool.and_eq_true,ile_iff,decide_eq_true_eq] at hv2
  have b1:inB (trT s n l.2 true)[k].2.1 32=true:=inB_of hv2.1 (by have:=hv2.2;show (_:Int)<32;omega)
  have eb:0+Int.toNat (trT s n l.2 true)[k].2.1 * 1=Int.toNat (trT s n l.2 true)[k].2.1:=by omega
  have b2:(Int.toNat (trT s n l.2 true)[k].2.1+1).ble (bl B).length=true:=by
   rw[bl_len,hB];exact Nat.ble_eq_true_of_le (by have:=hv2.1;have:=hv2.2;omega)
  have p1:plO (.cells false (bl (B.set (Int.toNat (trT s n l.2 true)[k].2.1) true)))=true:=bl_plain _
  simp only[ile_f (show (k:Int)<(((trT s n l.2 true).length:Nat):Int) by omega),Bool.not_false,cond_true,inB_at hlt,getD_at hlt,ieq_self,wr_succ (show k<1048577 by omega),b1,eb,b2,bl_set,p1] at h
  rw[List.drop_eq_getElem_cons hlt,List.foldl_cons]
  exact .stop Y7w_ok H7sy h (rwnd_0 hN r (k+1) m _ _ _ (by rw[List.length_set,hB]) (by omega) (by omega))
end
theorem rwnd_call (s:tSt.den) (n:tNi.den) (l:(Ty.sl tRe).den):AnsF H7 20 [tSt.av s,tNi.av n,.vs tRe l.1 l.2] (wndS s n l.2):=by
 refine Ans.call (n:=12) (ext_none (by kernel_rfl)) (hasB_spec (by kernel_rfl)) ?_
 have h:=rwnd_start s n l
 unfold wndS
 cases c:ieq (cknS s n l.2).2 0 with
 |false=>
  simp only[c,Bool.not_false,cond_true] at h
  rw[cond_false]
  exact doneW0 Y7w_ok H7sy h
 | true =>
  have hN:=nig_ok c
  have ho:okN s n l.2=true:=c
  simp only[c,Bool.not_true,cond_false,ho,cond_true] at h
  rw[cond_true]
  have:=trT_len hN true
  cases hT:trT s n l.2 true with
  | nil =>
   simp only[hT,show ieq ((([]:List tP.den).length:Nat):Int) 0=true from rfl,cond_true] at h
   have k:=doneW0 Y7w_ok H7sy h
   have e:wndV (([]:List tP.den).foldl mtW wnd0)=wtup 0 0 [] 9:=by
    show wtup 0 0 (outG (List.replicate 32 false) 0 32) 9=_
    rw[outG_nil]
   rw[e]
   exact k
  | cons p q =>
   have hlt:0<(trT s n l.2 true).length:=by rw[hT];simp
   have i0:inB 0 (trT s n l.2 true).length=true:=inB_at (k:=0) hlt
   have g0:(trT s n l.2 true).getD (Int.toNat 0) tP.dflt=p:=by rw[hT];rfl
   have z:ieq (((trT s n l.2 true).length:Nat):Int) 0=false:=by rw[ieq_iff];exact decide_eq_false (by omega)
   rw[bl_rep] at h
   simp only[z,cond_false,i0,g0,cond_true] at h
   have k:=rwnd_0 hN (trT s n l.2 true).length 0 1048575 p.1 p.1 (List.replicate 32 false) (by simp) (by omega) (by omega)
   have e:((trT s n l.2 true).drop 0).foldl mtW ((p.1,p.1,true),List.replicate 32 false)=(p::q).foldl mtW wnd0:=by
    rw[List.drop_zero,hT,List.foldl_cons,List.foldl_cons]
    unfold mtW wnd0
    simp only[mtL_new,mtH_new,mtL_same,mtH_same]
   rw[e] at k
   exact .stop Y7w_ok H7sy h k
end Go.Proofs.YtjipgnghjbmlkaaGreatDoor


set_option maxRecDepth 100000
namespace Go.Proofs.YtjipgnghjbmlkaaGreatDoor
open Go Go.Eng
noncomputable def pwnak0 (z0:tSt.den):AV:=(.agg [(.vs tGr (z0.1.1) (z0.1.2)),(iI (z0.2.1.1)),(iI (z0.2.1.2.1)),(iI (z0.2.2.1.1)),(iI (z0.2.2.1.2.1))])
noncomputable def pwnak2 (z0:tNi.den):AV:=(.agg [(iI (z0.1.1)),(iI (z0.1.2.1)),(iI (z0.2.1)),(iI (z0.2.2.1)),(iI (z0.2.2.2.1))])
noncomputable def pwnaQ0 (s:tSt.den) (n:tNi.den) (b:Bool):Tmps:=(tmOf 37 [(0,(pwnak0 s)),(1,(pwnak2 n)),(2,(.vs tRe (b) ([]))),(3,(pP 5 0)),(4,(pP 6 0)),(6,.nilp),(7,(pP 7 0)),(10,(pwnak0 s)),(11,(pwnak2 n)),(12,(.agg [(.vs tGr (s.1.1) (s.1.2)),(iI (s.2.1.1)),(iI (s.2.1.2.1)),(iI (s.2.2.1.1)),(iI (s.2.2.1.2.1)),(iI (n.1.1)),(iI (n.1.2.1)),(iI (n.2.1)),(iI (n.2.2.1)),(iI (n.2.2.2.1)),.nils])),(13,(pP 7 0)),(14,(.vs tRe (b) ([]))),(15,(iI 0)),(16,(iI 0))])
noncomputable def pwnak1 (z0:tSt.den):AO:=(cF [(.vs tGr (z0.1.1) (z0.1.2)),(iI (z0.2.1.1)),(iI (z0.2.1.2.1)),(iI (z0.2.2.1.1)),(iI (z0.2.2.1.2.1))])
noncomputable def pwnak3 (z0:tNi.den):AO:=(cF [(iI (z0.1.1)),(iI (z0.1.2.1)),(iI (z0.2.1)),(iI (z0.2.2.1)),(iI (z0.2.2.2.1))])
noncomputable def pwnak4 (z0:tSt.den) (z1:tNi.den):AO:=(cF [(.vs tGr (z0.1.1) (z0.1.2)),(iI (z0.2.1.1)),(iI (z0.2.1.2.1)),(iI (z0.2.2.1.1)),(iI (z0.2.2.1.2.1)),(iI (z1.1.1)),(iI (z1.1.2.1)),(iI (z1.2.1)),(iI (z1.2.2.1)),(iI (z1.2.2.2.1)),.nils])
noncomputable def pwnak10:Fm:=(.cal [(.cell 6 24),(.tmp 7),(.tmp 8)] .top)
noncomputable def pwnaI0 (s:tSt.den) (n:tNi.den) (b:Bool) (x124:Nat):Cfg:=⟨.ex (pcOf F6 99 [0,0,1,0,1,1]) ⟨(pwnaQ0 s n b),(hpOf 8 [(0,(pwnak1 s)),(1,(pwnak3 n)),(2,(cF [(iI 0),(iI 0)])),(3,(pwnak1 s)),(4,(pwnak3 n)),(5,(pwnak1 s)),(6,(pwnak3 n)),(7,(pwnak4 s n))]),[],[],37,false⟩,⟨38,[]⟩,[(.lop (pcOf F6 99 [0,0,1,0,1,1]) 8 (pwnaQ0 s n b) x124),(.blk 0),(.seq (pcOf F6 99 [1,1,1])),(.cal [(.tmp 6)] (.op (pcOf F6 58 [0,1,1,1]) 4 (some 40) ((opsOf (pcOf F6 58 [0,1,1,1]).c).toList.drop 4) (tmOf 41 [(0,(pwnak0 s)),(1,(pwnak2 n)),(2,(.vs tRe (b) ([]))),(3,.nils),(4,(pP 3 0)),(5,(pP 4 0)),(8,.nilp),(9,(iI 0)),(10,(iI ((cknS s n []).1))),(11,(iI ((cknS s n []).2))),(15,(.tup [(iI ((cknS s n []).1)),(iI ((cknS s n []).2))])),(16,(pwnak0 s)),(17,(pwnak2 n)),(18,(.vs tRe (b) ([]))),(19,(.tup [(iI ((cknS s n []).1)),(iI ((cknS s n []).2))])),(20,(iI ((cknS s n []).1))),(21,(iI ((cknS s n []).2))),(22,(iI ((cknS s n []).2))),(23,(.bool false)),(25,.nils),(26,(iI 0)),(27,(iI 0)),(28,(.bool false)),(37,(pwnak0 s)),(38,(pwnak2 n)),(39,(.vs tRe (b) ([])))]) [] 41 false ⟨39,[]⟩)),(.seq (pcOf F6 58 [1,1,1,1])),(.cal [(.tmp 8),(.tmp 9)] (.op (pcOf F6 19 [0,1]) 4 (some 21) ((opsOf (pcOf F6 19 [0,1]).c).toList.drop 4) (tmOf 55 [(0,(pwnak0 s)),(1,(pwnak2 n)),(2,(.vs tRe (b) ([]))),(3,(pP 0 0)),(4,(pP 1 0)),(6,(pP 2 0)),(7,.nils),(8,(iI 0)),(18,(pwnak0 s)),(19,(pwnak2 n)),(20,(.vs tRe (b) ([])))]) [] 55 false ⟨40,[]⟩)),(.seq (pcOf F6 19 [1,1])),(pwnak10)]⟩
noncomputable def pwnak7 (z0:tSt.den):AO:=(cF [(iI (z0.2.1.1)),(iI (z0.2.1.2.1))])
noncomputable def pwnak6 (z0:tNi.den):AV:=(iI (wr .i64 (wr .i64 (z0.2.2.1+z0.2.2.2.1)-1)))
noncomputable def pwnaQ1 (s:tSt.den) (n:tNi.den) (y0:Int) (y1:Int) (y2:Bool) (y3:List AV):Hp:=(hpOf 19 [(0,(pwnak1 s)),(1,(pwnak3 n)),(2,(cF [(iI 0),(iI 0)])),(3,(pwnak1 s)),(4,(pwnak3 n)),(5,(pwnak1 s)),(6,(pwnak3 n)),(7,(pwnak4 s n)),(8,(cF [(iI y0),(iI y1),(.bool y2)])),(9,(cF y3)),(10,(cF [(pP 7 0)])),(11,(cF [(.bool true)])),(13,(cF [(.yld 12)])),(14,(pwnak7 s)),(15,(cF [(iI (n.2.2.1)),(pwnak6 n)])),(16,(cF [(.fn 104 [] [])])),(18,(pwnak7 s))])
noncomputable def pwnaQ2:Tmps:=(tmOf 24 [(0,(.yld 12)),(1,(pP 10 0)),(2,(pP 11 0)),(3,(pP 13 0)),(7,(pP 7 0)),(8,(.bool true)),(9,(.fn 142 [] [(pP 14 0),(pP 15 0),(pP 16 0)]))])
noncomputable def pwnaQ3 (s:tSt.den) (n:tNi.den) (b:Bool):Tmps:=(tmOf 55 [(0,(pwnak0 s)),(1,(pwnak2 n)),(2,(.vs tRe (b) ([]))),(3,(pP 0 0)),(4,(pP 1 0)),(6,(pP 2 0)),(7,.nils),(8,(iI 0)),(9,(pP 7 0)),(10,(pP 8 0)),(11,(pP 9 0)),(17,(.tup [(pP 7 0),(iI 0)])),(18,(pwnak0 s)),(19,(pwnak2 n)),(20,(.vs tRe (b) ([]))),(21,(.tup [(pP 7 0),(iI 0)])),(22,(pP 7 0)),(23,(iI 0)),(24,(iI 0)),(25,(.bool false)),(28,(pP 7 0)),(29,(.fn 100 [] [(pP 10 0),(pP 11 0)]))])
noncomputable def pwnak12 (z0:tSt.den):AV:=(.agg [(iI (z0.2.1.1)),(iI (z0.2.1.2.1))])
noncomputable def pwnak8 (z0:tSt.den):AV:=(iI (wr .i64 (wr .i64 (z0.2.1.2.1-z0.2.1.1)+1)))
noncomputable def pwnaQ4 (s:tSt.den):Tmps:=(tmOf 33 [(0,(.yld 17)),(1,(pP 14 0)),(2,(pP 15 0)),(3,(pP 16 0)),(7,(pwnak12 s)),(8,(pwnak8 s)),(9,(iI 0))])
noncomputable def pwnak11:HD:=⟨17,24,39,(pwnaQ2),#[10],(pcOf F6 100 [0,0,1,1,0,1]),(pcOf F6 100 [1,0,1,1,0,1])⟩
noncomputable def pwnak5 (z0:tSt.den) (z1:tNi.den) (z2:Bool):HD:=⟨12,55,40,(pwnaQ3 z0 z1 z2),#[30],(pcOf F6 19 [0,0,1,0,1,1,1,1,1]),(pcOf F6 19 [1,0,1,0,1,1,1,1,1])⟩
noncomputable def pwnaI1 (s:tSt.den) (n:tNi.den) (b:Bool) (x3:Int) (x50:Int) (x51:Int) (x52:Bool) (x53:List AV) (x98:Nat):Cfg:=⟨.ex (pcOf F6 142 [0,0,1]) ⟨(tmOf 33 [(0,(.yld 17)),(1,(pP 14 0)),(2,(pP 15 0)),(3,(pP 16 0)),(7,(pwnak12 s)),(8,(pwnak8 s)),(9,(iI x3))]),(pwnaQ1 s n x50 x51 x52 x53),[],[⟨false,.normal⟩,⟨false,.normal⟩],33,false⟩,⟨38,[(pwnak11),(pwnak5 s n b)]⟩,[(.lop (pcOf F6 142 [0,0,1]) 19 (pwnaQ4 s) x98),(.blk 0),(.cal [] (.rng (pwnaQ2) [] 24 false ⟨39,[(pwnak5 s n b)]⟩)),(.blk 0),(.cal [] (.rng (pwnaQ3 s n b) [] 55 false ⟨40,[]⟩)),(.blk 0),(.seq (pcOf F6 19 [1,1,1,1,1,1])),(pwnak10)]⟩
noncomputable def pwnak9 (z0:tNi.den):AV:=(iI (wr .i64 (wr .i64 (wr .i64 (wr .i64 (z0.2.2.1+z0.2.2.2.1)-1)-z0.2.2.1)+1)))
noncomputable def pwnaQ5 (s:tSt.den) (n:tNi.den) (y0:Int):Tmps:=(tmOf 33 [(0,(.yld 17)),(1,(pP 14 0)),(2,(pP 15 0)),(3,(pP 16 0)),(5,(iI y0)),(7,(pwnak12 s)),(8,(pwnak8 s)),(9,(iI y0)),(10,(.bool true)),(11,(iI y0)),(12,(.agg [(iI (n.2.2.1)),(pwnak6 n)])),(13,(pwnak9 n)),(14,(iI 0))])
noncomputable def pwnaI3 (s:tSt.den) (n:tNi.den) (b:Bool) (x0:Int) (x10:Int) (x57:Int) (x58:Int) (x59:Bool) (x60:List AV) (x114:Nat) (x119:Nat):Cfg:=⟨.ex (pcOf F6 142 [0,0,1,1,0,0,1,1,0,0,1]) ⟨(tmOf 33 [(0,(.yld 17)),(1,(pP 14 0)),(2,(pP 15 0)),(3,(pP 16 0)),(5,(iI x0)),(7,(pwnak12 s)),(8,(pwnak8 s)),(9,(iI x0)),(10,(.bool true)),(11,(iI x0)),(12,(.agg [(iI (n.2.2.1)),(pwnak6 n)])),(13,(pwnak9 n)),(14,(iI x10))]),(hpOf 20 [(0,(pwnak1 s)),(1,(pwnak3 n)),(2,(cF [(iI 0),(iI 0)])),(3,(pwnak1 s)),(4,(pwnak3 n)),(5,(pwnak1 s)),(6,(pwnak3 n)),(7,(pwnak4 s n)),(8,(cF [(iI x57),(iI x58),(.bool x59)])),(9,(cF x60)),(10,(cF [(pP 7 0)])),(11,(cF [(.bool true)])),(13,(cF [(.yld 12)])),(14,(pwnak7 s)),(15,(cF [(iI (n.2.2.1)),(pwnak6 n)])),(16,(cF [(.fn 104 [] [])])),(18,(pwnak7 s)),(19,(cF [(iI (n.2.2.1)),(pwnak6 n)]))]),[],[⟨false,.normal⟩,⟨false,.normal⟩],33,false⟩,⟨38,[(pwnak11),(pwnak5 s n b)]⟩,[(.lop (pcOf F6 142 [0,0,1,1,0,0,1,1,0,0,1]) 20 (pwnaQ5 s n x0) x114),(.blk 2),(.blk 1),(.seq (pcOf F6 142 [1,1,1,0,0,1])),(.lop (pcOf F6 142 [0,0,1]) 19 (pwnaQ4 s) x119),(.blk 0),(.cal [] (.rng (pwnaQ2) [] 24 false ⟨39,[(pwnak5 s n b)]⟩)),(.blk 0),(.cal [] (.rng (pwnaQ3 s n b) [] 55 false ⟨40,[]⟩)),(.blk 0),(.seq (pcOf F6 19 [1,1,1,1,1,1])),(pwnak10)]⟩
noncomputable def pwnaQ6:Tmps:=(tmOf 29 [(0,(.yld 24)),(1,(pP 22 0)),(2,(pP 23 0)),(6,(pP 7 0)),(7,(pP 7 0)),(8,(pP 7 10)),(9,.nils),(10,(iI 0)),(11,(iI 0))])
noncomputable def pwnaQ7 (y0:Int) (y1:Int):Tmps:=(tmOf 24 [(0,(.yld 12)),(1,(pP 10 0)),(2,(pP 11 0)),(3,(pP 13 0)),(4,(pP 21 0)),(7,(pP 7 0)),(8,(.bool true)),(9,(.fn 142 [] [(pP 14 0),(pP 15 0),(pP 16 0)])),(10,(.ifc 177 (.agg [(iI y0),(iI y1)]))),(11,(pP 7 0)),(12,(.bool true)),(13,(.fn 122 [] [(pP 22 0),(pP 23 0)]))])
noncomputable def pwnaI5 (s:tSt.den) (n:tNi.den) (b:Bool) (x48:Int) (x49:Int) (x50:Bool) (x51:List AV) (x61:Int) (x62:Int) (x104:Nat) (x141:Int) (x142:Int) (x160:Int) (x209:Nat) (x214:Nat):Cfg:=⟨.ex (pcOf F6 122 [0,0,1]) ⟨(pwnaQ6),(hpOf 25 [(0,(pwnak1 s)),(1,(pwnak3 n)),(2,(cF [(iI 0),(iI 0)])),(3,(pwnak1 s)),(4,(pwnak3 n)),(5,(pwnak1 s)),(6,(pwnak3 n)),(7,(pwnak4 s n)),(8,(cF [(iI x48),(iI x49),(.bool x50)])),(9,(cF x51)),(10,(cF [(pP 7 0)])),(11,(cF [(.bool true)])),(13,(cF [(.yld 12)])),(14,(pwnak7 s)),(15,(cF [(iI (n.2.2.1)),(pwnak6 n)])),(16,(cF [(.fn 104 [] [])])),(18,(pwnak7 s)),(19,(cF [(iI (n.2.2.1)),(pwnak6 n)])),(20,(cF [(iI x61),(iI x62)])),(21,(cF [(.ifc 177 (.agg [(iI x61),(iI x62)]))])),(22,(cF [(pP 7 0)])),(23,(cF [(.bool true)]))]),[],[⟨false,.normal⟩,⟨false,.normal⟩],29,false⟩,⟨38,[⟨24,24,39,(pwnaQ7 x61 x62),#[14,15],(pcOf F6 100 [0,0,1,0,0,1,0,1,1,0,1]),(pcOf F6 100 [1,0,1,0,0,1,0,1,1,0,1])⟩,(pwnak5 s n b)]⟩,[(.lop (pcOf F6 122 [0,0,1]) 25 (pwnaQ6) x104),(.blk 0),(.cal [] (.rng (pwnaQ7 x61 x62) [] 24 true ⟨39,[(pwnak5 s n b)]⟩)),(.blk 2),(.seq (pcOf F6 100 [1,0,1,0,1,1,0,1])),(.blk 1),(.rnd [] (.op (pcOf F6 142 [0,1,0,0,1,1,0,0,1,1,0,0,1,1,0,0,1]) 13 (some 29) ((opsOf (pcOf F6 142 [0,1,0,0,1,1,0,0,1,1,0,0,1,1,0,0,1]).c).toList.drop 13) (tmOf 33 [(0,(.yld 17)),(1,(pP 14 0)),(2,(pP 15 0)),(3,(pP 16 0)),(5,(iI x141)),(6,(iI x142)),(7,(pwnak12 s)),(8,(pwnak8 s)),(9,(iI x141)),(10,(.bool true)),(11,(iI x141)),(12,(.agg [(iI (n.2.2.1)),(pwnak6 n)])),(13,(pwnak9 n)),(14,(iI x142)),(15,(.bool true)),(16,(iI x142)),(17,(.yld 17)),(18,(.fn 104 [] [])),(19,(pP 14 0)),(20,(iI (s.2.1.1))),(21,(iI x141)),(22,(iI x61)),(23,(pP 15 0)),(24,(iI (n.2.2.1))),(25,(iI x142)),(26,(iI x160)),(27,(.agg [(iI x61),(iI x62)])),(28,(.ifc 177 (.agg [(iI x61),(iI x62)])))]) [] 33 false ⟨38,[(pwnak11),(pwnak5 s n b)]⟩)),(.seq (pcOf F6 142 [1,1,0,0,1,1,0,0,1,1,0,0,1,1,0,0,1])),(.blk 3),(.seq (pcOf F6 142 [1,1,1,0,0,1,1,0,0,1,1,0,0,1])),(.lop (pcOf F6 142 [0,0,1,1,0,0,1,1,0,0,1]) 20 (pwnaQ5 s n x141) x209),(.blk 2),(.blk 1),(.seq (pcOf F6 142 [1,1,1,0,0,1])),(.lop (pcOf F6 142 [0,0,1]) 19 (pwnaQ4 s) x214),(.blk 0),(.cal [] (.rng (pwnaQ2) [] 24 false ⟨39,[(pwnak5 s n b)]⟩)),(.blk 0),(.cal [] (.rng (pwnaQ3 s n b) [] 55 false ⟨40,[]⟩)),(.blk 0),(.seq (pcOf F6 19 [1,1,1,1,1,1])),(pwnak10)]⟩
noncomputable def pwnaQ8 (s:tSt.den) (n:tNi.den) (b:Bool) (y0:List AV):Tmps:=(tmOf 55 [(0,(pwnak0 s)),(1,(pwnak2 n)),(2,(.vs tRe (b) ([]))),(3,(pP 0 0)),(4,(pP 1 0)),(6,(pP 2 0)),(7,.nils),(8,(iI 0)),(9,(pP 7 0)),(10,(pP 8 0)),(11,(pP 9 0)),(17,(.tup [(pP 7 0),(iI 0)])),(18,(pwnak0 s)),(19,(pwnak2 n)),(20,(.vs tRe (b) ([]))),(21,(.tup [(pP 7 0),(iI 0)])),(22,(pP 7 0)),(23,(iI 0)),(24,(iI 0)),(25,(.bool false)),(28,(pP 7 0)),(29,(.fn 100 [] [(pP 10 0),(pP 11 0)])),(40,(.agg (asZs y0 (repl 32 [AV.bool false]) 0))),(41,(iI 0))])
noncomputable def pwnaI6 (s:tSt.den) (n:tNi.den) (b:Bool) (x32:List AV) (x33:Int) (x80:Int) (x81:Int) (x82:Bool) (x125:Nat):Cfg:=⟨.ex (pcOf F6 19 [0,0,1,0,1,1,1,1,1,1]) ⟨(tmOf 55 [(0,(pwnak0 s)),(1,(pwnak2 n)),(2,(.vs tRe (b) ([]))),(3,(pP 0 0)),(4,(pP 1 0)),(6,(pP 2 0)),(7,.nils),(8,(iI 0)),(9,(pP 7 0)),(10,(pP 8 0)),(11,(pP 9 0)),(17,(.tup [(pP 7 0),(iI 0)])),(18,(pwnak0 s)),(19,(pwnak2 n)),(20,(.vs tRe (b) ([]))),(21,(.tup [(pP 7 0),(iI 0)])),(22,(pP 7 0)),(23,(iI 0)),(24,(iI 0)),(25,(.bool false)),(28,(pP 7 0)),(29,(.fn 100 [] [(pP 10 0),(pP 11 0)])),(40,(.agg (asZs x32 (repl 32 [AV.bool false]) 0))),(41,(iI x33))]),(pwnaQ1 s n x80 x81 x82 x32),[],[],55,false⟩,⟨40,[]⟩,[(.lop (pcOf F6 19 [0,0,1,0,1,1,1,1,1,1]) 19 (pwnaQ8 s n b x32) x125),(.blk 2),(.seq (pcOf F6 19 [1,1,1,1,1,1,1])),(pwnak10)]⟩
noncomputable def pwnaI7 (s:tSt.den) (n:tNi.den) (b:Bool) (x13:Nat) (x34:List AV) (x35:Int) (x82:Int) (x83:Int) (x84:Bool) (x93:List AV) (x128:Nat):Cfg:=⟨.ex (pcOf F6 19 [0,0,1,0,1,1,1,1,1,1]) ⟨(tmOf 55 [(0,(pwnak0 s)),(1,(pwnak2 n)),(2,(.vs tRe (b) ([]))),(3,(pP 0 0)),(4,(pP 1 0)),(6,(pP 2 0)),(7,(.sl 19 0 x13 x13 1)),(8,(iI 0)),(9,(pP 7 0)),(10,(pP 8 0)),(11,(pP 9 0)),(17,(.tup [(pP 7 0),(iI 0)])),(18,(pwnak0 s)),(19,(pwnak2 n)),(20,(.vs tRe (b) ([]))),(21,(.tup [(pP 7 0),(iI 0)])),(22,(pP 7 0)),(23,(iI 0)),(24,(iI 0)),(25,(.bool false)),(28,(pP 7 0)),(29,(.fn 100 [] [(pP 10 0),(pP 11 0)])),(40,(.agg (asZs x34 (repl 32 [AV.bool false]) 0))),(41,(iI x35))]),(hpOf 20 [(0,(pwnak1 s)),(1,(pwnak3 n)),(2,(cF [(iI 0),(iI 0)])),(3,(pwnak1 s)),(4,(pwnak3 n)),(5,(pwnak1 s)),(6,(pwnak3 n)),(7,(pwnak4 s n)),(8,(cF [(iI x82),(iI x83),(.bool x84)])),(9,(cF x34)),(10,(cF [(pP 7 0)])),(11,(cF [(.bool true)])),(13,(cF [(.yld 12)])),(14,(pwnak7 s)),(15,(cF [(iI (n.2.2.1)),(pwnak6 n)])),(16,(cF [(.fn 104 [] [])])),(18,(pwnak7 s)),(19,(cF x93))]),[],[],55,false⟩,⟨40,[]⟩,[(.lop (pcOf F6 19 [0,0,1,0,1,1,1,1,1,1]) 19 (pwnaQ8 s n b x34) x128),(.blk 2),(.seq (pcOf F6 19 [1,1,1,1,1,1,1])),(pwnak10)]⟩
theorem pwna_start (s:tSt.den) (n:tNi.den) (b:Bool):adv F6 ((Z6 [99,122,142,19]).flat [8,9]) 20000 (startC F6 19 [tSt.av s,tNi.av n,.vs tRe b []] 40)=(bif !ieq (cknS s n []).2 0 then (bif !ieq (cknS s n []).2 0 then some (.done (.tup [(.agg [(.int .i64 (0)),(.int .i64 (0))]),.nils,(.int .i64 ((cknS s n []).2))])) else none) else some (.stop (pwnaI0 s n b (1048575)))):=by kernel_rfl
theorem pwna_step0 (s:tSt.den) (n:tNi.den) (b:Bool) (x124:Nat):adv F6 ((Z6 [99,122,142,19]).flat [8,9]) 20000 (pwnaI0 s n b (x124+1))=(bif ieq n.2.2.2.1 n.2.2.2.1 then (bif ieq n.2.2.1 n.2.2.1 then (bif ieq n.2.2.1 n.2.2.1 then (bif ieq s.2.1.1 s.2.1.1 then (bif ieq s.2.1.2.1 s.2.1.2.1 then some (.stop (pwnaI1 s n b (0) (0) (0) (false) (repl 32 [AV.bool false]) (1048575))) else none) else none) else none) else none) else none):=by kernel_rfl
theorem pwna_step1 (s:tSt.den) (n:tNi.den) (b:Bool) (x3:Int) (x50:Int) (x51:Int) (x52:Bool) (x53:List AV) (x98:Nat):adv F6 ((Z6 [99,122,142,19]).flat [8,9]) 20000 (pwnaI1 s n b x3 x50 x51 x52 x53 (x98+1))=(bif !ile (wr .i64 (wr .i64 (s.2.1.2.1-s.2.1.1)+1)) x3 then some (.stop (pwnaI3 s n b (x3) (0) (x50) (x51) (x52) (x53) (1048575) (x98+1))) else (bif isZs x53 (repl 32 [AV.bool false]) 0 then some (.stop (pwnaI6 s n b (x53) (0) (x50) (x51) (x52) (1048575))) else none)):=by kernel_rfl
theorem pwna_step3 (s:tSt.den) (n:tNi.den) (b:Bool) (x0:Int) (x10:Int) (x57:Int) (x58:Int) (x59:Bool) (x60:List AV) (x114:Nat) (x119:Nat):adv F6 ((Z6 [99,122,142,19]).flat [8,9]) 20000 (pwnaI3 s n b x0 x10 x57 x58 x59 x60 (x114+1) (x119+1))=(bif !ile (wr .i64 (wr .i64 (wr .i64 (wr .i64 (n.2.2.1+n.2.2.2.1)-1)-n.2.2.1)+1)) x10 then some (.stop (pwnaI5 s n b (x57) (x58) (x59) (x60) (wr .i64 (s.2.1.1+x0)) ((wr .i64 (n.2.2.1+x10)).tmod 32) (1048575) (x0) (x10) (wr .i64 (n.2.2.1+x10)) (x114+1) (x119+1))) else (bif plO (AO.cells false x60) then some (.stop (pwnaI1 s n b (wr .i64 (x0+1)) (x57) (x58) (x59) (x60) (x119))) else none)):=by kernel_rfl
theorem pwna_step5 (s:tSt.den) (n:tNi.den) (b:Bool) (x48:Int) (x49:Int) (x50:Bool) (x51:List AV) (x61:Int) (x62:Int) (x104:Nat) (x141:Int) (x142:Int) (x160:Int) (x209:Nat) (x214:Nat):adv F6 ((Z6 [99,122,142,19]).flat [8,9]) 20000 (pwnaI5 s n b x48 x49 x50 x51 x61 x62 (x104+1) x141 x142 x160 (x209+1) (x214+1))=(bif !x50 then (bif ieq x61 x61 then (bif ieq x61 x61 then (bif inB x62 32 then (bif (0+x62.toNat * 1+1).ble x51.length then (bif plO (AO.cells false (x51.set (0+x62.toNat * 1) (AV.bool true))) then some (.stop (pwnaI3 s n b (x141) (wr .i64 (x142+1)) (bif ile x61 x61 then x61 else x61) (bif ile x61 x61 then x61 else x61) (true) (x51.set (0+x62.toNat * 1) (AV.bool true)) (x209) (x214+1))) else none) else none) else none) else none) else none) else (bif ieq x49 x49 then (bif ieq x48 x48 then (bif inB x62 32 then (bif (0+x62.toNat * 1+1).ble x51.length then (bif plO (AO.cells false (x51.set (0+x62.toNat * 1) (AV.bool true))) then some (.stop (pwnaI3 s n b (x141) (wr .i64 (x142+1)) (bif ile x48 x61 then x48 else x61) (bif ile x61 x49 then x49 else x61) (x50) (x51.set (0+x62.toNat * 1) (AV.bool true)) (x209) (x214+1))) else none) else none) else none) else none) else none)):=by kernel_rfl
theorem pwna_step6 (s:tSt.den) (n:tNi.den) (b:Bool) (x32:List AV) (x33:Int) (x80:Int) (x81:Int) (x82:Bool) (x125:Nat):adv F6 ((Z6 [99,122,142,19]).flat [8,9]) 20000 (pwnaI6 s n b x32 x33 x80 x81 x82 (x125+1))=(bif !ile 32 x33 then (bif inB x33 32 then (bif isZs (asZs x32 (repl 32 [AV.bool false]) 0) [AV.bool false] (x33.toNat * 1) then (bif toB ((asZs x32 (repl 32 [AV.bool false]) 0).getD (x33.toNat * 1) AV.nili) then (bif plO (AO.cells false x32) then some (.stop (pwnaI7 s n b (1) (x32) (wr .i64 (x33+1)) (x80) (x81) (x82) ([AV.int IntKind.i64 x33]) (x125))) else none) else (bif plO (AO.cells false x32) then some (.stop (pwnaI6 s n b (x32) (wr .i64 (x33+1)) (x80) (x81) (x82) (x125))) else none)) else none) else none) else (bif x82 then (bif ieq x80 x80 then (bif ieq x81 x81 then (bif ieq x80 x80 then (bif ieq x81 x81 then some (.done (.tup [(.agg [(.int .i64 (x80)),(.int .i64 (x81))]),.nils,(.int .i64 (0))])) else none) else none) else none) else none) else (bif ieq x80 x80 then (bif ieq x81 x81 then (bif ieq x80 x80 then (bif ieq x81 x81 then some (.done (.tup [(.agg [(.int .i64 (x80)),(.int .i64 (x81))]),.nils,(.int .i64 (9))])) else none) else none) else none) else none))):=by kernel_rfl
theorem pwna_step7 (s:tSt.den) (n:tNi.den) (b:Bool) (x13:Nat) (x34:List AV) (x35:Int) (x82:Int) (x83:Int) (x84:Bool) (x93:List AV) (x128:Nat):adv F6 ((Z6 [99,122,142,19]).flat [8,9]) 20000 (pwnaI7 s n b x13 x34 x35 x82 x83 x84 x93 (x128+1))=(bif !ile 32 x35 then (bif inB x35 32 then (bif isZs (asZs x34 (repl 32 [AV.bool false]) 0) [AV.bool false] (x35.toNat * 1) then (bif toB ((asZs x34 (repl 32 [AV.bool false]) 0).getD (x35.toNat * 1) AV.nili) then (bif (0+x13 * 1).beq x93.length then (bif x13.ble 1048576 then (bif plO (AO.cells false (x93++[AV.int IntKind.i64 x35])) then (bif plO (AO.cells false x34) then some (.stop (pwnaI7 s n b (x13+1) (x34) (wr .i64 (x35+1)) (x82) (x83) (x84) (x93++[AV.int IntKind.i64 x35]) (x128))) else none) else none) else none) else none) else (bif plO (AO.cells false x93) then (bif plO (AO.cells false x34) then some (.stop (pwnaI7 s n b (x13) (x34) (wr .i64 (x35+1)) (x82) (x83) (x84) (x93) (x128))) else none) else none)) else none) else none) else (bif x84 then (bif ieq x82 x82 then (bif ieq x83 x83 then (bif ieq x82 x82 then (bif ieq x83 x83 then (bif plainL x93 then some (.done (.tup [(.agg [(.int .i64 (x82)),(.int .i64 (x83))]),(.csl (x93) (x13)),(.int .i64 (0))])) else none) else none) else none) else none) else none) else (bif ieq x82 x82 then (bif ieq x83 x83 then (bif ieq x82 x82 then (bif ieq x83 x83 then (bif plainL x93 then some (.done (.tup [(.agg [(.int .i64 (x82)),(.int .i64 (x83))]),(.csl (x93) (x13)),(.int .i64 (9))])) else none) else none) else none) else none) else none))):=by kernel_rfl
noncomputable def pwnbk0 (z0:tSt.den):AV:=(.agg [(.vs tGr (z0.1.1) (z0.1.2)),(iI (z0.2.1.1)),(iI (z0.2.1.2.1)),(iI (z0.2.2.1.1)),(iI (z0.2.2.1.2.1))])
noncomputable def pwnbk2 (z0:tNi.den):AV:=(.agg [(iI (z0.1.1)),(iI (z0.1.2.1)),(iI (z0.2.1)),(iI (z0.2.2.1)),(iI (z0.2.2.2.1))])
noncomputable def pwnbk12 (z0:tSt.den) (z1:tNi.den):AV:=(.agg [(.vs tGr (z0.1.1) (z0.1.2)),(iI (z0.2.1.1)),(iI (z0.2.1.2.1)),(iI (z0.2.2.1.1)),(iI (z0.2.2.1.2.1)),(iI (z1.1.1)),(iI (z1.1.2.1)),(iI (z1.2.1)),(iI (z1.2.2.1)),(iI (z1.2.2.2.1)),.nils])
noncomputable def pwnbQ0 (s:tSt.den) (n:tNi.den) (l:(Ty.sl tRe).den):Tmps:=(tmOf 37 [(0,(pwnbk0 s)),(1,(pwnbk2 n)),(2,(.vs tRe (l.1) (l.2))),(3,(pP 5 0)),(4,(pP 6 0)),(6,.nilp),(7,(pP 7 0)),(10,(pwnbk0 s)),(11,(pwnbk2 n)),(12,(pwnbk12 s n)),(13,(pP 7 0)),(14,(.vs tRe (l.1) (l.2))),(15,(iI (Int.ofNat l.2.length))),(16,(iI 0))])
noncomputable def pwnbQ1 (s:tSt.den) (n:tNi.den) (l:(Ty.sl tRe).den):Tmps:=(tmOf 41 [(0,(pwnbk0 s)),(1,(pwnbk2 n)),(2,(.vs tRe (l.1) (l.2))),(3,.nils),(4,(pP 3 0)),(5,(pP 4 0)),(8,.nilp),(9,(iI 0)),(10,(iI ((cknS s n l.2).1))),(11,(iI ((cknS s n l.2).2))),(15,(.tup [(iI ((cknS s n l.2).1)),(iI ((cknS s n l.2).2))])),(16,(pwnbk0 s)),(17,(pwnbk2 n)),(18,(.vs tRe (l.1) (l.2))),(19,(.tup [(iI ((cknS s n l.2).1)),(iI ((cknS s n l.2).2))])),(20,(iI ((cknS s n l.2).1))),(21,(iI ((cknS s n l.2).2))),(22,(iI ((cknS s n l.2).2))),(23,(.bool false)),(25,.nils),(26,(iI 0)),(27,(iI 0)),(28,(.bool false)),(37,(pwnbk0 s)),(38,(pwnbk2 n)),(39,(.vs tRe (l.1) (l.2)))])
noncomputable def pwnbQ2 (s:tSt.den) (n:tNi.den) (l:(Ty.sl tRe).den):Tmps:=(tmOf 55 [(0,(pwnbk0 s)),(1,(pwnbk2 n)),(2,(.vs tRe (l.1) (l.2))),(3,(pP 0 0)),(4,(pP 1 0)),(6,(pP 2 0)),(7,.nils),(8,(iI 0)),(18,(pwnbk0 s)),(19,(pwnbk2 n)),(20,(.vs tRe (l.1) (l.2)))])
noncomputable def pwnbk1 (z0:tSt.den):AO:=(cF [(.vs tGr (z0.1.1) (z0.1.2)),(iI (z0.2.1.1)),(iI (z0.2.1.2.1)),(iI (z0.2.2.1.1)),(iI (z0.2.2.1.2.1))])
noncomputable def pwnbk3 (z0:tNi.den):AO:=(cF [(iI (z0.1.1)),(iI (z0.1.2.1)),(iI (z0.2.1)),(iI (z0.2.2.1)),(iI (z0.2.2.2.1))])
noncomputable def pwnbk13 (z0:tSt.den) (z1:tNi.den):AO:=(cF [(.vs tGr (z0.1.1) (z0.1.2)),(iI (z0.2.1.1)),(iI (z0.2.1.2.1)),(iI (z0.2.2.1.1)),(iI (z0.2.2.1.2.1)),(iI (z1.1.1)),(iI (z1.1.2.1)),(iI (z1.2.1)),(iI (z1.2.2.1)),(iI (z1.2.2.2.1)),.nils])
noncomputable def pwnbk11:Fm:=(.cal [(.cell 6 24),(.tmp 7),(.tmp 8)] .top)
noncomputable def pwnbI0 (s:tSt.den) (n:tNi.den) (l:(Ty.sl tRe).den) (x124:Nat):Cfg:=⟨.ex (pcOf F6 99 [0,0,1,0,1,1]) ⟨(pwnbQ0 s n l),(hpOf 8 [(0,(pwnbk1 s)),(1,(pwnbk3 n)),(2,(cF [(iI 0),(iI 0)])),(3,(pwnbk1 s)),(4,(pwnbk3 n)),(5,(pwnbk1 s)),(6,(pwnbk3 n)),(7,(pwnbk13 s n))]),[],[],37,false⟩,⟨38,[]⟩,[(.lop (pcOf F6 99 [0,0,1,0,1,1]) 8 (pwnbQ0 s n l) x124),(.blk 0),(.seq (pcOf F6 99 [1,1,1])),(.cal [(.tmp 6)] (.op (pcOf F6 58 [0,1,1,1]) 4 (some 40) ((opsOf (pcOf F6 58 [0,1,1,1]).c).toList.drop 4) (pwnbQ1 s n l) [] 41 false ⟨39,[]⟩)),(.seq (pcOf F6 58 [1,1,1,1])),(.cal [(.tmp 8),(.tmp 9)] (.op (pcOf F6 19 [0,1]) 4 (some 21) ((opsOf (pcOf F6 19 [0,1]).c).toList.drop 4) (pwnbQ2 s n l) [] 55 false ⟨40,[]⟩)),(.seq (pcOf F6 19 [1,1])),(pwnbk11)]⟩
noncomputable def pwnbk10 (z0:tSt.den):AV:=(.agg [(iI (z0.2.1.1)),(iI (z0.2.1.2.1))])
noncomputable def pwnbk7 (z0:tSt.den):AV:=(iI (wr .i64 (wr .i64 (z0.2.1.2.1-z0.2.1.1)+1)))
noncomputable def pwnbQ3 (s:tSt.den):Tmps:=(tmOf 33 [(0,(.yld 17)),(1,(pP 14 0)),(2,(pP 15 0)),(3,(pP 16 0)),(7,(pwnbk10 s)),(8,(pwnbk7 s)),(9,(iI 0))])
noncomputable def pwnbk8 (z0:tSt.den):AO:=(cF [(iI (z0.2.1.1)),(iI (z0.2.1.2.1))])
noncomputable def pwnbk6 (z0:tNi.den):AV:=(iI (wr .i64 (wr .i64 (z0.2.2.1+z0.2.2.2.1)-1)))
noncomputable def pwnbQ4 (s:tSt.den) (n:tNi.den):Hp:=(hpOf 19 [(0,(pwnbk1 s)),(1,(pwnbk3 n)),(2,(cF [(iI 0),(iI 0)])),(3,(pwnbk1 s)),(4,(pwnbk3 n)),(5,(pwnbk1 s)),(6,(pwnbk3 n)),(7,(pwnbk13 s n)),(8,(cF [(iI 0),(iI 0),(.bool false)])),(9,(cF (repl 32 [AV.bool false]))),(10,(cF [(pP 7 0)])),(11,(cF [(.bool true)])),(13,(cF [(.yld 12)])),(14,(pwnbk8 s)),(15,(cF [(iI (n.2.2.1)),(pwnbk6 n)])),(16,(cF [(.fn 104 [] [])])),(18,(pwnbk8 s))])
noncomputable def pwnbQ5:Tmps:=(tmOf 24 [(0,(.yld 12)),(1,(pP 10 0)),(2,(pP 11 0)),(3,(pP 13 0)),(7,(pP 7 0)),(8,(.bool true)),(9,(.fn 142 [] [(pP 14 0),(pP 15 0),(pP 16 0)]))])
noncomputable def pwnbQ6 (s:tSt.den) (n:tNi.den) (l:(Ty.sl tRe).den):Tmps:=(tmOf 55 [(0,(pwnbk0 s)),(1,(pwnbk2 n)),(2,(.vs tRe (l.1) (l.2))),(3,(pP 0 0)),(4,(pP 1 0)),(6,(pP 2 0)),(7,.nils),(8,(iI 0)),(9,(pP 7 0)),(10,(pP 8 0)),(11,(pP 9 0)),(17,(.tup [(pP 7 0),(iI 0)])),(18,(pwnbk0 s)),(19,(pwnbk2 n)),(20,(.vs tRe (l.1) (l.2))),(21,(.tup [(pP 7 0),(iI 0)])),(22,(pP 7 0)),(23,(iI 0)),(24,(iI 0)),(25,(.bool false)),(28,(pP 7 0)),(29,(.fn 100 [] [(pP 10 0),(pP 11 0)]))])
noncomputable def pwnbI1 (s:tSt.den) (n:tNi.den) (l:(Ty.sl tRe).den) (x98:Nat):Cfg:=⟨.ex (pcOf F6 142 [0,0,1]) ⟨(pwnbQ3 s),(pwnbQ4 s n),[],[⟨false,.normal⟩,⟨false,.normal⟩],33,false⟩,⟨38,[⟨17,24,39,(pwnbQ5),#[10],(pcOf F6 100 [0,0,1,1,0,1]),(pcOf F6 100 [1,0,1,1,0,1])⟩,⟨12,55,40,(pwnbQ6 s n l),#[30],(pcOf F6 19 [0,0,1,0,1,1,1,1,1]),(pcOf F6 19 [1,0,1,0,1,1,1,1,1])⟩]⟩,[(.lop (pcOf F6 142 [0,0,1]) 19 (pwnbQ3 s) x98),(.blk 0),(.cal [] (.rng (pwnbQ5) [] 24 false ⟨39,[⟨12,55,40,(pwnbQ6 s n l),#[30],(pcOf F6 19 [0,0,1,0,1,1,1,1,1]),(pcOf F6 19 [1,0,1,0,1,1,1,1,1])⟩]⟩)),(.blk 0),(.cal [] (.rng (pwnbQ6 s n l) [] 55 false ⟨40,[]⟩)),(.blk 0),(.seq (pcOf F6 19 [1,1,1,1,1,1])),(pwnbk11)]⟩
noncomputable def pwnbk4 (z0:tSt.den) (z1:tNi.den) (z2:Nat):AO:=(cF [(.vs tGr (z0.1.1) (z0.1.2)),(iI (z0.2.1.1)),(iI (z0.2.1.2.1)),(iI (z0.2.2.1.1)),(iI (z0.2.2.1.2.1)),(iI (z1.1.1)),(iI (z1.1.2.1)),(iI (z1.2.1)),(iI (z1.2.2.1)),(iI (z1.2.2.2.1)),(.sl 8 0 z2 z2 6)])
noncomputable def pwnbI2 (s:tSt.den) (n:tNi.den) (l:(Ty.sl tRe).den) (x38:Int) (x85:Nat) (x87:List AV) (x127:Nat):Cfg:=⟨.ex (pcOf F6 99 [0,0,1,0,1,1]) ⟨(tmOf 37 [(0,(pwnbk0 s)),(1,(pwnbk2 n)),(2,(.vs tRe (l.1) (l.2))),(3,(pP 5 0)),(4,(pP 6 0)),(6,.nilp),(7,(pP 7 0)),(10,(pwnbk0 s)),(11,(pwnbk2 n)),(12,(pwnbk12 s n)),(13,(pP 7 0)),(14,(.vs tRe (l.1) (l.2))),(15,(iI (Int.ofNat l.2.length))),(16,(iI x38))]),(hpOf 9 [(0,(pwnbk1 s)),(1,(pwnbk3 n)),(2,(cF [(iI 0),(iI 0)])),(3,(pwnbk1 s)),(4,(pwnbk3 n)),(5,(pwnbk1 s)),(6,(pwnbk3 n)),(7,(pwnbk4 s n x85)),(8,(cF x87))]),[],[],37,false⟩,⟨38,[]⟩,[(.lop (pcOf F6 99 [0,0,1,0,1,1]) 8 (pwnbQ0 s n l) x127),(.blk 0),(.seq (pcOf F6 99 [1,1,1])),(.cal [(.tmp 6)] (.op (pcOf F6 58 [0,1,1,1]) 4 (some 40) ((opsOf (pcOf F6 58 [0,1,1,1]).c).toList.drop 4) (pwnbQ1 s n l) [] 41 false ⟨39,[]⟩)),(.seq (pcOf F6 58 [1,1,1,1])),(.cal [(.tmp 8),(.tmp 9)] (.op (pcOf F6 19 [0,1]) 4 (some 21) ((opsOf (pcOf F6 19 [0,1]).c).toList.drop 4) (pwnbQ2 s n l) [] 55 false ⟨40,[]⟩)),(.seq (pcOf F6 19 [1,1])),(pwnbk11)]⟩
noncomputable def pwnbk9 (z0:tNi.den):AV:=(iI (wr .i64 (wr .i64 (wr .i64 (wr .i64 (z0.2.2.1+z0.2.2.2.1)-1)-z0.2.2.1)+1)))
noncomputable def pwnbQ9 (s:tSt.den) (n:tNi.den) (y0:Nat) (y1:List AV) (y2:Int) (y3:Int) (y4:Bool) (y5:List AV):Hp:=(hpOf 20 [(0,(pwnbk1 s)),(1,(pwnbk3 n)),(2,(cF [(iI 0),(iI 0)])),(3,(pwnbk1 s)),(4,(pwnbk3 n)),(5,(pwnbk1 s)),(6,(pwnbk3 n)),(7,(pwnbk4 s n y0)),(8,(cF y1)),(9,(cF [(iI y2),(iI y3),(.bool y4)])),(10,(cF y5)),(11,(cF [(pP 7 0)])),(12,(cF [(.bool true)])),(14,(cF [(.yld 13)])),(15,(pwnbk8 s)),(16,(cF [(iI (n.2.2.1)),(pwnbk6 n)])),(17,(cF [(.fn 104 [] [])])),(19,(pwnbk8 s))])
noncomputable def pwnbQ10:Tmps:=(tmOf 24 [(0,(.yld 13)),(1,(pP 11 0)),(2,(pP 12 0)),(3,(pP 14 0)),(7,(pP 7 0)),(8,(.bool true)),(9,(.fn 142 [] [(pP 15 0),(pP 16 0),(pP 17 0)]))])
noncomputable def pwnbQ11 (s:tSt.den) (n:tNi.den) (l:(Ty.sl tRe).den):Tmps:=(tmOf 55 [(0,(pwnbk0 s)),(1,(pwnbk2 n)),(2,(.vs tRe (l.1) (l.2))),(3,(pP 0 0)),(4,(pP 1 0)),(6,(pP 2 0)),(7,.nils),(8,(iI 0)),(9,(pP 7 0)),(10,(pP 9 0)),(11,(pP 10 0)),(17,(.tup [(pP 7 0),(iI 0)])),(18,(pwnbk0 s)),(19,(pwnbk2 n)),(20,(.vs tRe (l.1) (l.2))),(21,(.tup [(pP 7 0),(iI 0)])),(22,(pP 7 0)),(23,(iI 0)),(24,(iI 0)),(25,(.bool false)),(28,(pP 7 0)),(29,(.fn 100 [] [(pP 11 0),(pP 12 0)]))])
noncomputable def pwnbQ12 (s:tSt.den):Tmps:=(tmOf 33 [(0,(.yld 18)),(1,(pP 15 0)),(2,(pP 16 0)),(3,(pP 17 0)),(7,(pwnbk10 s)),(8,(pwnbk7 s)),(9,(iI 0))])
noncomputable def pwnbk14:HD:=⟨18,24,39,(pwnbQ10),#[10],(pcOf F6 100 [0,0,1,1,0,1]),(pcOf F6 100 [1,0,1,1,0,1])⟩
noncomputable def pwnbk5 (z0:tSt.den) (z1:tNi.den) (z2:(Ty.sl tRe).den):HD:=⟨13,55,40,(pwnbQ11 z0 z1 z2),#[30],(pcOf F6 19 [0,0,1,0,1,1,1,1,1]),(pcOf F6 19 [1,0,1,0,1,1,1,1,1])⟩
noncomputable def pwnbI5 (s:tSt.den) (n:tNi.den) (l:(Ty.sl tRe).den) (x3:Int) (x50:Nat) (x52:List AV) (x53:Int) (x54:Int) (x55:Bool) (x56:List AV) (x101:Nat):Cfg:=⟨.ex (pcOf F6 142 [0,0,1]) ⟨(tmOf 33 [(0,(.yld 18)),(1,(pP 15 0)),(2,(pP 16 0)),(3,(pP 17 0)),(7,(pwnbk10 s)),(8,(pwnbk7 s)),(9,(iI x3))]),(pwnbQ9 s n x50 x52 x53 x54 x55 x56),[],[⟨false,.normal⟩,⟨false,.normal⟩],33,false⟩,⟨38,[(pwnbk14),(pwnbk5 s n l)]⟩,[(.lop (pcOf F6 142 [0,0,1]) 20 (pwnbQ12 s) x101),(.blk 0),(.cal [] (.rng (pwnbQ10) [] 24 false ⟨39,[(pwnbk5 s n l)]⟩)),(.blk 0),(.cal [] (.rng (pwnbQ11 s n l) [] 55 false ⟨40,[]⟩)),(.blk 0),(.seq (pcOf F6 19 [1,1,1,1,1,1])),(pwnbk11)]⟩
noncomputable def pwnbQ15 (s:tSt.den) (n:tNi.den) (y0:Int):Tmps:=(tmOf 33 [(0,(.yld 18)),(1,(pP 15 0)),(2,(pP 16 0)),(3,(pP 17 0)),(5,(iI y0)),(7,(pwnbk10 s)),(8,(pwnbk7 s)),(9,(iI y0)),(10,(.bool true)),(11,(iI y0)),(12,(.agg [(iI (n.2.2.1)),(pwnbk6 n)])),(13,(pwnbk9 n)),(14,(iI 0))])
noncomputable def pwnbI8 (s:tSt.den) (n:tNi.den) (l:(Ty.sl tRe).den) (x0:Int) (x10:Int) (x57:Nat) (x59:List AV) (x60:Int) (x61:Int) (x62:Bool) (x63:List AV) (x117:Nat) (x122:Nat):Cfg:=⟨.ex (pcOf F6 142 [0,0,1,1,0,0,1,1,0,0,1]) ⟨(tmOf 33 [(0,(.yld 18)),(1,(pP 15 0)),(2,(pP 16 0)),(3,(pP 17 0)),(5,(iI x0)),(7,(pwnbk10 s)),(8,(pwnbk7 s)),(9,(iI x0)),(10,(.bool true)),(11,(iI x0)),(12,(.agg [(iI (n.2.2.1)),(pwnbk6 n)])),(13,(pwnbk9 n)),(14,(iI x10))]),(hpOf 21 [(0,(pwnbk1 s)),(1,(pwnbk3 n)),(2,(cF [(iI 0),(iI 0)])),(3,(pwnbk1 s)),(4,(pwnbk3 n)),(5,(pwnbk1 s)),(6,(pwnbk3 n)),(7,(pwnbk4 s n x57)),(8,(cF x59)),(9,(cF [(iI x60),(iI x61),(.bool x62)])),(10,(cF x63)),(11,(cF [(pP 7 0)])),(12,(cF [(.bool true)])),(14,(cF [(.yld 13)])),(15,(pwnbk8 s)),(16,(cF [(iI (n.2.2.1)),(pwnbk6 n)])),(17,(cF [(.fn 104 [] [])])),(19,(pwnbk8 s)),(20,(cF [(iI (n.2.2.1)),(pwnbk6 n)]))]),[],[⟨false,.normal⟩,⟨false,.normal⟩],33,false⟩,⟨38,[(pwnbk14),(pwnbk5 s n l)]⟩,[(.lop (pcOf F6 142 [0,0,1,1,0,0,1,1,0,0,1]) 21 (pwnbQ15 s n x0) x117),(.blk 2),(.blk 1),(.seq (pcOf F6 142 [1,1,1,0,0,1])),(.lop (pcOf F6 142 [0,0,1]) 20 (pwnbQ12 s) x122),(.blk 0),(.cal [] (.rng (pwnbQ10) [] 24 false ⟨39,[(pwnbk5 s n l)]⟩)),(.blk 0),(.cal [] (.rng (pwnbQ11 s n l) [] 55 false ⟨40,[]⟩)),(.blk 0),(.seq (pcOf F6 19 [1,1,1,1,1,1])),(pwnbk11)]⟩
noncomputable def pwnbQ16 (y0:Int) (y1:Int):Tmps:=(tmOf 24 [(0,(.yld 13)),(1,(pP 11 0)),(2,(pP 12 0)),(3,(pP 14 0)),(4,(pP 22 0)),(7,(pP 7 0)),(8,(.bool true)),(9,(.fn 142 [] [(pP 15 0),(pP 16 0),(pP 17 0)])),(10,(.ifc 177 (.agg [(iI y0),(iI y1)]))),(11,(pP 7 0)),(12,(.bool true)),(13,(.fn 122 [] [(pP 23 0),(pP 24 0)]))])
noncomputable def pwnbI10 (s:tSt.den) (n:tNi.den) (l:(Ty.sl tRe).den) (x0:Nat) (x2:Int) (x3:Int) (x52:List AV) (x53:Int) (x54:Int) (x55:Bool) (x56:List AV) (x66:Int) (x67:Int) (x111:Nat) (x148:Int) (x149:Int) (x167:Int) (x216:Nat) (x221:Nat):Cfg:=⟨.ex (pcOf F6 122 [0,0,1]) ⟨(tmOf 29 [(0,(.yld 25)),(1,(pP 23 0)),(2,(pP 24 0)),(6,(pP 7 0)),(7,(pP 7 0)),(8,(pP 7 10)),(9,(.sl 8 0 x0 x0 6)),(10,(iI x2)),(11,(iI x3))]),(hpOf 26 [(0,(pwnbk1 s)),(1,(pwnbk3 n)),(2,(cF [(iI 0),(iI 0)])),(3,(pwnbk1 s)),(4,(pwnbk3 n)),(5,(pwnbk1 s)),(6,(pwnbk3 n)),(7,(pwnbk4 s n x0)),(8,(cF x52)),(9,(cF [(iI x53),(iI x54),(.bool x55)])),(10,(cF x56)),(11,(cF [(pP 7 0)])),(12,(cF [(.bool true)])),(14,(cF [(.yld 13)])),(15,(pwnbk8 s)),(16,(cF [(iI (n.2.2.1)),(pwnbk6 n)])),(17,(cF [(.fn 104 [] [])])),(19,(pwnbk8 s)),(20,(cF [(iI (n.2.2.1)),(pwnbk6 n)])),(21,(cF [(iI x66),(iI x67)])),(22,(cF [(.ifc 177 (.agg [(iI x66),(iI x67)]))])),(23,(cF [(pP 7 0)])),(24,(cF [(.bool true)]))]),[],[⟨false,.normal⟩,⟨false,.normal⟩],29,false⟩,⟨38,[⟨25,24,39,(pwnbQ16 x66 x67),#[14,15],(pcOf F6 100 [0,0,1,0,0,1,0,1,1,0,1]),(pcOf F6 100 [1,0,1,0,0,1,0,1,1,0,1])⟩,(pwnbk5 s n l)]⟩,[(.lop (pcOf F6 122 [0,0,1]) 26 (tmOf 29 [(0,(.yld 25)),(1,(pP 23 0)),(2,(pP 24 0)),(6,(pP 7 0)),(7,(pP 7 0)),(8,(pP 7 10)),(9,(.sl 8 0 x0 x0 6)),(10,(iI x2)),(11,(iI 0))]) x111),(.blk 0),(.cal [] (.rng (pwnbQ16 x66 x67) [] 24 true ⟨39,[(pwnbk5 s n l)]⟩)),(.blk 2),(.seq (pcOf F6 100 [1,0,1,0,1,1,0,1])),(.blk 1),(.rnd [] (.op (pcOf F6 142 [0,1,0,0,1,1,0,0,1,1,0,0,1,1,0,0,1]) 13 (some 29) ((opsOf (pcOf F6 142 [0,1,0,0,1,1,0,0,1,1,0,0,1,1,0,0,1]).c).toList.drop 13) (tmOf 33 [(0,(.yld 18)),(1,(pP 15 0)),(2,(pP 16 0)),(3,(pP 17 0)),(5,(iI x148)),(6,(iI x149)),(7,(pwnbk10 s)),(8,(pwnbk7 s)),(9,(iI x148)),(10,(.bool true)),(11,(iI x148)),(12,(.agg [(iI (n.2.2.1)),(pwnbk6 n)])),(13,(pwnbk9 n)),(14,(iI x149)),(15,(.bool true)),(16,(iI x149)),(17,(.yld 18)),(18,(.fn 104 [] [])),(19,(pP 15 0)),(20,(iI (s.2.1.1))),(21,(iI x148)),(22,(iI x66)),(23,(pP 16 0)),(24,(iI (n.2.2.1))),(25,(iI x149)),(26,(iI x167)),(27,(.agg [(iI x66),(iI x67)])),(28,(.ifc 177 (.agg [(iI x66),(iI x67)])))]) [] 33 false ⟨38,[(pwnbk14),(pwnbk5 s n l)]⟩)),(.seq (pcOf F6 142 [1,1,0,0,1,1,0,0,1,1,0,0,1,1,0,0,1])),(.blk 3),(.seq (pcOf F6 142 [1,1,1,0,0,1,1,0,0,1,1,0,0,1])),(.lop (pcOf F6 142 [0,0,1,1,0,0,1,1,0,0,1]) 21 (pwnbQ15 s n x148) x216),(.blk 2),(.blk 1),(.seq (pcOf F6 142 [1,1,1,0,0,1])),(.lop (pcOf F6 142 [0,0,1]) 20 (pwnbQ12 s) x221),(.blk 0),(.cal [] (.rng (pwnbQ10) [] 24 false ⟨39,[(pwnbk5 s n l)]⟩)),(.blk 0),(.cal [] (.rng (pwnbQ11 s n l) [] 55 false ⟨40,[]⟩)),(.blk 0),(.seq (pcOf F6 19 [1,1,1,1,1,1])),(pwnbk11)]⟩
noncomputable def pwnbQ17 (s:tSt.den) (n:tNi.den) (l:(Ty.sl tRe).den) (y0:List AV):Tmps:=(tmOf 55 [(0,(pwnbk0 s)),(1,(pwnbk2 n)),(2,(.vs tRe (l.1) (l.2))),(3,(pP 0 0)),(4,(pP 1 0)),(6,(pP 2 0)),(7,.nils),(8,(iI 0)),(9,(pP 7 0)),(10,(pP 9 0)),(11,(pP 10 0)),(17,(.tup [(pP 7 0),(iI 0)])),(18,(pwnbk0 s)),(19,(pwnbk2 n)),(20,(.vs tRe (l.1) (l.2))),(21,(.tup [(pP 7 0),(iI 0)])),(22,(pP 7 0)),(23,(iI 0)),(24,(iI 0)),(25,(.bool false)),(28,(pP 7 0)),(29,(.fn 100 [] [(pP 11 0),(pP 12 0)])),(40,(.agg (asZs y0 (repl 32 [AV.bool false]) 0))),(41,(iI 0))])
noncomputable def pwnbI11 (s:tSt.den) (n:tNi.den) (l:(Ty.sl tRe).den) (x32:List AV) (x33:Int) (x80:Nat) (x82:List AV) (x83:Int) (x84:Int) (x85:Bool) (x128:Nat):Cfg:=⟨.ex (pcOf F6 19 [0,0,1,0,1,1,1,1,1,1]) ⟨(tmOf 55 [(0,(pwnbk0 s)),(1,(pwnbk2 n)),(2,(.vs tRe (l.1) (l.2))),(3,(pP 0 0)),(4,(pP 1 0)),(6,(pP 2 0)),(7,.nils),(8,(iI 0)),(9,(pP 7 0)),(10,(pP 9 0)),(11,(pP 10 0)),(17,(.tup [(pP 7 0),(iI 0)])),(18,(pwnbk0 s)),(19,(pwnbk2 n)),(20,(.vs tRe (l.1) (l.2))),(21,(.tup [(pP 7 0),(iI 0)])),(22,(pP 7 0)),(23,(iI 0)),(24,(iI 0)),(25,(.bool false)),(28,(pP 7 0)),(29,(.fn 100 [] [(pP 11 0),(pP 12 0)])),(40,(.agg (asZs x32 (repl 32 [AV.bool false]) 0))),(41,(iI x33))]),(pwnbQ9 s n x80 x82 x83 x84 x85 x32),[],[],55,false⟩,⟨40,[]⟩,[(.lop (pcOf F6 19 [0,0,1,0,1,1,1,1,1,1]) 20 (pwnbQ17 s n l x32) x128),(.blk 2),(.seq (pcOf F6 19 [1,1,1,1,1,1,1])),(pwnbk11)]⟩
noncomputable def pwnbI12 (s:tSt.den) (n:tNi.den) (l:(Ty.sl tRe).den) (x13:Nat) (x34:List AV) (x35:Int) (x82:Nat) (x84:List AV) (x85:Int) (x86:Int) (x87:Bool) (x96:List AV) (x131:Nat):Cfg:=⟨.ex (pcOf F6 19 [0,0,1,0,1,1,1,1,1,1]) ⟨(tmOf 55 [(0,(pwnbk0 s)),(1,(pwnbk2 n)),(2,(.vs tRe (l.1) (l.2))),(3,(pP 0 0)),(4,(pP 1 0)),(6,(pP 2 0)),(7,(.sl 20 0 x13 x13 1)),(8,(iI 0)),(9,(pP 7 0)),(10,(pP 9 0)),(11,(pP 10 0)),(17,(.tup [(pP 7 0),(iI 0)])),(18,(pwnbk0 s)),(19,(pwnbk2 n)),(20,(.vs tRe (l.1) (l.2))),(21,(.tup [(pP 7 0),(iI 0)])),(22,(pP 7 0)),(23,(iI 0)),(24,(iI 0)),(25,(.bool false)),(28,(pP 7 0)),(29,(.fn 100 [] [(pP 11 0),(pP 12 0)])),(40,(.agg (asZs x34 (repl 32 [AV.bool false]) 0))),(41,(iI x35))]),(hpOf 21 [(0,(pwnbk1 s)),(1,(pwnbk3 n)),(2,(cF [(iI 0),(iI 0)])),(3,(pwnbk1 s)),(4,(pwnbk3 n)),(5,(pwnbk1 s)),(6,(pwnbk3 n)),(7,(pwnbk4 s n x82)),(8,(cF x84)),(9,(cF [(iI x85),(iI x86),(.bool x87)])),(10,(cF x34)),(11,(cF [(pP 7 0)])),(12,(cF [(.bool true)])),(14,(cF [(.yld 13)])),(15,(pwnbk8 s)),(16,(cF [(iI (n.2.2.1)),(pwnbk6 n)])),(17,(cF [(.fn 104 [] [])])),(19,(pwnbk8 s)),(20,(cF x96))]),[],[],55,false⟩,⟨40,[]⟩,[(.lop (pcOf F6 19 [0,0,1,0,1,1,1,1,1,1]) 20 (pwnbQ17 s n l x34) x131),(.blk 2),(.seq (pcOf F6 19 [1,1,1,1,1,1,1])),(pwnbk11)]⟩
theorem pwnb_start (s:tSt.den) (n:tNi.den) (l:(Ty.sl tRe).den):adv F6 ((Z6 [99,122,142,19]).flat [8,10]) 20000 (startC F6 19 [tSt.av s,tNi.av n,.vs tRe l.1 l.2] 40)=(bif !ieq (cknS s n l.2).2 0 then (bif !ieq (cknS s n l.2).2 0 then some (.done (.tup [(.agg [(.int .i64 (0)),(.int .i64 (0))]),.nils,(.int .i64 ((cknS s n l.2).2))])) else none) else some (.stop (pwnbI0 s n l (1048575)))):=by kernel_rfl
theorem pwnb_step0 (s:tSt.den) (n:tNi.den) (l:(Ty.sl tRe).den) (x124:Nat):adv F6 ((Z6 [99,122,142,19]).flat [8,10]) 20000 (pwnbI0 s n l (x124+1))=(bif !ile (Int.ofNat l.2.length) 0 then (bif inB 0 l.2.length then (bif nrB (wr .i64 ((l.2.getD (Int.toNat 0) tRe.dflt).1.1-n.1.1)) (wr .i64 ((l.2.getD (Int.toNat 0) tRe.dflt).1.2.1-n.1.2.1)) then (bif ieq n.1.2.1 n.1.2.1 then (bif ieq (l.2.getD (Int.toNat 0) tRe.dflt).1.2.1 (l.2.getD (Int.toNat 0) tRe.dflt).1.2.1 then (bif ieq n.1.1 n.1.1 then (bif ieq (l.2.getD (Int.toNat 0) tRe.dflt).1.1 (l.2.getD (Int.toNat 0) tRe.dflt).1.1 then (bif ieq (l.2.getD (Int.toNat 0) tRe.dflt).1.1 (l.2.getD (Int.toNat 0) tRe.dflt).1.1 then (bif ieq (l.2.getD (Int.toNat 0) tRe.dflt).1.2.1 (l.2.getD (Int.toNat 0) tRe.dflt).1.2.1 then (bif ieq (l.2.getD (Int.toNat 0) tRe.dflt).1.1 (l.2.getD (Int.toNat 0) tRe.dflt).1.1 then (bif ieq (l.2.getD (Int.toNat 0) tRe.dflt).1.2.1 (l.2.getD (Int.toNat 0) tRe.dflt).1.2.1 then (bif bbeq (l.2.getD (Int.toNat 0) tRe.dflt).2.1 (l.2.getD (Int.toNat 0) tRe.dflt).2.1 then (bif bbeq (l.2.getD (Int.toNat 0) tRe.dflt).2.2.1 (l.2.getD (Int.toNat 0) tRe.dflt).2.2.1 then (bif ieq (l.2.getD (Int.toNat 0) tRe.dflt).1.1 (l.2.getD (Int.toNat 0) tRe.dflt).1.1 then (bif ieq (l.2.getD (Int.toNat 0) tRe.dflt).1.2.1 (l.2.getD (Int.toNat 0) tRe.dflt).1.2.1 then (bif bbeq (l.2.getD (Int.toNat 0) tRe.dflt).2.1 (l.2.getD (Int.toNat 0) tRe.dflt).2.1 then (bif bbeq (l.2.getD (Int.toNat 0) tRe.dflt).2.2.1 (l.2.getD (Int.toNat 0) tRe.dflt).2.2.1 then some (.stop (pwnbI2 s n l (1) (1) ([AV.int IntKind.i64 (l.2.getD (Int.toNat 0) tRe.dflt).1.1,AV.int IntKind.i64 (l.2.getD (Int.toNat 0) tRe.dflt).1.2.1,AV.bool (l.2.getD (Int.toNat 0) tRe.dflt).2.1,AV.bool (l.2.getD (Int.toNat 0) tRe.dflt).2.2.1,AV.int IntKind.i64 (wr .i64 ((l.2.getD (Int.toNat 0) tRe.dflt).1.1-n.1.1) * wr .i64 ((l.2.getD (Int.toNat 0) tRe.dflt).1.1-n.1.1)+wr .i64 ((l.2.getD (Int.toNat 0) tRe.dflt).1.2.1-n.1.2.1) * wr .i64 ((l.2.getD (Int.toNat 0) tRe.dflt).1.2.1-n.1.2.1)),AV.int IntKind.i64 (ptF (wr .i64 ((l.2.getD (Int.toNat 0) tRe.dflt).1.1-n.1.1)) (wr .i64 ((l.2.getD (Int.toNat 0) tRe.dflt).1.2.1-n.1.2.1)))]) (x124))) else none) else none) else none) else none) else none) else none) else none) else none) else none) else none) else none) else none) else none) else none) else none) else none) else (bif ieq n.2.2.2.1 n.2.2.2.1 then (bif ieq n.2.2.1 n.2.2.1 then (bif ieq n.2.2.1 n.2.2.1 then (bif ieq s.2.1.1 s.2.1.1 then (bif ieq s.2.1.2.1 s.2.1.2.1 then some (.stop (pwnbI1 s n l (1048575))) else none) else none) else none) else none) else none)):=by kernel_rfl
theorem pwnb_step2 (s:tSt.den) (n:tNi.den) (l:(Ty.sl tRe).den) (x38:Int) (x85:Nat) (x87:List AV) (x127:Nat):adv F6 ((Z6 [99,122,142,19]).flat [8,10]) 20000 (pwnbI2 s n l x38 x85 x87 (x127+1))=(bif !ile (Int.ofNat l.2.length) x38 then (bif inB x38 l.2.length then (bif nrB (wr .i64 ((l.2.getD x38.toNat tRe.dflt).1.1-n.1.1)) (wr .i64 ((l.2.getD x38.toNat tRe.dflt).1.2.1-n.1.2.1)) then (bif ieq n.1.2.1 n.1.2.1 then (bif ieq (l.2.getD x38.toNat tRe.dflt).1.2.1 (l.2.getD x38.toNat tRe.dflt).1.2.1 then (bif ieq n.1.1 n.1.1 then (bif ieq (l.2.getD x38.toNat tRe.dflt).1.1 (l.2.getD x38.toNat tRe.dflt).1.1 then (bif (0+x85 * 6).beq x87.length then (bif x85.ble 1048576 then (bif ieq (l.2.getD x38.toNat tRe.dflt).1.1 (l.2.getD x38.toNat tRe.dflt).1.1 then (bif ieq (l.2.getD x38.toNat tRe.dflt).1.2.1 (l.2.getD x38.toNat tRe.dflt).1.2.1 then (bif ieq (l.2.getD x38.toNat tRe.dflt).1.1 (l.2.getD x38.toNat tRe.dflt).1.1 then (bif ieq (l.2.getD x38.toNat tRe.dflt).1.2.1 (l.2.getD x38.toNat tRe.dflt).1.2.1 then (bif bbeq (l.2.getD x38.toNat tRe.dflt).2.1 (l.2.getD x38.toNat tRe.dflt).2.1 then (bif bbeq (l.2.getD x38.toNat tRe.dflt).2.2.1 (l.2.getD x38.toNat tRe.dflt).2.2.1 then (bif ieq (l.2.getD x38.toNat tRe.dflt).1.1 (l.2.getD x38.toNat tRe.dflt).1.1 then (bif ieq (l.2.getD x38.toNat tRe.dflt).1.2.1 (l.2.getD x38.toNat tRe.dflt).1.2.1 then (bif bbeq (l.2.getD x38.toNat tRe.dflt).2.1 (l.2.getD x38.toNat tRe.dflt).2.1 then (bif bbeq (l.2.getD x38.toNat tRe.dflt).2.2.1 (l.2.getD x38.toNat tRe.dflt).2.2.1 then (bif avbeq (AV.sl 8 0 x85 x85 6) (AV.sl 8 0 x85 x85 6) then (bif avbeq (AV.sl 8 0 x85 x85 6) (AV.sl 8 0 x85 x85 6) then (bif plO (AO.cells false (x87++[AV.int IntKind.i64 (l.2.getD x38.toNat tRe.dflt).1.1,AV.int IntKind.i64 (l.2.getD x38.toNat tRe.dflt).1.2.1,AV.bool (l.2.getD x38.toNat tRe.dflt).2.1,AV.bool (l.2.getD x38.toNat tRe.dflt).2.2.1,AV.int IntKind.i64 (wr .i64 ((l.2.getD x38.toNat tRe.dflt).1.1-n.1.1) * wr .i64 ((l.2.getD x38.toNat tRe.dflt).1.1-n.1.1)+wr .i64 ((l.2.getD x38.toNat tRe.dflt).1.2.1-n.1.2.1) * wr .i64 ((l.2.getD x38.toNat tRe.dflt).1.2.1-n.1.2.1)),AV.int IntKind.i64 (ptF (wr .i64 ((l.2.getD x38.toNat tRe.dflt).1.1-n.1.1)) (wr .i64 ((l.2.getD x38.toNat tRe.dflt).1.2.1-n.1.2.1)))])) then some (.stop (pwnbI2 s n l (wr .i64 (x38+1)) (x85+1) (x87++[AV.int IntKind.i64 (l.2.getD x38.toNat tRe.dflt).1.1,AV.int IntKind.i64 (l.2.getD x38.toNat tRe.dflt).1.2.1,AV.bool (l.2.getD x38.toNat tRe.dflt).2.1,AV.bool (l.2.getD x38.toNat tRe.dflt).2.2.1,AV.int IntKind.i64 (wr .i64 ((l.2.getD x38.toNat tRe.dflt).1.1-n.1.1) * wr .i64 ((l.2.getD x38.toNat tRe.dflt).1.1-n.1.1)+wr .i64 ((l.2.getD x38.toNat tRe.dflt).1.2.1-n.1.2.1) * wr .i64 ((l.2.getD x38.toNat tRe.dflt).1.2.1-n.1.2.1)),AV.int IntKind.i64 (ptF (wr .i64 ((l.2.getD x38.toNat tRe.dflt).1.1-n.1.1)) (wr .i64 ((l.2.getD x38.toNat tRe.dflt).1.2.1-n.1.2.1)))]) (x127))) else none) else none) else none) else none) else none) else none) else none) else none) else none) else none) else none) else none) else none) else none) else none) else none) else none) else none) else none) else none) else none) else (bif ieq n.2.2.2.1 n.2.2.2.1 then (bif ieq n.2.2.1 n.2.2.1 then (bif ieq n.2.2.1 n.2.2.1 then (bif ieq s.2.1.1 s.2.1.1 then (bif ieq s.2.1.2.1 s.2.1.2.1 then some (.stop (pwnbI5 s n l (0) (x85) (x87) (0) (0) (false) (repl 32 [AV.bool false]) (1048575))) else none) else none) else none) else none) else none)):=by kernel_rfl
theorem pwnb_step5 (s:tSt.den) (n:tNi.den) (l:(Ty.sl tRe).den) (x3:Int) (x50:Nat) (x52:List AV) (x53:Int) (x54:Int) (x55:Bool) (x56:List AV) (x101:Nat):adv F6 ((Z6 [99,122,142,19]).flat [8,10]) 20000 (pwnbI5 s n l x3 x50 x52 x53 x54 x55 x56 (x101+1))=(bif !ile (wr .i64 (wr .i64 (s.2.1.2.1-s.2.1.1)+1)) x3 then some (.stop (pwnbI8 s n l (x3) (0) (x50) (x52) (x53) (x54) (x55) (x56) (1048575) (x101+1))) else (bif isZs x56 (repl 32 [AV.bool false]) 0 then some (.stop (pwnbI11 s n l (x56) (0) (x50) (x52) (x53) (x54) (x55) (1048575))) else none)):=by kernel_rfl
theorem pwnb_step8 (s:tSt.den) (n:tNi.den) (l:(Ty.sl tRe).den) (x0:Int) (x10:Int) (x57:Nat) (x59:List AV) (x60:Int) (x61:Int) (x62:Bool) (x63:List AV) (x117:Nat) (x122:Nat):adv F6 ((Z6 [99,122,142,19]).flat [8,10]) 20000 (pwnbI8 s n l x0 x10 x57 x59 x60 x61 x62 x63 (x117+1) (x122+1))=(bif !ile (wr .i64 (wr .i64 (wr .i64 (wr .i64 (n.2.2.1+n.2.2.2.1)-1)-n.2.2.1)+1)) x10 then some (.stop (pwnbI10 s n l (x57) (Int.ofNat x57) (0) (x59) (x60) (x61) (x62) (x63) (wr .i64 (s.2.1.1+x0)) ((wr .i64 (n.2.2.1+x10)).tmod 32) (1048575) (x0) (x10) (wr .i64 (n.2.2.1+x10)) (x117+1) (x122+1))) else (bif plO (AO.cells false x63) then (bif plO (AO.cells false x59) then some (.stop (pwnbI5 s n l (wr .i64 (x0+1)) (x57) (x59) (x60) (x61) (x62) (x63) (x122))) else none) else none)):=by kernel_rfl
theorem pwnb_step10 (s:tSt.den) (n:tNi.den) (l:(Ty.sl tRe).den) (x0:Nat) (x2:Int) (x3:Int) (x52:List AV) (x53:Int) (x54:Int) (x55:Bool) (x56:List AV) (x66:Int) (x67:Int) (x111:Nat) (x148:Int) (x149:Int) (x167:Int) (x216:Nat) (x221:Nat):adv F6 ((Z6 [99,122,142,19]).flat [8,10]) 20000 (pwnbI10 s n l x0 x2 x3 x52 x53 x54 x55 x56 x66 x67 (x111+1) x148 x149 x167 (x216+1) (x221+1))=(bif !ile x2 x3 then (bif inB x3 x0 then (bif isZs x52 [AV.int IntKind.i64 0,AV.int IntKind.i64 0,AV.bool false,AV.bool false,AV.int IntKind.i64 0,AV.int IntKind.i64 0] (0+x3.toNat * 6) then (bif toB (x52.getD (0+x3.toNat * 6+1+1) AV.nili) == true then (bif hcB x66 x67 (toI (x52.getD (0+x3.toNat * 6+1+1+1+1+1) AV.nili)) then (bif ieq (toI (x52.getD (0+x3.toNat * 6+1+1+1+1) AV.nili)) (toI (x52.getD (0+x3.toNat * 6+1+1+1+1) AV.nili)) then (bif ieq (toI (x52.getD (0+x3.toNat * 6+1+1+1+1+1) AV.nili)) (toI (x52.getD (0+x3.toNat * 6+1+1+1+1+1) AV.nili)) then (bif bbeq (toB (x52.getD (0+x3.toNat * 6+1+1+1) AV.nili)) (toB (x52.getD (0+x3.toNat * 6+1+1+1) AV.nili)) then (bif bbeq (toB (x52.getD (0+x3.toNat * 6+1+1+1) AV.nili)) (toB (x52.getD (0+x3.toNat * 6+1+1+1) AV.nili)) then (bif !toB (x52.getD (0+x3.toNat * 6+1+1+1) AV.nili) == hrdF x66 x67 (toI (x52.getD (0+x3.toNat * 6+1+1+1+1) AV.nili)) (toI (x52.getD (0+x3.toNat * 6+1+1+1+1+1) AV.nili)) then (bif plO (AO.cells false x56) then (bif plO (AO.cells false x52) then some (.stop (pwnbI8 s n l (x148) (wr .i64 (x149+1)) (x0) (x52) (x53) (x54) (x55) (x56) (x216) (x221+1))) else none) else none) else (bif plO (AO.cells false x56) then (bif plO (AO.cells false x52) then some (.stop (pwnbI10 s n l (x0) (x2) (wr .i64 (x3+1)) (x52) (x53) (x54) (x55) (x56) (x66) (x67) (x111) (x148) (x149) (x167) (x216+1) (x221+1))) else none) else none)) else none) else none) else none) else none) else none) else (bif plO (AO.cells false x56) then (bif plO (AO.cells false x52) then some (.stop (pwnbI10 s n l (x0) (x2) (wr .i64 (x3+1)) (x52) (x53) (x54) (x55) (x56) (x66) (x67) (x111) (x148) (x149) (x167) (x216+1) (x221+1))) else none) else none)) else none) else none) else (bif !x55 then (bif ieq x66 x66 then (bif ieq x66 x66 then (bif inB x67 32 then (bif (0+x67.toNat * 1+1).ble x56.length then (bif plO (AO.cells false (x56.set (0+x67.toNat * 1) (AV.bool true))) then (bif plO (AO.cells false x52) then some (.stop (pwnbI8 s n l (x148) (wr .i64 (x149+1)) (x0) (x52) (bif ile x66 x66 then x66 else x66) (bif ile x66 x66 then x66 else x66) (true) (x56.set (0+x67.toNat * 1) (AV.bool true)) (x216) (x221+1))) else none) else none) else none) else none) else none) else none) else (bif ieq x54 x54 then (bif ieq x53 x53 then (bif inB x67 32 then (bif (0+x67.toNat * 1+1).ble x56.length then (bif plO (AO.cells false (x56.set (0+x67.toNat * 1) (AV.bool true))) then (bif plO (AO.cells false x52) then some (.stop (pwnbI8 s n l (x148) (wr .i64 (x149+1)) (x0) (x52) (bif ile x53 x66 then x53 else x66) (bif ile x66 x54 then x54 else x66) (x55) (x56.set (0+x67.toNat * 1) (AV.bool true)) (x216) (x221+1))) else none) else none) else none) else none) else none) else none))):=by kernel_rfl
theorem pwnb_step11 (s:tSt.den) (n:tNi.den) (l:(Ty.sl tRe).den) (x32:List AV) (x33:Int) (x80:Nat) (x82:List AV) (x83:Int) (x84:Int) (x85:Bool) (x128:Nat):adv F6 ((Z6 [99,122,142,19]).flat [8,10]) 20000 (pwnbI11 s n l x32 x33 x80 x82 x83 x84 x85 (x128+1))=(bif !ile 32 x33 then (bif inB x33 32 then (bif isZs (asZs x32 (repl 32 [AV.bool false]) 0) [AV.bool false] (x33.toNat * 1) then (bif toB ((asZs x32 (repl 32 [AV.bool false]) 0).getD (x33.toNat * 1) AV.nili) then (bif plO (AO.cells false x32) then (bif plO (AO.cells false x82) then some (.stop (pwnbI12 s n l (1) (x32) (wr .i64 (x33+1)) (x80) (x82) (x83) (x84) (x85) ([AV.int IntKind.i64 x33]) (x128))) else none) else none) else (bif plO (AO.cells false x32) then (bif plO (AO.cells false x82) then some (.stop (pwnbI11 s n l (x32) (wr .i64 (x33+1)) (x80) (x82) (x83) (x84) (x85) (x128))) else none) else none)) else none) else none) else (bif x85 then (bif ieq x83 x83 then (bif ieq x84 x84 then (bif ieq x83 x83 then (bif ieq x84 x84 then some (.done (.tup [(.agg [(.int .i64 (x83)),(.int .i64 (x84))]),.nils,(.int .i64 (0))])) else none) else none) else none) else none) else (bif ieq x83 x83 then (bif ieq x84 x84 then (bif ieq x83 x83 then (bif ieq x84 x84 then some (.done (.tup [(.agg [(.int .i64 (x83)),(.int .i64 (x84))]),.nils,(.int .i64 (9))])) else none) else none) else none) else none))):=by kernel_rfl
theorem pwnb_step12 (s:tSt.den) (n:tNi.den) (l:(Ty.sl tRe).den) (x13:Nat) (x34:List AV) (x35:Int) (x82:Nat) (x84:List AV) (x85:Int) (x86:Int) (x87:Bool) (x96:List AV) (x131:Nat):adv F6 ((Z6 [99,122,142,19]).flat [8,10]) 20000 (pwnbI12 s n l x13 x34 x35 x82 x84 x85 x86 x87 x96 (x131+1))=(bif !ile 32 x35 then (bif inB x35 32 then (bif isZs (asZs x34 (repl 32 [AV.bool false]) 0) [AV.bool false] (x35.toNat * 1) then (bif toB ((asZs x34 (repl 32 [AV.bool false]) 0).getD (x35.toNat * 1) AV.nili) then (bif (0+x13 * 1).beq x96.length then (bif x13.ble 1048576 then (bif plO (AO.cells false (x96++[AV.int IntKind.i64 x35])) then (bif plO (AO.cells false x34) then (bif plO (AO.cells false x84) then some (.stop (pwnbI12 s n l (x13+1) (x34) (wr .i64 (x35+1)) (x82) (x84) (x85) (x86) (x87) (x96++[AV.int IntKind.i64 x35]) (x131))) else none) else none) else none) else none) else none) else (bif plO (AO.cells false x96) then (bif plO (AO.cells false x34) then (bif plO (AO.cells false x84) then some (.stop (pwnbI12 s n l (x13) (x34) (wr .i64 (x35+1)) (x82) (x84) (x85) (x86) (x87) (x96) (x131))) else none) else none) else none)) else none) else none) else (bif x87 then (bif ieq x85 x85 then (bif ieq x86 x86 then (bif ieq x85 x85 then (bif ieq x86 x86 then (bif plainL x96 then some (.done (.tup [(.agg [(.int .i64 (x85)),(.int .i64 (x86))]),(.csl (x96) (x13)),(.int .i64 (0))])) else none) else none) else none) else none) else none) else (bif ieq x85 x85 then (bif ieq x86 x86 then (bif ieq x85 x85 then (bif ieq x86 x86 then (bif plainL x96 then some (.done (.tup [(.agg [(.int .i64 (x85)),(.int .i64 (x86))]),(.csl (x96) (x13)),(.int .i64 (9))])) else none) else none) else none) else none) else none))):=by kernel_rfl
section
variable {s:tSt.den} {n:tNi.den} {b:Bool}
theorem Zwa_ok:((Z6 [99,122,142,19]).flat [8,9]).ok F6:=Z6_ok [99,122,142,19]
theorem Zwb_ok:((Z6 [99,122,142,19]).flat [8,10]).ok F6:=Z6_ok [99,122,142,19]
theorem pwna_o2 (lo hi:Int) (y:Bool) (B:List Bool) (hB:B.length=32):∀ (r k m:Nat) (L:List Int),k+r=32→r<m→L.length≤k→L≠[]→Ans F6 (pwnaI7 s n b L.length (bl B) (k:Int) lo hi y (flat tI L) m) (wtup lo hi (L++outG B k r) (bif y then 0 else 9))
 |0,k,m+1,L,hk,hm,hl,hn=>by
  have h:=pwna_step7 s n b L.length (bl B) (k:Int) lo hi y (flat tI L) m
  simp only[ile_t (show (32:Int)≤k by omega),Bool.not_true,cond_false,ieq_self,bbeq_self,vsB_self,flatI_plain,cond_true] at h
  rw[outG,List.append_nil]
  cases y<;>exact doneW1 Zwa_ok F6sy hn h
 | r + 1, k, m + 1, L, hk, hm, hl, hn => by
  have h:=pwna_step7 s n b L.length (bl B) (k:Int) lo hi y (flat tI L) m
  obtain⟨z1,z2⟩:=bl_at (B:=B) (k:=k) (by omega)
  have p1:plO (.cells false (bl B))=true:=bl_plain B
  have p2:plO (.cells false (flat tI L))=true:=flatI_plain L
  have p3:plO (.cells false (flat tI (L++[(k:Int)])))=true:=flatI_plain _
  have b1:=beq_flatI L
  have b2:L.length.ble 1048576=true:=Nat.ble_eq_true_of_le (by omega)
  simp only[ile_f (show (k:Int)<(32:Int) by omega),Bool.not_false,cond_true,inB_at (show k<32 by omega),bl_asZs hB,z1,z2,wr_succ (show k<1048577 by omega)] at h
  rw[outG]
  cases c:B.getD k false with
  |false=>
   simp only[c,cond_false,p1,p2,cond_true] at h
   rw[cond_false]
   exact .stop Zwa_ok F6sy h (pwna_o2 lo hi y B hB r (k+1) m L (by omega) (by omega) (by omega) hn)
  |true=>
   simp only[c,cond_true,b1,b2,p1,flatI_add,p3,cond_true] at h
   rw[cond_true]
   have ih:=pwna_o2 lo hi y B hB r (k+1) m (L++[(k:Int)]) (by omega) (by omega) (by rw[List.length_append];show L.length+1≤_;omega) (by simp)
   rw[show (L++[(k:Int)]).length=L.length+1 from List.length_append,List.append_assoc] at ih
   exact .stop Zwa_ok F6sy h ih
theorem pwna_o1 (lo hi:Int) (y:Bool) (B:List Bool) (hB:B.length=32):∀ (r k m:Nat),k+r=32→r<m→Ans F6 (pwnaI6 s n b (bl B) (k:Int) lo hi y m) (wtup lo hi (outG B k r) (bif y then 0 else 9))
 |0,k,m+1,hk,hm=>by
  have h:=pwna_step6 s n b (bl B) (k:Int) lo hi y m
  simp only[ile_t (show (32:Int)≤k by omega),Bool.not_true,cond_false,ieq_self,bbeq_self,vsB_self,cond_true] at h
  cases y<;>exact doneW0 Zwa_ok F6sy h
 | r + 1, k, m + 1, hk, hm => by
  have h:=pwna_step6 s n b (bl B) (k:Int) lo hi y m
  obtain⟨z1,z2⟩:=bl_at (B:=B) (k:=k) (by omega)
  have p1:plO (.cells false (bl B))=true:=bl_plain B
  simp only[ile_f (show (k:Int)<(32:Int) by omega),Bool.not_false,cond_true,inB_at (show k<32 by omega),bl_asZs hB,z1,z2,wr_succ (show k<1048577 by omega)] at h
  rw[outG]
  cases c:B.getD k false with
  |false=>
   simp only[c,cond_false,p1,cond_true] at h
   rw[cond_false]
   exact .stop Zwa_ok F6sy h (pwna_o1 lo hi y B hB r (k+1) m (by omega) (by omega))
  |true=>
   simp only[c,cond_true,p1,cond_true] at h
   rw[cond_true]
   have ih:=pwna_o2 (s:=s) (n:=n) (b:=b) lo hi y B hB r (k+1) m [(k:Int)] (by omega) (by omega) (by show 1≤_;omega) (by simp)
   exact .stop Zwa_ok F6sy h ih
structure RngV (s:tSt.den) (n:tNi.den):Prop where
 w:RngW s n
 wl:wr .i64 (wr .i64 (lHi s-lLo s)+1)=(nL s:Int)
 ww:wr .i64 (wr .i64 (wr .i64 (wr .i64 (wLo n+wN n)-1)-wLo n)+1)=(nW n:Int)
 nl:nL s≤200
 nw:nW n≤32
theorem rngv_ok {l:List tRe.den} (hN:NigOK s n l):RngV s n:=by
 have R:=rngw_ok hN
 have g:=R.g
 have w:=R.w
 refine⟨R,?_,?_,?_,?_⟩
 · unfold nL;rw[wr_in (n:=lHi s-lLo s) (by omega) (by omega),wr_in (by omega) (by omega)];omega
 · unfold nW;rw[wr_in (n:=wLo n+wN n) (by omega) (by omega),wr_in (n:=wLo n+wN n-1) (by omega) (by omega),wr_in (n:=wLo n+wN n-1-wLo n) (by omega) (by omega),wr_in (by omega) (by omega)];omega
 · unfold nL;omega
 · unfold nW;omega
theorem met_at {B:List Bool} (hB:B.length=32) {p:Int} (hv:inV p=true):inB p 32=true∧(0+Int.toNat p * 1+1).ble (bl B).length=true∧(bl B).set (0+Int.toNat p * 1) (AV.bool true)=bl (B.set p.toNat true)∧plO (.cells false (bl (B.set p.toNat true)))=true:=by
 simp only[inV,Bool.and_eq_true,ile_iff,decide_eq_true_eq] at hv
 refine⟨inB_of hv.1 (by show p<32;omega),?_,?_,bl_plain _⟩
 · rw[bl_len,hB];exact Nat.ble_eq_true_of_le (by omega)
 · rw[show 0+Int.toNat p * 1=p.toNat by omega,bl_set]
theorem pwna_i5 {v:AV} (i k m M O:Nat) (x:W3) (hB:x.2.length=32) (a p z:Int) (hv:inV p=true) (hk:k<1048577) (K:Ans F6 (pwnaI3 s n b (i:Int) ((k+1:Nat):Int) (mtW x (a,p,())).1.1 (mtW x (a,p,())).1.2.1 (mtW x (a,p,())).1.2.2 (bl (mtW x (a,p,())).2) M (O+1)) v) :
  Ans F6 (pwnaI5 s n b x.1.1 x.1.2.1 x.1.2.2 (bl x.2) a p (m+1) (i:Int) (k:Int) z (M+1) (O+1)) v:=by
 obtain⟨⟨lo,hi,y⟩,B⟩:=x
 have h:=pwna_step5 s n b lo hi y (bl B) a p m (i:Int) (k:Int) z M O
 obtain⟨z1,z2,z3,z4⟩:=met_at hB hv
 simp only[ieq_self,cond_true,wr_succ hk,z1,z2,z3,z4] at h
 unfold mtW mtL mtH at K
 cases y<;>simp only[Bool.not_true,Bool.not_false,cond_true,cond_false] at h K<;>exact .stop Zwa_ok F6sy h K
theorem pwna_in (R:RngV s n) (i:Nat) (hi:i<nL s) (rest:List tP.den) (O:Nat) (K:∀ x:W3,x.2.length=32→Ans F6 (pwnaI1 s n b ((i+1:Nat):Int) x.1.1 x.1.2.1 x.1.2.2 (bl x.2) O) (wndV (rest.foldl mtW x))) :
  ∀ (r k m:Nat) (x:W3),x.2.length=32→k+r=nW n→r<m→Ans F6 (pwnaI3 s n b (i:Int) (k:Int) x.1.1 x.1.2.1 x.1.2.2 (bl x.2) m (O+1)) (wndV ((rowW (wLo n) (lLo s+i) r k++rest).foldl mtW x))
 |0,k,m+1,x,hB,hk,hm=>by
  have h:=pwna_step3 s n b (i:Int) (k:Int) x.1.1 x.1.2.1 x.1.2.2 (bl x.2) m O
  have e:wr .i64 (wr .i64 (wr .i64 (wr .i64 (n.2.2.1+n.2.2.2.1)-1)-n.2.2.1)+1)=(nW n:Int):=R.ww
  have:=R.nl
  have p1:plO (.cells false (bl x.2))=true:=bl_plain _
  rw[e,ile_t (show ((nW n:Nat):Int)≤k by omega),Bool.not_true,cond_false,wr_succ (show i<1048577 by omega),p1,cond_true] at h
  exact .stop Zwa_ok F6sy h (K x hB)
 |r+1,k,m+1,x,hB,hk,hm=>by
  have h:=pwna_step3 s n b (i:Int) (k:Int) x.1.1 x.1.2.1 x.1.2.2 (bl x.2) m O
  have e:wr .i64 (wr .i64 (wr .i64 (wr .i64 (n.2.2.1+n.2.2.2.1)-1)-n.2.2.1)+1)=(nW n:Int):=R.ww
  have n1:=R.nl
  have n2:=R.nw
  have g:=R.w.g
  have w:=R.w.w
  have nle:((nL s:Nat):Int)=lHi s-lLo s+1:=by unfold nL;omega
  rw[e,ile_f (show (k:Int)<((nW n:Nat):Int) by omega),Bool.not_false,cond_true] at h
  have w1:wr .i64 (s.2.1.1+(i:Int))=lLo s+i:=wr_in (n:=lLo s+(i:Int)) (by omega) (by omega)
  have w2:wr .i64 (n.2.2.1+(k:Int))=wLo n+k:=wr_in (n:=wLo n+(k:Int)) (by omega) (by omega)
  rw[w1,w2] at h
  exact .stop Zwa_ok F6sy h (pwna_i5 i k 1048574 m O x hB _ _ _ (w32 w.1.1 (by omega)) (by omega) (pwna_in R i hi rest O K r (k+1) m _ (by rw[mtW_len];exact hB) (by omega) (by omega)))
theorem pwna_out (R:RngV s n):∀ (r i m:Nat) (x:W3) (a:Int),x.2.length=32→a=lLo s+i→i+r=nL s→r<m→Ans F6 (pwnaI1 s n b (i:Int) x.1.1 x.1.2.1 x.1.2.2 (bl x.2) m) (wndV ((allW (wLo n) (nW n) r a).foldl mtW x))
 |0,i,m+1,x,a,hB,ha,hi,hm=>by
  have h:=pwna_step1 s n b (i:Int) x.1.1 x.1.2.1 x.1.2.2 (bl x.2) m
  have e:wr .i64 (wr .i64 (s.2.1.2.1-s.2.1.1)+1)=(nL s:Int):=R.wl
  rw[e,ile_t (show ((nL s:Nat):Int)≤i by omega),Bool.not_true,cond_false,bl_isZs 32 0 (by omega),cond_true] at h
  exact .stop Zwa_ok F6sy h (pwna_o1 x.1.1 x.1.2.1 x.1.2.2 x.2 hB 32 0 1048575 (by omega) (by omega))
 |r+1,i,m+1,x,a,hB,ha,hi,hm=>by
  have h:=pwna_step1 s n b (i:Int) x.1.1 x.1.2.1 x.1.2.2 (bl x.2) m
  have e:wr .i64 (wr .i64 (s.2.1.2.1-s.2.1.1)+1)=(nL s:Int):=R.wl
  rw[e,ile_f (show (i:Int)<((nL s:Nat):Int) by omega),Bool.not_false,cond_true] at h
  subst ha
  exact .stop Zwa_ok F6sy h (pwna_in R i (by omega) _ m (fun x hx=>pwna_out R r (i+1) m x _ hx (by omega) (by omega) (by omega)) (nW n) 0 1048575 x hB (by omega) (by have:=R.nw;omega))
end
section
variable {s:tSt.den} {n:tNi.den} {l:(Ty.sl tRe).den}
theorem pwnb_o2 (lo hi:Int) (y:Bool) (B:List Bool) (hB:B.length=32):∀ (r k m:Nat) (L:List Int),k+r=32→r<m→L.length≤k→L≠[]→Ans F6 (pwnbI12 s n l L.length (bl B) (k:Int) l.2.length (rps n l.2) lo hi y (flat tI L) m) (wtup lo hi (L++outG B k r) (bif y then 0 else 9))
 |0,k,m+1,L,hk,hm,hl,hn=>by
  have h:=pwnb_step12 s n l L.length (bl B) (k:Int) l.2.length (rps n l.2) lo hi y (flat tI L) m
  simp only[ile_t (show (32:Int)≤k by omega),Bool.not_true,cond_false,ieq_self,bbeq_self,vsB_self,flatI_plain,cond_true] at h
  rw[outG,List.append_nil]
  cases y<;>exact doneW1 Zwb_ok F6sy hn h
 | r + 1, k, m + 1, L, hk, hm, hl, hn => by
  have h:=pwnb_step12 s n l L.length (bl B) (k:Int) l.2.length (rps n l.2) lo hi y (flat tI L) m
  obtain⟨z1,z2⟩:=bl_at (B:=B) (k:=k) (by omega)
  have p1:plO (.cells false (bl B))=true:=bl_plain B
  have p2:plO (.cells false (flat tI L))=true:=flatI_plain L
  have p3:plO (.cells false (flat tI (L++[(k:Int)])))=true:=flatI_plain _
  have b1:=beq_flatI L
  have b2:L.length.ble 1048576=true:=Nat.ble_eq_true_of_le (by omega)
  simp only[ile_f (show (k:Int)<(32:Int) by omega),Bool.not_false,cond_true,inB_at (show k<32 by omega),bl_asZs hB,z1,z2,wr_succ (show k<1048577 by omega)] at h
  rw[outG]
  cases c:B.getD k false with
  |false=>
   simp only[c,cond_false,p1,p2,rps_plO,cond_true] at h
   rw[cond_false]
   exact .stop Zwb_ok F6sy h (pwnb_o2 lo hi y B hB r (k+1) m L (by omega) (by omega) (by omega) hn)
  |true=>
   simp only[c,cond_true,b1,b2,p1,flatI_add,p3,rps_plO,cond_true] at h
   rw[cond_true]
   have ih:=pwnb_o2 lo hi y B hB r (k+1) m (L++[(k:Int)]) (by omega) (by omega) (by rw[List.length_append];show L.length+1≤_;omega) (by simp)
   rw[show (L++[(k:Int)]).length=L.length+1 from List.length_append,List.append_assoc] at ih
   exact .stop Zwb_ok F6sy h ih
theorem pwnb_o1 (lo hi:Int) (y:Bool) (B:List Bool) (hB:B.length=32):∀ (r k m:Nat),k+r=32→r<m→Ans F6 (pwnbI11 s n l (bl B) (k:Int) l.2.length (rps n l.2) lo hi y m) (wtup lo hi (outG B k r) (bif y then 0 else 9))
 |0,k,m+1,hk,hm=>by
  have h:=pwnb_step11 s n l (bl B) (k:Int) l.2.length (rps n l.2) lo hi y m
  simp only[ile_t (show (32:Int)≤k by omega),Bool.not_true,cond_false,ieq_self,bbeq_self,vsB_self,cond_true] at h
  cases y<;>exact doneW0 Zwb_ok F6sy h
 | r + 1, k, m + 1, hk, hm => by
  have h:=pwnb_step11 s n l (bl B) (k:Int) l.2.length (rps n l.2) lo hi y m
  obtain⟨z1,z2⟩:=bl_at (B:=B) (k:=k) (by omega)
  have p1:plO (.cells false (bl B))=true:=bl_plain B
  simp only[ile_f (show (k:Int)<(32:Int) by omega),Bool.not_false,cond_true,inB_at (show k<32 by omega),bl_asZs hB,z1,z2,wr_succ (show k<1048577 by omega)] at h
  rw[outG]
  cases c:B.getD k false with
  |false=>
   simp only[c,cond_false,p1,rps_plO,cond_true] at h
   rw[cond_false]
   exact .stop Zwb_ok F6sy h (pwnb_o1 lo hi y B hB r (k+1) m (by omega) (by omega))
  |true=>
   simp only[c,cond_true,p1,rps_plO,cond_true] at h
   rw[cond_true]
   have ih:=pwnb_o2 (s:=s) (n:=n) (l:=l) lo hi y B hB r (k+1) m [(k:Int)] (by omega) (by omega) (by show 1≤_;omega) (by simp)
   exact .stop Zwb_ok F6sy h ih
theorem pwnb_i10 {v:AV} (hn:in3 n.1.1 n.1.2.1=true) (h8:l.2.length≤8) (hl:repB l.2=true) (a p z:Int) (ha:1≤a∧a≤200) (hv:inV p=true) (x:W3) (hB:x.2.length=32) (i k M O:Nat) (hk:k<1048577)
  (K1:agrF n l.2 (a,p,()) true=true→Ans F6 (pwnbI8 s n l (i:Int) ((k+1:Nat):Int) l.2.length (rps n l.2) (mtW x (a,p,())).1.1 (mtW x (a,p,())).1.2.1 (mtW x (a,p,())).1.2.2 (bl (mtW x (a,p,())).2) M (O+1)) v)
  (K0:agrF n l.2 (a,p,()) true=false→Ans F6 (pwnbI8 s n l (i:Int) ((k+1:Nat):Int) l.2.length (rps n l.2) x.1.1 x.1.2.1 x.1.2.2 (bl x.2) M (O+1)) v) :
  ∀ (r j m:Nat),j+r=l.2.length→r<m→agrF n l.2 (a,p,()) true=agrF n (l.2.drop j) (a,p,()) true→Ans F6 (pwnbI10 s n l l.2.length (l.2.length:Int) (j:Int) (rps n l.2) x.1.1 x.1.2.1 x.1.2.2 (bl x.2) a p m (i:Int) (k:Int) z (M+1) (O+1)) v
 |0,j,m+1,hj,hm,hd=>by
  obtain⟨⟨lo,hi,y⟩,B⟩:=x
  have h:=pwnb_step10 s n l l.2.length (l.2.length:Int) (j:Int) (rps n l.2) lo hi y (bl B) a p m (i:Int) (k:Int) z M O
  rw[List.drop_eq_nil_of_le (by omega)] at hd
  have K:=K1 hd
  obtain⟨z1,z2,z3,z4⟩:=met_at hB hv
  simp only[ile_t (show ((l.2.length:Nat):Int)≤j by omega),Bool.not_true,cond_false,ieq_self,cond_true,wr_succ hk,z1,z2,z3,z4,rps_plO] at h
  unfold mtW mtL mtH at K
  clear K1 K0
  cases y<;>simp only[Bool.not_true,Bool.not_false,cond_true,cond_false] at h K<;>exact .stop Zwb_ok F6sy h K
 | r + 1, j, m + 1, hj, hm, hd => by
  have h:=pwnb_step10 s n l l.2.length (l.2.length:Int) (j:Int) (rps n l.2) x.1.1 x.1.2.1 x.1.2.2 (bl x.2) a p m (i:Int) (k:Int) z M O
  have hlt:j<l.2.length:=by omega
  have hr:in3 (l.2[j]).1.1 (l.2[j]).1.2.1=true:=List.all_eq_true.1 hl _ (List.getElem_mem hlt)
  obtain⟨z1,z2,z3,z4,z5⟩:=rps_at (n:=n) hlt
  have hpt:inV (rpOf n l.2[j]).2.2.2.2.2.1=true:=ptF_b _ _
  have hcb:hcB a p (rpOf n l.2[j]).2.2.2.2.2.1=true:=by
   unfold hcB;rw[ile_t ha.1,ile_t ha.2,hv,hpt];rfl
  have p1:plO (.cells false (bl x.2))=true:=bl_plain _
  simp only[ile_f (show ((j:Nat):Int)<(l.2.length:Int) by omega),Bool.not_false,cond_true,inB_at hlt,z1,z2,z3,z4,z5,hcb,ieq_self,bbeq_self,rps_plO,p1,wr_succ hk,wr_succ (show j<1048577 by omega)] at h
  rw[List.drop_eq_getElem_cons hlt] at hd
  have ih:=pwnb_i10 hn h8 hl a p z ha hv x hB i k M O hk K1 K0 r (j+1) m (by omega) (by omega)
  have e:agrF n (l.2[j]::l.2.drop (j+1)) (a,p,()) true=(agr1 n (a,p,()) true l.2[j]&&agrF n (l.2.drop (j+1)) (a,p,()) true):=rfl
  rw[e] at hd
  unfold agr1 at hd
  have es:metF n (l.2[j]).1 (a,p,()) true=hrdF a p (rpOf n l.2[j]).2.2.2.2.1 (rpOf n l.2[j]).2.2.2.2.2.1:=rfl
  rw[es] at hd
  cases c1:(l.2[j]).2.1 == true with
  |false=>
   rw[c1,cond_false] at h
   rw[c1,cond_false,Bool.true_and] at hd
   exact .stop Zwb_ok F6sy h (ih hd)
  | true =>
   rw[c1,cond_true] at h
   rw[c1,cond_true] at hd
   cases c2:(l.2[j]).2.2.1 == hrdF a p (rpOf n l.2[j]).2.2.2.2.1 (rpOf n l.2[j]).2.2.2.2.2.1 with
   |false=>
    rw[c2,Bool.false_and] at hd
    rw[c2,Bool.not_false,cond_true] at h
    exact .stop Zwb_ok F6sy h (K0 hd)
   |true=>
    rw[c2,Bool.true_and] at hd
    rw[c2,Bool.not_true,cond_false] at h
    exact .stop Zwb_ok F6sy h (ih hd)
theorem pwnb_in (R:RngV s n) (hn:in3 n.1.1 n.1.2.1=true) (h8:l.2.length≤8) (hl:repB l.2=true) (i:Nat) (hi:i<nL s) (rest:List tP.den) (O:Nat) (K:∀ x:W3,x.2.length=32→Ans F6 (pwnbI5 s n l ((i+1:Nat):Int) l.2.length (rps n l.2) x.1.1 x.1.2.1 x.1.2.2 (bl x.2) O) (wndV ((rest.filter fun t=>agrF n l.2 t true).foldl mtW x))) :
  ∀ (r k m:Nat) (x:W3),x.2.length=32→k+r=nW n→r<m→Ans F6 (pwnbI8 s n l (i:Int) (k:Int) l.2.length (rps n l.2) x.1.1 x.1.2.1 x.1.2.2 (bl x.2) m (O+1)) (wndV (((rowW (wLo n) (lLo s+i) r k++rest).filter fun t=>agrF n l.2 t true).foldl mtW x))
 |0,k,m+1,x,hB,hk,hm=>by
  have h:=pwnb_step8 s n l (i:Int) (k:Int) l.2.length (rps n l.2) x.1.1 x.1.2.1 x.1.2.2 (bl x.2) m O
  have e:wr .i64 (wr .i64 (wr .i64 (wr .i64 (n.2.2.1+n.2.2.2.1)-1)-n.2.2.1)+1)=(nW n:Int):=R.ww
  have:=R.nl
  have p1:plO (.cells false (bl x.2))=true:=bl_plain _
  rw[e,ile_t (show ((nW n:Nat):Int)≤k by omega),Bool.not_true,cond_false,wr_succ (show i<1048577 by omega),p1,cond_true,rps_plO,cond_true] at h
  exact .stop Zwb_ok F6sy h (K x hB)
 | r + 1, k, m + 1, x, hB, hk, hm => by
  have h:=pwnb_step8 s n l (i:Int) (k:Int) l.2.length (rps n l.2) x.1.1 x.1.2.1 x.1.2.2 (bl x.2) m O
  have e:wr .i64 (wr .i64 (wr .i64 (wr .i64 (n.2.2.1+n.2.2.2.1)-1)-n.2.2.1)+1)=(nW n:Int):=R.ww
  have n1:=R.nl
  have n2:=R.nw
  have g:=R.w.g
  have w:=R.w.w
  have nle:((nL s:Nat):Int)=lHi s-lLo s+1:=by unfold nL;omega
  rw[e,ile_f (show (k:Int)<((nW n:Nat):Int) by omega),Bool.not_false,cond_true] at h
  have w1:wr .i64 (s.2.1.1+(i:Int))=lLo s+i:=wr_in (n:=lLo s+(i:Int)) (by omega) (by omega)
  have w2:wr .i64 (n.2.2.1+(k:Int))=wLo n+k:=wr_in (n:=wLo n+(k:Int)) (by omega) (by omega)
  rw[w1,w2] at h
  have ih:=fun x hx=>pwnb_in R hn h8 hl i hi rest O K r (k+1) m x hx (by omega) (by omega)
  refine .stop Zwb_ok F6sy h (pwnb_i10 hn h8 hl (lLo s+i) ((wLo n+k).tmod 32) _ (by omega) (w32 w.1.1 (by omega)) x hB i k m O (by omega) (fun c=>?_) (fun c=>?_) l.2.length 0 1048575 (by omega) (by omega) rfl)
  · have e : (rowW (wLo n) (lLo s + i) (r + 1) k ++ rest).filter (fun t => agrF n l.2 t true) = (lLo s + i, (wLo n + k).tmod 32, ()) :: (rowW (wLo n) (lLo s + i) r (k + 1) ++ rest).filter (fun t => agrF n l.2 t true) :=
     List.filter_cons_of_pos c
    rw[e]
    exact ih _ (by rw[mtW_len];exact hB)
  · have e : (rowW (wLo n) (lLo s + i) (r + 1) k ++ rest).filter (fun t => agrF n l.2 t true) = (rowW (wLo n) (lLo s + i) r (k + 1) ++ rest).filter (fun t => agrF n l.2 t true) :=
     List.filter_cons_of_neg (by rw[c];decide)
    rw[e]
    exact ih _ hB
theorem pwnb_out (R:RngV s n) (hn:in3 n.1.1 n.1.2.1=true) (h8:l.2.length≤8) (hl:repB l.2=true):∀ (r i m:Nat) (x:W3) (a:Int),x.2.length=32→a=lLo s+i→i+r=nL s→r<m→Ans F6 (pwnbI5 s n l (i:Int) l.2.length (rps n l.2) x.1.1 x.1.2.1 x.1.2.2 (bl x.2) m) (wndV (((allW (wLo n) (nW n) r a).filter fun t=>agrF n l.2 t true).foldl mtW x))
 |0,i,m+1,x,a,hB,ha,hi,hm=>by
  have h:=pwnb_step5 s n l (i:Int) l.2.length (rps n l.2) x.1.1 x.1.2.1 x.1.2.2 (bl x.2) m
  have e:wr .i64 (wr .i64 (s.2.1.2.1-s.2.1.1)+1)=(nL s:Int):=R.wl
  rw[e,ile_t (show ((nL s:Nat):Int)≤i by omega),Bool.not_true,cond_false,bl_isZs 32 0 (by omega),cond_true] at h
  exact .stop Zwb_ok F6sy h (pwnb_o1 x.1.1 x.1.2.1 x.1.2.2 x.2 hB 32 0 1048575 (by omega) (by omega))
 |r+1,i,m+1,x,a,hB,ha,hi,hm=>by
  have h:=pwnb_step5 s n l (i:Int) l.2.length (rps n l.2) x.1.1 x.1.2.1 x.1.2.2 (bl x.2) m
  have e:wr .i64 (wr .i64 (s.2.1.2.1-s.2.1.1)+1)=(nL s:Int):=R.wl
  rw[e,ile_f (show (i:Int)<((nL s:Nat):Int) by omega),Bool.not_false,cond_true] at h
  subst ha
  exact .stop Zwb_ok F6sy h (pwnb_in R hn h8 hl i (by omega) _ m (fun x hx=>pwnb_out R hn h8 hl r (i+1) m x _ hx (by omega) (by omega) (by omega)) (nW n) 0 1048575 x hB (by omega) (by have:=R.nw;omega))
theorem avbeq_sl8 (n:Nat):avbeq (AV.sl 8 0 n n 6) (AV.sl 8 0 n n 6)=true:=by
 simp[avbeq]
theorem pwnb_nv (R:RngV s n) (hN:NigOK s n l.2):∀ (r k m:Nat),1≤k→k+r=l.2.length→r<m→Ans F6 (pwnbI2 s n l (k:Int) k (rps n (l.2.take k)) m) (wndV ((trT s n l.2 true).foldl mtW wnd0))
 |0,k,m+1,h1,hk,hm=>by
  have h:=pwnb_step2 s n l (k:Int) k (rps n (l.2.take k)) m
  have h8:=hN.len
  have ek:k=l.2.length:=by omega
  subst ek
  rw[List.take_length] at h⊢
  rw[bl_rep] at h
  simp only[ile_t (show Int.ofNat l.2.length≤((l.2.length:Nat):Int) from Int.le_refl _),Bool.not_true,cond_false,ieq_self,bbeq_self,vsB_self,rps_plO,cond_true] at h
  exact .stop Zwb_ok F6sy h (pwnb_out R hN.at_ h8 hN.reps (nL s) 0 1048575 wnd0 (lLo s) (by simp[wnd0]) (by omega) (by omega) (by have:=R.nl;omega))
 | r + 1, k, m + 1, h1, hk, hm => by
  have h:=pwnb_step2 s n l (k:Int) k (rps n (l.2.take k)) m
  have h8:=hN.len
  have hlt:k<l.2.length:=by omega
  have hr:in3 (l.2[k]).1.1 (l.2[k]).1.2.1=true:=List.all_eq_true.1 hN.reps _ (List.getElem_mem hlt)
  obtain⟨wn,wc⟩:=rp_wr hN.at_ hr
  have eg:l.2.getD (k:Int).toNat tRe.dflt=l.2[k]:=getD_at hlt
  have b1:(0+k * 6).beq (rps n (l.2.take k)).length=true:=rps_beq (by rw[List.length_take];omega)
  have b2:k.ble 1048576=true:=Nat.ble_eq_true_of_le (by omega)
  have pl:plO (.cells false (rps n (l.2.take (k+1))))=true:=rps_plO _ _
  have ap:rps n (l.2.take k)++tRp.cells (rpOf n l.2[k])=rps n (l.2.take (k+1)):=by
   rw[rps_add,← List.take_succ_eq_append_getElem hlt]
  have av:=avbeq_sl8 k
  simp only[ile_f (show ((k:Nat):Int)<Int.ofNat l.2.length by show (k:Int)<(l.2.length:Int);omega),Bool.not_false,cond_true,inB_at hlt,eg,wn,wc,ap,pl,b1,b2,av,ieq_self,bbeq_self,wr_succ (show k<1048577 by omega)] at h
  exact .stop Zwb_ok F6sy h (pwnb_nv R hN r (k+1) m (by omega) (by omega) (by omega))
end
theorem pwnd_call (s:tSt.den) (n:tNi.den) (l:(Ty.sl tRe).den):AnsF F6 19 [tSt.av s,tNi.av n,.vs tRe l.1 l.2] (wndS s n l.2):=by
 refine Ans.call (n:=40) (ext_none (by kernel_rfl)) (hasB_spec (by kernel_rfl)) ?_
 have h:=pwnb_start s n l
 unfold wndS
 cases c:ieq (cknS s n l.2).2 0 with
 |false=>
  simp only[c,Bool.not_false,cond_true] at h
  rw[cond_false]
  exact doneW0 Zwb_ok F6sy h
 | true =>
  simp only[c,Bool.not_true,cond_false] at h
  rw[cond_true]
  have hN:=nig_ok c
  have R:=rngv_ok hN
  have h8:=hN.len
  cases hl:l.2 with
  |nil=>
   clear h
   rw[hl] at c hN
   have h:=pwna_start s n l.1
   simp only[c,Bool.not_true,cond_false] at h
   refine .stop Zwa_ok F6sy h ?_
   have h:=pwna_step0 s n l.1 1048574
   rw[bl_rep] at h
   simp only[ieq_self,bbeq_self,vsB_self,cond_true] at h
   have k:=pwna_out (b:=l.1) R (nL s) 0 1048575 wnd0 (lLo s) (by simp[wnd0]) (by omega) (by omega) (by have:=R.nl;omega)
   have e:trT s n [] true=allW (wLo n) (nW n) (nL s) (lLo s):=List.filter_eq_self.2 fun _ _=>rfl
   rw[e]
   exact .stop Zwa_ok F6sy h k
  | cons r q =>
   rw[← hl]
   refine .stop Zwb_ok F6sy h ?_
   have h:=pwnb_step0 s n l 1048574
   have hlt:0<l.2.length:=by rw[hl];simp
   have hr:in3 (l.2[0]).1.1 (l.2[0]).1.2.1=true:=List.all_eq_true.1 hN.reps _ (List.getElem_mem hlt)
   obtain⟨wn,wc⟩:=rp_wr hN.at_ hr
   have eg:l.2.getD (Int.toNat 0) tRe.dflt=l.2[0]:=getD_at (k:=0) hlt
   have ap:tRp.cells (rpOf n l.2[0])=rps n (l.2.take 1):=by
    have:=rps_add n [] l.2[0]
    have t1:=List.take_succ_eq_append_getElem hlt
    rw[List.take_zero,List.nil_append] at t1
    rw[t1]
    exact this
   have i0:inB 0 l.2.length=true:=inB_at (k:=0) hlt
   simp only[ile_f (show (0:Int)<Int.ofNat l.2.length by show (0:Int)<(l.2.length:Int);omega),Bool.not_false,cond_true,i0,eg,wn,wc,ap,ieq_self,bbeq_self] at h
   exact .stop Zwb_ok F6sy h (pwnb_nv R hN (l.2.length-1) 1 1048574 (by omega) (by omega) (by omega))
end Go.Proofs.YtjipgnghjbmlkaaGreatDoor


set_option maxRecDepth 100000
namespace Go.Proofs.YtjipgnghjbmlkaaGreatDoor
open Go Go.Eng
noncomputable def S0:tSt.den:=((false,[([115,112,101,114,109],((400:Int),(420:Int),()),(60:Int),()),([114,97,112,101],((100:Int),(100:Int),()),(40:Int),())]),((20:Int),(30:Int),()),((50:Int),(120:Int),()),())
noncomputable def N0:tNi.den:=(((0:Int),(0:Int),()),(0:Int),(8:Int),(1:Int),())
noncomputable def rA:tRe.den:=(((0:Int),(10000:Int),()),false,true,())
noncomputable def rB:tRe.den:=(((13000:Int),(0:Int),()),false,false,())
noncomputable def rC:tRe.den:=(((0:Int),(10000:Int),()),false,false,())
theorem lc_in {i k:Nat} {q:Int} (hi:i≤20) (hk:k≤70) (h1:0≤q) (h2:q≤7200000000):lcB (400+(i:Int)) (50+(k:Int)) q=true:=lcB_iff.2 ⟨⟨by omega,by omega⟩,⟨by omega,by omega⟩,h1,h2⟩
end Go.Proofs.YtjipgnghjbmlkaaGreatDoor


set_option maxRecDepth 100000
namespace Go.Proofs.YtjipgnghjbmlkaaGreatDoor
open Go Go.Eng
theorem newl_start (a b:Int):adv F6 (Z6 []) 3000 (startC F6 89 [.int .i64 a,.int .i64 b] 6)=some (.done (.agg [(.int .i64 (a)),(.int .i64 (b))])):=by kernel_rfl
theorem numb_start (l:tP.den):adv F6 (Z6 []) 3000 (startC F6 189 [tP.av l] 6)=some (.done (.tup [(.int .i64 (l.1)),(.int .i64 (l.2.1))])):=by kernel_rfl
theorem newl_call (a b:tI.den):AnsF F6 89 [tI.av a,tI.av b] (.agg [.int .i64 a,.int .i64 b]):=
 Ans.call (n:=6) (ext_none (by kernel_rfl)) (hasB_spec (by kernel_rfl)) (.done (Z6_ok _) F6sy (newl_start a b) rfl)
theorem numb_call (l:tP.den):AnsF F6 189 [tP.av l] (.tup [.int .i64 l.1,.int .i64 l.2.1]):=
 Ans.call (n:=6) (ext_none (by kernel_rfl)) (hasB_spec (by kernel_rfl)) (.done (Z6_ok _) F6sy (numb_start l) rfl)
noncomputable def eqS (s:tSt.den) (n:tNi.den):Bool:=avbeq (tSt.av s) (tSt.av S0)&&avbeq (tNi.av n) (tNi.av N0)
noncomputable def eqR (l:(Ty.sl tRe).den) (b:Bool) (m:List tRe.den):Bool:=avbeq (.vs tRe l.1 l.2) (.vs tRe b m)
noncomputable def con5 (t u w s q:Ty) (c:t.den→u.den→w.den→s.den→q.den→Bool) (v:AV) (args:List AV):Option (Bool×AV):=
 match args with
 |[a1,a2,a3,a4,a5]=>match rdA t a1,rdA u a2,rdA w a3,rdA s a4,rdA q a5 with
  |some (c1,x),some (c2,y),some (c3,z),some (c4,p),some (c5,o)=>some (c1&&c2&&c3&&c4&&c5&&c x y z p o,v)
  |_,_,_,_,_=>none
 |_=>none
noncomputable def LZ:List Said:=[(89,con2 tI tI (fun _ _=>true) (fun a b=>.agg [.int .i64 a,.int .i64 b])),(189,con1 tP (fun _=>true) (fun l=>.tup [.int .i64 l.1,.int .i64 l.2.1])),
 (17,con3 tSt tNi (.sl tRe) (fun s n l=>eqS s n&&eqR l false [rA,rB]) (fun _ _ _=>.tup [.agg [.int .i64 400,.int .i64 420],.agg [.int .i64 50,.int .i64 65],.int .i64 0])),
 (23,con5 tSt tNi (.sl tRe) tP .bool (fun s n l p h=>eqS s n&&eqR l false [rA]&&avbeq (tP.av p) (.agg [.int .i64 0,.int .i64 12000])&&avbeq (.bool h) (.bool false)) (.tup [.int .i64 1,.int .i64 0])),
 (25,con3 tSt tNi (.sl tRe) (fun s n l=>eqS s n&&eqR l true []) (fun _ _ _=>.tup [.int .i64 10000,.int .i64 14491,.int .i64 0])),
 (29,con3 tSt tNi (.sl tRe) (fun s n l=>eqS s n&&eqR l false [rB,rC]) (fun _ _ _=>.tup [.csl [.int .i64 1] 1,.int .i64 0])),
 (27,con4 tSt tNi (.sl tRe) tI (fun s n l q=>eqS s n&&eqR l true []&&(ieq q 7000 || ieq q 10001)) (fun _ _ _ q=>.tup [.int .i64 (bif ieq q 7000 then 1 else 0),.int .i64 (bif ieq q 7000 then 0 else 9)]))]
noncomputable def F9:Env:=F6.say (under (xOf LZ))
noncomputable def EA:Env:={ T0.env with ext:=F9.ext,frz:=fun f=>elemN f [17,23,25,27,29] }
theorem eA:EnvOK Tryz.prog EA:=by
 have h:=tabs_ok.env
 refine⟨fun t k ht=>?_,h.zero,h.fn,h.eqok,h.meth⟩
 obtain⟨h1,h2⟩:=h.ty t k ht
 refine⟨h1,?_⟩
 cases k<;>exact h2
theorem nA:NameOK EA:=tabs_ok.name
end Go.Proofs.YtjipgnghjbmlkaaGreatDoor


set_option maxRecDepth 100000
namespace Go.Proofs.YtjipgnghjbmlkaaGreatDoor
open Go Go.Eng
noncomputable def LW:List Said:=[(22,say0 (.bool true))]
noncomputable def F10:Env:=F9.say (under (xOf LW))
end Go.Proofs.YtjipgnghjbmlkaaGreatDoor


set_option maxRecDepth 100000
namespace Go.Proofs.YtjipgnghjbmlkaaGreatDoor
open Go Go.Eng
theorem snW:∃ f:Int→Int→Int→Bool,∀ a b s,f a b s=seenF a b s:=⟨seenF,fun _ _ _=>rfl⟩
noncomputable def snO:Int→Int→Int→Bool:=Classical.choose snW
theorem snO_eq (a b s:Int):snO a b s=seenF a b s:=Classical.choose_spec snW a b s
theorem lcW:∃ f:Int→Int→Int→Bool,∀ a b s,f a b s=lcB a b s:=⟨lcB,fun _ _ _=>rfl⟩
noncomputable def lcO:Int→Int→Int→Bool:=Classical.choose lcW
theorem lcO_eq (a b s:Int):lcO a b s=lcB a b s:=Classical.choose_spec lcW a b s
noncomputable def LX:List Said:=[(90,con2 tP tP (fun l s=>bif ieq s.1 100000000 then lcO l.1 l.2.1 s.1&&snO l.1 l.2.1 s.1 else lcO l.1 l.2.1 s.1) (fun l s=>bif ieq s.1 100000000 then .bool true else .bool (snO l.1 l.2.1 s.1)))]
theorem LX_ok:∀ e∈LX,SaidG Tryz.prog F2.glob e:=
 saids_cons (SaidOK.g f2 xf2 nf2 tabs_ok.mix (fun _ _ h=>con2_spec (t:=tP) (u:=tP) (fun l s hc=>by
  dsimp only at hc⊢
  cases e:ieq s.1 100000000 with
  |true=>
   rw[e,cond_true,Bool.and_eq_true,lcO_eq,snO_eq] at hc
   rw[cond_true]
   have:=lrea_call l s hc.1
   rw[hc.2] at this
   exact this
  |false=>
   rw[e,cond_false,lcO_eq] at hc
   rw[cond_false,snO_eq]
   exact lrea_call l s hc) h) rfl) saids_nil
noncomputable def F7:Env:=F6.say (under (xOf LX))
theorem f7:EnvOK Tryz.prog F7:=f6.say _
theorem nf7:NameOK F7:=nf6.say _
theorem xf7:ExtOK Tryz.prog F7:=xf6.sayL LX_ok
theorem F7sy:F7.sy=true:=rfl
noncomputable def Z7 (l:List Nat):Sy:={ (Z6 []).on LX l with pl:=false }
theorem Z7_ok (l:List Nat):(Z7 l).ok F7:=Sy.on_ok (E:=F6) (L:=LX) (hd:=l) (Z6_ok _)
theorem sn_all:((List.range 21).all fun i=>(List.range 71).all fun k=>seenF (400+(i:Int)) (50+(k:Int)) 100000000)=true:=by kernel_rfl
theorem sn_in {i k:Nat} (hi:i≤20) (hk:k≤70):seenF (400+(i:Int)) (50+(k:Int)) 100000000=true:=
 List.all_eq_true.1 (List.all_eq_true.1 sn_all i (List.mem_range.2 (by omega))) k (List.mem_range.2 (by omega))
end Go.Proofs.YtjipgnghjbmlkaaGreatDoor


set_option maxRecDepth 100000
namespace Go.Proofs.YtjipgnghjbmlkaaGreatDoor
open Go Go.Eng
noncomputable def fclrQ0:Tmps:=(tmOf 24 [(0,(.yld 14)),(1,(pP 12 0)),(2,(pP 13 0)),(3,(pP 15 0)),(7,(pP 8 0)),(8,(.bool false)),(9,(.fn 144 [] [(pP 16 0),(pP 17 0),(pP 18 0)]))])
noncomputable def fclrQ1:Tmps:=(tmOf 44 [(0,(.agg [(.vs tGr (false) (S0.1.2)),(iI 20),(iI 30),(iI 50),(iI 120)])),(1,(.agg [(iI 0),(iI 0),(iI 0),(iI 8),(iI 1)])),(2,(.vs tRe (false) ([rA,rB]))),(3,(pP 0 0)),(4,(pP 1 0)),(6,(pP 2 0)),(7,(pP 3 0)),(8,(iI 0)),(9,(pP 8 0)),(10,(pP 10 0)),(11,(pP 11 0)),(15,(.tup [(pP 8 0),(iI 0)])),(16,(.agg [(.vs tGr (false) (S0.1.2)),(iI 20),(iI 30),(iI 50),(iI 120)])),(17,(.agg [(iI 0),(iI 0),(iI 0),(iI 8),(iI 1)])),(18,(.vs tRe (false) ([rA,rB]))),(19,(.tup [(pP 8 0),(iI 0)])),(20,(pP 8 0)),(21,(iI 0)),(22,(iI 0)),(23,(.bool false)),(27,(pP 8 0)),(28,(.fn 100 [] [(pP 12 0),(pP 13 0)]))])
noncomputable def fclrQ2:Tmps:=(tmOf 33 [(0,(.yld 19)),(1,(pP 16 0)),(2,(pP 17 0)),(3,(pP 18 0)),(7,(.agg [(iI 400),(iI 420)])),(8,(iI 21)),(9,(iI 0))])
noncomputable def fclrk1:AO:=(cF [(.vs tGr (false) (S0.1.2)),(iI 20),(iI 30),(iI 50),(iI 120)])
noncomputable def fclrk3:AO:=(cF [(iI 0),(iI 0),(iI 0),(iI 8),(iI 1)])
noncomputable def fclrk4:AO:=(cF [(.vs tGr (false) (S0.1.2)),(iI 20),(iI 30),(iI 50),(iI 120),(iI 0),(iI 0),(iI 0),(iI 8),(iI 1),(.sl 9 0 (2) (2) 6)])
noncomputable def fclrk0:AO:=(cF ([AV.int IntKind.i64 ([rA,rB].getD (Int.toNat 0) tRe.dflt).1.1,AV.int IntKind.i64 ([rA,rB].getD (Int.toNat 0) tRe.dflt).1.2.1,AV.bool false,AV.bool true,AV.int IntKind.i64 100000000,AV.int IntKind.i64 (ptF (wr .i64 (([rA,rB].getD (Int.toNat 0) tRe.dflt).1.1-N0.1.1)) (wr .i64 (([rA,rB].getD (Int.toNat 0) tRe.dflt).1.2.1-N0.1.2.1))),AV.int IntKind.i64 ([rA,rB].getD (wr .i64 (0+1)).toNat tRe.dflt).1.1,AV.int IntKind.i64 ([rA,rB].getD (wr .i64 (0+1)).toNat tRe.dflt).1.2.1,AV.bool false,AV.bool false,AV.int IntKind.i64 169000000,AV.int IntKind.i64 (ptF (wr .i64 (([rA,rB].getD (wr .i64 (0+1)).toNat tRe.dflt).1.1-N0.1.1)) (wr .i64 (([rA,rB].getD (wr .i64 (0+1)).toNat tRe.dflt).1.2.1-N0.1.2.1)))]))
noncomputable def fclrk2:HD:=⟨14,44,40,(fclrQ1),#[29],(pcOf F7 17 [0,0,1,0,1,1,1,1]),(pcOf F7 17 [1,0,1,0,1,1,1,1])⟩
noncomputable def fclrI0 (u:Unit) (x3:Int) (x55:Int) (x56:Int) (x57:Bool) (x58:Int) (x59:Int) (x60:Bool) (x105:Nat):Cfg:=⟨.ex (pcOf F7 144 [0,0,1]) ⟨(tmOf 33 [(0,(.yld 19)),(1,(pP 16 0)),(2,(pP 17 0)),(3,(pP 18 0)),(7,(.agg [(iI 400),(iI 420)])),(8,(iI 21)),(9,(iI x3))]),(hpOf 21 [(0,(fclrk1)),(1,(fclrk3)),(2,(cF [(iI 0),(iI 0)])),(3,(cF [(iI 0),(iI 0)])),(4,(fclrk1)),(5,(fclrk3)),(6,(fclrk1)),(7,(fclrk3)),(8,(fclrk4)),(9,(fclrk0)),(10,(cF [(iI x55),(iI x56),(.bool x57)])),(11,(cF [(iI x58),(iI x59),(.bool x60)])),(12,(cF [(pP 8 0)])),(13,(cF [(.bool false)])),(15,(cF [(.yld 14)])),(16,(cF [(iI 400),(iI 420)])),(17,(cF [(iI 50),(iI 120)])),(18,(cF [(.fn 89 [] [])])),(20,(cF [(iI 400),(iI 420)]))]),[],[⟨false,.normal⟩,⟨false,.normal⟩],33,false⟩,⟨38,[⟨19,24,39,(fclrQ0),#[10],(pcOf F7 100 [0,0,1,1,0,1]),(pcOf F7 100 [1,0,1,1,0,1])⟩,(fclrk2)]⟩,[(.lop (pcOf F7 144 [0,0,1]) 21 (fclrQ2) x105),(.blk 0),(.cal [] (.rng (fclrQ0) [] 24 false ⟨39,[(fclrk2)]⟩)),(.blk 0),(.cal [] (.rng (fclrQ1) [] 44 false ⟨40,[]⟩)),(.blk 0),(.seq (pcOf F7 17 [1,1,1,1,1])),(.cal [(.cell 6 24),(.cell 7 24),(.tmp 8)] .top)]⟩
noncomputable def fclrI1 (u:Unit) (x0:Int) (x10:Int) (x62:Int) (x63:Int) (x64:Bool) (x65:Int) (x66:Int) (x67:Bool) (x121:Nat) (x126:Nat):Cfg:=⟨.ex (pcOf F7 144 [0,0,1,1,0,0,1,1,0,0,1]) ⟨(tmOf 33 [(0,(.yld 19)),(1,(pP 16 0)),(2,(pP 17 0)),(3,(pP 18 0)),(5,(iI x0)),(7,(.agg [(iI 400),(iI 420)])),(8,(iI 21)),(9,(iI x0)),(10,(.bool true)),(11,(iI x0)),(12,(.agg [(iI 50),(iI 120)])),(13,(iI 71)),(14,(iI x10))]),(hpOf 22 [(0,(fclrk1)),(1,(fclrk3)),(2,(cF [(iI 0),(iI 0)])),(3,(cF [(iI 0),(iI 0)])),(4,(fclrk1)),(5,(fclrk3)),(6,(fclrk1)),(7,(fclrk3)),(8,(fclrk4)),(9,(fclrk0)),(10,(cF [(iI x62),(iI x63),(.bool x64)])),(11,(cF [(iI x65),(iI x66),(.bool x67)])),(12,(cF [(pP 8 0)])),(13,(cF [(.bool false)])),(15,(cF [(.yld 14)])),(16,(cF [(iI 400),(iI 420)])),(17,(cF [(iI 50),(iI 120)])),(18,(cF [(.fn 89 [] [])])),(20,(cF [(iI 400),(iI 420)])),(21,(cF [(iI 50),(iI 120)]))]),[],[⟨false,.normal⟩,⟨false,.normal⟩],33,false⟩,⟨38,[⟨19,24,39,(fclrQ0),#[10],(pcOf F7 100 [0,0,1,1,0,1]),(pcOf F7 100 [1,0,1,1,0,1])⟩,(fclrk2)]⟩,[(.lop (pcOf F7 144 [0,0,1,1,0,0,1,1,0,0,1]) 22 (tmOf 33 [(0,(.yld 19)),(1,(pP 16 0)),(2,(pP 17 0)),(3,(pP 18 0)),(5,(iI x0)),(7,(.agg [(iI 400),(iI 420)])),(8,(iI 21)),(9,(iI x0)),(10,(.bool true)),(11,(iI x0)),(12,(.agg [(iI 50),(iI 120)])),(13,(iI 71)),(14,(iI 0))]) x121),(.blk 2),(.blk 1),(.seq (pcOf F7 144 [1,1,1,0,0,1])),(.lop (pcOf F7 144 [0,0,1]) 21 (fclrQ2) x126),(.blk 0),(.cal [] (.rng (fclrQ0) [] 24 false ⟨39,[(fclrk2)]⟩)),(.blk 0),(.cal [] (.rng (fclrQ1) [] 44 false ⟨40,[]⟩)),(.blk 0),(.seq (pcOf F7 17 [1,1,1,1,1])),(.cal [(.cell 6 24),(.cell 7 24),(.tmp 8)] .top)]⟩
theorem fclr_start (u:Unit):adv F7 (Z7 [144]) 3000 (startC F7 17 [tSt.av S0,tNi.av N0,.vs tRe false [rA,rB]] 40)=some (.stop (fclrI0 u (0) (0) (0) (false) (0) (0) (false) (1048575))):=by kernel_rfl
theorem fclr_step0 (u:Unit) (x3:Int) (x55:Int) (x56:Int) (x57:Bool) (x58:Int) (x59:Int) (x60:Bool) (x105:Nat):adv F7 (Z7 [144]) 3000 (fclrI0 u x3 x55 x56 x57 x58 x59 x60 (x105+1))=(bif !ile 21 x3 then some (.stop (fclrI1 u (x3) (0) (x55) (x56) (x57) (x58) (x59) (x60) (1048575) (x105+1))) else (bif x57 then (bif ieq x58 x58 then (bif ieq x59 x59 then (bif ieq x58 x58 then (bif ieq x59 x59 then (bif ieq x58 x58 then (bif ieq x59 x59 then (bif ieq x55 x55 then (bif ieq x56 x56 then (bif ieq x55 x55 then (bif ieq x56 x56 then some (.done (.tup [(.agg [(.int .i64 (x55)),(.int .i64 (x56))]),(.agg [(.int .i64 (x58)),(.int .i64 (x59))]),(.int .i64 (0))])) else none) else none) else none) else none) else none) else none) else none) else none) else none) else none) else (bif ieq x58 x58 then (bif ieq x59 x59 then (bif ieq x58 x58 then (bif ieq x59 x59 then (bif ieq x58 x58 then (bif ieq x59 x59 then (bif ieq x55 x55 then (bif ieq x56 x56 then (bif ieq x55 x55 then (bif ieq x56 x56 then some (.done (.tup [(.agg [(.int .i64 (x55)),(.int .i64 (x56))]),(.agg [(.int .i64 (x58)),(.int .i64 (x59))]),(.int .i64 (9))])) else none) else none) else none) else none) else none) else none) else none) else none) else none) else none))):=by kernel_rfl
theorem fclr_step1 (u:Unit) (x0:Int) (x10:Int) (x62:Int) (x63:Int) (x64:Bool) (x65:Int) (x66:Int) (x67:Bool) (x121:Nat) (x126:Nat):adv F7 (Z7 [144]) 3000 (fclrI1 u x0 x10 x62 x63 x64 x65 x66 x67 (x121+1) (x126+1))=(bif !ile 71 x10 then (bif bif ieq 100000000 100000000 then lcO (wr .i64 (400+x0)) (wr .i64 (50+x10)) 100000000&&snO (wr .i64 (400+x0)) (wr .i64 (50+x10)) 100000000 else lcO (wr .i64 (400+x0)) (wr .i64 (50+x10)) 100000000 then (bif bif ieq 169000000 100000000 then lcO (wr .i64 (400+x0)) (wr .i64 (50+x10)) 169000000&&snO (wr .i64 (400+x0)) (wr .i64 (50+x10)) 169000000 else lcO (wr .i64 (400+x0)) (wr .i64 (50+x10)) 169000000 then (bif !false == snO (wr .i64 (400+x0)) (wr .i64 (50+x10)) 169000000 then some (.stop (fclrI1 u (x0) (wr .i64 (x10+1)) (x62) (x63) (x64) (x65) (x66) (x67) (x121) (x126+1))) else (bif !x64 then (bif ieq (wr .i64 (400+x0)) (wr .i64 (400+x0)) then (bif ieq (wr .i64 (400+x0)) (wr .i64 (400+x0)) then (bif !x67 then (bif ieq (wr .i64 (50+x10)) (wr .i64 (50+x10)) then (bif ieq (wr .i64 (50+x10)) (wr .i64 (50+x10)) then some (.stop (fclrI1 u (x0) (wr .i64 (x10+1)) (bif ile (wr .i64 (400+x0)) (wr .i64 (400+x0)) then wr .i64 (400+x0) else wr .i64 (400+x0)) (bif ile (wr .i64 (400+x0)) (wr .i64 (400+x0)) then wr .i64 (400+x0) else wr .i64 (400+x0)) (true) (bif ile (wr .i64 (50+x10)) (wr .i64 (50+x10)) then wr .i64 (50+x10) else wr .i64 (50+x10)) (bif ile (wr .i64 (50+x10)) (wr .i64 (50+x10)) then wr .i64 (50+x10) else wr .i64 (50+x10)) (true) (x121) (x126+1))) else none) else none) else (bif ieq x66 x66 then (bif ieq x65 x65 then some (.stop (fclrI1 u (x0) (wr .i64 (x10+1)) (bif ile (wr .i64 (400+x0)) (wr .i64 (400+x0)) then wr .i64 (400+x0) else wr .i64 (400+x0)) (bif ile (wr .i64 (400+x0)) (wr .i64 (400+x0)) then wr .i64 (400+x0) else wr .i64 (400+x0)) (true) (bif ile x65 (wr .i64 (50+x10)) then x65 else wr .i64 (50+x10)) (bif ile (wr .i64 (50+x10)) x66 then x66 else wr .i64 (50+x10)) (x67) (x121) (x126+1))) else none) else none)) else none) else none) else (bif ieq x63 x63 then (bif ieq x62 x62 then (bif !x67 then (bif ieq (wr .i64 (50+x10)) (wr .i64 (50+x10)) then (bif ieq (wr .i64 (50+x10)) (wr .i64 (50+x10)) then some (.stop (fclrI1 u (x0) (wr .i64 (x10+1)) (bif ile x62 (wr .i64 (400+x0)) then x62 else wr .i64 (400+x0)) (bif ile (wr .i64 (400+x0)) x63 then x63 else wr .i64 (400+x0)) (x64) (bif ile (wr .i64 (50+x10)) (wr .i64 (50+x10)) then wr .i64 (50+x10) else wr .i64 (50+x10)) (bif ile (wr .i64 (50+x10)) (wr .i64 (50+x10)) then wr .i64 (50+x10) else wr .i64 (50+x10)) (true) (x121) (x126+1))) else none) else none) else (bif ieq x66 x66 then (bif ieq x65 x65 then some (.stop (fclrI1 u (x0) (wr .i64 (x10+1)) (bif ile x62 (wr .i64 (400+x0)) then x62 else wr .i64 (400+x0)) (bif ile (wr .i64 (400+x0)) x63 then x63 else wr .i64 (400+x0)) (x64) (bif ile x65 (wr .i64 (50+x10)) then x65 else wr .i64 (50+x10)) (bif ile (wr .i64 (50+x10)) x66 then x66 else wr .i64 (50+x10)) (x67) (x121) (x126+1))) else none) else none)) else none) else none))) else none) else none) else some (.stop (fclrI0 u (wr .i64 (x0+1)) (x62) (x63) (x64) (x65) (x66) (x67) (x126)))):=by kernel_rfl
noncomputable def fclrS (i k:Nat) (t:En6):En6:=bif !seenF (400+i) (50+k) 169000000 then (mtL (t.1,t.2.1,t.2.2.1) (400+i),mtH (t.1,t.2.1,t.2.2.1) (400+i),true,mtL t.2.2.2 (50+k),mtH t.2.2.2 (50+k),true) else t
noncomputable def fclrR (i:Nat):Nat→Nat→En6→En6
 |0,_,t=>t
 |r+1,k,t=>fclrR i r (k+1) (fclrS i k t)
noncomputable def fclrA:Nat→Nat→En6→En6
 |0,_,t=>t
 |r+1,i,t=>fclrA r (i+1) (fclrR i 71 0 t)
theorem fclr_in {v:AV} (i:Nat) (hi:i≤20) (M:Nat):∀ (r k m:Nat) (t:En6),k+r=71→r<m→Ans F7 (fclrI0 () ((i+1:Nat):Int) (fclrR i r k t).1 (fclrR i r k t).2.1 (fclrR i r k t).2.2.1 (fclrR i r k t).2.2.2.1 (fclrR i r k t).2.2.2.2.1 (fclrR i r k t).2.2.2.2.2 M) v→Ans F7 (fclrI1 () i k t.1 t.2.1 t.2.2.1 t.2.2.2.1 t.2.2.2.2.1 t.2.2.2.2.2 m (M+1)) v
 |0,k,m+1,t,hk,hm,K=>by
  have h:=fclr_step1 () i k t.1 t.2.1 t.2.2.1 t.2.2.2.1 t.2.2.2.2.1 t.2.2.2.2.2 m M
  have e:k=71:=by omega
  subst e
  rw[show ile 71 ((71:Nat):Int)=true from rfl,Bool.not_true,cond_false,wr_succ (show i<1048577 by omega)] at h
  exact .stop (Z7_ok _) F7sy h K
 |r+1,k,m+1,t,hk,hm,K=>by
  obtain⟨a,b,x,c,d,y⟩:=t
  have h:=fclr_step1 () i k a b x c d y m M
  have e1:ile 71 (k:Int)=false:=ile_f (by omega)
  simp only[lcO_eq,snO_eq,ieq_self,show ieq 169000000 100000000=false from rfl,cond_true,cond_false] at h
  have s0:=sn_in hi (show k≤70 by omega)
  have l0:=lc_in (q:=100000000) hi (show k≤70 by omega) (by decide) (by decide)
  have l1:=lc_in (q:=169000000) hi (show k≤70 by omega) (by decide) (by decide)
  rw[fclrR] at K
  have ih:=fclr_in i hi M r (k+1) m _ (by omega) (by omega) K
  rw[wr_in (n:=400+(i:Int)) (by omega) (by omega),wr_in (n:=50+(k:Int)) (by omega) (by omega),wr_succ (show k<1048577 by omega)] at h
  simp only[e1,s0,l0,l1,ieq_self,Bool.not_false,Bool.and_self,cond_true] at h
  clear K
  unfold fclrS mtL mtH at ih
  cases s1:seenF (400+i) (50+k) 169000000<;>cases x<;>cases y<;>simp only[s1,beq_self_eq_true,Bool.not_true,Bool.not_false,cond_true,cond_false,Bool.and_self,Bool.and_true,Bool.and_false,Bool.false_and,Bool.true_and,show (true == false)=false from rfl,show (false == true)=false from rfl] at h ih<;>exact .stop (Z7_ok _) F7sy h ih
theorem fclr_out:∀ (r i m:Nat) (t:En6),i+r=21→r<m→Ans F7 (fclrI0 () i t.1 t.2.1 t.2.2.1 t.2.2.2.1 t.2.2.2.2.1 t.2.2.2.2.2 m) (clrV (fclrA r i t))
 |0,i,m+1,t,hi,hm=>by
  obtain⟨a,b,x,c,d,y⟩:=t
  have h:=fclr_step0 () i a b x c d y m
  have e:i=21:=by omega
  subst e
  simp only[show ile 21 ((21:Nat):Int)=true from rfl,Bool.not_true,cond_false,ieq_self,cond_true] at h
  cases x<;>exact .done (Z7_ok _) F7sy h rfl
 |r+1,i,m+1,t,hi,hm=>by
  have h:=fclr_step0 () i t.1 t.2.1 t.2.2.1 t.2.2.2.1 t.2.2.2.2.1 t.2.2.2.2.2 m
  rw[show ile 21 (i:Int)=false from ile_f (by omega),Bool.not_false,cond_true] at h
  exact .stop (Z7_ok _) F7sy h (fclr_in i (by omega) m 71 0 1048575 t (by omega) (by omega) (fclr_out r (i+1) m _ (by omega) (by omega)))
theorem fclr_fin:fclrA 21 0 (0,0,false,0,0,false)=(400,420,true,50,65,true):=by kernel_rfl
theorem fclr_ans:Ans F7 (startC F7 17 [tSt.av S0,tNi.av N0,.vs tRe false [rA,rB]] 40) (.tup [.agg [.int .i64 400,.int .i64 420],.agg [.int .i64 50,.int .i64 65],.int .i64 0]):=by
 have h:=fclr_out 21 0 1048575 (0,0,false,0,0,false) (by omega) (by omega)
 rw[fclr_fin] at h
 exact .stop (Z7_ok _) F7sy (fclr_start ()) h
end Go.Proofs.YtjipgnghjbmlkaaGreatDoor


set_option maxRecDepth 100000
namespace Go.Proofs.YtjipgnghjbmlkaaGreatDoor
open Go Go.Eng
noncomputable def fcouQ0:Tmps:=(tmOf 24 [(0,(.yld 21)),(1,(pP 19 0)),(2,(pP 20 0)),(3,(pP 22 0)),(7,(pP 12 0)),(8,(.bool false)),(9,(.fn 144 [] [(pP 23 0),(pP 24 0),(pP 25 0)]))])
noncomputable def fcouQ1:Tmps:=(tmOf 54 [(0,(.agg [(.vs tGr (false) (S0.1.2)),(iI 20),(iI 30),(iI 50),(iI 120)])),(1,(.agg [(iI 0),(iI 0),(iI 0),(iI 8),(iI 1)])),(2,(.vs tRe (false) ([rA]))),(3,(.agg [(iI 0),(iI 12000)])),(4,(.bool false)),(5,(pP 0 0)),(6,(pP 1 0)),(8,(pP 2 0)),(10,(iI 0)),(11,(iI 0)),(12,(pP 12 0)),(13,(iI 0)),(14,(pP 16 0)),(15,(pP 17 0)),(16,(pP 18 0)),(18,(.tup [(pP 12 0),(iI 0)])),(19,(.agg [(.vs tGr (false) (S0.1.2)),(iI 20),(iI 30),(iI 50),(iI 120)])),(20,(.agg [(iI 0),(iI 0),(iI 0),(iI 8),(iI 1)])),(21,(.vs tRe (false) ([rA]))),(22,(pP 2 0)),(23,(iI 0)),(24,(pP 2 1)),(25,(iI 12000)),(26,(.sl 3 0 (2) (2) 1)),(27,(.fn 106 [] [(pP 5 0),(pP 6 0),(pP 7 0)])),(28,(.sl 4 0 (1) (1) 1)),(29,(.tup [(pP 12 0),(iI 0)])),(30,(pP 12 0)),(31,(iI 0)),(32,(iI 0)),(33,(.bool false)),(35,(pP 12 0)),(36,(.agg [(iI 0),(iI 12000)])),(37,(.agg [(iI 144000000),(iI 0)])),(38,(pP 12 0)),(39,(.bool false)),(40,(.fn 100 [] [(pP 19 0),(pP 20 0)]))])
noncomputable def fcouQ2:Tmps:=(tmOf 33 [(0,(.yld 26)),(1,(pP 23 0)),(2,(pP 24 0)),(3,(pP 25 0)),(7,(.agg [(iI 400),(iI 420)])),(8,(iI 21)),(9,(iI 0))])
noncomputable def fcouk1:AO:=(cF [(.vs tGr (false) (S0.1.2)),(iI 20),(iI 30),(iI 50),(iI 120)])
noncomputable def fcouk3:AO:=(cF [(iI 0),(iI 0),(iI 0),(iI 8),(iI 1)])
noncomputable def fcouk4:AO:=(cF [(.vs tGr (false) (S0.1.2)),(iI 20),(iI 30),(iI 50),(iI 120),(iI 0),(iI 0),(iI 0),(iI 8),(iI 1),(.sl 13 0 (1) (1) 6)])
noncomputable def fcouk0:AO:=(cF ([AV.int IntKind.i64 ([rA].getD (Int.toNat 0) tRe.dflt).1.1,AV.int IntKind.i64 ([rA].getD (Int.toNat 0) tRe.dflt).1.2.1,AV.bool false,AV.bool true,AV.int IntKind.i64 100000000,AV.int IntKind.i64 (ptF (wr .i64 (([rA].getD (Int.toNat 0) tRe.dflt).1.1-N0.1.1)) (wr .i64 (([rA].getD (Int.toNat 0) tRe.dflt).1.2.1-N0.1.2.1)))]))
noncomputable def fcouk2:HD:=⟨21,54,40,(fcouQ1),#[41],(pcOf F7 23 [0,0,1,0,1,1,1,1,1]),(pcOf F7 23 [1,0,1,0,1,1,1,1,1])⟩
noncomputable def fcouI0 (u:Unit) (x3:Int) (x65:Bool) (x66:Bool) (x127:Nat):Cfg:=⟨.ex (pcOf F7 144 [0,0,1]) ⟨(tmOf 33 [(0,(.yld 26)),(1,(pP 23 0)),(2,(pP 24 0)),(3,(pP 25 0)),(7,(.agg [(iI 400),(iI 420)])),(8,(iI 21)),(9,(iI x3))]),(hpOf 28 [(0,(fcouk1)),(1,(fcouk3)),(2,(cF [(iI 0),(iI 12000)])),(3,(.cells true [(iI 0),(iI 12000)])),(4,(cF [(.fn 106 [] [(pP 5 0),(pP 6 0),(pP 7 0)])])),(5,(cF [(iI (-30000))])),(6,(cF [(iI 30000)])),(7,(cF [(.csl [(iI 0),(iI 12000)] 2)])),(8,(fcouk1)),(9,(fcouk3)),(10,(fcouk1)),(11,(fcouk3)),(12,(fcouk4)),(13,(fcouk0)),(14,(cF [(iI 0),(iI 12000)])),(15,(cF [(iI 144000000),(iI 0)])),(16,(cF [(iI 144000000),(iI 0)])),(17,(cF [(.bool x65)])),(18,(cF [(.bool x66)])),(19,(cF [(pP 12 0)])),(20,(cF [(.bool false)])),(22,(cF [(.yld 21)])),(23,(cF [(iI 400),(iI 420)])),(24,(cF [(iI 50),(iI 120)])),(25,(cF [(.fn 89 [] [])])),(27,(cF [(iI 400),(iI 420)]))]),[],[⟨false,.normal⟩,⟨false,.normal⟩],33,false⟩,⟨38,[⟨26,24,39,(fcouQ0),#[10],(pcOf F7 100 [0,0,1,1,0,1]),(pcOf F7 100 [1,0,1,1,0,1])⟩,(fcouk2)]⟩,[(.lop (pcOf F7 144 [0,0,1]) 28 (fcouQ2) x127),(.blk 0),(.cal [] (.rng (fcouQ0) [] 24 false ⟨39,[(fcouk2)]⟩)),(.blk 0),(.cal [] (.rng (fcouQ1) [] 54 false ⟨40,[]⟩)),(.blk 0),(.seq (pcOf F7 23 [1,1,1,1,1,1])),(.cal [(.tmp 10),(.tmp 11)] .top)]⟩
noncomputable def fcouI1 (u:Unit) (x0:Int) (x10:Int) (x72:Bool) (x73:Bool) (x143:Nat) (x148:Nat):Cfg:=⟨.ex (pcOf F7 144 [0,0,1,1,0,0,1,1,0,0,1]) ⟨(tmOf 33 [(0,(.yld 26)),(1,(pP 23 0)),(2,(pP 24 0)),(3,(pP 25 0)),(5,(iI x0)),(7,(.agg [(iI 400),(iI 420)])),(8,(iI 21)),(9,(iI x0)),(10,(.bool true)),(11,(iI x0)),(12,(.agg [(iI 50),(iI 120)])),(13,(iI 71)),(14,(iI x10))]),(hpOf 29 [(0,(fcouk1)),(1,(fcouk3)),(2,(cF [(iI 0),(iI 12000)])),(3,(.cells true [(iI 0),(iI 12000)])),(4,(cF [(.fn 106 [] [(pP 5 0),(pP 6 0),(pP 7 0)])])),(5,(cF [(iI (-30000))])),(6,(cF [(iI 30000)])),(7,(cF [(.csl [(iI 0),(iI 12000)] 2)])),(8,(fcouk1)),(9,(fcouk3)),(10,(fcouk1)),(11,(fcouk3)),(12,(fcouk4)),(13,(fcouk0)),(14,(cF [(iI 0),(iI 12000)])),(15,(cF [(iI 144000000),(iI 0)])),(16,(cF [(iI 144000000),(iI 0)])),(17,(cF [(.bool x72)])),(18,(cF [(.bool x73)])),(19,(cF [(pP 12 0)])),(20,(cF [(.bool false)])),(22,(cF [(.yld 21)])),(23,(cF [(iI 400),(iI 420)])),(24,(cF [(iI 50),(iI 120)])),(25,(cF [(.fn 89 [] [])])),(27,(cF [(iI 400),(iI 420)])),(28,(cF [(iI 50),(iI 120)]))]),[],[⟨false,.normal⟩,⟨false,.normal⟩],33,false⟩,⟨38,[⟨26,24,39,(fcouQ0),#[10],(pcOf F7 100 [0,0,1,1,0,1]),(pcOf F7 100 [1,0,1,1,0,1])⟩,(fcouk2)]⟩,[(.lop (pcOf F7 144 [0,0,1,1,0,0,1,1,0,0,1]) 29 (tmOf 33 [(0,(.yld 26)),(1,(pP 23 0)),(2,(pP 24 0)),(3,(pP 25 0)),(5,(iI x0)),(7,(.agg [(iI 400),(iI 420)])),(8,(iI 21)),(9,(iI x0)),(10,(.bool true)),(11,(iI x0)),(12,(.agg [(iI 50),(iI 120)])),(13,(iI 71)),(14,(iI 0))]) x143),(.blk 2),(.blk 1),(.seq (pcOf F7 144 [1,1,1,0,0,1])),(.lop (pcOf F7 144 [0,0,1]) 28 (fcouQ2) x148),(.blk 0),(.cal [] (.rng (fcouQ0) [] 24 false ⟨39,[(fcouk2)]⟩)),(.blk 0),(.cal [] (.rng (fcouQ1) [] 54 false ⟨40,[]⟩)),(.blk 0),(.seq (pcOf F7 23 [1,1,1,1,1,1])),(.cal [(.tmp 10),(.tmp 11)] .top)]⟩
theorem fcou_start (u:Unit):adv F7 (Z7 [144]) 3000 (startC F7 23 [tSt.av S0,tNi.av N0,.vs tRe false [rA],.agg [.int .i64 0,.int .i64 12000],.bool false] 40)=some (.stop (fcouI0 u (0) (false) (false) (1048575))):=by kernel_rfl
theorem fcou_step0 (u:Unit) (x3:Int) (x65:Bool) (x66:Bool) (x127:Nat):adv F7 (Z7 [144]) 3000 (fcouI0 u x3 x65 x66 (x127+1))=(bif !ile 21 x3 then some (.stop (fcouI1 u (x3) (0) (x65) (x66) (1048575) (x127+1))) else (bif x65 then (bif x66 then some (.done (.tup [(.int .i64 (1)),(.int .i64 (0))])) else (bif x65 then some (.done (.tup [(.int .i64 (2)),(.int .i64 (0))])) else (bif x66 then some (.done (.tup [(.int .i64 (0)),(.int .i64 (0))])) else some (.done (.tup [(.int .i64 (0)),(.int .i64 (9))]))))) else (bif x65 then some (.done (.tup [(.int .i64 (2)),(.int .i64 (0))])) else (bif x66 then some (.done (.tup [(.int .i64 (0)),(.int .i64 (0))])) else some (.done (.tup [(.int .i64 (0)),(.int .i64 (9))])))))):=by kernel_rfl
theorem fcou_step1 (u:Unit) (x0:Int) (x10:Int) (x72:Bool) (x73:Bool) (x143:Nat) (x148:Nat):adv F7 (Z7 [144]) 3000 (fcouI1 u x0 x10 x72 x73 (x143+1) (x148+1))=(bif !ile 71 x10 then (bif bif ieq 100000000 100000000 then lcO (wr .i64 (400+x0)) (wr .i64 (50+x10)) 100000000&&snO (wr .i64 (400+x0)) (wr .i64 (50+x10)) 100000000 else lcO (wr .i64 (400+x0)) (wr .i64 (50+x10)) 100000000 then (bif bif ieq 144000000 100000000 then lcO (wr .i64 (400+x0)) (wr .i64 (50+x10)) 144000000&&snO (wr .i64 (400+x0)) (wr .i64 (50+x10)) 144000000 else lcO (wr .i64 (400+x0)) (wr .i64 (50+x10)) 144000000 then (bif snO (wr .i64 (400+x0)) (wr .i64 (50+x10)) 144000000 then some (.stop (fcouI1 u (x0) (wr .i64 (x10+1)) (true) (x73) (x143) (x148+1))) else some (.stop (fcouI1 u (x0) (wr .i64 (x10+1)) (x72) (true) (x143) (x148+1)))) else none) else none) else some (.stop (fcouI0 u (wr .i64 (x0+1)) (x72) (x73) (x148)))):=by kernel_rfl
noncomputable def couV (t:Bool×Bool):AV:=.tup [.int .i64 (bif t.1 then (bif t.2 then 1 else 2) else 0),.int .i64 (bif t.1 || t.2 then 0 else 9)]
noncomputable def fcouS (i k:Nat) (t:Bool×Bool):Bool×Bool:=bif seenF (400+i) (50+k) 144000000 then (true,t.2) else (t.1,true)
noncomputable def fcouR (i:Nat):Nat→Nat→Bool×Bool→Bool×Bool
 |0,_,t=>t
 |r+1,k,t=>fcouR i r (k+1) (fcouS i k t)
noncomputable def fcouA:Nat→Nat→Bool×Bool→Bool×Bool
 |0,_,t=>t
 |r+1,i,t=>fcouA r (i+1) (fcouR i 71 0 t)
theorem fcou_in {v:AV} (i:Nat) (hi:i≤20) (M:Nat):∀ (r k m:Nat) (t:Bool×Bool),k+r=71→r<m→Ans F7 (fcouI0 () ((i+1:Nat):Int) (fcouR i r k t).1 (fcouR i r k t).2 M) v→Ans F7 (fcouI1 () i k t.1 t.2 m (M+1)) v
 |0,k,m+1,t,hk,hm,K=>by
  have h:=fcou_step1 () i k t.1 t.2 m M
  have e:k=71:=by omega
  subst e
  rw[show ile 71 ((71:Nat):Int)=true from rfl,Bool.not_true,cond_false,wr_succ (show i<1048577 by omega)] at h
  exact .stop (Z7_ok _) F7sy h K
 |r+1,k,m+1,t,hk,hm,K=>by
  obtain⟨a,b⟩:=t
  have h:=fcou_step1 () i k a b m M
  have e1:ile 71 (k:Int)=false:=ile_f (by omega)
  simp only[lcO_eq,snO_eq,ieq_self,show ieq 144000000 100000000=false from rfl,cond_true,cond_false] at h
  have s0:=sn_in hi (show k≤70 by omega)
  have l0:=lc_in (q:=100000000) hi (show k≤70 by omega) (by decide) (by decide)
  have l1:=lc_in (q:=144000000) hi (show k≤70 by omega) (by decide) (by decide)
  rw[fcouR] at K
  have ih:=fcou_in i hi M r (k+1) m _ (by omega) (by omega) K
  rw[wr_in (n:=400+(i:Int)) (by omega) (by omega),wr_in (n:=50+(k:Int)) (by omega) (by omega),wr_succ (show k<1048577 by omega)] at h
  simp only[e1,s0,l0,l1,Bool.not_false,Bool.and_self,cond_true] at h
  clear K
  unfold fcouS at ih
  cases s1:seenF (400+i) (50+k) 144000000<;>simp only[s1,beq_self_eq_true,Bool.not_true,Bool.not_false,cond_true,cond_false,show (true == false)=false from rfl,show (false == true)=false from rfl] at h ih<;>exact .stop (Z7_ok _) F7sy h ih
theorem fcou_out:∀ (r i m:Nat) (t:Bool×Bool),i+r=21→r<m→Ans F7 (fcouI0 () i t.1 t.2 m) (couV (fcouA r i t))
 |0,i,m+1,t,hi,hm=>by
  obtain⟨a,b⟩:=t
  have h:=fcou_step0 () i a b m
  have e:i=21:=by omega
  subst e
  simp only[show ile 21 ((21:Nat):Int)=true from rfl,Bool.not_true,cond_false] at h
  cases a<;>cases b<;>exact .done (Z7_ok _) F7sy h rfl
 |r+1,i,m+1,t,hi,hm=>by
  have h:=fcou_step0 () i t.1 t.2 m
  rw[show ile 21 (i:Int)=false from ile_f (by omega),Bool.not_false,cond_true] at h
  exact .stop (Z7_ok _) F7sy h (fcou_in i (by omega) m 71 0 1048575 t (by omega) (by omega) (fcou_out r (i+1) m _ (by omega) (by omega)))
theorem fcou_fin:fcouA 21 0 (false,false)=(true,true):=by kernel_rfl
theorem fcou_ans:Ans F7 (startC F7 23 [tSt.av S0,tNi.av N0,.vs tRe false [rA],.agg [.int .i64 0,.int .i64 12000],.bool false] 40) (.tup [.int .i64 1,.int .i64 0]):=by
 have h:=fcou_out 21 0 1048575 (false,false) (by omega) (by omega)
 rw[fcou_fin] at h
 exact .stop (Z7_ok _) F7sy (fcou_start ()) h
end Go.Proofs.YtjipgnghjbmlkaaGreatDoor


set_option maxRecDepth 100000
namespace Go.Proofs.YtjipgnghjbmlkaaGreatDoor
open Go Go.Eng
noncomputable def ffarQ0:Tmps:=(tmOf 24 [(0,(.yld 10)),(1,(pP 8 0)),(2,(pP 9 0)),(3,(pP 11 0)),(7,(pP 6 0)),(8,(.bool false)),(9,(.fn 144 [] [(pP 12 0),(pP 13 0),(pP 14 0)]))])
noncomputable def ffark4:AV:=(.agg [(.vs tGr (false) (S0.1.2)),(iI 20),(iI 30),(iI 50),(iI 120)])
noncomputable def ffarQ1:Tmps:=(tmOf 35 [(0,(ffark4)),(1,(.agg [(iI 0),(iI 0),(iI 0),(iI 8),(iI 1)])),(2,(.vs tRe (true) ([]))),(3,(pP 0 0)),(4,(pP 1 0)),(6,(iI 0)),(7,(iI 0)),(8,(iI 0)),(9,(pP 6 0)),(10,(pP 7 0)),(12,(.tup [(pP 6 0),(iI 0)])),(13,(ffark4)),(14,(.agg [(iI 0),(iI 0),(iI 0),(iI 8),(iI 1)])),(15,(.vs tRe (true) ([]))),(16,(.tup [(pP 6 0),(iI 0)])),(17,(pP 6 0)),(18,(iI 0)),(19,(iI 0)),(20,(.bool false)),(22,(pP 6 0)),(23,(.fn 100 [] [(pP 8 0),(pP 9 0)]))])
noncomputable def ffarQ2:Tmps:=(tmOf 33 [(0,(.yld 15)),(1,(pP 12 0)),(2,(pP 13 0)),(3,(pP 14 0)),(7,(.agg [(iI 400),(iI 420)])),(8,(iI 21)),(9,(iI 0))])
noncomputable def ffark1:AO:=(cF [(.vs tGr (false) (S0.1.2)),(iI 20),(iI 30),(iI 50),(iI 120)])
noncomputable def ffark2:AO:=(cF [(iI 0),(iI 0),(iI 0),(iI 8),(iI 1)])
noncomputable def ffark3:AO:=(cF [(.vs tGr (false) (S0.1.2)),(iI 20),(iI 30),(iI 50),(iI 120),(iI 0),(iI 0),(iI 0),(iI 8),(iI 1),.nils])
noncomputable def ffark5:HD:=⟨15,24,39,(ffarQ0),#[10],(pcOf F6 100 [0,0,1,1,0,1]),(pcOf F6 100 [1,0,1,1,0,1])⟩
noncomputable def ffark0:HD:=⟨10,35,40,(ffarQ1),#[24],(pcOf F6 25 [0,0,1,0,1,1,1,1]),(pcOf F6 25 [1,0,1,0,1,1,1,1])⟩
noncomputable def ffarI0 (u:Unit) (x3:Int) (x48:Int) (x49:Int) (x50:Bool) (x97:Nat):Cfg:=⟨.ex (pcOf F6 144 [0,0,1]) ⟨(tmOf 33 [(0,(.yld 15)),(1,(pP 12 0)),(2,(pP 13 0)),(3,(pP 14 0)),(7,(.agg [(iI 400),(iI 420)])),(8,(iI 21)),(9,(iI x3))]),(hpOf 17 [(0,(ffark1)),(1,(ffark2)),(2,(ffark1)),(3,(ffark2)),(4,(ffark1)),(5,(ffark2)),(6,(ffark3)),(7,(cF [(iI x48),(iI x49),(.bool x50)])),(8,(cF [(pP 6 0)])),(9,(cF [(.bool false)])),(11,(cF [(.yld 10)])),(12,(cF [(iI 400),(iI 420)])),(13,(cF [(iI 50),(iI 120)])),(14,(cF [(.fn 89 [] [])])),(16,(cF [(iI 400),(iI 420)]))]),[],[⟨false,.normal⟩,⟨false,.normal⟩],33,false⟩,⟨38,[(ffark5),(ffark0)]⟩,[(.lop (pcOf F6 144 [0,0,1]) 17 (ffarQ2) x97),(.blk 0),(.cal [] (.rng (ffarQ0) [] 24 false ⟨39,[(ffark0)]⟩)),(.blk 0),(.cal [] (.rng (ffarQ1) [] 35 false ⟨40,[]⟩)),(.blk 0),(.seq (pcOf F6 25 [1,1,1,1,1])),(.cal [(.tmp 6),(.tmp 7),(.tmp 8)] .top)]⟩
noncomputable def ffarQ3 (y0:Int):Tmps:=(tmOf 33 [(0,(.yld 15)),(1,(pP 12 0)),(2,(pP 13 0)),(3,(pP 14 0)),(5,(iI y0)),(7,(.agg [(iI 400),(iI 420)])),(8,(iI 21)),(9,(iI y0)),(10,(.bool true)),(11,(iI y0)),(12,(.agg [(iI 50),(iI 120)])),(13,(iI 71)),(14,(iI 0))])
noncomputable def ffarI1 (u:Unit) (x0:Int) (x10:Int) (x55:Int) (x56:Int) (x57:Bool) (x113:Nat) (x118:Nat):Cfg:=⟨.ex (pcOf F6 144 [0,0,1,1,0,0,1,1,0,0,1]) ⟨(tmOf 33 [(0,(.yld 15)),(1,(pP 12 0)),(2,(pP 13 0)),(3,(pP 14 0)),(5,(iI x0)),(7,(.agg [(iI 400),(iI 420)])),(8,(iI 21)),(9,(iI x0)),(10,(.bool true)),(11,(iI x0)),(12,(.agg [(iI 50),(iI 120)])),(13,(iI 71)),(14,(iI x10))]),(hpOf 18 [(0,(ffark1)),(1,(ffark2)),(2,(ffark1)),(3,(ffark2)),(4,(ffark1)),(5,(ffark2)),(6,(ffark3)),(7,(cF [(iI x55),(iI x56),(.bool x57)])),(8,(cF [(pP 6 0)])),(9,(cF [(.bool false)])),(11,(cF [(.yld 10)])),(12,(cF [(iI 400),(iI 420)])),(13,(cF [(iI 50),(iI 120)])),(14,(cF [(.fn 89 [] [])])),(16,(cF [(iI 400),(iI 420)])),(17,(cF [(iI 50),(iI 120)]))]),[],[⟨false,.normal⟩,⟨false,.normal⟩],33,false⟩,⟨38,[(ffark5),(ffark0)]⟩,[(.lop (pcOf F6 144 [0,0,1,1,0,0,1,1,0,0,1]) 18 (ffarQ3 x0) x113),(.blk 2),(.blk 1),(.seq (pcOf F6 144 [1,1,1,0,0,1])),(.lop (pcOf F6 144 [0,0,1]) 17 (ffarQ2) x118),(.blk 0),(.cal [] (.rng (ffarQ0) [] 24 false ⟨39,[(ffark0)]⟩)),(.blk 0),(.cal [] (.rng (ffarQ1) [] 35 false ⟨40,[]⟩)),(.blk 0),(.seq (pcOf F6 25 [1,1,1,1,1])),(.cal [(.tmp 6),(.tmp 7),(.tmp 8)] .top)]⟩
noncomputable def ffarI2 (u:Unit) (x2:Int) (x3:Int) (x49:Int) (x50:Int) (x51:Bool) (x61:Int) (x62:Int) (x73:Nat) (x150:Int) (x151:Int) (x220:Nat) (x225:Nat):Cfg:=⟨.ex (pcOf F6 74 [0,0,0,1,1]) ⟨(tmOf 26 [(0,(iI 60000)),(1,(.fn 75 [] [(pP 23 0)])),(4,(iI 0)),(5,(iI x2)),(6,(iI x3)),(8,(iI 60000))]),(hpOf 24 [(0,(ffark1)),(1,(ffark2)),(2,(ffark1)),(3,(ffark2)),(4,(ffark1)),(5,(ffark2)),(6,(ffark3)),(7,(cF [(iI x49),(iI x50),(.bool x51)])),(8,(cF [(pP 6 0)])),(9,(cF [(.bool false)])),(11,(cF [(.yld 10)])),(12,(cF [(iI 400),(iI 420)])),(13,(cF [(iI 50),(iI 120)])),(14,(cF [(.fn 89 [] [])])),(16,(cF [(iI 400),(iI 420)])),(17,(cF [(iI 50),(iI 120)])),(18,(cF [(iI x61),(iI x62)])),(19,(cF [(.ifc 158 (.agg [(iI x61),(iI x62)]))])),(20,(cF [(pP 6 0)])),(21,(cF [(.bool false)])),(23,(cF [(.ifc 158 (.agg [(iI x61),(iI x62)]))]))]),[],[],26,false⟩,⟨39,[]⟩,[(.lop (pcOf F6 74 [0,0,0,1,1]) 24 (tmOf 26 [(0,(iI 60000)),(1,(.fn 75 [] [(pP 23 0)])),(4,(iI 0)),(5,(iI 0)),(6,(iI 60000)),(8,(iI 60000))]) x73),(.blk 0),(.seq (pcOf F6 74 [1,1,1])),(.cal [(.tmp 4)] (.op (pcOf F6 25 [0,1,0,1,0,1,1,1,1]) 2 (some 26) ((opsOf (pcOf F6 25 [0,1,0,1,0,1,1,1,1]).c).toList.drop 2) (tmOf 35 [(0,(ffark4)),(1,(.agg [(iI 0),(iI 0),(iI 0),(iI 8),(iI 1)])),(2,(.vs tRe (true) ([]))),(3,(pP 0 0)),(4,(pP 1 0)),(6,(iI 0)),(7,(iI 0)),(8,(iI 0)),(9,(pP 6 0)),(10,(pP 7 0)),(11,(pP 23 0)),(12,(.tup [(pP 6 0),(iI 0)])),(13,(ffark4)),(14,(.agg [(iI 0),(iI 0),(iI 0),(iI 8),(iI 1)])),(15,(.vs tRe (true) ([]))),(16,(.tup [(pP 6 0),(iI 0)])),(17,(pP 6 0)),(18,(iI 0)),(19,(iI 0)),(20,(.bool false)),(22,(pP 6 0)),(23,(.fn 100 [] [(pP 8 0),(pP 9 0)])),(24,(.ifc 158 (.agg [(iI x61),(iI x62)]))),(25,(.fn 75 [] [(pP 23 0)]))]) [] 35 true ⟨40,[]⟩)),(.blk 1),(.rnd [] (.op (pcOf F6 100 [0,1,0,1,0,1,1,0,1]) 3 (some 22) ((opsOf (pcOf F6 100 [0,1,0,1,0,1,1,0,1]).c).toList.drop 3) (tmOf 24 [(0,(.yld 10)),(1,(pP 8 0)),(2,(pP 9 0)),(3,(pP 11 0)),(4,(pP 19 0)),(7,(pP 6 0)),(8,(.bool false)),(9,(.fn 144 [] [(pP 12 0),(pP 13 0),(pP 14 0)])),(10,(.ifc 158 (.agg [(iI x61),(iI x62)]))),(11,(pP 6 0)),(12,(.bool false)),(13,(.fn 122 [] [(pP 20 0),(pP 21 0)])),(20,(.yld 10)),(21,(.ifc 158 (.agg [(iI x61),(iI x62)])))]) [] 24 true ⟨39,[(ffark0)]⟩)),(.seq (pcOf F6 100 [1,1,0,1,0,1,1,0,1])),(.blk 1),(.rnd [] (.op (pcOf F6 144 [0,1,0,0,1,1,0,0,1,1,0,0,1,1,0,0,1]) 13 (some 29) ((opsOf (pcOf F6 144 [0,1,0,0,1,1,0,0,1,1,0,0,1,1,0,0,1]).c).toList.drop 13) (tmOf 33 [(0,(.yld 15)),(1,(pP 12 0)),(2,(pP 13 0)),(3,(pP 14 0)),(5,(iI x150)),(6,(iI x151)),(7,(.agg [(iI 400),(iI 420)])),(8,(iI 21)),(9,(iI x150)),(10,(.bool true)),(11,(iI x150)),(12,(.agg [(iI 50),(iI 120)])),(13,(iI 71)),(14,(iI x151)),(15,(.bool true)),(16,(iI x151)),(17,(.yld 15)),(18,(.fn 89 [] [])),(19,(pP 12 0)),(20,(iI 400)),(21,(iI x150)),(22,(iI x61)),(23,(pP 13 0)),(24,(iI 50)),(25,(iI x151)),(26,(iI x62)),(27,(.agg [(iI x61),(iI x62)])),(28,(.ifc 158 (.agg [(iI x61),(iI x62)])))]) [] 33 false ⟨38,[(ffark5),(ffark0)]⟩)),(.seq (pcOf F6 144 [1,1,0,0,1,1,0,0,1,1,0,0,1,1,0,0,1])),(.blk 3),(.seq (pcOf F6 144 [1,1,1,0,0,1,1,0,0,1,1,0,0,1])),(.lop (pcOf F6 144 [0,0,1,1,0,0,1,1,0,0,1]) 18 (ffarQ3 x150) x220),(.blk 2),(.blk 1),(.seq (pcOf F6 144 [1,1,1,0,0,1])),(.lop (pcOf F6 144 [0,0,1]) 17 (ffarQ2) x225),(.blk 0),(.cal [] (.rng (ffarQ0) [] 24 false ⟨39,[(ffark0)]⟩)),(.blk 0),(.cal [] (.rng (ffarQ1) [] 35 false ⟨40,[]⟩)),(.blk 0),(.seq (pcOf F6 25 [1,1,1,1,1])),(.cal [(.tmp 6),(.tmp 7),(.tmp 8)] .top)]⟩
theorem ffar_start (u:Unit):adv F6 (Z6 [74,144]) 3000 (startC F6 25 [tSt.av S0,tNi.av N0,.vs tRe true []] 40)=some (.stop (ffarI0 u (0) (0) (0) (false) (1048575))):=by kernel_rfl
theorem ffar_step0 (u:Unit) (x3:Int) (x48:Int) (x49:Int) (x50:Bool) (x97:Nat):adv F6 (Z6 [74,144]) 3000 (ffarI0 u x3 x48 x49 x50 (x97+1))=(bif !ile 21 x3 then some (.stop (ffarI1 u (x3) (0) (x48) (x49) (x50) (1048575) (x97+1))) else (bif x50 then (bif ieq x49 x49 then (bif ieq x49 x49 then (bif ieq x48 x48 then (bif ieq x48 x48 then some (.done (.tup [(.int .i64 (x48)),(.int .i64 (x49)),(.int .i64 (0))])) else none) else none) else none) else none) else (bif ieq x49 x49 then (bif ieq x49 x49 then (bif ieq x48 x48 then (bif ieq x48 x48 then some (.done (.tup [(.int .i64 (x48)),(.int .i64 (x49)),(.int .i64 (9))])) else none) else none) else none) else none))):=by kernel_rfl
theorem ffar_step1 (u:Unit) (x0:Int) (x10:Int) (x55:Int) (x56:Int) (x57:Bool) (x113:Nat) (x118:Nat):adv F6 (Z6 [74,144]) 3000 (ffarI1 u x0 x10 x55 x56 x57 (x113+1) (x118+1))=(bif !ile 71 x10 then some (.stop (ffarI2 u (0) (60000) (x55) (x56) (x57) (wr .i64 (400+x0)) (wr .i64 (50+x10)) (1048575) (x0) (x10) (x113+1) (x118+1))) else some (.stop (ffarI0 u (wr .i64 (x0+1)) (x55) (x56) (x57) (x118)))):=by kernel_rfl
theorem ffar_step2 (u:Unit) (x2:Int) (x3:Int) (x49:Int) (x50:Int) (x51:Bool) (x61:Int) (x62:Int) (x73:Nat) (x150:Int) (x151:Int) (x220:Nat) (x225:Nat):adv F6 (Z6 [74,144]) 3000 (ffarI2 u x2 x3 x49 x50 x51 x61 x62 (x73+1) x150 x151 (x220+1) (x225+1))=(let z1:=(wr .i64 ((wr IntKind.u64 (wr .i64 (x2+x3))).fdiv (2 ^ min (Int.toNat 1) IntKind.u64.bits))+1);(bif !ile x3 x2 then (bif lcB x61 x62 (wr .i64 (wr .i64 z1 * wr .i64 z1)) then (bif avbeq (AV.ifc 158 (AV.agg [AV.int IntKind.i64 x61,AV.int IntKind.i64 x62])) (AV.ifc 158 (AV.agg [AV.int IntKind.i64 x61,AV.int IntKind.i64 x62])) then (bif avbeq (AV.ifc 158 (AV.agg [AV.int IntKind.i64 x61,AV.int IntKind.i64 x62])) (AV.ifc 158 (AV.agg [AV.int IntKind.i64 x61,AV.int IntKind.i64 x62])) then (bif !!seenF x61 x62 (wr .i64 (wr .i64 z1 * wr .i64 z1)) then some (.stop (ffarI2 u (wr .i64 z1) (x3) (x49) (x50) (x51) (x61) (x62) (x73) (x150) (x151) (x220+1) (x225+1))) else some (.stop (ffarI2 u (x2) (wr .i64 ((wr IntKind.u64 (wr .i64 (x2+x3))).fdiv (2 ^ min (Int.toNat 1) IntKind.u64.bits))) (x49) (x50) (x51) (x61) (x62) (x73) (x150) (x151) (x220+1) (x225+1)))) else none) else none) else none) else (bif !x51 then (bif ieq x2 x2 then (bif ieq x2 x2 then some (.stop (ffarI1 u (x150) (wr .i64 (x151+1)) (bif ile x2 x2 then x2 else x2) (bif ile x2 x2 then x2 else x2) (true) (x220) (x225+1))) else none) else none) else (bif ieq x50 x50 then (bif ieq x49 x49 then some (.stop (ffarI1 u (x150) (wr .i64 (x151+1)) (bif ile x49 x2 then x49 else x2) (bif ile x2 x50 then x50 else x2) (x51) (x220) (x225+1))) else none) else none)))):=by kernel_rfl
noncomputable def srch (c k:Int):Nat→Int→Int→Int
 |0,lo,_=>lo
 |r+1,lo,hi=>bif ile hi lo then lo else (bif seenF c k (((lo+hi) / 2+1) * ((lo+hi) / 2+1)) then srch c k r ((lo+hi) / 2+1) hi else srch c k r lo ((lo+hi) / 2))
abbrev En3:=Int×Int×Bool
noncomputable def ffarS (i k:Nat) (t:En3):En3:=(mtL t (srch (400+i) (50+k) 17 0 60000),mtH t (srch (400+i) (50+k) 17 0 60000),true)
noncomputable def ffarR (i:Nat):Nat→Nat→En3→En3
 |0,_,t=>t
 |r+1,k,t=>ffarR i r (k+1) (ffarS i k t)
noncomputable def ffarA:Nat→Nat→En3→En3
 |0,_,t=>t
 |r+1,i,t=>ffarA r (i+1) (ffarR i 71 0 t)
theorem avb_self (a b:Int):avbeq (AV.ifc 158 (AV.agg [AV.int IntKind.i64 a,AV.int IntKind.i64 b])) (AV.ifc 158 (AV.agg [AV.int IntKind.i64 a,AV.int IntKind.i64 b]))=true:=by
 have e:ieq a a=true:=ieq_self a
 have e2:ieq b b=true:=ieq_self b
 show (bif ieq a a then _ else false)=true
 rw[e]
 show (bif ieq b b then _ else false)=true
 rw[e2]
 rfl
theorem wu_in {n:Int} (h1:0≤n) (h2:n≤9223372036854775807):wr .u64 n=n:=by
 show IntKind.u64.wrap n=n
 simp only[IntKind.wrap,IntKind.signed,IntKind.bits]
 simp
 omega
theorem mid_eq {lo hi:Int} (h1:0≤lo) (h2:lo≤hi) (h3:hi≤60000):wr .i64 ((wr IntKind.u64 (wr .i64 (lo+hi))).fdiv (2 ^ min (Int.toNat 1) IntKind.u64.bits))=(lo+hi) / 2:=by
 have e1:wr .i64 (lo+hi)=lo+hi:=wr_in (by omega) (by omega)
 have e2:wr IntKind.u64 (lo+hi)=lo+hi:=wu_in (by omega) (by omega)
 have e3:(2:Int) ^ min (Int.toNat 1) IntKind.u64.bits=2:=rfl
 rw[e1,e2,e3,Int.fdiv_eq_ediv_of_nonneg _ (by omega)]
 exact wr_in (by omega) (by omega)
theorem far_srch {v:AV} (i k:Nat) (hi:i≤20) (hk:k≤70) (a b:Int) (x:Bool) (m1 M:Nat):∀ (r m:Nat) (lo up:Int),r<m→0≤lo→lo≤up→up≤60000→up-lo<2 ^ r→Ans F6 (ffarI1 () i ((k+1:Nat):Int) (mtL (a,b,x) (srch (400+i) (50+k) r lo up)) (mtH (a,b,x) (srch (400+i) (50+k) r lo up)) true m1 (M+1)) v→Ans F6 (ffarI2 () lo up a b x (400+i) (50+k) m i k (m1+1) (M+1)) v
 | r, m + 1, lo, up, hr, h0, h1, h2, h3, K => by
  have h:=ffar_step2 () lo up a b x (400+i) (50+k) m i k m1 M
  cases c:ile up lo with
  | true =>
   rw[c,Bool.not_true,cond_false] at h
   have e:srch (400+i) (50+k) r lo up=lo:=by
    cases r with
    |zero=>rfl
    |succ r=>rw[srch,c,cond_true]
   rw[e] at K
   unfold mtL mtH at K
   simp only[ieq_self,wr_succ (show k<1048577 by omega),cond_true] at h
   cases x<;>simp only[Bool.not_true,Bool.not_false,cond_true,cond_false] at h K<;>exact .stop (Z6_ok _) F6sy h K
  | false =>
   have hlt:lo<up:=by rw[ile_iff,decide_eq_false_iff_not] at c;omega
   rw[c,Bool.not_false,cond_true,mid_eq h0 h1 h2] at h
   have hm:0≤(lo+up) / 2∧(lo+up) / 2<up∧lo≤(lo+up) / 2:=by omega
   have w1:wr .i64 ((lo+up) / 2+1)=(lo+up) / 2+1:=wr_in (by omega) (by omega)
   obtain⟨q1,q2,q3⟩:=sq6 (x:=(lo+up) / 2+1) (by omega) (by omega)
   have l0:lcB (400+i) (50+k) (((lo+up) / 2+1) * ((lo+up) / 2+1))=true:=lc_in hi hk q2 (by omega)
   simp only[w1,q1,l0,avb_self,Bool.not_not,cond_true] at h
   cases r with
   |zero=>exact absurd h3 (by simp;omega)
   | succ r =>
    rw[srch,c,cond_false] at K
    rw[Int.pow_succ] at h3
    cases s0:seenF (400+i) (50+k) (((lo+up) / 2+1) * ((lo+up) / 2+1)) with
    |true=>
     rw[s0,cond_true] at h K
     exact .stop (Z6_ok _) F6sy h (far_srch i k hi hk a b x m1 M r m _ _ (by omega) (by omega) (by omega) h2 (by omega) K)
    |false=>
     rw[s0,cond_false] at h K
     exact .stop (Z6_ok _) F6sy h (far_srch i k hi hk a b x m1 M r m _ _ (by omega) h0 (by omega) (by omega) (by omega) K)
theorem ffar_in {v:AV} (i:Nat) (hi:i≤20) (M:Nat):∀ (r k m:Nat) (t:En3),k+r=71→r<m→Ans F6 (ffarI0 () ((i+1:Nat):Int) (ffarR i r k t).1 (ffarR i r k t).2.1 (ffarR i r k t).2.2 M) v→Ans F6 (ffarI1 () i k t.1 t.2.1 t.2.2 m (M+1)) v
 |0,k,m+1,t,hk,hm,K=>by
  have h:=ffar_step1 () i k t.1 t.2.1 t.2.2 m M
  have e:k=71:=by omega
  subst e
  rw[show ile 71 ((71:Nat):Int)=true from rfl,Bool.not_true,cond_false,wr_succ (show i<1048577 by omega)] at h
  exact .stop (Z6_ok _) F6sy h K
 |r+1,k,m+1,t,hk,hm,K=>by
  obtain⟨a,b,x⟩:=t
  have h:=ffar_step1 () i k a b x m M
  rw[show ile 71 (k:Int)=false from ile_f (by omega),Bool.not_false,cond_true,wr_in (n:=400+(i:Int)) (by omega) (by omega),wr_in (n:=50+(k:Int)) (by omega) (by omega)] at h
  rw[ffarR] at K
  have K2:=ffar_in i hi M r (k+1) m (ffarS i k (a,b,x)) (by omega) (by omega) K
  clear K
  have p17:(60000:Int)-0<2 ^ 17:=by decide
  unfold ffarS at K2
  dsimp only at K2
  exact .stop (Z6_ok _) F6sy h (far_srch i k hi (by omega) a b x m M 17 1048575 0 60000 (by omega) (by omega) (by omega) (by omega) p17 K2)
theorem ffar_out:∀ (r i m:Nat) (t:En3),i+r=21→r<m→Ans F6 (ffarI0 () i t.1 t.2.1 t.2.2 m) (.tup [.int .i64 (ffarA r i t).1,.int .i64 (ffarA r i t).2.1,.int .i64 (bif (ffarA r i t).2.2 then 0 else 9)])
 |0,i,m+1,t,hi,hm=>by
  obtain⟨a,b,x⟩:=t
  have h:=ffar_step0 () i a b x m
  have e:i=21:=by omega
  subst e
  simp only[show ile 21 ((21:Nat):Int)=true from rfl,Bool.not_true,cond_false,ieq_self,cond_true] at h
  cases x<;>exact .done (Z6_ok _) F6sy h rfl
 |r+1,i,m+1,t,hi,hm=>by
  have h:=ffar_step0 () i t.1 t.2.1 t.2.2 m
  rw[show ile 21 (i:Int)=false from ile_f (by omega),Bool.not_false,cond_true] at h
  exact .stop (Z6_ok _) F6sy h (ffar_in i (by omega) m 71 0 1048575 t (by omega) (by omega) (ffar_out r (i+1) m _ (by omega) (by omega)))
theorem ffar_fin:ffarA 21 0 (0,0,false)=(10000,14491,true):=by kernel_rfl
theorem ffar_ans:Ans F6 (startC F6 25 [tSt.av S0,tNi.av N0,.vs tRe true []] 40) (.tup [.int .i64 10000,.int .i64 14491,.int .i64 0]):=by
 have h:=ffar_out 21 0 1048575 (0,0,false) (by omega) (by omega)
 rw[ffar_fin] at h
 exact .stop (Z6_ok _) F6sy (ffar_start ()) h
end Go.Proofs.YtjipgnghjbmlkaaGreatDoor


set_option maxRecDepth 100000
namespace Go.Proofs.YtjipgnghjbmlkaaGreatDoor
open Go Go.Eng
noncomputable def frst (a b q:Int):Bool:=ieq q 169000000&&ieq a 400&&ieq b 50
noncomputable def LY:List Said:=[(90,con2 tP tP (fun l s=>bif ieq s.1 100000000 then lcO l.1 l.2.1 s.1&&snO l.1 l.2.1 s.1 else (bif frst l.1 l.2.1 s.1 then lcO l.1 l.2.1 s.1&&!snO l.1 l.2.1 s.1 else lcO l.1 l.2.1 s.1)) (fun l s=>bif ieq s.1 100000000 then .bool true else .bool (bif frst l.1 l.2.1 s.1 then false else snO l.1 l.2.1 s.1)))]
theorem LY_ok:∀ e∈LY,SaidG Tryz.prog F2.glob e:=
 saids_cons (SaidOK.g f2 xf2 nf2 tabs_ok.mix (fun _ _ h=>con2_spec (t:=tP) (u:=tP) (fun l s hc=>by
  dsimp only at hc⊢
  cases e:ieq s.1 100000000 with
  |true=>
   rw[e,cond_true,Bool.and_eq_true,lcO_eq,snO_eq] at hc
   rw[cond_true]
   have:=lrea_call l s hc.1
   rw[hc.2] at this
   exact this
  | false =>
   rw[e,cond_false] at hc
   rw[cond_false]
   cases e2:frst l.1 l.2.1 s.1 with
   |true=>
    rw[e2,cond_true,Bool.and_eq_true,lcO_eq,snO_eq] at hc
    rw[cond_true]
    have:=lrea_call l s hc.1
    rw[show seenF l.1 l.2.1 s.1=false by simpa using hc.2] at this
    exact this
   |false=>
    rw[e2,cond_false,lcO_eq] at hc
    rw[cond_false,snO_eq]
    exact lrea_call l s hc) h) rfl) saids_nil
noncomputable def F8:Env:=F6.say (under (xOf LY))
theorem f8:EnvOK Tryz.prog F8:=f6.say _
theorem nf8:NameOK F8:=nf6.say _
theorem xf8:ExtOK Tryz.prog F8:=xf6.sayL LY_ok
theorem F8sy:F8.sy=true:=rfl
noncomputable def Z8 (l:List Nat):Sy:={ (Z6 []).on LY l with pl:=false }
theorem Z8_ok (l:List Nat):(Z8 l).ok F8:=Sy.on_ok (E:=F6) (L:=LY) (hd:=l) (Z6_ok _)
end Go.Proofs.YtjipgnghjbmlkaaGreatDoor


set_option maxRecDepth 100000
namespace Go.Proofs.YtjipgnghjbmlkaaGreatDoor
open Go Go.Eng
noncomputable def ffalQ0:Tmps:=(tmOf 33 [(0,(.yld 16)),(1,(pP 13 0)),(2,(pP 14 0)),(3,(pP 15 0)),(7,(.agg [(iI 400),(iI 420)])),(8,(iI 21)),(9,(iI 0))])
noncomputable def ffalQ1:Tmps:=(tmOf 45 [(0,(pP 6 0)),(1,(.bool false)),(2,(pP 8 0)),(3,(pP 9 0)),(4,.nils),(5,(pP 11 0)),(6,(pP 12 0)),(12,(.mp 10)),(13,(pP 6 0)),(14,(.bool false)),(15,(.fn 144 [] [(pP 13 0),(pP 14 0),(pP 15 0)]))])
noncomputable def ffalQ2:Tmps:=(tmOf 29 [(0,(.agg [(.vs tGr (false) (S0.1.2)),(iI 20),(iI 30),(iI 50),(iI 120)])),(1,(.agg [(iI 0),(iI 0),(iI 0),(iI 8),(iI 1)])),(2,(.vs tRe (false) ([rB,rC]))),(3,(pP 0 0)),(4,(pP 1 0)),(6,.nils),(7,(iI 0)),(8,(pP 6 0)),(9,(iI 0)),(11,(.tup [(pP 6 0),(iI 0)])),(12,(.agg [(.vs tGr (false) (S0.1.2)),(iI 20),(iI 30),(iI 50),(iI 120)])),(13,(.agg [(iI 0),(iI 0),(iI 0),(iI 8),(iI 1)])),(14,(.vs tRe (false) ([rB,rC]))),(15,(.tup [(pP 6 0),(iI 0)])),(16,(pP 6 0)),(17,(iI 0)),(18,(iI 0)),(19,(.bool false)),(21,(pP 6 0))])
noncomputable def ffalk1:AO:=(cF [(.vs tGr (false) (S0.1.2)),(iI 20),(iI 30),(iI 50),(iI 120)])
noncomputable def ffalk4:AO:=(cF [(iI 0),(iI 0),(iI 0),(iI 8),(iI 1)])
noncomputable def ffalk3:AO:=(cF [(.vs tGr (false) (S0.1.2)),(iI 20),(iI 30),(iI 50),(iI 120),(iI 0),(iI 0),(iI 0),(iI 8),(iI 1),(.sl 7 0 (2) (2) 6)])
noncomputable def ffalk0:AO:=(cF ([AV.int IntKind.i64 ([rB,rC].getD (Int.toNat 0) tRe.dflt).1.1,  AV.int IntKind.i64 ([rB,rC].getD (Int.toNat 0) tRe.dflt).1.2.1,AV.bool false,AV.bool false,  AV.int IntKind.i64     (wr .i64 (([rB,rC].getD (Int.toNat 0) tRe.dflt).1.1-N0.1.1) *         wr .i64 (([rB,rC].getD (Int.toNat 0) tRe.dflt).1.1-N0.1.1) +       wr .i64 (([rB,rC].getD (Int.toNat 0) tRe.dflt).1.2.1-N0.1.2.1) *         wr .i64 (([rB,rC].getD (Int.toNat 0) tRe.dflt).1.2.1-N0.1.2.1)),  AV.int IntKind.i64     (ptF (wr .i64 (([rB,rC].getD (Int.toNat 0) tRe.dflt).1.1-N0.1.1))       (wr .i64 (([rB,rC].getD (Int.toNat 0) tRe.dflt).1.2.1-N0.1.2.1))),  AV.int IntKind.i64 ([rB,rC].getD (wr .i64 (0+1)).toNat tRe.dflt).1.1,  AV.int IntKind.i64 ([rB,rC].getD (wr .i64 (0+1)).toNat tRe.dflt).1.2.1,AV.bool false,AV.bool false,  AV.int IntKind.i64     (wr .i64 (([rB,rC].getD (wr .i64 (0+1)).toNat tRe.dflt).1.1-N0.1.1) *         wr .i64 (([rB,rC].getD (wr .i64 (0+1)).toNat tRe.dflt).1.1-N0.1.1) +       wr .i64 (([rB,rC].getD (wr .i64 (0+1)).toNat tRe.dflt).1.2.1-N0.1.2.1) *         wr .i64 (([rB,rC].getD (wr .i64 (0+1)).toNat tRe.dflt).1.2.1-N0.1.2.1)),  AV.int IntKind.i64     (ptF (wr .i64 (([rB,rC].getD (wr .i64 (0+1)).toNat tRe.dflt).1.1-N0.1.1))       (wr .i64 (([rB,rC].getD (wr .i64 (0+1)).toNat tRe.dflt).1.2.1-N0.1.2.1)))]))
noncomputable def ffalk5:HD:=⟨16,45,39,(ffalQ1),#[16],(pcOf F8 80 [0,0,1,0,1,1,1]),(pcOf F8 80 [1,0,1,0,1,1,1])⟩
noncomputable def ffalk9 (z0:Nat):Fm:=(.lop (pcOf F8 144 [0,0,1]) 18 (ffalQ0) z0)
noncomputable def ffalk8:Fm:=(.cal [] (.rng (ffalQ1) [] 45 false ⟨39,[]⟩))
noncomputable def ffalk2:Fm:=(.cal [(.tmp 4)] (.op (pcOf F8 29 [0,1,1,1]) 2 (some 22) ((opsOf (pcOf F8 29 [0,1,1,1]).c).toList.drop 2) (ffalQ2) [] 29 false ⟨40,[]⟩))
noncomputable def ffalI0 (u:Unit) (x63:Nat):Cfg:=⟨.ex (pcOf F8 144 [0,0,1]) ⟨(ffalQ0),(hpOf 18 [(0,(ffalk1)),(1,(ffalk4)),(2,(ffalk1)),(3,(ffalk4)),(4,(ffalk1)),(5,(ffalk4)),(6,(ffalk3)),(7,(ffalk0)),(8,(cF [(pP 6 0)])),(9,(cF [(.bool false)])),(10,(.map ([]))),(11,(cF [(.mp 10)])),(12,(cF [.nils])),(13,(cF [(iI 400),(iI 420)])),(14,(cF [(iI 50),(iI 120)])),(15,(cF [(.fn 89 [] [])])),(17,(cF [(iI 400),(iI 420)]))]),[],[⟨false,.normal⟩],33,false⟩,⟨38,[(ffalk5)]⟩,[(ffalk9 x63),(.blk 0),(ffalk8),(.blk 0),(.seq (pcOf F8 80 [1,1,1,1])),(ffalk2),(.seq (pcOf F8 29 [1,1,1,1])),(.cal [(.tmp 6),(.tmp 7)] .top)]⟩
noncomputable def ffalQ3:Tmps:=(tmOf 33 [(0,(.yld 16)),(1,(pP 13 0)),(2,(pP 14 0)),(3,(pP 15 0)),(5,(iI 0)),(7,(.agg [(iI 400),(iI 420)])),(8,(iI 21)),(9,(iI 0)),(10,(.bool true)),(11,(iI 0)),(12,(.agg [(iI 50),(iI 120)])),(13,(iI 71)),(14,(iI 0))])
noncomputable def ffalk7:PC:=(pcOf F8 144 [0,0,1,1,0,0,1,1,0,0,1])
noncomputable def ffalI1 (u:Unit) (x79:Nat) (x84:Nat):Cfg:=⟨.ex (ffalk7) ⟨(ffalQ3),(hpOf 19 [(0,(ffalk1)),(1,(ffalk4)),(2,(ffalk1)),(3,(ffalk4)),(4,(ffalk1)),(5,(ffalk4)),(6,(ffalk3)),(7,(ffalk0)),(8,(cF [(pP 6 0)])),(9,(cF [(.bool false)])),(10,(.map ([]))),(11,(cF [(.mp 10)])),(12,(cF [.nils])),(13,(cF [(iI 400),(iI 420)])),(14,(cF [(iI 50),(iI 120)])),(15,(cF [(.fn 89 [] [])])),(17,(cF [(iI 400),(iI 420)])),(18,(cF [(iI 50),(iI 120)]))]),[],[⟨false,.normal⟩],33,false⟩,⟨38,[(ffalk5)]⟩,[(.lop (ffalk7) 19 (ffalQ3) x79),(.blk 2),(.blk 1),(.seq (pcOf F8 144 [1,1,1,0,0,1])),(ffalk9 x84),(.blk 0),(ffalk8),(.blk 0),(.seq (pcOf F8 80 [1,1,1,1])),(ffalk2),(.seq (pcOf F8 29 [1,1,1,1])),(.cal [(.tmp 6),(.tmp 7)] .top)]⟩
noncomputable def ffalQ4 (y0:Int):Tmps:=(tmOf 33 [(0,(.yld 16)),(1,(pP 13 0)),(2,(pP 14 0)),(3,(pP 15 0)),(5,(iI 0)),(7,(.agg [(iI 400),(iI 420)])),(8,(iI 21)),(9,(iI 0)),(10,(.bool true)),(11,(iI 0)),(12,(.agg [(iI 50),(iI 120)])),(13,(iI 71)),(14,(iI y0))])
noncomputable def ffalI2 (u:Unit) (x10:Int) (x81:Nat) (x86:Nat):Cfg:=⟨.ex (ffalk7) ⟨(ffalQ4 x10),(hpOf 20 [(0,(ffalk1)),(1,(ffalk4)),(2,(ffalk1)),(3,(ffalk4)),(4,(ffalk1)),(5,(ffalk4)),(6,(ffalk3)),(7,(ffalk0)),(8,(cF [(pP 6 0)])),(9,(cF [(.bool false)])),(10,(.map ([(AV.int IntKind.u64       (IntKind.u64.wrap         ↑(BitVec.ofInt IntKind.u64.bits 0 |||               BitVec.ofInt IntKind.u64.bits (IntKind.u64.wrap (1 * 2 ^ min (Int.toNat 0) IntKind.u64.bits))).toNat),    AV.bool true)]))),(11,(cF [(.mp 10)])),(12,(cF [(.sl 19 0 (1) (1) 1)])),(13,(cF [(iI 400),(iI 420)])),(14,(cF [(iI 50),(iI 120)])),(15,(cF [(.fn 89 [] [])])),(17,(cF [(iI 400),(iI 420)])),(18,(cF [(iI 50),(iI 120)])),(19,(cF ([AV.csl [AV.int IntKind.i64 (wr .i64 (0+1))] 1])))]),[],[⟨false,.normal⟩],33,false⟩,⟨38,[(ffalk5)]⟩,[(.lop (ffalk7) 19 (ffalQ3) x81),(.blk 2),(.blk 1),(.seq (pcOf F8 144 [1,1,1,0,0,1])),(ffalk9 x86),(.blk 0),(ffalk8),(.blk 0),(.seq (pcOf F8 80 [1,1,1,1])),(ffalk2),(.seq (pcOf F8 29 [1,1,1,1])),(.cal [(.tmp 6),(.tmp 7)] .top)]⟩
noncomputable def ffalk6:AO:=(cF ([AV.csl [AV.int IntKind.i64 (wr .i64 (0+1))] 1,  AV.csl [AV.int IntKind.i64 0,AV.int IntKind.i64 (wr .i64 (0+1))] (1+1)]))
noncomputable def ffalI3 (u:Unit) (x10:Int) (x81:Nat) (x86:Nat):Cfg:=⟨.ex (ffalk7) ⟨(ffalQ4 x10),(hpOf 20 [(0,(ffalk1)),(1,(ffalk4)),(2,(ffalk1)),(3,(ffalk4)),(4,(ffalk1)),(5,(ffalk4)),(6,(ffalk3)),(7,(ffalk0)),(8,(cF [(pP 6 0)])),(9,(cF [(.bool false)])),(10,(.map ([(AV.int IntKind.u64       (IntKind.u64.wrap         ↑(BitVec.ofInt IntKind.u64.bits 0 |||               BitVec.ofInt IntKind.u64.bits (IntKind.u64.wrap (1 * 2 ^ min (Int.toNat 0) IntKind.u64.bits))).toNat),    AV.bool true),  (AV.int IntKind.u64 0,AV.bool true)]))),(11,(cF [(.mp 10)])),(12,(cF [(.sl 19 0 (2) (2) 1)])),(13,(cF [(iI 400),(iI 420)])),(14,(cF [(iI 50),(iI 120)])),(15,(cF [(.fn 89 [] [])])),(17,(cF [(iI 400),(iI 420)])),(18,(cF [(iI 50),(iI 120)])),(19,(ffalk6))]),[],[⟨false,.normal⟩],33,false⟩,⟨38,[(ffalk5)]⟩,[(.lop (ffalk7) 19 (ffalQ3) x81),(.blk 2),(.blk 1),(.seq (pcOf F8 144 [1,1,1,0,0,1])),(ffalk9 x86),(.blk 0),(ffalk8),(.blk 0),(.seq (pcOf F8 80 [1,1,1,1])),(ffalk2),(.seq (pcOf F8 29 [1,1,1,1])),(.cal [(.tmp 6),(.tmp 7)] .top)]⟩
noncomputable def ffalQ5 (y0:Int):Tmps:=(tmOf 33 [(0,(.yld 16)),(1,(pP 13 0)),(2,(pP 14 0)),(3,(pP 15 0)),(7,(.agg [(iI 400),(iI 420)])),(8,(iI 21)),(9,(iI y0))])
noncomputable def ffalI4 (u:Unit) (x3:Int) (x65:Nat):Cfg:=⟨.ex (pcOf F8 144 [0,0,1]) ⟨(ffalQ5 x3),(hpOf 19 [(0,(ffalk1)),(1,(ffalk4)),(2,(ffalk1)),(3,(ffalk4)),(4,(ffalk1)),(5,(ffalk4)),(6,(ffalk3)),(7,(ffalk0)),(8,(cF [(pP 6 0)])),(9,(cF [(.bool false)])),(10,(.map ([(AV.int IntKind.u64       (IntKind.u64.wrap         ↑(BitVec.ofInt IntKind.u64.bits 0 |||               BitVec.ofInt IntKind.u64.bits (IntKind.u64.wrap (1 * 2 ^ min (Int.toNat 0) IntKind.u64.bits))).toNat),    AV.bool true)]))),(11,(cF [(.mp 10)])),(12,(cF [(.sl 18 0 (1) (1) 1)])),(13,(cF [(iI 400),(iI 420)])),(14,(cF [(iI 50),(iI 120)])),(15,(cF [(.fn 89 [] [])])),(17,(cF [(iI 400),(iI 420)])),(18,(cF ([AV.csl [AV.int IntKind.i64 (wr .i64 (0+1))] 1])))]),[],[⟨false,.normal⟩],33,false⟩,⟨38,[(ffalk5)]⟩,[(ffalk9 x65),(.blk 0),(ffalk8),(.blk 0),(.seq (pcOf F8 80 [1,1,1,1])),(ffalk2),(.seq (pcOf F8 29 [1,1,1,1])),(.cal [(.tmp 6),(.tmp 7)] .top)]⟩
noncomputable def ffalI5 (u:Unit) (x3:Int) (x65:Nat):Cfg:=⟨.ex (pcOf F8 144 [0,0,1]) ⟨(ffalQ5 x3),(hpOf 19 [(0,(ffalk1)),(1,(ffalk4)),(2,(ffalk1)),(3,(ffalk4)),(4,(ffalk1)),(5,(ffalk4)),(6,(ffalk3)),(7,(ffalk0)),(8,(cF [(pP 6 0)])),(9,(cF [(.bool false)])),(10,(.map ([(AV.int IntKind.u64       (IntKind.u64.wrap         ↑(BitVec.ofInt IntKind.u64.bits 0 |||               BitVec.ofInt IntKind.u64.bits (IntKind.u64.wrap (1 * 2 ^ min (Int.toNat 0) IntKind.u64.bits))).toNat),    AV.bool true),  (AV.int IntKind.u64 0,AV.bool true)]))),(11,(cF [(.mp 10)])),(12,(cF [(.sl 18 0 (2) (2) 1)])),(13,(cF [(iI 400),(iI 420)])),(14,(cF [(iI 50),(iI 120)])),(15,(cF [(.fn 89 [] [])])),(17,(cF [(iI 400),(iI 420)])),(18,(ffalk6))]),[],[⟨false,.normal⟩],33,false⟩,⟨38,[(ffalk5)]⟩,[(ffalk9 x65),(.blk 0),(ffalk8),(.blk 0),(.seq (pcOf F8 80 [1,1,1,1])),(ffalk2),(.seq (pcOf F8 29 [1,1,1,1])),(.cal [(.tmp 6),(.tmp 7)] .top)]⟩
noncomputable def ffalQ6 (y0:Int) (y1:Int):Tmps:=(tmOf 33 [(0,(.yld 16)),(1,(pP 13 0)),(2,(pP 14 0)),(3,(pP 15 0)),(5,(iI y0)),(7,(.agg [(iI 400),(iI 420)])),(8,(iI 21)),(9,(iI y0)),(10,(.bool true)),(11,(iI y0)),(12,(.agg [(iI 50),(iI 120)])),(13,(iI 71)),(14,(iI y1))])
noncomputable def ffalQ7 (y0:Int):Tmps:=(tmOf 33 [(0,(.yld 16)),(1,(pP 13 0)),(2,(pP 14 0)),(3,(pP 15 0)),(5,(iI y0)),(7,(.agg [(iI 400),(iI 420)])),(8,(iI 21)),(9,(iI y0)),(10,(.bool true)),(11,(iI y0)),(12,(.agg [(iI 50),(iI 120)])),(13,(iI 71)),(14,(iI 0))])
noncomputable def ffalI6 (u:Unit) (x0:Int) (x10:Int) (x81:Nat) (x86:Nat):Cfg:=⟨.ex (ffalk7) ⟨(ffalQ6 x0 x10),(hpOf 20 [(0,(ffalk1)),(1,(ffalk4)),(2,(ffalk1)),(3,(ffalk4)),(4,(ffalk1)),(5,(ffalk4)),(6,(ffalk3)),(7,(ffalk0)),(8,(cF [(pP 6 0)])),(9,(cF [(.bool false)])),(10,(.map ([(AV.int IntKind.u64       (IntKind.u64.wrap         ↑(BitVec.ofInt IntKind.u64.bits 0 |||               BitVec.ofInt IntKind.u64.bits (IntKind.u64.wrap (1 * 2 ^ min (Int.toNat 0) IntKind.u64.bits))).toNat),    AV.bool true)]))),(11,(cF [(.mp 10)])),(12,(cF [(.sl 18 0 (1) (1) 1)])),(13,(cF [(iI 400),(iI 420)])),(14,(cF [(iI 50),(iI 120)])),(15,(cF [(.fn 89 [] [])])),(17,(cF [(iI 400),(iI 420)])),(18,(cF ([AV.csl [AV.int IntKind.i64 (wr .i64 (0+1))] 1]))),(19,(cF [(iI 50),(iI 120)]))]),[],[⟨false,.normal⟩],33,false⟩,⟨38,[(ffalk5)]⟩,[(.lop (ffalk7) 20 (ffalQ7 x0) x81),(.blk 2),(.blk 1),(.seq (pcOf F8 144 [1,1,1,0,0,1])),(ffalk9 x86),(.blk 0),(ffalk8),(.blk 0),(.seq (pcOf F8 80 [1,1,1,1])),(ffalk2),(.seq (pcOf F8 29 [1,1,1,1])),(.cal [(.tmp 6),(.tmp 7)] .top)]⟩
noncomputable def ffalI7 (u:Unit) (x0:Int) (x10:Int) (x81:Nat) (x86:Nat):Cfg:=⟨.ex (ffalk7) ⟨(ffalQ6 x0 x10),(hpOf 20 [(0,(ffalk1)),(1,(ffalk4)),(2,(ffalk1)),(3,(ffalk4)),(4,(ffalk1)),(5,(ffalk4)),(6,(ffalk3)),(7,(ffalk0)),(8,(cF [(pP 6 0)])),(9,(cF [(.bool false)])),(10,(.map ([(AV.int IntKind.u64       (IntKind.u64.wrap         ↑(BitVec.ofInt IntKind.u64.bits 0 |||               BitVec.ofInt IntKind.u64.bits (IntKind.u64.wrap (1 * 2 ^ min (Int.toNat 0) IntKind.u64.bits))).toNat),    AV.bool true),  (AV.int IntKind.u64 0,AV.bool true)]))),(11,(cF [(.mp 10)])),(12,(cF [(.sl 18 0 (2) (2) 1)])),(13,(cF [(iI 400),(iI 420)])),(14,(cF [(iI 50),(iI 120)])),(15,(cF [(.fn 89 [] [])])),(17,(cF [(iI 400),(iI 420)])),(18,(ffalk6)),(19,(cF [(iI 50),(iI 120)]))]),[],[⟨false,.normal⟩],33,false⟩,⟨38,[(ffalk5)]⟩,[(.lop (ffalk7) 20 (ffalQ7 x0) x81),(.blk 2),(.blk 1),(.seq (pcOf F8 144 [1,1,1,0,0,1])),(ffalk9 x86),(.blk 0),(ffalk8),(.blk 0),(.seq (pcOf F8 80 [1,1,1,1])),(ffalk2),(.seq (pcOf F8 29 [1,1,1,1])),(.cal [(.tmp 6),(.tmp 7)] .top)]⟩
noncomputable def ffalI8 (u:Unit) (x0:Int) (x10:Int) (x81:Nat) (x86:Nat):Cfg:=⟨.ex (ffalk7) ⟨(ffalQ6 x0 x10),(hpOf 21 [(0,(ffalk1)),(1,(ffalk4)),(2,(ffalk1)),(3,(ffalk4)),(4,(ffalk1)),(5,(ffalk4)),(6,(ffalk3)),(7,(ffalk0)),(8,(cF [(pP 6 0)])),(9,(cF [(.bool false)])),(10,(.map ([(AV.int IntKind.u64       (IntKind.u64.wrap         ↑(BitVec.ofInt IntKind.u64.bits 0 |||               BitVec.ofInt IntKind.u64.bits (IntKind.u64.wrap (1 * 2 ^ min (Int.toNat 0) IntKind.u64.bits))).toNat),    AV.bool true),  (AV.int IntKind.u64 0,AV.bool true)]))),(11,(cF [(.mp 10)])),(12,(cF [(.sl 20 0 (2) (2) 1)])),(13,(cF [(iI 400),(iI 420)])),(14,(cF [(iI 50),(iI 120)])),(15,(cF [(.fn 89 [] [])])),(17,(cF [(iI 400),(iI 420)])),(18,.gone),(19,(cF [(iI 50),(iI 120)])),(20,(ffalk6))]),[],[⟨false,.normal⟩],33,false⟩,⟨38,[(ffalk5)]⟩,[(.lop (ffalk7) 20 (ffalQ7 x0) x81),(.blk 2),(.blk 1),(.seq (pcOf F8 144 [1,1,1,0,0,1])),(ffalk9 x86),(.blk 0),(ffalk8),(.blk 0),(.seq (pcOf F8 80 [1,1,1,1])),(ffalk2),(.seq (pcOf F8 29 [1,1,1,1])),(.cal [(.tmp 6),(.tmp 7)] .top)]⟩
theorem ffal_start (u:Unit):adv F8 (Z8 [144]) 30000 (startC F8 29 [tSt.av S0,tNi.av N0,.vs tRe false [rB,rC]] 40)=some (.stop (ffalI0 u (1048575))):=by kernel_rfl
theorem ffal_step0 (u:Unit) (x63:Nat):adv F8 (Z8 [144]) 30000 (ffalI0 u (x63+1))=some (.stop (ffalI1 u (1048575) (x63+1))):=by kernel_rfl
theorem ffal_step1 (u:Unit) (x79:Nat) (x84:Nat):adv F8 (Z8 [144]) 30000 (ffalI1 u (x79+1) (x84+1))=(bif bif ieq 169000000 100000000 then lcO (wr .i64 (400+0)) (wr .i64 (50+0)) 169000000&&snO (wr .i64 (400+0)) (wr .i64 (50+0)) 169000000 else bif frst (wr .i64 (400+0)) (wr .i64 (50+0)) 169000000 then lcO (wr .i64 (400+0)) (wr .i64 (50+0)) 169000000&&!snO (wr .i64 (400+0)) (wr .i64 (50+0)) 169000000 else lcO (wr .i64 (400+0)) (wr .i64 (50+0)) 169000000 then (bif bif ieq 100000000 100000000 then lcO (wr .i64 (400+0)) (wr .i64 (50+0)) 100000000&&snO (wr .i64 (400+0)) (wr .i64 (50+0)) 100000000 else bif frst (wr .i64 (400+0)) (wr .i64 (50+0)) 100000000 then lcO (wr .i64 (400+0)) (wr .i64 (50+0)) 100000000&&!snO (wr .i64 (400+0)) (wr .i64 (50+0)) 100000000 else lcO (wr .i64 (400+0)) (wr .i64 (50+0)) 100000000 then some (.stop (ffalI2 u (1) (x79) (x84+1))) else none) else none):=by kernel_rfl
theorem ffal_step2 (u:Unit) (x10:Int) (x81:Nat) (x86:Nat):adv F8 (Z8 [144]) 30000 (ffalI2 u x10 (x81+1) (x86+1))=(bif !ile 71 x10 then (bif bif ieq 169000000 100000000 then lcO (wr .i64 (400+0)) (wr .i64 (50+x10)) 169000000&&snO (wr .i64 (400+0)) (wr .i64 (50+x10)) 169000000 else bif frst (wr .i64 (400+0)) (wr .i64 (50+x10)) 169000000 then lcO (wr .i64 (400+0)) (wr .i64 (50+x10)) 169000000&&!snO (wr .i64 (400+0)) (wr .i64 (50+x10)) 169000000 else lcO (wr .i64 (400+0)) (wr .i64 (50+x10)) 169000000 then (bif false == bif frst (wr .i64 (400+0)) (wr .i64 (50+x10)) 169000000 then false else snO (wr .i64 (400+0)) (wr .i64 (50+x10)) 169000000 then (bif bif ieq 100000000 100000000 then lcO (wr .i64 (400+0)) (wr .i64 (50+x10)) 100000000&&snO (wr .i64 (400+0)) (wr .i64 (50+x10)) 100000000 else bif frst (wr .i64 (400+0)) (wr .i64 (50+x10)) 100000000 then lcO (wr .i64 (400+0)) (wr .i64 (50+x10)) 100000000&&!snO (wr .i64 (400+0)) (wr .i64 (50+x10)) 100000000 else lcO (wr .i64 (400+0)) (wr .i64 (50+x10)) 100000000 then some (.stop (ffalI2 u (wr .i64 (x10+1)) (x81) (x86+1))) else none) else (bif bif ieq 100000000 100000000 then lcO (wr .i64 (400+0)) (wr .i64 (50+x10)) 100000000&&snO (wr .i64 (400+0)) (wr .i64 (50+x10)) 100000000 else bif frst (wr .i64 (400+0)) (wr .i64 (50+x10)) 100000000 then lcO (wr .i64 (400+0)) (wr .i64 (50+x10)) 100000000&&!snO (wr .i64 (400+0)) (wr .i64 (50+x10)) 100000000 else lcO (wr .i64 (400+0)) (wr .i64 (50+x10)) 100000000 then some (.stop (ffalI3 u (wr .i64 (x10+1)) (x81) (x86+1))) else none)) else none) else some (.stop (ffalI4 u (1) (x86)))):=by kernel_rfl
theorem ffal_step3 (u:Unit) (x10:Int) (x81:Nat) (x86:Nat):adv F8 (Z8 [144]) 30000 (ffalI3 u x10 (x81+1) (x86+1))=(bif !ile 71 x10 then (bif bif ieq 169000000 100000000 then lcO (wr .i64 (400+0)) (wr .i64 (50+x10)) 169000000&&snO (wr .i64 (400+0)) (wr .i64 (50+x10)) 169000000 else bif frst (wr .i64 (400+0)) (wr .i64 (50+x10)) 169000000 then lcO (wr .i64 (400+0)) (wr .i64 (50+x10)) 169000000&&!snO (wr .i64 (400+0)) (wr .i64 (50+x10)) 169000000 else lcO (wr .i64 (400+0)) (wr .i64 (50+x10)) 169000000 then (bif false == bif frst (wr .i64 (400+0)) (wr .i64 (50+x10)) 169000000 then false else snO (wr .i64 (400+0)) (wr .i64 (50+x10)) 169000000 then (bif bif ieq 100000000 100000000 then lcO (wr .i64 (400+0)) (wr .i64 (50+x10)) 100000000&&snO (wr .i64 (400+0)) (wr .i64 (50+x10)) 100000000 else bif frst (wr .i64 (400+0)) (wr .i64 (50+x10)) 100000000 then lcO (wr .i64 (400+0)) (wr .i64 (50+x10)) 100000000&&!snO (wr .i64 (400+0)) (wr .i64 (50+x10)) 100000000 else lcO (wr .i64 (400+0)) (wr .i64 (50+x10)) 100000000 then some (.stop (ffalI3 u (wr .i64 (x10+1)) (x81) (x86+1))) else none) else (bif bif ieq 100000000 100000000 then lcO (wr .i64 (400+0)) (wr .i64 (50+x10)) 100000000&&snO (wr .i64 (400+0)) (wr .i64 (50+x10)) 100000000 else bif frst (wr .i64 (400+0)) (wr .i64 (50+x10)) 100000000 then lcO (wr .i64 (400+0)) (wr .i64 (50+x10)) 100000000&&!snO (wr .i64 (400+0)) (wr .i64 (50+x10)) 100000000 else lcO (wr .i64 (400+0)) (wr .i64 (50+x10)) 100000000 then some (.stop (ffalI3 u (wr .i64 (x10+1)) (x81) (x86+1))) else none)) else none) else some (.stop (ffalI5 u (1) (x86)))):=by kernel_rfl
theorem ffal_step4 (u:Unit) (x3:Int) (x65:Nat):adv F8 (Z8 [144]) 30000 (ffalI4 u x3 (x65+1))=(bif !ile 21 x3 then some (.stop (ffalI6 u (x3) (0) (1048575) (x65+1))) else some (.done (.tup [(.csl [(.int .i64 (1))] 1),(.int .i64 (0))]))):=by kernel_rfl
theorem ffal_step5 (u:Unit) (x3:Int) (x65:Nat):adv F8 (Z8 [144]) 30000 (ffalI5 u x3 (x65+1))=(bif !ile 21 x3 then some (.stop (ffalI7 u (x3) (0) (1048575) (x65+1))) else some (.done (.tup [(.csl [(.int .i64 (1))] 1),(.int .i64 (0))]))):=by kernel_rfl
theorem ffal_step6 (u:Unit) (x0:Int) (x10:Int) (x81:Nat) (x86:Nat):adv F8 (Z8 [144]) 30000 (ffalI6 u x0 x10 (x81+1) (x86+1))=(bif !ile 71 x10 then (bif bif ieq 169000000 100000000 then lcO (wr .i64 (400+x0)) (wr .i64 (50+x10)) 169000000&&snO (wr .i64 (400+x0)) (wr .i64 (50+x10)) 169000000 else bif frst (wr .i64 (400+x0)) (wr .i64 (50+x10)) 169000000 then lcO (wr .i64 (400+x0)) (wr .i64 (50+x10)) 169000000&&!snO (wr .i64 (400+x0)) (wr .i64 (50+x10)) 169000000 else lcO (wr .i64 (400+x0)) (wr .i64 (50+x10)) 169000000 then (bif false == bif frst (wr .i64 (400+x0)) (wr .i64 (50+x10)) 169000000 then false else snO (wr .i64 (400+x0)) (wr .i64 (50+x10)) 169000000 then (bif bif ieq 100000000 100000000 then lcO (wr .i64 (400+x0)) (wr .i64 (50+x10)) 100000000&&snO (wr .i64 (400+x0)) (wr .i64 (50+x10)) 100000000 else bif frst (wr .i64 (400+x0)) (wr .i64 (50+x10)) 100000000 then lcO (wr .i64 (400+x0)) (wr .i64 (50+x10)) 100000000&&!snO (wr .i64 (400+x0)) (wr .i64 (50+x10)) 100000000 else lcO (wr .i64 (400+x0)) (wr .i64 (50+x10)) 100000000 then some (.stop (ffalI6 u (x0) (wr .i64 (x10+1)) (x81) (x86+1))) else none) else (bif bif ieq 100000000 100000000 then lcO (wr .i64 (400+x0)) (wr .i64 (50+x10)) 100000000&&snO (wr .i64 (400+x0)) (wr .i64 (50+x10)) 100000000 else bif frst (wr .i64 (400+x0)) (wr .i64 (50+x10)) 100000000 then lcO (wr .i64 (400+x0)) (wr .i64 (50+x10)) 100000000&&!snO (wr .i64 (400+x0)) (wr .i64 (50+x10)) 100000000 else lcO (wr .i64 (400+x0)) (wr .i64 (50+x10)) 100000000 then some (.stop (ffalI8 u (x0) (wr .i64 (x10+1)) (x81) (x86+1))) else none)) else none) else some (.stop (ffalI4 u (wr .i64 (x0+1)) (x86)))):=by kernel_rfl
theorem ffal_step7 (u:Unit) (x0:Int) (x10:Int) (x81:Nat) (x86:Nat):adv F8 (Z8 [144]) 30000 (ffalI7 u x0 x10 (x81+1) (x86+1))=(bif !ile 71 x10 then (bif bif ieq 169000000 100000000 then lcO (wr .i64 (400+x0)) (wr .i64 (50+x10)) 169000000&&snO (wr .i64 (400+x0)) (wr .i64 (50+x10)) 169000000 else bif frst (wr .i64 (400+x0)) (wr .i64 (50+x10)) 169000000 then lcO (wr .i64 (400+x0)) (wr .i64 (50+x10)) 169000000&&!snO (wr .i64 (400+x0)) (wr .i64 (50+x10)) 169000000 else lcO (wr .i64 (400+x0)) (wr .i64 (50+x10)) 169000000 then (bif false == bif frst (wr .i64 (400+x0)) (wr .i64 (50+x10)) 169000000 then false else snO (wr .i64 (400+x0)) (wr .i64 (50+x10)) 169000000 then (bif bif ieq 100000000 100000000 then lcO (wr .i64 (400+x0)) (wr .i64 (50+x10)) 100000000&&snO (wr .i64 (400+x0)) (wr .i64 (50+x10)) 100000000 else bif frst (wr .i64 (400+x0)) (wr .i64 (50+x10)) 100000000 then lcO (wr .i64 (400+x0)) (wr .i64 (50+x10)) 100000000&&!snO (wr .i64 (400+x0)) (wr .i64 (50+x10)) 100000000 else lcO (wr .i64 (400+x0)) (wr .i64 (50+x10)) 100000000 then some (.stop (ffalI7 u (x0) (wr .i64 (x10+1)) (x81) (x86+1))) else none) else (bif bif ieq 100000000 100000000 then lcO (wr .i64 (400+x0)) (wr .i64 (50+x10)) 100000000&&snO (wr .i64 (400+x0)) (wr .i64 (50+x10)) 100000000 else bif frst (wr .i64 (400+x0)) (wr .i64 (50+x10)) 100000000 then lcO (wr .i64 (400+x0)) (wr .i64 (50+x10)) 100000000&&!snO (wr .i64 (400+x0)) (wr .i64 (50+x10)) 100000000 else lcO (wr .i64 (400+x0)) (wr .i64 (50+x10)) 100000000 then some (.stop (ffalI7 u (x0) (wr .i64 (x10+1)) (x81) (x86+1))) else none)) else none) else some (.stop (ffalI5 u (wr .i64 (x0+1)) (x86)))):=by kernel_rfl
theorem ffal_step8 (u:Unit) (x0:Int) (x10:Int) (x81:Nat) (x86:Nat):adv F8 (Z8 [144]) 30000 (ffalI8 u x0 x10 (x81+1) (x86+1))=(bif !ile 71 x10 then (bif bif ieq 169000000 100000000 then lcO (wr .i64 (400+x0)) (wr .i64 (50+x10)) 169000000&&snO (wr .i64 (400+x0)) (wr .i64 (50+x10)) 169000000 else bif frst (wr .i64 (400+x0)) (wr .i64 (50+x10)) 169000000 then lcO (wr .i64 (400+x0)) (wr .i64 (50+x10)) 169000000&&!snO (wr .i64 (400+x0)) (wr .i64 (50+x10)) 169000000 else lcO (wr .i64 (400+x0)) (wr .i64 (50+x10)) 169000000 then (bif false == bif frst (wr .i64 (400+x0)) (wr .i64 (50+x10)) 169000000 then false else snO (wr .i64 (400+x0)) (wr .i64 (50+x10)) 169000000 then (bif bif ieq 100000000 100000000 then lcO (wr .i64 (400+x0)) (wr .i64 (50+x10)) 100000000&&snO (wr .i64 (400+x0)) (wr .i64 (50+x10)) 100000000 else bif frst (wr .i64 (400+x0)) (wr .i64 (50+x10)) 100000000 then lcO (wr .i64 (400+x0)) (wr .i64 (50+x10)) 100000000&&!snO (wr .i64 (400+x0)) (wr .i64 (50+x10)) 100000000 else lcO (wr .i64 (400+x0)) (wr .i64 (50+x10)) 100000000 then some (.stop (ffalI8 u (x0) (wr .i64 (x10+1)) (x81) (x86+1))) else none) else (bif bif ieq 100000000 100000000 then lcO (wr .i64 (400+x0)) (wr .i64 (50+x10)) 100000000&&snO (wr .i64 (400+x0)) (wr .i64 (50+x10)) 100000000 else bif frst (wr .i64 (400+x0)) (wr .i64 (50+x10)) 100000000 then lcO (wr .i64 (400+x0)) (wr .i64 (50+x10)) 100000000&&!snO (wr .i64 (400+x0)) (wr .i64 (50+x10)) 100000000 else lcO (wr .i64 (400+x0)) (wr .i64 (50+x10)) 100000000 then some (.stop (ffalI8 u (x0) (wr .i64 (x10+1)) (x81) (x86+1))) else none)) else none) else some (.stop (ffalI5 u (wr .i64 (x0+1)) (x86)))):=by kernel_rfl
theorem sn_fst:seenF 400 50 169000000=false:=by kernel_rfl
theorem fr_ok {i k:Nat} (hi:i≤20) (hk:k≤70):(bif frst (400+(i:Int)) (50+(k:Int)) 169000000 then lcO (400+(i:Int)) (50+(k:Int)) 169000000&&!snO (400+(i:Int)) (50+(k:Int)) 169000000 else lcO (400+(i:Int)) (50+(k:Int)) 169000000)=true:=by
 have l:=lc_in (q:=169000000) hi hk (by decide) (by decide)
 rw[lcO_eq,snO_eq,l]
 cases e:frst (400+(i:Int)) (50+(k:Int)) 169000000 with
 |false=>rfl
 |true=>
  unfold frst at e
  simp only[Bool.and_eq_true] at e
  rw[ieq_t e.1.2,ieq_t e.2,sn_fst];rfl
theorem sn_ok {i k:Nat} (hi:i≤20) (hk:k≤70):(lcO (400+(i:Int)) (50+(k:Int)) 100000000&&snO (400+(i:Int)) (50+(k:Int)) 100000000)=true:=by
 rw[lcO_eq,snO_eq,lc_in (q:=100000000) hi hk (by decide) (by decide),sn_in hi hk];rfl
noncomputable def falV:AV:=.tup [.csl [.int .i64 1] 1,.int .i64 0]
theorem w400:wr .i64 (400+0)=400+((0:Nat):Int):=rfl
theorem w50:wr .i64 (50+0)=50+((0:Nat):Int):=rfl
theorem fal3 (M:Nat) (ke:Ans F8 (ffalI5 () ((1:Nat):Int) M) falV):∀ (r k m:Nat),k+r=71→r<m→Ans F8 (ffalI3 () k m (M+1)) falV
 |0,k,m+1,hk,hm=>by
  have h:=ffal_step3 () k m M
  have e:k=71:=by omega
  subst e
  rw[show ile 71 ((71:Nat):Int)=true from rfl,Bool.not_true,cond_false] at h
  exact .stop (Z8_ok _) F8sy h ke
 | r + 1, k, m + 1, hk, hm => by
  have h:=ffal_step3 () k m M
  have e1:ile 71 (k:Int)=false:=ile_f (by omega)
  rw[wr_succ (show k<1048577 by omega),wr_in (n:=50+(k:Int)) (by omega) (by omega)] at h
  simp only[w400,e1,show ieq 169000000 100000000=false from rfl,ieq_self,fr_ok (i:=0) (show (0:Nat)≤20 by omega) (show k≤70 by omega),sn_ok (i:=0) (show (0:Nat)≤20 by omega) (show k≤70 by omega),Bool.not_false,cond_true,cond_false] at h
  generalize (bif frst (400+((0:Nat):Int)) (50+(k:Int)) 169000000 then false else snO (400+((0:Nat):Int)) (50+(k:Int)) 169000000)=b at h
  cases b with
  |false=>
   rw[show (false == false)=true from rfl,cond_true] at h
   exact .stop (Z8_ok _) F8sy h (fal3 M ke r (k+1) m (by omega) (by omega))
  |true=>
   rw[show (false == true)=false from rfl,cond_false] at h
   exact .stop (Z8_ok _) F8sy h (fal3 M ke r (k+1) m (by omega) (by omega))
theorem fal2 (M:Nat) (ke:Ans F8 (ffalI4 () ((1:Nat):Int) M) falV) (ko:∀ (r k m:Nat),k+r=71→r<m→Ans F8 (ffalI3 () k m (M+1)) falV):∀ (r k m:Nat),k+r=71→r<m→Ans F8 (ffalI2 () k m (M+1)) falV
 |0,k,m+1,hk,hm=>by
  have h:=ffal_step2 () k m M
  have e:k=71:=by omega
  subst e
  rw[show ile 71 ((71:Nat):Int)=true from rfl,Bool.not_true,cond_false] at h
  exact .stop (Z8_ok _) F8sy h ke
 | r + 1, k, m + 1, hk, hm => by
  have h:=ffal_step2 () k m M
  have e1:ile 71 (k:Int)=false:=ile_f (by omega)
  rw[wr_succ (show k<1048577 by omega),wr_in (n:=50+(k:Int)) (by omega) (by omega)] at h
  simp only[w400,e1,show ieq 169000000 100000000=false from rfl,ieq_self,fr_ok (i:=0) (show (0:Nat)≤20 by omega) (show k≤70 by omega),sn_ok (i:=0) (show (0:Nat)≤20 by omega) (show k≤70 by omega),Bool.not_false,cond_true,cond_false] at h
  generalize (bif frst (400+((0:Nat):Int)) (50+(k:Int)) 169000000 then false else snO (400+((0:Nat):Int)) (50+(k:Int)) 169000000)=b at h
  cases b with
  |false=>
   rw[show (false == false)=true from rfl,cond_true] at h
   exact .stop (Z8_ok _) F8sy h (fal2 M ke ko r (k+1) m (by omega) (by omega))
  |true=>
   rw[show (false == true)=false from rfl,cond_false] at h
   exact .stop (Z8_ok _) F8sy h (ko r (k+1) m (by omega) (by omega))
theorem fal8 (i:Nat) (hi:i≤20) (M:Nat) (ke:Ans F8 (ffalI5 () ((i+1:Nat):Int) M) falV):∀ (r k m:Nat),k+r=71→r<m→Ans F8 (ffalI8 () i k m (M+1)) falV
 |0,k,m+1,hk,hm=>by
  have h:=ffal_step8 () i k m M
  have e:k=71:=by omega
  subst e
  rw[show ile 71 ((71:Nat):Int)=true from rfl,Bool.not_true,cond_false,wr_succ (show i<1048577 by omega)] at h
  exact .stop (Z8_ok _) F8sy h ke
 | r + 1, k, m + 1, hk, hm => by
  have h:=ffal_step8 () i k m M
  have e1:ile 71 (k:Int)=false:=ile_f (by omega)
  rw[wr_succ (show k<1048577 by omega),wr_in (n:=50+(k:Int)) (by omega) (by omega)] at h
  simp only[wr_in (n:=400+(i:Int)) (by omega) (by omega),e1,show ieq 169000000 100000000=false from rfl,ieq_self,fr_ok (i:=i) hi (show k≤70 by omega),sn_ok (i:=i) hi (show k≤70 by omega),Bool.not_false,cond_true,cond_false] at h
  generalize (bif frst (400+((i:Nat):Int)) (50+(k:Int)) 169000000 then false else snO (400+((i:Nat):Int)) (50+(k:Int)) 169000000)=b at h
  cases b with
  |false=>
   rw[show (false == false)=true from rfl,cond_true] at h
   exact .stop (Z8_ok _) F8sy h (fal8 i hi M ke r (k+1) m (by omega) (by omega))
  |true=>
   rw[show (false == true)=false from rfl,cond_false] at h
   exact .stop (Z8_ok _) F8sy h (fal8 i hi M ke r (k+1) m (by omega) (by omega))
theorem fal7 (i:Nat) (hi:i≤20) (M:Nat) (ke:Ans F8 (ffalI5 () ((i+1:Nat):Int) M) falV):∀ (r k m:Nat),k+r=71→r<m→Ans F8 (ffalI7 () i k m (M+1)) falV
 |0,k,m+1,hk,hm=>by
  have h:=ffal_step7 () i k m M
  have e:k=71:=by omega
  subst e
  rw[show ile 71 ((71:Nat):Int)=true from rfl,Bool.not_true,cond_false,wr_succ (show i<1048577 by omega)] at h
  exact .stop (Z8_ok _) F8sy h ke
 | r + 1, k, m + 1, hk, hm => by
  have h:=ffal_step7 () i k m M
  have e1:ile 71 (k:Int)=false:=ile_f (by omega)
  rw[wr_succ (show k<1048577 by omega),wr_in (n:=50+(k:Int)) (by omega) (by omega)] at h
  simp only[wr_in (n:=400+(i:Int)) (by omega) (by omega),e1,show ieq 169000000 100000000=false from rfl,ieq_self,fr_ok (i:=i) hi (show k≤70 by omega),sn_ok (i:=i) hi (show k≤70 by omega),Bool.not_false,cond_true,cond_false] at h
  generalize (bif frst (400+((i:Nat):Int)) (50+(k:Int)) 169000000 then false else snO (400+((i:Nat):Int)) (50+(k:Int)) 169000000)=b at h
  cases b with
  |false=>
   rw[show (false == false)=true from rfl,cond_true] at h
   exact .stop (Z8_ok _) F8sy h (fal7 i hi M ke r (k+1) m (by omega) (by omega))
  |true=>
   rw[show (false == true)=false from rfl,cond_false] at h
   exact .stop (Z8_ok _) F8sy h (fal7 i hi M ke r (k+1) m (by omega) (by omega))
theorem fal6 (i:Nat) (hi:i≤20) (M:Nat) (ke:Ans F8 (ffalI4 () ((i+1:Nat):Int) M) falV) (ko:∀ (r k m:Nat),k+r=71→r<m→Ans F8 (ffalI8 () i k m (M+1)) falV):∀ (r k m:Nat),k+r=71→r<m→Ans F8 (ffalI6 () i k m (M+1)) falV
 |0,k,m+1,hk,hm=>by
  have h:=ffal_step6 () i k m M
  have e:k=71:=by omega
  subst e
  rw[show ile 71 ((71:Nat):Int)=true from rfl,Bool.not_true,cond_false,wr_succ (show i<1048577 by omega)] at h
  exact .stop (Z8_ok _) F8sy h ke
 | r + 1, k, m + 1, hk, hm => by
  have h:=ffal_step6 () i k m M
  have e1:ile 71 (k:Int)=false:=ile_f (by omega)
  rw[wr_succ (show k<1048577 by omega),wr_in (n:=50+(k:Int)) (by omega) (by omega)] at h
  simp only[wr_in (n:=400+(i:Int)) (by omega) (by omega),e1,show ieq 169000000 100000000=false from rfl,ieq_self,fr_ok (i:=i) hi (show k≤70 by omega),sn_ok (i:=i) hi (show k≤70 by omega),Bool.not_false,cond_true,cond_false] at h
  generalize (bif frst (400+((i:Nat):Int)) (50+(k:Int)) 169000000 then false else snO (400+((i:Nat):Int)) (50+(k:Int)) 169000000)=b at h
  cases b with
  |false=>
   rw[show (false == false)=true from rfl,cond_true] at h
   exact .stop (Z8_ok _) F8sy h (fal6 i hi M ke ko r (k+1) m (by omega) (by omega))
  |true=>
   rw[show (false == true)=false from rfl,cond_false] at h
   exact .stop (Z8_ok _) F8sy h (ko r (k+1) m (by omega) (by omega))
theorem fal_out:∀ (r i:Nat),i+r=21→1≤i→(∀ m,r<m→Ans F8 (ffalI4 () i m) falV)∧(∀ m,r<m→Ans F8 (ffalI5 () i m) falV)
 |0,i,hi,h1=>by
  have e:i=21:=by omega
  subst e
  constructor
  · intro m hm
    obtain⟨m,rfl⟩:∃ m',m=m'+1:=⟨m-1,by omega⟩
    have h:=ffal_step4 () ((21:Nat):Int) m
    rw[show ile 21 ((21:Nat):Int)=true from rfl,Bool.not_true,cond_false] at h
    exact .done (Z8_ok _) F8sy h rfl
  · intro m hm
    obtain⟨m,rfl⟩:∃ m',m=m'+1:=⟨m-1,by omega⟩
    have h:=ffal_step5 () ((21:Nat):Int) m
    rw[show ile 21 ((21:Nat):Int)=true from rfl,Bool.not_true,cond_false] at h
    exact .done (Z8_ok _) F8sy h rfl
 |r+1,i,hi,h1=>by
  obtain⟨k4,k5⟩:=fal_out r (i+1) (by omega) (by omega)
  constructor
  · intro m hm
    obtain⟨m,rfl⟩:∃ m',m=m'+1:=⟨m-1,by omega⟩
    have h:=ffal_step4 () (i:Int) m
    rw[show ile 21 (i:Int)=false from ile_f (by omega),Bool.not_false,cond_true] at h
    exact .stop (Z8_ok _) F8sy h (fal6 i (by omega) m (k4 m (by omega)) (fun r k m' a b=>fal8 i (by omega) m (k5 m (by omega)) r k m' a b) 71 0 1048575 (by omega) (by omega))
  · intro m hm
    obtain⟨m,rfl⟩:∃ m',m=m'+1:=⟨m-1,by omega⟩
    have h:=ffal_step5 () (i:Int) m
    rw[show ile 21 (i:Int)=false from ile_f (by omega),Bool.not_false,cond_true] at h
    exact .stop (Z8_ok _) F8sy h (fal7 i (by omega) m (k5 m (by omega)) 71 0 1048575 (by omega) (by omega))
theorem ffal_ans:Ans F8 (startC F8 29 [tSt.av S0,tNi.av N0,.vs tRe false [rB,rC]] 40) falV:=by
 obtain⟨k4,k5⟩:=fal_out 20 1 (by omega) (by omega)
 have h0:=ffal_step0 () 1048574
 have h1:=ffal_step1 () 1048574 1048574
 simp only[w400,w50,show ieq 169000000 100000000=false from rfl,ieq_self,fr_ok (i:=0) (k:=0) (by omega) (by omega),sn_ok (i:=0) (k:=0) (by omega) (by omega),cond_true,cond_false] at h1
 exact .stop (Z8_ok _) F8sy (ffal_start ()) (.stop (Z8_ok _) F8sy h0 (.stop (Z8_ok _) F8sy h1 (fal2 1048574 (k4 _ (by omega)) (fun r k m' a b=>fal3 1048574 (k5 _ (by omega)) r k m' a b) 70 1 1048574 (by omega) (by omega))))
end Go.Proofs.YtjipgnghjbmlkaaGreatDoor


set_option maxRecDepth 100000
namespace Go.Proofs.YtjipgnghjbmlkaaGreatDoor
open Go Go.Eng
noncomputable def LG:List Said:=[(90,con2 tP tP (fun l s=>lcO l.1 l.2.1 s.1) (fun l s=>.bool (snO l.1 l.2.1 s.1)))]
theorem LG_ok:∀ e∈LG,SaidG Tryz.prog F2.glob e:=
 saids_cons (SaidOK.g f2 xf2 nf2 tabs_ok.mix (fun _ _ h=>con2_spec (t:=tP) (u:=tP) (fun l s hc=>by
  rw[lcO_eq] at hc
  rw[snO_eq]
  exact lrea_call l s hc) h) rfl) saids_nil
noncomputable def FG:Env:=F6.say (under (xOf LG))
noncomputable def F11:Env:={ FG with iv:=some 158 }
theorem f11:EnvOK Tryz.prog F11:=by
 have h:EnvOK Tryz.prog FG:=f6.say _
 refine⟨fun t k ht=>?_,h.zero,h.fn,h.eqok,h.meth⟩
 obtain⟨h1,h2⟩:=h.ty t k ht
 refine⟨h1,?_⟩
 cases k<;>exact h2
theorem nf11:NameOK F11:=nf6.say (under (xOf LG))
theorem xf11:ExtOK Tryz.prog F11:=xf6.sayL (L:=LG) LG_ok
theorem F11sy:F11.sy=true:=rfl
noncomputable def Z11 (l:List Nat):Sy:={ (Z6 []).on LG l with pl:=false }
theorem Z11_ok (l:List Nat):(Z11 l).ok F11:=Sy.on_ok (E:=F6) (L:=LG) (hd:=l) (Z6_ok _)
noncomputable def ZP (l:List Nat):Sy:={ (Z6 []).on LG l with nf:=[3] }
theorem ZP_ok (l:List Nat):(ZP l).ok F11:=Sy.on_ok (E:=F6) (L:=LG) (hd:=l) (Z6_ok _)
noncomputable def ZQ (l:List Nat):Sy:=(ZP l).flat [22,23,24,28,29,30,31,32,33,34]
theorem ZQ_ok (l:List Nat):(ZQ l).ok F11:=ZP_ok l
end Go.Proofs.YtjipgnghjbmlkaaGreatDoor


set_option maxRecDepth 100000
namespace Go.Proofs.YtjipgnghjbmlkaaGreatDoor
open Go Go.Eng
noncomputable def fgrsQ0:Tmps:=(tmOf 33 [(0,(.yld 20)),(1,(pP 17 0)),(2,(pP 18 0)),(3,(pP 19 0)),(7,(.agg [(iI 400),(iI 420)])),(8,(iI 21)),(9,(iI 0))])
noncomputable def fgrsQ1:Tmps:=(tmOf 24 [(0,(.yld 15)),(1,(pP 12 0)),(2,(pP 13 0)),(3,(pP 16 0)),(7,(pP 11 0)),(8,(.bool false)),(9,(.fn 144 [] [(pP 17 0),(pP 18 0),(pP 19 0)]))])
noncomputable def fgrsQ2:Tmps:=(tmOf 13 [(0,.nils),(1,(.fn 100 [] [(pP 12 0),(pP 13 0)])),(2,(pP 14 0)),(4,.nils),(6,(.fn 100 [] [(pP 12 0),(pP 13 0)]))])
noncomputable def fgrsk0:AO:=(cF [(.vs tGr (false) (S0.1.2)),(iI 20),(iI 30),(iI 50),(iI 120)])
noncomputable def fgrsI0 (q:Int) (x64:Nat):Cfg:=⟨.ex (pcOf F11 144 [0,0,1]) ⟨(fgrsQ0),(hpOf 22 [(0,(fgrsk0)),(1,(cF [(iI 0),(iI 0),(iI 0),(iI 8),(iI 1)])),(2,(.cells true [(iI (q))])),(3,(cF [(.fn 106 [] [(pP 4 0),(pP 5 0),(pP 6 0)])])),(4,(cF [(iI 0)])),(5,(cF [(iI 60000)])),(6,(cF [(.csl [(iI (q))] 1)])),(7,(fgrsk0)),(8,(cF [(iI 0),(iI 0),(iI 0),(iI 8),(iI 1)])),(9,(fgrsk0)),(10,(cF [(iI 0),(iI 0),(iI 0),(iI 8),(iI 1)])),(11,(cF [(.vs tGr (false) (S0.1.2)),(iI 20),(iI 30),(iI 50),(iI 120),(iI 0),(iI 0),(iI 0),(iI 8),(iI 1),.nils])),(12,(cF [(pP 11 0)])),(13,(cF [(.bool false)])),(14,(cF [.nils])),(16,(cF [(.yld 15)])),(17,(cF [(iI 400),(iI 420)])),(18,(cF [(iI 50),(iI 120)])),(19,(cF [(.fn 89 [] [])])),(21,(cF [(iI 400),(iI 420)]))]),[],[⟨false,.normal⟩,⟨false,.normal⟩],33,false⟩,⟨36,[⟨20,24,37,(fgrsQ1),#[10],(pcOf F11 100 [0,0,1,1,0,1]),(pcOf F11 100 [1,0,1,1,0,1])⟩,⟨15,13,38,(fgrsQ2),#[7],(pcOf F11 108 [0,0,1,0,1]),(pcOf F11 108 [1,0,1,0,1])⟩]⟩,[(.lop (pcOf F11 144 [0,0,1]) 22 (fgrsQ0) x64),(.blk 0),(.cal [] (.rng (fgrsQ1) [] 24 false ⟨37,[⟨15,13,38,(fgrsQ2),#[7],(pcOf F11 108 [0,0,1,0,1]),(pcOf F11 108 [1,0,1,0,1])⟩]⟩)),(.blk 0),(.cal [] (.rng (fgrsQ2) [] 13 false ⟨38,[]⟩)),(.blk 0),(.seq (pcOf F11 108 [1,1])),(.cal [(.tmp 4)] (.op (pcOf F11 77 [0,1]) 2 (some 4) ((opsOf (pcOf F11 77 [0,1]).c).toList.drop 2) (tmOf 5 [(0,(.fn 100 [] [(pP 12 0),(pP 13 0)])),(2,.nils),(3,(.fn 100 [] [(pP 12 0),(pP 13 0)]))]) [] 5 false ⟨39,[]⟩)),(.seq (pcOf F11 77 [1,1])),(.cal [(.tmp 2)] (.op (pcOf F11 27 [0,1,1,1]) 3 (some 31) ((opsOf (pcOf F11 27 [0,1,1,1]).c).toList.drop 3) (tmOf 50 [(0,(.agg [(.vs tGr (false) (S0.1.2)),(iI 20),(iI 30),(iI 50),(iI 120)])),(1,(.agg [(iI 0),(iI 0),(iI 0),(iI 8),(iI 1)])),(2,(.vs tRe (true) ([]))),(3,(iI (q))),(4,(pP 0 0)),(5,(pP 1 0)),(8,(iI 0)),(9,(iI 0)),(10,(pP 11 0)),(11,(iI 0)),(15,(.tup [(pP 11 0),(iI 0)])),(16,(.agg [(.vs tGr (false) (S0.1.2)),(iI 20),(iI 30),(iI 50),(iI 120)])),(17,(.agg [(iI 0),(iI 0),(iI 0),(iI 8),(iI 1)])),(18,(.vs tRe (true) ([]))),(19,(iI (q))),(20,(.sl 2 0 (1) (1) 1)),(21,(.fn 106 [] [(pP 4 0),(pP 5 0),(pP 6 0)])),(22,(.sl 3 0 (1) (1) 1)),(23,(.tup [(pP 11 0),(iI 0)])),(24,(pP 11 0)),(25,(iI 0)),(26,(iI 0)),(27,(.bool false)),(29,(pP 11 0)),(30,(.fn 100 [] [(pP 12 0),(pP 13 0)]))]) [] 50 false ⟨40,[]⟩)),(.seq (pcOf F11 27 [1,1,1,1])),(.cal [(.tmp 8),(.tmp 9)] .top)]⟩
theorem fgrs_start (q:Int):adv F11 (Z11 [144]) 3000 (startC F11 27 [tSt.av S0,tNi.av N0,.vs tRe true [],.int .i64 q] 40)=(bif !ile 0 q then some (.done (.tup [(.int .i64 (0)),(.int .i64 (7))])) else (bif !ile q 60000 then some (.done (.tup [(.int .i64 (0)),(.int .i64 (7))])) else some (.stop (fgrsI0 q (1048575))))):=by kernel_rfl
end Go.Proofs.YtjipgnghjbmlkaaGreatDoor


set_option maxRecDepth 100000
namespace Go.Proofs.YtjipgnghjbmlkaaGreatDoor
open Go Go.Eng
noncomputable def fgraQ0:Tmps:=(tmOf 33 [(0,(.yld 20)),(1,(pP 17 0)),(2,(pP 18 0)),(3,(pP 19 0)),(5,(iI 0)),(7,(.agg [(iI 400),(iI 420)])),(8,(iI 21)),(9,(iI 0)),(10,(.bool true)),(11,(iI 0)),(12,(.agg [(iI 50),(iI 120)])),(13,(iI 71)),(14,(iI 0))])
noncomputable def fgraQ1:Tmps:=(tmOf 24 [(0,(.yld 15)),(1,(pP 12 0)),(2,(pP 13 0)),(3,(pP 16 0)),(7,(pP 11 0)),(8,(.bool false)),(9,(.fn 144 [] [(pP 17 0),(pP 18 0),(pP 19 0)]))])
noncomputable def fgraQ2:Tmps:=(tmOf 13 [(0,.nils),(1,(.fn 100 [] [(pP 12 0),(pP 13 0)])),(2,(pP 14 0)),(4,.nils),(6,(.fn 100 [] [(pP 12 0),(pP 13 0)]))])
noncomputable def fgraQ3:Tmps:=(tmOf 33 [(0,(.yld 20)),(1,(pP 17 0)),(2,(pP 18 0)),(3,(pP 19 0)),(7,(.agg [(iI 400),(iI 420)])),(8,(iI 21)),(9,(iI 0))])
noncomputable def fgraQ4 (q:Int):Tmps:=(tmOf 50 [(0,(.agg [(.vs tGr (false) (S0.1.2)),(iI 20),(iI 30),(iI 50),(iI 120)])),(1,(.agg [(iI 0),(iI 0),(iI 0),(iI 8),(iI 1)])),(2,(.vs tRe (true) ([]))),(3,(iI (q))),(4,(pP 0 0)),(5,(pP 1 0)),(8,(iI 0)),(9,(iI 0)),(10,(pP 11 0)),(11,(iI 0)),(15,(.tup [(pP 11 0),(iI 0)])),(16,(.agg [(.vs tGr (false) (S0.1.2)),(iI 20),(iI 30),(iI 50),(iI 120)])),(17,(.agg [(iI 0),(iI 0),(iI 0),(iI 8),(iI 1)])),(18,(.vs tRe (true) ([]))),(19,(iI (q))),(20,(.sl 2 0 (1) (1) 1)),(21,(.fn 106 [] [(pP 4 0),(pP 5 0),(pP 6 0)])),(22,(.sl 3 0 (1) (1) 1)),(23,(.tup [(pP 11 0),(iI 0)])),(24,(pP 11 0)),(25,(iI 0)),(26,(iI 0)),(27,(.bool false)),(29,(pP 11 0)),(30,(.fn 100 [] [(pP 12 0),(pP 13 0)]))])
noncomputable def fgrak7:PC:=(pcOf F11 144 [0,0,1,1,0,0,1,1,0,0,1])
noncomputable def fgrak0:AO:=(cF [(.vs tGr (false) (S0.1.2)),(iI 20),(iI 30),(iI 50),(iI 120)])
noncomputable def fgrak4:AO:=(cF [(iI 0),(iI 0),(iI 0),(iI 8),(iI 1)])
noncomputable def fgrak9:AO:=(cF [(.fn 106 [] [(pP 4 0),(pP 5 0),(pP 6 0)])])
noncomputable def fgrak5:AO:=(cF [(.vs tGr (false) (S0.1.2)),(iI 20),(iI 30),(iI 50),(iI 120),(iI 0),(iI 0),(iI 0),(iI 8),(iI 1),.nils])
noncomputable def fgrak6:HD:=⟨20,24,37,(fgraQ1),#[10],(pcOf F11 100 [0,0,1,1,0,1]),(pcOf F11 100 [1,0,1,1,0,1])⟩
noncomputable def fgrak2:HD:=⟨15,13,38,(fgraQ2),#[7],(pcOf F11 108 [0,0,1,0,1]),(pcOf F11 108 [1,0,1,0,1])⟩
noncomputable def fgrak11 (z0:Nat):Fm:=(.lop (pcOf F11 144 [0,0,1]) 22 (fgraQ3) z0)
noncomputable def fgrak8:Fm:=(.cal [] (.rng (fgraQ1) [] 24 false ⟨37,[(fgrak2)]⟩))
noncomputable def fgrak10:Fm:=(.cal [] (.rng (fgraQ2) [] 13 false ⟨38,[]⟩))
noncomputable def fgrak1:Fm:=(.cal [(.tmp 4)] (.op (pcOf F11 77 [0,1]) 2 (some 4) ((opsOf (pcOf F11 77 [0,1]).c).toList.drop 2) (tmOf 5 [(0,(.fn 100 [] [(pP 12 0),(pP 13 0)])),(2,.nils),(3,(.fn 100 [] [(pP 12 0),(pP 13 0)]))]) [] 5 false ⟨39,[]⟩))
noncomputable def fgrak3 (z0:Int):Fm:=(.cal [(.tmp 2)] (.op (pcOf F11 27 [0,1,1,1]) 3 (some 31) ((opsOf (pcOf F11 27 [0,1,1,1]).c).toList.drop 3) (fgraQ4 z0) [] 50 false ⟨40,[]⟩))
noncomputable def fgraI0 (q:Int) (x80:Nat):Cfg:=⟨.ex (fgrak7) ⟨(fgraQ0),(hpOf 23 [(0,(fgrak0)),(1,(fgrak4)),(2,(.cells true [(iI (q))])),(3,(fgrak9)),(4,(cF [(iI 0)])),(5,(cF [(iI 60000)])),(6,(cF [(.csl [(iI (q))] 1)])),(7,(fgrak0)),(8,(fgrak4)),(9,(fgrak0)),(10,(fgrak4)),(11,(fgrak5)),(12,(cF [(pP 11 0)])),(13,(cF [(.bool false)])),(14,(cF [.nils])),(16,(cF [(.yld 15)])),(17,(cF [(iI 400),(iI 420)])),(18,(cF [(iI 50),(iI 120)])),(19,(cF [(.fn 89 [] [])])),(21,(cF [(iI 400),(iI 420)])),(22,(cF [(iI 50),(iI 120)]))]),[],[⟨false,.normal⟩,⟨false,.normal⟩],33,false⟩,⟨36,[(fgrak6),(fgrak2)]⟩,[(.lop (fgrak7) 23 (fgraQ0) x80),(.blk 2),(.blk 1),(.seq (pcOf F11 144 [1,1,1,0,0,1])),(fgrak11 x80),(.blk 0),(fgrak8),(.blk 0),(fgrak10),(.blk 0),(.seq (pcOf F11 108 [1,1])),(fgrak1),(.seq (pcOf F11 77 [1,1])),(fgrak3 q),(.seq (pcOf F11 27 [1,1,1,1])),(.cal [(.tmp 8),(.tmp 9)] .top)]⟩
noncomputable def fgraI1 (q:Int) (x10:Int) (x60:Nat) (x70:List AV) (x83:Nat) (x88:Nat):Cfg:=⟨.ex (fgrak7) ⟨(tmOf 33 [(0,(.yld 20)),(1,(pP 17 0)),(2,(pP 18 0)),(3,(pP 19 0)),(5,(iI 0)),(7,(.agg [(iI 400),(iI 420)])),(8,(iI 21)),(9,(iI 0)),(10,(.bool true)),(11,(iI 0)),(12,(.agg [(iI 50),(iI 120)])),(13,(iI 71)),(14,(iI x10))]),(hpOf 24 [(0,(fgrak0)),(1,(fgrak4)),(2,(.cells true [(iI (q))])),(3,(fgrak9)),(4,(cF [(iI 0)])),(5,(cF [(iI 60000)])),(6,(cF [(.csl [(iI (q))] 1)])),(7,(fgrak0)),(8,(fgrak4)),(9,(fgrak0)),(10,(fgrak4)),(11,(fgrak5)),(12,(cF [(pP 11 0)])),(13,(cF [(.bool false)])),(14,(cF [(.sl 23 0 x60 x60 1)])),(16,(cF [(.yld 15)])),(17,(cF [(iI 400),(iI 420)])),(18,(cF [(iI 50),(iI 120)])),(19,(cF [(.fn 89 [] [])])),(21,(cF [(iI 400),(iI 420)])),(22,(cF [(iI 50),(iI 120)])),(23,(cF x70))]),[],[⟨false,.normal⟩,⟨false,.normal⟩],33,false⟩,⟨36,[(fgrak6),(fgrak2)]⟩,[(.lop (fgrak7) 23 (fgraQ0) x83),(.blk 2),(.blk 1),(.seq (pcOf F11 144 [1,1,1,0,0,1])),(fgrak11 x88),(.blk 0),(fgrak8),(.blk 0),(fgrak10),(.blk 0),(.seq (pcOf F11 108 [1,1])),(fgrak1),(.seq (pcOf F11 77 [1,1])),(fgrak3 q),(.seq (pcOf F11 27 [1,1,1,1])),(.cal [(.tmp 8),(.tmp 9)] .top)]⟩
noncomputable def fgraI2 (q:Int) (x3:Int) (x53:Nat) (x61:List AV) (x67:Nat):Cfg:=⟨.ex (pcOf F11 144 [0,0,1]) ⟨(tmOf 33 [(0,(.yld 20)),(1,(pP 17 0)),(2,(pP 18 0)),(3,(pP 19 0)),(7,(.agg [(iI 400),(iI 420)])),(8,(iI 21)),(9,(iI x3))]),(hpOf 23 [(0,(fgrak0)),(1,(fgrak4)),(2,(.cells true [(iI (q))])),(3,(fgrak9)),(4,(cF [(iI 0)])),(5,(cF [(iI 60000)])),(6,(cF [(.csl [(iI (q))] 1)])),(7,(fgrak0)),(8,(fgrak4)),(9,(fgrak0)),(10,(fgrak4)),(11,(fgrak5)),(12,(cF [(pP 11 0)])),(13,(cF [(.bool false)])),(14,(cF [(.sl 22 0 x53 x53 1)])),(16,(cF [(.yld 15)])),(17,(cF [(iI 400),(iI 420)])),(18,(cF [(iI 50),(iI 120)])),(19,(cF [(.fn 89 [] [])])),(21,(cF [(iI 400),(iI 420)])),(22,(cF x61))]),[],[⟨false,.normal⟩,⟨false,.normal⟩],33,false⟩,⟨36,[(fgrak6),(fgrak2)]⟩,[(fgrak11 x67),(.blk 0),(fgrak8),(.blk 0),(fgrak10),(.blk 0),(.seq (pcOf F11 108 [1,1])),(fgrak1),(.seq (pcOf F11 77 [1,1])),(fgrak3 q),(.seq (pcOf F11 27 [1,1,1,1])),(.cal [(.tmp 8),(.tmp 9)] .top)]⟩
noncomputable def fgraQ5 (y0:Int):Tmps:=(tmOf 33 [(0,(.yld 20)),(1,(pP 17 0)),(2,(pP 18 0)),(3,(pP 19 0)),(5,(iI y0)),(7,(.agg [(iI 400),(iI 420)])),(8,(iI 21)),(9,(iI y0)),(10,(.bool true)),(11,(iI y0)),(12,(.agg [(iI 50),(iI 120)])),(13,(iI 71)),(14,(iI 0))])
noncomputable def fgraI3 (q:Int) (x0:Int) (x60:Nat) (x68:List AV) (x83:Nat) (x88:Nat):Cfg:=⟨.ex (fgrak7) ⟨(fgraQ5 x0),(hpOf 24 [(0,(fgrak0)),(1,(fgrak4)),(2,(.cells true [(iI (q))])),(3,(fgrak9)),(4,(cF [(iI 0)])),(5,(cF [(iI 60000)])),(6,(cF [(.csl [(iI (q))] 1)])),(7,(fgrak0)),(8,(fgrak4)),(9,(fgrak0)),(10,(fgrak4)),(11,(fgrak5)),(12,(cF [(pP 11 0)])),(13,(cF [(.bool false)])),(14,(cF [(.sl 22 0 x60 x60 1)])),(16,(cF [(.yld 15)])),(17,(cF [(iI 400),(iI 420)])),(18,(cF [(iI 50),(iI 120)])),(19,(cF [(.fn 89 [] [])])),(21,(cF [(iI 400),(iI 420)])),(22,(cF x68)),(23,(cF [(iI 50),(iI 120)]))]),[],[⟨false,.normal⟩,⟨false,.normal⟩],33,false⟩,⟨36,[(fgrak6),(fgrak2)]⟩,[(.lop (fgrak7) 24 (fgraQ5 x0) x83),(.blk 2),(.blk 1),(.seq (pcOf F11 144 [1,1,1,0,0,1])),(fgrak11 x88),(.blk 0),(fgrak8),(.blk 0),(fgrak10),(.blk 0),(.seq (pcOf F11 108 [1,1])),(fgrak1),(.seq (pcOf F11 77 [1,1])),(fgrak3 q),(.seq (pcOf F11 27 [1,1,1,1])),(.cal [(.tmp 8),(.tmp 9)] .top)]⟩
noncomputable def fgraI4 (q:Int) (x0:Int) (x10:Int) (x60:Nat) (x70:List AV) (x83:Nat) (x88:Nat):Cfg:=⟨.ex (fgrak7) ⟨(tmOf 33 [(0,(.yld 20)),(1,(pP 17 0)),(2,(pP 18 0)),(3,(pP 19 0)),(5,(iI x0)),(7,(.agg [(iI 400),(iI 420)])),(8,(iI 21)),(9,(iI x0)),(10,(.bool true)),(11,(iI x0)),(12,(.agg [(iI 50),(iI 120)])),(13,(iI 71)),(14,(iI x10))]),(hpOf 25 [(0,(fgrak0)),(1,(fgrak4)),(2,(.cells true [(iI (q))])),(3,(fgrak9)),(4,(cF [(iI 0)])),(5,(cF [(iI 60000)])),(6,(cF [(.csl [(iI (q))] 1)])),(7,(fgrak0)),(8,(fgrak4)),(9,(fgrak0)),(10,(fgrak4)),(11,(fgrak5)),(12,(cF [(pP 11 0)])),(13,(cF [(.bool false)])),(14,(cF [(.sl 24 0 x60 x60 1)])),(16,(cF [(.yld 15)])),(17,(cF [(iI 400),(iI 420)])),(18,(cF [(iI 50),(iI 120)])),(19,(cF [(.fn 89 [] [])])),(21,(cF [(iI 400),(iI 420)])),(22,.gone),(23,(cF [(iI 50),(iI 120)])),(24,(cF x70))]),[],[⟨false,.normal⟩,⟨false,.normal⟩],33,false⟩,⟨36,[(fgrak6),(fgrak2)]⟩,[(.lop (fgrak7) 24 (fgraQ5 x0) x83),(.blk 2),(.blk 1),(.seq (pcOf F11 144 [1,1,1,0,0,1])),(fgrak11 x88),(.blk 0),(fgrak8),(.blk 0),(fgrak10),(.blk 0),(.seq (pcOf F11 108 [1,1])),(fgrak1),(.seq (pcOf F11 77 [1,1])),(fgrak3 q),(.seq (pcOf F11 27 [1,1,1,1])),(.cal [(.tmp 8),(.tmp 9)] .top)]⟩
theorem fgra_start (q:Int):adv F11 (ZQ [144,79]) 6000 (fgrsI0 q 1048575)=some (.stop (fgraI0 q (1048575))):=by kernel_rfl
theorem fgra_step0 (q:Int) (x80:Nat):adv F11 (ZQ [144,79]) 6000 (fgraI0 q (x80+1))=some (.stop (fgraI1 q (1) (1) ([AV.ifc 158 (AV.agg [AV.int IntKind.i64 (wr .i64 (400+0)),AV.int IntKind.i64 (wr .i64 (50+0))])]) (x80) (x80+1))):=by kernel_rfl
theorem fgra_step1 (q:Int) (x10:Int) (x60:Nat) (x70:List AV) (x83:Nat) (x88:Nat):adv F11 (ZQ [144,79]) 6000 (fgraI1 q x10 x60 x70 (x83+1) (x88+1))=(bif !ile 71 x10 then (bif (0+x60 * 1).beq x70.length then (bif x60.ble 1048576 then (bif plO (AO.cells false (x70++[AV.ifc 158 (AV.agg [AV.int IntKind.i64 (wr .i64 (400+0)),AV.int IntKind.i64 (wr .i64 (50+x10))])])) then some (.stop (fgraI1 q (wr .i64 (x10+1)) (x60+1) (x70++[AV.ifc 158 (AV.agg [AV.int IntKind.i64 (wr .i64 (400+0)),AV.int IntKind.i64 (wr .i64 (50+x10))])]) (x83) (x88+1))) else none) else none) else none) else (bif plO (AO.cells false x70) then some (.stop (fgraI2 q (1) (x60) (x70) (x88))) else none)):=by kernel_rfl
theorem fgra_step2 (q:Int) (x3:Int) (x53:Nat) (x61:List AV) (x67:Nat):adv F11 (ZQ [144,79]) 6000 (fgraI2 q x3 x53 x61 (x67+1))=(bif !ile 21 x3 then some (.stop (fgraI3 q (x3) (x53) (x61) (1048575) (x67+1))) else (bif ieq (↑x53) 0 then some (.done (.tup [(.int .i64 (0)),(.int .i64 (9))])) else none)):=by kernel_rfl
theorem fgra_step3 (q:Int) (x0:Int) (x60:Nat) (x68:List AV) (x83:Nat) (x88:Nat):adv F11 (ZQ [144,79]) 6000 (fgraI3 q x0 x60 x68 (x83+1) (x88+1))=(bif (0+x60 * 1).beq x68.length then (bif x60.ble 1048576 then (bif plO (AO.cells false (x68++[AV.ifc 158 (AV.agg [AV.int IntKind.i64 (wr .i64 (400+x0)),AV.int IntKind.i64 (wr .i64 (50+0))])])) then some (.stop (fgraI4 q (x0) (1) (x60+1) (x68++[AV.ifc 158 (AV.agg [AV.int IntKind.i64 (wr .i64 (400+x0)),AV.int IntKind.i64 (wr .i64 (50+0))])]) (x83) (x88+1))) else none) else none) else none):=by kernel_rfl
theorem fgra_step4 (q:Int) (x0:Int) (x10:Int) (x60:Nat) (x70:List AV) (x83:Nat) (x88:Nat):adv F11 (ZQ [144,79]) 6000 (fgraI4 q x0 x10 x60 x70 (x83+1) (x88+1))=(bif !ile 71 x10 then (bif (0+x60 * 1).beq x70.length then (bif x60.ble 1048576 then (bif plO (AO.cells false (x70++[AV.ifc 158 (AV.agg [AV.int IntKind.i64 (wr .i64 (400+x0)),AV.int IntKind.i64 (wr .i64 (50+x10))])])) then some (.stop (fgraI4 q (x0) (wr .i64 (x10+1)) (x60+1) (x70++[AV.ifc 158 (AV.agg [AV.int IntKind.i64 (wr .i64 (400+x0)),AV.int IntKind.i64 (wr .i64 (50+x10))])]) (x83) (x88+1))) else none) else none) else none) else (bif plO (AO.cells false x70) then some (.stop (fgraI2 q (wr .i64 (x0+1)) (x60) (x70) (x88))) else none)):=by kernel_rfl
noncomputable def fgrbk4:AO:=(cF [(.vs tGr (false) (S0.1.2)),(iI 20),(iI 30),(iI 50),(iI 120)])
noncomputable def fgrbQ0 (q:Int) (n:Nat) (L:List AV):Hp:=(hpOf 27 [(0,(fgrbk4)),(1,(cF [(iI 0),(iI 0),(iI 0),(iI 8),(iI 1)])),(2,(.cells true [(iI (q))])),(3,(cF [(.fn 106 [] [(pP 4 0),(pP 5 0),(pP 6 0)])])),(4,(cF [(iI 0)])),(5,(cF [(iI 60000)])),(6,(cF [(.csl [(iI (q))] 1)])),(7,(fgrbk4)),(8,(cF [(iI 0),(iI 0),(iI 0),(iI 8),(iI 1)])),(9,(fgrbk4)),(10,(cF [(iI 0),(iI 0),(iI 0),(iI 8),(iI 1)])),(11,(cF [(.vs tGr (false) (S0.1.2)),(iI 20),(iI 30),(iI 50),(iI 120),(iI 0),(iI 0),(iI 0),(iI 8),(iI 1),.nils])),(12,(cF [(pP 11 0)])),(13,(cF [(.bool false)])),(14,(cF [(.sl 22 0 (n) (n) 1)])),(16,(cF [(.yld 15)])),(17,(cF [(iI 400),(iI 420)])),(18,(cF [(iI 50),(iI 120)])),(19,(cF [(.fn 89 [] [])])),(21,(cF [(iI 400),(iI 420)])),(22,(cF (L))),(23,(cF [(pP 11 0)])),(24,(cF [(iI 1),(iI 0)])),(25,(cF [(iI (wr .i64 (q * q))),(iI 0)])),(26,(cF [(iI (wr .i64 (q * q))),(iI 0)]))])
noncomputable def fgrbk0:AV:=(.agg [(.vs tGr (false) (S0.1.2)),(iI 20),(iI 30),(iI 50),(iI 120)])
noncomputable def fgrbk1:AV:=(.agg [(iI 0),(iI 0),(iI 0),(iI 8),(iI 1)])
noncomputable def fgrbQ1 (q:Int) (n:Nat):Tmps:=(tmOf 50 [(0,(fgrbk0)),(1,(fgrbk1)),(2,(.vs tRe (true) ([]))),(3,(iI (q))),(4,(pP 0 0)),(5,(pP 1 0)),(8,(iI 0)),(9,(iI 0)),(10,(pP 11 0)),(11,(iI 0)),(12,(.sl 22 0 (n) (n) 1)),(15,(.tup [(pP 11 0),(iI 0)])),(16,(fgrbk0)),(17,(fgrbk1)),(18,(.vs tRe (true) ([]))),(19,(iI (q))),(20,(.sl 2 0 (1) (1) 1)),(21,(.fn 106 [] [(pP 4 0),(pP 5 0),(pP 6 0)])),(22,(.sl 3 0 (1) (1) 1)),(23,(.tup [(pP 11 0),(iI 0)])),(24,(pP 11 0)),(25,(iI 0)),(26,(iI 0)),(27,(.bool false)),(29,(pP 11 0)),(30,(.fn 100 [] [(pP 12 0),(pP 13 0)])),(31,(.sl 22 0 (n) (n) 1)),(32,(.sl 22 0 (n) (n) 1)),(33,(iI (Int.ofNat n))),(34,(.bool false)),(35,(pP 11 0)),(36,(.sl 24 0 (2) (2) 1)),(37,(iI 2)),(38,(iI 0))])
noncomputable def fgrbk2 (z0:Int):AV:=(.agg [(iI (wr .i64 (z0 * z0))),(iI 0)])
noncomputable def fgrbk3:PC:=(pcOf F11 27 [0,1,0,0,1,1,0,0,1,0,1,1,1,1,1])
noncomputable def fgrbI0 (q:Int) (n:Nat) (L:List AV) (m:Nat) (x9:Int) (x84:Nat) (x198:Nat):Cfg:=⟨.ex (pcOf F11 79 [0,0,1,0,1]) ⟨(tmOf 49 [(0,(pP 11 0)),(1,(iI 1)),(2,(fgrbk2 q)),(3,(.sl 22 0 (n) (n) 1)),(6,(pP 26 0)),(8,(.bool false)),(13,(.sl 22 0 (n) (n) 1)),(14,(iI (Int.ofNat n))),(15,(iI x9))]),(fgrbQ0 q n L),[],[],49,false⟩,⟨39,[]⟩,[(.lop (pcOf F11 79 [0,0,1,0,1]) 27 (tmOf 49 [(0,(pP 11 0)),(1,(iI 1)),(2,(fgrbk2 q)),(3,(.sl 22 0 (n) (n) 1)),(6,(pP 26 0)),(8,(.bool false)),(13,(.sl 22 0 (n) (n) 1)),(14,(iI (Int.ofNat n))),(15,(iI 0))]) x84),(.blk 0),(.seq (pcOf F11 79 [1,1])),(.cal [(.tmp 8)] (.op (fgrbk3) 6 (some 47) ((opsOf (fgrbk3).c).toList.drop 6) (tmOf 50 [(0,(fgrbk0)),(1,(fgrbk1)),(2,(.vs tRe (true) ([]))),(3,(iI (q))),(4,(pP 0 0)),(5,(pP 1 0)),(8,(iI 0)),(9,(iI 0)),(10,(pP 11 0)),(11,(iI 0)),(12,(.sl 22 0 (n) (n) 1)),(14,(iI 1)),(15,(.tup [(pP 11 0),(iI 0)])),(16,(fgrbk0)),(17,(fgrbk1)),(18,(.vs tRe (true) ([]))),(19,(iI (q))),(20,(.sl 2 0 (1) (1) 1)),(21,(.fn 106 [] [(pP 4 0),(pP 5 0),(pP 6 0)])),(22,(.sl 3 0 (1) (1) 1)),(23,(.tup [(pP 11 0),(iI 0)])),(24,(pP 11 0)),(25,(iI 0)),(26,(iI 0)),(27,(.bool false)),(29,(pP 11 0)),(30,(.fn 100 [] [(pP 12 0),(pP 13 0)])),(31,(.sl 22 0 (n) (n) 1)),(32,(.sl 22 0 (n) (n) 1)),(33,(iI (Int.ofNat n))),(34,(.bool false)),(35,(pP 11 0)),(36,(.sl 24 0 (2) (2) 1)),(37,(iI 2)),(38,(iI 0)),(39,(.bool true)),(40,(pP 24 0)),(41,(iI 1)),(42,(pP 11 0)),(43,(iI 1)),(44,(iI (q))),(45,(fgrbk2 q)),(46,(.sl 22 0 (n) (n) 1))]) [] 50 false ⟨40,[]⟩)),(.seq (pcOf F11 27 [1,1,0,0,1,1,0,0,1,0,1,1,1,1,1])),(.blk 1),(.seq (pcOf F11 27 [1,1,1,0,0,1,0,1,1,1,1,1])),(.lop (pcOf F11 27 [0,0,1,0,1,1,1,1,1]) 25 (fgrbQ1 q n) x198),(.blk 0),(.seq (pcOf F11 27 [1,1,1,1,1,1])),(.cal [(.tmp 8),(.tmp 9)] .top)]⟩
noncomputable def fgrbI1 (q:Int) (n:Nat) (L:List AV) (m:Nat) (x9:Int) (x84:Nat) (x198:Nat):Cfg:=⟨.ex (pcOf F11 79 [0,0,1,0,1]) ⟨(tmOf 49 [(0,(pP 11 0)),(1,(iI 0)),(2,(fgrbk2 q)),(3,(.sl 22 0 (n) (n) 1)),(6,(pP 26 0)),(8,(.bool false)),(13,(.sl 22 0 (n) (n) 1)),(14,(iI (Int.ofNat n))),(15,(iI x9))]),(fgrbQ0 q n L),[],[],49,false⟩,⟨39,[]⟩,[(.lop (pcOf F11 79 [0,0,1,0,1]) 27 (tmOf 49 [(0,(pP 11 0)),(1,(iI 0)),(2,(fgrbk2 q)),(3,(.sl 22 0 (n) (n) 1)),(6,(pP 26 0)),(8,(.bool false)),(13,(.sl 22 0 (n) (n) 1)),(14,(iI (Int.ofNat n))),(15,(iI 0))]) x84),(.blk 0),(.seq (pcOf F11 79 [1,1])),(.cal [(.tmp 8)] (.op (fgrbk3) 6 (some 47) ((opsOf (fgrbk3).c).toList.drop 6) (tmOf 50 [(0,(fgrbk0)),(1,(fgrbk1)),(2,(.vs tRe (true) ([]))),(3,(iI (q))),(4,(pP 0 0)),(5,(pP 1 0)),(8,(iI 0)),(9,(iI 0)),(10,(pP 11 0)),(11,(iI 0)),(12,(.sl 22 0 (n) (n) 1)),(14,(iI 0)),(15,(.tup [(pP 11 0),(iI 0)])),(16,(fgrbk0)),(17,(fgrbk1)),(18,(.vs tRe (true) ([]))),(19,(iI (q))),(20,(.sl 2 0 (1) (1) 1)),(21,(.fn 106 [] [(pP 4 0),(pP 5 0),(pP 6 0)])),(22,(.sl 3 0 (1) (1) 1)),(23,(.tup [(pP 11 0),(iI 0)])),(24,(pP 11 0)),(25,(iI 0)),(26,(iI 0)),(27,(.bool false)),(29,(pP 11 0)),(30,(.fn 100 [] [(pP 12 0),(pP 13 0)])),(31,(.sl 22 0 (n) (n) 1)),(32,(.sl 22 0 (n) (n) 1)),(33,(iI (Int.ofNat n))),(34,(.bool false)),(35,(pP 11 0)),(36,(.sl 24 0 (2) (2) 1)),(37,(iI 2)),(38,(iI 1)),(39,(.bool true)),(40,(pP 24 1)),(41,(iI 0)),(42,(pP 11 0)),(43,(iI 0)),(44,(iI (q))),(45,(fgrbk2 q)),(46,(.sl 22 0 (n) (n) 1))]) [] 50 false ⟨40,[]⟩)),(.seq (pcOf F11 27 [1,1,0,0,1,1,0,0,1,0,1,1,1,1,1])),(.blk 1),(.seq (pcOf F11 27 [1,1,1,0,0,1,0,1,1,1,1,1])),(.lop (pcOf F11 27 [0,0,1,0,1,1,1,1,1]) 25 (fgrbQ1 q n) x198),(.blk 0),(.seq (pcOf F11 27 [1,1,1,1,1,1])),(.cal [(.tmp 8),(.tmp 9)] .top)]⟩
theorem fgrb_start (q:Int) (n:Nat) (L:List AV) (m:Nat):adv F11 (ZP [79]) 20000 (fgraI2 q 21 n L (m+1))=(bif ieq (↑n) 0 then some (.done (.tup [(.int .i64 (0)),(.int .i64 (9))])) else (bif plO (AO.cells false L) then (bif plO (AO.cells false L) then (bif plO (AO.cells false L) then (bif plO (AO.cells false L) then some (.stop (fgrbI0 q n L m (0) (1048575) (1048575))) else none) else none) else none) else none)):=by kernel_rfl
theorem fgrb_step0 (q:Int) (n:Nat) (L:List AV) (m:Nat) (x9:Int) (x84:Nat) (x198:Nat):adv F11 (ZP [79]) 20000 (fgrbI0 q n L m x9 (x84+1) (x198+1))=(bif !ile (Int.ofNat n) x9 then (bif inB x9 n then (bif (0+x9.toNat * 1+1).ble L.length&&isI 158 [AV.int IntKind.i64 0,AV.int IntKind.i64 0] (L.getD (0+x9.toNat * 1) AV.nili) then (bif lcO 100 (toI ((payI (L.getD (0+x9.toNat * 1) AV.nili)).getD (0+1) AV.nili)) (wr .i64 (q * q)) then (bif !snO 100 (toI ((payI (L.getD (0+x9.toNat * 1) AV.nili)).getD (0+1) AV.nili)) (wr .i64 (q * q)) then (bif plO (AO.cells false L) then some (.stop (fgrbI1 q n L m (0) (1048575) (x198))) else none) else (bif plO (AO.cells false L) then some (.stop (fgrbI0 q n L m (wr .i64 (x9+1)) (x84) (x198+1))) else none)) else none) else none) else none) else some (.done (.tup [(.int .i64 (1)),(.int .i64 (0))]))):=by kernel_rfl
theorem fgrb_step1 (q:Int) (n:Nat) (L:List AV) (m:Nat) (x9:Int) (x84:Nat) (x198:Nat):adv F11 (ZP [79]) 20000 (fgrbI1 q n L m x9 (x84+1) (x198+1))=(bif !ile (Int.ofNat n) x9 then (bif inB x9 n then (bif (0+x9.toNat * 1+1).ble L.length&&isI 158 [AV.int IntKind.i64 0,AV.int IntKind.i64 0] (L.getD (0+x9.toNat * 1) AV.nili) then (bif lcO (toI ((payI (L.getD (0+x9.toNat * 1) AV.nili)).getD 0 AV.nili)) (toI ((payI (L.getD (0+x9.toNat * 1) AV.nili)).getD (0+1) AV.nili)) (wr .i64 (q * q)) then (bif !snO (toI ((payI (L.getD (0+x9.toNat * 1) AV.nili)).getD 0 AV.nili)) (toI ((payI (L.getD (0+x9.toNat * 1) AV.nili)).getD (0+1) AV.nili)) (wr .i64 (q * q)) then (bif plO (AO.cells false L) then some (.done (.tup [(.int .i64 (0)),(.int .i64 (9))])) else none) else (bif plO (AO.cells false L) then some (.stop (fgrbI1 q n L m (wr .i64 (x9+1)) (x84) (x198+1))) else none)) else none) else none) else none) else some (.done (.tup [(.int .i64 (0)),(.int .i64 (0))]))):=by kernel_rfl
noncomputable def sgC (c k:Int):AV:=.ifc 158 (.agg [.int .i64 c,.int .i64 k])
theorem plain_app {c k:Int}:∀ {L:List AV},plainL L=true→plainL (L++[sgC c k])=true
 |[],_=>rfl
 | v :: l, h => by
  cases v<;>first|(cases h;done)|skip
  case ifc t w=>
   cases w<;>first|(cases h;done)|skip
   simp only[plainL,Bool.and_eq_true] at h
   simp only[List.cons_append,plainL,Bool.and_eq_true]
   exact⟨h.1,plain_app h.2⟩
  all_goals exact plain_app (L:=l) h
structure Inv (L:List AV):Prop where
 pl:plainL L=true
 hd:∃ t,L=sgC 400 50::t
 sg:∀ x∈L,∃ i k:Nat,(i≤20∧k≤70)∧x=sgC (400+(i:Int)) (50+(k:Int))
theorem inv_app {L:List AV} (h:Inv L) {i k:Nat} (hi:i≤20) (hk:k≤70):Inv (L++[sgC (400+(i:Int)) (50+(k:Int))]):=by
 obtain⟨t,ht⟩:=h.hd
 refine⟨plain_app h.pl,⟨t++[sgC (400+(i:Int)) (50+(k:Int))],by rw[ht];rfl⟩,fun x hx=>?_⟩
 rcases List.mem_append.1 hx with hx|hx
 · exact h.sg x hx
 · rw [List.mem_singleton] at hx
   exact⟨i,k,⟨hi,hk⟩,hx⟩
theorem inv_one:Inv [sgC 400 50]:=⟨rfl,⟨[],rfl⟩,fun x hx=>by
 rw[List.mem_singleton] at hx
 exact⟨0,0,⟨by omega,by omega⟩,hx⟩⟩
theorem b1L (L:List AV):(0+L.length * 1).beq L.length=true:=by rw[Nat.zero_add,Nat.mul_one];exact Nat.beq_refl _
theorem g400:wr .i64 (400+0)=400+((0:Nat):Int):=rfl
theorem g50:wr .i64 (50+0)=50+((0:Nat):Int):=rfl
theorem len_app (L:List AV) (x:AV):L.length+1=(L++[x]).length:=by rw[List.length_append];rfl
theorem col1 {v:AV} (q:Int) (M:Nat) (K:∀ L,Inv L→L.length≤71→Ans F11 (fgraI2 q ((1:Nat):Int) L.length L M) v):∀ (r k m:Nat) (L:List AV),k+r=71→r<m→Inv L→L.length≤k→Ans F11 (fgraI1 q k L.length L m (M+1)) v
 |0,k,m+1,L,hk,hm,hL,hl=>by
  have h:=fgra_step1 q k L.length L m M
  have e:k=71:=by omega
  subst e
  rw[show ile 71 ((71:Nat):Int)=true from rfl,Bool.not_true,cond_false,show plO (AO.cells false L)=true from hL.pl,cond_true] at h
  exact .stop (ZQ_ok _) F11sy h (K L hL hl)
 |r+1,k,m+1,L,hk,hm,hL,hl=>by
  have h:=fgra_step1 q k L.length L m M
  have b2:Nat.ble L.length 1048576=true:=Nat.ble_eq_true_of_le (by omega)
  have hA:=inv_app hL (i:=0) (k:=k) (by omega) (by omega)
  rw[show ile 71 (k:Int)=false from ile_f (by omega),Bool.not_false,cond_true,b1L,b2,cond_true,cond_true,g400,wr_in (n:=50+(k:Int)) (by omega) (by omega),wr_succ (show k<1048577 by omega)] at h
  rw[show plO (AO.cells false (L++[AV.ifc 158 (AV.agg [AV.int IntKind.i64 (400+((0:Nat):Int)),AV.int IntKind.i64 (50+(k:Int))])]))=true from hA.pl,cond_true] at h
  have ih:=col1 q M K r (k+1) m _ (by omega) (by omega) hA (by rw[List.length_append];simp;omega)
  rw[← len_app] at ih
  exact .stop (ZQ_ok _) F11sy h ih
theorem col4 {v:AV} (q:Int) (i:Nat) (hi:i≤20) (M:Nat) (K:∀ L,Inv L→L.length≤71 * (i+1)→Ans F11 (fgraI2 q ((i+1:Nat):Int) L.length L M) v):∀ (r k m:Nat) (L:List AV),k+r=71→r<m→Inv L→L.length≤71 * i+k→Ans F11 (fgraI4 q i k L.length L m (M+1)) v
 |0,k,m+1,L,hk,hm,hL,hl=>by
  have h:=fgra_step4 q i k L.length L m M
  have e:k=71:=by omega
  subst e
  rw[show ile 71 ((71:Nat):Int)=true from rfl,Bool.not_true,cond_false,show plO (AO.cells false L)=true from hL.pl,cond_true,wr_succ (show i<1048577 by omega)] at h
  exact .stop (ZQ_ok _) F11sy h (K L hL (by omega))
 |r+1,k,m+1,L,hk,hm,hL,hl=>by
  have h:=fgra_step4 q i k L.length L m M
  have b2:Nat.ble L.length 1048576=true:=Nat.ble_eq_true_of_le (by omega)
  have hA:=inv_app hL (i:=i) (k:=k) (by omega) (by omega)
  rw[show ile 71 (k:Int)=false from ile_f (by omega),Bool.not_false,cond_true,b1L,b2,cond_true,cond_true,wr_in (n:=400+(i:Int)) (by omega) (by omega),wr_in (n:=50+(k:Int)) (by omega) (by omega),wr_succ (show k<1048577 by omega)] at h
  rw[show plO (AO.cells false (L++[AV.ifc 158 (AV.agg [AV.int IntKind.i64 (400+(i:Int)),AV.int IntKind.i64 (50+(k:Int))])]))=true from hA.pl,cond_true] at h
  have ih:=col4 q i hi M K r (k+1) m _ (by omega) (by omega) hA (by rw[List.length_append];simp;omega)
  rw[← len_app] at ih
  exact .stop (ZQ_ok _) F11sy h ih
theorem col_out {v:AV} (q:Int) (K:∀ L m,Inv L→L.length≤1491→Ans F11 (fgraI2 q ((21:Nat):Int) L.length L (m+1)) v):∀ (r i m:Nat) (L:List AV),i+r=21→r<m→Inv L→L.length≤71 * i→Ans F11 (fgraI2 q i L.length L m) v
 |0,i,m+1,L,hi,hm,hL,hl=>by
  have e:i=21:=by omega
  subst e
  exact K L m hL hl
 |r+1,i,m+1,L,hi,hm,hL,hl=>by
  have h:=fgra_step2 q i L.length L m
  rw[show ile 21 (i:Int)=false from ile_f (by omega),Bool.not_false,cond_true] at h
  have h3:=fgra_step3 q i L.length L 1048574 m
  have b2:Nat.ble L.length 1048576=true:=Nat.ble_eq_true_of_le (by omega)
  have hA:=inv_app hL (i:=i) (k:=0) (by omega) (by omega)
  rw[b1L,b2,cond_true,cond_true,wr_in (n:=400+(i:Int)) (by omega) (by omega),g50] at h3
  rw[show plO (AO.cells false (L++[AV.ifc 158 (AV.agg [AV.int IntKind.i64 (400+(i:Int)),AV.int IntKind.i64 (50+((0:Nat):Int))])]))=true from hA.pl,cond_true] at h3
  have k4:=col4 q i (by omega) m (fun L' hL' hl'=>col_out q K r (i+1) m L' (by omega) (by omega) hL' hl') 70 1 1048574 _ (by omega) (by omega) hA (by rw[List.length_append];simp;omega)
  rw[← len_app] at k4
  exact .stop (ZQ_ok _) F11sy h (.stop (ZQ_ok _) F11sy h3 k4)
theorem gra_col {v:AV} (q:Int) (h0:0≤q) (h1:q≤60000) (K:∀ L m,Inv L→L.length≤1491→Ans F11 (fgraI2 q ((21:Nat):Int) L.length L (m+1)) v):Ans F11 (startC F11 27 [tSt.av S0,tNi.av N0,.vs tRe true [],.int .i64 q] 40) v:=by
 have h:=fgrs_start q
 rw[ile_t h0,ile_t h1,Bool.not_true,cond_false,cond_false] at h
 have ha:=fgra_step0 q 1048574
 have k1:=col1 q 1048574 (fun L hL hl=>col_out q K 20 1 1048574 L (by omega) (by omega) hL (by omega)) 70 1 1048574 [sgC 400 50] (by omega) (by omega) inv_one (by simp)
 exact .stop (Z11_ok _) F11sy h (.stop (ZQ_ok _) F11sy (fgra_start q) (.stop (ZQ_ok _) F11sy ha k1))
theorem inv_pos {L:List AV} (h:Inv L):0<L.length:=by obtain⟨t,rfl⟩:=h.hd;simp
theorem isI_sg (c k:Int):isI 158 [AV.int IntKind.i64 0,AV.int IntKind.i64 0] (sgC c k)=true:=rfl
theorem sn7_all:((List.range 71).all fun k=>seenF 100 (50+(k:Int)) 49000000)=true:=by kernel_rfl
theorem lc1 {k:Nat} {q:Int} (hk:k≤70) (h1:0≤q) (h2:q≤7200000000):lcB 100 (50+(k:Int)) q=true:=lcB_iff.2 ⟨⟨by omega,by omega⟩,⟨by omega,by omega⟩,h1,h2⟩
theorem gra7_ans (L:List AV) (hL:Inv L) (hl:L.length≤1491) (m0:Nat):∀ (r j m M:Nat),j+r=L.length→r<m→Ans F11 (fgrbI0 7000 L.length L m0 j m (M+1)) (.tup [.int .i64 1,.int .i64 0])
 |0,j,m+1,M,hj,hm=>by
  have h:=fgrb_step0 7000 L.length L m0 j m M
  simp only[Int.ofNat_eq_natCast,ile_ge (show L.length≤j by omega),Bool.not_true,cond_false] at h
  exact .done (ZP_ok _) F11sy h rfl
 | r + 1, j, m + 1, M, hj, hm => by
  have h:=fgrb_step0 7000 L.length L m0 j m M
  have hlt:j<L.length:=by omega
  obtain⟨i,k,⟨hi,hk⟩,hx⟩:=hL.sg L[j] (List.getElem_mem hlt)
  have e1:L.getD (0+(j:Int).toNat * 1) AV.nili=sgC (400+(i:Int)) (50+(k:Int)):=by
   rw[← hx];simp[hlt]
  have e2:Nat.ble (0+(j:Int).toNat * 1+1) L.length=true:=Nat.ble_eq_true_of_le (by simp;omega)
  have e3:toI ((payI (sgC (400+(i:Int)) (50+(k:Int)))).getD (0+1) AV.nili)=50+(k:Int):=rfl
  have s1:seenF 100 (50+(k:Int)) 49000000=true:=List.all_eq_true.1 sn7_all k (List.mem_range.2 (by omega))
  have l1:=lc1 (q:=49000000) hk (by decide) (by decide)
  simp only[Int.ofNat_eq_natCast,ile_lt hlt,inB_at hlt,e1,e2,isI_sg,e3,show wr .i64 (7000 * 7000)=49000000 from rfl,lcO_eq,snO_eq,l1,s1,show plO (AO.cells false L)=true from hL.pl,wr_succ (show j<1048577 by omega),Bool.and_self,Bool.not_false,Bool.not_true,cond_true,cond_false] at h
  exact .stop (ZP_ok _) F11sy h (gra7_ans L hL hl m0 r (j+1) m M (by omega) (by omega))
theorem grb_go {q:Int} {L:List AV} (hL:Inv L) (m:Nat):adv F11 (ZP [79]) 20000 (fgraI2 q 21 L.length L (m+1))=some (.stop (fgrbI0 q L.length L m 0 1048575 1048575)):=by
 have h:=fgrb_start q L.length L m
 rw[show ieq (L.length:Int) 0=false by rw[ieq_iff];exact decide_eq_false (by have:=inv_pos hL;omega),cond_false,show plO (AO.cells false L)=true from hL.pl] at h
 exact h
theorem gra7:Ans F11 (startC F11 27 [tSt.av S0,tNi.av N0,.vs tRe true [],.int .i64 7000] 40) (.tup [.int .i64 1,.int .i64 0]):=
 gra_col 7000 (by decide) (by decide) (fun L m hL hl=>.stop (ZP_ok _) F11sy (grb_go hL m) (gra7_ans L hL hl m L.length 0 1048575 1048574 (by omega) (by omega)))
theorem sn1a:seenF 100 50 100020001=false:=by kernel_rfl
theorem sn1b:seenF 400 50 100020001=false:=by kernel_rfl
theorem gra1:Ans F11 (startC F11 27 [tSt.av S0,tNi.av N0,.vs tRe true [],.int .i64 10001] 40) (.tup [.int .i64 0,.int .i64 9]):=
 gra_col 10001 (by decide) (by decide) (fun L m hL hl=>by
  have hp:=inv_pos hL
  have h0:=fgrb_step0 10001 L.length L m ((0:Nat):Int) 1048574 1048574
  have h1:=fgrb_step1 10001 L.length L m ((0:Nat):Int) 1048574 1048573
  have e1:L.getD (0+((0:Nat):Int).toNat * 1) AV.nili=sgC 400 50:=by obtain⟨t,rfl⟩:=hL.hd;rfl
  have e2:Nat.ble (0+((0:Nat):Int).toNat * 1+1) L.length=true:=Nat.ble_eq_true_of_le (by simp;omega)
  have e3:toI ((payI (sgC 400 50)).getD (0+1) AV.nili)=50:=rfl
  have e4:toI ((payI (sgC 400 50)).getD 0 AV.nili)=400:=rfl
  have l1:lcB 100 50 100020001=true:=by kernel_rfl
  have l2:lcB 400 50 100020001=true:=by kernel_rfl
  simp only[Int.ofNat_eq_natCast,ile_lt hp,inB_at hp,e1,e2,isI_sg,e3,e4,show wr .i64 (10001 * 10001)=100020001 from rfl,lcO_eq,snO_eq,l1,l2,sn1a,sn1b,show plO (AO.cells false L)=true from hL.pl,Bool.and_self,Bool.not_false,cond_true] at h0 h1
  exact .stop (ZP_ok _) F11sy (grb_go hL m) (.stop (ZP_ok _) F11sy h0 (.done (ZP_ok _) F11sy h1 rfl)))
end Go.Proofs.YtjipgnghjbmlkaaGreatDoor


set_option maxRecDepth 100000
namespace Go.Proofs.YtjipgnghjbmlkaaGreatDoor
open Go Go.Eng
theorem con5_spec {E:Env} {f:Nat} {t u w s q:Ty} {c:t.den→u.den→w.den→s.den→q.den→Bool} {v:AV} (h:∀ x y z p o,c x y z p o=true→AnsF E f [t.av x,u.av y,w.av z,s.av p,q.av o] v) {args:List AV} {r:AV} (hc:con5 t u w s q c v args=some (true,r)):∃ args',TellsL args args'∧args'.all (closedA 9)=true∧AnsF E f args' r:=by
 unfold con5 at hc
 split at hc
 · split at hc
   · rename_i c1 x c2 y c3 z c4 p c5 o hx hy hz hp ho
     simp only[Option.some.injEq,Prod.mk.injEq,Bool.and_eq_true] at hc
     obtain⟨⟨⟨⟨⟨⟨rfl,rfl⟩,rfl⟩,rfl⟩,rfl⟩,hcc⟩,rfl⟩:=hc
     exact⟨[t.av x,u.av y,w.av z,s.av p,q.av o],.cons (rdA_spec _ hx) (.cons (rdA_spec _ hy) (.cons (rdA_spec _ hz) (.cons (rdA_spec _ hp) (.cons (rdA_spec _ ho) .nil)))),by simp[av_closed],h x y z p o hcc⟩
   · cases hc
 · cases hc
theorem eqS_eq {s:tSt.den} {n:tNi.den} (h:eqS s n=true):tSt.av s=tSt.av S0∧tNi.av n=tNi.av N0:=by
 unfold eqS at h
 rw[Bool.and_eq_true] at h
 exact⟨avbeq_eq _ _ h.1,avbeq_eq _ _ h.2⟩
theorem eqR_eq {l:(Ty.sl tRe).den} {b:Bool} {m:List tRe.den} (h:eqR l b m=true):(Ty.sl tRe).av l=.vs tRe b m:=avbeq_eq _ _ h
theorem LZ_ok:∀ e∈LZ,SaidG Tryz.prog F6.glob e:=
 saids_cons (SaidOK.g f6 xf6 nf6 tabs_ok.mix (fun _ _ h=>con2_spec (t:=tI) (u:=tI) (fun a b _=>newl_call a b) h) rfl)
 (saids_cons (SaidOK.g f6 xf6 nf6 tabs_ok.mix (fun _ _ h=>con1_spec (t:=tP) (fun l _=>numb_call l) h) rfl)
 (saids_cons (SaidOK.g f7 xf7 nf7 tabs_ok.mix (fun _ _ h=>con3_spec (t:=tSt) (u:=tNi) (w:=.sl tRe) (fun s n l hc=>by
   rw[Bool.and_eq_true] at hc
   rw[(eqS_eq hc.1).1,(eqS_eq hc.1).2,eqR_eq hc.2]
   exact Ans.call (n:=40) (ext_none (by kernel_rfl)) (hasB_spec (by kernel_rfl)) fclr_ans) h) rfl)
 (saids_cons (SaidOK.g f7 xf7 nf7 tabs_ok.mix (fun _ _ h=>con5_spec (t:=tSt) (u:=tNi) (w:=.sl tRe) (s:=tP) (q:=.bool) (fun s n l p o hc=>by
   simp only[Bool.and_eq_true] at hc
   obtain⟨⟨⟨h1,h2⟩,h3⟩,h4⟩:=hc
   rw[(eqS_eq h1).1,(eqS_eq h1).2,eqR_eq h2,avbeq_eq _ _ h3,show Ty.av .bool o=AV.bool false from avbeq_eq _ _ h4]
   exact Ans.call (n:=40) (ext_none (by kernel_rfl)) (hasB_spec (by kernel_rfl)) fcou_ans) h) rfl)
 (saids_cons (SaidOK.g f6 xf6 nf6 tabs_ok.mix (fun _ _ h=>con3_spec (t:=tSt) (u:=tNi) (w:=.sl tRe) (fun s n l hc=>by
   rw[Bool.and_eq_true] at hc
   rw[(eqS_eq hc.1).1,(eqS_eq hc.1).2,eqR_eq hc.2]
   exact Ans.call (n:=40) (ext_none (by kernel_rfl)) (hasB_spec (by kernel_rfl)) ffar_ans) h) rfl)
 (saids_cons (SaidOK.g f8 xf8 nf8 tabs_ok.mix (fun _ _ h=>con3_spec (t:=tSt) (u:=tNi) (w:=.sl tRe) (fun s n l hc=>by
   rw[Bool.and_eq_true] at hc
   rw[(eqS_eq hc.1).1,(eqS_eq hc.1).2,eqR_eq hc.2]
   exact Ans.call (n:=40) (ext_none (by kernel_rfl)) (hasB_spec (by kernel_rfl)) ffal_ans) h) rfl)
 (saids_cons (SaidOK.g f11 xf11 nf11 tabs_ok.mix (fun _ _ h=>con4_spec (t:=tSt) (u:=tNi) (w:=.sl tRe) (s:=tI) (fun s n l q hc=>by
   simp only[Bool.and_eq_true,Bool.or_eq_true] at hc
   obtain⟨⟨h1,h2⟩,h3⟩:=hc
   rw[(eqS_eq h1).1,(eqS_eq h1).2,eqR_eq h2]
   rcases h3 with h3|h3
   · have e := ieq_t h3
     subst e
     exact Ans.call (n:=40) (ext_none (by kernel_rfl)) (hasB_spec (by kernel_rfl)) gra7
   · have e := ieq_t h3
     subst e
     exact Ans.call (n:=40) (ext_none (by kernel_rfl)) (hasB_spec (by kernel_rfl)) gra1) h) rfl) saids_nil))))))
theorem f9:EnvOK Tryz.prog F9:=f6.say _
theorem xA:ExtOK Tryz.prog EA:=xf6.sayL LZ_ok
theorem kn_true:isTrueT EA [] 40 22=true:=by kernel_rfl
theorem f10:EnvOK Tryz.prog F10:=f9.say _
end Go.Proofs.YtjipgnghjbmlkaaGreatDoor


set_option maxRecDepth 100000
namespace Go.Proofs.YtjipgnghjbmlkaaGreatDoor
open Go Go.Eng
noncomputable def intzI0 (a b:(Ty.sl tI).den) (x5:Int) (x26:Nat):Cfg:=⟨.ex (pcOf H7 21 [0,0,1,0,1,1]) ⟨(tmOf 26 [(0,(.vs tI (a.1) (a.2))),(1,(.vs tI (b.1) (b.2))),(4,(.bool (false))),(5,(.int .i64 x5)),(6,(.vs tI (a.1) (a.2))),(7,(.int .i64 (Int.ofNat a.2.length))),(8,(.vs tI (b.1) (b.2))),(9,(.int .i64 (Int.ofNat b.2.length))),(10,(.bool (false)))]),(hpOf 0 []),[],[],26,false⟩,⟨6,[]⟩,[(.lop (pcOf H7 21 [0,0,1,0,1,1]) 0 (tmOf 26 [(0,(.vs tI (a.1) (a.2))),(1,(.vs tI (b.1) (b.2))),(4,(.bool (false))),(5,(.int .i64 (0))),(6,(.vs tI (a.1) (a.2))),(7,(.int .i64 (Int.ofNat a.2.length))),(8,(.vs tI (b.1) (b.2))),(9,(.int .i64 (Int.ofNat b.2.length))),(10,(.bool (false)))]) x26),(.blk 0),(.seq (pcOf H7 21 [1,1,1])),(.cal [(.tmp 4)] .top)]⟩
theorem intz_start (a b:(Ty.sl tI).den):adv H7 (Y7 [21]) 20000 (startC H7 21 [.vs tI a.1 a.2,.vs tI b.1 b.2] 6)=(bif !ieq ↑a.2.length ↑b.2.length then some (.done (.bool (false))) else some (.stop (intzI0 a b (0) (1048575)))):=by kernel_rfl
theorem intz_step0 (a b:(Ty.sl tI).den) (x5:Int) (x26:Nat):adv H7 (Y7 [21]) 20000 (intzI0 a b x5 (x26+1))=(bif !ile (↑a.2.length) x5 then (bif inB x5 a.2.length then (bif inB x5 b.2.length then (bif !ieq (a.2.getD x5.toNat tI.dflt) (b.2.getD x5.toNat tI.dflt) then some (.done (.bool (false))) else some (.stop (intzI0 a b (wr .i64 (x5+1)) (x26)))) else none) else none) else some (.done (.bool (true)))):=by kernel_rfl
theorem intz_ans (a b:(Ty.sl tI).den) (hl:a.2.length<1048576) (he:a.2.length=b.2.length):∀ (r k m:Nat),k+r=a.2.length→r<m→(∀ i,i<a.2.length→a.2.getD i tI.dflt=b.2.getD i tI.dflt)→Ans H7 (intzI0 a b k m) (.bool true)
 |0,k,m+1,hk,hm,hs=>by
  have h:=intz_step0 a b k m
  simp only[ile_ge (show a.2.length≤k by omega),Bool.not_true,cond_false] at h
  exact .doneB (Y7_ok _) H7sy h rfl
 |r+1,k,m+1,hk,hm,hs=>by
  have h:=intz_step0 a b k m
  have e:(k:Int).toNat=k:=by simp
  simp only[ile_lt (show k<a.2.length by omega),inB_at (show k<a.2.length by omega),inB_at (show k<b.2.length by omega),e,wr_succ (show k<1048577 by omega),Bool.not_false,cond_true,hs k (by omega),ieq_self,Bool.not_true,cond_false] at h
  exact .stop (Y7_ok _) H7sy h (intz_ans a b hl he r (k+1) m (by omega) (by omega) hs)
noncomputable def eqI:List Int→List Int→Bool
 |[],[]=>true
 |a::l,b::m=>ieq a b&&eqI l m
 |[],_::_=>false
 |_::_,[]=>false
theorem eqI_eq:∀ {l m:List Int},eqI l m=true→l=m
 |[],[],_=>rfl
 |a::l,b::m,h=>by
  rw[eqI,Bool.and_eq_true] at h
  rw[ieq_t h.1,eqI_eq h.2]
 |[],_::_,h=>by cases h
 |_::_,[],h=>by cases h
theorem eqI_self:∀ l:List Int,eqI l l=true
 |[]=>rfl
 |a::l=>by rw[eqI,ieq_self,eqI_self l];rfl
noncomputable def ltq (a b:List Int):Bool:=Nat.ble a.length 1000&&eqI a b
theorem intz_call (a b:(Ty.sl tI).den) (hc:ltq a.2 b.2=true):AnsF H7 21 [.vs tI a.1 a.2,.vs tI b.1 b.2] (.bool true):=by
 unfold ltq at hc
 rw[Bool.and_eq_true] at hc
 have hl:=Nat.le_of_ble_eq_true hc.1
 have he:=eqI_eq hc.2
 obtain⟨a1,a2⟩:=a
 obtain⟨b1,b2⟩:=b
 have e:a2=b2:=he
 subst e
 refine Ans.call (n:=6) (ext_none (by kernel_rfl)) (hasB_spec (by kernel_rfl)) ?_
 have h:=intz_start (a1,a2) (b1,a2)
 have hl:a2.length≤1000:=hl
 simp only[ieq_self,Bool.not_true,cond_false] at h
 exact .stop (Y7_ok _) H7sy h (intz_ans (a1,a2) (b1,a2) (show a2.length<_ by omega) rfl a2.length 0 1048575 (by show 0+a2.length=a2.length;omega) (by omega) (fun i _=>rfl))
abbrev Q5:=Int×Int×Int×Int×Int
noncomputable def clrQ (s:tSt.den) (n:tNi.den) (l:List tRe.den):Q5:=bif ieq (cknS s n l).2 0 then (let t:=(trL s n l).foldl mt6 (0,0,false,0,0,false);(t.1,t.2.1,t.2.2.2.1,t.2.2.2.2.1,bif t.2.2.1 then 0 else 9)) else (0,0,0,0,(cknS s n l).2)
noncomputable def clrW (q:Q5):AV:=.tup [.agg [.int .i64 q.1,.int .i64 q.2.1],.agg [.int .i64 q.2.2.1,.int .i64 q.2.2.2.1],.int .i64 q.2.2.2.2]
theorem clrS_eq (s:tSt.den) (n:tNi.den) (l:List tRe.den):clrS s n l=clrW (clrQ s n l):=by
 unfold clrS clrQ
 cases ieq (cknS s n l).2 0<;>rfl
abbrev Q4:=Int×Int×List Int×Int
noncomputable def wndQ (s:tSt.den) (n:tNi.den) (l:List tRe.den):Q4:=bif ieq (cknS s n l).2 0 then (let x:=(trT s n l true).foldl mtW wnd0;(x.1.1,x.1.2.1,outG x.2 0 32,bif x.1.2.2 then 0 else 9)) else (0,0,[],(cknS s n l).2)
noncomputable def wndW (q:Q4):AV:=wtup q.1 q.2.1 q.2.2.1 q.2.2.2
theorem wndS_eq (s:tSt.den) (n:tNi.den) (l:List tRe.den):wndS s n l=wndW (wndQ s n l):=by
 unfold wndS wndQ
 cases ieq (cknS s n l).2 0<;>rfl
theorem outG_len (B:List Bool):∀ (r k:Nat),(outG B k r).length≤r
 |0,_=>Nat.le_refl _
 |r+1,k=>by
  rw[outG]
  have:=outG_len B r (k+1)
  cases B.getD k false with
  |false=>rw[cond_false];omega
  |true=>rw[cond_true,List.length_cons];omega
theorem wndQ_len (s:tSt.den) (n:tNi.den) (l:List tRe.den):(wndQ s n l).2.2.1.length≤32:=by
 unfold wndQ
 cases ieq (cknS s n l).2 0 with
 |false=>exact Nat.zero_le _
 |true=>exact outG_len _ 32 0
noncomputable def LL:List Said:=[(17,con3 tSt tNi (.sl tRe) (fun _ _ _=>true) (fun s n l=>clrW (clrQ s n l.2))),(18,con3 tSt tNi (.sl tRe) (fun _ _ _=>true) (fun s n l=>clrW (clrQ s n l.2))),
 (19,con3 tSt tNi (.sl tRe) (fun _ _ _=>true) (fun s n l=>wndW (wndQ s n l.2))),(20,con3 tSt tNi (.sl tRe) (fun _ _ _=>true) (fun s n l=>wndW (wndQ s n l.2))),
 (21,con2 (.sl tI) (.sl tI) (fun a b=>ltq a.2 b.2) (fun _ _=>.bool true)),(22,say0 (.bool true))]
theorem LL_ok:∀ e∈LL,SaidG Tryz.prog H7.glob e:=
 saids_cons (SaidOK.g f6 xf6 nf6 tabs_ok.mix (fun _ _ h=>con3_spec (t:=tSt) (u:=tNi) (w:=.sl tRe) (fun s n l _=>by rw[← clrS_eq];exact pclr_call s n l) h) rfl)
 (saids_cons (SaidOK.g h7 xh7 nh7 tabs_ok.mix (fun _ _ h=>con3_spec (t:=tSt) (u:=tNi) (w:=.sl tRe) (fun s n l _=>by rw[← clrS_eq];exact rclr_call s n l) h) rfl)
 (saids_cons (SaidOK.g f6 xf6 nf6 tabs_ok.mix (fun _ _ h=>con3_spec (t:=tSt) (u:=tNi) (w:=.sl tRe) (fun s n l _=>by rw[← wndS_eq];exact pwnd_call s n l) h) rfl)
 (saids_cons (SaidOK.g h7 xh7 nh7 tabs_ok.mix (fun _ _ h=>con3_spec (t:=tSt) (u:=tNi) (w:=.sl tRe) (fun s n l _=>by rw[← wndS_eq];exact rwnd_call s n l) h) rfl)
 (saids_cons (SaidOK.g h7 xh7 nh7 tabs_ok.mix (fun _ _ h=>con2_spec (t:=.sl tI) (u:=.sl tI) (fun a b hc=>intz_call a b hc) h) rfl)
 (saids_cons (XG.g (XG.closedT eA xA nA tabs_ok.mix ents_nil kn_true) rfl) saids_nil)))))
noncomputable def H8:Env:=H7.say (under (xOf LL))
theorem h8:EnvOK Tryz.prog H8:=h7.say _
theorem nh8:NameOK H8:=nh7.say _
theorem xh8:ExtOK Tryz.prog H8:=xh7.sayL LL_ok
theorem H8sy:H8.sy=true:=rfl
noncomputable def Y8 (l:List Nat):Sy:=(Y7 []).on LL l
theorem Y8_ok (l:List Nat):(Y8 l).ok H8:=Sy.on_ok (Y7_ok _)
end Go.Proofs.YtjipgnghjbmlkaaGreatDoor


set_option maxRecDepth 100000
namespace Go.Proofs.YtjipgnghjbmlkaaGreatDoor
open Go Go.Eng
theorem lcle_start (s:tSt.den) (n:tNi.den) (l:(Ty.sl tRe).den):adv H8 (Y8 []) 20000 (startC H8 3 [tSt.av s,tNi.av n,.vs tRe l.1 l.2] 40)=(bif !ieq (staS s).1 (staS s).1 then some (.done (.bool (false))) else (bif !ieq (staS s).2.1 (staS s).2.1 then some (.done (.bool (false))) else (bif !ieq (staS s).2.2 (staS s).2.2 then some (.done (.bool (false))) else (bif !ieq (cknS s n l.2).1 (cknS s n l.2).1 then some (.done (.bool (false))) else (bif !ieq (cknS s n l.2).2 (cknS s n l.2).2 then some (.done (.bool (false))) else (bif !(ieq (clrQ s n l.2).1 (clrQ s n l.2).1&&(ieq (clrQ s n l.2).2.1 (clrQ s n l.2).2.1&&true)) then some (.done (.bool (false))) else (bif !(ieq (clrQ s n l.2).2.2.1 (clrQ s n l.2).2.2.1&&(ieq (clrQ s n l.2).2.2.2.1 (clrQ s n l.2).2.2.2.1&&true)) then some (.done (.bool (false))) else (bif !ieq (clrQ s n l.2).2.2.2.2 (clrQ s n l.2).2.2.2.2 then some (.done (.bool (false))) else (bif ieq (wndQ s n l.2).1 (wndQ s n l.2).1&&(ieq (wndQ s n l.2).2.1 (wndQ s n l.2).2.1&&true) then (bif ltq (wndQ s n l.2).2.2.1 (wndQ s n l.2).2.2.1 then (bif ieq (wndQ s n l.2).2.2.2 (wndQ s n l.2).2.2.2 then some (.done (.bool (true))) else some (.done (.bool (false)))) else none) else some (.done (.bool (false)))))))))))):=by kernel_rfl
theorem cle_true (s:tSt.den) (n:tNi.den) (l:(Ty.sl tRe).den):∃ σ,callN H8 (40+1) 3 [tSt.av s,tNi.av n,(Ty.sl tRe).av l] .empty [] []=some (.bool true,σ,[]):=by
 refine AnsB.call (ext_none (by kernel_rfl)) (hasB_spec (by kernel_rfl)) ?_
 have h:=lcle_start s n l
 have hq:ltq (wndQ s n l.2).2.2.1 (wndQ s n l.2).2.2.1=true:=by
  unfold ltq
  have:=wndQ_len s n l.2
  rw[Nat.ble_eq_true_of_le (by omega),eqI_self];rfl
 simp only[ieq_self,hq,Bool.not_true,cond_true,cond_false,Bool.and_true] at h
 exact .doneB (Y8_ok _) H8sy h rfl
end Go.Proofs.YtjipgnghjbmlkaaGreatDoor


namespace Go.Proofs.YtjipgnghjbmlkaaGreatDoor
open Go Go.ChangeShapes Go.WideShapes Go.Eng
theorem kOwn:ownKnob Tryz.prog.godebug=none:=by kernel_rfl
theorem kPlain:(Rows.airClearsRow.laid.all fun x=>x.2.handleName?.isNone)=true:=by kernel_rfl
theorem kLaid:allT (glB Tryz.prog Rows.airClearsRow.laid) T0.gl (fun k=>k)=true:=by kernel_rfl
theorem kParams:Tryz.f3.params=#[26,30,31]:=by kernel_rfl
theorem kResults:Tryz.f3.resultTypes=#[4]:=by kernel_rfl
theorem kLaidOut:laidOutB Tryz.prog=true:=by kernel_rfl
theorem kRead:Tryz.f3.params.toList.all (fun t=>Tryz.prog.readableRec t&&decide (t<Tryz.prog.types.size))=true:=by kernel_rfl
theorem kFit1:fits Tryz.prog (tSt) 26=true:=by kernel_rfl
theorem kFit2:fits Tryz.prog (tNi) 30=true:=by kernel_rfl
theorem kFit3:fits Tryz.prog (Ty.sl tRe) 31=true:=by kernel_rfl
theorem kGlob:H8.glob=T0.gl.get:=rfl
theorem kExt (c1:(tSt).den) (c2:(tNi).den) (c3:(Ty.sl tRe).den):H8.ext 3 [tSt.av c1,tNi.av c2,(Ty.sl tRe).av c3]=none:=ext_none (by kernel_rfl)
set_option maxRecDepth 100000 in
theorem kLifted (os:Os) (started:os.Started) (H:Type) (enc:TypeId×Value→H) :
  ReturnsInHanded {} Tryz.checked os 3 .any (fun w args=>(Rows.airClearsSpec.pre enc Tryz.prog Tryz.f3 [] false w args∧laidMetH Tryz.prog Rows.airClearsRow.laid w)∧sizedMet enc Tryz.prog Tryz.f3 (OpenSpec.ofChange Rows.airClearsSpec) false w args)
   (Rows.airClearsSpec.post enc Tryz.prog Tryz.f3 false true false false):=by
 refine returnsInHanded_of_change_and (C:=Tryz.checked) (X:=fun w _=>laidMetH Tryz.prog Rows.airClearsRow.laid w) (fun _ _ _ hh h=>h.of_heap hh) kOwn started (by kernel_rfl) Tryz.func3
  (ChangeSpec.witness_shaped (enc := enc) (C := Tryz.checked) (os := os) (X := fun w _ => laidMetH Tryz.prog Rows.airClearsRow.laid w) false (World.laidAll Tryz.prog os Rows.airClearsRow.laid) #[.agg #[.slice none 0 0, .int .i64 0, .int .i64 0, .int .i64 0, .int .i64 0], .agg #[.int .i64 0, .int .i64 0, .int .i64 0, .int .i64 0, .int .i64 0], .slice none 0 0] 8 (World.laidAll_os _ _ _)
   (World.shaped_of_ZipB (by kernel_rfl) (by kernel_rfl)) (by kernel_rfl) (by kernel_rfl) (by kernel_rfl)
   (by rw[MakeChecks.laidMetH_plain _ _ _ kPlain];exact laidMet_laidAll _ (by kernel_rfl) (by kernel_rfl))) ?_
 intro W base args ds gs before hok hW _ _ hL _
 have hL':laidMet Tryz.prog Rows.airClearsRow.laid W:=by rw[← MakeChecks.laidMetH_plain _ _ _ kPlain];exact hL
 have hW':=hW
 obtain⟨p,q,hA,_⟩:=hW
 rw[kParams] at hA
 obtain⟨v1,v2,v3,d1,d2,d3,p1,p2,p3,e1',e2',hp,t1,t2,t3⟩:=trodAll_three hA
 subst e1';subst e2'
 rw[kParams] at hok
 obtain⟨c1,h1,w1⟩:=arg_ty (t:=tSt) (hok 0 26 v1 rfl rfl) kFit1 t1
 obtain⟨c2,h2,w2⟩:=arg_ty (t:=tNi) (hok 1 30 v2 rfl rfl) kFit2 t2
 obtain⟨c3,h3,w3⟩:=arg_ty (t:=Ty.sl tRe) (hok 2 31 v3 rfl rfl) kFit3 t3
 obtain⟨σ,hrun⟩:=cle_true c1 c2 c3
 refine (law_run (A:=[v1,v2,v3]) (V:=Go.Eng.seen W) h8 xh8 nh8 tabs_ok.mix (kExt c1 c2 c3) hrun (.cons h1 (.cons h2 (.cons h3 (.nil _)))) (by kernel_rfl) (fun _ _ _ h=>h) (glob_of kGlob kLaid hL')).mono fun e W' ⟨he,hf⟩=>?_
 subst he
 exact⟨_,rfl,post_law kLaidOut kRead kResults Tryz.underlying4 rfl rfl hW' hf⟩
theorem kHolds:Rows.AirClearsSaid:=
 OpenClaim.holds_of_wide 3 Tryz.f3 rfl rfl rfl rfl rfl rfl rfl ⟨rfl,rfl,rfl,rfl,rfl⟩ rfl rfl rfl rfl rfl (by kernel_rfl) Tryz.func3 (by kernel_rfl)
  (of_decide_eq_true (by kernel_rfl)) (by unfold Func.isWrapper;first|(rw[if_pos (by decide +kernel)];kernel_rfl)|(rw[if_neg (by decide +kernel)];exact⟨rfl,rfl⟩))
  (fun os started H enc _=>kLifted os started H enc)
theorem airClears_holds:Rows.AirClearsCardSaid:=
 Claim7.holds_tied_plain_at .later [] Rows.airClearsCard.laidKinds true Rows.airClearsCard.stood.harness false
  kHolds (fun _ h=>by cases h) (by kernel_rfl) (fun _ h=>by cases h) airClears_row_tie rfl ⟨rfl,rfl⟩ (by kernel_rfl) rfl
  (fun f fn hf hfn => by
   obtain rfl : f = 3 := Option.some.inj ((show Tryz.prog.funcNamed "nore/norelaw06.AirClears" = some 3 by kernel_rfl).symm.trans hf) |>.symm
   obtain rfl:fn=Tryz.f3:=(Option.some.inj (Tryz.func3.symm.trans hfn)).symm
   exact⟨by kernel_rfl,fun j t ht=>by
    rw[kParams] at ht
    rcases j with _|_|_|j<;>simp at ht<;>subst ht<;>kernel_rfl⟩)
  (by kernel_rfl)
#print axioms airClears_holds
end Go.Proofs.YtjipgnghjbmlkaaGreatDoor

