/-
  What is proved: norelaw08.StoreConserved returns true for all stores, truths and days. Conditions: none.
-/
import Derived.Test.YtelibdeanepdjaaGreatPart07
import Derived.Test.YtelibdeanepdjaaGreatPart08
import Derived.Test.YtelibdeanepdjaaGreatPart09
import Derived.Test.YtelibdeanepdjaaGreatPart10
import Derived.Test.YtelibdeanepdjaaGreatPart11
import Derived.Test.YtelibdeanepdjaaGreatPart12
import Derived.Test.YtelibdeanepdjaaGreatPart13
import Derived.Test.YtelibdeanepdjaaGreatPart15
import Derived.Test.YtelibdeanepdjaaGreatPart16
import Derived.Test.YtelibdeanepdjaaGreatPart17
import Derived.Test.YtelibdeanepdjaaGreatPart04
import Derived.Test.YtelibdeanepdjaaGreatPart05
import Derived.Test.YtelibdeanepdjaaGreatRows
import Derived.ProofKit
import Derived.LaidMore
import Derived.OpenShut
import Derived.Stop.Joined
import Derived.Lay
import Derived.SevenTiedAt
set_option linter.unusedSectionVars false
set_option linter.unusedSimpArgs false
set_option linter.unusedVariables false
set_option maxRecDepth 100000
namespace Go.Proofs.YtelibdeanepdjaaGreat
open Go Go.Eng
noncomputable def L3:List Ent:=[c0,c1,c2,c3,c4,c5,c6,c7,c8,c9,c10,c11,c12]
theorem l3:∀ e∈L3,EntOK Tryz.prog E1 e:=ents_cons o0 (ents_cons o1 (ents_cons o2 (ents_cons o3 (ents_cons o4 (ents_cons o5 (ents_cons o6 (ents_cons o7 (ents_cons o8 (ents_cons o9 (ents_cons o10 (ents_cons o11 (ents_cons o12 (ents_nil)))))))))))))
end Go.Proofs.YtelibdeanepdjaaGreat


set_option maxRecDepth 100000
namespace Go.Proofs.YtelibdeanepdjaaGreat
open Go Go.Eng
theorem kn_true:isTrueT E1 L3 40 12=true:=by kernel_rfl
end Go.Proofs.YtelibdeanepdjaaGreat


set_option maxRecDepth 100000
namespace Go.Proofs.YtelibdeanepdjaaGreat
open Go Go.Eng
theorem LJ_ok:∀ e∈LJ,SaidG Tryz.prog F9.glob e:=
 saids_cons (SaidOK.g f6 xf6 nf6 tabs_ok.mix (fun _ _ h=>conP1_spec (t:=tQ) (fun d h=>plea_call d h) h) rfl) saids_nil
theorem xf10:ExtOK Tryz.prog F10:=xf9.sayL LJ_ok
theorem LK_ok:∀ e∈LK,SaidG Tryz.prog F10.glob e:=
 saids_cons (SaidOK.g f10 xf10 nf10 tabs_ok.mix (fun _ _ h=>con4_spec (t:=tS) (u:=tI) (w:=tT) (s:=tI) (fun s k t n _=>pmor_call s k t n) h) rfl)
 (saids_cons (SaidOK.g f9 xf9 nf9 tabs_ok.mix (fun _ _ h=>con4_spec (t:=tS) (u:=tI) (w:=tT) (s:=tI) (fun s k t n _=>rmor_call s k t n) h) rfl)
 (saids_cons (SaidOK.g f9 xf9 nf9 tabs_ok.mix (fun _ _ h=>con2_spec (t:=.sl tI) (u:=.sl tI) (fun a b h=>intz_call a b h) h) rfl)
 (saids_cons (XG.g (XG.closedT e1 x1 n1 tabs_ok.mix l3 kn_true) rfl) saids_nil)))
theorem xf11:ExtOK Tryz.prog F11:=xf10.sayL LK_ok
end Go.Proofs.YtelibdeanepdjaaGreat


set_option maxRecDepth 100000
namespace Go.Proofs.YtelibdeanepdjaaGreat
open Go Go.Eng
theorem sval_start (s:tS.den):adv F9 (Z9 []) 3000 (startC F9 23 [tS.av s] 40)=some (.done (.bool (ieq (chkS s).2.2 0))):=by kernel_rfl
theorem sany_start (k:tK.den) (b1 b2 b3:Int):adv F12 (Z12 []) 3000 (startC F12 24 [tK.av k,.agg [.int .u16 b1,.int .u16 b2,.int .u16 b3]] 40)=(bif ieq (wr .i64 (wr .i64 (k.2.1.2.1-k.2.1.1)+1)) 0 then none else (bif ieq (wr .i64 (wr .i64 (k.2.2.1.2.1-k.2.2.1.1)+1)) 0 then none else (bif ieq (wr .i64 (wr .i64 (k.2.2.2.1.2.1-k.2.2.2.1.1)+1)) 0 then none else (bif ieq (wr .i64 b3) (wr .i64 b3) then (bif ieq (wr .i64 b3) (wr .i64 b3) then (bif ieq (wr .i64 b3) (wr .i64 b3) then (bif ieq b3 b3 then (bif ieq b3 b3 then (bif ieq b3 b3 then (bif ieq k.2.2.2.1.1 k.2.2.2.1.1 then (bif ieq k.2.2.2.1.2.1 k.2.2.2.1.2.1 then (bif ieq k.2.2.2.1.1 k.2.2.2.1.1 then (bif ieq k.2.2.2.1.2.1 k.2.2.2.1.2.1 then (bif ieq k.2.2.2.1.1 k.2.2.2.1.1 then (bif ieq k.2.2.2.1.2.1 k.2.2.2.1.2.1 then (bif ieq (wr .i64 b2) (wr .i64 b2) then (bif ieq (wr .i64 b2) (wr .i64 b2) then (bif ieq b2 b2 then (bif ieq b2 b2 then (bif ieq k.2.2.1.1 k.2.2.1.1 then (bif ieq k.2.2.1.2.1 k.2.2.1.2.1 then (bif ieq k.2.2.1.1 k.2.2.1.1 then (bif ieq k.2.2.1.2.1 k.2.2.1.2.1 then (bif ieq (wr .i64 b1) (wr .i64 b1) then (bif ieq b1 b1 then (bif ieq k.2.1.1 k.2.1.1 then (bif ieq k.2.1.2.1 k.2.1.2.1 then some (.done (.agg [(.int .i64 (wr .i64 (k.2.1.1+(wr .i64 b1).tmod (wr .i64 (wr .i64 (k.2.1.2.1-k.2.1.1)+1))))),(.int .i64 (wr .i64 (k.2.2.1.1+(wr .i64 b2).tmod (wr .i64 (wr .i64 (k.2.2.1.2.1-k.2.2.1.1)+1))))),(.int .i64 (wr .i64 (k.2.2.2.1.1+(wr .i64 b3).tmod (wr .i64 (wr .i64 (k.2.2.2.1.2.1-k.2.2.2.1.1)+1)))))])) else none) else none) else none) else none) else none) else none) else none) else none) else none) else none) else none) else none) else none) else none) else none) else none) else none) else none) else none) else none) else none) else none) else none) else none)))):=by kernel_rfl
theorem LM2_ok:∀ e∈LM2,SaidG Tryz.prog F11.glob e:=
 saids_cons (SaidOK.g f9 xf9 nf9 tabs_ok.mix (fun _ _ h=>con4_spec (t:=tS) (u:=tI) (w:=tT) (s:=tI) (fun s k t n h=>by
  rw[Bool.and_eq_true] at h
  exact flw_call n (st_ok h.1) (tok h.2)) h) rfl) saids_nil
theorem xf12:ExtOK Tryz.prog F12:=xf11.sayL LM2_ok
noncomputable def amoS (lo hi n:Int):Int:=wr .i64 (lo+(wr .i64 n).tmod (wr .i64 (wr .i64 (hi-lo)+1)))
noncomputable def anyS (k:tK.den) (x:tX.den):tT.den:=(amoS k.2.1.1 k.2.1.2.1 x.1,amoS k.2.2.1.1 k.2.2.1.2.1 x.2.1,amoS k.2.2.2.1.1 k.2.2.2.1.2.1 x.2.2.1,())
theorem amo_n {lo hi:Int} (h0:0≤lo) (h1:lo≤hi) (h2:hi≤300):ieq (wr .i64 (wr .i64 (hi-lo)+1)) 0=false:=by
 rw[wr_in (n:=hi-lo) (by omega) (by omega),wr_in (by omega) (by omega),ieq_iff]
 exact decide_eq_false (by omega)
theorem amo_in {lo hi n:Int} (h0:0≤lo) (h1:lo≤hi) (h2:hi≤300) (n0:0≤n) (n1:n≤65535):lo≤amoS lo hi n∧amoS lo hi n≤hi:=by
 unfold amoS
 rw[wr_in (n:=hi-lo) (by omega) (by omega),wr_in (n:=hi-lo+1) (by omega) (by omega),wr_in (n:=n) (by omega) (by omega),Int.tmod_eq_emod_of_nonneg n0]
 have a:=Int.emod_nonneg n (show hi-lo+1≠0 by omega)
 have b:=Int.emod_lt_of_pos n (show 0<hi-lo+1 by omega)
 rw[wr_in (by omega) (by omega)]
 exact⟨by omega,by omega⟩
theorem any_call (k:tK.den) (x:tX.den) (h:(kA k&&kL k)=true):AnsF F12 24 [tK.av k,tX.av x] (tT.av (anyS k x)):=by
 refine Ans.call (n:=40) (ext_none (by kernel_rfl)) (hasB_spec (by kernel_rfl)) ?_
 rw[Bool.and_eq_true] at h
 obtain⟨hA,hL⟩:=h
 unfold kA at hA
 unfold kL at hL
 simp only[Bool.and_eq_true] at hA hL
 obtain⟨a1,a2,a3,a4,a5,a6,a7,a8,a9,a10,a11,a12,a13,a14,a15,a16⟩:=hA
 obtain⟨l1,l2,l3⟩:=hL
 have i1:=ile_le a1;have i4:=ile_le a4;have i7:=ile_le a7;have i10:=ile_le a10;have i11:=ile_le a11;have i14:=ile_le a14
 have j1:=ile_le l1;have j2:=ile_le l2;have j3:=ile_le l3
 have h:=sany_start k x.1 x.2.1 x.2.2.1
 rw[amo_n i1 j1 i4,amo_n i7 j2 (Int.le_trans i10 (by decide)),amo_n i11 j3 (Int.le_trans i14 (by decide))] at h
 simp only[cond_false,ieq_self,cond_true] at h
 exact .done (Z12_ok _) F12sy h rfl
noncomputable def LN2:List Said:=[(24,con2 tK tX (fun k _=>kA k&&kL k) (fun k x=>tT.av (anyS k x))),(23,con1 tS (fun _=>true) (fun s=>.bool (ieq (chkS s).2.2 0)))]
theorem val_call (s:tS.den):AnsF F9 23 [tS.av s] (.bool (ieq (chkS s).2.2 0)):=by
 refine Ans.call (n:=40) (ext_none (by kernel_rfl)) (hasB_spec (by kernel_rfl)) ?_
 exact .doneB (Z9_ok _) F9sy (sval_start s) rfl
theorem LN2_ok:∀ e∈LN2,SaidG Tryz.prog F12.glob e:=
 saids_cons (SaidOK.g f12 xf12 nf12 tabs_ok.mix (fun _ _ h=>con2_spec (t:=tK) (u:=tX) (fun k x h=>any_call k x h) h) rfl)
 (saids_cons (SaidOK.g f9 xf9 nf9 tabs_ok.mix (fun _ _ h=>con1_spec (t:=tS) (fun s _=>val_call s) h) rfl) saids_nil)
noncomputable def F13:Env:=F12.say (under (xOf LN2))
theorem f13:EnvOK Tryz.prog F13:=f12.say _
theorem nf13:NameOK F13:=nf12.say _
theorem xf13:ExtOK Tryz.prog F13:=xf12.sayL LN2_ok
theorem F13sy:F13.sy=true:=rfl
noncomputable def Z13 (l:List Nat):Sy:=(Z12 []).on LN2 l
theorem Z13_ok (l:List Nat):(Z13 l).ok F13:=Sy.on_ok (Z12_ok _)
end Go.Proofs.YtelibdeanepdjaaGreat


set_option maxRecDepth 100000
namespace Go.Proofs.YtelibdeanepdjaaGreat
open Go Go.Eng
noncomputable def cK (s:tS.den) (a:Int):Int:=(wr .i64 a).tmod (s.2.1.2.length:Int)
noncomputable def cT (s:tS.den) (a b1 b2 b3:Int):tT.den:=anyS (s.2.1.2.getD (cK s a).toNat tK.dflt) (b1,b2,b3,())
noncomputable def cN (s:tS.den) (y:Int):Int:=(wr .i64 y).tmod (wr .i64 ((s.1.2.length:Int)+1))
noncomputable def cB (t u:tT.den):tT.den:=(bif ile u.1 t.1 then t.1 else u.1,bif ile t.2.1 u.2.1 then t.2.1 else u.2.1,bif ile t.2.2.1 u.2.2.1 then t.2.2.1 else u.2.2.1,())
end Go.Proofs.YtelibdeanepdjaaGreat


set_option maxRecDepth 100000
namespace Go.Proofs.YtelibdeanepdjaaGreat
open Go Go.Eng
noncomputable def lcong0 (s:tS.den) (a:Int) (b1:Int) (b2:Int) (b3:Int) (w:Bool) (l:List Int) (y0:Int) (y1:Int) (y2:Int) (y3:Int):List (Nat×AV):=[(0,(.agg [(.vs tI (s.1.1) (s.1.2)),(.vs tK (s.2.1.1) (s.2.1.2)),(.vs tC (s.2.2.1.1) (s.2.2.1.2))])),(1,(.agg [(.int .u8 (a)),(.int .u16 (b1)),(.int .u16 (b2)),(.int .u16 (b3)),(.vs (.int .u8) (w) (l))])),(2,(.agg [(.int .u16 (y0)),(.int .u16 (y1)),(.int .u16 (y2)),(.int .u16 (y3))])),(3,(.ptr 0 0)),(4,(.ptr 1 0)),(5,(.ptr 2 0)),(6,(.bool (false))),(7,(.int .i64 (cK s a))),(8,(.int .i64 (cN s y3))),(9,(.ptr 3 0)),(10,(.ptr 4 0)),(11,(.vs tI (!ieq (morE s (cK s a) (cT s a b1 b2 b3) (cN s y3)) 0) (bif ieq (morE s (cK s a) (cT s a b1 b2 b3) (cN s y3)) 0 then rmL s (cK s a) (cT s a b1 b2 b3) (cN s y3) (s.1.2.length+1) else []))),(12,(.int .i64 (bif ieq (morE s (cK s a) (cT s a b1 b2 b3) (cN s y3)) 0 then rsF s (cK s a) (cT s a b1 b2 b3) (cN s y3) s.1.2.length else 0))),(13,(.int .i64 (morE s (cK s a) (cT s a b1 b2 b3) (cN s y3)))),(14,(.vs tI (false) (rmL s (cK s a) (cT s a b1 b2 b3) (cN s y3) (s.1.2.length+1)))),(15,(.int .i64 (rsF s (cK s a) (cT s a b1 b2 b3) (cN s y3) s.1.2.length))),(16,(.int .i64 (fuU s (cK s a) (cT s a b1 b2 b3) (cN s y3) s.1.2.length))),(17,(.int .i64 (fbB s (cK s a) (cT s a b1 b2 b3) (cN s y3) s.1.2.length))),(18,(.ptr 5 0)),(19,(.vs tI (!ieq (morE s (cK s a) (cB (cT s a b1 b2 b3) (cT s a y0 y1 y2)) (cN s y3)) 0) (bif ieq (morE s (cK s a) (cB (cT s a b1 b2 b3) (cT s a y0 y1 y2)) (cN s y3)) 0 then rmL s (cK s a) (cB (cT s a b1 b2 b3) (cT s a y0 y1 y2)) (cN s y3) (s.1.2.length+1) else []))),(20,(.int .i64 (bif ieq (morE s (cK s a) (cB (cT s a b1 b2 b3) (cT s a y0 y1 y2)) (cN s y3)) 0 then rsF s (cK s a) (cB (cT s a b1 b2 b3) (cT s a y0 y1 y2)) (cN s y3) s.1.2.length else 0))),(21,(.int .i64 (morE s (cK s a) (cB (cT s a b1 b2 b3) (cT s a y0 y1 y2)) (cN s y3)))),(23,(.agg [(.vs tI (s.1.1) (s.1.2)),(.vs tK (s.2.1.1) (s.2.1.2)),(.vs tC (s.2.2.1.1) (s.2.2.1.2))])),(24,(.bool (ieq (chkS s).2.2 0))),(25,(.bool (false))),(27,(.ptr 1 0)),(28,(.int .u8 (a))),(29,(.int .i64 (wr .i64 a))),(30,(.ptr 0 1)),(31,(.vs tK (s.2.1.1) (s.2.1.2))),(32,(.int .i64 (Int.ofNat s.2.1.2.length))),(33,(.int .i64 (cK s a))),(34,(.ptr 2 3)),(35,(.int .u16 (y3))),(36,(.int .i64 (wr .i64 y3))),(37,(.ptr 0 0)),(38,(.vs tI (s.1.1) (s.1.2))),(39,(.int .i64 (Int.ofNat s.1.2.length))),(40,(.int .i64 (wr .i64 (↑s.1.2.length+1)))),(41,(.int .i64 (cN s y3))),(42,(.ptr 0 1)),(43,(.vs tK (s.2.1.1) (s.2.1.2))),(44,(.int .i64 (cK s a))),(45,(.cp [(.str ((s.2.1.2.getD (cK s a).toNat tK.dflt).1)),(.int .i64 ((s.2.1.2.getD (cK s a).toNat tK.dflt).2.1.1)),(.int .i64 ((s.2.1.2.getD (cK s a).toNat tK.dflt).2.1.2.1)),(.int .i64 ((s.2.1.2.getD (cK s a).toNat tK.dflt).2.2.1.1)),(.int .i64 ((s.2.1.2.getD (cK s a).toNat tK.dflt).2.2.1.2.1)),(.int .i64 ((s.2.1.2.getD (cK s a).toNat tK.dflt).2.2.2.1.1)),(.int .i64 ((s.2.1.2.getD (cK s a).toNat tK.dflt).2.2.2.1.2.1)),(.int .i64 ((s.2.1.2.getD (cK s a).toNat tK.dflt).2.2.2.2.1)),(.int .i64 ((s.2.1.2.getD (cK s a).toNat tK.dflt).2.2.2.2.2.1))] 0)),(46,(.agg [(.str ((s.2.1.2.getD (cK s a).toNat tK.dflt).1)),(.int .i64 ((s.2.1.2.getD (cK s a).toNat tK.dflt).2.1.1)),(.int .i64 ((s.2.1.2.getD (cK s a).toNat tK.dflt).2.1.2.1)),(.int .i64 ((s.2.1.2.getD (cK s a).toNat tK.dflt).2.2.1.1)),(.int .i64 ((s.2.1.2.getD (cK s a).toNat tK.dflt).2.2.1.2.1)),(.int .i64 ((s.2.1.2.getD (cK s a).toNat tK.dflt).2.2.2.1.1)),(.int .i64 ((s.2.1.2.getD (cK s a).toNat tK.dflt).2.2.2.1.2.1)),(.int .i64 ((s.2.1.2.getD (cK s a).toNat tK.dflt).2.2.2.2.1)),(.int .i64 ((s.2.1.2.getD (cK s a).toNat tK.dflt).2.2.2.2.2.1))])),(47,(.ptr 1 1)),(48,(.agg [(.int .u16 (b1)),(.int .u16 (b2)),(.int .u16 (b3))])),(49,(.agg [(.int .i64 ((cT s a b1 b2 b3).1)),(.int .i64 ((cT s a b1 b2 b3).2.1)),(.int .i64 ((cT s a b1 b2 b3).2.2.1))])),(50,(.ptr 0 1)),(51,(.vs tK (s.2.1.1) (s.2.1.2))),(52,(.int .i64 (cK s a))),(53,(.cp [(.str ((s.2.1.2.getD (cK s a).toNat tK.dflt).1)),(.int .i64 ((s.2.1.2.getD (cK s a).toNat tK.dflt).2.1.1)),(.int .i64 ((s.2.1.2.getD (cK s a).toNat tK.dflt).2.1.2.1)),(.int .i64 ((s.2.1.2.getD (cK s a).toNat tK.dflt).2.2.1.1)),(.int .i64 ((s.2.1.2.getD (cK s a).toNat tK.dflt).2.2.1.2.1)),(.int .i64 ((s.2.1.2.getD (cK s a).toNat tK.dflt).2.2.2.1.1)),(.int .i64 ((s.2.1.2.getD (cK s a).toNat tK.dflt).2.2.2.1.2.1)),(.int .i64 ((s.2.1.2.getD (cK s a).toNat tK.dflt).2.2.2.2.1)),(.int .i64 ((s.2.1.2.getD (cK s a).toNat tK.dflt).2.2.2.2.2.1))] 0)),(54,(.agg [(.str ((s.2.1.2.getD (cK s a).toNat tK.dflt).1)),(.int .i64 ((s.2.1.2.getD (cK s a).toNat tK.dflt).2.1.1)),(.int .i64 ((s.2.1.2.getD (cK s a).toNat tK.dflt).2.1.2.1)),(.int .i64 ((s.2.1.2.getD (cK s a).toNat tK.dflt).2.2.1.1)),(.int .i64 ((s.2.1.2.getD (cK s a).toNat tK.dflt).2.2.1.2.1)),(.int .i64 ((s.2.1.2.getD (cK s a).toNat tK.dflt).2.2.2.1.1)),(.int .i64 ((s.2.1.2.getD (cK s a).toNat tK.dflt).2.2.2.1.2.1)),(.int .i64 ((s.2.1.2.getD (cK s a).toNat tK.dflt).2.2.2.2.1)),(.int .i64 ((s.2.1.2.getD (cK s a).toNat tK.dflt).2.2.2.2.2.1))])),(55,(.ptr 2 0)),(56,(.int .u16 (y0))),(57,(.ptr 2 1)),(58,(.int .u16 (y1))),(59,(.ptr 2 2)),(60,(.int .u16 (y2))),(61,(.agg [(.int .u16 (y0)),(.int .u16 (y1)),(.int .u16 (y2))])),(62,(.agg [(.int .i64 ((cT s a y0 y1 y2).1)),(.int .i64 ((cT s a y0 y1 y2).2.1)),(.int .i64 ((cT s a y0 y1 y2).2.2.1))])),(63,(.tup [(.vs tI (!ieq (morE s (cK s a) (cT s a b1 b2 b3) (cN s y3)) 0) (bif ieq (morE s (cK s a) (cT s a b1 b2 b3) (cN s y3)) 0 then rmL s (cK s a) (cT s a b1 b2 b3) (cN s y3) (s.1.2.length+1) else [])),(.int .i64 (bif ieq (morE s (cK s a) (cT s a b1 b2 b3) (cN s y3)) 0 then rsF s (cK s a) (cT s a b1 b2 b3) (cN s y3) s.1.2.length else 0)),(.int .i64 (morE s (cK s a) (cT s a b1 b2 b3) (cN s y3)))])),(64,(.agg [(.vs tI (s.1.1) (s.1.2)),(.vs tK (s.2.1.1) (s.2.1.2)),(.vs tC (s.2.2.1.1) (s.2.2.1.2))])),(65,(.int .i64 (cK s a))),(66,(.agg [(.int .i64 ((cT s a b1 b2 b3).1)),(.int .i64 ((cT s a b1 b2 b3).2.1)),(.int .i64 ((cT s a b1 b2 b3).2.2.1))])),(67,(.int .i64 (cN s y3))),(68,(.tup [(.vs tI (!ieq (morE s (cK s a) (cT s a b1 b2 b3) (cN s y3)) 0) (bif ieq (morE s (cK s a) (cT s a b1 b2 b3) (cN s y3)) 0 then rmL s (cK s a) (cT s a b1 b2 b3) (cN s y3) (s.1.2.length+1) else [])),(.int .i64 (bif ieq (morE s (cK s a) (cT s a b1 b2 b3) (cN s y3)) 0 then rsF s (cK s a) (cT s a b1 b2 b3) (cN s y3) s.1.2.length else 0)),(.int .i64 (morE s (cK s a) (cT s a b1 b2 b3) (cN s y3)))])),(69,(.vs tI (!ieq (morE s (cK s a) (cT s a b1 b2 b3) (cN s y3)) 0) (bif ieq (morE s (cK s a) (cT s a b1 b2 b3) (cN s y3)) 0 then rmL s (cK s a) (cT s a b1 b2 b3) (cN s y3) (s.1.2.length+1) else []))),(70,(.int .i64 (bif ieq (morE s (cK s a) (cT s a b1 b2 b3) (cN s y3)) 0 then rsF s (cK s a) (cT s a b1 b2 b3) (cN s y3) s.1.2.length else 0))),(71,(.int .i64 (morE s (cK s a) (cT s a b1 b2 b3) (cN s y3)))),(72,(.tup [(.vs tI (false) (rmL s (cK s a) (cT s a b1 b2 b3) (cN s y3) (s.1.2.length+1))),(.int .i64 (rsF s (cK s a) (cT s a b1 b2 b3) (cN s y3) s.1.2.length)),(.int .i64 (fuU s (cK s a) (cT s a b1 b2 b3) (cN s y3) s.1.2.length)),(.int .i64 (fbB s (cK s a) (cT s a b1 b2 b3) (cN s y3) s.1.2.length))])),(73,(.agg [(.vs tI (s.1.1) (s.1.2)),(.vs tK (s.2.1.1) (s.2.1.2)),(.vs tC (s.2.2.1.1) (s.2.2.1.2))])),(74,(.int .i64 (cK s a))),(75,(.agg [(.int .i64 ((cT s a b1 b2 b3).1)),(.int .i64 ((cT s a b1 b2 b3).2.1)),(.int .i64 ((cT s a b1 b2 b3).2.2.1))])),(76,(.int .i64 (cN s y3))),(77,(.tup [(.vs tI (false) (rmL s (cK s a) (cT s a b1 b2 b3) (cN s y3) (s.1.2.length+1))),(.int .i64 (rsF s (cK s a) (cT s a b1 b2 b3) (cN s y3) s.1.2.length)),(.int .i64 (fuU s (cK s a) (cT s a b1 b2 b3) (cN s y3) s.1.2.length)),(.int .i64 (fbB s (cK s a) (cT s a b1 b2 b3) (cN s y3) s.1.2.length))])),(78,(.vs tI (false) (rmL s (cK s a) (cT s a b1 b2 b3) (cN s y3) (s.1.2.length+1)))),(79,(.int .i64 (rsF s (cK s a) (cT s a b1 b2 b3) (cN s y3) s.1.2.length))),(80,(.int .i64 (fuU s (cK s a) (cT s a b1 b2 b3) (cN s y3) s.1.2.length))),(81,(.int .i64 (fbB s (cK s a) (cT s a b1 b2 b3) (cN s y3) s.1.2.length))),(82,(.ptr 3 0)),(83,(.int .i64 ((cT s a b1 b2 b3).1))),(84,(.ptr 4 0)),(85,(.int .i64 ((cT s a y0 y1 y2).1))),(86,(.int .i64 (bif ile (cT s a y0 y1 y2).1 (cT s a b1 b2 b3).1 then (cT s a b1 b2 b3).1 else (cT s a y0 y1 y2).1))),(87,(.ptr 3 1)),(88,(.int .i64 ((cT s a b1 b2 b3).2.1))),(89,(.ptr 4 1)),(90,(.int .i64 ((cT s a y0 y1 y2).2.1))),(91,(.int .i64 (bif ile (cT s a b1 b2 b3).2.1 (cT s a y0 y1 y2).2.1 then (cT s a b1 b2 b3).2.1 else (cT s a y0 y1 y2).2.1))),(92,(.ptr 3 2)),(93,(.int .i64 ((cT s a b1 b2 b3).2.2.1))),(94,(.ptr 4 2)),(95,(.int .i64 ((cT s a y0 y1 y2).2.2.1))),(96,(.int .i64 (bif ile (cT s a b1 b2 b3).2.2.1 (cT s a y0 y1 y2).2.2.1 then (cT s a b1 b2 b3).2.2.1 else (cT s a y0 y1 y2).2.2.1))),(97,(.agg [(.int .i64 (bif ile (cT s a y0 y1 y2).1 (cT s a b1 b2 b3).1 then (cT s a b1 b2 b3).1 else (cT s a y0 y1 y2).1)),(.int .i64 (bif ile (cT s a b1 b2 b3).2.1 (cT s a y0 y1 y2).2.1 then (cT s a b1 b2 b3).2.1 else (cT s a y0 y1 y2).2.1)),(.int .i64 (bif ile (cT s a b1 b2 b3).2.2.1 (cT s a y0 y1 y2).2.2.1 then (cT s a b1 b2 b3).2.2.1 else (cT s a y0 y1 y2).2.2.1))])),(98,(.tup [(.vs tI (!ieq (morE s (cK s a) (cB (cT s a b1 b2 b3) (cT s a y0 y1 y2)) (cN s y3)) 0) (bif ieq (morE s (cK s a) (cB (cT s a b1 b2 b3) (cT s a y0 y1 y2)) (cN s y3)) 0 then rmL s (cK s a) (cB (cT s a b1 b2 b3) (cT s a y0 y1 y2)) (cN s y3) (s.1.2.length+1) else [])),(.int .i64 (bif ieq (morE s (cK s a) (cB (cT s a b1 b2 b3) (cT s a y0 y1 y2)) (cN s y3)) 0 then rsF s (cK s a) (cB (cT s a b1 b2 b3) (cT s a y0 y1 y2)) (cN s y3) s.1.2.length else 0)),(.int .i64 (morE s (cK s a) (cB (cT s a b1 b2 b3) (cT s a y0 y1 y2)) (cN s y3)))])),(99,(.agg [(.vs tI (s.1.1) (s.1.2)),(.vs tK (s.2.1.1) (s.2.1.2)),(.vs tC (s.2.2.1.1) (s.2.2.1.2))])),(100,(.int .i64 (cK s a))),(101,(.agg [(.int .i64 (bif ile (cT s a y0 y1 y2).1 (cT s a b1 b2 b3).1 then (cT s a b1 b2 b3).1 else (cT s a y0 y1 y2).1)),(.int .i64 (bif ile (cT s a b1 b2 b3).2.1 (cT s a y0 y1 y2).2.1 then (cT s a b1 b2 b3).2.1 else (cT s a y0 y1 y2).2.1)),(.int .i64 (bif ile (cT s a b1 b2 b3).2.2.1 (cT s a y0 y1 y2).2.2.1 then (cT s a b1 b2 b3).2.2.1 else (cT s a y0 y1 y2).2.2.1))])),(102,(.int .i64 (cN s y3))),(103,(.tup [(.vs tI (!ieq (morE s (cK s a) (cB (cT s a b1 b2 b3) (cT s a y0 y1 y2)) (cN s y3)) 0) (bif ieq (morE s (cK s a) (cB (cT s a b1 b2 b3) (cT s a y0 y1 y2)) (cN s y3)) 0 then rmL s (cK s a) (cB (cT s a b1 b2 b3) (cT s a y0 y1 y2)) (cN s y3) (s.1.2.length+1) else [])),(.int .i64 (bif ieq (morE s (cK s a) (cB (cT s a b1 b2 b3) (cT s a y0 y1 y2)) (cN s y3)) 0 then rsF s (cK s a) (cB (cT s a b1 b2 b3) (cT s a y0 y1 y2)) (cN s y3) s.1.2.length else 0)),(.int .i64 (morE s (cK s a) (cB (cT s a b1 b2 b3) (cT s a y0 y1 y2)) (cN s y3)))])),(104,(.vs tI (!ieq (morE s (cK s a) (cB (cT s a b1 b2 b3) (cT s a y0 y1 y2)) (cN s y3)) 0) (bif ieq (morE s (cK s a) (cB (cT s a b1 b2 b3) (cT s a y0 y1 y2)) (cN s y3)) 0 then rmL s (cK s a) (cB (cT s a b1 b2 b3) (cT s a y0 y1 y2)) (cN s y3) (s.1.2.length+1) else []))),(105,(.int .i64 (bif ieq (morE s (cK s a) (cB (cT s a b1 b2 b3) (cT s a y0 y1 y2)) (cN s y3)) 0 then rsF s (cK s a) (cB (cT s a b1 b2 b3) (cT s a y0 y1 y2)) (cN s y3) s.1.2.length else 0))),(106,(.int .i64 (morE s (cK s a) (cB (cT s a b1 b2 b3) (cT s a y0 y1 y2)) (cN s y3)))),(107,(.int .i64 (morE s (cK s a) (cT s a b1 b2 b3) (cN s y3)))),(108,(.bool (!ieq (morE s (cK s a) (cT s a b1 b2 b3) (cN s y3)) 0))),(109,(.bool (false))),(110,(.int .i64 (morE s (cK s a) (cB (cT s a b1 b2 b3) (cT s a y0 y1 y2)) (cN s y3)))),(111,(.bool (!ieq (morE s (cK s a) (cB (cT s a b1 b2 b3) (cT s a y0 y1 y2)) (cN s y3)) 0))),(112,(.bool (!ieq (morE s (cK s a) (cB (cT s a b1 b2 b3) (cT s a y0 y1 y2)) (cN s y3)) 0))),(113,(.bool (false))),(114,(.vs tI (!ieq (morE s (cK s a) (cT s a b1 b2 b3) (cN s y3)) 0) (bif ieq (morE s (cK s a) (cT s a b1 b2 b3) (cN s y3)) 0 then rmL s (cK s a) (cT s a b1 b2 b3) (cN s y3) (s.1.2.length+1) else []))),(115,(.int .i64 (Int.ofNat (bif ieq (morE s (cK s a) (cT s a b1 b2 b3) (cN s y3)) 0 then rmL s (cK s a) (cT s a b1 b2 b3) (cN s y3) (s.1.2.length+1) else []).length))),(116,(.ptr 0 0)),(117,(.vs tI (s.1.1) (s.1.2))),(118,(.int .i64 (Int.ofNat s.1.2.length))),(119,(.int .i64 (wr .i64 (↑s.1.2.length+1)))),(120,(.bool (!ieq (↑(bif ieq (morE s (cK s a) (cT s a b1 b2 b3) (cN s y3)) 0 then rmL s (cK s a) (cT s a b1 b2 b3) (cN s y3) (s.1.2.length+1) else []).length) (wr .i64 (↑s.1.2.length+1))))),(121,(.bool (!ieq (↑(bif ieq (morE s (cK s a) (cT s a b1 b2 b3) (cN s y3)) 0 then rmL s (cK s a) (cT s a b1 b2 b3) (cN s y3) (s.1.2.length+1) else []).length) (wr .i64 (↑s.1.2.length+1))))),(122,(.bool (false))),(123,(.vs tI (!ieq (morE s (cK s a) (cB (cT s a b1 b2 b3) (cT s a y0 y1 y2)) (cN s y3)) 0) (bif ieq (morE s (cK s a) (cB (cT s a b1 b2 b3) (cT s a y0 y1 y2)) (cN s y3)) 0 then rmL s (cK s a) (cB (cT s a b1 b2 b3) (cT s a y0 y1 y2)) (cN s y3) (s.1.2.length+1) else []))),(124,(.int .i64 (Int.ofNat (bif ieq (morE s (cK s a) (cB (cT s a b1 b2 b3) (cT s a y0 y1 y2)) (cN s y3)) 0 then rmL s (cK s a) (cB (cT s a b1 b2 b3) (cT s a y0 y1 y2)) (cN s y3) (s.1.2.length+1) else []).length))),(125,(.vs tI (!ieq (morE s (cK s a) (cT s a b1 b2 b3) (cN s y3)) 0) (bif ieq (morE s (cK s a) (cT s a b1 b2 b3) (cN s y3)) 0 then rmL s (cK s a) (cT s a b1 b2 b3) (cN s y3) (s.1.2.length+1) else []))),(126,(.int .i64 (Int.ofNat (bif ieq (morE s (cK s a) (cT s a b1 b2 b3) (cN s y3)) 0 then rmL s (cK s a) (cT s a b1 b2 b3) (cN s y3) (s.1.2.length+1) else []).length))),(127,(.bool (!ieq ↑(bif ieq (morE s (cK s a) (cB (cT s a b1 b2 b3) (cT s a y0 y1 y2)) (cN s y3)) 0 then rmL s (cK s a) (cB (cT s a b1 b2 b3) (cT s a y0 y1 y2)) (cN s y3) (s.1.2.length+1) else []).length ↑(bif ieq (morE s (cK s a) (cT s a b1 b2 b3) (cN s y3)) 0 then rmL s (cK s a) (cT s a b1 b2 b3) (cN s y3) (s.1.2.length+1) else []).length))),(128,(.bool (!ieq ↑(bif ieq (morE s (cK s a) (cB (cT s a b1 b2 b3) (cT s a y0 y1 y2)) (cN s y3)) 0 then rmL s (cK s a) (cB (cT s a b1 b2 b3) (cT s a y0 y1 y2)) (cN s y3) (s.1.2.length+1) else []).length ↑(bif ieq (morE s (cK s a) (cT s a b1 b2 b3) (cN s y3)) 0 then rmL s (cK s a) (cT s a b1 b2 b3) (cN s y3) (s.1.2.length+1) else []).length))),(129,(.bool (false))),(130,(.int .i64 (bif ieq (morE s (cK s a) (cB (cT s a b1 b2 b3) (cT s a y0 y1 y2)) (cN s y3)) 0 then rsF s (cK s a) (cB (cT s a b1 b2 b3) (cT s a y0 y1 y2)) (cN s y3) s.1.2.length else 0))),(131,(.int .i64 (bif ieq (morE s (cK s a) (cT s a b1 b2 b3) (cN s y3)) 0 then rsF s (cK s a) (cT s a b1 b2 b3) (cN s y3) s.1.2.length else 0))),(132,(.bool (!ile (bif ieq (morE s (cK s a) (cT s a b1 b2 b3) (cN s y3)) 0 then rsF s (cK s a) (cT s a b1 b2 b3) (cN s y3) s.1.2.length else 0) (bif ieq (morE s (cK s a) (cB (cT s a b1 b2 b3) (cT s a y0 y1 y2)) (cN s y3)) 0 then rsF s (cK s a) (cB (cT s a b1 b2 b3) (cT s a y0 y1 y2)) (cN s y3) s.1.2.length else 0)))),(133,(.bool (!ile (bif ieq (morE s (cK s a) (cT s a b1 b2 b3) (cN s y3)) 0 then rsF s (cK s a) (cT s a b1 b2 b3) (cN s y3) s.1.2.length else 0) (bif ieq (morE s (cK s a) (cB (cT s a b1 b2 b3) (cT s a y0 y1 y2)) (cN s y3)) 0 then rsF s (cK s a) (cB (cT s a b1 b2 b3) (cT s a y0 y1 y2)) (cN s y3) s.1.2.length else 0)))),(134,(.bool (false))),(135,(.int .i64 (bif ieq (morE s (cK s a) (cT s a b1 b2 b3) (cN s y3)) 0 then rsF s (cK s a) (cT s a b1 b2 b3) (cN s y3) s.1.2.length else 0))),(136,(.int .i64 (rsF s (cK s a) (cT s a b1 b2 b3) (cN s y3) s.1.2.length))),(137,(.bool (!ieq (bif ieq (morE s (cK s a) (cT s a b1 b2 b3) (cN s y3)) 0 then rsF s (cK s a) (cT s a b1 b2 b3) (cN s y3) s.1.2.length else 0) (rsF s (cK s a) (cT s a b1 b2 b3) (cN s y3) s.1.2.length)))),(138,(.bool (!ieq (bif ieq (morE s (cK s a) (cT s a b1 b2 b3) (cN s y3)) 0 then rsF s (cK s a) (cT s a b1 b2 b3) (cN s y3) s.1.2.length else 0) (rsF s (cK s a) (cT s a b1 b2 b3) (cN s y3) s.1.2.length)))),(139,(.bool (false))),(140,(.vs tI (!ieq (morE s (cK s a) (cT s a b1 b2 b3) (cN s y3)) 0) (bif ieq (morE s (cK s a) (cT s a b1 b2 b3) (cN s y3)) 0 then rmL s (cK s a) (cT s a b1 b2 b3) (cN s y3) (s.1.2.length+1) else []))),(141,(.vs tI (false) (rmL s (cK s a) (cT s a b1 b2 b3) (cN s y3) (s.1.2.length+1)))),(142,(.bool (intsS (bif ieq (morE s (cK s a) (cT s a b1 b2 b3) (cN s y3)) 0 then rmL s (cK s a) (cT s a b1 b2 b3) (cN s y3) (s.1.2.length+1) else []) (rmL s (cK s a) (cT s a b1 b2 b3) (cN s y3) (s.1.2.length+1))))),(143,(.bool (!intsS (bif ieq (morE s (cK s a) (cT s a b1 b2 b3) (cN s y3)) 0 then rmL s (cK s a) (cT s a b1 b2 b3) (cN s y3) (s.1.2.length+1) else []) (rmL s (cK s a) (cT s a b1 b2 b3) (cN s y3) (s.1.2.length+1))))),(144,(.bool (false)))]
noncomputable def lconI0 (s:tS.den) (a:Int) (b1 b2 b3:Int) (w:Bool) (l:List Int) (y0 y1 y2 y3:Int) (x32:Int) (x501:Nat):Cfg:=⟨.ex (pcOf F13 6 [0,0,1,0,1,1,1,1,1,1,1,1,1]) ⟨(tmOf 176 (lcong0 s a b1 b2 b3 w l y0 y1 y2 y3++[(22,(.int .i64 x32))])),(hpOf 6 [(0,(.cells false [(.vs tI (s.1.1) (s.1.2)),(.vs tK (s.2.1.1) (s.2.1.2)),(.vs tC (s.2.2.1.1) (s.2.2.1.2))])),(1,(.cells false [(.int .u8 (a)),(.int .u16 (b1)),(.int .u16 (b2)),(.int .u16 (b3)),(.vs (.int .u8) (w) (l))])),(2,(.cells false [(.int .u16 (y0)),(.int .u16 (y1)),(.int .u16 (y2)),(.int .u16 (y3))])),(3,(.cells false [(.int .i64 ((cT s a b1 b2 b3).1)),(.int .i64 ((cT s a b1 b2 b3).2.1)),(.int .i64 ((cT s a b1 b2 b3).2.2.1))])),(4,(.cells false [(.int .i64 ((cT s a y0 y1 y2).1)),(.int .i64 ((cT s a y0 y1 y2).2.1)),(.int .i64 ((cT s a y0 y1 y2).2.2.1))])),(5,(.cells false [(.int .i64 (bif ile (cT s a y0 y1 y2).1 (cT s a b1 b2 b3).1 then (cT s a b1 b2 b3).1 else (cT s a y0 y1 y2).1)),(.int .i64 (bif ile (cT s a b1 b2 b3).2.1 (cT s a y0 y1 y2).2.1 then (cT s a b1 b2 b3).2.1 else (cT s a y0 y1 y2).2.1)),(.int .i64 (bif ile (cT s a b1 b2 b3).2.2.1 (cT s a y0 y1 y2).2.2.1 then (cT s a b1 b2 b3).2.2.1 else (cT s a y0 y1 y2).2.2.1))]))]),[],[],176,false⟩,⟨40,[]⟩,[(.lop (pcOf F13 6 [0,0,1,0,1,1,1,1,1,1,1,1,1]) 6 (tmOf 176 (lcong0 s a b1 b2 b3 w l y0 y1 y2 y3++[(22,(.int .i64 (0)))])) x501),(.blk 0),(.seq (pcOf F13 6 [1,1,1,1,1,1,1,1,1,1])),(.cal [(.tmp 6)] .top)]⟩
theorem lcon_start (s:tS.den) (a:Int) (b1 b2 b3:Int) (w:Bool) (l:List Int) (y0 y1 y2 y3:Int):adv F13 (Z13 [6]) 8000 (startC F13 6 [tS.av s,.agg [.int .u8 a,.int .u16 b1,.int .u16 b2,.int .u16 b3,.vs (.int .u8) w l],.agg [.int .u16 y0,.int .u16 y1,.int .u16 y2,.int .u16 y3]] 40)=(bif !ieq (chkS s).2.2 0 then some (.done (.bool (true))) else (bif ieq (↑s.2.1.2.length) 0 then none else (bif ieq (wr .i64 (↑s.1.2.length+1)) 0 then none else (bif inB (cK s a) s.2.1.2.length then (bif kA (s.2.1.2.getD (cK s a).toNat tK.dflt)&&kL (s.2.1.2.getD (cK s a).toNat tK.dflt) then (bif inB (cK s a) s.2.1.2.length then (bif kA (s.2.1.2.getD (cK s a).toNat tK.dflt)&&kL (s.2.1.2.getD (cK s a).toNat tK.dflt) then (bif ieq y2 y2 then (bif ieq y2 y2 then (bif ieq y1 y1 then (bif ieq y1 y1 then (bif ieq y0 y0 then (bif ieq y0 y0 then (bif bbeq s.2.1.1 s.2.1.1 then (bif vsB tK s.2.1.2 tK s.2.1.2 then (bif bbeq s.2.1.1 s.2.1.1 then (bif vsB tK s.2.1.2 tK s.2.1.2 then (bif ieq b1 b1 then (bif ieq b2 b2 then (bif ieq b3 b3 then (bif bbeq s.2.1.1 s.2.1.1 then (bif vsB tK s.2.1.2 tK s.2.1.2 then (bif ieq (chkS s).2.2 0&&tokB s (cK s a) (cT s a b1 b2 b3) then (bif !ieq (morE s (cK s a) (cT s a b1 b2 b3) (cN s y3)) 0 then some (.done (.bool (false))) else (bif !ieq (morE s (cK s a) (cB (cT s a b1 b2 b3) (cT s a y0 y1 y2)) (cN s y3)) 0 then some (.done (.bool (false))) else (bif !ieq (↑(bif ieq (morE s (cK s a) (cT s a b1 b2 b3) (cN s y3)) 0 then rmL s (cK s a) (cT s a b1 b2 b3) (cN s y3) (s.1.2.length+1) else []).length) (wr .i64 (↑s.1.2.length+1)) then some (.done (.bool (false))) else (bif !ieq ↑(bif ieq (morE s (cK s a) (cB (cT s a b1 b2 b3) (cT s a y0 y1 y2)) (cN s y3)) 0 then rmL s (cK s a) (cB (cT s a b1 b2 b3) (cT s a y0 y1 y2)) (cN s y3) (s.1.2.length+1) else []).length ↑(bif ieq (morE s (cK s a) (cT s a b1 b2 b3) (cN s y3)) 0 then rmL s (cK s a) (cT s a b1 b2 b3) (cN s y3) (s.1.2.length+1) else []).length then some (.done (.bool (false))) else (bif !ile (bif ieq (morE s (cK s a) (cT s a b1 b2 b3) (cN s y3)) 0 then rsF s (cK s a) (cT s a b1 b2 b3) (cN s y3) s.1.2.length else 0) (bif ieq (morE s (cK s a) (cB (cT s a b1 b2 b3) (cT s a y0 y1 y2)) (cN s y3)) 0 then rsF s (cK s a) (cB (cT s a b1 b2 b3) (cT s a y0 y1 y2)) (cN s y3) s.1.2.length else 0) then some (.done (.bool (false))) else (bif !ieq (bif ieq (morE s (cK s a) (cT s a b1 b2 b3) (cN s y3)) 0 then rsF s (cK s a) (cT s a b1 b2 b3) (cN s y3) s.1.2.length else 0) (rsF s (cK s a) (cT s a b1 b2 b3) (cN s y3) s.1.2.length) then some (.done (.bool (false))) else (bif (bif ieq (morE s (cK s a) (cT s a b1 b2 b3) (cN s y3)) 0 then rmL s (cK s a) (cT s a b1 b2 b3) (cN s y3) (s.1.2.length+1) else []).length.ble 1000000 then (bif !intsS (bif ieq (morE s (cK s a) (cT s a b1 b2 b3) (cN s y3)) 0 then rmL s (cK s a) (cT s a b1 b2 b3) (cN s y3) (s.1.2.length+1) else []) (rmL s (cK s a) (cT s a b1 b2 b3) (cN s y3) (s.1.2.length+1)) then some (.done (.bool (false))) else some (.stop (lconI0 s a b1 b2 b3 w l y0 y1 y2 y3 (0) (1048575)))) else none))))))) else none) else none) else none) else none) else none) else none) else none) else none) else none) else none) else none) else none) else none) else none) else none) else none) else none) else none) else none) else none)))):=by kernel_rfl
theorem lcon_step0 (s:tS.den) (a:Int) (b1 b2 b3:Int) (w:Bool) (l:List Int) (y0 y1 y2 y3:Int) (x32:Int) (x501:Nat):adv F13 (Z13 [6]) 8000 (lconI0 s a b1 b2 b3 w l y0 y1 y2 y3 x32 (x501+1))=(bif !ile (↑(bif ieq (morE s (cK s a) (cT s a b1 b2 b3) (cN s y3)) 0 then rmL s (cK s a) (cT s a b1 b2 b3) (cN s y3) (s.1.2.length+1) else []).length) x32 then (bif inB x32 (bif ieq (morE s (cK s a) (cB (cT s a b1 b2 b3) (cT s a y0 y1 y2)) (cN s y3)) 0 then rmL s (cK s a) (cB (cT s a b1 b2 b3) (cT s a y0 y1 y2)) (cN s y3) (s.1.2.length+1) else []).length then (bif inB x32 (bif ieq (morE s (cK s a) (cT s a b1 b2 b3) (cN s y3)) 0 then rmL s (cK s a) (cT s a b1 b2 b3) (cN s y3) (s.1.2.length+1) else []).length then (bif !ile ((bif ieq (morE s (cK s a) (cT s a b1 b2 b3) (cN s y3)) 0 then rmL s (cK s a) (cT s a b1 b2 b3) (cN s y3) (s.1.2.length+1) else []).getD x32.toNat tI.dflt) ((bif ieq (morE s (cK s a) (cB (cT s a b1 b2 b3) (cT s a y0 y1 y2)) (cN s y3)) 0 then rmL s (cK s a) (cB (cT s a b1 b2 b3) (cT s a y0 y1 y2)) (cN s y3) (s.1.2.length+1) else []).getD x32.toNat tI.dflt) then some (.done (.bool (false))) else some (.stop (lconI0 s a b1 b2 b3 w l y0 y1 y2 y3 (wr .i64 (x32+1)) (x501)))) else none) else none) else (bif inB (wr .i64 (↑(bif ieq (morE s (cK s a) (cT s a b1 b2 b3) (cN s y3)) 0 then rmL s (cK s a) (cT s a b1 b2 b3) (cN s y3) (s.1.2.length+1) else []).length-1)) (bif ieq (morE s (cK s a) (cT s a b1 b2 b3) (cN s y3)) 0 then rmL s (cK s a) (cT s a b1 b2 b3) (cN s y3) (s.1.2.length+1) else []).length then (bif ieq (wr .i64 (wr .i64 ((cT s a b1 b2 b3).1+fbB s (cK s a) (cT s a b1 b2 b3) (cN s y3) s.1.2.length)-fuU s (cK s a) (cT s a b1 b2 b3) (cN s y3) s.1.2.length)) ((bif ieq (morE s (cK s a) (cT s a b1 b2 b3) (cN s y3)) 0 then rmL s (cK s a) (cT s a b1 b2 b3) (cN s y3) (s.1.2.length+1) else []).getD (wr .i64 (↑(bif ieq (morE s (cK s a) (cT s a b1 b2 b3) (cN s y3)) 0 then rmL s (cK s a) (cT s a b1 b2 b3) (cN s y3) (s.1.2.length+1) else []).length-1)).toNat tI.dflt) then (bif ieq (cT s a b1 b2 b3).1 (cT s a b1 b2 b3).1 then some (.done (.bool (true))) else none) else (bif ieq (cT s a b1 b2 b3).1 (cT s a b1 b2 b3).1 then some (.done (.bool (false))) else none)) else none)):=by kernel_rfl
theorem cK_in {s:tS.den} (H:StOK s) {a:Int} (a0:0≤a) (a1:a≤255):ile 0 (cK s a)=true∧ile (cK s a) ((s.2.1.2.length:Int)-1)=true:=by
 have h1:=H.len.k1
 unfold cK
 rw[wr_in (by omega) (by omega),Int.tmod_eq_emod_of_nonneg a0]
 have x:=Int.emod_nonneg a (show (s.2.1.2.length:Int)≠0 by omega)
 have y:=Int.emod_lt_of_pos a (show 0<(s.2.1.2.length:Int) by omega)
 exact⟨ile_t x,ile_t (by omega)⟩
theorem cN_in {s:tS.den} (H:StOK s) {y:Int} (a0:0≤y) (a1:y≤65535):ile 0 (cN s y)=true∧ile (cN s y) (s.1.2.length:Int)=true:=by
 have h1:=H.len.m2
 unfold cN
 rw[wr_in (n:=y) (by omega) (by omega),wr_in (n:=(s.1.2.length:Int)+1) (by omega) (by omega),Int.tmod_eq_emod_of_nonneg a0]
 have x:=Int.emod_nonneg y (show (s.1.2.length:Int)+1≠0 by omega)
 have z:=Int.emod_lt_of_pos y (show 0<(s.1.2.length:Int)+1 by omega)
 exact⟨ile_t x,ile_t (by omega)⟩
structure KB (g:tK.den):Prop where
 f0:@LE.le Int _ 0 g.2.1.1
 f1:@LE.le Int _ g.2.1.1 g.2.1.2.1
 f2:@LE.le Int _ g.2.1.2.1 300
 m0:@LE.le Int _ 0 g.2.2.1.1
 m1:@LE.le Int _ g.2.2.1.1 g.2.2.1.2.1
 m2:@LE.le Int _ g.2.2.1.2.1 6
 s0:@LE.le Int _ 0 g.2.2.2.1.1
 s1:@LE.le Int _ g.2.2.2.1.1 g.2.2.2.1.2.1
 s2:@LE.le Int _ g.2.2.2.1.2.1 12
theorem kb {g:tK.den} (h:kA g=true∧kL g=true):KB g:=by
 obtain⟨hA,hL⟩:=h
 unfold kA at hA
 unfold kL at hL
 simp only[Bool.and_eq_true] at hA hL
 obtain⟨a1,a2,a3,a4,a5,a6,a7,a8,a9,a10,a11,a12,a13,a14,a15,a16⟩:=hA
 obtain⟨l1,l2,l3⟩:=hL
 exact⟨ile_le a1,ile_le l1,ile_le a4,ile_le a7,ile_le l2,ile_le a10,ile_le a11,ile_le l3,ile_le a14⟩
theorem can_any {s:tS.den} {k:Int} (g:KB (kdS s k)) {x:tX.den} (x0:@LE.le Int _ 0 x.1) (x1:@LE.le Int _ x.1 65535) (y0:@LE.le Int _ 0 x.2.1) (y1:@LE.le Int _ x.2.1 65535) (z0:@LE.le Int _ 0 x.2.2.1) (z1:@LE.le Int _ x.2.2.1 65535):canS s k (anyS (kdS s k) x)=true:=by
 obtain⟨a,b⟩:=amo_in g.f0 g.f1 g.f2 x0 x1
 obtain⟨c,d⟩:=amo_in g.m0 g.m1 (Int.le_trans g.m2 (by decide)) y0 y1
 obtain⟨e,f⟩:=amo_in g.s0 g.s1 (Int.le_trans g.s2 (by decide)) z0 z1
 unfold canS
 rw[show ile (s.2.1.2.getD k.toNat tK.dflt).2.1.1 (anyS (kdS s k) x).1=true from ile_t a,show ile (anyS (kdS s k) x).1 (s.2.1.2.getD k.toNat tK.dflt).2.1.2.1=true from ile_t b,show ile (s.2.1.2.getD k.toNat tK.dflt).2.2.1.1 (anyS (kdS s k) x).2.1=true from ile_t c,show ile (anyS (kdS s k) x).2.1 (s.2.1.2.getD k.toNat tK.dflt).2.2.1.2.1=true from ile_t d,show ile (s.2.1.2.getD k.toNat tK.dflt).2.2.2.1.1 (anyS (kdS s k) x).2.2.1=true from ile_t e,show ile (anyS (kdS s k) x).2.2.1 (s.2.1.2.getD k.toNat tK.dflt).2.2.2.1.2.1=true from ile_t f];rfl
theorem can_best {s:tS.den} {k:Int} {t u:tT.den} (ht:canS s k t=true) (hu:canS s k u=true):canS s k (cB t u)=true:=by
 unfold canS at ht hu⊢
 simp only[Bool.and_eq_true] at ht hu
 obtain⟨a1,a2,a3,a4,a5,a6⟩:=ht
 obtain⟨b1,b2,b3,b4,b5,b6⟩:=hu
 unfold cB
 cases ile u.1 t.1<;>cases ile t.2.1 u.2.1<;>cases ile t.2.2.1 u.2.2.1<;>simp only[cond_true,cond_false,a1,a2,a3,a4,a5,a6,b1,b2,b3,b4,b5,b6,Bool.and_self]
theorem best_le (t u:tT.den):(@LE.le Int _ t.1 (cB t u).1)∧(@LE.le Int _ (cB t u).2.1 t.2.1)∧(@LE.le Int _ (cB t u).2.2.1 t.2.2.1):=by
 have go1:∀ a b:Int,a≤(bif ile b a then a else b):=fun a b=>by rw[bif_ile];split<;>omega
 have go2:∀ a b:Int,(bif ile a b then a else b)≤a:=fun a b=>by rw[bif_ile];split<;>omega
 exact⟨go1 _ _,go2 _ _,go2 _ _⟩
theorem tok_can {s:tS.den} (H:StOK s) {k:Int} {t:tT.den} (hk:inB k s.2.1.2.length=true) (hc:canS s k t=true):TOk s k t:=by
 have g:=kb (H.kin _ (kind_mem hk))
 unfold canS at hc
 simp only[Bool.and_eq_true] at hc
 obtain⟨b1,b2,b3,b4,b5,b6⟩:=hc
 exact⟨hk,Int.le_trans g.f0 (ile_le b1),Int.le_trans (ile_le b2) g.f2,Int.le_trans g.m0 (ile_le b3),Int.le_trans (ile_le b4) g.m2,Int.le_trans g.s0 (ile_le b5),Int.le_trans (ile_le b6) g.s2⟩
theorem tokB_of {s:tS.den} {k:Int} {t:tT.den} (T:TOk s k t):tokB s k t=true:=by
 unfold tokB
 rw[T.ks,ile_t T.f0,ile_t T.f1,ile_t T.m0,ile_t T.m1,ile_t T.s0,ile_t T.s1];rfl
theorem morE_0 {s:tS.den} {k:Int} {t:tT.den} {n:Int} (c0:ieq (chkS s).2.2 0=true) (hk:ile 0 k=true∧ile k ((s.2.1.2.length:Int)-1)=true) (hc:canS s k t=true) (hn:ile 0 n=true∧ile n (s.1.2.length:Int)=true):morE s k t n=0:=by
 unfold morE
 rw[c0,hk.1,hk.2,hc,hn.1,hn.2];rfl
end Go.Proofs.YtelibdeanepdjaaGreat


set_option maxRecDepth 100000
namespace Go.Proofs.YtelibdeanepdjaaGreat
open Go Go.Eng
theorem lcon_loop {s:tS.den} {a b1 b2 b3 y0 y1 y2 y3:Int} {w:Bool} {l:List Int} (H:StOK s) (T:TOk s (cK s a) (cT s a b1 b2 b3)) (T':TOk s (cK s a) (cB (cT s a b1 b2 b3) (cT s a y0 y1 y2)))
  (E1:morE s (cK s a) (cT s a b1 b2 b3) (cN s y3)=0) (E2:morE s (cK s a) (cB (cT s a b1 b2 b3) (cT s a y0 y1 y2)) (cN s y3)=0) :
  ∀ (r i m:Nat),i+r=s.1.2.length+1→r<m→AnsB F13 (lconI0 s a b1 b2 b3 w l y0 y1 y2 y3 i m) true
 | 0, i, m + 1, hk, hm => by
  have h:=lcon_step0 s a b1 b2 b3 w l y0 y1 y2 y3 i m
  have h30:=H.len.m2
  simp only[E1,E2,ieq_self,cond_true,rmL_len] at h
  obtain⟨e,⟨g0,g1⟩,⟨u0,u1⟩⟩:=keep_eq H T (cN s y3) s.1.2.length (Nat.le_refl _)
  have f0:=T.f0;have f1:=T.f1
  unfold keepP at e
  have eI:wr .i64 (((s.1.2.length+1:Nat):Int)-1)=((s.1.2.length:Nat):Int):=by rw[wr_in (by omega) (by omega)];omega
  have eG:(rmL s (cK s a) (cT s a b1 b2 b3) (cN s y3) (s.1.2.length+1)).getD ((s.1.2.length:Nat):Int).toNat tI.dflt=rmF s (cK s a) (cT s a b1 b2 b3) (cN s y3) s.1.2.length:=by
   rw[getD_at (by rw[rmL_len];omega)];simp[rmL]
  have eW:wr .i64 (wr .i64 ((cT s a b1 b2 b3).1+fbB s (cK s a) (cT s a b1 b2 b3) (cN s y3) s.1.2.length)-fuU s (cK s a) (cT s a b1 b2 b3) (cN s y3) s.1.2.length)=rmF s (cK s a) (cT s a b1 b2 b3) (cN s y3) s.1.2.length:=by
   rw[wr_in (n:=(cT s a b1 b2 b3).1+_) (by omega) (by omega),wr_in (by omega) (by omega)];exact e
  rw[ile_t (show ((s.1.2.length+1:Nat):Int)≤(i:Int) by omega),Bool.not_true,cond_false,eI,inB_at (show s.1.2.length<s.1.2.length+1 by omega),eG,eW,ieq_self] at h
  exact .doneB (Z13_ok _) F13sy h rfl
 | r + 1, i, m + 1, hk, hm => by
  have h:=lcon_step0 s a b1 b2 b3 w l y0 y1 y2 y3 i m
  have h30:=H.len.m2
  simp only[E1,E2,ieq_self,cond_true,rmL_len] at h
  obtain⟨q1,q2,q3⟩:=best_le (cT s a b1 b2 b3) (cT s a y0 y1 y2)
  have hmo:=(mono_eq H T T' q1 q2 q3 (cN s y3) i (by omega)).1
  have eA:(rmL s (cK s a) (cT s a b1 b2 b3) (cN s y3) (s.1.2.length+1)).getD ((i:Nat):Int).toNat tI.dflt=rmF s (cK s a) (cT s a b1 b2 b3) (cN s y3) i:=by
   rw[getD_at (by rw[rmL_len];omega)];simp[rmL]
  have eB:(rmL s (cK s a) (cB (cT s a b1 b2 b3) (cT s a y0 y1 y2)) (cN s y3) (s.1.2.length+1)).getD ((i:Nat):Int).toNat tI.dflt=rmF s (cK s a) (cB (cT s a b1 b2 b3) (cT s a y0 y1 y2)) (cN s y3) i:=by
   rw[getD_at (by rw[rmL_len];omega)];simp[rmL]
  rw[ile_f (show (i:Int)<((s.1.2.length+1:Nat):Int) by omega),Bool.not_false,cond_true,inB_at (show i<s.1.2.length+1 by omega),eA,eB,ile_t hmo,wr_succ (show i<1048577 by omega)] at h
  exact .stop (Z13_ok _) F13sy h (lcon_loop H T T' E1 E2 r (i+1) m (by omega) (by omega))
theorem con_go (s:tS.den) (a b1 b2 b3:Int) (w:Bool) (l:List Int) (y0 y1 y2 y3:Int) (ha:0≤a∧a≤255) (h1:0≤b1∧b1≤65535) (h2:0≤b2∧b2≤65535) (h3:0≤b3∧b3≤65535) (k0:0≤y0∧y0≤65535) (k1:0≤y1∧y1≤65535) (k2:0≤y2∧y2≤65535) (k3:0≤y3∧y3≤65535) :
  AnsB F13 (startC F13 6 [tS.av s,.agg [.int .u8 a,.int .u16 b1,.int .u16 b2,.int .u16 b3,.vs (.int .u8) w l],.agg [.int .u16 y0,.int .u16 y1,.int .u16 y2,.int .u16 y3]] 40) true:=by
 have h:=lcon_start s a b1 b2 b3 w l y0 y1 y2 y3
 cases c0:ieq (chkS s).2.2 0 with
 |false=>
  rw[c0,Bool.not_false,cond_true] at h
  exact .doneB (Z13_ok _) F13sy h rfl
 |true=>
  have H:=st_ok c0
  have m1:=H.len.m1;have m2:=H.len.m2;have n1:=H.len.k1;have n2:=H.len.k2
  have hk:=cK_in H ha.1 ha.2
  have hn:=cN_in H k3.1 k3.2
  have hi:=inB_kind hk.1 hk.2
  have hkk:=H.kin _ (kind_mem hi)
  have g:=kb hkk
  have ct:canS s (cK s a) (cT s a b1 b2 b3)=true:=can_any (x:=(b1,b2,b3,())) g h1.1 h1.2 h2.1 h2.2 h3.1 h3.2
  have cu:canS s (cK s a) (cT s a y0 y1 y2)=true:=can_any (x:=(y0,y1,y2,())) g k0.1 k0.2 k1.1 k1.2 k2.1 k2.2
  have cb:=can_best ct cu
  have T:=tok_can H hi ct
  have T':=tok_can H hi cb
  have E1:=morE_0 c0 hk ct hn
  have E2:=morE_0 c0 hk cb hn
  obtain⟨q1,q2,q3⟩:=best_le (cT s a b1 b2 b3) (cT s a y0 y1 y2)
  have hmo:=(mono_eq H T T' q1 q2 q3 (cN s y3) s.1.2.length (Nat.le_refl _)).2
  have z1:ieq ((s.2.1.2.length:Nat):Int) 0=false:=by rw[ieq_iff];exact decide_eq_false (by omega)
  have eW:wr .i64 ((s.1.2.length:Int)+1)=((s.1.2.length+1:Nat):Int):=wr_succ (by omega)
  have z2:ieq ((s.1.2.length+1:Nat):Int) 0=false:=by rw[ieq_iff];exact decide_eq_false (by omega)
  rw[c0,eW,z1,z2,hi,show (kA (s.2.1.2.getD (cK s a).toNat tK.dflt)&&kL (s.2.1.2.getD (cK s a).toNat tK.dflt))=true by rw[Bool.and_eq_true];exact hkk,tokB_of T] at h
  simp only[E1,E2,ieq_self,bbeq_self,vsB_self,rmL_len,intsS_self,ile_t hmo,Nat.ble_eq_true_of_le (show s.1.2.length+1≤1000000 by omega),Bool.not_true,Bool.and_self,cond_true,cond_false] at h
  exact .stop (Z13_ok _) F13sy h (lcon_loop H T T' E1 E2 (s.1.2.length+1) 0 1048575 (by omega) (by omega))
end Go.Proofs.YtelibdeanepdjaaGreat


set_option maxRecDepth 100000
namespace Go.Proofs.YtelibdeanepdjaaGreat
open Go Go.Eng
noncomputable abbrev tPa:Ty:=.cons (.int .u8) (.cons tX (.cons (.sl (.int .u8)) .nil))
noncomputable abbrev tY:Ty:=.cons (.int .u16) (.cons (.int .u16) (.cons (.int .u16) (.cons (.int .u16) .nil)))
theorem u16_b {x:Int} (h:(Ty.int .u16).wf x=true):0≤x∧x≤65535:=by
 simp only[Ty.wf,Bool.and_eq_true,decide_eq_true_eq] at h
 have e1:IntKind.u16.min=0:=rfl
 have e2:IntKind.u16.max=65535:=rfl
 rw[e1,e2] at h
 exact h
theorem u8_b {x:Int} (h:(Ty.int .u8).wf x=true):0≤x∧x≤255:=by
 simp only[Ty.wf,Bool.and_eq_true,decide_eq_true_eq] at h
 have e1:IntKind.u8.min=0:=rfl
 have e2:IntKind.u8.max=255:=rfl
 rw[e1,e2] at h
 exact h
theorem con_true (s:tS.den) (x:tPa.den) (y:tY.den) (w:tPa.wf x=true) (v:tY.wf y=true):∃ σ,callN F13 (40+1) 6 [tS.av s,tPa.av x,tY.av y] .empty [] []=some (.bool true,σ,[]):=by
 refine AnsB.call (ext_none (by kernel_rfl)) (hasB_spec (by kernel_rfl)) ?_
 have w1:((Ty.int .u8).wf x.1&&(((Ty.int .u16).wf x.2.1.1&&((Ty.int .u16).wf x.2.1.2.1&&((Ty.int .u16).wf x.2.1.2.2.1&&true)))&&((Ty.sl (.int .u8)).wf x.2.2.1&&true)))=true:=w
 have v1:((Ty.int .u16).wf y.1&&((Ty.int .u16).wf y.2.1&&((Ty.int .u16).wf y.2.2.1&&((Ty.int .u16).wf y.2.2.2.1&&true))))=true:=v
 simp only[Bool.and_eq_true] at w1 v1
 exact con_go s x.1 x.2.1.1 x.2.1.2.1 x.2.1.2.2.1 x.2.2.1.1 x.2.2.1.2 y.1 y.2.1 y.2.2.1 y.2.2.2.1 (u8_b w1.1) (u16_b w1.2.1.1) (u16_b w1.2.1.2.1) (u16_b w1.2.1.2.2.1) (u16_b v1.1) (u16_b v1.2.1) (u16_b v1.2.2.1) (u16_b v1.2.2.2.1)
end Go.Proofs.YtelibdeanepdjaaGreat


namespace Go.Proofs.YtelibdeanepdjaaGreat
open Go Go.ChangeShapes Go.WideShapes Go.Eng
theorem kOwn:ownKnob Tryz.prog.godebug=none:=by kernel_rfl
theorem kNoLaid {W:World}:laidMet Tryz.prog [] W:=⟨[],rfl,List.nodup_nil,fun _ _ h=>absurd h (by simp)⟩
theorem kLaid:allT (glB Tryz.prog []) T0.gl (fun k=>k)=true:=by kernel_rfl
theorem kParams:Tryz.f6.params=#[26,53,54]:=by kernel_rfl
theorem kResults:Tryz.f6.resultTypes=#[4]:=by kernel_rfl
theorem kLaidOut:laidOutB Tryz.prog=true:=by kernel_rfl
theorem kRead:Tryz.f6.params.toList.all (fun t=>Tryz.prog.readableRec t&&decide (t<Tryz.prog.types.size))=true:=by kernel_rfl
theorem kFit1:fits Tryz.prog (tS) 26=true:=by kernel_rfl
theorem kFit2:fits Tryz.prog (tPa) 53=true:=by kernel_rfl
theorem kFit3:fits Tryz.prog (tY) 54=true:=by kernel_rfl
theorem kGlob:F13.glob=T0.gl.get:=rfl
theorem kExt (c1:(tS).den) (c2:(tPa).den) (c3:(tY).den):F13.ext 6 [tS.av c1,tPa.av c2,tY.av c3]=none:=ext_none (by kernel_rfl)
set_option maxRecDepth 100000 in
theorem kLifted (os:Os) (started:os.Started) (H:Type) (enc:TypeId×Value→H) :
  ReturnsInHanded {} Tryz.checked os 6 .any (Rows.storeConservedSpec.pre6 enc Tryz.prog Tryz.f6 Rows.storeConservedRow.domain false) (Rows.storeConservedSpec.post enc Tryz.prog Tryz.f6 false true false false):=by
 refine returnsInHanded_of_change (C:=Tryz.checked) kOwn started (by kernel_rfl) Tryz.func6
  (ChangeSpec.witness6 (enc:=enc) (C:=Tryz.checked) false ⟨#[],#[.agg #[.slice none 0 0,.slice none 0 0,.slice none 0 0],.agg #[.int .u8 0,.int .u16 0,.int .u16 0,.int .u16 0,.slice none 0 0],.agg #[.int .u16 0,.int .u16 0,.int .u16 0,.int .u16 0]],[]⟩ 8 (by kernel_rfl) (by kernel_rfl) (by kernel_rfl) (by kernel_rfl)) ?_
 intro W base args ds gs before hok hW _ _
 have hW':=hW
 obtain⟨p,q,hA,_⟩:=hW
 rw[kParams] at hA
 obtain⟨v1,v2,v3,d1,d2,d3,p1,p2,p3,e1',e2',hp,t1,t2,t3⟩:=trodAll_three hA
 subst e1';subst e2'
 rw[kParams] at hok
 obtain⟨c1,h1,w1⟩:=arg_ty (t:=tS) (hok 0 26 v1 rfl rfl) kFit1 t1
 obtain⟨c2,h2,w2⟩:=arg_ty (t:=tPa) (hok 1 53 v2 rfl rfl) kFit2 t2
 obtain⟨c3,h3,w3⟩:=arg_ty (t:=tY) (hok 2 54 v3 rfl rfl) kFit3 t3
 obtain⟨σ,hrun⟩:=con_true c1 c2 c3 w2 w3
 refine (law_run (A:=[v1,v2,v3]) (V:=Go.Eng.seen W) f13 xf13 nf13 tabs_ok.mix (kExt c1 c2 c3) hrun (.cons h1 (.cons h2 (.cons h3 (.nil _)))) (by kernel_rfl) (fun _ _ _ h=>h) (glob_of kGlob kLaid kNoLaid)).mono fun e W' ⟨he,hf⟩=>?_
 subst he
 exact⟨_,rfl,post_law kLaidOut kRead kResults Tryz.underlying4 rfl rfl hW' hf⟩
theorem storeConserved_holds:Rows.StoreConservedSaid:=
 OpenClaim.holds_of_wide 6 Tryz.f6 rfl rfl rfl rfl rfl rfl rfl ⟨rfl,rfl,rfl,rfl,rfl⟩ rfl rfl rfl rfl rfl (by kernel_rfl) Tryz.func6 (by kernel_rfl)
  (of_decide_eq_true (by kernel_rfl)) (by unfold Func.isWrapper;first|(rw[if_pos (by decide +kernel)];kernel_rfl)|(rw[if_neg (by decide +kernel)];exact⟨rfl,rfl⟩))
  (fun os started H enc _=>kLifted os started H enc)
#print axioms storeConserved_holds
end Go.Proofs.YtelibdeanepdjaaGreat

