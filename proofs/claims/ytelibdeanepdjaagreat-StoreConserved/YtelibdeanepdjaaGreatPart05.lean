/-
  THE ENGINE: one more part of it.
-/
import Derived.Test.YtelibdeanepdjaaGreatPart04
import Derived.Test.YtelibdeanepdjaaGreatPart03
set_option linter.unusedSectionVars false
set_option linter.unusedSimpArgs false
set_option linter.unusedVariables false
set_option maxRecDepth 100000
namespace Go.Proofs.YtelibdeanepdjaaGreat
open Go Go.Eng
noncomputable def capS (s:tS.den) (k b c:Int):Int:=minS c (bif ile (wr .i64 ((s.2.1.2.getD k.toNat tK.dflt).2.2.2.2.1-b)) 0 then 0 else wr .i64 ((s.2.1.2.getD k.toNat tK.dflt).2.2.2.2.1-b))
noncomputable def fuS (s:tS.den) (k:Int) (t:tT.den) (y n:Int):Int:=wr .i64 ((bif ile n y then (bif !ile ((wr .i64 (wr .i64 (s.1.2.getD y.toNat tI.dflt * t.2.1) * (s.2.1.2.getD k.toNat tK.dflt).2.2.2.2.2.1)).tmod 1000) 0 then wr .i64 (wr .i64 ((wr .i64 (wr .i64 (s.1.2.getD y.toNat tI.dflt * t.2.1) * (s.2.1.2.getD k.toNat tK.dflt).2.2.2.2.2.1)).tdiv 1000)+1) else wr .i64 ((wr .i64 (wr .i64 (s.1.2.getD y.toNat tI.dflt * t.2.1) * (s.2.1.2.getD k.toNat tK.dflt).2.2.2.2.2.1)).tdiv 1000)) else wr .i64 (s.1.2.getD y.toNat tI.dflt * t.2.1))+t.2.2.1)
theorem fu_num {m M R S:Int} (q:Bool) (m0:0≤m) (m1:m≤12) (M0:0≤M) (M1:M≤6) (R0:0≤R) (R1:R≤1000):wr .i64 ((bif q then (bif !ile ((wr .i64 (wr .i64 (m * M) * R)).tmod 1000) 0 then wr .i64 (wr .i64 ((wr .i64 (wr .i64 (m * M) * R)).tdiv 1000)+1) else wr .i64 ((wr .i64 (wr .i64 (m * M) * R)).tdiv 1000)) else wr .i64 (m * M))+S)=wr .i64 ((bif q then wr .i64 ((wr .i64 (wr .i64 (wr .i64 (wr .i64 (m * M) * R)+1000)-1)).tdiv 1000) else wr .i64 (m * M))+S):=by
 cases q with
 |false=>rfl
 |true=>
  rw[cond_true,cond_true]
  have p0:0≤m * M:=Int.mul_nonneg m0 M0
  have p1:m * M≤12 * 6:=Int.mul_le_mul m1 M1 M0 (by decide)
  have e1:wr .i64 (m * M)=m * M:=wr_in (by omega) (by omega)
  have q0:0≤(m * M) * R:=Int.mul_nonneg p0 R0
  have q1:(m * M) * R≤(12 * 6) * 1000:=Int.mul_le_mul p1 R1 R0 (by decide)
  have e2:wr .i64 ((m * M) * R)=(m * M) * R:=wr_in (by omega) (by omega)
  have e3:wr .i64 ((m * M) * R+1000)=(m * M) * R+1000:=wr_in (by omega) (by omega)
  have e4:wr .i64 ((m * M) * R+1000-1)=(m * M) * R+999:=by rw[wr_in (by omega) (by omega)];omega
  have e5:((m * M) * R+999).tdiv 1000=((m * M) * R+999) / 1000:=Int.tdiv_eq_ediv_of_nonneg (by omega)
  have e6:((m * M) * R).tdiv 1000=((m * M) * R) / 1000:=Int.tdiv_eq_ediv_of_nonneg q0
  have e7:((m * M) * R).tmod 1000=((m * M) * R) % 1000:=Int.tmod_eq_emod_of_nonneg q0
  rw[e1,e2,e3,e4,e5,e6,e7]
  generalize (m * M) * R=P at q0 q1
  rw[wr_in (n:=P / 1000) (by omega) (by omega),wr_in (n:=P / 1000+1) (by omega) (by omega),wr_in (n:=(P+999) / 1000) (by omega) (by omega),bif_nile]
  congr 2
  split<;>omega
theorem cap_num {b c r:Int} (b0:0≤b) (b1:b≤300) (c0:0≤c) (c1:c≤10000) (r0:0≤r) (r1:r≤300):wr .i64 (b+minS c (bif ile (wr .i64 (r-b)) 0 then 0 else wr .i64 (r-b)))=wr .i64 (wr .i64 (b+c)-(bif ile (minS c (wr .i64 (wr .i64 (b+c)-r))) 0 then 0 else minS c (wr .i64 (wr .i64 (b+c)-r))))∧0≤minS c (bif ile (wr .i64 (r-b)) 0 then 0 else wr .i64 (r-b))∧minS c (bif ile (wr .i64 (r-b)) 0 then 0 else wr .i64 (r-b))≤300:=by
 have e1:wr .i64 (b+c)=b+c:=wr_in (by omega) (by omega)
 have e2:wr .i64 (b+c-r)=b+c-r:=wr_in (by omega) (by omega)
 have e3:wr .i64 (r-b)=r-b:=wr_in (by omega) (by omega)
 rw[e1,e2,e3]
 unfold minS
 simp only[bif_ile]
 refine⟨?_,?_,?_⟩
 · rw [wr_in (by (repeat' split) <;> omega) (by (repeat' split) <;> omega), wr_in (by (repeat' split) <;> omega) (by (repeat' split) <;> omega)]
   (repeat' split)<;>omega
 · (repeat' split)<;>omega
 · (repeat' split)<;>omega
theorem rus_mono {m M N R S Q:Int} (q:Bool) (m0:0≤m) (m1:m≤12) (M0:0≤M) (MN:M≤N) (N1:N≤6) (R0:0≤R) (R1:R≤1000) (S0:0≤S) (SQ:S≤Q) (Q1:Q≤12) :
  wr .i64 ((bif q then wr .i64 ((wr .i64 (wr .i64 (wr .i64 (wr .i64 (m * M) * R)+1000)-1)).tdiv 1000) else wr .i64 (m * M))+S)≤wr .i64 ((bif q then wr .i64 ((wr .i64 (wr .i64 (wr .i64 (wr .i64 (m * N) * R)+1000)-1)).tdiv 1000) else wr .i64 (m * N))+Q):=by
 have go:∀ X:Int,0≤X→X≤6→∃ P,P=(m * X) * R∧0≤P∧P≤72000∧0≤m * X∧m * X≤72∧∀ S,0≤S→S≤12→wr .i64 ((bif q then wr .i64 ((wr .i64 (wr .i64 (wr .i64 (wr .i64 (m * X) * R)+1000)-1)).tdiv 1000) else wr .i64 (m * X))+S)=(bif q then (P+999) / 1000 else m * X)+S:=by
  intro X X0 X1
  have p0:0≤m * X:=Int.mul_nonneg m0 X0
  have p1:m * X≤12 * 6:=Int.mul_le_mul m1 X1 X0 (by decide)
  have q0:0≤(m * X) * R:=Int.mul_nonneg p0 R0
  have q1:(m * X) * R≤(12 * 6) * 1000:=Int.mul_le_mul p1 R1 R0 (by decide)
  refine⟨(m * X) * R,rfl,q0,by omega,p0,by omega,fun S S0 S1=>?_⟩
  have e1:wr .i64 (m * X)=m * X:=wr_in (by omega) (by omega)
  have e2:wr .i64 ((m * X) * R)=(m * X) * R:=wr_in (by omega) (by omega)
  have e3:wr .i64 ((m * X) * R+1000)=(m * X) * R+1000:=wr_in (by omega) (by omega)
  have e4:wr .i64 ((m * X) * R+1000-1)=(m * X) * R+999:=by rw[wr_in (by omega) (by omega)];omega
  have e5:((m * X) * R+999).tdiv 1000=((m * X) * R+999) / 1000:=Int.tdiv_eq_ediv_of_nonneg (by omega)
  rw[e1,e2,e3,e4,e5]
  have e6:wr .i64 (((m * X) * R+999) / 1000)=((m * X) * R+999) / 1000:=wr_in (by omega) (by omega)
  rw[e6]
  cases q with
  |true=>rw[cond_true,wr_in (by omega) (by omega)]
  |false=>rw[cond_false,wr_in (by omega) (by omega)]
 obtain⟨P,hP,P0,P1,a0,a1,eP⟩:=go M M0 (by omega)
 obtain⟨P',hP',P0',P1',a0',a1',eP'⟩:=go N (by omega) N1
 rw[eP S S0 (by omega),eP' Q (by omega) Q1]
 have h1:m * M≤m * N:=Int.mul_le_mul_of_nonneg_left MN m0
 have h2:P≤P':=by rw[hP,hP'];exact Int.mul_le_mul_of_nonneg_right h1 R0
 cases q with
 |true=>simp only[cond_true];omega
 |false=>simp only[cond_false];omega
theorem the_mono {b b' c r:Int} (b0:0≤b) (bb:b≤b') (b1:b'≤300) (c0:0≤c) (c1:c≤10000) (r0:0≤r) (r1:r≤300):maxS b (minS (wr .i64 (b+c)) r)≤maxS b' (minS (wr .i64 (b'+c)) r):=by
 have e1:wr .i64 (b+c)=b+c:=wr_in (by omega) (by omega)
 have e2:wr .i64 (b'+c)=b'+c:=wr_in (by omega) (by omega)
 rw[e1,e2]
 unfold maxS minS
 simp only[bif_ile]
 (repeat' split)<;>omega
noncomputable def fuU (s:tS.den) (k:Int) (t:tT.den) (n:Int):Nat→Int
 |0=>0
 |i+1=>wr .i64 (fuU s k t n i+(bif !ile (rusS s k t i (ile n i)) (theS s k (rmF s k t n i) (dcaS s k i s.2.2.1.2.length)) then theS s k (rmF s k t n i) (dcaS s k i s.2.2.1.2.length) else rusS s k t i (ile n i)))
noncomputable def fbB (s:tS.den) (k:Int) (t:tT.den) (n:Int):Nat→Int
 |0=>0
 |i+1=>wr .i64 (fbB s k t n i+capS s k (rmF s k t n i) (dcaS s k i s.2.2.1.2.length))
theorem kin_bd {s:tS.den} (H:StOK s) {k:Int} {t:tT.den} (T:TOk s k t):(@LE.le Int _ 0 (kdS s k).2.2.2.2.1∧@LE.le Int _ (kdS s k).2.2.2.2.1 300)∧(@LE.le Int _ 0 (kdS s k).2.2.2.2.2.1∧@LE.le Int _ (kdS s k).2.2.2.2.2.1 1000):=by
 have hk:=H.kin _ T.kind
 have hA:=hk.1
 unfold kA at hA
 simp only[Bool.and_eq_true] at hA
 obtain⟨_,_,_,_,r0,r1,_,_,_,_,_,_,_,_,q0,q1⟩:=hA
 exact⟨⟨ile_le r0,ile_le r1⟩,⟨ile_le q0,ile_le q1⟩⟩
def keepP (a b c d:Int):Prop:=a+b-c=d
theorem keep_eq {s:tS.den} (H:StOK s) {k:Int} {t:tT.den} (T:TOk s k t) (n:Int):∀ (i:Nat),i≤s.1.2.length→keepP t.1 (fbB s k t n i) (fuU s k t n i) (rmF s k t n i)∧(0≤fbB s k t n i∧fbB s k t n i≤300 * i)∧(0≤fuU s k t n i∧fuU s k t n i≤300 * i)
 |0,_=>⟨(by intro a;unfold keepP;omega:∀ a:Int,keepP a 0 0 a) t.1,⟨Int.le_refl 0,Int.le_refl 0⟩,⟨Int.le_refl 0,Int.le_refl 0⟩⟩
 |i+1,hi=>by
  obtain⟨e,hb,hu⟩:=keep_eq H T n i (by omega)
  obtain⟨_,b0,b1⟩:=morn_eq H T [] n i (by omega)
  obtain⟨h1,_,h3,h4⟩:=morn_step H T [] n (i:=i) (by omega) b0 b1
  have h30:=H.len.m2
  have hc8:=H.len.c2
  obtain⟨c0,c1⟩:=dca_bd H k i s.2.2.1.2.length (Nat.le_refl _)
  obtain⟨⟨r0,r1⟩,_⟩:=kin_bd H T
  have hcap:=cap_num (b:=rmF s k t n i) (c:=dcaS s k i s.2.2.1.2.length) (r:=(kdS s k).2.2.2.2.1) b0 b1 c0 (by omega) r0 r1
  have hT:wr .i64 (rmF s k t n i+capS s k (rmF s k t n i) (dcaS s k i s.2.2.1.2.length))=theS s k (rmF s k t n i) (dcaS s k i s.2.2.1.2.length):=hcap.1
  have g0:0≤capS s k (rmF s k t n i) (dcaS s k i s.2.2.1.2.length):=hcap.2.1
  have g1:capS s k (rmF s k t n i) (dcaS s k i s.2.2.1.2.length)≤300:=hcap.2.2
  rw[h1] at h3
  rw[wr_in (by omega) (by omega)] at hT
  have eB:fbB s k t n (i+1)=fbB s k t n i+capS s k (rmF s k t n i) (dcaS s k i s.2.2.1.2.length):=wr_in (by omega) (by omega)
  have eM:rmF s k t n (i+1)=bif !ile (rusS s k t i (ile n i)) (theS s k (rmF s k t n i) (dcaS s k i s.2.2.1.2.length)) then 0 else wr .i64 (theS s k (rmF s k t n i) (dcaS s k i s.2.2.1.2.length)-rusS s k t i (ile n i)):=rfl
  have eU:fuU s k t n (i+1)=wr .i64 (fuU s k t n i+(bif !ile (rusS s k t i (ile n i)) (theS s k (rmF s k t n i) (dcaS s k i s.2.2.1.2.length)) then theS s k (rmF s k t n i) (dcaS s k i s.2.2.1.2.length) else rusS s k t i (ile n i))):=rfl
  rw[eB,eM,eU]
  unfold keepP at e⊢
  generalize theS s k (rmF s k t n i) (dcaS s k i s.2.2.1.2.length)=TT at *
  generalize rusS s k t i (ile n i)=U at *
  generalize ht:(t.1:Int)=t1 at *
  rw[bif_nile,bif_nile]
  by_cases hx:U≤TT
  · rw [if_pos hx, if_pos hx, wr_in (n := TT - U) (by omega) (by omega), wr_in (n := fuU s k t n i + U) (by omega) (by omega)]
    exact⟨by omega,⟨by omega,by omega⟩,⟨by omega,by omega⟩⟩
  · rw [if_neg hx, if_neg hx, wr_in (n := fuU s k t n i + TT) (by omega) (by omega)]
    exact⟨by omega,⟨by omega,by omega⟩,⟨by omega,by omega⟩⟩
theorem mono_eq {s:tS.den} (H:StOK s) {k:Int} {t u:tT.den} (T:TOk s k t) (T':TOk s k u) (h1:@LE.le Int _ t.1 u.1) (h2:@LE.le Int _ u.2.1 t.2.1) (h3:@LE.le Int _ u.2.2.1 t.2.2.1) (n:Int):∀ (i:Nat),i≤s.1.2.length→rmF s k t n i≤rmF s k u n i∧rsF s k t n i≤rsF s k u n i
 |0,_=>⟨h1,Int.le_refl _⟩
 | i + 1, hi => by
  obtain⟨a1,a2⟩:=mono_eq H T T' h1 h2 h3 n i (by omega)
  obtain⟨_,b0,b1⟩:=morn_eq H T [] n i (by omega)
  obtain⟨_,b0',b1'⟩:=morn_eq H T' [] n i (by omega)
  obtain⟨e1,_,e3,e4⟩:=morn_step H T [] n (i:=i) (by omega) b0 b1
  obtain⟨e1',_,e3',e4'⟩:=morn_step H T' [] n (i:=i) (by omega) b0' b1'
  have hc8:=H.len.c2
  obtain⟨c0,c1⟩:=dca_bd H k i s.2.2.1.2.length (Nat.le_refl _)
  obtain⟨⟨r0,r1⟩,⟨q0,q1⟩⟩:=kin_bd H T
  have hm:=H.men (s.1.2.getD i tI.dflt) (by rw[List.getD_eq_getElem?_getD,List.getElem?_eq_getElem (show i<s.1.2.length by omega)];exact List.getElem_mem _)
  unfold mB at hm
  rw[Bool.and_eq_true] at hm
  have hU:rusS s k u i (ile n i)≤rusS s k t i (ile n i):=rus_mono (m:=s.1.2.getD i tI.dflt) (ile n i) (ile_le hm.1) (ile_le hm.2) T'.m0 h2 T.m1 q0 q1 T'.s0 h3 T.s1
  have hz:zOf 30 (stkS s [] k).2.2.1 ((i:Nat):Int).toNat=dcaS s k i s.2.2.1.2.length:=by
   show zOf 30 (mkZ (comF s k s.2.2.1.2.length) 30 0) _=_
   have h30:=H.len.m2
   rw[show ((i:Nat):Int).toNat=i by simp,zOf_mk _ 30 0 i (by omega),Nat.zero_add,com_dca H k i _ (Nat.le_refl _)]
  have eL:∀ b,lodS (stkS s [] k) b i=maxS b (minS (wr .i64 (b+dcaS s k i s.2.2.1.2.length)) (kdS s k).2.2.2.2.1):=fun b=>by
   unfold lodS;rw[hz];rfl
  have hT:=the_mono (c:=dcaS s k i s.2.2.1.2.length) (r:=(kdS s k).2.2.2.2.1) b0 a1 b1' c0 (by omega) r0 r1
  rw[← eL,← eL,e1,e1'] at hT
  rw[e1] at e3
  rw[e1'] at e3'
  obtain⟨_,s1⟩:=shrt_eq H T [] n i (by omega)
  obtain⟨_,s2⟩:=shrt_eq H T' [] n i (by omega)
  show (bif !ile (rusS s k t i (ile n i)) (theS s k (rmF s k t n i) (dcaS s k i s.2.2.1.2.length)) then 0 else wr .i64 (theS s k (rmF s k t n i) (dcaS s k i s.2.2.1.2.length)-rusS s k t i (ile n i)))≤(bif !ile (rusS s k u i (ile n i)) (theS s k (rmF s k u n i) (dcaS s k i s.2.2.1.2.length)) then 0 else wr .i64 (theS s k (rmF s k u n i) (dcaS s k i s.2.2.1.2.length)-rusS s k u i (ile n i)))∧(bif !ile (rusS s k t i (ile n i)) (theS s k (rmF s k t n i) (dcaS s k i s.2.2.1.2.length)) then (bif ieq (rsF s k t n i) s.1.2.length then ((i:Nat):Int) else rsF s k t n i) else rsF s k t n i)≤(bif !ile (rusS s k u i (ile n i)) (theS s k (rmF s k u n i) (dcaS s k i s.2.2.1.2.length)) then (bif ieq (rsF s k u n i) s.1.2.length then ((i:Nat):Int) else rsF s k u n i) else rsF s k u n i)
  generalize theS s k (rmF s k t n i) (dcaS s k i s.2.2.1.2.length)=X at *
  generalize theS s k (rmF s k u n i) (dcaS s k i s.2.2.1.2.length)=Y at *
  generalize rusS s k t i (ile n i)=U at *
  generalize rusS s k u i (ile n i)=W at *
  have bi:∀ a b:Int,(bif ieq a s.1.2.length then ((i:Nat):Int) else b)=if a=s.1.2.length then ((i:Nat):Int) else b:=fun a b=>by
   rw[ieq_iff];by_cases h:a=s.1.2.length
   · rw[decide_eq_true h,if_pos h];rfl
   · rw[decide_eq_false h,if_neg h];rfl
  rw[wr_in (n:=X-U) (by omega) (by omega),wr_in (n:=Y-W) (by omega) (by omega),bi,bi]
  simp only[bif_nile]
  constructor<;>(repeat' split)<;>omega
end Go.Proofs.YtelibdeanepdjaaGreat


set_option maxRecDepth 100000
namespace Go.Proofs.YtelibdeanepdjaaGreat
open Go Go.Eng
noncomputable def flwg0 (s:tS.den) (k:Int) (t:tT.den) (n:Int):List (Nat×AV):=[(0,(.agg [(.vs tI (s.1.1) (s.1.2)),(.vs tK (s.2.1.1) (s.2.1.2)),(.vs tC (s.2.2.1.1) (s.2.2.1.2))])),(1,(.int .i64 (k))),(2,(.agg [(.int .i64 (t.1)),(.int .i64 (t.2.1)),(.int .i64 (t.2.2.1))])),(3,(.int .i64 (n))),(4,(.ptr 0 0)),(6,(.ptr 1 0)),(8,.nils),(9,(.int .i64 (0))),(10,(.int .i64 (0))),(11,(.int .i64 (0))),(23,(.ptr 1 0)),(24,(.int .i64 (t.1))),(25,(.ptr 0 0)),(26,(.vs tI (s.1.1) (s.1.2))),(27,(.int .i64 (Int.ofNat s.1.2.length))),(28,(.int .i64 (t.1))),(29,(.sl 2 0 (1) (1) 1))]
noncomputable def flwg1 (t:tT.den) (s:tS.den):List (Nat×AV):=[(12,(.int .i64 (t.1))),(13,(.int .i64 (Int.ofNat s.1.2.length))),(14,(.int .i64 (0))),(15,(.int .i64 (0))),(16,(.sl 2 0 (1) (1) 1)),(17,(.int .i64 (0)))]
noncomputable def flwg2 (s:tS.den) (t:tT.den):List (Nat×AO):=[(0,(.cells false [(.vs tI (s.1.1) (s.1.2)),(.vs tK (s.2.1.1) (s.2.1.2)),(.vs tC (s.2.2.1.1) (s.2.2.1.2))])),(1,(.cells false [(.int .i64 (t.1)),(.int .i64 (t.2.1)),(.int .i64 (t.2.2.1))]))]
noncomputable def flwI0 (s:tS.den) (k:Int) (t:tT.den) (n:Int) (x66:Nat):Cfg:=⟨.ex (pcOf F9 25 [0,0,1,0,1,1,1]) ⟨(tmOf 140 (flwg0 s k t n++flwg1 t s)),(hpOf 3 (flwg2 s t++[(2,(.cells false ([AV.int IntKind.i64 t.1])))])),[],[],140,false⟩,⟨40,[]⟩,[(.lop (pcOf F9 25 [0,0,1,0,1,1,1]) 3 (tmOf 140 (flwg0 s k t n++flwg1 t s)) x66),(.blk 0),(.seq (pcOf F9 25 [1,1,1,1])),(.cal [(.tmp 8),(.tmp 9),(.tmp 10),(.tmp 11)] .top)]⟩
noncomputable def flwg3 (s:tS.den):List (Nat×AV):=[(31,(.ptr 0 0)),(32,(.vs tI (s.1.1) (s.1.2))),(33,(.int .i64 (Int.ofNat s.1.2.length))),(34,(.bool (true)))]
noncomputable def flwI1 (s:tS.den) (k:Int) (t:tT.den) (n:Int) (x21:Int) (x22:Int) (x80:Nat) (x109:Nat):Cfg:=⟨.ex (pcOf F9 25 [0,0,1,0,1,0,0,1,0,0,1,0,1,1,1]) ⟨(tmOf 140 (flwg0 s k t n++flwg1 t s++flwg3 s++[(18,(.int .i64 x21)),(19,(.int .i64 x22)),(30,(.int .i64 (0)))])),(hpOf 3 (flwg2 s t++[(2,(.cells false ([AV.int IntKind.i64 t.1])))])),[],[],140,false⟩,⟨40,[]⟩,[(.lop (pcOf F9 25 [0,0,1,0,1,0,0,1,0,0,1,0,1,1,1]) 3 (tmOf 140 (flwg0 s k t n++flwg1 t s++flwg3 s++[(18,(.int .i64 (0))),(19,(.int .i64 (0))),(30,(.int .i64 (0)))])) x80),(.blk 2),(.seq (pcOf F9 25 [1,1,0,0,1,0,0,1,0,1,1,1])),(.blk 1),(.seq (pcOf F9 25 [1,1,0,0,1,0,1,1,1])),(.lop (pcOf F9 25 [0,0,1,0,1,1,1]) 3 (tmOf 140 (flwg0 s k t n++flwg1 t s)) x109),(.blk 0),(.seq (pcOf F9 25 [1,1,1,1])),(.cal [(.tmp 8),(.tmp 9),(.tmp 10),(.tmp 11)] .top)]⟩
noncomputable def flwI2 (s:tS.den) (k:Int) (t:tT.den) (n:Int) (x14:Int) (x15:Int) (x16:Int) (x17:Int) (x18:Nat) (x20:Int) (x37:List AV) (x66:Nat):Cfg:=⟨.ex (pcOf F9 25 [0,0,1,0,1,1,1]) ⟨(tmOf 140 (flwg0 s k t n++[(12,(.int .i64 x14)),(13,(.int .i64 x15)),(14,(.int .i64 x16)),(15,(.int .i64 x17)),(16,(.sl 3 0 x18 x18 1)),(17,(.int .i64 x20))])),(hpOf 4 (flwg2 s t++[(2,.gone),(3,(.cells false x37))])),[],[],140,false⟩,⟨40,[]⟩,[(.lop (pcOf F9 25 [0,0,1,0,1,1,1]) 3 (tmOf 140 (flwg0 s k t n++flwg1 t s)) x66),(.blk 0),(.seq (pcOf F9 25 [1,1,1,1])),(.cal [(.tmp 8),(.tmp 9),(.tmp 10),(.tmp 11)] .top)]⟩
noncomputable def flwI3 (s:tS.den) (k:Int) (t:tT.den) (n:Int) (x14:Int) (x15:Int) (x16:Int) (x17:Int) (x18:Nat) (x20:Int) (x21:Int) (x22:Int) (x44:List AV) (x80:Nat) (x109:Nat):Cfg:=⟨.ex (pcOf F9 25 [0,0,1,0,1,0,0,1,0,0,1,0,1,1,1]) ⟨(tmOf 140 (flwg0 s k t n++flwg3 s++[(12,(.int .i64 x14)),(13,(.int .i64 x15)),(14,(.int .i64 x16)),(15,(.int .i64 x17)),(16,(.sl 3 0 x18 x18 1)),(17,(.int .i64 x20)),(18,(.int .i64 x21)),(19,(.int .i64 x22)),(30,(.int .i64 x20))])),(hpOf 4 (flwg2 s t++[(2,.gone),(3,(.cells false x44))])),[],[],140,false⟩,⟨40,[]⟩,[(.lop (pcOf F9 25 [0,0,1,0,1,0,0,1,0,0,1,0,1,1,1]) 4 (tmOf 140 (flwg0 s k t n++flwg3 s++[(12,(.int .i64 x14)),(13,(.int .i64 x15)),(14,(.int .i64 x16)),(15,(.int .i64 x17)),(16,(.sl 3 0 x18 x18 1)),(17,(.int .i64 x20)),(18,(.int .i64 (0))),(19,(.int .i64 (0))),(30,(.int .i64 x20))])) x80),(.blk 2),(.seq (pcOf F9 25 [1,1,0,0,1,0,0,1,0,1,1,1])),(.blk 1),(.seq (pcOf F9 25 [1,1,0,0,1,0,1,1,1])),(.lop (pcOf F9 25 [0,0,1,0,1,1,1]) 3 (tmOf 140 (flwg0 s k t n++flwg1 t s)) x109),(.blk 0),(.seq (pcOf F9 25 [1,1,1,1])),(.cal [(.tmp 8),(.tmp 9),(.tmp 10),(.tmp 11)] .top)]⟩
theorem flw_start (s:tS.den) (k:Int) (t:tT.den) (n:Int):adv F9 (Z9 [25]) 3000 (startC F9 25 [tS.av s,.int .i64 k,tT.av t,.int .i64 n] 40)=some (.stop (flwI0 s k t n (1048575))):=by kernel_rfl
theorem flw_step0 (s:tS.den) (k:Int) (t:tT.den) (n:Int) (x66:Nat):adv F9 (Z9 [25]) 3000 (flwI0 s k t n (x66+1))=(bif !ile (↑s.1.2.length) 0 then some (.stop (flwI1 s k t n (0) (0) (1048575) (x66+1))) else some (.done (.tup [(.csl [(.int .i64 (t.1))] 1),(.int .i64 (Int.ofNat s.1.2.length)),(.int .i64 (0)),(.int .i64 (0))]))):=by kernel_rfl
theorem flw_step1 (s:tS.den) (k:Int) (t:tT.den) (n:Int) (x21:Int) (x22:Int) (x80:Nat) (x109:Nat):adv F9 (Z9 [25]) 3000 (flwI1 s k t n x21 x22 (x80+1) (x109+1))=(bif !ile (↑s.2.2.1.2.length) x22 then (bif inB x22 s.2.2.1.2.length then (bif ieq (s.2.2.1.2.getD x22.toNat tC.dflt).2.1 k then (bif inB x22 s.2.2.1.2.length then (bif ieq (s.2.2.1.2.getD x22.toNat tC.dflt).1 0 then (bif inB x22 s.2.2.1.2.length then some (.stop (flwI1 s k t n (wr .i64 (x21+(s.2.2.1.2.getD x22.toNat tC.dflt).2.2.1)) (wr .i64 (x22+1)) (x80) (x109+1))) else none) else some (.stop (flwI1 s k t n (x21) (wr .i64 (x22+1)) (x80) (x109+1)))) else none) else some (.stop (flwI1 s k t n (x21) (wr .i64 (x22+1)) (x80) (x109+1)))) else none) else (bif inB k s.2.1.2.length then (bif inB 0 s.1.2.length then (bif ile n 0 then (bif inB k s.2.1.2.length then (bif !ile ((wr .i64 (wr .i64 (s.1.2.getD (Int.toNat 0) tI.dflt * t.2.1) * (s.2.1.2.getD k.toNat tK.dflt).2.2.2.2.2.1)).tmod 1000) 0 then (bif !ile (wr .i64 (wr .i64 (wr .i64 ((wr .i64 (wr .i64 (s.1.2.getD (Int.toNat 0) tI.dflt * t.2.1) * (s.2.1.2.getD k.toNat tK.dflt).2.2.2.2.2.1)).tdiv 1000)+1)+t.2.2.1)) (wr .i64 (t.1+bif ile x21 (bif ile (wr .i64 ((s.2.1.2.getD k.toNat tK.dflt).2.2.2.2.1-t.1)) 0 then 0 else wr .i64 ((s.2.1.2.getD k.toNat tK.dflt).2.2.2.2.1-t.1)) then x21 else bif ile (wr .i64 ((s.2.1.2.getD k.toNat tK.dflt).2.2.2.2.1-t.1)) 0 then 0 else wr .i64 ((s.2.1.2.getD k.toNat tK.dflt).2.2.2.2.1-t.1))) then some (.stop (flwI2 s k t n (wr .i64 (wr .i64 (t.1+bif ile x21 (bif ile (wr .i64 ((s.2.1.2.getD k.toNat tK.dflt).2.2.2.2.1-t.1)) 0 then 0 else wr .i64 ((s.2.1.2.getD k.toNat tK.dflt).2.2.2.2.1-t.1)) then x21 else bif ile (wr .i64 ((s.2.1.2.getD k.toNat tK.dflt).2.2.2.2.1-t.1)) 0 then 0 else wr .i64 ((s.2.1.2.getD k.toNat tK.dflt).2.2.2.2.1-t.1))-wr .i64 (t.1+bif ile x21 (bif ile (wr .i64 ((s.2.1.2.getD k.toNat tK.dflt).2.2.2.2.1-t.1)) 0 then 0 else wr .i64 ((s.2.1.2.getD k.toNat tK.dflt).2.2.2.2.1-t.1)) then x21 else bif ile (wr .i64 ((s.2.1.2.getD k.toNat tK.dflt).2.2.2.2.1-t.1)) 0 then 0 else wr .i64 ((s.2.1.2.getD k.toNat tK.dflt).2.2.2.2.1-t.1)))) (bif ile (Int.ofNat s.1.2.length) 0 then Int.ofNat s.1.2.length else 0) (wr .i64 (0+wr .i64 (t.1+bif ile x21 (bif ile (wr .i64 ((s.2.1.2.getD k.toNat tK.dflt).2.2.2.2.1-t.1)) 0 then 0 else wr .i64 ((s.2.1.2.getD k.toNat tK.dflt).2.2.2.2.1-t.1)) then x21 else bif ile (wr .i64 ((s.2.1.2.getD k.toNat tK.dflt).2.2.2.2.1-t.1)) 0 then 0 else wr .i64 ((s.2.1.2.getD k.toNat tK.dflt).2.2.2.2.1-t.1)))) (wr .i64 (0+bif ile x21 (bif ile (wr .i64 ((s.2.1.2.getD k.toNat tK.dflt).2.2.2.2.1-t.1)) 0 then 0 else wr .i64 ((s.2.1.2.getD k.toNat tK.dflt).2.2.2.2.1-t.1)) then x21 else bif ile (wr .i64 ((s.2.1.2.getD k.toNat tK.dflt).2.2.2.2.1-t.1)) 0 then 0 else wr .i64 ((s.2.1.2.getD k.toNat tK.dflt).2.2.2.2.1-t.1))) (2) (1) ([AV.int IntKind.i64 t.1,AV.int IntKind.i64 (wr .i64 (wr .i64 (t.1+bif ile x21 (bif ile (wr .i64 ((s.2.1.2.getD k.toNat tK.dflt).2.2.2.2.1-t.1)) 0 then 0 else wr .i64 ((s.2.1.2.getD k.toNat tK.dflt).2.2.2.2.1-t.1)) then x21 else bif ile (wr .i64 ((s.2.1.2.getD k.toNat tK.dflt).2.2.2.2.1-t.1)) 0 then 0 else wr .i64 ((s.2.1.2.getD k.toNat tK.dflt).2.2.2.2.1-t.1))-wr .i64 (t.1+bif ile x21 (bif ile (wr .i64 ((s.2.1.2.getD k.toNat tK.dflt).2.2.2.2.1-t.1)) 0 then 0 else wr .i64 ((s.2.1.2.getD k.toNat tK.dflt).2.2.2.2.1-t.1)) then x21 else bif ile (wr .i64 ((s.2.1.2.getD k.toNat tK.dflt).2.2.2.2.1-t.1)) 0 then 0 else wr .i64 ((s.2.1.2.getD k.toNat tK.dflt).2.2.2.2.1-t.1))))]) (x109))) else some (.stop (flwI2 s k t n (wr .i64 (wr .i64 (t.1+bif ile x21 (bif ile (wr .i64 ((s.2.1.2.getD k.toNat tK.dflt).2.2.2.2.1-t.1)) 0 then 0 else wr .i64 ((s.2.1.2.getD k.toNat tK.dflt).2.2.2.2.1-t.1)) then x21 else bif ile (wr .i64 ((s.2.1.2.getD k.toNat tK.dflt).2.2.2.2.1-t.1)) 0 then 0 else wr .i64 ((s.2.1.2.getD k.toNat tK.dflt).2.2.2.2.1-t.1))-wr .i64 (wr .i64 (wr .i64 ((wr .i64 (wr .i64 (s.1.2.getD (Int.toNat 0) tI.dflt * t.2.1) * (s.2.1.2.getD k.toNat tK.dflt).2.2.2.2.2.1)).tdiv 1000)+1)+t.2.2.1))) (Int.ofNat s.1.2.length) (wr .i64 (0+wr .i64 (wr .i64 (wr .i64 ((wr .i64 (wr .i64 (s.1.2.getD (Int.toNat 0) tI.dflt * t.2.1) * (s.2.1.2.getD k.toNat tK.dflt).2.2.2.2.2.1)).tdiv 1000)+1)+t.2.2.1))) (wr .i64 (0+bif ile x21 (bif ile (wr .i64 ((s.2.1.2.getD k.toNat tK.dflt).2.2.2.2.1-t.1)) 0 then 0 else wr .i64 ((s.2.1.2.getD k.toNat tK.dflt).2.2.2.2.1-t.1)) then x21 else bif ile (wr .i64 ((s.2.1.2.getD k.toNat tK.dflt).2.2.2.2.1-t.1)) 0 then 0 else wr .i64 ((s.2.1.2.getD k.toNat tK.dflt).2.2.2.2.1-t.1))) (2) (1) ([AV.int IntKind.i64 t.1,AV.int IntKind.i64 (wr .i64 (wr .i64 (t.1+bif ile x21 (bif ile (wr .i64 ((s.2.1.2.getD k.toNat tK.dflt).2.2.2.2.1-t.1)) 0 then 0 else wr .i64 ((s.2.1.2.getD k.toNat tK.dflt).2.2.2.2.1-t.1)) then x21 else bif ile (wr .i64 ((s.2.1.2.getD k.toNat tK.dflt).2.2.2.2.1-t.1)) 0 then 0 else wr .i64 ((s.2.1.2.getD k.toNat tK.dflt).2.2.2.2.1-t.1))-wr .i64 (wr .i64 (wr .i64 ((wr .i64 (wr .i64 (s.1.2.getD (Int.toNat 0) tI.dflt * t.2.1) * (s.2.1.2.getD k.toNat tK.dflt).2.2.2.2.2.1)).tdiv 1000)+1)+t.2.2.1)))]) (x109)))) else (bif !ile (wr .i64 (wr .i64 ((wr .i64 (wr .i64 (s.1.2.getD (Int.toNat 0) tI.dflt * t.2.1) * (s.2.1.2.getD k.toNat tK.dflt).2.2.2.2.2.1)).tdiv 1000)+t.2.2.1)) (wr .i64 (t.1+bif ile x21 (bif ile (wr .i64 ((s.2.1.2.getD k.toNat tK.dflt).2.2.2.2.1-t.1)) 0 then 0 else wr .i64 ((s.2.1.2.getD k.toNat tK.dflt).2.2.2.2.1-t.1)) then x21 else bif ile (wr .i64 ((s.2.1.2.getD k.toNat tK.dflt).2.2.2.2.1-t.1)) 0 then 0 else wr .i64 ((s.2.1.2.getD k.toNat tK.dflt).2.2.2.2.1-t.1))) then some (.stop (flwI2 s k t n (wr .i64 (wr .i64 (t.1+bif ile x21 (bif ile (wr .i64 ((s.2.1.2.getD k.toNat tK.dflt).2.2.2.2.1-t.1)) 0 then 0 else wr .i64 ((s.2.1.2.getD k.toNat tK.dflt).2.2.2.2.1-t.1)) then x21 else bif ile (wr .i64 ((s.2.1.2.getD k.toNat tK.dflt).2.2.2.2.1-t.1)) 0 then 0 else wr .i64 ((s.2.1.2.getD k.toNat tK.dflt).2.2.2.2.1-t.1))-wr .i64 (t.1+bif ile x21 (bif ile (wr .i64 ((s.2.1.2.getD k.toNat tK.dflt).2.2.2.2.1-t.1)) 0 then 0 else wr .i64 ((s.2.1.2.getD k.toNat tK.dflt).2.2.2.2.1-t.1)) then x21 else bif ile (wr .i64 ((s.2.1.2.getD k.toNat tK.dflt).2.2.2.2.1-t.1)) 0 then 0 else wr .i64 ((s.2.1.2.getD k.toNat tK.dflt).2.2.2.2.1-t.1)))) (bif ile (Int.ofNat s.1.2.length) 0 then Int.ofNat s.1.2.length else 0) (wr .i64 (0+wr .i64 (t.1+bif ile x21 (bif ile (wr .i64 ((s.2.1.2.getD k.toNat tK.dflt).2.2.2.2.1-t.1)) 0 then 0 else wr .i64 ((s.2.1.2.getD k.toNat tK.dflt).2.2.2.2.1-t.1)) then x21 else bif ile (wr .i64 ((s.2.1.2.getD k.toNat tK.dflt).2.2.2.2.1-t.1)) 0 then 0 else wr .i64 ((s.2.1.2.getD k.toNat tK.dflt).2.2.2.2.1-t.1)))) (wr .i64 (0+bif ile x21 (bif ile (wr .i64 ((s.2.1.2.getD k.toNat tK.dflt).2.2.2.2.1-t.1)) 0 then 0 else wr .i64 ((s.2.1.2.getD k.toNat tK.dflt).2.2.2.2.1-t.1)) then x21 else bif ile (wr .i64 ((s.2.1.2.getD k.toNat tK.dflt).2.2.2.2.1-t.1)) 0 then 0 else wr .i64 ((s.2.1.2.getD k.toNat tK.dflt).2.2.2.2.1-t.1))) (2) (1) ([AV.int IntKind.i64 t.1,AV.int IntKind.i64 (wr .i64 (wr .i64 (t.1+bif ile x21 (bif ile (wr .i64 ((s.2.1.2.getD k.toNat tK.dflt).2.2.2.2.1-t.1)) 0 then 0 else wr .i64 ((s.2.1.2.getD k.toNat tK.dflt).2.2.2.2.1-t.1)) then x21 else bif ile (wr .i64 ((s.2.1.2.getD k.toNat tK.dflt).2.2.2.2.1-t.1)) 0 then 0 else wr .i64 ((s.2.1.2.getD k.toNat tK.dflt).2.2.2.2.1-t.1))-wr .i64 (t.1+bif ile x21 (bif ile (wr .i64 ((s.2.1.2.getD k.toNat tK.dflt).2.2.2.2.1-t.1)) 0 then 0 else wr .i64 ((s.2.1.2.getD k.toNat tK.dflt).2.2.2.2.1-t.1)) then x21 else bif ile (wr .i64 ((s.2.1.2.getD k.toNat tK.dflt).2.2.2.2.1-t.1)) 0 then 0 else wr .i64 ((s.2.1.2.getD k.toNat tK.dflt).2.2.2.2.1-t.1))))]) (x109))) else some (.stop (flwI2 s k t n (wr .i64 (wr .i64 (t.1+bif ile x21 (bif ile (wr .i64 ((s.2.1.2.getD k.toNat tK.dflt).2.2.2.2.1-t.1)) 0 then 0 else wr .i64 ((s.2.1.2.getD k.toNat tK.dflt).2.2.2.2.1-t.1)) then x21 else bif ile (wr .i64 ((s.2.1.2.getD k.toNat tK.dflt).2.2.2.2.1-t.1)) 0 then 0 else wr .i64 ((s.2.1.2.getD k.toNat tK.dflt).2.2.2.2.1-t.1))-wr .i64 (wr .i64 ((wr .i64 (wr .i64 (s.1.2.getD (Int.toNat 0) tI.dflt * t.2.1) * (s.2.1.2.getD k.toNat tK.dflt).2.2.2.2.2.1)).tdiv 1000)+t.2.2.1))) (Int.ofNat s.1.2.length) (wr .i64 (0+wr .i64 (wr .i64 ((wr .i64 (wr .i64 (s.1.2.getD (Int.toNat 0) tI.dflt * t.2.1) * (s.2.1.2.getD k.toNat tK.dflt).2.2.2.2.2.1)).tdiv 1000)+t.2.2.1))) (wr .i64 (0+bif ile x21 (bif ile (wr .i64 ((s.2.1.2.getD k.toNat tK.dflt).2.2.2.2.1-t.1)) 0 then 0 else wr .i64 ((s.2.1.2.getD k.toNat tK.dflt).2.2.2.2.1-t.1)) then x21 else bif ile (wr .i64 ((s.2.1.2.getD k.toNat tK.dflt).2.2.2.2.1-t.1)) 0 then 0 else wr .i64 ((s.2.1.2.getD k.toNat tK.dflt).2.2.2.2.1-t.1))) (2) (1) ([AV.int IntKind.i64 t.1,AV.int IntKind.i64 (wr .i64 (wr .i64 (t.1+bif ile x21 (bif ile (wr .i64 ((s.2.1.2.getD k.toNat tK.dflt).2.2.2.2.1-t.1)) 0 then 0 else wr .i64 ((s.2.1.2.getD k.toNat tK.dflt).2.2.2.2.1-t.1)) then x21 else bif ile (wr .i64 ((s.2.1.2.getD k.toNat tK.dflt).2.2.2.2.1-t.1)) 0 then 0 else wr .i64 ((s.2.1.2.getD k.toNat tK.dflt).2.2.2.2.1-t.1))-wr .i64 (wr .i64 ((wr .i64 (wr .i64 (s.1.2.getD (Int.toNat 0) tI.dflt * t.2.1) * (s.2.1.2.getD k.toNat tK.dflt).2.2.2.2.2.1)).tdiv 1000)+t.2.2.1)))]) (x109))))) else none) else (bif !ile (wr .i64 (wr .i64 (s.1.2.getD (Int.toNat 0) tI.dflt * t.2.1)+t.2.2.1)) (wr .i64 (t.1+bif ile x21 (bif ile (wr .i64 ((s.2.1.2.getD k.toNat tK.dflt).2.2.2.2.1-t.1)) 0 then 0 else wr .i64 ((s.2.1.2.getD k.toNat tK.dflt).2.2.2.2.1-t.1)) then x21 else bif ile (wr .i64 ((s.2.1.2.getD k.toNat tK.dflt).2.2.2.2.1-t.1)) 0 then 0 else wr .i64 ((s.2.1.2.getD k.toNat tK.dflt).2.2.2.2.1-t.1))) then some (.stop (flwI2 s k t n (wr .i64 (wr .i64 (t.1+bif ile x21 (bif ile (wr .i64 ((s.2.1.2.getD k.toNat tK.dflt).2.2.2.2.1-t.1)) 0 then 0 else wr .i64 ((s.2.1.2.getD k.toNat tK.dflt).2.2.2.2.1-t.1)) then x21 else bif ile (wr .i64 ((s.2.1.2.getD k.toNat tK.dflt).2.2.2.2.1-t.1)) 0 then 0 else wr .i64 ((s.2.1.2.getD k.toNat tK.dflt).2.2.2.2.1-t.1))-wr .i64 (t.1+bif ile x21 (bif ile (wr .i64 ((s.2.1.2.getD k.toNat tK.dflt).2.2.2.2.1-t.1)) 0 then 0 else wr .i64 ((s.2.1.2.getD k.toNat tK.dflt).2.2.2.2.1-t.1)) then x21 else bif ile (wr .i64 ((s.2.1.2.getD k.toNat tK.dflt).2.2.2.2.1-t.1)) 0 then 0 else wr .i64 ((s.2.1.2.getD k.toNat tK.dflt).2.2.2.2.1-t.1)))) (bif ile (Int.ofNat s.1.2.length) 0 then Int.ofNat s.1.2.length else 0) (wr .i64 (0+wr .i64 (t.1+bif ile x21 (bif ile (wr .i64 ((s.2.1.2.getD k.toNat tK.dflt).2.2.2.2.1-t.1)) 0 then 0 else wr .i64 ((s.2.1.2.getD k.toNat tK.dflt).2.2.2.2.1-t.1)) then x21 else bif ile (wr .i64 ((s.2.1.2.getD k.toNat tK.dflt).2.2.2.2.1-t.1)) 0 then 0 else wr .i64 ((s.2.1.2.getD k.toNat tK.dflt).2.2.2.2.1-t.1)))) (wr .i64 (0+bif ile x21 (bif ile (wr .i64 ((s.2.1.2.getD k.toNat tK.dflt).2.2.2.2.1-t.1)) 0 then 0 else wr .i64 ((s.2.1.2.getD k.toNat tK.dflt).2.2.2.2.1-t.1)) then x21 else bif ile (wr .i64 ((s.2.1.2.getD k.toNat tK.dflt).2.2.2.2.1-t.1)) 0 then 0 else wr .i64 ((s.2.1.2.getD k.toNat tK.dflt).2.2.2.2.1-t.1))) (2) (1) ([AV.int IntKind.i64 t.1,AV.int IntKind.i64 (wr .i64 (wr .i64 (t.1+bif ile x21 (bif ile (wr .i64 ((s.2.1.2.getD k.toNat tK.dflt).2.2.2.2.1-t.1)) 0 then 0 else wr .i64 ((s.2.1.2.getD k.toNat tK.dflt).2.2.2.2.1-t.1)) then x21 else bif ile (wr .i64 ((s.2.1.2.getD k.toNat tK.dflt).2.2.2.2.1-t.1)) 0 then 0 else wr .i64 ((s.2.1.2.getD k.toNat tK.dflt).2.2.2.2.1-t.1))-wr .i64 (t.1+bif ile x21 (bif ile (wr .i64 ((s.2.1.2.getD k.toNat tK.dflt).2.2.2.2.1-t.1)) 0 then 0 else wr .i64 ((s.2.1.2.getD k.toNat tK.dflt).2.2.2.2.1-t.1)) then x21 else bif ile (wr .i64 ((s.2.1.2.getD k.toNat tK.dflt).2.2.2.2.1-t.1)) 0 then 0 else wr .i64 ((s.2.1.2.getD k.toNat tK.dflt).2.2.2.2.1-t.1))))]) (x109))) else some (.stop (flwI2 s k t n (wr .i64 (wr .i64 (t.1+bif ile x21 (bif ile (wr .i64 ((s.2.1.2.getD k.toNat tK.dflt).2.2.2.2.1-t.1)) 0 then 0 else wr .i64 ((s.2.1.2.getD k.toNat tK.dflt).2.2.2.2.1-t.1)) then x21 else bif ile (wr .i64 ((s.2.1.2.getD k.toNat tK.dflt).2.2.2.2.1-t.1)) 0 then 0 else wr .i64 ((s.2.1.2.getD k.toNat tK.dflt).2.2.2.2.1-t.1))-wr .i64 (wr .i64 (s.1.2.getD (Int.toNat 0) tI.dflt * t.2.1)+t.2.2.1))) (Int.ofNat s.1.2.length) (wr .i64 (0+wr .i64 (wr .i64 (s.1.2.getD (Int.toNat 0) tI.dflt * t.2.1)+t.2.2.1))) (wr .i64 (0+bif ile x21 (bif ile (wr .i64 ((s.2.1.2.getD k.toNat tK.dflt).2.2.2.2.1-t.1)) 0 then 0 else wr .i64 ((s.2.1.2.getD k.toNat tK.dflt).2.2.2.2.1-t.1)) then x21 else bif ile (wr .i64 ((s.2.1.2.getD k.toNat tK.dflt).2.2.2.2.1-t.1)) 0 then 0 else wr .i64 ((s.2.1.2.getD k.toNat tK.dflt).2.2.2.2.1-t.1))) (2) (1) ([AV.int IntKind.i64 t.1,AV.int IntKind.i64 (wr .i64 (wr .i64 (t.1+bif ile x21 (bif ile (wr .i64 ((s.2.1.2.getD k.toNat tK.dflt).2.2.2.2.1-t.1)) 0 then 0 else wr .i64 ((s.2.1.2.getD k.toNat tK.dflt).2.2.2.2.1-t.1)) then x21 else bif ile (wr .i64 ((s.2.1.2.getD k.toNat tK.dflt).2.2.2.2.1-t.1)) 0 then 0 else wr .i64 ((s.2.1.2.getD k.toNat tK.dflt).2.2.2.2.1-t.1))-wr .i64 (wr .i64 (s.1.2.getD (Int.toNat 0) tI.dflt * t.2.1)+t.2.2.1)))]) (x109))))) else none) else none)):=by kernel_rfl
theorem flw_step2 (s:tS.den) (k:Int) (t:tT.den) (n:Int) (x14:Int) (x15:Int) (x16:Int) (x17:Int) (x18:Nat) (x20:Int) (x37:List AV) (x66:Nat):adv F9 (Z9 [25]) 3000 (flwI2 s k t n x14 x15 x16 x17 x18 x20 x37 (x66+1))=(bif !ile (↑s.1.2.length) x20 then some (.stop (flwI3 s k t n (x14) (x15) (x16) (x17) (x18) (x20) (0) (0) (x37) (1048575) (x66+1))) else (bif plainL x37 then some (.done (.tup [(.csl (x37) (x18)),(.int .i64 (x15)),(.int .i64 (x16)),(.int .i64 (x17))])) else none)):=by kernel_rfl
theorem flw_step3 (s:tS.den) (k:Int) (t:tT.den) (n:Int) (x14:Int) (x15:Int) (x16:Int) (x17:Int) (x18:Nat) (x20:Int) (x21:Int) (x22:Int) (x44:List AV) (x80:Nat) (x109:Nat):adv F9 (Z9 [25]) 3000 (flwI3 s k t n x14 x15 x16 x17 x18 x20 x21 x22 x44 (x80+1) (x109+1))=(bif !ile (↑s.2.2.1.2.length) x22 then (bif inB x22 s.2.2.1.2.length then (bif ieq (s.2.2.1.2.getD x22.toNat tC.dflt).2.1 k then (bif inB x22 s.2.2.1.2.length then (bif ieq (s.2.2.1.2.getD x22.toNat tC.dflt).1 x20 then (bif inB x22 s.2.2.1.2.length then (bif plO (AO.cells false x44) then some (.stop (flwI3 s k t n (x14) (x15) (x16) (x17) (x18) (x20) (wr .i64 (x21+(s.2.2.1.2.getD x22.toNat tC.dflt).2.2.1)) (wr .i64 (x22+1)) (x44) (x80) (x109+1))) else none) else none) else (bif plO (AO.cells false x44) then some (.stop (flwI3 s k t n (x14) (x15) (x16) (x17) (x18) (x20) (x21) (wr .i64 (x22+1)) (x44) (x80) (x109+1))) else none)) else none) else (bif plO (AO.cells false x44) then some (.stop (flwI3 s k t n (x14) (x15) (x16) (x17) (x18) (x20) (x21) (wr .i64 (x22+1)) (x44) (x80) (x109+1))) else none)) else none) else (bif inB k s.2.1.2.length then (bif inB x20 s.1.2.length then (bif ile n x20 then (bif inB k s.2.1.2.length then (bif !ile ((wr .i64 (wr .i64 (s.1.2.getD x20.toNat tI.dflt * t.2.1) * (s.2.1.2.getD k.toNat tK.dflt).2.2.2.2.2.1)).tmod 1000) 0 then (bif !ile (wr .i64 (wr .i64 (wr .i64 ((wr .i64 (wr .i64 (s.1.2.getD x20.toNat tI.dflt * t.2.1) * (s.2.1.2.getD k.toNat tK.dflt).2.2.2.2.2.1)).tdiv 1000)+1)+t.2.2.1)) (wr .i64 (x14+bif ile x21 (bif ile (wr .i64 ((s.2.1.2.getD k.toNat tK.dflt).2.2.2.2.1-x14)) 0 then 0 else wr .i64 ((s.2.1.2.getD k.toNat tK.dflt).2.2.2.2.1-x14)) then x21 else bif ile (wr .i64 ((s.2.1.2.getD k.toNat tK.dflt).2.2.2.2.1-x14)) 0 then 0 else wr .i64 ((s.2.1.2.getD k.toNat tK.dflt).2.2.2.2.1-x14))) then (bif (0+x18 * 1).beq x44.length then (bif x18.ble 1048576 then (bif plO (AO.cells false (x44++[AV.int IntKind.i64 (wr .i64 (wr .i64 (x14+bif ile x21 (bif ile (wr .i64 ((s.2.1.2.getD k.toNat tK.dflt).2.2.2.2.1-x14)) 0 then 0 else wr .i64 ((s.2.1.2.getD k.toNat tK.dflt).2.2.2.2.1-x14)) then x21 else bif ile (wr .i64 ((s.2.1.2.getD k.toNat tK.dflt).2.2.2.2.1-x14)) 0 then 0 else wr .i64 ((s.2.1.2.getD k.toNat tK.dflt).2.2.2.2.1-x14))-wr .i64 (x14+bif ile x21 (bif ile (wr .i64 ((s.2.1.2.getD k.toNat tK.dflt).2.2.2.2.1-x14)) 0 then 0 else wr .i64 ((s.2.1.2.getD k.toNat tK.dflt).2.2.2.2.1-x14)) then x21 else bif ile (wr .i64 ((s.2.1.2.getD k.toNat tK.dflt).2.2.2.2.1-x14)) 0 then 0 else wr .i64 ((s.2.1.2.getD k.toNat tK.dflt).2.2.2.2.1-x14))))])) then some (.stop (flwI2 s k t n (wr .i64 (wr .i64 (x14+bif ile x21 (bif ile (wr .i64 ((s.2.1.2.getD k.toNat tK.dflt).2.2.2.2.1-x14)) 0 then 0 else wr .i64 ((s.2.1.2.getD k.toNat tK.dflt).2.2.2.2.1-x14)) then x21 else bif ile (wr .i64 ((s.2.1.2.getD k.toNat tK.dflt).2.2.2.2.1-x14)) 0 then 0 else wr .i64 ((s.2.1.2.getD k.toNat tK.dflt).2.2.2.2.1-x14))-wr .i64 (x14+bif ile x21 (bif ile (wr .i64 ((s.2.1.2.getD k.toNat tK.dflt).2.2.2.2.1-x14)) 0 then 0 else wr .i64 ((s.2.1.2.getD k.toNat tK.dflt).2.2.2.2.1-x14)) then x21 else bif ile (wr .i64 ((s.2.1.2.getD k.toNat tK.dflt).2.2.2.2.1-x14)) 0 then 0 else wr .i64 ((s.2.1.2.getD k.toNat tK.dflt).2.2.2.2.1-x14)))) (bif ile x15 x20 then x15 else x20) (wr .i64 (x16+wr .i64 (x14+bif ile x21 (bif ile (wr .i64 ((s.2.1.2.getD k.toNat tK.dflt).2.2.2.2.1-x14)) 0 then 0 else wr .i64 ((s.2.1.2.getD k.toNat tK.dflt).2.2.2.2.1-x14)) then x21 else bif ile (wr .i64 ((s.2.1.2.getD k.toNat tK.dflt).2.2.2.2.1-x14)) 0 then 0 else wr .i64 ((s.2.1.2.getD k.toNat tK.dflt).2.2.2.2.1-x14)))) (wr .i64 (x17+bif ile x21 (bif ile (wr .i64 ((s.2.1.2.getD k.toNat tK.dflt).2.2.2.2.1-x14)) 0 then 0 else wr .i64 ((s.2.1.2.getD k.toNat tK.dflt).2.2.2.2.1-x14)) then x21 else bif ile (wr .i64 ((s.2.1.2.getD k.toNat tK.dflt).2.2.2.2.1-x14)) 0 then 0 else wr .i64 ((s.2.1.2.getD k.toNat tK.dflt).2.2.2.2.1-x14))) (x18+1) (wr .i64 (x20+1)) (x44++[AV.int IntKind.i64 (wr .i64 (wr .i64 (x14+bif ile x21 (bif ile (wr .i64 ((s.2.1.2.getD k.toNat tK.dflt).2.2.2.2.1-x14)) 0 then 0 else wr .i64 ((s.2.1.2.getD k.toNat tK.dflt).2.2.2.2.1-x14)) then x21 else bif ile (wr .i64 ((s.2.1.2.getD k.toNat tK.dflt).2.2.2.2.1-x14)) 0 then 0 else wr .i64 ((s.2.1.2.getD k.toNat tK.dflt).2.2.2.2.1-x14))-wr .i64 (x14+bif ile x21 (bif ile (wr .i64 ((s.2.1.2.getD k.toNat tK.dflt).2.2.2.2.1-x14)) 0 then 0 else wr .i64 ((s.2.1.2.getD k.toNat tK.dflt).2.2.2.2.1-x14)) then x21 else bif ile (wr .i64 ((s.2.1.2.getD k.toNat tK.dflt).2.2.2.2.1-x14)) 0 then 0 else wr .i64 ((s.2.1.2.getD k.toNat tK.dflt).2.2.2.2.1-x14))))]) (x109))) else none) else none) else none) else (bif (0+x18 * 1).beq x44.length then (bif x18.ble 1048576 then (bif plO (AO.cells false (x44++[AV.int IntKind.i64 (wr .i64 (wr .i64 (x14+bif ile x21 (bif ile (wr .i64 ((s.2.1.2.getD k.toNat tK.dflt).2.2.2.2.1-x14)) 0 then 0 else wr .i64 ((s.2.1.2.getD k.toNat tK.dflt).2.2.2.2.1-x14)) then x21 else bif ile (wr .i64 ((s.2.1.2.getD k.toNat tK.dflt).2.2.2.2.1-x14)) 0 then 0 else wr .i64 ((s.2.1.2.getD k.toNat tK.dflt).2.2.2.2.1-x14))-wr .i64 (wr .i64 (wr .i64 ((wr .i64 (wr .i64 (s.1.2.getD x20.toNat tI.dflt * t.2.1) * (s.2.1.2.getD k.toNat tK.dflt).2.2.2.2.2.1)).tdiv 1000)+1)+t.2.2.1)))])) then some (.stop (flwI2 s k t n (wr .i64 (wr .i64 (x14+bif ile x21 (bif ile (wr .i64 ((s.2.1.2.getD k.toNat tK.dflt).2.2.2.2.1-x14)) 0 then 0 else wr .i64 ((s.2.1.2.getD k.toNat tK.dflt).2.2.2.2.1-x14)) then x21 else bif ile (wr .i64 ((s.2.1.2.getD k.toNat tK.dflt).2.2.2.2.1-x14)) 0 then 0 else wr .i64 ((s.2.1.2.getD k.toNat tK.dflt).2.2.2.2.1-x14))-wr .i64 (wr .i64 (wr .i64 ((wr .i64 (wr .i64 (s.1.2.getD x20.toNat tI.dflt * t.2.1) * (s.2.1.2.getD k.toNat tK.dflt).2.2.2.2.2.1)).tdiv 1000)+1)+t.2.2.1))) (x15) (wr .i64 (x16+wr .i64 (wr .i64 (wr .i64 ((wr .i64 (wr .i64 (s.1.2.getD x20.toNat tI.dflt * t.2.1) * (s.2.1.2.getD k.toNat tK.dflt).2.2.2.2.2.1)).tdiv 1000)+1)+t.2.2.1))) (wr .i64 (x17+bif ile x21 (bif ile (wr .i64 ((s.2.1.2.getD k.toNat tK.dflt).2.2.2.2.1-x14)) 0 then 0 else wr .i64 ((s.2.1.2.getD k.toNat tK.dflt).2.2.2.2.1-x14)) then x21 else bif ile (wr .i64 ((s.2.1.2.getD k.toNat tK.dflt).2.2.2.2.1-x14)) 0 then 0 else wr .i64 ((s.2.1.2.getD k.toNat tK.dflt).2.2.2.2.1-x14))) (x18+1) (wr .i64 (x20+1)) (x44++[AV.int IntKind.i64 (wr .i64 (wr .i64 (x14+bif ile x21 (bif ile (wr .i64 ((s.2.1.2.getD k.toNat tK.dflt).2.2.2.2.1-x14)) 0 then 0 else wr .i64 ((s.2.1.2.getD k.toNat tK.dflt).2.2.2.2.1-x14)) then x21 else bif ile (wr .i64 ((s.2.1.2.getD k.toNat tK.dflt).2.2.2.2.1-x14)) 0 then 0 else wr .i64 ((s.2.1.2.getD k.toNat tK.dflt).2.2.2.2.1-x14))-wr .i64 (wr .i64 (wr .i64 ((wr .i64 (wr .i64 (s.1.2.getD x20.toNat tI.dflt * t.2.1) * (s.2.1.2.getD k.toNat tK.dflt).2.2.2.2.2.1)).tdiv 1000)+1)+t.2.2.1)))]) (x109))) else none) else none) else none)) else (bif !ile (wr .i64 (wr .i64 ((wr .i64 (wr .i64 (s.1.2.getD x20.toNat tI.dflt * t.2.1) * (s.2.1.2.getD k.toNat tK.dflt).2.2.2.2.2.1)).tdiv 1000)+t.2.2.1)) (wr .i64 (x14+bif ile x21 (bif ile (wr .i64 ((s.2.1.2.getD k.toNat tK.dflt).2.2.2.2.1-x14)) 0 then 0 else wr .i64 ((s.2.1.2.getD k.toNat tK.dflt).2.2.2.2.1-x14)) then x21 else bif ile (wr .i64 ((s.2.1.2.getD k.toNat tK.dflt).2.2.2.2.1-x14)) 0 then 0 else wr .i64 ((s.2.1.2.getD k.toNat tK.dflt).2.2.2.2.1-x14))) then (bif (0+x18 * 1).beq x44.length then (bif x18.ble 1048576 then (bif plO (AO.cells false (x44++[AV.int IntKind.i64 (wr .i64 (wr .i64 (x14+bif ile x21 (bif ile (wr .i64 ((s.2.1.2.getD k.toNat tK.dflt).2.2.2.2.1-x14)) 0 then 0 else wr .i64 ((s.2.1.2.getD k.toNat tK.dflt).2.2.2.2.1-x14)) then x21 else bif ile (wr .i64 ((s.2.1.2.getD k.toNat tK.dflt).2.2.2.2.1-x14)) 0 then 0 else wr .i64 ((s.2.1.2.getD k.toNat tK.dflt).2.2.2.2.1-x14))-wr .i64 (x14+bif ile x21 (bif ile (wr .i64 ((s.2.1.2.getD k.toNat tK.dflt).2.2.2.2.1-x14)) 0 then 0 else wr .i64 ((s.2.1.2.getD k.toNat tK.dflt).2.2.2.2.1-x14)) then x21 else bif ile (wr .i64 ((s.2.1.2.getD k.toNat tK.dflt).2.2.2.2.1-x14)) 0 then 0 else wr .i64 ((s.2.1.2.getD k.toNat tK.dflt).2.2.2.2.1-x14))))])) then some (.stop (flwI2 s k t n (wr .i64 (wr .i64 (x14+bif ile x21 (bif ile (wr .i64 ((s.2.1.2.getD k.toNat tK.dflt).2.2.2.2.1-x14)) 0 then 0 else wr .i64 ((s.2.1.2.getD k.toNat tK.dflt).2.2.2.2.1-x14)) then x21 else bif ile (wr .i64 ((s.2.1.2.getD k.toNat tK.dflt).2.2.2.2.1-x14)) 0 then 0 else wr .i64 ((s.2.1.2.getD k.toNat tK.dflt).2.2.2.2.1-x14))-wr .i64 (x14+bif ile x21 (bif ile (wr .i64 ((s.2.1.2.getD k.toNat tK.dflt).2.2.2.2.1-x14)) 0 then 0 else wr .i64 ((s.2.1.2.getD k.toNat tK.dflt).2.2.2.2.1-x14)) then x21 else bif ile (wr .i64 ((s.2.1.2.getD k.toNat tK.dflt).2.2.2.2.1-x14)) 0 then 0 else wr .i64 ((s.2.1.2.getD k.toNat tK.dflt).2.2.2.2.1-x14)))) (bif ile x15 x20 then x15 else x20) (wr .i64 (x16+wr .i64 (x14+bif ile x21 (bif ile (wr .i64 ((s.2.1.2.getD k.toNat tK.dflt).2.2.2.2.1-x14)) 0 then 0 else wr .i64 ((s.2.1.2.getD k.toNat tK.dflt).2.2.2.2.1-x14)) then x21 else bif ile (wr .i64 ((s.2.1.2.getD k.toNat tK.dflt).2.2.2.2.1-x14)) 0 then 0 else wr .i64 ((s.2.1.2.getD k.toNat tK.dflt).2.2.2.2.1-x14)))) (wr .i64 (x17+bif ile x21 (bif ile (wr .i64 ((s.2.1.2.getD k.toNat tK.dflt).2.2.2.2.1-x14)) 0 then 0 else wr .i64 ((s.2.1.2.getD k.toNat tK.dflt).2.2.2.2.1-x14)) then x21 else bif ile (wr .i64 ((s.2.1.2.getD k.toNat tK.dflt).2.2.2.2.1-x14)) 0 then 0 else wr .i64 ((s.2.1.2.getD k.toNat tK.dflt).2.2.2.2.1-x14))) (x18+1) (wr .i64 (x20+1)) (x44++[AV.int IntKind.i64 (wr .i64 (wr .i64 (x14+bif ile x21 (bif ile (wr .i64 ((s.2.1.2.getD k.toNat tK.dflt).2.2.2.2.1-x14)) 0 then 0 else wr .i64 ((s.2.1.2.getD k.toNat tK.dflt).2.2.2.2.1-x14)) then x21 else bif ile (wr .i64 ((s.2.1.2.getD k.toNat tK.dflt).2.2.2.2.1-x14)) 0 then 0 else wr .i64 ((s.2.1.2.getD k.toNat tK.dflt).2.2.2.2.1-x14))-wr .i64 (x14+bif ile x21 (bif ile (wr .i64 ((s.2.1.2.getD k.toNat tK.dflt).2.2.2.2.1-x14)) 0 then 0 else wr .i64 ((s.2.1.2.getD k.toNat tK.dflt).2.2.2.2.1-x14)) then x21 else bif ile (wr .i64 ((s.2.1.2.getD k.toNat tK.dflt).2.2.2.2.1-x14)) 0 then 0 else wr .i64 ((s.2.1.2.getD k.toNat tK.dflt).2.2.2.2.1-x14))))]) (x109))) else none) else none) else none) else (bif (0+x18 * 1).beq x44.length then (bif x18.ble 1048576 then (bif plO (AO.cells false (x44++[AV.int IntKind.i64 (wr .i64 (wr .i64 (x14+bif ile x21 (bif ile (wr .i64 ((s.2.1.2.getD k.toNat tK.dflt).2.2.2.2.1-x14)) 0 then 0 else wr .i64 ((s.2.1.2.getD k.toNat tK.dflt).2.2.2.2.1-x14)) then x21 else bif ile (wr .i64 ((s.2.1.2.getD k.toNat tK.dflt).2.2.2.2.1-x14)) 0 then 0 else wr .i64 ((s.2.1.2.getD k.toNat tK.dflt).2.2.2.2.1-x14))-wr .i64 (wr .i64 ((wr .i64 (wr .i64 (s.1.2.getD x20.toNat tI.dflt * t.2.1) * (s.2.1.2.getD k.toNat tK.dflt).2.2.2.2.2.1)).tdiv 1000)+t.2.2.1)))])) then some (.stop (flwI2 s k t n (wr .i64 (wr .i64 (x14+bif ile x21 (bif ile (wr .i64 ((s.2.1.2.getD k.toNat tK.dflt).2.2.2.2.1-x14)) 0 then 0 else wr .i64 ((s.2.1.2.getD k.toNat tK.dflt).2.2.2.2.1-x14)) then x21 else bif ile (wr .i64 ((s.2.1.2.getD k.toNat tK.dflt).2.2.2.2.1-x14)) 0 then 0 else wr .i64 ((s.2.1.2.getD k.toNat tK.dflt).2.2.2.2.1-x14))-wr .i64 (wr .i64 ((wr .i64 (wr .i64 (s.1.2.getD x20.toNat tI.dflt * t.2.1) * (s.2.1.2.getD k.toNat tK.dflt).2.2.2.2.2.1)).tdiv 1000)+t.2.2.1))) (x15) (wr .i64 (x16+wr .i64 (wr .i64 ((wr .i64 (wr .i64 (s.1.2.getD x20.toNat tI.dflt * t.2.1) * (s.2.1.2.getD k.toNat tK.dflt).2.2.2.2.2.1)).tdiv 1000)+t.2.2.1))) (wr .i64 (x17+bif ile x21 (bif ile (wr .i64 ((s.2.1.2.getD k.toNat tK.dflt).2.2.2.2.1-x14)) 0 then 0 else wr .i64 ((s.2.1.2.getD k.toNat tK.dflt).2.2.2.2.1-x14)) then x21 else bif ile (wr .i64 ((s.2.1.2.getD k.toNat tK.dflt).2.2.2.2.1-x14)) 0 then 0 else wr .i64 ((s.2.1.2.getD k.toNat tK.dflt).2.2.2.2.1-x14))) (x18+1) (wr .i64 (x20+1)) (x44++[AV.int IntKind.i64 (wr .i64 (wr .i64 (x14+bif ile x21 (bif ile (wr .i64 ((s.2.1.2.getD k.toNat tK.dflt).2.2.2.2.1-x14)) 0 then 0 else wr .i64 ((s.2.1.2.getD k.toNat tK.dflt).2.2.2.2.1-x14)) then x21 else bif ile (wr .i64 ((s.2.1.2.getD k.toNat tK.dflt).2.2.2.2.1-x14)) 0 then 0 else wr .i64 ((s.2.1.2.getD k.toNat tK.dflt).2.2.2.2.1-x14))-wr .i64 (wr .i64 ((wr .i64 (wr .i64 (s.1.2.getD x20.toNat tI.dflt * t.2.1) * (s.2.1.2.getD k.toNat tK.dflt).2.2.2.2.2.1)).tdiv 1000)+t.2.2.1)))]) (x109))) else none) else none) else none))) else none) else (bif !ile (wr .i64 (wr .i64 (s.1.2.getD x20.toNat tI.dflt * t.2.1)+t.2.2.1)) (wr .i64 (x14+bif ile x21 (bif ile (wr .i64 ((s.2.1.2.getD k.toNat tK.dflt).2.2.2.2.1-x14)) 0 then 0 else wr .i64 ((s.2.1.2.getD k.toNat tK.dflt).2.2.2.2.1-x14)) then x21 else bif ile (wr .i64 ((s.2.1.2.getD k.toNat tK.dflt).2.2.2.2.1-x14)) 0 then 0 else wr .i64 ((s.2.1.2.getD k.toNat tK.dflt).2.2.2.2.1-x14))) then (bif (0+x18 * 1).beq x44.length then (bif x18.ble 1048576 then (bif plO (AO.cells false (x44++[AV.int IntKind.i64 (wr .i64 (wr .i64 (x14+bif ile x21 (bif ile (wr .i64 ((s.2.1.2.getD k.toNat tK.dflt).2.2.2.2.1-x14)) 0 then 0 else wr .i64 ((s.2.1.2.getD k.toNat tK.dflt).2.2.2.2.1-x14)) then x21 else bif ile (wr .i64 ((s.2.1.2.getD k.toNat tK.dflt).2.2.2.2.1-x14)) 0 then 0 else wr .i64 ((s.2.1.2.getD k.toNat tK.dflt).2.2.2.2.1-x14))-wr .i64 (x14+bif ile x21 (bif ile (wr .i64 ((s.2.1.2.getD k.toNat tK.dflt).2.2.2.2.1-x14)) 0 then 0 else wr .i64 ((s.2.1.2.getD k.toNat tK.dflt).2.2.2.2.1-x14)) then x21 else bif ile (wr .i64 ((s.2.1.2.getD k.toNat tK.dflt).2.2.2.2.1-x14)) 0 then 0 else wr .i64 ((s.2.1.2.getD k.toNat tK.dflt).2.2.2.2.1-x14))))])) then some (.stop (flwI2 s k t n (wr .i64 (wr .i64 (x14+bif ile x21 (bif ile (wr .i64 ((s.2.1.2.getD k.toNat tK.dflt).2.2.2.2.1-x14)) 0 then 0 else wr .i64 ((s.2.1.2.getD k.toNat tK.dflt).2.2.2.2.1-x14)) then x21 else bif ile (wr .i64 ((s.2.1.2.getD k.toNat tK.dflt).2.2.2.2.1-x14)) 0 then 0 else wr .i64 ((s.2.1.2.getD k.toNat tK.dflt).2.2.2.2.1-x14))-wr .i64 (x14+bif ile x21 (bif ile (wr .i64 ((s.2.1.2.getD k.toNat tK.dflt).2.2.2.2.1-x14)) 0 then 0 else wr .i64 ((s.2.1.2.getD k.toNat tK.dflt).2.2.2.2.1-x14)) then x21 else bif ile (wr .i64 ((s.2.1.2.getD k.toNat tK.dflt).2.2.2.2.1-x14)) 0 then 0 else wr .i64 ((s.2.1.2.getD k.toNat tK.dflt).2.2.2.2.1-x14)))) (bif ile x15 x20 then x15 else x20) (wr .i64 (x16+wr .i64 (x14+bif ile x21 (bif ile (wr .i64 ((s.2.1.2.getD k.toNat tK.dflt).2.2.2.2.1-x14)) 0 then 0 else wr .i64 ((s.2.1.2.getD k.toNat tK.dflt).2.2.2.2.1-x14)) then x21 else bif ile (wr .i64 ((s.2.1.2.getD k.toNat tK.dflt).2.2.2.2.1-x14)) 0 then 0 else wr .i64 ((s.2.1.2.getD k.toNat tK.dflt).2.2.2.2.1-x14)))) (wr .i64 (x17+bif ile x21 (bif ile (wr .i64 ((s.2.1.2.getD k.toNat tK.dflt).2.2.2.2.1-x14)) 0 then 0 else wr .i64 ((s.2.1.2.getD k.toNat tK.dflt).2.2.2.2.1-x14)) then x21 else bif ile (wr .i64 ((s.2.1.2.getD k.toNat tK.dflt).2.2.2.2.1-x14)) 0 then 0 else wr .i64 ((s.2.1.2.getD k.toNat tK.dflt).2.2.2.2.1-x14))) (x18+1) (wr .i64 (x20+1)) (x44++[AV.int IntKind.i64 (wr .i64 (wr .i64 (x14+bif ile x21 (bif ile (wr .i64 ((s.2.1.2.getD k.toNat tK.dflt).2.2.2.2.1-x14)) 0 then 0 else wr .i64 ((s.2.1.2.getD k.toNat tK.dflt).2.2.2.2.1-x14)) then x21 else bif ile (wr .i64 ((s.2.1.2.getD k.toNat tK.dflt).2.2.2.2.1-x14)) 0 then 0 else wr .i64 ((s.2.1.2.getD k.toNat tK.dflt).2.2.2.2.1-x14))-wr .i64 (x14+bif ile x21 (bif ile (wr .i64 ((s.2.1.2.getD k.toNat tK.dflt).2.2.2.2.1-x14)) 0 then 0 else wr .i64 ((s.2.1.2.getD k.toNat tK.dflt).2.2.2.2.1-x14)) then x21 else bif ile (wr .i64 ((s.2.1.2.getD k.toNat tK.dflt).2.2.2.2.1-x14)) 0 then 0 else wr .i64 ((s.2.1.2.getD k.toNat tK.dflt).2.2.2.2.1-x14))))]) (x109))) else none) else none) else none) else (bif (0+x18 * 1).beq x44.length then (bif x18.ble 1048576 then (bif plO (AO.cells false (x44++[AV.int IntKind.i64 (wr .i64 (wr .i64 (x14+bif ile x21 (bif ile (wr .i64 ((s.2.1.2.getD k.toNat tK.dflt).2.2.2.2.1-x14)) 0 then 0 else wr .i64 ((s.2.1.2.getD k.toNat tK.dflt).2.2.2.2.1-x14)) then x21 else bif ile (wr .i64 ((s.2.1.2.getD k.toNat tK.dflt).2.2.2.2.1-x14)) 0 then 0 else wr .i64 ((s.2.1.2.getD k.toNat tK.dflt).2.2.2.2.1-x14))-wr .i64 (wr .i64 (s.1.2.getD x20.toNat tI.dflt * t.2.1)+t.2.2.1)))])) then some (.stop (flwI2 s k t n (wr .i64 (wr .i64 (x14+bif ile x21 (bif ile (wr .i64 ((s.2.1.2.getD k.toNat tK.dflt).2.2.2.2.1-x14)) 0 then 0 else wr .i64 ((s.2.1.2.getD k.toNat tK.dflt).2.2.2.2.1-x14)) then x21 else bif ile (wr .i64 ((s.2.1.2.getD k.toNat tK.dflt).2.2.2.2.1-x14)) 0 then 0 else wr .i64 ((s.2.1.2.getD k.toNat tK.dflt).2.2.2.2.1-x14))-wr .i64 (wr .i64 (s.1.2.getD x20.toNat tI.dflt * t.2.1)+t.2.2.1))) (x15) (wr .i64 (x16+wr .i64 (wr .i64 (s.1.2.getD x20.toNat tI.dflt * t.2.1)+t.2.2.1))) (wr .i64 (x17+bif ile x21 (bif ile (wr .i64 ((s.2.1.2.getD k.toNat tK.dflt).2.2.2.2.1-x14)) 0 then 0 else wr .i64 ((s.2.1.2.getD k.toNat tK.dflt).2.2.2.2.1-x14)) then x21 else bif ile (wr .i64 ((s.2.1.2.getD k.toNat tK.dflt).2.2.2.2.1-x14)) 0 then 0 else wr .i64 ((s.2.1.2.getD k.toNat tK.dflt).2.2.2.2.1-x14))) (x18+1) (wr .i64 (x20+1)) (x44++[AV.int IntKind.i64 (wr .i64 (wr .i64 (x14+bif ile x21 (bif ile (wr .i64 ((s.2.1.2.getD k.toNat tK.dflt).2.2.2.2.1-x14)) 0 then 0 else wr .i64 ((s.2.1.2.getD k.toNat tK.dflt).2.2.2.2.1-x14)) then x21 else bif ile (wr .i64 ((s.2.1.2.getD k.toNat tK.dflt).2.2.2.2.1-x14)) 0 then 0 else wr .i64 ((s.2.1.2.getD k.toNat tK.dflt).2.2.2.2.1-x14))-wr .i64 (wr .i64 (s.1.2.getD x20.toNat tI.dflt * t.2.1)+t.2.2.1)))]) (x109))) else none) else none) else none))) else none) else none)):=by kernel_rfl
theorem fu_eq {s:tS.den} (H:StOK s) {k:Int} {t:tT.den} (T:TOk s k t) (n:Int) {i:Nat} (hi:i<s.1.2.length):fuS s k t i n=rusS s k t i (ile n i):=by
 obtain⟨_,⟨q0,q1⟩⟩:=kin_bd H T
 have hm:=H.men (s.1.2.getD i tI.dflt) (by rw[List.getD_eq_getElem?_getD,List.getElem?_eq_getElem hi];exact List.getElem_mem _)
 unfold mB at hm
 rw[Bool.and_eq_true] at hm
 exact fu_num (m:=s.1.2.getD i tI.dflt) (M:=t.2.1) (R:=(kdS s k).2.2.2.2.2.1) (S:=t.2.2.1) (ile n i) (ile_le hm.1) (ile_le hm.2) T.m0 T.m1 q0 q1
theorem cap_the {s:tS.den} (H:StOK s) {k:Int} {t:tT.den} (T:TOk s k t) (n:Int) {i:Nat} (hi:i<s.1.2.length):wr .i64 (rmF s k t n i+capS s k (rmF s k t n i) (dcaS s k i s.2.2.1.2.length))=theS s k (rmF s k t n i) (dcaS s k i s.2.2.1.2.length):=by
 obtain⟨_,b0,b1⟩:=morn_eq H T [] n i (by omega)
 have hc8:=H.len.c2
 obtain⟨c0,c1⟩:=dca_bd H k i s.2.2.1.2.length (Nat.le_refl _)
 obtain⟨⟨r0,r1⟩,_⟩:=kin_bd H T
 exact (cap_num (b:=rmF s k t n i) (c:=dcaS s k i s.2.2.1.2.length) (r:=(kdS s k).2.2.2.2.1) b0 b1 c0 (by omega) r0 r1).1
theorem sht_min {s:tS.den} (H:StOK s) {k:Int} {t:tT.den} (T:TOk s k t) (n:Int) {i:Nat} (hi:i<s.1.2.length):(bif ile (rsF s k t n i) i then rsF s k t n i else ((i:Nat):Int))=(bif ieq (rsF s k t n i) s.1.2.length then ((i:Nat):Int) else rsF s k t n i):=by
 obtain⟨_,h⟩:=shrt_eq H T [] n i (by omega)
 rcases h with h|h
 · rw[h,ieq_self,cond_true,ile_f (by omega),cond_false]
 · have : ieq (rsF s k t n i) s.1.2.length = false := by rw [ieq_iff]; exact decide_eq_false (by omega)
   rw[this,cond_false,ile_t (by omega),cond_true]
theorem wr_zero (a:Int):wr .i64 (a-a)=0:=by rw[Int.sub_self];rfl
theorem flw_end {s:tS.den} {k:Int} {t:tT.den} {n:Int} (H:StOK s) (T:TOk s k t) {i:Nat} (hi:i<s.1.2.length) {X:Option Out} {n2:Nat} {V:AV} {c:Cfg} {f:Nat} {U TT C:Int}
  (hU:U=rusS s k t i (ile n i)) (hT:TT=theS s k (rmF s k t n i) (dcaS s k i s.2.2.1.2.length)) (hC:C=capS s k (rmF s k t n i) (dcaS s k i s.2.2.1.2.length))
  (h:adv F9 (Z9 [25]) f c=(bif !ile U TT then (bif (0+(i+1) * 1).beq (flat tI (rmL s k t n (i+1))).length then (bif Nat.ble (i+1) 1048576 then (bif plO (AO.cells false (flat tI (rmL s k t n (i+1))++[AV.int .i64 (wr .i64 (TT-TT))])) then some (.stop (flwI2 s k t n (wr .i64 (TT-TT)) (bif ile (rsF s k t n i) i then rsF s k t n i else ((i:Nat):Int)) (wr .i64 (fuU s k t n i+TT)) (wr .i64 (fbB s k t n i+C)) (i+1+1) (wr .i64 ((i:Int)+1)) (flat tI (rmL s k t n (i+1))++[AV.int .i64 (wr .i64 (TT-TT))]) n2)) else none) else none) else none) else (bif (0+(i+1) * 1).beq (flat tI (rmL s k t n (i+1))).length then (bif Nat.ble (i+1) 1048576 then (bif plO (AO.cells false (flat tI (rmL s k t n (i+1))++[AV.int .i64 (wr .i64 (TT-U))])) then some (.stop (flwI2 s k t n (wr .i64 (TT-U)) (rsF s k t n i) (wr .i64 (fuU s k t n i+U)) (wr .i64 (fbB s k t n i+C)) (i+1+1) (wr .i64 ((i:Int)+1)) (flat tI (rmL s k t n (i+1))++[AV.int .i64 (wr .i64 (TT-U))]) n2)) else none) else none) else none)))
  (K:Ans F9 (flwI2 s k t n (rmF s k t n (i+1)) (rsF s k t n (i+1)) (fuU s k t n (i+1)) (fbB s k t n (i+1)) (i+1+1) ((i+1:Nat):Int) (flat tI (rmL s k t n (i+1+1))) n2) V):Ans F9 c V:=by
 have h30:=H.len.m2
 have e1:rmF s k t n (i+1)=bif !ile U TT then 0 else wr .i64 (TT-U):=by rw[hU,hT];rfl
 have e2:rsF s k t n (i+1)=bif !ile U TT then (bif ile (rsF s k t n i) i then rsF s k t n i else ((i:Nat):Int)) else rsF s k t n i:=by rw[sht_min H T n hi,hU,hT];rfl
 have e3:fuU s k t n (i+1)=wr .i64 (fuU s k t n i+(bif !ile U TT then TT else U)):=by rw[hU,hT];rfl
 have e4:fbB s k t n (i+1)=wr .i64 (fbB s k t n i+C):=by rw[hC];rfl
 have e5:flat tI (rmL s k t n (i+1))++[AV.int .i64 (rmF s k t n (i+1))]=flat tI (rmL s k t n (i+1+1)):=by rw[flatI_add,rmL_succ s k t n (i+1)]
 have hb:(0+(i+1) * 1).beq (flat tI (rmL s k t n (i+1))).length=true:=by
  rw[flatI_len,rmL_len,Nat.zero_add,Nat.mul_one];exact Nat.beq_refl _
 rw[hb,Nat.ble_eq_true_of_le (show i+1≤1048576 by omega),wr_zero,wr_succ (show i<1048577 by omega)] at h
 rw[e2,e3,e4] at K
 cases x:(!ile U TT) with
 |true=>
  rw[x] at h e1 K
  rw[cond_true] at e1
  rw[← e1,e5,show plO (AO.cells false (flat tI (rmL s k t n (i+1+1))))=true from flatI_plain _] at h
  exact .stop (Z9_ok _) F9sy h K
 |false=>
  rw[x] at h e1 K
  rw[cond_false] at e1
  rw[← e1,e5,show plO (AO.cells false (flat tI (rmL s k t n (i+1+1))))=true from flatI_plain _] at h
  exact .stop (Z9_ok _) F9sy h K
theorem flw3_ans {s:tS.den} {k:Int} {t:tT.den} {n:Int} (H:StOK s) (T:TOk s k t) {i:Nat} (hi:i<s.1.2.length) {n2:Nat} {V:AV}
  (K:Ans F9 (flwI2 s k t n (rmF s k t n (i+1)) (rsF s k t n (i+1)) (fuU s k t n (i+1)) (fbB s k t n (i+1)) (i+1+1) ((i+1:Nat):Int) (flat tI (rmL s k t n (i+1+1))) n2) V) :
  ∀ (r j m:Nat),j+r=s.2.2.1.2.length→r<m→Ans F9 (flwI3 s k t n (rmF s k t n i) (rsF s k t n i) (fuU s k t n i) (fbB s k t n i) (i+1) i (dcaS s k i j) j (flat tI (rmL s k t n (i+1))) m (n2+1)) V
 | 0, j, m + 1, hk, hm => by
  have h:=flw_step3 s k t n (rmF s k t n i) (rsF s k t n i) (fuU s k t n i) (fbB s k t n i) (i+1) i (dcaS s k i j) j (flat tI (rmL s k t n (i+1))) m n2
  have hj:j=s.2.2.1.2.length:=by omega
  subst hj
  have hp:plO (AO.cells false (flat tI (rmL s k t n (i+1))))=true:=flatI_plain _
  rw[ile_t (show ((s.2.2.1.2.length:Nat):Int)≤((s.2.2.1.2.length:Nat):Int) by omega),Bool.not_true,cond_false,T.ks,inB_at hi] at h
  simp only[cond_true] at h
  have hf:=fu_eq H T n hi
  have hT:=cap_the H T n hi
  cases q:ile n i with
  |false=>
   rw[q,cond_false] at h
   refine flw_end (X:=none) H T hi (U:=wr .i64 (wr .i64 (s.1.2.getD ((i:Nat):Int).toNat tI.dflt * t.2.1)+t.2.2.1)) ?_ hT rfl h K
   rw[← hf];unfold fuS;rw[q];rfl
  | true =>
   rw[q,cond_true] at h
   cases md:(!ile ((wr .i64 (wr .i64 (s.1.2.getD ((i:Nat):Int).toNat tI.dflt * t.2.1) * (s.2.1.2.getD k.toNat tK.dflt).2.2.2.2.2.1)).tmod 1000) 0) with
   |true=>
    rw[md,cond_true] at h
    refine flw_end (X:=none) H T hi (U:=wr .i64 (wr .i64 (wr .i64 ((wr .i64 (wr .i64 (s.1.2.getD ((i:Nat):Int).toNat tI.dflt * t.2.1) * (s.2.1.2.getD k.toNat tK.dflt).2.2.2.2.2.1)).tdiv 1000)+1)+t.2.2.1)) ?_ hT rfl h K
    rw[← hf];unfold fuS;rw[q,md];rfl
   |false=>
    rw[md,cond_false] at h
    refine flw_end (X:=none) H T hi (U:=wr .i64 (wr .i64 ((wr .i64 (wr .i64 (s.1.2.getD ((i:Nat):Int).toNat tI.dflt * t.2.1) * (s.2.1.2.getD k.toNat tK.dflt).2.2.2.2.2.1)).tdiv 1000)+t.2.2.1)) ?_ hT rfl h K
    rw[← hf];unfold fuS;rw[q,md];rfl
 |r+1,j,m+1,hk,hm=>by
  have h:=flw_step3 s k t n (rmF s k t n i) (rsF s k t n i) (fuU s k t n i) (fbB s k t n i) (i+1) i (dcaS s k i j) j (flat tI (rmL s k t n (i+1))) m n2
  have hlt:j<s.2.2.1.2.length:=by omega
  have hc8:=H.len.c2
  have hp:plO (AO.cells false (flat tI (rmL s k t n (i+1))))=true:=flatI_plain _
  rw[ile_f (show (j:Int)<((s.2.2.1.2.length:Nat):Int) by omega),inB_at hlt,wr_succ (show j<1048577 by omega),hp] at h
  rw[show ((j:Nat):Int).toNat=j by simp] at h
  simp only[Bool.not_false,cond_true] at h
  have h3:=flw3_ans H T hi K r (j+1) m (by omega) (by omega)
  have e:dcaS s k i (j+1)=bif ieq (s.2.2.1.2.getD j tC.dflt).1 i&&ieq (s.2.2.1.2.getD j tC.dflt).2.1 k then wr .i64 (dcaS s k i j+(s.2.2.1.2.getD j tC.dflt).2.2.1) else dcaS s k i j:=rfl
  rw[e] at h3
  cases c2:ieq (s.2.2.1.2.getD j tC.dflt).2.1 k<;>cases c1:ieq (s.2.2.1.2.getD j tC.dflt).1 i<;>rw[c2] at h h3<;>rw[c1] at h3<;>(try rw[c1] at h)<;>exact .stop (Z9_ok _) F9sy h h3
noncomputable def flwV (s:tS.den) (k:Int) (t:tT.den) (n:Int):AV:=.tup [.vs tI false (rmL s k t n (s.1.2.length+1)),.int .i64 (rsF s k t n s.1.2.length),.int .i64 (fuU s k t n s.1.2.length),.int .i64 (fbB s k t n s.1.2.length)]
theorem flw2_ans {s:tS.den} {k:Int} {t:tT.den} {n:Int} (H:StOK s) (T:TOk s k t):∀ (r i m:Nat),i+r=s.1.2.length→r<m→Ans F9 (flwI2 s k t n (rmF s k t n i) (rsF s k t n i) (fuU s k t n i) (fbB s k t n i) (i+1) i (flat tI (rmL s k t n (i+1))) m) (flwV s k t n)
 |0,i,m+1,hk,hm=>by
  have h:=flw_step2 s k t n (rmF s k t n i) (rsF s k t n i) (fuU s k t n i) (fbB s k t n i) (i+1) i (flat tI (rmL s k t n (i+1))) m
  rw[ile_t (show ((s.1.2.length:Nat):Int)≤(i:Int) by omega),Bool.not_true,cond_false,flatI_plain,cond_true] at h
  have hi:i=s.1.2.length:=by omega
  subst hi
  refine .doneT (Z9_ok _) F9sy h (Tells.tupL (.cons ?_ (.refl _)))
  have e:=Tells.csl (t:=tI) (l:=rmL s k t n (s.1.2.length+1))
  rw[rmL_len] at e
  exact e
 |r+1,i,m+1,hk,hm=>by
  have h:=flw_step2 s k t n (rmF s k t n i) (rsF s k t n i) (fuU s k t n i) (fbB s k t n i) (i+1) i (flat tI (rmL s k t n (i+1))) m
  have h8:=H.len.c2
  rw[ile_f (show (i:Int)<((s.1.2.length:Nat):Int) by omega),Bool.not_false,cond_true] at h
  exact .stop (Z9_ok _) F9sy h (flw3_ans H T (by omega) (flw2_ans H T r (i+1) m (by omega) (by omega)) s.2.2.1.2.length 0 1048575 (by omega) (by omega))
theorem flw_end0 {s:tS.den} {k:Int} {t:tT.den} {n:Int} (H:StOK s) (T:TOk s k t) {n2:Nat} {V:AV} {c:Cfg} {f:Nat} {U TT C:Int}
  (hU:U=rusS s k t (0:Nat) (ile n (0:Nat))) (hT:TT=theS s k (rmF s k t n 0) (dcaS s k (0:Nat) s.2.2.1.2.length)) (hC:C=capS s k (rmF s k t n 0) (dcaS s k (0:Nat) s.2.2.1.2.length))
  (h:adv F9 (Z9 [25]) f c=(bif !ile U TT then some (.stop (flwI2 s k t n (wr .i64 (TT-TT)) (bif ile (s.1.2.length:Int) 0 then (s.1.2.length:Int) else 0) (wr .i64 (0+TT)) (wr .i64 (0+C)) 2 1 [AV.int .i64 t.1,AV.int .i64 (wr .i64 (TT-TT))] n2)) else some (.stop (flwI2 s k t n (wr .i64 (TT-U)) (s.1.2.length:Int) (wr .i64 (0+U)) (wr .i64 (0+C)) 2 1 [AV.int .i64 t.1,AV.int .i64 (wr .i64 (TT-U))] n2))))
  (K:Ans F9 (flwI2 s k t n (rmF s k t n 1) (rsF s k t n 1) (fuU s k t n 1) (fbB s k t n 1) (1+1) ((1:Nat):Int) (flat tI (rmL s k t n (1+1))) n2) V):Ans F9 c V:=by
 have hl1:=H.len.m1
 have e1:rmF s k t n 1=bif !ile U TT then 0 else wr .i64 (TT-U):=by rw[hU,hT];rfl
 have e2:rsF s k t n 1=bif !ile U TT then (bif ile (s.1.2.length:Int) 0 then (s.1.2.length:Int) else 0) else (s.1.2.length:Int):=by
  have:=sht_min H T n (i:=0) (by omega)
  rw[show rsF s k t n 0=(s.1.2.length:Int) from rfl,show (((0:Nat):Int))=0 from rfl] at this
  rw[this,hU,hT];rfl
 have e3:fuU s k t n 1=wr .i64 (0+(bif !ile U TT then TT else U)):=by rw[hU,hT];rfl
 have e4:fbB s k t n 1=wr .i64 (0+C):=by rw[hC];rfl
 have e5:flat tI (rmL s k t n (1+1))=[AV.int .i64 t.1,AV.int .i64 (rmF s k t n 1)]:=rfl
 rw[wr_zero] at h
 rw[e5,e1,e2,e3,e4] at K
 cases x:(!ile U TT) with
 |true=>rw[x] at h K;exact .stop (Z9_ok _) F9sy h K
 |false=>rw[x] at h K;exact .stop (Z9_ok _) F9sy h K
theorem flw1_ans {s:tS.den} {k:Int} {t:tT.den} {n:Int} (H:StOK s) (T:TOk s k t) {n2:Nat} {V:AV}
  (K:Ans F9 (flwI2 s k t n (rmF s k t n 1) (rsF s k t n 1) (fuU s k t n 1) (fbB s k t n 1) (1+1) ((1:Nat):Int) (flat tI (rmL s k t n (1+1))) n2) V) :
  ∀ (r j m:Nat),j+r=s.2.2.1.2.length→r<m→Ans F9 (flwI1 s k t n (dcaS s k (0:Nat) j) j m (n2+1)) V
 | 0, j, m + 1, hk, hm => by
  have h:=flw_step1 s k t n (dcaS s k (0:Nat) j) j m n2
  have hj:j=s.2.2.1.2.length:=by omega
  subst hj
  have hl1:=H.len.m1
  have hi:0<s.1.2.length:=by omega
  rw[ile_t (show ((s.2.2.1.2.length:Nat):Int)≤((s.2.2.1.2.length:Nat):Int) by omega),Bool.not_true,cond_false,T.ks,show inB 0 s.1.2.length=true from inB_at (k:=0) hi] at h
  simp only[cond_true] at h
  have hf:=fu_eq H T n hi
  have hT:=cap_the H T n hi
  cases q:ile n 0 with
  |false=>
   rw[q,cond_false] at h
   refine flw_end0 H T (U:=wr .i64 (wr .i64 (s.1.2.getD ((0:Nat):Int).toNat tI.dflt * t.2.1)+t.2.2.1)) ?_ hT rfl h K
   rw[← hf];unfold fuS;rw[show ile n ((0:Nat):Int)=false from q];rfl
  | true =>
   rw[q,cond_true] at h
   cases md:(!ile ((wr .i64 (wr .i64 (s.1.2.getD (Int.toNat 0) tI.dflt * t.2.1) * (s.2.1.2.getD k.toNat tK.dflt).2.2.2.2.2.1)).tmod 1000) 0) with
   |true=>
    rw[md,cond_true] at h
    refine flw_end0 H T (U:=wr .i64 (wr .i64 (wr .i64 ((wr .i64 (wr .i64 (s.1.2.getD ((0:Nat):Int).toNat tI.dflt * t.2.1) * (s.2.1.2.getD k.toNat tK.dflt).2.2.2.2.2.1)).tdiv 1000)+1)+t.2.2.1)) ?_ hT rfl h K
    rw[← hf];unfold fuS;rw[show ile n ((0:Nat):Int)=true from q]
    rw[show (!ile ((wr .i64 (wr .i64 (s.1.2.getD ((0:Nat):Int).toNat tI.dflt * t.2.1) * (s.2.1.2.getD k.toNat tK.dflt).2.2.2.2.2.1)).tmod 1000) 0)=true from md];rfl
   |false=>
    rw[md,cond_false] at h
    refine flw_end0 H T (U:=wr .i64 (wr .i64 ((wr .i64 (wr .i64 (s.1.2.getD ((0:Nat):Int).toNat tI.dflt * t.2.1) * (s.2.1.2.getD k.toNat tK.dflt).2.2.2.2.2.1)).tdiv 1000)+t.2.2.1)) ?_ hT rfl h K
    rw[← hf];unfold fuS;rw[show ile n ((0:Nat):Int)=true from q]
    rw[show (!ile ((wr .i64 (wr .i64 (s.1.2.getD ((0:Nat):Int).toNat tI.dflt * t.2.1) * (s.2.1.2.getD k.toNat tK.dflt).2.2.2.2.2.1)).tmod 1000) 0)=false from md];rfl
 |r+1,j,m+1,hk,hm=>by
  have h:=flw_step1 s k t n (dcaS s k (0:Nat) j) j m n2
  have hlt:j<s.2.2.1.2.length:=by omega
  have hc8:=H.len.c2
  rw[ile_f (show (j:Int)<((s.2.2.1.2.length:Nat):Int) by omega),inB_at hlt,wr_succ (show j<1048577 by omega)] at h
  rw[show ((j:Nat):Int).toNat=j by simp] at h
  simp only[Bool.not_false,cond_true] at h
  have h3:=flw1_ans H T K r (j+1) m (by omega) (by omega)
  have e:dcaS s k (0:Nat) (j+1)=bif ieq (s.2.2.1.2.getD j tC.dflt).1 0&&ieq (s.2.2.1.2.getD j tC.dflt).2.1 k then wr .i64 (dcaS s k (0:Nat) j+(s.2.2.1.2.getD j tC.dflt).2.2.1) else dcaS s k (0:Nat) j:=rfl
  rw[e] at h3
  cases c2:ieq (s.2.2.1.2.getD j tC.dflt).2.1 k<;>cases c1:ieq (s.2.2.1.2.getD j tC.dflt).1 0<;>rw[c2] at h h3<;>rw[c1] at h3<;>(try rw[c1] at h)<;>exact .stop (Z9_ok _) F9sy h h3
theorem flw_call {s:tS.den} {k:Int} {t:tT.den} (n:Int) (H:StOK s) (T:TOk s k t):AnsF F9 25 [tS.av s,tI.av k,tT.av t,tI.av n] (flwV s k t n):=by
 refine Ans.call (n:=40) (ext_none (by kernel_rfl)) (hasB_spec (by kernel_rfl)) ?_
 have hl1:=H.len.m1
 have hl30:=H.len.m2
 have h8:=H.len.c2
 refine .stop (Z9_ok _) F9sy (flw_start s k t n) ?_
 have h:=flw_step0 s k t n 1048574
 rw[ile_f (show (0:Int)<((s.1.2.length:Nat):Int) by omega),Bool.not_false,cond_true] at h
 exact .stop (Z9_ok _) F9sy h (flw1_ans H T (flw2_ans H T (s.1.2.length-1) 1 1048574 (by omega) (by omega)) s.2.2.1.2.length 0 1048575 (by omega) (by omega))
end Go.Proofs.YtelibdeanepdjaaGreat


set_option maxRecDepth 100000
namespace Go.Proofs.YtelibdeanepdjaaGreat
open Go Go.Eng
noncomputable def tokB (s:tS.den) (k:Int) (t:tT.den):Bool:=inB k s.2.1.2.length&&(ile 0 t.1&&(ile t.1 300&&(ile 0 t.2.1&&(ile t.2.1 6&&(ile 0 t.2.2.1&&ile t.2.2.1 12)))))
theorem tok {s:tS.den} {k:Int} {t:tT.den} (h:tokB s k t=true):TOk s k t:=by
 unfold tokB at h
 simp only[Bool.and_eq_true] at h
 obtain⟨a,b,c,d,e,f,g⟩:=h
 exact⟨a,ile_le b,ile_le c,ile_le d,ile_le e,ile_le f,ile_le g⟩
noncomputable abbrev tX:Ty:=.cons (.int .u16) (.cons (.int .u16) (.cons (.int .u16) .nil))
noncomputable def LM2:List Said:=[(25,con4 tS tI tT tI (fun s k t _=>ieq (chkS s).2.2 0&&tokB s k t) (fun s k t n=>flwV s k t n))]
noncomputable def F12:Env:=F11.say (under (xOf LM2))
theorem f12:EnvOK Tryz.prog F12:=f11.say _
theorem nf12:NameOK F12:=nf11.say _
theorem F12sy:F12.sy=true:=rfl
noncomputable def Z12 (l:List Nat):Sy:=(Z11 []).on LM2 l
theorem Z12_ok (l:List Nat):(Z12 l).ok F12:=Sy.on_ok (Z11_ok _)
end Go.Proofs.YtelibdeanepdjaaGreat


set_option maxRecDepth 100000
namespace Go.Proofs.YtelibdeanepdjaaGreat
open Go Go.Eng
noncomputable abbrev nd (e1:tS.den) (e2:tK.den) (e3:tF.den) (e4:Bool):tQ.den:=(e1,e2,e3,(e4,[]),())
noncomputable def zR (z:tG.den) (X:Option Out):Option Out:=(bif ieq z.1 z.1 then (bif ieq z.2.1 z.2.1 then (bif ieq z.2.2.1 z.2.2.1 then (bif ieq z.2.2.2.1 z.2.2.2.1 then (bif ieq z.2.2.2.2.1 z.2.2.2.2.1 then (bif ieq z.2.2.2.2.2.1 z.2.2.2.2.2.1 then (bif ieq z.2.2.2.2.2.2.1 z.2.2.2.2.2.2.1 then (bif ieq z.2.2.2.2.2.2.2.1 z.2.2.2.2.2.2.2.1 then (bif ieq z.2.2.2.2.2.2.2.2.1 z.2.2.2.2.2.2.2.2.1 then (bif ieq z.2.2.2.2.2.2.2.2.2.1 z.2.2.2.2.2.2.2.2.2.1 then (bif ieq z.2.2.2.2.2.2.2.2.2.2.1 z.2.2.2.2.2.2.2.2.2.2.1 then (bif ieq z.2.2.2.2.2.2.2.2.2.2.2.1 z.2.2.2.2.2.2.2.2.2.2.2.1 then (bif ieq z.2.2.2.2.2.2.2.2.2.2.2.2.1 z.2.2.2.2.2.2.2.2.2.2.2.2.1 then (bif ieq z.2.2.2.2.2.2.2.2.2.2.2.2.2.1 z.2.2.2.2.2.2.2.2.2.2.2.2.2.1 then (bif ieq z.2.2.2.2.2.2.2.2.2.2.2.2.2.2.1 z.2.2.2.2.2.2.2.2.2.2.2.2.2.2.1 then (bif ieq z.2.2.2.2.2.2.2.2.2.2.2.2.2.2.2.1 z.2.2.2.2.2.2.2.2.2.2.2.2.2.2.2.1 then (bif ieq z.2.2.2.2.2.2.2.2.2.2.2.2.2.2.2.2.1 z.2.2.2.2.2.2.2.2.2.2.2.2.2.2.2.2.1 then (bif ieq z.2.2.2.2.2.2.2.2.2.2.2.2.2.2.2.2.2.1 z.2.2.2.2.2.2.2.2.2.2.2.2.2.2.2.2.2.1 then (bif ieq z.2.2.2.2.2.2.2.2.2.2.2.2.2.2.2.2.2.2.1 z.2.2.2.2.2.2.2.2.2.2.2.2.2.2.2.2.2.2.1 then (bif ieq z.2.2.2.2.2.2.2.2.2.2.2.2.2.2.2.2.2.2.2.1 z.2.2.2.2.2.2.2.2.2.2.2.2.2.2.2.2.2.2.2.1 then (bif ieq z.2.2.2.2.2.2.2.2.2.2.2.2.2.2.2.2.2.2.2.2.1 z.2.2.2.2.2.2.2.2.2.2.2.2.2.2.2.2.2.2.2.2.1 then (bif ieq z.2.2.2.2.2.2.2.2.2.2.2.2.2.2.2.2.2.2.2.2.2.1 z.2.2.2.2.2.2.2.2.2.2.2.2.2.2.2.2.2.2.2.2.2.1 then (bif ieq z.2.2.2.2.2.2.2.2.2.2.2.2.2.2.2.2.2.2.2.2.2.2.1 z.2.2.2.2.2.2.2.2.2.2.2.2.2.2.2.2.2.2.2.2.2.2.1 then (bif ieq z.2.2.2.2.2.2.2.2.2.2.2.2.2.2.2.2.2.2.2.2.2.2.2.1 z.2.2.2.2.2.2.2.2.2.2.2.2.2.2.2.2.2.2.2.2.2.2.2.1 then (bif ieq z.2.2.2.2.2.2.2.2.2.2.2.2.2.2.2.2.2.2.2.2.2.2.2.2.1 z.2.2.2.2.2.2.2.2.2.2.2.2.2.2.2.2.2.2.2.2.2.2.2.2.1 then (bif ieq z.2.2.2.2.2.2.2.2.2.2.2.2.2.2.2.2.2.2.2.2.2.2.2.2.2.1 z.2.2.2.2.2.2.2.2.2.2.2.2.2.2.2.2.2.2.2.2.2.2.2.2.2.1 then (bif ieq z.2.2.2.2.2.2.2.2.2.2.2.2.2.2.2.2.2.2.2.2.2.2.2.2.2.2.1 z.2.2.2.2.2.2.2.2.2.2.2.2.2.2.2.2.2.2.2.2.2.2.2.2.2.2.1 then (bif ieq z.2.2.2.2.2.2.2.2.2.2.2.2.2.2.2.2.2.2.2.2.2.2.2.2.2.2.2.1 z.2.2.2.2.2.2.2.2.2.2.2.2.2.2.2.2.2.2.2.2.2.2.2.2.2.2.2.1 then (bif ieq z.2.2.2.2.2.2.2.2.2.2.2.2.2.2.2.2.2.2.2.2.2.2.2.2.2.2.2.2.1 z.2.2.2.2.2.2.2.2.2.2.2.2.2.2.2.2.2.2.2.2.2.2.2.2.2.2.2.2.1 then (bif ieq z.2.2.2.2.2.2.2.2.2.2.2.2.2.2.2.2.2.2.2.2.2.2.2.2.2.2.2.2.2.1 z.2.2.2.2.2.2.2.2.2.2.2.2.2.2.2.2.2.2.2.2.2.2.2.2.2.2.2.2.2.1 then (bif ieq z.2.2.2.2.2.2.2.2.2.2.2.2.2.2.2.2.2.2.2.2.2.2.2.2.2.2.2.2.2.2.1 z.2.2.2.2.2.2.2.2.2.2.2.2.2.2.2.2.2.2.2.2.2.2.2.2.2.2.2.2.2.2.1 then X else none) else none) else none) else none) else none) else none) else none) else none) else none) else none) else none) else none) else none) else none) else none) else none) else none) else none) else none) else none) else none) else none) else none) else none) else none) else none) else none) else none) else none) else none) else none)
theorem zR_eq (z:tG.den) (X:Option Out):zR z X=X:=by unfold zR;simp only[ieq_self,cond_true]
end Go.Proofs.YtelibdeanepdjaaGreat


set_option maxRecDepth 100000
namespace Go.Proofs.YtelibdeanepdjaaGreat
open Go Go.Eng
noncomputable def pleag13 (d:tQ.den):List (Nat×AO):=[(1,(cF [(.cp (Ty.cells tQ (d)) 0)])),(3,(cF [(.yld 2)])),(4,(cF [(.cp (Ty.cells tQ (d)) 0)]))]
noncomputable def pleaQ0 (d:tQ.den):Hp:=(hpOf 6 (pleag13 d++[(0,(cF [.nils]))]))
noncomputable def pleag11 (d:tQ.den):List (Nat×AV):=[(0,(.yld 5)),(1,(pP 4 0)),(5,(.cp (Ty.cells tQ (d)) 0)),(6,(.cp (Ty.cells tQ (d)) 0)),(7,(.cp (Ty.cells tQ (d)) 3)),(8,(.cp (Ty.cells tQ (d)) 6)),(9,(.cp (Ty.cells tQ (d)) 6)),(10,(iI (d.2.1.2.2.1.1)))]
noncomputable def pleaQ1 (d:tQ.den):Tmps:=(tmOf 49 (pleag11 d++[(3,(iI (d.2.1.2.2.1.1)))]))
noncomputable def pleak10 (z0:tQ.den):HD:=⟨5,34,59,(tmOf 34 [(0,(.yld 2)),(1,(pP 1 0)),(2,(pP 3 0)),(6,(.cp (Ty.cells tQ (z0)) 0)),(7,(.fn 107 [] [(pP 4 0)]))]),#[8],(pcOf F6 84 [0,0,1,1]),(pcOf F6 84 [1,0,1,1])⟩
noncomputable def pleak0 (z0:tQ.den):HD:=⟨2,13,60,(tmOf 13 [(0,(.cp (Ty.cells tQ (z0)) 0)),(2,(pP 0 0)),(4,(.cp (Ty.cells tQ (z0)) 0)),(5,(.fn 84 [] [(pP 1 0)]))]),#[6,7],(pcOf F6 78 [0,0,1,0,1]),(pcOf F6 78 [1,0,1,0,1])⟩
noncomputable def pleak16 (z0:tQ.den) (z1:Nat):Fm:=(.lop (pcOf F6 107 [0,0,1]) 6 (pleaQ1 z0) z1)
noncomputable def pleak3 (z0:tQ.den):Fm:=(.cal [] (.rng (tmOf 34 [(0,(.yld 2)),(1,(pP 1 0)),(2,(pP 3 0)),(6,(.cp (Ty.cells tQ (z0)) 0)),(7,(.fn 107 [] [(pP 4 0)]))]) [] 34 false ⟨59,[(pleak0 z0)]⟩))
noncomputable def pleak5 (z0:tQ.den):Fm:=(.cal [] (.rng (tmOf 13 [(0,(.cp (Ty.cells tQ (z0)) 0)),(2,(pP 0 0)),(4,(.cp (Ty.cells tQ (z0)) 0)),(5,(.fn 84 [] [(pP 1 0)]))]) [] 13 false ⟨60,[]⟩))
noncomputable def pleaI0 (d:tQ.den) (x0:Int) (x19:Nat):Cfg:=⟨.ex (pcOf F6 107 [0,0,1]) ⟨(tmOf 49 (pleag11 d++[(3,(iI x0))])),(pleaQ0 d),[],[⟨false,.normal⟩,⟨false,.normal⟩],49,false⟩,⟨58,[(pleak10 d),(pleak0 d)]⟩,[(pleak16 d x19),(.blk 0),(pleak3 d),(.blk 0),(pleak5 d),(.blk 0),(.seq (pcOf F6 78 [1,1])),(.cal [(.cell 2 70)] .top)]⟩
noncomputable def pleag2 (d:tQ.den) (y0:Int):List (Nat×AV):=[(0,(.yld 5)),(1,(pP 4 0)),(7,(.cp (Ty.cells tQ (d)) 3)),(8,(.cp (Ty.cells tQ (d)) 6)),(9,(.cp (Ty.cells tQ (d)) 6)),(10,(iI (d.2.1.2.2.1.1))),(5,(.cp (Ty.cells tQ (d)) 0)),(6,(.cp (Ty.cells tQ (d)) 0)),(3,(iI y0)),(11,(iI y0)),(12,(.cp (Ty.cells tQ (d)) 0)),(14,(.cp (Ty.cells tQ (d)) 3)),(15,(.cp (Ty.cells tQ (d)) 6)),(16,(.cp (Ty.cells tQ (d)) 7)),(17,(iI (d.2.1.2.2.1.2.1))),(18,(.bool true)),(21,(.cp (Ty.cells tQ (d)) 0)),(22,(.cp (Ty.cells tQ (d)) 0)),(23,(.cp (Ty.cells tQ (d)) 3)),(24,(.cp (Ty.cells tQ (d)) 8)),(25,(.cp (Ty.cells tQ (d)) 8)),(26,(iI (d.2.1.2.2.2.1.1))),(13,(.cp (Ty.cells tQ (d)) 0))]
noncomputable def pleaQ2 (d:tQ.den) (y0:Int) (y1:Int):Tmps:=(tmOf 49 (pleag2 d y0++[(4,(iI y1))]))
noncomputable def pleaQ3 (d:tQ.den) (y0:Int):Tmps:=(tmOf 49 (pleag2 d y0++[(4,(iI (d.2.1.2.2.2.1.1)))]))
noncomputable def pleak15 (z0:tQ.den) (z1:Int) (z2:Nat):Fm:=(.lop (pcOf F6 107 [0,0,1,0,0,1,0,0,1]) 6 (pleaQ3 z0 z1) z2)
noncomputable def pleaI1 (d:tQ.den) (x0:Int) (x1:Int) (x49:Nat) (x57:Nat):Cfg:=⟨.ex (pcOf F6 107 [0,0,1,0,0,1,0,0,1]) ⟨(pleaQ2 d x0 x1),(pleaQ0 d),[],[⟨false,.normal⟩,⟨false,.normal⟩],49,false⟩,⟨58,[(pleak10 d),(pleak0 d)]⟩,[(pleak15 d x0 x49),(.blk 2),(.blk 1),(.seq (pcOf F6 107 [1,1,0,0,1])),(pleak16 d x57),(.blk 0),(pleak3 d),(.blk 0),(pleak5 d),(.blk 0),(.seq (pcOf F6 78 [1,1])),(.cal [(.cell 2 70)] .top)]⟩
noncomputable def pleak1 (z0:tQ.den):AV:=(iI (wr .i64 (wr .i64 (z0.2.1.2.1.2.1-z0.2.1.2.1.1)+1)))
noncomputable def pleag14 (d:tQ.den):List (Nat×AV):=[(0,(pleak1 d)),(4,(iI 0)),(8,(pleak1 d))]
noncomputable def pleaQ4 (d:tQ.den):Tmps:=(tmOf 26 (pleag14 d++[(1,(.fn 98 [] [(pP 13 0),(pP 12 0)])),(5,(iI 0)),(6,(pleak1 d))]))
noncomputable def pleak7 (z0:tQ.den) (z1:Int) (z2:Int):AO:=(cF [(iI (z0.2.1.2.1.1)),(iI z1),(iI z2)])
noncomputable def pleak11:AV:=(.fn 108 [] [(pP 10 0),(pP 9 0),(pP 11 0)])
noncomputable def pleag1 (d:tQ.den):List (Nat×AO):=[(0,(cF [.nils])),(1,(cF [(.cp (Ty.cells tQ (d)) 0)])),(3,(cF [(.yld 2)])),(4,(cF [(.cp (Ty.cells tQ (d)) 0)])),(9,(cF [(.cp (Ty.cells tQ (d)) 0)])),(11,(cF [(.fn 87 [] [(pP 1 0)])])),(12,(cF [(iI (d.2.1.2.1.1))])),(13,(cF [(pleak11)]))]
noncomputable def pleaQ5 (d:tQ.den) (y0:Int) (y1:Int):Hp:=(hpOf 14 (pleag1 d++[(6,(pleak7 d y0 y1)),(7,(pleak7 d y0 y1)),(8,(pleak7 d y0 y1)),(10,(pleak7 d y0 y1))]))
noncomputable def pleag5 (d:tQ.den):List (Nat×AV):=[(0,(iI (d.2.1.2.1.1))),(1,(iI (d.2.1.2.1.2.1))),(6,(iI 0)),(7,(iI (d.2.1.2.1.1)))]
noncomputable def pleag16:List (Nat×AV):=[(2,(pleak11)),(3,(pP 12 0)),(5,(pP 13 0))]
noncomputable def pleaQ6 (d:tQ.den):Tmps:=(tmOf 15 (pleag5 d++pleag16++[(8,(iI (d.2.1.2.1.2.1)))]))
noncomputable def pleag12 (d:tQ.den):List (Nat×AV):=[(8,(iI (d.2.1.2.1.2.1))),(9,(iI (d.2.1.2.1.1)))]
noncomputable def pleaQ7 (d:tQ.den):Tmps:=(tmOf 15 (pleag5 d++pleag16++pleag12 d))
noncomputable def pleaQ8 (d:tQ.den):Tmps:=(tmOf 15 (pleag16++[(0,(iI (d.2.1.2.1.1))),(1,(iI (d.2.1.2.1.2.1))),(6,(iI 0))]))
noncomputable def pleaQ9 (d:tQ.den):Tmps:=(tmOf 15 (pleag5 d++pleag16))
noncomputable def pleaQ10 (d:tQ.den):Tmps:=(tmOf 15 (pleag5 d++pleag16++pleag12 d++[(10,(iI (wr .i64 (d.2.1.2.1.2.1-d.2.1.2.1.1)))),(11,(pleak1 d)),(12,(.fn 98 [] [(pP 13 0),(pP 12 0)]))]))
noncomputable def pleaQ11 (d:tQ.den) (y0:Int) (y1:Int):Hp:=(hpOf 12 (pleag13 d++[(0,(cF [.nils])),(6,(pleak7 d y0 y1)),(7,(pleak7 d y0 y1)),(8,(pleak7 d y0 y1)),(9,(cF [(.cp (Ty.cells tQ (d)) 0)])),(10,(pleak7 d y0 y1)),(11,(cF [(.fn 87 [] [(pP 1 0)])]))]))
noncomputable def pleak4 (z0:tQ.den) (z1:Int) (z2:Int):AV:=(.agg [(iI (z0.2.1.2.1.1)),(iI z1),(iI z2)])
noncomputable def pleag0 (d:tQ.den) (y0:Int) (y1:Int):List (Nat×AV):=[(6,(iI 0)),(0,(.cp (Ty.cells tQ (d)) 0)),(1,(pleak4 d y0 y1)),(7,(.cp (Ty.cells tQ (d)) 0)),(8,(.cp (Ty.cells tQ (d)) 0)),(9,(.cp (Ty.cells tQ (d)) 3)),(10,(.cp (Ty.cells tQ (d)) 4)),(11,(.cp (Ty.cells tQ (d)) 4))]
noncomputable def pleag7:List (Nat×AV):=[(2,(.fn 87 [] [(pP 1 0)])),(3,(pP 9 0)),(4,(pP 10 0)),(5,(pP 11 0))]
noncomputable def pleag3 (d:tQ.den):List (Nat×AV):=[(13,(.cp (Ty.cells tQ (d)) 0)),(12,(iI (d.2.1.2.1.1))),(14,(.cp (Ty.cells tQ (d)) 0)),(15,(.cp (Ty.cells tQ (d)) 3)),(16,(.cp (Ty.cells tQ (d)) 4)),(17,(.cp (Ty.cells tQ (d)) 5))]
noncomputable def pleaQ12 (d:tQ.den) (y0:Int) (y1:Int):Tmps:=(tmOf 21 (pleag0 d y0 y1++pleag7++pleag3 d))
noncomputable def pleaQ13 (d:tQ.den) (y0:Int) (y1:Int):Tmps:=(tmOf 21 (pleag0 d y0 y1++pleag7++pleag3 d++[(18,(iI (d.2.1.2.1.2.1)))]))
noncomputable def pleaQ14 (d:tQ.den) (y0:Int) (y1:Int):Tmps:=(tmOf 21 (pleag0 d y0 y1++pleag7++[(12,(iI (d.2.1.2.1.1)))]))
noncomputable def pleaQ15 (d:tQ.den) (y0:Int) (y1:Int):Tmps:=(tmOf 21 (pleag0 d y0 y1++pleag7++[(12,(iI (d.2.1.2.1.1))),(13,(.cp (Ty.cells tQ (d)) 0))]))
noncomputable def pleaQ16 (d:tQ.den) (y0:Int) (y1:Int):Tmps:=(tmOf 21 (pleag0 d y0 y1++pleag7))
noncomputable def pleaQ17 (d:tQ.den) (y0:Int) (y1:Int):Tmps:=(tmOf 21 (pleag7++[(0,(.cp (Ty.cells tQ (d)) 0)),(1,(pleak4 d y0 y1)),(6,(iI 0))]))
noncomputable def pleaQ18 (d:tQ.den) (y0:Int) (y1:Int):Tmps:=(tmOf 21 (pleag7++[(0,(.cp (Ty.cells tQ (d)) 0)),(1,(pleak4 d y0 y1)),(6,(iI 0)),(7,(.cp (Ty.cells tQ (d)) 0))]))
noncomputable def pleaQ19 (d:tQ.den) (y0:Int) (y1:Int):Tmps:=(tmOf 21 (pleag0 d y0 y1++pleag7++pleag3 d++[(18,(iI (d.2.1.2.1.2.1))),(19,(pleak11))]))
noncomputable def pleag9 (d:tQ.den) (y0:Int) (y1:Int):List (Nat×AV):=[(6,(.cp (Ty.cells tQ (d)) 0)),(0,(.yld 2)),(2,(pP 3 0)),(7,(.fn 107 [] [(pP 4 0)])),(1,(pP 1 0)),(3,(pP 6 0)),(4,(pP 7 0)),(5,(pP 8 0)),(8,(pleak4 d y0 y1)),(9,(pleak4 d y0 y1)),(10,(pleak4 d y0 y1)),(12,(pleak4 d y0 y1)),(13,(.fn 87 [] [(pP 1 0)])),(11,(.cp (Ty.cells tQ (d)) 0))]
noncomputable def pleaQ20 (d:tQ.den) (y0:Int) (y1:Int):Tmps:=(tmOf 34 (pleag9 d y0 y1))
noncomputable def pleaQ21 (d:tQ.den) (y0:Int) (y1:Int):Tmps:=(tmOf 49 (pleag2 d y0++[(4,(iI y1)),(27,(iI y1)),(28,(.cp (Ty.cells tQ (d)) 0)),(29,(.cp (Ty.cells tQ (d)) 0)),(30,(.cp (Ty.cells tQ (d)) 3)),(31,(.cp (Ty.cells tQ (d)) 8)),(32,(.cp (Ty.cells tQ (d)) 9)),(33,(iI (d.2.1.2.2.2.1.2.1))),(34,(.bool true)),(37,(.yld 5)),(38,(.cp (Ty.cells tQ (d)) 0)),(39,(.cp (Ty.cells tQ (d)) 0)),(40,(.cp (Ty.cells tQ (d)) 3)),(41,(.cp (Ty.cells tQ (d)) 4)),(42,(.cp (Ty.cells tQ (d)) 4)),(43,(iI (d.2.1.2.1.1))),(44,(iI y0)),(45,(iI y1)),(46,(pleak4 d y0 y1))]))
noncomputable def pleak12 (z0:tQ.den) (z1:Int) (z2:Int):Fm:=(.cal [(.tmp 4)] (.dr ⟨(pcOf F6 58 [0,1]),opsD (pcOf F6 58 [0,1]).c,14,(opsD (pcOf F6 58 [0,1]).c).toList.drop 7,(fsD (pcOf F6 58 [0,1]).c).drop 7,6,[((pleaQ5 z0 z1 z2),0,none)],[((opsD (pcOf F6 58 [0,1]).c).getD 2 default,2,0,(pleaQ6 z0),(pleaQ7 z0)),((opsD (pcOf F6 58 [0,1]).c).getD 0 default,0,0,(pleaQ8 z0),(pleaQ9 z0))],false⟩ ((opsD (pcOf F6 58 [0,1]).c).getD 6 default) ((fsD (pcOf F6 58 [0,1]).c).getD 6 default) (pleaQ10 z0) [] 15 false ⟨57,[(pleak0 z0)]⟩))
noncomputable def pleak8 (z0:tQ.den) (z1:Int) (z2:Int):Fm:=(.cal [(.tmp 6)] (.dr ⟨(pcOf F6 86 [0,1]),opsD (pcOf F6 86 [0,1]).c,12,(opsD (pcOf F6 86 [0,1]).c).toList.drop 14,(fsD (pcOf F6 86 [0,1]).c).drop 14,13,[((pleaQ11 z0 z1 z2),0,none)],[((opsD (pcOf F6 86 [0,1]).c).getD 11 default,11,1984,(pleaQ12 z0 z1 z2),(pleaQ13 z0 z1 z2)),((opsD (pcOf F6 86 [0,1]).c).getD 6 default,6,0,(pleaQ14 z0 z1 z2),(pleaQ15 z0 z1 z2)),((opsD (pcOf F6 86 [0,1]).c).getD 5 default,5,31,(pleaQ16 z0 z1 z2),(pleaQ14 z0 z1 z2)),((opsD (pcOf F6 86 [0,1]).c).getD 0 default,0,0,(pleaQ17 z0 z1 z2),(pleaQ18 z0 z1 z2))],false⟩ ((opsD (pcOf F6 86 [0,1]).c).getD 13 default) ((fsD (pcOf F6 86 [0,1]).c).getD 13 default) (pleaQ19 z0 z1 z2) [] 21 false ⟨58,[(pleak0 z0)]⟩))
noncomputable def pleak19 (z0:tQ.den) (z1:Int) (z2:Int):Fm:=(.cal [(.tmp 6)] (.op (pcOf F6 84 [0,1,0,1,0,1,1]) 4 (some 14) ((opsOf (pcOf F6 84 [0,1,0,1,0,1,1]).c).toList.drop 4) (pleaQ20 z0 z1 z2) [] 34 true ⟨59,[(pleak0 z0)]⟩))
noncomputable def pleak2 (z0:tQ.den) (z1:Int) (z2:Int):Fm:=(.rnd [] (.op (pcOf F6 107 [0,0,0,1,0,0,1,0,0,1,0,0,1]) 11 (some 47) ((opsOf (pcOf F6 107 [0,0,0,1,0,0,1,0,0,1,0,0,1]).c).toList.drop 11) (pleaQ21 z0 z1 z2) [] 49 false ⟨58,[(pleak10 z0),(pleak0 z0)]⟩))
noncomputable def pleak17:Fm:=(.seq (pcOf F6 107 [1,0,0,1,0,0,1,0,0,1,0,0,1]))
noncomputable def pleak18:Fm:=(.seq (pcOf F6 107 [1,1,0,0,1,0,0,1,0,0,1]))
noncomputable def pleaI2 (d:tQ.den) (x2:Int) (x3:Int) (x8:Int) (x9:Int) (x17:Int) (x28:Nat) (x277:Nat) (x285:Nat):Cfg:=⟨.ex (pcOf F6 97 [0,0,0,1,1]) ⟨(tmOf 26 (pleag14 d++[(1,(.fn 98 [] [(pP 13 0),(pP 12 0)])),(5,(iI x2)),(6,(iI x3))])),(hpOf 14 (pleag1 d++[(6,(pleak7 d x8 x9)),(7,(pleak7 d x8 x9)),(8,(pleak7 d x8 x9)),(10,(cF [(iI x17),(iI x8),(iI x9)]))])),[],[⟨false,.normal⟩],26,false⟩,⟨56,[(pleak0 d)]⟩,[(.lop (pcOf F6 97 [0,0,0,1,1]) 14 (pleaQ4 d) x28),(.blk 0),(.seq (pcOf F6 97 [1,1,1])),(pleak12 d x8 x9),(.seq (pcOf F6 58 [1,1])),(pleak8 d x8 x9),(.seq (pcOf F6 86 [1,1])),(pleak19 d x8 x9),(.seq (pcOf F6 84 [1,1,0,1,0,1,1])),(.blk 1),(pleak2 d x8 x9),(pleak17),(.blk 3),(pleak18),(pleak15 d x8 x277),(.blk 2),(.blk 1),(.seq (pcOf F6 107 [1,1,0,0,1])),(pleak16 d x285),(.blk 0),(pleak3 d),(.blk 0),(pleak5 d),(.blk 0),(.seq (pcOf F6 78 [1,1])),(.cal [(.cell 2 70)] .top)]⟩
noncomputable def pleaQ22 (d:tQ.den):Tmps:=(tmOf 26 (pleag14 d++[(1,(.fn 98 [] [(pP 18 0),(pP 17 0)])),(5,(iI 0)),(6,(pleak1 d))]))
noncomputable def pleak14:AV:=(.fn 108 [] [(pP 15 0),(pP 14 0),(pP 16 0)])
noncomputable def pleag8 (d:tQ.den) (y0:Int) (y1:Int) (y2:Int) (y3:Int):List (Nat×AO):=[(6,(pleak7 d y0 y1)),(8,(pleak7 d y0 y1)),(7,(cF [(iI y2),(iI y0),(iI y1)])),(10,(cF [(iI y3),(iI y0),(iI y1)])),(14,(cF [(.cp (Ty.cells tQ (d)) 0)])),(16,(cF [(.fn 90 [] [(pP 1 0)])]))]
noncomputable def pleaQ23 (d:tQ.den) (y0:Int) (y1:Int) (y2:Int) (y3:Int):Hp:=(hpOf 19 (pleag1 d++pleag8 d y0 y1 y2 y3++[(15,(pleak7 d y0 y1)),(17,(cF [(iI (d.2.1.2.1.1))])),(18,(cF [(pleak14)]))]))
noncomputable def pleag17:List (Nat×AV):=[(2,(pleak14)),(3,(pP 17 0)),(5,(pP 18 0))]
noncomputable def pleaQ24 (d:tQ.den):Tmps:=(tmOf 15 (pleag5 d++pleag17++[(8,(iI (d.2.1.2.1.2.1)))]))
noncomputable def pleaQ25 (d:tQ.den):Tmps:=(tmOf 15 (pleag5 d++pleag17++pleag12 d))
noncomputable def pleaQ26 (d:tQ.den):Tmps:=(tmOf 15 (pleag17++[(0,(iI (d.2.1.2.1.1))),(1,(iI (d.2.1.2.1.2.1))),(6,(iI 0))]))
noncomputable def pleaQ27 (d:tQ.den):Tmps:=(tmOf 15 (pleag5 d++pleag17))
noncomputable def pleaQ28 (d:tQ.den):Tmps:=(tmOf 15 (pleag5 d++pleag17++pleag12 d++[(10,(iI (wr .i64 (d.2.1.2.1.2.1-d.2.1.2.1.1)))),(11,(pleak1 d)),(12,(.fn 98 [] [(pP 18 0),(pP 17 0)]))]))
noncomputable def pleaQ29 (d:tQ.den) (y0:Int) (y1:Int) (y2:Int) (y3:Int):Hp:=(hpOf 17 (pleag1 d++pleag8 d y0 y1 y2 y3++[(15,(pleak7 d y0 y1))]))
noncomputable def pleag6:List (Nat×AV):=[(2,(.fn 90 [] [(pP 1 0)])),(3,(pP 14 0)),(4,(pP 15 0)),(5,(pP 16 0))]
noncomputable def pleaQ30 (d:tQ.den) (y0:Int) (y1:Int):Tmps:=(tmOf 21 (pleag0 d y0 y1++pleag6++pleag3 d))
noncomputable def pleaQ31 (d:tQ.den) (y0:Int) (y1:Int):Tmps:=(tmOf 21 (pleag0 d y0 y1++pleag6++pleag3 d++[(18,(iI (d.2.1.2.1.2.1)))]))
noncomputable def pleaQ32 (d:tQ.den) (y0:Int) (y1:Int):Tmps:=(tmOf 21 (pleag0 d y0 y1++pleag6++[(12,(iI (d.2.1.2.1.1)))]))
noncomputable def pleaQ33 (d:tQ.den) (y0:Int) (y1:Int):Tmps:=(tmOf 21 (pleag0 d y0 y1++pleag6++[(12,(iI (d.2.1.2.1.1))),(13,(.cp (Ty.cells tQ (d)) 0))]))
noncomputable def pleaQ34 (d:tQ.den) (y0:Int) (y1:Int):Tmps:=(tmOf 21 (pleag0 d y0 y1++pleag6))
noncomputable def pleaQ35 (d:tQ.den) (y0:Int) (y1:Int):Tmps:=(tmOf 21 (pleag6++[(0,(.cp (Ty.cells tQ (d)) 0)),(1,(pleak4 d y0 y1)),(6,(iI 0))]))
noncomputable def pleaQ36 (d:tQ.den) (y0:Int) (y1:Int):Tmps:=(tmOf 21 (pleag6++[(0,(.cp (Ty.cells tQ (d)) 0)),(1,(pleak4 d y0 y1)),(6,(iI 0)),(7,(.cp (Ty.cells tQ (d)) 0))]))
noncomputable def pleaQ37 (d:tQ.den) (y0:Int) (y1:Int):Tmps:=(tmOf 21 (pleag0 d y0 y1++pleag6++pleag3 d++[(18,(iI (d.2.1.2.1.2.1))),(19,(pleak14))]))
noncomputable def pleaQ38 (d:tQ.den) (y0:Int) (y1:Int) (y2:Int):Tmps:=(tmOf 34 (pleag9 d y0 y1++[(14,(iI y2)),(15,(pP 7 0)),(16,(.cp (Ty.cells tQ (d)) 0)),(17,(pleak4 d y0 y1)),(18,(.fn 90 [] [(pP 1 0)]))]))
noncomputable def pleak13 (z0:tQ.den) (z1:Int) (z2:Int) (z3:Int) (z4:Int):Fm:=(.cal [(.tmp 4)] (.dr ⟨(pcOf F6 58 [0,1]),opsD (pcOf F6 58 [0,1]).c,19,(opsD (pcOf F6 58 [0,1]).c).toList.drop 7,(fsD (pcOf F6 58 [0,1]).c).drop 7,6,[((pleaQ23 z0 z1 z2 z3 z4),0,none)],[((opsD (pcOf F6 58 [0,1]).c).getD 2 default,2,0,(pleaQ24 z0),(pleaQ25 z0)),((opsD (pcOf F6 58 [0,1]).c).getD 0 default,0,0,(pleaQ26 z0),(pleaQ27 z0))],false⟩ ((opsD (pcOf F6 58 [0,1]).c).getD 6 default) ((fsD (pcOf F6 58 [0,1]).c).getD 6 default) (pleaQ28 z0) [] 15 false ⟨57,[(pleak0 z0)]⟩))
noncomputable def pleak9 (z0:tQ.den) (z1:Int) (z2:Int) (z3:Int) (z4:Int):Fm:=(.cal [(.tmp 6)] (.dr ⟨(pcOf F6 86 [0,1]),opsD (pcOf F6 86 [0,1]).c,17,(opsD (pcOf F6 86 [0,1]).c).toList.drop 14,(fsD (pcOf F6 86 [0,1]).c).drop 14,13,[((pleaQ29 z0 z1 z2 z3 z4),0,none)],[((opsD (pcOf F6 86 [0,1]).c).getD 11 default,11,1984,(pleaQ30 z0 z1 z2),(pleaQ31 z0 z1 z2)),((opsD (pcOf F6 86 [0,1]).c).getD 6 default,6,0,(pleaQ32 z0 z1 z2),(pleaQ33 z0 z1 z2)),((opsD (pcOf F6 86 [0,1]).c).getD 5 default,5,31,(pleaQ34 z0 z1 z2),(pleaQ32 z0 z1 z2)),((opsD (pcOf F6 86 [0,1]).c).getD 0 default,0,0,(pleaQ35 z0 z1 z2),(pleaQ36 z0 z1 z2))],false⟩ ((opsD (pcOf F6 86 [0,1]).c).getD 13 default) ((fsD (pcOf F6 86 [0,1]).c).getD 13 default) (pleaQ37 z0 z1 z2) [] 21 false ⟨58,[(pleak0 z0)]⟩))
noncomputable def pleaI3 (d:tQ.den) (x2:Int) (x3:Int) (x8:Int) (x9:Int) (x10:Int) (x17:Int) (x22:Int) (x33:Nat) (x297:Nat) (x305:Nat):Cfg:=⟨.ex (pcOf F6 97 [0,0,0,1,1]) ⟨(tmOf 26 (pleag14 d++[(1,(.fn 98 [] [(pP 18 0),(pP 17 0)])),(5,(iI x2)),(6,(iI x3))])),(hpOf 19 (pleag1 d++[(6,(pleak7 d x8 x9)),(7,(cF [(iI x10),(iI x8),(iI x9)])),(8,(pleak7 d x8 x9)),(10,(cF [(iI x17),(iI x8),(iI x9)])),(14,(cF [(.cp (Ty.cells tQ (d)) 0)])),(15,(cF [(iI x22),(iI x8),(iI x9)])),(16,(cF [(.fn 90 [] [(pP 1 0)])])),(17,(cF [(iI (d.2.1.2.1.1))])),(18,(cF [(pleak14)]))])),[],[⟨false,.normal⟩],26,false⟩,⟨56,[(pleak0 d)]⟩,[(.lop (pcOf F6 97 [0,0,0,1,1]) 19 (pleaQ22 d) x33),(.blk 0),(.seq (pcOf F6 97 [1,1,1])),(pleak13 d x8 x9 x10 x17),(.seq (pcOf F6 58 [1,1])),(pleak9 d x8 x9 x10 x17),(.seq (pcOf F6 86 [1,1])),(.cal [(.tmp 6)] (.op (pcOf F6 84 [0,1,1,0,1,0,1,1]) 4 (some 19) ((opsOf (pcOf F6 84 [0,1,1,0,1,0,1,1]).c).toList.drop 4) (pleaQ38 d x8 x9 x10) [] 34 true ⟨59,[(pleak0 d)]⟩)),(.seq (pcOf F6 84 [1,1,1,0,1,0,1,1])),(.blk 1),(pleak2 d x8 x9),(pleak17),(.blk 3),(pleak18),(pleak15 d x8 x297),(.blk 2),(.blk 1),(.seq (pcOf F6 107 [1,1,0,0,1])),(pleak16 d x305),(.blk 0),(pleak3 d),(.blk 0),(pleak5 d),(.blk 0),(.seq (pcOf F6 78 [1,1])),(.cal [(.cell 2 70)] .top)]⟩
noncomputable def pleaQ39 (d:tQ.den) (y0:Int) (y1:Int) (y2:Int) (y3:Ty.den tG):Hp:=(hpOf 16 (pleag1 d++[(6,(pleak7 d y0 y1)),(7,(pleak7 d y0 y1)),(8,(pleak7 d y0 y1)),(10,(cF [(iI y2),(iI y0),(iI y1)])),(14,(cF (Ty.cells tG y3))),(15,(cF (Ty.cells tG y3)))]))
noncomputable def pleak6 (z0:tQ.den):AV:=(.vs tM (z0.2.2.2.1.1) (z0.2.2.2.1.2))
noncomputable def pleag4 (d:tQ.den):List (Nat×AV):=[(5,(.cp (Ty.cells tQ (d)) 0)),(1,(pP 1 0)),(3,(.bool false)),(4,(.cp (Ty.cells tQ (d)) 0)),(6,(.cp (Ty.cells tQ (d)) 42))]
noncomputable def pleaQ40 (d:tQ.den) (y0:Ty.den tG):Tmps:=(tmOf 12 (pleag4 d++[(0,(.agg (Ty.cells tG y0))),(2,(pP 15 0)),(7,(pleak6 d))]))
noncomputable def pleag10 (d:tQ.den):List (Nat×AV):=[(4,(iI 0)),(0,(pleak6 d)),(6,(pleak6 d)),(7,(iI (Int.ofNat d.2.2.2.1.2.length)))]
noncomputable def pleag15 (d:tQ.den) (x2:Ty.den tG):List (Nat×AV):=[(7,(pleak6 d)),(0,(.agg (Ty.cells tG x2))),(8,(.agg (Ty.cells tG x2)))]
noncomputable def pleag18 (d:tQ.den) (x2:Ty.den tG):List (Nat×AV):=[(13,(.cp (Ty.cells tQ (d)) 0)),(11,(.cp (Ty.cells tQ (d)) 0)),(5,(.bool false)),(14,(iI (Int.ofNat d.1.1.2.length))),(16,(.agg (Ty.cells tG x2))),(19,(.agg (Ty.cells tG x2)))]
noncomputable def pleaI4 (d:tQ.den) (x2:Ty.den tG) (x7:Int) (x11:Int) (x12:Int) (x20:Int) (x36:Nat) (x109:Int) (x126:Int) (x135:Int) (x136:Int) (x144:Int) (x145:Int) (x146:Int) (x156:Nat) (x405:Nat) (x413:Nat):Cfg:=⟨.ex (pcOf F6 109 [0,0,1,0,1]) ⟨(tmOf 19 (pleag10 d++[(1,(.fn 89 [(.agg (Ty.cells tG x2))] [])),(8,(iI x7))])),(pleaQ39 d x11 x12 x20 x2),[],[⟨false,.normal⟩],19,false⟩,⟨51,[(pleak0 d)]⟩,[(.lop (pcOf F6 109 [0,0,1,0,1]) 16 (tmOf 19 (pleag10 d++[(1,(.fn 89 [(.agg (Ty.cells tG x2))] [])),(8,(iI 0))])) x36),(.blk 0),(.seq (pcOf F6 109 [1,1])),(.cal [(.tmp 4)] (.op (pcOf F6 88 [0,1]) 3 (some 7) ((opsOf (pcOf F6 88 [0,1]).c).toList.drop 3) (tmOf 9 [(0,(pleak6 d)),(1,(.fn 89 [(.agg (Ty.cells tG x2))] [])),(4,(.bool false)),(5,(pleak6 d)),(6,(.fn 89 [(.agg (Ty.cells tG x2))] []))]) [] 9 false ⟨52,[(pleak0 d)]⟩)),(.seq (pcOf F6 88 [1,1])),(.cal [(.tmp 4)] (.dr ⟨(pcOf F6 87 [0,1]),opsD (pcOf F6 87 [0,1]).c,16,(opsD (pcOf F6 87 [0,1]).c).toList.drop 7,(fsD (pcOf F6 87 [0,1]).c).drop 7,6,[((pleaQ39 d x11 x12 x20 x2),0,none)],[((opsD (pcOf F6 87 [0,1]).c).getD 4 default,4,0,(pleaQ40 d x2),(tmOf 12 (pleag15 d x2++pleag4 d++[(2,(pP 15 0))]))),((opsD (pcOf F6 87 [0,1]).c).getD 3 default,3,7,(tmOf 12 (pleag4 d++[(0,(.agg (Ty.cells tG x2))),(2,(pP 15 0))])),(pleaQ40 d x2)),((opsD (pcOf F6 87 [0,1]).c).getD 0 default,0,0,(tmOf 12 [(0,(.agg (Ty.cells tG x2))),(1,(pP 1 0)),(2,(pP 15 0)),(3,(.bool false))]),(tmOf 12 [(0,(.agg (Ty.cells tG x2))),(1,(pP 1 0)),(2,(pP 15 0)),(3,(.bool false)),(4,(.cp (Ty.cells tQ (d)) 0))]))],false⟩ ((opsD (pcOf F6 87 [0,1]).c).getD 6 default) ((fsD (pcOf F6 87 [0,1]).c).getD 6 default) (tmOf 12 (pleag15 d x2++pleag4 d++[(2,(pP 15 0)),(9,(.fn 89 [(.agg (Ty.cells tG x2))] []))])) [] 12 false ⟨53,[(pleak0 d)]⟩)),(.seq (pcOf F6 87 [1,1])),(.cal [(.tmp 3)] (.op (pcOf F6 108 [0,1,1,1]) 3 (some 20) ((opsOf (pcOf F6 108 [0,1,1,1]).c).toList.drop 3) (tmOf 21 (pleag18 d x2++[(0,(iI x20)),(1,(pP 10 0)),(2,(pP 9 0)),(3,(pP 11 0)),(6,(pP 14 0)),(7,(iI x109)),(8,(iI x20)),(9,(pP 10 0)),(10,(.tup [(.agg (Ty.cells tG x2)),(iI x109)])),(12,(.agg [(iI x20),(iI x11),(iI x12)])),(15,(.tup [(.agg (Ty.cells tG x2)),(iI x109)])),(17,(iI x109)),(18,(.fn 87 [] [(pP 1 0)]))])) [] 21 false ⟨54,[(pleak0 d)]⟩)),(.seq (pcOf F6 108 [1,1,1,1])),(.cal [(.tmp 5)] (.op (pcOf F6 98 [0,1]) 5 (some 9) ((opsOf (pcOf F6 98 [0,1]).c).toList.drop 5) (tmOf 10 [(0,(iI x126)),(1,(pP 13 0)),(2,(pP 12 0)),(4,(.bool false)),(5,(pleak11)),(6,(iI (d.2.1.2.1.1))),(7,(iI x126)),(8,(iI x20))]) [] 10 false ⟨55,[(pleak0 d)]⟩)),(.seq (pcOf F6 98 [1,1])),(.cal [(.tmp 4)] (.op (pcOf F6 97 [0,1,0,1,0,0,0,1,1]) 3 (some 20) ((opsOf (pcOf F6 97 [0,1,0,1,0,0,0,1,1]).c).toList.drop 3) (tmOf 26 (pleag14 d++[(1,(.fn 98 [] [(pP 13 0),(pP 12 0)])),(5,(iI x135)),(6,(iI x136)),(7,(iI x126)),(9,(iI x135)),(10,(iI x136)),(11,(.bool true)),(12,(iI x135)),(13,(iI x136)),(14,(iI x144)),(15,(.int .u64 x145)),(16,(.int .u64 x146)),(17,(iI x126)),(18,(.fn 98 [] [(pP 13 0),(pP 12 0)])),(19,(iI x126))])) [] 26 false ⟨56,[(pleak0 d)]⟩)),(.seq (pcOf F6 97 [1,1,0,1,0,0,0,1,1])),(.blk 1),(.lop (pcOf F6 97 [0,0,0,1,1]) 14 (pleaQ4 d) x156),(.blk 0),(.seq (pcOf F6 97 [1,1,1])),(pleak12 d x11 x12),(.seq (pcOf F6 58 [1,1])),(pleak8 d x11 x12),(.seq (pcOf F6 86 [1,1])),(pleak19 d x11 x12),(.seq (pcOf F6 84 [1,1,0,1,0,1,1])),(.blk 1),(pleak2 d x11 x12),(pleak17),(.blk 3),(pleak18),(pleak15 d x11 x405),(.blk 2),(.blk 1),(.seq (pcOf F6 107 [1,1,0,0,1])),(pleak16 d x413),(.blk 0),(pleak3 d),(.blk 0),(pleak5 d),(.blk 0),(.seq (pcOf F6 78 [1,1])),(.cal [(.cell 2 70)] .top)]⟩
noncomputable def pleaI5 (d:tQ.den) (x0:Int) (x1:Int) (x26:List AV) (x52:Nat) (x60:Nat):Cfg:=⟨.ex (pcOf F6 107 [0,0,1,0,0,1,0,0,1]) ⟨(pleaQ2 d x0 x1),(hpOf 7 (pleag13 d++[(0,(cF [(.sl 6 0 (1) (1) 3)])),(6,(cF x26))])),[],[⟨false,.normal⟩,⟨false,.normal⟩],49,false⟩,⟨58,[(pleak10 d),(pleak0 d)]⟩,[(pleak15 d x0 x52),(.blk 2),(.blk 1),(.seq (pcOf F6 107 [1,1,0,0,1])),(pleak16 d x60),(.blk 0),(pleak3 d),(.blk 0),(pleak5 d),(.blk 0),(.seq (pcOf F6 78 [1,1])),(.cal [(.cell 2 70)] .top)]⟩
noncomputable def pleaQ41 (d:tQ.den) (y0:Int) (y1:Int) (y2:Int) (y3:Int) (y4:Int) (y5:Ty.den tG):Hp:=(hpOf 21 (pleag1 d++pleag8 d y0 y1 y2 y3++[(15,(cF [(iI y4),(iI y0),(iI y1)])),(17,(cF [(iI (d.2.1.2.1.1))])),(18,(cF [(pleak14)])),(19,(cF (Ty.cells tG y5))),(20,(cF (Ty.cells tG y5)))]))
noncomputable def pleaQ42 (d:tQ.den) (y0:Ty.den tG):Tmps:=(tmOf 11 (pleag4 d++[(0,(.agg (Ty.cells tG y0))),(2,(pP 20 0)),(7,(pleak6 d))]))
noncomputable def pleaI6 (d:tQ.den) (x2:Ty.den tG) (x7:Int) (x11:Int) (x12:Int) (x13:Int) (x20:Int) (x25:Int) (x41:Nat) (x119:Int) (x136:Int) (x145:Int) (x146:Int) (x154:Int) (x155:Int) (x156:Int) (x166:Nat) (x430:Nat) (x438:Nat):Cfg:=⟨.ex (pcOf F6 109 [0,0,1,0,1]) ⟨(tmOf 19 (pleag10 d++[(1,(.fn 91 [(.agg (Ty.cells tG x2))] [])),(8,(iI x7))])),(pleaQ41 d x11 x12 x13 x20 x25 x2),[],[⟨false,.normal⟩],19,false⟩,⟨51,[(pleak0 d)]⟩,[(.lop (pcOf F6 109 [0,0,1,0,1]) 21 (tmOf 19 (pleag10 d++[(1,(.fn 91 [(.agg (Ty.cells tG x2))] [])),(8,(iI 0))])) x41),(.blk 0),(.seq (pcOf F6 109 [1,1])),(.cal [(.tmp 4)] (.op (pcOf F6 88 [0,1]) 3 (some 7) ((opsOf (pcOf F6 88 [0,1]).c).toList.drop 3) (tmOf 9 [(0,(pleak6 d)),(1,(.fn 91 [(.agg (Ty.cells tG x2))] [])),(4,(.bool false)),(5,(pleak6 d)),(6,(.fn 91 [(.agg (Ty.cells tG x2))] []))]) [] 9 false ⟨52,[(pleak0 d)]⟩)),(.seq (pcOf F6 88 [1,1])),(.cal [(.tmp 4)] (.dr ⟨(pcOf F6 90 [0,1]),opsD (pcOf F6 90 [0,1]).c,21,(opsD (pcOf F6 90 [0,1]).c).toList.drop 7,(fsD (pcOf F6 90 [0,1]).c).drop 7,6,[((pleaQ41 d x11 x12 x13 x20 x25 x2),0,none)],[((opsD (pcOf F6 90 [0,1]).c).getD 4 default,4,0,(pleaQ42 d x2),(tmOf 11 (pleag15 d x2++pleag4 d++[(2,(pP 20 0))]))),((opsD (pcOf F6 90 [0,1]).c).getD 3 default,3,7,(tmOf 11 (pleag4 d++[(0,(.agg (Ty.cells tG x2))),(2,(pP 20 0))])),(pleaQ42 d x2)),((opsD (pcOf F6 90 [0,1]).c).getD 0 default,0,0,(tmOf 11 [(0,(.agg (Ty.cells tG x2))),(1,(pP 1 0)),(2,(pP 20 0)),(3,(.bool false))]),(tmOf 11 [(0,(.agg (Ty.cells tG x2))),(1,(pP 1 0)),(2,(pP 20 0)),(3,(.bool false)),(4,(.cp (Ty.cells tQ (d)) 0))]))],false⟩ ((opsD (pcOf F6 90 [0,1]).c).getD 6 default) ((fsD (pcOf F6 90 [0,1]).c).getD 6 default) (tmOf 11 (pleag15 d x2++pleag4 d++[(2,(pP 20 0)),(9,(.fn 91 [(.agg (Ty.cells tG x2))] []))])) [] 11 false ⟨53,[(pleak0 d)]⟩)),(.seq (pcOf F6 90 [1,1])),(.cal [(.tmp 3)] (.op (pcOf F6 108 [0,1,1,1]) 3 (some 20) ((opsOf (pcOf F6 108 [0,1,1,1]).c).toList.drop 3) (tmOf 21 (pleag18 d x2++[(0,(iI x25)),(1,(pP 15 0)),(2,(pP 14 0)),(3,(pP 16 0)),(6,(pP 19 0)),(7,(iI x119)),(8,(iI x25)),(9,(pP 15 0)),(10,(.tup [(.agg (Ty.cells tG x2)),(iI x119)])),(12,(.agg [(iI x25),(iI x11),(iI x12)])),(15,(.tup [(.agg (Ty.cells tG x2)),(iI x119)])),(17,(iI x119)),(18,(.fn 90 [] [(pP 1 0)]))])) [] 21 false ⟨54,[(pleak0 d)]⟩)),(.seq (pcOf F6 108 [1,1,1,1])),(.cal [(.tmp 5)] (.op (pcOf F6 98 [0,1]) 5 (some 9) ((opsOf (pcOf F6 98 [0,1]).c).toList.drop 5) (tmOf 10 [(0,(iI x136)),(1,(pP 18 0)),(2,(pP 17 0)),(4,(.bool false)),(5,(pleak14)),(6,(iI (d.2.1.2.1.1))),(7,(iI x136)),(8,(iI x25))]) [] 10 false ⟨55,[(pleak0 d)]⟩)),(.seq (pcOf F6 98 [1,1])),(.cal [(.tmp 4)] (.op (pcOf F6 97 [0,1,0,1,0,0,0,1,1]) 3 (some 20) ((opsOf (pcOf F6 97 [0,1,0,1,0,0,0,1,1]).c).toList.drop 3) (tmOf 26 (pleag14 d++[(1,(.fn 98 [] [(pP 18 0),(pP 17 0)])),(5,(iI x145)),(6,(iI x146)),(7,(iI x136)),(9,(iI x145)),(10,(iI x146)),(11,(.bool true)),(12,(iI x145)),(13,(iI x146)),(14,(iI x154)),(15,(.int .u64 x155)),(16,(.int .u64 x156)),(17,(iI x136)),(18,(.fn 98 [] [(pP 18 0),(pP 17 0)])),(19,(iI x136))])) [] 26 false ⟨56,[(pleak0 d)]⟩)),(.seq (pcOf F6 97 [1,1,0,1,0,0,0,1,1])),(.blk 1),(.lop (pcOf F6 97 [0,0,0,1,1]) 19 (pleaQ22 d) x166),(.blk 0),(.seq (pcOf F6 97 [1,1,1])),(pleak13 d x11 x12 x13 x20),(.seq (pcOf F6 58 [1,1])),(pleak9 d x11 x12 x13 x20),(.seq (pcOf F6 86 [1,1])),(.cal [(.tmp 6)] (.op (pcOf F6 84 [0,1,1,0,1,0,1,1]) 4 (some 19) ((opsOf (pcOf F6 84 [0,1,1,0,1,0,1,1]).c).toList.drop 4) (pleaQ38 d x11 x12 x13) [] 34 true ⟨59,[(pleak0 d)]⟩)),(.seq (pcOf F6 84 [1,1,1,0,1,0,1,1])),(.blk 1),(pleak2 d x11 x12),(pleak17),(.blk 3),(pleak18),(pleak15 d x11 x430),(.blk 2),(.blk 1),(.seq (pcOf F6 107 [1,1,0,0,1])),(pleak16 d x438),(.blk 0),(pleak3 d),(.blk 0),(pleak5 d),(.blk 0),(.seq (pcOf F6 78 [1,1])),(.cal [(.cell 2 70)] .top)]⟩
theorem plea_start (d:tQ.den):adv F6 (Z6 [107,97,109]) 3000 (startC F6 78 [tQ.pv d] 60)=some (.stop (pleaI0 d (d.2.1.2.2.1.1) (1048575))):=by kernel_rfl
theorem plea_step0 (d:tQ.den) (x0:Int) (x19:Nat):adv F6 (Z6 [107,97,109]) 3000 (pleaI0 d x0 (x19+1))=(bif ile x0 d.2.1.2.2.1.2.1 then some (.stop (pleaI1 d (x0) (d.2.1.2.2.2.1.1) (1048575) (x19+1))) else some (.done .nils)):=by kernel_rfl
theorem plea_step1 (d:tQ.den) (x0:Int) (x1:Int) (x49:Nat) (x57:Nat):adv F6 (Z6 [107,97,109]) 3000 (pleaI1 d x0 x1 (x49+1) (x57+1))=(bif ile x1 d.2.1.2.2.2.1.2.1 then (bif ieq d.2.1.2.1.1 d.2.1.2.1.1 then (bif ieq x0 x0 then (bif ieq x1 x1 then (bif ieq d.2.1.2.1.1 d.2.1.2.1.1 then (bif ieq x0 x0 then (bif ieq x1 x1 then (bif ieq d.2.1.2.1.1 d.2.1.2.1.1 then (bif ieq x0 x0 then (bif ieq x1 x1 then some (.stop (pleaI2 d (0) (wr .i64 (wr .i64 (d.2.1.2.1.2.1-d.2.1.2.1.1)+1)) (x0) (x1) (d.2.1.2.1.1) (1048575) (x49+1) (x57+1))) else none) else none) else none) else none) else none) else none) else none) else none) else none) else some (.stop (pleaI0 d (wr .i64 (x0+1)) (x57)))):=by kernel_rfl
theorem plea_step2 (d:tQ.den) (x2:Int) (x3:Int) (x8:Int) (x9:Int) (x17:Int) (x28:Nat) (x277:Nat) (x285:Nat):adv F6 (Z6 [107,97,109]) 3000 (pleaI2 d x2 x3 x8 x9 x17 (x28+1) (x277+1) (x285+1))=(bif !ile x3 x2 then (bif d.1.1.2.length.ble 30 then (bif avbeq (AV.cp (tQ.cells d) 0) (AV.cp (tQ.cells d) 0) then (bif ieq (wr .i64 (d.2.1.2.1.1+wr .i64 ((wr IntKind.u64 (wr .i64 (x2+x3))).fdiv (2 ^ min (Int.toNat 1) IntKind.u64.bits)))) (wr .i64 (d.2.1.2.1.1+wr .i64 ((wr IntKind.u64 (wr .i64 (x2+x3))).fdiv (2 ^ min (Int.toNat 1) IntKind.u64.bits)))) then (bif ieq x8 x8 then (bif ieq x9 x9 then (bif ieq (wr .i64 (d.2.1.2.1.1+wr .i64 ((wr IntKind.u64 (wr .i64 (x2+x3))).fdiv (2 ^ min (Int.toNat 1) IntKind.u64.bits)))) (wr .i64 (d.2.1.2.1.1+wr .i64 ((wr IntKind.u64 (wr .i64 (x2+x3))).fdiv (2 ^ min (Int.toNat 1) IntKind.u64.bits)))) then (bif ieq x8 x8 then (bif ieq x9 x9 then (bif avbeq (AV.cp (tQ.cells d) 0) (AV.cp (tQ.cells d) 0) then (bif avbeq (AV.cp (tQ.cells d) 0) (AV.cp (tQ.cells d) 0) then some (.stop (pleaI4 d (mrnA d (wr .i64 (d.2.1.2.1.1+wr .i64 ((wr IntKind.u64 (wr .i64 (x2+x3))).fdiv (2 ^ min (Int.toNat 1) IntKind.u64.bits))),x8,x9,()) ↑d.1.1.2.length) (0) (x8) (x9) (wr .i64 (d.2.1.2.1.1+wr .i64 ((wr IntKind.u64 (wr .i64 (x2+x3))).fdiv (2 ^ min (Int.toNat 1) IntKind.u64.bits)))) (1048575) (shtA d (wr .i64 (d.2.1.2.1.1+wr .i64 ((wr IntKind.u64 (wr .i64 (x2+x3))).fdiv (2 ^ min (Int.toNat 1) IntKind.u64.bits))),x8,x9,()) ↑d.1.1.2.length) (wr .i64 ((wr IntKind.u64 (wr .i64 (x2+x3))).fdiv (2 ^ min (Int.toNat 1) IntKind.u64.bits))) (x2) (x3) (wr .i64 (x2+x3)) (wr IntKind.u64 (wr .i64 (x2+x3))) ((wr IntKind.u64 (wr .i64 (x2+x3))).fdiv (2 ^ min (Int.toNat 1) IntKind.u64.bits)) (x28+1) (x277+1) (x285+1))) else none) else none) else none) else none) else none) else none) else none) else none) else none) else none) else (bif ieq d.2.1.2.1.1 d.2.1.2.1.1 then (bif ieq d.2.1.2.1.1 d.2.1.2.1.1 then (bif ieq d.2.1.2.1.1 d.2.1.2.1.1 then (bif avbeq (AV.cp (tQ.cells d) 0) (AV.cp (tQ.cells d) 0) then (bif avbeq (AV.cp (tQ.cells d) 0) (AV.cp (tQ.cells d) 0) then some (.stop (pleaI3 d (0) (wr .i64 (wr .i64 (d.2.1.2.1.2.1-d.2.1.2.1.1)+1)) (x8) (x9) (wr .i64 (d.2.1.2.1.1+x2)) (x17) (d.2.1.2.1.1) (1048575) (x277+1) (x285+1))) else none) else none) else none) else none) else none)):=by kernel_rfl
theorem plea_step3 (d:tQ.den) (x2:Int) (x3:Int) (x8:Int) (x9:Int) (x10:Int) (x17:Int) (x22:Int) (x33:Nat) (x297:Nat) (x305:Nat):adv F6 (Z6 [107,97,109]) 3000 (pleaI3 d x2 x3 x8 x9 x10 x17 x22 (x33+1) (x297+1) (x305+1))=(bif !ile x3 x2 then (bif d.1.1.2.length.ble 30 then (bif avbeq (AV.cp (tQ.cells d) 0) (AV.cp (tQ.cells d) 0) then (bif ieq (wr .i64 (d.2.1.2.1.1+wr .i64 ((wr IntKind.u64 (wr .i64 (x2+x3))).fdiv (2 ^ min (Int.toNat 1) IntKind.u64.bits)))) (wr .i64 (d.2.1.2.1.1+wr .i64 ((wr IntKind.u64 (wr .i64 (x2+x3))).fdiv (2 ^ min (Int.toNat 1) IntKind.u64.bits)))) then (bif ieq x8 x8 then (bif ieq x9 x9 then (bif ieq (wr .i64 (d.2.1.2.1.1+wr .i64 ((wr IntKind.u64 (wr .i64 (x2+x3))).fdiv (2 ^ min (Int.toNat 1) IntKind.u64.bits)))) (wr .i64 (d.2.1.2.1.1+wr .i64 ((wr IntKind.u64 (wr .i64 (x2+x3))).fdiv (2 ^ min (Int.toNat 1) IntKind.u64.bits)))) then (bif ieq x8 x8 then (bif ieq x9 x9 then (bif avbeq (AV.cp (tQ.cells d) 0) (AV.cp (tQ.cells d) 0) then (bif avbeq (AV.cp (tQ.cells d) 0) (AV.cp (tQ.cells d) 0) then some (.stop (pleaI6 d (mrnA d (wr .i64 (d.2.1.2.1.1+wr .i64 ((wr IntKind.u64 (wr .i64 (x2+x3))).fdiv (2 ^ min (Int.toNat 1) IntKind.u64.bits))),x8,x9,()) ↑d.1.1.2.length) (0) (x8) (x9) (x10) (x17) (wr .i64 (d.2.1.2.1.1+wr .i64 ((wr IntKind.u64 (wr .i64 (x2+x3))).fdiv (2 ^ min (Int.toNat 1) IntKind.u64.bits)))) (1048575) (shtA d (wr .i64 (d.2.1.2.1.1+wr .i64 ((wr IntKind.u64 (wr .i64 (x2+x3))).fdiv (2 ^ min (Int.toNat 1) IntKind.u64.bits))),x8,x9,()) ↑d.1.1.2.length) (wr .i64 ((wr IntKind.u64 (wr .i64 (x2+x3))).fdiv (2 ^ min (Int.toNat 1) IntKind.u64.bits))) (x2) (x3) (wr .i64 (x2+x3)) (wr IntKind.u64 (wr .i64 (x2+x3))) ((wr IntKind.u64 (wr .i64 (x2+x3))).fdiv (2 ^ min (Int.toNat 1) IntKind.u64.bits)) (x33+1) (x297+1) (x305+1))) else none) else none) else none) else none) else none) else none) else none) else none) else none) else none) else (bif ieq d.2.1.2.1.1 d.2.1.2.1.1 then (bif ieq d.2.1.2.1.1 d.2.1.2.1.1 then (bif ieq d.2.1.2.1.1 d.2.1.2.1.1 then (bif avbeq (AV.cp (tQ.cells d) 0) (AV.cp (tQ.cells d) 0) then (bif avbeq (AV.cp (tQ.cells d) 0) (AV.cp (tQ.cells d) 0) then (bif ile x10 (wr .i64 (wr .i64 (d.2.1.2.1.1+x2)-1)) then some (.stop (pleaI5 d (x8) (wr .i64 (x9+1)) ([AV.int IntKind.i64 x10,AV.int IntKind.i64 x8,AV.int IntKind.i64 x9]) (x297) (x305+1))) else some (.stop (pleaI1 d (x8) (wr .i64 (x9+1)) (x297) (x305+1)))) else none) else none) else none) else none) else none)):=by kernel_rfl
theorem plea_step4 (e1:tS.den) (e2:tK.den) (e3:tF.den) (e4:Bool) (x2:Ty.den tG) (x11:Int) (x12:Int) (x20:Int) (x36:Nat) (x109:Int) (x126:Int) (x135:Int) (x136:Int) (x144:Int) (x145:Int) (x146:Int) (x156:Nat) (x405:Nat) (x413:Nat):adv F6 (Z6 [107,97,109]) 3000 (pleaI4 (nd e1 e2 e3 e4) x2 0 x11 x12 x20 (x36+1) x109 x126 x135 x136 x144 x145 x146 (x156+1) (x405+1) (x413+1))=(zR x2 (bif avbeq (AV.cp (tQ.cells (nd e1 e2 e3 e4)) 0) (AV.cp (tQ.cells (nd e1 e2 e3 e4)) 0) then some (.stop (pleaI2 (nd e1 e2 e3 e4) (x135) (x126) (x11) (x12) (x20) (x156) (x405+1) (x413+1))) else none)):=by kernel_rfl
theorem plea_step6 (e1:tS.den) (e2:tK.den) (e3:tF.den) (e4:Bool) (x2:Ty.den tG) (x11:Int) (x12:Int) (x13:Int) (x20:Int) (x25:Int) (x41:Nat) (x119:Int) (x136:Int) (x145:Int) (x146:Int) (x154:Int) (x155:Int) (x156:Int) (x166:Nat) (x430:Nat) (x438:Nat):adv F6 (Z6 [107,97,109]) 3000 (pleaI6 (nd e1 e2 e3 e4) x2 0 x11 x12 x13 x20 x25 (x41+1) x119 x136 x145 x146 x154 x155 x156 (x166+1) (x430+1) (x438+1))=(zR x2 (bif avbeq (AV.cp (tQ.cells (nd e1 e2 e3 e4)) 0) (AV.cp (tQ.cells (nd e1 e2 e3 e4)) 0) then some (.stop (pleaI3 (nd e1 e2 e3 e4) (wr .i64 (x136+1)) (x146) (x11) (x12) (x13) (x20) (x25) (x166) (x430+1) (x438+1))) else none)):=by kernel_rfl
noncomputable def pleJ (d:tQ.den) (x0:Int) (x1:Int) (q:Nat) (x26:List AV) (x52:Nat) (x60:Nat):Cfg:=⟨.ex (pcOf F6 107 [0,0,1,0,0,1,0,0,1]) ⟨(tmOf 49 [(0,(.yld 5)),(1,(.ptr 4 0)),(3,(.int .i64 x0)),(4,(.int .i64 x1)),(5,(.cp (Ty.cells tQ (d)) 0)),(6,(.cp (Ty.cells tQ (d)) 0)),(7,(.cp (Ty.cells tQ (d)) 3)),(8,(.cp (Ty.cells tQ (d)) 6)),(9,(.cp (Ty.cells tQ (d)) 6)),(10,(.int .i64 (d.2.1.2.2.1.1))),(11,(.int .i64 x0)),(12,(.cp (Ty.cells tQ (d)) 0)),(13,(.cp (Ty.cells tQ (d)) 0)),(14,(.cp (Ty.cells tQ (d)) 3)),(15,(.cp (Ty.cells tQ (d)) 6)),(16,(.cp (Ty.cells tQ (d)) 7)),(17,(.int .i64 (d.2.1.2.2.1.2.1))),(18,(.bool (true))),(21,(.cp (Ty.cells tQ (d)) 0)),(22,(.cp (Ty.cells tQ (d)) 0)),(23,(.cp (Ty.cells tQ (d)) 3)),(24,(.cp (Ty.cells tQ (d)) 8)),(25,(.cp (Ty.cells tQ (d)) 8)),(26,(.int .i64 (d.2.1.2.2.2.1.1)))]),(hpOf 7 [(0,(.cells false [(.sl 6 0 q q 3)])),(1,(.cells false [(.cp (Ty.cells tQ (d)) 0)])),(3,(.cells false [(.yld 2)])),(4,(.cells false [(.cp (Ty.cells tQ (d)) 0)])),(6,(.cells false x26))]),[],[⟨false,.normal⟩,⟨false,.normal⟩],49,false⟩,⟨58,[⟨5,34,59,(tmOf 34 [(0,(.yld 2)),(1,(.ptr 1 0)),(2,(.ptr 3 0)),(6,(.cp (Ty.cells tQ (d)) 0)),(7,(.fn 107 [] [(.ptr 4 0)]))]),#[8],(pcOf F6 84 [0,0,1,1]),(pcOf F6 84 [1,0,1,1])⟩,⟨2,13,60,(tmOf 13 [(0,(.cp (Ty.cells tQ (d)) 0)),(2,(.ptr 0 0)),(4,(.cp (Ty.cells tQ (d)) 0)),(5,(.fn 84 [] [(.ptr 1 0)]))]),#[6,7],(pcOf F6 78 [0,0,1,0,1]),(pcOf F6 78 [1,0,1,0,1])⟩]⟩,[(.lop (pcOf F6 107 [0,0,1,0,0,1,0,0,1]) 6 (tmOf 49 [(0,(.yld 5)),(1,(.ptr 4 0)),(3,(.int .i64 x0)),(4,(.int .i64 (d.2.1.2.2.2.1.1))),(5,(.cp (Ty.cells tQ (d)) 0)),(6,(.cp (Ty.cells tQ (d)) 0)),(7,(.cp (Ty.cells tQ (d)) 3)),(8,(.cp (Ty.cells tQ (d)) 6)),(9,(.cp (Ty.cells tQ (d)) 6)),(10,(.int .i64 (d.2.1.2.2.1.1))),(11,(.int .i64 x0)),(12,(.cp (Ty.cells tQ (d)) 0)),(13,(.cp (Ty.cells tQ (d)) 0)),(14,(.cp (Ty.cells tQ (d)) 3)),(15,(.cp (Ty.cells tQ (d)) 6)),(16,(.cp (Ty.cells tQ (d)) 7)),(17,(.int .i64 (d.2.1.2.2.1.2.1))),(18,(.bool (true))),(21,(.cp (Ty.cells tQ (d)) 0)),(22,(.cp (Ty.cells tQ (d)) 0)),(23,(.cp (Ty.cells tQ (d)) 3)),(24,(.cp (Ty.cells tQ (d)) 8)),(25,(.cp (Ty.cells tQ (d)) 8)),(26,(.int .i64 (d.2.1.2.2.2.1.1)))]) x52),(.blk 2),(.blk 1),(.seq (pcOf F6 107 [1,1,0,0,1])),(.lop (pcOf F6 107 [0,0,1]) 6 (tmOf 49 [(0,(.yld 5)),(1,(.ptr 4 0)),(3,(.int .i64 (d.2.1.2.2.1.1))),(5,(.cp (Ty.cells tQ (d)) 0)),(6,(.cp (Ty.cells tQ (d)) 0)),(7,(.cp (Ty.cells tQ (d)) 3)),(8,(.cp (Ty.cells tQ (d)) 6)),(9,(.cp (Ty.cells tQ (d)) 6)),(10,(.int .i64 (d.2.1.2.2.1.1)))]) x60),(.blk 0),(.cal [] (.rng (tmOf 34 [(0,(.yld 2)),(1,(.ptr 1 0)),(2,(.ptr 3 0)),(6,(.cp (Ty.cells tQ (d)) 0)),(7,(.fn 107 [] [(.ptr 4 0)]))]) [] 34 false ⟨59,[⟨2,13,60,(tmOf 13 [(0,(.cp (Ty.cells tQ (d)) 0)),(2,(.ptr 0 0)),(4,(.cp (Ty.cells tQ (d)) 0)),(5,(.fn 84 [] [(.ptr 1 0)]))]),#[6,7],(pcOf F6 78 [0,0,1,0,1]),(pcOf F6 78 [1,0,1,0,1])⟩]⟩)),(.blk 0),(.cal [] (.rng (tmOf 13 [(0,(.cp (Ty.cells tQ (d)) 0)),(2,(.ptr 0 0)),(4,(.cp (Ty.cells tQ (d)) 0)),(5,(.fn 84 [] [(.ptr 1 0)]))]) [] 13 false ⟨60,[]⟩)),(.blk 0),(.seq (pcOf F6 78 [1,1])),(.cal [(.cell 2 70)] .top)]⟩
end Go.Proofs.YtelibdeanepdjaaGreat


set_option maxRecDepth 100000
namespace Go.Proofs.YtelibdeanepdjaaGreat
open Go Go.Eng
noncomputable def plebg21 (y0:Nat) (y1:List AV):List (Nat×AO):=[(0,(cF [(.sl 6 0 y0 y0 3)])),(6,(cF y1))]
noncomputable def plebg19 (d:tQ.den):List (Nat×AO):=[(1,(cF [(.cp (Ty.cells tQ (d)) 0)])),(3,(cF [(.yld 2)])),(4,(cF [(.cp (Ty.cells tQ (d)) 0)]))]
noncomputable def plebQ0 (d:tQ.den) (y0:Nat) (y1:List AV):Hp:=(hpOf 7 (plebg21 y0 y1++plebg19 d))
noncomputable def plebg28 (d:tQ.den):List (Nat×AV):=[(0,(.yld 5)),(1,(pP 4 0)),(5,(.cp (Ty.cells tQ (d)) 0)),(6,(.cp (Ty.cells tQ (d)) 0)),(7,(.cp (Ty.cells tQ (d)) 3)),(8,(.cp (Ty.cells tQ (d)) 6)),(9,(.cp (Ty.cells tQ (d)) 6)),(10,(iI (d.2.1.2.2.1.1)))]
noncomputable def plebQ1 (d:tQ.den):Tmps:=(tmOf 49 (plebg28 d++[(3,(iI (d.2.1.2.2.1.1)))]))
noncomputable def plebk7 (z0:tQ.den):HD:=⟨5,34,59,(tmOf 34 [(0,(.yld 2)),(1,(pP 1 0)),(2,(pP 3 0)),(6,(.cp (Ty.cells tQ (z0)) 0)),(7,(.fn 107 [] [(pP 4 0)]))]),#[8],(pcOf F6 84 [0,0,1,1]),(pcOf F6 84 [1,0,1,1])⟩
noncomputable def plebk0 (z0:tQ.den):HD:=⟨2,13,60,(tmOf 13 [(0,(.cp (Ty.cells tQ (z0)) 0)),(2,(pP 0 0)),(4,(.cp (Ty.cells tQ (z0)) 0)),(5,(.fn 84 [] [(pP 1 0)]))]),#[6,7],(pcOf F6 78 [0,0,1,0,1]),(pcOf F6 78 [1,0,1,0,1])⟩
noncomputable def plebk23 (z0:tQ.den) (z1:Nat):Fm:=(.lop (pcOf F6 107 [0,0,1]) 6 (plebQ1 z0) z1)
noncomputable def plebk3 (z0:tQ.den):Fm:=(.cal [] (.rng (tmOf 34 [(0,(.yld 2)),(1,(pP 1 0)),(2,(pP 3 0)),(6,(.cp (Ty.cells tQ (z0)) 0)),(7,(.fn 107 [] [(pP 4 0)]))]) [] 34 false ⟨59,[(plebk0 z0)]⟩))
noncomputable def plebk4 (z0:tQ.den):Fm:=(.cal [] (.rng (tmOf 13 [(0,(.cp (Ty.cells tQ (z0)) 0)),(2,(pP 0 0)),(4,(.cp (Ty.cells tQ (z0)) 0)),(5,(.fn 84 [] [(pP 1 0)]))]) [] 13 false ⟨60,[]⟩))
noncomputable def plebI0 (d:tQ.den) (u0 u1:Int) (q:Nat) (u26:List AV) (n m:Nat) (x0:Int) (x7:Nat) (x11:List AV) (x22:Nat):Cfg:=⟨.ex (pcOf F6 107 [0,0,1]) ⟨(tmOf 49 (plebg28 d++[(3,(iI x0))])),(plebQ0 d x7 x11),[],[⟨false,.normal⟩,⟨false,.normal⟩],49,false⟩,⟨58,[(plebk7 d),(plebk0 d)]⟩,[(plebk23 d x22),(.blk 0),(plebk3 d),(.blk 0),(plebk4 d),(.blk 0),(.seq (pcOf F6 78 [1,1])),(.cal [(.cell 2 70)] .top)]⟩
noncomputable def plebk2 (z0:tQ.den):AV:=(iI (wr .i64 (wr .i64 (z0.2.1.2.1.2.1-z0.2.1.2.1.1)+1)))
noncomputable def plebg17 (d:tQ.den):List (Nat×AV):=[(0,(plebk2 d)),(8,(plebk2 d)),(4,(iI 0))]
noncomputable def plebQ2 (d:tQ.den) (y0:Int) (y1:Int):Tmps:=(tmOf 26 (plebg17 d++[(1,(.fn 98 [] [(pP 14 0),(pP 13 0)])),(5,(iI y0)),(6,(iI y1))]))
noncomputable def plebQ3 (d:tQ.den):Tmps:=(tmOf 26 (plebg17 d++[(1,(.fn 98 [] [(pP 14 0),(pP 13 0)])),(5,(iI 0)),(6,(plebk2 d))]))
noncomputable def plebk10 (z0:tQ.den) (z1:Int) (z2:Int):AO:=(cF [(iI (z0.2.1.2.1.1)),(iI (z1)),(iI z2)])
noncomputable def plebk11:AV:=(.fn 108 [] [(pP 11 0),(pP 10 0),(pP 12 0)])
noncomputable def plebg3 (d:tQ.den):List (Nat×AO):=[(1,(cF [(.cp (Ty.cells tQ (d)) 0)])),(3,(cF [(.yld 2)])),(4,(cF [(.cp (Ty.cells tQ (d)) 0)])),(10,(cF [(.cp (Ty.cells tQ (d)) 0)])),(12,(cF [(.fn 87 [] [(pP 1 0)])])),(13,(cF [(iI (d.2.1.2.1.1))])),(14,(cF [(plebk11)]))]
noncomputable def plebQ4 (d:tQ.den) (u0:Int) (y0:Nat) (y1:List AV) (y2:Int):Hp:=(hpOf 15 (plebg21 y0 y1++plebg3 d++[(7,(plebk10 d u0 y2)),(8,(plebk10 d u0 y2)),(9,(plebk10 d u0 y2)),(11,(plebk10 d u0 y2))]))
noncomputable def plebg5 (d:tQ.den):List (Nat×AV):=[(0,(iI (d.2.1.2.1.1))),(1,(iI (d.2.1.2.1.2.1))),(6,(iI 0)),(7,(iI (d.2.1.2.1.1)))]
noncomputable def plebg33:List (Nat×AV):=[(2,(plebk11)),(5,(pP 14 0)),(3,(pP 13 0))]
noncomputable def plebQ5 (d:tQ.den):Tmps:=(tmOf 15 (plebg5 d++plebg33++[(8,(iI (d.2.1.2.1.2.1)))]))
noncomputable def plebg16 (d:tQ.den):List (Nat×AV):=[(8,(iI (d.2.1.2.1.2.1))),(9,(iI (d.2.1.2.1.1)))]
noncomputable def plebQ6 (d:tQ.den):Tmps:=(tmOf 15 (plebg5 d++plebg33++plebg16 d))
noncomputable def plebg27 (d:tQ.den):List (Nat×AV):=[(0,(iI (d.2.1.2.1.1))),(1,(iI (d.2.1.2.1.2.1))),(6,(iI 0))]
noncomputable def plebQ7 (d:tQ.den):Tmps:=(tmOf 15 (plebg27 d++plebg33))
noncomputable def plebQ8 (d:tQ.den):Tmps:=(tmOf 15 (plebg5 d++plebg33))
noncomputable def plebk35 (z0:tQ.den):AV:=(iI (wr .i64 (z0.2.1.2.1.2.1-z0.2.1.2.1.1)))
noncomputable def plebQ9 (d:tQ.den):Tmps:=(tmOf 15 (plebg5 d++plebg33++plebg16 d++[(10,(plebk35 d)),(11,(plebk2 d)),(12,(.fn 98 [] [(pP 14 0),(pP 13 0)]))]))
noncomputable def plebQ10 (d:tQ.den) (u0:Int) (y0:Nat) (y1:List AV) (y2:Int):Hp:=(hpOf 13 (plebg21 y0 y1++plebg19 d++[(7,(plebk10 d u0 y2)),(8,(plebk10 d u0 y2)),(9,(plebk10 d u0 y2)),(10,(cF [(.cp (Ty.cells tQ (d)) 0)])),(11,(plebk10 d u0 y2)),(12,(cF [(.fn 87 [] [(pP 1 0)])]))]))
noncomputable def plebk9 (z0:tQ.den) (z1:Int) (z2:Int):AV:=(.agg [(iI (z0.2.1.2.1.1)),(iI (z1)),(iI z2)])
noncomputable def plebg0 (d:tQ.den):List (Nat×AV):=[(6,(iI 0)),(0,(.cp (Ty.cells tQ (d)) 0)),(7,(.cp (Ty.cells tQ (d)) 0)),(8,(.cp (Ty.cells tQ (d)) 0)),(9,(.cp (Ty.cells tQ (d)) 3)),(10,(.cp (Ty.cells tQ (d)) 4)),(11,(.cp (Ty.cells tQ (d)) 4))]
noncomputable def plebg8:List (Nat×AV):=[(2,(.fn 87 [] [(pP 1 0)])),(3,(pP 10 0)),(4,(pP 11 0)),(5,(pP 12 0))]
noncomputable def plebg2 (d:tQ.den):List (Nat×AV):=[(12,(iI (d.2.1.2.1.1))),(13,(.cp (Ty.cells tQ (d)) 0)),(14,(.cp (Ty.cells tQ (d)) 0)),(15,(.cp (Ty.cells tQ (d)) 3)),(16,(.cp (Ty.cells tQ (d)) 4)),(17,(.cp (Ty.cells tQ (d)) 5))]
noncomputable def plebQ11 (d:tQ.den) (u0:Int) (y0:Int):Tmps:=(tmOf 21 (plebg0 d++plebg8++plebg2 d++[(1,(plebk9 d u0 y0))]))
noncomputable def plebg24 (d:tQ.den):List (Nat×AV):=[(18,(iI (d.2.1.2.1.2.1)))]
noncomputable def plebQ12 (d:tQ.den) (u0:Int) (y0:Int):Tmps:=(tmOf 21 (plebg0 d++plebg8++plebg2 d++plebg24 d++[(1,(plebk9 d u0 y0))]))
noncomputable def plebQ13 (d:tQ.den) (u0:Int) (y0:Int):Tmps:=(tmOf 21 (plebg0 d++plebg8++[(1,(plebk9 d u0 y0)),(12,(iI (d.2.1.2.1.1)))]))
noncomputable def plebg25 (d:tQ.den):List (Nat×AV):=[(12,(iI (d.2.1.2.1.1))),(13,(.cp (Ty.cells tQ (d)) 0))]
noncomputable def plebQ14 (d:tQ.den) (u0:Int) (y0:Int):Tmps:=(tmOf 21 (plebg0 d++plebg8++plebg25 d++[(1,(plebk9 d u0 y0))]))
noncomputable def plebQ15 (d:tQ.den) (u0:Int) (y0:Int):Tmps:=(tmOf 21 (plebg0 d++plebg8++[(1,(plebk9 d u0 y0))]))
noncomputable def plebg20 (d:tQ.den):List (Nat×AV):=[(6,(iI 0)),(0,(.cp (Ty.cells tQ (d)) 0))]
noncomputable def plebQ16 (d:tQ.den) (u0:Int) (y0:Int):Tmps:=(tmOf 21 (plebg20 d++plebg8++[(1,(plebk9 d u0 y0))]))
noncomputable def plebQ17 (d:tQ.den) (u0:Int) (y0:Int):Tmps:=(tmOf 21 (plebg20 d++plebg8++[(1,(plebk9 d u0 y0)),(7,(.cp (Ty.cells tQ (d)) 0))]))
noncomputable def plebQ18 (d:tQ.den) (u0:Int) (y0:Int):Tmps:=(tmOf 21 (plebg0 d++plebg8++plebg2 d++plebg24 d++[(1,(plebk9 d u0 y0)),(19,(plebk11))]))
noncomputable def plebg10 (d:tQ.den):List (Nat×AV):=[(6,(.cp (Ty.cells tQ (d)) 0)),(0,(.yld 2)),(2,(pP 3 0)),(7,(.fn 107 [] [(pP 4 0)])),(1,(pP 1 0)),(11,(.cp (Ty.cells tQ (d)) 0)),(13,(.fn 87 [] [(pP 1 0)]))]
noncomputable def plebQ19 (d:tQ.den) (u0:Int) (y0:Int):Tmps:=(tmOf 34 (plebg10 d++[(3,(pP 7 0)),(4,(pP 8 0)),(5,(pP 9 0)),(8,(plebk9 d u0 y0)),(9,(plebk9 d u0 y0)),(10,(plebk9 d u0 y0)),(12,(plebk9 d u0 y0))]))
noncomputable def plebg1 (d:tQ.den):List (Nat×AV):=[(0,(.yld 5)),(1,(pP 4 0)),(7,(.cp (Ty.cells tQ (d)) 3)),(8,(.cp (Ty.cells tQ (d)) 6)),(9,(.cp (Ty.cells tQ (d)) 6)),(10,(iI (d.2.1.2.2.1.1))),(5,(.cp (Ty.cells tQ (d)) 0)),(6,(.cp (Ty.cells tQ (d)) 0)),(13,(.cp (Ty.cells tQ (d)) 0)),(12,(.cp (Ty.cells tQ (d)) 0)),(14,(.cp (Ty.cells tQ (d)) 3)),(15,(.cp (Ty.cells tQ (d)) 6)),(16,(.cp (Ty.cells tQ (d)) 7)),(17,(iI (d.2.1.2.2.1.2.1))),(18,(.bool true)),(21,(.cp (Ty.cells tQ (d)) 0)),(22,(.cp (Ty.cells tQ (d)) 0)),(23,(.cp (Ty.cells tQ (d)) 3)),(24,(.cp (Ty.cells tQ (d)) 8)),(25,(.cp (Ty.cells tQ (d)) 8)),(26,(iI (d.2.1.2.2.2.1.1)))]
noncomputable def plebg15 (d:tQ.den):List (Nat×AV):=[(28,(.cp (Ty.cells tQ (d)) 0)),(29,(.cp (Ty.cells tQ (d)) 0)),(30,(.cp (Ty.cells tQ (d)) 3)),(31,(.cp (Ty.cells tQ (d)) 8)),(32,(.cp (Ty.cells tQ (d)) 9)),(33,(iI (d.2.1.2.2.2.1.2.1))),(34,(.bool true)),(37,(.yld 5)),(38,(.cp (Ty.cells tQ (d)) 0)),(39,(.cp (Ty.cells tQ (d)) 0)),(40,(.cp (Ty.cells tQ (d)) 3)),(41,(.cp (Ty.cells tQ (d)) 4)),(42,(.cp (Ty.cells tQ (d)) 4)),(43,(iI (d.2.1.2.1.1)))]
noncomputable def plebQ20 (d:tQ.den) (u0:Int) (y0:Int):Tmps:=(tmOf 49 (plebg1 d++plebg15 d++[(3,(iI (u0))),(4,(iI y0)),(11,(iI (u0))),(27,(iI y0)),(44,(iI (u0))),(45,(iI y0)),(46,(plebk9 d u0 y0))]))
noncomputable def plebQ21 (d:tQ.den) (u0:Int):Tmps:=(tmOf 49 (plebg1 d++[(3,(iI (u0))),(4,(iI (d.2.1.2.2.2.1.1))),(11,(iI (u0)))]))
noncomputable def plebk26 (z0:tQ.den) (z1:Int) (z2:Nat) (z3:List AV) (z4:Int):Fm:=(.cal [(.tmp 4)] (.dr ⟨(pcOf F6 58 [0,1]),opsD (pcOf F6 58 [0,1]).c,15,(opsD (pcOf F6 58 [0,1]).c).toList.drop 7,(fsD (pcOf F6 58 [0,1]).c).drop 7,6,[((plebQ4 z0 z1 z2 z3 z4),0,none)],[((opsD (pcOf F6 58 [0,1]).c).getD 2 default,2,0,(plebQ5 z0),(plebQ6 z0)),((opsD (pcOf F6 58 [0,1]).c).getD 0 default,0,0,(plebQ7 z0),(plebQ8 z0))],false⟩ ((opsD (pcOf F6 58 [0,1]).c).getD 6 default) ((fsD (pcOf F6 58 [0,1]).c).getD 6 default) (plebQ9 z0) [] 15 false ⟨57,[(plebk0 z0)]⟩))
noncomputable def plebk13 (z0:tQ.den) (z1:Int) (z2:Nat) (z3:List AV) (z4:Int):Fm:=(.cal [(.tmp 6)] (.dr ⟨(pcOf F6 86 [0,1]),opsD (pcOf F6 86 [0,1]).c,13,(opsD (pcOf F6 86 [0,1]).c).toList.drop 14,(fsD (pcOf F6 86 [0,1]).c).drop 14,13,[((plebQ10 z0 z1 z2 z3 z4),0,none)],[((opsD (pcOf F6 86 [0,1]).c).getD 11 default,11,1984,(plebQ11 z0 z1 z4),(plebQ12 z0 z1 z4)),((opsD (pcOf F6 86 [0,1]).c).getD 6 default,6,0,(plebQ13 z0 z1 z4),(plebQ14 z0 z1 z4)),((opsD (pcOf F6 86 [0,1]).c).getD 5 default,5,31,(plebQ15 z0 z1 z4),(plebQ13 z0 z1 z4)),((opsD (pcOf F6 86 [0,1]).c).getD 0 default,0,0,(plebQ16 z0 z1 z4),(plebQ17 z0 z1 z4))],false⟩ ((opsD (pcOf F6 86 [0,1]).c).getD 13 default) ((fsD (pcOf F6 86 [0,1]).c).getD 13 default) (plebQ18 z0 z1 z4) [] 21 false ⟨58,[(plebk0 z0)]⟩))
noncomputable def plebk38 (z0:tQ.den) (z1:Int) (z2:Int):Fm:=(.cal [(.tmp 6)] (.op (pcOf F6 84 [0,1,0,1,0,1,1]) 4 (some 14) ((opsOf (pcOf F6 84 [0,1,0,1,0,1,1]).c).toList.drop 4) (plebQ19 z0 z1 z2) [] 34 true ⟨59,[(plebk0 z0)]⟩))
noncomputable def plebk37:PC:=(pcOf F6 107 [0,0,0,1,0,0,1,0,0,1,0,0,1])
noncomputable def plebk18 (z0:tQ.den) (z1:Int) (z2:Int):Fm:=(.rnd [] (.op (plebk37) 11 (some 47) ((opsOf (plebk37).c).toList.drop 11) (plebQ20 z0 z1 z2) [] 49 false ⟨58,[(plebk7 z0),(plebk0 z0)]⟩))
noncomputable def plebk19:Fm:=(.seq (pcOf F6 107 [1,0,0,1,0,0,1,0,0,1,0,0,1]))
noncomputable def plebk20:Fm:=(.seq (pcOf F6 107 [1,1,0,0,1,0,0,1,0,0,1]))
noncomputable def plebk36 (z0:tQ.den) (z1:Int) (z2:Nat):Fm:=(.lop (pcOf F6 107 [0,0,1,0,0,1,0,0,1]) 6 (plebQ21 z0 z1) z2)
noncomputable def plebI1 (d:tQ.den) (u0 u1:Int) (q:Nat) (u26:List AV) (n m:Nat) (x2:Int) (x3:Int) (x5:Nat) (x9:List AV) (x12:Int) (x20:Int) (x31:Nat) (x286:Nat) (x294:Nat):Cfg:=⟨.ex (pcOf F6 97 [0,0,0,1,1]) ⟨(plebQ2 d x2 x3),(hpOf 15 (plebg3 d++[(0,(cF [(.sl 6 0 x5 x5 3)])),(6,(cF x9)),(7,(plebk10 d u0 x12)),(8,(plebk10 d u0 x12)),(9,(plebk10 d u0 x12)),(11,(cF [(iI x20),(iI (u0)),(iI x12)]))])),[],[⟨false,.normal⟩],26,false⟩,⟨56,[(plebk0 d)]⟩,[(.lop (pcOf F6 97 [0,0,0,1,1]) 15 (plebQ3 d) x31),(.blk 0),(.seq (pcOf F6 97 [1,1,1])),(plebk26 d u0 x5 x9 x12),(.seq (pcOf F6 58 [1,1])),(plebk13 d u0 x5 x9 x12),(.seq (pcOf F6 86 [1,1])),(plebk38 d u0 x12),(.seq (pcOf F6 84 [1,1,0,1,0,1,1])),(.blk 1),(plebk18 d u0 x12),(plebk19),(.blk 3),(plebk20),(plebk36 d u0 x286),(.blk 2),(.blk 1),(.seq (pcOf F6 107 [1,1,0,0,1])),(plebk23 d x294),(.blk 0),(plebk3 d),(.blk 0),(plebk4 d),(.blk 0),(.seq (pcOf F6 78 [1,1])),(.cal [(.cell 2 70)] .top)]⟩
noncomputable def plebQ22 (d:tQ.den) (y0:Int) (y1:Int):Tmps:=(tmOf 49 (plebg1 d++[(3,(iI y0)),(4,(iI y1)),(11,(iI y0))]))
noncomputable def plebQ23 (d:tQ.den) (y0:Int):Tmps:=(tmOf 49 (plebg1 d++[(3,(iI y0)),(4,(iI (d.2.1.2.2.2.1.1))),(11,(iI y0))]))
noncomputable def plebk25 (z0:tQ.den) (z1:Int) (z2:Nat):Fm:=(.lop (pcOf F6 107 [0,0,1,0,0,1,0,0,1]) 7 (plebQ23 z0 z1) z2)
noncomputable def plebI2 (d:tQ.den) (u0 u1:Int) (q:Nat) (u26:List AV) (n m:Nat) (x0:Int) (x1:Int) (x22:Nat) (x26:List AV) (x52:Nat) (x60:Nat):Cfg:=⟨.ex (pcOf F6 107 [0,0,1,0,0,1,0,0,1]) ⟨(plebQ22 d x0 x1),(plebQ0 d x22 x26),[],[⟨false,.normal⟩,⟨false,.normal⟩],49,false⟩,⟨58,[(plebk7 d),(plebk0 d)]⟩,[(plebk25 d x0 x52),(.blk 2),(.blk 1),(.seq (pcOf F6 107 [1,1,0,0,1])),(plebk23 d x60),(.blk 0),(plebk3 d),(.blk 0),(plebk4 d),(.blk 0),(.seq (pcOf F6 78 [1,1])),(.cal [(.cell 2 70)] .top)]⟩
noncomputable def plebQ24 (d:tQ.den) (y0:Int) (y1:Int):Tmps:=(tmOf 26 (plebg17 d++[(1,(.fn 98 [] [(pP 19 0),(pP 18 0)])),(5,(iI y0)),(6,(iI y1))]))
noncomputable def plebQ25 (d:tQ.den):Tmps:=(tmOf 26 (plebg17 d++[(1,(.fn 98 [] [(pP 19 0),(pP 18 0)])),(5,(iI 0)),(6,(plebk2 d))]))
noncomputable def plebk21:AV:=(.fn 108 [] [(pP 16 0),(pP 15 0),(pP 17 0)])
noncomputable def plebg36 (d:tQ.den) (u0:Int) (y2:Int) (y3:Int) (y4:Int):List (Nat×AO):=[(7,(plebk10 d u0 y2)),(9,(plebk10 d u0 y2)),(8,(cF [(iI y3),(iI (u0)),(iI y2)])),(11,(cF [(iI y4),(iI (u0)),(iI y2)]))]
noncomputable def plebg11 (d:tQ.den):List (Nat×AO):=[(15,(cF [(.cp (Ty.cells tQ (d)) 0)])),(17,(cF [(.fn 90 [] [(pP 1 0)])])),(18,(cF [(iI (d.2.1.2.1.1))])),(19,(cF [(plebk21)]))]
noncomputable def plebQ26 (d:tQ.den) (u0:Int) (y0:Nat) (y1:List AV) (y2:Int) (y3:Int) (y4:Int):Hp:=(hpOf 20 (plebg21 y0 y1++plebg3 d++plebg36 d u0 y2 y3 y4++plebg11 d++[(16,(plebk10 d u0 y2))]))
noncomputable def plebg32:List (Nat×AV):=[(2,(plebk21)),(5,(pP 19 0)),(3,(pP 18 0))]
noncomputable def plebQ27 (d:tQ.den):Tmps:=(tmOf 15 (plebg5 d++plebg32++[(8,(iI (d.2.1.2.1.2.1)))]))
noncomputable def plebQ28 (d:tQ.den):Tmps:=(tmOf 15 (plebg5 d++plebg32++plebg16 d))
noncomputable def plebQ29 (d:tQ.den):Tmps:=(tmOf 15 (plebg27 d++plebg32))
noncomputable def plebQ30 (d:tQ.den):Tmps:=(tmOf 15 (plebg5 d++plebg32))
noncomputable def plebQ31 (d:tQ.den):Tmps:=(tmOf 15 (plebg5 d++plebg32++plebg16 d++[(10,(plebk35 d)),(11,(plebk2 d)),(12,(.fn 98 [] [(pP 19 0),(pP 18 0)]))]))
noncomputable def plebQ32 (d:tQ.den) (u0:Int) (y0:Nat) (y1:List AV) (y2:Int) (y3:Int) (y4:Int):Hp:=(hpOf 18 (plebg21 y0 y1++plebg3 d++plebg36 d u0 y2 y3 y4++[(15,(cF [(.cp (Ty.cells tQ (d)) 0)])),(16,(plebk10 d u0 y2)),(17,(cF [(.fn 90 [] [(pP 1 0)])]))]))
noncomputable def plebg7:List (Nat×AV):=[(2,(.fn 90 [] [(pP 1 0)])),(3,(pP 15 0)),(4,(pP 16 0)),(5,(pP 17 0))]
noncomputable def plebQ33 (d:tQ.den) (u0:Int) (y0:Int):Tmps:=(tmOf 21 (plebg0 d++plebg7++plebg2 d++[(1,(plebk9 d u0 y0))]))
noncomputable def plebQ34 (d:tQ.den) (u0:Int) (y0:Int):Tmps:=(tmOf 21 (plebg0 d++plebg7++plebg2 d++plebg24 d++[(1,(plebk9 d u0 y0))]))
noncomputable def plebQ35 (d:tQ.den) (u0:Int) (y0:Int):Tmps:=(tmOf 21 (plebg0 d++plebg7++[(1,(plebk9 d u0 y0)),(12,(iI (d.2.1.2.1.1)))]))
noncomputable def plebQ36 (d:tQ.den) (u0:Int) (y0:Int):Tmps:=(tmOf 21 (plebg0 d++plebg7++plebg25 d++[(1,(plebk9 d u0 y0))]))
noncomputable def plebQ37 (d:tQ.den) (u0:Int) (y0:Int):Tmps:=(tmOf 21 (plebg0 d++plebg7++[(1,(plebk9 d u0 y0))]))
noncomputable def plebQ38 (d:tQ.den) (u0:Int) (y0:Int):Tmps:=(tmOf 21 (plebg20 d++plebg7++[(1,(plebk9 d u0 y0))]))
noncomputable def plebQ39 (d:tQ.den) (u0:Int) (y0:Int):Tmps:=(tmOf 21 (plebg20 d++plebg7++[(1,(plebk9 d u0 y0)),(7,(.cp (Ty.cells tQ (d)) 0))]))
noncomputable def plebQ40 (d:tQ.den) (u0:Int) (y0:Int):Tmps:=(tmOf 21 (plebg0 d++plebg7++plebg2 d++plebg24 d++[(1,(plebk9 d u0 y0)),(19,(plebk21))]))
noncomputable def plebQ41 (d:tQ.den) (u0:Int) (y0:Int) (y1:Int):Tmps:=(tmOf 34 (plebg10 d++[(3,(pP 7 0)),(4,(pP 8 0)),(5,(pP 9 0)),(8,(plebk9 d u0 y0)),(9,(plebk9 d u0 y0)),(10,(plebk9 d u0 y0)),(12,(plebk9 d u0 y0)),(14,(iI y1)),(15,(pP 8 0)),(16,(.cp (Ty.cells tQ (d)) 0)),(17,(plebk9 d u0 y0)),(18,(.fn 90 [] [(pP 1 0)]))]))
noncomputable def plebk29 (z0:tQ.den) (z1:Int) (z2:Nat) (z3:List AV) (z4:Int) (z5:Int) (z6:Int):Fm:=(.cal [(.tmp 4)] (.dr ⟨(pcOf F6 58 [0,1]),opsD (pcOf F6 58 [0,1]).c,20,(opsD (pcOf F6 58 [0,1]).c).toList.drop 7,(fsD (pcOf F6 58 [0,1]).c).drop 7,6,[((plebQ26 z0 z1 z2 z3 z4 z5 z6),0,none)],[((opsD (pcOf F6 58 [0,1]).c).getD 2 default,2,0,(plebQ27 z0),(plebQ28 z0)),((opsD (pcOf F6 58 [0,1]).c).getD 0 default,0,0,(plebQ29 z0),(plebQ30 z0))],false⟩ ((opsD (pcOf F6 58 [0,1]).c).getD 6 default) ((fsD (pcOf F6 58 [0,1]).c).getD 6 default) (plebQ31 z0) [] 15 false ⟨57,[(plebk0 z0)]⟩))
noncomputable def plebk16 (z0:tQ.den) (z1:Int) (z2:Nat) (z3:List AV) (z4:Int) (z5:Int) (z6:Int):Fm:=(.cal [(.tmp 6)] (.dr ⟨(pcOf F6 86 [0,1]),opsD (pcOf F6 86 [0,1]).c,18,(opsD (pcOf F6 86 [0,1]).c).toList.drop 14,(fsD (pcOf F6 86 [0,1]).c).drop 14,13,[((plebQ32 z0 z1 z2 z3 z4 z5 z6),0,none)],[((opsD (pcOf F6 86 [0,1]).c).getD 11 default,11,1984,(plebQ33 z0 z1 z4),(plebQ34 z0 z1 z4)),((opsD (pcOf F6 86 [0,1]).c).getD 6 default,6,0,(plebQ35 z0 z1 z4),(plebQ36 z0 z1 z4)),((opsD (pcOf F6 86 [0,1]).c).getD 5 default,5,31,(plebQ37 z0 z1 z4),(plebQ35 z0 z1 z4)),((opsD (pcOf F6 86 [0,1]).c).getD 0 default,0,0,(plebQ38 z0 z1 z4),(plebQ39 z0 z1 z4))],false⟩ ((opsD (pcOf F6 86 [0,1]).c).getD 13 default) ((fsD (pcOf F6 86 [0,1]).c).getD 13 default) (plebQ40 z0 z1 z4) [] 21 false ⟨58,[(plebk0 z0)]⟩))
noncomputable def plebI3 (d:tQ.den) (u0 u1:Int) (q:Nat) (u26:List AV) (n m:Nat) (x2:Int) (x3:Int) (x5:Nat) (x9:List AV) (x12:Int) (x13:Int) (x20:Int) (x25:Int) (x36:Nat) (x306:Nat) (x314:Nat):Cfg:=⟨.ex (pcOf F6 97 [0,0,0,1,1]) ⟨(plebQ24 d x2 x3),(hpOf 20 (plebg3 d++plebg11 d++[(0,(cF [(.sl 6 0 x5 x5 3)])),(6,(cF x9)),(7,(plebk10 d u0 x12)),(8,(cF [(iI x13),(iI (u0)),(iI x12)])),(9,(plebk10 d u0 x12)),(11,(cF [(iI x20),(iI (u0)),(iI x12)])),(16,(cF [(iI x25),(iI (u0)),(iI x12)]))])),[],[⟨false,.normal⟩],26,false⟩,⟨56,[(plebk0 d)]⟩,[(.lop (pcOf F6 97 [0,0,0,1,1]) 20 (plebQ25 d) x36),(.blk 0),(.seq (pcOf F6 97 [1,1,1])),(plebk29 d u0 x5 x9 x12 x13 x20),(.seq (pcOf F6 58 [1,1])),(plebk16 d u0 x5 x9 x12 x13 x20),(.seq (pcOf F6 86 [1,1])),(.cal [(.tmp 6)] (.op (pcOf F6 84 [0,1,1,0,1,0,1,1]) 4 (some 19) ((opsOf (pcOf F6 84 [0,1,1,0,1,0,1,1]).c).toList.drop 4) (plebQ41 d u0 x12 x13) [] 34 true ⟨59,[(plebk0 d)]⟩)),(.seq (pcOf F6 84 [1,1,1,0,1,0,1,1])),(.blk 1),(plebk18 d u0 x12),(plebk19),(.blk 3),(plebk20),(plebk36 d u0 x306),(.blk 2),(.blk 1),(.seq (pcOf F6 107 [1,1,0,0,1])),(plebk23 d x314),(.blk 0),(plebk3 d),(.blk 0),(plebk4 d),(.blk 0),(.seq (pcOf F6 78 [1,1])),(.cal [(.cell 2 70)] .top)]⟩
noncomputable def plebk8 (z0:tQ.den):AV:=(.vs tM (z0.2.2.2.1.1) (z0.2.2.2.1.2))
noncomputable def plebg26 (d:tQ.den):List (Nat×AV):=[(4,(iI 0)),(6,(plebk8 d)),(7,(iI (Int.ofNat d.2.2.2.1.2.length))),(0,(plebk8 d))]
noncomputable def plebQ42 (d:tQ.den) (y0:Ty.den tG) (y1:Int):Tmps:=(tmOf 19 (plebg26 d++[(1,(.fn 89 [(.agg (Ty.cells tG y0))] [])),(8,(iI y1))]))
noncomputable def plebQ43 (d:tQ.den) (u0:Int) (y0:Nat) (y1:List AV) (y2:Int) (y3:Int) (y4:Ty.den tG):Hp:=(hpOf 17 (plebg21 y0 y1++plebg3 d++[(7,(plebk10 d u0 y2)),(8,(plebk10 d u0 y2)),(9,(plebk10 d u0 y2)),(11,(cF [(iI y3),(iI (u0)),(iI y2)])),(15,(cF (Ty.cells tG y4))),(16,(cF (Ty.cells tG y4)))]))
noncomputable def plebQ44 (d:tQ.den) (y0:Ty.den tG):Tmps:=(tmOf 19 (plebg26 d++[(1,(.fn 89 [(.agg (Ty.cells tG y0))] [])),(8,(iI 0))]))
noncomputable def plebQ45 (d:tQ.den) (y0:Ty.den tG):Tmps:=(tmOf 9 [(0,(plebk8 d)),(1,(.fn 89 [(.agg (Ty.cells tG y0))] [])),(4,(.bool false)),(5,(plebk8 d)),(6,(.fn 89 [(.agg (Ty.cells tG y0))] []))])
noncomputable def plebg30 (y0:Ty.den tG) (d:tQ.den):List (Nat×AV):=[(0,(.agg (Ty.cells tG y0))),(7,(plebk8 d))]
noncomputable def plebg4 (d:tQ.den):List (Nat×AV):=[(5,(.cp (Ty.cells tQ (d)) 0)),(1,(pP 1 0)),(3,(.bool false)),(4,(.cp (Ty.cells tQ (d)) 0)),(6,(.cp (Ty.cells tQ (d)) 42))]
noncomputable def plebQ46 (d:tQ.den) (y0:Ty.den tG):Tmps:=(tmOf 12 (plebg30 y0 d++plebg4 d++[(2,(pP 16 0))]))
noncomputable def plebQ47 (d:tQ.den) (y0:Ty.den tG):Tmps:=(tmOf 12 (plebg30 y0 d++plebg4 d++[(2,(pP 16 0)),(8,(.agg (Ty.cells tG y0)))]))
noncomputable def plebQ48 (d:tQ.den) (y0:Ty.den tG):Tmps:=(tmOf 12 (plebg4 d++[(0,(.agg (Ty.cells tG y0))),(2,(pP 16 0))]))
noncomputable def plebQ49 (d:tQ.den) (y0:Ty.den tG):Tmps:=(tmOf 12 (plebg30 y0 d++plebg4 d++[(2,(pP 16 0)),(8,(.agg (Ty.cells tG y0))),(9,(.fn 89 [(.agg (Ty.cells tG y0))] []))]))
noncomputable def plebQ50 (d:tQ.den) (y0:Int) (y1:Int):Tmps:=(tmOf 10 [(0,(iI y0)),(1,(pP 14 0)),(2,(pP 13 0)),(4,(.bool false)),(5,(plebk11)),(6,(iI (d.2.1.2.1.1))),(7,(iI y0)),(8,(iI y1))])
noncomputable def plebQ51 (d:tQ.den) (y0:Int) (y1:Int) (y2:Int) (y3:Int) (y4:Int) (y5:Int):Tmps:=(tmOf 26 (plebg17 d++[(1,(.fn 98 [] [(pP 14 0),(pP 13 0)])),(5,(iI y0)),(6,(iI y1)),(7,(iI y2)),(9,(iI y0)),(10,(iI y1)),(11,(.bool true)),(12,(iI y0)),(13,(iI y1)),(14,(iI y3)),(15,(.int .u64 y4)),(16,(.int .u64 y5)),(17,(iI y2)),(18,(.fn 98 [] [(pP 14 0),(pP 13 0)])),(19,(iI y2))]))
noncomputable def plebk32 (z0:tQ.den) (z1:Ty.den tG):Fm:=(.cal [(.tmp 4)] (.op (pcOf F6 88 [0,1]) 3 (some 7) ((opsOf (pcOf F6 88 [0,1]).c).toList.drop 3) (plebQ45 z0 z1) [] 9 false ⟨52,[(plebk0 z0)]⟩))
noncomputable def plebk34:Fm:=(.seq (pcOf F6 97 [1,1,0,1,0,0,0,1,1]))
noncomputable def plebg12 (x2:Ty.den tG):List (Nat×AV):=[(1,(pP 1 0)),(3,(.bool false)),(0,(.agg (Ty.cells tG x2)))]
noncomputable def plebg23 (x23:Int) (x115:Int) (x2:Ty.den tG):List (Nat×AV):=[(0,(iI x23)),(7,(iI x115)),(10,(.tup [(.agg (Ty.cells tG x2)),(iI x115)])),(15,(.tup [(.agg (Ty.cells tG x2)),(iI x115)])),(17,(iI x115)),(18,(.fn 87 [] [(pP 1 0)])),(8,(iI x23))]
noncomputable def plebg9 (d:tQ.den) (x2:Ty.den tG):List (Nat×AV):=[(13,(.cp (Ty.cells tQ (d)) 0)),(11,(.cp (Ty.cells tQ (d)) 0)),(5,(.bool false)),(14,(iI (Int.ofNat d.1.1.2.length))),(16,(.agg (Ty.cells tG x2))),(19,(.agg (Ty.cells tG x2)))]
noncomputable def plebI4 (d:tQ.den) (u0 u1:Int) (q:Nat) (u26:List AV) (n m:Nat) (x2:Ty.den tG) (x7:Int) (x8:Nat) (x12:List AV) (x15:Int) (x23:Int) (x39:Nat) (x115:Int) (x132:Int) (x141:Int) (x142:Int) (x150:Int) (x151:Int) (x152:Int) (x162:Nat) (x417:Nat) (x425:Nat):Cfg:=⟨.ex (pcOf F6 109 [0,0,1,0,1]) ⟨(plebQ42 d x2 x7),(plebQ43 d u0 x8 x12 x15 x23 x2),[],[⟨false,.normal⟩],19,false⟩,⟨51,[(plebk0 d)]⟩,[(.lop (pcOf F6 109 [0,0,1,0,1]) 17 (plebQ44 d x2) x39),(.blk 0),(.seq (pcOf F6 109 [1,1])),(plebk32 d x2),(.seq (pcOf F6 88 [1,1])),(.cal [(.tmp 4)] (.dr ⟨(pcOf F6 87 [0,1]),opsD (pcOf F6 87 [0,1]).c,17,(opsD (pcOf F6 87 [0,1]).c).toList.drop 7,(fsD (pcOf F6 87 [0,1]).c).drop 7,6,[((plebQ43 d u0 x8 x12 x15 x23 x2),0,none)],[((opsD (pcOf F6 87 [0,1]).c).getD 4 default,4,0,(plebQ46 d x2),(plebQ47 d x2)),((opsD (pcOf F6 87 [0,1]).c).getD 3 default,3,7,(plebQ48 d x2),(plebQ46 d x2)),((opsD (pcOf F6 87 [0,1]).c).getD 0 default,0,0,(tmOf 12 (plebg12 x2++[(2,(pP 16 0))])),(tmOf 12 (plebg12 x2++[(2,(pP 16 0)),(4,(.cp (Ty.cells tQ (d)) 0))])))],false⟩ ((opsD (pcOf F6 87 [0,1]).c).getD 6 default) ((fsD (pcOf F6 87 [0,1]).c).getD 6 default) (plebQ49 d x2) [] 12 false ⟨53,[(plebk0 d)]⟩)),(.seq (pcOf F6 87 [1,1])),(.cal [(.tmp 3)] (.op (pcOf F6 108 [0,1,1,1]) 3 (some 20) ((opsOf (pcOf F6 108 [0,1,1,1]).c).toList.drop 3) (tmOf 21 (plebg23 x23 x115 x2++plebg9 d x2++[(1,(pP 11 0)),(2,(pP 10 0)),(3,(pP 12 0)),(6,(pP 15 0)),(9,(pP 11 0)),(12,(.agg [(iI x23),(iI (u0)),(iI x15)]))])) [] 21 false ⟨54,[(plebk0 d)]⟩)),(.seq (pcOf F6 108 [1,1,1,1])),(.cal [(.tmp 5)] (.op (pcOf F6 98 [0,1]) 5 (some 9) ((opsOf (pcOf F6 98 [0,1]).c).toList.drop 5) (plebQ50 d x132 x23) [] 10 false ⟨55,[(plebk0 d)]⟩)),(.seq (pcOf F6 98 [1,1])),(.cal [(.tmp 4)] (.op (pcOf F6 97 [0,1,0,1,0,0,0,1,1]) 3 (some 20) ((opsOf (pcOf F6 97 [0,1,0,1,0,0,0,1,1]).c).toList.drop 3) (plebQ51 d x141 x142 x132 x150 x151 x152) [] 26 false ⟨56,[(plebk0 d)]⟩)),(plebk34),(.blk 1),(.lop (pcOf F6 97 [0,0,0,1,1]) 15 (plebQ3 d) x162),(.blk 0),(.seq (pcOf F6 97 [1,1,1])),(plebk26 d u0 x8 x12 x15),(.seq (pcOf F6 58 [1,1])),(plebk13 d u0 x8 x12 x15),(.seq (pcOf F6 86 [1,1])),(plebk38 d u0 x15),(.seq (pcOf F6 84 [1,1,0,1,0,1,1])),(.blk 1),(plebk18 d u0 x15),(plebk19),(.blk 3),(plebk20),(plebk36 d u0 x417),(.blk 2),(.blk 1),(.seq (pcOf F6 107 [1,1,0,0,1])),(plebk23 d x425),(.blk 0),(plebk3 d),(.blk 0),(plebk4 d),(.blk 0),(.seq (pcOf F6 78 [1,1])),(.cal [(.cell 2 70)] .top)]⟩
noncomputable def plebk6 (z0:tQ.den) (z1:Int) (z2:Int):AO:=(cF [(iI (z0.2.1.2.1.1)),(iI z1),(iI z2)])
noncomputable def plebQ52 (d:tQ.den) (y0:Nat) (y1:List AV) (y2:Int) (y3:Int):Hp:=(hpOf 15 (plebg21 y0 y1++plebg3 d++[(7,(plebk6 d y2 y3)),(8,(plebk6 d y2 y3)),(9,(plebk6 d y2 y3)),(11,(plebk6 d y2 y3))]))
noncomputable def plebQ53 (d:tQ.den) (y0:Nat) (y1:List AV) (y2:Int) (y3:Int):Hp:=(hpOf 13 (plebg21 y0 y1++plebg19 d++[(7,(plebk6 d y2 y3)),(8,(plebk6 d y2 y3)),(9,(plebk6 d y2 y3)),(10,(cF [(.cp (Ty.cells tQ (d)) 0)])),(11,(plebk6 d y2 y3)),(12,(cF [(.fn 87 [] [(pP 1 0)])]))]))
noncomputable def plebk5 (z0:tQ.den) (z1:Int) (z2:Int):AV:=(.agg [(iI (z0.2.1.2.1.1)),(iI z1),(iI z2)])
noncomputable def plebQ54 (d:tQ.den) (y0:Int) (y1:Int):Tmps:=(tmOf 21 (plebg0 d++plebg8++plebg2 d++[(1,(plebk5 d y0 y1))]))
noncomputable def plebQ55 (d:tQ.den) (y0:Int) (y1:Int):Tmps:=(tmOf 21 (plebg0 d++plebg8++plebg2 d++plebg24 d++[(1,(plebk5 d y0 y1))]))
noncomputable def plebQ56 (d:tQ.den) (y0:Int) (y1:Int):Tmps:=(tmOf 21 (plebg0 d++plebg8++[(1,(plebk5 d y0 y1)),(12,(iI (d.2.1.2.1.1)))]))
noncomputable def plebQ57 (d:tQ.den) (y0:Int) (y1:Int):Tmps:=(tmOf 21 (plebg0 d++plebg8++plebg25 d++[(1,(plebk5 d y0 y1))]))
noncomputable def plebQ58 (d:tQ.den) (y0:Int) (y1:Int):Tmps:=(tmOf 21 (plebg0 d++plebg8++[(1,(plebk5 d y0 y1))]))
noncomputable def plebQ59 (d:tQ.den) (y0:Int) (y1:Int):Tmps:=(tmOf 21 (plebg20 d++plebg8++[(1,(plebk5 d y0 y1))]))
noncomputable def plebQ60 (d:tQ.den) (y0:Int) (y1:Int):Tmps:=(tmOf 21 (plebg20 d++plebg8++[(1,(plebk5 d y0 y1)),(7,(.cp (Ty.cells tQ (d)) 0))]))
noncomputable def plebQ61 (d:tQ.den) (y0:Int) (y1:Int):Tmps:=(tmOf 21 (plebg0 d++plebg8++plebg2 d++plebg24 d++[(1,(plebk5 d y0 y1)),(19,(plebk11))]))
noncomputable def plebg29 (d:tQ.den) (y0:Int) (y1:Int):List (Nat×AV):=[(8,(plebk5 d y0 y1)),(9,(plebk5 d y0 y1)),(10,(plebk5 d y0 y1)),(12,(plebk5 d y0 y1))]
noncomputable def plebQ62 (d:tQ.den) (y0:Int) (y1:Int):Tmps:=(tmOf 34 (plebg10 d++plebg29 d y0 y1++[(3,(pP 7 0)),(4,(pP 8 0)),(5,(pP 9 0))]))
noncomputable def plebQ63 (d:tQ.den) (y0:Int) (y1:Int):Tmps:=(tmOf 49 (plebg1 d++plebg15 d++[(3,(iI y0)),(4,(iI y1)),(11,(iI y0)),(27,(iI y1)),(44,(iI y0)),(45,(iI y1)),(46,(plebk5 d y0 y1))]))
noncomputable def plebk27 (z0:tQ.den) (z1:Nat) (z2:List AV) (z3:Int) (z4:Int):Fm:=(.cal [(.tmp 4)] (.dr ⟨(pcOf F6 58 [0,1]),opsD (pcOf F6 58 [0,1]).c,15,(opsD (pcOf F6 58 [0,1]).c).toList.drop 7,(fsD (pcOf F6 58 [0,1]).c).drop 7,6,[((plebQ52 z0 z1 z2 z3 z4),0,none)],[((opsD (pcOf F6 58 [0,1]).c).getD 2 default,2,0,(plebQ5 z0),(plebQ6 z0)),((opsD (pcOf F6 58 [0,1]).c).getD 0 default,0,0,(plebQ7 z0),(plebQ8 z0))],false⟩ ((opsD (pcOf F6 58 [0,1]).c).getD 6 default) ((fsD (pcOf F6 58 [0,1]).c).getD 6 default) (plebQ9 z0) [] 15 false ⟨57,[(plebk0 z0)]⟩))
noncomputable def plebk14 (z0:tQ.den) (z1:Nat) (z2:List AV) (z3:Int) (z4:Int):Fm:=(.cal [(.tmp 6)] (.dr ⟨(pcOf F6 86 [0,1]),opsD (pcOf F6 86 [0,1]).c,13,(opsD (pcOf F6 86 [0,1]).c).toList.drop 14,(fsD (pcOf F6 86 [0,1]).c).drop 14,13,[((plebQ53 z0 z1 z2 z3 z4),0,none)],[((opsD (pcOf F6 86 [0,1]).c).getD 11 default,11,1984,(plebQ54 z0 z3 z4),(plebQ55 z0 z3 z4)),((opsD (pcOf F6 86 [0,1]).c).getD 6 default,6,0,(plebQ56 z0 z3 z4),(plebQ57 z0 z3 z4)),((opsD (pcOf F6 86 [0,1]).c).getD 5 default,5,31,(plebQ58 z0 z3 z4),(plebQ56 z0 z3 z4)),((opsD (pcOf F6 86 [0,1]).c).getD 0 default,0,0,(plebQ59 z0 z3 z4),(plebQ60 z0 z3 z4))],false⟩ ((opsD (pcOf F6 86 [0,1]).c).getD 13 default) ((fsD (pcOf F6 86 [0,1]).c).getD 13 default) (plebQ61 z0 z3 z4) [] 21 false ⟨58,[(plebk0 z0)]⟩))
noncomputable def plebk40 (z0:tQ.den) (z1:Int) (z2:Int):Fm:=(.cal [(.tmp 6)] (.op (pcOf F6 84 [0,1,0,1,0,1,1]) 4 (some 14) ((opsOf (pcOf F6 84 [0,1,0,1,0,1,1]).c).toList.drop 4) (plebQ62 z0 z1 z2) [] 34 true ⟨59,[(plebk0 z0)]⟩))
noncomputable def plebk1 (z0:tQ.den) (z1:Int) (z2:Int):Fm:=(.rnd [] (.op (plebk37) 11 (some 47) ((opsOf (plebk37).c).toList.drop 11) (plebQ63 z0 z1 z2) [] 49 false ⟨58,[(plebk7 z0),(plebk0 z0)]⟩))
noncomputable def plebI5 (d:tQ.den) (u0 u1:Int) (q:Nat) (u26:List AV) (n m:Nat) (x2:Int) (x3:Int) (x5:Nat) (x9:List AV) (x11:Int) (x12:Int) (x20:Int) (x31:Nat) (x286:Nat) (x294:Nat):Cfg:=⟨.ex (pcOf F6 97 [0,0,0,1,1]) ⟨(plebQ2 d x2 x3),(hpOf 15 (plebg3 d++[(0,(cF [(.sl 6 0 x5 x5 3)])),(6,(cF x9)),(7,(plebk6 d x11 x12)),(8,(plebk6 d x11 x12)),(9,(plebk6 d x11 x12)),(11,(cF [(iI x20),(iI x11),(iI x12)]))])),[],[⟨false,.normal⟩],26,false⟩,⟨56,[(plebk0 d)]⟩,[(.lop (pcOf F6 97 [0,0,0,1,1]) 15 (plebQ3 d) x31),(.blk 0),(.seq (pcOf F6 97 [1,1,1])),(plebk27 d x5 x9 x11 x12),(.seq (pcOf F6 58 [1,1])),(plebk14 d x5 x9 x11 x12),(.seq (pcOf F6 86 [1,1])),(plebk40 d x11 x12),(.seq (pcOf F6 84 [1,1,0,1,0,1,1])),(.blk 1),(plebk1 d x11 x12),(plebk19),(.blk 3),(plebk20),(plebk25 d x11 x286),(.blk 2),(.blk 1),(.seq (pcOf F6 107 [1,1,0,0,1])),(plebk23 d x294),(.blk 0),(plebk3 d),(.blk 0),(plebk4 d),(.blk 0),(.seq (pcOf F6 78 [1,1])),(.cal [(.cell 2 70)] .top)]⟩
noncomputable def plebI6 (d:tQ.den) (u0 u1:Int) (q:Nat) (u26:List AV) (n m:Nat) (x1:Int) (x22:Nat) (x26:List AV) (x52:Nat) (x60:Nat):Cfg:=⟨.ex (pcOf F6 107 [0,0,1,0,0,1,0,0,1]) ⟨(tmOf 49 (plebg1 d++[(3,(iI (u0))),(4,(iI x1)),(11,(iI (u0)))])),(plebQ0 d x22 x26),[],[⟨false,.normal⟩,⟨false,.normal⟩],49,false⟩,⟨58,[(plebk7 d),(plebk0 d)]⟩,[(plebk36 d u0 x52),(.blk 2),(.blk 1),(.seq (pcOf F6 107 [1,1,0,0,1])),(plebk23 d x60),(.blk 0),(plebk3 d),(.blk 0),(plebk4 d),(.blk 0),(.seq (pcOf F6 78 [1,1])),(.cal [(.cell 2 70)] .top)]⟩
noncomputable def plebQ64 (d:tQ.den) (y0:Ty.den tG) (y1:Int):Tmps:=(tmOf 19 (plebg26 d++[(1,(.fn 91 [(.agg (Ty.cells tG y0))] [])),(8,(iI y1))]))
noncomputable def plebQ65 (d:tQ.den) (u0:Int) (y0:Nat) (y1:List AV) (y2:Int) (y3:Int) (y4:Int) (y5:Int) (y6:Ty.den tG):Hp:=(hpOf 22 (plebg21 y0 y1++plebg3 d++plebg36 d u0 y2 y3 y4++plebg11 d++[(16,(cF [(iI y5),(iI (u0)),(iI y2)])),(20,(cF (Ty.cells tG y6))),(21,(cF (Ty.cells tG y6)))]))
noncomputable def plebQ66 (d:tQ.den) (y0:Ty.den tG):Tmps:=(tmOf 19 (plebg26 d++[(1,(.fn 91 [(.agg (Ty.cells tG y0))] [])),(8,(iI 0))]))
noncomputable def plebQ67 (d:tQ.den) (y0:Ty.den tG):Tmps:=(tmOf 9 [(0,(plebk8 d)),(1,(.fn 91 [(.agg (Ty.cells tG y0))] [])),(4,(.bool false)),(5,(plebk8 d)),(6,(.fn 91 [(.agg (Ty.cells tG y0))] []))])
noncomputable def plebQ68 (d:tQ.den) (y0:Ty.den tG):Tmps:=(tmOf 11 (plebg30 y0 d++plebg4 d++[(2,(pP 21 0))]))
noncomputable def plebQ69 (d:tQ.den) (y0:Ty.den tG):Tmps:=(tmOf 11 (plebg30 y0 d++plebg4 d++[(2,(pP 21 0)),(8,(.agg (Ty.cells tG y0)))]))
noncomputable def plebQ70 (d:tQ.den) (y0:Ty.den tG):Tmps:=(tmOf 11 (plebg4 d++[(0,(.agg (Ty.cells tG y0))),(2,(pP 21 0))]))
noncomputable def plebQ71 (d:tQ.den) (y0:Ty.den tG):Tmps:=(tmOf 11 (plebg30 y0 d++plebg4 d++[(2,(pP 21 0)),(8,(.agg (Ty.cells tG y0))),(9,(.fn 91 [(.agg (Ty.cells tG y0))] []))]))
noncomputable def plebQ72 (d:tQ.den) (y0:Int) (y1:Int):Tmps:=(tmOf 10 [(0,(iI y0)),(1,(pP 19 0)),(2,(pP 18 0)),(4,(.bool false)),(5,(plebk21)),(6,(iI (d.2.1.2.1.1))),(7,(iI y0)),(8,(iI y1))])
noncomputable def plebQ73 (d:tQ.den) (y0:Int) (y1:Int) (y2:Int) (y3:Int) (y4:Int) (y5:Int):Tmps:=(tmOf 26 (plebg17 d++[(1,(.fn 98 [] [(pP 19 0),(pP 18 0)])),(5,(iI y0)),(6,(iI y1)),(7,(iI y2)),(9,(iI y0)),(10,(iI y1)),(11,(.bool true)),(12,(iI y0)),(13,(iI y1)),(14,(iI y3)),(15,(.int .u64 y4)),(16,(.int .u64 y5)),(17,(iI y2)),(18,(.fn 98 [] [(pP 19 0),(pP 18 0)])),(19,(iI y2))]))
noncomputable def plebk33 (z0:tQ.den) (z1:Ty.den tG):Fm:=(.cal [(.tmp 4)] (.op (pcOf F6 88 [0,1]) 3 (some 7) ((opsOf (pcOf F6 88 [0,1]).c).toList.drop 3) (plebQ67 z0 z1) [] 9 false ⟨52,[(plebk0 z0)]⟩))
noncomputable def plebg22 (x28:Int) (x125:Int) (x2:Ty.den tG):List (Nat×AV):=[(18,(.fn 90 [] [(pP 1 0)])),(0,(iI x28)),(7,(iI x125)),(10,(.tup [(.agg (Ty.cells tG x2)),(iI x125)])),(15,(.tup [(.agg (Ty.cells tG x2)),(iI x125)])),(17,(iI x125)),(8,(iI x28))]
noncomputable def plebI7 (d:tQ.den) (u0 u1:Int) (q:Nat) (u26:List AV) (n m:Nat) (x2:Ty.den tG) (x7:Int) (x8:Nat) (x12:List AV) (x15:Int) (x16:Int) (x23:Int) (x28:Int) (x44:Nat) (x125:Int) (x142:Int) (x151:Int) (x152:Int) (x160:Int) (x161:Int) (x162:Int) (x172:Nat) (x442:Nat) (x450:Nat):Cfg:=⟨.ex (pcOf F6 109 [0,0,1,0,1]) ⟨(plebQ64 d x2 x7),(plebQ65 d u0 x8 x12 x15 x16 x23 x28 x2),[],[⟨false,.normal⟩],19,false⟩,⟨51,[(plebk0 d)]⟩,[(.lop (pcOf F6 109 [0,0,1,0,1]) 22 (plebQ66 d x2) x44),(.blk 0),(.seq (pcOf F6 109 [1,1])),(plebk33 d x2),(.seq (pcOf F6 88 [1,1])),(.cal [(.tmp 4)] (.dr ⟨(pcOf F6 90 [0,1]),opsD (pcOf F6 90 [0,1]).c,22,(opsD (pcOf F6 90 [0,1]).c).toList.drop 7,(fsD (pcOf F6 90 [0,1]).c).drop 7,6,[((plebQ65 d u0 x8 x12 x15 x16 x23 x28 x2),0,none)],[((opsD (pcOf F6 90 [0,1]).c).getD 4 default,4,0,(plebQ68 d x2),(plebQ69 d x2)),((opsD (pcOf F6 90 [0,1]).c).getD 3 default,3,7,(plebQ70 d x2),(plebQ68 d x2)),((opsD (pcOf F6 90 [0,1]).c).getD 0 default,0,0,(tmOf 11 (plebg12 x2++[(2,(pP 21 0))])),(tmOf 11 (plebg12 x2++[(2,(pP 21 0)),(4,(.cp (Ty.cells tQ (d)) 0))])))],false⟩ ((opsD (pcOf F6 90 [0,1]).c).getD 6 default) ((fsD (pcOf F6 90 [0,1]).c).getD 6 default) (plebQ71 d x2) [] 11 false ⟨53,[(plebk0 d)]⟩)),(.seq (pcOf F6 90 [1,1])),(.cal [(.tmp 3)] (.op (pcOf F6 108 [0,1,1,1]) 3 (some 20) ((opsOf (pcOf F6 108 [0,1,1,1]).c).toList.drop 3) (tmOf 21 (plebg22 x28 x125 x2++plebg9 d x2++[(1,(pP 16 0)),(2,(pP 15 0)),(3,(pP 17 0)),(6,(pP 20 0)),(9,(pP 16 0)),(12,(.agg [(iI x28),(iI (u0)),(iI x15)]))])) [] 21 false ⟨54,[(plebk0 d)]⟩)),(.seq (pcOf F6 108 [1,1,1,1])),(.cal [(.tmp 5)] (.op (pcOf F6 98 [0,1]) 5 (some 9) ((opsOf (pcOf F6 98 [0,1]).c).toList.drop 5) (plebQ72 d x142 x28) [] 10 false ⟨55,[(plebk0 d)]⟩)),(.seq (pcOf F6 98 [1,1])),(.cal [(.tmp 4)] (.op (pcOf F6 97 [0,1,0,1,0,0,0,1,1]) 3 (some 20) ((opsOf (pcOf F6 97 [0,1,0,1,0,0,0,1,1]).c).toList.drop 3) (plebQ73 d x151 x152 x142 x160 x161 x162) [] 26 false ⟨56,[(plebk0 d)]⟩)),(plebk34),(.blk 1),(.lop (pcOf F6 97 [0,0,0,1,1]) 20 (plebQ25 d) x172),(.blk 0),(.seq (pcOf F6 97 [1,1,1])),(plebk29 d u0 x8 x12 x15 x16 x23),(.seq (pcOf F6 58 [1,1])),(plebk16 d u0 x8 x12 x15 x16 x23),(.seq (pcOf F6 86 [1,1])),(.cal [(.tmp 6)] (.op (pcOf F6 84 [0,1,1,0,1,0,1,1]) 4 (some 19) ((opsOf (pcOf F6 84 [0,1,1,0,1,0,1,1]).c).toList.drop 4) (plebQ41 d u0 x15 x16) [] 34 true ⟨59,[(plebk0 d)]⟩)),(.seq (pcOf F6 84 [1,1,1,0,1,0,1,1])),(.blk 1),(plebk18 d u0 x15),(plebk19),(.blk 3),(plebk20),(plebk36 d u0 x442),(.blk 2),(.blk 1),(.seq (pcOf F6 107 [1,1,0,0,1])),(plebk23 d x450),(.blk 0),(plebk3 d),(.blk 0),(plebk4 d),(.blk 0),(.seq (pcOf F6 78 [1,1])),(.cal [(.cell 2 70)] .top)]⟩
noncomputable def plebQ74 (d:tQ.den) (y0:Nat) (y1:List AV) (y2:Int) (y3:Int) (y4:Int) (y5:Int):Hp:=(hpOf 20 (plebg21 y0 y1++plebg3 d++plebg11 d++[(7,(plebk6 d y2 y3)),(8,(cF [(iI y4),(iI y2),(iI y3)])),(9,(plebk6 d y2 y3)),(11,(cF [(iI y5),(iI y2),(iI y3)])),(16,(plebk6 d y2 y3))]))
noncomputable def plebQ75 (d:tQ.den) (y0:Nat) (y1:List AV) (y2:Int) (y3:Int) (y4:Int) (y5:Int):Hp:=(hpOf 18 (plebg21 y0 y1++plebg3 d++[(7,(plebk6 d y2 y3)),(8,(cF [(iI y4),(iI y2),(iI y3)])),(9,(plebk6 d y2 y3)),(11,(cF [(iI y5),(iI y2),(iI y3)])),(15,(cF [(.cp (Ty.cells tQ (d)) 0)])),(16,(plebk6 d y2 y3)),(17,(cF [(.fn 90 [] [(pP 1 0)])]))]))
noncomputable def plebQ76 (d:tQ.den) (y0:Int) (y1:Int):Tmps:=(tmOf 21 (plebg0 d++plebg7++plebg2 d++[(1,(plebk5 d y0 y1))]))
noncomputable def plebQ77 (d:tQ.den) (y0:Int) (y1:Int):Tmps:=(tmOf 21 (plebg0 d++plebg7++plebg2 d++plebg24 d++[(1,(plebk5 d y0 y1))]))
noncomputable def plebQ78 (d:tQ.den) (y0:Int) (y1:Int):Tmps:=(tmOf 21 (plebg0 d++plebg7++[(1,(plebk5 d y0 y1)),(12,(iI (d.2.1.2.1.1)))]))
noncomputable def plebQ79 (d:tQ.den) (y0:Int) (y1:Int):Tmps:=(tmOf 21 (plebg0 d++plebg7++plebg25 d++[(1,(plebk5 d y0 y1))]))
noncomputable def plebQ80 (d:tQ.den) (y0:Int) (y1:Int):Tmps:=(tmOf 21 (plebg0 d++plebg7++[(1,(plebk5 d y0 y1))]))
noncomputable def plebQ81 (d:tQ.den) (y0:Int) (y1:Int):Tmps:=(tmOf 21 (plebg20 d++plebg7++[(1,(plebk5 d y0 y1))]))
noncomputable def plebQ82 (d:tQ.den) (y0:Int) (y1:Int):Tmps:=(tmOf 21 (plebg20 d++plebg7++[(1,(plebk5 d y0 y1)),(7,(.cp (Ty.cells tQ (d)) 0))]))
noncomputable def plebQ83 (d:tQ.den) (y0:Int) (y1:Int):Tmps:=(tmOf 21 (plebg0 d++plebg7++plebg2 d++plebg24 d++[(1,(plebk5 d y0 y1)),(19,(plebk21))]))
noncomputable def plebQ84 (d:tQ.den) (y0:Int) (y1:Int) (y2:Int):Tmps:=(tmOf 34 (plebg10 d++plebg29 d y0 y1++[(3,(pP 7 0)),(4,(pP 8 0)),(5,(pP 9 0)),(14,(iI y2)),(15,(pP 8 0)),(16,(.cp (Ty.cells tQ (d)) 0)),(17,(plebk5 d y0 y1)),(18,(.fn 90 [] [(pP 1 0)]))]))
noncomputable def plebk30 (z0:tQ.den) (z1:Nat) (z2:List AV) (z3:Int) (z4:Int) (z5:Int) (z6:Int):Fm:=(.cal [(.tmp 4)] (.dr ⟨(pcOf F6 58 [0,1]),opsD (pcOf F6 58 [0,1]).c,20,(opsD (pcOf F6 58 [0,1]).c).toList.drop 7,(fsD (pcOf F6 58 [0,1]).c).drop 7,6,[((plebQ74 z0 z1 z2 z3 z4 z5 z6),0,none)],[((opsD (pcOf F6 58 [0,1]).c).getD 2 default,2,0,(plebQ27 z0),(plebQ28 z0)),((opsD (pcOf F6 58 [0,1]).c).getD 0 default,0,0,(plebQ29 z0),(plebQ30 z0))],false⟩ ((opsD (pcOf F6 58 [0,1]).c).getD 6 default) ((fsD (pcOf F6 58 [0,1]).c).getD 6 default) (plebQ31 z0) [] 15 false ⟨57,[(plebk0 z0)]⟩))
noncomputable def plebk17 (z0:tQ.den) (z1:Nat) (z2:List AV) (z3:Int) (z4:Int) (z5:Int) (z6:Int):Fm:=(.cal [(.tmp 6)] (.dr ⟨(pcOf F6 86 [0,1]),opsD (pcOf F6 86 [0,1]).c,18,(opsD (pcOf F6 86 [0,1]).c).toList.drop 14,(fsD (pcOf F6 86 [0,1]).c).drop 14,13,[((plebQ75 z0 z1 z2 z3 z4 z5 z6),0,none)],[((opsD (pcOf F6 86 [0,1]).c).getD 11 default,11,1984,(plebQ76 z0 z3 z4),(plebQ77 z0 z3 z4)),((opsD (pcOf F6 86 [0,1]).c).getD 6 default,6,0,(plebQ78 z0 z3 z4),(plebQ79 z0 z3 z4)),((opsD (pcOf F6 86 [0,1]).c).getD 5 default,5,31,(plebQ80 z0 z3 z4),(plebQ78 z0 z3 z4)),((opsD (pcOf F6 86 [0,1]).c).getD 0 default,0,0,(plebQ81 z0 z3 z4),(plebQ82 z0 z3 z4))],false⟩ ((opsD (pcOf F6 86 [0,1]).c).getD 13 default) ((fsD (pcOf F6 86 [0,1]).c).getD 13 default) (plebQ83 z0 z3 z4) [] 21 false ⟨58,[(plebk0 z0)]⟩))
noncomputable def plebI8 (d:tQ.den) (u0 u1:Int) (q:Nat) (u26:List AV) (n m:Nat) (x2:Int) (x3:Int) (x5:Nat) (x9:List AV) (x11:Int) (x12:Int) (x13:Int) (x20:Int) (x25:Int) (x36:Nat) (x306:Nat) (x314:Nat):Cfg:=⟨.ex (pcOf F6 97 [0,0,0,1,1]) ⟨(plebQ24 d x2 x3),(hpOf 20 (plebg3 d++plebg11 d++[(0,(cF [(.sl 6 0 x5 x5 3)])),(6,(cF x9)),(7,(plebk6 d x11 x12)),(8,(cF [(iI x13),(iI x11),(iI x12)])),(9,(plebk6 d x11 x12)),(11,(cF [(iI x20),(iI x11),(iI x12)])),(16,(cF [(iI x25),(iI x11),(iI x12)]))])),[],[⟨false,.normal⟩],26,false⟩,⟨56,[(plebk0 d)]⟩,[(.lop (pcOf F6 97 [0,0,0,1,1]) 20 (plebQ25 d) x36),(.blk 0),(.seq (pcOf F6 97 [1,1,1])),(plebk30 d x5 x9 x11 x12 x13 x20),(.seq (pcOf F6 58 [1,1])),(plebk17 d x5 x9 x11 x12 x13 x20),(.seq (pcOf F6 86 [1,1])),(.cal [(.tmp 6)] (.op (pcOf F6 84 [0,1,1,0,1,0,1,1]) 4 (some 19) ((opsOf (pcOf F6 84 [0,1,1,0,1,0,1,1]).c).toList.drop 4) (plebQ84 d x11 x12 x13) [] 34 true ⟨59,[(plebk0 d)]⟩)),(.seq (pcOf F6 84 [1,1,1,0,1,0,1,1])),(.blk 1),(plebk1 d x11 x12),(plebk19),(.blk 3),(plebk20),(plebk25 d x11 x306),(.blk 2),(.blk 1),(.seq (pcOf F6 107 [1,1,0,0,1])),(plebk23 d x314),(.blk 0),(plebk3 d),(.blk 0),(plebk4 d),(.blk 0),(.seq (pcOf F6 78 [1,1])),(.cal [(.cell 2 70)] .top)]⟩
noncomputable def plebQ85 (d:tQ.den) (y0:Nat) (y1:List AV) (y2:Int) (y3:Int) (y4:Int) (y5:Ty.den tG):Hp:=(hpOf 17 (plebg21 y0 y1++plebg3 d++[(7,(plebk6 d y2 y3)),(8,(plebk6 d y2 y3)),(9,(plebk6 d y2 y3)),(11,(cF [(iI y4),(iI y2),(iI y3)])),(15,(cF (Ty.cells tG y5))),(16,(cF (Ty.cells tG y5)))]))
noncomputable def plebI9 (d:tQ.den) (u0 u1:Int) (q:Nat) (u26:List AV) (n m:Nat) (x2:Ty.den tG) (x7:Int) (x8:Nat) (x12:List AV) (x14:Int) (x15:Int) (x23:Int) (x39:Nat) (x115:Int) (x132:Int) (x141:Int) (x142:Int) (x150:Int) (x151:Int) (x152:Int) (x162:Nat) (x417:Nat) (x425:Nat):Cfg:=⟨.ex (pcOf F6 109 [0,0,1,0,1]) ⟨(plebQ42 d x2 x7),(plebQ85 d x8 x12 x14 x15 x23 x2),[],[⟨false,.normal⟩],19,false⟩,⟨51,[(plebk0 d)]⟩,[(.lop (pcOf F6 109 [0,0,1,0,1]) 17 (plebQ44 d x2) x39),(.blk 0),(.seq (pcOf F6 109 [1,1])),(plebk32 d x2),(.seq (pcOf F6 88 [1,1])),(.cal [(.tmp 4)] (.dr ⟨(pcOf F6 87 [0,1]),opsD (pcOf F6 87 [0,1]).c,17,(opsD (pcOf F6 87 [0,1]).c).toList.drop 7,(fsD (pcOf F6 87 [0,1]).c).drop 7,6,[((plebQ85 d x8 x12 x14 x15 x23 x2),0,none)],[((opsD (pcOf F6 87 [0,1]).c).getD 4 default,4,0,(plebQ46 d x2),(plebQ47 d x2)),((opsD (pcOf F6 87 [0,1]).c).getD 3 default,3,7,(plebQ48 d x2),(plebQ46 d x2)),((opsD (pcOf F6 87 [0,1]).c).getD 0 default,0,0,(tmOf 12 (plebg12 x2++[(2,(pP 16 0))])),(tmOf 12 (plebg12 x2++[(2,(pP 16 0)),(4,(.cp (Ty.cells tQ (d)) 0))])))],false⟩ ((opsD (pcOf F6 87 [0,1]).c).getD 6 default) ((fsD (pcOf F6 87 [0,1]).c).getD 6 default) (plebQ49 d x2) [] 12 false ⟨53,[(plebk0 d)]⟩)),(.seq (pcOf F6 87 [1,1])),(.cal [(.tmp 3)] (.op (pcOf F6 108 [0,1,1,1]) 3 (some 20) ((opsOf (pcOf F6 108 [0,1,1,1]).c).toList.drop 3) (tmOf 21 (plebg23 x23 x115 x2++plebg9 d x2++[(1,(pP 11 0)),(2,(pP 10 0)),(3,(pP 12 0)),(6,(pP 15 0)),(9,(pP 11 0)),(12,(.agg [(iI x23),(iI x14),(iI x15)]))])) [] 21 false ⟨54,[(plebk0 d)]⟩)),(.seq (pcOf F6 108 [1,1,1,1])),(.cal [(.tmp 5)] (.op (pcOf F6 98 [0,1]) 5 (some 9) ((opsOf (pcOf F6 98 [0,1]).c).toList.drop 5) (plebQ50 d x132 x23) [] 10 false ⟨55,[(plebk0 d)]⟩)),(.seq (pcOf F6 98 [1,1])),(.cal [(.tmp 4)] (.op (pcOf F6 97 [0,1,0,1,0,0,0,1,1]) 3 (some 20) ((opsOf (pcOf F6 97 [0,1,0,1,0,0,0,1,1]).c).toList.drop 3) (plebQ51 d x141 x142 x132 x150 x151 x152) [] 26 false ⟨56,[(plebk0 d)]⟩)),(plebk34),(.blk 1),(.lop (pcOf F6 97 [0,0,0,1,1]) 15 (plebQ3 d) x162),(.blk 0),(.seq (pcOf F6 97 [1,1,1])),(plebk27 d x8 x12 x14 x15),(.seq (pcOf F6 58 [1,1])),(plebk14 d x8 x12 x14 x15),(.seq (pcOf F6 86 [1,1])),(plebk40 d x14 x15),(.seq (pcOf F6 84 [1,1,0,1,0,1,1])),(.blk 1),(plebk1 d x14 x15),(plebk19),(.blk 3),(plebk20),(plebk25 d x14 x417),(.blk 2),(.blk 1),(.seq (pcOf F6 107 [1,1,0,0,1])),(plebk23 d x425),(.blk 0),(plebk3 d),(.blk 0),(plebk4 d),(.blk 0),(.seq (pcOf F6 78 [1,1])),(.cal [(.cell 2 70)] .top)]⟩
noncomputable def plebI10 (d:tQ.den) (u0 u1:Int) (q:Nat) (u26:List AV) (n m:Nat) (x0:Int) (x1:Int) (x22:Nat) (x26:List AV) (x52:Nat) (x60:Nat):Cfg:=⟨.ex (pcOf F6 107 [0,0,1,0,0,1,0,0,1]) ⟨(plebQ22 d x0 x1),(hpOf 8 (plebg19 d++[(0,(cF [(.sl 7 0 x22 x22 3)])),(6,.gone),(7,(cF x26))])),[],[⟨false,.normal⟩,⟨false,.normal⟩],49,false⟩,⟨58,[(plebk7 d),(plebk0 d)]⟩,[(plebk25 d x0 x52),(.blk 2),(.blk 1),(.seq (pcOf F6 107 [1,1,0,0,1])),(plebk23 d x60),(.blk 0),(plebk3 d),(.blk 0),(plebk4 d),(.blk 0),(.seq (pcOf F6 78 [1,1])),(.cal [(.cell 2 70)] .top)]⟩
noncomputable def plebQ86 (d:tQ.den) (y0:Nat) (y1:List AV) (y2:Int) (y3:Int) (y4:Int) (y5:Int) (y6:Int) (y7:Ty.den tG):Hp:=(hpOf 22 (plebg21 y0 y1++plebg3 d++plebg11 d++[(7,(plebk6 d y2 y3)),(8,(cF [(iI y4),(iI y2),(iI y3)])),(9,(plebk6 d y2 y3)),(11,(cF [(iI y5),(iI y2),(iI y3)])),(16,(cF [(iI y6),(iI y2),(iI y3)])),(20,(cF (Ty.cells tG y7))),(21,(cF (Ty.cells tG y7)))]))
noncomputable def plebI11 (d:tQ.den) (u0 u1:Int) (q:Nat) (u26:List AV) (n m:Nat) (x2:Ty.den tG) (x7:Int) (x8:Nat) (x12:List AV) (x14:Int) (x15:Int) (x16:Int) (x23:Int) (x28:Int) (x44:Nat) (x125:Int) (x142:Int) (x151:Int) (x152:Int) (x160:Int) (x161:Int) (x162:Int) (x172:Nat) (x442:Nat) (x450:Nat):Cfg:=⟨.ex (pcOf F6 109 [0,0,1,0,1]) ⟨(plebQ64 d x2 x7),(plebQ86 d x8 x12 x14 x15 x16 x23 x28 x2),[],[⟨false,.normal⟩],19,false⟩,⟨51,[(plebk0 d)]⟩,[(.lop (pcOf F6 109 [0,0,1,0,1]) 22 (plebQ66 d x2) x44),(.blk 0),(.seq (pcOf F6 109 [1,1])),(plebk33 d x2),(.seq (pcOf F6 88 [1,1])),(.cal [(.tmp 4)] (.dr ⟨(pcOf F6 90 [0,1]),opsD (pcOf F6 90 [0,1]).c,22,(opsD (pcOf F6 90 [0,1]).c).toList.drop 7,(fsD (pcOf F6 90 [0,1]).c).drop 7,6,[((plebQ86 d x8 x12 x14 x15 x16 x23 x28 x2),0,none)],[((opsD (pcOf F6 90 [0,1]).c).getD 4 default,4,0,(plebQ68 d x2),(plebQ69 d x2)),((opsD (pcOf F6 90 [0,1]).c).getD 3 default,3,7,(plebQ70 d x2),(plebQ68 d x2)),((opsD (pcOf F6 90 [0,1]).c).getD 0 default,0,0,(tmOf 11 (plebg12 x2++[(2,(pP 21 0))])),(tmOf 11 (plebg12 x2++[(2,(pP 21 0)),(4,(.cp (Ty.cells tQ (d)) 0))])))],false⟩ ((opsD (pcOf F6 90 [0,1]).c).getD 6 default) ((fsD (pcOf F6 90 [0,1]).c).getD 6 default) (plebQ71 d x2) [] 11 false ⟨53,[(plebk0 d)]⟩)),(.seq (pcOf F6 90 [1,1])),(.cal [(.tmp 3)] (.op (pcOf F6 108 [0,1,1,1]) 3 (some 20) ((opsOf (pcOf F6 108 [0,1,1,1]).c).toList.drop 3) (tmOf 21 (plebg22 x28 x125 x2++plebg9 d x2++[(1,(pP 16 0)),(2,(pP 15 0)),(3,(pP 17 0)),(6,(pP 20 0)),(9,(pP 16 0)),(12,(.agg [(iI x28),(iI x14),(iI x15)]))])) [] 21 false ⟨54,[(plebk0 d)]⟩)),(.seq (pcOf F6 108 [1,1,1,1])),(.cal [(.tmp 5)] (.op (pcOf F6 98 [0,1]) 5 (some 9) ((opsOf (pcOf F6 98 [0,1]).c).toList.drop 5) (plebQ72 d x142 x28) [] 10 false ⟨55,[(plebk0 d)]⟩)),(.seq (pcOf F6 98 [1,1])),(.cal [(.tmp 4)] (.op (pcOf F6 97 [0,1,0,1,0,0,0,1,1]) 3 (some 20) ((opsOf (pcOf F6 97 [0,1,0,1,0,0,0,1,1]).c).toList.drop 3) (plebQ73 d x151 x152 x142 x160 x161 x162) [] 26 false ⟨56,[(plebk0 d)]⟩)),(plebk34),(.blk 1),(.lop (pcOf F6 97 [0,0,0,1,1]) 20 (plebQ25 d) x172),(.blk 0),(.seq (pcOf F6 97 [1,1,1])),(plebk30 d x8 x12 x14 x15 x16 x23),(.seq (pcOf F6 58 [1,1])),(plebk17 d x8 x12 x14 x15 x16 x23),(.seq (pcOf F6 86 [1,1])),(.cal [(.tmp 6)] (.op (pcOf F6 84 [0,1,1,0,1,0,1,1]) 4 (some 19) ((opsOf (pcOf F6 84 [0,1,1,0,1,0,1,1]).c).toList.drop 4) (plebQ84 d x14 x15 x16) [] 34 true ⟨59,[(plebk0 d)]⟩)),(.seq (pcOf F6 84 [1,1,1,0,1,0,1,1])),(.blk 1),(plebk1 d x14 x15),(plebk19),(.blk 3),(plebk20),(plebk25 d x14 x442),(.blk 2),(.blk 1),(.seq (pcOf F6 107 [1,1,0,0,1])),(plebk23 d x450),(.blk 0),(plebk3 d),(.blk 0),(plebk4 d),(.blk 0),(.seq (pcOf F6 78 [1,1])),(.cal [(.cell 2 70)] .top)]⟩
noncomputable def plebQ87 (d:tQ.den):Tmps:=(tmOf 26 (plebg17 d++[(1,(.fn 98 [] [(pP 15 0),(pP 14 0)])),(5,(iI 0)),(6,(plebk2 d))]))
noncomputable def plebk22:AV:=(.fn 108 [] [(pP 12 0),(pP 11 0),(pP 13 0)])
noncomputable def plebg6 (d:tQ.den):List (Nat×AO):=[(1,(cF [(.cp (Ty.cells tQ (d)) 0)])),(3,(cF [(.yld 2)])),(4,(cF [(.cp (Ty.cells tQ (d)) 0)])),(6,.gone),(11,(cF [(.cp (Ty.cells tQ (d)) 0)])),(13,(cF [(.fn 87 [] [(pP 1 0)])])),(14,(cF [(iI (d.2.1.2.1.1))])),(15,(cF [(plebk22)]))]
noncomputable def plebQ88 (d:tQ.den) (y0:Nat) (y1:List AV) (y2:Int) (y3:Int):Hp:=(hpOf 16 (plebg6 d++[(0,(cF [(.sl 7 0 y0 y0 3)])),(7,(cF y1)),(8,(plebk6 d y2 y3)),(9,(plebk6 d y2 y3)),(10,(plebk6 d y2 y3)),(12,(plebk6 d y2 y3))]))
noncomputable def plebg34:List (Nat×AV):=[(2,(plebk22)),(3,(pP 14 0)),(5,(pP 15 0))]
noncomputable def plebQ89 (d:tQ.den):Tmps:=(tmOf 15 (plebg5 d++plebg34++[(8,(iI (d.2.1.2.1.2.1)))]))
noncomputable def plebQ90 (d:tQ.den):Tmps:=(tmOf 15 (plebg5 d++plebg34++plebg16 d))
noncomputable def plebQ91 (d:tQ.den):Tmps:=(tmOf 15 (plebg27 d++plebg34))
noncomputable def plebQ92 (d:tQ.den):Tmps:=(tmOf 15 (plebg5 d++plebg34))
noncomputable def plebQ93 (d:tQ.den):Tmps:=(tmOf 15 (plebg5 d++plebg34++plebg16 d++[(10,(plebk35 d)),(11,(plebk2 d)),(12,(.fn 98 [] [(pP 15 0),(pP 14 0)]))]))
noncomputable def plebQ94 (d:tQ.den) (y0:Nat) (y1:List AV) (y2:Int) (y3:Int):Hp:=(hpOf 14 (plebg19 d++[(0,(cF [(.sl 7 0 y0 y0 3)])),(6,.gone),(7,(cF y1)),(8,(plebk6 d y2 y3)),(9,(plebk6 d y2 y3)),(10,(plebk6 d y2 y3)),(11,(cF [(.cp (Ty.cells tQ (d)) 0)])),(12,(plebk6 d y2 y3)),(13,(cF [(.fn 87 [] [(pP 1 0)])]))]))
noncomputable def plebg13 (d:tQ.den) (y0:Int) (y1:Int):List (Nat×AV):=[(2,(.fn 87 [] [(pP 1 0)])),(3,(pP 11 0)),(4,(pP 12 0)),(5,(pP 13 0)),(1,(plebk5 d y0 y1))]
noncomputable def plebQ95 (d:tQ.den) (y0:Int) (y1:Int):Tmps:=(tmOf 21 (plebg0 d++plebg13 d y0 y1++plebg2 d))
noncomputable def plebQ96 (d:tQ.den) (y0:Int) (y1:Int):Tmps:=(tmOf 21 (plebg0 d++plebg13 d y0 y1++plebg2 d++plebg24 d))
noncomputable def plebQ97 (d:tQ.den) (y0:Int) (y1:Int):Tmps:=(tmOf 21 (plebg0 d++plebg13 d y0 y1++[(12,(iI (d.2.1.2.1.1)))]))
noncomputable def plebQ98 (d:tQ.den) (y0:Int) (y1:Int):Tmps:=(tmOf 21 (plebg0 d++plebg13 d y0 y1++plebg25 d))
noncomputable def plebQ99 (d:tQ.den) (y0:Int) (y1:Int):Tmps:=(tmOf 21 (plebg0 d++plebg13 d y0 y1))
noncomputable def plebQ100 (d:tQ.den) (y0:Int) (y1:Int):Tmps:=(tmOf 21 (plebg20 d++plebg13 d y0 y1))
noncomputable def plebQ101 (d:tQ.den) (y0:Int) (y1:Int):Tmps:=(tmOf 21 (plebg20 d++plebg13 d y0 y1++[(7,(.cp (Ty.cells tQ (d)) 0))]))
noncomputable def plebQ102 (d:tQ.den) (y0:Int) (y1:Int):Tmps:=(tmOf 21 (plebg0 d++plebg13 d y0 y1++plebg2 d++plebg24 d++[(19,(plebk22))]))
noncomputable def plebQ103 (d:tQ.den) (y0:Int) (y1:Int):Tmps:=(tmOf 34 (plebg10 d++plebg29 d y0 y1++[(3,(pP 8 0)),(4,(pP 9 0)),(5,(pP 10 0))]))
noncomputable def plebk24 (z0:tQ.den) (z1:Nat) (z2:List AV) (z3:Int) (z4:Int):Fm:=(.cal [(.tmp 4)] (.dr ⟨(pcOf F6 58 [0,1]),opsD (pcOf F6 58 [0,1]).c,16,(opsD (pcOf F6 58 [0,1]).c).toList.drop 7,(fsD (pcOf F6 58 [0,1]).c).drop 7,6,[((plebQ88 z0 z1 z2 z3 z4),0,none)],[((opsD (pcOf F6 58 [0,1]).c).getD 2 default,2,0,(plebQ89 z0),(plebQ90 z0)),((opsD (pcOf F6 58 [0,1]).c).getD 0 default,0,0,(plebQ91 z0),(plebQ92 z0))],false⟩ ((opsD (pcOf F6 58 [0,1]).c).getD 6 default) ((fsD (pcOf F6 58 [0,1]).c).getD 6 default) (plebQ93 z0) [] 15 false ⟨57,[(plebk0 z0)]⟩))
noncomputable def plebk12 (z0:tQ.den) (z1:Nat) (z2:List AV) (z3:Int) (z4:Int):Fm:=(.cal [(.tmp 6)] (.dr ⟨(pcOf F6 86 [0,1]),opsD (pcOf F6 86 [0,1]).c,14,(opsD (pcOf F6 86 [0,1]).c).toList.drop 14,(fsD (pcOf F6 86 [0,1]).c).drop 14,13,[((plebQ94 z0 z1 z2 z3 z4),0,none)],[((opsD (pcOf F6 86 [0,1]).c).getD 11 default,11,1984,(plebQ95 z0 z3 z4),(plebQ96 z0 z3 z4)),((opsD (pcOf F6 86 [0,1]).c).getD 6 default,6,0,(plebQ97 z0 z3 z4),(plebQ98 z0 z3 z4)),((opsD (pcOf F6 86 [0,1]).c).getD 5 default,5,31,(plebQ99 z0 z3 z4),(plebQ97 z0 z3 z4)),((opsD (pcOf F6 86 [0,1]).c).getD 0 default,0,0,(plebQ100 z0 z3 z4),(plebQ101 z0 z3 z4))],false⟩ ((opsD (pcOf F6 86 [0,1]).c).getD 13 default) ((fsD (pcOf F6 86 [0,1]).c).getD 13 default) (plebQ102 z0 z3 z4) [] 21 false ⟨58,[(plebk0 z0)]⟩))
noncomputable def plebk39 (z0:tQ.den) (z1:Int) (z2:Int):Fm:=(.cal [(.tmp 6)] (.op (pcOf F6 84 [0,1,0,1,0,1,1]) 4 (some 14) ((opsOf (pcOf F6 84 [0,1,0,1,0,1,1]).c).toList.drop 4) (plebQ103 z0 z1 z2) [] 34 true ⟨59,[(plebk0 z0)]⟩))
noncomputable def plebI12 (d:tQ.den) (u0 u1:Int) (q:Nat) (u26:List AV) (n m:Nat) (x2:Int) (x3:Int) (x5:Nat) (x9:List AV) (x11:Int) (x12:Int) (x20:Int) (x31:Nat) (x286:Nat) (x294:Nat):Cfg:=⟨.ex (pcOf F6 97 [0,0,0,1,1]) ⟨(tmOf 26 (plebg17 d++[(1,(.fn 98 [] [(pP 15 0),(pP 14 0)])),(5,(iI x2)),(6,(iI x3))])),(hpOf 16 (plebg6 d++[(0,(cF [(.sl 7 0 x5 x5 3)])),(7,(cF x9)),(8,(plebk6 d x11 x12)),(9,(plebk6 d x11 x12)),(10,(plebk6 d x11 x12)),(12,(cF [(iI x20),(iI x11),(iI x12)]))])),[],[⟨false,.normal⟩],26,false⟩,⟨56,[(plebk0 d)]⟩,[(.lop (pcOf F6 97 [0,0,0,1,1]) 16 (plebQ87 d) x31),(.blk 0),(.seq (pcOf F6 97 [1,1,1])),(plebk24 d x5 x9 x11 x12),(.seq (pcOf F6 58 [1,1])),(plebk12 d x5 x9 x11 x12),(.seq (pcOf F6 86 [1,1])),(plebk39 d x11 x12),(.seq (pcOf F6 84 [1,1,0,1,0,1,1])),(.blk 1),(plebk1 d x11 x12),(plebk19),(.blk 3),(plebk20),(plebk25 d x11 x286),(.blk 2),(.blk 1),(.seq (pcOf F6 107 [1,1,0,0,1])),(plebk23 d x294),(.blk 0),(plebk3 d),(.blk 0),(plebk4 d),(.blk 0),(.seq (pcOf F6 78 [1,1])),(.cal [(.cell 2 70)] .top)]⟩
noncomputable def plebQ104 (d:tQ.den):Tmps:=(tmOf 26 (plebg17 d++[(1,(.fn 98 [] [(pP 20 0),(pP 19 0)])),(5,(iI 0)),(6,(plebk2 d))]))
noncomputable def plebk31:AV:=(.fn 108 [] [(pP 17 0),(pP 16 0),(pP 18 0)])
noncomputable def plebg18 (d:tQ.den) (y2:Int) (y3:Int) (y0:Nat) (y1:List AV) (y4:Int) (y5:Int):List (Nat×AO):=[(8,(plebk6 d y2 y3)),(0,(cF [(.sl 7 0 y0 y0 3)])),(7,(cF y1)),(10,(plebk6 d y2 y3)),(9,(cF [(iI y4),(iI y2),(iI y3)])),(12,(cF [(iI y5),(iI y2),(iI y3)])),(16,(cF [(.cp (Ty.cells tQ (d)) 0)])),(18,(cF [(.fn 90 [] [(pP 1 0)])]))]
noncomputable def plebQ105 (d:tQ.den) (y0:Nat) (y1:List AV) (y2:Int) (y3:Int) (y4:Int) (y5:Int):Hp:=(hpOf 21 (plebg18 d y2 y3 y0 y1 y4 y5++plebg6 d++[(17,(plebk6 d y2 y3)),(19,(cF [(iI (d.2.1.2.1.1))])),(20,(cF [(plebk31)]))]))
noncomputable def plebg35:List (Nat×AV):=[(2,(plebk31)),(3,(pP 19 0)),(5,(pP 20 0))]
noncomputable def plebQ106 (d:tQ.den):Tmps:=(tmOf 15 (plebg5 d++plebg35++[(8,(iI (d.2.1.2.1.2.1)))]))
noncomputable def plebQ107 (d:tQ.den):Tmps:=(tmOf 15 (plebg5 d++plebg35++plebg16 d))
noncomputable def plebQ108 (d:tQ.den):Tmps:=(tmOf 15 (plebg27 d++plebg35))
noncomputable def plebQ109 (d:tQ.den):Tmps:=(tmOf 15 (plebg5 d++plebg35))
noncomputable def plebQ110 (d:tQ.den):Tmps:=(tmOf 15 (plebg5 d++plebg35++plebg16 d++[(10,(plebk35 d)),(11,(plebk2 d)),(12,(.fn 98 [] [(pP 20 0),(pP 19 0)]))]))
noncomputable def plebQ111 (d:tQ.den) (y0:Nat) (y1:List AV) (y2:Int) (y3:Int) (y4:Int) (y5:Int):Hp:=(hpOf 19 (plebg18 d y2 y3 y0 y1 y4 y5++plebg6 d++[(17,(plebk6 d y2 y3))]))
noncomputable def plebg14 (d:tQ.den) (y0:Int) (y1:Int):List (Nat×AV):=[(2,(.fn 90 [] [(pP 1 0)])),(3,(pP 16 0)),(4,(pP 17 0)),(5,(pP 18 0)),(1,(plebk5 d y0 y1))]
noncomputable def plebQ112 (d:tQ.den) (y0:Int) (y1:Int):Tmps:=(tmOf 21 (plebg0 d++plebg14 d y0 y1++plebg2 d))
noncomputable def plebQ113 (d:tQ.den) (y0:Int) (y1:Int):Tmps:=(tmOf 21 (plebg0 d++plebg14 d y0 y1++plebg2 d++plebg24 d))
noncomputable def plebQ114 (d:tQ.den) (y0:Int) (y1:Int):Tmps:=(tmOf 21 (plebg0 d++plebg14 d y0 y1++[(12,(iI (d.2.1.2.1.1)))]))
noncomputable def plebQ115 (d:tQ.den) (y0:Int) (y1:Int):Tmps:=(tmOf 21 (plebg0 d++plebg14 d y0 y1++plebg25 d))
noncomputable def plebQ116 (d:tQ.den) (y0:Int) (y1:Int):Tmps:=(tmOf 21 (plebg0 d++plebg14 d y0 y1))
noncomputable def plebQ117 (d:tQ.den) (y0:Int) (y1:Int):Tmps:=(tmOf 21 (plebg20 d++plebg14 d y0 y1))
noncomputable def plebQ118 (d:tQ.den) (y0:Int) (y1:Int):Tmps:=(tmOf 21 (plebg20 d++plebg14 d y0 y1++[(7,(.cp (Ty.cells tQ (d)) 0))]))
noncomputable def plebQ119 (d:tQ.den) (y0:Int) (y1:Int):Tmps:=(tmOf 21 (plebg0 d++plebg14 d y0 y1++plebg2 d++plebg24 d++[(19,(plebk31))]))
noncomputable def plebQ120 (d:tQ.den) (y0:Int) (y1:Int) (y2:Int):Tmps:=(tmOf 34 (plebg10 d++plebg29 d y0 y1++[(3,(pP 8 0)),(4,(pP 9 0)),(5,(pP 10 0)),(14,(iI y2)),(15,(pP 9 0)),(16,(.cp (Ty.cells tQ (d)) 0)),(17,(plebk5 d y0 y1)),(18,(.fn 90 [] [(pP 1 0)]))]))
noncomputable def plebk28 (z0:tQ.den) (z1:Nat) (z2:List AV) (z3:Int) (z4:Int) (z5:Int) (z6:Int):Fm:=(.cal [(.tmp 4)] (.dr ⟨(pcOf F6 58 [0,1]),opsD (pcOf F6 58 [0,1]).c,21,(opsD (pcOf F6 58 [0,1]).c).toList.drop 7,(fsD (pcOf F6 58 [0,1]).c).drop 7,6,[((plebQ105 z0 z1 z2 z3 z4 z5 z6),0,none)],[((opsD (pcOf F6 58 [0,1]).c).getD 2 default,2,0,(plebQ106 z0),(plebQ107 z0)),((opsD (pcOf F6 58 [0,1]).c).getD 0 default,0,0,(plebQ108 z0),(plebQ109 z0))],false⟩ ((opsD (pcOf F6 58 [0,1]).c).getD 6 default) ((fsD (pcOf F6 58 [0,1]).c).getD 6 default) (plebQ110 z0) [] 15 false ⟨57,[(plebk0 z0)]⟩))
noncomputable def plebk15 (z0:tQ.den) (z1:Nat) (z2:List AV) (z3:Int) (z4:Int) (z5:Int) (z6:Int):Fm:=(.cal [(.tmp 6)] (.dr ⟨(pcOf F6 86 [0,1]),opsD (pcOf F6 86 [0,1]).c,19,(opsD (pcOf F6 86 [0,1]).c).toList.drop 14,(fsD (pcOf F6 86 [0,1]).c).drop 14,13,[((plebQ111 z0 z1 z2 z3 z4 z5 z6),0,none)],[((opsD (pcOf F6 86 [0,1]).c).getD 11 default,11,1984,(plebQ112 z0 z3 z4),(plebQ113 z0 z3 z4)),((opsD (pcOf F6 86 [0,1]).c).getD 6 default,6,0,(plebQ114 z0 z3 z4),(plebQ115 z0 z3 z4)),((opsD (pcOf F6 86 [0,1]).c).getD 5 default,5,31,(plebQ116 z0 z3 z4),(plebQ114 z0 z3 z4)),((opsD (pcOf F6 86 [0,1]).c).getD 0 default,0,0,(plebQ117 z0 z3 z4),(plebQ118 z0 z3 z4))],false⟩ ((opsD (pcOf F6 86 [0,1]).c).getD 13 default) ((fsD (pcOf F6 86 [0,1]).c).getD 13 default) (plebQ119 z0 z3 z4) [] 21 false ⟨58,[(plebk0 z0)]⟩))
noncomputable def plebI13 (d:tQ.den) (u0 u1:Int) (q:Nat) (u26:List AV) (n m:Nat) (x2:Int) (x3:Int) (x5:Nat) (x9:List AV) (x11:Int) (x12:Int) (x13:Int) (x20:Int) (x25:Int) (x36:Nat) (x306:Nat) (x314:Nat):Cfg:=⟨.ex (pcOf F6 97 [0,0,0,1,1]) ⟨(tmOf 26 (plebg17 d++[(1,(.fn 98 [] [(pP 20 0),(pP 19 0)])),(5,(iI x2)),(6,(iI x3))])),(hpOf 21 (plebg6 d++[(0,(cF [(.sl 7 0 x5 x5 3)])),(7,(cF x9)),(8,(plebk6 d x11 x12)),(9,(cF [(iI x13),(iI x11),(iI x12)])),(10,(plebk6 d x11 x12)),(12,(cF [(iI x20),(iI x11),(iI x12)])),(16,(cF [(.cp (Ty.cells tQ (d)) 0)])),(17,(cF [(iI x25),(iI x11),(iI x12)])),(18,(cF [(.fn 90 [] [(pP 1 0)])])),(19,(cF [(iI (d.2.1.2.1.1))])),(20,(cF [(plebk31)]))])),[],[⟨false,.normal⟩],26,false⟩,⟨56,[(plebk0 d)]⟩,[(.lop (pcOf F6 97 [0,0,0,1,1]) 21 (plebQ104 d) x36),(.blk 0),(.seq (pcOf F6 97 [1,1,1])),(plebk28 d x5 x9 x11 x12 x13 x20),(.seq (pcOf F6 58 [1,1])),(plebk15 d x5 x9 x11 x12 x13 x20),(.seq (pcOf F6 86 [1,1])),(.cal [(.tmp 6)] (.op (pcOf F6 84 [0,1,1,0,1,0,1,1]) 4 (some 19) ((opsOf (pcOf F6 84 [0,1,1,0,1,0,1,1]).c).toList.drop 4) (plebQ120 d x11 x12 x13) [] 34 true ⟨59,[(plebk0 d)]⟩)),(.seq (pcOf F6 84 [1,1,1,0,1,0,1,1])),(.blk 1),(plebk1 d x11 x12),(plebk19),(.blk 3),(plebk20),(plebk25 d x11 x306),(.blk 2),(.blk 1),(.seq (pcOf F6 107 [1,1,0,0,1])),(plebk23 d x314),(.blk 0),(plebk3 d),(.blk 0),(plebk4 d),(.blk 0),(.seq (pcOf F6 78 [1,1])),(.cal [(.cell 2 70)] .top)]⟩
noncomputable def plebQ121 (d:tQ.den) (y0:Nat) (y1:List AV) (y2:Int) (y3:Int) (y4:Int) (y5:Ty.den tG):Hp:=(hpOf 18 (plebg6 d++[(0,(cF [(.sl 7 0 y0 y0 3)])),(7,(cF y1)),(8,(plebk6 d y2 y3)),(9,(plebk6 d y2 y3)),(10,(plebk6 d y2 y3)),(12,(cF [(iI y4),(iI y2),(iI y3)])),(16,(cF (Ty.cells tG y5))),(17,(cF (Ty.cells tG y5)))]))
noncomputable def plebQ122 (d:tQ.den) (y0:Ty.den tG):Tmps:=(tmOf 12 (plebg30 y0 d++plebg4 d++[(2,(pP 17 0))]))
noncomputable def plebg31 (d:tQ.den) (x2:Ty.den tG):List (Nat×AV):=[(7,(plebk8 d)),(8,(.agg (Ty.cells tG x2))),(0,(.agg (Ty.cells tG x2)))]
noncomputable def plebI14 (d:tQ.den) (u0 u1:Int) (q:Nat) (u26:List AV) (n m:Nat) (x2:Ty.den tG) (x7:Int) (x8:Nat) (x12:List AV) (x14:Int) (x15:Int) (x23:Int) (x39:Nat) (x115:Int) (x132:Int) (x141:Int) (x142:Int) (x150:Int) (x151:Int) (x152:Int) (x162:Nat) (x417:Nat) (x425:Nat):Cfg:=⟨.ex (pcOf F6 109 [0,0,1,0,1]) ⟨(plebQ42 d x2 x7),(plebQ121 d x8 x12 x14 x15 x23 x2),[],[⟨false,.normal⟩],19,false⟩,⟨51,[(plebk0 d)]⟩,[(.lop (pcOf F6 109 [0,0,1,0,1]) 18 (plebQ44 d x2) x39),(.blk 0),(.seq (pcOf F6 109 [1,1])),(plebk32 d x2),(.seq (pcOf F6 88 [1,1])),(.cal [(.tmp 4)] (.dr ⟨(pcOf F6 87 [0,1]),opsD (pcOf F6 87 [0,1]).c,18,(opsD (pcOf F6 87 [0,1]).c).toList.drop 7,(fsD (pcOf F6 87 [0,1]).c).drop 7,6,[((plebQ121 d x8 x12 x14 x15 x23 x2),0,none)],[((opsD (pcOf F6 87 [0,1]).c).getD 4 default,4,0,(plebQ122 d x2),(tmOf 12 (plebg31 d x2++plebg4 d++[(2,(pP 17 0))]))),((opsD (pcOf F6 87 [0,1]).c).getD 3 default,3,7,(tmOf 12 (plebg4 d++[(0,(.agg (Ty.cells tG x2))),(2,(pP 17 0))])),(plebQ122 d x2)),((opsD (pcOf F6 87 [0,1]).c).getD 0 default,0,0,(tmOf 12 (plebg12 x2++[(2,(pP 17 0))])),(tmOf 12 (plebg12 x2++[(2,(pP 17 0)),(4,(.cp (Ty.cells tQ (d)) 0))])))],false⟩ ((opsD (pcOf F6 87 [0,1]).c).getD 6 default) ((fsD (pcOf F6 87 [0,1]).c).getD 6 default) (tmOf 12 (plebg31 d x2++plebg4 d++[(2,(pP 17 0)),(9,(.fn 89 [(.agg (Ty.cells tG x2))] []))])) [] 12 false ⟨53,[(plebk0 d)]⟩)),(.seq (pcOf F6 87 [1,1])),(.cal [(.tmp 3)] (.op (pcOf F6 108 [0,1,1,1]) 3 (some 20) ((opsOf (pcOf F6 108 [0,1,1,1]).c).toList.drop 3) (tmOf 21 (plebg23 x23 x115 x2++plebg9 d x2++[(1,(pP 12 0)),(2,(pP 11 0)),(3,(pP 13 0)),(6,(pP 16 0)),(9,(pP 12 0)),(12,(.agg [(iI x23),(iI x14),(iI x15)]))])) [] 21 false ⟨54,[(plebk0 d)]⟩)),(.seq (pcOf F6 108 [1,1,1,1])),(.cal [(.tmp 5)] (.op (pcOf F6 98 [0,1]) 5 (some 9) ((opsOf (pcOf F6 98 [0,1]).c).toList.drop 5) (tmOf 10 [(0,(iI x132)),(1,(pP 15 0)),(2,(pP 14 0)),(4,(.bool false)),(5,(plebk22)),(6,(iI (d.2.1.2.1.1))),(7,(iI x132)),(8,(iI x23))]) [] 10 false ⟨55,[(plebk0 d)]⟩)),(.seq (pcOf F6 98 [1,1])),(.cal [(.tmp 4)] (.op (pcOf F6 97 [0,1,0,1,0,0,0,1,1]) 3 (some 20) ((opsOf (pcOf F6 97 [0,1,0,1,0,0,0,1,1]).c).toList.drop 3) (tmOf 26 (plebg17 d++[(1,(.fn 98 [] [(pP 15 0),(pP 14 0)])),(5,(iI x141)),(6,(iI x142)),(7,(iI x132)),(9,(iI x141)),(10,(iI x142)),(11,(.bool true)),(12,(iI x141)),(13,(iI x142)),(14,(iI x150)),(15,(.int .u64 x151)),(16,(.int .u64 x152)),(17,(iI x132)),(18,(.fn 98 [] [(pP 15 0),(pP 14 0)])),(19,(iI x132))])) [] 26 false ⟨56,[(plebk0 d)]⟩)),(plebk34),(.blk 1),(.lop (pcOf F6 97 [0,0,0,1,1]) 16 (plebQ87 d) x162),(.blk 0),(.seq (pcOf F6 97 [1,1,1])),(plebk24 d x8 x12 x14 x15),(.seq (pcOf F6 58 [1,1])),(plebk12 d x8 x12 x14 x15),(.seq (pcOf F6 86 [1,1])),(plebk39 d x14 x15),(.seq (pcOf F6 84 [1,1,0,1,0,1,1])),(.blk 1),(plebk1 d x14 x15),(plebk19),(.blk 3),(plebk20),(plebk25 d x14 x417),(.blk 2),(.blk 1),(.seq (pcOf F6 107 [1,1,0,0,1])),(plebk23 d x425),(.blk 0),(plebk3 d),(.blk 0),(plebk4 d),(.blk 0),(.seq (pcOf F6 78 [1,1])),(.cal [(.cell 2 70)] .top)]⟩
noncomputable def plebQ123 (d:tQ.den) (y0:Nat) (y1:List AV) (y2:Int) (y3:Int) (y4:Int) (y5:Int) (y6:Int) (y7:Ty.den tG):Hp:=(hpOf 23 (plebg18 d y2 y3 y0 y1 y4 y5++plebg6 d++[(17,(cF [(iI y6),(iI y2),(iI y3)])),(19,(cF [(iI (d.2.1.2.1.1))])),(20,(cF [(plebk31)])),(21,(cF (Ty.cells tG y7))),(22,(cF (Ty.cells tG y7)))]))
noncomputable def plebQ124 (d:tQ.den) (y0:Ty.den tG):Tmps:=(tmOf 11 (plebg30 y0 d++plebg4 d++[(2,(pP 22 0))]))
noncomputable def plebI15 (d:tQ.den) (u0 u1:Int) (q:Nat) (u26:List AV) (n m:Nat) (x2:Ty.den tG) (x7:Int) (x8:Nat) (x12:List AV) (x14:Int) (x15:Int) (x16:Int) (x23:Int) (x28:Int) (x44:Nat) (x125:Int) (x142:Int) (x151:Int) (x152:Int) (x160:Int) (x161:Int) (x162:Int) (x172:Nat) (x442:Nat) (x450:Nat):Cfg:=⟨.ex (pcOf F6 109 [0,0,1,0,1]) ⟨(plebQ64 d x2 x7),(plebQ123 d x8 x12 x14 x15 x16 x23 x28 x2),[],[⟨false,.normal⟩],19,false⟩,⟨51,[(plebk0 d)]⟩,[(.lop (pcOf F6 109 [0,0,1,0,1]) 23 (plebQ66 d x2) x44),(.blk 0),(.seq (pcOf F6 109 [1,1])),(plebk33 d x2),(.seq (pcOf F6 88 [1,1])),(.cal [(.tmp 4)] (.dr ⟨(pcOf F6 90 [0,1]),opsD (pcOf F6 90 [0,1]).c,23,(opsD (pcOf F6 90 [0,1]).c).toList.drop 7,(fsD (pcOf F6 90 [0,1]).c).drop 7,6,[((plebQ123 d x8 x12 x14 x15 x16 x23 x28 x2),0,none)],[((opsD (pcOf F6 90 [0,1]).c).getD 4 default,4,0,(plebQ124 d x2),(tmOf 11 (plebg31 d x2++plebg4 d++[(2,(pP 22 0))]))),((opsD (pcOf F6 90 [0,1]).c).getD 3 default,3,7,(tmOf 11 (plebg4 d++[(0,(.agg (Ty.cells tG x2))),(2,(pP 22 0))])),(plebQ124 d x2)),((opsD (pcOf F6 90 [0,1]).c).getD 0 default,0,0,(tmOf 11 (plebg12 x2++[(2,(pP 22 0))])),(tmOf 11 (plebg12 x2++[(2,(pP 22 0)),(4,(.cp (Ty.cells tQ (d)) 0))])))],false⟩ ((opsD (pcOf F6 90 [0,1]).c).getD 6 default) ((fsD (pcOf F6 90 [0,1]).c).getD 6 default) (tmOf 11 (plebg31 d x2++plebg4 d++[(2,(pP 22 0)),(9,(.fn 91 [(.agg (Ty.cells tG x2))] []))])) [] 11 false ⟨53,[(plebk0 d)]⟩)),(.seq (pcOf F6 90 [1,1])),(.cal [(.tmp 3)] (.op (pcOf F6 108 [0,1,1,1]) 3 (some 20) ((opsOf (pcOf F6 108 [0,1,1,1]).c).toList.drop 3) (tmOf 21 (plebg22 x28 x125 x2++plebg9 d x2++[(1,(pP 17 0)),(2,(pP 16 0)),(3,(pP 18 0)),(6,(pP 21 0)),(9,(pP 17 0)),(12,(.agg [(iI x28),(iI x14),(iI x15)]))])) [] 21 false ⟨54,[(plebk0 d)]⟩)),(.seq (pcOf F6 108 [1,1,1,1])),(.cal [(.tmp 5)] (.op (pcOf F6 98 [0,1]) 5 (some 9) ((opsOf (pcOf F6 98 [0,1]).c).toList.drop 5) (tmOf 10 [(0,(iI x142)),(1,(pP 20 0)),(2,(pP 19 0)),(4,(.bool false)),(5,(plebk31)),(6,(iI (d.2.1.2.1.1))),(7,(iI x142)),(8,(iI x28))]) [] 10 false ⟨55,[(plebk0 d)]⟩)),(.seq (pcOf F6 98 [1,1])),(.cal [(.tmp 4)] (.op (pcOf F6 97 [0,1,0,1,0,0,0,1,1]) 3 (some 20) ((opsOf (pcOf F6 97 [0,1,0,1,0,0,0,1,1]).c).toList.drop 3) (tmOf 26 (plebg17 d++[(1,(.fn 98 [] [(pP 20 0),(pP 19 0)])),(5,(iI x151)),(6,(iI x152)),(7,(iI x142)),(9,(iI x151)),(10,(iI x152)),(11,(.bool true)),(12,(iI x151)),(13,(iI x152)),(14,(iI x160)),(15,(.int .u64 x161)),(16,(.int .u64 x162)),(17,(iI x142)),(18,(.fn 98 [] [(pP 20 0),(pP 19 0)])),(19,(iI x142))])) [] 26 false ⟨56,[(plebk0 d)]⟩)),(plebk34),(.blk 1),(.lop (pcOf F6 97 [0,0,0,1,1]) 21 (plebQ104 d) x172),(.blk 0),(.seq (pcOf F6 97 [1,1,1])),(plebk28 d x8 x12 x14 x15 x16 x23),(.seq (pcOf F6 58 [1,1])),(plebk15 d x8 x12 x14 x15 x16 x23),(.seq (pcOf F6 86 [1,1])),(.cal [(.tmp 6)] (.op (pcOf F6 84 [0,1,1,0,1,0,1,1]) 4 (some 19) ((opsOf (pcOf F6 84 [0,1,1,0,1,0,1,1]).c).toList.drop 4) (plebQ120 d x14 x15 x16) [] 34 true ⟨59,[(plebk0 d)]⟩)),(.seq (pcOf F6 84 [1,1,1,0,1,0,1,1])),(.blk 1),(plebk1 d x14 x15),(plebk19),(.blk 3),(plebk20),(plebk25 d x14 x442),(.blk 2),(.blk 1),(.seq (pcOf F6 107 [1,1,0,0,1])),(plebk23 d x450),(.blk 0),(plebk3 d),(.blk 0),(plebk4 d),(.blk 0),(.seq (pcOf F6 78 [1,1])),(.cal [(.cell 2 70)] .top)]⟩
theorem pleb_start (d:tQ.den) (u0 u1:Int) (q:Nat) (u26:List AV) (n m:Nat):adv F6 ((Z6 [107,97,109]).flat [1000]) 3000 (pleJ d u0 u1 q u26 (n+1) (m+1))=(bif ile u1 d.2.1.2.2.2.1.2.1 then (bif ieq d.2.1.2.1.1 d.2.1.2.1.1 then (bif ieq u0 u0 then (bif ieq u1 u1 then (bif ieq d.2.1.2.1.1 d.2.1.2.1.1 then (bif ieq u0 u0 then (bif ieq u1 u1 then (bif ieq d.2.1.2.1.1 d.2.1.2.1.1 then (bif ieq u0 u0 then (bif ieq u1 u1 then some (.stop (plebI1 d u0 u1 q u26 n m (0) (wr .i64 (wr .i64 (d.2.1.2.1.2.1-d.2.1.2.1.1)+1)) (q) (u26) (u1) (d.2.1.2.1.1) (1048575) (n+1) (m+1))) else none) else none) else none) else none) else none) else none) else none) else none) else none) else (bif plO (AO.cells false u26) then some (.stop (plebI0 d u0 u1 q u26 n m (wr .i64 (u0+1)) (q) (u26) (m))) else none)):=by kernel_rfl
theorem pleb_step0 (d:tQ.den) (u0 u1:Int) (q:Nat) (u26:List AV) (n m:Nat) (x0:Int) (x7:Nat) (x11:List AV) (x22:Nat):adv F6 ((Z6 [107,97,109]).flat [1000]) 3000 (plebI0 d u0 u1 q u26 n m x0 x7 x11 (x22+1))=(bif ile x0 d.2.1.2.2.1.2.1 then some (.stop (plebI2 d u0 u1 q u26 n m (x0) (d.2.1.2.2.2.1.1) (x7) (x11) (1048575) (x22+1))) else (bif plainL x11 then some (.done (.csl (x11) (x7))) else none)):=by kernel_rfl
theorem pleb_step1 (d:tQ.den) (u0 u1:Int) (q:Nat) (u26:List AV) (n m:Nat) (x2:Int) (x3:Int) (x5:Nat) (x9:List AV) (x12:Int) (x20:Int) (x31:Nat) (x286:Nat) (x294:Nat):adv F6 ((Z6 [107,97,109]).flat [1000]) 3000 (plebI1 d u0 u1 q u26 n m x2 x3 x5 x9 x12 x20 (x31+1) (x286+1) (x294+1))=(bif !ile x3 x2 then (bif d.1.1.2.length.ble 30 then (bif avbeq (AV.cp (tQ.cells d) 0) (AV.cp (tQ.cells d) 0) then (bif ieq (wr .i64 (d.2.1.2.1.1+wr .i64 ((wr IntKind.u64 (wr .i64 (x2+x3))).fdiv (2 ^ min (Int.toNat 1) IntKind.u64.bits)))) (wr .i64 (d.2.1.2.1.1+wr .i64 ((wr IntKind.u64 (wr .i64 (x2+x3))).fdiv (2 ^ min (Int.toNat 1) IntKind.u64.bits)))) then (bif ieq u0 u0 then (bif ieq x12 x12 then (bif ieq (wr .i64 (d.2.1.2.1.1+wr .i64 ((wr IntKind.u64 (wr .i64 (x2+x3))).fdiv (2 ^ min (Int.toNat 1) IntKind.u64.bits)))) (wr .i64 (d.2.1.2.1.1+wr .i64 ((wr IntKind.u64 (wr .i64 (x2+x3))).fdiv (2 ^ min (Int.toNat 1) IntKind.u64.bits)))) then (bif ieq u0 u0 then (bif ieq x12 x12 then (bif avbeq (AV.cp (tQ.cells d) 0) (AV.cp (tQ.cells d) 0) then (bif avbeq (AV.cp (tQ.cells d) 0) (AV.cp (tQ.cells d) 0) then some (.stop (plebI4 d u0 u1 q u26 n m (mrnA d (wr .i64 (d.2.1.2.1.1+wr .i64 ((wr IntKind.u64 (wr .i64 (x2+x3))).fdiv (2 ^ min (Int.toNat 1) IntKind.u64.bits))),u0,x12,()) ↑d.1.1.2.length) (0) (x5) (x9) (x12) (wr .i64 (d.2.1.2.1.1+wr .i64 ((wr IntKind.u64 (wr .i64 (x2+x3))).fdiv (2 ^ min (Int.toNat 1) IntKind.u64.bits)))) (1048575) (shtA d (wr .i64 (d.2.1.2.1.1+wr .i64 ((wr IntKind.u64 (wr .i64 (x2+x3))).fdiv (2 ^ min (Int.toNat 1) IntKind.u64.bits))),u0,x12,()) ↑d.1.1.2.length) (wr .i64 ((wr IntKind.u64 (wr .i64 (x2+x3))).fdiv (2 ^ min (Int.toNat 1) IntKind.u64.bits))) (x2) (x3) (wr .i64 (x2+x3)) (wr IntKind.u64 (wr .i64 (x2+x3))) ((wr IntKind.u64 (wr .i64 (x2+x3))).fdiv (2 ^ min (Int.toNat 1) IntKind.u64.bits)) (x31+1) (x286+1) (x294+1))) else none) else none) else none) else none) else none) else none) else none) else none) else none) else none) else (bif ieq d.2.1.2.1.1 d.2.1.2.1.1 then (bif ieq d.2.1.2.1.1 d.2.1.2.1.1 then (bif ieq d.2.1.2.1.1 d.2.1.2.1.1 then (bif avbeq (AV.cp (tQ.cells d) 0) (AV.cp (tQ.cells d) 0) then (bif avbeq (AV.cp (tQ.cells d) 0) (AV.cp (tQ.cells d) 0) then some (.stop (plebI3 d u0 u1 q u26 n m (0) (wr .i64 (wr .i64 (d.2.1.2.1.2.1-d.2.1.2.1.1)+1)) (x5) (x9) (x12) (wr .i64 (d.2.1.2.1.1+x2)) (x20) (d.2.1.2.1.1) (1048575) (x286+1) (x294+1))) else none) else none) else none) else none) else none)):=by kernel_rfl
theorem pleb_step2 (d:tQ.den) (u0 u1:Int) (q:Nat) (u26:List AV) (n m:Nat) (x0:Int) (x1:Int) (x22:Nat) (x26:List AV) (x52:Nat) (x60:Nat):adv F6 ((Z6 [107,97,109]).flat [1000]) 3000 (plebI2 d u0 u1 q u26 n m x0 x1 x22 x26 (x52+1) (x60+1))=(bif ile x1 d.2.1.2.2.2.1.2.1 then (bif ieq d.2.1.2.1.1 d.2.1.2.1.1 then (bif ieq x0 x0 then (bif ieq x1 x1 then (bif ieq d.2.1.2.1.1 d.2.1.2.1.1 then (bif ieq x0 x0 then (bif ieq x1 x1 then (bif ieq d.2.1.2.1.1 d.2.1.2.1.1 then (bif ieq x0 x0 then (bif ieq x1 x1 then some (.stop (plebI5 d u0 u1 q u26 n m (0) (wr .i64 (wr .i64 (d.2.1.2.1.2.1-d.2.1.2.1.1)+1)) (x22) (x26) (x0) (x1) (d.2.1.2.1.1) (1048575) (x52+1) (x60+1))) else none) else none) else none) else none) else none) else none) else none) else none) else none) else (bif plO (AO.cells false x26) then some (.stop (plebI0 d u0 u1 q u26 n m (wr .i64 (x0+1)) (x22) (x26) (x60))) else none)):=by kernel_rfl
theorem pleb_step3 (d:tQ.den) (u0 u1:Int) (q:Nat) (u26:List AV) (n m:Nat) (x2:Int) (x3:Int) (x5:Nat) (x9:List AV) (x12:Int) (x13:Int) (x20:Int) (x25:Int) (x36:Nat) (x306:Nat) (x314:Nat):adv F6 ((Z6 [107,97,109]).flat [1000]) 3000 (plebI3 d u0 u1 q u26 n m x2 x3 x5 x9 x12 x13 x20 x25 (x36+1) (x306+1) (x314+1))=(bif !ile x3 x2 then (bif d.1.1.2.length.ble 30 then (bif avbeq (AV.cp (tQ.cells d) 0) (AV.cp (tQ.cells d) 0) then (bif ieq (wr .i64 (d.2.1.2.1.1+wr .i64 ((wr IntKind.u64 (wr .i64 (x2+x3))).fdiv (2 ^ min (Int.toNat 1) IntKind.u64.bits)))) (wr .i64 (d.2.1.2.1.1+wr .i64 ((wr IntKind.u64 (wr .i64 (x2+x3))).fdiv (2 ^ min (Int.toNat 1) IntKind.u64.bits)))) then (bif ieq u0 u0 then (bif ieq x12 x12 then (bif ieq (wr .i64 (d.2.1.2.1.1+wr .i64 ((wr IntKind.u64 (wr .i64 (x2+x3))).fdiv (2 ^ min (Int.toNat 1) IntKind.u64.bits)))) (wr .i64 (d.2.1.2.1.1+wr .i64 ((wr IntKind.u64 (wr .i64 (x2+x3))).fdiv (2 ^ min (Int.toNat 1) IntKind.u64.bits)))) then (bif ieq u0 u0 then (bif ieq x12 x12 then (bif avbeq (AV.cp (tQ.cells d) 0) (AV.cp (tQ.cells d) 0) then (bif avbeq (AV.cp (tQ.cells d) 0) (AV.cp (tQ.cells d) 0) then some (.stop (plebI7 d u0 u1 q u26 n m (mrnA d (wr .i64 (d.2.1.2.1.1+wr .i64 ((wr IntKind.u64 (wr .i64 (x2+x3))).fdiv (2 ^ min (Int.toNat 1) IntKind.u64.bits))),u0,x12,()) ↑d.1.1.2.length) (0) (x5) (x9) (x12) (x13) (x20) (wr .i64 (d.2.1.2.1.1+wr .i64 ((wr IntKind.u64 (wr .i64 (x2+x3))).fdiv (2 ^ min (Int.toNat 1) IntKind.u64.bits)))) (1048575) (shtA d (wr .i64 (d.2.1.2.1.1+wr .i64 ((wr IntKind.u64 (wr .i64 (x2+x3))).fdiv (2 ^ min (Int.toNat 1) IntKind.u64.bits))),u0,x12,()) ↑d.1.1.2.length) (wr .i64 ((wr IntKind.u64 (wr .i64 (x2+x3))).fdiv (2 ^ min (Int.toNat 1) IntKind.u64.bits))) (x2) (x3) (wr .i64 (x2+x3)) (wr IntKind.u64 (wr .i64 (x2+x3))) ((wr IntKind.u64 (wr .i64 (x2+x3))).fdiv (2 ^ min (Int.toNat 1) IntKind.u64.bits)) (x36+1) (x306+1) (x314+1))) else none) else none) else none) else none) else none) else none) else none) else none) else none) else none) else (bif ieq d.2.1.2.1.1 d.2.1.2.1.1 then (bif ieq d.2.1.2.1.1 d.2.1.2.1.1 then (bif ieq d.2.1.2.1.1 d.2.1.2.1.1 then (bif avbeq (AV.cp (tQ.cells d) 0) (AV.cp (tQ.cells d) 0) then (bif avbeq (AV.cp (tQ.cells d) 0) (AV.cp (tQ.cells d) 0) then (bif ile x13 (wr .i64 (wr .i64 (d.2.1.2.1.1+x2)-1)) then (bif (0+x5 * 3).beq x9.length then (bif x5.ble 1048576 then (bif plO (AO.cells false (x9++[AV.int IntKind.i64 x13,AV.int IntKind.i64 u0,AV.int IntKind.i64 x12])) then some (.stop (plebI6 d u0 u1 q u26 n m (wr .i64 (x12+1)) (x5+1) (x9++[AV.int IntKind.i64 x13,AV.int IntKind.i64 u0,AV.int IntKind.i64 x12]) (x306) (x314+1))) else none) else none) else none) else (bif plO (AO.cells false x9) then some (.stop (plebI6 d u0 u1 q u26 n m (wr .i64 (x12+1)) (x5) (x9) (x306) (x314+1))) else none)) else none) else none) else none) else none) else none)):=by kernel_rfl
theorem pleb_step4 (e1:tS.den) (e2:tK.den) (e3:tF.den) (e4:Bool) (u0 u1:Int) (q:Nat) (u26:List AV) (n m:Nat) (x2:Ty.den tG) (x8:Nat) (x12:List AV) (x15:Int) (x23:Int) (x39:Nat) (x115:Int) (x132:Int) (x141:Int) (x142:Int) (x150:Int) (x151:Int) (x152:Int) (x162:Nat) (x417:Nat) (x425:Nat):adv F6 ((Z6 [107,97,109]).flat [1000]) 3000 (plebI4 (nd e1 e2 e3 e4) u0 u1 q u26 n m x2 0 x8 x12 x15 x23 (x39+1) x115 x132 x141 x142 x150 x151 x152 (x162+1) (x417+1) (x425+1))=(zR x2 (bif avbeq (AV.cp (tQ.cells (nd e1 e2 e3 e4)) 0) (AV.cp (tQ.cells (nd e1 e2 e3 e4)) 0) then (bif plO (AO.cells false x12) then some (.stop (plebI1 (nd e1 e2 e3 e4) u0 u1 q u26 n m (x141) (x132) (x8) (x12) (x15) (x23) (x162) (x417+1) (x425+1))) else none) else none)):=by kernel_rfl
theorem pleb_step5 (d:tQ.den) (u0 u1:Int) (q:Nat) (u26:List AV) (n m:Nat) (x2:Int) (x3:Int) (x5:Nat) (x9:List AV) (x11:Int) (x12:Int) (x20:Int) (x31:Nat) (x286:Nat) (x294:Nat):adv F6 ((Z6 [107,97,109]).flat [1000]) 3000 (plebI5 d u0 u1 q u26 n m x2 x3 x5 x9 x11 x12 x20 (x31+1) (x286+1) (x294+1))=(bif !ile x3 x2 then (bif d.1.1.2.length.ble 30 then (bif avbeq (AV.cp (tQ.cells d) 0) (AV.cp (tQ.cells d) 0) then (bif ieq (wr .i64 (d.2.1.2.1.1+wr .i64 ((wr IntKind.u64 (wr .i64 (x2+x3))).fdiv (2 ^ min (Int.toNat 1) IntKind.u64.bits)))) (wr .i64 (d.2.1.2.1.1+wr .i64 ((wr IntKind.u64 (wr .i64 (x2+x3))).fdiv (2 ^ min (Int.toNat 1) IntKind.u64.bits)))) then (bif ieq x11 x11 then (bif ieq x12 x12 then (bif ieq (wr .i64 (d.2.1.2.1.1+wr .i64 ((wr IntKind.u64 (wr .i64 (x2+x3))).fdiv (2 ^ min (Int.toNat 1) IntKind.u64.bits)))) (wr .i64 (d.2.1.2.1.1+wr .i64 ((wr IntKind.u64 (wr .i64 (x2+x3))).fdiv (2 ^ min (Int.toNat 1) IntKind.u64.bits)))) then (bif ieq x11 x11 then (bif ieq x12 x12 then (bif avbeq (AV.cp (tQ.cells d) 0) (AV.cp (tQ.cells d) 0) then (bif avbeq (AV.cp (tQ.cells d) 0) (AV.cp (tQ.cells d) 0) then some (.stop (plebI9 d u0 u1 q u26 n m (mrnA d (wr .i64 (d.2.1.2.1.1+wr .i64 ((wr IntKind.u64 (wr .i64 (x2+x3))).fdiv (2 ^ min (Int.toNat 1) IntKind.u64.bits))),x11,x12,()) ↑d.1.1.2.length) (0) (x5) (x9) (x11) (x12) (wr .i64 (d.2.1.2.1.1+wr .i64 ((wr IntKind.u64 (wr .i64 (x2+x3))).fdiv (2 ^ min (Int.toNat 1) IntKind.u64.bits)))) (1048575) (shtA d (wr .i64 (d.2.1.2.1.1+wr .i64 ((wr IntKind.u64 (wr .i64 (x2+x3))).fdiv (2 ^ min (Int.toNat 1) IntKind.u64.bits))),x11,x12,()) ↑d.1.1.2.length) (wr .i64 ((wr IntKind.u64 (wr .i64 (x2+x3))).fdiv (2 ^ min (Int.toNat 1) IntKind.u64.bits))) (x2) (x3) (wr .i64 (x2+x3)) (wr IntKind.u64 (wr .i64 (x2+x3))) ((wr IntKind.u64 (wr .i64 (x2+x3))).fdiv (2 ^ min (Int.toNat 1) IntKind.u64.bits)) (x31+1) (x286+1) (x294+1))) else none) else none) else none) else none) else none) else none) else none) else none) else none) else none) else (bif ieq d.2.1.2.1.1 d.2.1.2.1.1 then (bif ieq d.2.1.2.1.1 d.2.1.2.1.1 then (bif ieq d.2.1.2.1.1 d.2.1.2.1.1 then (bif avbeq (AV.cp (tQ.cells d) 0) (AV.cp (tQ.cells d) 0) then (bif avbeq (AV.cp (tQ.cells d) 0) (AV.cp (tQ.cells d) 0) then some (.stop (plebI8 d u0 u1 q u26 n m (0) (wr .i64 (wr .i64 (d.2.1.2.1.2.1-d.2.1.2.1.1)+1)) (x5) (x9) (x11) (x12) (wr .i64 (d.2.1.2.1.1+x2)) (x20) (d.2.1.2.1.1) (1048575) (x286+1) (x294+1))) else none) else none) else none) else none) else none)):=by kernel_rfl
theorem pleb_step6 (d:tQ.den) (u0 u1:Int) (q:Nat) (u26:List AV) (n m:Nat) (x1:Int) (x22:Nat) (x26:List AV) (x52:Nat) (x60:Nat):adv F6 ((Z6 [107,97,109]).flat [1000]) 3000 (plebI6 d u0 u1 q u26 n m x1 x22 x26 (x52+1) (x60+1))=(bif ile x1 d.2.1.2.2.2.1.2.1 then (bif ieq d.2.1.2.1.1 d.2.1.2.1.1 then (bif ieq u0 u0 then (bif ieq x1 x1 then (bif ieq d.2.1.2.1.1 d.2.1.2.1.1 then (bif ieq u0 u0 then (bif ieq x1 x1 then (bif ieq d.2.1.2.1.1 d.2.1.2.1.1 then (bif ieq u0 u0 then (bif ieq x1 x1 then some (.stop (plebI1 d u0 u1 q u26 n m (0) (wr .i64 (wr .i64 (d.2.1.2.1.2.1-d.2.1.2.1.1)+1)) (x22) (x26) (x1) (d.2.1.2.1.1) (1048575) (x52+1) (x60+1))) else none) else none) else none) else none) else none) else none) else none) else none) else none) else (bif plO (AO.cells false x26) then some (.stop (plebI0 d u0 u1 q u26 n m (wr .i64 (u0+1)) (x22) (x26) (x60))) else none)):=by kernel_rfl
theorem pleb_step7 (e1:tS.den) (e2:tK.den) (e3:tF.den) (e4:Bool) (u0 u1:Int) (q:Nat) (u26:List AV) (n m:Nat) (x2:Ty.den tG) (x8:Nat) (x12:List AV) (x15:Int) (x16:Int) (x23:Int) (x28:Int) (x44:Nat) (x125:Int) (x142:Int) (x151:Int) (x152:Int) (x160:Int) (x161:Int) (x162:Int) (x172:Nat) (x442:Nat) (x450:Nat):adv F6 ((Z6 [107,97,109]).flat [1000]) 3000 (plebI7 (nd e1 e2 e3 e4) u0 u1 q u26 n m x2 0 x8 x12 x15 x16 x23 x28 (x44+1) x125 x142 x151 x152 x160 x161 x162 (x172+1) (x442+1) (x450+1))=(zR x2 (bif avbeq (AV.cp (tQ.cells (nd e1 e2 e3 e4)) 0) (AV.cp (tQ.cells (nd e1 e2 e3 e4)) 0) then (bif plO (AO.cells false x12) then some (.stop (plebI3 (nd e1 e2 e3 e4) u0 u1 q u26 n m (wr .i64 (x142+1)) (x152) (x8) (x12) (x15) (x16) (x23) (x28) (x172) (x442+1) (x450+1))) else none) else none)):=by kernel_rfl
theorem pleb_step8 (d:tQ.den) (u0 u1:Int) (q:Nat) (u26:List AV) (n m:Nat) (x2:Int) (x3:Int) (x5:Nat) (x9:List AV) (x11:Int) (x12:Int) (x13:Int) (x20:Int) (x25:Int) (x36:Nat) (x306:Nat) (x314:Nat):adv F6 ((Z6 [107,97,109]).flat [1000]) 3000 (plebI8 d u0 u1 q u26 n m x2 x3 x5 x9 x11 x12 x13 x20 x25 (x36+1) (x306+1) (x314+1))=(bif !ile x3 x2 then (bif d.1.1.2.length.ble 30 then (bif avbeq (AV.cp (tQ.cells d) 0) (AV.cp (tQ.cells d) 0) then (bif ieq (wr .i64 (d.2.1.2.1.1+wr .i64 ((wr IntKind.u64 (wr .i64 (x2+x3))).fdiv (2 ^ min (Int.toNat 1) IntKind.u64.bits)))) (wr .i64 (d.2.1.2.1.1+wr .i64 ((wr IntKind.u64 (wr .i64 (x2+x3))).fdiv (2 ^ min (Int.toNat 1) IntKind.u64.bits)))) then (bif ieq x11 x11 then (bif ieq x12 x12 then (bif ieq (wr .i64 (d.2.1.2.1.1+wr .i64 ((wr IntKind.u64 (wr .i64 (x2+x3))).fdiv (2 ^ min (Int.toNat 1) IntKind.u64.bits)))) (wr .i64 (d.2.1.2.1.1+wr .i64 ((wr IntKind.u64 (wr .i64 (x2+x3))).fdiv (2 ^ min (Int.toNat 1) IntKind.u64.bits)))) then (bif ieq x11 x11 then (bif ieq x12 x12 then (bif avbeq (AV.cp (tQ.cells d) 0) (AV.cp (tQ.cells d) 0) then (bif avbeq (AV.cp (tQ.cells d) 0) (AV.cp (tQ.cells d) 0) then some (.stop (plebI11 d u0 u1 q u26 n m (mrnA d (wr .i64 (d.2.1.2.1.1+wr .i64 ((wr IntKind.u64 (wr .i64 (x2+x3))).fdiv (2 ^ min (Int.toNat 1) IntKind.u64.bits))),x11,x12,()) ↑d.1.1.2.length) (0) (x5) (x9) (x11) (x12) (x13) (x20) (wr .i64 (d.2.1.2.1.1+wr .i64 ((wr IntKind.u64 (wr .i64 (x2+x3))).fdiv (2 ^ min (Int.toNat 1) IntKind.u64.bits)))) (1048575) (shtA d (wr .i64 (d.2.1.2.1.1+wr .i64 ((wr IntKind.u64 (wr .i64 (x2+x3))).fdiv (2 ^ min (Int.toNat 1) IntKind.u64.bits))),x11,x12,()) ↑d.1.1.2.length) (wr .i64 ((wr IntKind.u64 (wr .i64 (x2+x3))).fdiv (2 ^ min (Int.toNat 1) IntKind.u64.bits))) (x2) (x3) (wr .i64 (x2+x3)) (wr IntKind.u64 (wr .i64 (x2+x3))) ((wr IntKind.u64 (wr .i64 (x2+x3))).fdiv (2 ^ min (Int.toNat 1) IntKind.u64.bits)) (x36+1) (x306+1) (x314+1))) else none) else none) else none) else none) else none) else none) else none) else none) else none) else none) else (bif ieq d.2.1.2.1.1 d.2.1.2.1.1 then (bif ieq d.2.1.2.1.1 d.2.1.2.1.1 then (bif ieq d.2.1.2.1.1 d.2.1.2.1.1 then (bif avbeq (AV.cp (tQ.cells d) 0) (AV.cp (tQ.cells d) 0) then (bif avbeq (AV.cp (tQ.cells d) 0) (AV.cp (tQ.cells d) 0) then (bif ile x13 (wr .i64 (wr .i64 (d.2.1.2.1.1+x2)-1)) then (bif (0+x5 * 3).beq x9.length then (bif x5.ble 1048576 then (bif plO (AO.cells false (x9++[AV.int IntKind.i64 x13,AV.int IntKind.i64 x11,AV.int IntKind.i64 x12])) then some (.stop (plebI10 d u0 u1 q u26 n m (x11) (wr .i64 (x12+1)) (x5+1) (x9++[AV.int IntKind.i64 x13,AV.int IntKind.i64 x11,AV.int IntKind.i64 x12]) (x306) (x314+1))) else none) else none) else none) else (bif plO (AO.cells false x9) then some (.stop (plebI2 d u0 u1 q u26 n m (x11) (wr .i64 (x12+1)) (x5) (x9) (x306) (x314+1))) else none)) else none) else none) else none) else none) else none)):=by kernel_rfl
theorem pleb_step9 (e1:tS.den) (e2:tK.den) (e3:tF.den) (e4:Bool) (u0 u1:Int) (q:Nat) (u26:List AV) (n m:Nat) (x2:Ty.den tG) (x8:Nat) (x12:List AV) (x14:Int) (x15:Int) (x23:Int) (x39:Nat) (x115:Int) (x132:Int) (x141:Int) (x142:Int) (x150:Int) (x151:Int) (x152:Int) (x162:Nat) (x417:Nat) (x425:Nat):adv F6 ((Z6 [107,97,109]).flat [1000]) 3000 (plebI9 (nd e1 e2 e3 e4) u0 u1 q u26 n m x2 0 x8 x12 x14 x15 x23 (x39+1) x115 x132 x141 x142 x150 x151 x152 (x162+1) (x417+1) (x425+1))=(zR x2 (bif avbeq (AV.cp (tQ.cells (nd e1 e2 e3 e4)) 0) (AV.cp (tQ.cells (nd e1 e2 e3 e4)) 0) then (bif plO (AO.cells false x12) then some (.stop (plebI5 (nd e1 e2 e3 e4) u0 u1 q u26 n m (x141) (x132) (x8) (x12) (x14) (x15) (x23) (x162) (x417+1) (x425+1))) else none) else none)):=by kernel_rfl
theorem pleb_step10 (d:tQ.den) (u0 u1:Int) (q:Nat) (u26:List AV) (n m:Nat) (x0:Int) (x1:Int) (x22:Nat) (x26:List AV) (x52:Nat) (x60:Nat):adv F6 ((Z6 [107,97,109]).flat [1000]) 3000 (plebI10 d u0 u1 q u26 n m x0 x1 x22 x26 (x52+1) (x60+1))=(bif ile x1 d.2.1.2.2.2.1.2.1 then (bif ieq d.2.1.2.1.1 d.2.1.2.1.1 then (bif ieq x0 x0 then (bif ieq x1 x1 then (bif ieq d.2.1.2.1.1 d.2.1.2.1.1 then (bif ieq x0 x0 then (bif ieq x1 x1 then (bif ieq d.2.1.2.1.1 d.2.1.2.1.1 then (bif ieq x0 x0 then (bif ieq x1 x1 then some (.stop (plebI12 d u0 u1 q u26 n m (0) (wr .i64 (wr .i64 (d.2.1.2.1.2.1-d.2.1.2.1.1)+1)) (x22) (x26) (x0) (x1) (d.2.1.2.1.1) (1048575) (x52+1) (x60+1))) else none) else none) else none) else none) else none) else none) else none) else none) else none) else (bif plO (AO.cells false x26) then some (.stop (plebI0 d u0 u1 q u26 n m (wr .i64 (x0+1)) (x22) (x26) (x60))) else none)):=by kernel_rfl
theorem pleb_step11 (e1:tS.den) (e2:tK.den) (e3:tF.den) (e4:Bool) (u0 u1:Int) (q:Nat) (u26:List AV) (n m:Nat) (x2:Ty.den tG) (x8:Nat) (x12:List AV) (x14:Int) (x15:Int) (x16:Int) (x23:Int) (x28:Int) (x44:Nat) (x125:Int) (x142:Int) (x151:Int) (x152:Int) (x160:Int) (x161:Int) (x162:Int) (x172:Nat) (x442:Nat) (x450:Nat):adv F6 ((Z6 [107,97,109]).flat [1000]) 3000 (plebI11 (nd e1 e2 e3 e4) u0 u1 q u26 n m x2 0 x8 x12 x14 x15 x16 x23 x28 (x44+1) x125 x142 x151 x152 x160 x161 x162 (x172+1) (x442+1) (x450+1))=(zR x2 (bif avbeq (AV.cp (tQ.cells (nd e1 e2 e3 e4)) 0) (AV.cp (tQ.cells (nd e1 e2 e3 e4)) 0) then (bif plO (AO.cells false x12) then some (.stop (plebI8 (nd e1 e2 e3 e4) u0 u1 q u26 n m (wr .i64 (x142+1)) (x152) (x8) (x12) (x14) (x15) (x16) (x23) (x28) (x172) (x442+1) (x450+1))) else none) else none)):=by kernel_rfl
theorem pleb_step12 (d:tQ.den) (u0 u1:Int) (q:Nat) (u26:List AV) (n m:Nat) (x2:Int) (x3:Int) (x5:Nat) (x9:List AV) (x11:Int) (x12:Int) (x20:Int) (x31:Nat) (x286:Nat) (x294:Nat):adv F6 ((Z6 [107,97,109]).flat [1000]) 3000 (plebI12 d u0 u1 q u26 n m x2 x3 x5 x9 x11 x12 x20 (x31+1) (x286+1) (x294+1))=(bif !ile x3 x2 then (bif d.1.1.2.length.ble 30 then (bif avbeq (AV.cp (tQ.cells d) 0) (AV.cp (tQ.cells d) 0) then (bif ieq (wr .i64 (d.2.1.2.1.1+wr .i64 ((wr IntKind.u64 (wr .i64 (x2+x3))).fdiv (2 ^ min (Int.toNat 1) IntKind.u64.bits)))) (wr .i64 (d.2.1.2.1.1+wr .i64 ((wr IntKind.u64 (wr .i64 (x2+x3))).fdiv (2 ^ min (Int.toNat 1) IntKind.u64.bits)))) then (bif ieq x11 x11 then (bif ieq x12 x12 then (bif ieq (wr .i64 (d.2.1.2.1.1+wr .i64 ((wr IntKind.u64 (wr .i64 (x2+x3))).fdiv (2 ^ min (Int.toNat 1) IntKind.u64.bits)))) (wr .i64 (d.2.1.2.1.1+wr .i64 ((wr IntKind.u64 (wr .i64 (x2+x3))).fdiv (2 ^ min (Int.toNat 1) IntKind.u64.bits)))) then (bif ieq x11 x11 then (bif ieq x12 x12 then (bif avbeq (AV.cp (tQ.cells d) 0) (AV.cp (tQ.cells d) 0) then (bif avbeq (AV.cp (tQ.cells d) 0) (AV.cp (tQ.cells d) 0) then some (.stop (plebI14 d u0 u1 q u26 n m (mrnA d (wr .i64 (d.2.1.2.1.1+wr .i64 ((wr IntKind.u64 (wr .i64 (x2+x3))).fdiv (2 ^ min (Int.toNat 1) IntKind.u64.bits))),x11,x12,()) ↑d.1.1.2.length) (0) (x5) (x9) (x11) (x12) (wr .i64 (d.2.1.2.1.1+wr .i64 ((wr IntKind.u64 (wr .i64 (x2+x3))).fdiv (2 ^ min (Int.toNat 1) IntKind.u64.bits)))) (1048575) (shtA d (wr .i64 (d.2.1.2.1.1+wr .i64 ((wr IntKind.u64 (wr .i64 (x2+x3))).fdiv (2 ^ min (Int.toNat 1) IntKind.u64.bits))),x11,x12,()) ↑d.1.1.2.length) (wr .i64 ((wr IntKind.u64 (wr .i64 (x2+x3))).fdiv (2 ^ min (Int.toNat 1) IntKind.u64.bits))) (x2) (x3) (wr .i64 (x2+x3)) (wr IntKind.u64 (wr .i64 (x2+x3))) ((wr IntKind.u64 (wr .i64 (x2+x3))).fdiv (2 ^ min (Int.toNat 1) IntKind.u64.bits)) (x31+1) (x286+1) (x294+1))) else none) else none) else none) else none) else none) else none) else none) else none) else none) else none) else (bif ieq d.2.1.2.1.1 d.2.1.2.1.1 then (bif ieq d.2.1.2.1.1 d.2.1.2.1.1 then (bif ieq d.2.1.2.1.1 d.2.1.2.1.1 then (bif avbeq (AV.cp (tQ.cells d) 0) (AV.cp (tQ.cells d) 0) then (bif avbeq (AV.cp (tQ.cells d) 0) (AV.cp (tQ.cells d) 0) then some (.stop (plebI13 d u0 u1 q u26 n m (0) (wr .i64 (wr .i64 (d.2.1.2.1.2.1-d.2.1.2.1.1)+1)) (x5) (x9) (x11) (x12) (wr .i64 (d.2.1.2.1.1+x2)) (x20) (d.2.1.2.1.1) (1048575) (x286+1) (x294+1))) else none) else none) else none) else none) else none)):=by kernel_rfl
theorem pleb_step13 (d:tQ.den) (u0 u1:Int) (q:Nat) (u26:List AV) (n m:Nat) (x2:Int) (x3:Int) (x5:Nat) (x9:List AV) (x11:Int) (x12:Int) (x13:Int) (x20:Int) (x25:Int) (x36:Nat) (x306:Nat) (x314:Nat):adv F6 ((Z6 [107,97,109]).flat [1000]) 3000 (plebI13 d u0 u1 q u26 n m x2 x3 x5 x9 x11 x12 x13 x20 x25 (x36+1) (x306+1) (x314+1))=(bif !ile x3 x2 then (bif d.1.1.2.length.ble 30 then (bif avbeq (AV.cp (tQ.cells d) 0) (AV.cp (tQ.cells d) 0) then (bif ieq (wr .i64 (d.2.1.2.1.1+wr .i64 ((wr IntKind.u64 (wr .i64 (x2+x3))).fdiv (2 ^ min (Int.toNat 1) IntKind.u64.bits)))) (wr .i64 (d.2.1.2.1.1+wr .i64 ((wr IntKind.u64 (wr .i64 (x2+x3))).fdiv (2 ^ min (Int.toNat 1) IntKind.u64.bits)))) then (bif ieq x11 x11 then (bif ieq x12 x12 then (bif ieq (wr .i64 (d.2.1.2.1.1+wr .i64 ((wr IntKind.u64 (wr .i64 (x2+x3))).fdiv (2 ^ min (Int.toNat 1) IntKind.u64.bits)))) (wr .i64 (d.2.1.2.1.1+wr .i64 ((wr IntKind.u64 (wr .i64 (x2+x3))).fdiv (2 ^ min (Int.toNat 1) IntKind.u64.bits)))) then (bif ieq x11 x11 then (bif ieq x12 x12 then (bif avbeq (AV.cp (tQ.cells d) 0) (AV.cp (tQ.cells d) 0) then (bif avbeq (AV.cp (tQ.cells d) 0) (AV.cp (tQ.cells d) 0) then some (.stop (plebI15 d u0 u1 q u26 n m (mrnA d (wr .i64 (d.2.1.2.1.1+wr .i64 ((wr IntKind.u64 (wr .i64 (x2+x3))).fdiv (2 ^ min (Int.toNat 1) IntKind.u64.bits))),x11,x12,()) ↑d.1.1.2.length) (0) (x5) (x9) (x11) (x12) (x13) (x20) (wr .i64 (d.2.1.2.1.1+wr .i64 ((wr IntKind.u64 (wr .i64 (x2+x3))).fdiv (2 ^ min (Int.toNat 1) IntKind.u64.bits)))) (1048575) (shtA d (wr .i64 (d.2.1.2.1.1+wr .i64 ((wr IntKind.u64 (wr .i64 (x2+x3))).fdiv (2 ^ min (Int.toNat 1) IntKind.u64.bits))),x11,x12,()) ↑d.1.1.2.length) (wr .i64 ((wr IntKind.u64 (wr .i64 (x2+x3))).fdiv (2 ^ min (Int.toNat 1) IntKind.u64.bits))) (x2) (x3) (wr .i64 (x2+x3)) (wr IntKind.u64 (wr .i64 (x2+x3))) ((wr IntKind.u64 (wr .i64 (x2+x3))).fdiv (2 ^ min (Int.toNat 1) IntKind.u64.bits)) (x36+1) (x306+1) (x314+1))) else none) else none) else none) else none) else none) else none) else none) else none) else none) else none) else (bif ieq d.2.1.2.1.1 d.2.1.2.1.1 then (bif ieq d.2.1.2.1.1 d.2.1.2.1.1 then (bif ieq d.2.1.2.1.1 d.2.1.2.1.1 then (bif avbeq (AV.cp (tQ.cells d) 0) (AV.cp (tQ.cells d) 0) then (bif avbeq (AV.cp (tQ.cells d) 0) (AV.cp (tQ.cells d) 0) then (bif ile x13 (wr .i64 (wr .i64 (d.2.1.2.1.1+x2)-1)) then (bif (0+x5 * 3).beq x9.length then (bif x5.ble 1048576 then (bif plO (AO.cells false (x9++[AV.int IntKind.i64 x13,AV.int IntKind.i64 x11,AV.int IntKind.i64 x12])) then some (.stop (plebI10 d u0 u1 q u26 n m (x11) (wr .i64 (x12+1)) (x5+1) (x9++[AV.int IntKind.i64 x13,AV.int IntKind.i64 x11,AV.int IntKind.i64 x12]) (x306) (x314+1))) else none) else none) else none) else (bif plO (AO.cells false x9) then some (.stop (plebI10 d u0 u1 q u26 n m (x11) (wr .i64 (x12+1)) (x5) (x9) (x306) (x314+1))) else none)) else none) else none) else none) else none) else none)):=by kernel_rfl
theorem pleb_step14 (e1:tS.den) (e2:tK.den) (e3:tF.den) (e4:Bool) (u0 u1:Int) (q:Nat) (u26:List AV) (n m:Nat) (x2:Ty.den tG) (x8:Nat) (x12:List AV) (x14:Int) (x15:Int) (x23:Int) (x39:Nat) (x115:Int) (x132:Int) (x141:Int) (x142:Int) (x150:Int) (x151:Int) (x152:Int) (x162:Nat) (x417:Nat) (x425:Nat):adv F6 ((Z6 [107,97,109]).flat [1000]) 3000 (plebI14 (nd e1 e2 e3 e4) u0 u1 q u26 n m x2 0 x8 x12 x14 x15 x23 (x39+1) x115 x132 x141 x142 x150 x151 x152 (x162+1) (x417+1) (x425+1))=(zR x2 (bif avbeq (AV.cp (tQ.cells (nd e1 e2 e3 e4)) 0) (AV.cp (tQ.cells (nd e1 e2 e3 e4)) 0) then (bif plO (AO.cells false x12) then some (.stop (plebI12 (nd e1 e2 e3 e4) u0 u1 q u26 n m (x141) (x132) (x8) (x12) (x14) (x15) (x23) (x162) (x417+1) (x425+1))) else none) else none)):=by kernel_rfl
theorem pleb_step15 (e1:tS.den) (e2:tK.den) (e3:tF.den) (e4:Bool) (u0 u1:Int) (q:Nat) (u26:List AV) (n m:Nat) (x2:Ty.den tG) (x8:Nat) (x12:List AV) (x14:Int) (x15:Int) (x16:Int) (x23:Int) (x28:Int) (x44:Nat) (x125:Int) (x142:Int) (x151:Int) (x152:Int) (x160:Int) (x161:Int) (x162:Int) (x172:Nat) (x442:Nat) (x450:Nat):adv F6 ((Z6 [107,97,109]).flat [1000]) 3000 (plebI15 (nd e1 e2 e3 e4) u0 u1 q u26 n m x2 0 x8 x12 x14 x15 x16 x23 x28 (x44+1) x125 x142 x151 x152 x160 x161 x162 (x172+1) (x442+1) (x450+1))=(zR x2 (bif avbeq (AV.cp (tQ.cells (nd e1 e2 e3 e4)) 0) (AV.cp (tQ.cells (nd e1 e2 e3 e4)) 0) then (bif plO (AO.cells false x12) then some (.stop (plebI13 (nd e1 e2 e3 e4) u0 u1 q u26 n m (wr .i64 (x142+1)) (x152) (x8) (x12) (x14) (x15) (x16) (x23) (x28) (x172) (x442+1) (x450+1))) else none) else none)):=by kernel_rfl
end Go.Proofs.YtelibdeanepdjaaGreat


set_option maxRecDepth 100000
namespace Go.Proofs.YtelibdeanepdjaaGreat
open Go Go.Eng
theorem avL_app:∀ (a b:List AV),avbeqL a a=true→avbeqL b b=true→avbeqL (a++b) (a++b)=true
 |[],b,_,h=>h
 |x::a,b,h1,h2=>by
  rw[List.cons_append,avbeqL]
  rw[avbeqL] at h1
  cases c:avbeq x x with
  |false=>rw[c] at h1;cases h1
  |true=>rw[c] at h1;exact avL_app a b h1 h2
theorem avL_one {x:AV} (h:avbeq x x=true):avbeqL [x] [x]=true:=by rw[avbeqL,h];rfl
theorem cells_refl:∀ (t:Ty) (d:t.den),avbeqL (t.cells d) (t.cells d)=true
 | .int k, n => avL_one (by
   show (match ikb k k with|true=>ieq n n|false=>false)=true
   rw[ieq_self];cases k<;>rfl)
 |.bool,b=>avL_one (by cases b<;>rfl)
 |.str,s=>avL_one (lbeq_self s)
 |.nil,_=>rfl
 |.cons t ts,d=>avL_app _ _ (cells_refl t d.1) (cells_refl ts d.2)
 | .sl t, d => avL_one (by
   show (match bbeq d.1 d.1 with|true=>vsB t d.2 t d.2|false=>false)=true
   rw[bbeq_self];exact vsB_self t d.2)
theorem cp_refl (d:tQ.den):avbeq (AV.cp (tQ.cells d) 0) (AV.cp (tQ.cells d) 0)=true:=by
 show (match Nat.beq 0 0 with|true=>avbeqL (tQ.cells d) (tQ.cells d)|false=>false)=true
 exact cells_refl tQ d
theorem shr1 {x:Int} (h0:0≤x) (h1:x≤20000):wr .i64 ((wr .u64 (wr .i64 x)).fdiv (2 ^ min (Int.toNat 1) IntKind.u64.bits))=x / 2:=by
 have e0:wr .i64 x=x:=wr_in (by omega) (by omega)
 have e:wr .u64 x=x:=by
  rw[wr_eq]
  show x % (2 ^ 64:Int)=x
  exact Int.emod_eq_of_lt h0 (by omega)
 rw[e0,e]
 have e2:(2:Int) ^ min (Int.toNat 1) IntKind.u64.bits=2:=by decide
 rw[e2,Int.fdiv_eq_ediv_of_nonneg _ (by omega),wr_in (by omega) (by omega)]
noncomputable abbrev noC (d:tQ.den):Prop:=d.2.2.2.1.2=[]
theorem low4 {d:tQ.den} (hc:noC d) {z:tG.den} {x11 x12 x20 x109 x126 x135 x136 x144 x145 x146:Int} {m n1 n2:Nat} {V:AV} (h:Ans F6 (pleaI2 d x135 x126 x11 x12 x20 m (n1+1) (n2+1)) V):Ans F6 (pleaI4 d z 0 x11 x12 x20 1048575 x109 x126 x135 x136 x144 x145 x146 (m+1) (n1+1) (n2+1)) V:=by
 obtain⟨e1,e2,e3,⟨e4,cs⟩,e5⟩:=d
 have hc:cs=[]:=hc
 subst hc
 have h4:=plea_step4 e1 e2 e3 e4 z x11 x12 x20 1048574 x109 x126 x135 x136 x144 x145 x146 m n1 n2
 simp only[zR_eq,cp_refl,cond_true] at h4
 exact .stop (Z6_ok _) F6sy h4 h
theorem low2 {d:tQ.den} (hc:noC d) (H30:d.1.1.2.length.ble 30=true) {man ship:Int} {n1 n2:Nat} {V:AV}
  (K:∀ x17,Ans F6 (pleaI3 d 0 (wr .i64 (wr .i64 (d.2.1.2.1.2.1-d.2.1.2.1.1)+1)) man ship (wr .i64 (d.2.1.2.1.1+0)) x17 d.2.1.2.1.1 1048575 (n1+1) (n2+1)) V) :
  ∀ (m j:Nat) (x17:Int),j<m→j≤400→Ans F6 (pleaI2 d 0 j man ship x17 m (n1+1) (n2+1)) V
 |m+1,0,x17,_,_=>by
  have h:=plea_step2 d 0 ((0:Nat):Int) man ship x17 m n1 n2
  rw[show ile ((0:Nat):Int) 0=true from rfl] at h
  simp only[ieq_self,cp_refl,Bool.not_true,cond_true,cond_false] at h
  exact .stop (Z6_ok _) F6sy h (K x17)
 | m + 1, j + 1, x17, hm, hj => by
  have h:=plea_step2 d 0 ((j+1:Nat):Int) man ship x17 m n1 n2
  have e:wr .i64 ((wr .u64 (wr .i64 (0+((j+1:Nat):Int)))).fdiv (2 ^ min (Int.toNat 1) IntKind.u64.bits))=(((j+1) / 2:Nat):Int):=by
   rw[shr1 (by omega) (by omega)];omega
  rw[ile_f (show (0:Int)<((j+1:Nat):Int) by omega),H30,e] at h
  simp only[ieq_self,cp_refl,Bool.not_false,cond_true] at h
  exact .stop (Z6_ok _) F6sy h (low4 hc (low2 hc H30 K m ((j+1) / 2) _ (by omega) (by omega)))
theorem high6 {d:tQ.den} (hc:noC d) {z:tG.den} {x11 x12 x13 x20 x25 x119 x136 x145 x146 x154 x155 x156:Int} {m n1 n2:Nat} {V:AV} (h:Ans F6 (pleaI3 d (wr .i64 (x136+1)) x146 x11 x12 x13 x20 x25 m (n1+1) (n2+1)) V):Ans F6 (pleaI6 d z 0 x11 x12 x13 x20 x25 1048575 x119 x136 x145 x146 x154 x155 x156 (m+1) (n1+1) (n2+1)) V:=by
 obtain⟨e1,e2,e3,⟨e4,cs⟩,e5⟩:=d
 have hc:cs=[]:=hc
 subst hc
 have h4:=plea_step6 e1 e2 e3 e4 z x11 x12 x13 x20 x25 1048574 x119 x136 x145 x146 x154 x155 x156 m n1 n2
 simp only[zR_eq,cp_refl,cond_true] at h4
 exact .stop (Z6_ok _) F6sy h4 h
theorem high3 {d:tQ.den} (hc:noC d) (H30:d.1.1.2.length.ble 30=true) {n:Nat} (hn:n≤400) {man ship lo x17:Int} {n1 n2:Nat} {V:AV} (hlo:ile lo (wr .i64 (wr .i64 (d.2.1.2.1.1+n)-1))=true)
  (K:Ans F6 (pleaI5 d man (wr .i64 (ship+1)) [.int .i64 lo,.int .i64 man,.int .i64 ship] n1 (n2+1)) V) :
  ∀ (m i:Nat) (x22:Int),n<m+i→i≤n→Ans F6 (pleaI3 d i n man ship lo x17 x22 m (n1+1) (n2+1)) V
 |0,i,x22,hm,hi=>absurd hm (by omega)
 | m + 1, i, x22, hm, hi => by
  have h:=plea_step3 d i n man ship lo x17 x22 m n1 n2
  by_cases he:i=n
  · subst he
    rw[ile_t (Int.le_refl ((i:Nat):Int)),hlo] at h
    simp only[ieq_self,cp_refl,Bool.not_true,cond_true,cond_false] at h
    exact .stop (Z6_ok _) F6sy h K
  · have e : wr .i64 ((wr .u64 (wr .i64 ((i : Int) + (n : Int)))).fdiv (2 ^ min (Int.toNat 1) IntKind.u64.bits)) = (((i + n) / 2 : Nat) : Int) := by
     rw[shr1 (by omega) (by omega)];omega
    rw[ile_f (show (i:Int)<(n:Int) by omega),H30,e] at h
    simp only[ieq_self,cp_refl,Bool.not_false,cond_true] at h
    have h2:=high3 (x17:=x17) hc H30 hn hlo K m ((i+n) / 2+1) (wr .i64 (d.2.1.2.1.1+(((i+n) / 2:Nat):Int))) (by omega) (by omega)
    refine .stop (Z6_ok _) F6sy h (high6 hc ?_)
    rw[wr_succ (show (i+n) / 2<1048577 by omega)]
    exact h2
structure KOk (d:tQ.den):Prop where
 c:noC d
 n30:d.1.1.2.length.ble 30=true
 f0:(0:Int)≤d.2.1.2.1.1
 f1:@LE.le Int _ d.2.1.2.1.1 d.2.1.2.1.2.1
 f2:@LE.le Int _ d.2.1.2.1.2.1 300
 m0:(0:Int)≤d.2.1.2.2.1.1
 m1:@LE.le Int _ d.2.1.2.2.1.1 d.2.1.2.2.1.2.1
 m2:@LE.le Int _ d.2.1.2.2.1.2.1 6
 s0:(0:Int)≤d.2.1.2.2.2.1.1
 s1:@LE.le Int _ d.2.1.2.2.2.1.1 d.2.1.2.2.2.1.2.1
 s2:@LE.le Int _ d.2.1.2.2.2.1.2.1 12
theorem KOk.cnt {d:tQ.den} (H:KOk d):∃ n:Nat,wr .i64 (wr .i64 (d.2.1.2.1.2.1-d.2.1.2.1.1)+1)=n∧n≤400∧wr .i64 (d.2.1.2.1.1+0)=d.2.1.2.1.1∧ile d.2.1.2.1.1 (wr .i64 (wr .i64 (d.2.1.2.1.1+n)-1))=true:=by
 have h0:=H.f0;have h1:=H.f1;have h2:=H.f2
 refine⟨(d.2.1.2.1.2.1-d.2.1.2.1.1+1).toNat,?_,by omega,?_,?_⟩
 · rw[wr_in (n:=d.2.1.2.1.2.1-d.2.1.2.1.1) (by omega) (by omega),wr_in (by omega) (by omega)];omega
 · rw[wr_in (by omega) (by omega)];omega
 · rw[wr_in (n:=d.2.1.2.1.1+_) (by omega) (by omega),wr_in (by omega) (by omega)];exact ile_t (by omega)
theorem use1 {d:tQ.den} (H:KOk d) {man ship:Int} {n1 n2:Nat} {V:AV} (hs:ile ship d.2.1.2.2.2.1.2.1=true)
  (K:Ans F6 (pleaI5 d man (wr .i64 (ship+1)) [.int .i64 d.2.1.2.1.1,.int .i64 man,.int .i64 ship] n1 (n2+1)) V):Ans F6 (pleaI1 d man ship (n1+1) (n2+1)) V:=by
 obtain⟨n,e1,hn,e2,e3⟩:=H.cnt
 have h:=plea_step1 d man ship n1 n2
 rw[hs,e1] at h
 simp only[ieq_self,cond_true] at h
 refine .stop (Z6_ok _) F6sy h (low2 H.c H.n30 (fun x17=>?_) 1048575 n _ (by omega) hn)
 rw[e1,e2]
 exact high3 H.c H.n30 hn e3 K 1048575 0 _ (by omega) (by omega)
end Go.Proofs.YtelibdeanepdjaaGreat


set_option maxRecDepth 100000
namespace Go.Proofs.YtelibdeanepdjaaGreat
open Go Go.Eng
theorem plT:∀ (c:List tT.den),plainL (flat tT c)=true
 |[]=>rfl
 |_::c=>plT c
theorem plOT (c:List tT.den):plO (AO.cells false (flat tT c))=true:=plT c
theorem flatT_len:∀ (c:List tT.den),(flat tT c).length=c.length * 3
 |[]=>rfl
 |x::c=>by
  show (tT.cells x++flat tT c).length=_
  rw[List.length_append,flatT_len c];show 3+_=(c.length+1) * 3;omega
theorem flatT_snoc (c:List tT.den) (x:tT.den):flat tT (c++[x])=flat tT c++tT.cells x:=by
 unfold flat;rw[List.flatMap_append];simp
theorem low4A {d:tQ.den} {u0 u1:Int} {q:Nat} {u26:List AV} {n m:Nat} (hc:noC d) {z:tG.den} {l:List tT.den} {k:Nat} {ship x23 x115 x132 x141 x142 x150 x151 x152:Int} {f n1 n2:Nat} {V:AV} (h:Ans F6 (plebI1 d u0 u1 q u26 n m x141 x132 k (flat tT l) ship x23 f (n1+1) (n2+1)) V):Ans F6 (plebI4 d u0 u1 q u26 n m z 0 k (flat tT l) ship x23 1048575 x115 x132 x141 x142 x150 x151 x152 (f+1) (n1+1) (n2+1)) V:=by
 obtain⟨e1,e2,e3,⟨e4,cs⟩,e5⟩:=d
 have hc:cs=[]:=hc
 subst hc
 have h4:=pleb_step4 e1 e2 e3 e4 u0 u1 q u26 n m z k (flat tT l) ship x23 1048574 x115 x132 x141 x142 x150 x151 x152 f n1 n2
 simp only[zR_eq,cp_refl,cond_true,plOT] at h4
 exact .stop (Sy.flat_ok (Z6_ok _)) F6sy h4 h
theorem low2A {d:tQ.den} {u0 u1:Int} {q:Nat} {u26:List AV} {n m:Nat} (hc:noC d) (H30:d.1.1.2.length.ble 30=true) {l:List tT.den} {k:Nat} {ship:Int} {n1 n2:Nat} {V:AV}
  (K:∀ x17,Ans F6 (plebI3 d u0 u1 q u26 n m 0 (wr .i64 (wr .i64 (d.2.1.2.1.2.1-d.2.1.2.1.1)+1)) k (flat tT l) ship (wr .i64 (d.2.1.2.1.1+0)) x17 d.2.1.2.1.1 1048575 (n1+1) (n2+1)) V) :
  ∀ (f j:Nat) (x17:Int),j<f→j≤400→Ans F6 (plebI1 d u0 u1 q u26 n m 0 j k (flat tT l) ship x17 f (n1+1) (n2+1)) V
 |f+1,0,x17,_,_=>by
  have h:=pleb_step1 d u0 u1 q u26 n m 0 ((0:Nat):Int) k (flat tT l) ship x17 f n1 n2
  rw[show ile ((0:Nat):Int) 0=true from rfl] at h
  simp only[ieq_self,cp_refl,Bool.not_true,cond_true,cond_false,plOT] at h
  exact .stop (Sy.flat_ok (Z6_ok _)) F6sy h (K x17)
 | f + 1, j + 1, x17, hm, hj => by
  have h:=pleb_step1 d u0 u1 q u26 n m 0 ((j+1:Nat):Int) k (flat tT l) ship x17 f n1 n2
  have e:wr .i64 ((wr .u64 (wr .i64 (0+((j+1:Nat):Int)))).fdiv (2 ^ min (Int.toNat 1) IntKind.u64.bits))=(((j+1) / 2:Nat):Int):=by
   rw[shr1 (by omega) (by omega)];omega
  rw[ile_f (show (0:Int)<((j+1:Nat):Int) by omega),H30,e] at h
  simp only[ieq_self,cp_refl,Bool.not_false,cond_true,plOT] at h
  exact .stop (Sy.flat_ok (Z6_ok _)) F6sy h (low4A hc (low2A hc H30 K f ((j+1) / 2) _ (by omega) (by omega)))
theorem high6A {d:tQ.den} {u0 u1:Int} {q:Nat} {u26:List AV} {n m:Nat} (hc:noC d) {z:tG.den} {l:List tT.den} {k:Nat} {ship x16 x23 x28 x125 x142 x151 x152 x160 x161 x162:Int} {f n1 n2:Nat} {V:AV} (h:Ans F6 (plebI3 d u0 u1 q u26 n m (wr .i64 (x142+1)) x152 k (flat tT l) ship x16 x23 x28 f (n1+1) (n2+1)) V):Ans F6 (plebI7 d u0 u1 q u26 n m z 0 k (flat tT l) ship x16 x23 x28 1048575 x125 x142 x151 x152 x160 x161 x162 (f+1) (n1+1) (n2+1)) V:=by
 obtain⟨e1,e2,e3,⟨e4,cs⟩,e5⟩:=d
 have hc:cs=[]:=hc
 subst hc
 have h4:=pleb_step7 e1 e2 e3 e4 u0 u1 q u26 n m z k (flat tT l) ship x16 x23 x28 1048574 x125 x142 x151 x152 x160 x161 x162 f n1 n2
 simp only[zR_eq,cp_refl,cond_true,plOT] at h4
 exact .stop (Sy.flat_ok (Z6_ok _)) F6sy h4 h
theorem high3A {d:tQ.den} {u0 u1:Int} {q:Nat} {u26:List AV} {n m:Nat} (hc:noC d) (H30:d.1.1.2.length.ble 30=true) {w:Nat} (hn:w≤400) {l:List tT.den} (hl:l.length≤1000) {ship lo x17:Int} {n1 n2:Nat} {V:AV} (hlo:ile lo (wr .i64 (wr .i64 (d.2.1.2.1.1+w)-1))=true)
  (K:Ans F6 (plebI6 d u0 u1 q u26 n m (wr .i64 (ship+1)) (l++[(lo,u0,ship,())]).length (flat tT (l++[(lo,u0,ship,())])) n1 (n2+1)) V) :
  ∀ (f i:Nat) (x22:Int),w<f+i→i≤w→Ans F6 (plebI3 d u0 u1 q u26 n m i w l.length (flat tT l) ship lo x17 x22 f (n1+1) (n2+1)) V
 |0,i,x22,hm,hi=>absurd hm (by omega)
 | f + 1, i, x22, hm, hi => by
  have h:=pleb_step3 d u0 u1 q u26 n m i w l.length (flat tT l) ship lo x17 x22 f n1 n2
  by_cases he:i=w
  · subst he
    have e1:flat tT l++[AV.int .i64 lo,AV.int .i64 u0,AV.int .i64 ship]=flat tT (l++[(lo,u0,ship,())]):=by rw[flatT_snoc];rfl
    have e2:(0+l.length * 3).beq (flat tT l).length=true:=by rw[flatT_len,Nat.zero_add];exact Nat.beq_refl _
    have e3:l.length+1=(l++[(lo,u0,ship,())]).length:=by rw[List.length_append];rfl
    rw[ile_t (Int.le_refl ((i:Nat):Int)),hlo,e1,e2,e3,Nat.ble_eq_true_of_le (show l.length≤1048576 by omega)] at h
    simp only[ieq_self,cp_refl,Bool.not_true,cond_true,cond_false,plOT] at h
    exact .stop (Sy.flat_ok (Z6_ok _)) F6sy h K
  · have e : wr .i64 ((wr .u64 (wr .i64 ((i : Int) + (w : Int)))).fdiv (2 ^ min (Int.toNat 1) IntKind.u64.bits)) = (((i + w) / 2 : Nat) : Int) := by
     rw[shr1 (by omega) (by omega)];omega
    rw[ile_f (show (i:Int)<(w:Int) by omega),H30,e] at h
    simp only[ieq_self,cp_refl,Bool.not_false,cond_true,plOT] at h
    have h2:=high3A (x17:=x17) hc H30 hn hl hlo K f ((i+w) / 2+1) (wr .i64 (d.2.1.2.1.1+(((i+w) / 2:Nat):Int))) (by omega) (by omega)
    refine .stop (Sy.flat_ok (Z6_ok _)) F6sy h (high6A hc ?_)
    rw[wr_succ (show (i+w) / 2<1048577 by omega)]
    exact h2
theorem chainA {d:tQ.den} {u0 u1:Int} {q:Nat} {u26:List AV} {n m:Nat} (H:KOk d) {l:List tT.den} (hl:l.length≤1000) {ship:Int} {n1 n2:Nat} {V:AV}
  (K:Ans F6 (plebI6 d u0 u1 q u26 n m (wr .i64 (ship+1)) (l++[(d.2.1.2.1.1,u0,ship,())]).length (flat tT (l++[(d.2.1.2.1.1,u0,ship,())])) n1 (n2+1)) V):Ans F6 (plebI1 d u0 u1 q u26 n m 0 (wr .i64 (wr .i64 (d.2.1.2.1.2.1-d.2.1.2.1.1)+1)) l.length (flat tT l) ship d.2.1.2.1.1 1048575 (n1+1) (n2+1)) V:=by
 obtain⟨w,e1,hn,e2,e3⟩:=H.cnt
 rw[e1]
 refine low2A H.c H.n30 (fun x17=>?_) 1048575 w _ (by omega) hn
 rw[e1,e2]
 exact high3A H.c H.n30 hn hl e3 K 1048575 0 _ (by omega) (by omega)
theorem low4B {d:tQ.den} {u0 u1:Int} {q:Nat} {u26:List AV} {n m:Nat} (hc:noC d) {z:tG.den} {l:List tT.den} {k:Nat} {man:Int} {ship x23 x115 x132 x141 x142 x150 x151 x152:Int} {f n1 n2:Nat} {V:AV} (h:Ans F6 (plebI5 d u0 u1 q u26 n m x141 x132 k (flat tT l) man ship x23 f (n1+1) (n2+1)) V):Ans F6 (plebI9 d u0 u1 q u26 n m z 0 k (flat tT l) man ship x23 1048575 x115 x132 x141 x142 x150 x151 x152 (f+1) (n1+1) (n2+1)) V:=by
 obtain⟨e1,e2,e3,⟨e4,cs⟩,e5⟩:=d
 have hc:cs=[]:=hc
 subst hc
 have h4:=pleb_step9 e1 e2 e3 e4 u0 u1 q u26 n m z k (flat tT l) man ship x23 1048574 x115 x132 x141 x142 x150 x151 x152 f n1 n2
 simp only[zR_eq,cp_refl,cond_true,plOT] at h4
 exact .stop (Sy.flat_ok (Z6_ok _)) F6sy h4 h
theorem low2B {d:tQ.den} {u0 u1:Int} {q:Nat} {u26:List AV} {n m:Nat} (hc:noC d) (H30:d.1.1.2.length.ble 30=true) {l:List tT.den} {k:Nat} {man:Int} {ship:Int} {n1 n2:Nat} {V:AV}
  (K:∀ x17,Ans F6 (plebI8 d u0 u1 q u26 n m 0 (wr .i64 (wr .i64 (d.2.1.2.1.2.1-d.2.1.2.1.1)+1)) k (flat tT l) man ship (wr .i64 (d.2.1.2.1.1+0)) x17 d.2.1.2.1.1 1048575 (n1+1) (n2+1)) V) :
  ∀ (f j:Nat) (x17:Int),j<f→j≤400→Ans F6 (plebI5 d u0 u1 q u26 n m 0 j k (flat tT l) man ship x17 f (n1+1) (n2+1)) V
 |f+1,0,x17,_,_=>by
  have h:=pleb_step5 d u0 u1 q u26 n m 0 ((0:Nat):Int) k (flat tT l) man ship x17 f n1 n2
  rw[show ile ((0:Nat):Int) 0=true from rfl] at h
  simp only[ieq_self,cp_refl,Bool.not_true,cond_true,cond_false,plOT] at h
  exact .stop (Sy.flat_ok (Z6_ok _)) F6sy h (K x17)
 | f + 1, j + 1, x17, hm, hj => by
  have h:=pleb_step5 d u0 u1 q u26 n m 0 ((j+1:Nat):Int) k (flat tT l) man ship x17 f n1 n2
  have e:wr .i64 ((wr .u64 (wr .i64 (0+((j+1:Nat):Int)))).fdiv (2 ^ min (Int.toNat 1) IntKind.u64.bits))=(((j+1) / 2:Nat):Int):=by
   rw[shr1 (by omega) (by omega)];omega
  rw[ile_f (show (0:Int)<((j+1:Nat):Int) by omega),H30,e] at h
  simp only[ieq_self,cp_refl,Bool.not_false,cond_true,plOT] at h
  exact .stop (Sy.flat_ok (Z6_ok _)) F6sy h (low4B hc (low2B hc H30 K f ((j+1) / 2) _ (by omega) (by omega)))
theorem high6B {d:tQ.den} {u0 u1:Int} {q:Nat} {u26:List AV} {n m:Nat} (hc:noC d) {z:tG.den} {l:List tT.den} {k:Nat} {man:Int} {ship x16 x23 x28 x125 x142 x151 x152 x160 x161 x162:Int} {f n1 n2:Nat} {V:AV} (h:Ans F6 (plebI8 d u0 u1 q u26 n m (wr .i64 (x142+1)) x152 k (flat tT l) man ship x16 x23 x28 f (n1+1) (n2+1)) V):Ans F6 (plebI11 d u0 u1 q u26 n m z 0 k (flat tT l) man ship x16 x23 x28 1048575 x125 x142 x151 x152 x160 x161 x162 (f+1) (n1+1) (n2+1)) V:=by
 obtain⟨e1,e2,e3,⟨e4,cs⟩,e5⟩:=d
 have hc:cs=[]:=hc
 subst hc
 have h4:=pleb_step11 e1 e2 e3 e4 u0 u1 q u26 n m z k (flat tT l) man ship x16 x23 x28 1048574 x125 x142 x151 x152 x160 x161 x162 f n1 n2
 simp only[zR_eq,cp_refl,cond_true,plOT] at h4
 exact .stop (Sy.flat_ok (Z6_ok _)) F6sy h4 h
theorem high3B {d:tQ.den} {u0 u1:Int} {q:Nat} {u26:List AV} {n m:Nat} (hc:noC d) (H30:d.1.1.2.length.ble 30=true) {w:Nat} (hn:w≤400) {l:List tT.den} (hl:l.length≤1000) {man:Int} {ship lo x17:Int} {n1 n2:Nat} {V:AV} (hlo:ile lo (wr .i64 (wr .i64 (d.2.1.2.1.1+w)-1))=true)
  (K:Ans F6 (plebI10 d u0 u1 q u26 n m man (wr .i64 (ship+1)) (l++[(lo,man,ship,())]).length (flat tT (l++[(lo,man,ship,())])) n1 (n2+1)) V) :
  ∀ (f i:Nat) (x22:Int),w<f+i→i≤w→Ans F6 (plebI8 d u0 u1 q u26 n m i w l.length (flat tT l) man ship lo x17 x22 f (n1+1) (n2+1)) V
 |0,i,x22,hm,hi=>absurd hm (by omega)
 | f + 1, i, x22, hm, hi => by
  have h:=pleb_step8 d u0 u1 q u26 n m i w l.length (flat tT l) man ship lo x17 x22 f n1 n2
  by_cases he:i=w
  · subst he
    have e1:flat tT l++[AV.int .i64 lo,AV.int .i64 man,AV.int .i64 ship]=flat tT (l++[(lo,man,ship,())]):=by rw[flatT_snoc];rfl
    have e2:(0+l.length * 3).beq (flat tT l).length=true:=by rw[flatT_len,Nat.zero_add];exact Nat.beq_refl _
    have e3:l.length+1=(l++[(lo,man,ship,())]).length:=by rw[List.length_append];rfl
    rw[ile_t (Int.le_refl ((i:Nat):Int)),hlo,e1,e2,e3,Nat.ble_eq_true_of_le (show l.length≤1048576 by omega)] at h
    simp only[ieq_self,cp_refl,Bool.not_true,cond_true,cond_false,plOT] at h
    exact .stop (Sy.flat_ok (Z6_ok _)) F6sy h K
  · have e : wr .i64 ((wr .u64 (wr .i64 ((i : Int) + (w : Int)))).fdiv (2 ^ min (Int.toNat 1) IntKind.u64.bits)) = (((i + w) / 2 : Nat) : Int) := by
     rw[shr1 (by omega) (by omega)];omega
    rw[ile_f (show (i:Int)<(w:Int) by omega),H30,e] at h
    simp only[ieq_self,cp_refl,Bool.not_false,cond_true,plOT] at h
    have h2:=high3B (x17:=x17) hc H30 hn hl hlo K f ((i+w) / 2+1) (wr .i64 (d.2.1.2.1.1+(((i+w) / 2:Nat):Int))) (by omega) (by omega)
    refine .stop (Sy.flat_ok (Z6_ok _)) F6sy h (high6B hc ?_)
    rw[wr_succ (show (i+w) / 2<1048577 by omega)]
    exact h2
theorem chainB {d:tQ.den} {u0 u1:Int} {q:Nat} {u26:List AV} {n m:Nat} (H:KOk d) {l:List tT.den} (hl:l.length≤1000) {man:Int} {ship:Int} {n1 n2:Nat} {V:AV}
  (K:Ans F6 (plebI10 d u0 u1 q u26 n m man (wr .i64 (ship+1)) (l++[(d.2.1.2.1.1,man,ship,())]).length (flat tT (l++[(d.2.1.2.1.1,man,ship,())])) n1 (n2+1)) V):Ans F6 (plebI5 d u0 u1 q u26 n m 0 (wr .i64 (wr .i64 (d.2.1.2.1.2.1-d.2.1.2.1.1)+1)) l.length (flat tT l) man ship d.2.1.2.1.1 1048575 (n1+1) (n2+1)) V:=by
 obtain⟨w,e1,hn,e2,e3⟩:=H.cnt
 rw[e1]
 refine low2B H.c H.n30 (fun x17=>?_) 1048575 w _ (by omega) hn
 rw[e1,e2]
 exact high3B H.c H.n30 hn hl e3 K 1048575 0 _ (by omega) (by omega)
theorem low4C {d:tQ.den} {u0 u1:Int} {q:Nat} {u26:List AV} {n m:Nat} (hc:noC d) {z:tG.den} {l:List tT.den} {k:Nat} {man:Int} {ship x23 x115 x132 x141 x142 x150 x151 x152:Int} {f n1 n2:Nat} {V:AV} (h:Ans F6 (plebI12 d u0 u1 q u26 n m x141 x132 k (flat tT l) man ship x23 f (n1+1) (n2+1)) V):Ans F6 (plebI14 d u0 u1 q u26 n m z 0 k (flat tT l) man ship x23 1048575 x115 x132 x141 x142 x150 x151 x152 (f+1) (n1+1) (n2+1)) V:=by
 obtain⟨e1,e2,e3,⟨e4,cs⟩,e5⟩:=d
 have hc:cs=[]:=hc
 subst hc
 have h4:=pleb_step14 e1 e2 e3 e4 u0 u1 q u26 n m z k (flat tT l) man ship x23 1048574 x115 x132 x141 x142 x150 x151 x152 f n1 n2
 simp only[zR_eq,cp_refl,cond_true,plOT] at h4
 exact .stop (Sy.flat_ok (Z6_ok _)) F6sy h4 h
theorem low2C {d:tQ.den} {u0 u1:Int} {q:Nat} {u26:List AV} {n m:Nat} (hc:noC d) (H30:d.1.1.2.length.ble 30=true) {l:List tT.den} {k:Nat} {man:Int} {ship:Int} {n1 n2:Nat} {V:AV}
  (K:∀ x17,Ans F6 (plebI13 d u0 u1 q u26 n m 0 (wr .i64 (wr .i64 (d.2.1.2.1.2.1-d.2.1.2.1.1)+1)) k (flat tT l) man ship (wr .i64 (d.2.1.2.1.1+0)) x17 d.2.1.2.1.1 1048575 (n1+1) (n2+1)) V) :
  ∀ (f j:Nat) (x17:Int),j<f→j≤400→Ans F6 (plebI12 d u0 u1 q u26 n m 0 j k (flat tT l) man ship x17 f (n1+1) (n2+1)) V
 |f+1,0,x17,_,_=>by
  have h:=pleb_step12 d u0 u1 q u26 n m 0 ((0:Nat):Int) k (flat tT l) man ship x17 f n1 n2
  rw[show ile ((0:Nat):Int) 0=true from rfl] at h
  simp only[ieq_self,cp_refl,Bool.not_true,cond_true,cond_false,plOT] at h
  exact .stop (Sy.flat_ok (Z6_ok _)) F6sy h (K x17)
 | f + 1, j + 1, x17, hm, hj => by
  have h:=pleb_step12 d u0 u1 q u26 n m 0 ((j+1:Nat):Int) k (flat tT l) man ship x17 f n1 n2
  have e:wr .i64 ((wr .u64 (wr .i64 (0+((j+1:Nat):Int)))).fdiv (2 ^ min (Int.toNat 1) IntKind.u64.bits))=(((j+1) / 2:Nat):Int):=by
   rw[shr1 (by omega) (by omega)];omega
  rw[ile_f (show (0:Int)<((j+1:Nat):Int) by omega),H30,e] at h
  simp only[ieq_self,cp_refl,Bool.not_false,cond_true,plOT] at h
  exact .stop (Sy.flat_ok (Z6_ok _)) F6sy h (low4C hc (low2C hc H30 K f ((j+1) / 2) _ (by omega) (by omega)))
theorem high6C {d:tQ.den} {u0 u1:Int} {q:Nat} {u26:List AV} {n m:Nat} (hc:noC d) {z:tG.den} {l:List tT.den} {k:Nat} {man:Int} {ship x16 x23 x28 x125 x142 x151 x152 x160 x161 x162:Int} {f n1 n2:Nat} {V:AV} (h:Ans F6 (plebI13 d u0 u1 q u26 n m (wr .i64 (x142+1)) x152 k (flat tT l) man ship x16 x23 x28 f (n1+1) (n2+1)) V):Ans F6 (plebI15 d u0 u1 q u26 n m z 0 k (flat tT l) man ship x16 x23 x28 1048575 x125 x142 x151 x152 x160 x161 x162 (f+1) (n1+1) (n2+1)) V:=by
 obtain⟨e1,e2,e3,⟨e4,cs⟩,e5⟩:=d
 have hc:cs=[]:=hc
 subst hc
 have h4:=pleb_step15 e1 e2 e3 e4 u0 u1 q u26 n m z k (flat tT l) man ship x16 x23 x28 1048574 x125 x142 x151 x152 x160 x161 x162 f n1 n2
 simp only[zR_eq,cp_refl,cond_true,plOT] at h4
 exact .stop (Sy.flat_ok (Z6_ok _)) F6sy h4 h
theorem high3C {d:tQ.den} {u0 u1:Int} {q:Nat} {u26:List AV} {n m:Nat} (hc:noC d) (H30:d.1.1.2.length.ble 30=true) {w:Nat} (hn:w≤400) {l:List tT.den} (hl:l.length≤1000) {man:Int} {ship lo x17:Int} {n1 n2:Nat} {V:AV} (hlo:ile lo (wr .i64 (wr .i64 (d.2.1.2.1.1+w)-1))=true)
  (K:Ans F6 (plebI10 d u0 u1 q u26 n m man (wr .i64 (ship+1)) (l++[(lo,man,ship,())]).length (flat tT (l++[(lo,man,ship,())])) n1 (n2+1)) V) :
  ∀ (f i:Nat) (x22:Int),w<f+i→i≤w→Ans F6 (plebI13 d u0 u1 q u26 n m i w l.length (flat tT l) man ship lo x17 x22 f (n1+1) (n2+1)) V
 |0,i,x22,hm,hi=>absurd hm (by omega)
 | f + 1, i, x22, hm, hi => by
  have h:=pleb_step13 d u0 u1 q u26 n m i w l.length (flat tT l) man ship lo x17 x22 f n1 n2
  by_cases he:i=w
  · subst he
    have e1:flat tT l++[AV.int .i64 lo,AV.int .i64 man,AV.int .i64 ship]=flat tT (l++[(lo,man,ship,())]):=by rw[flatT_snoc];rfl
    have e2:(0+l.length * 3).beq (flat tT l).length=true:=by rw[flatT_len,Nat.zero_add];exact Nat.beq_refl _
    have e3:l.length+1=(l++[(lo,man,ship,())]).length:=by rw[List.length_append];rfl
    rw[ile_t (Int.le_refl ((i:Nat):Int)),hlo,e1,e2,e3,Nat.ble_eq_true_of_le (show l.length≤1048576 by omega)] at h
    simp only[ieq_self,cp_refl,Bool.not_true,cond_true,cond_false,plOT] at h
    exact .stop (Sy.flat_ok (Z6_ok _)) F6sy h K
  · have e : wr .i64 ((wr .u64 (wr .i64 ((i : Int) + (w : Int)))).fdiv (2 ^ min (Int.toNat 1) IntKind.u64.bits)) = (((i + w) / 2 : Nat) : Int) := by
     rw[shr1 (by omega) (by omega)];omega
    rw[ile_f (show (i:Int)<(w:Int) by omega),H30,e] at h
    simp only[ieq_self,cp_refl,Bool.not_false,cond_true,plOT] at h
    have h2:=high3C (x17:=x17) hc H30 hn hl hlo K f ((i+w) / 2+1) (wr .i64 (d.2.1.2.1.1+(((i+w) / 2:Nat):Int))) (by omega) (by omega)
    refine .stop (Sy.flat_ok (Z6_ok _)) F6sy h (high6C hc ?_)
    rw[wr_succ (show (i+w) / 2<1048577 by omega)]
    exact h2
theorem chainC {d:tQ.den} {u0 u1:Int} {q:Nat} {u26:List AV} {n m:Nat} (H:KOk d) {l:List tT.den} (hl:l.length≤1000) {man:Int} {ship:Int} {n1 n2:Nat} {V:AV}
  (K:Ans F6 (plebI10 d u0 u1 q u26 n m man (wr .i64 (ship+1)) (l++[(d.2.1.2.1.1,man,ship,())]).length (flat tT (l++[(d.2.1.2.1.1,man,ship,())])) n1 (n2+1)) V):Ans F6 (plebI12 d u0 u1 q u26 n m 0 (wr .i64 (wr .i64 (d.2.1.2.1.2.1-d.2.1.2.1.1)+1)) l.length (flat tT l) man ship d.2.1.2.1.1 1048575 (n1+1) (n2+1)) V:=by
 obtain⟨w,e1,hn,e2,e3⟩:=H.cnt
 rw[e1]
 refine low2C H.c H.n30 (fun x17=>?_) 1048575 w _ (by omega) hn
 rw[e1,e2]
 exact high3C H.c H.n30 hn hl e3 K 1048575 0 _ (by omega) (by omega)
end Go.Proofs.YtelibdeanepdjaaGreat


set_option maxRecDepth 100000
namespace Go.Proofs.YtelibdeanepdjaaGreat
open Go Go.Eng
noncomputable abbrev nSh (d:tQ.den):Nat:=(d.2.1.2.2.2.1.2.1-d.2.1.2.2.2.1.1+1:Int).toNat
noncomputable abbrev nMa (d:tQ.den):Nat:=(d.2.1.2.2.1.2.1-d.2.1.2.2.1.1+1:Int).toNat
theorem nSh_eq {d:tQ.den} (H:KOk d):@Eq Int ((nSh d:Nat):Int) (d.2.1.2.2.2.1.2.1-d.2.1.2.2.2.1.1+1:Int):=by
 have s1:=H.s1
 show @Eq Int (((d.2.1.2.2.2.1.2.1-d.2.1.2.2.2.1.1+1:Int).toNat:Nat):Int) _
 omega
theorem nMa_eq {d:tQ.den} (H:KOk d):@Eq Int ((nMa d:Nat):Int) (d.2.1.2.2.1.2.1-d.2.1.2.2.1.1+1:Int):=by
 have s1:=H.m1
 show @Eq Int (((d.2.1.2.2.1.2.1-d.2.1.2.2.1.1+1:Int).toNat:Nat):Int) _
 omega
theorem shp_succ (d:tQ.den) (L:List tT.den) (man:Int) (i:Nat):(L++shpL d man i)++[(d.2.1.2.1.1,man,d.2.1.2.2.2.1.1+(i:Int),())]=L++shpL d man (i+1):=by
 rw[List.append_assoc];rfl
theorem shipA {d:tQ.den} {u0 u1:Int} {q:Nat} {u26:List AV} {n m:Nat} (H:KOk d) (L:List tT.den) (hL:L.length≤500) {n2:Nat} {V:AV}
  (K:Ans F6 (plebI0 d u0 u1 q u26 n m (wr .i64 (u0+1)) (L++shpL d u0 (nSh d)).length (flat tT (L++shpL d u0 (nSh d))) n2) V) :
  ∀ (r i f:Nat),i+r=nSh d→r<f→Ans F6 (plebI6 d u0 u1 q u26 n m (d.2.1.2.2.2.1.1+(i:Int)) (L++shpL d u0 i).length (flat tT (L++shpL d u0 i)) f (n2+1)) V
 |0,i,f+1,hk,hf=>by
  have s0:=H.s0;have s1:=H.s1;have s2:=H.s2;have hN:=nSh_eq H
  have h:=pleb_step6 d u0 u1 q u26 n m (d.2.1.2.2.2.1.1+(i:Int)) (L++shpL d u0 i).length (flat tT (L++shpL d u0 i)) f n2
  rw[ile_f (a:=d.2.1.2.2.2.1.1+(i:Int)) (b:=d.2.1.2.2.2.1.2.1) (by omega),cond_false,plOT,cond_true] at h
  have hi:i=nSh d:=by omega
  subst hi
  exact .stop (Sy.flat_ok (Z6_ok _)) F6sy h K
 |r+1,i,f+1,hk,hf=>by
  have s0:=H.s0;have s1:=H.s1;have s2:=H.s2;have hN:=nSh_eq H
  have h:=pleb_step6 d u0 u1 q u26 n m (d.2.1.2.2.2.1.1+(i:Int)) (L++shpL d u0 i).length (flat tT (L++shpL d u0 i)) f n2
  rw[ile_t (a:=d.2.1.2.2.2.1.1+(i:Int)) (b:=d.2.1.2.2.2.1.2.1) (by omega),cond_true] at h
  simp only[ieq_self,cond_true] at h
  refine .stop (Sy.flat_ok (Z6_ok _)) F6sy h (chainA H (by rw[List.length_append,shpL_len];omega) ?_)
  have h2:=shipA H L hL K r (i+1) f (by omega) (by omega)
  rw[shp_succ,show wr .i64 (d.2.1.2.2.2.1.1+(i:Int)+1)=d.2.1.2.2.2.1.1+((i+1:Nat):Int) by rw[wr_in (by omega) (by omega)];omega]
  exact h2
theorem shipC {d:tQ.den} {u0 u1:Int} {q:Nat} {u26:List AV} {n m:Nat} (H:KOk d) (L:List tT.den) (hL:L.length≤500) {man:Int} {n2:Nat} {V:AV}
  (K:Ans F6 (plebI0 d u0 u1 q u26 n m (wr .i64 (man+1)) (L++shpL d man (nSh d)).length (flat tT (L++shpL d man (nSh d))) n2) V) :
  ∀ (r i f:Nat),i+r=nSh d→r<f→Ans F6 (plebI10 d u0 u1 q u26 n m man (d.2.1.2.2.2.1.1+(i:Int)) (L++shpL d man i).length (flat tT (L++shpL d man i)) f (n2+1)) V
 |0,i,f+1,hk,hf=>by
  have s0:=H.s0;have s1:=H.s1;have s2:=H.s2;have hN:=nSh_eq H
  have h:=pleb_step10 d u0 u1 q u26 n m man (d.2.1.2.2.2.1.1+(i:Int)) (L++shpL d man i).length (flat tT (L++shpL d man i)) f n2
  rw[ile_f (a:=d.2.1.2.2.2.1.1+(i:Int)) (b:=d.2.1.2.2.2.1.2.1) (by omega),cond_false,plOT,cond_true] at h
  have hi:i=nSh d:=by omega
  subst hi
  exact .stop (Sy.flat_ok (Z6_ok _)) F6sy h K
 |r+1,i,f+1,hk,hf=>by
  have s0:=H.s0;have s1:=H.s1;have s2:=H.s2;have hN:=nSh_eq H
  have h:=pleb_step10 d u0 u1 q u26 n m man (d.2.1.2.2.2.1.1+(i:Int)) (L++shpL d man i).length (flat tT (L++shpL d man i)) f n2
  rw[ile_t (a:=d.2.1.2.2.2.1.1+(i:Int)) (b:=d.2.1.2.2.2.1.2.1) (by omega),cond_true] at h
  simp only[ieq_self,cond_true] at h
  refine .stop (Sy.flat_ok (Z6_ok _)) F6sy h (chainC H (by rw[List.length_append,shpL_len];omega) ?_)
  have h2:=shipC H L hL K r (i+1) f (by omega) (by omega)
  rw[shp_succ,show wr .i64 (d.2.1.2.2.2.1.1+(i:Int)+1)=d.2.1.2.2.2.1.1+((i+1:Nat):Int) by rw[wr_in (by omega) (by omega)];omega]
  exact h2
theorem ship2 {d:tQ.den} {u0 u1:Int} {q:Nat} {u26:List AV} {n m:Nat} (H:KOk d) (L:List tT.den) (hL:L.length≤500) {man:Int} {n2:Nat} {V:AV}
  (K:Ans F6 (plebI0 d u0 u1 q u26 n m (wr .i64 (man+1)) (L++shpL d man (nSh d)).length (flat tT (L++shpL d man (nSh d))) n2) V) :
  Ans F6 (plebI2 d u0 u1 q u26 n m man d.2.1.2.2.2.1.1 L.length (flat tT L) 1048575 (n2+1)) V:=by
 have s0:=H.s0;have s1:=H.s1;have s2:=H.s2;have hN:=nSh_eq H
 have h:=pleb_step2 d u0 u1 q u26 n m man d.2.1.2.2.2.1.1 L.length (flat tT L) 1048574 n2
 rw[ile_t s1,cond_true] at h
 simp only[ieq_self,cond_true] at h
 refine .stop (Sy.flat_ok (Z6_ok _)) F6sy h (chainB H (by omega) ?_)
 have h2:=shipC H L hL K (nSh d-1) 1 1048574 (by omega) (by omega)
 have e:L++[(d.2.1.2.1.1,man,d.2.1.2.2.2.1.1,())]=L++shpL d man 1:=by
  show _=L++([]++[(d.2.1.2.1.1,man,d.2.1.2.2.2.1.1+((0:Nat):Int),())])
  rw[show d.2.1.2.2.2.1.1+((0:Nat):Int)=d.2.1.2.2.2.1.1 from Int.add_zero _];rfl
 rw[e,show wr .i64 (d.2.1.2.2.2.1.1+1)=d.2.1.2.2.2.1.1+((1:Nat):Int) by rw[wr_in (by omega) (by omega)];rfl]
 exact h2
theorem manL_len (d:tQ.den):∀ j,(manL d j).length=j * nSh d
 |0=>by show 0=0 * _;rw[Nat.zero_mul]
 |j+1=>by unfold manL;rw[List.length_append,manL_len d j,shpL_len,Nat.succ_mul]
theorem man_ans {d:tQ.den} {u0 u1:Int} {q:Nat} {u26:List AV} {n m:Nat} (H:KOk d):∀ (r j f:Nat),j+r=nMa d→r<f→Ans F6 (plebI0 d u0 u1 q u26 n m (d.2.1.2.2.1.1+(j:Int)) (manL d j).length (flat tT (manL d j)) f) (.vs tT false (lstS d))
 |0,j,f+1,hk,hf=>by
  have m0:=H.m0;have m1:=H.m1;have m2:=H.m2;have hM:=nMa_eq H
  have h:=pleb_step0 d u0 u1 q u26 n m (d.2.1.2.2.1.1+(j:Int)) (manL d j).length (flat tT (manL d j)) f
  rw[ile_f (a:=d.2.1.2.2.1.1+(j:Int)) (b:=d.2.1.2.2.1.2.1) (by omega),cond_false,plT,cond_true] at h
  have hi:j=nMa d:=by omega
  subst hi
  exact .doneT (Sy.flat_ok (Z6_ok _)) F6sy h Tells.csl
 | r + 1, j, f + 1, hk, hf => by
  have m0:=H.m0;have m1:=H.m1;have m2:=H.m2;have hM:=nMa_eq H
  have s0:=H.s0;have s1:=H.s1;have s2:=H.s2;have hN:=nSh_eq H
  have h:=pleb_step0 d u0 u1 q u26 n m (d.2.1.2.2.1.1+(j:Int)) (manL d j).length (flat tT (manL d j)) f
  rw[ile_t (a:=d.2.1.2.2.1.1+(j:Int)) (b:=d.2.1.2.2.1.2.1) (by omega),cond_true] at h
  have hS:nSh d≤13:=by omega
  have hJ:j≤7:=by omega
  have hl:(manL d j).length≤500:=by
   rw[manL_len]
   have:=Nat.mul_le_mul hJ hS
   omega
  refine .stop (Sy.flat_ok (Z6_ok _)) F6sy h (ship2 H (manL d j) hl ?_)
  have h2:=man_ans (u0:=u0) (u1:=u1) (q:=q) (u26:=u26) (n:=n) (m:=m) H r (j+1) f (by omega) (by omega)
  rw[show wr .i64 (d.2.1.2.2.1.1+(j:Int)+1)=d.2.1.2.2.1.1+((j+1:Nat):Int) by rw[wr_in (by omega) (by omega)];omega]
  exact h2
theorem kok {d:tQ.den} (h:kokB d=true):KOk d:=by
 unfold kokB at h
 simp only[Bool.and_eq_true] at h
 obtain⟨c,n30,f0,f1,f2,m0,m1,m2,s0,s1,s2⟩:=h
 refine⟨?_,n30,ile_le f0,ile_le f1,ile_le f2,ile_le m0,ile_le m1,ile_le m2,ile_le s0,ile_le s1,ile_le s2⟩
 unfold noC
 cases e:d.2.2.2.1.2 with
 |nil=>rfl
 |cons a l=>rw[e] at c;cases c
theorem plea_call (d:tQ.den) (h:kokB d=true):AnsF F6 78 [tQ.pv d] (.vs tT false (lstS d)):=by
 have H:=kok h
 have m0:=H.m0;have m1:=H.m1;have m2:=H.m2;have hM:=nMa_eq H
 have s0:=H.s0;have s1:=H.s1;have s2:=H.s2;have hN:=nSh_eq H
 refine Ans.call (n:=60) (ext_none (by kernel_rfl)) (hasB_spec (by kernel_rfl)) ?_
 refine .stop (Z6_ok _) F6sy (plea_start d) ?_
 have h:=plea_step0 d d.2.1.2.2.1.1 1048574
 rw[ile_t m1,cond_true] at h
 refine .stop (Z6_ok _) F6sy h (use1 H (ile_t s1) ?_)
 have e1:wr .i64 (d.2.1.2.2.2.1.1+1)=d.2.1.2.2.2.1.1+((1:Nat):Int):=by rw[wr_in (by omega) (by omega)];rfl
 have eL:shpL d d.2.1.2.2.1.1 1=[(d.2.1.2.1.1,d.2.1.2.2.1.1,d.2.1.2.2.2.1.1,())]:=by
  show []++[(d.2.1.2.1.1,d.2.1.2.2.1.1,d.2.1.2.2.2.1.1+((0:Nat):Int),())]=_
  rw[show d.2.1.2.2.2.1.1+((0:Nat):Int)=d.2.1.2.2.2.1.1 from Int.add_zero _];rfl
 have eF:[AV.int .i64 d.2.1.2.1.1,AV.int .i64 d.2.1.2.2.1.1,AV.int .i64 d.2.1.2.2.2.1.1]=flat tT (shpL d d.2.1.2.2.1.1 1):=by rw[eL];rfl
 rw[e1,eF]
 show Ans F6 (pleJ d d.2.1.2.2.1.1 (d.2.1.2.2.2.1.1+((1:Nat):Int)) 1 (flat tT (shpL d d.2.1.2.2.1.1 1)) 1048574 1048575) _
 have h:=pleb_start d d.2.1.2.2.1.1 (d.2.1.2.2.2.1.1+((1:Nat):Int)) 1 (flat tT (shpL d d.2.1.2.2.1.1 1)) 1048573 1048574
 have KM:=man_ans (u0:=d.2.1.2.2.1.1) (u1:=d.2.1.2.2.2.1.1+((1:Nat):Int)) (q:=1) (u26:=flat tT (shpL d d.2.1.2.2.1.1 1)) (n:=1048573) (m:=1048574) H (nMa d-1) 1 1048574 (by omega) (by omega)
 have e2:wr .i64 (d.2.1.2.2.1.1+1)=d.2.1.2.2.1.1+((1:Nat):Int):=by rw[wr_in (by omega) (by omega)];rfl
 have eM:manL d 1=shpL d d.2.1.2.2.1.1 (nSh d):=by
  show []++shpL d (d.2.1.2.2.1.1+((0:Nat):Int)) _=_
  rw[show d.2.1.2.2.1.1+((0:Nat):Int)=d.2.1.2.2.1.1 from Int.add_zero _];rfl
 rw[eM,← e2] at KM
 cases c:ile (d.2.1.2.2.2.1.1+((1:Nat):Int)) d.2.1.2.2.2.1.2.1 with
 | true =>
  rw[c,cond_true] at h
  simp only[ieq_self,cond_true] at h
  have hS:=ile_le c
  have h2:=shipA (u1:=d.2.1.2.2.2.1.1+((1:Nat):Int)) (q:=1) (u26:=flat tT (shpL d d.2.1.2.2.1.1 1)) (n:=1048573) (m:=1048574) H [] (by show 0≤500;omega) KM (nSh d-2) 2 1048573 (by omega) (by omega)
  have hch:=chainA (u0:=d.2.1.2.2.1.1) (u1:=d.2.1.2.2.2.1.1+((1:Nat):Int)) (q:=1) (u26:=flat tT (shpL d d.2.1.2.2.1.1 1)) (n:=1048573) (m:=1048574) (l:=shpL d d.2.1.2.2.1.1 1) (ship:=d.2.1.2.2.2.1.1+((1:Nat):Int)) (n1:=1048573) (n2:=1048574) (V:=.vs tT false (lstS d)) H (by rw[shpL_len];omega) (by
   rw[show wr .i64 (d.2.1.2.2.2.1.1+((1:Nat):Int)+1)=d.2.1.2.2.2.1.1+((2:Nat):Int) by rw[wr_in (by omega) (by omega)];omega]
   exact h2)
  exact .stop (Sy.flat_ok (Z6_ok _)) F6sy h hch
 | false =>
  rw[c,cond_false,plOT,cond_true] at h
  have hS:nSh d=1:=by
   rw[ile_iff] at c
   have:=of_decide_eq_false c
   omega
  rw[hS] at KM
  exact .stop (Sy.flat_ok (Z6_ok _)) F6sy h KM
end Go.Proofs.YtelibdeanepdjaaGreat


namespace Go.Eng
open Go
attribute [local irreducible] upTo
noncomputable def oldAll (since:Nat):List ((AV×AV)×Nat)→Bool
 |[]=>true
 |z::l=>match Nat.ble since z.2 with
  |true=>false
  |false=>oldAll since l
noncomputable def nextL (τ:Tmps) (σ:Hp) (x:Operand):Option (List (AV×Hp)):=
 match ev τ x with
 | some (.iter id) => match σ.get id with
  | some (.miter m since seen last) => match σ.get m with
   | some (.cmap es bs ck) => match (match seen, es with | [], _ => false | _, [] => false | _, _ => allB last bs) with
    |true=>none
    | false => match leftM es bs seen with
     |[]=>some [(.tup [.bool false],σ)]
     |y::l=>match oldAll since (y::l) with
      |true=>some ((y::l).map fun z=>(.tup [.bool true,z.1.1,z.1.2],σ.set id (.miter m since (seen++[z.2]) ck)))
      |false=>none
   |_=>none
  |_=>none
 |_=>none
section
variable {P:Program} {E:Env} {base:Nat} {V:View} {σ:Hp} {W:World} {τ:Tmps} {ρ:Operand→Value}
variable {dst:Option Tmp} {ty:TypeId} {pos:String} {after:Array Edge} {guard:Option (Nat×Bool)}
theorem oldAll_spec {since:Nat}:∀ {l:List ((AV×AV)×Nat)},oldAll since l=true→∀ z∈l,z.2<since
 |[],_,z,hz=>by cases hz
 |y::l,h,z,hz=>by
  simp only[oldAll] at h
  split at h
  · cases h
  · rename_i hb
    rcases List.mem_cons.1 hz with rfl|hz
    · have : ¬ since ≤ z.2 := fun e => by rw [Nat.ble_eq_true_of_le e] at hb; cases hb
      omega
    · exact oldAll_spec h z hz
theorem left_all {seen:List Nat}:∀ {es:List (AV×AV)} {en:List MapEntry},VRs V (es.map (·.1)) (en.map (·.key))→VRs V (es.map (·.2)) (en.map (·.val)) →
  (leftM es (en.map (·.born)) seen).length=(en.filter fun e=>!seen.contains e.born).length ∧
  ∀ (j:Nat) (e:MapEntry),(en.filter fun e=>!seen.contains e.born)[j]?=some e→∃ k v,(leftM es (en.map (·.born)) seen)[j]?=some ((k,v),e.born)∧VR V k e.key∧VR V v e.val
 |[],[],_,_=>⟨rfl,fun j e h=>by rw[List.filter_nil] at h;simp at h⟩
 |[],_::_,h,_=>absurd h.1 (by simp)
 |_::_,[],h,_=>absurd h.1 (by simp)
 | (k, v) :: es, e :: en, h1, h2 => by
  obtain⟨A,As,ea,hx,h1'⟩:=h1.cons_inv
  obtain⟨B,Bs,eb,hv,h2'⟩:=h2.cons_inv
  simp only[List.map_cons,List.cons.injEq] at ea eb
  obtain⟨rfl,rfl⟩:=ea
  obtain⟨rfl,rfl⟩:=eb
  obtain⟨i1,i2⟩:=left_all (seen:=seen) h1' h2'
  simp only[List.map_cons,leftM,memN_eq]
  cases hc:seen.contains e.born with
  |true=>
   rw[List.filter_cons_of_neg (by simp only[hc];decide)]
   exact⟨i1,i2⟩
  | false =>
   rw[List.filter_cons_of_pos (by simp only[hc];rfl)]
   refine⟨by simp only[List.length_cons,i1],fun j e' h=>?_⟩
   cases j with
   |zero=>
    simp only[List.getElem?_cons_zero,Option.some.injEq] at h;subst h
    exact⟨k,v,rfl,hx,hv⟩
   |succ j=>
    rw[List.getElem?_cons_succ] at h
    exact i2 j e' h
theorem run_choose_next {n:Nat} (hn:0<n):∃ i W1,i<n∧(W1=W∨W1=W.drew)∧(choose (.mapNext n)).run P W=.ok i W1:=by
 cases h:(Question.mapNext n).forced with
 |true=>
  refine⟨0,W,hn,.inl rfl,?_⟩
  rw[run_choose,if_pos h]
 |false=>
  refine⟨W.tape W.drawn (.mapNext n) % n,W.drew,Nat.mod_lt _ hn,.inr rfl,?_⟩
  rw[run_choose,if_neg (by rw[h];decide)];rfl
variable (hE:EnvOK P E) (H:HR E base V σ W) (hb:base≤W.heap.size) (hρ:EvR V τ ρ)
include hE H hb hρ
theorem s_nextL (x : Operand) {L : List (AV × Hp)} (h : nextL τ σ x = some L) : ∃ r ∈ L, OpOK P E base V σ W ((execOp ρ ⟨dst, .next x false, ty, pos, after, guard⟩).run P W) (.val r.1 r.2) := by
 unfold nextL at h
 split at h
 · rename_i id hx
   split at h
   · rename_i m since seen last hget
     split at h
     · rename_i es bs ck hgm
       obtain⟨blk,sh,hm,hbase,hlt,rfl,mb,hmb,hobj⟩:=H.obj _ _ hget (by simp)
       obtain⟨blk2,sh2,hm2,_,hlt2,rfl,en,hobj2,hv1,hv2,rfl⟩:=H.obj _ _ hgm (by simp)
       rw[hmb] at hm2;simp only[Option.some.injEq,Prod.mk.injEq,and_true] at hm2;subst hm2
       have hX:ρ x=.pointer (some ⟨blk,0,none⟩):=by
        have:=hρ x _ hx
        generalize ρ x=X at this
        cases this with
        |iter _ blk' hm'=>rw[hm] at hm';simp only[Option.some.injEq,Prod.mk.injEq,and_true] at hm';subst hm';rfl
       have hg:=getObj_run (P:=P) hE H hb hρ hobj (by intro c t f e;cases e)
       have hg2:=getObj_run (P:=P) hE H hb hρ hobj2 (by intro c t f e;cases e)
       split at h
       · cases h
       · rename_i hcond
         have hc:(!seen.toArray.isEmpty&&!en.isEmpty&&en.all (fun e=>decide (e.born ≥ last)))=false:=by
          cases seen with
          |nil=>rfl
          | cons a seen =>
           cases hes:es with
           |nil=>
            subst hes
            have:en.toList.length=0:=by have:=hv1.1;simpa using this.symm
            have:en=#[]:=Array.toList_eq_nil_iff.1 (List.eq_nil_of_length_eq_zero this)
            subst this;simp
           | cons y es' =>
            rw[hes] at hcond
            simp only[allB_eq] at hcond
            have:en.all (fun e=>decide (e.born ≥ last))=false:=by
             rw[← Array.all_toList]
             rw[List.all_map] at hcond
             exact hcond
            rw[this,Bool.and_false]
         obtain⟨hll,hls⟩:=left_all (V:=V) (seen:=seen) hv1 hv2
         have hfilt:en.filter (fun e=>!seen.toArray.contains e.born)=(en.toList.filter fun e=>!seen.contains e.born).toArray:=by
          apply Array.ext'
          rw[Array.toList_filter]
          simp
         split at h
         · rename_i hl
           simp only[Option.some.injEq] at h;subst h
           rw[hl] at hll
           refine⟨_,List.mem_cons_self,.same H (v':=.tuple #[.bool false]) ?_ (VR.tup' (A:=[.bool false]) (.cons (.bool _) (.nil _)))⟩
           have hf0:en.filter (fun e=>!seen.toArray.contains e.born)=#[]:=by rw[hfilt,List.eq_nil_of_length_eq_zero hll.symm]
           simp only[execOp,Instr.next,hX,Sem.run_bind,hg,hg2,Result.andThen_ok,hc,Bool.false_eq_true,if_false,hf0]
           simp[Question.forced]
         · rename_i y l hl
           split at h
           · rename_i hold
             simp only[Option.some.injEq] at h;subst h
             rw[hl] at hll hls
             have hold':=oldAll_spec hold
             have hF:∀ e∈en.toList.filter (fun e=>!seen.contains e.born),e.born<since:=fun e he=>by
              obtain⟨j,hj,hje⟩:=List.getElem_of_mem he
              obtain⟨k,v,h1,_,_⟩:=hls j e (by rw[List.getElem?_eq_getElem hj,hje])
              exact hold' _ (List.mem_of_getElem? h1)
             obtain⟨i,W1,hi,hW1,hch⟩:=run_choose_next (P:=P) (W:=W) (n:=(en.toList.filter fun e=>!seen.contains e.born).length) (by rw[← hll];exact Nat.succ_pos _)
             have he:(en.toList.filter fun e=>!seen.contains e.born)[i]?=some ((en.toList.filter fun e=>!seen.contains e.born)[i]):=List.getElem?_eq_getElem hi
             obtain⟨k,v,h1,hk,hv⟩:=hls i _ he
             refine⟨_,List.mem_map.2 ⟨_,List.mem_of_getElem? h1,rfl⟩,?_⟩
             generalize hee:(en.toList.filter fun e=>!seen.contains e.born)[i]=e at he h1 hk hv
             have H1:HR E base V σ W1:=by
              rcases hW1 with rfl|rfl
              · exact H
              · exact H.drew
             have hobj1:W1.heap[blk]?=some (.mapIter (some mb) since seen.toArray last):=by rcases hW1 with rfl|rfl<;>exact hobj
             have hb1:base≤W1.heap.size:=by rcases hW1 with rfl|rfl<;>exact hb
             have hlt1:blk<W1.heap.size:=by rcases hW1 with rfl|rfl<;>exact hlt
             have hset:=setObj_run (P:=P) hE H1 hb1 hρ hobj1 (by intro c t f e;cases e) (o':=.mapIter (some mb) since (seen++[e.born]).toArray ck)
             have hup:=upd_obj hE H1 hb1 hρ hget (by simp) hm hobj1 (by intro c t f e;cases e) (obj':=.mapIter (some mb) since (seen++[e.born]).toArray ck) (o':=.miter m since (seen++[e.born]) ck) ⟨rfl,mb,hmb,by simp[hlt1]⟩
             have hstp:Stp E base V σ W V (σ.set id (.miter m since (seen++[e.born]) ck)) { W1 with heap:=W1.heap.setIfInBounds blk (.mapIter (some mb) since (seen++[e.born]).toArray ck) }:=by
              rcases hW1 with h1|h1
              · rw[h1] at hup⊢;exact hup
              · rw[h1] at hup⊢;exact hup.of_drew
             refine⟨V,_,.tuple #[.bool true,e.key,e.val],?_,hstp,VR.tup' (A:=[.bool true,e.key,e.val]) (.cons (.bool _) (.cons hk (.cons hv (.nil _))))⟩
             have hfs:en.filter (fun e=>!seen.toArray.contains e.born)=(en.toList.filter fun e=>!seen.contains e.born).toArray:=hfilt
             generalize hFL:(en.toList.filter fun e=>!seen.contains e.born)=F at hfs hF hi hch hee he hll
             have o1:F.toArray.filter (fun x=>decide (x.born<since))=F.toArray:=by
              apply Array.ext'
              rw[Array.toList_filter]
              exact List.filter_eq_self.2 fun e he=>decide_eq_true (hF e he)
             have o2:F.toArray.filter (fun x=>decide (x.born ≥ since))=#[]:=by
              apply Array.ext'
              rw[Array.toList_filter]
              exact List.filter_eq_nil_iff.2 fun e he=>by have:=hF e he;simp;omega
             have hne:F.toArray.isEmpty=false:=by
              cases F with
              |nil=>simp at hi
              |cons a F=>rfl
             simp only[execOp,Instr.next,hX,Sem.run_bind,hg,hg2,Result.andThen_ok,hc,Bool.false_eq_true,if_false,hfs,o1,o2,hne,Array.append_empty,Array.empty_append]
             have e3:(Array.map some F.toArray).size=F.length:=by simp
             have e4:(Array.map some F.toArray)[i]?=some (some e):=by simp[he]
             simp only[e3,hch,Result.andThen_ok,e4,Sem.run_bind]
             rw[← List.push_toArray] at hset
             simp only[hset,Result.andThen_ok,Sem.run_pure]
             rw[List.push_toArray]
           · cases h
     · cases h
   · cases h
 · cases h
end
end Go.Eng

