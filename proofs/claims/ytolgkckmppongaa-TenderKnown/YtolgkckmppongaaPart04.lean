/-
  THE ENGINE: one more part of it.
-/
import Derived.Test.YtolgkckmppongaaPart03
import Derived.ProofKit
set_option linter.unusedSectionVars false
set_option linter.unusedSimpArgs false
set_option linter.unusedVariables false
set_option maxRecDepth 100000
namespace Go.Proofs.Ytolgkckmppongaa
open Go Go.Eng
noncomputable def firI0 (x:tX.den) (x8:Int) (x9:List AV) (x19:Nat):Cfg:=⟨.ex (pcOf F1 87 [0,0,1,0,1]) ⟨(tmOf 22 [(0,(.cp (Ty.cells tX (x)) 0)),(2,(.ptr 0 0)),(5,(.cp (Ty.cells tX (x)) 0)),(6,(.cp (Ty.cells tX (x)) 0)),(7,(.cp (Ty.cells tX (x)) 0)),(8,(.cp (Ty.cells tX (x)) 1)),(9,(.vs tN (x.1.2.1.1) (x.1.2.1.2))),(10,(.int .i64 (Int.ofNat x.1.2.1.2.length))),(11,(.int .i64 x8))]),(hpOf 1 [(0,(.cells false x9))]),[],[],22,false⟩,⟨12,[]⟩,[(.lop (pcOf F1 87 [0,0,1,0,1]) 1 (tmOf 22 [(0,(.cp (Ty.cells tX (x)) 0)),(2,(.ptr 0 0)),(5,(.cp (Ty.cells tX (x)) 0)),(6,(.cp (Ty.cells tX (x)) 0)),(7,(.cp (Ty.cells tX (x)) 0)),(8,(.cp (Ty.cells tX (x)) 1)),(9,(.vs tN (x.1.2.1.1) (x.1.2.1.2))),(10,(.int .i64 (Int.ofNat x.1.2.1.2.length))),(11,(.int .i64 (0)))]) x19),(.blk 0),(.seq (pcOf F1 87 [1,1])),(.cal [(.cell 2 73)] .top)]⟩
theorem fir_start (x:tX.den):adv F1 ((Z1 [87]).flat [0]) 3000 (startC F1 87 [tX.pv x] 12)=some (.stop (firI0 x (0) ([AV.int IntKind.i64 0,AV.int IntKind.i64 0,AV.int IntKind.i64 0]) (1048575))):=by kernel_rfl
noncomputable def fulI0 (x:tX.den) (x8:Int) (x9:List AV) (x19:Nat):Cfg:=⟨.ex (pcOf F1 73 [0,0,1,0,1]) ⟨(tmOf 22 [(0,(.cp (Ty.cells tX (x)) 0)),(2,(.ptr 0 0)),(5,(.cp (Ty.cells tX (x)) 0)),(6,(.cp (Ty.cells tX (x)) 0)),(7,(.cp (Ty.cells tX (x)) 0)),(8,(.cp (Ty.cells tX (x)) 1)),(9,(.vs tN (x.1.2.1.1) (x.1.2.1.2))),(10,(.int .i64 (Int.ofNat x.1.2.1.2.length))),(11,(.int .i64 x8))]),(hpOf 1 [(0,(.cells false x9))]),[],[],22,false⟩,⟨12,[]⟩,[(.lop (pcOf F1 73 [0,0,1,0,1]) 1 (tmOf 22 [(0,(.cp (Ty.cells tX (x)) 0)),(2,(.ptr 0 0)),(5,(.cp (Ty.cells tX (x)) 0)),(6,(.cp (Ty.cells tX (x)) 0)),(7,(.cp (Ty.cells tX (x)) 0)),(8,(.cp (Ty.cells tX (x)) 1)),(9,(.vs tN (x.1.2.1.1) (x.1.2.1.2))),(10,(.int .i64 (Int.ofNat x.1.2.1.2.length))),(11,(.int .i64 (0)))]) x19),(.blk 0),(.seq (pcOf F1 73 [1,1])),(.cal [(.cell 2 73)] .top)]⟩
theorem ful_start (x:tX.den):adv F1 ((Z1 [73]).flat [0]) 3000 (startC F1 73 [tX.pv x] 12)=some (.stop (fulI0 x (0) ([AV.int IntKind.i64 0,AV.int IntKind.i64 0,AV.int IntKind.i64 0]) (1048575))):=by kernel_rfl
theorem nex_start (l:tL.den):adv F1 (Z1 []) 3000 (startC F1 88 [tL.av l] 12)=some (.done (.agg [(.int .i64 (bif ile (wr .i64 (l.1-1)) 0 then 0 else wr .i64 (l.1-1))),(.int .i64 (bif ile (wr .i64 (l.2.1-1)) 0 then 0 else wr .i64 (l.2.1-1))),(.int .i64 (bif ile (wr .i64 (l.2.2.1-1)) 0 then 0 else wr .i64 (l.2.2.1-1)))])):=by kernel_rfl
noncomputable def indI0 (f:tB.den) (x16:Int) (x35:Nat):Cfg:=⟨.ex (pcOf F1 65 [0,0,1,0,1]) ⟨(tmOf 17 [(0,(.agg [(.bool (f.1)),(.bool (f.2.1)),(.bool (f.2.2.1)),(.bool (f.2.2.2.1)),(.bool (f.2.2.2.2.1)),(.bool (f.2.2.2.2.2.1)),(.bool (f.2.2.2.2.2.2.1)),(.bool (f.2.2.2.2.2.2.2.1))])),(1,(.ptr 0 0)),(2,.nils),(5,(.agg [(.bool (f.1)),(.bool (f.2.1)),(.bool (f.2.2.1)),(.bool (f.2.2.2.1)),(.bool (f.2.2.2.2.1)),(.bool (f.2.2.2.2.2.1)),(.bool (f.2.2.2.2.2.2.1)),(.bool (f.2.2.2.2.2.2.2.1))])),(6,(.int .i64 x16))]),(hpOf 1 [(0,(.cells false ([AV.bool f.1,AV.bool f.2.1,AV.bool f.2.2.1,AV.bool f.2.2.2.1,AV.bool f.2.2.2.2.1,AV.bool f.2.2.2.2.2.1,AV.bool f.2.2.2.2.2.2.1,AV.bool f.2.2.2.2.2.2.2.1])))]),[],[],17,false⟩,⟨12,[]⟩,[(.lop (pcOf F1 65 [0,0,1,0,1]) 1 (tmOf 17 [(0,(.agg [(.bool (f.1)),(.bool (f.2.1)),(.bool (f.2.2.1)),(.bool (f.2.2.2.1)),(.bool (f.2.2.2.2.1)),(.bool (f.2.2.2.2.2.1)),(.bool (f.2.2.2.2.2.2.1)),(.bool (f.2.2.2.2.2.2.2.1))])),(1,(.ptr 0 0)),(2,.nils),(5,(.agg [(.bool (f.1)),(.bool (f.2.1)),(.bool (f.2.2.1)),(.bool (f.2.2.2.1)),(.bool (f.2.2.2.2.1)),(.bool (f.2.2.2.2.2.1)),(.bool (f.2.2.2.2.2.2.1)),(.bool (f.2.2.2.2.2.2.2.1))])),(6,(.int .i64 (0)))]) x35),(.blk 0),(.seq (pcOf F1 65 [1,1])),(.cal [(.tmp 2)] .top)]⟩
noncomputable def indI1 (f:tB.den) (x8:Nat) (x18:Int) (x20:List AV) (x38:Nat):Cfg:=⟨.ex (pcOf F1 65 [0,0,1,0,1]) ⟨(tmOf 17 [(0,(.agg [(.bool (f.1)),(.bool (f.2.1)),(.bool (f.2.2.1)),(.bool (f.2.2.2.1)),(.bool (f.2.2.2.2.1)),(.bool (f.2.2.2.2.2.1)),(.bool (f.2.2.2.2.2.2.1)),(.bool (f.2.2.2.2.2.2.2.1))])),(1,(.ptr 0 0)),(2,(.sl 1 0 x8 x8 1)),(5,(.agg [(.bool (f.1)),(.bool (f.2.1)),(.bool (f.2.2.1)),(.bool (f.2.2.2.1)),(.bool (f.2.2.2.2.1)),(.bool (f.2.2.2.2.2.1)),(.bool (f.2.2.2.2.2.2.1)),(.bool (f.2.2.2.2.2.2.2.1))])),(6,(.int .i64 x18))]),(hpOf 2 [(0,(.cells false ([AV.bool f.1,AV.bool f.2.1,AV.bool f.2.2.1,AV.bool f.2.2.2.1,AV.bool f.2.2.2.2.1,AV.bool f.2.2.2.2.2.1,AV.bool f.2.2.2.2.2.2.1,AV.bool f.2.2.2.2.2.2.2.1]))),(1,(.cells false x20))]),[],[],17,false⟩,⟨12,[]⟩,[(.lop (pcOf F1 65 [0,0,1,0,1]) 1 (tmOf 17 [(0,(.agg [(.bool (f.1)),(.bool (f.2.1)),(.bool (f.2.2.1)),(.bool (f.2.2.2.1)),(.bool (f.2.2.2.2.1)),(.bool (f.2.2.2.2.2.1)),(.bool (f.2.2.2.2.2.2.1)),(.bool (f.2.2.2.2.2.2.2.1))])),(1,(.ptr 0 0)),(2,.nils),(5,(.agg [(.bool (f.1)),(.bool (f.2.1)),(.bool (f.2.2.1)),(.bool (f.2.2.2.1)),(.bool (f.2.2.2.2.1)),(.bool (f.2.2.2.2.2.1)),(.bool (f.2.2.2.2.2.2.1)),(.bool (f.2.2.2.2.2.2.2.1))])),(6,(.int .i64 (0)))]) x38),(.blk 0),(.seq (pcOf F1 65 [1,1])),(.cal [(.tmp 2)] .top)]⟩
theorem ind_start (f:tB.den):adv F1 (Z1 [65]) 3000 (startC F1 65 [tB.av f] 12)=some (.stop (indI0 f (0) (1048575))):=by kernel_rfl
theorem ind_step0 (f:tB.den) (x16:Int) (x35:Nat):adv F1 (Z1 [65]) 3000 (indI0 f x16 (x35+1))=(bif !ile 8 x16 then (bif inB x16 8 then (bif isZs [AV.bool f.1,AV.bool f.2.1,AV.bool f.2.2.1,AV.bool f.2.2.2.1,AV.bool f.2.2.2.2.1,AV.bool f.2.2.2.2.2.1,AV.bool f.2.2.2.2.2.2.1,AV.bool f.2.2.2.2.2.2.2.1] [AV.bool false] (x16.toNat * 1) then (bif toB ([AV.bool f.1,AV.bool f.2.1,AV.bool f.2.2.1,AV.bool f.2.2.2.1,AV.bool f.2.2.2.2.1,AV.bool f.2.2.2.2.2.1,AV.bool f.2.2.2.2.2.2.1,AV.bool f.2.2.2.2.2.2.2.1].getD (x16.toNat * 1) AV.nili) then some (.stop (indI1 f (1) (wr .i64 (x16+1)) ([AV.int IntKind.i64 x16]) (x35))) else some (.stop (indI0 f (wr .i64 (x16+1)) (x35)))) else none) else none) else some (.done .nils)):=by kernel_rfl
theorem ind_step1 (f:tB.den) (x8:Nat) (x18:Int) (x20:List AV) (x38:Nat):adv F1 (Z1 [65]) 3000 (indI1 f x8 x18 x20 (x38+1))=(bif !ile 8 x18 then (bif inB x18 8 then (bif isZs [AV.bool f.1,AV.bool f.2.1,AV.bool f.2.2.1,AV.bool f.2.2.2.1,AV.bool f.2.2.2.2.1,AV.bool f.2.2.2.2.2.1,AV.bool f.2.2.2.2.2.2.1,AV.bool f.2.2.2.2.2.2.2.1] [AV.bool false] (x18.toNat * 1) then (bif toB ([AV.bool f.1,AV.bool f.2.1,AV.bool f.2.2.1,AV.bool f.2.2.2.1,AV.bool f.2.2.2.2.1,AV.bool f.2.2.2.2.2.1,AV.bool f.2.2.2.2.2.2.1,AV.bool f.2.2.2.2.2.2.2.1].getD (x18.toNat * 1) AV.nili) then (bif (0+x8 * 1).beq x20.length then (bif x8.ble 1048576 then (bif plO (AO.cells false (x20++[AV.int IntKind.i64 x18])) then some (.stop (indI1 f (x8+1) (wr .i64 (x18+1)) (x20++[AV.int IntKind.i64 x18]) (x38))) else none) else none) else none) else (bif plO (AO.cells false x20) then some (.stop (indI1 f (x8) (wr .i64 (x18+1)) (x20) (x38))) else none)) else none) else none) else (bif plainL x20 then some (.done (.csl (x20) (x8))) else none)):=by kernel_rfl
theorem ile_t {a b:Int} (h:a≤b):ile a b=true:=by rw[ile_iff];exact decide_eq_true h
theorem ile_f {a b:Int} (h:b<a):ile a b=false:=by rw[ile_iff];exact decide_eq_false (by omega)
theorem ile_le {a b:Int} (h:ile a b=true):a≤b:=by rw[ile_iff] at h;exact of_decide_eq_true h
theorem ieq_eq {a b:Int} (h:ieq a b=true):a=b:=by rw[ieq_iff] at h;exact of_decide_eq_true h
theorem flatI_len (l:List Int):(flat tI l).length=l.length:=by
 induction l with
 |nil=>rfl
 |cons a l ih=>show (AV.int .i64 a::flat tI l).length=_;rw[List.length_cons,ih];rfl
theorem flatI_plain (l:List Int):plainL (flat tI l)=true:=by
 induction l with
 |nil=>rfl
 |cons a l ih=>exact ih
theorem flatI_add (l:List Int) (x:Int):flat tI l++[.int .i64 x]=flat tI (l++[x]):=by
 unfold flat;rw[List.flatMap_append];rfl
theorem nI_big {x:tX.den} {j:Nat} (h:x.1.2.1.2.length≤j):nI x j=tN.dflt:=by
 unfold nI;rw[List.getD_eq_getElem?_getD,List.getElem?_eq_none_iff.2 h];rfl
theorem fir_k0 (x:tX.den) (a b c:Int) (m:Nat):adv F1 ((Z1 [87]).flat [0]) 3000 (firI0 x 0 [iI a,iI b,iI c] (m+1))=(bif !ile (Int.ofNat x.1.2.1.2.length) 0 then (bif inB 0 x.1.2.1.2.length then some (.stop (firI0 x 1 [iI (x.1.2.1.2.getD 0 tN.dflt).2.2.1,iI b,iI c] m)) else none) else some (.done (.agg [iI a,iI b,iI c]))):=by kernel_rfl
theorem fir_k1 (x:tX.den) (a b c:Int) (m:Nat):adv F1 ((Z1 [87]).flat [0]) 3000 (firI0 x 1 [iI a,iI b,iI c] (m+1))=(bif !ile (Int.ofNat x.1.2.1.2.length) 1 then (bif inB 1 x.1.2.1.2.length then some (.stop (firI0 x 2 [iI a,iI (x.1.2.1.2.getD 1 tN.dflt).2.2.1,iI c] m)) else none) else some (.done (.agg [iI a,iI b,iI c]))):=by kernel_rfl
theorem fir_k2 (x:tX.den) (a b c:Int) (m:Nat):adv F1 ((Z1 [87]).flat [0]) 3000 (firI0 x 2 [iI a,iI b,iI c] (m+1))=(bif !ile (Int.ofNat x.1.2.1.2.length) 2 then (bif inB 2 x.1.2.1.2.length then some (.stop (firI0 x 3 [iI a,iI b,iI (x.1.2.1.2.getD 2 tN.dflt).2.2.1] m)) else none) else some (.done (.agg [iI a,iI b,iI c]))):=by kernel_rfl
theorem fir_k3 (x:tX.den) (a b c:Int) (m:Nat):adv F1 ((Z1 [87]).flat [0]) 3000 (firI0 x 3 [iI a,iI b,iI c] (m+1))=(bif !ile (Int.ofNat x.1.2.1.2.length) 3 then (bif inB 3 x.1.2.1.2.length then none else none) else some (.done (.agg [iI a,iI b,iI c]))):=by kernel_rfl
theorem fir_call {x:tX.den} (hx:x.1.2.1.2.length≤3):AnsF F1 87 [tX.pv x] (tL.av (firV x)):=by
 refine Ans.call (n:=12) (ext_none (by kernel_rfl)) (hasB_spec (by kernel_rfl)) ?_
 refine .stop (Sy.flat_ok (Z1_ok _)) F1sy (fir_start x) ?_
 have h:=fir_k0 x (0) (0) (0) 1048574
 by_cases c0:0<x.1.2.1.2.length
 rotate_left
 · rw [ile_t (show Int.ofNat x.1.2.1.2.length ≤ 0 by show ((x.1.2.1.2.length : Nat) : Int) ≤ 0; omega), Bool.not_true, cond_false] at h
   refine .done (Sy.flat_ok (Z1_ok _)) F1sy h ?_
   show _=AV.agg [iI (nI x 0).2.2.1,iI (nI x 1).2.2.1,iI (nI x 2).2.2.1]
   rw[nI_big (x:=x) (j:=0) (by omega),nI_big (x:=x) (j:=1) (by omega),nI_big (x:=x) (j:=2) (by omega)]
   rfl
 rw[ile_f (show (0:Int)<Int.ofNat x.1.2.1.2.length by show (0:Int)<((x.1.2.1.2.length:Nat):Int);omega),show inB 0 x.1.2.1.2.length=true from inB_at c0,Bool.not_false,cond_true,cond_true] at h
 refine .stop (Sy.flat_ok (Z1_ok _)) F1sy h ?_
 have h:=fir_k1 x ((x.1.2.1.2.getD 0 tN.dflt).2.2.1) (0) (0) 1048573
 by_cases c1:1<x.1.2.1.2.length
 rotate_left
 · rw [ile_t (show Int.ofNat x.1.2.1.2.length ≤ 1 by show ((x.1.2.1.2.length : Nat) : Int) ≤ 1; omega), Bool.not_true, cond_false] at h
   refine .done (Sy.flat_ok (Z1_ok _)) F1sy h ?_
   show _=AV.agg [iI (nI x 0).2.2.1,iI (nI x 1).2.2.1,iI (nI x 2).2.2.1]
   rw[nI_big (x:=x) (j:=1) (by omega),nI_big (x:=x) (j:=2) (by omega)]
   rfl
 rw[ile_f (show (1:Int)<Int.ofNat x.1.2.1.2.length by show (1:Int)<((x.1.2.1.2.length:Nat):Int);omega),show inB 1 x.1.2.1.2.length=true from inB_at c1,Bool.not_false,cond_true,cond_true] at h
 refine .stop (Sy.flat_ok (Z1_ok _)) F1sy h ?_
 have h:=fir_k2 x ((x.1.2.1.2.getD 0 tN.dflt).2.2.1) ((x.1.2.1.2.getD 1 tN.dflt).2.2.1) (0) 1048572
 by_cases c2:2<x.1.2.1.2.length
 rotate_left
 · rw [ile_t (show Int.ofNat x.1.2.1.2.length ≤ 2 by show ((x.1.2.1.2.length : Nat) : Int) ≤ 2; omega), Bool.not_true, cond_false] at h
   refine .done (Sy.flat_ok (Z1_ok _)) F1sy h ?_
   show _=AV.agg [iI (nI x 0).2.2.1,iI (nI x 1).2.2.1,iI (nI x 2).2.2.1]
   rw[nI_big (x:=x) (j:=2) (by omega)]
   rfl
 rw[ile_f (show (2:Int)<Int.ofNat x.1.2.1.2.length by show (2:Int)<((x.1.2.1.2.length:Nat):Int);omega),show inB 2 x.1.2.1.2.length=true from inB_at c2,Bool.not_false,cond_true,cond_true] at h
 refine .stop (Sy.flat_ok (Z1_ok _)) F1sy h ?_
 have h:=fir_k3 x ((x.1.2.1.2.getD 0 tN.dflt).2.2.1) ((x.1.2.1.2.getD 1 tN.dflt).2.2.1) ((x.1.2.1.2.getD 2 tN.dflt).2.2.1) 1048571
 rw[ile_t (show Int.ofNat x.1.2.1.2.length≤3 by show ((x.1.2.1.2.length:Nat):Int)≤3;omega),Bool.not_true,cond_false] at h
 exact .done (Sy.flat_ok (Z1_ok _)) F1sy h rfl
theorem ful_k0 (x:tX.den) (a b c:Int) (m:Nat):adv F1 ((Z1 [73]).flat [0]) 3000 (fulI0 x 0 [iI a,iI b,iI c] (m+1))=(bif !ile (Int.ofNat x.1.2.1.2.length) 0 then (bif inB 0 x.1.2.1.2.length then some (.stop (fulI0 x 1 [iI (x.1.2.1.2.getD 0 tN.dflt).2.1,iI b,iI c] m)) else none) else some (.done (.agg [iI a,iI b,iI c]))):=by kernel_rfl
theorem ful_k1 (x:tX.den) (a b c:Int) (m:Nat):adv F1 ((Z1 [73]).flat [0]) 3000 (fulI0 x 1 [iI a,iI b,iI c] (m+1))=(bif !ile (Int.ofNat x.1.2.1.2.length) 1 then (bif inB 1 x.1.2.1.2.length then some (.stop (fulI0 x 2 [iI a,iI (x.1.2.1.2.getD 1 tN.dflt).2.1,iI c] m)) else none) else some (.done (.agg [iI a,iI b,iI c]))):=by kernel_rfl
theorem ful_k2 (x:tX.den) (a b c:Int) (m:Nat):adv F1 ((Z1 [73]).flat [0]) 3000 (fulI0 x 2 [iI a,iI b,iI c] (m+1))=(bif !ile (Int.ofNat x.1.2.1.2.length) 2 then (bif inB 2 x.1.2.1.2.length then some (.stop (fulI0 x 3 [iI a,iI b,iI (x.1.2.1.2.getD 2 tN.dflt).2.1] m)) else none) else some (.done (.agg [iI a,iI b,iI c]))):=by kernel_rfl
theorem ful_k3 (x:tX.den) (a b c:Int) (m:Nat):adv F1 ((Z1 [73]).flat [0]) 3000 (fulI0 x 3 [iI a,iI b,iI c] (m+1))=(bif !ile (Int.ofNat x.1.2.1.2.length) 3 then (bif inB 3 x.1.2.1.2.length then none else none) else some (.done (.agg [iI a,iI b,iI c]))):=by kernel_rfl
theorem ful_call {x:tX.den} (hx:x.1.2.1.2.length≤3):AnsF F1 73 [tX.pv x] (tL.av (fulV x)):=by
 refine Ans.call (n:=12) (ext_none (by kernel_rfl)) (hasB_spec (by kernel_rfl)) ?_
 refine .stop (Sy.flat_ok (Z1_ok _)) F1sy (ful_start x) ?_
 have h:=ful_k0 x (0) (0) (0) 1048574
 by_cases c0:0<x.1.2.1.2.length
 rotate_left
 · rw [ile_t (show Int.ofNat x.1.2.1.2.length ≤ 0 by show ((x.1.2.1.2.length : Nat) : Int) ≤ 0; omega), Bool.not_true, cond_false] at h
   refine .done (Sy.flat_ok (Z1_ok _)) F1sy h ?_
   show _=AV.agg [iI (nI x 0).2.1,iI (nI x 1).2.1,iI (nI x 2).2.1]
   rw[nI_big (x:=x) (j:=0) (by omega),nI_big (x:=x) (j:=1) (by omega),nI_big (x:=x) (j:=2) (by omega)]
   rfl
 rw[ile_f (show (0:Int)<Int.ofNat x.1.2.1.2.length by show (0:Int)<((x.1.2.1.2.length:Nat):Int);omega),show inB 0 x.1.2.1.2.length=true from inB_at c0,Bool.not_false,cond_true,cond_true] at h
 refine .stop (Sy.flat_ok (Z1_ok _)) F1sy h ?_
 have h:=ful_k1 x ((x.1.2.1.2.getD 0 tN.dflt).2.1) (0) (0) 1048573
 by_cases c1:1<x.1.2.1.2.length
 rotate_left
 · rw [ile_t (show Int.ofNat x.1.2.1.2.length ≤ 1 by show ((x.1.2.1.2.length : Nat) : Int) ≤ 1; omega), Bool.not_true, cond_false] at h
   refine .done (Sy.flat_ok (Z1_ok _)) F1sy h ?_
   show _=AV.agg [iI (nI x 0).2.1,iI (nI x 1).2.1,iI (nI x 2).2.1]
   rw[nI_big (x:=x) (j:=1) (by omega),nI_big (x:=x) (j:=2) (by omega)]
   rfl
 rw[ile_f (show (1:Int)<Int.ofNat x.1.2.1.2.length by show (1:Int)<((x.1.2.1.2.length:Nat):Int);omega),show inB 1 x.1.2.1.2.length=true from inB_at c1,Bool.not_false,cond_true,cond_true] at h
 refine .stop (Sy.flat_ok (Z1_ok _)) F1sy h ?_
 have h:=ful_k2 x ((x.1.2.1.2.getD 0 tN.dflt).2.1) ((x.1.2.1.2.getD 1 tN.dflt).2.1) (0) 1048572
 by_cases c2:2<x.1.2.1.2.length
 rotate_left
 · rw [ile_t (show Int.ofNat x.1.2.1.2.length ≤ 2 by show ((x.1.2.1.2.length : Nat) : Int) ≤ 2; omega), Bool.not_true, cond_false] at h
   refine .done (Sy.flat_ok (Z1_ok _)) F1sy h ?_
   show _=AV.agg [iI (nI x 0).2.1,iI (nI x 1).2.1,iI (nI x 2).2.1]
   rw[nI_big (x:=x) (j:=2) (by omega)]
   rfl
 rw[ile_f (show (2:Int)<Int.ofNat x.1.2.1.2.length by show (2:Int)<((x.1.2.1.2.length:Nat):Int);omega),show inB 2 x.1.2.1.2.length=true from inB_at c2,Bool.not_false,cond_true,cond_true] at h
 refine .stop (Sy.flat_ok (Z1_ok _)) F1sy h ?_
 have h:=ful_k3 x ((x.1.2.1.2.getD 0 tN.dflt).2.1) ((x.1.2.1.2.getD 1 tN.dflt).2.1) ((x.1.2.1.2.getD 2 tN.dflt).2.1) 1048571
 rw[ile_t (show Int.ofNat x.1.2.1.2.length≤3 by show ((x.1.2.1.2.length:Nat):Int)≤3;omega),Bool.not_true,cond_false] at h
 exact .done (Sy.flat_ok (Z1_ok _)) F1sy h rfl
theorem nex_call (l:tL.den):AnsF F1 88 [tL.av l] (tL.av (nexV l)):=by
 refine Ans.call (n:=12) (ext_none (by kernel_rfl)) (hasB_spec (by kernel_rfl)) ?_
 exact .done (Z1_ok _) F1sy (nex_start l) rfl
noncomputable abbrev flL (f:tB.den):List AV:=[AV.bool f.1,AV.bool f.2.1,AV.bool f.2.2.1,AV.bool f.2.2.2.1,AV.bool f.2.2.2.2.1,AV.bool f.2.2.2.2.2.1,AV.bool f.2.2.2.2.2.2.1,AV.bool f.2.2.2.2.2.2.2.1]
noncomputable def flB (f:tB.den) (k:Nat):Bool:=toB ((flL f).getD k .nili)
theorem fl_is (f:tB.den):∀ {k:Nat},k<8→isZs (flL f) [AV.bool false] k=true
 |0,_=>rfl|1,_=>rfl|2,_=>rfl|3,_=>rfl|4,_=>rfl|5,_=>rfl|6,_=>rfl|7,_=>rfl
 |k+8,h=>by omega
noncomputable def indK (f:tB.den):Nat→List Int
 |0=>[]
 |k+1=>indK f k++(bif flB f k then [(k:Int)] else [])
theorem indK8 (f:tB.den):indK f 8=indV f:=by
 show (((((((([]++_)++_)++_)++_)++_)++_)++_)++_)=_
 simp only[List.nil_append,List.append_assoc]
 rfl
theorem indK_len (f:tB.den):∀ k,(indK f k).length≤k
 |0=>Nat.le_refl _
 |k+1=>by
  have:=indK_len f k
  show (indK f k++_).length≤_
  rw[List.length_append]
  cases flB f k<;>simp<;>omega
theorem ind_ansB {f:tB.den}:∀ (r k m:Nat),k+r=8→r<m→indK f k≠[]→Ans F1 (indI1 f (indK f k).length k (flat tI (indK f k)) m) (.vs tI (noI (indV f)) (indV f))
 |0,k,m+1,hk,hm,hn=>by
  have hk8:k=8:=by omega
  subst hk8
  have h:=ind_step1 f (indK f 8).length (8:Nat) (flat tI (indK f 8)) m
  rw[show ile 8 ((8:Nat):Int)=true from rfl,Bool.not_true,cond_false,flatI_plain,cond_true] at h
  rw[← indK8]
  refine .doneT (Z1_ok _) F1sy h ?_
  cases e:indK f 8 with
  |nil=>exact absurd e hn
  |cons a l=>exact Tells.csl
 | r + 1, k, m + 1, hk, hm, hn => by
  have h:=ind_step1 f (indK f k).length k (flat tI (indK f k)) m
  have hlt:k<8:=by omega
  have hl:=indK_len f k
  rw[ile_f (show (k:Int)<8 by omega),inB_at hlt,show ((k:Nat):Int).toNat * 1=k by simp,Nat.mul_one,Nat.zero_add,flatI_len,wr_succ (by omega),Nat.ble_eq_true_of_le (show (indK f k).length≤1048576 by omega),show (indK f k).length.beq (indK f k).length=true from Nat.beq_refl _] at h
  simp only[Bool.not_false,cond_true] at h
  rw[fl_is f hlt,cond_true,show toB ((flL f).getD k AV.nili)=flB f k from rfl] at h
  have e:indK f (k+1)=indK f k++(bif flB f k then [(k:Int)] else []):=rfl
  cases c:flB f k with
  |true=>
   rw[c,cond_true] at h e
   rw[flatI_add,← e,show plO (AO.cells false (flat tI (indK f (k+1))))=true from flatI_plain _,cond_true,show (indK f k).length+1=(indK f (k+1)).length by rw[e,List.length_append];rfl] at h
   exact .stop (Z1_ok _) F1sy h (ind_ansB r (k+1) m (by omega) (by omega) (by rw[e];simp))
  |false=>
   rw[c,cond_false] at h
   rw[c,cond_false,List.append_nil] at e
   rw[show plO (AO.cells false (flat tI (indK f k)))=true from flatI_plain _,cond_true] at h
   have h2:=ind_ansB (f:=f) r (k+1) m (by omega) (by omega) (by rw[e];exact hn)
   rw[e] at h2
   exact .stop (Z1_ok _) F1sy h h2
theorem ind_ansA {f:tB.den}:∀ (r k m:Nat),k+r=8→r<m→indK f k=[]→Ans F1 (indI0 f k m) (.vs tI (noI (indV f)) (indV f))
 |0,k,m+1,hk,hm,hn=>by
  have hk8:k=8:=by omega
  subst hk8
  have h:=ind_step0 f (8:Nat) m
  rw[show ile 8 ((8:Nat):Int)=true from rfl,Bool.not_true,cond_false] at h
  rw[← indK8,hn]
  exact .doneT (Z1_ok _) F1sy h Tells.nils
 | r + 1, k, m + 1, hk, hm, hn => by
  have h:=ind_step0 f k m
  have hlt:k<8:=by omega
  rw[ile_f (show (k:Int)<8 by omega),inB_at hlt,show ((k:Nat):Int).toNat * 1=k by simp,wr_succ (by omega)] at h
  simp only[Bool.not_false,cond_true] at h
  rw[fl_is f hlt,cond_true,show toB ((flL f).getD k AV.nili)=flB f k from rfl] at h
  have e:indK f (k+1)=indK f k++(bif flB f k then [(k:Int)] else []):=rfl
  rw[hn,List.nil_append] at e
  cases c:flB f k with
  |true=>
   rw[c,cond_true] at h e
   have h2:=ind_ansB (f:=f) r (k+1) m (by omega) (by omega) (by rw[e];simp)
   rw[e] at h2
   exact .stop (Z1_ok _) F1sy h h2
  |false=>
   rw[c,cond_false] at h e
   exact .stop (Z1_ok _) F1sy h (ind_ansA r (k+1) m (by omega) (by omega) e)
theorem ind_call (f:tB.den):AnsF F1 65 [tB.av f] (.vs tI (noI (indV f)) (indV f)):=by
 refine Ans.call (n:=12) (ext_none (by kernel_rfl)) (hasB_spec (by kernel_rfl)) ?_
 exact .stop (Z1_ok _) F1sy (ind_start f) (ind_ansA 8 0 1048575 rfl (by omega) rfl)
theorem LB_ok:∀ e∈LB,SaidG Try.prog F1.glob e:=
 saids_cons (SaidOK.g f1 xf1 nf1 tabs_ok.mix (fun _ _ h=>conP1_spec (t:=tX) (fun x c=>fir_call (Nat.le_of_ble_eq_true c)) h) rfl)
 (saids_cons (SaidOK.g f1 xf1 nf1 tabs_ok.mix (fun _ _ h=>conP1_spec (t:=tX) (fun x c=>ful_call (Nat.le_of_ble_eq_true c)) h) rfl)
 (saids_cons (SaidOK.g f1 xf1 nf1 tabs_ok.mix (fun _ _ h=>con1_spec (t:=tL) (fun l _=>nex_call l) h) rfl)
 (saids_cons (SaidOK.g f1 xf1 nf1 tabs_ok.mix (fun _ _ h=>con1_spec (t:=tB) (fun f _=>ind_call f) h) rfl) saids_nil)))
theorem f2:EnvOK Try.prog F2:=f1.say _
theorem nf2:NameOK F2:=nf1.say _
theorem xf2:ExtOK Try.prog F2:=xf1.sayL LB_ok
theorem F2sy:F2.sy=true:=rfl
theorem Z2_ok (l:List Nat):(Z2 l).ok F2:=Sy.on_ok (Z1_ok _)
end Go.Proofs.Ytolgkckmppongaa


set_option maxRecDepth 100000
namespace Go.Proofs.Ytolgkckmppongaa
open Go Go.Eng
noncomputable def breI0 (x:tX.den) (f:tB.den) (x0:Int) (x14:Int) (x21:List AV) (x56:Nat):Cfg:=⟨.ex (pcOf F2 86 [0,0,1,1]) ⟨(tmOf 76 [(0,(.yld 6)),(1,(.ptr 4 0)),(2,(.ptr 5 0)),(4,(.ptr 7 0)),(5,(.ptr 8 0)),(6,(.int .i64 x0)),(10,(.cp (Ty.cells tX (x)) 0)),(11,(.agg [(.int .i64 ((firV x).1)),(.int .i64 ((firV x).2.1)),(.int .i64 ((firV x).2.2.1))])),(12,(.cp (Ty.cells tX (x)) 0)),(13,(.agg [(.int .i64 ((fulV x).1)),(.int .i64 ((fulV x).2.1)),(.int .i64 ((fulV x).2.2.1))])),(14,(.cp (Ty.cells tX (x)) 0)),(15,(.cp (Ty.cells tX (x)) 0)),(16,(.cp (Ty.cells tX (x)) 0)),(17,(.cp (Ty.cells tX (x)) 0)),(18,(.int .i64 (x.1.1))),(19,(.int .i64 x14))]),(hpOf 9 [(0,(.cells false [(.cp (Ty.cells tX (x)) 0)])),(1,(.cells false ([AV.bool f.1,AV.bool f.2.1,AV.bool f.2.2.1,AV.bool f.2.2.2.1,AV.bool f.2.2.2.2.1,AV.bool f.2.2.2.2.2.1,AV.bool f.2.2.2.2.2.2.1,AV.bool f.2.2.2.2.2.2.2.1]))),(2,(.cells false ([AV.nils,AV.int IntKind.i64 0,AV.int IntKind.i64 0]))),(3,(.cells false [(.bool (false))])),(4,(.cells false [(.cp (Ty.cells tX (x)) 0)])),(5,(.cells false ([AV.bool f.1,AV.bool f.2.1,AV.bool f.2.2.1,AV.bool f.2.2.2.1,AV.bool f.2.2.2.2.1,AV.bool f.2.2.2.2.2.1,AV.bool f.2.2.2.2.2.2.1,AV.bool f.2.2.2.2.2.2.2.1]))),(7,(.cells false x21)),(8,(.cells false ([AV.int IntKind.i64 (fulV x).1,AV.int IntKind.i64 (fulV x).2.1,AV.int IntKind.i64 (fulV x).2.2.1])))]),[],[⟨false,.normal⟩],76,false⟩,⟨19,[⟨6,30,20,(tmOf 30 [(0,(.cp (Ty.cells tX (x)) 0)),(1,(.agg [(.bool (f.1)),(.bool (f.2.1)),(.bool (f.2.2.1)),(.bool (f.2.2.2.1)),(.bool (f.2.2.2.2.1)),(.bool (f.2.2.2.2.2.1)),(.bool (f.2.2.2.2.2.2.1)),(.bool (f.2.2.2.2.2.2.2.1))])),(2,(.ptr 0 0)),(3,(.ptr 1 0)),(4,(.ptr 2 0)),(5,(.ptr 3 0)),(9,(.cp (Ty.cells tX (x)) 0)),(10,(.agg [(.bool (f.1)),(.bool (f.2.1)),(.bool (f.2.2.1)),(.bool (f.2.2.2.1)),(.bool (f.2.2.2.2.1)),(.bool (f.2.2.2.2.2.1)),(.bool (f.2.2.2.2.2.2.1)),(.bool (f.2.2.2.2.2.2.2.1))])),(11,(.fn 86 [] [(.ptr 4 0),(.ptr 5 0)]))]),#[12,13],(pcOf F2 43 [0,0,1,0,1]),(pcOf F2 43 [1,0,1,0,1])⟩]⟩,[(.lop (pcOf F2 86 [0,0,1,1]) 9 (tmOf 76 [(0,(.yld 6)),(1,(.ptr 4 0)),(2,(.ptr 5 0)),(4,(.ptr 7 0)),(5,(.ptr 8 0)),(6,(.int .i64 (0))),(10,(.cp (Ty.cells tX (x)) 0)),(11,(.agg [(.int .i64 ((firV x).1)),(.int .i64 ((firV x).2.1)),(.int .i64 ((firV x).2.2.1))])),(12,(.cp (Ty.cells tX (x)) 0)),(13,(.agg [(.int .i64 ((fulV x).1)),(.int .i64 ((fulV x).2.1)),(.int .i64 ((fulV x).2.2.1))])),(14,(.cp (Ty.cells tX (x)) 0)),(15,(.cp (Ty.cells tX (x)) 0)),(16,(.cp (Ty.cells tX (x)) 0)),(17,(.cp (Ty.cells tX (x)) 0)),(18,(.int .i64 (x.1.1))),(19,(.int .i64 (0)))]) x56),(.blk 0),(.cal [] (.rng (tmOf 30 [(0,(.cp (Ty.cells tX (x)) 0)),(1,(.agg [(.bool (f.1)),(.bool (f.2.1)),(.bool (f.2.2.1)),(.bool (f.2.2.2.1)),(.bool (f.2.2.2.2.1)),(.bool (f.2.2.2.2.2.1)),(.bool (f.2.2.2.2.2.2.1)),(.bool (f.2.2.2.2.2.2.2.1))])),(2,(.ptr 0 0)),(3,(.ptr 1 0)),(4,(.ptr 2 0)),(5,(.ptr 3 0)),(9,(.cp (Ty.cells tX (x)) 0)),(10,(.agg [(.bool (f.1)),(.bool (f.2.1)),(.bool (f.2.2.1)),(.bool (f.2.2.2.1)),(.bool (f.2.2.2.2.1)),(.bool (f.2.2.2.2.2.1)),(.bool (f.2.2.2.2.2.2.1)),(.bool (f.2.2.2.2.2.2.2.1))])),(11,(.fn 86 [] [(.ptr 4 0),(.ptr 5 0)]))]) [] 30 false ⟨20,[]⟩)),(.blk 0),(.seq (pcOf F2 43 [1,1])),(.cal [(.cell 4 79),(.cell 5 4)] .top)]⟩
noncomputable def breI2 (x:tX.den) (f:tB.den) (x0:Int) (x1:Int) (x27:Bool) (x35:Int) (x36:Bool) (x37:List (Ty.den tI)) (x43:Bool) (x46:Nat) (x47:Bool) (x63:Int) (x64:Int) (x71:List AV) (x156:Nat) (x172:Nat):Cfg:=⟨.ex (pcOf F2 86 [0,0,1,0,1,0,0,1,0,1,1,0,0,1,1,0,0,1,1]) ⟨(tmOf 76 [(0,(.yld 6)),(1,(.ptr 4 0)),(2,(.ptr 5 0)),(4,(.ptr 7 0)),(5,(.ptr 8 0)),(6,(.int .i64 x0)),(7,(.int .i64 x1)),(10,(.cp (Ty.cells tX (x)) 0)),(11,(.agg [(.int .i64 ((firV x).1)),(.int .i64 ((firV x).2.1)),(.int .i64 ((firV x).2.2.1))])),(12,(.cp (Ty.cells tX (x)) 0)),(13,(.agg [(.int .i64 ((fulV x).1)),(.int .i64 ((fulV x).2.1)),(.int .i64 ((fulV x).2.2.1))])),(14,(.cp (Ty.cells tX (x)) 0)),(15,(.cp (Ty.cells tX (x)) 0)),(16,(.cp (Ty.cells tX (x)) 0)),(17,(.cp (Ty.cells tX (x)) 0)),(18,(.int .i64 (x.1.1))),(19,(.int .i64 x1)),(20,(.bool (true))),(21,(.int .i64 x1)),(22,(.int .i64 x1)),(23,(.bool (false))),(26,(.int .i64 x0)),(27,(.cp (Ty.cells tX (x)) 0)),(28,(.cp (Ty.cells tX (x)) 0)),(29,(.cp (Ty.cells tX (x)) 6)),(30,(.vs tO (x.2.1.1) (x.2.1.2))),(31,(.int .i64 (Int.ofNat x.2.1.2.length))),(32,(.bool x27)),(33,(.bool (true))),(34,(.cp (Ty.cells tX (x)) 0)),(35,(.cp (Ty.cells tX (x)) 0)),(36,(.cp (Ty.cells tX (x)) 6)),(37,(.vs tO (x.2.1.1) (x.2.1.2))),(38,(.int .i64 x0)),(39,(.cp [(.int .i64 x35),(.vs tI x36 x37)] 0)),(40,(.cp [(.int .i64 x35),(.vs tI x36 x37)] 0)),(41,(.int .i64 x35)),(42,(.int .i64 x1)),(43,(.bool x43)),(44,(.bool (true))),(45,(.int .i64 x0)),(46,(.ptr 5 x46)),(47,(.bool x47)),(48,(.bool (true))),(49,(.cp (Ty.cells tX (x)) 0)),(50,(.cp (Ty.cells tX (x)) 0)),(51,(.cp (Ty.cells tX (x)) 6)),(52,(.vs tO (x.2.1.1) (x.2.1.2))),(53,(.int .i64 x0)),(54,(.cp [(.int .i64 x35),(.vs tI x36 x37)] 0)),(55,(.cp [(.int .i64 x35),(.vs tI x36 x37)] 1)),(56,(.vs tI x36 x37)),(57,(.int .i64 x63)),(58,(.int .i64 x64))]),(hpOf 9 [(0,(.cells false [(.cp (Ty.cells tX (x)) 0)])),(1,(.cells false ([AV.bool f.1,AV.bool f.2.1,AV.bool f.2.2.1,AV.bool f.2.2.2.1,AV.bool f.2.2.2.2.1,AV.bool f.2.2.2.2.2.1,AV.bool f.2.2.2.2.2.2.1,AV.bool f.2.2.2.2.2.2.2.1]))),(2,(.cells false ([AV.nils,AV.int IntKind.i64 0,AV.int IntKind.i64 0]))),(3,(.cells false [(.bool (false))])),(4,(.cells false [(.cp (Ty.cells tX (x)) 0)])),(5,(.cells false ([AV.bool f.1,AV.bool f.2.1,AV.bool f.2.2.1,AV.bool f.2.2.2.1,AV.bool f.2.2.2.2.1,AV.bool f.2.2.2.2.2.1,AV.bool f.2.2.2.2.2.2.1,AV.bool f.2.2.2.2.2.2.2.1]))),(7,(.cells false x71)),(8,(.cells false ([AV.int IntKind.i64 (fulV x).1,AV.int IntKind.i64 (fulV x).2.1,AV.int IntKind.i64 (fulV x).2.2.1])))]),[],[⟨false,.normal⟩],76,false⟩,⟨19,[⟨6,30,20,(tmOf 30 [(0,(.cp (Ty.cells tX (x)) 0)),(1,(.agg [(.bool (f.1)),(.bool (f.2.1)),(.bool (f.2.2.1)),(.bool (f.2.2.2.1)),(.bool (f.2.2.2.2.1)),(.bool (f.2.2.2.2.2.1)),(.bool (f.2.2.2.2.2.2.1)),(.bool (f.2.2.2.2.2.2.2.1))])),(2,(.ptr 0 0)),(3,(.ptr 1 0)),(4,(.ptr 2 0)),(5,(.ptr 3 0)),(9,(.cp (Ty.cells tX (x)) 0)),(10,(.agg [(.bool (f.1)),(.bool (f.2.1)),(.bool (f.2.2.1)),(.bool (f.2.2.2.1)),(.bool (f.2.2.2.2.1)),(.bool (f.2.2.2.2.2.1)),(.bool (f.2.2.2.2.2.2.1)),(.bool (f.2.2.2.2.2.2.2.1))])),(11,(.fn 86 [] [(.ptr 4 0),(.ptr 5 0)]))]),#[12,13],(pcOf F2 43 [0,0,1,0,1]),(pcOf F2 43 [1,0,1,0,1])⟩]⟩,[(.lop (pcOf F2 86 [0,0,1,0,1,0,0,1,0,1,1,0,0,1,1,0,0,1,1]) 9 (tmOf 76 [(0,(.yld 6)),(1,(.ptr 4 0)),(2,(.ptr 5 0)),(4,(.ptr 7 0)),(5,(.ptr 8 0)),(6,(.int .i64 x0)),(7,(.int .i64 x1)),(10,(.cp (Ty.cells tX (x)) 0)),(11,(.agg [(.int .i64 ((firV x).1)),(.int .i64 ((firV x).2.1)),(.int .i64 ((firV x).2.2.1))])),(12,(.cp (Ty.cells tX (x)) 0)),(13,(.agg [(.int .i64 ((fulV x).1)),(.int .i64 ((fulV x).2.1)),(.int .i64 ((fulV x).2.2.1))])),(14,(.cp (Ty.cells tX (x)) 0)),(15,(.cp (Ty.cells tX (x)) 0)),(16,(.cp (Ty.cells tX (x)) 0)),(17,(.cp (Ty.cells tX (x)) 0)),(18,(.int .i64 (x.1.1))),(19,(.int .i64 x1)),(20,(.bool (true))),(21,(.int .i64 x1)),(22,(.int .i64 x1)),(23,(.bool (false))),(26,(.int .i64 x0)),(27,(.cp (Ty.cells tX (x)) 0)),(28,(.cp (Ty.cells tX (x)) 0)),(29,(.cp (Ty.cells tX (x)) 6)),(30,(.vs tO (x.2.1.1) (x.2.1.2))),(31,(.int .i64 (Int.ofNat x.2.1.2.length))),(32,(.bool x27)),(33,(.bool (true))),(34,(.cp (Ty.cells tX (x)) 0)),(35,(.cp (Ty.cells tX (x)) 0)),(36,(.cp (Ty.cells tX (x)) 6)),(37,(.vs tO (x.2.1.1) (x.2.1.2))),(38,(.int .i64 x0)),(39,(.cp [(.int .i64 x35),(.vs tI x36 x37)] 0)),(40,(.cp [(.int .i64 x35),(.vs tI x36 x37)] 0)),(41,(.int .i64 x35)),(42,(.int .i64 x1)),(43,(.bool x43)),(44,(.bool (true))),(45,(.int .i64 x0)),(46,(.ptr 5 x46)),(47,(.bool x47)),(48,(.bool (true))),(49,(.cp (Ty.cells tX (x)) 0)),(50,(.cp (Ty.cells tX (x)) 0)),(51,(.cp (Ty.cells tX (x)) 6)),(52,(.vs tO (x.2.1.1) (x.2.1.2))),(53,(.int .i64 x0)),(54,(.cp [(.int .i64 x35),(.vs tI x36 x37)] 0)),(55,(.cp [(.int .i64 x35),(.vs tI x36 x37)] 1)),(56,(.vs tI x36 x37)),(57,(.int .i64 x63)),(58,(.int .i64 (0)))]) x156),(.blk 2),(.seq (pcOf F2 86 [1,0,1,0,1,1,0,0,1,1,0,0,1,1])),(.seq (pcOf F2 86 [1,1,1,0,0,1,1,0,0,1,1])),(.blk 1),(.seq (pcOf F2 86 [1,1,1,0,0,1,1])),(.lop (pcOf F2 86 [0,0,1,1]) 9 (tmOf 76 [(0,(.yld 6)),(1,(.ptr 4 0)),(2,(.ptr 5 0)),(4,(.ptr 7 0)),(5,(.ptr 8 0)),(6,(.int .i64 (0))),(10,(.cp (Ty.cells tX (x)) 0)),(11,(.agg [(.int .i64 ((firV x).1)),(.int .i64 ((firV x).2.1)),(.int .i64 ((firV x).2.2.1))])),(12,(.cp (Ty.cells tX (x)) 0)),(13,(.agg [(.int .i64 ((fulV x).1)),(.int .i64 ((fulV x).2.1)),(.int .i64 ((fulV x).2.2.1))])),(14,(.cp (Ty.cells tX (x)) 0)),(15,(.cp (Ty.cells tX (x)) 0)),(16,(.cp (Ty.cells tX (x)) 0)),(17,(.cp (Ty.cells tX (x)) 0)),(18,(.int .i64 (x.1.1))),(19,(.int .i64 (0)))]) x172),(.blk 0),(.cal [] (.rng (tmOf 30 [(0,(.cp (Ty.cells tX (x)) 0)),(1,(.agg [(.bool (f.1)),(.bool (f.2.1)),(.bool (f.2.2.1)),(.bool (f.2.2.2.1)),(.bool (f.2.2.2.2.1)),(.bool (f.2.2.2.2.2.1)),(.bool (f.2.2.2.2.2.2.1)),(.bool (f.2.2.2.2.2.2.2.1))])),(2,(.ptr 0 0)),(3,(.ptr 1 0)),(4,(.ptr 2 0)),(5,(.ptr 3 0)),(9,(.cp (Ty.cells tX (x)) 0)),(10,(.agg [(.bool (f.1)),(.bool (f.2.1)),(.bool (f.2.2.1)),(.bool (f.2.2.2.1)),(.bool (f.2.2.2.2.1)),(.bool (f.2.2.2.2.2.1)),(.bool (f.2.2.2.2.2.2.1)),(.bool (f.2.2.2.2.2.2.2.1))])),(11,(.fn 86 [] [(.ptr 4 0),(.ptr 5 0)]))]) [] 30 false ⟨20,[]⟩)),(.blk 0),(.seq (pcOf F2 43 [1,1])),(.cal [(.cell 4 79),(.cell 5 4)] .top)]⟩
noncomputable def breI3 (x:tX.den) (f:tB.den) (x0:Int) (x1:Int) (x20:Int) (x21:Int) (x22:Int) (x23:Int) (x24:Int) (x25:Int) (x33:Bool) (x41:Int) (x42:Bool) (x43:List (Ty.den tI)) (x49:Bool) (x52:Nat) (x53:Bool) (x69:Int) (x70:Int) (x77:List AV) (x168:Nat) (x184:Nat):Cfg:=⟨.ex (pcOf F2 86 [0,0,1,0,1,0,0,1,0,1,1,0,0,1,1,0,0,1,1]) ⟨(tmOf 76 [(0,(.yld 6)),(1,(.ptr 4 0)),(2,(.ptr 5 0)),(4,(.ptr 7 0)),(5,(.ptr 8 0)),(6,(.int .i64 x0)),(7,(.int .i64 x1)),(10,(.cp (Ty.cells tX (x)) 0)),(11,(.agg [(.int .i64 ((firV x).1)),(.int .i64 ((firV x).2.1)),(.int .i64 ((firV x).2.2.1))])),(12,(.cp (Ty.cells tX (x)) 0)),(13,(.agg [(.int .i64 ((fulV x).1)),(.int .i64 ((fulV x).2.1)),(.int .i64 ((fulV x).2.2.1))])),(14,(.cp (Ty.cells tX (x)) 0)),(15,(.cp (Ty.cells tX (x)) 0)),(16,(.cp (Ty.cells tX (x)) 0)),(17,(.cp (Ty.cells tX (x)) 0)),(18,(.int .i64 (x.1.1))),(19,(.int .i64 x1)),(20,(.bool (true))),(21,(.int .i64 x1)),(22,(.int .i64 x1)),(23,(.bool (true))),(24,(.agg [(.int .i64 x20),(.int .i64 x21),(.int .i64 x22)])),(25,(.agg [(.int .i64 x23),(.int .i64 x24),(.int .i64 x25)])),(26,(.int .i64 x0)),(27,(.cp (Ty.cells tX (x)) 0)),(28,(.cp (Ty.cells tX (x)) 0)),(29,(.cp (Ty.cells tX (x)) 6)),(30,(.vs tO (x.2.1.1) (x.2.1.2))),(31,(.int .i64 (Int.ofNat x.2.1.2.length))),(32,(.bool x33)),(33,(.bool (true))),(34,(.cp (Ty.cells tX (x)) 0)),(35,(.cp (Ty.cells tX (x)) 0)),(36,(.cp (Ty.cells tX (x)) 6)),(37,(.vs tO (x.2.1.1) (x.2.1.2))),(38,(.int .i64 x0)),(39,(.cp [(.int .i64 x41),(.vs tI x42 x43)] 0)),(40,(.cp [(.int .i64 x41),(.vs tI x42 x43)] 0)),(41,(.int .i64 x41)),(42,(.int .i64 x1)),(43,(.bool x49)),(44,(.bool (true))),(45,(.int .i64 x0)),(46,(.ptr 5 x52)),(47,(.bool x53)),(48,(.bool (true))),(49,(.cp (Ty.cells tX (x)) 0)),(50,(.cp (Ty.cells tX (x)) 0)),(51,(.cp (Ty.cells tX (x)) 6)),(52,(.vs tO (x.2.1.1) (x.2.1.2))),(53,(.int .i64 x0)),(54,(.cp [(.int .i64 x41),(.vs tI x42 x43)] 0)),(55,(.cp [(.int .i64 x41),(.vs tI x42 x43)] 1)),(56,(.vs tI x42 x43)),(57,(.int .i64 x69)),(58,(.int .i64 x70))]),(hpOf 9 [(0,(.cells false [(.cp (Ty.cells tX (x)) 0)])),(1,(.cells false ([AV.bool f.1,AV.bool f.2.1,AV.bool f.2.2.1,AV.bool f.2.2.2.1,AV.bool f.2.2.2.2.1,AV.bool f.2.2.2.2.2.1,AV.bool f.2.2.2.2.2.2.1,AV.bool f.2.2.2.2.2.2.2.1]))),(2,(.cells false ([AV.nils,AV.int IntKind.i64 0,AV.int IntKind.i64 0]))),(3,(.cells false [(.bool (false))])),(4,(.cells false [(.cp (Ty.cells tX (x)) 0)])),(5,(.cells false ([AV.bool f.1,AV.bool f.2.1,AV.bool f.2.2.1,AV.bool f.2.2.2.1,AV.bool f.2.2.2.2.1,AV.bool f.2.2.2.2.2.1,AV.bool f.2.2.2.2.2.2.1,AV.bool f.2.2.2.2.2.2.2.1]))),(7,(.cells false x77)),(8,(.cells false ([AV.int IntKind.i64 (fulV x).1,AV.int IntKind.i64 (fulV x).2.1,AV.int IntKind.i64 (fulV x).2.2.1])))]),[],[⟨false,.normal⟩],76,false⟩,⟨19,[⟨6,30,20,(tmOf 30 [(0,(.cp (Ty.cells tX (x)) 0)),(1,(.agg [(.bool (f.1)),(.bool (f.2.1)),(.bool (f.2.2.1)),(.bool (f.2.2.2.1)),(.bool (f.2.2.2.2.1)),(.bool (f.2.2.2.2.2.1)),(.bool (f.2.2.2.2.2.2.1)),(.bool (f.2.2.2.2.2.2.2.1))])),(2,(.ptr 0 0)),(3,(.ptr 1 0)),(4,(.ptr 2 0)),(5,(.ptr 3 0)),(9,(.cp (Ty.cells tX (x)) 0)),(10,(.agg [(.bool (f.1)),(.bool (f.2.1)),(.bool (f.2.2.1)),(.bool (f.2.2.2.1)),(.bool (f.2.2.2.2.1)),(.bool (f.2.2.2.2.2.1)),(.bool (f.2.2.2.2.2.2.1)),(.bool (f.2.2.2.2.2.2.2.1))])),(11,(.fn 86 [] [(.ptr 4 0),(.ptr 5 0)]))]),#[12,13],(pcOf F2 43 [0,0,1,0,1]),(pcOf F2 43 [1,0,1,0,1])⟩]⟩,[(.lop (pcOf F2 86 [0,0,1,0,1,0,0,1,0,1,1,0,0,1,1,0,0,1,1]) 9 (tmOf 76 [(0,(.yld 6)),(1,(.ptr 4 0)),(2,(.ptr 5 0)),(4,(.ptr 7 0)),(5,(.ptr 8 0)),(6,(.int .i64 x0)),(7,(.int .i64 x1)),(10,(.cp (Ty.cells tX (x)) 0)),(11,(.agg [(.int .i64 ((firV x).1)),(.int .i64 ((firV x).2.1)),(.int .i64 ((firV x).2.2.1))])),(12,(.cp (Ty.cells tX (x)) 0)),(13,(.agg [(.int .i64 ((fulV x).1)),(.int .i64 ((fulV x).2.1)),(.int .i64 ((fulV x).2.2.1))])),(14,(.cp (Ty.cells tX (x)) 0)),(15,(.cp (Ty.cells tX (x)) 0)),(16,(.cp (Ty.cells tX (x)) 0)),(17,(.cp (Ty.cells tX (x)) 0)),(18,(.int .i64 (x.1.1))),(19,(.int .i64 x1)),(20,(.bool (true))),(21,(.int .i64 x1)),(22,(.int .i64 x1)),(23,(.bool (true))),(24,(.agg [(.int .i64 x20),(.int .i64 x21),(.int .i64 x22)])),(25,(.agg [(.int .i64 x23),(.int .i64 x24),(.int .i64 x25)])),(26,(.int .i64 x0)),(27,(.cp (Ty.cells tX (x)) 0)),(28,(.cp (Ty.cells tX (x)) 0)),(29,(.cp (Ty.cells tX (x)) 6)),(30,(.vs tO (x.2.1.1) (x.2.1.2))),(31,(.int .i64 (Int.ofNat x.2.1.2.length))),(32,(.bool x33)),(33,(.bool (true))),(34,(.cp (Ty.cells tX (x)) 0)),(35,(.cp (Ty.cells tX (x)) 0)),(36,(.cp (Ty.cells tX (x)) 6)),(37,(.vs tO (x.2.1.1) (x.2.1.2))),(38,(.int .i64 x0)),(39,(.cp [(.int .i64 x41),(.vs tI x42 x43)] 0)),(40,(.cp [(.int .i64 x41),(.vs tI x42 x43)] 0)),(41,(.int .i64 x41)),(42,(.int .i64 x1)),(43,(.bool x49)),(44,(.bool (true))),(45,(.int .i64 x0)),(46,(.ptr 5 x52)),(47,(.bool x53)),(48,(.bool (true))),(49,(.cp (Ty.cells tX (x)) 0)),(50,(.cp (Ty.cells tX (x)) 0)),(51,(.cp (Ty.cells tX (x)) 6)),(52,(.vs tO (x.2.1.1) (x.2.1.2))),(53,(.int .i64 x0)),(54,(.cp [(.int .i64 x41),(.vs tI x42 x43)] 0)),(55,(.cp [(.int .i64 x41),(.vs tI x42 x43)] 1)),(56,(.vs tI x42 x43)),(57,(.int .i64 x69)),(58,(.int .i64 (0)))]) x168),(.blk 2),(.seq (pcOf F2 86 [1,0,1,0,1,1,0,0,1,1,0,0,1,1])),(.seq (pcOf F2 86 [1,1,1,0,0,1,1,0,0,1,1])),(.blk 1),(.seq (pcOf F2 86 [1,1,1,0,0,1,1])),(.lop (pcOf F2 86 [0,0,1,1]) 9 (tmOf 76 [(0,(.yld 6)),(1,(.ptr 4 0)),(2,(.ptr 5 0)),(4,(.ptr 7 0)),(5,(.ptr 8 0)),(6,(.int .i64 (0))),(10,(.cp (Ty.cells tX (x)) 0)),(11,(.agg [(.int .i64 ((firV x).1)),(.int .i64 ((firV x).2.1)),(.int .i64 ((firV x).2.2.1))])),(12,(.cp (Ty.cells tX (x)) 0)),(13,(.agg [(.int .i64 ((fulV x).1)),(.int .i64 ((fulV x).2.1)),(.int .i64 ((fulV x).2.2.1))])),(14,(.cp (Ty.cells tX (x)) 0)),(15,(.cp (Ty.cells tX (x)) 0)),(16,(.cp (Ty.cells tX (x)) 0)),(17,(.cp (Ty.cells tX (x)) 0)),(18,(.int .i64 (x.1.1))),(19,(.int .i64 (0)))]) x184),(.blk 0),(.cal [] (.rng (tmOf 30 [(0,(.cp (Ty.cells tX (x)) 0)),(1,(.agg [(.bool (f.1)),(.bool (f.2.1)),(.bool (f.2.2.1)),(.bool (f.2.2.2.1)),(.bool (f.2.2.2.2.1)),(.bool (f.2.2.2.2.2.1)),(.bool (f.2.2.2.2.2.2.1)),(.bool (f.2.2.2.2.2.2.2.1))])),(2,(.ptr 0 0)),(3,(.ptr 1 0)),(4,(.ptr 2 0)),(5,(.ptr 3 0)),(9,(.cp (Ty.cells tX (x)) 0)),(10,(.agg [(.bool (f.1)),(.bool (f.2.1)),(.bool (f.2.2.1)),(.bool (f.2.2.2.1)),(.bool (f.2.2.2.2.1)),(.bool (f.2.2.2.2.2.1)),(.bool (f.2.2.2.2.2.2.1)),(.bool (f.2.2.2.2.2.2.2.1))])),(11,(.fn 86 [] [(.ptr 4 0),(.ptr 5 0)]))]) [] 30 false ⟨20,[]⟩)),(.blk 0),(.seq (pcOf F2 43 [1,1])),(.cal [(.cell 4 79),(.cell 5 4)] .top)]⟩
theorem bre_start (x:tX.den) (f:tB.den):adv F2 ((Z2 [86]).flat [7]) 3000 (startC F2 43 [tX.pv x,tB.av f] 20)=(bif x.1.2.1.2.length.ble 3 then (bif x.1.2.1.2.length.ble 3 then (bif avbeq (AV.cp (tX.cells x) 0) (AV.cp (tX.cells x) 0) then (bif avbeq (AV.cp (tX.cells x) 0) (AV.cp (tX.cells x) 0) then (bif avbeq (AV.cp (tX.cells x) 0) (AV.cp (tX.cells x) 0) then some (.stop (breI0 x f (0) (0) ([AV.int IntKind.i64 (firV x).1,AV.int IntKind.i64 (firV x).2.1,AV.int IntKind.i64 (firV x).2.2.1]) (1048575))) else none) else none) else none) else none) else none):=by kernel_rfl
theorem avL_app:∀ (a b:List AV),avbeqL a a=true→avbeqL b b=true→avbeqL (a++b) (a++b)=true
 |[],b,_,h=>h
 |x::a,b,h1,h2=>by
  rw[List.cons_append,avbeqL]
  rw[avbeqL] at h1
  cases c:avbeq x x with
  |false=>rw[c] at h1;cases h1
  |true=>rw[c] at h1;exact avL_app a b h1 h2
theorem avL_one {x:AV} (h:avbeq x x=true):avbeqL [x] [x]=true:=by rw[avbeqL,h];rfl
theorem cells_refl:∀ (t:Ty) (d:t.den),avbeqL (t.cells d) (t.cells d)=true
 | .int k, n => avL_one (by
   show (match ikb k k with|true=>ieq n n|false=>false)=true
   rw[ieq_self];cases k<;>rfl)
 |.bool,b=>avL_one (by cases b<;>rfl)
 |.str,s=>avL_one (lbeq_self s)
 |.nil,_=>rfl
 |.cons t ts,d=>avL_app _ _ (cells_refl t d.1) (cells_refl ts d.2)
 | .sl t, d => avL_one (by
   show (match bbeq d.1 d.1 with|true=>vsB t d.2 t d.2|false=>false)=true
   rw[bbeq_self];exact vsB_self t d.2)
theorem cpX (x:tX.den):avbeq (AV.cp (tX.cells x) 0) (AV.cp (tX.cells x) 0)=true:=by
 show (match Nat.beq 0 0 with|true=>avbeqL (tX.cells x) (tX.cells x)|false=>false)=true
 exact cells_refl tX x
noncomputable abbrev nlX (x:tX.den):Nat:=x.1.2.1.2.length
noncomputable abbrev olX (x:tX.den):Nat:=x.2.1.2.length
noncomputable def ordI (x:tX.den) (o:Nat):tO.den:=x.2.1.2.getD o tO.dflt
noncomputable abbrev trL (l:tL.den):List AV:=[.int .i64 l.1,.int .i64 l.2.1,.int .i64 l.2.2.1]
noncomputable def hitV (f:tB.den) (d k:Int):AV:=.tup [.agg [.vs tI (noI (indV f)) (indV f),.int .i64 d,.int .i64 k],.bool true]
noncomputable def missV:AV:=.tup [.agg [.nils,.int .i64 0,.int .i64 0],.bool false]
noncomputable def brX (x:tX.den) (f:tB.den) (o d:Int) (l:tL.den) (m:Nat):Option Out:=(bif inB (nlX x:Int) (3+1) then (bif !ile (nlX x:Int) 0 then (bif inB 0 (nlX x) then (bif ieq 0 l.1 then some (.done (hitV f d 0)) else (bif !ile (nlX x:Int) (wr .i64 (0+1)) then (bif inB (wr .i64 (0+1)) (nlX x) then (bif ieq 0 l.2.1 then some (.done (hitV f d 1)) else (bif !ile (nlX x:Int) (wr .i64 (wr .i64 (0+1)+1)) then (bif inB (wr .i64 (wr .i64 (0+1)+1)) (nlX x) then (bif ieq 0 l.2.2.1 then some (.done (hitV f d 2)) else (bif !ile (nlX x:Int) (wr .i64 (wr .i64 (wr .i64 (0+1)+1)+1)) then (bif inB ((wr .i64 (wr .i64 (wr .i64 (0+1)+1)+1))) (nlX x) then none else none) else some (.stop (breI0 x f o (wr .i64 (d+1)) (trL l) m)))) else none) else some (.stop (breI0 x f o (wr .i64 (d+1)) (trL l) m)))) else none) else some (.stop (breI0 x f o (wr .i64 (d+1)) (trL l) m)))) else none) else some (.stop (breI0 x f o (wr .i64 (d+1)) (trL l) m))) else none)
noncomputable def in2 (x:tX.den) (f:tB.den) (o d k:Int) (c:List AV) (m n:Nat):Cfg:=breI2 x f o d (!ile (olX x:Int) o) (x.2.1.2.getD o.toNat tO.dflt).1 (x.2.1.2.getD o.toNat tO.dflt).2.1.1 (x.2.1.2.getD o.toNat tO.dflt).2.1.2 (ieq (x.2.1.2.getD o.toNat tO.dflt).1 d) (0+o.toNat * 1) (toB ((flL f).getD (0+o.toNat * 1) AV.nili)) (Int.ofNat (x.2.1.2.getD o.toNat tO.dflt).2.1.2.length) k c m n
noncomputable def in3 (x:tX.den) (f:tB.den) (o d k:Int) (l:tL.den) (c:List AV) (m n:Nat):Cfg:=breI3 x f o d l.1 l.2.1 l.2.2.1 (nexV l).1 (nexV l).2.1 (nexV l).2.2.1 (!ile (olX x:Int) o) (x.2.1.2.getD o.toNat tO.dflt).1 (x.2.1.2.getD o.toNat tO.dflt).2.1.1 (x.2.1.2.getD o.toNat tO.dflt).2.1.2 (ieq (x.2.1.2.getD o.toNat tO.dflt).1 d) (0+o.toNat * 1) (toB ((flL f).getD (0+o.toNat * 1) AV.nili)) (Int.ofNat (x.2.1.2.getD o.toNat tO.dflt).2.1.2.length) k c m n
theorem bre0 (x:tX.den) (f:tB.den) (o d:Int) (l:tL.den) (m:Nat):adv F2 ((Z2 [86]).flat [7]) 3000 (breI0 x f o d (trL l) (m+1))=(bif !ile x.1.1 d then (bif !ile d 0 then (bif !ile (olX x:Int) o then (bif inB o (olX x) then (bif ieq (x.2.1.2.getD o.toNat tO.dflt).1 d then (bif inB o 8 then (bif isZs (flL f) [AV.bool false] (0+o.toNat * 1) then (bif !toB ((flL f).getD (0+o.toNat * 1) AV.nili) then (bif inB o (olX x) then some (.stop (in3 x f o d 0 l (trL (nexV l)) 1048575 (m+1))) else none) else brX x f (wr .i64 (o+1)) d (nexV l) m) else none) else none) else brX x f o d (nexV l) m) else none) else brX x f o d (nexV l) m) else (bif !ile (olX x:Int) o then (bif inB o (olX x) then (bif ieq (x.2.1.2.getD o.toNat tO.dflt).1 d then (bif inB o 8 then (bif isZs (flL f) [AV.bool false] (0+o.toNat * 1) then (bif !toB ((flL f).getD (0+o.toNat * 1) AV.nili) then (bif inB o (olX x) then some (.stop (in2 x f o d 0 (trL l) 1048575 (m+1))) else none) else brX x f (wr .i64 (o+1)) d l m) else none) else none) else brX x f o d l m) else none) else brX x f o d l m)) else some (.done missV)):=by kernel_rfl
theorem bre2 (x:tX.den) (f:tB.den) (o d k:Int) (l c:tL.den) (m n:Nat):adv F2 ((Z2 [86]).flat [7]) 3000 (in2 x f o d k (trL c) (m+1) (n+1))=(bif !ile (Int.ofNat (x.2.1.2.getD o.toNat tO.dflt).2.1.2.length) k then (bif inB k (x.2.1.2.getD o.toNat tO.dflt).2.1.2.length then (bif inB ((x.2.1.2.getD o.toNat tO.dflt).2.1.2.getD k.toNat tI.dflt) 3 then (bif isZs [AV.int .i64 (fulV x).1,AV.int .i64 (fulV x).2.1,AV.int .i64 (fulV x).2.2.1] [AV.int .i64 0] (0+Int.toNat ((x.2.1.2.getD o.toNat tO.dflt).2.1.2.getD k.toNat tI.dflt) * 1) then (bif inB ((x.2.1.2.getD o.toNat tO.dflt).2.1.2.getD k.toNat tI.dflt) 3 then (bif (0+Int.toNat ((x.2.1.2.getD o.toNat tO.dflt).2.1.2.getD k.toNat tI.dflt) * 1+1).ble 3 then (bif plO (AO.cells false ((trL c).set (0+Int.toNat ((x.2.1.2.getD o.toNat tO.dflt).2.1.2.getD k.toNat tI.dflt) * 1) (AV.int .i64 (toI ([AV.int .i64 (fulV x).1,AV.int .i64 (fulV x).2.1,AV.int .i64 (fulV x).2.2.1].getD (0+Int.toNat ((x.2.1.2.getD o.toNat tO.dflt).2.1.2.getD k.toNat tI.dflt) * 1) AV.nili))))) then some (.stop (in2 x f o d (wr .i64 (k+1)) ((trL c).set (0+Int.toNat ((x.2.1.2.getD o.toNat tO.dflt).2.1.2.getD k.toNat tI.dflt) * 1) (AV.int .i64 (toI ([AV.int .i64 (fulV x).1,AV.int .i64 (fulV x).2.1,AV.int .i64 (fulV x).2.2.1].getD (0+Int.toNat ((x.2.1.2.getD o.toNat tO.dflt).2.1.2.getD k.toNat tI.dflt) * 1) AV.nili)))) m (n+1))) else none) else none) else none) else none) else none) else none) else brX x f (wr .i64 (o+1)) d c n):=by kernel_rfl
theorem bre3 (x:tX.den) (f:tB.den) (o d k:Int) (l c:tL.den) (m n:Nat):adv F2 ((Z2 [86]).flat [7]) 3000 (in3 x f o d k l (trL c) (m+1) (n+1))=(bif !ile (Int.ofNat (x.2.1.2.getD o.toNat tO.dflt).2.1.2.length) k then (bif inB k (x.2.1.2.getD o.toNat tO.dflt).2.1.2.length then (bif inB ((x.2.1.2.getD o.toNat tO.dflt).2.1.2.getD k.toNat tI.dflt) 3 then (bif isZs [AV.int .i64 (fulV x).1,AV.int .i64 (fulV x).2.1,AV.int .i64 (fulV x).2.2.1] [AV.int .i64 0] (0+Int.toNat ((x.2.1.2.getD o.toNat tO.dflt).2.1.2.getD k.toNat tI.dflt) * 1) then (bif inB ((x.2.1.2.getD o.toNat tO.dflt).2.1.2.getD k.toNat tI.dflt) 3 then (bif (0+Int.toNat ((x.2.1.2.getD o.toNat tO.dflt).2.1.2.getD k.toNat tI.dflt) * 1+1).ble 3 then (bif plO (AO.cells false ((trL c).set (0+Int.toNat ((x.2.1.2.getD o.toNat tO.dflt).2.1.2.getD k.toNat tI.dflt) * 1) (AV.int .i64 (toI ([AV.int .i64 (fulV x).1,AV.int .i64 (fulV x).2.1,AV.int .i64 (fulV x).2.2.1].getD (0+Int.toNat ((x.2.1.2.getD o.toNat tO.dflt).2.1.2.getD k.toNat tI.dflt) * 1) AV.nili))))) then some (.stop (in3 x f o d (wr .i64 (k+1)) l ((trL c).set (0+Int.toNat ((x.2.1.2.getD o.toNat tO.dflt).2.1.2.getD k.toNat tI.dflt) * 1) (AV.int .i64 (toI ([AV.int .i64 (fulV x).1,AV.int .i64 (fulV x).2.1,AV.int .i64 (fulV x).2.2.1].getD (0+Int.toNat ((x.2.1.2.getD o.toNat tO.dflt).2.1.2.getD k.toNat tI.dflt) * 1) AV.nili)))) m (n+1))) else none) else none) else none) else none) else none) else none) else brX x f (wr .i64 (o+1)) d c n):=by kernel_rfl
end Go.Proofs.Ytolgkckmppongaa


set_option maxRecDepth 100000
namespace Go.Proofs.Ytolgkckmppongaa
open Go Go.Eng
noncomputable def setL (u l:tL.den) (n:Int):tL.den:=bif ieq n 0 then (u.1,l.2) else bif ieq n 1 then (l.1,u.2.1,l.2.2) else (l.1,l.2.1,u.2.2)
noncomputable def bringL (u:tL.den):List Int→tL.den→tL.den
 |[],l=>l
 |n::c,l=>bringL u c (setL u l n)
noncomputable def hitO (x:tX.den) (d o:Nat):Bool:=Nat.blt o (olX x)&&ieq (ordI x o).1 d
noncomputable def stM (x:tX.den) (f:tB.den) (d:Nat) (s:Nat×tL.den):Nat×tL.den:=
 bif hitO x d s.1 then (s.1+1,bif flB f s.1 then (bif Nat.beq d 0 then s.2 else nexV s.2) else bringL (fulV x) (ordI x s.1).2.1.2 (bif Nat.beq d 0 then s.2 else nexV s.2)) else (s.1,bif Nat.beq d 0 then s.2 else nexV s.2)
noncomputable def idx0 (n:Nat) (l:tL.den):Option Int:=bif Nat.blt 0 n&&ieq 0 l.1 then some 0 else bif Nat.blt 1 n&&ieq 0 l.2.1 then some 1 else bif Nat.blt 2 n&&ieq 0 l.2.2.1 then some 2 else none
noncomputable def brR (x:tX.den) (f:tB.den):Nat→Nat→Nat×tL.den→AV
 |0,_,_=>missV
 |r+1,d,s=>match idx0 (nlX x) (stM x f d s).2 with
  |some k=>hitV f d k
  |none=>brR x f r (d+1) (stM x f d s)
noncomputable def ordB (o:tO.den):Bool:=Nat.ble o.2.1.2.length 1000&&o.2.1.2.all (fun n=>inB n 3)
noncomputable def xokB (x:tX.den):Bool:=Nat.ble (nlX x) 3&&(Nat.ble (olX x) 8&&(x.2.1.2.all ordB&&ile x.1.1 1000))
structure XOK (x:tX.den):Prop where
 n:nlX x≤3
 o:olX x≤8
 c:∀ o<olX x,(ordI x o).2.1.2.length≤1000∧∀ n∈(ordI x o).2.1.2,inB n 3=true
 d:@LE.le Int _ x.1.1 1000
theorem xok {x:tX.den} (h:xokB x=true):XOK x:=by
 unfold xokB at h
 simp only[Bool.and_eq_true,List.all_eq_true] at h
 obtain⟨h1,h2,h3,h4⟩:=h
 refine⟨Nat.le_of_ble_eq_true h1,Nat.le_of_ble_eq_true h2,fun o ho=>?_,ile_le h4⟩
 have hm:ordI x o∈x.2.1.2:=by
  unfold ordI;rw[List.getD_eq_getElem?_getD,List.getElem?_eq_getElem ho];exact List.getElem_mem ho
 have:=h3 _ hm
 unfold ordB at this
 simp only[Bool.and_eq_true,List.all_eq_true] at this
 exact⟨Nat.le_of_ble_eq_true this.1,this.2⟩
theorem in3_cases {n:Int} (h:inB n 3=true):n=0∨n=1∨n=2:=by
 rw[inB_iff] at h;have:=of_decide_eq_true h;omega
theorem inn_at (x:tX.den) (c:tL.den) {n:Int} (h:inB n 3=true):isZs [AV.int .i64 (fulV x).1,AV.int .i64 (fulV x).2.1,AV.int .i64 (fulV x).2.2.1] [.int .i64 0] (0+Int.toNat n * 1)=true∧(0+Int.toNat n * 1+1).ble 3=true ∧
  (trL c).set (0+Int.toNat n * 1) (AV.int .i64 (toI ([AV.int .i64 (fulV x).1,AV.int .i64 (fulV x).2.1,AV.int .i64 (fulV x).2.2.1].getD (0+Int.toNat n * 1) AV.nili)))=trL (setL (fulV x) c n):=by
 rcases in3_cases h with rfl|rfl|rfl<;>exact⟨rfl,rfl,rfl⟩
theorem toNat_le {a:Int} {d:Nat} (h:d+0=a.toNat):a≤d:=by omega
theorem toNat_lt {a:Int} {d r:Nat} (h:d+(r+1)=a.toNat):(d:Int)<a:=by omega
theorem toNat_b {a:Int} {d r:Nat} (h:d+(r+1)=a.toNat) (k:a≤1000):d<1000:=by omega
theorem toNat_c {a:Int} (k:a≤1000):a.toNat≤1000:=by omega
noncomputable abbrev ZX:Sy:=(Z2 [86]).flat [7]
theorem ZX_ok:ZX.ok F2:=Sy.flat_ok (Z2_ok _)
theorem brX_ans {x:tX.den} {f:tB.den} (hn:nlX x≤3) {cfg:Cfg} {q:Nat} {o:Int} {d:Nat} (hd:d<1048577) {l:tL.den} {m:Nat} {V:AV} (h:adv F2 ((Z2 [86]).flat [7]) q cfg=brX x f o d l m)
  (hit:∀ k,idx0 (nlX x) l=some k→hitV f d k=V) (K:idx0 (nlX x) l=none→Ans F2 (breI0 x f o ((d+1:Nat):Int) (trL l) m) V):Ans F2 cfg V:=by
 unfold brX at h
 unfold idx0 at hit K
 rw[wr_succ hd] at h
 generalize nlX x=n at *
 cases c0:ieq 0 l.1<;>cases c1:ieq 0 l.2.1<;>cases c2:ieq 0 l.2.2.1<;>rw[c0,c1,c2] at h hit K <;>
  rcases (show n=0∨n=1∨n=2∨n=3 by omega) with rfl|rfl|rfl|rfl <;>
  first
  |exact .stop ZX_ok F2sy h (K rfl)
  |exact .done ZX_ok F2sy h (hit _ rfl)
theorem in2_ans {x:tX.den} {f:tB.den} (X:XOK x) {o d:Nat} (ho:o<olX x) {n:Nat} {V:AV} {w:tL.den}
  (K:∀ cfg q,adv F2 ((Z2 [86]).flat [7]) q cfg=brX x f ((o+1:Nat):Int) d w n→Ans F2 cfg V) :
  ∀ (r k m:Nat) (c:tL.den),k+r=(ordI x o).2.1.2.length→r<m→bringL (fulV x) ((ordI x o).2.1.2.drop k) c=w→Ans F2 (in2 x f o d k (trL c) m (n+1)) V
 |0,k,m+1,c,hk,hm,hw=>by
  have h:=bre2 x f o d k (0,0,0,()) c m n
  rw[show (x.2.1.2.getD ((o:Nat):Int).toNat tO.dflt)=ordI x o from rfl,ile_t (show Int.ofNat (ordI x o).2.1.2.length≤(k:Int) by show (((ordI x o).2.1.2.length:Nat):Int)≤k;omega),Bool.not_true,cond_false,wr_succ (show o<1048577 by have:=X.o;omega)] at h
  rw[List.drop_eq_nil_of_le (by omega)] at hw
  have hw:c=w:=hw
  subst hw
  exact K _ _ h
 |r+1,k,m+1,c,hk,hm,hw=>by
  have h:=bre2 x f o d k (0,0,0,()) c m n
  have hlt:k<(ordI x o).2.1.2.length:=by omega
  obtain⟨hl,hc⟩:=X.c o ho
  rw[show (x.2.1.2.getD ((o:Nat):Int).toNat tO.dflt)=ordI x o from rfl,ile_f (show (k:Int)<Int.ofNat (ordI x o).2.1.2.length by show (k:Int)<(((ordI x o).2.1.2.length:Nat):Int);omega),inB_at hlt,getD_at hlt,wr_succ (show k<1048577 by omega),Bool.not_false,cond_true,cond_true] at h
  rw[List.drop_eq_getElem_cons hlt] at hw
  have hi:=hc _ (List.getElem_mem hlt)
  obtain⟨a1,a2,a3⟩:=inn_at x c hi
  rw[hi,a1,a2,a3] at h
  exact .stop ZX_ok F2sy h (in2_ans X ho K r (k+1) m _ (by omega) (by omega) hw)
theorem in3_ans {x:tX.den} {f:tB.den} (X:XOK x) {o d:Nat} (ho:o<olX x) {l:tL.den} {n:Nat} {V:AV} {w:tL.den}
  (K:∀ cfg q,adv F2 ((Z2 [86]).flat [7]) q cfg=brX x f ((o+1:Nat):Int) d w n→Ans F2 cfg V) :
  ∀ (r k m:Nat) (c:tL.den),k+r=(ordI x o).2.1.2.length→r<m→bringL (fulV x) ((ordI x o).2.1.2.drop k) c=w→Ans F2 (in3 x f o d k l (trL c) m (n+1)) V
 |0,k,m+1,c,hk,hm,hw=>by
  have h:=bre3 x f o d k l c m n
  rw[show (x.2.1.2.getD ((o:Nat):Int).toNat tO.dflt)=ordI x o from rfl,ile_t (show Int.ofNat (ordI x o).2.1.2.length≤(k:Int) by show (((ordI x o).2.1.2.length:Nat):Int)≤k;omega),Bool.not_true,cond_false,wr_succ (show o<1048577 by have:=X.o;omega)] at h
  rw[List.drop_eq_nil_of_le (by omega)] at hw
  have hw:c=w:=hw
  subst hw
  exact K _ _ h
 |r+1,k,m+1,c,hk,hm,hw=>by
  have h:=bre3 x f o d k l c m n
  have hlt:k<(ordI x o).2.1.2.length:=by omega
  obtain⟨hl,hc⟩:=X.c o ho
  rw[show (x.2.1.2.getD ((o:Nat):Int).toNat tO.dflt)=ordI x o from rfl,ile_f (show (k:Int)<Int.ofNat (ordI x o).2.1.2.length by show (k:Int)<(((ordI x o).2.1.2.length:Nat):Int);omega),inB_at hlt,getD_at hlt,wr_succ (show k<1048577 by omega),Bool.not_false,cond_true,cond_true] at h
  rw[List.drop_eq_getElem_cons hlt] at hw
  have hi:=hc _ (List.getElem_mem hlt)
  obtain⟨a1,a2,a3⟩:=inn_at x c hi
  rw[hi,a1,a2,a3] at h
  exact .stop ZX_ok F2sy h (in3_ans X ho K r (k+1) m _ (by omega) (by omega) hw)
theorem st_le {x:tX.den} {f:tB.den} {d:Nat} {s:Nat×tL.den} (h:s.1≤olX x):(stM x f d s).1≤olX x:=by
 unfold stM
 cases c:hitO x d s.1 with
 |true=>
  unfold hitO at c
  rw[Bool.and_eq_true] at c
  have:=Nat.le_of_ble_eq_true c.1
  exact this
 |false=>exact h
theorem bre_ans {x : tX.den} {f : tB.den} (X : XOK x) : ∀ (r d m : Nat) (s : Nat × tL.den), d + r = x.1.1.toNat → r < m → s.1 ≤ olX x → Ans F2 (breI0 x f s.1 d (trL s.2) m) (brR x f r d s)
 |0,d,m+1,s,hd,hm,hs=>by
  have h:=bre0 x f s.1 d s.2 m
  rw[ile_t (toNat_le hd),Bool.not_true,cond_false] at h
  exact .done ZX_ok F2sy h rfl
 | r + 1, d, m + 1, s, hd, hm, hs => by
  have h:=bre0 x f s.1 d s.2 m
  have hX:=X.d
  have hO:=X.o
  have h1:@LT.lt Int _ (d:Int) x.1.1:=toNat_lt hd
  have hd':d<1048577:=by have:=toNat_b hd hX;omega
  rw[ile_f h1,Bool.not_false,cond_true] at h
  have fin:∀ cfg q,adv F2 ((Z2 [86]).flat [7]) q cfg=brX x f ((stM x f d s).1:Nat) d (stM x f d s).2 m→Ans F2 cfg (brR x f (r+1) d s):=by
   intro cfg q hq
   refine brX_ans X.n hd' hq (fun k e=>?_) (fun e=>?_)
   · show _ = (match idx0 (nlX x) (stM x f d s).2 with | some k => hitV f d k | none => brR x f r (d + 1) (stM x f d s))
     rw[e]
   · have := bre_ans (f := f) X r (d + 1) m (stM x f d s) (by omega) (by omega) (st_le hs)
     show Ans F2 _ (match idx0 (nlX x) (stM x f d s).2 with|some k=>hitV f d k|none=>brR x f r (d+1) (stM x f d s))
     rw[e];exact this
  rw[show (x.2.1.2.getD ((s.1:Nat):Int).toNat tO.dflt)=ordI x s.1 from rfl] at h
  have hst:stM x f d s=bif hitO x d s.1 then (s.1+1,bif flB f s.1 then (bif Nat.beq d 0 then s.2 else nexV s.2) else bringL (fulV x) (ordI x s.1).2.1.2 (bif Nat.beq d 0 then s.2 else nexV s.2)) else (s.1,bif Nat.beq d 0 then s.2 else nexV s.2):=rfl
  by_cases ho:s.1<olX x
  · have ho8 : s.1 < 8 := by omega
    rw[ile_f (show (s.1:Int)<((olX x:Nat):Int) by omega),inB_at ho,inB_at ho8,show 0+((s.1:Nat):Int).toNat * 1=s.1 by simp,fl_is f ho8,show toB ((flL f).getD s.1 AV.nili)=flB f s.1 from rfl,wr_succ (show s.1<1048577 by omega)] at h
    simp only[Bool.not_false,cond_true] at h
    have eh:hitO x d s.1=ieq (ordI x s.1).1 d:=by
     unfold hitO;rw[show Nat.blt s.1 (olX x)=true from Nat.ble_eq_true_of_le ho,Bool.true_and]
    rw[eh] at hst
    have hcl:=(X.c s.1 ho).1
    cases c:ieq (ordI x s.1).1 d with
    |false=>
     rw[c,cond_false,cond_false] at h
     rw[c,cond_false] at hst
     by_cases h0:d=0
     · subst h0
       rw[show ile ((0:Nat):Int) 0=true from rfl,Bool.not_true,cond_false] at h
       refine fin _ 3000 ?_
       rw[hst];exact h
     · rw [ile_f (show (0 : Int) < (d : Int) by omega), Bool.not_false, cond_true] at h
       rw[show Nat.beq d 0=false by cases d with|zero=>exact absurd rfl h0|succ d=>rfl,cond_false] at hst
       refine fin _ 3000 ?_
       rw[hst];exact h
    | true =>
     rw[c,cond_true,cond_true] at h
     rw[c,cond_true] at hst
     cases cf:flB f s.1 with
     |true=>
      rw[cf] at h hst
      simp only[Bool.not_true,cond_false] at h
      rw[cond_true] at hst
      by_cases h0:d=0
      · subst h0
        rw[show ile ((0:Nat):Int) 0=true from rfl,Bool.not_true,cond_false] at h
        refine fin _ 3000 ?_
        rw[hst];exact h
      · rw [ile_f (show (0 : Int) < (d : Int) by omega), Bool.not_false, cond_true] at h
        rw[show Nat.beq d 0=false by cases d with|zero=>exact absurd rfl h0|succ d=>rfl,cond_false] at hst
        refine fin _ 3000 ?_
        rw[hst];exact h
     |false=>
      rw[cf] at h hst
      simp only[Bool.not_false,cond_true] at h
      rw[cond_false] at hst
      by_cases h0:d=0
      · subst h0
        rw[show ile ((0:Nat):Int) 0=true from rfl,Bool.not_true,cond_false] at h
        refine .stop ZX_ok F2sy h ?_
        refine in2_ans X ho (w:=(stM x f 0 s).2) (fun cfg q hq=>fin cfg q ?_) _ 0 1048575 s.2 (Nat.zero_add _) (by omega) ?_
        · rw[show (stM x f 0 s).1=s.1+1 by rw[hst]];exact hq
        · rw[hst];rfl
      · rw [ile_f (show (0 : Int) < (d : Int) by omega), Bool.not_false, cond_true] at h
        rw[show Nat.beq d 0=false by cases d with|zero=>exact absurd rfl h0|succ d=>rfl,cond_false] at hst
        refine .stop ZX_ok F2sy h ?_
        refine in3_ans X ho (w:=(stM x f d s).2) (fun cfg q hq=>fin cfg q ?_) _ 0 1048575 (nexV s.2) (Nat.zero_add _) (by omega) ?_
        · rw[show (stM x f d s).1=s.1+1 by rw[hst]];exact hq
        · rw[hst];rfl
  · have hno : hitO x d s.1 = false := by
     unfold hitO
     rw[show Nat.blt s.1 (olX x)=false from by
      cases e:Nat.blt s.1 (olX x) with
      |false=>rfl
      |true=>exact absurd (Nat.le_of_ble_eq_true e) ho,Bool.false_and]
    rw[hno,cond_false] at hst
    rw[ile_t (show ((olX x:Nat):Int)≤(s.1:Int) by omega)] at h
    simp only[Bool.not_true,cond_false] at h
    by_cases h0:d=0
    · subst h0
      rw[show ile ((0:Nat):Int) 0=true from rfl,Bool.not_true,cond_false] at h
      refine fin _ 3000 ?_
      rw[hst];exact h
    · rw [ile_f (show (0 : Int) < (d : Int) by omega), Bool.not_false, cond_true] at h
      rw[show Nat.beq d 0=false by cases d with|zero=>exact absurd rfl h0|succ d=>rfl,cond_false] at hst
      refine fin _ 3000 ?_
      rw[hst];exact h
noncomputable def breV (x:tX.den) (f:tB.den):AV:=brR x f x.1.1.toNat 0 (0,firV x)
theorem bre_call {x:tX.den} {f:tB.den} (h:xokB x=true):AnsF F2 43 [tX.pv x,tB.av f] (breV x f):=by
 have X:=xok h
 have hX:=X.d
 refine Ans.call (n:=20) (ext_none (by kernel_rfl)) (hasB_spec (by kernel_rfl)) ?_
 have h:=bre_start x f
 rw[Nat.ble_eq_true_of_le (show x.1.2.1.2.length≤3 from X.n),cpX] at h
 exact .stop ZX_ok F2sy h (bre_ans X x.1.1.toNat 0 1048575 (0,firV x) (Nat.zero_add _) (by have:=toNat_c hX;omega) (Nat.zero_le _))
noncomputable def LC:List Said:=[(43,conP2 tX tB (fun x _=>xokB x) breV)]
theorem LC_ok:∀ e∈LC,SaidG Try.prog F2.glob e:=
 saids_cons (SaidOK.g f2 xf2 nf2 tabs_ok.mix (fun _ _ h=>conP2_spec (t:=tX) (u:=tB) (fun x f c=>bre_call c) h) rfl) saids_nil
noncomputable def F3:Env:=F2.say (under (xOf LC))
theorem f3:EnvOK Try.prog F3:=f2.say _
theorem nf3:NameOK F3:=nf2.say _
theorem xf3:ExtOK Try.prog F3:=xf2.sayL LC_ok
end Go.Proofs.Ytolgkckmppongaa


set_option maxRecDepth 100000
namespace Go.Proofs.Ytolgkckmppongaa
open Go Go.Eng
noncomputable def E1:Env:={ F3 with sy:=false }
theorem e1:EnvOK Try.prog E1:=⟨f3.ty,f3.zero,f3.fn,f3.eqok,f3.meth⟩
theorem n1:NameOK E1:=nf3
theorem x1:ExtOK Try.prog E1:=xf3
noncomputable def c0:Ent:=⟨50,[(.ptr 740 0)],741,[(740,(.cells false [(.int .i64 (20)),(.csl [(.str [111,105,108]),(.int .i64 (10)),(.int .i64 (6)),(.int .i64 (3)),(.str [109,101,110]),(.int .i64 (8)),(.int .i64 (8)),(.int .i64 (2))] 2),(.int .i64 (5)),(.int .i64 (1)),(.int .i64 (2)),(.csl [(.int .i64 (3)),(.int .i64 (5)),(.int .i64 (8)),(.int .i64 (12)),(.int .i64 (15))] 5),(.csl [(.int .i64 (3)),(.csl [(.int .i64 (0)),(.int .i64 (1))] 2),(.int .i64 (5)),(.csl [(.int .i64 (0)),(.int .i64 (1))] 2),(.int .i64 (8)),(.csl [(.int .i64 (0)),(.int .i64 (1))] 2),(.int .i64 (12)),(.csl [(.int .i64 (0)),(.int .i64 (1))] 2),(.int .i64 (15)),(.csl [(.int .i64 (0)),(.int .i64 (1))] 2)] 5)]))],(.agg [(.int .i64 (2)),(.int .i64 (1)),(.int .i64 (0))]),[],1343⟩
noncomputable def c1:Ent:=⟨52,[(.ptr 1657 0),(.sl 2 0 5 5 1)],1658,[(1657,(.cells false [(.int .i64 (20)),(.csl [(.str [111,105,108]),(.int .i64 (10)),(.int .i64 (6)),(.int .i64 (3)),(.str [109,101,110]),(.int .i64 (8)),(.int .i64 (8)),(.int .i64 (2))] 2),(.int .i64 (5)),(.int .i64 (1)),(.int .i64 (2)),(.csl [(.int .i64 (3)),(.int .i64 (5)),(.int .i64 (8)),(.int .i64 (12)),(.int .i64 (15))] 5),.nils])),(2,(.cells true [(.int .i64 (3)),(.int .i64 (5)),(.int .i64 (8)),(.int .i64 (12)),(.int .i64 (15))]))],(.tup [(.sl 3887 0 5 5 2),(.bool true)]),[(3889,(.cells false [(.int .i64 (0)),(.int .i64 (1))])),(3891,(.cells false [(.int .i64 (0)),(.int .i64 (1))])),(3893,(.cells false [(.int .i64 (0)),(.int .i64 (1))])),(3895,(.cells false [(.int .i64 (0)),(.int .i64 (1))])),(3897,(.cells false [(.int .i64 (0)),(.int .i64 (1))])),(3887,(.cells false [(.int .i64 (3)),(.sl 3889 0 2 2 1),(.int .i64 (5)),(.sl 3891 0 2 2 1),(.int .i64 (8)),(.sl 3893 0 2 2 1),(.int .i64 (12)),(.sl 3895 0 2 2 1),(.int .i64 (15)),(.sl 3897 0 2 2 1)]))],3898⟩
noncomputable def c2:Ent:=⟨52,[(.ptr 3927 0),(.sl 5 0 5 5 1)],3928,[(3927,(.cells false [(.int .i64 (20)),(.csl [(.str [111,105,108]),(.int .i64 (10)),(.int .i64 (6)),(.int .i64 (3)),(.str [109,101,110]),(.int .i64 (8)),(.int .i64 (8)),(.int .i64 (2))] 2),(.int .i64 (5)),(.int .i64 (0)),(.int .i64 (2)),(.csl [(.int .i64 (3)),(.int .i64 (5)),(.int .i64 (8)),(.int .i64 (12)),(.int .i64 (15))] 5),.nils])),(5,(.cells true [(.int .i64 (3)),(.int .i64 (5)),(.int .i64 (8)),(.int .i64 (12)),(.int .i64 (15))]))],(.tup [(.sl 4512 0 2 2 2),(.bool true)]),[(4514,(.cells false [(.int .i64 (0)),(.int .i64 (1))])),(4516,(.cells false [(.int .i64 (0)),(.int .i64 (1))])),(4512,(.cells false [(.int .i64 (5)),(.sl 4514 0 2 2 1),(.int .i64 (12)),(.sl 4516 0 2 2 1)]))],4517⟩
noncomputable def c3:Ent:=⟨52,[(.ptr 4547 0),(.sl 5 0 5 5 1)],4548,[(4547,(.cells false [(.int .i64 (20)),(.csl [(.str [111,105,108]),(.int .i64 (10)),(.int .i64 (6)),(.int .i64 (3)),(.str [109,101,110]),(.int .i64 (8)),(.int .i64 (8)),(.int .i64 (2))] 2),(.int .i64 (5)),(.int .i64 (0)),(.int .i64 (2)),(.csl [(.int .i64 (3)),(.int .i64 (5)),(.int .i64 (8)),(.int .i64 (12)),(.int .i64 (15))] 5),.nils])),(5,(.cells true [(.int .i64 (3)),(.int .i64 (5)),(.int .i64 (8)),(.int .i64 (12)),(.int .i64 (15))]))],(.tup [(.sl 5132 0 2 2 2),(.bool true)]),[(5134,(.cells false [(.int .i64 (0)),(.int .i64 (1))])),(5136,(.cells false [(.int .i64 (0)),(.int .i64 (1))])),(5132,(.cells false [(.int .i64 (5)),(.sl 5134 0 2 2 1),(.int .i64 (12)),(.sl 5136 0 2 2 1)]))],5137⟩
noncomputable def c4:Ent:=⟨52,[(.ptr 5165 0),(.sl 6458 0 4 4 1)],6459,[(5165,(.cells false [(.int .i64 (20)),(.csl [(.str [111,105,108]),(.int .i64 (10)),(.int .i64 (6)),(.int .i64 (3)),(.str [109,101,110]),(.int .i64 (8)),(.int .i64 (8)),(.int .i64 (2))] 2),(.int .i64 (5)),(.int .i64 (0)),(.int .i64 (2)),(.csl [(.int .i64 (3)),(.int .i64 (5)),(.int .i64 (8)),(.int .i64 (12)),(.int .i64 (15))] 5),.nils])),(6458,(.cells false [(.int .i64 (3)),(.int .i64 (5)),(.int .i64 (8)),(.int .i64 (15))]))],(.tup [(.sl 7081 0 3 3 2),(.bool true)]),[(7083,(.cells false [(.int .i64 (0)),(.int .i64 (1))])),(7085,(.cells false [(.int .i64 (0)),(.int .i64 (1))])),(7087,(.cells false [(.int .i64 (0)),(.int .i64 (1))])),(7081,(.cells false [(.int .i64 (3)),(.sl 7083 0 2 2 1),(.int .i64 (8)),(.sl 7085 0 2 2 1),(.int .i64 (15)),(.sl 7087 0 2 2 1)]))],7088⟩
noncomputable def c5:Ent:=⟨53,[(.ptr 5165 0)],5166,[(5165,(.cells false [(.int .i64 (20)),(.csl [(.str [111,105,108]),(.int .i64 (10)),(.int .i64 (6)),(.int .i64 (3)),(.str [109,101,110]),(.int .i64 (8)),(.int .i64 (8)),(.int .i64 (2))] 2),(.int .i64 (5)),(.int .i64 (0)),(.int .i64 (2)),(.csl [(.int .i64 (3)),(.int .i64 (5)),(.int .i64 (8)),(.int .i64 (12)),(.int .i64 (15))] 5),.nils]))],.nils,[],7536⟩
noncomputable def c6:Ent:=⟨50,[(.ptr 8044 0)],8045,[(8044,(.cells false [(.int .i64 (20)),(.csl [(.str [111,105,108]),(.int .i64 (10)),(.int .i64 (6)),(.int .i64 (3)),(.str [109,101,110]),(.int .i64 (8)),(.int .i64 (8)),(.int .i64 (2))] 2),(.int .i64 (5)),(.int .i64 (1)),(.int .i64 (2)),(.csl [(.int .i64 (3)),(.int .i64 (5)),(.int .i64 (8)),(.int .i64 (12)),(.int .i64 (15))] 5),(.csl [(.int .i64 (3)),(.csl [(.int .i64 (0)),(.int .i64 (1))] 2),(.int .i64 (5)),(.csl [(.int .i64 (0)),(.int .i64 (1))] 2),(.int .i64 (12)),(.csl [(.int .i64 (0)),(.int .i64 (1))] 2),(.int .i64 (15)),(.csl [(.int .i64 (0)),(.int .i64 (1))] 2)] 4)]))],(.agg [(.int .i64 (1)),(.int .i64 (0)),(.int .i64 (0))]),[],8546⟩
noncomputable def c7:Ent:=⟨52,[(.ptr 9069 0),(.sl 9039 0 5 5 1)],9070,[(9069,(.cells false [(.int .i64 (20)),(.csl [(.str [111,105,108]),(.int .i64 (10)),(.int .i64 (6)),(.int .i64 (3)),(.str [109,101,110]),(.int .i64 (8)),(.int .i64 (8)),(.int .i64 (2))] 2),(.int .i64 (4)),(.int .i64 (0)),(.int .i64 (2)),(.csl [(.int .i64 (3)),(.int .i64 (5)),(.int .i64 (8)),(.int .i64 (12)),(.int .i64 (15))] 5),.nils])),(9039,(.cells true [(.int .i64 (3)),(.int .i64 (5)),(.int .i64 (8)),(.int .i64 (12)),(.int .i64 (15))]))],(.tup [(.sl 13166 0 4 4 2),(.bool true)]),[(13168,(.cells false [(.int .i64 (0))])),(13170,(.cells false [(.int .i64 (1))])),(13172,(.cells false [(.int .i64 (0))])),(13174,(.cells false [(.int .i64 (1))])),(13166,(.cells false [(.int .i64 (3)),(.sl 13168 0 1 1 1),(.int .i64 (8)),(.sl 13170 0 1 1 1),(.int .i64 (12)),(.sl 13172 0 1 1 1),(.int .i64 (15)),(.sl 13174 0 1 1 1)]))],13175⟩
noncomputable def c8:Ent:=⟨52,[(.ptr 13205 0),(.sl 7566 0 5 5 1)],13206,[(13205,(.cells false [(.int .i64 (20)),(.csl [(.str [111,105,108]),(.int .i64 (10)),(.int .i64 (6)),(.int .i64 (3)),(.str [109,101,110]),(.int .i64 (8)),(.int .i64 (8)),(.int .i64 (2))] 2),(.int .i64 (5)),(.int .i64 (1)),(.int .i64 (2)),(.csl [(.int .i64 (3)),(.int .i64 (5)),(.int .i64 (8)),(.int .i64 (12)),(.int .i64 (15))] 5),.nils])),(7566,(.cells true [(.int .i64 (3)),(.int .i64 (5)),(.int .i64 (8)),(.int .i64 (12)),(.int .i64 (15))]))],(.tup [(.sl 15435 0 5 5 2),(.bool true)]),[(15437,(.cells false [(.int .i64 (0)),(.int .i64 (1))])),(15439,(.cells false [(.int .i64 (0)),(.int .i64 (1))])),(15441,(.cells false [(.int .i64 (0)),(.int .i64 (1))])),(15443,(.cells false [(.int .i64 (0)),(.int .i64 (1))])),(15445,(.cells false [(.int .i64 (0)),(.int .i64 (1))])),(15435,(.cells false [(.int .i64 (3)),(.sl 15437 0 2 2 1),(.int .i64 (5)),(.sl 15439 0 2 2 1),(.int .i64 (8)),(.sl 15441 0 2 2 1),(.int .i64 (12)),(.sl 15443 0 2 2 1),(.int .i64 (15)),(.sl 15445 0 2 2 1)]))],15446⟩
noncomputable def c9:Ent:=⟨52,[(.ptr 15474 0),(.sl 15476 0 4 4 1)],15477,[(15474,(.cells false [(.int .i64 (20)),(.csl [(.str [111,105,108]),(.int .i64 (10)),(.int .i64 (6)),(.int .i64 (3)),(.str [109,101,110]),(.int .i64 (8)),(.int .i64 (8)),(.int .i64 (2))] 2),(.int .i64 (5)),(.int .i64 (1)),(.int .i64 (2)),(.csl [(.int .i64 (3)),(.int .i64 (5)),(.int .i64 (8)),(.int .i64 (12)),(.int .i64 (15))] 5),.nils])),(15476,(.cells false [(.int .i64 (5)),(.int .i64 (8)),(.int .i64 (12)),(.int .i64 (15))]))],(.tup [.nils,(.bool false)]),[],16443⟩
noncomputable def c10:Ent:=⟨52,[(.ptr 15474 0),(.sl 16446 0 4 4 1)],16447,[(15474,(.cells false [(.int .i64 (20)),(.csl [(.str [111,105,108]),(.int .i64 (10)),(.int .i64 (6)),(.int .i64 (3)),(.str [109,101,110]),(.int .i64 (8)),(.int .i64 (8)),(.int .i64 (2))] 2),(.int .i64 (5)),(.int .i64 (1)),(.int .i64 (2)),(.csl [(.int .i64 (3)),(.int .i64 (5)),(.int .i64 (8)),(.int .i64 (12)),(.int .i64 (15))] 5),.nils])),(16446,(.cells false [(.int .i64 (3)),(.int .i64 (8)),(.int .i64 (12)),(.int .i64 (15))]))],(.tup [.nils,(.bool false)]),[],17418⟩
noncomputable def c11:Ent:=⟨52,[(.ptr 15474 0),(.sl 17421 0 4 4 1)],17422,[(15474,(.cells false [(.int .i64 (20)),(.csl [(.str [111,105,108]),(.int .i64 (10)),(.int .i64 (6)),(.int .i64 (3)),(.str [109,101,110]),(.int .i64 (8)),(.int .i64 (8)),(.int .i64 (2))] 2),(.int .i64 (5)),(.int .i64 (1)),(.int .i64 (2)),(.csl [(.int .i64 (3)),(.int .i64 (5)),(.int .i64 (8)),(.int .i64 (12)),(.int .i64 (15))] 5),.nils])),(17421,(.cells false [(.int .i64 (3)),(.int .i64 (5)),(.int .i64 (12)),(.int .i64 (15))]))],(.tup [.nils,(.bool false)]),[],18390⟩
noncomputable def c12:Ent:=⟨52,[(.ptr 15474 0),(.sl 18393 0 4 4 1)],18394,[(15474,(.cells false [(.int .i64 (20)),(.csl [(.str [111,105,108]),(.int .i64 (10)),(.int .i64 (6)),(.int .i64 (3)),(.str [109,101,110]),(.int .i64 (8)),(.int .i64 (8)),(.int .i64 (2))] 2),(.int .i64 (5)),(.int .i64 (1)),(.int .i64 (2)),(.csl [(.int .i64 (3)),(.int .i64 (5)),(.int .i64 (8)),(.int .i64 (12)),(.int .i64 (15))] 5),.nils])),(18393,(.cells false [(.int .i64 (3)),(.int .i64 (5)),(.int .i64 (8)),(.int .i64 (15))]))],(.tup [.nils,(.bool false)]),[],19365⟩
noncomputable def c13:Ent:=⟨52,[(.ptr 15474 0),(.sl 19368 0 4 4 1)],19369,[(15474,(.cells false [(.int .i64 (20)),(.csl [(.str [111,105,108]),(.int .i64 (10)),(.int .i64 (6)),(.int .i64 (3)),(.str [109,101,110]),(.int .i64 (8)),(.int .i64 (8)),(.int .i64 (2))] 2),(.int .i64 (5)),(.int .i64 (1)),(.int .i64 (2)),(.csl [(.int .i64 (3)),(.int .i64 (5)),(.int .i64 (8)),(.int .i64 (12)),(.int .i64 (15))] 5),.nils])),(19368,(.cells false [(.int .i64 (3)),(.int .i64 (5)),(.int .i64 (8)),(.int .i64 (12))]))],(.tup [.nils,(.bool false)]),[],20335⟩
noncomputable def c14:Ent:=⟨15,[],7564,[],(.bool true),[],20398⟩
end Go.Proofs.Ytolgkckmppongaa

