/-
  THE ENGINE: one more part of it.
-/
import Derived.Test.YtelibdeanepdjaaGreatPart03
set_option linter.unusedSectionVars false
set_option linter.unusedSimpArgs false
set_option linter.unusedVariables false
set_option maxRecDepth 100000
namespace Go.Proofs.YtelibdeanepdjaaGreat
open Go Go.Eng
noncomputable def pchkg6 (s:tS.den):List (Nat×AV):=[(0,(.vs tI (s.1.1) (s.1.2))),(1,(.fn 67 [] [])),(4,(.int .i64 (0))),(5,(.int .i64 (0))),(9,(.vs tI (s.1.1) (s.1.2))),(10,(.int .i64 (Int.ofNat s.1.2.length)))]
noncomputable def pchkg1 (s:tS.den):List (Nat×AO):=[(0,(.cells false [(.vs tI (s.1.1) (s.1.2)),(.vs tK (s.2.1.1) (s.2.1.2)),(.vs tC (s.2.2.1.1) (s.2.2.1.2))])),(1,(.cells false [(.fn 26 [] []),(.fn 27 [] []),(.fn 28 [] [])])),(2,(.cells false [(.vs tI (s.1.1) (s.1.2)),(.vs tK (s.2.1.1) (s.2.1.2)),(.vs tC (s.2.2.1.1) (s.2.2.1.2))]))]
noncomputable def pchkg2 (s:tS.den):List (Nat×AV):=[(0,(.agg [(.vs tI (s.1.1) (s.1.2)),(.vs tK (s.2.1.1) (s.2.1.2)),(.vs tC (s.2.2.1.1) (s.2.2.1.2))])),(1,(.ptr 2 0)),(2,(.int .i64 (0))),(3,(.int .i64 (0)))]
noncomputable def pchkg0 (s:tS.den):List (Nat×AV):=[(4,(.int .i64 (0))),(0,(.agg [(.vs tI (s.1.1) (s.1.2)),(.vs tK (s.2.1.1) (s.2.1.2)),(.vs tC (s.2.2.1.1) (s.2.2.1.2))])),(2,(.int .i64 (0))),(3,(.int .i64 (0))),(1,(.ptr 0 0)),(5,(.ptr 1 0)),(10,(.agg [(.fn 26 [] []),(.fn 27 [] []),(.fn 28 [] [])])),(11,(.agg [(.fn 26 [] []),(.fn 27 [] []),(.fn 28 [] [])]))]
noncomputable def pchkg3 (s:tS.den):List (Nat×AV):=[(13,(.bool (true))),(18,(.agg [(.vs tI (s.1.1) (s.1.2)),(.vs tK (s.2.1.1) (s.2.1.2)),(.vs tC (s.2.2.1.1) (s.2.2.1.2))]))]
noncomputable def pchkI0 (s:tS.den) (x7:Int) (x30:Nat) (x92:Nat):Cfg:=⟨.ex (pcOf F2 66 [0,0,1,0,1]) ⟨(tmOf 24 (pchkg6 s++[(11,(.int .i64 x7))])),(hpOf 5 (pchkg1 s++[(3,(.cells true [(.int .i64 (Int.ofNat s.1.2.length))])),(4,(.cells true [(.int .i64 (Int.ofNat s.2.1.2.length))]))])),[],[],24,false⟩,⟨38,[]⟩,[(.lop (pcOf F2 66 [0,0,1,0,1]) 5 (tmOf 24 (pchkg6 s++[(11,(.int .i64 (0)))])) x30),(.blk 0),(.seq (pcOf F2 66 [1,1])),(.cal [(.tmp 4),(.tmp 5)] (.op (pcOf F2 26 [0,1,1]) 3 (some 26) ((opsOf (pcOf F2 26 [0,1,1]).c).toList.drop 3) (tmOf 29 (pchkg2 s++[(4,(.ptr 2 0)),(5,(.vs tI (s.1.1) (s.1.2))),(6,(.int .i64 (Int.ofNat s.1.2.length))),(7,(.sl 3 0 (1) (1) 1)),(8,(.bool (true))),(9,(.bool (false))),(10,(.bool (false))),(11,(.ptr 2 1)),(12,(.vs tK (s.2.1.1) (s.2.1.2))),(13,(.int .i64 (Int.ofNat s.2.1.2.length))),(14,(.sl 4 0 (1) (1) 1)),(15,(.bool (true))),(16,(.bool (false))),(17,(.bool (false))),(18,(.bool (false))),(19,(.ptr 2 2)),(20,(.vs tC (s.2.2.1.1) (s.2.2.1.2))),(21,(.int .i64 (Int.ofNat s.2.2.1.2.length))),(22,(.bool (!ile (↑s.2.2.1.2.length) 8))),(23,(.bool (false))),(24,(.ptr 2 0)),(25,(.vs tI (s.1.1) (s.1.2)))])) [] 29 false ⟨39,[]⟩)),(.seq (pcOf F2 26 [1,1,1])),(.cal [(.tmp 2),(.tmp 3)] (.op (pcOf F2 7 [0,1,0,0,1,1,0,0,1,0,1,1]) 3 (some 19) ((opsOf (pcOf F2 7 [0,1,0,0,1,1,0,0,1,0,1,1]).c).toList.drop 3) (tmOf 29 (pchkg0 s++pchkg3 s++[(6,(.int .i64 (0))),(7,(.fn 26 [] [])),(12,(.int .i64 (0))),(14,(.int .i64 (0))),(15,(.fn 26 [] [])),(17,(.fn 26 [] []))])) [] 29 false ⟨40,[]⟩)),(.seq (pcOf F2 7 [1,1,0,0,1,1,0,0,1,0,1,1])),(.blk 1),(.seq (pcOf F2 7 [1,1,1,0,0,1,0,1,1])),(.lop (pcOf F2 7 [0,0,1,0,1,1]) 2 (tmOf 29 (pchkg0 s++[(12,(.int .i64 (0)))])) x92),(.blk 0),(.seq (pcOf F2 7 [1,1,1])),(.cal [(.tmp 2),(.tmp 3),(.tmp 4)] .top)]⟩
noncomputable def pchkg5 (s:tS.den):List (Nat×AV):=[(4,(.int .i64 (0))),(5,(.int .i64 (0))),(0,(.vs tK (s.2.1.1) (s.2.1.2))),(1,(.fn 69 [] [(.ptr 4 0)])),(9,(.vs tK (s.2.1.1) (s.2.1.2))),(10,(.int .i64 (Int.ofNat s.2.1.2.length)))]
noncomputable def pchkI1 (s:tS.den) (x7:Int) (x20:List (AV×AV)) (x29:Nat) (x69:Nat):Cfg:=⟨.ex (pcOf F2 68 [0,0,1,0,1]) ⟨(tmOf 24 (pchkg5 s++[(11,(.int .i64 x7))])),(hpOf 5 (pchkg1 s++[(3,(.map x20)),(4,(.cells false [(.mp 3)]))])),[],[],24,false⟩,⟨38,[]⟩,[(.lop (pcOf F2 68 [0,0,1,0,1]) 5 (tmOf 24 (pchkg5 s++[(11,(.int .i64 (0)))])) x29),(.blk 0),(.seq (pcOf F2 68 [1,1])),(.cal [(.tmp 4),(.tmp 5)] (.op (pcOf F2 27 [0,1,1]) 4 (some 9) ((opsOf (pcOf F2 27 [0,1,1]).c).toList.drop 4) (tmOf 12 (pchkg2 s++[(4,(.ptr 4 0)),(5,(.mp 3)),(6,(.ptr 2 1)),(7,(.vs tK (s.2.1.1) (s.2.1.2))),(8,(.fn 69 [] [(.ptr 4 0)]))])) [] 12 false ⟨39,[]⟩)),(.seq (pcOf F2 27 [1,1,1])),(.cal [(.tmp 2),(.tmp 3)] (.op (pcOf F2 7 [0,1,0,0,1,1,0,0,1,0,1,1]) 3 (some 19) ((opsOf (pcOf F2 7 [0,1,0,0,1,1,0,0,1,0,1,1]).c).toList.drop 3) (tmOf 29 (pchkg0 s++pchkg3 s++[(6,(.int .i64 (1))),(7,(.fn 27 [] [])),(12,(.int .i64 (1))),(14,(.int .i64 (1))),(15,(.fn 27 [] [])),(17,(.fn 27 [] []))])) [] 29 false ⟨40,[]⟩)),(.seq (pcOf F2 7 [1,1,0,0,1,1,0,0,1,0,1,1])),(.blk 1),(.seq (pcOf F2 7 [1,1,1,0,0,1,0,1,1])),(.lop (pcOf F2 7 [0,0,1,0,1,1]) 2 (tmOf 29 (pchkg0 s++[(12,(.int .i64 (0)))])) x69),(.blk 0),(.seq (pcOf F2 7 [1,1,1])),(.cal [(.tmp 2),(.tmp 3),(.tmp 4)] .top)]⟩
noncomputable def pchkg4 (s:tS.den):List (Nat×AV):=[(4,(.int .i64 (0))),(5,(.int .i64 (0))),(0,(.vs tC (s.2.2.1.1) (s.2.2.1.2))),(1,(.fn 73 [] [(.ptr 2 0)])),(9,(.vs tC (s.2.2.1.1) (s.2.2.1.2))),(10,(.int .i64 (Int.ofNat s.2.2.1.2.length)))]
noncomputable def pchkI2 (s:tS.den) (x7:Int) (x28:Nat) (x68:Nat):Cfg:=⟨.ex (pcOf F2 72 [0,0,1,0,1]) ⟨(tmOf 24 (pchkg4 s++[(11,(.int .i64 x7))])),(hpOf 3 (pchkg1 s)),[],[],24,false⟩,⟨38,[]⟩,[(.lop (pcOf F2 72 [0,0,1,0,1]) 3 (tmOf 24 (pchkg4 s++[(11,(.int .i64 (0)))])) x28),(.blk 0),(.seq (pcOf F2 72 [1,1])),(.cal [(.tmp 4),(.tmp 5)] (.op (pcOf F2 28 [0,1]) 4 (some 7) ((opsOf (pcOf F2 28 [0,1]).c).toList.drop 4) (tmOf 10 (pchkg2 s++[(4,(.ptr 2 2)),(5,(.vs tC (s.2.2.1.1) (s.2.2.1.2))),(6,(.fn 73 [] [(.ptr 2 0)]))])) [] 10 false ⟨39,[]⟩)),(.seq (pcOf F2 28 [1,1])),(.cal [(.tmp 2),(.tmp 3)] (.op (pcOf F2 7 [0,1,0,0,1,1,0,0,1,0,1,1]) 3 (some 19) ((opsOf (pcOf F2 7 [0,1,0,0,1,1,0,0,1,0,1,1]).c).toList.drop 3) (tmOf 29 (pchkg0 s++pchkg3 s++[(6,(.int .i64 (2))),(7,(.fn 28 [] [])),(12,(.int .i64 (2))),(14,(.int .i64 (2))),(15,(.fn 28 [] [])),(17,(.fn 28 [] []))])) [] 29 false ⟨40,[]⟩)),(.seq (pcOf F2 7 [1,1,0,0,1,1,0,0,1,0,1,1])),(.blk 1),(.seq (pcOf F2 7 [1,1,1,0,0,1,0,1,1])),(.lop (pcOf F2 7 [0,0,1,0,1,1]) 2 (tmOf 29 (pchkg0 s++[(12,(.int .i64 (0)))])) x68),(.blk 0),(.seq (pcOf F2 7 [1,1,1])),(.cal [(.tmp 2),(.tmp 3),(.tmp 4)] .top)]⟩
theorem pchk_start (s:tS.den):adv F2 (Z2 [66,68,72]) 3000 (startC F2 7 [tS.av s] 40)=(bif !ile 1 ↑s.1.2.length then some (.done (.tup [(.int .i64 (1)),(.int .i64 (0)),(.int .i64 (3))])) else (bif !ile (↑s.1.2.length) 30 then some (.done (.tup [(.int .i64 (1)),(.int .i64 (0)),(.int .i64 (3))])) else (bif !ile 1 ↑s.2.1.2.length then some (.done (.tup [(.int .i64 (1)),(.int .i64 (0)),(.int .i64 (3))])) else (bif !ile (↑s.2.1.2.length) 4 then some (.done (.tup [(.int .i64 (1)),(.int .i64 (0)),(.int .i64 (3))])) else (bif !ile (↑s.2.2.1.2.length) 8 then some (.done (.tup [(.int .i64 (1)),(.int .i64 (0)),(.int .i64 (3))])) else some (.stop (pchkI0 s (0) (1048575) (1048575)))))))):=by kernel_rfl
theorem pchk_step0 (s:tS.den) (x7:Int) (x30:Nat) (x92:Nat):adv F2 (Z2 [66,68,72]) 3000 (pchkI0 s x7 (x30+1) (x92+1))=(bif !ile (Int.ofNat s.1.2.length) x7 then (bif inB x7 s.1.2.length then (bif !ile 0 (s.1.2.getD x7.toNat tI.dflt) then some (.done (.tup [(.int .i64 (1)),(.int .i64 (x7)),(.int .i64 (7))])) else (bif !ile (s.1.2.getD x7.toNat tI.dflt) 12 then some (.done (.tup [(.int .i64 (1)),(.int .i64 (x7)),(.int .i64 (7))])) else some (.stop (pchkI0 s (wr .i64 (x7+1)) (x30) (x92+1))))) else none) else some (.stop (pchkI1 s (0) ([]) (1048575) (x92)))):=by kernel_rfl
theorem pchk_step1 (s:tS.den) (x7:Int) (x20:List (AV×AV)) (x29:Nat) (x69:Nat):adv F2 (Z2 [66,68,72]) 3000 (pchkI1 s x7 x20 (x29+1) (x69+1))=(bif !ile (Int.ofNat s.2.1.2.length) x7 then (bif inB x7 s.2.1.2.length then (bif !nameS (s.2.1.2.getD x7.toNat tK.dflt).1 then some (.done (.tup [(.int .i64 (2)),(.int .i64 (x7)),(.int .i64 (6))])) else (bif okSB x20 then (bif getSB (s.2.1.2.getD x7.toNat tK.dflt).1 x20 then some (.done (.tup [(.int .i64 (2)),(.int .i64 (x7)),(.int .i64 (5))])) else (bif okSB x20 then (bif !ile 0 (s.2.1.2.getD x7.toNat tK.dflt).2.1.1 then some (.done (.tup [(.int .i64 (2)),(.int .i64 (x7)),(.int .i64 (7))])) else (bif !ile (s.2.1.2.getD x7.toNat tK.dflt).2.1.1 300 then some (.done (.tup [(.int .i64 (2)),(.int .i64 (x7)),(.int .i64 (7))])) else (bif plO (AO.map (setSB (s.2.1.2.getD x7.toNat tK.dflt).1 true x20)) then (bif !ile 0 (s.2.1.2.getD x7.toNat tK.dflt).2.1.2.1 then some (.done (.tup [(.int .i64 (2)),(.int .i64 (x7)),(.int .i64 (7))])) else (bif !ile (s.2.1.2.getD x7.toNat tK.dflt).2.1.2.1 300 then some (.done (.tup [(.int .i64 (2)),(.int .i64 (x7)),(.int .i64 (7))])) else (bif plO (AO.map (setSB (s.2.1.2.getD x7.toNat tK.dflt).1 true x20)) then (bif !ile 0 (s.2.1.2.getD x7.toNat tK.dflt).2.2.2.2.1 then some (.done (.tup [(.int .i64 (2)),(.int .i64 (x7)),(.int .i64 (7))])) else (bif !ile (s.2.1.2.getD x7.toNat tK.dflt).2.2.2.2.1 300 then some (.done (.tup [(.int .i64 (2)),(.int .i64 (x7)),(.int .i64 (7))])) else (bif plO (AO.map (setSB (s.2.1.2.getD x7.toNat tK.dflt).1 true x20)) then (bif !ile 0 (s.2.1.2.getD x7.toNat tK.dflt).2.2.1.1 then some (.done (.tup [(.int .i64 (2)),(.int .i64 (x7)),(.int .i64 (7))])) else (bif !ile (s.2.1.2.getD x7.toNat tK.dflt).2.2.1.1 6 then some (.done (.tup [(.int .i64 (2)),(.int .i64 (x7)),(.int .i64 (7))])) else (bif plO (AO.map (setSB (s.2.1.2.getD x7.toNat tK.dflt).1 true x20)) then (bif !ile 0 (s.2.1.2.getD x7.toNat tK.dflt).2.2.1.2.1 then some (.done (.tup [(.int .i64 (2)),(.int .i64 (x7)),(.int .i64 (7))])) else (bif !ile (s.2.1.2.getD x7.toNat tK.dflt).2.2.1.2.1 6 then some (.done (.tup [(.int .i64 (2)),(.int .i64 (x7)),(.int .i64 (7))])) else (bif plO (AO.map (setSB (s.2.1.2.getD x7.toNat tK.dflt).1 true x20)) then (bif !ile 0 (s.2.1.2.getD x7.toNat tK.dflt).2.2.2.1.1 then some (.done (.tup [(.int .i64 (2)),(.int .i64 (x7)),(.int .i64 (7))])) else (bif !ile (s.2.1.2.getD x7.toNat tK.dflt).2.2.2.1.1 12 then some (.done (.tup [(.int .i64 (2)),(.int .i64 (x7)),(.int .i64 (7))])) else (bif plO (AO.map (setSB (s.2.1.2.getD x7.toNat tK.dflt).1 true x20)) then (bif !ile 0 (s.2.1.2.getD x7.toNat tK.dflt).2.2.2.1.2.1 then some (.done (.tup [(.int .i64 (2)),(.int .i64 (x7)),(.int .i64 (7))])) else (bif !ile (s.2.1.2.getD x7.toNat tK.dflt).2.2.2.1.2.1 12 then some (.done (.tup [(.int .i64 (2)),(.int .i64 (x7)),(.int .i64 (7))])) else (bif plO (AO.map (setSB (s.2.1.2.getD x7.toNat tK.dflt).1 true x20)) then (bif !ile 0 (s.2.1.2.getD x7.toNat tK.dflt).2.2.2.2.2.1 then some (.done (.tup [(.int .i64 (2)),(.int .i64 (x7)),(.int .i64 (7))])) else (bif !ile (s.2.1.2.getD x7.toNat tK.dflt).2.2.2.2.2.1 1000 then some (.done (.tup [(.int .i64 (2)),(.int .i64 (x7)),(.int .i64 (7))])) else (bif plO (AO.map (setSB (s.2.1.2.getD x7.toNat tK.dflt).1 true x20)) then (bif !ile (s.2.1.2.getD x7.toNat tK.dflt).2.1.1 (s.2.1.2.getD x7.toNat tK.dflt).2.1.2.1 then some (.done (.tup [(.int .i64 (2)),(.int .i64 (x7)),(.int .i64 (2))])) else (bif !ile (s.2.1.2.getD x7.toNat tK.dflt).2.2.1.1 (s.2.1.2.getD x7.toNat tK.dflt).2.2.1.2.1 then some (.done (.tup [(.int .i64 (2)),(.int .i64 (x7)),(.int .i64 (2))])) else (bif !ile (s.2.1.2.getD x7.toNat tK.dflt).2.2.2.1.1 (s.2.1.2.getD x7.toNat tK.dflt).2.2.2.1.2.1 then some (.done (.tup [(.int .i64 (2)),(.int .i64 (x7)),(.int .i64 (2))])) else (bif plO (AO.map (setSB (s.2.1.2.getD x7.toNat tK.dflt).1 true x20)) then some (.stop (pchkI1 s (wr .i64 (x7+1)) (setSB (s.2.1.2.getD x7.toNat tK.dflt).1 true x20) (x29) (x69+1))) else none)))) else none))) else none))) else none))) else none))) else none))) else none))) else none))) else none))) else none)) else none)) else none) else some (.stop (pchkI2 s (0) (1048575) (x69)))):=by kernel_rfl
theorem pchk_step2 (s:tS.den) (x7:Int) (x28:Nat) (x68:Nat):adv F2 (Z2 [66,68,72]) 3000 (pchkI2 s x7 (x28+1) (x68+1))=(bif !ile (Int.ofNat s.2.2.1.2.length) x7 then (bif inB x7 s.2.2.1.2.length then (bif !ile 0 (s.2.2.1.2.getD x7.toNat tC.dflt).2.1 then some (.done (.tup [(.int .i64 (3)),(.int .i64 (x7)),(.int .i64 (4))])) else (bif !ile (s.2.2.1.2.getD x7.toNat tC.dflt).2.1 (wr .i64 (↑s.2.1.2.length-1)) then some (.done (.tup [(.int .i64 (3)),(.int .i64 (x7)),(.int .i64 (4))])) else (bif !ile 0 (s.2.2.1.2.getD x7.toNat tC.dflt).1 then some (.done (.tup [(.int .i64 (3)),(.int .i64 (x7)),(.int .i64 (7))])) else (bif !ile (s.2.2.1.2.getD x7.toNat tC.dflt).1 (wr .i64 (↑s.1.2.length-1)) then some (.done (.tup [(.int .i64 (3)),(.int .i64 (x7)),(.int .i64 (7))])) else (bif !ile 0 (s.2.2.1.2.getD x7.toNat tC.dflt).2.2.1 then some (.done (.tup [(.int .i64 (3)),(.int .i64 (x7)),(.int .i64 (7))])) else (bif !ile (s.2.2.1.2.getD x7.toNat tC.dflt).2.2.1 300 then some (.done (.tup [(.int .i64 (3)),(.int .i64 (x7)),(.int .i64 (7))])) else some (.stop (pchkI2 s (wr .i64 (x7+1)) (x28) (x68+1))))))))) else none) else some (.done (.tup [(.int .i64 (0)),(.int .i64 (0)),(.int .i64 (0))]))):=by kernel_rfl
theorem ieq_t {a b:Int} (h:ieq a b=true):a=b:=by rw[ieq_iff] at h;simpa using h
theorem ile_t {a b:Int} (h:a≤b):ile a b=true:=by rw[ile_iff];exact decide_eq_true h
theorem ile_f {a b:Int} (h:b<a):ile a b=false:=by rw[ile_iff];exact decide_eq_false (by omega)
theorem ile_le {a b:Int} (h:ile a b=true):a≤b:=by rw[ile_iff] at h;exact of_decide_eq_true h
noncomputable def tup3 (r:Int×Int×Int):AV:=.tup [.int .i64 r.1,.int .i64 r.2.1,.int .i64 r.2.2]
theorem done3 {E:Env} {S:Sy} (hS:S.ok E) (hsy:E.sy=true) {n:Nat} {c:Cfg} {a b d:Int} {r:Int×Int×Int} (h:adv E S n c=some (.done (.tup [.int .i64 a,.int .i64 b,.int .i64 d]))) (e:(a,b,d)=r):Ans E c (tup3 r):=
 e▸Ans.done hS hsy h rfl
noncomputable def addM (mem:List Nat→Bool) (s:List Nat):List Nat→Bool:=fun t=>lbeq t s || mem t
theorem setSB_ok {s:List Nat} {b:Bool}:∀ {es:List (AV×AV)},okSB es=true→okSB (setSB s b es)=true
 |[],_=>rfl
 |(k,v)::es,h=>by
  cases k<;>cases v<;>first|(cases h;done)|skip
  simp only[okSB] at h
  simp only[setSB]
  split
  · exact h
  · exact setSB_ok h
theorem lbeq_comm (a b:List Nat):lbeq a b=lbeq b a:=by
 rw[lbeq_iff,lbeq_iff]
 by_cases h:a=b
 · subst h;rfl
 · rw[decide_eq_false h,decide_eq_false (fun e=>h e.symm)]
theorem getSB_set {s t:List Nat}:∀ {es:List (AV×AV)},okSB es=true→getSB t (setSB s true es)=(lbeq t s || getSB t es)
 |[],_=>by simp only[setSB,getSB];cases lbeq t s<;>rfl
 | (k, v) :: es, h => by
  cases k<;>cases v<;>first|(cases h;done)|skip
  rename_i u w
  simp only[okSB] at h
  simp only[setSB,getSB]
  cases e:lbeq s u with
  |true=>
   have:s=u:=by rw[lbeq_iff] at e;simpa using e
   subst this
   simp only[getSB]
   cases lbeq t s<;>rfl
  | false =>
   simp only[getSB]
   cases e2:lbeq t u with
   |true=>
    have:t=u:=by rw[lbeq_iff] at e2;simpa using e2
    subst this
    rw[lbeq_comm t s,e];rfl
   |false=>exact getSB_set h
theorem placeF_iff {t:List Nat}:∀ (L:List (List Nat)) (k:Nat),ile 0 (placeF t L k)=decide (t∈L)
 |[],k=>by simp only[placeF];rfl
 |a::L,k=>by
  rw[placeF]
  by_cases h:a=t
  · subst h
    rw[if_pos rfl,ile_iff];simp
  · rw [if_neg h, placeF_iff L (k + 1)]
    have:¬ t=a:=fun e=>h e.symm
    simp[this]
theorem placeF_add {t s:List Nat} (L:List (List Nat)):ile 0 (placeF t (L++[s]) 0)=(lbeq t s || ile 0 (placeF t L 0)):=by
 rw[placeF_iff,placeF_iff,lbeq_iff]
 by_cases h1:t=s
 · subst h1;simp
 · by_cases h2:t∈L<;>simp[h1,h2]
theorem strs_add (l:List AV) (s:List Nat):strs (l++[.str s])=strs l++[s]:=by simp[strs,strOf]
theorem plain_isS:∀ {l:List AV},l.all isS=true→plainL l=true
 |[],_=>rfl
 |a::l,h=>by
  simp only[List.all_cons,Bool.and_eq_true] at h
  cases a<;>first|(cases h.1;done)|exact plain_isS (l:=l) h.2
theorem isS_add {l:List AV} (h:l.all isS=true) (s:List Nat):(l++[AV.str s]).all isS=true:=by
 rw[List.all_append,h];rfl
theorem app_plain {l:List AV} (h:l.all isS=true) (s:List Nat):plO (AO.cells true (l++[AV.str s]))=true:=plain_isS (isS_add h s)
theorem inB_0 {n:Nat} (h:0<n):inB 0 n=true:=inB_at (k:=0) h
theorem inB_1 {n:Nat} (h:1<n):inB 1 n=true:=inB_at (k:=1) h
theorem getD_0 {α:Type} {l:List α} {d:α} (h:0<l.length):l.getD (Int.toNat 0) d=l[0]:=getD_at (k:=0) h
theorem getD_1 {α:Type} {l:List α} {d:α} (h:1<l.length):l.getD (Int.toNat 1) d=l[1]:=getD_at (k:=1) h
theorem one_mem (m0:List Nat):∀ t,ile 0 (placeF t (strs [AV.str m0]) 0)=addM (fun _=>false) m0 t:=fun t=>by
 have:=placeF_add (t:=t) (s:=m0) []
 rw[List.nil_append] at this
 exact this
theorem two_mem (m0 m1:List Nat):∀ t,ile 0 (placeF t (strs [AV.str m0,AV.str m1]) 0)=addM (addM (fun _=>false) m0) m1 t:=fun t=>by
 have:=placeF_add (t:=t) (s:=m1) [m0]
 have h0:=one_mem m0 t
 rw[show strs [AV.str m0]=[m0] from rfl] at h0
 rw[h0] at this
 exact this
theorem cond_not' {α:Type} (a:Bool) (x y:α):(bif !a then x else y)=bif a then y else x:=by cases a<;>rfl
theorem cond_and' {α:Type} (a b:Bool) (x y:α):(bif a then (bif b then x else y) else y)=bif a&&b then x else y:=by cases a<;>rfl
noncomputable def rB (x y a b:Int):Bool:=ile a x&&(ile x b&&(ile a y&&ile y b))
theorem rng7 (x y a b:Int):ieq (rngE x y a b) 7=!rB x y a b:=by
 unfold rngE rB
 cases ile a x<;>cases ile x b<;>cases ile a y<;>cases ile y b<;>cases ile x y<;>rfl
theorem rng0 (x y a b:Int):ieq (rngE x y a b) 0=(rB x y a b&&ile x y):=by
 unfold rngE rB
 cases ile a x<;>cases ile x b<;>cases ile a y<;>cases ile y b<;>cases ile x y<;>rfl
noncomputable def kA (k:tK.den):Bool:=ile 0 k.2.1.1&&(ile k.2.1.1 300&&(ile 0 k.2.1.2.1&&(ile k.2.1.2.1 300&&(ile 0 k.2.2.2.2.1&&(ile k.2.2.2.2.1 300&&(ile 0 k.2.2.1.1&&(ile k.2.2.1.1 6&&(ile 0 k.2.2.1.2.1&&(ile k.2.2.1.2.1 6&&(ile 0 k.2.2.2.1.1&&(ile k.2.2.2.1.1 12&&(ile 0 k.2.2.2.1.2.1&&(ile k.2.2.2.1.2.1 12&&(ile 0 k.2.2.2.2.2.1&&ile k.2.2.2.2.2.1 1000))))))))))))))
noncomputable def kL (k:tK.den):Bool:=ile k.2.1.1 k.2.1.2.1&&(ile k.2.2.1.1 k.2.2.1.2.1&&ile k.2.2.2.1.1 k.2.2.2.1.2.1)
noncomputable def kE (mem:List Nat→Bool) (k:tK.den):Int:=bif nameS k.1 then (bif mem k.1 then 5 else (bif kA k then (bif kL k then 0 else 2) else 7)) else 6
noncomputable def kT (nm mm A L:Bool) (p i:Int) (S:Option Out):Option Out:=bif nm then (bif mm then some (.done (.tup [.int .i64 p,.int .i64 i,.int .i64 5])) else (bif A then (bif L then S else some (.done (.tup [.int .i64 p,.int .i64 i,.int .i64 2]))) else some (.done (.tup [.int .i64 p,.int .i64 i,.int .i64 7])))) else some (.done (.tup [.int .i64 p,.int .i64 i,.int .i64 6]))
theorem kT_eq (mem:List Nat→Bool) (k:tK.den) (i:Int) (S:Option Out):kT (nameS k.1) (mem k.1) (kA k) (kL k) 2 i S=bif ieq (kE mem k) 0 then S else some (.done (.tup [.int .i64 2,.int .i64 i,.int .i64 (kE mem k)])):=by
 unfold kT kE
 cases nameS k.1<;>cases mem k.1<;>cases kA k<;>cases kL k<;>rfl
noncomputable def cE (nk nd:Int) (c:tC.den):Int:=bif ile 0 c.2.1&&ile c.2.1 (nk-1) then (bif ile 0 c.1&&(ile c.1 (nd-1)&&(ile 0 c.2.2.1&&ile c.2.2.1 300)) then 0 else 7) else 4
noncomputable def mB (m:Int):Bool:=ile 0 m&&ile m 12
noncomputable def menS:Nat→List Int→Int×Int×Int→Int×Int×Int
 |_,[],k=>k
 |i,m::l,k=>bif mB m then menS (i+1) l k else (1,(i:Int),7)
noncomputable def kinS:(List Nat→Bool)→Nat→List tK.den→Int×Int×Int→Int×Int×Int
 |_,_,[],k=>k
 |mem,i,g::l,k=>bif ieq (kE mem g) 0 then kinS (addM mem g.1) (i+1) l k else (2,(i:Int),kE mem g)
noncomputable def carS (nk nd:Int):Nat→List tC.den→Int×Int×Int
 |_,[]=>(0,0,0)
 |i,c::l=>bif ieq (cE nk nd c) 0 then carS nk nd (i+1) l else (3,(i:Int),cE nk nd c)
noncomputable def lenB (s:tS.den):Bool:=ile 1 (s.1.2.length:Int)&&(ile (s.1.2.length:Int) 30&&(ile 1 (s.2.1.2.length:Int)&&(ile (s.2.1.2.length:Int) 4&&ile (s.2.2.1.2.length:Int) 8)))
noncomputable def chkS (s:tS.den):Int×Int×Int:=bif lenB s then menS 0 s.1.2 (kinS (fun _=>false) 0 s.2.1.2 (carS s.2.1.2.length s.1.2.length 0 s.2.2.1.2)) else (1,0,3)
structure LenOK (s:tS.den):Prop where
 m1:1≤s.1.2.length
 m2:s.1.2.length≤30
 k1:1≤s.2.1.2.length
 k2:s.2.1.2.length≤4
 c2:s.2.2.1.2.length≤8
theorem len_ok {s:tS.den} (h:lenB s=true):LenOK s:=by
 unfold lenB at h
 simp only[Bool.and_eq_true] at h
 have a:=ile_le h.1;have b:=ile_le h.2.1;have c:=ile_le h.2.2.1;have d:=ile_le h.2.2.2.1;have e:=ile_le h.2.2.2.2
 exact⟨by omega,by omega,by omega,by omega,by omega⟩
theorem cT_eq (nk nd:Int) (c:tC.den) (i:Int) (S:Option Out):(bif ile 0 c.2.1&&ile c.2.1 (nk-1) then (bif ile 0 c.1&&(ile c.1 (nd-1)&&(ile 0 c.2.2.1&&ile c.2.2.1 300)) then S else some (.done (.tup [.int .i64 3,.int .i64 i,.int .i64 7]))) else some (.done (.tup [.int .i64 3,.int .i64 i,.int .i64 4])))=bif ieq (cE nk nd c) 0 then S else some (.done (.tup [.int .i64 3,.int .i64 i,.int .i64 (cE nk nd c)])):=by
 unfold cE
 cases (ile 0 c.2.1&&ile c.2.1 (nk-1))<;>cases (ile 0 c.1&&(ile c.1 (nd-1)&&(ile 0 c.2.2.1&&ile c.2.2.1 300)))<;>rfl
theorem wr_l {n:Nat} (h:n≤30):wr .i64 ((n:Int)-1)=(n:Int)-1:=wr_in (by omega) (by omega)
theorem pcar {s:tS.den} (H:LenOK s):∀ (r i m M:Nat),i+r=s.2.2.1.2.length→r<m→Ans F2 (pchkI2 s i m (M+1)) (tup3 (carS s.2.1.2.length s.1.2.length i (s.2.2.1.2.drop i)))
 |0,i,m+1,M,hk,hm=>by
  have h:=pchk_step2 s i m M
  rw[ile_t (show Int.ofNat s.2.2.1.2.length≤(i:Int) by show ((s.2.2.1.2.length:Nat):Int)≤i;omega),Bool.not_true,cond_false] at h
  rw[List.drop_eq_nil_of_le (by omega)]
  exact done3 (Z2_ok _) F2sy h rfl
 |r+1,i,m+1,M,hk,hm=>by
  have h:=pchk_step2 s i m M
  have hlt:i<s.2.2.1.2.length:=by omega
  have c2:=H.c2
  rw[ile_f (show (i:Int)<Int.ofNat s.2.2.1.2.length by show (i:Int)<((s.2.2.1.2.length:Nat):Int);omega),inB_at hlt,getD_at hlt,wr_l (show s.2.1.2.length≤30 by have:=H.k2;omega),wr_l H.m2,wr_succ (show i<1048577 by omega)] at h
  simp only[cond_not',cond_and',cond_true,cond_false] at h
  rw[cT_eq] at h
  rw[List.drop_eq_getElem_cons hlt,carS]
  cases c:ieq (cE s.2.1.2.length s.1.2.length s.2.2.1.2[i]) 0 with
  |true=>rw[c,cond_true] at h;rw[cond_true];exact .stop (Z2_ok _) F2sy h (pcar H r (i+1) m M (by omega) (by omega))
  |false=>rw[c,cond_false] at h;rw[cond_false];exact done3 (Z2_ok _) F2sy h rfl
theorem pkin {s:tS.den} (H:LenOK s):∀ (r i m M:Nat) (es:List (AV×AV)) (mem:List Nat→Bool),i+r=s.2.1.2.length→r<m→2≤M→okSB es=true→(∀ t,getSB t es=mem t)→Ans F2 (pchkI1 s i es m M) (tup3 (kinS mem i (s.2.1.2.drop i) (carS s.2.1.2.length s.1.2.length 0 s.2.2.1.2)))
 |0,i,m+1,M+1,es,mem,hk,hm,hM,hes,hmem=>by
  have h:=pchk_step1 s i es m M
  rw[ile_t (show Int.ofNat s.2.1.2.length≤(i:Int) by show ((s.2.1.2.length:Nat):Int)≤i;omega),Bool.not_true,cond_false] at h
  rw[List.drop_eq_nil_of_le (by omega)]
  obtain⟨M,rfl⟩:∃ M',M=M'+1:=⟨M-1,by omega⟩
  have:=pcar H s.2.2.1.2.length 0 1048575 M (by omega) (by have:=H.c2;omega)
  exact .stop (Z2_ok _) F2sy h this
 | r + 1, i, m + 1, M + 1, es, mem, hk, hm, hM, hes, hmem => by
  have h:=pchk_step1 s i es m M
  have hlt:i<s.2.1.2.length:=by omega
  have k2:=H.k2
  have p1:plO (AO.map (setSB (s.2.1.2[i]).1 true es))=true:=setSB_ok hes
  rw[ile_f (show (i:Int)<Int.ofNat s.2.1.2.length by show (i:Int)<((s.2.1.2.length:Nat):Int);omega),inB_at hlt,getD_at hlt,wr_succ (show i<1048577 by omega)] at h
  simp only[hes,p1,hmem,cond_not',cond_and',cond_true,cond_false] at h
  have h:adv F2 (Z2 [66,68,72]) 3000 (pchkI1 s i es (m+1) (M+1))=kT (nameS (s.2.1.2[i]).1) (mem (s.2.1.2[i]).1) (kA s.2.1.2[i]) (kL s.2.1.2[i]) 2 i (some (.stop (pchkI1 s ((i+1:Nat):Int) (setSB (s.2.1.2[i]).1 true es) m (M+1)))):=h
  rw[kT_eq] at h
  rw[List.drop_eq_getElem_cons hlt,kinS]
  cases c:ieq (kE mem s.2.1.2[i]) 0 with
  |true=>
   rw[c,cond_true] at h;rw[cond_true]
   exact .stop (Z2_ok _) F2sy h (pkin H r (i+1) m (M+1) _ (addM mem (s.2.1.2[i]).1) (by omega) (by omega) (by omega) (setSB_ok hes) (fun t=>by rw[getSB_set hes,hmem];rfl))
  |false=>rw[c,cond_false] at h;rw[cond_false];exact done3 (Z2_ok _) F2sy h rfl
theorem pmen {s:tS.den} (H:LenOK s):∀ (r i m M:Nat),i+r=s.1.2.length→r<m→4≤M→Ans F2 (pchkI0 s i m M) (tup3 (menS i (s.1.2.drop i) (kinS (fun _=>false) 0 s.2.1.2 (carS s.2.1.2.length s.1.2.length 0 s.2.2.1.2))))
 |0,i,m+1,M+1,hk,hm,hM=>by
  have h:=pchk_step0 s i m M
  rw[ile_t (show Int.ofNat s.1.2.length≤(i:Int) by show ((s.1.2.length:Nat):Int)≤i;omega),Bool.not_true,cond_false] at h
  rw[List.drop_eq_nil_of_le (by omega)]
  exact .stop (Z2_ok _) F2sy h (pkin H s.2.1.2.length 0 1048575 M [] (fun _=>false) (by omega) (by have:=H.k2;omega) (by omega) rfl (fun _=>rfl))
 | r + 1, i, m + 1, M + 1, hk, hm, hM => by
  have h:=pchk_step0 s i m M
  have hlt:i<s.1.2.length:=by omega
  have m2:=H.m2
  rw[ile_f (show (i:Int)<Int.ofNat s.1.2.length by show (i:Int)<((s.1.2.length:Nat):Int);omega),inB_at hlt,getD_at hlt,wr_succ (show i<1048577 by omega)] at h
  simp only[cond_not',cond_and',cond_true,cond_false] at h
  rw[List.drop_eq_getElem_cons hlt,menS]
  cases c:mB s.1.2[i] with
  |true=>
   have h:adv F2 (Z2 [66,68,72]) 3000 (pchkI0 s i (m+1) (M+1))=bif mB s.1.2[i] then _ else _:=h
   rw[c,cond_true] at h;rw[cond_true]
   exact .stop (Z2_ok _) F2sy h (pmen H r (i+1) m (M+1) (by omega) (by omega) (by omega))
  |false=>
   have h:adv F2 (Z2 [66,68,72]) 3000 (pchkI0 s i (m+1) (M+1))=bif mB s.1.2[i] then _ else _:=h
   rw[c,cond_false] at h;rw[cond_false];exact done3 (Z2_ok _) F2sy h rfl
theorem pchk_call (s:tS.den):AnsF F2 7 [tS.av s] (tup3 (chkS s)):=by
 refine Ans.call (n:=40) (ext_none (by kernel_rfl)) (hasB_spec (by kernel_rfl)) ?_
 have h:=pchk_start s
 simp only[cond_not',cond_and'] at h
 have h:adv F2 (Z2 [66,68,72]) 3000 (startC F2 7 [tS.av s] 40)=bif lenB s then _ else _:=h
 unfold chkS
 cases c:lenB s with
 |true=>rw[c,cond_true] at h;rw[cond_true];exact .stop (Z2_ok _) F2sy h (pmen (len_ok c) s.1.2.length 0 1048575 1048575 (by omega) (by have:=(len_ok c).m2;omega) (by omega))
 |false=>rw[c,cond_false] at h;rw[cond_false];exact done3 (Z2_ok _) F2sy h rfl
end Go.Proofs.YtelibdeanepdjaaGreat


set_option maxRecDepth 100000
namespace Go.Proofs.YtelibdeanepdjaaGreat
open Go Go.Eng
noncomputable def rchkg1 (s:tS.den):List (Nat×AV):=[(0,(.agg [(.vs tI (s.1.1) (s.1.2)),(.vs tK (s.2.1.1) (s.2.1.2)),(.vs tC (s.2.2.1.1) (s.2.2.1.2))])),(1,(.ptr 0 0)),(2,(.int .i64 (0))),(3,(.int .i64 (0))),(4,(.int .i64 (0))),(11,(.ptr 0 0)),(12,(.vs tI (s.1.1) (s.1.2))),(13,(.int .i64 (Int.ofNat s.1.2.length))),(14,(.bool (ile (↑s.1.2.length) 30))),(15,(.bool (!ile (↑s.1.2.length) 30))),(16,(.bool (false))),(17,(.ptr 0 1)),(18,(.vs tK (s.2.1.1) (s.2.1.2))),(19,(.int .i64 (Int.ofNat s.2.1.2.length))),(20,(.bool (ile (↑s.2.1.2.length) 4))),(21,(.bool (!ile (↑s.2.1.2.length) 4))),(22,(.bool (!ile (↑s.2.1.2.length) 4))),(23,(.bool (false))),(24,(.ptr 0 2)),(25,(.vs tC (s.2.2.1.1) (s.2.2.1.2))),(26,(.int .i64 (Int.ofNat s.2.2.1.2.length))),(27,(.bool (!ile (↑s.2.2.1.2.length) 8))),(28,(.bool (false)))]
noncomputable def rchkg2 (s:tS.den):List (Nat×AO):=[(0,(.cells false [(.vs tI (s.1.1) (s.1.2)),(.vs tK (s.2.1.1) (s.2.1.2)),(.vs tC (s.2.2.1.1) (s.2.2.1.2))]))]
noncomputable def rchkI0 (s:tS.den) (x9:Int) (x62:Nat):Cfg:=⟨.ex (pcOf F2 8 [0,0,1,0,1,1]) ⟨(tmOf 107 (rchkg1 s++[(5,(.int .i64 x9))])),(hpOf 1 (rchkg2 s)),[],[],107,false⟩,⟨40,[]⟩,[(.lop (pcOf F2 8 [0,0,1,0,1,1]) 1 (tmOf 107 (rchkg1 s++[(5,(.int .i64 (0)))])) x62),(.blk 0),(.seq (pcOf F2 8 [1,1,1])),(.cal [(.tmp 2),(.tmp 3),(.tmp 4)] .top)]⟩
noncomputable def rchkg0 (s:tS.den) (x9:Int):List (Nat×AV):=[(0,(.agg [(.vs tI (s.1.1) (s.1.2)),(.vs tK (s.2.1.1) (s.2.1.2)),(.vs tC (s.2.2.1.1) (s.2.2.1.2))])),(1,(.ptr 0 0)),(2,(.int .i64 (0))),(3,(.int .i64 (0))),(4,(.int .i64 (0))),(11,(.ptr 0 0)),(12,(.vs tI (s.1.1) (s.1.2))),(13,(.int .i64 (Int.ofNat s.1.2.length))),(14,(.bool (ile (↑s.1.2.length) 30))),(15,(.bool (!ile (↑s.1.2.length) 30))),(16,(.bool (false))),(17,(.ptr 0 1)),(18,(.vs tK (s.2.1.1) (s.2.1.2))),(19,(.int .i64 (Int.ofNat s.2.1.2.length))),(20,(.bool (ile (↑s.2.1.2.length) 4))),(21,(.bool (!ile (↑s.2.1.2.length) 4))),(22,(.bool (!ile (↑s.2.1.2.length) 4))),(23,(.bool (false))),(24,(.ptr 0 2)),(25,(.vs tC (s.2.2.1.1) (s.2.2.1.2))),(26,(.int .i64 (Int.ofNat s.2.2.1.2.length))),(27,(.bool (!ile (↑s.2.2.1.2.length) 8))),(28,(.bool (false))),(5,(.int .i64 x9)),(29,(.int .i64 x9)),(30,(.ptr 0 0)),(31,(.vs tI (s.1.1) (s.1.2))),(32,(.int .i64 (Int.ofNat s.1.2.length))),(33,(.bool (false)))]
noncomputable def rchkI1 (s:tS.den) (x9:Int) (x74:Nat):Cfg:=⟨.ex (pcOf F2 8 [0,0,1,0,1,1,1,1]) ⟨(tmOf 107 (rchkg0 s x9++[(6,.nils),(7,(.int .i64 (0)))])),(hpOf 1 (rchkg2 s)),[],[],107,false⟩,⟨40,[]⟩,[(.lop (pcOf F2 8 [0,0,1,0,1,1,1,1]) 1 (tmOf 107 (rchkg0 s x9++[(6,.nils),(7,(.int .i64 (0)))])) x74),(.blk 2),(.seq (pcOf F2 8 [1,1,1,1,1])),(.cal [(.tmp 2),(.tmp 3),(.tmp 4)] .top)]⟩
noncomputable def rchkg3 (s:tS.den):List (Nat×AV):=[(45,(.ptr 0 1)),(46,(.vs tK (s.2.1.1) (s.2.1.2))),(47,(.int .i64 (Int.ofNat s.2.1.2.length))),(48,(.bool (false)))]
noncomputable def rchkI2 (s:tS.den) (x9:Int) (x11:Int) (x86:Nat):Cfg:=⟨.ex (pcOf F2 8 [0,0,1,0,1,1,1,1,1]) ⟨(tmOf 107 (rchkg0 s x9++rchkg3 s++[(6,.nils),(7,(.int .i64 (0))),(9,(.int .i64 x11)),(44,(.int .i64 (0)))])),(hpOf 1 (rchkg2 s)),[],[],107,false⟩,⟨40,[]⟩,[(.lop (pcOf F2 8 [0,0,1,0,1,1,1,1,1]) 1 (tmOf 107 (rchkg0 s x9++rchkg3 s++[(6,.nils),(7,(.int .i64 (0))),(9,(.int .i64 (0))),(44,(.int .i64 (0)))])) x86),(.blk 4),(.seq (pcOf F2 8 [1,1,1,1,1,1])),(.cal [(.tmp 2),(.tmp 3),(.tmp 4)] .top)]⟩
noncomputable def rchkI3 (s:tS.den) (x9:Int) (x77:Nat):Cfg:=⟨.ex (pcOf F2 8 [0,0,1,0,1,1,1,1]) ⟨(tmOf 107 (rchkg0 s x9++[(6,(.sl 1 0 (1) (1) 1)),(7,(.int .i64 (1)))])),(hpOf 2 (rchkg2 s++[(1,(.cells false ([AV.str (s.2.1.2.getD (Int.toNat 0) tK.dflt).1])))])),[],[],107,false⟩,⟨40,[]⟩,[(.lop (pcOf F2 8 [0,0,1,0,1,1,1,1]) 1 (tmOf 107 (rchkg0 s x9++[(6,.nils),(7,(.int .i64 (0)))])) x77),(.blk 2),(.seq (pcOf F2 8 [1,1,1,1,1])),(.cal [(.tmp 2),(.tmp 3),(.tmp 4)] .top)]⟩
noncomputable def rchkI4 (s:tS.den) (x9:Int) (x13:Int) (x91:Nat):Cfg:=⟨.ex (pcOf F2 8 [0,0,1,0,1,1,1,1,1]) ⟨(tmOf 107 (rchkg0 s x9++rchkg3 s++[(6,(.sl 1 0 (1) (1) 1)),(7,(.int .i64 (1))),(9,(.int .i64 x13)),(44,(.int .i64 (1)))])),(hpOf 2 (rchkg2 s++[(1,(.cells false ([AV.str (s.2.1.2.getD (Int.toNat 0) tK.dflt).1])))])),[],[],107,false⟩,⟨40,[]⟩,[(.lop (pcOf F2 8 [0,0,1,0,1,1,1,1,1]) 2 (tmOf 107 (rchkg0 s x9++rchkg3 s++[(6,(.sl 1 0 (1) (1) 1)),(7,(.int .i64 (1))),(9,(.int .i64 (0))),(44,(.int .i64 (1)))])) x91),(.blk 4),(.seq (pcOf F2 8 [1,1,1,1,1,1])),(.cal [(.tmp 2),(.tmp 3),(.tmp 4)] .top)]⟩
noncomputable def rchkI5 (s:tS.den) (x9:Int) (x10:Nat) (x12:Int) (x42:List AV) (x77:Nat):Cfg:=⟨.ex (pcOf F2 8 [0,0,1,0,1,1,1,1]) ⟨(tmOf 107 (rchkg0 s x9++[(6,(.sl 1 0 x10 x10 1)),(7,(.int .i64 x12))])),(hpOf 2 (rchkg2 s++[(1,(.cells true x42))])),[],[],107,false⟩,⟨40,[]⟩,[(.lop (pcOf F2 8 [0,0,1,0,1,1,1,1]) 1 (tmOf 107 (rchkg0 s x9++[(6,.nils),(7,(.int .i64 (0)))])) x77),(.blk 2),(.seq (pcOf F2 8 [1,1,1,1,1])),(.cal [(.tmp 2),(.tmp 3),(.tmp 4)] .top)]⟩
noncomputable def rchkI6 (s:tS.den) (x9:Int) (x10:Nat) (x12:Int) (x13:Int) (x48:List AV) (x91:Nat):Cfg:=⟨.ex (pcOf F2 8 [0,0,1,0,1,1,1,1,1]) ⟨(tmOf 107 (rchkg0 s x9++rchkg3 s++[(6,(.sl 1 0 x10 x10 1)),(7,(.int .i64 x12)),(9,(.int .i64 x13)),(44,(.int .i64 x12))])),(hpOf 2 (rchkg2 s++[(1,(.cells true x48))])),[],[],107,false⟩,⟨40,[]⟩,[(.lop (pcOf F2 8 [0,0,1,0,1,1,1,1,1]) 2 (tmOf 107 (rchkg0 s x9++rchkg3 s++[(6,(.sl 1 0 x10 x10 1)),(7,(.int .i64 x12)),(9,(.int .i64 (0))),(44,(.int .i64 x12))])) x91),(.blk 4),(.seq (pcOf F2 8 [1,1,1,1,1,1])),(.cal [(.tmp 2),(.tmp 3),(.tmp 4)] .top)]⟩
theorem rchk_start (s:tS.den):adv F2 (Z2 [8]) 3000 (startC F2 8 [tS.av s] 40)=(bif ile 1 ↑s.1.2.length then (bif !ile (↑s.1.2.length) 30 then some (.done (.tup [(.int .i64 (1)),(.int .i64 (0)),(.int .i64 (3))])) else (bif ile 1 ↑s.2.1.2.length then (bif !ile (↑s.2.1.2.length) 4 then some (.done (.tup [(.int .i64 (1)),(.int .i64 (0)),(.int .i64 (3))])) else (bif !ile (↑s.2.2.1.2.length) 8 then some (.done (.tup [(.int .i64 (1)),(.int .i64 (0)),(.int .i64 (3))])) else some (.stop (rchkI0 s (0) (1048575))))) else some (.done (.tup [(.int .i64 (1)),(.int .i64 (0)),(.int .i64 (3))])))) else some (.done (.tup [(.int .i64 (1)),(.int .i64 (0)),(.int .i64 (3))]))):=by kernel_rfl
theorem rchk_step0 (s:tS.den) (x9:Int) (x62:Nat):adv F2 (Z2 [8]) 3000 (rchkI0 s x9 (x62+1))=(bif !ile (↑s.1.2.length) x9 then (bif inB x9 s.1.2.length then (bif ile 0 (s.1.2.getD x9.toNat tI.dflt) then (bif !ile (s.1.2.getD x9.toNat tI.dflt) 12 then some (.done (.tup [(.int .i64 (1)),(.int .i64 (x9)),(.int .i64 (7))])) else some (.stop (rchkI0 s (wr .i64 (x9+1)) (x62)))) else some (.done (.tup [(.int .i64 (1)),(.int .i64 (x9)),(.int .i64 (7))]))) else none) else some (.stop (rchkI1 s (x9) (1048575)))):=by kernel_rfl
theorem rchk_step1 (s:tS.den) (x9:Int) (x74:Nat):adv F2 (Z2 [8]) 3000 (rchkI1 s x9 (x74+1))=(bif !ile (↑s.2.1.2.length) 0 then (bif inB 0 s.2.1.2.length then (bif !nameS (s.2.1.2.getD (Int.toNat 0) tK.dflt).1 then (bif inB 0 s.2.1.2.length then some (.done (.tup [(.int .i64 (2)),(.int .i64 (0)),(.int .i64 (6))])) else none) else (bif ieq (rngE (s.2.1.2.getD (Int.toNat 0) tK.dflt).2.1.1 (s.2.1.2.getD (Int.toNat 0) tK.dflt).2.1.2.1 0 300) 7 then (bif inB 0 s.2.1.2.length then some (.done (.tup [(.int .i64 (2)),(.int .i64 (0)),(.int .i64 (7))])) else none) else (bif ieq (rngE (s.2.1.2.getD (Int.toNat 0) tK.dflt).2.2.1.1 (s.2.1.2.getD (Int.toNat 0) tK.dflt).2.2.1.2.1 0 6) 7 then (bif inB 0 s.2.1.2.length then some (.done (.tup [(.int .i64 (2)),(.int .i64 (0)),(.int .i64 (7))])) else none) else (bif ieq (rngE (s.2.1.2.getD (Int.toNat 0) tK.dflt).2.2.2.1.1 (s.2.1.2.getD (Int.toNat 0) tK.dflt).2.2.2.1.2.1 0 12) 7 then (bif inB 0 s.2.1.2.length then some (.done (.tup [(.int .i64 (2)),(.int .i64 (0)),(.int .i64 (7))])) else none) else (bif ile 0 (s.2.1.2.getD (Int.toNat 0) tK.dflt).2.2.2.2.1 then (bif !ile (s.2.1.2.getD (Int.toNat 0) tK.dflt).2.2.2.2.1 300 then (bif inB 0 s.2.1.2.length then some (.done (.tup [(.int .i64 (2)),(.int .i64 (0)),(.int .i64 (7))])) else none) else (bif ile 0 (s.2.1.2.getD (Int.toNat 0) tK.dflt).2.2.2.2.2.1 then (bif !ile (s.2.1.2.getD (Int.toNat 0) tK.dflt).2.2.2.2.2.1 1000 then (bif inB 0 s.2.1.2.length then some (.done (.tup [(.int .i64 (2)),(.int .i64 (0)),(.int .i64 (7))])) else none) else (bif !ieq (rngE (s.2.1.2.getD (Int.toNat 0) tK.dflt).2.1.1 (s.2.1.2.getD (Int.toNat 0) tK.dflt).2.1.2.1 0 300) 0 then (bif inB 0 s.2.1.2.length then some (.done (.tup [(.int .i64 (2)),(.int .i64 (0)),(.int .i64 (2))])) else none) else (bif !ieq (rngE (s.2.1.2.getD (Int.toNat 0) tK.dflt).2.2.1.1 (s.2.1.2.getD (Int.toNat 0) tK.dflt).2.2.1.2.1 0 6) 0 then (bif inB 0 s.2.1.2.length then some (.done (.tup [(.int .i64 (2)),(.int .i64 (0)),(.int .i64 (2))])) else none) else (bif !ieq (rngE (s.2.1.2.getD (Int.toNat 0) tK.dflt).2.2.2.1.1 (s.2.1.2.getD (Int.toNat 0) tK.dflt).2.2.2.1.2.1 0 12) 0 then (bif inB 0 s.2.1.2.length then some (.done (.tup [(.int .i64 (2)),(.int .i64 (0)),(.int .i64 (2))])) else none) else (bif inB 0 s.2.1.2.length then some (.stop (rchkI3 s (x9) (x74))) else none))))) else (bif inB 0 s.2.1.2.length then some (.done (.tup [(.int .i64 (2)),(.int .i64 (0)),(.int .i64 (7))])) else none))) else (bif inB 0 s.2.1.2.length then some (.done (.tup [(.int .i64 (2)),(.int .i64 (0)),(.int .i64 (7))])) else none)))))) else none) else some (.stop (rchkI2 s (x9) (0) (1048575)))):=by kernel_rfl
theorem rchk_step3 (s:tS.den) (x9:Int) (x77:Nat):adv F2 (Z2 [8]) 3000 (rchkI3 s x9 (x77+1))=(bif !ile (↑s.2.1.2.length) 1 then (bif inB 1 s.2.1.2.length then (bif !nameS (s.2.1.2.getD (Int.toNat 1) tK.dflt).1 then (bif inB 1 s.2.1.2.length then some (.done (.tup [(.int .i64 (2)),(.int .i64 (1)),(.int .i64 (6))])) else none) else (bif ile 0 (placeF (s.2.1.2.getD (Int.toNat 1) tK.dflt).1 (strs (List.drop 0 [AV.str (s.2.1.2.getD (Int.toNat 0) tK.dflt).1])) 0) then (bif inB 1 s.2.1.2.length then some (.done (.tup [(.int .i64 (2)),(.int .i64 (1)),(.int .i64 (5))])) else none) else (bif ieq (rngE (s.2.1.2.getD (Int.toNat 1) tK.dflt).2.1.1 (s.2.1.2.getD (Int.toNat 1) tK.dflt).2.1.2.1 0 300) 7 then (bif inB 1 s.2.1.2.length then some (.done (.tup [(.int .i64 (2)),(.int .i64 (1)),(.int .i64 (7))])) else none) else (bif ieq (rngE (s.2.1.2.getD (Int.toNat 1) tK.dflt).2.2.1.1 (s.2.1.2.getD (Int.toNat 1) tK.dflt).2.2.1.2.1 0 6) 7 then (bif inB 1 s.2.1.2.length then some (.done (.tup [(.int .i64 (2)),(.int .i64 (1)),(.int .i64 (7))])) else none) else (bif ieq (rngE (s.2.1.2.getD (Int.toNat 1) tK.dflt).2.2.2.1.1 (s.2.1.2.getD (Int.toNat 1) tK.dflt).2.2.2.1.2.1 0 12) 7 then (bif inB 1 s.2.1.2.length then some (.done (.tup [(.int .i64 (2)),(.int .i64 (1)),(.int .i64 (7))])) else none) else (bif ile 0 (s.2.1.2.getD (Int.toNat 1) tK.dflt).2.2.2.2.1 then (bif !ile (s.2.1.2.getD (Int.toNat 1) tK.dflt).2.2.2.2.1 300 then (bif inB 1 s.2.1.2.length then some (.done (.tup [(.int .i64 (2)),(.int .i64 (1)),(.int .i64 (7))])) else none) else (bif ile 0 (s.2.1.2.getD (Int.toNat 1) tK.dflt).2.2.2.2.2.1 then (bif !ile (s.2.1.2.getD (Int.toNat 1) tK.dflt).2.2.2.2.2.1 1000 then (bif inB 1 s.2.1.2.length then some (.done (.tup [(.int .i64 (2)),(.int .i64 (1)),(.int .i64 (7))])) else none) else (bif !ieq (rngE (s.2.1.2.getD (Int.toNat 1) tK.dflt).2.1.1 (s.2.1.2.getD (Int.toNat 1) tK.dflt).2.1.2.1 0 300) 0 then (bif inB 1 s.2.1.2.length then some (.done (.tup [(.int .i64 (2)),(.int .i64 (1)),(.int .i64 (2))])) else none) else (bif !ieq (rngE (s.2.1.2.getD (Int.toNat 1) tK.dflt).2.2.1.1 (s.2.1.2.getD (Int.toNat 1) tK.dflt).2.2.1.2.1 0 6) 0 then (bif inB 1 s.2.1.2.length then some (.done (.tup [(.int .i64 (2)),(.int .i64 (1)),(.int .i64 (2))])) else none) else (bif !ieq (rngE (s.2.1.2.getD (Int.toNat 1) tK.dflt).2.2.2.1.1 (s.2.1.2.getD (Int.toNat 1) tK.dflt).2.2.2.1.2.1 0 12) 0 then (bif inB 1 s.2.1.2.length then some (.done (.tup [(.int .i64 (2)),(.int .i64 (1)),(.int .i64 (2))])) else none) else (bif inB 1 s.2.1.2.length then some (.stop (rchkI5 s (x9) (2) (2) ([AV.str (s.2.1.2.getD (Int.toNat 0) tK.dflt).1,AV.str (s.2.1.2.getD (Int.toNat 1) tK.dflt).1]) (x77))) else none))))) else (bif inB 1 s.2.1.2.length then some (.done (.tup [(.int .i64 (2)),(.int .i64 (1)),(.int .i64 (7))])) else none))) else (bif inB 1 s.2.1.2.length then some (.done (.tup [(.int .i64 (2)),(.int .i64 (1)),(.int .i64 (7))])) else none))))))) else none) else some (.stop (rchkI4 s (x9) (0) (1048575)))):=by kernel_rfl
theorem rchk_step4 (s:tS.den) (x9:Int) (x13:Int) (x91:Nat):adv F2 (Z2 [8]) 3000 (rchkI4 s x9 x13 (x91+1))=(bif !ile (↑s.2.2.1.2.length) x13 then (bif inB x13 s.2.2.1.2.length then (bif ile 0 (s.2.2.1.2.getD x13.toNat tC.dflt).2.1 then (bif !ile (s.2.2.1.2.getD x13.toNat tC.dflt).2.1 (wr .i64 (↑s.2.1.2.length-1)) then some (.done (.tup [(.int .i64 (3)),(.int .i64 (x13)),(.int .i64 (4))])) else (bif ile 0 (s.2.2.1.2.getD x13.toNat tC.dflt).1 then (bif !ile (s.2.2.1.2.getD x13.toNat tC.dflt).1 (wr .i64 (↑s.1.2.length-1)) then some (.done (.tup [(.int .i64 (3)),(.int .i64 (x13)),(.int .i64 (7))])) else (bif ile 0 (s.2.2.1.2.getD x13.toNat tC.dflt).2.2.1 then (bif !ile (s.2.2.1.2.getD x13.toNat tC.dflt).2.2.1 300 then some (.done (.tup [(.int .i64 (3)),(.int .i64 (x13)),(.int .i64 (7))])) else some (.stop (rchkI4 s (x9) (wr .i64 (x13+1)) (x91)))) else some (.done (.tup [(.int .i64 (3)),(.int .i64 (x13)),(.int .i64 (7))])))) else some (.done (.tup [(.int .i64 (3)),(.int .i64 (x13)),(.int .i64 (7))])))) else some (.done (.tup [(.int .i64 (3)),(.int .i64 (x13)),(.int .i64 (4))]))) else none) else some (.done (.tup [(.int .i64 (0)),(.int .i64 (0)),(.int .i64 (0))]))):=by kernel_rfl
theorem rchk_step5 (s:tS.den) (x9:Int) (x10:Nat) (x12:Int) (x42:List AV) (x77:Nat):adv F2 (Z2 [8]) 3000 (rchkI5 s x9 x10 x12 x42 (x77+1))=(bif !ile (↑s.2.1.2.length) x12 then (bif inB x12 s.2.1.2.length then (bif plainL x42 then (bif !nameS (s.2.1.2.getD x12.toNat tK.dflt).1 then (bif inB x12 s.2.1.2.length then (bif (0+x10 * 1).beq x42.length then (bif x10.ble 1048576 then some (.done (.tup [(.int .i64 (2)),(.int .i64 (x12)),(.int .i64 (6))])) else none) else none) else none) else (bif (List.drop 0 x42).all isS&&x10.beq (List.drop 0 x42).length&&x10.ble 1000 then (bif ile 0 (placeF (s.2.1.2.getD x12.toNat tK.dflt).1 (strs (List.drop 0 x42)) 0) then (bif inB x12 s.2.1.2.length then (bif (0+x10 * 1).beq x42.length then (bif x10.ble 1048576 then some (.done (.tup [(.int .i64 (2)),(.int .i64 (x12)),(.int .i64 (5))])) else none) else none) else none) else (bif ieq (rngE (s.2.1.2.getD x12.toNat tK.dflt).2.1.1 (s.2.1.2.getD x12.toNat tK.dflt).2.1.2.1 0 300) 7 then (bif inB x12 s.2.1.2.length then (bif (0+x10 * 1).beq x42.length then (bif x10.ble 1048576 then some (.done (.tup [(.int .i64 (2)),(.int .i64 (x12)),(.int .i64 (7))])) else none) else none) else none) else (bif ieq (rngE (s.2.1.2.getD x12.toNat tK.dflt).2.2.1.1 (s.2.1.2.getD x12.toNat tK.dflt).2.2.1.2.1 0 6) 7 then (bif inB x12 s.2.1.2.length then (bif (0+x10 * 1).beq x42.length then (bif x10.ble 1048576 then some (.done (.tup [(.int .i64 (2)),(.int .i64 (x12)),(.int .i64 (7))])) else none) else none) else none) else (bif ieq (rngE (s.2.1.2.getD x12.toNat tK.dflt).2.2.2.1.1 (s.2.1.2.getD x12.toNat tK.dflt).2.2.2.1.2.1 0 12) 7 then (bif inB x12 s.2.1.2.length then (bif (0+x10 * 1).beq x42.length then (bif x10.ble 1048576 then some (.done (.tup [(.int .i64 (2)),(.int .i64 (x12)),(.int .i64 (7))])) else none) else none) else none) else (bif ile 0 (s.2.1.2.getD x12.toNat tK.dflt).2.2.2.2.1 then (bif !ile (s.2.1.2.getD x12.toNat tK.dflt).2.2.2.2.1 300 then (bif inB x12 s.2.1.2.length then (bif (0+x10 * 1).beq x42.length then (bif x10.ble 1048576 then some (.done (.tup [(.int .i64 (2)),(.int .i64 (x12)),(.int .i64 (7))])) else none) else none) else none) else (bif ile 0 (s.2.1.2.getD x12.toNat tK.dflt).2.2.2.2.2.1 then (bif !ile (s.2.1.2.getD x12.toNat tK.dflt).2.2.2.2.2.1 1000 then (bif inB x12 s.2.1.2.length then (bif (0+x10 * 1).beq x42.length then (bif x10.ble 1048576 then some (.done (.tup [(.int .i64 (2)),(.int .i64 (x12)),(.int .i64 (7))])) else none) else none) else none) else (bif !ieq (rngE (s.2.1.2.getD x12.toNat tK.dflt).2.1.1 (s.2.1.2.getD x12.toNat tK.dflt).2.1.2.1 0 300) 0 then (bif inB x12 s.2.1.2.length then (bif (0+x10 * 1).beq x42.length then (bif x10.ble 1048576 then some (.done (.tup [(.int .i64 (2)),(.int .i64 (x12)),(.int .i64 (2))])) else none) else none) else none) else (bif !ieq (rngE (s.2.1.2.getD x12.toNat tK.dflt).2.2.1.1 (s.2.1.2.getD x12.toNat tK.dflt).2.2.1.2.1 0 6) 0 then (bif inB x12 s.2.1.2.length then (bif (0+x10 * 1).beq x42.length then (bif x10.ble 1048576 then some (.done (.tup [(.int .i64 (2)),(.int .i64 (x12)),(.int .i64 (2))])) else none) else none) else none) else (bif !ieq (rngE (s.2.1.2.getD x12.toNat tK.dflt).2.2.2.1.1 (s.2.1.2.getD x12.toNat tK.dflt).2.2.2.1.2.1 0 12) 0 then (bif inB x12 s.2.1.2.length then (bif (0+x10 * 1).beq x42.length then (bif x10.ble 1048576 then some (.done (.tup [(.int .i64 (2)),(.int .i64 (x12)),(.int .i64 (2))])) else none) else none) else none) else (bif inB x12 s.2.1.2.length then (bif (0+x10 * 1).beq x42.length then (bif x10.ble 1048576 then (bif plO (AO.cells true (x42++[AV.str (s.2.1.2.getD x12.toNat tK.dflt).1])) then some (.stop (rchkI5 s (x9) (x10+1) (wr .i64 (x12+1)) (x42++[AV.str (s.2.1.2.getD x12.toNat tK.dflt).1]) (x77))) else none) else none) else none) else none))))) else (bif inB x12 s.2.1.2.length then (bif (0+x10 * 1).beq x42.length then (bif x10.ble 1048576 then some (.done (.tup [(.int .i64 (2)),(.int .i64 (x12)),(.int .i64 (7))])) else none) else none) else none))) else (bif inB x12 s.2.1.2.length then (bif (0+x10 * 1).beq x42.length then (bif x10.ble 1048576 then some (.done (.tup [(.int .i64 (2)),(.int .i64 (x12)),(.int .i64 (7))])) else none) else none) else none)))))) else none)) else none) else none) else some (.stop (rchkI6 s (x9) (x10) (x12) (0) (x42) (1048575)))):=by kernel_rfl
theorem rchk_step6 (s:tS.den) (x9:Int) (x10:Nat) (x12:Int) (x13:Int) (x48:List AV) (x91:Nat):adv F2 (Z2 [8]) 3000 (rchkI6 s x9 x10 x12 x13 x48 (x91+1))=(bif !ile (↑s.2.2.1.2.length) x13 then (bif inB x13 s.2.2.1.2.length then (bif ile 0 (s.2.2.1.2.getD x13.toNat tC.dflt).2.1 then (bif !ile (s.2.2.1.2.getD x13.toNat tC.dflt).2.1 (wr .i64 (↑s.2.1.2.length-1)) then some (.done (.tup [(.int .i64 (3)),(.int .i64 (x13)),(.int .i64 (4))])) else (bif ile 0 (s.2.2.1.2.getD x13.toNat tC.dflt).1 then (bif !ile (s.2.2.1.2.getD x13.toNat tC.dflt).1 (wr .i64 (↑s.1.2.length-1)) then some (.done (.tup [(.int .i64 (3)),(.int .i64 (x13)),(.int .i64 (7))])) else (bif ile 0 (s.2.2.1.2.getD x13.toNat tC.dflt).2.2.1 then (bif !ile (s.2.2.1.2.getD x13.toNat tC.dflt).2.2.1 300 then some (.done (.tup [(.int .i64 (3)),(.int .i64 (x13)),(.int .i64 (7))])) else (bif plO (AO.cells true x48) then some (.stop (rchkI6 s (x9) (x10) (x12) (wr .i64 (x13+1)) (x48) (x91))) else none)) else some (.done (.tup [(.int .i64 (3)),(.int .i64 (x13)),(.int .i64 (7))])))) else some (.done (.tup [(.int .i64 (3)),(.int .i64 (x13)),(.int .i64 (7))])))) else some (.done (.tup [(.int .i64 (3)),(.int .i64 (x13)),(.int .i64 (4))]))) else none) else some (.done (.tup [(.int .i64 (0)),(.int .i64 (0)),(.int .i64 (0))]))):=by kernel_rfl
theorem rBA (k:tK.den):kA k=(rB k.2.1.1 k.2.1.2.1 0 300&&(rB k.2.2.1.1 k.2.2.1.2.1 0 6&&(rB k.2.2.2.1.1 k.2.2.2.1.2.1 0 12&&(ile 0 k.2.2.2.2.1&&(ile k.2.2.2.2.1 300&&(ile 0 k.2.2.2.2.2.1&&ile k.2.2.2.2.2.1 1000)))))):=by
 unfold kA rB;ac_rfl
theorem rT_eq (k:tK.den) (S D2 D7:Option Out):(bif rB k.2.1.1 k.2.1.2.1 0 300&&(rB k.2.2.1.1 k.2.2.1.2.1 0 6&&(rB k.2.2.2.1.1 k.2.2.2.1.2.1 0 12&&(ile 0 k.2.2.2.2.1&&(ile k.2.2.2.2.1 300&&(ile 0 k.2.2.2.2.2.1&&ile k.2.2.2.2.2.1 1000))))) then
  (bif (rB k.2.1.1 k.2.1.2.1 0 300&&ile k.2.1.1 k.2.1.2.1)&&((rB k.2.2.1.1 k.2.2.1.2.1 0 6&&ile k.2.2.1.1 k.2.2.1.2.1)&&(rB k.2.2.2.1.1 k.2.2.2.1.2.1 0 12&&ile k.2.2.2.1.1 k.2.2.2.1.2.1)) then S else D2) else D7)=bif kA k then (bif kL k then S else D2) else D7:=by
 rw[rBA];unfold kL
 cases rB k.2.1.1 k.2.1.2.1 0 300<;>cases rB k.2.2.1.1 k.2.2.1.2.1 0 6<;>cases rB k.2.2.2.1.1 k.2.2.2.1.2.1 0 12<;>simp only[Bool.true_and,Bool.false_and,cond_false]
theorem rcar4 {s:tS.den} (H:LenOK s) (x:Int):∀ (r i m:Nat),i+r=s.2.2.1.2.length→r<m→Ans F2 (rchkI4 s x i m) (tup3 (carS s.2.1.2.length s.1.2.length i (s.2.2.1.2.drop i)))
 |0,i,m+1,hk,hm=>by
  have h:=rchk_step4 s x i m
  rw[ile_t (show ((s.2.2.1.2.length:Nat):Int)≤(i:Int) by omega),Bool.not_true,cond_false] at h
  rw[List.drop_eq_nil_of_le (by omega)]
  exact done3 (Z2_ok _) F2sy h rfl
 |r+1,i,m+1,hk,hm=>by
  have h:=rchk_step4 s x i m
  have hlt:i<s.2.2.1.2.length:=by omega
  have c2:=H.c2
  rw[ile_f (show (i:Int)<((s.2.2.1.2.length:Nat):Int) by omega),inB_at hlt,getD_at hlt,wr_l (show s.2.1.2.length≤30 by have:=H.k2;omega),wr_l H.m2,wr_succ (show i<1048577 by omega)] at h
  simp only[cond_not',cond_and',cond_true,cond_false] at h
  rw[cT_eq] at h
  rw[List.drop_eq_getElem_cons hlt,carS]
  cases c:ieq (cE s.2.1.2.length s.1.2.length s.2.2.1.2[i]) 0 with
  |true=>rw[c,cond_true] at h;rw[cond_true];exact .stop (Z2_ok _) F2sy h (rcar4 H x r (i+1) m (by omega) (by omega))
  |false=>rw[c,cond_false] at h;rw[cond_false];exact done3 (Z2_ok _) F2sy h rfl
theorem rcar6 {s:tS.den} (H:LenOK s) (x y:Int) (q:Nat) (l:List AV) (hl:l.all isS=true):∀ (r i m:Nat),i+r=s.2.2.1.2.length→r<m→Ans F2 (rchkI6 s x q y i l m) (tup3 (carS s.2.1.2.length s.1.2.length i (s.2.2.1.2.drop i)))
 |0,i,m+1,hk,hm=>by
  have h:=rchk_step6 s x q y i l m
  rw[ile_t (show ((s.2.2.1.2.length:Nat):Int)≤(i:Int) by omega),Bool.not_true,cond_false] at h
  rw[List.drop_eq_nil_of_le (by omega)]
  exact done3 (Z2_ok _) F2sy h rfl
 |r+1,i,m+1,hk,hm=>by
  have h:=rchk_step6 s x q y i l m
  have hlt:i<s.2.2.1.2.length:=by omega
  have c2:=H.c2
  have pl:plO (AO.cells true l)=true:=plain_isS hl
  rw[ile_f (show (i:Int)<((s.2.2.1.2.length:Nat):Int) by omega),inB_at hlt,getD_at hlt,wr_l (show s.2.1.2.length≤30 by have:=H.k2;omega),wr_l H.m2,wr_succ (show i<1048577 by omega),pl] at h
  simp only[cond_not',cond_and',cond_true,cond_false] at h
  rw[cT_eq] at h
  rw[List.drop_eq_getElem_cons hlt,carS]
  cases c:ieq (cE s.2.1.2.length s.1.2.length s.2.2.1.2[i]) 0 with
  |true=>rw[c,cond_true] at h;rw[cond_true];exact .stop (Z2_ok _) F2sy h (rcar6 H x y q l hl r (i+1) m (by omega) (by omega))
  |false=>rw[c,cond_false] at h;rw[cond_false];exact done3 (Z2_ok _) F2sy h rfl
theorem beq1 (l:List AV):(0+l.length * 1).beq l.length=true:=by rw[Nat.zero_add,Nat.mul_one];exact Nat.beq_refl _
theorem rkin {s:tS.den} (H:LenOK s) (x:Int):∀ (r i m:Nat) (l:List AV) (mem:List Nat→Bool),i+r=s.2.1.2.length→r<m→l.length=i→l.all isS=true→(∀ t,ile 0 (placeF t (strs l) 0)=mem t)→Ans F2 (rchkI5 s x l.length i l m) (tup3 (kinS mem i (s.2.1.2.drop i) (carS s.2.1.2.length s.1.2.length 0 s.2.2.1.2)))
 |0,i,m+1,l,mem,hk,hm,hl,hs,hmem=>by
  have h:=rchk_step5 s x l.length i l m
  rw[ile_t (show ((s.2.1.2.length:Nat):Int)≤(i:Int) by omega),Bool.not_true,cond_false] at h
  rw[List.drop_eq_nil_of_le (by omega)]
  exact .stop (Z2_ok _) F2sy h (rcar6 H x i l.length l hs s.2.2.1.2.length 0 1048575 (by omega) (by have:=H.c2;omega))
 | r + 1, i, m + 1, l, mem, hk, hm, hl, hs, hmem => by
  have h:=rchk_step5 s x l.length i l m
  have hlt:i<s.2.1.2.length:=by omega
  have k2:=H.k2
  have pl2:plainL l=true:=plain_isS hs
  have b1:=beq1 l
  have b2:l.length.ble 1048576=true:=Nat.ble_eq_true_of_le (by omega)
  have b3:l.length.ble 1000=true:=Nat.ble_eq_true_of_le (by omega)
  have b4:l.length.beq l.length=true:=Nat.beq_refl _
  have ap:=app_plain hs (s.2.1.2[i]).1
  rw[ile_f (show (i:Int)<((s.2.1.2.length:Nat):Int) by omega),inB_at hlt,getD_at hlt,wr_succ (show i<1048577 by omega)] at h
  simp only[List.drop_zero,hs,pl2,b1,b2,b3,b4,ap,hmem,rng7,rng0,Bool.and_self,cond_not',cond_and',cond_true,cond_false] at h
  rw[rT_eq] at h
  have h:adv F2 (Z2 [8]) 3000 (rchkI5 s x l.length i l (m+1))=kT (nameS (s.2.1.2[i]).1) (mem (s.2.1.2[i]).1) (kA s.2.1.2[i]) (kL s.2.1.2[i]) 2 i (some (.stop (rchkI5 s x (l.length+1) ((i+1:Nat):Int) (l++[AV.str (s.2.1.2[i]).1]) m))):=h
  rw[kT_eq] at h
  rw[List.drop_eq_getElem_cons hlt,kinS]
  cases c:ieq (kE mem s.2.1.2[i]) 0 with
  |true=>
   rw[c,cond_true] at h;rw[cond_true]
   have e:l.length+1=(l++[AV.str (s.2.1.2[i]).1]).length:=by simp
   rw[e] at h
   exact .stop (Z2_ok _) F2sy h (rkin H x r (i+1) m (l++[AV.str (s.2.1.2[i]).1]) (addM mem (s.2.1.2[i]).1) (by omega) (by omega) (by simp[hl]) (isS_add hs _) (fun t=>by rw[strs_add,placeF_add,hmem];rfl))
  |false=>rw[c,cond_false] at h;rw[cond_false];exact done3 (Z2_ok _) F2sy h rfl
theorem rkin1 {s:tS.den} (H:LenOK s) (x:Int) (m:Nat) (hm:40≤m):Ans F2 (rchkI1 s x m) (tup3 (kinS (fun _=>false) 0 s.2.1.2 (carS s.2.1.2.length s.1.2.length 0 s.2.2.1.2))):=by
 obtain⟨m,rfl⟩:∃ k,m=k+2:=⟨m-2,by omega⟩
 have h:=rchk_step1 s x (m+1)
 have k1:=H.k1
 have k2:=H.k2
 have h0:0<s.2.1.2.length:=by omega
 have e0:s.2.1.2=s.2.1.2[0]::s.2.1.2.drop 1:=by rw[← List.drop_eq_getElem_cons h0,List.drop_zero]
 have kin0:kinS (fun _=>false) 0 s.2.1.2 (carS s.2.1.2.length s.1.2.length 0 s.2.2.1.2)=bif ieq (kE (fun _=>false) s.2.1.2[0]) 0 then kinS (addM (fun _=>false) (s.2.1.2[0]).1) 1 (s.2.1.2.drop 1) (carS s.2.1.2.length s.1.2.length 0 s.2.2.1.2) else (2,0,kE (fun _=>false) s.2.1.2[0]):=by
  have:kinS (fun _=>false) 0 (s.2.1.2[0]::s.2.1.2.drop 1) (carS s.2.1.2.length s.1.2.length 0 s.2.2.1.2)=bif ieq (kE (fun _=>false) s.2.1.2[0]) 0 then kinS (addM (fun _=>false) (s.2.1.2[0]).1) 1 (s.2.1.2.drop 1) (carS s.2.1.2.length s.1.2.length 0 s.2.2.1.2) else (2,0,kE (fun _=>false) s.2.1.2[0]):=rfl
  rw[← e0] at this
  exact this
 rw[ile_f (show (0:Int)<((s.2.1.2.length:Nat):Int) by omega),inB_0 h0,getD_0 h0] at h
 simp only[rng7,rng0,cond_not',cond_and',cond_true,cond_false] at h
 rw[rT_eq] at h
 have h:adv F2 (Z2 [8]) 3000 (rchkI1 s x (m+2))=kT (nameS (s.2.1.2[0]).1) ((fun _=>false) (s.2.1.2[0]).1) (kA s.2.1.2[0]) (kL s.2.1.2[0]) 2 0 (some (.stop (rchkI3 s x (m+1)))):=h
 rw[kT_eq (fun _=>false)] at h
 rw[kin0]
 cases c:ieq (kE (fun _=>false) s.2.1.2[0]) 0 with
 |false=>rw[c,cond_false] at h;rw[cond_false];exact done3 (Z2_ok _) F2sy h rfl
 |true=>
  rw[c,cond_true] at h;rw[cond_true]
  refine .stop (Z2_ok _) F2sy h ?_
  have h:=rchk_step3 s x m
  by_cases h1:1<s.2.1.2.length
  · have e1 : s.2.1.2.drop 1 = s.2.1.2[1] :: s.2.1.2.drop 2 := List.drop_eq_getElem_cons h1
    have kin1:kinS (addM (fun _=>false) (s.2.1.2[0]).1) 1 (s.2.1.2.drop 1) (carS s.2.1.2.length s.1.2.length 0 s.2.2.1.2)=bif ieq (kE (addM (fun _=>false) (s.2.1.2[0]).1) s.2.1.2[1]) 0 then kinS (addM (addM (fun _=>false) (s.2.1.2[0]).1) (s.2.1.2[1]).1) 2 (s.2.1.2.drop 2) (carS s.2.1.2.length s.1.2.length 0 s.2.2.1.2) else (2,1,kE (addM (fun _=>false) (s.2.1.2[0]).1) s.2.1.2[1]):=by rw[e1];rfl
    rw[ile_f (show (1:Int)<((s.2.1.2.length:Nat):Int) by omega),inB_1 h1,getD_1 h1,getD_0 h0] at h
    simp only[List.drop_zero,one_mem,rng7,rng0,cond_not',cond_and',cond_true,cond_false] at h
    rw[rT_eq] at h
    have h:adv F2 (Z2 [8]) 3000 (rchkI3 s x (m+1))=kT (nameS (s.2.1.2[1]).1) (addM (fun _=>false) (s.2.1.2[0]).1 (s.2.1.2[1]).1) (kA s.2.1.2[1]) (kL s.2.1.2[1]) 2 1 (some (.stop (rchkI5 s x 2 2 [AV.str (s.2.1.2[0]).1,AV.str (s.2.1.2[1]).1] m))):=h
    rw[kT_eq] at h
    rw[kin1]
    cases c:ieq (kE (addM (fun _=>false) (s.2.1.2[0]).1) s.2.1.2[1]) 0 with
    |false=>rw[c,cond_false] at h;rw[cond_false];exact done3 (Z2_ok _) F2sy h rfl
    |true=>
     rw[c,cond_true] at h;rw[cond_true]
     exact .stop (Z2_ok _) F2sy h (rkin H x (s.2.1.2.length-2) 2 m [AV.str (s.2.1.2[0]).1,AV.str (s.2.1.2[1]).1] _ (by omega) (by omega) rfl rfl (two_mem _ _))
  · rw [ile_t (show ((s.2.1.2.length : Nat) : Int) ≤ 1 by omega), Bool.not_true, cond_false] at h
    rw[List.drop_eq_nil_of_le (by omega)]
    exact .stop (Z2_ok _) F2sy h (rcar4 H x s.2.2.1.2.length 0 1048575 (by omega) (by have:=H.c2;omega))
theorem rmen {s:tS.den} (H:LenOK s):∀ (r i m:Nat),i+r=s.1.2.length→r<m→Ans F2 (rchkI0 s i m) (tup3 (menS i (s.1.2.drop i) (kinS (fun _=>false) 0 s.2.1.2 (carS s.2.1.2.length s.1.2.length 0 s.2.2.1.2))))
 |0,i,m+1,hk,hm=>by
  have h:=rchk_step0 s i m
  rw[ile_t (show ((s.1.2.length:Nat):Int)≤(i:Int) by omega),Bool.not_true,cond_false] at h
  rw[List.drop_eq_nil_of_le (by omega)]
  exact .stop (Z2_ok _) F2sy h (rkin1 H i 1048575 (by omega))
 | r + 1, i, m + 1, hk, hm => by
  have h:=rchk_step0 s i m
  have hlt:i<s.1.2.length:=by omega
  have m2:=H.m2
  rw[ile_f (show (i:Int)<((s.1.2.length:Nat):Int) by omega),inB_at hlt,getD_at hlt,wr_succ (show i<1048577 by omega)] at h
  simp only[cond_not',cond_and',cond_true,cond_false] at h
  rw[List.drop_eq_getElem_cons hlt,menS]
  have h:adv F2 (Z2 [8]) 3000 (rchkI0 s i (m+1))=bif mB s.1.2[i] then _ else _:=h
  cases c:mB s.1.2[i] with
  |true=>
   rw[c,cond_true] at h;rw[cond_true]
   exact .stop (Z2_ok _) F2sy h (rmen H r (i+1) m (by omega) (by omega))
  |false=>rw[c,cond_false] at h;rw[cond_false];exact done3 (Z2_ok _) F2sy h rfl
theorem rchk_call (s:tS.den):AnsF F2 8 [tS.av s] (tup3 (chkS s)):=by
 refine Ans.call (n:=40) (ext_none (by kernel_rfl)) (hasB_spec (by kernel_rfl)) ?_
 have h:=rchk_start s
 simp only[cond_not',cond_and'] at h
 have h:adv F2 (Z2 [8]) 3000 (startC F2 8 [tS.av s] 40)=bif lenB s then _ else _:=h
 unfold chkS
 cases c:lenB s with
 |true=>rw[c,cond_true] at h;rw[cond_true];exact .stop (Z2_ok _) F2sy h (rmen (len_ok c) s.1.2.length 0 1048575 (by omega) (by have:=(len_ok c).m2;omega))
 |false=>rw[c,cond_false] at h;rw[cond_false];exact done3 (Z2_ok _) F2sy h rfl
noncomputable def LC:List Said:=[(7,con1 tS (fun _=>true) (fun s=>tup3 (chkS s))),(8,con1 tS (fun _=>true) (fun s=>tup3 (chkS s)))]
theorem LC_ok:∀ e∈LC,SaidG Tryz.prog F2.glob e:=
 saids_cons (SaidOK.g f2 xf2 nf2 tabs_ok.mix (fun _ _ h=>con1_spec (t:=tS) (fun s _=>pchk_call s) h) rfl)
 (saids_cons (SaidOK.g f2 xf2 nf2 tabs_ok.mix (fun _ _ h=>con1_spec (t:=tS) (fun s _=>rchk_call s) h) rfl) saids_nil)
noncomputable def F3:Env:=F2.say (under (xOf LC))
theorem f3:EnvOK Tryz.prog F3:=f2.say _
theorem nf3:NameOK F3:=nf2.say _
theorem xf3:ExtOK Tryz.prog F3:=xf2.sayL LC_ok
theorem F3sy:F3.sy=true:=rfl
noncomputable def Z3 (l:List Nat):Sy:=(Z2 []).on LC l
theorem Z3_ok (l:List Nat):(Z3 l).ok F3:=Sy.on_ok (Z2_ok _)
end Go.Proofs.YtelibdeanepdjaaGreat


set_option maxRecDepth 100000
namespace Go.Proofs.YtelibdeanepdjaaGreat
open Go Go.Eng
noncomputable def pcalg0 (l:(Ty.sl tN).den):List (Nat×AV):=[(0,(.vs tN (l.1) (l.2))),(1,(.fn 114 [] [(.ptr 1 0)])),(5,(.int .i64 (0))),(9,(.vs tN (l.1) (l.2))),(10,(.int .i64 (Int.ofNat l.2.length))),(4,(.int .i64 (0)))]
noncomputable def pcalg1 (s:tS.den) (l:(Ty.sl tN).den):List (Nat×AV):=[(4,(.int .i64 (0))),(0,(.agg [(.vs tI (s.1.1) (s.1.2)),(.vs tK (s.2.1.1) (s.2.1.2)),(.vs tC (s.2.2.1.1) (s.2.2.1.2))])),(1,(.vs tN (l.1) (l.2)))]
noncomputable def pcalI0 (s:tS.den) (l:(Ty.sl tN).den) (x7:Int) (x28:Nat):Cfg:=⟨.ex (pcOf F3 113 [0,0,1,0,1]) ⟨(tmOf 24 (pcalg0 l++[(11,(.int .i64 x7))])),(hpOf 2 [(0,(.cells false [(.vs tI (s.1.1) (s.1.2)),(.vs tK (s.2.1.1) (s.2.1.2)),(.vs tC (s.2.2.1.1) (s.2.2.1.2))])),(1,(.cells false [(.vs tI (s.1.1) (s.1.2)),(.vs tK (s.2.1.1) (s.2.1.2)),(.vs tC (s.2.2.1.1) (s.2.2.1.2))]))]),[],[],24,false⟩,⟨38,[]⟩,[(.lop (pcOf F3 113 [0,0,1,0,1]) 2 (tmOf 24 (pcalg0 l++[(11,(.int .i64 (0)))])) x28),(.blk 0),(.seq (pcOf F3 113 [1,1])),(.cal [(.tmp 4),(.tmp 5)] (.op (pcOf F3 102 [0,1,1]) 3 (some 13) ((opsOf (pcOf F3 102 [0,1,1]).c).toList.drop 3) (tmOf 17 (pcalg1 s l++[(2,(.ptr 1 0)),(7,(.vs tN (l.1) (l.2))),(8,(.int .i64 (Int.ofNat l.2.length))),(9,(.bool (false))),(11,(.vs tN (l.1) (l.2))),(12,(.fn 114 [] [(.ptr 1 0)]))])) [] 17 false ⟨39,[]⟩)),(.seq (pcOf F3 102 [1,1,1])),(.cal [(.tmp 4)] (.op (pcOf F3 76 [0,1,1]) 3 (some 19) ((opsOf (pcOf F3 76 [0,1,1]).c).toList.drop 3) (tmOf 20 (pcalg1 s l++[(2,(.ptr 0 0)),(5,(.int .i64 ((chkS s).1))),(6,(.int .i64 ((chkS s).2.1))),(7,(.int .i64 ((chkS s).2.2))),(8,(.tup [(.int .i64 ((chkS s).1)),(.int .i64 ((chkS s).2.1)),(.int .i64 ((chkS s).2.2))])),(9,(.agg [(.vs tI (s.1.1) (s.1.2)),(.vs tK (s.2.1.1) (s.2.1.2)),(.vs tC (s.2.2.1.1) (s.2.2.1.2))])),(10,(.tup [(.int .i64 ((chkS s).1)),(.int .i64 ((chkS s).2.1)),(.int .i64 ((chkS s).2.2))])),(11,(.int .i64 ((chkS s).1))),(12,(.int .i64 ((chkS s).2.1))),(13,(.int .i64 ((chkS s).2.2))),(14,(.int .i64 ((chkS s).2.2))),(15,(.bool (false))),(17,(.agg [(.vs tI (s.1.1) (s.1.2)),(.vs tK (s.2.1.1) (s.2.1.2)),(.vs tC (s.2.2.1.1) (s.2.2.1.2))])),(18,(.vs tN (l.1) (l.2)))])) [] 20 false ⟨40,[]⟩)),(.seq (pcOf F3 76 [1,1,1])),(.cal [(.tmp 4)] .top)]⟩
theorem pcal_start (s:tS.den) (l:(Ty.sl tN).den):adv F3 (Z3 [113]) 3000 (startC F3 76 [tS.av s,.vs tN l.1 l.2] 40)=(bif !ieq (chkS s).2.2 0 then some (.done (.int .i64 ((chkS s).2.2))) else (bif !ile (↑l.2.length) 8 then some (.done (.int .i64 (3))) else some (.stop (pcalI0 s l (0) (1048575))))):=by kernel_rfl
theorem pcal_step0 (s:tS.den) (l:(Ty.sl tN).den) (x7:Int) (x28:Nat):adv F3 (Z3 [113]) 3000 (pcalI0 s l x7 (x28+1))=(bif !ile (Int.ofNat l.2.length) x7 then (bif inB x7 l.2.length then (bif !ile 0 (l.2.getD x7.toNat tN.dflt).2.1 then some (.done (.int .i64 (4))) else (bif !ile (l.2.getD x7.toNat tN.dflt).2.1 (wr .i64 (↑s.2.1.2.length-1)) then some (.done (.int .i64 (4))) else (bif !ile 0 (l.2.getD x7.toNat tN.dflt).1 then some (.done (.int .i64 (7))) else (bif !ile (l.2.getD x7.toNat tN.dflt).1 ↑s.1.2.length then some (.done (.int .i64 (7))) else (bif !ile 0 (l.2.getD x7.toNat tN.dflt).2.2.1.1 then some (.done (.int .i64 (7))) else (bif !ile (l.2.getD x7.toNat tN.dflt).2.2.1.1 600 then some (.done (.int .i64 (7))) else (bif !ile 0 (l.2.getD x7.toNat tN.dflt).2.2.1.2.1 then some (.done (.int .i64 (7))) else (bif !ile (l.2.getD x7.toNat tN.dflt).2.2.1.2.1 600 then some (.done (.int .i64 (7))) else (bif !ile (l.2.getD x7.toNat tN.dflt).2.2.1.1 (l.2.getD x7.toNat tN.dflt).2.2.1.2.1 then some (.done (.int .i64 (2))) else some (.stop (pcalI0 s l (wr .i64 (x7+1)) (x28)))))))))))) else none) else some (.done (.int .i64 (0)))):=by kernel_rfl
noncomputable def rcntg0 (s:tS.den) (l:(Ty.sl tN).den):List (Nat×AV):=[(0,(.agg [(.vs tI (s.1.1) (s.1.2)),(.vs tK (s.2.1.1) (s.2.1.2)),(.vs tC (s.2.2.1.1) (s.2.2.1.2))])),(1,(.vs tN (l.1) (l.2))),(2,(.ptr 0 0)),(4,(.int .i64 (0))),(5,(.int .i64 ((chkS s).1))),(6,(.int .i64 ((chkS s).2.1))),(9,(.tup [(.int .i64 ((chkS s).1)),(.int .i64 ((chkS s).2.1)),(.int .i64 ((chkS s).2.2))])),(10,(.agg [(.vs tI (s.1.1) (s.1.2)),(.vs tK (s.2.1.1) (s.2.1.2)),(.vs tC (s.2.2.1.1) (s.2.2.1.2))])),(11,(.tup [(.int .i64 ((chkS s).1)),(.int .i64 ((chkS s).2.1)),(.int .i64 ((chkS s).2.2))])),(12,(.int .i64 ((chkS s).1))),(13,(.int .i64 ((chkS s).2.1))),(14,(.int .i64 ((chkS s).2.2))),(15,(.int .i64 ((chkS s).2.2))),(16,(.bool (ieq (chkS s).2.2 0)))]
noncomputable def rcntI0 (s:tS.den) (l:(Ty.sl tN).den) (x11:Int) (x12:Int) (x70:Nat):Cfg:=⟨.ex (pcOf F3 93 [0,0,1,0,1,1,1]) ⟨(tmOf 60 (rcntg0 s l++[(7,(.int .i64 x11)),(8,(.int .i64 x12)),(17,(.bool (false))),(18,(.tup [])),(19,(.tup [])),(20,(.tup [])),(21,(.bool (false)))])),(hpOf 1 [(0,(.cells false [(.vs tI (s.1.1) (s.1.2)),(.vs tK (s.2.1.1) (s.2.1.2)),(.vs tC (s.2.2.1.1) (s.2.2.1.2))]))]),[],[],60,false⟩,⟨40,[]⟩,[(.lop (pcOf F3 93 [0,0,1,0,1,1,1]) 1 (tmOf 60 (rcntg0 s l++[(7,(.int .i64 ((chkS s).2.2))),(8,(.int .i64 (0))),(17,(.bool (false))),(18,(.tup [])),(19,(.tup [])),(20,(.tup [])),(21,(.bool (false)))])) x70),(.blk 0),(.seq (pcOf F3 93 [1,1,1,1])),(.cal [(.tmp 4)] .top)]⟩
noncomputable def rcntI1 (s:tS.den) (l:(Ty.sl tN).den) (x11:Int) (x12:Int) (x35:Bool) (x53:Int) (x78:Nat):Cfg:=⟨.ex (pcOf F3 93 [0,0,1,0,1,1,1]) ⟨(tmOf 60 (rcntg0 s l++[(7,(.int .i64 x11)),(8,(.int .i64 x12)),(17,(.bool (true))),(18,(.vs tN (l.1) (l.2))),(19,(.int .i64 (Int.ofNat l.2.length))),(20,(.bool (!ile (↑l.2.length) 8))),(21,(.bool x35))])),(hpOf 1 [(0,(.cells false [(.vs tI (s.1.1) (s.1.2)),(.vs tK (s.2.1.1) (s.2.1.2)),(.vs tC (s.2.2.1.1) (s.2.2.1.2))]))]),[],[],60,false⟩,⟨40,[]⟩,[(.lop (pcOf F3 93 [0,0,1,0,1,1,1]) 1 (tmOf 60 (rcntg0 s l++[(7,(.int .i64 x53)),(8,(.int .i64 (0))),(17,(.bool (true))),(18,(.vs tN (l.1) (l.2))),(19,(.int .i64 (Int.ofNat l.2.length))),(20,(.bool (!ile (↑l.2.length) 8))),(21,(.bool x35))])) x78),(.blk 0),(.seq (pcOf F3 93 [1,1,1,1])),(.cal [(.tmp 4)] .top)]⟩
theorem rcnt_start (s:tS.den) (l:(Ty.sl tN).den):adv F3 (Z3 [93]) 3000 (startC F3 93 [tS.av s,.vs tN l.1 l.2] 40)=(bif ieq (chkS s).2.2 0 then (bif !ile (↑l.2.length) 8 then some (.stop (rcntI1 s l (3) (0) (true) (3) (1048575))) else some (.stop (rcntI1 s l ((chkS s).2.2) (0) (false) ((chkS s).2.2) (1048575)))) else some (.stop (rcntI0 s l ((chkS s).2.2) (0) (1048575)))):=by kernel_rfl
theorem rcnt_step0 (s:tS.den) (l:(Ty.sl tN).den) (x11:Int) (x12:Int) (x70:Nat):adv F3 (Z3 [93]) 3000 (rcntI0 s l x11 x12 (x70+1))=(bif !ile (↑l.2.length) x12 then (bif ieq x11 0 then (bif inB x12 l.2.length then (bif ile 0 (l.2.getD x12.toNat tN.dflt).2.1 then (bif bbeq s.2.1.1 s.2.1.1 then (bif vsB tK s.2.1.2 tK s.2.1.2 then (bif !ile (l.2.getD x12.toNat tN.dflt).2.1 (wr .i64 (↑s.2.1.2.length-1)) then some (.done (.int .i64 (4))) else (bif inB x12 l.2.length then (bif ile 0 (l.2.getD x12.toNat tN.dflt).1 then (bif bbeq s.1.1 s.1.1 then (bif vsB tI s.1.2 tI s.1.2 then (bif !ile (l.2.getD x12.toNat tN.dflt).1 ↑s.1.2.length then some (.done (.int .i64 (7))) else (bif inB x12 l.2.length then some (.stop (rcntI0 s l (rngE (l.2.getD x12.toNat tN.dflt).2.2.1.1 (l.2.getD x12.toNat tN.dflt).2.2.1.2.1 0 600) (wr .i64 (x12+1)) (x70))) else none)) else none) else none) else (bif bbeq s.1.1 s.1.1 then (bif vsB tI s.1.2 tI s.1.2 then some (.done (.int .i64 (7))) else none) else none)) else none)) else none) else none) else (bif bbeq s.2.1.1 s.2.1.1 then (bif vsB tK s.2.1.2 tK s.2.1.2 then some (.done (.int .i64 (4))) else none) else none)) else none) else some (.done (.int .i64 (x11)))) else some (.done (.int .i64 (x11)))):=by kernel_rfl
theorem rcnt_step1 (s:tS.den) (l:(Ty.sl tN).den) (x11:Int) (x12:Int) (x35:Bool) (x53:Int) (x78:Nat):adv F3 (Z3 [93]) 3000 (rcntI1 s l x11 x12 x35 x53 (x78+1))=(bif !ile (↑l.2.length) x12 then (bif ieq x11 0 then (bif inB x12 l.2.length then (bif ile 0 (l.2.getD x12.toNat tN.dflt).2.1 then (bif bbeq s.2.1.1 s.2.1.1 then (bif vsB tK s.2.1.2 tK s.2.1.2 then (bif !ile (l.2.getD x12.toNat tN.dflt).2.1 (wr .i64 (↑s.2.1.2.length-1)) then some (.done (.int .i64 (4))) else (bif inB x12 l.2.length then (bif ile 0 (l.2.getD x12.toNat tN.dflt).1 then (bif bbeq s.1.1 s.1.1 then (bif vsB tI s.1.2 tI s.1.2 then (bif !ile (l.2.getD x12.toNat tN.dflt).1 ↑s.1.2.length then some (.done (.int .i64 (7))) else (bif inB x12 l.2.length then some (.stop (rcntI1 s l (rngE (l.2.getD x12.toNat tN.dflt).2.2.1.1 (l.2.getD x12.toNat tN.dflt).2.2.1.2.1 0 600) (wr .i64 (x12+1)) (x35) (x53) (x78))) else none)) else none) else none) else (bif bbeq s.1.1 s.1.1 then (bif vsB tI s.1.2 tI s.1.2 then some (.done (.int .i64 (7))) else none) else none)) else none)) else none) else none) else (bif bbeq s.2.1.1 s.2.1.1 then (bif vsB tK s.2.1.2 tK s.2.1.2 then some (.done (.int .i64 (4))) else none) else none)) else none) else some (.done (.int .i64 (x11)))) else some (.done (.int .i64 (x11)))):=by kernel_rfl
noncomputable def nB (nd:Int) (c:tN.den):Bool:=ile 0 c.1&&(ile c.1 nd&&(ile 0 c.2.2.1.1&&(ile c.2.2.1.1 600&&(ile 0 c.2.2.1.2.1&&ile c.2.2.1.2.1 600))))
noncomputable def nE (nk nd:Int) (c:tN.den):Int:=bif ile 0 c.2.1&&ile c.2.1 (nk-1) then (bif nB nd c then (bif ile c.2.2.1.1 c.2.2.1.2.1 then 0 else 2) else 7) else 4
noncomputable def cntS (nk nd:Int):List tN.den→Int
 |[]=>0
 |c::l=>bif ieq (nE nk nd c) 0 then cntS nk nd l else nE nk nd c
noncomputable def calS (s:tS.den) (l:List tN.den):Int:=bif ieq (chkS s).2.2 0 then (bif ile (l.length:Int) 8 then cntS s.2.1.2.length s.1.2.length l else 3) else (chkS s).2.2
theorem chk_len {s:tS.den} (h:ieq (chkS s).2.2 0=true):LenOK s:=by
 cases c:lenB s with
 |true=>exact len_ok c
 |false=>unfold chkS at h;rw[c,cond_false] at h;exact absurd (ieq_t h) (by decide)
theorem nT_eq (nk nd:Int) (c:tN.den) (S:Option Out):(bif ile 0 c.2.1&&ile c.2.1 (nk-1) then (bif nB nd c then (bif ile c.2.2.1.1 c.2.2.1.2.1 then S else some (.done (.int .i64 2))) else some (.done (.int .i64 7))) else some (.done (.int .i64 4)))=bif ieq (nE nk nd c) 0 then S else some (.done (.int .i64 (nE nk nd c))):=by
 unfold nE
 cases (ile 0 c.2.1&&ile c.2.1 (nk-1))<;>cases nB nd c<;>cases ile c.2.2.1.1 c.2.2.1.2.1<;>rfl
theorem pcal_ans {s:tS.den} {l:(Ty.sl tN).den} (H:LenOK s) (hl:l.2.length≤8):∀ (r i m:Nat),i+r=l.2.length→r<m→Ans F3 (pcalI0 s l i m) (.int .i64 (cntS s.2.1.2.length s.1.2.length (l.2.drop i)))
 |0,i,m+1,hk,hm=>by
  have h:=pcal_step0 s l i m
  rw[ile_t (show Int.ofNat l.2.length≤(i:Int) by show ((l.2.length:Nat):Int)≤i;omega),Bool.not_true,cond_false] at h
  rw[List.drop_eq_nil_of_le (by omega)]
  exact .doneI (Z3_ok _) F3sy h rfl
 |r+1,i,m+1,hk,hm=>by
  have h:=pcal_step0 s l i m
  have hlt:i<l.2.length:=by omega
  rw[ile_f (show (i:Int)<Int.ofNat l.2.length by show (i:Int)<((l.2.length:Nat):Int);omega),inB_at hlt,getD_at hlt,wr_l (show s.2.1.2.length≤30 by have:=H.k2;omega),wr_succ (show i<1048577 by omega)] at h
  simp only[cond_not',cond_and',cond_true,cond_false] at h
  have h:=h.trans (nT_eq s.2.1.2.length s.1.2.length l.2[i] _)
  rw[List.drop_eq_getElem_cons hlt,cntS]
  cases c:ieq (nE s.2.1.2.length s.1.2.length l.2[i]) 0 with
  |true=>rw[c,cond_true] at h;rw[cond_true];exact .stop (Z3_ok _) F3sy h (pcal_ans H hl r (i+1) m (by omega) (by omega))
  |false=>rw[c,cond_false] at h;rw[cond_false];exact .doneI (Z3_ok _) F3sy h rfl
theorem pcal_call (s:tS.den) (l:(Ty.sl tN).den):AnsF F3 76 [tS.av s,(Ty.sl tN).av l] (.int .i64 (calS s l.2)):=by
 refine Ans.call (n:=40) (ext_none (by kernel_rfl)) (hasB_spec (by kernel_rfl)) ?_
 have h:=pcal_start s l
 rw[cond_not'] at h
 unfold calS
 cases c:ieq (chkS s).2.2 0 with
 |false=>rw[c,cond_false] at h;rw[cond_false];exact .doneI (Z3_ok _) F3sy h rfl
 | true =>
  rw[c,cond_true,cond_not'] at h;rw[cond_true]
  cases c8:ile (l.2.length:Int) 8 with
  |false=>rw[c8,cond_false] at h;rw[cond_false];exact .doneI (Z3_ok _) F3sy h rfl
  |true=>
   rw[c8,cond_true] at h;rw[cond_true]
   have hl:=ile_le c8
   exact .stop (Z3_ok _) F3sy h (pcal_ans (chk_len c) (by omega) l.2.length 0 1048575 (by omega) (by omega))
end Go.Proofs.YtelibdeanepdjaaGreat


set_option maxRecDepth 100000
namespace Go.Proofs.YtelibdeanepdjaaGreat
open Go Go.Eng
theorem nE_alt (nk nd:Int) (c:tN.den):nE nk nd c=bif ile 0 c.2.1&&ile c.2.1 (nk-1) then (bif ile 0 c.1&&ile c.1 nd then rngE c.2.2.1.1 c.2.2.1.2.1 0 600 else 7) else 4:=by
 unfold nE nB rngE
 cases (ile 0 c.2.1&&ile c.2.1 (nk-1))<;>cases ile 0 c.1<;>cases ile c.1 nd<;>cases ile 0 c.2.2.1.1<;>cases ile c.2.2.1.1 600<;>cases ile 0 c.2.2.1.2.1<;>cases ile c.2.2.1.2.1 600<;>cases ile c.2.2.1.1 c.2.2.1.2.1<;>rfl
theorem rcnt_err1 {s:tS.den} {l:(Ty.sl tN).den} {e:Int} (he:ieq e 0=false) (b:Bool) (x i:Int) (m:Nat):Ans F3 (rcntI1 s l e i b x (m+1)) (.int .i64 e):=by
 have h:=rcnt_step1 s l e i b x m
 rw[he] at h
 cases c:ile (l.2.length:Int) i<;>rw[c] at h<;>exact .doneI (Z3_ok _) F3sy h rfl
theorem rcnt_ans {s:tS.den} {l:(Ty.sl tN).den} (H:LenOK s) (hl:l.2.length≤8) (b:Bool) (x:Int):∀ (r i m:Nat),i+r=l.2.length→r<m→Ans F3 (rcntI1 s l 0 i b x m) (.int .i64 (cntS s.2.1.2.length s.1.2.length (l.2.drop i)))
 |0,i,m+1,hk,hm=>by
  have h:=rcnt_step1 s l 0 i b x m
  rw[ile_t (show ((l.2.length:Nat):Int)≤i by omega),Bool.not_true,cond_false] at h
  rw[List.drop_eq_nil_of_le (by omega)]
  exact .doneI (Z3_ok _) F3sy h rfl
 | r + 1, i, m + 1, hk, hm => by
  have h:=rcnt_step1 s l 0 i b x m
  have hlt:i<l.2.length:=by omega
  rw[ile_f (show (i:Int)<((l.2.length:Nat):Int) by omega),inB_at hlt,getD_at hlt,wr_l (show s.2.1.2.length≤30 by have:=H.k2;omega),wr_succ (show i<1048577 by omega)] at h
  simp only[bbeq_self,vsB_self,show ieq 0 0=true from rfl,cond_not',cond_and',cond_true,cond_false] at h
  rw[List.drop_eq_getElem_cons hlt,cntS,nE_alt]
  cases c1:(ile 0 (l.2[i]).2.1&&ile (l.2[i]).2.1 ((s.2.1.2.length:Int)-1)) with
  |false=>rw[c1,cond_false] at h;exact .doneI (Z3_ok _) F3sy h rfl
  | true =>
   rw[c1,cond_true] at h
   cases c2:(ile 0 (l.2[i]).1&&ile (l.2[i]).1 (s.1.2.length:Int)) with
   |false=>rw[c2,cond_false] at h;exact .doneI (Z3_ok _) F3sy h rfl
   | true =>
    rw[c2,cond_true] at h
    rw[cond_true,cond_true]
    cases c3:ieq (rngE (l.2[i]).2.2.1.1 (l.2[i]).2.2.1.2.1 0 600) 0 with
    |true=>
     rw[ieq_t c3] at h
     rw[cond_true]
     exact .stop (Z3_ok _) F3sy h (rcnt_ans H hl b x r (i+1) m (by omega) (by omega))
    |false=>
     rw[cond_false]
     obtain⟨m,rfl⟩:∃ k,m=k+1:=⟨m-1,by omega⟩
     exact .stop (Z3_ok _) F3sy h (rcnt_err1 c3 b x _ m)
theorem rcnt_call (s:tS.den) (l:(Ty.sl tN).den):AnsF F3 93 [tS.av s,(Ty.sl tN).av l] (.int .i64 (calS s l.2)):=by
 refine Ans.call (n:=40) (ext_none (by kernel_rfl)) (hasB_spec (by kernel_rfl)) ?_
 have h:=rcnt_start s l
 unfold calS
 cases c:ieq (chkS s).2.2 0 with
 |false=>
  rw[c,cond_false] at h;rw[cond_false]
  refine .stop (Z3_ok _) F3sy h ?_
  have h:=rcnt_step0 s l (chkS s).2.2 0 1048574
  rw[c] at h
  cases c2:ile (l.2.length:Int) 0<;>rw[c2] at h<;>exact .doneI (Z3_ok _) F3sy h rfl
 | true =>
  rw[c,cond_true,cond_not'] at h;rw[cond_true]
  cases c8:ile (l.2.length:Int) 8 with
  |false=>rw[c8,cond_false] at h;rw[cond_false];exact .stop (Z3_ok _) F3sy h (rcnt_err1 rfl _ _ _ _)
  |true=>
   rw[c8,cond_true] at h;rw[cond_true]
   have hl:=ile_le c8
   rw[ieq_t c] at h
   exact .stop (Z3_ok _) F3sy h (rcnt_ans (chk_len c) (by omega) _ _ l.2.length 0 1048575 (by omega) (by omega))
noncomputable def LD:List Said:=[(76,con2 tS (.sl tN) (fun _ _=>true) (fun s l=>.int .i64 (calS s l.2))),(93,con2 tS (.sl tN) (fun _ _=>true) (fun s l=>.int .i64 (calS s l.2)))]
theorem LD_ok:∀ e∈LD,SaidG Tryz.prog F3.glob e:=
 saids_cons (SaidOK.g f3 xf3 nf3 tabs_ok.mix (fun _ _ h=>con2_spec (t:=tS) (u:=.sl tN) (fun s l _=>pcal_call s l) h) rfl)
 (saids_cons (SaidOK.g f3 xf3 nf3 tabs_ok.mix (fun _ _ h=>con2_spec (t:=tS) (u:=.sl tN) (fun s l _=>rcnt_call s l) h) rfl) saids_nil)
noncomputable def F4:Env:=F3.say (under (xOf LD))
theorem f4:EnvOK Tryz.prog F4:=f3.say _
theorem nf4:NameOK F4:=nf3.say _
theorem xf4:ExtOK Tryz.prog F4:=xf3.sayL LD_ok
theorem F4sy:F4.sy=true:=rfl
noncomputable def Z4 (l:List Nat):Sy:=(Z3 []).on LD l
theorem Z4_ok (l:List Nat):(Z4 l).ok F4:=Sy.on_ok (Z3_ok _)
end Go.Proofs.YtelibdeanepdjaaGreat


set_option maxRecDepth 100000
namespace Go.Proofs.YtelibdeanepdjaaGreat
open Go Go.Eng
noncomputable def tZ:Nat→Ty
 |0=>.nil
 |n+1=>.cons tI (tZ n)
abbrev tM:Ty:=.cons tN (.cons tI .nil)
noncomputable abbrev tF:Ty:=tZ 30
noncomputable abbrev tQ:Ty:=.cons tS (.cons tK (.cons tF (.cons (.sl tM) .nil)))
noncomputable def mkZ (f:Nat→Int):(n:Nat)→Nat→(tZ n).den
 |0,_=>()
 |n+1,k=>(f k,mkZ f n (k+1))
noncomputable def zOf:(n:Nat)→(tZ n).den→Nat→Int
 |0,_,_=>0
 |_+1,d,0=>d.1
 |n+1,d,k+1=>zOf n d.2 k
end Go.Proofs.YtelibdeanepdjaaGreat


set_option maxRecDepth 100000
namespace Go.Proofs.YtelibdeanepdjaaGreat
open Go Go.Eng
theorem plod_start (d:tQ.den) (b y:Int):adv F4 (Z4 []) 3000 (startC F4 79 [tQ.pv d,.int .i64 b,.int .i64 y] 40)=(bif inB y 30 then (bif isZs (tQ.cells d) [AV.int IntKind.i64 0] (0+12+y.toNat * 1) then some (.done (.int .i64 (bif ile (bif ile (wr .i64 (b+toI ((tQ.cells d).getD (0+12+y.toNat * 1) AV.nili))) d.2.1.2.2.2.2.1 then wr .i64 (b+toI ((tQ.cells d).getD (0+12+y.toNat * 1) AV.nili)) else d.2.1.2.2.2.2.1) b then b else bif ile (wr .i64 (b+toI ((tQ.cells d).getD (0+12+y.toNat * 1) AV.nili))) d.2.1.2.2.2.2.1 then wr .i64 (b+toI ((tQ.cells d).getD (0+12+y.toNat * 1) AV.nili)) else d.2.1.2.2.2.2.1))) else none) else none):=by kernel_rfl
theorem puse_start (d:tQ.den) (t:tT.den) (y n:Int):adv F4 (Z4 []) 3000 (startC F4 80 [tQ.pv d,tT.av t,.int .i64 y,.int .i64 n] 40)=(bif inB y d.1.1.2.length then (bif ile n y then some (.done (.int .i64 (wr .i64 (wr .i64 ((wr .i64 (wr .i64 (wr .i64 (wr .i64 (d.1.1.2.getD y.toNat tI.dflt * t.2.1) * d.2.1.2.2.2.2.2.1)+1000)-1)).tdiv 1000)+t.2.2.1)))) else some (.done (.int .i64 (wr .i64 (wr .i64 (d.1.1.2.getD y.toNat tI.dflt * t.2.1)+t.2.2.1))))) else none):=by kernel_rfl
theorem z_len:∀ (n:Nat) (z:(tZ n).den),((tZ n).cells z).length=n
 |0,_=>rfl
 |n+1,z=>by
  show ([AV.int .i64 z.1]++(tZ n).cells z.2).length=n+1
  rw[List.length_append,z_len n z.2];show 1+n=n+1;omega
theorem z_get:∀ (n:Nat) (z:(tZ n).den) (k:Nat),k<n→((tZ n).cells z)[k]?=some (AV.int .i64 (zOf n z k))
 |0,_,k,h=>absurd h (by omega)
 |n+1,z,0,_=>rfl
 |n+1,z,k+1,h=>by
  show ([AV.int .i64 z.1]++(tZ n).cells z.2)[k+1]?=_
  rw[List.getElem?_append_right (by show 1≤k+1;omega)]
  exact z_get n z.2 k (by omega)
theorem q_get (d:tQ.den) (k:Nat) (h:k<30):(tQ.cells d)[12+k]?=some (AV.int .i64 (zOf 30 d.2.2.1 k)):=by
 show ((tS.cells d.1++tK.cells d.2.1)++(tF.cells d.2.2.1++((Ty.sl tM).cells d.2.2.2.1++[])))[12+k]?=_
 have hl:(tS.cells d.1++tK.cells d.2.1).length=12:=rfl
 rw[List.getElem?_append_right (by omega),hl,show 12+k-12=k by omega,List.getElem?_append_left (by rw[z_len];exact h)]
 exact z_get 30 _ k h
theorem q_len (d:tQ.den):(tQ.cells d).length=43:=by
 show (tS.cells d.1++(tK.cells d.2.1++(tF.cells d.2.2.1++[_]))).length=43
 simp only[List.length_append,z_len];rfl
theorem comes_at (d:tQ.den) {y:Int} (h:inB y 30=true):isZs (tQ.cells d) [.int .i64 0] (0+12+y.toNat * 1)=true∧toI ((tQ.cells d).getD (0+12+y.toNat * 1) .nili)=zOf 30 d.2.2.1 y.toNat:=by
 cases y with
 |negSucc m=>cases h
 | ofNat k =>
  have hk:k<30:=Nat.le_of_ble_eq_true h
  rw[show 0+12+(Int.ofNat k).toNat * 1=12+k by simp]
  have e:(tQ.cells d).getD (12+k) AV.nili=AV.int .i64 (zOf 30 d.2.2.1 k):=by
   rw[List.getD_eq_getElem?_getD,q_get d k hk];rfl
  refine⟨?_,by rw[e];rfl⟩
  show (Nat.ble (12+k+1) (tQ.cells d).length&&(isZ (AV.int .i64 0) ((tQ.cells d).getD (12+k) AV.nili)&&true))=true
  rw[e,q_len,Nat.ble_eq_true_of_le (by omega)];rfl
noncomputable def maxS (a b:Int):Int:=bif ile b a then a else b
noncomputable def minS (a b:Int):Int:=bif ile a b then a else b
noncomputable def lodS (d:tQ.den) (b y:Int):Int:=maxS b (minS (wr .i64 (b+zOf 30 d.2.2.1 y.toNat)) d.2.1.2.2.2.2.1)
noncomputable def useS (d:tQ.den) (t:tT.den) (y n:Int):Int:=
 wr .i64 ((bif ile n y then wr .i64 ((wr .i64 (wr .i64 (wr .i64 (wr .i64 (d.1.1.2.getD y.toNat tI.dflt * t.2.1) * d.2.1.2.2.2.2.2.1)+1000)-1)).tdiv 1000) else wr .i64 (d.1.1.2.getD y.toNat tI.dflt * t.2.1))+t.2.2.1)
theorem plod_call (d:tQ.den) (b y:Int) (h:inB y 30=true):AnsF F4 79 [tQ.pv d,tI.av b,tI.av y] (.int .i64 (lodS d b y)):=by
 refine Ans.call (n:=40) (ext_none (by kernel_rfl)) (hasB_spec (by kernel_rfl)) ?_
 have h1:=plod_start d b y
 obtain⟨e1,e2⟩:=comes_at d h
 rw[h,e1,e2,cond_true,cond_true] at h1
 exact .doneI (Z4_ok _) F4sy h1 rfl
theorem puse_call (d:tQ.den) (t:tT.den) (y n:Int) (h:inB y d.1.1.2.length=true):AnsF F4 80 [tQ.pv d,tT.av t,tI.av y,tI.av n] (.int .i64 (useS d t y n)):=by
 refine Ans.call (n:=40) (ext_none (by kernel_rfl)) (hasB_spec (by kernel_rfl)) ?_
 have h1:=puse_start d t y n
 rw[h,cond_true] at h1
 unfold useS
 cases c:ile n y<;>rw[c] at h1<;>exact .doneI (Z4_ok _) F4sy h1 rfl
noncomputable def LE:List Said:=[(79,conP3 tQ tI tI (fun _ _ y=>inB y 30) (fun d b y=>.int .i64 (lodS d b y))),(80,conP4 tQ tT tI tI (fun d _ y _=>inB y d.1.1.2.length) (fun d t y n=>.int .i64 (useS d t y n)))]
theorem LE_ok:∀ e∈LE,SaidG Tryz.prog F4.glob e:=
 saids_cons (SaidOK.g f4 xf4 nf4 tabs_ok.mix (fun _ _ h=>conP3_spec (t:=tQ) (u:=tI) (w:=tI) (fun d b y h=>plod_call d b y h) h) rfl)
 (saids_cons (SaidOK.g f4 xf4 nf4 tabs_ok.mix (fun _ _ h=>conP4_spec (t:=tQ) (u:=tT) (w:=tI) (q:=tI) (fun d t y n h=>puse_call d t y n h) h) rfl) saids_nil)
noncomputable def F5:Env:=F4.say (under (xOf LE))
theorem f5:EnvOK Tryz.prog F5:=f4.say _
theorem nf5:NameOK F5:=nf4.say _
theorem xf5:ExtOK Tryz.prog F5:=xf4.sayL LE_ok
theorem F5sy:F5.sy=true:=rfl
noncomputable def Z5 (l:List Nat):Sy:=(Z4 []).on LE l
theorem Z5_ok (l:List Nat):(Z5 l).ok F5:=Sy.on_ok (Z4_ok _)
end Go.Proofs.YtelibdeanepdjaaGreat


set_option maxRecDepth 100000
namespace Go.Proofs.YtelibdeanepdjaaGreat
open Go Go.Eng
noncomputable def prung0 (d:tQ.den) (t:tT.den) (n:Int):List (Nat×AV):=[(0,(.cp (tQ.cells d) 0)),(1,(.agg [(.int .i64 (t.1)),(.int .i64 (t.2.1)),(.int .i64 (t.2.2.1))])),(2,(.int .i64 (n))),(4,(.ptr 0 0)),(6,(.ptr 1 0)),(11,(.cp (tQ.cells d) 0)),(12,(.int .i64 (Int.ofNat d.1.1.2.length))),(13,(.ptr 0 0)),(14,(.int .i64 (t.1))),(15,(.ptr 1 0)),(16,(.cp (tQ.cells d) 0)),(17,(.int .i64 (Int.ofNat d.1.1.2.length)))]
noncomputable def prunI0 (d:tQ.den) (t:tT.den) (n:Int) (x51:Int) (x149:Int) (x153:List AV) (x304:Nat):Cfg:=⟨.ex (pcOf F5 35 [0,0,1,0,1,1,1]) ⟨(tmOf 48 (prung0 d t n++[(7,(.int .i64 x51)),(18,(.int .i64 x149))])),(hpOf 2 [(0,(.cells false [(.int .i64 (t.1)),(.int .i64 (t.2.1)),(.int .i64 (t.2.2.1))])),(1,(.cells false x153))]),[],[],48,false⟩,⟨40,[]⟩,[(.lop (pcOf F5 35 [0,0,1,0,1,1,1]) 2 (tmOf 48 (prung0 d t n++[(7,(.int .i64 (Int.ofNat d.1.1.2.length))),(18,(.int .i64 (0)))])) x304),(.blk 0),(.seq (pcOf F5 35 [1,1,1,1])),(.cal [(.cell 6 77),(.tmp 7)] .top)]⟩
theorem prun_start (d:tQ.den) (t:tT.den) (n:Int):adv F5 ((Z5 [35]).flat [1]) 3000 (startC F5 35 [tQ.pv d,tT.av t,.int .i64 n] 40)=some (.stop (prunI0 d t n (Int.ofNat d.1.1.2.length) (0) ([AV.int IntKind.i64 t.1,AV.int IntKind.i64 0,AV.int IntKind.i64 0,AV.int IntKind.i64 0,AV.int IntKind.i64 0,AV.int IntKind.i64 0,AV.int IntKind.i64 0,AV.int IntKind.i64 0,AV.int IntKind.i64 0,AV.int IntKind.i64 0,AV.int IntKind.i64 0,AV.int IntKind.i64 0,AV.int IntKind.i64 0,AV.int IntKind.i64 0,AV.int IntKind.i64 0,AV.int IntKind.i64 0,AV.int IntKind.i64 0,AV.int IntKind.i64 0,AV.int IntKind.i64 0,AV.int IntKind.i64 0,AV.int IntKind.i64 0,AV.int IntKind.i64 0,AV.int IntKind.i64 0,AV.int IntKind.i64 0,AV.int IntKind.i64 0,AV.int IntKind.i64 0,AV.int IntKind.i64 0,AV.int IntKind.i64 0,AV.int IntKind.i64 0,AV.int IntKind.i64 0,AV.int IntKind.i64 0]) (1048575))):=by kernel_rfl
theorem prun_step0 (d:tQ.den) (t:tT.den) (n:Int) (x51:Int) (x149:Int) (x153:List AV) (x304:Nat):adv F5 ((Z5 [35]).flat [1]) 3000 (prunI0 d t n x51 x149 x153 (x304+1))=(bif !ile (Int.ofNat d.1.1.2.length) x149 then (bif inB x149 31 then (bif isZs x153 [AV.int IntKind.i64 0] (0+x149.toNat * 1) then (bif inB x149 30 then (bif inB x149 d.1.1.2.length then (bif ieq t.1 t.1 then (bif ieq t.2.1 t.2.1 then (bif ieq t.2.2.1 t.2.2.1 then (bif ieq t.1 t.1 then (bif ieq t.2.1 t.2.1 then (bif ieq t.2.2.1 t.2.2.1 then (bif isZs x153 [AV.int IntKind.i64 0] (0+x149.toNat * 1) then (bif ieq (toI (x153.getD (0+x149.toNat * 1) AV.nili)) (toI (x153.getD (0+x149.toNat * 1) AV.nili)) then (bif !ile (useS d t x149 n) (lodS d (toI (x153.getD (0+x149.toNat * 1) AV.nili)) x149) then (bif inB (wr .i64 (x149+1)) 31 then (bif (0+(wr .i64 (x149+1)).toNat * 1+(AV.int IntKind.i64 (bif ile (wr .i64 (lodS d (toI (x153.getD (0+x149.toNat * 1) AV.nili)) x149-useS d t x149 n)) 0 then 0 else wr .i64 (lodS d (toI (x153.getD (0+x149.toNat * 1) AV.nili)) x149-useS d t x149 n))).cells.length).ble x153.length then (bif plO (AO.cells false (x153.set (0+(wr .i64 (x149+1)).toNat * 1) (AV.int IntKind.i64 (bif ile (wr .i64 (lodS d (toI (x153.getD (0+x149.toNat * 1) AV.nili)) x149-useS d t x149 n)) 0 then 0 else wr .i64 (lodS d (toI (x153.getD (0+x149.toNat * 1) AV.nili)) x149-useS d t x149 n))))) then some (.stop (prunI0 d t n (bif ile x51 x149 then x51 else x149) (wr .i64 (x149+1)) (x153.set (0+(wr .i64 (x149+1)).toNat * 1) (AV.int IntKind.i64 (bif ile (wr .i64 (lodS d (toI (x153.getD (0+x149.toNat * 1) AV.nili)) x149-useS d t x149 n)) 0 then 0 else wr .i64 (lodS d (toI (x153.getD (0+x149.toNat * 1) AV.nili)) x149-useS d t x149 n)))) (x304))) else none) else none) else none) else (bif inB (wr .i64 (x149+1)) 31 then (bif (0+(wr .i64 (x149+1)).toNat * 1+(AV.int IntKind.i64 (bif ile (wr .i64 (lodS d (toI (x153.getD (0+x149.toNat * 1) AV.nili)) x149-useS d t x149 n)) 0 then 0 else wr .i64 (lodS d (toI (x153.getD (0+x149.toNat * 1) AV.nili)) x149-useS d t x149 n))).cells.length).ble x153.length then (bif plO (AO.cells false (x153.set (0+(wr .i64 (x149+1)).toNat * 1) (AV.int IntKind.i64 (bif ile (wr .i64 (lodS d (toI (x153.getD (0+x149.toNat * 1) AV.nili)) x149-useS d t x149 n)) 0 then 0 else wr .i64 (lodS d (toI (x153.getD (0+x149.toNat * 1) AV.nili)) x149-useS d t x149 n))))) then some (.stop (prunI0 d t n (x51) (wr .i64 (x149+1)) (x153.set (0+(wr .i64 (x149+1)).toNat * 1) (AV.int IntKind.i64 (bif ile (wr .i64 (lodS d (toI (x153.getD (0+x149.toNat * 1) AV.nili)) x149-useS d t x149 n)) 0 then 0 else wr .i64 (lodS d (toI (x153.getD (0+x149.toNat * 1) AV.nili)) x149-useS d t x149 n)))) (x304))) else none) else none) else none)) else none) else none) else none) else none) else none) else none) else none) else none) else none) else none) else none) else none) else (bif isZs x153 (repl 31 [AV.int IntKind.i64 0]) 0 then (bif (0+(AV.agg (asZs x153 [AV.int IntKind.i64 0,AV.int IntKind.i64 0,AV.int IntKind.i64 0,AV.int IntKind.i64 0,AV.int IntKind.i64 0,AV.int IntKind.i64 0,AV.int IntKind.i64 0,AV.int IntKind.i64 0,AV.int IntKind.i64 0,AV.int IntKind.i64 0,AV.int IntKind.i64 0,AV.int IntKind.i64 0,AV.int IntKind.i64 0,AV.int IntKind.i64 0,AV.int IntKind.i64 0,AV.int IntKind.i64 0,AV.int IntKind.i64 0,AV.int IntKind.i64 0,AV.int IntKind.i64 0,AV.int IntKind.i64 0,AV.int IntKind.i64 0,AV.int IntKind.i64 0,AV.int IntKind.i64 0,AV.int IntKind.i64 0,AV.int IntKind.i64 0,AV.int IntKind.i64 0,AV.int IntKind.i64 0,AV.int IntKind.i64 0,AV.int IntKind.i64 0,AV.int IntKind.i64 0,AV.int IntKind.i64 0] 0)).cells.length).ble x153.length then (bif isZs (((((((((((((((((((((((((((((((x153.set 0 (AV.int IntKind.i64 (toI (x153.getD 0 AV.nili)))).set (Nat.succ 0) (AV.int IntKind.i64 (toI (x153.getD (0+1) AV.nili)))).set (Nat.succ 0).succ (AV.int IntKind.i64 (toI (x153.getD (0+1+1) AV.nili)))).set (Nat.succ 0).succ.succ (AV.int IntKind.i64 (toI (x153.getD (0+1+1+1) AV.nili)))).set (Nat.succ 0).succ.succ.succ (AV.int IntKind.i64 (toI (x153.getD (0+1+1+1+1) AV.nili)))).set (Nat.succ 0).succ.succ.succ.succ (AV.int IntKind.i64 (toI (x153.getD (0+1+1+1+1+1) AV.nili)))).set (Nat.succ 0).succ.succ.succ.succ.succ (AV.int IntKind.i64 (toI (x153.getD (0+1+1+1+1+1+1) AV.nili)))).set (Nat.succ 0).succ.succ.succ.succ.succ.succ (AV.int IntKind.i64 (toI (x153.getD (0+1+1+1+1+1+1+1) AV.nili)))).set (Nat.succ 0).succ.succ.succ.succ.succ.succ.succ (AV.int IntKind.i64 (toI (x153.getD (0+1+1+1+1+1+1+1+1) AV.nili)))).set (Nat.succ 0).succ.succ.succ.succ.succ.succ.succ.succ (AV.int IntKind.i64 (toI (x153.getD (0+1+1+1+1+1+1+1+1+1) AV.nili)))).set (Nat.succ 0).succ.succ.succ.succ.succ.succ.succ.succ.succ (AV.int IntKind.i64 (toI (x153.getD (0+1+1+1+1+1+1+1+1+1+1) AV.nili)))).set (Nat.succ 0).succ.succ.succ.succ.succ.succ.succ.succ.succ.succ (AV.int IntKind.i64 (toI (x153.getD (0+1+1+1+1+1+1+1+1+1+1+1) AV.nili)))).set (Nat.succ 0).succ.succ.succ.succ.succ.succ.succ.succ.succ.succ.succ (AV.int IntKind.i64 (toI (x153.getD (0+1+1+1+1+1+1+1+1+1+1+1+1) AV.nili)))).set (Nat.succ 0).succ.succ.succ.succ.succ.succ.succ.succ.succ.succ.succ.succ (AV.int IntKind.i64 (toI (x153.getD (0+1+1+1+1+1+1+1+1+1+1+1+1+1) AV.nili)))).set (Nat.succ 0).succ.succ.succ.succ.succ.succ.succ.succ.succ.succ.succ.succ.succ (AV.int IntKind.i64 (toI (x153.getD (0+1+1+1+1+1+1+1+1+1+1+1+1+1+1) AV.nili)))).set (Nat.succ 0).succ.succ.succ.succ.succ.succ.succ.succ.succ.succ.succ.succ.succ.succ (AV.int IntKind.i64 (toI (x153.getD (0+1+1+1+1+1+1+1+1+1+1+1+1+1+1+1) AV.nili)))).set (Nat.succ 0).succ.succ.succ.succ.succ.succ.succ.succ.succ.succ.succ.succ.succ.succ.succ (AV.int IntKind.i64 (toI (x153.getD (0+1+1+1+1+1+1+1+1+1+1+1+1+1+1+1+1) AV.nili)))).set (Nat.succ 0).succ.succ.succ.succ.succ.succ.succ.succ.succ.succ.succ.succ.succ.succ.succ.succ (AV.int IntKind.i64 (toI (x153.getD (0+1+1+1+1+1+1+1+1+1+1+1+1+1+1+1+1+1) AV.nili)))).set (Nat.succ 0).succ.succ.succ.succ.succ.succ.succ.succ.succ.succ.succ.succ.succ.succ.succ.succ.succ (AV.int IntKind.i64 (toI (x153.getD (0+1+1+1+1+1+1+1+1+1+1+1+1+1+1+1+1+1+1) AV.nili)))).set (Nat.succ 0).succ.succ.succ.succ.succ.succ.succ.succ.succ.succ.succ.succ.succ.succ.succ.succ.succ.succ (AV.int IntKind.i64 (toI (x153.getD (0+1+1+1+1+1+1+1+1+1+1+1+1+1+1+1+1+1+1+1) AV.nili)))).set (Nat.succ 0).succ.succ.succ.succ.succ.succ.succ.succ.succ.succ.succ.succ.succ.succ.succ.succ.succ.succ.succ (AV.int IntKind.i64 (toI (x153.getD (0+1+1+1+1+1+1+1+1+1+1+1+1+1+1+1+1+1+1+1+1) AV.nili)))).set (Nat.succ 0).succ.succ.succ.succ.succ.succ.succ.succ.succ.succ.succ.succ.succ.succ.succ.succ.succ.succ.succ.succ (AV.int IntKind.i64 (toI (x153.getD (0+1+1+1+1+1+1+1+1+1+1+1+1+1+1+1+1+1+1+1+1+1) AV.nili)))).set (Nat.succ 0).succ.succ.succ.succ.succ.succ.succ.succ.succ.succ.succ.succ.succ.succ.succ.succ.succ.succ.succ.succ.succ (AV.int IntKind.i64 (toI (x153.getD (0+1+1+1+1+1+1+1+1+1+1+1+1+1+1+1+1+1+1+1+1+1+1) AV.nili)))).set (Nat.succ 0).succ.succ.succ.succ.succ.succ.succ.succ.succ.succ.succ.succ.succ.succ.succ.succ.succ.succ.succ.succ.succ.succ (AV.int IntKind.i64 (toI (x153.getD (0+1+1+1+1+1+1+1+1+1+1+1+1+1+1+1+1+1+1+1+1+1+1+1) AV.nili)))).set (Nat.succ 0).succ.succ.succ.succ.succ.succ.succ.succ.succ.succ.succ.succ.succ.succ.succ.succ.succ.succ.succ.succ.succ.succ.succ (AV.int IntKind.i64 (toI (x153.getD (0+1+1+1+1+1+1+1+1+1+1+1+1+1+1+1+1+1+1+1+1+1+1+1+1) AV.nili)))).set (Nat.succ 0).succ.succ.succ.succ.succ.succ.succ.succ.succ.succ.succ.succ.succ.succ.succ.succ.succ.succ.succ.succ.succ.succ.succ.succ (AV.int IntKind.i64 (toI (x153.getD (0+1+1+1+1+1+1+1+1+1+1+1+1+1+1+1+1+1+1+1+1+1+1+1+1+1) AV.nili)))).set (Nat.succ 0).succ.succ.succ.succ.succ.succ.succ.succ.succ.succ.succ.succ.succ.succ.succ.succ.succ.succ.succ.succ.succ.succ.succ.succ.succ (AV.int IntKind.i64 (toI (x153.getD (0+1+1+1+1+1+1+1+1+1+1+1+1+1+1+1+1+1+1+1+1+1+1+1+1+1+1) AV.nili)))).set (Nat.succ 0).succ.succ.succ.succ.succ.succ.succ.succ.succ.succ.succ.succ.succ.succ.succ.succ.succ.succ.succ.succ.succ.succ.succ.succ.succ.succ (AV.int IntKind.i64 (toI (x153.getD (0+1+1+1+1+1+1+1+1+1+1+1+1+1+1+1+1+1+1+1+1+1+1+1+1+1+1+1) AV.nili)))).set (Nat.succ 0).succ.succ.succ.succ.succ.succ.succ.succ.succ.succ.succ.succ.succ.succ.succ.succ.succ.succ.succ.succ.succ.succ.succ.succ.succ.succ.succ (AV.int IntKind.i64 (toI (x153.getD (0+1+1+1+1+1+1+1+1+1+1+1+1+1+1+1+1+1+1+1+1+1+1+1+1+1+1+1+1) AV.nili)))).set (Nat.succ 0).succ.succ.succ.succ.succ.succ.succ.succ.succ.succ.succ.succ.succ.succ.succ.succ.succ.succ.succ.succ.succ.succ.succ.succ.succ.succ.succ.succ (AV.int IntKind.i64 (toI (x153.getD (0+1+1+1+1+1+1+1+1+1+1+1+1+1+1+1+1+1+1+1+1+1+1+1+1+1+1+1+1+1) AV.nili)))).set (Nat.succ 0).succ.succ.succ.succ.succ.succ.succ.succ.succ.succ.succ.succ.succ.succ.succ.succ.succ.succ.succ.succ.succ.succ.succ.succ.succ.succ.succ.succ.succ (AV.int IntKind.i64 (toI (x153.getD (0+1+1+1+1+1+1+1+1+1+1+1+1+1+1+1+1+1+1+1+1+1+1+1+1+1+1+1+1+1+1) AV.nili)))) (repl 31 [AV.int IntKind.i64 0]) 0 then some (.done (.tup [(.agg (asZs (setAt x153 0 (AV.agg (asZs x153 [AV.int IntKind.i64 0,AV.int IntKind.i64 0,AV.int IntKind.i64 0,AV.int IntKind.i64 0,AV.int IntKind.i64 0,AV.int IntKind.i64 0,AV.int IntKind.i64 0,AV.int IntKind.i64 0,AV.int IntKind.i64 0,AV.int IntKind.i64 0,AV.int IntKind.i64 0,AV.int IntKind.i64 0,AV.int IntKind.i64 0,AV.int IntKind.i64 0,AV.int IntKind.i64 0,AV.int IntKind.i64 0,AV.int IntKind.i64 0,AV.int IntKind.i64 0,AV.int IntKind.i64 0,AV.int IntKind.i64 0,AV.int IntKind.i64 0,AV.int IntKind.i64 0,AV.int IntKind.i64 0,AV.int IntKind.i64 0,AV.int IntKind.i64 0,AV.int IntKind.i64 0,AV.int IntKind.i64 0,AV.int IntKind.i64 0,AV.int IntKind.i64 0,AV.int IntKind.i64 0,AV.int IntKind.i64 0] 0)).cells) (repl 31 [AV.int IntKind.i64 0]) 0)),(.int .i64 (x51))])) else none) else none) else none)):=by kernel_rfl
noncomputable abbrev tG:Ty:=tZ 31
theorem ble_f {a b:Nat} (h:b<a):Nat.ble a b=false:=by
 cases e:Nat.ble a b with
 |false=>rfl
 |true=>exact absurd (Nat.le_of_ble_eq_true e) (by omega)
theorem zOf_mk (f:Nat→Int):∀ (n k0 k:Nat),k<n→zOf n (mkZ f n k0) k=f (k0+k)
 |0,_,_,h=>absurd h (by omega)
 |n+1,k0,0,_=>rfl
 |n+1,k0,k+1,h=>by
  show zOf n (mkZ f n (k0+1)) k=_
  rw[zOf_mk f n (k0+1) k (by omega)];congr 1;omega
noncomputable abbrev cl (f:Nat→Int):List AV:=tG.cells (mkZ f 31 0)
theorem cl_len (f:Nat→Int):(cl f).length=31:=z_len 31 _
theorem cl_get (f:Nat→Int) {k:Nat} (h:k<31):(cl f)[k]?=some (AV.int .i64 (f k)):=by
 show (tG.cells (mkZ f 31 0))[k]?=_
 rw[z_get 31 _ k h,zOf_mk f 31 0 k h,Nat.zero_add]
theorem cl_at (f:Nat→Int) {i:Nat} (h:i<31):isZs (cl f) [.int .i64 0] (0+(i:Int).toNat * 1)=true∧toI ((cl f).getD (0+(i:Int).toNat * 1) .nili)=f i:=by
 rw[show 0+(i:Int).toNat * 1=i by simp]
 have e:(cl f).getD i AV.nili=AV.int .i64 (f i):=by
  rw[List.getD_eq_getElem?_getD,cl_get f h];rfl
 refine⟨?_,by rw[e];rfl⟩
 show (Nat.ble (i+1) (cl f).length&&(isZ (AV.int .i64 0) ((cl f).getD i AV.nili)&&true))=true
 rw[e,cl_len,Nat.ble_eq_true_of_le (by omega)];rfl
theorem cl_set {f g:Nat→Int} {i:Nat} {v:Int} (h:i<31) (h1:g i=v) (h2:∀ k,k≠i→g k=f k):(cl f).set (0+(i:Int).toNat * 1) (.int .i64 v)=cl g:=by
 rw[show 0+(i:Int).toNat * 1=i by simp]
 refine List.ext_getElem? fun k=>?_
 rw[List.getElem?_set]
 by_cases hk:k<31
 · rw [cl_get g hk, cl_len]
   by_cases e:i=k
   · subst e;rw[if_pos rfl,if_pos h,h1]
   · rw[if_neg e,cl_get f hk,h2 k (fun x=>e x.symm)]
 · have e1 : (cl g)[k]? = none := List.getElem?_eq_none_iff.2 (by rw [cl_len]; omega)
   have e2:(cl f)[k]?=none:=List.getElem?_eq_none_iff.2 (by rw[cl_len];omega)
   rw[e1,e2,cl_len,if_neg (show ¬ i=k by omega)]
noncomputable def mrnF (d:tQ.den) (t:tT.den) (n:Int):Nat→Int
 |0=>t.1
 |k+1=>bif ile (wr .i64 (lodS d (mrnF d t n k) k-useS d t k n)) 0 then 0 else wr .i64 (lodS d (mrnF d t n k) k-useS d t k n)
noncomputable def shtF (d:tQ.den) (t:tT.den) (n:Int):Nat→Int
 |0=>d.1.1.2.length
 |k+1=>bif !ile (useS d t k n) (lodS d (mrnF d t n k) k) then (bif ile (shtF d t n k) k then shtF d t n k else k) else shtF d t n k
noncomputable def mF (d:tQ.den) (t:tT.den) (n:Int) (i k:Nat):Int:=bif Nat.ble k i then mrnF d t n k else 0
noncomputable abbrev mrnA (d:tQ.den) (t:tT.den) (n:Int):tG.den:=mkZ (mF d t n d.1.1.2.length) 31 0
noncomputable abbrev shtA (d:tQ.den) (t:tT.den) (n:Int):Int:=shtF d t n d.1.1.2.length
theorem mF_i (d:tQ.den) (t:tT.den) (n:Int) (i:Nat):mF d t n i i=mrnF d t n i:=by
 unfold mF;rw[Nat.ble_eq_true_of_le (Nat.le_refl i)];rfl
theorem mF_n (d:tQ.den) (t:tT.den) (n:Int) (i k:Nat) (h:k≠i+1):mF d t n (i+1) k=mF d t n i k:=by
 unfold mF
 by_cases h1:k≤i
 · rw[Nat.ble_eq_true_of_le h1,Nat.ble_eq_true_of_le (show k≤i+1 by omega)]
 · rw[ble_f (show i<k by omega),ble_f (show i+1<k by omega)]
theorem prun_exit (d:tQ.den) (t:tT.den) (n x51 x149:Int) (f:Nat→Int) (m:Nat) (h:ile (Int.ofNat d.1.1.2.length) x149=true):adv F5 ((Z5 [35]).flat [1]) 3000 (prunI0 d t n x51 x149 (cl f) (m+1))=some (.done (.tup [.agg (tG.cells (mkZ f 31 0)),.int .i64 x51])):=by
 have h1:=prun_step0 d t n x51 x149 (cl f) m
 rw[h,Bool.not_true,cond_false] at h1
 exact h1.trans (by kernel_rfl)
theorem prun_ans {d:tQ.den} {t:tT.den} {n:Int} (H:d.1.1.2.length≤30):∀ (r i m:Nat),i+r=d.1.1.2.length→r<m→Ans F5 (prunI0 d t n (shtF d t n i) i (cl (mF d t n i)) m) (.tup [.agg (tG.cells (mrnA d t n)),.int .i64 (shtA d t n)])
 |0,i,m+1,hk,hm=>by
  have hi:i=d.1.1.2.length:=by omega
  subst hi
  exact .done (Sy.flat_ok (Z5_ok _)) F5sy (prun_exit d t n _ _ _ m (ile_t (Int.le_refl _))) rfl
 | r + 1, i, m + 1, hk, hm => by
  have hlt:i<d.1.1.2.length:=by omega
  have h:=prun_step0 d t n (shtF d t n i) i (cl (mF d t n i)) m
  obtain⟨e1,e2⟩:=cl_at (mF d t n i) (show i<31 by omega)
  rw[mF_i] at e2
  have hi30:inB (i:Int) 30=true:=inB_at (by omega)
  have hi31:inB (i:Int) 31=true:=inB_at (by omega)
  have hj31:inB ((i+1:Nat):Int) 31=true:=inB_at (by omega)
  have hs:(cl (mF d t n i)).set (0+((i+1:Nat):Int).toNat * 1) (.int .i64 (bif ile (wr .i64 (lodS d (mrnF d t n i) i-useS d t i n)) 0 then 0 else wr .i64 (lodS d (mrnF d t n i) i-useS d t i n)))=cl (mF d t n (i+1)):=
   cl_set (by omega) (mF_i d t n (i+1)) (fun k hk=>mF_n d t n i k hk)
  have hb:∀ v:Int,(0+((i+1:Nat):Int).toNat * 1+(AV.int .i64 v).cells.length).ble (cl (mF d t n i)).length=true:=fun v=>by
   rw[cl_len];exact Nat.ble_eq_true_of_le (by show 0+((i+1:Nat):Int).toNat * 1+1≤31;simp;omega)
  have hp:plO (AO.cells false (cl (mF d t n (i+1))))=true:=by kernel_rfl
  rw[ile_f (show (i:Int)<Int.ofNat d.1.1.2.length by show (i:Int)<((d.1.1.2.length:Nat):Int);omega),hi31,hi30,e1,e2,wr_succ (show i<1048577 by omega),hj31,hs,hp,inB_at hlt] at h
  simp only[Bool.not_false,cond_true,ieq_self,hb] at h
  have e:shtF d t n (i+1)=bif !ile (useS d t i n) (lodS d (mrnF d t n i) i) then (bif ile (shtF d t n i) i then shtF d t n i else i) else shtF d t n i:=rfl
  have h2:=prun_ans (t:=t) (n:=n) H r (i+1) m (by omega) (by omega)
  rw[e] at h2
  cases c:(!ile (useS d t i n) (lodS d (mrnF d t n i) i))<;>rw[c] at h h2<;>exact .stop (Sy.flat_ok (Z5_ok _)) F5sy h h2
theorem prun_call (d:tQ.den) (t:tT.den) (n:Int) (h:Nat.ble d.1.1.2.length 30=true):AnsF F5 35 [tQ.pv d,tT.av t,tI.av n] (.tup [.agg (tG.cells (mrnA d t n)),.int .i64 (shtA d t n)]):=by
 refine Ans.call (n:=40) (ext_none (by kernel_rfl)) (hasB_spec (by kernel_rfl)) ?_
 have H:=Nat.le_of_ble_eq_true h
 have e:([AV.int .i64 t.1,.int .i64 0,.int .i64 0,.int .i64 0,.int .i64 0,.int .i64 0,.int .i64 0,.int .i64 0,.int .i64 0,.int .i64 0,.int .i64 0,.int .i64 0,.int .i64 0,.int .i64 0,.int .i64 0,.int .i64 0,.int .i64 0,.int .i64 0,.int .i64 0,.int .i64 0,.int .i64 0,.int .i64 0,.int .i64 0,.int .i64 0,.int .i64 0,.int .i64 0,.int .i64 0,.int .i64 0,.int .i64 0,.int .i64 0,.int .i64 0]:List AV)=cl (mF d t n 0):=by kernel_rfl
 have h1:=prun_start d t n
 rw[e] at h1
 exact .stop (Sy.flat_ok (Z5_ok _)) F5sy h1 (prun_ans H d.1.1.2.length 0 1048575 (by omega) (by omega))
noncomputable def LF:List Said:=[(35,conP3 tQ tT tI (fun d _ _=>Nat.ble d.1.1.2.length 30) (fun d t n=>.tup [.agg (tG.cells (mrnA d t n)),.int .i64 (shtA d t n)]))]
theorem LF_ok:∀ e∈LF,SaidG Tryz.prog F5.glob e:=
 saids_cons (SaidOK.g f5 xf5 nf5 tabs_ok.mix (fun _ _ h=>conP3_spec (t:=tQ) (u:=tT) (w:=tI) (fun d t n h=>prun_call d t n h) h) rfl) saids_nil
noncomputable def F6:Env:=F5.say (under (xOf LF))
theorem f6:EnvOK Tryz.prog F6:=f5.say _
theorem nf6:NameOK F6:=nf5.say _
theorem xf6:ExtOK Tryz.prog F6:=xf5.sayL LF_ok
theorem F6sy:F6.sy=true:=rfl
noncomputable def Z6 (l:List Nat):Sy:=(Z5 []).on LF l
theorem Z6_ok (l:List Nat):(Z6 l).ok F6:=Sy.on_ok (Z5_ok _)
end Go.Proofs.YtelibdeanepdjaaGreat


set_option maxRecDepth 100000
namespace Go.Proofs.YtelibdeanepdjaaGreat
open Go Go.Eng
noncomputable def pnewg0 (s:tS.den) (l:(Ty.sl tN).den) (k:Int):List (Nat×AV):=[(0,(.agg [(.vs tI (s.1.1) (s.1.2)),(.vs tK (s.2.1.1) (s.2.1.2)),(.vs tC (s.2.2.1.1) (s.2.2.1.2))])),(1,(.vs tN (l.1) (l.2))),(2,(.int .i64 (k))),(3,(.ptr 0 0)),(6,.nilp),(7,(.ptr 1 0)),(12,(.agg [(.vs tI (s.1.1) (s.1.2)),(.vs tK (s.2.1.1) (s.2.1.2)),(.vs tC (s.2.2.1.1) (s.2.2.1.2))])),(13,(.ptr 0 1)),(14,(.vs tK (s.2.1.1) (s.2.1.2))),(15,(.int .i64 (k))),(16,(.cp [(.str ((s.2.1.2.getD k.toNat tK.dflt).1)),(.int .i64 ((s.2.1.2.getD k.toNat tK.dflt).2.1.1)),(.int .i64 ((s.2.1.2.getD k.toNat tK.dflt).2.1.2.1)),(.int .i64 ((s.2.1.2.getD k.toNat tK.dflt).2.2.1.1)),(.int .i64 ((s.2.1.2.getD k.toNat tK.dflt).2.2.1.2.1)),(.int .i64 ((s.2.1.2.getD k.toNat tK.dflt).2.2.2.1.1)),(.int .i64 ((s.2.1.2.getD k.toNat tK.dflt).2.2.2.1.2.1)),(.int .i64 ((s.2.1.2.getD k.toNat tK.dflt).2.2.2.2.1)),(.int .i64 ((s.2.1.2.getD k.toNat tK.dflt).2.2.2.2.2.1))] 0)),(17,(.agg [(.str ((s.2.1.2.getD k.toNat tK.dflt).1)),(.int .i64 ((s.2.1.2.getD k.toNat tK.dflt).2.1.1)),(.int .i64 ((s.2.1.2.getD k.toNat tK.dflt).2.1.2.1)),(.int .i64 ((s.2.1.2.getD k.toNat tK.dflt).2.2.1.1)),(.int .i64 ((s.2.1.2.getD k.toNat tK.dflt).2.2.1.2.1)),(.int .i64 ((s.2.1.2.getD k.toNat tK.dflt).2.2.2.1.1)),(.int .i64 ((s.2.1.2.getD k.toNat tK.dflt).2.2.2.1.2.1)),(.int .i64 ((s.2.1.2.getD k.toNat tK.dflt).2.2.2.2.1)),(.int .i64 ((s.2.1.2.getD k.toNat tK.dflt).2.2.2.2.2.1))])),(18,(.agg [(.vs tI (s.1.1) (s.1.2)),(.vs tK (s.2.1.1) (s.2.1.2)),(.vs tC (s.2.2.1.1) (s.2.2.1.2)),(.str ((s.2.1.2.getD k.toNat tK.dflt).1)),(.int .i64 ((s.2.1.2.getD k.toNat tK.dflt).2.1.1)),(.int .i64 ((s.2.1.2.getD k.toNat tK.dflt).2.1.2.1)),(.int .i64 ((s.2.1.2.getD k.toNat tK.dflt).2.2.1.1)),(.int .i64 ((s.2.1.2.getD k.toNat tK.dflt).2.2.1.2.1)),(.int .i64 ((s.2.1.2.getD k.toNat tK.dflt).2.2.2.1.1)),(.int .i64 ((s.2.1.2.getD k.toNat tK.dflt).2.2.2.1.2.1)),(.int .i64 ((s.2.1.2.getD k.toNat tK.dflt).2.2.2.2.1)),(.int .i64 ((s.2.1.2.getD k.toNat tK.dflt).2.2.2.2.2.1)),(.int .i64 (0)),(.int .i64 (0)),(.int .i64 (0)),(.int .i64 (0)),(.int .i64 (0)),(.int .i64 (0)),(.int .i64 (0)),(.int .i64 (0)),(.int .i64 (0)),(.int .i64 (0)),(.int .i64 (0)),(.int .i64 (0)),(.int .i64 (0)),(.int .i64 (0)),(.int .i64 (0)),(.int .i64 (0)),(.int .i64 (0)),(.int .i64 (0)),(.int .i64 (0)),(.int .i64 (0)),(.int .i64 (0)),(.int .i64 (0)),(.int .i64 (0)),(.int .i64 (0)),(.int .i64 (0)),(.int .i64 (0)),(.int .i64 (0)),(.int .i64 (0)),(.int .i64 (0)),(.int .i64 (0)),.nils])),(19,(.ptr 1 0)),(20,(.ptr 0 2)),(21,(.vs tC (s.2.2.1.1) (s.2.2.1.2))),(22,(.int .i64 (Int.ofNat s.2.2.1.2.length)))]
noncomputable def pnewI0 (s:tS.den) (l:(Ty.sl tN).den) (k:Int) (x84:Int) (x91:List AV) (x177:Nat):Cfg:=⟨.ex (pcOf F4 77 [0,0,1,0,1,1]) ⟨(tmOf 70 (pnewg0 s l k++[(23,(.int .i64 x84))])),(hpOf 2 [(0,(.cells false [(.vs tI (s.1.1) (s.1.2)),(.vs tK (s.2.1.1) (s.2.1.2)),(.vs tC (s.2.2.1.1) (s.2.2.1.2))])),(1,(.cells false x91))]),[],[],70,false⟩,⟨40,[]⟩,[(.lop (pcOf F4 77 [0,0,1,0,1,1]) 2 (tmOf 70 (pnewg0 s l k++[(23,(.int .i64 (0)))])) x177),(.blk 0),(.seq (pcOf F4 77 [1,1,1])),(.cal [(.tmp 6)] .top)]⟩
noncomputable def pnewI1 (s:tS.den) (l:(Ty.sl tN).den) (k:Int) (x84:Int) (x96:List AV) (x187:Nat):Cfg:=⟨.ex (pcOf F4 77 [0,0,1,0,1,1,1]) ⟨(tmOf 70 (pnewg0 s l k++[(23,(.int .i64 x84)),(24,(.bool (false))),(45,(.vs tN (l.1) (l.2))),(46,(.int .i64 (Int.ofNat l.2.length))),(47,(.int .i64 (0)))])),(hpOf 2 [(0,(.cells false [(.vs tI (s.1.1) (s.1.2)),(.vs tK (s.2.1.1) (s.2.1.2)),(.vs tC (s.2.2.1.1) (s.2.2.1.2))])),(1,(.cells false x96))]),[],[],70,false⟩,⟨40,[]⟩,[(.lop (pcOf F4 77 [0,0,1,0,1,1,1]) 2 (tmOf 70 (pnewg0 s l k++[(23,(.int .i64 x84)),(24,(.bool (false))),(45,(.vs tN (l.1) (l.2))),(46,(.int .i64 (Int.ofNat l.2.length))),(47,(.int .i64 (0)))])) x187),(.blk 2),(.seq (pcOf F4 77 [1,1,1,1])),(.cal [(.tmp 6)] .top)]⟩
theorem pnew_start (s:tS.den) (l:(Ty.sl tN).den) (k:Int):adv F4 ((Z4 [77]).flat [1]) 3000 (startC F4 77 [tS.av s,.vs tN l.1 l.2,.int .i64 k] 40)=(bif inB k s.2.1.2.length then (bif bbeq s.2.1.1 s.2.1.1 then (bif vsB tK s.2.1.2 tK s.2.1.2 then (bif bbeq s.1.1 s.1.1 then (bif vsB tI s.1.2 tI s.1.2 then (bif bbeq s.2.1.1 s.2.1.1 then (bif vsB tK s.2.1.2 tK s.2.1.2 then (bif bbeq s.2.2.1.1 s.2.2.1.1 then (bif vsB tC s.2.2.1.2 tC s.2.2.1.2 then some (.stop (pnewI0 s l k (0) ([AV.vs tI s.1.1 s.1.2,AV.vs tK s.2.1.1 s.2.1.2,AV.vs tC s.2.2.1.1 s.2.2.1.2,AV.str (s.2.1.2.getD k.toNat tK.dflt).1,AV.int IntKind.i64 (s.2.1.2.getD k.toNat tK.dflt).2.1.1,AV.int IntKind.i64 (s.2.1.2.getD k.toNat tK.dflt).2.1.2.1,AV.int IntKind.i64 (s.2.1.2.getD k.toNat tK.dflt).2.2.1.1,AV.int IntKind.i64 (s.2.1.2.getD k.toNat tK.dflt).2.2.1.2.1,AV.int IntKind.i64 (s.2.1.2.getD k.toNat tK.dflt).2.2.2.1.1,AV.int IntKind.i64 (s.2.1.2.getD k.toNat tK.dflt).2.2.2.1.2.1,AV.int IntKind.i64 (s.2.1.2.getD k.toNat tK.dflt).2.2.2.2.1,AV.int IntKind.i64 (s.2.1.2.getD k.toNat tK.dflt).2.2.2.2.2.1,AV.int IntKind.i64 0,AV.int IntKind.i64 0,AV.int IntKind.i64 0,AV.int IntKind.i64 0,AV.int IntKind.i64 0,AV.int IntKind.i64 0,AV.int IntKind.i64 0,AV.int IntKind.i64 0,AV.int IntKind.i64 0,AV.int IntKind.i64 0,AV.int IntKind.i64 0,AV.int IntKind.i64 0,AV.int IntKind.i64 0,AV.int IntKind.i64 0,AV.int IntKind.i64 0,AV.int IntKind.i64 0,AV.int IntKind.i64 0,AV.int IntKind.i64 0,AV.int IntKind.i64 0,AV.int IntKind.i64 0,AV.int IntKind.i64 0,AV.int IntKind.i64 0,AV.int IntKind.i64 0,AV.int IntKind.i64 0,AV.int IntKind.i64 0,AV.int IntKind.i64 0,AV.int IntKind.i64 0,AV.int IntKind.i64 0,AV.int IntKind.i64 0,AV.int IntKind.i64 0,AV.nils]) (1048575))) else none) else none) else none) else none) else none) else none) else none) else none) else none):=by kernel_rfl
theorem pnew_step0 (s:tS.den) (l:(Ty.sl tN).den) (k:Int) (x84:Int) (x91:List AV) (x177:Nat):adv F4 ((Z4 [77]).flat [1]) 3000 (pnewI0 s l k x84 x91 (x177+1))=(bif !ile (Int.ofNat s.2.2.1.2.length) x84 then (bif inB x84 s.2.2.1.2.length then (bif ieq (s.2.2.1.2.getD x84.toNat tC.dflt).2.1 k then (bif inB (s.2.2.1.2.getD x84.toNat tC.dflt).1 30 then (bif isZs x91 [AV.int IntKind.i64 0] (0+12+Int.toNat (s.2.2.1.2.getD x84.toNat tC.dflt).1 * 1) then (bif inB (s.2.2.1.2.getD x84.toNat tC.dflt).1 30 then (bif (0+12+Int.toNat (s.2.2.1.2.getD x84.toNat tC.dflt).1 * 1+(AV.int IntKind.i64 (wr .i64 (toI (x91.getD (0+12+Int.toNat (s.2.2.1.2.getD x84.toNat tC.dflt).1 * 1) AV.nili)+(s.2.2.1.2.getD x84.toNat tC.dflt).2.2.1))).cells.length).ble x91.length then (bif ieq (s.2.2.1.2.getD x84.toNat tC.dflt).2.2.1 (s.2.2.1.2.getD x84.toNat tC.dflt).2.2.1 then (bif isZs x91 [AV.int IntKind.i64 0] (0+12+Int.toNat (s.2.2.1.2.getD x84.toNat tC.dflt).1 * 1) then (bif ieq (toI (x91.getD (0+12+Int.toNat (s.2.2.1.2.getD x84.toNat tC.dflt).1 * 1) AV.nili)) (toI (x91.getD (0+12+Int.toNat (s.2.2.1.2.getD x84.toNat tC.dflt).1 * 1) AV.nili)) then (bif ieq (s.2.2.1.2.getD x84.toNat tC.dflt).1 (s.2.2.1.2.getD x84.toNat tC.dflt).1 then (bif plO (AO.cells false (x91.set (0+12+Int.toNat (s.2.2.1.2.getD x84.toNat tC.dflt).1 * 1) (AV.int IntKind.i64 (wr .i64 (toI (x91.getD (0+12+Int.toNat (s.2.2.1.2.getD x84.toNat tC.dflt).1 * 1) AV.nili)+(s.2.2.1.2.getD x84.toNat tC.dflt).2.2.1))))) then some (.stop (pnewI0 s l k (wr .i64 (x84+1)) (x91.set (0+12+Int.toNat (s.2.2.1.2.getD x84.toNat tC.dflt).1 * 1) (AV.int IntKind.i64 (wr .i64 (toI (x91.getD (0+12+Int.toNat (s.2.2.1.2.getD x84.toNat tC.dflt).1 * 1) AV.nili)+(s.2.2.1.2.getD x84.toNat tC.dflt).2.2.1)))) (x177))) else none) else none) else none) else none) else none) else none) else none) else none) else none) else (bif plO (AO.cells false x91) then some (.stop (pnewI0 s l k (wr .i64 (x84+1)) (x91) (x177))) else none)) else none) else some (.stop (pnewI1 s l k (x84) (x91) (1048575)))):=by kernel_rfl
end Go.Proofs.YtelibdeanepdjaaGreat


set_option maxRecDepth 100000
namespace Go.Proofs.YtelibdeanepdjaaGreat
open Go Go.Eng
noncomputable abbrev kdS (s:tS.den) (k:Int):tK.den:=s.2.1.2.getD k.toNat tK.dflt
noncomputable def qA (s:tS.den) (k:Int):List AV:=tS.cells s++tK.cells (kdS s k)
theorem zq_at (s:tS.den) (k:Int) (z:tF.den) (B:List AV) {y:Int} (h:inB y 30=true):isZs (qA s k++(tF.cells z++B)) [.int .i64 0] (0+12+y.toNat * 1)=true∧toI ((qA s k++(tF.cells z++B)).getD (0+12+y.toNat * 1) .nili)=zOf 30 z y.toNat:=by
 cases y with
 |negSucc m=>cases h
 | ofNat j =>
  have hj:j<30:=Nat.le_of_ble_eq_true h
  rw[show 0+12+(Int.ofNat j).toNat * 1=12+j by simp]
  have hl:(qA s k).length=12:=rfl
  have e0:(qA s k++(tF.cells z++B))[12+j]?=some (AV.int .i64 (zOf 30 z j)):=by
   rw[List.getElem?_append_right (by omega),hl,show 12+j-12=j by omega,List.getElem?_append_left (by rw[z_len];exact hj)]
   exact z_get 30 _ j hj
  have e:(qA s k++(tF.cells z++B)).getD (12+j) AV.nili=AV.int .i64 (zOf 30 z j):=by
   rw[List.getD_eq_getElem?_getD,e0];rfl
  refine⟨?_,by rw[e];rfl⟩
  show (Nat.ble (12+j+1) (qA s k++(tF.cells z++B)).length&&(isZ (AV.int .i64 0) ((qA s k++(tF.cells z++B)).getD (12+j) AV.nili)&&true))=true
  rw[e,List.length_append,List.length_append,hl,z_len,Nat.ble_eq_true_of_le (by omega)];rfl
theorem z_set:∀ (n:Nat) (f g:Nat→Int) (j k0:Nat) (v:Int),j<n→g (k0+j)=v→(∀ i,i≠k0+j→g i=f i)→((tZ n).cells (mkZ f n k0)).set j (.int .i64 v)=(tZ n).cells (mkZ g n k0)
 |0,_,_,_,_,_,h,_,_=>absurd h (by omega)
 |n+1,f,g,0,k0,v,h,h1,h2=>by
  show ([AV.int .i64 (f k0)]++(tZ n).cells (mkZ f n (k0+1))).set 0 (.int .i64 v)=[AV.int .i64 (g k0)]++(tZ n).cells (mkZ g n (k0+1))
  have e:(tZ n).cells (mkZ f n (k0+1))=(tZ n).cells (mkZ g n (k0+1)):=by rw[z_cong n f g (k0+1) (fun i hi=>h2 i (by omega))]
  rw[e,← show g k0=v from by simpa using h1];rfl
 |n+1,f,g,j+1,k0,v,h,h1,h2=>by
  show ([AV.int .i64 (f k0)]++(tZ n).cells (mkZ f n (k0+1))).set (j+1) (.int .i64 v)=[AV.int .i64 (g k0)]++(tZ n).cells (mkZ g n (k0+1))
  rw[show ([AV.int .i64 (f k0)]++(tZ n).cells (mkZ f n (k0+1))).set (j+1) (.int .i64 v)=[AV.int .i64 (f k0)]++((tZ n).cells (mkZ f n (k0+1))).set j (.int .i64 v) from rfl,z_set n f g j (k0+1) v (by omega) (by rw[← h1];congr 1;omega) (fun i hi=>h2 i (by omega)),h2 k0 (by omega)]
where z_cong:∀ (n:Nat) (f g:Nat→Int) (k0:Nat),(∀ i,k0≤i→g i=f i)→mkZ f n k0=mkZ g n k0
 |0,_,_,_,_=>rfl
 |n+1,f,g,k0,h=>by
  show (f k0,mkZ f n (k0+1))=(g k0,mkZ g n (k0+1))
  rw[h k0 (Nat.le_refl _),z_cong n f g (k0+1) (fun i hi=>h i (by omega))]
theorem zq_set (s:tS.den) (k:Int) (B:List AV) {f g:Nat→Int} {y:Int} {v:Int} (h:inB y 30=true) (h1:g y.toNat=v) (h2:∀ i,i≠y.toNat→g i=f i):(qA s k++(tF.cells (mkZ f 30 0)++B)).set (0+12+y.toNat * 1) (.int .i64 v)=qA s k++(tF.cells (mkZ g 30 0)++B):=by
 cases y with
 |negSucc m=>cases h
 |ofNat j=>
  have hj:j<30:=Nat.le_of_ble_eq_true h
  rw[show 0+12+(Int.ofNat j).toNat * 1=12+j by simp]
  have hl:(qA s k).length=12:=rfl
  rw[List.set_append_right _ _ (by omega),hl,show 12+j-12=j by omega,List.set_append_left _ _ (by rw[z_len];exact hj)]
  rw[show (tF.cells (mkZ f 30 0)).set j (.int .i64 v)=tF.cells (mkZ g 30 0) from z_set 30 f g j 0 v hj (by rw[Nat.zero_add];exact h1) (fun i hi=>h2 i (by rw[Nat.zero_add] at hi;exact hi))]
noncomputable def comF (s:tS.den) (k:Int):Nat→Nat→Int
 |0,_=>0
 |i+1,y=>bif ieq (s.2.2.1.2.getD i tC.dflt).2.1 k&&Nat.beq y (s.2.2.1.2.getD i tC.dflt).1.toNat then wr .i64 (comF s k i y+(s.2.2.1.2.getD i tC.dflt).2.2.1) else comF s k i y
noncomputable def cntK (k:Int) (l:List tN.den):Nat→List tM.den
 |0=>[]
 |i+1=>cntK k l i++(bif ieq (l.getD i tN.dflt).2.1 k then [(l.getD i tN.dflt,((i:Nat):Int),())] else [])
noncomputable def noM:List tM.den→Bool
 |[]=>true
 |_::_=>false
noncomputable def stkS (s:tS.den) (l:List tN.den) (k:Int):tQ.den:=(s,kdS s k,mkZ (comF s k s.2.2.1.2.length) 30 0,(noM (cntK k l l.length),cntK k l l.length),())
noncomputable def newB (s:tS.den) (l:List tN.den) (k:Int):Bool:=inB k s.2.1.2.length&&(Nat.ble s.2.2.1.2.length 8&&(Nat.ble l.length 8&&s.2.2.1.2.all fun c=>inB c.1 30))
theorem cntK_len (k:Int) (l:List tN.den):∀ i,(cntK k l i).length≤i
 |0=>Nat.le_refl _
 |i+1=>by
  have:=cntK_len k l i
  unfold cntK;rw[List.length_append]
  cases ieq (l.getD i tN.dflt).2.1 k
  · show _+0≤_;omega
  · show _+1≤_;omega
theorem flatM_len:∀ (c:List tM.den),(flat tM c).length=c.length * 5
 |[]=>rfl
 |x::c=>by
  show (tM.cells x++flat tM c).length=_
  rw[List.length_append,flatM_len c];show 5+_=(c.length+1) * 5;omega
theorem flatM_snoc (c:List tM.den) (x:tM.den):flat tM (c++[x])=flat tM c++tM.cells x:=by
 unfold flat;rw[List.flatMap_append];simp
theorem plM:∀ (c:List tM.den),plainL (flat tM c)=true
 |[]=>rfl
 |x::c=>plM c
end Go.Proofs.YtelibdeanepdjaaGreat


set_option maxRecDepth 100000
namespace Go.Proofs.YtelibdeanepdjaaGreat
open Go Go.Eng
noncomputable def pnewbg0 (s:tS.den) (l:(Ty.sl tN).den) (k:Int) (x84:Int):List (Nat×AV):=[(0,(.agg [(.vs tI (s.1.1) (s.1.2)),(.vs tK (s.2.1.1) (s.2.1.2)),(.vs tC (s.2.2.1.1) (s.2.2.1.2))])),(1,(.vs tN (l.1) (l.2))),(2,(.int .i64 (k))),(3,(.ptr 0 0)),(6,.nilp),(7,(.ptr 1 0)),(12,(.agg [(.vs tI (s.1.1) (s.1.2)),(.vs tK (s.2.1.1) (s.2.1.2)),(.vs tC (s.2.2.1.1) (s.2.2.1.2))])),(13,(.ptr 0 1)),(14,(.vs tK (s.2.1.1) (s.2.1.2))),(15,(.int .i64 (k))),(16,(.cp [(.str ((s.2.1.2.getD k.toNat tK.dflt).1)),(.int .i64 ((s.2.1.2.getD k.toNat tK.dflt).2.1.1)),(.int .i64 ((s.2.1.2.getD k.toNat tK.dflt).2.1.2.1)),(.int .i64 ((s.2.1.2.getD k.toNat tK.dflt).2.2.1.1)),(.int .i64 ((s.2.1.2.getD k.toNat tK.dflt).2.2.1.2.1)),(.int .i64 ((s.2.1.2.getD k.toNat tK.dflt).2.2.2.1.1)),(.int .i64 ((s.2.1.2.getD k.toNat tK.dflt).2.2.2.1.2.1)),(.int .i64 ((s.2.1.2.getD k.toNat tK.dflt).2.2.2.2.1)),(.int .i64 ((s.2.1.2.getD k.toNat tK.dflt).2.2.2.2.2.1))] 0)),(17,(.agg [(.str ((s.2.1.2.getD k.toNat tK.dflt).1)),(.int .i64 ((s.2.1.2.getD k.toNat tK.dflt).2.1.1)),(.int .i64 ((s.2.1.2.getD k.toNat tK.dflt).2.1.2.1)),(.int .i64 ((s.2.1.2.getD k.toNat tK.dflt).2.2.1.1)),(.int .i64 ((s.2.1.2.getD k.toNat tK.dflt).2.2.1.2.1)),(.int .i64 ((s.2.1.2.getD k.toNat tK.dflt).2.2.2.1.1)),(.int .i64 ((s.2.1.2.getD k.toNat tK.dflt).2.2.2.1.2.1)),(.int .i64 ((s.2.1.2.getD k.toNat tK.dflt).2.2.2.2.1)),(.int .i64 ((s.2.1.2.getD k.toNat tK.dflt).2.2.2.2.2.1))])),(18,(.agg [(.vs tI (s.1.1) (s.1.2)),(.vs tK (s.2.1.1) (s.2.1.2)),(.vs tC (s.2.2.1.1) (s.2.2.1.2)),(.str ((s.2.1.2.getD k.toNat tK.dflt).1)),(.int .i64 ((s.2.1.2.getD k.toNat tK.dflt).2.1.1)),(.int .i64 ((s.2.1.2.getD k.toNat tK.dflt).2.1.2.1)),(.int .i64 ((s.2.1.2.getD k.toNat tK.dflt).2.2.1.1)),(.int .i64 ((s.2.1.2.getD k.toNat tK.dflt).2.2.1.2.1)),(.int .i64 ((s.2.1.2.getD k.toNat tK.dflt).2.2.2.1.1)),(.int .i64 ((s.2.1.2.getD k.toNat tK.dflt).2.2.2.1.2.1)),(.int .i64 ((s.2.1.2.getD k.toNat tK.dflt).2.2.2.2.1)),(.int .i64 ((s.2.1.2.getD k.toNat tK.dflt).2.2.2.2.2.1)),(.int .i64 (0)),(.int .i64 (0)),(.int .i64 (0)),(.int .i64 (0)),(.int .i64 (0)),(.int .i64 (0)),(.int .i64 (0)),(.int .i64 (0)),(.int .i64 (0)),(.int .i64 (0)),(.int .i64 (0)),(.int .i64 (0)),(.int .i64 (0)),(.int .i64 (0)),(.int .i64 (0)),(.int .i64 (0)),(.int .i64 (0)),(.int .i64 (0)),(.int .i64 (0)),(.int .i64 (0)),(.int .i64 (0)),(.int .i64 (0)),(.int .i64 (0)),(.int .i64 (0)),(.int .i64 (0)),(.int .i64 (0)),(.int .i64 (0)),(.int .i64 (0)),(.int .i64 (0)),(.int .i64 (0)),.nils])),(19,(.ptr 1 0)),(20,(.ptr 0 2)),(21,(.vs tC (s.2.2.1.1) (s.2.2.1.2))),(22,(.int .i64 (Int.ofNat s.2.2.1.2.length))),(23,(.int .i64 (x84))),(24,(.bool (false))),(45,(.vs tN (l.1) (l.2))),(46,(.int .i64 (Int.ofNat l.2.length)))]
noncomputable def pnewbI0 (s:tS.den) (l:(Ty.sl tN).den) (k:Int) (x84:Int) (z:tF.den) (n:Nat) (x89:Int) (x231:Nat):Cfg:=⟨.ex (pcOf F4 77 [0,0,1,0,1,1,1]) ⟨(tmOf 70 (pnewbg0 s l k x84++[(47,(.int .i64 x89))])),(hpOf 2 [(0,(.cells false [(.vs tI (s.1.1) (s.1.2)),(.vs tK (s.2.1.1) (s.2.1.2)),(.vs tC (s.2.2.1.1) (s.2.2.1.2))])),(1,(.cells false [(.vs tI (s.1.1) (s.1.2)),(.vs tK (s.2.1.1) (s.2.1.2)),(.vs tC (s.2.2.1.1) (s.2.2.1.2)),(.str ((s.2.1.2.getD k.toNat tK.dflt).1)),(.int .i64 ((s.2.1.2.getD k.toNat tK.dflt).2.1.1)),(.int .i64 ((s.2.1.2.getD k.toNat tK.dflt).2.1.2.1)),(.int .i64 ((s.2.1.2.getD k.toNat tK.dflt).2.2.1.1)),(.int .i64 ((s.2.1.2.getD k.toNat tK.dflt).2.2.1.2.1)),(.int .i64 ((s.2.1.2.getD k.toNat tK.dflt).2.2.2.1.1)),(.int .i64 ((s.2.1.2.getD k.toNat tK.dflt).2.2.2.1.2.1)),(.int .i64 ((s.2.1.2.getD k.toNat tK.dflt).2.2.2.2.1)),(.int .i64 ((s.2.1.2.getD k.toNat tK.dflt).2.2.2.2.2.1)),(.int .i64 (z.1)),(.int .i64 (z.2.1)),(.int .i64 (z.2.2.1)),(.int .i64 (z.2.2.2.1)),(.int .i64 (z.2.2.2.2.1)),(.int .i64 (z.2.2.2.2.2.1)),(.int .i64 (z.2.2.2.2.2.2.1)),(.int .i64 (z.2.2.2.2.2.2.2.1)),(.int .i64 (z.2.2.2.2.2.2.2.2.1)),(.int .i64 (z.2.2.2.2.2.2.2.2.2.1)),(.int .i64 (z.2.2.2.2.2.2.2.2.2.2.1)),(.int .i64 (z.2.2.2.2.2.2.2.2.2.2.2.1)),(.int .i64 (z.2.2.2.2.2.2.2.2.2.2.2.2.1)),(.int .i64 (z.2.2.2.2.2.2.2.2.2.2.2.2.2.1)),(.int .i64 (z.2.2.2.2.2.2.2.2.2.2.2.2.2.2.1)),(.int .i64 (z.2.2.2.2.2.2.2.2.2.2.2.2.2.2.2.1)),(.int .i64 (z.2.2.2.2.2.2.2.2.2.2.2.2.2.2.2.2.1)),(.int .i64 (z.2.2.2.2.2.2.2.2.2.2.2.2.2.2.2.2.2.1)),(.int .i64 (z.2.2.2.2.2.2.2.2.2.2.2.2.2.2.2.2.2.2.1)),(.int .i64 (z.2.2.2.2.2.2.2.2.2.2.2.2.2.2.2.2.2.2.2.1)),(.int .i64 (z.2.2.2.2.2.2.2.2.2.2.2.2.2.2.2.2.2.2.2.2.1)),(.int .i64 (z.2.2.2.2.2.2.2.2.2.2.2.2.2.2.2.2.2.2.2.2.2.1)),(.int .i64 (z.2.2.2.2.2.2.2.2.2.2.2.2.2.2.2.2.2.2.2.2.2.2.1)),(.int .i64 (z.2.2.2.2.2.2.2.2.2.2.2.2.2.2.2.2.2.2.2.2.2.2.2.1)),(.int .i64 (z.2.2.2.2.2.2.2.2.2.2.2.2.2.2.2.2.2.2.2.2.2.2.2.2.1)),(.int .i64 (z.2.2.2.2.2.2.2.2.2.2.2.2.2.2.2.2.2.2.2.2.2.2.2.2.2.1)),(.int .i64 (z.2.2.2.2.2.2.2.2.2.2.2.2.2.2.2.2.2.2.2.2.2.2.2.2.2.2.1)),(.int .i64 (z.2.2.2.2.2.2.2.2.2.2.2.2.2.2.2.2.2.2.2.2.2.2.2.2.2.2.2.1)),(.int .i64 (z.2.2.2.2.2.2.2.2.2.2.2.2.2.2.2.2.2.2.2.2.2.2.2.2.2.2.2.2.1)),(.int .i64 (z.2.2.2.2.2.2.2.2.2.2.2.2.2.2.2.2.2.2.2.2.2.2.2.2.2.2.2.2.2.1)),.nils]))]),[],[],70,false⟩,⟨40,[]⟩,[(.lop (pcOf F4 77 [0,0,1,0,1,1,1]) 2 (tmOf 70 (pnewbg0 s l k x84++[(47,(.int .i64 (0)))])) x231),(.blk 2),(.seq (pcOf F4 77 [1,1,1,1])),(.cal [(.tmp 6)] .top)]⟩
noncomputable def pnewbI1 (s:tS.den) (l:(Ty.sl tN).den) (k:Int) (x84:Int) (z:tF.den) (n:Nat) (x89:Int) (x141:Nat) (x143:List AV) (x234:Nat):Cfg:=⟨.ex (pcOf F4 77 [0,0,1,0,1,1,1]) ⟨(tmOf 70 (pnewbg0 s l k x84++[(47,(.int .i64 x89))])),(hpOf 3 [(0,(.cells false [(.vs tI (s.1.1) (s.1.2)),(.vs tK (s.2.1.1) (s.2.1.2)),(.vs tC (s.2.2.1.1) (s.2.2.1.2))])),(1,(.cells false [(.vs tI (s.1.1) (s.1.2)),(.vs tK (s.2.1.1) (s.2.1.2)),(.vs tC (s.2.2.1.1) (s.2.2.1.2)),(.str ((s.2.1.2.getD k.toNat tK.dflt).1)),(.int .i64 ((s.2.1.2.getD k.toNat tK.dflt).2.1.1)),(.int .i64 ((s.2.1.2.getD k.toNat tK.dflt).2.1.2.1)),(.int .i64 ((s.2.1.2.getD k.toNat tK.dflt).2.2.1.1)),(.int .i64 ((s.2.1.2.getD k.toNat tK.dflt).2.2.1.2.1)),(.int .i64 ((s.2.1.2.getD k.toNat tK.dflt).2.2.2.1.1)),(.int .i64 ((s.2.1.2.getD k.toNat tK.dflt).2.2.2.1.2.1)),(.int .i64 ((s.2.1.2.getD k.toNat tK.dflt).2.2.2.2.1)),(.int .i64 ((s.2.1.2.getD k.toNat tK.dflt).2.2.2.2.2.1)),(.int .i64 (z.1)),(.int .i64 (z.2.1)),(.int .i64 (z.2.2.1)),(.int .i64 (z.2.2.2.1)),(.int .i64 (z.2.2.2.2.1)),(.int .i64 (z.2.2.2.2.2.1)),(.int .i64 (z.2.2.2.2.2.2.1)),(.int .i64 (z.2.2.2.2.2.2.2.1)),(.int .i64 (z.2.2.2.2.2.2.2.2.1)),(.int .i64 (z.2.2.2.2.2.2.2.2.2.1)),(.int .i64 (z.2.2.2.2.2.2.2.2.2.2.1)),(.int .i64 (z.2.2.2.2.2.2.2.2.2.2.2.1)),(.int .i64 (z.2.2.2.2.2.2.2.2.2.2.2.2.1)),(.int .i64 (z.2.2.2.2.2.2.2.2.2.2.2.2.2.1)),(.int .i64 (z.2.2.2.2.2.2.2.2.2.2.2.2.2.2.1)),(.int .i64 (z.2.2.2.2.2.2.2.2.2.2.2.2.2.2.2.1)),(.int .i64 (z.2.2.2.2.2.2.2.2.2.2.2.2.2.2.2.2.1)),(.int .i64 (z.2.2.2.2.2.2.2.2.2.2.2.2.2.2.2.2.2.1)),(.int .i64 (z.2.2.2.2.2.2.2.2.2.2.2.2.2.2.2.2.2.2.1)),(.int .i64 (z.2.2.2.2.2.2.2.2.2.2.2.2.2.2.2.2.2.2.2.1)),(.int .i64 (z.2.2.2.2.2.2.2.2.2.2.2.2.2.2.2.2.2.2.2.2.1)),(.int .i64 (z.2.2.2.2.2.2.2.2.2.2.2.2.2.2.2.2.2.2.2.2.2.1)),(.int .i64 (z.2.2.2.2.2.2.2.2.2.2.2.2.2.2.2.2.2.2.2.2.2.2.1)),(.int .i64 (z.2.2.2.2.2.2.2.2.2.2.2.2.2.2.2.2.2.2.2.2.2.2.2.1)),(.int .i64 (z.2.2.2.2.2.2.2.2.2.2.2.2.2.2.2.2.2.2.2.2.2.2.2.2.1)),(.int .i64 (z.2.2.2.2.2.2.2.2.2.2.2.2.2.2.2.2.2.2.2.2.2.2.2.2.2.1)),(.int .i64 (z.2.2.2.2.2.2.2.2.2.2.2.2.2.2.2.2.2.2.2.2.2.2.2.2.2.2.1)),(.int .i64 (z.2.2.2.2.2.2.2.2.2.2.2.2.2.2.2.2.2.2.2.2.2.2.2.2.2.2.2.1)),(.int .i64 (z.2.2.2.2.2.2.2.2.2.2.2.2.2.2.2.2.2.2.2.2.2.2.2.2.2.2.2.2.1)),(.int .i64 (z.2.2.2.2.2.2.2.2.2.2.2.2.2.2.2.2.2.2.2.2.2.2.2.2.2.2.2.2.2.1)),(.sl 2 0 x141 x141 5)])),(2,(.cells false x143))]),[],[],70,false⟩,⟨40,[]⟩,[(.lop (pcOf F4 77 [0,0,1,0,1,1,1]) 2 (tmOf 70 (pnewbg0 s l k x84++[(47,(.int .i64 (0)))])) x234),(.blk 2),(.seq (pcOf F4 77 [1,1,1,1])),(.cal [(.tmp 6)] .top)]⟩
theorem pnewb_start (s:tS.den) (l:(Ty.sl tN).den) (k:Int) (x84:Int) (z:tF.den) (n:Nat):adv F4 ((Z4 [77]).vars) 3000 (pnewI1 s l k x84 [.vs tI s.1.1 s.1.2,.vs tK s.2.1.1 s.2.1.2,.vs tC s.2.2.1.1 s.2.2.1.2,.str (s.2.1.2.getD k.toNat tK.dflt).1,.int .i64 (s.2.1.2.getD k.toNat tK.dflt).2.1.1,.int .i64 (s.2.1.2.getD k.toNat tK.dflt).2.1.2.1,.int .i64 (s.2.1.2.getD k.toNat tK.dflt).2.2.1.1,.int .i64 (s.2.1.2.getD k.toNat tK.dflt).2.2.1.2.1,.int .i64 (s.2.1.2.getD k.toNat tK.dflt).2.2.2.1.1,.int .i64 (s.2.1.2.getD k.toNat tK.dflt).2.2.2.1.2.1,.int .i64 (s.2.1.2.getD k.toNat tK.dflt).2.2.2.2.1,.int .i64 (s.2.1.2.getD k.toNat tK.dflt).2.2.2.2.2.1,.int .i64 z.1,.int .i64 z.2.1,.int .i64 z.2.2.1,.int .i64 z.2.2.2.1,.int .i64 z.2.2.2.2.1,.int .i64 z.2.2.2.2.2.1,.int .i64 z.2.2.2.2.2.2.1,.int .i64 z.2.2.2.2.2.2.2.1,.int .i64 z.2.2.2.2.2.2.2.2.1,.int .i64 z.2.2.2.2.2.2.2.2.2.1,.int .i64 z.2.2.2.2.2.2.2.2.2.2.1,.int .i64 z.2.2.2.2.2.2.2.2.2.2.2.1,.int .i64 z.2.2.2.2.2.2.2.2.2.2.2.2.1,.int .i64 z.2.2.2.2.2.2.2.2.2.2.2.2.2.1,.int .i64 z.2.2.2.2.2.2.2.2.2.2.2.2.2.2.1,.int .i64 z.2.2.2.2.2.2.2.2.2.2.2.2.2.2.2.1,.int .i64 z.2.2.2.2.2.2.2.2.2.2.2.2.2.2.2.2.1,.int .i64 z.2.2.2.2.2.2.2.2.2.2.2.2.2.2.2.2.2.1,.int .i64 z.2.2.2.2.2.2.2.2.2.2.2.2.2.2.2.2.2.2.1,.int .i64 z.2.2.2.2.2.2.2.2.2.2.2.2.2.2.2.2.2.2.2.1,.int .i64 z.2.2.2.2.2.2.2.2.2.2.2.2.2.2.2.2.2.2.2.2.1,.int .i64 z.2.2.2.2.2.2.2.2.2.2.2.2.2.2.2.2.2.2.2.2.2.1,.int .i64 z.2.2.2.2.2.2.2.2.2.2.2.2.2.2.2.2.2.2.2.2.2.2.1,.int .i64 z.2.2.2.2.2.2.2.2.2.2.2.2.2.2.2.2.2.2.2.2.2.2.2.1,.int .i64 z.2.2.2.2.2.2.2.2.2.2.2.2.2.2.2.2.2.2.2.2.2.2.2.2.1,.int .i64 z.2.2.2.2.2.2.2.2.2.2.2.2.2.2.2.2.2.2.2.2.2.2.2.2.2.1,.int .i64 z.2.2.2.2.2.2.2.2.2.2.2.2.2.2.2.2.2.2.2.2.2.2.2.2.2.2.1,.int .i64 z.2.2.2.2.2.2.2.2.2.2.2.2.2.2.2.2.2.2.2.2.2.2.2.2.2.2.2.1,.int .i64 z.2.2.2.2.2.2.2.2.2.2.2.2.2.2.2.2.2.2.2.2.2.2.2.2.2.2.2.2.1,.int .i64 z.2.2.2.2.2.2.2.2.2.2.2.2.2.2.2.2.2.2.2.2.2.2.2.2.2.2.2.2.2.1,.nils] (n+1))=(bif !ile (Int.ofNat l.2.length) 0 then (bif inB 0 l.2.length then (bif ieq (l.2.getD (Int.toNat 0) tN.dflt).2.1 k then (bif ieq (l.2.getD (Int.toNat 0) tN.dflt).1 (l.2.getD (Int.toNat 0) tN.dflt).1 then (bif ieq (l.2.getD (Int.toNat 0) tN.dflt).2.1 (l.2.getD (Int.toNat 0) tN.dflt).2.1 then (bif ieq (l.2.getD (Int.toNat 0) tN.dflt).2.2.1.1 (l.2.getD (Int.toNat 0) tN.dflt).2.2.1.1 then (bif ieq (l.2.getD (Int.toNat 0) tN.dflt).2.2.1.2.1 (l.2.getD (Int.toNat 0) tN.dflt).2.2.1.2.1 then some (.stop (pnewbI1 s l k x84 z n (1) (1) ([AV.int IntKind.i64 (l.2.getD (Int.toNat 0) tN.dflt).1,AV.int IntKind.i64 (l.2.getD (Int.toNat 0) tN.dflt).2.1,AV.int IntKind.i64 (l.2.getD (Int.toNat 0) tN.dflt).2.2.1.1,AV.int IntKind.i64 (l.2.getD (Int.toNat 0) tN.dflt).2.2.1.2.1,AV.int IntKind.i64 0]) (n))) else none) else none) else none) else none) else some (.stop (pnewbI0 s l k x84 z n (1) (n)))) else none) else some (.done (.cp [(.vs tI (s.1.1) (s.1.2)),(.vs tK (s.2.1.1) (s.2.1.2)),(.vs tC (s.2.2.1.1) (s.2.2.1.2)),(.str ((s.2.1.2.getD k.toNat tK.dflt).1)),(.int .i64 ((s.2.1.2.getD k.toNat tK.dflt).2.1.1)),(.int .i64 ((s.2.1.2.getD k.toNat tK.dflt).2.1.2.1)),(.int .i64 ((s.2.1.2.getD k.toNat tK.dflt).2.2.1.1)),(.int .i64 ((s.2.1.2.getD k.toNat tK.dflt).2.2.1.2.1)),(.int .i64 ((s.2.1.2.getD k.toNat tK.dflt).2.2.2.1.1)),(.int .i64 ((s.2.1.2.getD k.toNat tK.dflt).2.2.2.1.2.1)),(.int .i64 ((s.2.1.2.getD k.toNat tK.dflt).2.2.2.2.1)),(.int .i64 ((s.2.1.2.getD k.toNat tK.dflt).2.2.2.2.2.1)),(.int .i64 (z.1)),(.int .i64 (z.2.1)),(.int .i64 (z.2.2.1)),(.int .i64 (z.2.2.2.1)),(.int .i64 (z.2.2.2.2.1)),(.int .i64 (z.2.2.2.2.2.1)),(.int .i64 (z.2.2.2.2.2.2.1)),(.int .i64 (z.2.2.2.2.2.2.2.1)),(.int .i64 (z.2.2.2.2.2.2.2.2.1)),(.int .i64 (z.2.2.2.2.2.2.2.2.2.1)),(.int .i64 (z.2.2.2.2.2.2.2.2.2.2.1)),(.int .i64 (z.2.2.2.2.2.2.2.2.2.2.2.1)),(.int .i64 (z.2.2.2.2.2.2.2.2.2.2.2.2.1)),(.int .i64 (z.2.2.2.2.2.2.2.2.2.2.2.2.2.1)),(.int .i64 (z.2.2.2.2.2.2.2.2.2.2.2.2.2.2.1)),(.int .i64 (z.2.2.2.2.2.2.2.2.2.2.2.2.2.2.2.1)),(.int .i64 (z.2.2.2.2.2.2.2.2.2.2.2.2.2.2.2.2.1)),(.int .i64 (z.2.2.2.2.2.2.2.2.2.2.2.2.2.2.2.2.2.1)),(.int .i64 (z.2.2.2.2.2.2.2.2.2.2.2.2.2.2.2.2.2.2.1)),(.int .i64 (z.2.2.2.2.2.2.2.2.2.2.2.2.2.2.2.2.2.2.2.1)),(.int .i64 (z.2.2.2.2.2.2.2.2.2.2.2.2.2.2.2.2.2.2.2.2.1)),(.int .i64 (z.2.2.2.2.2.2.2.2.2.2.2.2.2.2.2.2.2.2.2.2.2.1)),(.int .i64 (z.2.2.2.2.2.2.2.2.2.2.2.2.2.2.2.2.2.2.2.2.2.2.1)),(.int .i64 (z.2.2.2.2.2.2.2.2.2.2.2.2.2.2.2.2.2.2.2.2.2.2.2.1)),(.int .i64 (z.2.2.2.2.2.2.2.2.2.2.2.2.2.2.2.2.2.2.2.2.2.2.2.2.1)),(.int .i64 (z.2.2.2.2.2.2.2.2.2.2.2.2.2.2.2.2.2.2.2.2.2.2.2.2.2.1)),(.int .i64 (z.2.2.2.2.2.2.2.2.2.2.2.2.2.2.2.2.2.2.2.2.2.2.2.2.2.2.1)),(.int .i64 (z.2.2.2.2.2.2.2.2.2.2.2.2.2.2.2.2.2.2.2.2.2.2.2.2.2.2.2.1)),(.int .i64 (z.2.2.2.2.2.2.2.2.2.2.2.2.2.2.2.2.2.2.2.2.2.2.2.2.2.2.2.2.1)),(.int .i64 (z.2.2.2.2.2.2.2.2.2.2.2.2.2.2.2.2.2.2.2.2.2.2.2.2.2.2.2.2.2.1)),.nils] 0))):=by kernel_rfl
theorem pnewb_step0 (s:tS.den) (l:(Ty.sl tN).den) (k:Int) (x84:Int) (z:tF.den) (n:Nat) (x89:Int) (x231:Nat):adv F4 ((Z4 [77]).vars) 3000 (pnewbI0 s l k x84 z n x89 (x231+1))=(bif !ile (Int.ofNat l.2.length) x89 then (bif inB x89 l.2.length then (bif ieq (l.2.getD x89.toNat tN.dflt).2.1 k then (bif ieq (l.2.getD x89.toNat tN.dflt).1 (l.2.getD x89.toNat tN.dflt).1 then (bif ieq (l.2.getD x89.toNat tN.dflt).2.1 (l.2.getD x89.toNat tN.dflt).2.1 then (bif ieq (l.2.getD x89.toNat tN.dflt).2.2.1.1 (l.2.getD x89.toNat tN.dflt).2.2.1.1 then (bif ieq (l.2.getD x89.toNat tN.dflt).2.2.1.2.1 (l.2.getD x89.toNat tN.dflt).2.2.1.2.1 then some (.stop (pnewbI1 s l k x84 z n (wr .i64 (x89+1)) (1) ([AV.int IntKind.i64 (l.2.getD x89.toNat tN.dflt).1,AV.int IntKind.i64 (l.2.getD x89.toNat tN.dflt).2.1,AV.int IntKind.i64 (l.2.getD x89.toNat tN.dflt).2.2.1.1,AV.int IntKind.i64 (l.2.getD x89.toNat tN.dflt).2.2.1.2.1,AV.int IntKind.i64 x89]) (x231))) else none) else none) else none) else none) else some (.stop (pnewbI0 s l k x84 z n (wr .i64 (x89+1)) (x231)))) else none) else some (.done (.cp [(.vs tI (s.1.1) (s.1.2)),(.vs tK (s.2.1.1) (s.2.1.2)),(.vs tC (s.2.2.1.1) (s.2.2.1.2)),(.str ((s.2.1.2.getD k.toNat tK.dflt).1)),(.int .i64 ((s.2.1.2.getD k.toNat tK.dflt).2.1.1)),(.int .i64 ((s.2.1.2.getD k.toNat tK.dflt).2.1.2.1)),(.int .i64 ((s.2.1.2.getD k.toNat tK.dflt).2.2.1.1)),(.int .i64 ((s.2.1.2.getD k.toNat tK.dflt).2.2.1.2.1)),(.int .i64 ((s.2.1.2.getD k.toNat tK.dflt).2.2.2.1.1)),(.int .i64 ((s.2.1.2.getD k.toNat tK.dflt).2.2.2.1.2.1)),(.int .i64 ((s.2.1.2.getD k.toNat tK.dflt).2.2.2.2.1)),(.int .i64 ((s.2.1.2.getD k.toNat tK.dflt).2.2.2.2.2.1)),(.int .i64 (z.1)),(.int .i64 (z.2.1)),(.int .i64 (z.2.2.1)),(.int .i64 (z.2.2.2.1)),(.int .i64 (z.2.2.2.2.1)),(.int .i64 (z.2.2.2.2.2.1)),(.int .i64 (z.2.2.2.2.2.2.1)),(.int .i64 (z.2.2.2.2.2.2.2.1)),(.int .i64 (z.2.2.2.2.2.2.2.2.1)),(.int .i64 (z.2.2.2.2.2.2.2.2.2.1)),(.int .i64 (z.2.2.2.2.2.2.2.2.2.2.1)),(.int .i64 (z.2.2.2.2.2.2.2.2.2.2.2.1)),(.int .i64 (z.2.2.2.2.2.2.2.2.2.2.2.2.1)),(.int .i64 (z.2.2.2.2.2.2.2.2.2.2.2.2.2.1)),(.int .i64 (z.2.2.2.2.2.2.2.2.2.2.2.2.2.2.1)),(.int .i64 (z.2.2.2.2.2.2.2.2.2.2.2.2.2.2.2.1)),(.int .i64 (z.2.2.2.2.2.2.2.2.2.2.2.2.2.2.2.2.1)),(.int .i64 (z.2.2.2.2.2.2.2.2.2.2.2.2.2.2.2.2.2.1)),(.int .i64 (z.2.2.2.2.2.2.2.2.2.2.2.2.2.2.2.2.2.2.1)),(.int .i64 (z.2.2.2.2.2.2.2.2.2.2.2.2.2.2.2.2.2.2.2.1)),(.int .i64 (z.2.2.2.2.2.2.2.2.2.2.2.2.2.2.2.2.2.2.2.2.1)),(.int .i64 (z.2.2.2.2.2.2.2.2.2.2.2.2.2.2.2.2.2.2.2.2.2.1)),(.int .i64 (z.2.2.2.2.2.2.2.2.2.2.2.2.2.2.2.2.2.2.2.2.2.2.1)),(.int .i64 (z.2.2.2.2.2.2.2.2.2.2.2.2.2.2.2.2.2.2.2.2.2.2.2.1)),(.int .i64 (z.2.2.2.2.2.2.2.2.2.2.2.2.2.2.2.2.2.2.2.2.2.2.2.2.1)),(.int .i64 (z.2.2.2.2.2.2.2.2.2.2.2.2.2.2.2.2.2.2.2.2.2.2.2.2.2.1)),(.int .i64 (z.2.2.2.2.2.2.2.2.2.2.2.2.2.2.2.2.2.2.2.2.2.2.2.2.2.2.1)),(.int .i64 (z.2.2.2.2.2.2.2.2.2.2.2.2.2.2.2.2.2.2.2.2.2.2.2.2.2.2.2.1)),(.int .i64 (z.2.2.2.2.2.2.2.2.2.2.2.2.2.2.2.2.2.2.2.2.2.2.2.2.2.2.2.2.1)),(.int .i64 (z.2.2.2.2.2.2.2.2.2.2.2.2.2.2.2.2.2.2.2.2.2.2.2.2.2.2.2.2.2.1)),.nils] 0))):=by kernel_rfl
theorem pnewb_step1 (s:tS.den) (l:(Ty.sl tN).den) (k:Int) (x84:Int) (z:tF.den) (n:Nat) (x89:Int) (x141:Nat) (x143:List AV) (x234:Nat):adv F4 ((Z4 [77]).vars) 3000 (pnewbI1 s l k x84 z n x89 x141 x143 (x234+1))=(bif !ile (Int.ofNat l.2.length) x89 then (bif inB x89 l.2.length then (bif ieq (l.2.getD x89.toNat tN.dflt).2.1 k then (bif (0+x141 * 5).beq x143.length then (bif x141.ble 1048576 then (bif ieq (l.2.getD x89.toNat tN.dflt).1 (l.2.getD x89.toNat tN.dflt).1 then (bif ieq (l.2.getD x89.toNat tN.dflt).2.1 (l.2.getD x89.toNat tN.dflt).2.1 then (bif ieq (l.2.getD x89.toNat tN.dflt).2.2.1.1 (l.2.getD x89.toNat tN.dflt).2.2.1.1 then (bif ieq (l.2.getD x89.toNat tN.dflt).2.2.1.2.1 (l.2.getD x89.toNat tN.dflt).2.2.1.2.1 then (bif avbeq (AV.sl 2 0 x141 x141 5) (AV.sl 2 0 x141 x141 5) then (bif plO (AO.cells false (x143++[AV.int IntKind.i64 (l.2.getD x89.toNat tN.dflt).1,AV.int IntKind.i64 (l.2.getD x89.toNat tN.dflt).2.1,AV.int IntKind.i64 (l.2.getD x89.toNat tN.dflt).2.2.1.1,AV.int IntKind.i64 (l.2.getD x89.toNat tN.dflt).2.2.1.2.1,AV.int IntKind.i64 x89])) then some (.stop (pnewbI1 s l k x84 z n (wr .i64 (x89+1)) (x141+1) (x143++[AV.int IntKind.i64 (l.2.getD x89.toNat tN.dflt).1,AV.int IntKind.i64 (l.2.getD x89.toNat tN.dflt).2.1,AV.int IntKind.i64 (l.2.getD x89.toNat tN.dflt).2.2.1.1,AV.int IntKind.i64 (l.2.getD x89.toNat tN.dflt).2.2.1.2.1,AV.int IntKind.i64 x89]) (x234))) else none) else none) else none) else none) else none) else none) else none) else none) else (bif plO (AO.cells false x143) then some (.stop (pnewbI1 s l k x84 z n (wr .i64 (x89+1)) (x141) (x143) (x234))) else none)) else none) else (bif plainL x143 then some (.done (.cp [(.vs tI (s.1.1) (s.1.2)),(.vs tK (s.2.1.1) (s.2.1.2)),(.vs tC (s.2.2.1.1) (s.2.2.1.2)),(.str ((s.2.1.2.getD k.toNat tK.dflt).1)),(.int .i64 ((s.2.1.2.getD k.toNat tK.dflt).2.1.1)),(.int .i64 ((s.2.1.2.getD k.toNat tK.dflt).2.1.2.1)),(.int .i64 ((s.2.1.2.getD k.toNat tK.dflt).2.2.1.1)),(.int .i64 ((s.2.1.2.getD k.toNat tK.dflt).2.2.1.2.1)),(.int .i64 ((s.2.1.2.getD k.toNat tK.dflt).2.2.2.1.1)),(.int .i64 ((s.2.1.2.getD k.toNat tK.dflt).2.2.2.1.2.1)),(.int .i64 ((s.2.1.2.getD k.toNat tK.dflt).2.2.2.2.1)),(.int .i64 ((s.2.1.2.getD k.toNat tK.dflt).2.2.2.2.2.1)),(.int .i64 (z.1)),(.int .i64 (z.2.1)),(.int .i64 (z.2.2.1)),(.int .i64 (z.2.2.2.1)),(.int .i64 (z.2.2.2.2.1)),(.int .i64 (z.2.2.2.2.2.1)),(.int .i64 (z.2.2.2.2.2.2.1)),(.int .i64 (z.2.2.2.2.2.2.2.1)),(.int .i64 (z.2.2.2.2.2.2.2.2.1)),(.int .i64 (z.2.2.2.2.2.2.2.2.2.1)),(.int .i64 (z.2.2.2.2.2.2.2.2.2.2.1)),(.int .i64 (z.2.2.2.2.2.2.2.2.2.2.2.1)),(.int .i64 (z.2.2.2.2.2.2.2.2.2.2.2.2.1)),(.int .i64 (z.2.2.2.2.2.2.2.2.2.2.2.2.2.1)),(.int .i64 (z.2.2.2.2.2.2.2.2.2.2.2.2.2.2.1)),(.int .i64 (z.2.2.2.2.2.2.2.2.2.2.2.2.2.2.2.1)),(.int .i64 (z.2.2.2.2.2.2.2.2.2.2.2.2.2.2.2.2.1)),(.int .i64 (z.2.2.2.2.2.2.2.2.2.2.2.2.2.2.2.2.2.1)),(.int .i64 (z.2.2.2.2.2.2.2.2.2.2.2.2.2.2.2.2.2.2.1)),(.int .i64 (z.2.2.2.2.2.2.2.2.2.2.2.2.2.2.2.2.2.2.2.1)),(.int .i64 (z.2.2.2.2.2.2.2.2.2.2.2.2.2.2.2.2.2.2.2.2.1)),(.int .i64 (z.2.2.2.2.2.2.2.2.2.2.2.2.2.2.2.2.2.2.2.2.2.1)),(.int .i64 (z.2.2.2.2.2.2.2.2.2.2.2.2.2.2.2.2.2.2.2.2.2.2.1)),(.int .i64 (z.2.2.2.2.2.2.2.2.2.2.2.2.2.2.2.2.2.2.2.2.2.2.2.1)),(.int .i64 (z.2.2.2.2.2.2.2.2.2.2.2.2.2.2.2.2.2.2.2.2.2.2.2.2.1)),(.int .i64 (z.2.2.2.2.2.2.2.2.2.2.2.2.2.2.2.2.2.2.2.2.2.2.2.2.2.1)),(.int .i64 (z.2.2.2.2.2.2.2.2.2.2.2.2.2.2.2.2.2.2.2.2.2.2.2.2.2.2.1)),(.int .i64 (z.2.2.2.2.2.2.2.2.2.2.2.2.2.2.2.2.2.2.2.2.2.2.2.2.2.2.2.1)),(.int .i64 (z.2.2.2.2.2.2.2.2.2.2.2.2.2.2.2.2.2.2.2.2.2.2.2.2.2.2.2.2.1)),(.int .i64 (z.2.2.2.2.2.2.2.2.2.2.2.2.2.2.2.2.2.2.2.2.2.2.2.2.2.2.2.2.2.1)),(.csl (x143) (x141))] 0)) else none)):=by kernel_rfl
theorem bnd1 {s:tS.den} {l:List tN.den} {k:Int} (h:newB s l k=true):inB k s.2.1.2.length=true∧s.2.2.1.2.length≤8∧l.length≤8∧∀ c∈s.2.2.1.2,inB c.1 30=true:=by
 unfold newB at h
 simp only[Bool.and_eq_true,List.all_eq_true] at h
 exact⟨h.1,Nat.le_of_ble_eq_true h.2.1,Nat.le_of_ble_eq_true h.2.2.1,h.2.2.2⟩
theorem cnt_succ (k:Int) (l:List tN.den) (i:Nat):cntK k l (i+1)=cntK k l i++(bif ieq (l.getD i tN.dflt).2.1 k then [(l.getD i tN.dflt,((i:Nat):Int),())] else []):=rfl
theorem tells_q (s:tS.den) (k:Int) (z:tF.den) (c:List tM.den) (X:AV) (h:Tells X (.vs tM (noM c) c)):Tells (.cp (qA s k++(tF.cells z++[X])) 0) (tQ.pv (s,kdS s k,z,(noM c,c),())):=by
 have e:tQ.pv (s,kdS s k,z,(noM c,c),())=.cp (qA s k++(tF.cells z++[.vs tM (noM c) c])) 0:=by kernel_rfl
 rw[e]
 exact Tells.cp (TellsL.append (TellsL.refl _) (TellsL.append (TellsL.refl _) (TellsL.cons h TellsL.nil)))
theorem pnewb_ansB {s:tS.den} {l:(Ty.sl tN).den} {k x84:Int} {z:tF.den} {n:Nat} (H:l.2.length≤8):∀ (r i m:Nat),i+r=l.2.length→r<m→cntK k l.2 i≠[]→Ans F4 (pnewbI1 s l k x84 z n i (cntK k l.2 i).length (flat tM (cntK k l.2 i)) m) (tQ.pv (s,kdS s k,z,(noM (cntK k l.2 l.2.length),cntK k l.2 l.2.length),()))
 |0,i,m+1,hk,hm,hne=>by
  have h:=pnewb_step1 s l k x84 z n i (cntK k l.2 i).length (flat tM (cntK k l.2 i)) m
  rw[ile_t (show Int.ofNat l.2.length≤(i:Int) by show ((l.2.length:Nat):Int)≤i;omega),Bool.not_true,cond_false,plM,cond_true] at h
  have hi:i=l.2.length:=by omega
  rw[← hi]
  refine .doneT (Sy.vars_ok (Z4_ok _)) F4sy h (tells_q s k z (cntK k l.2 i) _ ?_)
  cases e:cntK k l.2 i with
  |nil=>exact absurd e hne
  |cons x c=>exact Tells.csl
 | r + 1, i, m + 1, hk, hm, hne => by
  have h:=pnewb_step1 s l k x84 z n i (cntK k l.2 i).length (flat tM (cntK k l.2 i)) m
  have hlt:i<l.2.length:=by omega
  have hl:=cntK_len k l.2 i
  rw[ile_f (show (i:Int)<Int.ofNat l.2.length by show (i:Int)<((l.2.length:Nat):Int);omega),inB_at hlt,wr_succ (show i<1048577 by omega),flatM_len,show (0+(cntK k l.2 i).length * 5).beq ((cntK k l.2 i).length * 5)=true by rw[Nat.zero_add];exact Nat.beq_refl _,Nat.ble_eq_true_of_le (show (cntK k l.2 i).length≤1048576 by omega)] at h
  simp only[Bool.not_false,cond_true,ieq_self] at h
  have e:=cnt_succ k l.2 i
  rw[show ((i:Nat):Int).toNat=i by simp] at h
  cases c:ieq (l.2.getD i tN.dflt).2.1 k with
  | true =>
   rw[c,cond_true] at h;rw[c,cond_true] at e
   have e2:flat tM (cntK k l.2 i)++[AV.int IntKind.i64 (l.2.getD i tN.dflt).1,AV.int IntKind.i64 (l.2.getD i tN.dflt).2.1,AV.int IntKind.i64 (l.2.getD i tN.dflt).2.2.1.1,AV.int IntKind.i64 (l.2.getD i tN.dflt).2.2.1.2.1,AV.int IntKind.i64 ((i:Nat):Int)]=flat tM (cntK k l.2 (i+1)):=by
    rw[e,flatM_snoc];rfl
   have e3:(cntK k l.2 i).length+1=(cntK k l.2 (i+1)).length:=by rw[e,List.length_append];rfl
   rw[e2,e3,show plO (AO.cells false (flat tM (cntK k l.2 (i+1))))=true from plM _,show avbeq (AV.sl 2 0 (cntK k l.2 i).length (cntK k l.2 i).length 5) (AV.sl 2 0 (cntK k l.2 i).length (cntK k l.2 i).length 5)=true from by simp only[avbeq,Nat.beq_refl],cond_true,cond_true] at h
   exact .stop (Sy.vars_ok (Z4_ok _)) F4sy h (pnewb_ansB H r (i+1) m (by omega) (by omega) (by rw[e];simp))
  |false=>
   rw[c,cond_false,show plO (AO.cells false (flat tM (cntK k l.2 i)))=true from plM _,cond_true] at h
   rw[c,cond_false,List.append_nil] at e
   have h2:=pnewb_ansB (s:=s) (x84:=x84) (z:=z) (n:=n) H r (i+1) m (by omega) (by omega) (by rw[e];exact hne)
   rw[show cntK k l.2 (i+1)=cntK k l.2 i from e] at h2
   exact .stop (Sy.vars_ok (Z4_ok _)) F4sy h h2
theorem cntM_one {k:Int} {l:List tN.den} {i:Nat} (h:cntK k l i=[]) (c:ieq (l.getD i tN.dflt).2.1 k=true):cntK k l (i+1)=[(l.getD i tN.dflt,((i:Nat):Int),())]:=by
 rw[cnt_succ,h,c];rfl
theorem cntM_no {k:Int} {l:List tN.den} {i:Nat} (h:cntK k l i=[]) (c:ieq (l.getD i tN.dflt).2.1 k=false):cntK k l (i+1)=[]:=by
 rw[cnt_succ,h,c];rfl
theorem one_B {k:Int} {l:List tN.den} {i:Nat} (h:cntK k l i=[]) (c:ieq (l.getD i tN.dflt).2.1 k=true):(cntK k l (i+1)).length=1∧flat tM (cntK k l (i+1))=[AV.int IntKind.i64 (l.getD i tN.dflt).1,AV.int IntKind.i64 (l.getD i tN.dflt).2.1,AV.int IntKind.i64 (l.getD i tN.dflt).2.2.1.1,AV.int IntKind.i64 (l.getD i tN.dflt).2.2.1.2.1,AV.int IntKind.i64 ((i:Nat):Int)]∧cntK k l (i+1)≠[]:=by
 rw[cntM_one h c];exact⟨rfl,rfl,by simp⟩
theorem pnewb_ansA {s:tS.den} {l:(Ty.sl tN).den} {k x84:Int} {z:tF.den} {n:Nat} (H:l.2.length≤8):∀ (r i m:Nat),i+r=l.2.length→r<m→cntK k l.2 i=[]→Ans F4 (pnewbI0 s l k x84 z n i m) (tQ.pv (s,kdS s k,z,(noM (cntK k l.2 l.2.length),cntK k l.2 l.2.length),()))
 |0,i,m+1,hk,hm,he=>by
  have h:=pnewb_step0 s l k x84 z n i m
  rw[ile_t (show Int.ofNat l.2.length≤(i:Int) by show ((l.2.length:Nat):Int)≤i;omega),Bool.not_true,cond_false] at h
  have hi:i=l.2.length:=by omega
  rw[← hi,he]
  exact .doneT (Sy.vars_ok (Z4_ok _)) F4sy h (tells_q s k z [] _ Tells.nils)
 | r + 1, i, m + 1, hk, hm, he => by
  have h:=pnewb_step0 s l k x84 z n i m
  have hlt:i<l.2.length:=by omega
  rw[ile_f (show (i:Int)<Int.ofNat l.2.length by show (i:Int)<((l.2.length:Nat):Int);omega),inB_at hlt,wr_succ (show i<1048577 by omega)] at h
  simp only[Bool.not_false,cond_true,ieq_self] at h
  rw[show ((i:Nat):Int).toNat=i by simp] at h
  cases c:ieq (l.2.getD i tN.dflt).2.1 k with
  |true=>
   obtain⟨b1,b2,b3⟩:=one_B he c
   have h2:=pnewb_ansB (s:=s) (x84:=x84) (z:=z) (n:=n) H r (i+1) m (by omega) (by omega) b3
   rw[b1,b2] at h2
   rw[c,cond_true] at h
   exact .stop (Sy.vars_ok (Z4_ok _)) F4sy h h2
  |false=>
   rw[c,cond_false] at h
   exact .stop (Sy.vars_ok (Z4_ok _)) F4sy h (pnewb_ansA H r (i+1) m (by omega) (by omega) (cntM_no he c))
theorem pnewb_all {s:tS.den} {l:(Ty.sl tN).den} {k x84:Int} {z:tF.den} {n:Nat} (H:l.2.length≤8) (hn:8<n):Ans F4 (pnewI1 s l k x84 (qA s k++(tF.cells z++[AV.nils])) (n+1)) (tQ.pv (s,kdS s k,z,(noM (cntK k l.2 l.2.length),cntK k l.2 l.2.length),())):=by
 have h:=pnewb_start s l k x84 z n
 have e:pnewI1 s l k x84 (qA s k++(tF.cells z++[AV.nils])) (n+1)=_:=rfl
 cases hl:l.2.length with
 |zero=>
  rw[hl] at h
  have h:adv F4 (Z4 [77]).vars 3000 (pnewI1 s l k x84 (qA s k++(tF.cells z++[AV.nils])) (n+1))=some (.done (.cp (qA s k++(tF.cells z++[AV.nils])) 0)):=h.trans (by kernel_rfl)
  exact .doneT (Sy.vars_ok (Z4_ok _)) F4sy h (tells_q s k z [] _ Tells.nils)
 | succ r =>
  rw[← hl]
  rw[ile_f (show (0:Int)<Int.ofNat l.2.length by show (0:Int)<((l.2.length:Nat):Int);omega),show inB 0 l.2.length=true from inB_at (k:=0) (by omega)] at h
  simp only[Bool.not_false,cond_true,ieq_self] at h
  rw[show (0:Int).toNat=0 from rfl] at h
  cases c:ieq (l.2.getD 0 tN.dflt).2.1 k with
  |true=>
   obtain⟨b1,b2,b3⟩:=one_B (k:=k) (l:=l.2) (i:=0) rfl c
   have h2:=pnewb_ansB (s:=s) (x84:=x84) (z:=z) (n:=n) H r 1 n (by omega) (by omega) b3
   rw[b1,b2] at h2
   rw[c,cond_true] at h
   exact .stop (Sy.vars_ok (Z4_ok _)) F4sy h h2
  |false=>
   rw[c,cond_false] at h
   exact .stop (Sy.vars_ok (Z4_ok _)) F4sy h (pnewb_ansA H r 1 n (by omega) (by omega) (cntM_no rfl c))
theorem plQ (s:tS.den) (k:Int) (f:Nat→Int):plO (AO.cells false (qA s k++(tF.cells (mkZ f 30 0)++[AV.nils])))=true:=by kernel_rfl
theorem qz_len (s:tS.den) (k:Int) (z:tF.den):(qA s k++(tF.cells z++[AV.nils])).length=43:=by
 rw[List.length_append,List.length_append,z_len];rfl
theorem pnew_ans {s:tS.den} {l:(Ty.sl tN).den} {k:Int} (H:newB s l.2 k=true):∀ (r i m:Nat),i+r=s.2.2.1.2.length→r<m→Ans F4 (pnewI0 s l k i (qA s k++(tF.cells (mkZ (comF s k i) 30 0)++[AV.nils])) m) (tQ.pv (stkS s l.2 k))
 |0,i,m+1,hk,hm=>by
  obtain⟨_,_,h8,_⟩:=bnd1 H
  have h:=pnew_step0 s l k i (qA s k++(tF.cells (mkZ (comF s k i) 30 0)++[AV.nils])) m
  rw[ile_t (show Int.ofNat s.2.2.1.2.length≤(i:Int) by show ((s.2.2.1.2.length:Nat):Int)≤i;omega),Bool.not_true,cond_false] at h
  have hi:i=s.2.2.1.2.length:=by omega
  subst hi
  exact .stop (Sy.flat_ok (Z4_ok _)) F4sy h (pnewb_all h8 (by omega))
 | r + 1, i, m + 1, hk, hm => by
  obtain⟨_,hc8,h8,hda⟩:=bnd1 H
  have h:=pnew_step0 s l k i (qA s k++(tF.cells (mkZ (comF s k i) 30 0)++[AV.nils])) m
  have hlt:i<s.2.2.1.2.length:=by omega
  have hd:inB (s.2.2.1.2.getD i tC.dflt).1 30=true:=by
   rw[List.getD_eq_getElem?_getD,List.getElem?_eq_getElem hlt];exact hda _ (List.getElem_mem hlt)
  rw[ile_f (show (i:Int)<Int.ofNat s.2.2.1.2.length by show (i:Int)<((s.2.2.1.2.length:Nat):Int);omega),inB_at hlt,wr_succ (show i<1048577 by omega),show ((i:Nat):Int).toNat=i by simp,hd,plQ] at h
  obtain⟨e1,e2⟩:=zq_at s k (mkZ (comF s k i) 30 0) [AV.nils] hd
  have hy:(s.2.2.1.2.getD i tC.dflt).1.toNat<30:=by
   revert hd;generalize (s.2.2.1.2.getD i tC.dflt).1=y;intro hd
   cases y with
   |negSucc q=>cases hd
   |ofNat q=>exact Nat.le_of_ble_eq_true hd
  rw[show zOf 30 (mkZ (comF s k i) 30 0) (s.2.2.1.2.getD i tC.dflt).1.toNat=comF s k i (s.2.2.1.2.getD i tC.dflt).1.toNat by rw[zOf_mk (comF s k i) 30 0 _ hy,Nat.zero_add]] at e2
  have h2:=pnew_ans H r (i+1) m (by omega) (by omega)
  cases c:ieq (s.2.2.1.2.getD i tC.dflt).2.1 k with
  | false =>
   have e:comF s k (i+1)=comF s k i:=by
    funext y;show (bif ieq (s.2.2.1.2.getD i tC.dflt).2.1 k&&_ then _ else _)=_
    rw[c];rfl
   rw[e] at h2
   rw[c,Bool.not_false,cond_true,cond_true,cond_false,cond_true] at h
   exact .stop (Sy.flat_ok (Z4_ok _)) F4sy h h2
  | true =>
   have es:=zq_set s k [AV.nils] (f:=comF s k i) (g:=comF s k (i+1)) (y:=(s.2.2.1.2.getD i tC.dflt).1) (v:=wr .i64 (comF s k i (s.2.2.1.2.getD i tC.dflt).1.toNat+(s.2.2.1.2.getD i tC.dflt).2.2.1)) hd
    (by show (bif ieq (s.2.2.1.2.getD i tC.dflt).2.1 k&&Nat.beq _ _ then _ else _)=_;rw[c,Nat.beq_refl];rfl)
    (fun y hy => by
     show (bif ieq (s.2.2.1.2.getD i tC.dflt).2.1 k&&Nat.beq y (s.2.2.1.2.getD i tC.dflt).1.toNat then _ else _)=_
     rw[show Nat.beq y (s.2.2.1.2.getD i tC.dflt).1.toNat=false from by
      cases q:Nat.beq y (s.2.2.1.2.getD i tC.dflt).1.toNat with
      |false=>rfl
      |true=>exact absurd (Nat.eq_of_beq_eq_true q) hy,Bool.and_false];rfl)
   have hb:∀ v:Int,(0+12+(s.2.2.1.2.getD i tC.dflt).1.toNat * 1+(AV.int .i64 v).cells.length).ble (qA s k++(tF.cells (mkZ (comF s k i) 30 0)++[AV.nils])).length=true:=fun v=>by
    rw[qz_len];exact Nat.ble_eq_true_of_le (by show 0+12+_ * 1+1≤43;omega)
   rw[c,e1,e2,es,plQ] at h
   simp only[Bool.not_false,cond_true,ieq_self,hb] at h
   exact .stop (Sy.flat_ok (Z4_ok _)) F4sy h h2
theorem pnew_call (s:tS.den) (l:(Ty.sl tN).den) (k:Int) (H:newB s l.2 k=true):AnsF F4 77 [tS.av s,(Ty.sl tN).av l,tI.av k] (tQ.pv (stkS s l.2 k)):=by
 refine Ans.call (n:=40) (ext_none (by kernel_rfl)) (hasB_spec (by kernel_rfl)) ?_
 obtain⟨hk,hc8,h8,hda⟩:=bnd1 H
 have h:=pnew_start s l k
 simp only[hk,bbeq_self,vsB_self,cond_true] at h
 exact .stop (Sy.flat_ok (Z4_ok _)) F4sy h (pnew_ans H s.2.2.1.2.length 0 1048575 (by omega) (by omega))
noncomputable def LG:List Said:=[(77,con3 tS (.sl tN) tI (fun s l k=>newB s l.2 k) (fun s l k=>tQ.pv (stkS s l.2 k)))]
theorem LG_ok:∀ e∈LG,SaidG Tryz.prog F6.glob e:=
 saids_cons (SaidOK.g f4 xf4 nf4 tabs_ok.mix (fun _ _ h=>con3_spec (t:=tS) (u:=.sl tN) (w:=tI) (fun s l k h=>pnew_call s l k h) h) rfl) saids_nil
noncomputable def F7:Env:=F6.say (under (xOf LG))
theorem f7:EnvOK Tryz.prog F7:=f6.say _
theorem nf7:NameOK F7:=nf6.say _
theorem xf7:ExtOK Tryz.prog F7:=xf6.sayL LG_ok
theorem F7sy:F7.sy=true:=rfl
noncomputable def Z7 (l:List Nat):Sy:=(Z6 []).on LG l
theorem Z7_ok (l:List Nat):(Z7 l).ok F7:=Sy.on_ok (Z6_ok _)
end Go.Proofs.YtelibdeanepdjaaGreat


set_option maxRecDepth 100000
namespace Go.Proofs.YtelibdeanepdjaaGreat
open Go Go.Eng
noncomputable def rdayg0 (s:tS.den) (k:Int) (t:tT.den) (y:Int) (b:Int) (q:Bool):List (Nat×AV):=[(0,(.agg [(.vs tI (s.1.1) (s.1.2)),(.vs tK (s.2.1.1) (s.2.1.2)),(.vs tC (s.2.2.1.1) (s.2.2.1.2))])),(1,(.int .i64 (k))),(2,(.agg [(.int .i64 (t.1)),(.int .i64 (t.2.1)),(.int .i64 (t.2.2.1))])),(3,(.int .i64 (y))),(4,(.int .i64 (b))),(5,(.bool (q))),(6,(.ptr 0 0)),(8,(.ptr 1 0)),(12,(.int .i64 (0))),(13,(.int .i64 (0))),(14,(.int .i64 (0))),(15,(.bool (false)))]
noncomputable def rdayI0 (s:tS.den) (k:Int) (t:tT.den) (y b:Int) (q:Bool) (x17:Int) (x18:Int) (x47:Nat):Cfg:=⟨.ex (pcOf F7 81 [0,0,1,0,1,1]) ⟨(tmOf 106 (rdayg0 s k t y b q++[(16,(.int .i64 x17)),(17,(.int .i64 x18))])),(hpOf 2 [(0,(.cells false [(.vs tI (s.1.1) (s.1.2)),(.vs tK (s.2.1.1) (s.2.1.2)),(.vs tC (s.2.2.1.1) (s.2.2.1.2))])),(1,(.cells false [(.int .i64 (t.1)),(.int .i64 (t.2.1)),(.int .i64 (t.2.2.1))]))]),[],[],106,false⟩,⟨40,[]⟩,[(.lop (pcOf F7 81 [0,0,1,0,1,1]) 2 (tmOf 106 (rdayg0 s k t y b q++[(16,(.int .i64 (0))),(17,(.int .i64 (0)))])) x47),(.blk 0),(.seq (pcOf F7 81 [1,1,1])),(.cal [(.tmp 12),(.tmp 13),(.tmp 14),(.tmp 15)] .top)]⟩
theorem rday_start (s:tS.den) (k:Int) (t:tT.den) (y b:Int) (q:Bool):adv F7 (Z7 [81]) 3000 (startC F7 81 [tS.av s,.int .i64 k,tT.av t,.int .i64 y,.int .i64 b,.bool q] 40)=some (.stop (rdayI0 s k t y b q (0) (0) (1048575))):=by kernel_rfl
theorem rday_step0 (s:tS.den) (k:Int) (t:tT.den) (y b:Int) (q:Bool) (x17:Int) (x18:Int) (x47:Nat):adv F7 (Z7 [81]) 3000 (rdayI0 s k t y b q x17 x18 (x47+1))=(bif !ile (↑s.2.2.1.2.length) x18 then (bif inB x18 s.2.2.1.2.length then (bif ieq (s.2.2.1.2.getD x18.toNat tC.dflt).1 y then (bif inB x18 s.2.2.1.2.length then (bif ieq (s.2.2.1.2.getD x18.toNat tC.dflt).2.1 k then (bif inB x18 s.2.2.1.2.length then some (.stop (rdayI0 s k t y b q (wr .i64 (x17+(s.2.2.1.2.getD x18.toNat tC.dflt).2.2.1)) (wr .i64 (x18+1)) (x47))) else none) else some (.stop (rdayI0 s k t y b q (x17) (wr .i64 (x18+1)) (x47)))) else none) else some (.stop (rdayI0 s k t y b q (x17) (wr .i64 (x18+1)) (x47)))) else none) else (bif inB k s.2.1.2.length then (bif inB y s.1.2.length then (bif q then (bif inB k s.2.1.2.length then (bif !ile (wr .i64 (wr .i64 ((wr .i64 (wr .i64 (wr .i64 (wr .i64 (s.1.2.getD y.toNat tI.dflt * t.2.1) * (s.2.1.2.getD k.toNat tK.dflt).2.2.2.2.2.1)+1000)-1)).tdiv 1000)+t.2.2.1)) (wr .i64 (wr .i64 (b+x17)-bif ile (bif ile x17 (wr .i64 (wr .i64 (b+x17)-(s.2.1.2.getD k.toNat tK.dflt).2.2.2.2.1)) then x17 else wr .i64 (wr .i64 (b+x17)-(s.2.1.2.getD k.toNat tK.dflt).2.2.2.2.1)) 0 then 0 else bif ile x17 (wr .i64 (wr .i64 (b+x17)-(s.2.1.2.getD k.toNat tK.dflt).2.2.2.2.1)) then x17 else wr .i64 (wr .i64 (b+x17)-(s.2.1.2.getD k.toNat tK.dflt).2.2.2.2.1))) then some (.done (.tup [(.int .i64 (0)),(.int .i64 (bif ile (bif ile x17 (wr .i64 (wr .i64 (b+x17)-(s.2.1.2.getD k.toNat tK.dflt).2.2.2.2.1)) then x17 else wr .i64 (wr .i64 (b+x17)-(s.2.1.2.getD k.toNat tK.dflt).2.2.2.2.1)) 0 then 0 else bif ile x17 (wr .i64 (wr .i64 (b+x17)-(s.2.1.2.getD k.toNat tK.dflt).2.2.2.2.1)) then x17 else wr .i64 (wr .i64 (b+x17)-(s.2.1.2.getD k.toNat tK.dflt).2.2.2.2.1))),(.int .i64 (wr .i64 (wr .i64 (b+x17)-bif ile (bif ile x17 (wr .i64 (wr .i64 (b+x17)-(s.2.1.2.getD k.toNat tK.dflt).2.2.2.2.1)) then x17 else wr .i64 (wr .i64 (b+x17)-(s.2.1.2.getD k.toNat tK.dflt).2.2.2.2.1)) 0 then 0 else bif ile x17 (wr .i64 (wr .i64 (b+x17)-(s.2.1.2.getD k.toNat tK.dflt).2.2.2.2.1)) then x17 else wr .i64 (wr .i64 (b+x17)-(s.2.1.2.getD k.toNat tK.dflt).2.2.2.2.1)))),(.bool (true))])) else some (.done (.tup [(.int .i64 (wr .i64 (wr .i64 (wr .i64 (b+x17)-bif ile (bif ile x17 (wr .i64 (wr .i64 (b+x17)-(s.2.1.2.getD k.toNat tK.dflt).2.2.2.2.1)) then x17 else wr .i64 (wr .i64 (b+x17)-(s.2.1.2.getD k.toNat tK.dflt).2.2.2.2.1)) 0 then 0 else bif ile x17 (wr .i64 (wr .i64 (b+x17)-(s.2.1.2.getD k.toNat tK.dflt).2.2.2.2.1)) then x17 else wr .i64 (wr .i64 (b+x17)-(s.2.1.2.getD k.toNat tK.dflt).2.2.2.2.1))-wr .i64 (wr .i64 ((wr .i64 (wr .i64 (wr .i64 (wr .i64 (s.1.2.getD y.toNat tI.dflt * t.2.1) * (s.2.1.2.getD k.toNat tK.dflt).2.2.2.2.2.1)+1000)-1)).tdiv 1000)+t.2.2.1)))),(.int .i64 (bif ile (bif ile x17 (wr .i64 (wr .i64 (b+x17)-(s.2.1.2.getD k.toNat tK.dflt).2.2.2.2.1)) then x17 else wr .i64 (wr .i64 (b+x17)-(s.2.1.2.getD k.toNat tK.dflt).2.2.2.2.1)) 0 then 0 else bif ile x17 (wr .i64 (wr .i64 (b+x17)-(s.2.1.2.getD k.toNat tK.dflt).2.2.2.2.1)) then x17 else wr .i64 (wr .i64 (b+x17)-(s.2.1.2.getD k.toNat tK.dflt).2.2.2.2.1))),(.int .i64 (wr .i64 (wr .i64 ((wr .i64 (wr .i64 (wr .i64 (wr .i64 (s.1.2.getD y.toNat tI.dflt * t.2.1) * (s.2.1.2.getD k.toNat tK.dflt).2.2.2.2.2.1)+1000)-1)).tdiv 1000)+t.2.2.1))),(.bool (false))]))) else none) else (bif !ile (wr .i64 (wr .i64 (s.1.2.getD y.toNat tI.dflt * t.2.1)+t.2.2.1)) (wr .i64 (wr .i64 (b+x17)-bif ile (bif ile x17 (wr .i64 (wr .i64 (b+x17)-(s.2.1.2.getD k.toNat tK.dflt).2.2.2.2.1)) then x17 else wr .i64 (wr .i64 (b+x17)-(s.2.1.2.getD k.toNat tK.dflt).2.2.2.2.1)) 0 then 0 else bif ile x17 (wr .i64 (wr .i64 (b+x17)-(s.2.1.2.getD k.toNat tK.dflt).2.2.2.2.1)) then x17 else wr .i64 (wr .i64 (b+x17)-(s.2.1.2.getD k.toNat tK.dflt).2.2.2.2.1))) then some (.done (.tup [(.int .i64 (0)),(.int .i64 (bif ile (bif ile x17 (wr .i64 (wr .i64 (b+x17)-(s.2.1.2.getD k.toNat tK.dflt).2.2.2.2.1)) then x17 else wr .i64 (wr .i64 (b+x17)-(s.2.1.2.getD k.toNat tK.dflt).2.2.2.2.1)) 0 then 0 else bif ile x17 (wr .i64 (wr .i64 (b+x17)-(s.2.1.2.getD k.toNat tK.dflt).2.2.2.2.1)) then x17 else wr .i64 (wr .i64 (b+x17)-(s.2.1.2.getD k.toNat tK.dflt).2.2.2.2.1))),(.int .i64 (wr .i64 (wr .i64 (b+x17)-bif ile (bif ile x17 (wr .i64 (wr .i64 (b+x17)-(s.2.1.2.getD k.toNat tK.dflt).2.2.2.2.1)) then x17 else wr .i64 (wr .i64 (b+x17)-(s.2.1.2.getD k.toNat tK.dflt).2.2.2.2.1)) 0 then 0 else bif ile x17 (wr .i64 (wr .i64 (b+x17)-(s.2.1.2.getD k.toNat tK.dflt).2.2.2.2.1)) then x17 else wr .i64 (wr .i64 (b+x17)-(s.2.1.2.getD k.toNat tK.dflt).2.2.2.2.1)))),(.bool (true))])) else some (.done (.tup [(.int .i64 (wr .i64 (wr .i64 (wr .i64 (b+x17)-bif ile (bif ile x17 (wr .i64 (wr .i64 (b+x17)-(s.2.1.2.getD k.toNat tK.dflt).2.2.2.2.1)) then x17 else wr .i64 (wr .i64 (b+x17)-(s.2.1.2.getD k.toNat tK.dflt).2.2.2.2.1)) 0 then 0 else bif ile x17 (wr .i64 (wr .i64 (b+x17)-(s.2.1.2.getD k.toNat tK.dflt).2.2.2.2.1)) then x17 else wr .i64 (wr .i64 (b+x17)-(s.2.1.2.getD k.toNat tK.dflt).2.2.2.2.1))-wr .i64 (wr .i64 (s.1.2.getD y.toNat tI.dflt * t.2.1)+t.2.2.1)))),(.int .i64 (bif ile (bif ile x17 (wr .i64 (wr .i64 (b+x17)-(s.2.1.2.getD k.toNat tK.dflt).2.2.2.2.1)) then x17 else wr .i64 (wr .i64 (b+x17)-(s.2.1.2.getD k.toNat tK.dflt).2.2.2.2.1)) 0 then 0 else bif ile x17 (wr .i64 (wr .i64 (b+x17)-(s.2.1.2.getD k.toNat tK.dflt).2.2.2.2.1)) then x17 else wr .i64 (wr .i64 (b+x17)-(s.2.1.2.getD k.toNat tK.dflt).2.2.2.2.1))),(.int .i64 (wr .i64 (wr .i64 (s.1.2.getD y.toNat tI.dflt * t.2.1)+t.2.2.1))),(.bool (false))])))) else none) else none)):=by kernel_rfl
noncomputable def dcaS (s:tS.den) (k y:Int):Nat→Int
 |0=>0
 |i+1=>bif ieq (s.2.2.1.2.getD i tC.dflt).1 y&&ieq (s.2.2.1.2.getD i tC.dflt).2.1 k then wr .i64 (dcaS s k y i+(s.2.2.1.2.getD i tC.dflt).2.2.1) else dcaS s k y i
noncomputable def lefS (s:tS.den) (k b c:Int):Int:=bif ile (minS c (wr .i64 (wr .i64 (b+c)-(s.2.1.2.getD k.toNat tK.dflt).2.2.2.2.1))) 0 then 0 else minS c (wr .i64 (wr .i64 (b+c)-(s.2.1.2.getD k.toNat tK.dflt).2.2.2.2.1))
noncomputable def rusS (s:tS.den) (k:Int) (t:tT.den) (y:Int) (q:Bool):Int:=wr .i64 ((bif q then wr .i64 ((wr .i64 (wr .i64 (wr .i64 (wr .i64 (s.1.2.getD y.toNat tI.dflt * t.2.1) * (s.2.1.2.getD k.toNat tK.dflt).2.2.2.2.2.1)+1000)-1)).tdiv 1000) else wr .i64 (s.1.2.getD y.toNat tI.dflt * t.2.1))+t.2.2.1)
noncomputable def theS (s:tS.den) (k b c:Int):Int:=wr .i64 (wr .i64 (b+c)-lefS s k b c)
noncomputable def dayS (s:tS.den) (k:Int) (t:tT.den) (y b:Int) (q:Bool) (c:Int):AV:=
 .tup [.int .i64 (bif !ile (rusS s k t y q) (theS s k b c) then 0 else wr .i64 (theS s k b c-rusS s k t y q)),.int .i64 (lefS s k b c),.int .i64 (bif !ile (rusS s k t y q) (theS s k b c) then theS s k b c else rusS s k t y q),.bool (!ile (rusS s k t y q) (theS s k b c))]
noncomputable def dayB (s:tS.den) (k y:Int):Bool:=inB k s.2.1.2.length&&(inB y s.1.2.length&&Nat.ble s.2.2.1.2.length 8)
theorem dayT (U T L:Int):(bif !ile U T then some (Out.done (.tup [.int .i64 0,.int .i64 L,.int .i64 T,.bool true])) else some (.done (.tup [.int .i64 (wr .i64 (T-U)),.int .i64 L,.int .i64 U,.bool false])))=some (.done (.tup [.int .i64 (bif !ile U T then 0 else wr .i64 (T-U)),.int .i64 L,.int .i64 (bif !ile U T then T else U),.bool (!ile U T)])):=by cases ile U T<;>rfl
theorem rday_ans {s:tS.den} {k:Int} {t:tT.den} {y b:Int} {q:Bool} (h1:inB k s.2.1.2.length=true) (h2:inB y s.1.2.length=true) (h8:s.2.2.1.2.length≤8):∀ (r i m:Nat),i+r=s.2.2.1.2.length→r<m→Ans F7 (rdayI0 s k t y b q (dcaS s k y i) i m) (dayS s k t y b q (dcaS s k y s.2.2.1.2.length))
 | 0, i, m + 1, hk, hm => by
  have h:=rday_step0 s k t y b q (dcaS s k y i) i m
  rw[ile_t (show ((s.2.2.1.2.length:Nat):Int)≤(i:Int) by omega),Bool.not_true,cond_false,h1,h2] at h
  have hi:i=s.2.2.1.2.length:=by omega
  subst hi
  rw[cond_true,cond_true] at h
  cases q with
  |true=>
   rw[cond_true,cond_true] at h
   exact .done (Z7_ok _) F7sy (h.trans (dayT (rusS s k t y true) (theS s k b (dcaS s k y s.2.2.1.2.length)) (lefS s k b (dcaS s k y s.2.2.1.2.length)))) rfl
  |false=>
   rw[cond_false] at h
   exact .done (Z7_ok _) F7sy (h.trans (dayT (rusS s k t y false) (theS s k b (dcaS s k y s.2.2.1.2.length)) (lefS s k b (dcaS s k y s.2.2.1.2.length)))) rfl
 |r+1,i,m+1,hk,hm=>by
  have h:=rday_step0 s k t y b q (dcaS s k y i) i m
  have hlt:i<s.2.2.1.2.length:=by omega
  rw[ile_f (show (i:Int)<((s.2.2.1.2.length:Nat):Int) by omega),inB_at hlt,wr_succ (show i<1048577 by omega),show ((i:Nat):Int).toNat=i by simp] at h
  have h3:=rday_ans (t:=t) (b:=b) (q:=q) h1 h2 h8 r (i+1) m (by omega) (by omega)
  have e:dcaS s k y (i+1)=bif ieq (s.2.2.1.2.getD i tC.dflt).1 y&&ieq (s.2.2.1.2.getD i tC.dflt).2.1 k then wr .i64 (dcaS s k y i+(s.2.2.1.2.getD i tC.dflt).2.2.1) else dcaS s k y i:=rfl
  rw[e] at h3
  cases c1:ieq (s.2.2.1.2.getD i tC.dflt).1 y<;>cases c2:ieq (s.2.2.1.2.getD i tC.dflt).2.1 k<;>rw[c1] at h h3<;>(try rw[c2] at h)<;>rw[c2] at h3<;>exact .stop (Z7_ok _) F7sy h h3
theorem rday_call (s:tS.den) (k:Int) (t:tT.den) (y b:Int) (q:Bool) (h:dayB s k y=true):AnsF F7 81 [tS.av s,tI.av k,tT.av t,tI.av y,tI.av b,Ty.bool.av q] (dayS s k t y b q (dcaS s k y s.2.2.1.2.length)):=by
 refine Ans.call (n:=40) (ext_none (by kernel_rfl)) (hasB_spec (by kernel_rfl)) ?_
 unfold dayB at h
 simp only[Bool.and_eq_true] at h
 obtain⟨h1,h2,h3⟩:=h
 have h8:=Nat.le_of_ble_eq_true h3
 exact .stop (Z7_ok _) F7sy (rday_start s k t y b q) (rday_ans h1 h2 h8 s.2.2.1.2.length 0 1048575 (by omega) (by omega))
noncomputable def LH:List Said:=[(81,con6 tS tI tT tI tI .bool (fun s k _ y _ _=>dayB s k y) (fun s k t y b q=>dayS s k t y b q (dcaS s k y s.2.2.1.2.length)))]
theorem LH_ok:∀ e∈LH,SaidG Tryz.prog F7.glob e:=
 saids_cons (SaidOK.g f7 xf7 nf7 tabs_ok.mix (fun _ _ h=>con6_spec (t:=tS) (u:=tI) (w:=tT) (q:=tI) (o:=tI) (p:=.bool) (fun s k t y b q h=>rday_call s k t y b q h) h) rfl) saids_nil
noncomputable def F8:Env:=F7.say (under (xOf LH))
theorem f8:EnvOK Tryz.prog F8:=f7.say _
theorem nf8:NameOK F8:=nf7.say _
theorem xf8:ExtOK Tryz.prog F8:=xf7.sayL LH_ok
theorem F8sy:F8.sy=true:=rfl
noncomputable def Z8 (l:List Nat):Sy:=(Z7 []).on LH l
theorem Z8_ok (l:List Nat):(Z8 l).ok F8:=Sy.on_ok (Z7_ok _)
end Go.Proofs.YtelibdeanepdjaaGreat


set_option maxRecDepth 100000
namespace Go.Proofs.YtelibdeanepdjaaGreat
open Go Go.Eng
noncomputable def rrung0 (s:tS.den) (k:Int) (t:tT.den) (n:Int):List (Nat×AV):=[(0,(.agg [(.vs tI (s.1.1) (s.1.2)),(.vs tK (s.2.1.1) (s.2.1.2)),(.vs tC (s.2.2.1.1) (s.2.2.1.2))])),(1,(.int .i64 (k))),(2,(.agg [(.int .i64 (t.1)),(.int .i64 (t.2.1)),(.int .i64 (t.2.2.1))])),(3,(.int .i64 (n))),(4,(.ptr 0 0)),(6,(.ptr 1 0)),(8,.nils),(9,(.int .i64 (0))),(17,(.ptr 1 0)),(18,(.int .i64 (t.1))),(19,(.sl 2 0 (1) (1) 1)),(20,(.ptr 0 0)),(21,(.vs tI (s.1.1) (s.1.2))),(22,(.int .i64 (Int.ofNat s.1.2.length)))]
noncomputable def rrung2 (s:tS.den):List (Nat×AV):=[(10,(.sl 2 0 (1) (1) 1)),(11,(.int .i64 (Int.ofNat s.1.2.length))),(12,(.int .i64 (0)))]
noncomputable def rrung1 (s:tS.den) (t:tT.den):List (Nat×AO):=[(0,(.cells false [(.vs tI (s.1.1) (s.1.2)),(.vs tK (s.2.1.1) (s.2.1.2)),(.vs tC (s.2.2.1.1) (s.2.2.1.2))])),(1,(.cells false [(.int .i64 (t.1)),(.int .i64 (t.2.1)),(.int .i64 (t.2.2.1))]))]
noncomputable def rrunI0 (s:tS.den) (k:Int) (t:tT.den) (n:Int) (x54:Nat):Cfg:=⟨.ex (pcOf F8 38 [0,0,1,0,1,1]) ⟨(tmOf 62 (rrung0 s k t n++rrung2 s)),(hpOf 3 (rrung1 s t++[(2,(.cells false ([AV.int IntKind.i64 t.1])))])),[],[],62,false⟩,⟨40,[]⟩,[(.lop (pcOf F8 38 [0,0,1,0,1,1]) 3 (tmOf 62 (rrung0 s k t n++rrung2 s)) x54),(.blk 0),(.seq (pcOf F8 38 [1,1,1])),(.cal [(.tmp 8),(.tmp 9)] .top)]⟩
noncomputable def rrunI1 (s:tS.den) (k:Int) (t:tT.den) (n:Int) (x12:Nat) (x14:Int) (x15:Int) (x31:List AV) (x54:Nat):Cfg:=⟨.ex (pcOf F8 38 [0,0,1,0,1,1]) ⟨(tmOf 62 (rrung0 s k t n++[(10,(.sl 3 0 x12 x12 1)),(11,(.int .i64 x14)),(12,(.int .i64 x15))])),(hpOf 4 (rrung1 s t++[(2,.gone),(3,(.cells false x31))])),[],[],62,false⟩,⟨40,[]⟩,[(.lop (pcOf F8 38 [0,0,1,0,1,1]) 3 (tmOf 62 (rrung0 s k t n++rrung2 s)) x54),(.blk 0),(.seq (pcOf F8 38 [1,1,1])),(.cal [(.tmp 8),(.tmp 9)] .top)]⟩
theorem rrun_start (s:tS.den) (k:Int) (t:tT.den) (n:Int):adv F8 (Z8 [38]) 3000 (startC F8 38 [tS.av s,.int .i64 k,tT.av t,.int .i64 n] 40)=(bif bbeq s.1.1 s.1.1 then (bif vsB tI s.1.2 tI s.1.2 then (bif ieq t.1 t.1 then some (.stop (rrunI0 s k t n (1048575))) else none) else none) else none):=by kernel_rfl
theorem rrun_step0 (s:tS.den) (k:Int) (t:tT.den) (n:Int) (x54:Nat):adv F8 (Z8 [38]) 3000 (rrunI0 s k t n (x54+1))=(bif !ile (↑s.1.2.length) 0 then (bif dayB s k 0 then (bif ieq t.1 t.1 then (bif ieq t.1 t.1 then (bif ieq t.2.1 t.2.1 then (bif ieq t.2.2.1 t.2.2.1 then (bif bbeq s.1.1 s.1.1 then (bif vsB tI s.1.2 tI s.1.2 then (bif bbeq s.2.1.1 s.2.1.1 then (bif vsB tK s.2.1.2 tK s.2.1.2 then (bif bbeq s.2.2.1.1 s.2.2.1.1 then (bif vsB tC s.2.2.1.2 tC s.2.2.1.2 then (bif !ile (rusS s k t 0 (ile n 0)) (theS s k t.1 (dcaS s k 0 s.2.2.1.2.length)) then (bif ieq (Int.ofNat s.1.2.length) ↑s.1.2.length then some (.stop (rrunI1 s k t n (2) (0) (1) ([AV.int IntKind.i64 t.1,AV.int IntKind.i64 (bif !ile (rusS s k t 0 (ile n 0)) (theS s k t.1 (dcaS s k 0 s.2.2.1.2.length)) then 0 else wr .i64 (theS s k t.1 (dcaS s k 0 s.2.2.1.2.length)-rusS s k t 0 (ile n 0)))]) (x54))) else some (.stop (rrunI1 s k t n (2) (Int.ofNat s.1.2.length) (1) ([AV.int IntKind.i64 t.1,AV.int IntKind.i64 (bif !ile (rusS s k t 0 (ile n 0)) (theS s k t.1 (dcaS s k 0 s.2.2.1.2.length)) then 0 else wr .i64 (theS s k t.1 (dcaS s k 0 s.2.2.1.2.length)-rusS s k t 0 (ile n 0)))]) (x54)))) else some (.stop (rrunI1 s k t n (2) (Int.ofNat s.1.2.length) (1) ([AV.int IntKind.i64 t.1,AV.int IntKind.i64 (bif !ile (rusS s k t 0 (ile n 0)) (theS s k t.1 (dcaS s k 0 s.2.2.1.2.length)) then 0 else wr .i64 (theS s k t.1 (dcaS s k 0 s.2.2.1.2.length)-rusS s k t 0 (ile n 0)))]) (x54)))) else none) else none) else none) else none) else none) else none) else none) else none) else none) else none) else none) else some (.done (.tup [(.csl [(.int .i64 (t.1))] 1),(.int .i64 (Int.ofNat s.1.2.length))]))):=by kernel_rfl
theorem rrun_step1 (s:tS.den) (k:Int) (t:tT.den) (n:Int) (x12:Nat) (x14:Int) (x15:Int) (x31:List AV) (x54:Nat):adv F8 (Z8 [38]) 3000 (rrunI1 s k t n x12 x14 x15 x31 (x54+1))=(bif !ile (↑s.1.2.length) x15 then (bif inB x15 x12 then (bif isZs x31 [AV.int IntKind.i64 0] (0+x15.toNat * 1) then (bif dayB s k x15 then (bif isZs x31 [AV.int IntKind.i64 0] (0+x15.toNat * 1) then (bif ieq (toI (x31.getD (0+x15.toNat * 1) AV.nili)) (toI (x31.getD (0+x15.toNat * 1) AV.nili)) then (bif ieq t.1 t.1 then (bif ieq t.2.1 t.2.1 then (bif ieq t.2.2.1 t.2.2.1 then (bif bbeq s.1.1 s.1.1 then (bif vsB tI s.1.2 tI s.1.2 then (bif bbeq s.2.1.1 s.2.1.1 then (bif vsB tK s.2.1.2 tK s.2.1.2 then (bif bbeq s.2.2.1.1 s.2.2.1.1 then (bif vsB tC s.2.2.1.2 tC s.2.2.1.2 then (bif !ile (rusS s k t x15 (ile n x15)) (theS s k (toI (x31.getD (0+x15.toNat * 1) AV.nili)) (dcaS s k x15 s.2.2.1.2.length)) then (bif ieq x14 ↑s.1.2.length then (bif (0+x12 * 1).beq x31.length then (bif x12.ble 1048576 then (bif plO (AO.cells false (x31++[AV.int IntKind.i64 (bif !ile (rusS s k t x15 (ile n x15)) (theS s k (toI (x31.getD (0+x15.toNat * 1) AV.nili)) (dcaS s k x15 s.2.2.1.2.length)) then 0 else wr .i64 (theS s k (toI (x31.getD (0+x15.toNat * 1) AV.nili)) (dcaS s k x15 s.2.2.1.2.length)-rusS s k t x15 (ile n x15)))])) then some (.stop (rrunI1 s k t n (x12+1) (x15) (wr .i64 (x15+1)) (x31++[AV.int IntKind.i64 (bif !ile (rusS s k t x15 (ile n x15)) (theS s k (toI (x31.getD (0+x15.toNat * 1) AV.nili)) (dcaS s k x15 s.2.2.1.2.length)) then 0 else wr .i64 (theS s k (toI (x31.getD (0+x15.toNat * 1) AV.nili)) (dcaS s k x15 s.2.2.1.2.length)-rusS s k t x15 (ile n x15)))]) (x54))) else none) else none) else none) else (bif (0+x12 * 1).beq x31.length then (bif x12.ble 1048576 then (bif plO (AO.cells false (x31++[AV.int IntKind.i64 (bif !ile (rusS s k t x15 (ile n x15)) (theS s k (toI (x31.getD (0+x15.toNat * 1) AV.nili)) (dcaS s k x15 s.2.2.1.2.length)) then 0 else wr .i64 (theS s k (toI (x31.getD (0+x15.toNat * 1) AV.nili)) (dcaS s k x15 s.2.2.1.2.length)-rusS s k t x15 (ile n x15)))])) then some (.stop (rrunI1 s k t n (x12+1) (x14) (wr .i64 (x15+1)) (x31++[AV.int IntKind.i64 (bif !ile (rusS s k t x15 (ile n x15)) (theS s k (toI (x31.getD (0+x15.toNat * 1) AV.nili)) (dcaS s k x15 s.2.2.1.2.length)) then 0 else wr .i64 (theS s k (toI (x31.getD (0+x15.toNat * 1) AV.nili)) (dcaS s k x15 s.2.2.1.2.length)-rusS s k t x15 (ile n x15)))]) (x54))) else none) else none) else none)) else (bif (0+x12 * 1).beq x31.length then (bif x12.ble 1048576 then (bif plO (AO.cells false (x31++[AV.int IntKind.i64 (bif !ile (rusS s k t x15 (ile n x15)) (theS s k (toI (x31.getD (0+x15.toNat * 1) AV.nili)) (dcaS s k x15 s.2.2.1.2.length)) then 0 else wr .i64 (theS s k (toI (x31.getD (0+x15.toNat * 1) AV.nili)) (dcaS s k x15 s.2.2.1.2.length)-rusS s k t x15 (ile n x15)))])) then some (.stop (rrunI1 s k t n (x12+1) (x14) (wr .i64 (x15+1)) (x31++[AV.int IntKind.i64 (bif !ile (rusS s k t x15 (ile n x15)) (theS s k (toI (x31.getD (0+x15.toNat * 1) AV.nili)) (dcaS s k x15 s.2.2.1.2.length)) then 0 else wr .i64 (theS s k (toI (x31.getD (0+x15.toNat * 1) AV.nili)) (dcaS s k x15 s.2.2.1.2.length)-rusS s k t x15 (ile n x15)))]) (x54))) else none) else none) else none)) else none) else none) else none) else none) else none) else none) else none) else none) else none) else none) else none) else none) else none) else none) else (bif plainL x31 then some (.done (.tup [(.csl (x31) (x12)),(.int .i64 (x14))])) else none)):=by kernel_rfl
theorem Tells.tupL {a b:List AV} (h:TellsL a b):Tells (.tup a) (.tup b):=fun V R x=>by
 cases x with
 |tup _ A ha hav=>
  have k:=h V A ⟨ha,hav⟩
  exact .tup _ _ k.1 k.2
theorem flatI_len (l:List Int):(flat tI l).length=l.length:=by
 induction l with
 |nil=>rfl
 |cons a l ih=>show (AV.int .i64 a::flat tI l).length=_;rw[List.length_cons,ih];rfl
theorem flatI_plain (l:List Int):plainL (flat tI l)=true:=by
 induction l with
 |nil=>rfl
 |cons a l ih=>exact ih
theorem flatI_add (l:List Int) (x:Int):flat tI l++[.int .i64 x]=flat tI (l++[x]):=by
 unfold flat;rw[List.flatMap_append];rfl
theorem flatI_get:∀ (l:List Int) (j:Nat) (h:j<l.length),(flat tI l)[j]?=some (AV.int .i64 l[j])
 |a::l,0,_=>rfl
 |a::l,j+1,h=>by
  show (AV.int .i64 a::flat tI l)[j+1]?=_
  rw[List.getElem?_cons_succ,flatI_get l j (by simpa using h)];rfl
theorem flatI_at (l:List Int) {i:Nat} (h:i<l.length):isZs (flat tI l) [.int .i64 0] (0+(i:Int).toNat * 1)=true∧toI ((flat tI l).getD (0+(i:Int).toNat * 1) .nili)=l[i]:=by
 rw[show 0+(i:Int).toNat * 1=i by simp]
 have e:(flat tI l).getD i AV.nili=AV.int .i64 l[i]:=by
  rw[List.getD_eq_getElem?_getD,flatI_get l i h];rfl
 refine⟨?_,by rw[e];rfl⟩
 show (Nat.ble (i+1) (flat tI l).length&&(isZ (AV.int .i64 0) ((flat tI l).getD i AV.nili)&&true))=true
 rw[e,flatI_len,Nat.ble_eq_true_of_le h];rfl
noncomputable def rmF (s:tS.den) (k:Int) (t:tT.den) (n:Int):Nat→Int
 |0=>t.1
 |i+1=>bif !ile (rusS s k t i (ile n i)) (theS s k (rmF s k t n i) (dcaS s k i s.2.2.1.2.length)) then 0 else wr .i64 (theS s k (rmF s k t n i) (dcaS s k i s.2.2.1.2.length)-rusS s k t i (ile n i))
noncomputable def rsF (s:tS.den) (k:Int) (t:tT.den) (n:Int):Nat→Int
 |0=>s.1.2.length
 |i+1=>bif !ile (rusS s k t i (ile n i)) (theS s k (rmF s k t n i) (dcaS s k i s.2.2.1.2.length)) then (bif ieq (rsF s k t n i) s.1.2.length then i else rsF s k t n i) else rsF s k t n i
noncomputable def rmL (s:tS.den) (k:Int) (t:tT.den) (n:Int) (i:Nat):List Int:=(List.range i).map (rmF s k t n)
theorem rmL_len (s:tS.den) (k:Int) (t:tT.den) (n:Int) (i:Nat):(rmL s k t n i).length=i:=by unfold rmL;simp
theorem rmL_succ (s:tS.den) (k:Int) (t:tT.den) (n:Int) (i:Nat):rmL s k t n (i+1)=rmL s k t n i++[rmF s k t n i]:=by unfold rmL;rw[List.range_succ,List.map_append];rfl
noncomputable def rrunV (s:tS.den) (k:Int) (t:tT.den) (n:Int):AV:=.tup [.vs tI false (rmL s k t n (s.1.2.length+1)),.int .i64 (rsF s k t n s.1.2.length)]
noncomputable def runB (s:tS.den) (k:Int):Bool:=inB k s.2.1.2.length&&(Nat.ble s.1.2.length 30&&Nat.ble s.2.2.1.2.length 8)
theorem rrun_ans {s:tS.den} {k:Int} {t:tT.den} {n:Int} (h1:inB k s.2.1.2.length=true) (h3:s.1.2.length≤30) (h8:s.2.2.1.2.length≤8):∀ (r i m:Nat),i+r=s.1.2.length→r<m→Ans F8 (rrunI1 s k t n (i+1) (rsF s k t n i) i (flat tI (rmL s k t n (i+1))) m) (rrunV s k t n)
 |0,i,m+1,hk,hm=>by
  have h:=rrun_step1 s k t n (i+1) (rsF s k t n i) i (flat tI (rmL s k t n (i+1))) m
  rw[ile_t (show ((s.1.2.length:Nat):Int)≤(i:Int) by omega),Bool.not_true,cond_false,flatI_plain,cond_true] at h
  have hi:i=s.1.2.length:=by omega
  subst hi
  refine .doneT (Z8_ok _) F8sy h (Tells.tupL (.cons ?_ (.refl _)))
  have e:=Tells.csl (t:=tI) (l:=rmL s k t n (s.1.2.length+1))
  rw[rmL_len] at e
  exact e
 | r + 1, i, m + 1, hk, hm => by
  have h:=rrun_step1 s k t n (i+1) (rsF s k t n i) i (flat tI (rmL s k t n (i+1))) m
  have hlt:i<s.1.2.length:=by omega
  obtain⟨e1,e2⟩:=flatI_at (rmL s k t n (i+1)) (i:=i) (by rw[rmL_len];omega)
  have e3:(rmL s k t n (i+1))[i]'(by rw[rmL_len];omega)=rmF s k t n i:=by simp[rmL]
  rw[e3] at e2
  have hd:dayB s k i=true:=by
   unfold dayB;rw[h1,inB_at hlt,Nat.ble_eq_true_of_le h8];rfl
  have hb:(0+(i+1) * 1).beq (flat tI (rmL s k t n (i+1))).length=true:=by
   rw[flatI_len,rmL_len,Nat.zero_add,Nat.mul_one];exact Nat.beq_refl _
  have ha:flat tI (rmL s k t n (i+1))++[AV.int .i64 (bif !ile (rusS s k t i (ile n i)) (theS s k (rmF s k t n i) (dcaS s k i s.2.2.1.2.length)) then 0 else wr .i64 (theS s k (rmF s k t n i) (dcaS s k i s.2.2.1.2.length)-rusS s k t i (ile n i)))]=flat tI (rmL s k t n (i+1+1)):=by
   rw[flatI_add,rmL_succ s k t n (i+1)];rfl
  rw[ile_f (show (i:Int)<((s.1.2.length:Nat):Int) by omega),show inB (i:Int) (i+1)=true from inB_at (by omega),e1,e2,hd,hb,Nat.ble_eq_true_of_le (show i+1≤1048576 by omega),ha,wr_succ (show i<1048577 by omega),show plO (AO.cells false (flat tI (rmL s k t n (i+1+1))))=true from flatI_plain _] at h
  simp only[Bool.not_false,cond_true,ieq_self,bbeq_self,vsB_self] at h
  have h2:=rrun_ans (t:=t) (n:=n) h1 h3 h8 r (i+1) m (by omega) (by omega)
  have e:rsF s k t n (i+1)=bif !ile (rusS s k t i (ile n i)) (theS s k (rmF s k t n i) (dcaS s k i s.2.2.1.2.length)) then (bif ieq (rsF s k t n i) s.1.2.length then ((i:Nat):Int) else rsF s k t n i) else rsF s k t n i:=rfl
  rw[e] at h2
  cases c:(!ile (rusS s k t i (ile n i)) (theS s k (rmF s k t n i) (dcaS s k i s.2.2.1.2.length))) with
  |false=>rw[c,cond_false] at h h2;exact .stop (Z8_ok _) F8sy h h2
  |true=>
   rw[c,cond_true] at h h2
   cases c2:ieq (rsF s k t n i) s.1.2.length<;>rw[c2] at h h2<;>exact .stop (Z8_ok _) F8sy h h2
theorem rrun_call (s:tS.den) (k:Int) (t:tT.den) (n:Int) (h:runB s k=true):AnsF F8 38 [tS.av s,tI.av k,tT.av t,tI.av n] (rrunV s k t n):=by
 refine Ans.call (n:=40) (ext_none (by kernel_rfl)) (hasB_spec (by kernel_rfl)) ?_
 unfold runB at h
 simp only[Bool.and_eq_true] at h
 obtain⟨h1,h2,h3⟩:=h
 have h30:=Nat.le_of_ble_eq_true h2
 have h8:=Nat.le_of_ble_eq_true h3
 have h:=rrun_start s k t n
 simp only[bbeq_self,vsB_self,ieq_self,cond_true] at h
 refine .stop (Z8_ok _) F8sy h ?_
 have h:=rrun_step0 s k t n 1048574
 cases hl:s.1.2.length with
 |zero=>
  rw[hl] at h
  rw[show ile ((0:Nat):Int) 0=true from rfl,Bool.not_true,cond_false] at h
  refine .doneT (Z8_ok _) F8sy h ?_
  unfold rrunV
  rw[hl]
  refine Tells.tupL (.cons (Tells.csl (t:=tI) (l:=[t.1])) ?_)
  have e:rsF s k t n 0=Int.ofNat 0:=by show ((s.1.2.length:Nat):Int)=_;rw[hl];rfl
  rw[e]
  exact .refl _
 | succ r =>
  have h0:0<s.1.2.length:=by omega
  have hd:dayB s k 0=true:=by
   unfold dayB;rw[h1,show inB 0 s.1.2.length=true from inB_at (k:=0) h0,h3];rfl
  rw[ile_f (show (0:Int)<((s.1.2.length:Nat):Int) by omega),hd] at h
  rw[show ieq (Int.ofNat s.1.2.length) ((s.1.2.length:Nat):Int)=true from ieq_self _] at h
  simp only[Bool.not_false,cond_true,ieq_self,bbeq_self,vsB_self] at h
  have h4:=rrun_ans (t:=t) (n:=n) h1 h30 h8 r 1 1048574 (by omega) (by omega)
  have e:rsF s k t n 1=bif !ile (rusS s k t 0 (ile n 0)) (theS s k t.1 (dcaS s k 0 s.2.2.1.2.length)) then (bif ieq ((s.1.2.length:Nat):Int) s.1.2.length then 0 else ((s.1.2.length:Nat):Int)) else ((s.1.2.length:Nat):Int):=rfl
  rw[e,ieq_self,cond_true] at h4
  have e2:flat tI (rmL s k t n (1+1))=[AV.int IntKind.i64 t.1,AV.int IntKind.i64 (bif !ile (rusS s k t 0 (ile n 0)) (theS s k t.1 (dcaS s k 0 s.2.2.1.2.length)) then 0 else wr .i64 (theS s k t.1 (dcaS s k 0 s.2.2.1.2.length)-rusS s k t 0 (ile n 0)))]:=rfl
  rw[e2] at h4
  cases c:(!ile (rusS s k t 0 (ile n 0)) (theS s k t.1 (dcaS s k 0 s.2.2.1.2.length)))<;>rw[c] at h h4<;>exact .stop (Z8_ok _) F8sy h h4
noncomputable def LI:List Said:=[(38,con4 tS tI tT tI (fun s k _ _=>runB s k) (fun s k t n=>rrunV s k t n))]
theorem LI_ok:∀ e∈LI,SaidG Tryz.prog F8.glob e:=
 saids_cons (SaidOK.g f8 xf8 nf8 tabs_ok.mix (fun _ _ h=>con4_spec (t:=tS) (u:=tI) (w:=tT) (s:=tI) (fun s k t n h=>rrun_call s k t n h) h) rfl) saids_nil
noncomputable def F9:Env:=F8.say (under (xOf LI))
theorem f9:EnvOK Tryz.prog F9:=f8.say _
theorem nf9:NameOK F9:=nf8.say _
theorem xf9:ExtOK Tryz.prog F9:=xf8.sayL LI_ok
theorem F9sy:F9.sy=true:=rfl
noncomputable def Z9 (l:List Nat):Sy:=(Z8 []).on LI l
theorem Z9_ok (l:List Nat):(Z9 l).ok F9:=Sy.on_ok (Z8_ok _)
end Go.Proofs.YtelibdeanepdjaaGreat


set_option maxRecDepth 100000
namespace Go.Proofs.YtelibdeanepdjaaGreat
open Go Go.Eng
noncomputable def shpL (d:tQ.den) (man:Int):Nat→List tT.den
 |0=>[]
 |i+1=>shpL d man i++[(d.2.1.2.1.1,man,d.2.1.2.2.2.1.1+(i:Int),())]
theorem shpL_len (d:tQ.den) (man:Int):∀ i,(shpL d man i).length=i
 |0=>rfl
 |i+1=>by unfold shpL;rw[List.length_append,shpL_len d man i];rfl
noncomputable def manL (d:tQ.den):Nat→List tT.den
 |0=>[]
 |i+1=>manL d i++shpL d (d.2.1.2.2.1.1+(i:Int)) (d.2.1.2.2.2.1.2.1-d.2.1.2.2.2.1.1+1:Int).toNat
noncomputable def lstS (d:tQ.den):List tT.den:=manL d (d.2.1.2.2.1.2.1-d.2.1.2.2.1.1+1:Int).toNat
noncomputable def kokB (d:tQ.den):Bool:=noM d.2.2.2.1.2&&(Nat.ble d.1.1.2.length 30&&(ile 0 d.2.1.2.1.1&&(ile d.2.1.2.1.1 d.2.1.2.1.2.1&&(ile d.2.1.2.1.2.1 300&&(ile 0 d.2.1.2.2.1.1&&(ile d.2.1.2.2.1.1 d.2.1.2.2.1.2.1&&(ile d.2.1.2.2.1.2.1 6&&(ile 0 d.2.1.2.2.2.1.1&&(ile d.2.1.2.2.2.1.1 d.2.1.2.2.2.1.2.1&&ile d.2.1.2.2.2.1.2.1 12)))))))))
noncomputable def LJ:List Said:=[(78,conP1 tQ kokB (fun d=>.vs tT false (lstS d)))]
noncomputable def F10:Env:=F9.say (under (xOf LJ))
theorem f10:EnvOK Tryz.prog F10:=f9.say _
theorem nf10:NameOK F10:=nf9.say _
theorem F10sy:F10.sy=true:=rfl
noncomputable def Z10 (l:List Nat):Sy:=(Z9 []).on LJ l
theorem Z10_ok (l:List Nat):(Z10 l).ok F10:=Sy.on_ok (Z9_ok _)
end Go.Proofs.YtelibdeanepdjaaGreat


set_option maxRecDepth 100000
namespace Go.Proofs.YtelibdeanepdjaaGreat
open Go Go.Eng
theorem men_ok:∀ (i:Nat) (l:List Int) (r:Int×Int×Int),ieq (menS i l r).2.2 0=true→(∀ m∈l,mB m=true)∧ieq r.2.2 0=true
 |_,[],r,h=>⟨fun m hm=>(by cases hm),h⟩
 | i, m :: l, r, h => by
  unfold menS at h
  cases c:mB m with
  |false=>rw[c] at h;exact absurd (ieq_t h) (by show ((7:Int)=0)→False;decide)
  |true=>
   rw[c] at h
   obtain⟨h1,h2⟩:=men_ok (i+1) l r h
   refine⟨fun x hx=>?_,h2⟩
   rcases List.mem_cons.1 hx with e|hx
   · rw[e];exact c
   · exact h1 x hx
theorem kE_ok {mem:List Nat→Bool} {g:tK.den} (h:ieq (kE mem g) 0=true):kA g=true∧kL g=true:=by
 unfold kE at h
 cases c1:nameS g.1<;>cases c2:mem g.1<;>cases c3:kA g<;>cases c4:kL g<;>rw[c1] at h<;>(try rw[c2] at h)<;>(try rw[c3] at h)<;>(try rw[c4] at h)<;>first|exact⟨rfl,rfl⟩|exact absurd (ieq_t h) (by decide)
theorem kin_ok:∀ (mem:List Nat→Bool) (i:Nat) (l:List tK.den) (r:Int×Int×Int),ieq (kinS mem i l r).2.2 0=true→(∀ g∈l,kA g=true∧kL g=true)∧ieq r.2.2 0=true
 |_,_,[],r,h=>⟨fun m hm=>(by cases hm),h⟩
 | mem, i, g :: l, r, h => by
  unfold kinS at h
  cases c:ieq (kE mem g) 0 with
  |false=>rw[c] at h;exact absurd (show ieq (kE mem g) 0=true from h) (by rw[c];decide)
  |true=>
   rw[c] at h
   obtain⟨h1,h2⟩:=kin_ok _ (i+1) l r h
   refine⟨fun x hx=>?_,h2⟩
   rcases List.mem_cons.1 hx with e|hx
   · rw[e];exact kE_ok c
   · exact h1 x hx
theorem cE_ok {nk nd:Int} {c:tC.den} (h:ieq (cE nk nd c) 0=true):(@LE.le Int _ 0 c.1)∧(@LE.le Int _ c.1 (nd-1))∧(@LE.le Int _ 0 c.2.2.1)∧(@LE.le Int _ c.2.2.1 300):=by
 unfold cE at h
 cases c1:(ile 0 c.2.1&&ile c.2.1 (nk-1))<;>cases c2:(ile 0 c.1&&(ile c.1 (nd-1)&&(ile 0 c.2.2.1&&ile c.2.2.1 300)))<;>rw[c1] at h<;>(try rw[c2] at h)<;>first|exact absurd (ieq_t h) (by decide)|skip
 simp only[Bool.and_eq_true] at c2
 exact⟨ile_le c2.1,ile_le c2.2.1,ile_le c2.2.2.1,ile_le c2.2.2.2⟩
theorem car_ok {nk nd:Int}:∀ (i:Nat) (l:List tC.den),ieq (carS nk nd i l).2.2 0=true→∀ c∈l,ieq (cE nk nd c) 0=true
 |_,[],_=>fun m hm=>(by cases hm)
 | i, g :: l, h => by
  unfold carS at h
  cases c:ieq (cE nk nd g) 0 with
  |false=>rw[c] at h;exact absurd (show ieq (cE nk nd g) 0=true from h) (by rw[c];decide)
  |true=>
   rw[c] at h
   intro x hx
   rcases List.mem_cons.1 hx with e|hx
   · rw[e];exact c
   · exact car_ok (i+1) l h x hx
structure StOK (s:tS.den):Prop where
 len:LenOK s
 men:∀ m∈s.1.2,mB m=true
 kin:∀ g∈s.2.1.2,kA g=true∧kL g=true
 car:∀ c∈s.2.2.1.2,ieq (cE s.2.1.2.length s.1.2.length c) 0=true
theorem st_ok {s:tS.den} (h:ieq (chkS s).2.2 0=true):StOK s:=by
 have hl:=chk_len h
 unfold chkS at h
 cases c:lenB s with
 |false=>rw[c] at h;exact absurd (ieq_t h) (by show ((3:Int)=0)→False;decide)
 |true=>
  rw[c] at h
  obtain⟨h1,h⟩:=men_ok 0 _ _ h
  obtain⟨h2,h⟩:=kin_ok _ 0 _ _ h
  exact⟨hl,h1,h2,car_ok 0 _ h⟩
theorem bif_ile (a b x y:Int):(bif ile a b then x else y)=if a≤b then x else y:=by
 rw[ile_iff];by_cases h:a≤b
 · rw[decide_eq_true h,if_pos h];rfl
 · rw[decide_eq_false h,if_neg h];rfl
theorem bif_nile (a b x y:Int):(bif !ile a b then x else y)=if a≤b then y else x:=by
 rw[cond_not',bif_ile]
theorem lod_the {b c r:Int} (b0:0≤b) (b1:b≤300) (c0:0≤c) (c1:c≤10000) (r0:0≤r) (r1:r≤300):maxS b (minS (wr .i64 (b+c)) r)=wr .i64 (wr .i64 (b+c)-(bif ile (minS c (wr .i64 (wr .i64 (b+c)-r))) 0 then 0 else minS c (wr .i64 (wr .i64 (b+c)-r))))∧0≤maxS b (minS (wr .i64 (b+c)) r)∧maxS b (minS (wr .i64 (b+c)) r)≤300:=by
 have e1:wr .i64 (b+c)=b+c:=wr_in (by omega) (by omega)
 have e2:wr .i64 (b+c-r)=b+c-r:=wr_in (by omega) (by omega)
 have e3:minS c (b+c-r)≤10000∧-10000≤minS c (b+c-r):=by
  unfold minS;rw[bif_ile];split<;>omega
 have e4:wr .i64 (b+c-(bif ile (minS c (b+c-r)) 0 then 0 else minS c (b+c-r)))=b+c-(bif ile (minS c (b+c-r)) 0 then 0 else minS c (b+c-r)):=by
  rw[bif_ile];exact wr_in (by split<;>omega) (by split<;>omega)
 rw[e1,e2,e4]
 unfold maxS minS
 simp only[bif_ile]
 refine⟨?_,?_,?_⟩<;>(repeat' split)<;>omega
theorem beq_int {y:Nat} {a:Int} (h:0≤a):Nat.beq y a.toNat=ieq a y:=by
 rw[ieq_iff]
 cases c:Nat.beq y a.toNat with
 |true=>have:=Nat.eq_of_beq_eq_true c;exact (decide_eq_true (by omega)).symm
 |false=>
  refine (decide_eq_false fun e=>?_).symm
  rw[e,show ((y:Nat):Int).toNat=y by simp,Nat.beq_refl] at c;cases c
theorem com_dca {s:tS.den} (H:StOK s) (k:Int) (y:Nat):∀ (i:Nat),i≤s.2.2.1.2.length→comF s k i y=dcaS s k y i
 |0,_=>rfl
 |i+1,hi=>by
  have hlt:i<s.2.2.1.2.length:=by omega
  have hc:=(cE_ok (H.car (s.2.2.1.2.getD i tC.dflt) (by rw[List.getD_eq_getElem?_getD,List.getElem?_eq_getElem hlt];exact List.getElem_mem hlt))).1
  show (bif ieq (s.2.2.1.2.getD i tC.dflt).2.1 k&&Nat.beq y (s.2.2.1.2.getD i tC.dflt).1.toNat then wr .i64 (comF s k i y+(s.2.2.1.2.getD i tC.dflt).2.2.1) else comF s k i y)=(bif ieq (s.2.2.1.2.getD i tC.dflt).1 y&&ieq (s.2.2.1.2.getD i tC.dflt).2.1 k then wr .i64 (dcaS s k y i+(s.2.2.1.2.getD i tC.dflt).2.2.1) else dcaS s k y i)
  rw[com_dca H k y i (by omega),beq_int hc,Bool.and_comm]
theorem dca_bd {s:tS.den} (H:StOK s) (k y:Int):∀ (i:Nat),i≤s.2.2.1.2.length→0≤dcaS s k y i∧dcaS s k y i≤300 * i
 |0,_=>⟨Int.le_refl 0,Int.le_refl 0⟩
 |i+1,hi=>by
  have hlt:i<s.2.2.1.2.length:=by omega
  have h8:=H.len.c2
  obtain⟨_,_,a0,a1⟩:=cE_ok (H.car (s.2.2.1.2.getD i tC.dflt) (by rw[List.getD_eq_getElem?_getD,List.getElem?_eq_getElem hlt];exact List.getElem_mem hlt))
  obtain⟨h0,h1⟩:=dca_bd H k y i (by omega)
  revert a0 a1
  show (@LE.le Int _ 0 _)→(@LE.le Int _ _ 300)→0≤(bif ieq (s.2.2.1.2.getD i tC.dflt).1 y&&ieq (s.2.2.1.2.getD i tC.dflt).2.1 k then wr .i64 (dcaS s k y i+(s.2.2.1.2.getD i tC.dflt).2.2.1) else dcaS s k y i)∧(bif ieq (s.2.2.1.2.getD i tC.dflt).1 y&&ieq (s.2.2.1.2.getD i tC.dflt).2.1 k then wr .i64 (dcaS s k y i+(s.2.2.1.2.getD i tC.dflt).2.2.1) else dcaS s k y i)≤300 * ((i+1:Nat):Int)
  generalize (s.2.2.1.2.getD i tC.dflt).2.2.1=a
  intro a0 a1
  cases (ieq (s.2.2.1.2.getD i tC.dflt).1 y&&ieq (s.2.2.1.2.getD i tC.dflt).2.1 k) with
  |true=>rw[cond_true,wr_in (by omega) (by omega)];exact⟨by omega,by omega⟩
  |false=>rw[cond_false];exact⟨by omega,by omega⟩
theorem use_bd {m M R S:Int} (q:Bool) (m0:0≤m) (m1:m≤12) (M0:0≤M) (M1:M≤6) (R0:0≤R) (R1:R≤1000) (S0:0≤S) (S1:S≤12):0≤wr .i64 ((bif q then wr .i64 ((wr .i64 (wr .i64 (wr .i64 (wr .i64 (m * M) * R)+1000)-1)).tdiv 1000) else wr .i64 (m * M))+S)∧wr .i64 ((bif q then wr .i64 ((wr .i64 (wr .i64 (wr .i64 (wr .i64 (m * M) * R)+1000)-1)).tdiv 1000) else wr .i64 (m * M))+S)≤100:=by
 have p0:0≤m * M:=Int.mul_nonneg m0 M0
 have p1:m * M≤12 * 6:=Int.mul_le_mul m1 M1 M0 (by decide)
 have e1:wr .i64 (m * M)=m * M:=wr_in (by omega) (by omega)
 have q0:0≤(m * M) * R:=Int.mul_nonneg p0 R0
 have q1:(m * M) * R≤(12 * 6) * 1000:=Int.mul_le_mul p1 R1 R0 (by decide)
 have e2:wr .i64 ((m * M) * R)=(m * M) * R:=wr_in (by omega) (by omega)
 have e3:wr .i64 ((m * M) * R+1000)=(m * M) * R+1000:=wr_in (by omega) (by omega)
 have e4:wr .i64 ((m * M) * R+1000-1)=(m * M) * R+999:=by rw[wr_in (by omega) (by omega)];omega
 have e5:((m * M) * R+999).tdiv 1000=((m * M) * R+999) / 1000:=Int.tdiv_eq_ediv_of_nonneg (by omega)
 rw[e1,e2,e3,e4,e5]
 have e6:wr .i64 (((m * M) * R+999) / 1000)=((m * M) * R+999) / 1000:=wr_in (by omega) (by omega)
 rw[e6]
 cases q with
 |true=>rw[cond_true,wr_in (by omega) (by omega)];exact⟨by omega,by omega⟩
 |false=>rw[cond_false,wr_in (by omega) (by omega)];exact⟨by omega,by omega⟩
theorem day_eq {L T U:Int} (e:L=T) (L0:0≤L) (L1:L≤300) (U0:0≤U) (U1:U≤100):(bif ile (wr .i64 (L-U)) 0 then 0 else wr .i64 (L-U))=(bif !ile U T then 0 else wr .i64 (T-U))∧0≤(bif !ile U T then 0 else wr .i64 (T-U))∧(bif !ile U T then 0 else wr .i64 (T-U))≤300:=by
 subst e
 rw[wr_in (n:=L-U) (by omega) (by omega),bif_ile,bif_nile]
 refine⟨?_,?_,?_⟩<;>(repeat' split)<;>omega
structure TOk (s:tS.den) (k:Int) (t:tT.den):Prop where
 ks:inB k s.2.1.2.length=true
 f0:@LE.le Int _ 0 t.1
 f1:@LE.le Int _ t.1 300
 m0:@LE.le Int _ 0 t.2.1
 m1:@LE.le Int _ t.2.1 6
 s0:@LE.le Int _ 0 t.2.2.1
 s1:@LE.le Int _ t.2.2.1 12
theorem TOk.kind {s:tS.den} {k:Int} {t:tT.den} (T:TOk s k t):kdS s k∈s.2.1.2:=by
 have h:=T.ks
 cases k with
 |negSucc m=>cases h
 |ofNat j=>
  have hj:j<s.2.1.2.length:=Nat.le_of_ble_eq_true h
  show s.2.1.2.getD j tK.dflt∈_
  rw[List.getD_eq_getElem?_getD,List.getElem?_eq_getElem hj];exact List.getElem_mem hj
theorem morn_step {s:tS.den} (H:StOK s) {k:Int} {t:tT.den} (T:TOk s k t) (l:List tN.den) (n:Int) {i:Nat} (hi:i<s.1.2.length) {b:Int} (b0:0≤b) (b1:b≤300) :
  lodS (stkS s l k) b i=theS s k b (dcaS s k i s.2.2.1.2.length)∧useS (stkS s l k) t i n=rusS s k t i (ile n i)∧(0≤lodS (stkS s l k) b i∧lodS (stkS s l k) b i≤300)∧(0≤rusS s k t i (ile n i)∧rusS s k t i (ile n i)≤100):=by
 have hk:=H.kin _ T.kind
 have hA:=hk.1
 unfold kA at hA
 simp only[Bool.and_eq_true] at hA
 obtain⟨_,_,_,_,r0,r1,_,_,_,_,_,_,_,_,q0,q1⟩:=hA
 have hm:=H.men (s.1.2.getD i tI.dflt) (by rw[List.getD_eq_getElem?_getD,List.getElem?_eq_getElem hi];exact List.getElem_mem hi)
 unfold mB at hm
 rw[Bool.and_eq_true] at hm
 have h30:=H.len.m2
 have hc8:=H.len.c2
 obtain⟨c0,c1⟩:=dca_bd H k i s.2.2.1.2.length (Nat.le_refl _)
 have hz:zOf 30 (stkS s l k).2.2.1 ((i:Nat):Int).toNat=dcaS s k i s.2.2.1.2.length:=by
  show zOf 30 (mkZ (comF s k s.2.2.1.2.length) 30 0) _=_
  rw[show ((i:Nat):Int).toNat=i by simp,zOf_mk _ 30 0 i (by omega),Nat.zero_add,com_dca H k i _ (Nat.le_refl _)]
 have hL:=lod_the (b:=b) (c:=dcaS s k i s.2.2.1.2.length) (r:=(kdS s k).2.2.2.2.1) b0 b1 c0 (by omega) (ile_le r0) (ile_le r1)
 have eL:lodS (stkS s l k) b i=maxS b (minS (wr .i64 (b+dcaS s k i s.2.2.1.2.length)) (kdS s k).2.2.2.2.1):=by
  unfold lodS;rw[hz];rfl
 have hU:=use_bd (m:=s.1.2.getD i tI.dflt) (M:=t.2.1) (R:=(kdS s k).2.2.2.2.2.1) (S:=t.2.2.1) (ile n i) (ile_le hm.1) (ile_le hm.2) T.m0 T.m1 (ile_le q0) (ile_le q1) T.s0 T.s1
 refine⟨?_,rfl,?_,?_⟩
 · rw[eL];exact hL.1
 · rw[eL];exact hL.2
 · exact hU
theorem morn_eq {s:tS.den} (H:StOK s) {k:Int} {t:tT.den} (T:TOk s k t) (l:List tN.den) (n:Int):∀ (i:Nat),i≤s.1.2.length→mrnF (stkS s l k) t n i=rmF s k t n i∧0≤rmF s k t n i∧rmF s k t n i≤300
 |0,_=>⟨rfl,T.f0,T.f1⟩
 |i+1,hi=>by
  obtain⟨e,b0,b1⟩:=morn_eq H T l n i (by omega)
  obtain⟨h1,h2,h3,h4⟩:=morn_step H T l n (i:=i) (by omega) b0 b1
  have h:=day_eq h1 h3.1 h3.2 h4.1 h4.2
  show (bif ile (wr .i64 (lodS (stkS s l k) (mrnF (stkS s l k) t n i) i-useS (stkS s l k) t i n)) 0 then 0 else wr .i64 (lodS (stkS s l k) (mrnF (stkS s l k) t n i) i-useS (stkS s l k) t i n))=_∧_
  rw[e,h2]
  exact h
theorem shrt_eq {s:tS.den} (H:StOK s) {k:Int} {t:tT.den} (T:TOk s k t) (l:List tN.den) (n:Int):∀ (i:Nat),i≤s.1.2.length→shtF (stkS s l k) t n i=rsF s k t n i∧(rsF s k t n i=s.1.2.length∨rsF s k t n i<i)
 |0,_=>⟨rfl,.inl rfl⟩
 | i + 1, hi => by
  obtain⟨e,b0,b1⟩:=morn_eq H T l n i (by omega)
  obtain⟨h1,h2,_,_⟩:=morn_step H T l n (i:=i) (by omega) b0 b1
  obtain⟨e2,h3⟩:=shrt_eq H T l n i (by omega)
  show (bif !ile (useS (stkS s l k) t i n) (lodS (stkS s l k) (mrnF (stkS s l k) t n i) i) then (bif ile (shtF (stkS s l k) t n i) i then shtF (stkS s l k) t n i else i) else shtF (stkS s l k) t n i)=(bif !ile (rusS s k t i (ile n i)) (theS s k (rmF s k t n i) (dcaS s k i s.2.2.1.2.length)) then (bif ieq (rsF s k t n i) s.1.2.length then ((i:Nat):Int) else rsF s k t n i) else rsF s k t n i)∧((bif !ile (rusS s k t i (ile n i)) (theS s k (rmF s k t n i) (dcaS s k i s.2.2.1.2.length)) then (bif ieq (rsF s k t n i) s.1.2.length then ((i:Nat):Int) else rsF s k t n i) else rsF s k t n i)=s.1.2.length∨(bif !ile (rusS s k t i (ile n i)) (theS s k (rmF s k t n i) (dcaS s k i s.2.2.1.2.length)) then (bif ieq (rsF s k t n i) s.1.2.length then ((i:Nat):Int) else rsF s k t n i) else rsF s k t n i)<((i+1:Nat):Int))
  rw[e,e2,h1,h2]
  cases (!ile (rusS s k t i (ile n i)) (theS s k (rmF s k t n i) (dcaS s k i s.2.2.1.2.length))) with
  |false=>simp only[cond_false];exact⟨trivial,by omega⟩
  |true=>
   simp only[cond_true]
   rcases h3 with h3|h3
   · rw[h3,ieq_self,cond_true,ile_f (by omega),cond_false];exact⟨rfl,.inr (by omega)⟩
   · have : ieq (rsF s k t n i) s.1.2.length = false := by rw [ieq_iff]; exact decide_eq_false (by omega)
     rw[this,cond_false,ile_t (by omega),cond_true];exact⟨rfl,.inr (by omega)⟩
end Go.Proofs.YtelibdeanepdjaaGreat


set_option maxRecDepth 100000
namespace Go.Proofs.YtelibdeanepdjaaGreat
open Go Go.Eng
theorem rmor_start (s:tS.den) (k:Int) (t:tT.den) (n:Int):adv F9 (Z9 []) 3000 (startC F9 10 [tS.av s,.int .i64 k,tT.av t,.int .i64 n] 40)=(bif ieq (chkS s).2.2 0 then (bif ile 0 k then (bif !ile k (wr .i64 (↑s.2.1.2.length-1)) then some (.done (.tup [.nils,(.int .i64 (0)),(.int .i64 (4))])) else (bif ieq (chkS s).2.2 0 then (bif inB k s.2.1.2.length then (bif ile (s.2.1.2.getD k.toNat tK.dflt).2.1.1 t.1 then (bif ile t.1 (s.2.1.2.getD k.toNat tK.dflt).2.1.2.1 then (bif ile (s.2.1.2.getD k.toNat tK.dflt).2.2.1.1 t.2.1 then (bif ile t.2.1 (s.2.1.2.getD k.toNat tK.dflt).2.2.1.2.1 then (bif ile (s.2.1.2.getD k.toNat tK.dflt).2.2.2.1.1 t.2.2.1 then (bif !ile t.2.2.1 (s.2.1.2.getD k.toNat tK.dflt).2.2.2.1.2.1 then (bif ieq t.1 t.1 then (bif ieq t.2.1 t.2.1 then (bif ieq t.2.2.1 t.2.2.1 then (bif bbeq s.2.1.1 s.2.1.1 then (bif vsB tK s.2.1.2 tK s.2.1.2 then some (.done (.tup [.nils,(.int .i64 (0)),(.int .i64 (7))])) else none) else none) else none) else none) else none) else (bif ile 0 n then (bif bbeq s.1.1 s.1.1 then (bif vsB tI s.1.2 tI s.1.2 then (bif ieq t.1 t.1 then (bif ieq t.2.1 t.2.1 then (bif ieq t.2.2.1 t.2.2.1 then (bif bbeq s.2.1.1 s.2.1.1 then (bif vsB tK s.2.1.2 tK s.2.1.2 then (bif !ile n ↑s.1.2.length then some (.done (.tup [.nils,(.int .i64 (0)),(.int .i64 (7))])) else (bif !ieq (chkS s).2.2 0 then some (.done (.tup [.nils,(.int .i64 (0)),(.int .i64 ((chkS s).2.2))])) else (bif runB s k then some (.done (.tup [(.vs tI (false) (rmL s k t n (s.1.2.length+1))),(.int .i64 (rsF s k t n s.1.2.length)),(.int .i64 (0))])) else none))) else none) else none) else none) else none) else none) else none) else none) else (bif bbeq s.1.1 s.1.1 then (bif vsB tI s.1.2 tI s.1.2 then (bif ieq t.1 t.1 then (bif ieq t.2.1 t.2.1 then (bif ieq t.2.2.1 t.2.2.1 then (bif bbeq s.2.1.1 s.2.1.1 then (bif vsB tK s.2.1.2 tK s.2.1.2 then some (.done (.tup [.nils,(.int .i64 (0)),(.int .i64 (7))])) else none) else none) else none) else none) else none) else none) else none))) else (bif ieq t.1 t.1 then (bif ieq t.2.1 t.2.1 then (bif ieq t.2.2.1 t.2.2.1 then (bif bbeq s.2.1.1 s.2.1.1 then (bif vsB tK s.2.1.2 tK s.2.1.2 then some (.done (.tup [.nils,(.int .i64 (0)),(.int .i64 (7))])) else none) else none) else none) else none) else none)) else (bif ieq t.1 t.1 then (bif ieq t.2.1 t.2.1 then (bif ieq t.2.2.1 t.2.2.1 then (bif bbeq s.2.1.1 s.2.1.1 then (bif vsB tK s.2.1.2 tK s.2.1.2 then some (.done (.tup [.nils,(.int .i64 (0)),(.int .i64 (7))])) else none) else none) else none) else none) else none)) else (bif ieq t.1 t.1 then (bif ieq t.2.1 t.2.1 then (bif ieq t.2.2.1 t.2.2.1 then (bif bbeq s.2.1.1 s.2.1.1 then (bif vsB tK s.2.1.2 tK s.2.1.2 then some (.done (.tup [.nils,(.int .i64 (0)),(.int .i64 (7))])) else none) else none) else none) else none) else none)) else (bif ieq t.1 t.1 then (bif ieq t.2.1 t.2.1 then (bif ieq t.2.2.1 t.2.2.1 then (bif bbeq s.2.1.1 s.2.1.1 then (bif vsB tK s.2.1.2 tK s.2.1.2 then some (.done (.tup [.nils,(.int .i64 (0)),(.int .i64 (7))])) else none) else none) else none) else none) else none)) else (bif ieq t.1 t.1 then (bif ieq t.2.1 t.2.1 then (bif ieq t.2.2.1 t.2.2.1 then (bif bbeq s.2.1.1 s.2.1.1 then (bif vsB tK s.2.1.2 tK s.2.1.2 then some (.done (.tup [.nils,(.int .i64 (0)),(.int .i64 (7))])) else none) else none) else none) else none) else none)) else none) else (bif !ieq (chkS s).2.2 0 then some (.done (.tup [.nils,(.int .i64 (0)),(.int .i64 ((chkS s).2.2))])) else (bif runB s k then some (.done (.tup [(.vs tI (false) (rmL s k t n (s.1.2.length+1))),(.int .i64 (rsF s k t n s.1.2.length)),(.int .i64 (0))])) else none)))) else some (.done (.tup [.nils,(.int .i64 (0)),(.int .i64 (4))]))) else (bif ieq (chkS s).2.2 0 then (bif inB k s.2.1.2.length then (bif ile (s.2.1.2.getD k.toNat tK.dflt).2.1.1 t.1 then (bif ile t.1 (s.2.1.2.getD k.toNat tK.dflt).2.1.2.1 then (bif ile (s.2.1.2.getD k.toNat tK.dflt).2.2.1.1 t.2.1 then (bif ile t.2.1 (s.2.1.2.getD k.toNat tK.dflt).2.2.1.2.1 then (bif ile (s.2.1.2.getD k.toNat tK.dflt).2.2.2.1.1 t.2.2.1 then (bif !ile t.2.2.1 (s.2.1.2.getD k.toNat tK.dflt).2.2.2.1.2.1 then (bif ieq t.1 t.1 then (bif ieq t.2.1 t.2.1 then (bif ieq t.2.2.1 t.2.2.1 then (bif bbeq s.2.1.1 s.2.1.1 then (bif vsB tK s.2.1.2 tK s.2.1.2 then some (.done (.tup [.nils,(.int .i64 (0)),(.int .i64 (7))])) else none) else none) else none) else none) else none) else (bif ile 0 n then (bif bbeq s.1.1 s.1.1 then (bif vsB tI s.1.2 tI s.1.2 then (bif ieq t.1 t.1 then (bif ieq t.2.1 t.2.1 then (bif ieq t.2.2.1 t.2.2.1 then (bif bbeq s.2.1.1 s.2.1.1 then (bif vsB tK s.2.1.2 tK s.2.1.2 then (bif !ile n ↑s.1.2.length then some (.done (.tup [.nils,(.int .i64 (0)),(.int .i64 (7))])) else (bif !ieq (chkS s).2.2 0 then some (.done (.tup [.nils,(.int .i64 (0)),(.int .i64 ((chkS s).2.2))])) else (bif runB s k then some (.done (.tup [(.vs tI (false) (rmL s k t n (s.1.2.length+1))),(.int .i64 (rsF s k t n s.1.2.length)),(.int .i64 (0))])) else none))) else none) else none) else none) else none) else none) else none) else none) else (bif bbeq s.1.1 s.1.1 then (bif vsB tI s.1.2 tI s.1.2 then (bif ieq t.1 t.1 then (bif ieq t.2.1 t.2.1 then (bif ieq t.2.2.1 t.2.2.1 then (bif bbeq s.2.1.1 s.2.1.1 then (bif vsB tK s.2.1.2 tK s.2.1.2 then some (.done (.tup [.nils,(.int .i64 (0)),(.int .i64 (7))])) else none) else none) else none) else none) else none) else none) else none))) else (bif ieq t.1 t.1 then (bif ieq t.2.1 t.2.1 then (bif ieq t.2.2.1 t.2.2.1 then (bif bbeq s.2.1.1 s.2.1.1 then (bif vsB tK s.2.1.2 tK s.2.1.2 then some (.done (.tup [.nils,(.int .i64 (0)),(.int .i64 (7))])) else none) else none) else none) else none) else none)) else (bif ieq t.1 t.1 then (bif ieq t.2.1 t.2.1 then (bif ieq t.2.2.1 t.2.2.1 then (bif bbeq s.2.1.1 s.2.1.1 then (bif vsB tK s.2.1.2 tK s.2.1.2 then some (.done (.tup [.nils,(.int .i64 (0)),(.int .i64 (7))])) else none) else none) else none) else none) else none)) else (bif ieq t.1 t.1 then (bif ieq t.2.1 t.2.1 then (bif ieq t.2.2.1 t.2.2.1 then (bif bbeq s.2.1.1 s.2.1.1 then (bif vsB tK s.2.1.2 tK s.2.1.2 then some (.done (.tup [.nils,(.int .i64 (0)),(.int .i64 (7))])) else none) else none) else none) else none) else none)) else (bif ieq t.1 t.1 then (bif ieq t.2.1 t.2.1 then (bif ieq t.2.2.1 t.2.2.1 then (bif bbeq s.2.1.1 s.2.1.1 then (bif vsB tK s.2.1.2 tK s.2.1.2 then some (.done (.tup [.nils,(.int .i64 (0)),(.int .i64 (7))])) else none) else none) else none) else none) else none)) else (bif ieq t.1 t.1 then (bif ieq t.2.1 t.2.1 then (bif ieq t.2.2.1 t.2.2.1 then (bif bbeq s.2.1.1 s.2.1.1 then (bif vsB tK s.2.1.2 tK s.2.1.2 then some (.done (.tup [.nils,(.int .i64 (0)),(.int .i64 (7))])) else none) else none) else none) else none) else none)) else none) else (bif !ieq (chkS s).2.2 0 then some (.done (.tup [.nils,(.int .i64 (0)),(.int .i64 ((chkS s).2.2))])) else (bif runB s k then some (.done (.tup [(.vs tI (false) (rmL s k t n (s.1.2.length+1))),(.int .i64 (rsF s k t n s.1.2.length)),(.int .i64 (0))])) else none)))):=by kernel_rfl
noncomputable def canS (s:tS.den) (k:Int) (t:tT.den):Bool:=ile (s.2.1.2.getD k.toNat tK.dflt).2.1.1 t.1&&(ile t.1 (s.2.1.2.getD k.toNat tK.dflt).2.1.2.1&&(ile (s.2.1.2.getD k.toNat tK.dflt).2.2.1.1 t.2.1&&(ile t.2.1 (s.2.1.2.getD k.toNat tK.dflt).2.2.1.2.1&&(ile (s.2.1.2.getD k.toNat tK.dflt).2.2.2.1.1 t.2.2.1&&ile t.2.2.1 (s.2.1.2.getD k.toNat tK.dflt).2.2.2.1.2.1))))
noncomputable def morE (s:tS.den) (k:Int) (t:tT.den) (n:Int):Int:=
 bif ieq (chkS s).2.2 0 then (bif ile 0 k&&ile k ((s.2.1.2.length:Int)-1) then (bif canS s k t&&(ile 0 n&&ile n (s.1.2.length:Int)) then 0 else 7) else 4) else (chkS s).2.2
noncomputable def morV (s:tS.den) (k:Int) (t:tT.den) (n:Int):AV:=.tup [.vs tI (!ieq (morE s k t n) 0) (bif ieq (morE s k t n) 0 then rmL s k t n (s.1.2.length+1) else []),.int .i64 (bif ieq (morE s k t n) 0 then rsF s k t n s.1.2.length else 0),.int .i64 (morE s k t n)]
theorem mor_err {s:tS.den} {k:Int} {t:tT.den} {n e:Int} (he:morE s k t n=e) (hne:ieq e 0=false):Tells (.tup [.nils,.int .i64 0,.int .i64 e]) (morV s k t n):=by
 unfold morV
 rw[he,hne]
 exact Tells.tupL (.cons Tells.nils (.refl _))
theorem mor_ok {s:tS.den} {k:Int} {t:tT.den} {n:Int} (he:morE s k t n=0):morV s k t n=.tup [.vs tI false (rmL s k t n (s.1.2.length+1)),.int .i64 (rsF s k t n s.1.2.length),.int .i64 0]:=by
 unfold morV;rw[he];rfl
theorem inB_kind {k:Int} {n:Nat} (h1:ile 0 k=true) (h2:ile k ((n:Int)-1)=true):inB k n=true:=by
 have a:=ile_le h1;have b:=ile_le h2
 rw[inB_iff];exact decide_eq_true ⟨a,by omega⟩
theorem rmor_call (s:tS.den) (k:Int) (t:tT.den) (n:Int):AnsF F9 10 [tS.av s,tI.av k,tT.av t,tI.av n] (morV s k t n):=by
 refine Ans.call (n:=40) (ext_none (by kernel_rfl)) (hasB_spec (by kernel_rfl)) ?_
 have h:=rmor_start s k t n
 cases c0:ieq (chkS s).2.2 0 with
 |false=>
  simp only[c0,cond_false,Bool.not_false,cond_true] at h
  exact .doneT (Z9_ok _) F9sy h (mor_err (by unfold morE;rw[c0];rfl) c0)
 | true =>
  have hl:=chk_len c0
  have hk4:=hl.k2
  have eE:morE s k t n=bif ile 0 k&&ile k ((s.2.1.2.length:Int)-1) then (bif canS s k t&&(ile 0 n&&ile n (s.1.2.length:Int)) then 0 else 7) else 4:=by unfold morE;rw[c0];rfl
  rw[wr_l (show s.2.1.2.length≤30 by omega)] at h
  cases c1:ile 0 k with
  |false=>
   simp only[c0,c1,cond_false,cond_true] at h
   exact .doneT (Z9_ok _) F9sy h (mor_err (by rw[eE,c1];rfl) rfl)
  | true =>
   cases c2:ile k ((s.2.1.2.length:Int)-1) with
   |false=>
    simp only[c0,c1,c2,cond_false,cond_true,Bool.not_false] at h
    exact .doneT (Z9_ok _) F9sy h (mor_err (by rw[eE,c1,c2];rfl) rfl)
   | true =>
    have hi:=inB_kind c1 c2
    have hr:runB s k=true:=by
     unfold runB;rw[hi,Nat.ble_eq_true_of_le hl.m2,Nat.ble_eq_true_of_le hl.c2];rfl
    simp only[c0,c1,c2,hi,hr,ieq_self,bbeq_self,vsB_self,cond_true,cond_false,Bool.not_true,cond_not',cond_and'] at h
    have eC:(bif ile (s.2.1.2.getD k.toNat tK.dflt).2.1.1 t.1&&(ile t.1 (s.2.1.2.getD k.toNat tK.dflt).2.1.2.1&&(ile (s.2.1.2.getD k.toNat tK.dflt).2.2.1.1 t.2.1&&(ile t.2.1 (s.2.1.2.getD k.toNat tK.dflt).2.2.1.2.1&&(ile (s.2.1.2.getD k.toNat tK.dflt).2.2.2.1.1 t.2.2.1&&(ile t.2.2.1 (s.2.1.2.getD k.toNat tK.dflt).2.2.2.1.2.1&&(ile 0 n&&ile n (s.1.2.length:Int))))))) then (0:Int) else 7)=morE s k t n:=by
     rw[eE,c1,c2];unfold canS;simp only[Bool.and_assoc,Bool.true_and,Bool.and_self,cond_true]
    cases cc:(ile (s.2.1.2.getD k.toNat tK.dflt).2.1.1 t.1&&(ile t.1 (s.2.1.2.getD k.toNat tK.dflt).2.1.2.1&&(ile (s.2.1.2.getD k.toNat tK.dflt).2.2.1.1 t.2.1&&(ile t.2.1 (s.2.1.2.getD k.toNat tK.dflt).2.2.1.2.1&&(ile (s.2.1.2.getD k.toNat tK.dflt).2.2.2.1.1 t.2.2.1&&(ile t.2.2.1 (s.2.1.2.getD k.toNat tK.dflt).2.2.2.1.2.1&&(ile 0 n&&ile n (s.1.2.length:Int)))))))) with
    |false=>
     rw[cc] at h eC
     exact .doneT (Z9_ok _) F9sy h (mor_err eC.symm rfl)
    |true=>
     rw[cc] at h eC
     rw[mor_ok eC.symm]
     exact .done (Z9_ok _) F9sy h rfl
end Go.Proofs.YtelibdeanepdjaaGreat


set_option maxRecDepth 100000
namespace Go.Proofs.YtelibdeanepdjaaGreat
open Go Go.Eng
noncomputable def pmork0 (z0:tS.den):AO:=(cF [(.vs tI (z0.1.1) (z0.1.2)),(.vs tK (z0.2.1.1) (z0.2.1.2)),(.vs tC (z0.2.2.1.1) (z0.2.2.1.2))])
noncomputable def pmork3 (z0:tT.den):AO:=(cF [(iI (z0.1)),(iI (z0.2.1)),(iI (z0.2.2.1))])
noncomputable def pmork2 (z0:tS.den):AV:=(.agg [(.vs tI (z0.1.1) (z0.1.2)),(.vs tK (z0.2.1.1) (z0.2.1.2)),(.vs tC (z0.2.2.1.1) (z0.2.2.1.2))])
noncomputable def pmork1 (z0:tT.den):AV:=(.agg [(iI (z0.1)),(iI (z0.2.1)),(iI (z0.2.2.1))])
noncomputable def pmorg8:List (Nat×AV):=[(6,(.bool false)),(10,(iI 1))]
noncomputable def pmorI0 (s:tS.den) (k:Int) (t:tT.den) (n:Int) (x6:Int) (x30:Nat):Cfg:=⟨.ex (pcOf F10 33 [0,0,1,0,1]) ⟨(tmOf 24 (pmorg8++[(0,(iI 0)),(1,(iI (wr .i64 (↑s.2.1.2.length-1)))),(2,(.csl [(iI (k))] 1)),(9,(.csl [(iI (k))] 1)),(11,(iI x6))])),(hpOf 4 [(0,(pmork0 s)),(1,(pmork3 t)),(2,(pmork0 s)),(3,(.cells true [(iI (k))]))]),[],[],24,false⟩,⟨38,[]⟩,[(.lop (pcOf F10 33 [0,0,1,0,1]) 4 (tmOf 24 (pmorg8++[(0,(iI 0)),(1,(iI (wr .i64 (↑s.2.1.2.length-1)))),(2,(.csl [(iI (k))] 1)),(9,(.csl [(iI (k))] 1)),(11,(iI 0))])) x30),(.blk 0),(.seq (pcOf F10 33 [1,1])),(.cal [(.tmp 6)] (.op (pcOf F10 31 [0,0,1,1]) 7 (some 28) ((opsOf (pcOf F10 31 [0,0,1,1]).c).toList.drop 7) (tmOf 51 [(0,(pmork2 s)),(1,.nils),(2,(iI (k))),(3,.nils),(4,(pP 2 0)),(8,.nilp),(9,.nils),(10,(iI 0)),(11,(iI (calS s []))),(16,(pmork2 s)),(17,.nils),(18,(iI (calS s []))),(19,(iI (calS s []))),(20,(.bool false)),(22,(pP 2 1)),(23,(.vs tK (s.2.1.1) (s.2.1.2))),(24,(iI (Int.ofNat s.2.1.2.length))),(25,(iI (wr .i64 (↑s.2.1.2.length-1)))),(26,(iI (k))),(27,(.sl 3 0 (1) (1) 1))]) [] 51 false ⟨39,[]⟩)),(.seq (pcOf F10 31 [1,0,1,1])),(.seq (pcOf F10 31 [1,1,1])),(.cal [(.tmp 8),(.tmp 9),(.tmp 10)] (.op (pcOf F10 9 [0,1]) 3 (some 17) ((opsOf (pcOf F10 9 [0,1]).c).toList.drop 3) (tmOf 49 [(0,(pmork2 s)),(1,(iI (k))),(2,(pmork1 t)),(3,(iI (n))),(4,(pP 0 0)),(6,(pP 1 0)),(8,.nils),(9,(iI 0)),(10,(iI 0)),(15,(pmork2 s)),(16,(iI (k)))]) [] 49 false ⟨40,[]⟩)),(.seq (pcOf F10 9 [1,1])),(.cal [(.tmp 8),(.tmp 9),(.tmp 10)] .top)]⟩
noncomputable def pmorg5 (s:tS.den) (t:tT.den) (k:Int):List (Nat×AO):=[(0,(pmork0 s)),(1,(pmork3 t)),(2,(pmork0 s)),(3,(.cells true [(iI (k))])),(4,(pmork3 t)),(5,(.cells true [(iI (t.1))]))]
noncomputable def pmorQ0 (s:tS.den) (k:Int) (t:tT.den):Hp:=(hpOf 8 (pmorg5 s t k))
noncomputable def pmorQ1 (s:tS.den) (k:Int) (t:tT.den):Hp:=(hpOf 8 [(0,(pmork0 s)),(1,(pmork3 t)),(2,(pmork0 s)),(3,(.cells true [(iI (k))])),(4,(pmork3 t))])
noncomputable def pmorg1 (s:tS.den) (k:Int) (t:tT.den):List (Nat×AV):=[(0,(.cp (Ty.cells tQ (stkS s [] k)) 0)),(1,(pmork1 t)),(3,(pP 4 0)),(4,(.bool false)),(5,(.cp (Ty.cells tQ (stkS s [] k)) 0)),(6,(.cp (Ty.cells tQ (stkS s [] k)) 0)),(7,(.cp (Ty.cells tQ (stkS s [] k)) 3)),(8,(.cp (Ty.cells tQ (stkS s [] k)) 4)),(9,(.cp (Ty.cells tQ (stkS s [] k)) 4)),(10,(iI ((stkS s [] k).2.1.2.1.1))),(11,(.cp (Ty.cells tQ (stkS s [] k)) 0)),(12,(.cp (Ty.cells tQ (stkS s [] k)) 0)),(13,(.cp (Ty.cells tQ (stkS s [] k)) 3)),(14,(.cp (Ty.cells tQ (stkS s [] k)) 4)),(15,(.cp (Ty.cells tQ (stkS s [] k)) 5))]
noncomputable def pmorQ2 (s:tS.den) (k:Int) (t:tT.den):Tmps:=(tmOf 57 (pmorg1 s k t++[(16,(iI ((stkS s [] k).2.1.2.1.2.1))),(17,(pP 4 0))]))
noncomputable def pmorQ3 (s:tS.den) (k:Int) (t:tT.den):Tmps:=(tmOf 57 (pmorg1 s k t++[(16,(iI ((stkS s [] k).2.1.2.1.2.1))),(17,(pP 4 0)),(18,(iI (t.1)))]))
noncomputable def pmorQ4 (s:tS.den) (k:Int) (t:tT.den):Tmps:=(tmOf 57 (pmorg1 s k t))
noncomputable def pmorQ5 (s:tS.den) (k:Int) (t:tT.den):Tmps:=(tmOf 57 (pmorg1 s k t++[(16,(iI ((stkS s [] k).2.1.2.1.2.1)))]))
noncomputable def pmorg7 (s:tS.den) (k:Int) (t:tT.den):List (Nat×AV):=[(0,(.cp (Ty.cells tQ (stkS s [] k)) 0)),(1,(pmork1 t)),(3,(pP 4 0)),(4,(.bool false)),(5,(.cp (Ty.cells tQ (stkS s [] k)) 0)),(6,(.cp (Ty.cells tQ (stkS s [] k)) 0)),(7,(.cp (Ty.cells tQ (stkS s [] k)) 3)),(8,(.cp (Ty.cells tQ (stkS s [] k)) 4)),(9,(.cp (Ty.cells tQ (stkS s [] k)) 4))]
noncomputable def pmorQ6 (s:tS.den) (k:Int) (t:tT.den):Tmps:=(tmOf 57 (pmorg7 s k t))
noncomputable def pmorQ7 (s:tS.den) (k:Int) (t:tT.den):Tmps:=(tmOf 57 (pmorg7 s k t++[(10,(iI ((stkS s [] k).2.1.2.1.1)))]))
noncomputable def pmork6 (z0:tS.den) (z1:Int):AV:=(.tup [(.cp (Ty.cells tQ (stkS z0 [] z1)) 0),(.vs tC (false) (lstS (stkS z0 [] z1))),(iI 0)])
noncomputable def pmorg3 (s:tS.den) (k:Int) (t:tT.den) (n:Int):List (Nat×AV):=[(0,(pmork2 s)),(10,(iI 0)),(1,(iI (k))),(2,(pmork1 t)),(3,(iI (n))),(4,(pP 0 0)),(6,(pP 1 0)),(8,.nils),(9,(iI 0)),(15,(pmork2 s)),(16,(iI (k))),(11,(.cp (Ty.cells tQ (stkS s [] k)) 0)),(12,(.vs tC (false) (lstS (stkS s [] k)))),(14,(pmork6 s k)),(17,(pmork6 s k)),(18,(.cp (Ty.cells tQ (stkS s [] k)) 0)),(19,(.vs tC (false) (lstS (stkS s [] k)))),(20,(iI 0)),(21,(iI 0)),(22,(.bool false)),(24,(.cp (Ty.cells tQ (stkS s [] k)) 0)),(25,(pmork1 t))]
noncomputable def pmorQ8 (s:tS.den) (k:Int) (t:tT.den) (n:Int):Tmps:=(tmOf 49 (pmorg3 s k t n))
noncomputable def pmork5 (z0:tS.den) (z1:Int) (z2:tT.den) (z3:Int):Fm:=(.cal [(.tmp 4)] (.op (pcOf F10 9 [0,0,1,1,1]) 3 (some 26) ((opsOf (pcOf F10 9 [0,0,1,1,1]).c).toList.drop 3) (pmorQ8 z0 z1 z2 z3) [] 49 false ⟨40,[]⟩))
noncomputable def pmorI1 (s:tS.den) (k:Int) (t:tT.den) (n:Int) (x6:Int) (x34:Nat):Cfg:=⟨.ex (pcOf F10 33 [0,0,1,0,1]) ⟨(tmOf 24 (pmorg8++[(0,(iI ((stkS s [] k).2.1.2.1.1))),(1,(iI ((stkS s [] k).2.1.2.1.2.1))),(2,(.csl [(iI (t.1))] 1)),(9,(.csl [(iI (t.1))] 1)),(11,(iI x6))])),(pmorQ0 s k t),[],[],24,false⟩,⟨38,[]⟩,[(.lop (pcOf F10 33 [0,0,1,0,1]) 8 (tmOf 24 (pmorg8++[(0,(iI ((stkS s [] k).2.1.2.1.1))),(1,(iI ((stkS s [] k).2.1.2.1.2.1))),(2,(.csl [(iI (t.1))] 1)),(9,(.csl [(iI (t.1))] 1)),(11,(iI 0))])) x34),(.blk 0),(.seq (pcOf F10 33 [1,1])),(.cal [(.tmp 6)] (.dr ⟨(pcOf F10 32 [0,1]),opsD (pcOf F10 32 [0,1]).c,5,(opsD (pcOf F10 32 [0,1]).c).toList.drop 16,(fsD (pcOf F10 32 [0,1]).c).drop 16,15,[((pmorQ1 s k t),0,none)],[((opsD (pcOf F10 32 [0,1]).c).getD 13 default,13,4096,(pmorQ2 s k t),(pmorQ3 s k t)),((opsD (pcOf F10 32 [0,1]).c).getD 11 default,11,1984,(pmorQ4 s k t),(pmorQ5 s k t)),((opsD (pcOf F10 32 [0,1]).c).getD 5 default,5,31,(pmorQ6 s k t),(pmorQ7 s k t))],false⟩ ((opsD (pcOf F10 32 [0,1]).c).getD 15 default) ((fsD (pcOf F10 32 [0,1]).c).getD 15 default) (tmOf 57 (pmorg1 s k t++[(16,(iI ((stkS s [] k).2.1.2.1.2.1))),(17,(pP 4 0)),(18,(iI (t.1))),(19,(.sl 5 0 (1) (1) 1))])) [] 57 false ⟨39,[]⟩)),(.seq (pcOf F10 32 [1,1])),(pmork5 s k t n),(.seq (pcOf F10 9 [1,0,1,1,1])),(.seq (pcOf F10 9 [1,1,1,1])),(.cal [(.tmp 8),(.tmp 9),(.tmp 10)] .top)]⟩
noncomputable def pmorQ9 (s:tS.den) (k:Int) (t:tT.den):Hp:=(hpOf 8 (pmorg5 s t k++[(6,(.cells true [(iI (t.2.1))]))]))
noncomputable def pmork4 (z0:tS.den) (z1:Int):AV:=(iI ((stkS z0 [] z1).2.1.2.2.1.2.1))
noncomputable def pmorg0 (s:tS.den) (k:Int) (t:tT.den):List (Nat×AV):=[(0,(.cp (Ty.cells tQ (stkS s [] k)) 0)),(1,(pmork1 t)),(3,(pP 4 0)),(4,(.bool false)),(5,(.cp (Ty.cells tQ (stkS s [] k)) 0)),(6,(.cp (Ty.cells tQ (stkS s [] k)) 0)),(7,(.cp (Ty.cells tQ (stkS s [] k)) 3)),(8,(.cp (Ty.cells tQ (stkS s [] k)) 4)),(9,(.cp (Ty.cells tQ (stkS s [] k)) 4)),(10,(iI ((stkS s [] k).2.1.2.1.1))),(11,(.cp (Ty.cells tQ (stkS s [] k)) 0)),(12,(.cp (Ty.cells tQ (stkS s [] k)) 0)),(13,(.cp (Ty.cells tQ (stkS s [] k)) 3)),(14,(.cp (Ty.cells tQ (stkS s [] k)) 4)),(15,(.cp (Ty.cells tQ (stkS s [] k)) 5)),(16,(iI ((stkS s [] k).2.1.2.1.2.1))),(17,(pP 4 0)),(18,(iI (t.1))),(19,(.sl 5 0 (1) (1) 1)),(20,(.bool true)),(21,(.bool true)),(22,(.cp (Ty.cells tQ (stkS s [] k)) 0)),(23,(.cp (Ty.cells tQ (stkS s [] k)) 0)),(24,(.cp (Ty.cells tQ (stkS s [] k)) 3)),(25,(.cp (Ty.cells tQ (stkS s [] k)) 6)),(26,(.cp (Ty.cells tQ (stkS s [] k)) 6)),(27,(iI ((stkS s [] k).2.1.2.2.1.1))),(28,(.cp (Ty.cells tQ (stkS s [] k)) 0)),(30,(.cp (Ty.cells tQ (stkS s [] k)) 3)),(31,(.cp (Ty.cells tQ (stkS s [] k)) 6)),(32,(.cp (Ty.cells tQ (stkS s [] k)) 7)),(29,(.cp (Ty.cells tQ (stkS s [] k)) 0))]
noncomputable def pmorQ10 (s:tS.den) (k:Int) (t:tT.den):Tmps:=(tmOf 57 (pmorg0 s k t++[(33,(pmork4 s k)),(34,(pP 4 1))]))
noncomputable def pmorQ11 (s:tS.den) (k:Int) (t:tT.den):Tmps:=(tmOf 57 (pmorg0 s k t++[(33,(pmork4 s k)),(34,(pP 4 1)),(35,(iI (t.2.1)))]))
noncomputable def pmorQ12 (s:tS.den) (k:Int) (t:tT.den):Tmps:=(tmOf 57 (pmorg0 s k t))
noncomputable def pmorQ13 (s:tS.den) (k:Int) (t:tT.den):Tmps:=(tmOf 57 (pmorg0 s k t++[(33,(pmork4 s k))]))
noncomputable def pmorg4 (s:tS.den) (k:Int) (t:tT.den):List (Nat×AV):=[(16,(iI ((stkS s [] k).2.1.2.1.2.1))),(17,(pP 4 0)),(18,(iI (t.1))),(19,(.sl 5 0 (1) (1) 1)),(20,(.bool true)),(21,(.bool true)),(22,(.cp (Ty.cells tQ (stkS s [] k)) 0)),(23,(.cp (Ty.cells tQ (stkS s [] k)) 0)),(24,(.cp (Ty.cells tQ (stkS s [] k)) 3)),(25,(.cp (Ty.cells tQ (stkS s [] k)) 6)),(26,(.cp (Ty.cells tQ (stkS s [] k)) 6))]
noncomputable def pmorQ14 (s:tS.den) (k:Int) (t:tT.den):Tmps:=(tmOf 57 (pmorg1 s k t++pmorg4 s k t))
noncomputable def pmorQ15 (s:tS.den) (k:Int) (t:tT.den):Tmps:=(tmOf 57 (pmorg1 s k t++pmorg4 s k t++[(27,(iI ((stkS s [] k).2.1.2.2.1.1)))]))
noncomputable def pmorI2 (s:tS.den) (k:Int) (t:tT.den) (n:Int) (x6:Int) (x35:Nat):Cfg:=⟨.ex (pcOf F10 33 [0,0,1,0,1]) ⟨(tmOf 24 (pmorg8++[(0,(iI ((stkS s [] k).2.1.2.2.1.1))),(1,(pmork4 s k)),(2,(.csl [(iI (t.2.1))] 1)),(9,(.csl [(iI (t.2.1))] 1)),(11,(iI x6))])),(pmorQ9 s k t),[],[],24,false⟩,⟨38,[]⟩,[(.lop (pcOf F10 33 [0,0,1,0,1]) 8 (tmOf 24 (pmorg8++[(0,(iI ((stkS s [] k).2.1.2.2.1.1))),(1,(pmork4 s k)),(2,(.csl [(iI (t.2.1))] 1)),(9,(.csl [(iI (t.2.1))] 1)),(11,(iI 0))])) x35),(.blk 0),(.seq (pcOf F10 33 [1,1])),(.cal [(.tmp 6)] (.dr ⟨(pcOf F10 32 [0,1]),opsD (pcOf F10 32 [0,1]).c,5,(opsD (pcOf F10 32 [0,1]).c).toList.drop 33,(fsD (pcOf F10 32 [0,1]).c).drop 33,32,[((pmorQ0 s k t),32767,(some 15)),((pmorQ1 s k t),0,none)],[((opsD (pcOf F10 32 [0,1]).c).getD 30 default,30,537001983,(pmorQ10 s k t),(pmorQ11 s k t)),((opsD (pcOf F10 32 [0,1]).c).getD 28 default,28,260177919,(pmorQ12 s k t),(pmorQ13 s k t)),((opsD (pcOf F10 32 [0,1]).c).getD 22 default,22,4194303,(pmorQ14 s k t),(pmorQ15 s k t)),((opsD (pcOf F10 32 [0,1]).c).getD 13 default,13,4096,(pmorQ2 s k t),(pmorQ3 s k t)),((opsD (pcOf F10 32 [0,1]).c).getD 11 default,11,1984,(pmorQ4 s k t),(pmorQ5 s k t)),((opsD (pcOf F10 32 [0,1]).c).getD 5 default,5,31,(pmorQ6 s k t),(pmorQ7 s k t))],false⟩ ((opsD (pcOf F10 32 [0,1]).c).getD 32 default) ((fsD (pcOf F10 32 [0,1]).c).getD 32 default) (tmOf 57 (pmorg0 s k t++[(33,(pmork4 s k)),(34,(pP 4 1)),(35,(iI (t.2.1))),(36,(.sl 6 0 (1) (1) 1))])) [] 57 false ⟨39,[]⟩)),(.seq (pcOf F10 32 [1,1])),(pmork5 s k t n),(.seq (pcOf F10 9 [1,0,1,1,1])),(.seq (pcOf F10 9 [1,1,1,1])),(.cal [(.tmp 8),(.tmp 9),(.tmp 10)] .top)]⟩
noncomputable def pmork7 (z0:tS.den) (z1:Int):AV:=(iI ((stkS z0 [] z1).2.1.2.2.2.1.1))
noncomputable def pmork8 (z0:tS.den) (z1:Int):AV:=(iI ((stkS z0 [] z1).2.1.2.2.2.1.2.1))
noncomputable def pmorg2 (s:tS.den) (k:Int) (t:tT.den):List (Nat×AV):=[(33,(pmork4 s k)),(34,(pP 4 1)),(35,(iI (t.2.1))),(36,(.sl 6 0 (1) (1) 1)),(37,(.bool true)),(38,(.bool true)),(39,(.bool true)),(40,(.cp (Ty.cells tQ (stkS s [] k)) 0)),(41,(.cp (Ty.cells tQ (stkS s [] k)) 0)),(42,(.cp (Ty.cells tQ (stkS s [] k)) 3)),(43,(.cp (Ty.cells tQ (stkS s [] k)) 8)),(44,(.cp (Ty.cells tQ (stkS s [] k)) 8)),(45,(pmork7 s k)),(46,(.cp (Ty.cells tQ (stkS s [] k)) 0)),(47,(.cp (Ty.cells tQ (stkS s [] k)) 0)),(48,(.cp (Ty.cells tQ (stkS s [] k)) 3)),(49,(.cp (Ty.cells tQ (stkS s [] k)) 8)),(50,(.cp (Ty.cells tQ (stkS s [] k)) 9))]
noncomputable def pmorg6 (s:tS.den) (k:Int) (t:tT.den):List (Nat×AV):=[(33,(pmork4 s k)),(34,(pP 4 1)),(35,(iI (t.2.1))),(36,(.sl 6 0 (1) (1) 1)),(37,(.bool true)),(38,(.bool true)),(39,(.bool true)),(40,(.cp (Ty.cells tQ (stkS s [] k)) 0)),(41,(.cp (Ty.cells tQ (stkS s [] k)) 0)),(42,(.cp (Ty.cells tQ (stkS s [] k)) 3)),(43,(.cp (Ty.cells tQ (stkS s [] k)) 8)),(44,(.cp (Ty.cells tQ (stkS s [] k)) 8))]
noncomputable def pmorI3 (s:tS.den) (k:Int) (t:tT.den) (n:Int) (x6:Int) (x36:Nat):Cfg:=⟨.ex (pcOf F10 33 [0,0,1,0,1]) ⟨(tmOf 24 (pmorg8++[(0,(pmork7 s k)),(1,(pmork8 s k)),(2,(.csl [(iI (t.2.2.1))] 1)),(9,(.csl [(iI (t.2.2.1))] 1)),(11,(iI x6))])),(hpOf 8 (pmorg5 s t k++[(6,(.cells true [(iI (t.2.1))])),(7,(.cells true [(iI (t.2.2.1))]))])),[],[],24,false⟩,⟨38,[]⟩,[(.lop (pcOf F10 33 [0,0,1,0,1]) 8 (tmOf 24 (pmorg8++[(0,(pmork7 s k)),(1,(pmork8 s k)),(2,(.csl [(iI (t.2.2.1))] 1)),(9,(.csl [(iI (t.2.2.1))] 1)),(11,(iI 0))])) x36),(.blk 0),(.seq (pcOf F10 33 [1,1])),(.cal [(.tmp 6)] (.dr ⟨(pcOf F10 32 [0,1]),opsD (pcOf F10 32 [0,1]).c,5,(opsD (pcOf F10 32 [0,1]).c).toList.drop 51,(fsD (pcOf F10 32 [0,1]).c).drop 51,50,[((pmorQ9 s k t),4294967295,(some 32)),((pmorQ0 s k t),32767,(some 15)),((pmorQ1 s k t),0,none)],[((opsD (pcOf F10 32 [0,1]).c).getD 48 default,48,140771848093695,(tmOf 57 (pmorg0 s k t++pmorg2 s k t++[(51,(pmork8 s k)),(52,(pP 4 2))])),(tmOf 57 (pmorg0 s k t++pmorg2 s k t++[(51,(pmork8 s k)),(52,(pP 4 2)),(53,(iI (t.2.2.1)))]))),((opsD (pcOf F10 32 [0,1]).c).getD 46 default,46,68204080660479,(tmOf 57 (pmorg0 s k t++pmorg2 s k t)),(tmOf 57 (pmorg0 s k t++pmorg2 s k t++[(51,(pmork8 s k))]))),((opsD (pcOf F10 32 [0,1]).c).getD 40 default,40,1099511627775,(tmOf 57 (pmorg0 s k t++pmorg6 s k t)),(tmOf 57 (pmorg0 s k t++pmorg6 s k t++[(45,(pmork7 s k))]))),((opsD (pcOf F10 32 [0,1]).c).getD 30 default,30,537001983,(pmorQ10 s k t),(pmorQ11 s k t)),((opsD (pcOf F10 32 [0,1]).c).getD 28 default,28,260177919,(pmorQ12 s k t),(pmorQ13 s k t)),((opsD (pcOf F10 32 [0,1]).c).getD 22 default,22,4194303,(pmorQ14 s k t),(pmorQ15 s k t)),((opsD (pcOf F10 32 [0,1]).c).getD 13 default,13,4096,(pmorQ2 s k t),(pmorQ3 s k t)),((opsD (pcOf F10 32 [0,1]).c).getD 11 default,11,1984,(pmorQ4 s k t),(pmorQ5 s k t)),((opsD (pcOf F10 32 [0,1]).c).getD 5 default,5,31,(pmorQ6 s k t),(pmorQ7 s k t))],false⟩ ((opsD (pcOf F10 32 [0,1]).c).getD 50 default) ((fsD (pcOf F10 32 [0,1]).c).getD 50 default) (tmOf 57 (pmorg0 s k t++pmorg2 s k t++[(51,(pmork8 s k)),(52,(pP 4 2)),(53,(iI (t.2.2.1))),(54,(.sl 7 0 (1) (1) 1))])) [] 57 false ⟨39,[]⟩)),(.seq (pcOf F10 32 [1,1])),(pmork5 s k t n),(.seq (pcOf F10 9 [1,0,1,1,1])),(.seq (pcOf F10 9 [1,1,1,1])),(.cal [(.tmp 8),(.tmp 9),(.tmp 10)] .top)]⟩
noncomputable def pmorI4 (s:tS.den) (k:Int) (t:tT.den) (n:Int) (x6:Int) (x37:Nat):Cfg:=⟨.ex (pcOf F10 33 [0,0,1,0,1]) ⟨(tmOf 24 (pmorg8++[(0,(iI 0)),(1,(iI (Int.ofNat (stkS s [] k).1.1.2.length))),(2,(.csl [(iI (n))] 1)),(9,(.csl [(iI (n))] 1)),(11,(iI x6))])),(hpOf 9 (pmorg5 s t k++[(6,(.cells true [(iI (t.2.1))])),(7,(.cells true [(iI (t.2.2.1))])),(8,(.cells true [(iI (n))]))])),[],[],24,false⟩,⟨39,[]⟩,[(.lop (pcOf F10 33 [0,0,1,0,1]) 9 (tmOf 24 (pmorg8++[(0,(iI 0)),(1,(iI (Int.ofNat (stkS s [] k).1.1.2.length))),(2,(.csl [(iI (n))] 1)),(9,(.csl [(iI (n))] 1)),(11,(iI 0))])) x37),(.blk 0),(.seq (pcOf F10 33 [1,1])),(.cal [(.tmp 6)] (.op (pcOf F10 9 [0,0,1,1,1]) 10 (some 33) ((opsOf (pcOf F10 9 [0,0,1,1,1]).c).toList.drop 10) (tmOf 49 (pmorg3 s k t n++[(26,(.bool true)),(27,(.bool false)),(28,(.bool false)),(29,(.cp (Ty.cells tQ (stkS s [] k)) 0)),(30,(iI (Int.ofNat (stkS s [] k).1.1.2.length))),(31,(iI (n))),(32,(.sl 8 0 (1) (1) 1))])) [] 49 false ⟨40,[]⟩)),(.seq (pcOf F10 9 [1,0,1,1,1])),(.seq (pcOf F10 9 [1,1,1,1])),(.cal [(.tmp 8),(.tmp 9),(.tmp 10)] .top)]⟩
theorem pmor_start (s:tS.den) (k:Int) (t:tT.den) (n:Int):adv F10 (Z10 [33]) 6000 (startC F10 9 [tS.av s,.int .i64 k,tT.av t,.int .i64 n] 40)=(bif !ieq (calS s []) 0 then (bif !ieq (calS s []) 0 then some (.done (.tup [.nils,(.int .i64 (0)),(.int .i64 (calS s []))])) else none) else some (.stop (pmorI0 s k t n (0) (1048575)))):=by kernel_rfl
theorem pmor_step0 (s:tS.den) (k:Int) (t:tT.den) (n:Int) (x6:Int) (x30:Nat):adv F10 (Z10 [33]) 6000 (pmorI0 s k t n x6 (x30+1))=(bif !ile 1 x6 then (bif inB x6 1 then (bif isZs [AV.int IntKind.i64 k] [AV.int IntKind.i64 0] (x6.toNat * 1) then (bif !ile 0 (toI ([AV.int IntKind.i64 k].getD (x6.toNat * 1) AV.nili)) then some (.done (.tup [.nils,(.int .i64 (0)),(.int .i64 (4))])) else (bif !ile (toI ([AV.int IntKind.i64 k].getD (x6.toNat * 1) AV.nili)) (wr .i64 (↑s.2.1.2.length-1)) then some (.done (.tup [.nils,(.int .i64 (0)),(.int .i64 (4))])) else some (.stop (pmorI0 s k t n (wr .i64 (x6+1)) (x30))))) else none) else none) else (bif newB s [] k then (bif kokB (stkS s [] k) then (bif ieq (↑(lstS (stkS s [] k)).length) 0 then some (.done (.tup [.nils,(.int .i64 (0)),(.int .i64 (9))])) else some (.stop (pmorI1 s k t n (0) (1048575)))) else none) else none)):=by kernel_rfl
theorem pmor_step1 (s:tS.den) (k:Int) (t:tT.den) (n:Int) (x6:Int) (x34:Nat):adv F10 (Z10 [33]) 6000 (pmorI1 s k t n x6 (x34+1))=(bif !ile 1 x6 then (bif inB x6 1 then (bif isZs [AV.int IntKind.i64 t.1] [AV.int IntKind.i64 0] (x6.toNat * 1) then (bif !ile (stkS s [] k).2.1.2.1.1 (toI ([AV.int IntKind.i64 t.1].getD (x6.toNat * 1) AV.nili)) then (bif ieq t.1 t.1 then some (.done (.tup [.nils,(.int .i64 (0)),(.int .i64 (7))])) else none) else (bif !ile (toI ([AV.int IntKind.i64 t.1].getD (x6.toNat * 1) AV.nili)) (stkS s [] k).2.1.2.1.2.1 then (bif ieq t.1 t.1 then some (.done (.tup [.nils,(.int .i64 (0)),(.int .i64 (7))])) else none) else some (.stop (pmorI1 s k t n (wr .i64 (x6+1)) (x34))))) else none) else none) else some (.stop (pmorI2 s k t n (0) (1048575)))):=by kernel_rfl
theorem pmor_step2 (s:tS.den) (k:Int) (t:tT.den) (n:Int) (x6:Int) (x35:Nat):adv F10 (Z10 [33]) 6000 (pmorI2 s k t n x6 (x35+1))=(bif !ile 1 x6 then (bif inB x6 1 then (bif isZs [AV.int IntKind.i64 t.2.1] [AV.int IntKind.i64 0] (x6.toNat * 1) then (bif !ile (stkS s [] k).2.1.2.2.1.1 (toI ([AV.int IntKind.i64 t.2.1].getD (x6.toNat * 1) AV.nili)) then (bif ieq t.2.1 t.2.1 then (bif ieq t.1 t.1 then some (.done (.tup [.nils,(.int .i64 (0)),(.int .i64 (7))])) else none) else none) else (bif !ile (toI ([AV.int IntKind.i64 t.2.1].getD (x6.toNat * 1) AV.nili)) (stkS s [] k).2.1.2.2.1.2.1 then (bif ieq t.2.1 t.2.1 then (bif ieq t.1 t.1 then some (.done (.tup [.nils,(.int .i64 (0)),(.int .i64 (7))])) else none) else none) else some (.stop (pmorI2 s k t n (wr .i64 (x6+1)) (x35))))) else none) else none) else some (.stop (pmorI3 s k t n (0) (1048575)))):=by kernel_rfl
theorem pmor_step3 (s:tS.den) (k:Int) (t:tT.den) (n:Int) (x6:Int) (x36:Nat):adv F10 (Z10 [33]) 6000 (pmorI3 s k t n x6 (x36+1))=(bif !ile 1 x6 then (bif inB x6 1 then (bif isZs [AV.int IntKind.i64 t.2.2.1] [AV.int IntKind.i64 0] (x6.toNat * 1) then (bif !ile (stkS s [] k).2.1.2.2.2.1.1 (toI ([AV.int IntKind.i64 t.2.2.1].getD (x6.toNat * 1) AV.nili)) then (bif ieq t.2.2.1 t.2.2.1 then (bif ieq t.2.1 t.2.1 then (bif ieq t.1 t.1 then some (.done (.tup [.nils,(.int .i64 (0)),(.int .i64 (7))])) else none) else none) else none) else (bif !ile (toI ([AV.int IntKind.i64 t.2.2.1].getD (x6.toNat * 1) AV.nili)) (stkS s [] k).2.1.2.2.2.1.2.1 then (bif ieq t.2.2.1 t.2.2.1 then (bif ieq t.2.1 t.2.1 then (bif ieq t.1 t.1 then some (.done (.tup [.nils,(.int .i64 (0)),(.int .i64 (7))])) else none) else none) else none) else some (.stop (pmorI3 s k t n (wr .i64 (x6+1)) (x36))))) else none) else none) else (bif ieq t.2.2.1 t.2.2.1 then (bif ieq t.2.1 t.2.1 then (bif ieq t.1 t.1 then some (.stop (pmorI4 s k t n (0) (1048575))) else none) else none) else none)):=by kernel_rfl
theorem pmor_step4 (s:tS.den) (k:Int) (t:tT.den) (n:Int) (x6:Int) (x37:Nat):adv F10 (Z10 [33]) 6000 (pmorI4 s k t n x6 (x37+1))=(bif !ile 1 x6 then (bif inB x6 1 then (bif isZs [AV.int IntKind.i64 n] [AV.int IntKind.i64 0] (x6.toNat * 1) then (bif !ile 0 (toI ([AV.int IntKind.i64 n].getD (x6.toNat * 1) AV.nili)) then some (.done (.tup [.nils,(.int .i64 (0)),(.int .i64 (7))])) else (bif !ile (toI ([AV.int IntKind.i64 n].getD (x6.toNat * 1) AV.nili)) (Int.ofNat (stkS s [] k).1.1.2.length) then some (.done (.tup [.nils,(.int .i64 (0)),(.int .i64 (7))])) else some (.stop (pmorI4 s k t n (wr .i64 (x6+1)) (x37))))) else none) else none) else (bif (stkS s [] k).1.1.2.length.ble 30 then (bif inB (wr .i64 (↑(stkS s [] k).1.1.2.length+1)) (31+1) then (bif (0+(wr .i64 (↑(stkS s [] k).1.1.2.length+1)).toNat * 1).ble (List.drop 0 (setAt (AV.agg [AV.int IntKind.i64 0,AV.int IntKind.i64 0,AV.int IntKind.i64 0,AV.int IntKind.i64 0,AV.int IntKind.i64 0,AV.int IntKind.i64 0,AV.int IntKind.i64 0,AV.int IntKind.i64 0,AV.int IntKind.i64 0,AV.int IntKind.i64 0,AV.int IntKind.i64 0,AV.int IntKind.i64 0,AV.int IntKind.i64 0,AV.int IntKind.i64 0,AV.int IntKind.i64 0,AV.int IntKind.i64 0,AV.int IntKind.i64 0,AV.int IntKind.i64 0,AV.int IntKind.i64 0,AV.int IntKind.i64 0,AV.int IntKind.i64 0,AV.int IntKind.i64 0,AV.int IntKind.i64 0,AV.int IntKind.i64 0,AV.int IntKind.i64 0,AV.int IntKind.i64 0,AV.int IntKind.i64 0,AV.int IntKind.i64 0,AV.int IntKind.i64 0,AV.int IntKind.i64 0,AV.int IntKind.i64 0]).cells 0 (AV.agg (tG.cells (mrnA (stkS s [] k) t n))).cells)).length then (bif (wr .i64 (↑(stkS s [] k).1.1.2.length+1)).toNat.ble 1048576&&oneAll (List.take ((wr .i64 (↑(stkS s [] k).1.1.2.length+1)).toNat * 1) (List.drop 0 (List.drop 0 (setAt (AV.agg [AV.int IntKind.i64 0,AV.int IntKind.i64 0,AV.int IntKind.i64 0,AV.int IntKind.i64 0,AV.int IntKind.i64 0,AV.int IntKind.i64 0,AV.int IntKind.i64 0,AV.int IntKind.i64 0,AV.int IntKind.i64 0,AV.int IntKind.i64 0,AV.int IntKind.i64 0,AV.int IntKind.i64 0,AV.int IntKind.i64 0,AV.int IntKind.i64 0,AV.int IntKind.i64 0,AV.int IntKind.i64 0,AV.int IntKind.i64 0,AV.int IntKind.i64 0,AV.int IntKind.i64 0,AV.int IntKind.i64 0,AV.int IntKind.i64 0,AV.int IntKind.i64 0,AV.int IntKind.i64 0,AV.int IntKind.i64 0,AV.int IntKind.i64 0,AV.int IntKind.i64 0,AV.int IntKind.i64 0,AV.int IntKind.i64 0,AV.int IntKind.i64 0,AV.int IntKind.i64 0,AV.int IntKind.i64 0]).cells 0 (AV.agg (tG.cells (mrnA (stkS s [] k) t n))).cells))))&&(F10.bytes 3).ble 65536 then (bif (wr .i64 (↑(stkS s [] k).1.1.2.length+1)).toNat.beq 0 then some (.done (.tup [(.csl [] 0),(.int .i64 (shtA (stkS s [] k) t n)),(.int .i64 (0))])) else (bif plainL ([]++List.take ((wr .i64 (↑(stkS s [] k).1.1.2.length+1)).toNat * 1) (List.drop 0 (List.drop 0 (setAt (AV.agg [AV.int IntKind.i64 0,AV.int IntKind.i64 0,AV.int IntKind.i64 0,AV.int IntKind.i64 0,AV.int IntKind.i64 0,AV.int IntKind.i64 0,AV.int IntKind.i64 0,AV.int IntKind.i64 0,AV.int IntKind.i64 0,AV.int IntKind.i64 0,AV.int IntKind.i64 0,AV.int IntKind.i64 0,AV.int IntKind.i64 0,AV.int IntKind.i64 0,AV.int IntKind.i64 0,AV.int IntKind.i64 0,AV.int IntKind.i64 0,AV.int IntKind.i64 0,AV.int IntKind.i64 0,AV.int IntKind.i64 0,AV.int IntKind.i64 0,AV.int IntKind.i64 0,AV.int IntKind.i64 0,AV.int IntKind.i64 0,AV.int IntKind.i64 0,AV.int IntKind.i64 0,AV.int IntKind.i64 0,AV.int IntKind.i64 0,AV.int IntKind.i64 0,AV.int IntKind.i64 0,AV.int IntKind.i64 0]).cells 0 (AV.agg (tG.cells (mrnA (stkS s [] k) t n))).cells)))) then some (.done (.tup [(.csl ([]++List.take ((wr .i64 (↑(stkS s [] k).1.1.2.length+1)).toNat * 1) (List.drop 0 (List.drop 0 (setAt (AV.agg [AV.int IntKind.i64 0,AV.int IntKind.i64 0,AV.int IntKind.i64 0,AV.int IntKind.i64 0,AV.int IntKind.i64 0,AV.int IntKind.i64 0,AV.int IntKind.i64 0,AV.int IntKind.i64 0,AV.int IntKind.i64 0,AV.int IntKind.i64 0,AV.int IntKind.i64 0,AV.int IntKind.i64 0,AV.int IntKind.i64 0,AV.int IntKind.i64 0,AV.int IntKind.i64 0,AV.int IntKind.i64 0,AV.int IntKind.i64 0,AV.int IntKind.i64 0,AV.int IntKind.i64 0,AV.int IntKind.i64 0,AV.int IntKind.i64 0,AV.int IntKind.i64 0,AV.int IntKind.i64 0,AV.int IntKind.i64 0,AV.int IntKind.i64 0,AV.int IntKind.i64 0,AV.int IntKind.i64 0,AV.int IntKind.i64 0,AV.int IntKind.i64 0,AV.int IntKind.i64 0,AV.int IntKind.i64 0]).cells 0 (AV.agg (tG.cells (mrnA (stkS s [] k) t n))).cells)))) (0+(wr .i64 (↑(stkS s [] k).1.1.2.length+1)).toNat)),(.int .i64 (shtA (stkS s [] k) t n)),(.int .i64 (0))])) else none)) else none) else none) else none) else none)):=by kernel_rfl
theorem oneI:∀ (l:List Int),oneAll (flat tI l)=true
 |[]=>rfl
 |_::l=>oneI l
theorem take_cl (f:Nat→Int) (m:Nat) (h:m≤31):(cl f).take m=flat tI ((List.range m).map f):=by
 refine List.ext_getElem? fun i=>?_
 rw[List.getElem?_take]
 by_cases hi:i<m
 · rw [if_pos hi, cl_get f (by omega), flatI_get _ i (by simp; omega)]
   simp
 · rw [if_neg hi]
   exact (List.getElem?_eq_none_iff.2 (by rw[flatI_len];simp;omega)).symm
theorem setz (z:tG.den):setAt (AV.agg [AV.int .i64 0,AV.int .i64 0,AV.int .i64 0,AV.int .i64 0,AV.int .i64 0,AV.int .i64 0,AV.int .i64 0,AV.int .i64 0,AV.int .i64 0,AV.int .i64 0,AV.int .i64 0,AV.int .i64 0,AV.int .i64 0,AV.int .i64 0,AV.int .i64 0,AV.int .i64 0,AV.int .i64 0,AV.int .i64 0,AV.int .i64 0,AV.int .i64 0,AV.int .i64 0,AV.int .i64 0,AV.int .i64 0,AV.int .i64 0,AV.int .i64 0,AV.int .i64 0,AV.int .i64 0,AV.int .i64 0,AV.int .i64 0,AV.int .i64 0,AV.int .i64 0]).cells 0 (AV.agg (tG.cells z)).cells=tG.cells z:=by kernel_rfl
theorem lstS_ne {d:tQ.den} (h1:@LE.le Int _ d.2.1.2.2.1.1 d.2.1.2.2.1.2.1) (h2:@LE.le Int _ d.2.1.2.2.2.1.1 d.2.1.2.2.2.1.2.1):ieq ((lstS d).length:Int) 0=false:=by
 rw[ieq_iff];refine decide_eq_false ?_
 unfold lstS
 obtain⟨m,hm⟩:∃ m,(d.2.1.2.2.1.2.1-d.2.1.2.2.1.1+1:Int).toNat=m+1:=⟨(d.2.1.2.2.1.2.1-d.2.1.2.2.1.1:Int).toNat,by omega⟩
 rw[hm]
 unfold manL
 rw[List.length_append,shpL_len]
 omega
theorem new_ok {s:tS.den} (H:StOK s) {k:Int} (hk:inB k s.2.1.2.length=true):newB s [] k=true:=by
 have h8:=H.len.c2
 have h30:=H.len.m2
 unfold newB
 rw[hk,Nat.ble_eq_true_of_le h8,show Nat.ble ([]:List tN.den).length 8=true from rfl,Bool.true_and,Bool.true_and,Bool.true_and,List.all_eq_true]
 intro c hc
 obtain⟨a,b,_,_⟩:=cE_ok (H.car c hc)
 rw[inB_iff];exact decide_eq_true ⟨a,by omega⟩
theorem kind_mem {s:tS.den} {k:Int} (h:inB k s.2.1.2.length=true):kdS s k∈s.2.1.2:=by
 cases k with
 |negSucc m=>cases h
 |ofNat j=>
  have hj:j<s.2.1.2.length:=Nat.le_of_ble_eq_true h
  show s.2.1.2.getD j tK.dflt∈_
  rw[List.getD_eq_getElem?_getD,List.getElem?_eq_getElem hj];exact List.getElem_mem hj
theorem kok_ok {s:tS.den} (H:StOK s) {k:Int} (hk:inB k s.2.1.2.length=true):kokB (stkS s [] k)=true:=by
 obtain⟨hA,hL⟩:=H.kin _ (kind_mem hk)
 unfold kA at hA
 unfold kL at hL
 simp only[Bool.and_eq_true] at hA hL
 obtain⟨a1,a2,a3,a4,a5,a6,a7,a8,a9,a10,a11,a12,a13,a14,a15,a16⟩:=hA
 obtain⟨l1,l2,l3⟩:=hL
 show (noM []&&(Nat.ble s.1.2.length 30&&(ile 0 (kdS s k).2.1.1&&(ile (kdS s k).2.1.1 (kdS s k).2.1.2.1&&(ile (kdS s k).2.1.2.1 300&&(ile 0 (kdS s k).2.2.1.1&&(ile (kdS s k).2.2.1.1 (kdS s k).2.2.1.2.1&&(ile (kdS s k).2.2.1.2.1 6&&(ile 0 (kdS s k).2.2.2.1.1&&(ile (kdS s k).2.2.2.1.1 (kdS s k).2.2.2.1.2.1&&ile (kdS s k).2.2.2.1.2.1 12))))))))))=true
 rw[Nat.ble_eq_true_of_le H.len.m2,a1,l1,a4,a7,l2,a10,a11,l3,a14];rfl
theorem pm4 {s:tS.den} (H:StOK s) {k:Int} {t:tT.den} {n:Int} (hk:inB k s.2.1.2.length=true) (hc:canS s k t=true) (he:(bif ile 0 n&&ile n (s.1.2.length:Int) then (0:Int) else 7)=morE s k t n):Ans F10 (pmorI4 s k t n 0 1048575) (morV s k t n):=by
 have h:=pmor_step4 s k t n 0 1048574
 have el:(stkS s [] k).1.1.2.length=s.1.2.length:=rfl
 rw[show (Int.ofNat (stkS s [] k).1.1.2.length)=(s.1.2.length:Int) from rfl,show inB 0 1=true from rfl,show ile 1 0=false from rfl,show isZs [AV.int .i64 n] [AV.int .i64 0] ((0:Int).toNat * 1)=true from rfl,show toI (([AV.int .i64 n]).getD ((0:Int).toNat * 1) AV.nili)=n from rfl] at h
 simp only[Bool.not_false,cond_true,cond_not'] at h
 cases c1:ile 0 n with
 |false=>
  rw[c1] at h he
  exact .doneT (Z10_ok _) F10sy h (mor_err he.symm rfl)
 |true=>
 cases c2:ile n (s.1.2.length:Int) with
 |false=>
  rw[c1,c2] at h he
  exact .doneT (Z10_ok _) F10sy h (mor_err he.symm rfl)
 |true=>
 rw[c1,c2] at h he
 refine .stop (Z10_ok _) F10sy h ?_
 have h:=pmor_step4 s k t n 1 1048573
 have h30:=H.len.m2
 obtain⟨hA,hL⟩:=H.kin _ (kind_mem hk)
 unfold kA at hA
 simp only[Bool.and_eq_true] at hA
 obtain⟨a1,a2,a3,a4,a5,a6,a7,a8,a9,a10,a11,a12,a13,a14,a15,a16⟩:=hA
 unfold canS at hc
 simp only[Bool.and_eq_true] at hc
 obtain⟨b1,b2,b3,b4,b5,b6⟩:=hc
 have i1:=ile_le a1;have i4:=ile_le a4;have i7:=ile_le a7;have i10:=ile_le a10;have i11:=ile_le a11;have i14:=ile_le a14
 have j1:=ile_le b1;have j2:=ile_le b2;have j3:=ile_le b3;have j4:=ile_le b4;have j5:=ile_le b5;have j6:=ile_le b6
 have T:TOk s k t:=⟨hk,Int.le_trans i1 j1,Int.le_trans j2 i4,Int.le_trans i7 j3,Int.le_trans j4 i10,Int.le_trans i11 j5,Int.le_trans j6 i14⟩
 have eM:(List.range (s.1.2.length+1)).map (mF (stkS s [] k) t n s.1.2.length)=rmL s k t n (s.1.2.length+1):=by
  unfold rmL
  refine List.map_congr_left fun i hi=>?_
  have hi:i<s.1.2.length+1:=by simpa using hi
  unfold mF
  rw[Nat.ble_eq_true_of_le (show i≤s.1.2.length by omega),cond_true]
  exact (morn_eq H T [] n i (by omega)).1
 have eL:List.take (s.1.2.length+1) (tG.cells (mrnA (stkS s [] k) t n))=flat tI (rmL s k t n (s.1.2.length+1)):=by
  rw[← eM];exact take_cl _ _ (by omega)
 have eS:shtA (stkS s [] k) t n=rsF s k t n s.1.2.length:=(shrt_eq H T [] n s.1.2.length (Nat.le_refl _)).1
 rw[show ile 1 1=true from rfl,Bool.not_true,cond_false,setz,eS] at h
 simp only[show (stkS s [] k).1.1.2.length=s.1.2.length from rfl] at h
 have eW:wr .i64 ((s.1.2.length:Int)+1)=((s.1.2.length+1:Nat):Int):=wr_succ (by omega)
 have eN:((s.1.2.length+1:Nat):Int).toNat=s.1.2.length+1:=by simp
 have hlen:(tG.cells (mrnA (stkS s [] k) t n)).length=31:=z_len 31 _
 have hby:Nat.ble (F10.bytes 3) 65536=true:=by kernel_rfl
 simp only[eW,eN,List.drop_zero,Nat.mul_one,Nat.zero_add,hlen,eL,oneI,flatI_plain,List.nil_append,hby,Nat.ble_eq_true_of_le h30,show inB ((s.1.2.length+1:Nat):Int) (31+1)=true from inB_at (by omega),Nat.ble_eq_true_of_le (show s.1.2.length+1≤31 by omega),Nat.ble_eq_true_of_le (show s.1.2.length+1≤1048576 by omega),Bool.and_self,cond_true,show Nat.beq (s.1.2.length+1) 0=false from rfl,cond_false] at h
 rw[mor_ok he.symm]
 refine .doneT (Z10_ok _) F10sy h (Tells.tupL (.cons ?_ (.refl _)))
 have e:=Tells.csl (t:=tI) (l:=rmL s k t n (s.1.2.length+1))
 rw[rmL_len] at e
 exact e
end Go.Proofs.YtelibdeanepdjaaGreat


set_option maxRecDepth 100000
namespace Go.Proofs.YtelibdeanepdjaaGreat
open Go Go.Eng
theorem mor_7 {s:tS.den} {k:Int} {t:tT.den} {n:Int} (he:(bif canS s k t&&(ile 0 n&&ile n (s.1.2.length:Int)) then (0:Int) else 7)=morE s k t n) (hc:canS s k t=false):morE s k t n=7:=by
 rw[← he,hc];rfl
theorem pm3 {s:tS.den} (H:StOK s) {k:Int} {t:tT.den} {n:Int} (hk:inB k s.2.1.2.length=true) (he:(bif canS s k t&&(ile 0 n&&ile n (s.1.2.length:Int)) then (0:Int) else 7)=morE s k t n) (d1:ile (s.2.1.2.getD k.toNat tK.dflt).2.1.1 t.1=true) (e1:ile t.1 (s.2.1.2.getD k.toNat tK.dflt).2.1.2.1=true) (d2:ile (s.2.1.2.getD k.toNat tK.dflt).2.2.1.1 t.2.1=true) (e2:ile t.2.1 (s.2.1.2.getD k.toNat tK.dflt).2.2.1.2.1=true):Ans F10 (pmorI3 s k t n 0 1048575) (morV s k t n):=by
 have h:=pmor_step3 s k t n 0 1048574
 rw[show inB 0 1=true from rfl,show ile 1 0=false from rfl,show isZs [AV.int .i64 t.2.2.1] [AV.int .i64 0] ((0:Int).toNat * 1)=true from rfl,show toI (([AV.int .i64 t.2.2.1]).getD ((0:Int).toNat * 1) AV.nili)=t.2.2.1 from rfl] at h
 simp only[Bool.not_false,cond_true,cond_not',ieq_self] at h
 cases c1:ile (s.2.1.2.getD k.toNat tK.dflt).2.2.2.1.1 t.2.2.1 with
 |false=>
  rw[show ile (stkS s [] k).2.1.2.2.2.1.1 t.2.2.1=false from c1] at h
  exact .doneT (Z10_ok _) F10sy h (mor_err (mor_7 he (by unfold canS;simp only[c1,Bool.false_and,Bool.and_false])) rfl)
 |true=>
 cases c2:ile t.2.2.1 (s.2.1.2.getD k.toNat tK.dflt).2.2.2.1.2.1 with
 |false=>
  rw[show ile (stkS s [] k).2.1.2.2.2.1.1 t.2.2.1=true from c1,show ile t.2.2.1 (stkS s [] k).2.1.2.2.2.1.2.1=false from c2] at h
  exact .doneT (Z10_ok _) F10sy h (mor_err (mor_7 he (by unfold canS;simp only[c2,Bool.false_and,Bool.and_false])) rfl)
 |true=>
 rw[show ile (stkS s [] k).2.1.2.2.2.1.1 t.2.2.1=true from c1,show ile t.2.2.1 (stkS s [] k).2.1.2.2.2.1.2.1=true from c2] at h
 refine .stop (Z10_ok _) F10sy h ?_
 have h:=pmor_step3 s k t n 1 1048573
 rw[show ile 1 1=true from rfl,Bool.not_true,cond_false] at h
 try simp only[ieq_self,cond_true] at h
 exact .stop (Z10_ok _) F10sy h (pm4 H hk (by unfold canS;simp only[d1,e1,d2,e2,c1,c2,Bool.and_self]) (by rw[← he,show canS s k t=true by unfold canS;simp only[d1,e1,d2,e2,c1,c2,Bool.and_self],Bool.true_and]))
theorem pm2 {s:tS.den} (H:StOK s) {k:Int} {t:tT.den} {n:Int} (hk:inB k s.2.1.2.length=true) (he:(bif canS s k t&&(ile 0 n&&ile n (s.1.2.length:Int)) then (0:Int) else 7)=morE s k t n) (d1:ile (s.2.1.2.getD k.toNat tK.dflt).2.1.1 t.1=true) (e1:ile t.1 (s.2.1.2.getD k.toNat tK.dflt).2.1.2.1=true):Ans F10 (pmorI2 s k t n 0 1048575) (morV s k t n):=by
 have h:=pmor_step2 s k t n 0 1048574
 rw[show inB 0 1=true from rfl,show ile 1 0=false from rfl,show isZs [AV.int .i64 t.2.1] [AV.int .i64 0] ((0:Int).toNat * 1)=true from rfl,show toI (([AV.int .i64 t.2.1]).getD ((0:Int).toNat * 1) AV.nili)=t.2.1 from rfl] at h
 simp only[Bool.not_false,cond_true,cond_not',ieq_self] at h
 cases c1:ile (s.2.1.2.getD k.toNat tK.dflt).2.2.1.1 t.2.1 with
 |false=>
  rw[show ile (stkS s [] k).2.1.2.2.1.1 t.2.1=false from c1] at h
  exact .doneT (Z10_ok _) F10sy h (mor_err (mor_7 he (by unfold canS;simp only[c1,Bool.false_and,Bool.and_false])) rfl)
 |true=>
 cases c2:ile t.2.1 (s.2.1.2.getD k.toNat tK.dflt).2.2.1.2.1 with
 |false=>
  rw[show ile (stkS s [] k).2.1.2.2.1.1 t.2.1=true from c1,show ile t.2.1 (stkS s [] k).2.1.2.2.1.2.1=false from c2] at h
  exact .doneT (Z10_ok _) F10sy h (mor_err (mor_7 he (by unfold canS;simp only[c2,Bool.false_and,Bool.and_false])) rfl)
 |true=>
 rw[show ile (stkS s [] k).2.1.2.2.1.1 t.2.1=true from c1,show ile t.2.1 (stkS s [] k).2.1.2.2.1.2.1=true from c2] at h
 refine .stop (Z10_ok _) F10sy h ?_
 have h:=pmor_step2 s k t n 1 1048573
 rw[show ile 1 1=true from rfl,Bool.not_true,cond_false] at h
 try simp only[ieq_self,cond_true] at h
 exact .stop (Z10_ok _) F10sy h (pm3 H hk he d1 e1 c1 c2)
theorem pm1 {s:tS.den} (H:StOK s) {k:Int} {t:tT.den} {n:Int} (hk:inB k s.2.1.2.length=true) (he:(bif canS s k t&&(ile 0 n&&ile n (s.1.2.length:Int)) then (0:Int) else 7)=morE s k t n):Ans F10 (pmorI1 s k t n 0 1048575) (morV s k t n):=by
 have h:=pmor_step1 s k t n 0 1048574
 rw[show inB 0 1=true from rfl,show ile 1 0=false from rfl,show isZs [AV.int .i64 t.1] [AV.int .i64 0] ((0:Int).toNat * 1)=true from rfl,show toI (([AV.int .i64 t.1]).getD ((0:Int).toNat * 1) AV.nili)=t.1 from rfl] at h
 simp only[Bool.not_false,cond_true,cond_not',ieq_self] at h
 cases c1:ile (s.2.1.2.getD k.toNat tK.dflt).2.1.1 t.1 with
 |false=>
  rw[show ile (stkS s [] k).2.1.2.1.1 t.1=false from c1] at h
  exact .doneT (Z10_ok _) F10sy h (mor_err (mor_7 he (by unfold canS;simp only[c1,Bool.false_and,Bool.and_false])) rfl)
 |true=>
 cases c2:ile t.1 (s.2.1.2.getD k.toNat tK.dflt).2.1.2.1 with
 |false=>
  rw[show ile (stkS s [] k).2.1.2.1.1 t.1=true from c1,show ile t.1 (stkS s [] k).2.1.2.1.2.1=false from c2] at h
  exact .doneT (Z10_ok _) F10sy h (mor_err (mor_7 he (by unfold canS;simp only[c2,Bool.false_and,Bool.and_false])) rfl)
 |true=>
 rw[show ile (stkS s [] k).2.1.2.1.1 t.1=true from c1,show ile t.1 (stkS s [] k).2.1.2.1.2.1=true from c2] at h
 refine .stop (Z10_ok _) F10sy h ?_
 have h:=pmor_step1 s k t n 1 1048573
 rw[show ile 1 1=true from rfl,Bool.not_true,cond_false] at h
 try simp only[ieq_self,cond_true] at h
 exact .stop (Z10_ok _) F10sy h (pm2 H hk he c1 c2)
theorem cal_nil (s:tS.den):calS s []=(chkS s).2.2:=by
 unfold calS
 cases c:ieq (chkS s).2.2 0 with
 |false=>rfl
 |true=>exact (ieq_t c).symm
theorem pmor_call (s:tS.den) (k:Int) (t:tT.den) (n:Int):AnsF F10 9 [tS.av s,tI.av k,tT.av t,tI.av n] (morV s k t n):=by
 refine Ans.call (n:=40) (ext_none (by kernel_rfl)) (hasB_spec (by kernel_rfl)) ?_
 have h:=pmor_start s k t n
 rw[cal_nil] at h
 cases c0:ieq (chkS s).2.2 0 with
 |false=>
  simp only[c0,Bool.not_false,cond_true] at h
  exact .doneT (Z10_ok _) F10sy h (mor_err (by unfold morE;rw[c0];rfl) c0)
 |true=>
 have H:=st_ok c0
 have hk4:=H.len.k2
 have eE:morE s k t n=bif ile 0 k&&ile k ((s.2.1.2.length:Int)-1) then (bif canS s k t&&(ile 0 n&&ile n (s.1.2.length:Int)) then 0 else 7) else 4:=by unfold morE;rw[c0];rfl
 simp only[c0,Bool.not_true,cond_false] at h
 refine .stop (Z10_ok _) F10sy h ?_
 have h:=pmor_step0 s k t n 0 1048574
 rw[show inB 0 1=true from rfl,show ile 1 0=false from rfl,show isZs [AV.int .i64 k] [AV.int .i64 0] ((0:Int).toNat * 1)=true from rfl,show toI (([AV.int .i64 k]).getD ((0:Int).toNat * 1) AV.nili)=k from rfl,wr_l (show s.2.1.2.length≤30 by omega)] at h
 simp only[Bool.not_false,cond_true,cond_not'] at h
 cases c1:ile 0 k with
 |false=>
  rw[c1] at h
  exact .doneT (Z10_ok _) F10sy h (mor_err (by rw[eE,c1];rfl) rfl)
 |true=>
 cases c2:ile k ((s.2.1.2.length:Int)-1) with
 |false=>
  rw[c1,c2] at h
  exact .doneT (Z10_ok _) F10sy h (mor_err (by rw[eE,c1,c2];rfl) rfl)
 |true=>
 rw[c1,c2] at h
 refine .stop (Z10_ok _) F10sy h ?_
 have hi:=inB_kind c1 c2
 have h:=pmor_step0 s k t n 1 1048573
 obtain⟨hA,hL⟩:=H.kin _ (kind_mem hi)
 unfold kL at hL
 simp only[Bool.and_eq_true] at hL
 rw[show ile 1 1=true from rfl,Bool.not_true,cond_false,new_ok H hi,kok_ok H hi,lstS_ne (d:=stkS s [] k) (ile_le hL.2.1) (ile_le hL.2.2)] at h
 simp only[cond_true,cond_false] at h
 exact .stop (Z10_ok _) F10sy h (pm1 H hi (by rw[eE,c1,c2];rfl))
end Go.Proofs.YtelibdeanepdjaaGreat


set_option maxRecDepth 100000
namespace Go.Proofs.YtelibdeanepdjaaGreat
open Go Go.Eng
noncomputable def intzI0 (a b:(Ty.sl tI).den) (x5:Int) (x26:Nat):Cfg:=⟨.ex (pcOf F9 11 [0,0,1,0,1,1]) ⟨(tmOf 26 [(0,(.vs tI (a.1) (a.2))),(1,(.vs tI (b.1) (b.2))),(4,(.bool (false))),(5,(.int .i64 x5)),(6,(.vs tI (a.1) (a.2))),(7,(.int .i64 (Int.ofNat a.2.length))),(8,(.vs tI (b.1) (b.2))),(9,(.int .i64 (Int.ofNat b.2.length))),(10,(.bool (false)))]),(hpOf 0 []),[],[],26,false⟩,⟨40,[]⟩,[(.lop (pcOf F9 11 [0,0,1,0,1,1]) 0 (tmOf 26 [(0,(.vs tI (a.1) (a.2))),(1,(.vs tI (b.1) (b.2))),(4,(.bool (false))),(5,(.int .i64 (0))),(6,(.vs tI (a.1) (a.2))),(7,(.int .i64 (Int.ofNat a.2.length))),(8,(.vs tI (b.1) (b.2))),(9,(.int .i64 (Int.ofNat b.2.length))),(10,(.bool (false)))]) x26),(.blk 0),(.seq (pcOf F9 11 [1,1,1])),(.cal [(.tmp 4)] .top)]⟩
theorem intz_start (a b:(Ty.sl tI).den):adv F9 (Z9 [11]) 3000 (startC F9 11 [(Ty.sl tI).av a,(Ty.sl tI).av b] 40)=(bif !ieq ↑a.2.length ↑b.2.length then some (.done (.bool (false))) else some (.stop (intzI0 a b (0) (1048575)))):=by kernel_rfl
theorem intz_step0 (a b:(Ty.sl tI).den) (x5:Int) (x26:Nat):adv F9 (Z9 [11]) 3000 (intzI0 a b x5 (x26+1))=(bif !ile (↑a.2.length) x5 then (bif inB x5 a.2.length then (bif inB x5 b.2.length then (bif !ieq (a.2.getD x5.toNat tI.dflt) (b.2.getD x5.toNat tI.dflt) then some (.done (.bool (false))) else some (.stop (intzI0 a b (wr .i64 (x5+1)) (x26)))) else none) else none) else some (.done (.bool (true)))):=by kernel_rfl
noncomputable def intsS:List Int→List Int→Bool
 |[],[]=>true
 |a::l,b::m=>ieq a b&&intsS l m
 |_,_=>false
theorem intsS_self:∀ (l:List Int),intsS l l=true
 |[]=>rfl
 |a::l=>by unfold intsS;rw[ieq_self,intsS_self l];rfl
theorem intsS_len:∀ {l m:List Int},l.length≠m.length→intsS l m=false
 |[],[],h=>absurd rfl h
 |[],_::_,_=>rfl
 |_::_,[],_=>rfl
 |a::l,b::m,h=>by unfold intsS;rw[intsS_len (by simpa using h),Bool.and_false]
theorem intz_ans {a b:(Ty.sl tI).den} (hl:a.2.length=b.2.length) (hs:a.2.length≤1000000):∀ (r i m:Nat),i+r=a.2.length→r<m→Ans F9 (intzI0 a b i m) (.bool (intsS (a.2.drop i) (b.2.drop i)))
 |0,i,m+1,hk,hm=>by
  have h:=intz_step0 a b i m
  rw[ile_t (show ((a.2.length:Nat):Int)≤i by omega),Bool.not_true,cond_false] at h
  rw[List.drop_eq_nil_of_le (by omega),List.drop_eq_nil_of_le (by omega)]
  exact .doneB (Z9_ok _) F9sy h rfl
 |r+1,i,m+1,hk,hm=>by
  have h:=intz_step0 a b i m
  have h1:i<a.2.length:=by omega
  have h2:i<b.2.length:=by omega
  rw[ile_f (show (i:Int)<((a.2.length:Nat):Int) by omega),inB_at h1,inB_at h2,getD_at h1,getD_at h2,wr_succ (show i<1048577 by omega)] at h
  rw[List.drop_eq_getElem_cons h1,List.drop_eq_getElem_cons h2,intsS]
  simp only[Bool.not_false,cond_true,cond_not'] at h
  cases c:ieq a.2[i] b.2[i] with
  |true=>rw[c,cond_true] at h;exact .stop (Z9_ok _) F9sy h (intz_ans hl hs r (i+1) m (by omega) (by omega))
  |false=>rw[c,cond_false] at h;exact .doneB (Z9_ok _) F9sy h rfl
theorem intz_call (a b:(Ty.sl tI).den) (hs:Nat.ble a.2.length 1000000=true):AnsF F9 11 [(Ty.sl tI).av a,(Ty.sl tI).av b] (.bool (intsS a.2 b.2)):=by
 refine Ans.call (n:=40) (ext_none (by kernel_rfl)) (hasB_spec (by kernel_rfl)) ?_
 have h:=intz_start a b
 rw[cond_not'] at h
 cases c:ieq (a.2.length:Int) (b.2.length:Int) with
 |false=>
  rw[c,cond_false] at h
  exact .doneB (Z9_ok _) F9sy h (intsS_len (fun e=>by rw[e,ieq_self] at c;cases c)).symm
 |true=>
  rw[c,cond_true] at h
  have hl:=ieq_t c
  have hs:=Nat.le_of_ble_eq_true hs
  exact .stop (Z9_ok _) F9sy h (intz_ans (by omega) hs a.2.length 0 1048575 (by omega) (by omega))
noncomputable def LK:List Said:=[(9,con4 tS tI tT tI (fun _ _ _ _=>true) (fun s k t n=>morV s k t n)),(10,con4 tS tI tT tI (fun _ _ _ _=>true) (fun s k t n=>morV s k t n)),(11,con2 (.sl tI) (.sl tI) (fun a _=>Nat.ble a.2.length 1000000) (fun a b=>.bool (intsS a.2 b.2))),(12,say0 (.bool true))]
noncomputable def F11:Env:=F10.say (under (xOf LK))
theorem f11:EnvOK Tryz.prog F11:=f10.say _
theorem nf11:NameOK F11:=nf10.say _
noncomputable def Z11 (l:List Nat):Sy:=(Z10 []).on LK l
theorem Z11_ok (l:List Nat):(Z11 l).ok F11:=Sy.on_ok (Z10_ok _)
end Go.Proofs.YtelibdeanepdjaaGreat

