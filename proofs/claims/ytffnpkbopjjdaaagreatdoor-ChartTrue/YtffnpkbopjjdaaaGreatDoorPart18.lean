/-
  What is proved: norelaw01.ChartTrue returns true for every chart, moves and place near a sand: a place that is on a sand wherever it has wandered is one of those that are perhaps on it, and one that is surely on it is on it. Conditions: none but those of the given card (package-level variables start as the program's text lays them).
-/
import Derived.Test.YtffnpkbopjjdaaaGreatDoorPart06
import Derived.Test.YtffnpkbopjjdaaaGreatDoorPart07
import Derived.Test.YtffnpkbopjjdaaaGreatDoorPart08
import Derived.Test.YtffnpkbopjjdaaaGreatDoorPart09
import Derived.Test.YtffnpkbopjjdaaaGreatDoorPart10
import Derived.Test.YtffnpkbopjjdaaaGreatDoorPart11
import Derived.Test.YtffnpkbopjjdaaaGreatDoorPart17
import Derived.Test.YtffnpkbopjjdaaaGreatDoorPart12
import Derived.Test.YtffnpkbopjjdaaaGreatDoorPart13
import Derived.Test.YtffnpkbopjjdaaaGreatDoorPart14
import Derived.Test.YtffnpkbopjjdaaaGreatDoorPart15
import Derived.Test.YtffnpkbopjjdaaaGreatDoorPart05
import Derived.Test.YtffnpkbopjjdaaaGreatDoorRows
import Derived.Test.YtffnpkbopjjdaaaGreatDoorCards
import Derived.Test.YtffnpkbopjjdaaaGreatDoorTie
import Derived.ProofKit
import Derived.LaidMore
import Derived.OpenShut
import Derived.Stop.Joined
import Derived.Lay
import Derived.SevenTiedAt
set_option linter.unusedSectionVars false
set_option linter.unusedSimpArgs false
set_option linter.unusedVariables false
/-
  CLOSED CALLS, joined.
-/
set_option maxRecDepth 100000
namespace Go.Proofs.YtffnpkbopjjdaaaGreatDoor
open Go Go.Eng
noncomputable def L3 : List Ent := [c0, c1, c2, c3, c4, c5, c6, c7, c8, c9, c10]
theorem l3 : ∀ e ∈ L3, EntOK Tryz.prog EA e := ents_cons o0 (ents_cons o1 (ents_cons o2 (ents_cons o3 (ents_cons o4 (ents_cons o5 (ents_cons o6 (ents_cons o7 (ents_cons o8 (ents_cons o9 (ents_cons o10 (ents_nil)))))))))))
end Go.Proofs.YtffnpkbopjjdaaaGreatDoor

/-
  THE LAW, its answer by the kernel.
-/
set_option maxRecDepth 100000
namespace Go.Proofs.YtffnpkbopjjdaaaGreatDoor
open Go Go.Eng
theorem kn_true : isTrueT EA L3 40 22 = true := by kernel_rfl
end Go.Proofs.YtffnpkbopjjdaaaGreatDoor

/-
  LOOPS, told by their heads.
-/
set_option maxRecDepth 100000
namespace Go.Proofs.YtffnpkbopjjdaaaGreatDoor
open Go Go.Eng
noncomputable def withI0 (a b : (Ty.sl tI).den) (x5 : Int) (x12 : Nat) : Cfg := ⟨.ex (pcOf H3 45 [0, 0, 1, 0, 1]) ⟨(tmOf 19 [(0, (.vs tI (a.fst) (a.snd))), (1, (.vs tI (b.fst) (b.snd))), (4, (.bool (false))), (5, (.int .i64 x5))]), (hpOf 0 []), [], [], 19, false⟩, ⟨6, []⟩, [(.lop (pcOf H3 45 [0, 0, 1, 0, 1]) 0 (tmOf 19 [(0, (.vs tI (a.fst) (a.snd))), (1, (.vs tI (b.fst) (b.snd))), (4, (.bool (false))), (5, (.int .i64 (0)))]) x12), (.blk 0), (.seq (pcOf H3 45 [1, 1])), (.cal [(.tmp 4)] .top)]⟩
theorem with_start (a b : (Ty.sl tI).den) : adv H3 (Y3 [45]) 3000 (startC H3 45 [.vs tI a.1 a.2, .vs tI b.1 b.2] 6) = some (.stop (withI0 a b (0) (1048575))) := by kernel_rfl
theorem with_step0 (a b : (Ty.sl tI).den) (x5 : Int) (x12 : Nat) : adv H3 (Y3 [45]) 3000 (withI0 a b x5 (x12 + 1)) = (bif !ile (↑a.snd.length) x5 then (bif inB x5 a.snd.length then (bif b.snd.length.ble 1000 then (bif !hasS b.snd (a.snd.getD x5.toNat tI.dflt) then some (.done (.bool (false))) else some (.stop (withI0 a b (wr IntKind.i64 (x5 + 1)) (x12)))) else none) else none) else some (.done (.bool (true)))) := by kernel_rfl
theorem movd_start (s : tSand.den) (l : (Ty.sl (.int .u16)).den) (n : Int) : adv H3 (Y3 []) 3000 (startC H3 47 [tSand.av s, .vs (.int .u16) l.1 l.2, .int .i64 n] 6) = (bif u16 l.snd && ile 0 (wr IntKind.i64 (2 * n)) then (bif amC s.snd.snd.fst.fst.fst s.snd.snd.fst.fst.snd.fst (turnS l.snd (wr IntKind.i64 (2 * n))) then (bif u16 l.snd && ile 0 (wr IntKind.i64 (wr IntKind.i64 (2 * n) + 1)) then (bif amC s.snd.snd.fst.snd.fst.fst s.snd.snd.fst.snd.fst.snd.fst (turnS l.snd (wr IntKind.i64 (wr IntKind.i64 (2 * n) + 1))) then (bif ieq s.snd.snd.fst.snd.fst.fst s.snd.snd.fst.snd.fst.fst then (bif ieq s.snd.snd.fst.snd.fst.snd.fst s.snd.snd.fst.snd.fst.snd.fst then (bif ieq s.snd.snd.fst.snd.fst.fst s.snd.snd.fst.snd.fst.fst then (bif ieq s.snd.snd.fst.snd.fst.snd.fst s.snd.snd.fst.snd.fst.snd.fst then (bif ieq s.snd.snd.fst.snd.fst.fst s.snd.snd.fst.snd.fst.fst then (bif ieq s.snd.snd.fst.snd.fst.snd.fst s.snd.snd.fst.snd.fst.snd.fst then (bif ieq s.snd.snd.fst.snd.fst.fst s.snd.snd.fst.snd.fst.fst then (bif ieq s.snd.snd.fst.snd.fst.snd.fst s.snd.snd.fst.snd.fst.snd.fst then (bif ieq s.snd.snd.fst.fst.fst s.snd.snd.fst.fst.fst then (bif ieq s.snd.snd.fst.fst.snd.fst s.snd.snd.fst.fst.snd.fst then (bif ieq s.snd.snd.fst.fst.fst s.snd.snd.fst.fst.fst then (bif ieq s.snd.snd.fst.fst.snd.fst s.snd.snd.fst.fst.snd.fst then some (.done (.agg [(.int .i64 (amS s.snd.snd.fst.fst.fst s.snd.snd.fst.fst.snd.fst (turnS l.snd (wr IntKind.i64 (2 * n))))), (.int .i64 (amS s.snd.snd.fst.snd.fst.fst s.snd.snd.fst.snd.fst.snd.fst (turnS l.snd (wr IntKind.i64 (wr IntKind.i64 (2 * n) + 1)))))])) else none) else none) else none) else none) else none) else none) else none) else none) else none) else none) else none) else none) else none) else none) else none) else none) := by kernel_rfl
theorem near_start (c : tChart.den) (l : (Ty.sl (.int .u16)).den) : adv H3 (Y3 []) 3000 (startC H3 44 [tChart.av c, .vs (.int .u16) l.1 l.2] 6) = (bif u16 l.snd && ile 0 1 then (bif u16 l.snd && ile 0 2 then (bif !ile (↑c.snd.fst.snd.length) 0 then (bif u16 l.snd && ile 0 0 then (bif ieq (↑c.snd.fst.snd.length) 0 then none else (bif inB ((turnS l.snd 0).tmod ↑c.snd.fst.snd.length) c.snd.fst.snd.length then (bif bbeq c.snd.fst.fst c.snd.fst.fst then (bif vsB tSand c.snd.fst.snd tSand c.snd.fst.snd then (bif bbeq c.snd.fst.fst c.snd.fst.fst then (bif vsB tSand c.snd.fst.snd tSand c.snd.fst.snd then (bif bbeq c.snd.fst.fst c.snd.fst.fst then (bif vsB tSand c.snd.fst.snd tSand c.snd.fst.snd then (bif bbeq c.snd.fst.fst c.snd.fst.fst then (bif vsB tSand c.snd.fst.snd tSand c.snd.fst.snd then (bif u16 l.snd && ile 0 3 then (bif ieq (↑(c.snd.fst.snd.getD ((turnS l.snd 0).tmod ↑c.snd.fst.snd.length).toNat tSand.dflt).snd.fst.snd.length) 0 then none else (bif inB ((turnS l.snd 3).tmod ↑(c.snd.fst.snd.getD ((turnS l.snd 0).tmod ↑c.snd.fst.snd.length).toNat tSand.dflt).snd.fst.snd.length) (c.snd.fst.snd.getD ((turnS l.snd 0).tmod ↑c.snd.fst.snd.length).toNat tSand.dflt).snd.fst.snd.length then (bif bbeq (c.snd.fst.snd.getD ((turnS l.snd 0).tmod ↑c.snd.fst.snd.length).toNat tSand.dflt).snd.fst.fst (c.snd.fst.snd.getD ((turnS l.snd 0).tmod ↑c.snd.fst.snd.length).toNat tSand.dflt).snd.fst.fst then (bif vsB tP (c.snd.fst.snd.getD ((turnS l.snd 0).tmod ↑c.snd.fst.snd.length).toNat tSand.dflt).snd.fst.snd tP (c.snd.fst.snd.getD ((turnS l.snd 0).tmod ↑c.snd.fst.snd.length).toNat tSand.dflt).snd.fst.snd then (bif bbeq (c.snd.fst.snd.getD ((turnS l.snd 0).tmod ↑c.snd.fst.snd.length).toNat tSand.dflt).snd.fst.fst (c.snd.fst.snd.getD ((turnS l.snd 0).tmod ↑c.snd.fst.snd.length).toNat tSand.dflt).snd.fst.fst then (bif vsB tP (c.snd.fst.snd.getD ((turnS l.snd 0).tmod ↑c.snd.fst.snd.length).toNat tSand.dflt).snd.fst.snd tP (c.snd.fst.snd.getD ((turnS l.snd 0).tmod ↑c.snd.fst.snd.length).toNat tSand.dflt).snd.fst.snd then (bif bbeq (c.snd.fst.snd.getD ((turnS l.snd 0).tmod ↑c.snd.fst.snd.length).toNat tSand.dflt).snd.fst.fst (c.snd.fst.snd.getD ((turnS l.snd 0).tmod ↑c.snd.fst.snd.length).toNat tSand.dflt).snd.fst.fst then (bif vsB tP (c.snd.fst.snd.getD ((turnS l.snd 0).tmod ↑c.snd.fst.snd.length).toNat tSand.dflt).snd.fst.snd tP (c.snd.fst.snd.getD ((turnS l.snd 0).tmod ↑c.snd.fst.snd.length).toNat tSand.dflt).snd.fst.snd then (bif bbeq (c.snd.fst.snd.getD ((turnS l.snd 0).tmod ↑c.snd.fst.snd.length).toNat tSand.dflt).snd.fst.fst (c.snd.fst.snd.getD ((turnS l.snd 0).tmod ↑c.snd.fst.snd.length).toNat tSand.dflt).snd.fst.fst then (bif vsB tP (c.snd.fst.snd.getD ((turnS l.snd 0).tmod ↑c.snd.fst.snd.length).toNat tSand.dflt).snd.fst.snd tP (c.snd.fst.snd.getD ((turnS l.snd 0).tmod ↑c.snd.fst.snd.length).toNat tSand.dflt).snd.fst.snd then (bif ieq (wr IntKind.i64 ((turnS l.snd 1).tmod 400 - 200)) (wr IntKind.i64 ((turnS l.snd 1).tmod 400 - 200)) then (bif ieq (wr IntKind.i64 ((turnS l.snd 2).tmod 400 - 200)) (wr IntKind.i64 ((turnS l.snd 2).tmod 400 - 200)) then (bif ieq (wr IntKind.i64 ((turnS l.snd 1).tmod 400 - 200)) (wr IntKind.i64 ((turnS l.snd 1).tmod 400 - 200)) then (bif ieq (wr IntKind.i64 ((turnS l.snd 2).tmod 400 - 200)) (wr IntKind.i64 ((turnS l.snd 2).tmod 400 - 200)) then some (.done (.agg [(.int .i64 (bif ile (bif ile 10000 (wr IntKind.i64 (wr IntKind.i64 ((turnS l.snd 1).tmod 400 - 200) + ((c.snd.fst.snd.getD ((turnS l.snd 0).tmod ↑c.snd.fst.snd.length).toNat tSand.dflt).snd.fst.snd.getD ((turnS l.snd 3).tmod ↑(c.snd.fst.snd.getD ((turnS l.snd 0).tmod ↑c.snd.fst.snd.length).toNat tSand.dflt).snd.fst.snd.length).toNat tP.dflt).fst)) then 10000 else wr IntKind.i64 (wr IntKind.i64 ((turnS l.snd 1).tmod 400 - 200) + ((c.snd.fst.snd.getD ((turnS l.snd 0).tmod ↑c.snd.fst.snd.length).toNat tSand.dflt).snd.fst.snd.getD ((turnS l.snd 3).tmod ↑(c.snd.fst.snd.getD ((turnS l.snd 0).tmod ↑c.snd.fst.snd.length).toNat tSand.dflt).snd.fst.snd.length).toNat tP.dflt).fst)) (-10000) then -10000 else bif ile 10000 (wr IntKind.i64 (wr IntKind.i64 ((turnS l.snd 1).tmod 400 - 200) + ((c.snd.fst.snd.getD ((turnS l.snd 0).tmod ↑c.snd.fst.snd.length).toNat tSand.dflt).snd.fst.snd.getD ((turnS l.snd 3).tmod ↑(c.snd.fst.snd.getD ((turnS l.snd 0).tmod ↑c.snd.fst.snd.length).toNat tSand.dflt).snd.fst.snd.length).toNat tP.dflt).fst)) then 10000 else wr IntKind.i64 (wr IntKind.i64 ((turnS l.snd 1).tmod 400 - 200) + ((c.snd.fst.snd.getD ((turnS l.snd 0).tmod ↑c.snd.fst.snd.length).toNat tSand.dflt).snd.fst.snd.getD ((turnS l.snd 3).tmod ↑(c.snd.fst.snd.getD ((turnS l.snd 0).tmod ↑c.snd.fst.snd.length).toNat tSand.dflt).snd.fst.snd.length).toNat tP.dflt).fst))), (.int .i64 (bif ile (bif ile 10000 (wr IntKind.i64 (wr IntKind.i64 ((turnS l.snd 2).tmod 400 - 200) + ((c.snd.fst.snd.getD ((turnS l.snd 0).tmod ↑c.snd.fst.snd.length).toNat tSand.dflt).snd.fst.snd.getD ((turnS l.snd 3).tmod ↑(c.snd.fst.snd.getD ((turnS l.snd 0).tmod ↑c.snd.fst.snd.length).toNat tSand.dflt).snd.fst.snd.length).toNat tP.dflt).snd.fst)) then 10000 else wr IntKind.i64 (wr IntKind.i64 ((turnS l.snd 2).tmod 400 - 200) + ((c.snd.fst.snd.getD ((turnS l.snd 0).tmod ↑c.snd.fst.snd.length).toNat tSand.dflt).snd.fst.snd.getD ((turnS l.snd 3).tmod ↑(c.snd.fst.snd.getD ((turnS l.snd 0).tmod ↑c.snd.fst.snd.length).toNat tSand.dflt).snd.fst.snd.length).toNat tP.dflt).snd.fst)) (-10000) then -10000 else bif ile 10000 (wr IntKind.i64 (wr IntKind.i64 ((turnS l.snd 2).tmod 400 - 200) + ((c.snd.fst.snd.getD ((turnS l.snd 0).tmod ↑c.snd.fst.snd.length).toNat tSand.dflt).snd.fst.snd.getD ((turnS l.snd 3).tmod ↑(c.snd.fst.snd.getD ((turnS l.snd 0).tmod ↑c.snd.fst.snd.length).toNat tSand.dflt).snd.fst.snd.length).toNat tP.dflt).snd.fst)) then 10000 else wr IntKind.i64 (wr IntKind.i64 ((turnS l.snd 2).tmod 400 - 200) + ((c.snd.fst.snd.getD ((turnS l.snd 0).tmod ↑c.snd.fst.snd.length).toNat tSand.dflt).snd.fst.snd.getD ((turnS l.snd 3).tmod ↑(c.snd.fst.snd.getD ((turnS l.snd 0).tmod ↑c.snd.fst.snd.length).toNat tSand.dflt).snd.fst.snd.length).toNat tP.dflt).snd.fst)))])) else none) else none) else none) else none) else none) else none) else none) else none) else none) else none) else none) else none) else none)) else none) else none) else none) else none) else none) else none) else none) else none) else none) else none)) else none) else some (.done (.agg [(.int .i64 (bif ile (bif ile 10000 (wr IntKind.i64 ((turnS l.snd 1).tmod 400 - 200)) then 10000 else wr IntKind.i64 ((turnS l.snd 1).tmod 400 - 200)) (-10000) then -10000 else bif ile 10000 (wr IntKind.i64 ((turnS l.snd 1).tmod 400 - 200)) then 10000 else wr IntKind.i64 ((turnS l.snd 1).tmod 400 - 200))), (.int .i64 (bif ile (bif ile 10000 (wr IntKind.i64 ((turnS l.snd 2).tmod 400 - 200)) then 10000 else wr IntKind.i64 ((turnS l.snd 2).tmod 400 - 200)) (-10000) then -10000 else bif ile 10000 (wr IntKind.i64 ((turnS l.snd 2).tmod 400 - 200)) then 10000 else wr IntKind.i64 ((turnS l.snd 2).tmod 400 - 200)))]))) else none) else none) := by kernel_rfl
/-! ### Places near a sand; moves -/
noncomputable def withS : List tI.den → List tI.den → Bool
  | [], _ => true
  | x :: l, b => bif hasS b x then withS l b else false
theorem with_ans (a b : (Ty.sl tI).den) (hl : a.2.length < 1048576) (hb : b.2.length.ble 1000 = true) : ∀ (r k m : Nat), k + r = a.2.length → r < m → Ans H3 (withI0 a b k m) (.bool (withS (a.2.drop k) b.2))
  | 0, k, m + 1, hk, hm => by
    have h := with_step0 a b k m
    simp only [ile_ge (show a.2.length ≤ k by omega), Bool.not_true, cond_false] at h
    rw [List.drop_eq_nil_of_le (by omega)]
    exact .doneB (Y3_ok _) H3sy h rfl
  | r + 1, k, m + 1, hk, hm => by
    have h := with_step0 a b k m
    have hlt : k < a.2.length := by omega
    simp only [ile_lt hlt, inB_at hlt, getD_at hlt, hb, wr_succ (show k < 1048577 by omega), Bool.not_false, cond_true] at h
    rw [List.drop_eq_getElem_cons hlt, withS]
    cases e : hasS b.2 (a.2[k]) with
    | true => simp only [e, Bool.not_true, cond_true, cond_false] at h ⊢; exact .stop (Y3_ok _) H3sy h (with_ans a b hl hb r (k + 1) m (by omega) (by omega))
    | false => simp only [e, Bool.not_false, cond_true, cond_false] at h ⊢; exact .doneB (Y3_ok _) H3sy h rfl
theorem with_call (a b : (Ty.sl tI).den) (hl : a.2.length < 1048575) (hb : b.2.length.ble 1000 = true) : AnsF H3 45 [.vs tI a.1 a.2, .vs tI b.1 b.2] (.bool (withS a.2 b.2)) :=
  Ans.call (n := 6) (ext_none (by kernel_rfl)) (hasB_spec (by kernel_rfl)) (.stop (Y3_ok _) H3sy (with_start a b) (with_ans a b (by omega) hb a.2.length 0 1048575 (by omega) (by omega)))
noncomputable def clp (v : Int) : Int := bif ile (bif ile 10000 v then 10000 else v) (-10000) then -10000 else bif ile 10000 v then 10000 else v
theorem clp_in (v : Int) : in10 (clp v) = true := by
  rw [in10_iff]
  unfold clp
  cases c1 : ile 10000 v with
  | true => simp only [cond_true, show ile 10000 (-10000) = false from rfl, cond_false]; omega
  | false =>
    rw [ile_iff] at c1
    simp only [decide_eq_false_iff_not] at c1
    simp only [cond_false]
    cases c2 : ile v (-10000) with
    | true => simp only [cond_true]; omega
    | false =>
      rw [ile_iff] at c2
      simp only [decide_eq_false_iff_not] at c2
      simp only [cond_false]; omega
noncomputable def nrC (c : tChart.den) (l : List Int) : tP.den := (c.2.1.2.getD ((turnS l 0).tmod (c.2.1.2.length : Int)).toNat tSand.dflt).2.1.2.getD ((turnS l 3).tmod ((c.2.1.2.getD ((turnS l 0).tmod (c.2.1.2.length : Int)).toNat tSand.dflt).2.1.2.length : Int)).toNat tP.dflt
noncomputable def nX (c : tChart.den) (l : List Int) : Int := bif ile (c.2.1.2.length : Int) 0 then clp (wr .i64 ((turnS l 1).tmod 400 - 200)) else clp (wr .i64 (wr .i64 ((turnS l 1).tmod 400 - 200) + (nrC c l).1))
noncomputable def nY (c : tChart.den) (l : List Int) : Int := bif ile (c.2.1.2.length : Int) 0 then clp (wr .i64 ((turnS l 2).tmod 400 - 200)) else clp (wr .i64 (wr .i64 ((turnS l 2).tmod 400 - 200) + (nrC c l).2.1))
theorem nX_in (c : tChart.den) (l : List Int) : in10 (nX c l) = true := by unfold nX; cases ile (c.2.1.2.length : Int) 0 <;> exact clp_in _
theorem nY_in (c : tChart.den) (l : List Int) : in10 (nY c l) = true := by unfold nY; cases ile (c.2.1.2.length : Int) 0 <;> exact clp_in _
theorem mod_at {a : Int} {n : Nat} (ha : 0 ≤ a) (hn : 0 < n) : inB (a.tmod (n : Int)) n = true ∧ (a.tmod (n : Int)).toNat < n := by
  have e : a.tmod (n : Int) = a % (n : Int) := Int.tmod_eq_emod_of_nonneg ha
  have h1 := Int.emod_nonneg a (show (n : Int) ≠ 0 by omega)
  have h2 := Int.emod_lt_of_pos a (show 0 < (n : Int) by omega)
  rw [e]
  exact ⟨by rw [inB_iff]; exact decide_eq_true ⟨h1, h2⟩, by omega⟩
theorem near_call (c : tChart.den) (l : (Ty.sl (.int .u16)).den) (hl : u16 l.2 = true) (hv : (chkS c).2.2 = 0) : AnsF H3 44 [tChart.av c, .vs (.int .u16) l.1 l.2] (.agg [.int .i64 (nX c l.2), .int .i64 (nY c l.2)]) := by
  refine Ans.call (n := 6) (ext_none (by kernel_rfl)) (hasB_spec (by kernel_rfl)) ?_
  have h := near_start c l
  have t1 : ile 0 1 = true := rfl
  have t2 : ile 0 2 = true := rfl
  have t3 : ile 0 3 = true := rfl
  have t0 : ile 0 0 = true := rfl
  have q0 := turnS_b hl 0
  have q3 := turnS_b hl 3
  unfold nX nY
  cases c1 : ile (c.2.1.2.length : Int) 0 with
  | true =>
    simp only [hl, t1, t2, c1, Bool.and_self, Bool.not_true, cond_true, cond_false] at h ⊢
    exact .done (Y3_ok _) H3sy h rfl
  | false =>
    have hpos : 0 < c.2.1.2.length := by rw [ile_iff] at c1; simp only [decide_eq_false_iff_not] at c1; omega
    obtain ⟨m1, m2⟩ := mod_at q0.1 hpos
    have hg := goodS_len (sd_good hv m2)
    have z1 : ieq (c.2.1.2.length : Int) 0 = false := by rw [ieq_iff]; exact decide_eq_false (by omega)
    unfold nrC
    unfold sd at hg
    generalize hS : c.2.1.2.getD ((turnS l.2 0).tmod (c.2.1.2.length : Int)).toNat tSand.dflt = S at h hg
    obtain ⟨m3, m4⟩ := mod_at q3.1 (show 0 < S.2.1.2.length by omega)
    have z2 : ieq (S.2.1.2.length : Int) 0 = false := by rw [ieq_iff]; exact decide_eq_false (by omega)
    simp only [hl, t0, t1, t2, t3, c1, m1, m3, z1, z2, ieq_self, bbeq_self, vsB_self, Bool.and_self, Bool.not_false, cond_true, cond_false] at h ⊢
    exact .done (Y3_ok _) H3sy h rfl
noncomputable def mX (s : tSand.den) (l : List Int) (n : Int) : Int := amS s.2.2.1.1.1 s.2.2.1.1.2.1 (turnS l (2 * n))
noncomputable def mY (s : tSand.den) (l : List Int) (n : Int) : Int := amS s.2.2.1.2.1.1 s.2.2.1.2.1.2.1 (turnS l (2 * n + 1))
theorem movd_call (s : tSand.den) (l : (Ty.sl (.int .u16)).den) (n : Int) (hl : u16 l.2 = true) (hs : goodS s = true) (hn : ile 0 n = true) (hn2 : ile n 1000 = true) : AnsF H3 47 [tSand.av s, .vs (.int .u16) l.1 l.2, .int .i64 n] (.agg [.int .i64 (mX s l.2 n), .int .i64 (mY s l.2 n)]) := by
  refine Ans.call (n := 6) (ext_none (by kernel_rfl)) (hasB_spec (by kernel_rfl)) ?_
  have h := movd_start s l n
  rw [ile_iff] at hn hn2
  simp only [decide_eq_true_eq] at hn hn2
  obtain ⟨_, ⟨⟨g2, g3⟩, g4, g5⟩, g6, g7⟩ := goodS_iff rfl rfl rfl rfl hs
  have i0 := in5_iff.1 g2
  have i1 := in5_iff.1 g3
  have i2 := in5_iff.1 g4
  have i3 := in5_iff.1 g5
  have w1 : wr .i64 (2 * n) = 2 * n := wr_in (by omega) (by omega)
  have w2 : wr .i64 (2 * n + 1) = 2 * n + 1 := wr_in (by omega) (by omega)
  have p1 : ile 0 (2 * n) = true := by rw [ile_iff]; exact decide_eq_true (by omega)
  have p2 : ile 0 (2 * n + 1) = true := by rw [ile_iff]; exact decide_eq_true (by omega)
  have b1 := turnS_b hl (2 * n)
  have b2 := turnS_b hl (2 * n + 1)
  obtain ⟨x0, e0⟩ : ∃ y : Int, s.2.2.1.1.1 = y := ⟨_, rfl⟩
  obtain ⟨x1, e1⟩ : ∃ y : Int, s.2.2.1.1.2.1 = y := ⟨_, rfl⟩
  obtain ⟨y0, e2⟩ : ∃ y : Int, s.2.2.1.2.1.1 = y := ⟨_, rfl⟩
  obtain ⟨y1, e3⟩ : ∃ y : Int, s.2.2.1.2.1.2.1 = y := ⟨_, rfl⟩
  rw [e0] at i0 g6; rw [e1] at i1 g6; rw [e2] at i2 g7; rw [e3] at i3 g7
  have a1 : amC x0 x1 (turnS l.2 (2 * n)) = true := by rw [amC_iff]; omega
  have a2 : amC y0 y1 (turnS l.2 (2 * n + 1)) = true := by rw [amC_iff]; omega
  unfold mX mY
  simp only [e0, e1, e2, e3, w1, w2, p1, p2, hl, a1, a2, ieq_self, Bool.and_self, cond_true] at h ⊢
  exact .done (Y3_ok _) H3sy h rfl
noncomputable def LK : List Said := [(45, con2 (.sl tI) (.sl tI) (fun a b => Nat.ble a.2.length 1000 && Nat.ble b.2.length 1000) (fun a b => .bool (withS a.2 b.2))),
  (44, con2 tChart (.sl (.int .u16)) (fun c l => u16 l.2 && ieq (chkS c).2.2 0) (fun c l => .agg [.int .i64 (nX c l.2), .int .i64 (nY c l.2)])),
  (47, con3 tSand (.sl (.int .u16)) tI (fun s l n => u16 l.2 && goodS s && ile 0 n && ile n 1000) (fun s l n => .agg [.int .i64 (mX s l.2 n), .int .i64 (mY s l.2 n)])), (22, say0 (.bool true))]
theorem LK_ok : ∀ e ∈ LK, SaidG Tryz.prog H3.glob e :=
  saids_cons (SaidOK.g h3 xh3 nh3 tabs_ok.mix (fun _ _ h => con2_spec (t := .sl tI) (u := .sl tI) (fun a b hc => by
    rw [Bool.and_eq_true] at hc
    exact with_call a b (by have := Nat.le_of_ble_eq_true hc.1; omega) hc.2) h) rfl)
  (saids_cons (SaidOK.g h3 xh3 nh3 tabs_ok.mix (fun _ _ h => con2_spec (t := tChart) (u := .sl (.int .u16)) (fun c l hc => by
    rw [Bool.and_eq_true] at hc
    exact near_call c l hc.1 (ieq_t' hc.2)) h) rfl)
  (saids_cons (SaidOK.g h3 xh3 nh3 tabs_ok.mix (fun _ _ h => con3_spec (t := tSand) (u := .sl (.int .u16)) (w := tI) (fun s l n hc => by
    simp only [Bool.and_eq_true] at hc
    exact movd_call s l n hc.1.1.1 hc.1.1.2 hc.1.2 hc.2) h) rfl)
  (saids_cons (XG.g (XG.closedT eA xA nA tabs_ok.mix l3 kn_true) rfl) saids_nil)))
noncomputable def H4 : Env := H3.say (under (xOf LK))
theorem h4 : EnvOK Tryz.prog H4 := h3.say _
theorem nh4 : NameOK H4 := nh3.say _
theorem xh4 : ExtOK Tryz.prog H4 := xh3.sayL LK_ok
theorem H4sy : H4.sy = true := rfl
noncomputable def Y4 (l : List Nat) : Sy := (Y3 []).on LK l
theorem Y4_ok (l : List Nat) : (Y4 l).ok H4 := Sy.on_ok (Y3_ok _)
end Go.Proofs.YtffnpkbopjjdaaaGreatDoor

/-
  LOOPS, told by their heads.
-/
set_option maxRecDepth 100000
namespace Go.Proofs.YtffnpkbopjjdaaaGreatDoor
open Go Go.Eng
noncomputable def ctruI0 (c : tChart.den) (x y : (Ty.sl (.int .u16)).den) (x14 : Int) (x126 : Nat) : Cfg := ⟨.ex (pcOf H4 8 [0, 0, 1, 0, 1, 1, 1, 1, 1]) ⟨(tmOf 88 [(0, (.agg [(.vs tMark (c.fst.fst) (c.fst.snd)), (.vs tSand (c.snd.fst.fst) (c.snd.fst.snd))])), (1, (.vs (.int .u16) (x.fst) (x.snd))), (2, (.vs (.int .u16) (y.fst) (y.snd))), (3, (.ptr 0 0)), (6, (.bool (false))), (10, (.ptr 1 0)), (11, (.vs tI ((onS c (nX c y.snd) (nY c y.snd)).fst.fst.isEmpty) ((onS c (nX c y.snd) (nY c y.snd)).fst.fst))), (12, (.vs tI ((onS c (nX c y.snd) (nY c y.snd)).fst.snd.isEmpty) ((onS c (nX c y.snd) (nY c y.snd)).fst.snd))), (13, (.int .i64 ((onS c (nX c y.snd) (nY c y.snd)).snd))), (14, (.int .i64 x14)), (16, (.agg [(.vs tMark (c.fst.fst) (c.fst.snd)), (.vs tSand (c.snd.fst.fst) (c.snd.fst.snd))])), (17, (.bool (ieq (chkS c).snd.snd 0))), (18, (.bool (false))), (31, (.agg [(.vs tMark (c.fst.fst) (c.fst.snd)), (.vs tSand (c.snd.fst.fst) (c.snd.fst.snd))])), (32, (.vs (.int .u16) (y.fst) (y.snd))), (33, (.agg [(.int .i64 (nX c y.snd)), (.int .i64 (nY c y.snd))])), (34, (.tup [(.vs tI ((onS c (nX c y.snd) (nY c y.snd)).fst.fst.isEmpty) ((onS c (nX c y.snd) (nY c y.snd)).fst.fst)), (.vs tI ((onS c (nX c y.snd) (nY c y.snd)).fst.snd.isEmpty) ((onS c (nX c y.snd) (nY c y.snd)).fst.snd)), (.int .i64 ((onS c (nX c y.snd) (nY c y.snd)).snd))])), (35, (.agg [(.vs tMark (c.fst.fst) (c.fst.snd)), (.vs tSand (c.snd.fst.fst) (c.snd.fst.snd))])), (36, (.agg [(.int .i64 (nX c y.snd)), (.int .i64 (nY c y.snd))])), (37, (.tup [(.vs tI ((onS c (nX c y.snd) (nY c y.snd)).fst.fst.isEmpty) ((onS c (nX c y.snd) (nY c y.snd)).fst.fst)), (.vs tI ((onS c (nX c y.snd) (nY c y.snd)).fst.snd.isEmpty) ((onS c (nX c y.snd) (nY c y.snd)).fst.snd)), (.int .i64 ((onS c (nX c y.snd) (nY c y.snd)).snd))])), (38, (.vs tI ((onS c (nX c y.snd) (nY c y.snd)).fst.fst.isEmpty) ((onS c (nX c y.snd) (nY c y.snd)).fst.fst))), (39, (.vs tI ((onS c (nX c y.snd) (nY c y.snd)).fst.snd.isEmpty) ((onS c (nX c y.snd) (nY c y.snd)).fst.snd))), (40, (.int .i64 ((onS c (nX c y.snd) (nY c y.snd)).snd))), (41, (.int .i64 ((onS c (nX c y.snd) (nY c y.snd)).snd))), (42, (.bool (!ieq (onS c (nX c y.snd) (nY c y.snd)).snd 0))), (43, (.bool (false))), (44, (.vs tI ((onS c (nX c y.snd) (nY c y.snd)).fst.fst.isEmpty) ((onS c (nX c y.snd) (nY c y.snd)).fst.fst))), (45, (.vs tI ((onS c (nX c y.snd) (nY c y.snd)).fst.snd.isEmpty) ((onS c (nX c y.snd) (nY c y.snd)).fst.snd))), (46, (.bool (withS (onS c (nX c y.snd) (nY c y.snd)).fst.fst (onS c (nX c y.snd) (nY c y.snd)).fst.snd))), (47, (.bool (!withS (onS c (nX c y.snd) (nY c y.snd)).fst.fst (onS c (nX c y.snd) (nY c y.snd)).fst.snd))), (48, (.bool (false)))]), (hpOf 2 [(0, (.cells false [(.vs tMark (c.fst.fst) (c.fst.snd)), (.vs tSand (c.snd.fst.fst) (c.snd.fst.snd))])), (1, (.cells false [(.int .i64 (nX c y.snd)), (.int .i64 (nY c y.snd))]))]), [], [], 88, false⟩, ⟨8, []⟩, [(.lop (pcOf H4 8 [0, 0, 1, 0, 1, 1, 1, 1, 1]) 2 (tmOf 88 [(0, (.agg [(.vs tMark (c.fst.fst) (c.fst.snd)), (.vs tSand (c.snd.fst.fst) (c.snd.fst.snd))])), (1, (.vs (.int .u16) (x.fst) (x.snd))), (2, (.vs (.int .u16) (y.fst) (y.snd))), (3, (.ptr 0 0)), (6, (.bool (false))), (10, (.ptr 1 0)), (11, (.vs tI ((onS c (nX c y.snd) (nY c y.snd)).fst.fst.isEmpty) ((onS c (nX c y.snd) (nY c y.snd)).fst.fst))), (12, (.vs tI ((onS c (nX c y.snd) (nY c y.snd)).fst.snd.isEmpty) ((onS c (nX c y.snd) (nY c y.snd)).fst.snd))), (13, (.int .i64 ((onS c (nX c y.snd) (nY c y.snd)).snd))), (14, (.int .i64 (0))), (16, (.agg [(.vs tMark (c.fst.fst) (c.fst.snd)), (.vs tSand (c.snd.fst.fst) (c.snd.fst.snd))])), (17, (.bool (ieq (chkS c).snd.snd 0))), (18, (.bool (false))), (31, (.agg [(.vs tMark (c.fst.fst) (c.fst.snd)), (.vs tSand (c.snd.fst.fst) (c.snd.fst.snd))])), (32, (.vs (.int .u16) (y.fst) (y.snd))), (33, (.agg [(.int .i64 (nX c y.snd)), (.int .i64 (nY c y.snd))])), (34, (.tup [(.vs tI ((onS c (nX c y.snd) (nY c y.snd)).fst.fst.isEmpty) ((onS c (nX c y.snd) (nY c y.snd)).fst.fst)), (.vs tI ((onS c (nX c y.snd) (nY c y.snd)).fst.snd.isEmpty) ((onS c (nX c y.snd) (nY c y.snd)).fst.snd)), (.int .i64 ((onS c (nX c y.snd) (nY c y.snd)).snd))])), (35, (.agg [(.vs tMark (c.fst.fst) (c.fst.snd)), (.vs tSand (c.snd.fst.fst) (c.snd.fst.snd))])), (36, (.agg [(.int .i64 (nX c y.snd)), (.int .i64 (nY c y.snd))])), (37, (.tup [(.vs tI ((onS c (nX c y.snd) (nY c y.snd)).fst.fst.isEmpty) ((onS c (nX c y.snd) (nY c y.snd)).fst.fst)), (.vs tI ((onS c (nX c y.snd) (nY c y.snd)).fst.snd.isEmpty) ((onS c (nX c y.snd) (nY c y.snd)).fst.snd)), (.int .i64 ((onS c (nX c y.snd) (nY c y.snd)).snd))])), (38, (.vs tI ((onS c (nX c y.snd) (nY c y.snd)).fst.fst.isEmpty) ((onS c (nX c y.snd) (nY c y.snd)).fst.fst))), (39, (.vs tI ((onS c (nX c y.snd) (nY c y.snd)).fst.snd.isEmpty) ((onS c (nX c y.snd) (nY c y.snd)).fst.snd))), (40, (.int .i64 ((onS c (nX c y.snd) (nY c y.snd)).snd))), (41, (.int .i64 ((onS c (nX c y.snd) (nY c y.snd)).snd))), (42, (.bool (!ieq (onS c (nX c y.snd) (nY c y.snd)).snd 0))), (43, (.bool (false))), (44, (.vs tI ((onS c (nX c y.snd) (nY c y.snd)).fst.fst.isEmpty) ((onS c (nX c y.snd) (nY c y.snd)).fst.fst))), (45, (.vs tI ((onS c (nX c y.snd) (nY c y.snd)).fst.snd.isEmpty) ((onS c (nX c y.snd) (nY c y.snd)).fst.snd))), (46, (.bool (withS (onS c (nX c y.snd) (nY c y.snd)).fst.fst (onS c (nX c y.snd) (nY c y.snd)).fst.snd))), (47, (.bool (!withS (onS c (nX c y.snd) (nY c y.snd)).fst.fst (onS c (nX c y.snd) (nY c y.snd)).fst.snd))), (48, (.bool (false)))]) x126), (.blk 0), (.seq (pcOf H4 8 [1, 1, 1, 1, 1, 1])), (.cal [(.tmp 6)] .top)]⟩
theorem ctru_start (c : tChart.den) (x y : (Ty.sl (.int .u16)).den) : adv H4 (Y4 [8]) 3000 (startC H4 8 [tChart.av c, .vs (.int .u16) x.1 x.2, .vs (.int .u16) y.1 y.2] 8) = (bif !ieq (chkS c).snd.snd 0 then (bif bbeq c.fst.fst c.fst.fst then (bif vsB tMark c.fst.snd tMark c.fst.snd then (bif bbeq c.snd.fst.fst c.snd.fst.fst then (bif vsB tSand c.snd.fst.snd tSand c.snd.fst.snd then (bif bbeq c.fst.fst c.fst.fst then (bif vsB tMark c.fst.snd tMark c.fst.snd then (bif bbeq c.snd.fst.fst c.snd.fst.fst then (bif vsB tSand c.snd.fst.snd tSand c.snd.fst.snd then (bif !ieq (onS c 0 0).snd 0 then some (.done (.bool (true))) else some (.done (.bool (false)))) else none) else none) else none) else none) else none) else none) else none) else none) else (bif u16 y.snd && ieq (chkS c).snd.snd 0 then (bif !ieq (onS c (nX c y.snd) (nY c y.snd)).snd 0 then some (.done (.bool (false))) else (bif (onS c (nX c y.snd) (nY c y.snd)).fst.fst.length.ble 1000 && (onS c (nX c y.snd) (nY c y.snd)).fst.snd.length.ble 1000 then (bif !withS (onS c (nX c y.snd) (nY c y.snd)).fst.fst (onS c (nX c y.snd) (nY c y.snd)).fst.snd then some (.done (.bool (false))) else some (.stop (ctruI0 c x y (0) (1048575)))) else none)) else none)) := by kernel_rfl
theorem ctru_step0 (c : tChart.den) (x y : (Ty.sl (.int .u16)).den) (x14 : Int) (x126 : Nat) : adv H4 (Y4 [8]) 3000 (ctruI0 c x y x14 (x126 + 1)) = (bif !ile (↑c.snd.fst.snd.length) x14 then (bif inB x14 c.snd.fst.snd.length then (bif inB x14 c.snd.fst.snd.length then (bif u16 x.snd && goodS (c.snd.fst.snd.getD x14.toNat tSand.dflt) && ile 0 x14 && ile x14 1000 then (bif cOK (c.snd.fst.snd.getD x14.toNat tSand.dflt).snd.fst.snd && in5 (mX (c.snd.fst.snd.getD x14.toNat tSand.dflt) x.snd x14) && in5 (mY (c.snd.fst.snd.getD x14.toNat tSand.dflt) x.snd x14) && in10 (nX c y.snd) && in10 (nY c y.snd) then (bif ieq (nX c y.snd) (nX c y.snd) then (bif ieq (nY c y.snd) (nY c y.snd) then (bif ieq (nX c y.snd) (nX c y.snd) then (bif ieq (nY c y.snd) (nY c y.snd) then (bif bbeq c.snd.fst.fst c.snd.fst.fst then (bif vsB tSand c.snd.fst.snd tSand c.snd.fst.snd then (bif bbeq c.snd.fst.fst c.snd.fst.fst then (bif vsB tSand c.snd.fst.snd tSand c.snd.fst.snd then (bif bbeq c.snd.fst.fst c.snd.fst.fst then (bif vsB tSand c.snd.fst.snd tSand c.snd.fst.snd then (bif liesF (c.snd.fst.snd.getD x14.toNat tSand.dflt).snd.fst.snd (nX c y.snd - mX (c.snd.fst.snd.getD x14.toNat tSand.dflt) x.snd x14) (nY c y.snd - mY (c.snd.fst.snd.getD x14.toNat tSand.dflt) x.snd x14) 0 (c.snd.fst.snd.getD x14.toNat tSand.dflt).snd.fst.snd.length then (bif (onS c (nX c y.snd) (nY c y.snd)).fst.snd.length.ble 1000 then (bif !hasS (onS c (nX c y.snd) (nY c y.snd)).fst.snd x14 then some (.done (.bool (false))) else (bif !liesF (c.snd.fst.snd.getD x14.toNat tSand.dflt).snd.fst.snd (nX c y.snd - mX (c.snd.fst.snd.getD x14.toNat tSand.dflt) x.snd x14) (nY c y.snd - mY (c.snd.fst.snd.getD x14.toNat tSand.dflt) x.snd x14) 0 (c.snd.fst.snd.getD x14.toNat tSand.dflt).snd.fst.snd.length then (bif (onS c (nX c y.snd) (nY c y.snd)).fst.fst.length.ble 1000 then (bif hasS (onS c (nX c y.snd) (nY c y.snd)).fst.fst x14 then some (.done (.bool (false))) else some (.stop (ctruI0 c x y (wr IntKind.i64 (x14 + 1)) (x126)))) else none) else some (.stop (ctruI0 c x y (wr IntKind.i64 (x14 + 1)) (x126))))) else none) else (bif !liesF (c.snd.fst.snd.getD x14.toNat tSand.dflt).snd.fst.snd (nX c y.snd - mX (c.snd.fst.snd.getD x14.toNat tSand.dflt) x.snd x14) (nY c y.snd - mY (c.snd.fst.snd.getD x14.toNat tSand.dflt) x.snd x14) 0 (c.snd.fst.snd.getD x14.toNat tSand.dflt).snd.fst.snd.length then (bif (onS c (nX c y.snd) (nY c y.snd)).fst.fst.length.ble 1000 then (bif hasS (onS c (nX c y.snd) (nY c y.snd)).fst.fst x14 then some (.done (.bool (false))) else some (.stop (ctruI0 c x y (wr IntKind.i64 (x14 + 1)) (x126)))) else none) else some (.stop (ctruI0 c x y (wr IntKind.i64 (x14 + 1)) (x126))))) else none) else none) else none) else none) else none) else none) else none) else none) else none) else none) else none) else none) else none) else none) else some (.done (.bool (true)))) := by kernel_rfl
/-! ### The law ChartTrue finds true -/
noncomputable def liesS (s : tSand.den) (px py u v : Int) : Bool := liesF s.2.1.2 (px - u) (py - v) 0 s.2.1.2.length
theorem any_iff {s : tSand.den} {x0 x1 y0 y1 : Int} (e0 : s.2.2.1.1.1 = x0) (e1 : s.2.2.1.1.2.1 = x1) (e2 : s.2.2.1.2.1.1 = y0) (e3 : s.2.2.1.2.1.2.1 = y1) (hg : goodS s = true) {px py : Int} : anyS s px py = true ↔ ∃ u v : Int, (x0 ≤ u ∧ u ≤ x1) ∧ (y0 ≤ v ∧ v ≤ y1) ∧ liesS s px py u v = true := by
  obtain ⟨_, _, g6, g7⟩ := goodS_iff e0 e1 e2 e3 hg
  unfold anyS mvSd mvS liesS
  rw [e0, e1, e2, e3]
  have h := mvF_any (C := s.2.1.2) (fx := px) (fy := py) g7.1 (x1 - x0 + 1).toNat x0
  constructor
  · intro hh
    rw [ile_iff] at hh
    simp only [Bool.not_eq_true', decide_eq_false_iff_not] at hh
    obtain ⟨u, v, h1, h2, h3⟩ := h.1 (by omega)
    exact ⟨u, v, by omega, h2, h3⟩
  · rintro ⟨u, v, h1, h2, h3⟩
    have := h.2 ⟨u, v, by omega, h2, h3⟩
    rw [ile_iff, decide_eq_false (by omega)]; rfl
theorem all_iff {s : tSand.den} {x0 x1 y0 y1 : Int} (e0 : s.2.2.1.1.1 = x0) (e1 : s.2.2.1.1.2.1 = x1) (e2 : s.2.2.1.2.1.1 = y0) (e3 : s.2.2.1.2.1.2.1 = y1) (hg : goodS s = true) {px py : Int} : allS s px py = true ↔ ∀ u v : Int, (x0 ≤ u ∧ u ≤ x1) → (y0 ≤ v ∧ v ≤ y1) → liesS s px py u v = true := by
  obtain ⟨_, _, g6, g7⟩ := goodS_iff e0 e1 e2 e3 hg
  unfold allS mvSd mvS liesS totSd
  rw [e0, e1, e2, e3]
  have h := mvF_all (C := s.2.1.2) (fx := px) (fy := py) g7.1 (x1 - x0 + 1).toNat x0
  rw [show (((x1 - x0 + 1).toNat : Nat) : Int) = x1 - x0 + 1 by omega] at h
  constructor
  · intro hh u v h1 h2
    exact h.1 (ieq_t' hh) u v (by omega) h2
  · intro hh
    rw [ieq_iff]
    exact decide_eq_true (h.2 (fun u v h1 h2 => hh u v (by omega) h2))
theorem hasS_iff {n : Int} : ∀ {l : List tI.den}, hasS l n = true ↔ n ∈ l
  | [] => by rw [hasS]; simp
  | x :: l => by
    rw [hasS, List.mem_cons]
    cases e : ieq x n with
    | true => rw [cond_true]; have := ieq_t' e; simp [this]
    | false =>
      rw [cond_false, hasS_iff]
      have := ieq_f' e
      constructor
      · exact Or.inr
      · rintro (h | h)
        · exact absurd h.symm this
        · exact h
theorem withS_of {b : List tI.den} : ∀ {l : List tI.den}, (∀ x ∈ l, x ∈ b) → withS l b = true
  | [], _ => rfl
  | x :: l, h => by
    rw [withS, hasS_iff.2 (h x List.mem_cons_self), cond_true]
    exact withS_of (fun y hy => h y (List.mem_cons_of_mem _ hy))
theorem onF_mem {c : tChart.den} {px py : Int} {n : Int} : ∀ {r k : Nat} {s t : List Int},
    (n ∈ (onF c px py s t k r).1 ↔ n ∈ s ∨ ∃ j : Nat, n = j ∧ k ≤ j ∧ j < k + r ∧ allS (sd c j) px py = true) ∧
    (n ∈ (onF c px py s t k r).2 ↔ n ∈ t ∨ ∃ j : Nat, n = j ∧ k ≤ j ∧ j < k + r ∧ anyS (sd c j) px py = true) ∧
    ((onF c px py s t k r).1.length ≤ s.length + r ∧ (onF c px py s t k r).2.length ≤ t.length + r)
  | 0, k, s, t => by
    rw [onF]
    refine ⟨⟨Or.inl, ?_⟩, ⟨Or.inl, ?_⟩, by simp, by simp⟩
    · rintro (h | ⟨j, _, h1, h2, _⟩)
      · exact h
      · omega
    · rintro (h | ⟨j, _, h1, h2, _⟩)
      · exact h
      · omega
  | r + 1, k, s, t => by
    rw [onF]
    obtain ⟨h1, h2, h3, h4⟩ := onF_mem (c := c) (px := px) (py := py) (n := n) (r := r) (k := k + 1) (s := bif allS (sd c k) px py then s ++ [(k : Int)] else s) (t := bif anyS (sd c k) px py then t ++ [(k : Int)] else t)
    refine ⟨h1.trans ?_, h2.trans ?_, ?_, ?_⟩
    · cases e : allS (sd c k) px py with
      | true =>
        simp only [cond_true, List.mem_append, List.mem_singleton]
        constructor
        · rintro ((h | h) | ⟨j, p1, p2, p3, p4⟩)
          · exact .inl h
          · exact .inr ⟨k, h, Nat.le_refl _, by omega, e⟩
          · exact .inr ⟨j, p1, by omega, by omega, p4⟩
        · rintro (h | ⟨j, p1, p2, p3, p4⟩)
          · exact .inl (.inl h)
          · by_cases hj : j = k
            · subst hj; exact .inl (.inr p1)
            · exact .inr ⟨j, p1, by omega, by omega, p4⟩
      | false =>
        simp only [cond_false]
        constructor
        · rintro (h | ⟨j, p1, p2, p3, p4⟩)
          · exact .inl h
          · exact .inr ⟨j, p1, by omega, by omega, p4⟩
        · rintro (h | ⟨j, p1, p2, p3, p4⟩)
          · exact .inl h
          · by_cases hj : j = k
            · subst hj; rw [e] at p4; cases p4
            · exact .inr ⟨j, p1, by omega, by omega, p4⟩
    · cases e : anyS (sd c k) px py with
      | true =>
        simp only [cond_true, List.mem_append, List.mem_singleton]
        constructor
        · rintro ((h | h) | ⟨j, p1, p2, p3, p4⟩)
          · exact .inl h
          · exact .inr ⟨k, h, Nat.le_refl _, by omega, e⟩
          · exact .inr ⟨j, p1, by omega, by omega, p4⟩
        · rintro (h | ⟨j, p1, p2, p3, p4⟩)
          · exact .inl (.inl h)
          · by_cases hj : j = k
            · subst hj; exact .inl (.inr p1)
            · exact .inr ⟨j, p1, by omega, by omega, p4⟩
      | false =>
        simp only [cond_false]
        constructor
        · rintro (h | ⟨j, p1, p2, p3, p4⟩)
          · exact .inl h
          · exact .inr ⟨j, p1, by omega, by omega, p4⟩
        · rintro (h | ⟨j, p1, p2, p3, p4⟩)
          · exact .inl h
          · by_cases hj : j = k
            · subst hj; rw [e] at p4; cases p4
            · exact .inr ⟨j, p1, by omega, by omega, p4⟩
    · cases e : allS (sd c k) px py <;> (rw [e] at h3; simp only [cond_true, cond_false, List.length_append, List.length_singleton] at h3 ⊢; omega)
    · cases e : anyS (sd c k) px py <;> (rw [e] at h4; simp only [cond_true, cond_false, List.length_append, List.length_singleton] at h4 ⊢; omega)
theorem onS_ok {c : tChart.den} {px py : Int} (hv : (chkS c).2.2 = 0) (h1 : in10 px = true) (h2 : in10 py = true) : onS c px py = (onF c px py [] [] 0 c.2.1.2.length, 0) := by
  unfold onS
  rw [hv, ieq_self, h1, h2]; rfl
theorem all_any {s : tSand.den} (hg : goodS s = true) {px py : Int} (h : allS s px py = true) : anyS s px py = true := by
  obtain ⟨_, _, g6, g7⟩ := goodS_iff rfl rfl rfl rfl hg
  exact (any_iff rfl rfl rfl rfl hg).2 ⟨_, _, ⟨Int.le_refl _, g6.1⟩, ⟨Int.le_refl _, g7.1⟩, (all_iff rfl rfl rfl rfl hg).1 h _ _ ⟨Int.le_refl _, g6.1⟩ ⟨Int.le_refl _, g7.1⟩⟩
theorem ctru_loop (c : tChart.den) (x y : (Ty.sl (.int .u16)).den) (hv : (chkS c).2.2 = 0) (hx : u16 x.2 = true) : ∀ (r k m : Nat), k + r = c.2.1.2.length → r < m → AnsB H4 (ctruI0 c x y k m) true
  | 0, k, m + 1, hk, hm => by
    have h := ctru_step0 c x y k m
    simp only [ile_ge (show c.2.1.2.length ≤ k by omega), Bool.not_true, cond_false] at h
    exact .doneB (Y4_ok _) H4sy h rfl
  | r + 1, k, m + 1, hk, hm => by
    have h := ctru_step0 c x y k m
    have hlt : k < c.2.1.2.length := by omega
    have h4 := (valid_sands hv).1
    have hg := sd_good hv hlt
    have nx := nX_in c y.2
    have ny := nY_in c y.2
    have k0 : ile 0 (k : Int) = true := by rw [ile_iff]; exact decide_eq_true (by omega)
    have k1 : ile (k : Int) 1000 = true := by rw [ile_iff]; exact decide_eq_true (by omega)
    have hsd : c.2.1.2.getD k tSand.dflt = sd c k := rfl
    obtain ⟨gc, ⟨⟨g2, g3⟩, g4, g5⟩, g6, g7⟩ := goodS_iff rfl rfl rfl rfl hg
    have bm := amS_in (n := turnS x.2 (2 * (k : Int))) g6.1
    have bn := amS_in (n := turnS x.2 (2 * (k : Int) + 1)) g7.1
    have i0 := in5_iff.1 g2
    have i1 := in5_iff.1 g3
    have i2 := in5_iff.1 g4
    have i3 := in5_iff.1 g5
    have mx : in5 (mX (sd c k) x.2 k) = true := by rw [in5_iff]; unfold mX; exact ⟨Int.le_trans i0.1 bm.1, Int.le_trans bm.2 i1.2⟩
    have my : in5 (mY (sd c k) x.2 k) = true := by rw [in5_iff]; unfold mY; exact ⟨Int.le_trans i2.1 bn.1, Int.le_trans bn.2 i3.2⟩
    have ho := onS_ok hv nx ny
    obtain ⟨o1, o2, o3, o4⟩ := onF_mem (c := c) (px := nX c y.2) (py := nY c y.2) (n := (k : Int)) (r := c.2.1.2.length) (k := 0) (s := []) (t := [])
    rw [← show (onS c (nX c y.2) (nY c y.2)).1 = onF c (nX c y.2) (nY c y.2) [] [] 0 c.2.1.2.length by rw [ho]] at o1 o2 o3 o4
    have hl : (sd c k).2.1.2.length = (sd c k).2.1.2.length := rfl
    have key : liesF (sd c k).2.1.2 (nX c y.2 - mX (sd c k) x.2 k) (nY c y.2 - mY (sd c k) x.2 k) 0 (sd c k).2.1.2.length = liesS (sd c k) (nX c y.2) (nY c y.2) (mX (sd c k) x.2 k) (mY (sd c k) x.2 k) := rfl
    have e1 : (onS c (nX c y.2) (nY c y.2)).1.1.length.ble 1000 = true := Nat.ble_eq_true_of_le (by simp at o3; omega)
    have e2 : (onS c (nX c y.2) (nY c y.2)).1.2.length.ble 1000 = true := Nat.ble_eq_true_of_le (by simp at o4; omega)
    simp only [ile_lt hlt, inB_at hlt, nat_to, hsd, hx, hg, k0, k1, gc, mx, my, nx, ny, key, e1, e2, ieq_self, bbeq_self, vsB_self, wr_succ (show k < 1048577 by omega), Bool.and_self, Bool.not_false, cond_true] at h
    have ih := ctru_loop c x y hv hx r (k + 1) m (by omega) (by omega)
    cases e : liesS (sd c k) (nX c y.2) (nY c y.2) (mX (sd c k) x.2 k) (mY (sd c k) x.2 k) with
    | true =>
      have hany : anyS (sd c k) (nX c y.2) (nY c y.2) = true := (any_iff rfl rfl rfl rfl hg).2 ⟨_, _, ⟨bm.1, bm.2⟩, ⟨bn.1, bn.2⟩, e⟩
      have hh : hasS (onS c (nX c y.2) (nY c y.2)).1.2 k = true := hasS_iff.2 (o2.2 (.inr ⟨k, rfl, Nat.zero_le _, by omega, hany⟩))
      simp only [e, hh, Bool.not_true, cond_true, cond_false] at h
      exact .stop (Y4_ok _) H4sy h ih
    | false =>
      have hh : hasS (onS c (nX c y.2) (nY c y.2)).1.1 k = false := by
        cases q : hasS (onS c (nX c y.2) (nY c y.2)).1.1 k with
        | false => rfl
        | true =>
          rcases o1.1 (hasS_iff.1 q) with h' | ⟨j, p1, _, p3, p4⟩
          · cases h'
          · have : j = k := by omega
            subst this
            have := (all_iff rfl rfl rfl rfl hg).1 p4 _ _ ⟨bm.1, bm.2⟩ ⟨bn.1, bn.2⟩
            unfold mX mY at e
            rw [this] at e; cases e
      simp only [e, hh, Bool.not_false, cond_true, cond_false] at h
      exact .stop (Y4_ok _) H4sy h ih
theorem u16_wf {l : (Ty.sl (.int .u16)).den} (h : (Ty.sl (.int .u16)).wf l = true) : u16 l.2 = true := by
  unfold u16
  rw [List.all_eq_true] at *
  intro n hn
  have := List.all_eq_true.1 h n hn
  simp only [Ty.wf, Bool.and_eq_true, decide_eq_true_eq] at this
  rw [ile_iff, ile_iff, Bool.and_eq_true]
  exact ⟨decide_eq_true this.1, decide_eq_true this.2⟩
theorem ctru_ans (c : tChart.den) (x y : (Ty.sl (.int .u16)).den) (hx : u16 x.2 = true) (hy : u16 y.2 = true) : AnsB H4 (startC H4 8 [tChart.av c, .vs (.int .u16) x.1 x.2, .vs (.int .u16) y.1 y.2] 8) true := by
  have h := ctru_start c x y
  cases c1 : ieq (chkS c).2.2 0 with
  | false =>
    have e : ieq (onS c 0 0).2 0 = false := by unfold onS; rw [c1]; exact c1
    simp only [c1, e, bbeq_self, vsB_self, Bool.not_false, cond_true] at h
    exact .doneB (Y4_ok _) H4sy h rfl
  | true =>
    have hv := ieq_t' c1
    have h4 := (valid_sands hv).1
    have ho := onS_ok hv (nX_in c y.2) (nY_in c y.2)
    have hm := fun n => onF_mem (c := c) (px := nX c y.2) (py := nY c y.2) (n := n) (r := c.2.1.2.length) (k := 0) (s := []) (t := [])
    have e0 : ieq (onS c (nX c y.2) (nY c y.2)).2 0 = true := by rw [ho]; rfl
    have hw : withS (onS c (nX c y.2) (nY c y.2)).1.1 (onS c (nX c y.2) (nY c y.2)).1.2 = true := by
      rw [ho]
      refine withS_of (fun n hn => ?_)
      rcases (hm n).1.1 hn with h' | ⟨j, p1, p2, p3, p4⟩
      · cases h'
      · exact (hm n).2.1.2 (.inr ⟨j, p1, p2, p3, all_any (sd_good hv (by omega)) p4⟩)
    have e1 : (onS c (nX c y.2) (nY c y.2)).1.1.length.ble 1000 = true := Nat.ble_eq_true_of_le (by rw [ho]; exact Nat.le_trans (hm 0).2.2.1 (by rw [List.length_nil]; omega))
    have e2 : (onS c (nX c y.2) (nY c y.2)).1.2.length.ble 1000 = true := Nat.ble_eq_true_of_le (by rw [ho]; exact Nat.le_trans (hm 0).2.2.2 (by rw [List.length_nil]; omega))
    simp only [c1, hy, e0, e1, e2, hw, Bool.and_self, Bool.not_true, cond_true, cond_false] at h
    exact .stop (Y4_ok _) H4sy h (ctru_loop c x y hv hx c.2.1.2.length 0 1048575 (by omega) (by omega))
theorem true_true (c : tChart.den) (x y : (Ty.sl (.int .u16)).den) (hx : (Ty.sl (.int .u16)).wf x = true) (hy : (Ty.sl (.int .u16)).wf y = true) : ∃ σ, callN H4 (8 + 1) 8 [tChart.av c, (Ty.sl (.int .u16)).av x, (Ty.sl (.int .u16)).av y] .empty [] [] = some (.bool true, σ, []) :=
  AnsB.call (ext_none (by kernel_rfl)) (hasB_spec (by kernel_rfl)) (ctru_ans c x y (u16_wf hx) (u16_wf hy))
end Go.Proofs.YtffnpkbopjjdaaaGreatDoor


namespace Go.Proofs.YtffnpkbopjjdaaaGreatDoor
open Go Go.ChangeShapes Go.WideShapes Go.Eng

theorem kOwn : ownKnob Tryz.prog.godebug = none := by kernel_rfl
theorem kPlain : (Rows.chartTrueRow.laid.all fun x => x.2.handleName?.isNone) = true := by kernel_rfl
theorem kLaid : allT (glB Tryz.prog Rows.chartTrueRow.laid) T0.gl (fun k => k) = true := by kernel_rfl
theorem kParams : Tryz.f8.params = #[25, 64, 64] := by kernel_rfl
theorem kResults : Tryz.f8.resultTypes = #[4] := by kernel_rfl
theorem kLaidOut : laidOutB Tryz.prog = true := by kernel_rfl
theorem kRead : Tryz.f8.params.toList.all (fun t => Tryz.prog.readableRec t && decide (t < Tryz.prog.types.size)) = true := by kernel_rfl
theorem kFit1 : fits Tryz.prog (tChart) 25 = true := by kernel_rfl
theorem kFit2 : fits Tryz.prog (Ty.sl (.int .u16)) 64 = true := by kernel_rfl
theorem kFit3 : fits Tryz.prog (Ty.sl (.int .u16)) 64 = true := by kernel_rfl
theorem kGlob : H4.glob = T0.gl.get := rfl
theorem kExt (c1 : (tChart).den) (c2 : (Ty.sl (.int .u16)).den) (c3 : (Ty.sl (.int .u16)).den) : H4.ext 8 [tChart.av c1, (Ty.sl (.int .u16)).av c2, (Ty.sl (.int .u16)).av c3] = none := ext_none (by kernel_rfl)

set_option maxRecDepth 100000 in
theorem kLifted (os : Os) (started : os.Started) (H : Type) (enc : TypeId × Value → H) :
    ReturnsInHanded {} Tryz.checked os 8 .any (fun w args => (Rows.chartTrueSpec.pre enc Tryz.prog Tryz.f8 [] false w args ∧ laidMetH Tryz.prog Rows.chartTrueRow.laid w) ∧ sizedMet enc Tryz.prog Tryz.f8 (OpenSpec.ofChange Rows.chartTrueSpec) false w args)
      (Rows.chartTrueSpec.post enc Tryz.prog Tryz.f8 false true false false) := by
  refine returnsInHanded_of_change_and (C := Tryz.checked) (X := fun w _ => laidMetH Tryz.prog Rows.chartTrueRow.laid w) (fun _ _ _ hh h => h.of_heap hh) kOwn started (by kernel_rfl) Tryz.func8
    (ChangeSpec.witness_shaped (enc := enc) (C := Tryz.checked) (os := os) (X := fun w _ => laidMetH Tryz.prog Rows.chartTrueRow.laid w) false (World.laidAll Tryz.prog os Rows.chartTrueRow.laid) #[.agg #[.slice none 0 0, .slice none 0 0], .slice none 0 0, .slice none 0 0] 8 (World.laidAll_os _ _ _)
      (World.shaped_of_ZipB (by kernel_rfl) (by kernel_rfl)) (by kernel_rfl) (by kernel_rfl) (by kernel_rfl)
      (by rw [MakeChecks.laidMetH_plain _ _ _ kPlain]; exact laidMet_laidAll _ (by kernel_rfl) (by kernel_rfl))) ?_
  intro W base args ds gs before hok hW _ _ hL _
  have hL' : laidMet Tryz.prog Rows.chartTrueRow.laid W := by rw [← MakeChecks.laidMetH_plain _ _ _ kPlain]; exact hL
  have hW' := hW
  obtain ⟨p, q, hA, _⟩ := hW
  rw [kParams] at hA
  obtain ⟨v1, v2, v3, d1, d2, d3, p1, p2, p3, e1', e2', hp, t1, t2, t3⟩ := trodAll_three hA
  subst e1'; subst e2'
  rw [kParams] at hok
  obtain ⟨c1, h1, w1⟩ := arg_ty (t := tChart) (hok 0 25 v1 rfl rfl) kFit1 t1
  obtain ⟨c2, h2, w2⟩ := arg_ty (t := Ty.sl (.int .u16)) (hok 1 64 v2 rfl rfl) kFit2 t2
  obtain ⟨c3, h3, w3⟩ := arg_ty (t := Ty.sl (.int .u16)) (hok 2 64 v3 rfl rfl) kFit3 t3
  obtain ⟨σ, hrun⟩ := true_true c1 c2 c3 w2 w3
  refine (law_run (A := [v1, v2, v3]) (V := Go.Eng.seen W) h4 xh4 nh4 tabs_ok.mix (kExt c1 c2 c3) hrun (.cons h1 (.cons h2 (.cons h3 (.nil _)))) (by kernel_rfl) (fun _ _ _ h => h) (glob_of kGlob kLaid hL')).mono fun e W' ⟨he, hf⟩ => ?_
  subst he
  exact ⟨_, rfl, post_law kLaidOut kRead kResults Tryz.underlying4 rfl rfl hW' hf⟩

theorem kHolds : Rows.ChartTrueSaid :=
  OpenClaim.holds_of_wide 8 Tryz.f8 rfl rfl rfl rfl rfl rfl rfl ⟨rfl, rfl, rfl, rfl, rfl⟩ rfl rfl rfl rfl rfl (by kernel_rfl) Tryz.func8 (by kernel_rfl)
    (of_decide_eq_true (by kernel_rfl)) (by unfold Func.isWrapper; first | (rw [if_pos (by decide +kernel)]; kernel_rfl) | (rw [if_neg (by decide +kernel)]; exact ⟨rfl, rfl⟩))
    (fun os started H enc _ => kLifted os started H enc)

/-- The tied card. -/
theorem chartTrue_holds : Rows.ChartTrueCardSaid :=
  Claim7.holds_tied_plain_at .later [] Rows.chartTrueCard.laidKinds true Rows.chartTrueCard.stood.harness true
    kHolds (fun _ h => by cases h) (by kernel_rfl) (fun _ h => by cases h) chartTrue_row_tie rfl ⟨rfl, rfl⟩ (by kernel_rfl) rfl
    (fun f fn hf hfn => by
      obtain rfl : f = 8 := Option.some.inj ((show Tryz.prog.funcNamed "nore/norelaw01.ChartTrue" = some 8 by kernel_rfl).symm.trans hf) |>.symm
      obtain rfl : fn = Tryz.f8 := (Option.some.inj (Tryz.func8.symm.trans hfn)).symm
      exact ⟨by kernel_rfl, fun j t ht => by
        rw [kParams] at ht
        rcases j with _ | _ | _ | j <;> simp at ht <;> subst ht <;> kernel_rfl⟩)
    (by kernel_rfl)
#print axioms chartTrue_holds
end Go.Proofs.YtffnpkbopjjdaaaGreatDoor

