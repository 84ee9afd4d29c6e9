/-
  What is proved: norelaw01.ChartBoxes returns true for every chart, day, mark, box and place where it is parted: what Points returns of a box is what it returns of its two parts together, and from each single place what Seen returns. Conditions: none but those of the given card (package-level variables start as the program's text lays them).
-/
import Derived.Test.YtffnpkbopjjdaaaGreatDoorPart06
import Derived.Test.YtffnpkbopjjdaaaGreatDoorPart07
import Derived.Test.YtffnpkbopjjdaaaGreatDoorPart08
import Derived.Test.YtffnpkbopjjdaaaGreatDoorPart09
import Derived.Test.YtffnpkbopjjdaaaGreatDoorPart10
import Derived.Test.YtffnpkbopjjdaaaGreatDoorPart11
import Derived.Test.YtffnpkbopjjdaaaGreatDoorPart17
import Derived.Test.YtffnpkbopjjdaaaGreatDoorPart12
import Derived.Test.YtffnpkbopjjdaaaGreatDoorPart13
import Derived.Test.YtffnpkbopjjdaaaGreatDoorPart14
import Derived.Test.YtffnpkbopjjdaaaGreatDoorPart15
import Derived.Test.YtffnpkbopjjdaaaGreatDoorPart05
import Derived.Test.YtffnpkbopjjdaaaGreatDoorRows
import Derived.Test.YtffnpkbopjjdaaaGreatDoorCards
import Derived.Test.YtffnpkbopjjdaaaGreatDoorTie
import Derived.ProofKit
import Derived.LaidMore
import Derived.OpenShut
import Derived.Stop.Joined
import Derived.Lay
import Derived.SevenTiedAt
set_option linter.unusedSectionVars false
set_option linter.unusedSimpArgs false
set_option linter.unusedVariables false
/-
  CLOSED CALLS, joined.
-/
set_option maxRecDepth 100000
namespace Go.Proofs.YtffnpkbopjjdaaaGreatDoor
open Go Go.Eng
noncomputable def L3 : List Ent := [c0, c1, c2, c3, c4, c5, c6, c7, c8, c9, c10]
theorem l3 : ∀ e ∈ L3, EntOK Tryz.prog EA e := ents_cons o0 (ents_cons o1 (ents_cons o2 (ents_cons o3 (ents_cons o4 (ents_cons o5 (ents_cons o6 (ents_cons o7 (ents_cons o8 (ents_cons o9 (ents_cons o10 (ents_nil)))))))))))
end Go.Proofs.YtffnpkbopjjdaaaGreatDoor

/-
  THE LAW, its answer by the kernel.
-/
set_option maxRecDepth 100000
namespace Go.Proofs.YtffnpkbopjjdaaaGreatDoor
open Go Go.Eng
theorem kn_true : isTrueT EA L3 40 22 = true := by kernel_rfl
end Go.Proofs.YtffnpkbopjjdaaaGreatDoor

/-
  LOOPS, told by their heads.
-/
set_option maxRecDepth 100000
namespace Go.Proofs.YtffnpkbopjjdaaaGreatDoor
open Go Go.Eng
noncomputable def withI0 (a b : (Ty.sl tI).den) (x5 : Int) (x12 : Nat) : Cfg := ⟨.ex (pcOf F5 45 [0, 0, 1, 0, 1]) ⟨(tmOf 19 [(0, (.vs tI (a.fst) (a.snd))), (1, (.vs tI (b.fst) (b.snd))), (4, (.bool (false))), (5, (.int .i64 x5))]), (hpOf 0 []), [], [], 19, false⟩, ⟨6, []⟩, [(.lop (pcOf F5 45 [0, 0, 1, 0, 1]) 0 (tmOf 19 [(0, (.vs tI (a.fst) (a.snd))), (1, (.vs tI (b.fst) (b.snd))), (4, (.bool (false))), (5, (.int .i64 (0)))]) x12), (.blk 0), (.seq (pcOf F5 45 [1, 1])), (.cal [(.tmp 4)] .top)]⟩
theorem with_start (a b : (Ty.sl tI).den) : adv F5 (Z5 [45]) 3000 (startC F5 45 [.vs tI a.1 a.2, .vs tI b.1 b.2] 6) = some (.stop (withI0 a b (0) (1048575))) := by kernel_rfl
theorem with_step0 (a b : (Ty.sl tI).den) (x5 : Int) (x12 : Nat) : adv F5 (Z5 [45]) 3000 (withI0 a b x5 (x12 + 1)) = (bif !ile (↑a.snd.length) x5 then (bif inB x5 a.snd.length then (bif b.snd.length.ble 1000 then (bif !hasS b.snd (a.snd.getD x5.toNat tI.dflt) then some (.done (.bool (false))) else some (.stop (withI0 a b (wr IntKind.i64 (x5 + 1)) (x12)))) else none) else none) else some (.done (.bool (true)))) := by kernel_rfl
noncomputable def withS : List tI.den → List tI.den → Bool
  | [], _ => true
  | x :: l, b => bif hasS b x then withS l b else false
theorem with_ans (a b : (Ty.sl tI).den) (hl : a.2.length < 1048576) (hb : b.2.length.ble 1000 = true) : ∀ (r k m : Nat), k + r = a.2.length → r < m → Ans F5 (withI0 a b k m) (.bool (withS (a.2.drop k) b.2))
  | 0, k, m + 1, hk, hm => by
    have h := with_step0 a b k m
    simp only [ile_ge (show a.2.length ≤ k by omega), Bool.not_true, cond_false] at h
    rw [List.drop_eq_nil_of_le (by omega)]
    exact .doneB (Z5_ok _) F5sy h rfl
  | r + 1, k, m + 1, hk, hm => by
    have h := with_step0 a b k m
    have hlt : k < a.2.length := by omega
    simp only [ile_lt hlt, inB_at hlt, getD_at hlt, hb, wr_succ (show k < 1048577 by omega), Bool.not_false, cond_true] at h
    rw [List.drop_eq_getElem_cons hlt, withS]
    cases e : hasS b.2 (a.2[k]) with
    | true => simp only [e, Bool.not_true, cond_true, cond_false] at h ⊢; exact .stop (Z5_ok _) F5sy h (with_ans a b hl hb r (k + 1) m (by omega) (by omega))
    | false => simp only [e, Bool.not_false, cond_true, cond_false] at h ⊢; exact .doneB (Z5_ok _) F5sy h rfl
theorem with_call (a b : (Ty.sl tI).den) (hl : a.2.length < 1048575) (hb : b.2.length.ble 1000 = true) : AnsF F5 45 [.vs tI a.1 a.2, .vs tI b.1 b.2] (.bool (withS a.2 b.2)) :=
  Ans.call (n := 6) (ext_none (by kernel_rfl)) (hasB_spec (by kernel_rfl)) (.stop (Z5_ok _) F5sy (with_start a b) (with_ans a b (by omega) hb a.2.length 0 1048575 (by omega) (by omega)))
noncomputable def LE : List Said := [(45, con2 (.sl tI) (.sl tI) (fun a b => Nat.ble a.2.length 1000 && Nat.ble b.2.length 1000) (fun a b => .bool (withS a.2 b.2))), (22, say0 (.bool true))]
theorem LE_ok : ∀ e ∈ LE, SaidG Tryz.prog F5.glob e :=
  saids_cons (SaidOK.g f5 xf5 nf5 tabs_ok.mix (fun _ _ h => con2_spec (t := .sl tI) (u := .sl tI) (fun a b hc => by
    rw [Bool.and_eq_true] at hc
    exact with_call a b (by have := Nat.le_of_ble_eq_true hc.1; omega) hc.2) h) rfl)
  (saids_cons (XG.g (XG.closedT eA xA nA tabs_ok.mix l3 kn_true) rfl) saids_nil)
noncomputable def F6 : Env := F5.say (under (xOf LE))
theorem f6 : EnvOK Tryz.prog F6 := f5.say _
theorem nf6 : NameOK F6 := nf5.say _
theorem xf6 : ExtOK Tryz.prog F6 := xf5.sayL LE_ok
theorem F6sy : F6.sy = true := rfl
noncomputable def Z6 (l : List Nat) : Sy := (Z5 []).on LE l
theorem Z6_ok (l : List Nat) : (Z6 l).ok F6 := Sy.on_ok (Z5_ok _)
end Go.Proofs.YtffnpkbopjjdaaaGreatDoor

/-
  LOOPS, told by their heads.
-/
set_option maxRecDepth 100000
namespace Go.Proofs.YtffnpkbopjjdaaaGreatDoor
open Go Go.Eng
noncomputable def boxsI0 (c : tChart.den) (d m vx vy x0 x1 y0 y1 p : Int) (x23 : Int) (x304 : Nat) : Cfg := ⟨.ex (pcOf F6 13 [0, 0, 1, 0, 1, 1, 1, 1, 1, 1, 1, 1, 1, 1, 1]) ⟨(tmOf 228 [(0, (.agg [(.vs tMark (c.fst.fst) (c.fst.snd)), (.vs tSand (c.snd.fst.fst) (c.snd.fst.snd))])), (1, (.agg [(.int .i64 (d)), (.int .i64 (m)), (.int .i64 (vx)), (.int .i64 (vy)), (.int .i64 (x0)), (.int .i64 (x1)), (.int .i64 (y0)), (.int .i64 (y1))])), (2, (.int .u8 (p))), (3, (.ptr 0 0)), (4, (.ptr 1 0)), (6, (.bool (false))), (7, (.vs tI ((pntS c d m x0 x1 y0 y1).fst.isEmpty) ((pntS c d m x0 x1 y0 y1).fst))), (8, (.int .i64 ((pntS c d m x0 x1 y0 y1).snd))), (9, (.ptr 2 0)), (10, (.ptr 3 0)), (11, (.ptr 4 0)), (12, (.vs tI ((pntS c d m x0 (amS x0 x1 (wr IntKind.i64 p)) y0 y1).fst.isEmpty) ((pntS c d m x0 (amS x0 x1 (wr IntKind.i64 p)) y0 y1).fst))), (13, (.int .i64 ((pntS c d m x0 (amS x0 x1 (wr IntKind.i64 p)) y0 y1).snd))), (14, (.vs tI ((pntS c d m (bif ile x1 (wr IntKind.i64 (amS x0 x1 (wr IntKind.i64 p) + 1)) then x1 else wr IntKind.i64 (amS x0 x1 (wr IntKind.i64 p) + 1)) x1 y0 y1).fst.isEmpty) ((pntS c d m (bif ile x1 (wr IntKind.i64 (amS x0 x1 (wr IntKind.i64 p) + 1)) then x1 else wr IntKind.i64 (amS x0 x1 (wr IntKind.i64 p) + 1)) x1 y0 y1).fst))), (15, (.int .i64 ((pntS c d m (bif ile x1 (wr IntKind.i64 (amS x0 x1 (wr IntKind.i64 p) + 1)) then x1 else wr IntKind.i64 (amS x0 x1 (wr IntKind.i64 p) + 1)) x1 y0 y1).snd))), (16, (.int .i64 x23)), (22, (.tup [(.vs tI ((pntS c d m x0 x1 y0 y1).fst.isEmpty) ((pntS c d m x0 x1 y0 y1).fst)), (.int .i64 ((pntS c d m x0 x1 y0 y1).snd))])), (23, (.agg [(.vs tMark (c.fst.fst) (c.fst.snd)), (.vs tSand (c.snd.fst.fst) (c.snd.fst.snd))])), (24, (.ptr 1 0)), (25, (.int .i64 (d))), (26, (.ptr 1 1)), (27, (.int .i64 (m))), (28, (.ptr 1 4)), (29, (.agg [(.int .i64 (x0)), (.int .i64 (x1)), (.int .i64 (y0)), (.int .i64 (y1))])), (30, (.tup [(.vs tI ((pntS c d m x0 x1 y0 y1).fst.isEmpty) ((pntS c d m x0 x1 y0 y1).fst)), (.int .i64 ((pntS c d m x0 x1 y0 y1).snd))])), (31, (.vs tI ((pntS c d m x0 x1 y0 y1).fst.isEmpty) ((pntS c d m x0 x1 y0 y1).fst))), (32, (.int .i64 ((pntS c d m x0 x1 y0 y1).snd))), (33, (.ptr 1 4)), (34, (.agg [(.int .i64 (x0)), (.int .i64 (x1)), (.int .i64 (y0)), (.int .i64 (y1))])), (35, (.agg [(.int .i64 (x0)), (.int .i64 (x1)), (.int .i64 (y0)), (.int .i64 (y1))])), (36, (.int .i64 (boxE x0 x1 y0 y1))), (37, (.bool (!ieq (boxE x0 x1 y0 y1) 0))), (38, (.bool (false))), (39, (.agg [(.vs tMark (c.fst.fst) (c.fst.snd)), (.vs tSand (c.snd.fst.fst) (c.snd.fst.snd))])), (40, (.bool (ieq (chkS c).snd.snd 0))), (41, (.bool (!ieq (chkS c).snd.snd 0))), (42, (.bool (false))), (53, (.int .i64 ((pntS c d m x0 x1 y0 y1).snd))), (54, (.bool (false))), (61, (.agg [(.int .i64 (x0)), (.int .i64 (x1)), (.int .i64 (y0)), (.int .i64 (y1))])), (62, (.agg [(.int .i64 (x0)), (.int .i64 (x1)), (.int .i64 (y0)), (.int .i64 (y1))])), (63, (.ptr 2 0)), (64, (.agg [(.int .i64 (x0)), (.int .i64 (x1))])), (65, (.int .u8 (p))), (66, (.int .i64 (wr IntKind.i64 p))), (67, (.int .i64 (amS x0 x1 (wr IntKind.i64 p)))), (68, (.ptr 3 0)), (69, (.ptr 3 1)), (70, (.ptr 2 0)), (71, (.ptr 2 1)), (72, (.int .i64 (x1))), (73, (.ptr 3 0)), (74, (.ptr 3 1)), (75, (.int .i64 (amS x0 x1 (wr IntKind.i64 p)))), (76, (.int .i64 (wr IntKind.i64 (amS x0 x1 (wr IntKind.i64 p) + 1)))), (77, (.int .i64 (bif ile x1 (wr IntKind.i64 (amS x0 x1 (wr IntKind.i64 p) + 1)) then x1 else wr IntKind.i64 (amS x0 x1 (wr IntKind.i64 p) + 1)))), (78, (.ptr 4 0)), (79, (.ptr 4 0)), (80, (.tup [(.vs tI ((pntS c d m x0 (amS x0 x1 (wr IntKind.i64 p)) y0 y1).fst.isEmpty) ((pntS c d m x0 (amS x0 x1 (wr IntKind.i64 p)) y0 y1).fst)), (.int .i64 ((pntS c d m x0 (amS x0 x1 (wr IntKind.i64 p)) y0 y1).snd))])), (81, (.agg [(.vs tMark (c.fst.fst) (c.fst.snd)), (.vs tSand (c.snd.fst.fst) (c.snd.fst.snd))])), (82, (.ptr 1 0)), (83, (.int .i64 (d))), (84, (.ptr 1 1)), (85, (.int .i64 (m))), (86, (.agg [(.int .i64 (x0)), (.int .i64 (amS x0 x1 (wr IntKind.i64 p))), (.int .i64 (y0)), (.int .i64 (y1))])), (87, (.tup [(.vs tI ((pntS c d m x0 (amS x0 x1 (wr IntKind.i64 p)) y0 y1).fst.isEmpty) ((pntS c d m x0 (amS x0 x1 (wr IntKind.i64 p)) y0 y1).fst)), (.int .i64 ((pntS c d m x0 (amS x0 x1 (wr IntKind.i64 p)) y0 y1).snd))])), (88, (.vs tI ((pntS c d m x0 (amS x0 x1 (wr IntKind.i64 p)) y0 y1).fst.isEmpty) ((pntS c d m x0 (amS x0 x1 (wr IntKind.i64 p)) y0 y1).fst))), (89, (.int .i64 ((pntS c d m x0 (amS x0 x1 (wr IntKind.i64 p)) y0 y1).snd))), (90, (.tup [(.vs tI ((pntS c d m (bif ile x1 (wr IntKind.i64 (amS x0 x1 (wr IntKind.i64 p) + 1)) then x1 else wr IntKind.i64 (amS x0 x1 (wr IntKind.i64 p) + 1)) x1 y0 y1).fst.isEmpty) ((pntS c d m (bif ile x1 (wr IntKind.i64 (amS x0 x1 (wr IntKind.i64 p) + 1)) then x1 else wr IntKind.i64 (amS x0 x1 (wr IntKind.i64 p) + 1)) x1 y0 y1).fst)), (.int .i64 ((pntS c d m (bif ile x1 (wr IntKind.i64 (amS x0 x1 (wr IntKind.i64 p) + 1)) then x1 else wr IntKind.i64 (amS x0 x1 (wr IntKind.i64 p) + 1)) x1 y0 y1).snd))])), (91, (.agg [(.vs tMark (c.fst.fst) (c.fst.snd)), (.vs tSand (c.snd.fst.fst) (c.snd.fst.snd))])), (92, (.ptr 1 0)), (93, (.int .i64 (d))), (94, (.ptr 1 1)), (95, (.int .i64 (m))), (96, (.agg [(.int .i64 (bif ile x1 (wr IntKind.i64 (amS x0 x1 (wr IntKind.i64 p) + 1)) then x1 else wr IntKind.i64 (amS x0 x1 (wr IntKind.i64 p) + 1))), (.int .i64 (x1)), (.int .i64 (y0)), (.int .i64 (y1))])), (97, (.tup [(.vs tI ((pntS c d m (bif ile x1 (wr IntKind.i64 (amS x0 x1 (wr IntKind.i64 p) + 1)) then x1 else wr IntKind.i64 (amS x0 x1 (wr IntKind.i64 p) + 1)) x1 y0 y1).fst.isEmpty) ((pntS c d m (bif ile x1 (wr IntKind.i64 (amS x0 x1 (wr IntKind.i64 p) + 1)) then x1 else wr IntKind.i64 (amS x0 x1 (wr IntKind.i64 p) + 1)) x1 y0 y1).fst)), (.int .i64 ((pntS c d m (bif ile x1 (wr IntKind.i64 (amS x0 x1 (wr IntKind.i64 p) + 1)) then x1 else wr IntKind.i64 (amS x0 x1 (wr IntKind.i64 p) + 1)) x1 y0 y1).snd))])), (98, (.vs tI ((pntS c d m (bif ile x1 (wr IntKind.i64 (amS x0 x1 (wr IntKind.i64 p) + 1)) then x1 else wr IntKind.i64 (amS x0 x1 (wr IntKind.i64 p) + 1)) x1 y0 y1).fst.isEmpty) ((pntS c d m (bif ile x1 (wr IntKind.i64 (amS x0 x1 (wr IntKind.i64 p) + 1)) then x1 else wr IntKind.i64 (amS x0 x1 (wr IntKind.i64 p) + 1)) x1 y0 y1).fst))), (99, (.int .i64 ((pntS c d m (bif ile x1 (wr IntKind.i64 (amS x0 x1 (wr IntKind.i64 p) + 1)) then x1 else wr IntKind.i64 (amS x0 x1 (wr IntKind.i64 p) + 1)) x1 y0 y1).snd))), (100, (.int .i64 ((pntS c d m x0 (amS x0 x1 (wr IntKind.i64 p)) y0 y1).snd))), (101, (.bool (!ieq (pntS c d m x0 (amS x0 x1 (wr IntKind.i64 p)) y0 y1).snd 0))), (102, (.bool (false))), (103, (.int .i64 ((pntS c d m (bif ile x1 (wr IntKind.i64 (amS x0 x1 (wr IntKind.i64 p) + 1)) then x1 else wr IntKind.i64 (amS x0 x1 (wr IntKind.i64 p) + 1)) x1 y0 y1).snd))), (104, (.bool (!ieq (pntS c d m (bif ile x1 (wr IntKind.i64 (amS x0 x1 (wr IntKind.i64 p) + 1)) then x1 else wr IntKind.i64 (amS x0 x1 (wr IntKind.i64 p) + 1)) x1 y0 y1).snd 0))), (105, (.bool (!ieq (pntS c d m (bif ile x1 (wr IntKind.i64 (amS x0 x1 (wr IntKind.i64 p) + 1)) then x1 else wr IntKind.i64 (amS x0 x1 (wr IntKind.i64 p) + 1)) x1 y0 y1).snd 0))), (106, (.bool (false))), (107, (.vs tI ((pntS c d m x0 (amS x0 x1 (wr IntKind.i64 p)) y0 y1).fst.isEmpty) ((pntS c d m x0 (amS x0 x1 (wr IntKind.i64 p)) y0 y1).fst))), (108, (.vs tI ((pntS c d m x0 x1 y0 y1).fst.isEmpty) ((pntS c d m x0 x1 y0 y1).fst))), (109, (.bool (withS (pntS c d m x0 (amS x0 x1 (wr IntKind.i64 p)) y0 y1).fst (pntS c d m x0 x1 y0 y1).fst))), (110, (.bool (!withS (pntS c d m x0 (amS x0 x1 (wr IntKind.i64 p)) y0 y1).fst (pntS c d m x0 x1 y0 y1).fst))), (111, (.bool (!withS (pntS c d m x0 (amS x0 x1 (wr IntKind.i64 p)) y0 y1).fst (pntS c d m x0 x1 y0 y1).fst))), (112, (.bool (false))), (113, (.vs tI ((pntS c d m (bif ile x1 (wr IntKind.i64 (amS x0 x1 (wr IntKind.i64 p) + 1)) then x1 else wr IntKind.i64 (amS x0 x1 (wr IntKind.i64 p) + 1)) x1 y0 y1).fst.isEmpty) ((pntS c d m (bif ile x1 (wr IntKind.i64 (amS x0 x1 (wr IntKind.i64 p) + 1)) then x1 else wr IntKind.i64 (amS x0 x1 (wr IntKind.i64 p) + 1)) x1 y0 y1).fst))), (114, (.vs tI ((pntS c d m x0 x1 y0 y1).fst.isEmpty) ((pntS c d m x0 x1 y0 y1).fst))), (115, (.bool (withS (pntS c d m (bif ile x1 (wr IntKind.i64 (amS x0 x1 (wr IntKind.i64 p) + 1)) then x1 else wr IntKind.i64 (amS x0 x1 (wr IntKind.i64 p) + 1)) x1 y0 y1).fst (pntS c d m x0 x1 y0 y1).fst))), (116, (.bool (!withS (pntS c d m (bif ile x1 (wr IntKind.i64 (amS x0 x1 (wr IntKind.i64 p) + 1)) then x1 else wr IntKind.i64 (amS x0 x1 (wr IntKind.i64 p) + 1)) x1 y0 y1).fst (pntS c d m x0 x1 y0 y1).fst))), (117, (.bool (false)))]), (hpOf 5 [(0, (.cells false [(.vs tMark (c.fst.fst) (c.fst.snd)), (.vs tSand (c.snd.fst.fst) (c.snd.fst.snd))])), (1, (.cells false [(.int .i64 (d)), (.int .i64 (m)), (.int .i64 (vx)), (.int .i64 (vy)), (.int .i64 (x0)), (.int .i64 (x1)), (.int .i64 (y0)), (.int .i64 (y1))])), (2, (.cells false [(.int .i64 (x0)), (.int .i64 (x1)), (.int .i64 (y0)), (.int .i64 (y1))])), (3, (.cells false [(.int .i64 (x0)), (.int .i64 (amS x0 x1 (wr IntKind.i64 p))), (.int .i64 (y0)), (.int .i64 (y1))])), (4, (.cells false [(.int .i64 (bif ile x1 (wr IntKind.i64 (amS x0 x1 (wr IntKind.i64 p) + 1)) then x1 else wr IntKind.i64 (amS x0 x1 (wr IntKind.i64 p) + 1))), (.int .i64 (x1)), (.int .i64 (y0)), (.int .i64 (y1))]))]), [], [], 228, false⟩, ⟨8, []⟩, [(.lop (pcOf F6 13 [0, 0, 1, 0, 1, 1, 1, 1, 1, 1, 1, 1, 1, 1, 1]) 5 (tmOf 228 [(0, (.agg [(.vs tMark (c.fst.fst) (c.fst.snd)), (.vs tSand (c.snd.fst.fst) (c.snd.fst.snd))])), (1, (.agg [(.int .i64 (d)), (.int .i64 (m)), (.int .i64 (vx)), (.int .i64 (vy)), (.int .i64 (x0)), (.int .i64 (x1)), (.int .i64 (y0)), (.int .i64 (y1))])), (2, (.int .u8 (p))), (3, (.ptr 0 0)), (4, (.ptr 1 0)), (6, (.bool (false))), (7, (.vs tI ((pntS c d m x0 x1 y0 y1).fst.isEmpty) ((pntS c d m x0 x1 y0 y1).fst))), (8, (.int .i64 ((pntS c d m x0 x1 y0 y1).snd))), (9, (.ptr 2 0)), (10, (.ptr 3 0)), (11, (.ptr 4 0)), (12, (.vs tI ((pntS c d m x0 (amS x0 x1 (wr IntKind.i64 p)) y0 y1).fst.isEmpty) ((pntS c d m x0 (amS x0 x1 (wr IntKind.i64 p)) y0 y1).fst))), (13, (.int .i64 ((pntS c d m x0 (amS x0 x1 (wr IntKind.i64 p)) y0 y1).snd))), (14, (.vs tI ((pntS c d m (bif ile x1 (wr IntKind.i64 (amS x0 x1 (wr IntKind.i64 p) + 1)) then x1 else wr IntKind.i64 (amS x0 x1 (wr IntKind.i64 p) + 1)) x1 y0 y1).fst.isEmpty) ((pntS c d m (bif ile x1 (wr IntKind.i64 (amS x0 x1 (wr IntKind.i64 p) + 1)) then x1 else wr IntKind.i64 (amS x0 x1 (wr IntKind.i64 p) + 1)) x1 y0 y1).fst))), (15, (.int .i64 ((pntS c d m (bif ile x1 (wr IntKind.i64 (amS x0 x1 (wr IntKind.i64 p) + 1)) then x1 else wr IntKind.i64 (amS x0 x1 (wr IntKind.i64 p) + 1)) x1 y0 y1).snd))), (16, (.int .i64 (0))), (22, (.tup [(.vs tI ((pntS c d m x0 x1 y0 y1).fst.isEmpty) ((pntS c d m x0 x1 y0 y1).fst)), (.int .i64 ((pntS c d m x0 x1 y0 y1).snd))])), (23, (.agg [(.vs tMark (c.fst.fst) (c.fst.snd)), (.vs tSand (c.snd.fst.fst) (c.snd.fst.snd))])), (24, (.ptr 1 0)), (25, (.int .i64 (d))), (26, (.ptr 1 1)), (27, (.int .i64 (m))), (28, (.ptr 1 4)), (29, (.agg [(.int .i64 (x0)), (.int .i64 (x1)), (.int .i64 (y0)), (.int .i64 (y1))])), (30, (.tup [(.vs tI ((pntS c d m x0 x1 y0 y1).fst.isEmpty) ((pntS c d m x0 x1 y0 y1).fst)), (.int .i64 ((pntS c d m x0 x1 y0 y1).snd))])), (31, (.vs tI ((pntS c d m x0 x1 y0 y1).fst.isEmpty) ((pntS c d m x0 x1 y0 y1).fst))), (32, (.int .i64 ((pntS c d m x0 x1 y0 y1).snd))), (33, (.ptr 1 4)), (34, (.agg [(.int .i64 (x0)), (.int .i64 (x1)), (.int .i64 (y0)), (.int .i64 (y1))])), (35, (.agg [(.int .i64 (x0)), (.int .i64 (x1)), (.int .i64 (y0)), (.int .i64 (y1))])), (36, (.int .i64 (boxE x0 x1 y0 y1))), (37, (.bool (!ieq (boxE x0 x1 y0 y1) 0))), (38, (.bool (false))), (39, (.agg [(.vs tMark (c.fst.fst) (c.fst.snd)), (.vs tSand (c.snd.fst.fst) (c.snd.fst.snd))])), (40, (.bool (ieq (chkS c).snd.snd 0))), (41, (.bool (!ieq (chkS c).snd.snd 0))), (42, (.bool (false))), (53, (.int .i64 ((pntS c d m x0 x1 y0 y1).snd))), (54, (.bool (false))), (61, (.agg [(.int .i64 (x0)), (.int .i64 (x1)), (.int .i64 (y0)), (.int .i64 (y1))])), (62, (.agg [(.int .i64 (x0)), (.int .i64 (x1)), (.int .i64 (y0)), (.int .i64 (y1))])), (63, (.ptr 2 0)), (64, (.agg [(.int .i64 (x0)), (.int .i64 (x1))])), (65, (.int .u8 (p))), (66, (.int .i64 (wr IntKind.i64 p))), (67, (.int .i64 (amS x0 x1 (wr IntKind.i64 p)))), (68, (.ptr 3 0)), (69, (.ptr 3 1)), (70, (.ptr 2 0)), (71, (.ptr 2 1)), (72, (.int .i64 (x1))), (73, (.ptr 3 0)), (74, (.ptr 3 1)), (75, (.int .i64 (amS x0 x1 (wr IntKind.i64 p)))), (76, (.int .i64 (wr IntKind.i64 (amS x0 x1 (wr IntKind.i64 p) + 1)))), (77, (.int .i64 (bif ile x1 (wr IntKind.i64 (amS x0 x1 (wr IntKind.i64 p) + 1)) then x1 else wr IntKind.i64 (amS x0 x1 (wr IntKind.i64 p) + 1)))), (78, (.ptr 4 0)), (79, (.ptr 4 0)), (80, (.tup [(.vs tI ((pntS c d m x0 (amS x0 x1 (wr IntKind.i64 p)) y0 y1).fst.isEmpty) ((pntS c d m x0 (amS x0 x1 (wr IntKind.i64 p)) y0 y1).fst)), (.int .i64 ((pntS c d m x0 (amS x0 x1 (wr IntKind.i64 p)) y0 y1).snd))])), (81, (.agg [(.vs tMark (c.fst.fst) (c.fst.snd)), (.vs tSand (c.snd.fst.fst) (c.snd.fst.snd))])), (82, (.ptr 1 0)), (83, (.int .i64 (d))), (84, (.ptr 1 1)), (85, (.int .i64 (m))), (86, (.agg [(.int .i64 (x0)), (.int .i64 (amS x0 x1 (wr IntKind.i64 p))), (.int .i64 (y0)), (.int .i64 (y1))])), (87, (.tup [(.vs tI ((pntS c d m x0 (amS x0 x1 (wr IntKind.i64 p)) y0 y1).fst.isEmpty) ((pntS c d m x0 (amS x0 x1 (wr IntKind.i64 p)) y0 y1).fst)), (.int .i64 ((pntS c d m x0 (amS x0 x1 (wr IntKind.i64 p)) y0 y1).snd))])), (88, (.vs tI ((pntS c d m x0 (amS x0 x1 (wr IntKind.i64 p)) y0 y1).fst.isEmpty) ((pntS c d m x0 (amS x0 x1 (wr IntKind.i64 p)) y0 y1).fst))), (89, (.int .i64 ((pntS c d m x0 (amS x0 x1 (wr IntKind.i64 p)) y0 y1).snd))), (90, (.tup [(.vs tI ((pntS c d m (bif ile x1 (wr IntKind.i64 (amS x0 x1 (wr IntKind.i64 p) + 1)) then x1 else wr IntKind.i64 (amS x0 x1 (wr IntKind.i64 p) + 1)) x1 y0 y1).fst.isEmpty) ((pntS c d m (bif ile x1 (wr IntKind.i64 (amS x0 x1 (wr IntKind.i64 p) + 1)) then x1 else wr IntKind.i64 (amS x0 x1 (wr IntKind.i64 p) + 1)) x1 y0 y1).fst)), (.int .i64 ((pntS c d m (bif ile x1 (wr IntKind.i64 (amS x0 x1 (wr IntKind.i64 p) + 1)) then x1 else wr IntKind.i64 (amS x0 x1 (wr IntKind.i64 p) + 1)) x1 y0 y1).snd))])), (91, (.agg [(.vs tMark (c.fst.fst) (c.fst.snd)), (.vs tSand (c.snd.fst.fst) (c.snd.fst.snd))])), (92, (.ptr 1 0)), (93, (.int .i64 (d))), (94, (.ptr 1 1)), (95, (.int .i64 (m))), (96, (.agg [(.int .i64 (bif ile x1 (wr IntKind.i64 (amS x0 x1 (wr IntKind.i64 p) + 1)) then x1 else wr IntKind.i64 (amS x0 x1 (wr IntKind.i64 p) + 1))), (.int .i64 (x1)), (.int .i64 (y0)), (.int .i64 (y1))])), (97, (.tup [(.vs tI ((pntS c d m (bif ile x1 (wr IntKind.i64 (amS x0 x1 (wr IntKind.i64 p) + 1)) then x1 else wr IntKind.i64 (amS x0 x1 (wr IntKind.i64 p) + 1)) x1 y0 y1).fst.isEmpty) ((pntS c d m (bif ile x1 (wr IntKind.i64 (amS x0 x1 (wr IntKind.i64 p) + 1)) then x1 else wr IntKind.i64 (amS x0 x1 (wr IntKind.i64 p) + 1)) x1 y0 y1).fst)), (.int .i64 ((pntS c d m (bif ile x1 (wr IntKind.i64 (amS x0 x1 (wr IntKind.i64 p) + 1)) then x1 else wr IntKind.i64 (amS x0 x1 (wr IntKind.i64 p) + 1)) x1 y0 y1).snd))])), (98, (.vs tI ((pntS c d m (bif ile x1 (wr IntKind.i64 (amS x0 x1 (wr IntKind.i64 p) + 1)) then x1 else wr IntKind.i64 (amS x0 x1 (wr IntKind.i64 p) + 1)) x1 y0 y1).fst.isEmpty) ((pntS c d m (bif ile x1 (wr IntKind.i64 (amS x0 x1 (wr IntKind.i64 p) + 1)) then x1 else wr IntKind.i64 (amS x0 x1 (wr IntKind.i64 p) + 1)) x1 y0 y1).fst))), (99, (.int .i64 ((pntS c d m (bif ile x1 (wr IntKind.i64 (amS x0 x1 (wr IntKind.i64 p) + 1)) then x1 else wr IntKind.i64 (amS x0 x1 (wr IntKind.i64 p) + 1)) x1 y0 y1).snd))), (100, (.int .i64 ((pntS c d m x0 (amS x0 x1 (wr IntKind.i64 p)) y0 y1).snd))), (101, (.bool (!ieq (pntS c d m x0 (amS x0 x1 (wr IntKind.i64 p)) y0 y1).snd 0))), (102, (.bool (false))), (103, (.int .i64 ((pntS c d m (bif ile x1 (wr IntKind.i64 (amS x0 x1 (wr IntKind.i64 p) + 1)) then x1 else wr IntKind.i64 (amS x0 x1 (wr IntKind.i64 p) + 1)) x1 y0 y1).snd))), (104, (.bool (!ieq (pntS c d m (bif ile x1 (wr IntKind.i64 (amS x0 x1 (wr IntKind.i64 p) + 1)) then x1 else wr IntKind.i64 (amS x0 x1 (wr IntKind.i64 p) + 1)) x1 y0 y1).snd 0))), (105, (.bool (!ieq (pntS c d m (bif ile x1 (wr IntKind.i64 (amS x0 x1 (wr IntKind.i64 p) + 1)) then x1 else wr IntKind.i64 (amS x0 x1 (wr IntKind.i64 p) + 1)) x1 y0 y1).snd 0))), (106, (.bool (false))), (107, (.vs tI ((pntS c d m x0 (amS x0 x1 (wr IntKind.i64 p)) y0 y1).fst.isEmpty) ((pntS c d m x0 (amS x0 x1 (wr IntKind.i64 p)) y0 y1).fst))), (108, (.vs tI ((pntS c d m x0 x1 y0 y1).fst.isEmpty) ((pntS c d m x0 x1 y0 y1).fst))), (109, (.bool (withS (pntS c d m x0 (amS x0 x1 (wr IntKind.i64 p)) y0 y1).fst (pntS c d m x0 x1 y0 y1).fst))), (110, (.bool (!withS (pntS c d m x0 (amS x0 x1 (wr IntKind.i64 p)) y0 y1).fst (pntS c d m x0 x1 y0 y1).fst))), (111, (.bool (!withS (pntS c d m x0 (amS x0 x1 (wr IntKind.i64 p)) y0 y1).fst (pntS c d m x0 x1 y0 y1).fst))), (112, (.bool (false))), (113, (.vs tI ((pntS c d m (bif ile x1 (wr IntKind.i64 (amS x0 x1 (wr IntKind.i64 p) + 1)) then x1 else wr IntKind.i64 (amS x0 x1 (wr IntKind.i64 p) + 1)) x1 y0 y1).fst.isEmpty) ((pntS c d m (bif ile x1 (wr IntKind.i64 (amS x0 x1 (wr IntKind.i64 p) + 1)) then x1 else wr IntKind.i64 (amS x0 x1 (wr IntKind.i64 p) + 1)) x1 y0 y1).fst))), (114, (.vs tI ((pntS c d m x0 x1 y0 y1).fst.isEmpty) ((pntS c d m x0 x1 y0 y1).fst))), (115, (.bool (withS (pntS c d m (bif ile x1 (wr IntKind.i64 (amS x0 x1 (wr IntKind.i64 p) + 1)) then x1 else wr IntKind.i64 (amS x0 x1 (wr IntKind.i64 p) + 1)) x1 y0 y1).fst (pntS c d m x0 x1 y0 y1).fst))), (116, (.bool (!withS (pntS c d m (bif ile x1 (wr IntKind.i64 (amS x0 x1 (wr IntKind.i64 p) + 1)) then x1 else wr IntKind.i64 (amS x0 x1 (wr IntKind.i64 p) + 1)) x1 y0 y1).fst (pntS c d m x0 x1 y0 y1).fst))), (117, (.bool (false)))]) x304), (.blk 0), (.seq (pcOf F6 13 [1, 1, 1, 1, 1, 1, 1, 1, 1, 1, 1, 1])), (.cal [(.tmp 6)] .top)]⟩
theorem boxs_start (c : tChart.den) (d m vx vy x0 x1 y0 y1 p : Int) : adv F6 (Z6 [13]) 3000 (startC F6 13 [tChart.av c, .agg [.int .i64 d, .int .i64 m, .int .i64 vx, .int .i64 vy, .int .i64 x0, .int .i64 x1, .int .i64 y0, .int .i64 y1], .int .u8 p] 8) = (bif !ieq (boxE x0 x1 y0 y1) 0 then (bif !ieq (pntS c d m x0 x1 y0 y1).snd 0 then (bif ieq (↑(pntS c d m x0 x1 y0 y1).fst.length) 0 then some (.done (.bool (true))) else some (.done (.bool (false)))) else some (.done (.bool (false)))) else (bif !ieq (chkS c).snd.snd 0 then (bif !ieq (pntS c d m x0 x1 y0 y1).snd 0 then (bif ieq (↑(pntS c d m x0 x1 y0 y1).fst.length) 0 then some (.done (.bool (true))) else some (.done (.bool (false)))) else some (.done (.bool (false)))) else (bif !ieq (pntS c d m x0 x1 y0 y1).snd 0 then (bif ieq (↑(pntS c d m x0 x1 y0 y1).fst.length) 0 then some (.done (.bool (true))) else some (.done (.bool (false)))) else (bif ieq x0 x0 then (bif ieq x1 x1 then (bif ieq y0 y0 then (bif ieq y1 y1 then (bif ieq x0 x0 then (bif ieq x1 x1 then (bif ieq y0 y0 then (bif ieq y1 y1 then (bif ieq x0 x0 then (bif ieq x1 x1 then (bif ieq y0 y0 then (bif ieq y1 y1 then (bif amC x0 x1 (wr IntKind.i64 p) then (bif !ieq (pntS c d m x0 (amS x0 x1 (wr IntKind.i64 p)) y0 y1).snd 0 then some (.done (.bool (false))) else (bif !ieq (pntS c d m (bif ile x1 (wr IntKind.i64 (amS x0 x1 (wr IntKind.i64 p) + 1)) then x1 else wr IntKind.i64 (amS x0 x1 (wr IntKind.i64 p) + 1)) x1 y0 y1).snd 0 then some (.done (.bool (false))) else (bif (pntS c d m x0 (amS x0 x1 (wr IntKind.i64 p)) y0 y1).fst.length.ble 1000 && (pntS c d m x0 x1 y0 y1).fst.length.ble 1000 then (bif !withS (pntS c d m x0 (amS x0 x1 (wr IntKind.i64 p)) y0 y1).fst (pntS c d m x0 x1 y0 y1).fst then some (.done (.bool (false))) else (bif (pntS c d m (bif ile x1 (wr IntKind.i64 (amS x0 x1 (wr IntKind.i64 p) + 1)) then x1 else wr IntKind.i64 (amS x0 x1 (wr IntKind.i64 p) + 1)) x1 y0 y1).fst.length.ble 1000 && (pntS c d m x0 x1 y0 y1).fst.length.ble 1000 then (bif !withS (pntS c d m (bif ile x1 (wr IntKind.i64 (amS x0 x1 (wr IntKind.i64 p) + 1)) then x1 else wr IntKind.i64 (amS x0 x1 (wr IntKind.i64 p) + 1)) x1 y0 y1).fst (pntS c d m x0 x1 y0 y1).fst then some (.done (.bool (false))) else some (.stop (boxsI0 c d m vx vy x0 x1 y0 y1 p (0) (1048575)))) else none)) else none))) else none) else none) else none) else none) else none) else none) else none) else none) else none) else none) else none) else none) else none)))) := by kernel_rfl
theorem boxs_step0 (c : tChart.den) (d m vx vy x0 x1 y0 y1 p : Int) (x23 : Int) (x304 : Nat) : adv F6 (Z6 [13]) 3000 (boxsI0 c d m vx vy x0 x1 y0 y1 p x23 (x304 + 1)) = (bif !ile (↑(pntS c d m x0 x1 y0 y1).fst.length) x23 then (bif inB x23 (pntS c d m x0 x1 y0 y1).fst.length then (bif (pntS c d m x0 (amS x0 x1 (wr IntKind.i64 p)) y0 y1).fst.length.ble 1000 then (bif !hasS (pntS c d m x0 (amS x0 x1 (wr IntKind.i64 p)) y0 y1).fst ((pntS c d m x0 x1 y0 y1).fst.getD x23.toNat tI.dflt) then (bif inB x23 (pntS c d m x0 x1 y0 y1).fst.length then (bif (pntS c d m (bif ile x1 (wr IntKind.i64 (amS x0 x1 (wr IntKind.i64 p) + 1)) then x1 else wr IntKind.i64 (amS x0 x1 (wr IntKind.i64 p) + 1)) x1 y0 y1).fst.length.ble 1000 then (bif !hasS (pntS c d m (bif ile x1 (wr IntKind.i64 (amS x0 x1 (wr IntKind.i64 p) + 1)) then x1 else wr IntKind.i64 (amS x0 x1 (wr IntKind.i64 p) + 1)) x1 y0 y1).fst ((pntS c d m x0 x1 y0 y1).fst.getD x23.toNat tI.dflt) then some (.done (.bool (false))) else (bif !ile x23 0 then (bif inB x23 (pntS c d m x0 x1 y0 y1).fst.length then (bif inB (wr IntKind.i64 (x23 - 1)) (pntS c d m x0 x1 y0 y1).fst.length then (bif ile ((pntS c d m x0 x1 y0 y1).fst.getD x23.toNat tI.dflt) ((pntS c d m x0 x1 y0 y1).fst.getD (wr IntKind.i64 (x23 - 1)).toNat tI.dflt) then some (.done (.bool (false))) else some (.stop (boxsI0 c d m vx vy x0 x1 y0 y1 p (wr IntKind.i64 (x23 + 1)) (x304)))) else none) else none) else some (.stop (boxsI0 c d m vx vy x0 x1 y0 y1 p (wr IntKind.i64 (x23 + 1)) (x304))))) else none) else none) else (bif !ile x23 0 then (bif inB x23 (pntS c d m x0 x1 y0 y1).fst.length then (bif inB (wr IntKind.i64 (x23 - 1)) (pntS c d m x0 x1 y0 y1).fst.length then (bif ile ((pntS c d m x0 x1 y0 y1).fst.getD x23.toNat tI.dflt) ((pntS c d m x0 x1 y0 y1).fst.getD (wr IntKind.i64 (x23 - 1)).toNat tI.dflt) then some (.done (.bool (false))) else some (.stop (boxsI0 c d m vx vy x0 x1 y0 y1 p (wr IntKind.i64 (x23 + 1)) (x304)))) else none) else none) else some (.stop (boxsI0 c d m vx vy x0 x1 y0 y1 p (wr IntKind.i64 (x23 + 1)) (x304))))) else none) else none) else (bif amC x0 x1 (wr IntKind.i64 p) then (bif amC y0 y1 (wr IntKind.i64 ((wr IntKind.i64 p).tdiv 3)) then (bif ieq (wr IntKind.i64 p) (wr IntKind.i64 p) then (bif ieq (wr IntKind.i64 p) (wr IntKind.i64 p) then (bif ieq y0 y0 then (bif ieq y1 y1 then (bif ieq y0 y0 then (bif ieq y1 y1 then (bif ieq (wr IntKind.i64 p) (wr IntKind.i64 p) then (bif ieq x0 x0 then (bif ieq x1 x1 then (bif ieq (amS y0 y1 (wr IntKind.i64 ((wr IntKind.i64 p).tdiv 3))) (amS y0 y1 (wr IntKind.i64 ((wr IntKind.i64 p).tdiv 3))) then (bif ieq (amS y0 y1 (wr IntKind.i64 ((wr IntKind.i64 p).tdiv 3))) (amS y0 y1 (wr IntKind.i64 ((wr IntKind.i64 p).tdiv 3))) then (bif ieq (amS x0 x1 (wr IntKind.i64 p)) (amS x0 x1 (wr IntKind.i64 p)) then (bif ieq (amS x0 x1 (wr IntKind.i64 p)) (amS x0 x1 (wr IntKind.i64 p)) then (bif ieq m m then (bif ieq m m then (bif ieq d d then (bif ieq d d then (bif bbeq c.fst.fst c.fst.fst then (bif vsB tMark c.fst.snd tMark c.fst.snd then (bif bbeq c.snd.fst.fst c.snd.fst.fst then (bif vsB tSand c.snd.fst.snd tSand c.snd.fst.snd then (bif bbeq c.fst.fst c.fst.fst then (bif vsB tMark c.fst.snd tMark c.fst.snd then (bif bbeq c.snd.fst.fst c.snd.fst.fst then (bif vsB tSand c.snd.fst.snd tSand c.snd.fst.snd then (bif ieq (seeS c d m (amS x0 x1 (wr IntKind.i64 p)) (amS y0 y1 (wr IntKind.i64 ((wr IntKind.i64 p).tdiv 3)))).snd 8 then (bif ieq (pntS c d m (amS x0 x1 (wr IntKind.i64 p)) (amS x0 x1 (wr IntKind.i64 p)) (amS y0 y1 (wr IntKind.i64 ((wr IntKind.i64 p).tdiv 3))) (amS y0 y1 (wr IntKind.i64 ((wr IntKind.i64 p).tdiv 3)))).snd 0 then (bif ieq (↑(pntS c d m (amS x0 x1 (wr IntKind.i64 p)) (amS x0 x1 (wr IntKind.i64 p)) (amS y0 y1 (wr IntKind.i64 ((wr IntKind.i64 p).tdiv 3))) (amS y0 y1 (wr IntKind.i64 ((wr IntKind.i64 p).tdiv 3)))).fst.length) 0 then some (.done (.bool (true))) else some (.done (.bool (false)))) else some (.done (.bool (false)))) else (bif ieq (seeS c d m (amS x0 x1 (wr IntKind.i64 p)) (amS y0 y1 (wr IntKind.i64 ((wr IntKind.i64 p).tdiv 3)))).snd 0 then (bif ieq (pntS c d m (amS x0 x1 (wr IntKind.i64 p)) (amS x0 x1 (wr IntKind.i64 p)) (amS y0 y1 (wr IntKind.i64 ((wr IntKind.i64 p).tdiv 3))) (amS y0 y1 (wr IntKind.i64 ((wr IntKind.i64 p).tdiv 3)))).snd 0 then (bif (pntS c d m (amS x0 x1 (wr IntKind.i64 p)) (amS x0 x1 (wr IntKind.i64 p)) (amS y0 y1 (wr IntKind.i64 ((wr IntKind.i64 p).tdiv 3))) (amS y0 y1 (wr IntKind.i64 ((wr IntKind.i64 p).tdiv 3)))).fst.length.ble 1000 then (bif intsS (pntS c d m (amS x0 x1 (wr IntKind.i64 p)) (amS x0 x1 (wr IntKind.i64 p)) (amS y0 y1 (wr IntKind.i64 ((wr IntKind.i64 p).tdiv 3))) (amS y0 y1 (wr IntKind.i64 ((wr IntKind.i64 p).tdiv 3)))).fst [(seeS c d m (amS x0 x1 (wr IntKind.i64 p)) (amS y0 y1 (wr IntKind.i64 ((wr IntKind.i64 p).tdiv 3)))).fst] then (bif (pntS c d m x0 x1 y0 y1).fst.length.ble 1000 then (bif hasS (pntS c d m x0 x1 y0 y1).fst (seeS c d m (amS x0 x1 (wr IntKind.i64 p)) (amS y0 y1 (wr IntKind.i64 ((wr IntKind.i64 p).tdiv 3)))).fst then some (.done (.bool (true))) else some (.done (.bool (false)))) else none) else some (.done (.bool (false)))) else none) else some (.done (.bool (false)))) else some (.done (.bool (false))))) else none) else none) else none) else none) else none) else none) else none) else none) else none) else none) else none) else none) else none) else none) else none) else none) else none) else none) else none) else none) else none) else none) else none) else none) else none) else none) else none)) := by kernel_rfl
/-! ### Which points are among those of a box -/
theorem rowY_mem (x v : Int) : ∀ (r : Nat) (y : Int), y ≤ v → v < y + r → ((x, v, ()) : tP.den) ∈ rowY x y r
  | 0, y, h1, h2 => by omega
  | r + 1, y, h1, h2 => by
    rw [rowY, List.mem_cons]
    by_cases h : v = y
    · left; rw [h]
    · right; exact rowY_mem x v r (y + 1) (by omega) (by omega)
theorem ptsX_mem (y0 u v : Int) (n : Nat) (hy : y0 ≤ v ∧ v < y0 + n) : ∀ (r : Nat) (x : Int), x ≤ u → u < x + r → ((u, v, ()) : tP.den) ∈ ptsX y0 n x r
  | 0, x, h1, h2 => by omega
  | r + 1, x, h1, h2 => by
    rw [ptsX, List.mem_append]
    by_cases h : u = x
    · left; rw [h]; exact rowY_mem x v n y0 hy.1 hy.2
    · right; exact ptsX_mem y0 u v n hy r (x + 1) (by omega) (by omega)
theorem pts_iff {x0 x1 y0 y1 : Int} {p : tP.den} : p ∈ pts x0 x1 y0 y1 ↔ ∃ u v : Int, p = (u, v, ()) ∧ (x0 ≤ u ∧ u ≤ x1) ∧ y0 ≤ v ∧ v ≤ y1 := by
  constructor
  · intro h
    obtain ⟨u, v, h1, ⟨h2, h3⟩, h4, h5⟩ := ptsX_in h
    exact ⟨u, v, h1, by omega, by omega, by omega⟩
  · rintro ⟨u, v, rfl, h1, h2⟩
    exact ptsX_mem y0 u v _ (by omega) _ x0 h1.1 (by omega)
/-- From x, y the mark is seen in the point n. -/
def sees (a b n x y : Int) : Prop := ¬ (x = a ∧ y = b) ∧ ptF (a - x) (b - y) = n
theorem hit_get {a b : Int} {B : List Bool} {x y : Int} {k : Nat} (hk : k < B.length) : (hit a b B x y).getD k false = true ↔ B.getD k false = true ∨ sees a b k x y := by
  unfold hit sees
  have hp := (ptF_nat (a - x) (b - y)).1
  have hq := ptF_b (a - x) (b - y)
  rw [inV_iff] at hq
  cases c : (ieq x a && ieq y b) with
  | true =>
    rw [Bool.and_eq_true] at c
    have e1 := ieq_t c.1
    have e2 := ieq_t c.2
    rw [cond_true]
    constructor
    · exact Or.inl
    · rintro (h | ⟨h, _⟩)
      · exact h
      · exact absurd ⟨e1, e2⟩ h
  | false =>
    rw [cond_false]
    have hne : ¬ (x = a ∧ y = b) := by
      rintro ⟨rfl, rfl⟩
      rw [ieq_self, ieq_self] at c; cases c
    have e : (B.set (ptF (a - x) (b - y)).toNat true).getD k false = if (ptF (a - x) (b - y)).toNat = k then true else B.getD k false := by
      simp only [List.getD_eq_getElem?_getD, List.getElem?_set]
      by_cases h : (ptF (a - x) (b - y)).toNat = k
      · subst h; simp [hk]
      · simp [h]
    rw [e]
    by_cases h : (ptF (a - x) (b - y)).toNat = k
    · rw [if_pos h]
      constructor
      · intro _; exact .inr ⟨hne, by omega⟩
      · intro _; rfl
    · rw [if_neg h]
      constructor
      · exact Or.inl
      · rintro (h' | ⟨_, h'⟩)
        · exact h'
        · omega
theorem hitL_get {a b : Int} {k : Nat} : ∀ {L : List tP.den} {B : List Bool}, k < B.length → ((hitL a b L B).getD k false = true ↔ B.getD k false = true ∨ ∃ p ∈ L, sees a b k p.1 p.2.1)
  | [], B, hk => by rw [hitL]; simp
  | p :: L, B, hk => by
    rw [hitL, hitL_get (L := L) (by rw [hit_len]; exact hk), hit_get hk]
    constructor
    · rintro ((h | h) | ⟨q, hq, h⟩)
      · exact .inl h
      · exact .inr ⟨p, List.mem_cons_self, h⟩
      · exact .inr ⟨q, List.mem_cons_of_mem _ hq, h⟩
    · rintro (h | ⟨q, hq, h⟩)
      · exact .inl (.inl h)
      · rcases List.mem_cons.1 hq with rfl | hq
        · exact .inl (.inr h)
        · exact .inr ⟨q, hq, h⟩
theorem outG_mem {B : List Bool} {n : Int} : ∀ {r k : Nat}, (n ∈ outG B k r ↔ ∃ j : Nat, n = j ∧ k ≤ j ∧ j < k + r ∧ B.getD j false = true)
  | 0, k => by
    rw [outG]
    constructor
    · intro h; cases h
    · rintro ⟨j, _, h1, h2, _⟩; omega
  | r + 1, k => by
    rw [outG]
    have ih := outG_mem (B := B) (n := n) (r := r) (k := k + 1)
    cases e : B.getD k false with
    | true =>
      rw [cond_true, List.mem_cons, ih]
      constructor
      · rintro (rfl | ⟨j, h1, h2, h3, h4⟩)
        · exact ⟨k, rfl, Nat.le_refl _, by omega, e⟩
        · exact ⟨j, h1, by omega, by omega, h4⟩
      · rintro ⟨j, h1, h2, h3, h4⟩
        by_cases h : j = k
        · subst h; exact .inl h1
        · exact .inr ⟨j, h1, by omega, by omega, h4⟩
    | false =>
      rw [cond_false, ih]
      constructor
      · rintro ⟨j, h1, h2, h3, h4⟩; exact ⟨j, h1, by omega, by omega, h4⟩
      · rintro ⟨j, h1, h2, h3, h4⟩
        refine ⟨j, h1, ?_, by omega, h4⟩
        by_cases h : j = k
        · subst h; rw [e] at h4; cases h4
        · omega
theorem outG_sorted (B : List Bool) : ∀ (r k : Nat), (outG B k r).Pairwise (fun x y : Int => x < y)
  | 0, _ => by rw [outG]; exact List.Pairwise.nil
  | r + 1, k => by
    rw [outG]
    cases B.getD k false with
    | true =>
      rw [cond_true, List.pairwise_cons]
      refine ⟨fun x hx => ?_, outG_sorted B r (k + 1)⟩
      obtain ⟨j, h1, h2, _⟩ := outG_mem.1 hx
      omega
    | false => rw [cond_false]; exact outG_sorted B r (k + 1)
theorem hasS_iff {n : Int} : ∀ {l : List tI.den}, hasS l n = true ↔ n ∈ l
  | [] => by rw [hasS]; simp
  | x :: l => by
    rw [hasS, List.mem_cons]
    cases e : ieq x n with
    | true => rw [cond_true]; have := ieq_t e; simp [this]
    | false =>
      rw [cond_false, hasS_iff]
      have := ieq_f e
      constructor
      · exact Or.inr
      · rintro (h | h)
        · exact absurd h.symm this
        · exact h
theorem withS_of {b : List tI.den} : ∀ {l : List tI.den}, (∀ x ∈ l, x ∈ b) → withS l b = true
  | [], _ => rfl
  | x :: l, h => by
    rw [withS, hasS_iff.2 (h x List.mem_cons_self), cond_true]
    exact withS_of (fun y hy => h y (List.mem_cons_of_mem _ hy))
/-- The points of a box. -/
noncomputable def boxL (a b x0 x1 y0 y1 : Int) : List tI.den := outG (hitL a b (pts x0 x1 y0 y1) (List.replicate 32 false)) 0 32
theorem rep_get (k : Nat) : (List.replicate 32 false).getD k false = false := by
  rw [List.getD_eq_getElem?_getD, List.getElem?_replicate]
  split <;> rfl
theorem boxL_mem {a b x0 x1 y0 y1 n : Int} : n ∈ boxL a b x0 x1 y0 y1 ↔ ∃ u v : Int, ((x0 ≤ u ∧ u ≤ x1) ∧ y0 ≤ v ∧ v ≤ y1) ∧ sees a b n u v := by
  unfold boxL
  refine outG_mem.trans ?_
  constructor
  · rintro ⟨j, rfl, _, h3, h4⟩
    rw [hitL_get (by rw [List.length_replicate]; omega), rep_get] at h4
    rcases h4 with h4 | ⟨p, hp, h4⟩
    · cases h4
    · obtain ⟨u, v, rfl, h5⟩ := pts_iff.1 hp
      exact ⟨u, v, h5, h4⟩
  · rintro ⟨u, v, h1, h2⟩
    have hq := ptF_b (a - u) (b - v)
    rw [inV_iff] at hq
    have hn := h2.2
    refine ⟨n.toNat, by omega, Nat.zero_le _, by omega, ?_⟩
    rw [hitL_get (by rw [List.length_replicate]; omega)]
    refine .inr ⟨(u, v, ()), pts_iff.2 ⟨u, v, rfl, h1⟩, ?_⟩
    rw [show ((n.toNat : Nat) : Int) = n by omega]
    exact h2
theorem one_list : ∀ k ∈ List.range 32, outG ((List.replicate 32 false).set k true) 0 32 = [(k : Int)] := by decide +kernel
theorem none_list : outG (List.replicate 32 false) 0 32 = [] := by decide +kernel
theorem pts_one (u v : Int) : pts u u v v = [(u, v, ())] := by
  unfold pts
  rw [show (u - u + 1).toNat = 1 by omega, show (v - v + 1).toNat = 1 by omega]
  rfl
theorem boxL_one (a b u v : Int) : boxL a b u u v v = bif ieq u a && ieq v b then [] else [ptF (a - u) (b - v)] := by
  unfold boxL
  rw [pts_one, hitL, hitL, hit]
  cases ieq u a && ieq v b with
  | true => rw [cond_true, cond_true]; exact none_list
  | false =>
    have hq := ptF_b (a - u) (b - v)
    rw [inV_iff] at hq
    rw [cond_false, cond_false, one_list _ (List.mem_range.2 (ptF_nat (a - u) (b - v)).1)]
    rw [show (((ptF (a - u) (b - v)).toNat : Nat) : Int) = ptF (a - u) (b - v) by omega]
theorem pntS_ok {c : tChart.den} {d m x0 x1 y0 y1 : Int} (hs : stdE c d m = 0) (h8 : in8 x0 x1 y0 y1 = true) (h4 : fit4 x0 x1 y0 y1 = true) : pntS c d m x0 x1 y0 y1 = (boxL (mk c m).2.1.1 (mk c m).2.1.2.1 x0 x1 y0 y1, 0) := by
  unfold pntS boxP
  rw [hs, ieq_self, h8, h4]; rfl
theorem seeS_ok {c : tChart.den} {d m x y : Int} (hs : stdE c d m = 0) (h : inR x y = true) : seeS c d m x y = seeF (mk c m).2.1.1 (mk c m).2.1.2.1 x y := by
  unfold seeS
  rw [hs, ieq_self, h]; rfl
/-! ### The law ChartBoxes finds true -/
section
variable (c : tChart.den) (d m vx vy x0 x1 y0 y1 p : Int) (hp : 0 ≤ p ∧ p ≤ 255) (hs : stdE c d m = 0) (h8 : in8 x0 x1 y0 y1 = true) (h4 : fit4 x0 x1 y0 y1 = true)
include hp hs h8 h4
theorem boxs_fin (n k : Nat) (hk : (pntS c d m x0 x1 y0 y1).1.length ≤ k) : AnsB F6 (boxsI0 c d m vx vy x0 x1 y0 y1 p k (n + 1)) true := by
  have h := boxs_step0 c d m vx vy x0 x1 y0 y1 p k n
  rw [in8_iff] at h8
  rw [fit4_iff] at h4
  have w1 : wr .i64 p = p := wr_in (by omega) (by omega)
  have w2 : wr .i64 (p.tdiv 3) = p / 3 := by
    rw [Int.tdiv_eq_ediv_of_nonneg (by omega)]
    exact wr_in (by omega) (by omega)
  have a1 : amC x0 x1 p = true := by rw [amC_iff]; omega
  have a2 : amC y0 y1 (p / 3) = true := by rw [amC_iff]; omega
  obtain ⟨u, hu⟩ : ∃ u : Int, amS x0 x1 p = u := ⟨_, rfl⟩
  obtain ⟨v, hv⟩ : ∃ v : Int, amS y0 y1 (p / 3) = v := ⟨_, rfl⟩
  have bu := amS_in (n := p) h4.1.1.1
  have bv := amS_in (n := p / 3) h4.1.1.2
  rw [hu] at bu
  rw [hv] at bv
  have hR : inR u v = true := by rw [inR_iff]; omega
  have h81 : in8 u u v v = true := by rw [in8_iff]; omega
  have h41 : fit4 u u v v = true := by rw [fit4_iff]; omega
  have hl : ((pntS c d m x0 x1 y0 y1).1.length).ble 1000 = true := Nat.ble_eq_true_of_le (by have := pntS_len c d m x0 x1 y0 y1; omega)
  have hl1 : ((pntS c d m u u v v).1.length).ble 1000 = true := Nat.ble_eq_true_of_le (by have := pntS_len c d m u u v v; omega)
  simp only [ile_ge hk, w1, w2, a1, a2, hu, hv, hl, hl1, ieq_self, bbeq_self, vsB_self, seeS_ok hs hR, Bool.not_true, cond_true, cond_false] at h
  rw [pntS_ok hs h81 h41, boxL_one, pntS_ok hs (in8_iff.2 h8) (fit4_iff.2 h4)] at h
  generalize hA : (mk c m).2.1.1 = a at h
  generalize hB : (mk c m).2.1.2.1 = b at h
  unfold seeF at h
  rw [ieq_comm a u, ieq_comm b v] at h
  cases e : (ieq u a && ieq v b) with
  | true =>
    simp only [e, cond_true, ieq_self, List.length_nil] at h
    exact .doneB (Z6_ok _) F6sy h rfl
  | false =>
    have hne : ¬ (u = a ∧ v = b) := by
      rintro ⟨rfl, rfl⟩
      rw [ieq_self, ieq_self] at e; cases e
    have hm : hasS (boxL a b x0 x1 y0 y1) (ptF (a - u) (b - v)) = true := hasS_iff.2 (boxL_mem.2 ⟨u, v, by omega, hne, rfl⟩)
    simp only [e, cond_true, cond_false, ieq_self, show ieq 0 8 = false from rfl, intsS_self, hm] at h
    exact .doneB (Z6_ok _) F6sy h rfl
theorem boxs_loop (A1 A2 : List tI.den) (hA1 : (pntS c d m x0 (amS x0 x1 (wr .i64 p)) y0 y1).1 = A1) (hA2 : (pntS c d m (bif ile x1 (wr IntKind.i64 (amS x0 x1 (wr IntKind.i64 p) + 1)) then x1 else wr IntKind.i64 (amS x0 x1 (wr IntKind.i64 p) + 1)) x1 y0 y1).1 = A2)
    (hA : ∀ n ∈ (pntS c d m x0 x1 y0 y1).1, hasS A1 n = true ∨ hasS A2 n = true) :
    ∀ (r k n : Nat), k + r = (pntS c d m x0 x1 y0 y1).1.length → r < n → AnsB F6 (boxsI0 c d m vx vy x0 x1 y0 y1 p k n) true
  | 0, k, n + 1, hk, hn => boxs_fin c d m vx vy x0 x1 y0 y1 p hp hs h8 h4 n k (by omega)
  | r + 1, k, n + 1, hk, hn => by
    have h := boxs_step0 c d m vx vy x0 x1 y0 y1 p k n
    have l1 := pntS_len c d m x0 (amS x0 x1 (wr .i64 p)) y0 y1
    have l2 := pntS_len c d m (bif ile x1 (wr IntKind.i64 (amS x0 x1 (wr IntKind.i64 p) + 1)) then x1 else wr IntKind.i64 (amS x0 x1 (wr IntKind.i64 p) + 1)) x1 y0 y1
    rw [hA1] at l1
    rw [hA2] at l2
    have e1 : A1.length.ble 1000 = true := Nat.ble_eq_true_of_le (by omega)
    have e2 : A2.length.ble 1000 = true := Nat.ble_eq_true_of_le (by omega)
    have ih := boxs_loop A1 A2 hA1 hA2 hA r (k + 1) n (by omega) (by omega)
    have hll := pntS_len c d m x0 x1 y0 y1
    have hsort : ((pntS c d m x0 x1 y0 y1).1).Pairwise (fun x y : Int => x < y) := by
      rw [pntS_ok hs h8 h4]; exact outG_sorted _ _ _
    generalize hL : (pntS c d m x0 x1 y0 y1).1 = L at h hA hk hll hsort
    have hlt : k < L.length := by omega
    simp only [hA1, hA2, e1, e2, ile_lt hlt, inB_at hlt, getD_at hlt, wr_succ (show k < 1048577 by omega), Bool.not_false, cond_true] at h
    have hgo : (bif !ile (k : Int) 0 then bif inB (wr .i64 ((k : Int) - 1)) L.length then bif ile L[k] (L.getD (wr .i64 ((k : Int) - 1)).toNat tI.dflt) then some (Out.done (.bool false)) else some (.stop (boxsI0 c d m vx vy x0 x1 y0 y1 p ((k + 1 : Nat) : Int) n)) else none else some (.stop (boxsI0 c d m vx vy x0 x1 y0 y1 p ((k + 1 : Nat) : Int) n))) = some (.stop (boxsI0 c d m vx vy x0 x1 y0 y1 p ((k + 1 : Nat) : Int) n)) := by
      cases k with
      | zero => rfl
      | succ j =>
        have hj : j < L.length := by omega
        have z : ile ((j + 1 : Nat) : Int) 0 = false := by rw [ile_iff]; exact decide_eq_false (by omega)
        have w : wr .i64 (((j + 1 : Nat) : Int) - 1) = (j : Int) := by rw [wr_in (by omega) (by omega)]; omega
        have hlt2 : L[j] < L[j + 1] := List.pairwise_iff_getElem.1 hsort j (j + 1) hj hlt (by omega)
        have hf : ile L[j + 1] L[j] = false := by
          rw [ile_iff]
          exact decide_eq_false (Int.not_le.2 hlt2)
        simp only [z, w, inB_at hj, getD_at hj, hf, Bool.not_false, cond_true, cond_false]
    rw [hgo] at h
    rcases hA L[k] (List.getElem_mem hlt) with h1 | h1
    · rw [h1] at h
      simp only [Bool.not_true, cond_false] at h
      exact .stop (Z6_ok _) F6sy h ih
    · rw [h1] at h
      cases e : hasS A1 L[k] <;> (simp only [e, Bool.not_true, Bool.not_false, cond_true, cond_false] at h; exact .stop (Z6_ok _) F6sy h ih)
end
theorem boxs_ans (c : tChart.den) (d m vx vy x0 x1 y0 y1 p : Int) (hp : 0 ≤ p ∧ p ≤ 255) : AnsB F6 (startC F6 13 [tChart.av c, .agg [.int .i64 d, .int .i64 m, .int .i64 vx, .int .i64 vy, .int .i64 x0, .int .i64 x1, .int .i64 y0, .int .i64 y1], .int .u8 p] 8) true := by
  have h := boxs_start c d m vx vy x0 x1 y0 y1 p
  have bad : ∀ (hb : boxE x0 x1 y0 y1 ≠ 0 ∨ (chkS c).2.2 ≠ 0), ieq (pntS c d m x0 x1 y0 y1).2 0 = false ∧ (pntS c d m x0 x1 y0 y1).1 = [] := by
    intro hb
    unfold pntS boxP
    unfold boxE at hb
    cases e : ieq (stdE c d m) 0 with
    | false => rw [cond_false]; exact ⟨e, rfl⟩
    | true =>
      have hv := (datE_ok (stdE_ok (ieq_t e))).1
      rw [cond_true]
      cases e1 : in8 x0 x1 y0 y1 with
      | false => exact ⟨rfl, rfl⟩
      | true =>
        cases e2 : fit4 x0 x1 y0 y1 with
        | false => exact ⟨rfl, rfl⟩
        | true =>
          rw [e1, e2] at hb
          rcases hb with hb | hb
          · exact absurd rfl hb
          · exact absurd hv hb
  cases c1 : ieq (boxE x0 x1 y0 y1) 0 with
  | false =>
    obtain ⟨b1, b2⟩ := bad (.inl (ieq_f c1))
    simp only [c1, b1, b2, List.length_nil, Bool.not_false, cond_true] at h
    exact .doneB (Z6_ok _) F6sy h rfl
  | true =>
    cases c2 : ieq (chkS c).2.2 0 with
    | false =>
      obtain ⟨b1, b2⟩ := bad (.inr (ieq_f c2))
      simp only [c1, c2, b1, b2, List.length_nil, Bool.not_true, Bool.not_false, cond_true, cond_false] at h
      exact .doneB (Z6_ok _) F6sy h rfl
    | true =>
      have hb : in8 x0 x1 y0 y1 = true ∧ fit4 x0 x1 y0 y1 = true := by
        have := ieq_t c1
        unfold boxE at this
        cases e1 : in8 x0 x1 y0 y1 <;> cases e2 : fit4 x0 x1 y0 y1 <;> rw [e1, e2] at this <;> first | exact ⟨rfl, rfl⟩ | (exact absurd this (by decide))
      obtain ⟨h8, h4⟩ := hb
      cases c3 : ieq (stdE c d m) 0 with
      | false =>
        have e : pntS c d m x0 x1 y0 y1 = ([], stdE c d m) := by unfold pntS; rw [c3]; rfl
        simp only [c1, c2, e, c3, List.length_nil, Bool.not_true, Bool.not_false, cond_true, cond_false] at h
        exact .doneB (Z6_ok _) F6sy h rfl
      | true =>
        have hs := ieq_t c3
        have k8 := in8_iff.1 h8
        have k4 := fit4_iff.1 h4
        have w1 : wr .i64 p = p := wr_in (by omega) (by omega)
        have a1 : amC x0 x1 p = true := by rw [amC_iff]; omega
        have hloop := boxs_loop c d m vx vy x0 x1 y0 y1 p hp hs h8 h4
        obtain ⟨u, hu⟩ : ∃ u : Int, amS x0 x1 p = u := ⟨_, rfl⟩
        have bu := amS_in (n := p) k4.1.1.1
        rw [hu] at bu
        have w2 : wr .i64 (u + 1) = u + 1 := wr_in (by omega) (by omega)
        have hz : ∃ z : Int, (bif ile x1 (u + 1) then x1 else u + 1) = z ∧ (z = x1 ∧ x1 ≤ u + 1 ∨ z = u + 1 ∧ u + 1 < x1) := by
          cases e : ile x1 (u + 1) with
          | true => rw [ile_iff] at e; exact ⟨x1, rfl, .inl ⟨rfl, by simpa using e⟩⟩
          | false => rw [ile_iff] at e; exact ⟨u + 1, rfl, .inr ⟨rfl, by simp at e; omega⟩⟩
        obtain ⟨z, hz, hzb⟩ := hz
        simp only [w1, hu, w2, hz] at h hloop
        have h8a : in8 x0 u y0 y1 = true := by rw [in8_iff]; omega
        have h4a : fit4 x0 u y0 y1 = true := by rw [fit4_iff]; omega
        have h8b : in8 z x1 y0 y1 = true := by rw [in8_iff]; omega
        have h4b : fit4 z x1 y0 y1 = true := by rw [fit4_iff]; omega
        have l0 : ((pntS c d m x0 x1 y0 y1).1.length).ble 1000 = true := Nat.ble_eq_true_of_le (by have := pntS_len c d m x0 x1 y0 y1; omega)
        have l1 : ((pntS c d m x0 u y0 y1).1.length).ble 1000 = true := Nat.ble_eq_true_of_le (by have := pntS_len c d m x0 u y0 y1; omega)
        have l2 : ((pntS c d m z x1 y0 y1).1.length).ble 1000 = true := Nat.ble_eq_true_of_le (by have := pntS_len c d m z x1 y0 y1; omega)
        have hl := hloop _ _ rfl rfl
        have hlen := pntS_len c d m x0 x1 y0 y1
        simp only [pntS_ok hs h8 h4, pntS_ok hs h8a h4a, pntS_ok hs h8b h4b] at h l0 l1 l2 hl hlen
        generalize (mk c m).2.1.1 = a at h l0 l1 l2 hl hlen
        generalize (mk c m).2.1.2.1 = b at h l0 l1 l2 hl hlen
        have s1 : withS (boxL a b x0 u y0 y1) (boxL a b x0 x1 y0 y1) = true := withS_of (fun n hn => by
          obtain ⟨i, j, h1, h2⟩ := boxL_mem.1 hn
          exact boxL_mem.2 ⟨i, j, by omega, h2⟩)
        have s2 : withS (boxL a b z x1 y0 y1) (boxL a b x0 x1 y0 y1) = true := withS_of (fun n hn => by
          obtain ⟨i, j, h1, h2⟩ := boxL_mem.1 hn
          exact boxL_mem.2 ⟨i, j, by omega, h2⟩)
        simp only [c1, c2, a1, l0, l1, l2, s1, s2, ieq_self, Bool.and_self, Bool.not_true, cond_true, cond_false] at h
        refine .stop (Z6_ok _) F6sy h (hl (fun n hn => ?_) (boxL a b x0 x1 y0 y1).length 0 1048575 (by omega) (by omega))
        obtain ⟨i, j, h1, h2⟩ := boxL_mem.1 hn
        by_cases hi : i ≤ u
        · exact .inl (hasS_iff.2 (boxL_mem.2 ⟨i, j, by omega, h2⟩))
        · exact .inr (hasS_iff.2 (boxL_mem.2 ⟨i, j, by omega, h2⟩))
theorem boxes_true (c : tChart.den) (x : tLook.den) (p : (Ty.int .u8).den) (hw : (Ty.int .u8).wf p = true) : ∃ σ, callN F6 (8 + 1) 13 [tChart.av c, tLook.av x, (Ty.int .u8).av p] .empty [] [] = some (.bool true, σ, []) := by
  have hp : (0 : Int) ≤ p ∧ (p : Int) ≤ 255 := by
    have h := hw
    simp only [Ty.wf, Bool.and_eq_true, decide_eq_true_eq] at h
    exact h
  exact AnsB.call (ext_none (by kernel_rfl)) (hasB_spec (by kernel_rfl)) (boxs_ans c x.1 x.2.1 x.2.2.1.1 x.2.2.1.2.1 x.2.2.2.1.1.1 x.2.2.2.1.1.2.1 x.2.2.2.1.2.1.1 x.2.2.2.1.2.1.2.1 p hp)
end Go.Proofs.YtffnpkbopjjdaaaGreatDoor


namespace Go.Proofs.YtffnpkbopjjdaaaGreatDoor
open Go Go.ChangeShapes Go.WideShapes Go.Eng

theorem kOwn : ownKnob Tryz.prog.godebug = none := by kernel_rfl
theorem kPlain : (Rows.chartBoxesRow.laid.all fun x => x.2.handleName?.isNone) = true := by kernel_rfl
theorem kLaid : allT (glB Tryz.prog Rows.chartBoxesRow.laid) T0.gl (fun k => k) = true := by kernel_rfl
theorem kParams : Tryz.f13.params = #[25, 50, 5] := by kernel_rfl
theorem kResults : Tryz.f13.resultTypes = #[4] := by kernel_rfl
theorem kLaidOut : laidOutB Tryz.prog = true := by kernel_rfl
theorem kRead : Tryz.f13.params.toList.all (fun t => Tryz.prog.readableRec t && decide (t < Tryz.prog.types.size)) = true := by kernel_rfl
theorem kFit1 : fits Tryz.prog (tChart) 25 = true := by kernel_rfl
theorem kFit2 : fits Tryz.prog (tLook) 50 = true := by kernel_rfl
theorem kFit3 : fits Tryz.prog (Ty.int .u8) 5 = true := by kernel_rfl
theorem kGlob : F6.glob = T0.gl.get := rfl
theorem kExt (c1 : (tChart).den) (c2 : (tLook).den) (c3 : (Ty.int .u8).den) : F6.ext 13 [tChart.av c1, tLook.av c2, (Ty.int .u8).av c3] = none := ext_none (by kernel_rfl)

set_option maxRecDepth 100000 in
theorem kLifted (os : Os) (started : os.Started) (H : Type) (enc : TypeId × Value → H) :
    ReturnsInHanded {} Tryz.checked os 13 .any (fun w args => (Rows.chartBoxesSpec.pre enc Tryz.prog Tryz.f13 [] false w args ∧ laidMetH Tryz.prog Rows.chartBoxesRow.laid w) ∧ sizedMet enc Tryz.prog Tryz.f13 (OpenSpec.ofChange Rows.chartBoxesSpec) false w args)
      (Rows.chartBoxesSpec.post enc Tryz.prog Tryz.f13 false true false false) := by
  refine returnsInHanded_of_change_and (C := Tryz.checked) (X := fun w _ => laidMetH Tryz.prog Rows.chartBoxesRow.laid w) (fun _ _ _ hh h => h.of_heap hh) kOwn started (by kernel_rfl) Tryz.func13
    (ChangeSpec.witness_shaped (enc := enc) (C := Tryz.checked) (os := os) (X := fun w _ => laidMetH Tryz.prog Rows.chartBoxesRow.laid w) false (World.laidAll Tryz.prog os Rows.chartBoxesRow.laid) #[.agg #[.slice none 0 0, .slice none 0 0], .agg #[.int .i64 0, .int .i64 0, .int .i64 0, .int .i64 0, .int .i64 0, .int .i64 0, .int .i64 0, .int .i64 0], .int .u8 0] 8 (World.laidAll_os _ _ _)
      (World.shaped_of_ZipB (by kernel_rfl) (by kernel_rfl)) (by kernel_rfl) (by kernel_rfl) (by kernel_rfl)
      (by rw [MakeChecks.laidMetH_plain _ _ _ kPlain]; exact laidMet_laidAll _ (by kernel_rfl) (by kernel_rfl))) ?_
  intro W base args ds gs before hok hW _ _ hL _
  have hL' : laidMet Tryz.prog Rows.chartBoxesRow.laid W := by rw [← MakeChecks.laidMetH_plain _ _ _ kPlain]; exact hL
  have hW' := hW
  obtain ⟨p, q, hA, _⟩ := hW
  rw [kParams] at hA
  obtain ⟨v1, v2, v3, d1, d2, d3, p1, p2, p3, e1', e2', hp, t1, t2, t3⟩ := trodAll_three hA
  subst e1'; subst e2'
  rw [kParams] at hok
  obtain ⟨c1, h1, w1⟩ := arg_ty (t := tChart) (hok 0 25 v1 rfl rfl) kFit1 t1
  obtain ⟨c2, h2, w2⟩ := arg_ty (t := tLook) (hok 1 50 v2 rfl rfl) kFit2 t2
  obtain ⟨c3, h3, w3⟩ := arg_ty (t := Ty.int .u8) (hok 2 5 v3 rfl rfl) kFit3 t3
  obtain ⟨σ, hrun⟩ := boxes_true c1 c2 c3 w3
  refine (law_run (A := [v1, v2, v3]) (V := Go.Eng.seen W) f6 xf6 nf6 tabs_ok.mix (kExt c1 c2 c3) hrun (.cons h1 (.cons h2 (.cons h3 (.nil _)))) (by kernel_rfl) (fun _ _ _ h => h) (glob_of kGlob kLaid hL')).mono fun e W' ⟨he, hf⟩ => ?_
  subst he
  exact ⟨_, rfl, post_law kLaidOut kRead kResults Tryz.underlying4 rfl rfl hW' hf⟩

theorem kHolds : Rows.ChartBoxesSaid :=
  OpenClaim.holds_of_wide 13 Tryz.f13 rfl rfl rfl rfl rfl rfl rfl ⟨rfl, rfl, rfl, rfl, rfl⟩ rfl rfl rfl rfl rfl (by kernel_rfl) Tryz.func13 (by kernel_rfl)
    (of_decide_eq_true (by kernel_rfl)) (by unfold Func.isWrapper; first | (rw [if_pos (by decide +kernel)]; kernel_rfl) | (rw [if_neg (by decide +kernel)]; exact ⟨rfl, rfl⟩))
    (fun os started H enc _ => kLifted os started H enc)

/-- The tied card. -/
theorem chartBoxes_holds : Rows.ChartBoxesCardSaid :=
  Claim7.holds_tied_plain_at .later [] Rows.chartBoxesCard.laidKinds true Rows.chartBoxesCard.stood.harness true
    kHolds (fun _ h => by cases h) (by kernel_rfl) (fun _ h => by cases h) chartBoxes_row_tie rfl ⟨rfl, rfl⟩ (by kernel_rfl) rfl
    (fun f fn hf hfn => by
      obtain rfl : f = 13 := Option.some.inj ((show Tryz.prog.funcNamed "nore/norelaw01.ChartBoxes" = some 13 by kernel_rfl).symm.trans hf) |>.symm
      obtain rfl : fn = Tryz.f13 := (Option.some.inj (Tryz.func13.symm.trans hfn)).symm
      exact ⟨by kernel_rfl, fun j t ht => by
        rw [kParams] at ht
        rcases j with _ | _ | _ | j <;> simp at ht <;> subst ht <;> kernel_rfl⟩)
    (by kernel_rfl)
#print axioms chartBoxes_holds
end Go.Proofs.YtffnpkbopjjdaaaGreatDoor

