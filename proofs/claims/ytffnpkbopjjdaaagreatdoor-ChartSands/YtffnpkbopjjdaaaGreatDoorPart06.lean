/-
  THE ENGINE: one more part of it.
-/
import Derived.Test.YtffnpkbopjjdaaaGreatDoorPart05
import Derived.Test.YtffnpkbopjjdaaaGreatDoorPart03
import Derived.Test.YtffnpkbopjjdaaaGreatDoorPart04
import Derived.ProofKit
set_option linter.unusedSectionVars false
set_option linter.unusedSimpArgs false
set_option linter.unusedVariables false
set_option maxRecDepth 100000
namespace Go.Proofs.YtffnpkbopjjdaaaGreatDoor
open Go Go.Eng
noncomputable def roncI0 (c : tChart.den) (px py : Int) (x48 : Nat) : Cfg := ⟨.ex (pcOf H2 24 [0, 0, 1, 0, 1, 1, 1, 1]) ⟨(tmOf 73 [(0, (.agg [(.vs tMark (c.1.1) (c.1.2)), (.vs tSand (c.2.1.1) (c.2.1.2))])), (1, (.agg [(.int .i64 (px)), (.int .i64 (py))])), (2, (.ptr 0 0)), (3, (.ptr 1 0)), (4, .nils), (5, .nils), (6, (.int .i64 (0))), (7, (.int .i64 ((chkS c).2.2))), (8, .nils), (9, .nils), (10, (.int .i64 (0))), (16, (.agg [(.vs tMark (c.1.1) (c.1.2)), (.vs tSand (c.2.1.1) (c.2.1.2))])), (17, (.agg [(.int .i64 (px)), (.int .i64 (py))])), (18, (.int .i64 ((chkS c).2.2))), (19, (.int .i64 ((chkS c).2.2))), (20, (.bool (false)))]), (hpOf 4 [(0, (.cells false [(.vs tMark (c.1.1) (c.1.2)), (.vs tSand (c.2.1.1) (c.2.1.2))])), (1, (.cells false [(.int .i64 (px)), (.int .i64 (py))])), (2, (.cells false [(.vs tMark (c.1.1) (c.1.2)), (.vs tSand (c.2.1.1) (c.2.1.2))])), (3, (.cells false [(.int .i64 (px)), (.int .i64 (py))]))]), [], [], 73, false⟩, ⟨8, []⟩, [(.lop (pcOf H2 24 [0, 0, 1, 0, 1, 1, 1, 1]) 4 (tmOf 73 [(0, (.agg [(.vs tMark (c.1.1) (c.1.2)), (.vs tSand (c.2.1.1) (c.2.1.2))])), (1, (.agg [(.int .i64 (px)), (.int .i64 (py))])), (2, (.ptr 0 0)), (3, (.ptr 1 0)), (4, .nils), (5, .nils), (6, (.int .i64 (0))), (7, (.int .i64 ((chkS c).2.2))), (8, .nils), (9, .nils), (10, (.int .i64 (0))), (16, (.agg [(.vs tMark (c.1.1) (c.1.2)), (.vs tSand (c.2.1.1) (c.2.1.2))])), (17, (.agg [(.int .i64 (px)), (.int .i64 (py))])), (18, (.int .i64 ((chkS c).2.2))), (19, (.int .i64 ((chkS c).2.2))), (20, (.bool (false)))]) x48), (.blk 0), (.seq (pcOf H2 24 [1, 1, 1, 1, 1])), (.cal [(.tmp 4), (.tmp 5), (.tmp 6)] .top)]⟩
noncomputable def roncI1 (c : tChart.den) (px py : Int) (x8 : Int) (x50 : Nat) : Cfg := ⟨.ex (pcOf H2 24 [0, 0, 1, 0, 1, 1, 1, 1]) ⟨(tmOf 73 [(0, (.agg [(.vs tMark (c.1.1) (c.1.2)), (.vs tSand (c.2.1.1) (c.2.1.2))])), (1, (.agg [(.int .i64 (px)), (.int .i64 (py))])), (2, (.ptr 0 0)), (3, (.ptr 1 0)), (4, .nils), (5, .nils), (6, (.int .i64 (0))), (7, (.int .i64 ((chkS c).2.2))), (8, .nils), (9, .nils), (10, (.int .i64 x8)), (16, (.agg [(.vs tMark (c.1.1) (c.1.2)), (.vs tSand (c.2.1.1) (c.2.1.2))])), (17, (.agg [(.int .i64 (px)), (.int .i64 (py))])), (18, (.int .i64 ((chkS c).2.2))), (19, (.int .i64 ((chkS c).2.2))), (20, (.bool (false)))]), (hpOf 5 [(0, (.cells false [(.vs tMark (c.1.1) (c.1.2)), (.vs tSand (c.2.1.1) (c.2.1.2))])), (1, (.cells false [(.int .i64 (px)), (.int .i64 (py))])), (2, (.cells false [(.vs tMark (c.1.1) (c.1.2)), (.vs tSand (c.2.1.1) (c.2.1.2))])), (3, (.cells false [(.int .i64 (px)), (.int .i64 (py))])), (4, (.cells false [(.int .i64 (px)), (.int .i64 (py))]))]), [], [], 73, false⟩, ⟨8, []⟩, [(.lop (pcOf H2 24 [0, 0, 1, 0, 1, 1, 1, 1]) 5 (tmOf 73 [(0, (.agg [(.vs tMark (c.1.1) (c.1.2)), (.vs tSand (c.2.1.1) (c.2.1.2))])), (1, (.agg [(.int .i64 (px)), (.int .i64 (py))])), (2, (.ptr 0 0)), (3, (.ptr 1 0)), (4, .nils), (5, .nils), (6, (.int .i64 (0))), (7, (.int .i64 ((chkS c).2.2))), (8, .nils), (9, .nils), (10, (.int .i64 (0))), (16, (.agg [(.vs tMark (c.1.1) (c.1.2)), (.vs tSand (c.2.1.1) (c.2.1.2))])), (17, (.agg [(.int .i64 (px)), (.int .i64 (py))])), (18, (.int .i64 ((chkS c).2.2))), (19, (.int .i64 ((chkS c).2.2))), (20, (.bool (false)))]) x50), (.blk 0), (.seq (pcOf H2 24 [1, 1, 1, 1, 1])), (.cal [(.tmp 4), (.tmp 5), (.tmp 6)] .top)]⟩
noncomputable def roncI2 (c : tChart.den) (px py : Int) (x8 : Int) (x9 : Bool) (x10 : Bool) (x12 : List (Ty.den tP)) (x13 : Int) (x31 : List Nat) (x32 : Bool) (x33 : List (Ty.den tP)) (x34 : Int) (x35 : Int) (x36 : Int) (x37 : Int) (x116 : Nat) (x135 : Nat) : Cfg := ⟨.ex (pcOf H2 24 [0, 0, 1, 0, 1, 1, 0, 0, 1, 0, 0, 1, 0, 1, 1, 1, 1]) ⟨(tmOf 73 [(0, (.agg [(.vs tMark (c.1.1) (c.1.2)), (.vs tSand (c.2.1.1) (c.2.1.2))])), (1, (.agg [(.int .i64 (px)), (.int .i64 (py))])), (2, (.ptr 0 0)), (3, (.ptr 1 0)), (4, .nils), (5, .nils), (6, (.int .i64 (0))), (7, (.int .i64 ((chkS c).2.2))), (8, .nils), (9, .nils), (10, (.int .i64 x8)), (11, (.bool x9)), (12, (.bool x10)), (13, (.vs tP (false) x12)), (14, (.int .i64 x13)), (16, (.agg [(.vs tMark (c.1.1) (c.1.2)), (.vs tSand (c.2.1.1) (c.2.1.2))])), (17, (.agg [(.int .i64 (px)), (.int .i64 (py))])), (18, (.int .i64 ((chkS c).2.2))), (19, (.int .i64 ((chkS c).2.2))), (20, (.bool (false))), (22, (.int .i64 x8)), (23, (.ptr 0 1)), (24, (.vs tSand (c.2.1.1) (c.2.1.2))), (25, (.int .i64 (Int.ofNat c.2.1.2.length))), (26, (.bool (true))), (29, (.ptr 0 1)), (30, (.vs tSand (c.2.1.1) (c.2.1.2))), (31, (.int .i64 x8)), (32, (.cp [(.str x31), (.vs tP x32 x33), (.int .i64 x34), (.int .i64 x35), (.int .i64 x36), (.int .i64 x37)] 0)), (33, (.cp [(.str x31), (.vs tP x32 x33), (.int .i64 x34), (.int .i64 x35), (.int .i64 x36), (.int .i64 x37)] 2)), (34, (.agg [(.int .i64 x34), (.int .i64 x35), (.int .i64 x36), (.int .i64 x37)])), (35, (.vs tP (false) x12))]), (hpOf 5 [(0, (.cells false [(.vs tMark (c.1.1) (c.1.2)), (.vs tSand (c.2.1.1) (c.2.1.2))])), (1, (.cells false [(.int .i64 (px)), (.int .i64 (py))])), (2, (.cells false [(.vs tMark (c.1.1) (c.1.2)), (.vs tSand (c.2.1.1) (c.2.1.2))])), (3, (.cells false [(.int .i64 (px)), (.int .i64 (py))])), (4, (.cells false [(.int .i64 (px)), (.int .i64 (py))]))]), [], [], 73, false⟩, ⟨8, []⟩, [(.lop (pcOf H2 24 [0, 0, 1, 0, 1, 1, 0, 0, 1, 0, 0, 1, 0, 1, 1, 1, 1]) 5 (tmOf 73 [(0, (.agg [(.vs tMark (c.1.1) (c.1.2)), (.vs tSand (c.2.1.1) (c.2.1.2))])), (1, (.agg [(.int .i64 (px)), (.int .i64 (py))])), (2, (.ptr 0 0)), (3, (.ptr 1 0)), (4, .nils), (5, .nils), (6, (.int .i64 (0))), (7, (.int .i64 ((chkS c).2.2))), (8, .nils), (9, .nils), (10, (.int .i64 x8)), (11, (.bool (true))), (12, (.bool (false))), (13, (.vs tP (false) x12)), (14, (.int .i64 (0))), (16, (.agg [(.vs tMark (c.1.1) (c.1.2)), (.vs tSand (c.2.1.1) (c.2.1.2))])), (17, (.agg [(.int .i64 (px)), (.int .i64 (py))])), (18, (.int .i64 ((chkS c).2.2))), (19, (.int .i64 ((chkS c).2.2))), (20, (.bool (false))), (22, (.int .i64 x8)), (23, (.ptr 0 1)), (24, (.vs tSand (c.2.1.1) (c.2.1.2))), (25, (.int .i64 (Int.ofNat c.2.1.2.length))), (26, (.bool (true))), (29, (.ptr 0 1)), (30, (.vs tSand (c.2.1.1) (c.2.1.2))), (31, (.int .i64 x8)), (32, (.cp [(.str x31), (.vs tP x32 x33), (.int .i64 x34), (.int .i64 x35), (.int .i64 x36), (.int .i64 x37)] 0)), (33, (.cp [(.str x31), (.vs tP x32 x33), (.int .i64 x34), (.int .i64 x35), (.int .i64 x36), (.int .i64 x37)] 2)), (34, (.agg [(.int .i64 x34), (.int .i64 x35), (.int .i64 x36), (.int .i64 x37)])), (35, (.vs tP (false) x12))]) x116), (.blk 2), (.seq (pcOf H2 24 [1, 1, 1, 0, 0, 1, 0, 0, 1, 0, 1, 1, 1, 1])), (.blk 1), (.seq (pcOf H2 24 [1, 1, 0, 0, 1, 0, 1, 1, 1, 1])), (.lop (pcOf H2 24 [0, 0, 1, 0, 1, 1, 1, 1]) 5 (tmOf 73 [(0, (.agg [(.vs tMark (c.1.1) (c.1.2)), (.vs tSand (c.2.1.1) (c.2.1.2))])), (1, (.agg [(.int .i64 (px)), (.int .i64 (py))])), (2, (.ptr 0 0)), (3, (.ptr 1 0)), (4, .nils), (5, .nils), (6, (.int .i64 (0))), (7, (.int .i64 ((chkS c).2.2))), (8, .nils), (9, .nils), (10, (.int .i64 (0))), (16, (.agg [(.vs tMark (c.1.1) (c.1.2)), (.vs tSand (c.2.1.1) (c.2.1.2))])), (17, (.agg [(.int .i64 (px)), (.int .i64 (py))])), (18, (.int .i64 ((chkS c).2.2))), (19, (.int .i64 ((chkS c).2.2))), (20, (.bool (false)))]) x135), (.blk 0), (.seq (pcOf H2 24 [1, 1, 1, 1, 1])), (.cal [(.tmp 4), (.tmp 5), (.tmp 6)] .top)]⟩
noncomputable def roncI3 (c : tChart.den) (px py : Int) (x8 : Nat) (x10 : Int) (x34 : List AV) (x53 : Nat) : Cfg := ⟨.ex (pcOf H2 24 [0, 0, 1, 0, 1, 1, 1, 1]) ⟨(tmOf 73 [(0, (.agg [(.vs tMark (c.1.1) (c.1.2)), (.vs tSand (c.2.1.1) (c.2.1.2))])), (1, (.agg [(.int .i64 (px)), (.int .i64 (py))])), (2, (.ptr 0 0)), (3, (.ptr 1 0)), (4, .nils), (5, .nils), (6, (.int .i64 (0))), (7, (.int .i64 ((chkS c).2.2))), (8, (.sl 5 0 x8 x8 1)), (9, .nils), (10, (.int .i64 x10)), (16, (.agg [(.vs tMark (c.1.1) (c.1.2)), (.vs tSand (c.2.1.1) (c.2.1.2))])), (17, (.agg [(.int .i64 (px)), (.int .i64 (py))])), (18, (.int .i64 ((chkS c).2.2))), (19, (.int .i64 ((chkS c).2.2))), (20, (.bool (false)))]), (hpOf 6 [(0, (.cells false [(.vs tMark (c.1.1) (c.1.2)), (.vs tSand (c.2.1.1) (c.2.1.2))])), (1, (.cells false [(.int .i64 (px)), (.int .i64 (py))])), (2, (.cells false [(.vs tMark (c.1.1) (c.1.2)), (.vs tSand (c.2.1.1) (c.2.1.2))])), (3, (.cells false [(.int .i64 (px)), (.int .i64 (py))])), (4, (.cells false [(.int .i64 (px)), (.int .i64 (py))])), (5, (.cells false x34))]), [], [], 73, false⟩, ⟨8, []⟩, [(.lop (pcOf H2 24 [0, 0, 1, 0, 1, 1, 1, 1]) 5 (tmOf 73 [(0, (.agg [(.vs tMark (c.1.1) (c.1.2)), (.vs tSand (c.2.1.1) (c.2.1.2))])), (1, (.agg [(.int .i64 (px)), (.int .i64 (py))])), (2, (.ptr 0 0)), (3, (.ptr 1 0)), (4, .nils), (5, .nils), (6, (.int .i64 (0))), (7, (.int .i64 ((chkS c).2.2))), (8, .nils), (9, .nils), (10, (.int .i64 (0))), (16, (.agg [(.vs tMark (c.1.1) (c.1.2)), (.vs tSand (c.2.1.1) (c.2.1.2))])), (17, (.agg [(.int .i64 (px)), (.int .i64 (py))])), (18, (.int .i64 ((chkS c).2.2))), (19, (.int .i64 ((chkS c).2.2))), (20, (.bool (false)))]) x53), (.blk 0), (.seq (pcOf H2 24 [1, 1, 1, 1, 1])), (.cal [(.tmp 4), (.tmp 5), (.tmp 6)] .top)]⟩
noncomputable def roncI4 (c : tChart.den) (px py : Int) (x8 : Nat) (x10 : Int) (x34 : List AV) (x53 : Nat) : Cfg := ⟨.ex (pcOf H2 24 [0, 0, 1, 0, 1, 1, 1, 1]) ⟨(tmOf 73 [(0, (.agg [(.vs tMark (c.1.1) (c.1.2)), (.vs tSand (c.2.1.1) (c.2.1.2))])), (1, (.agg [(.int .i64 (px)), (.int .i64 (py))])), (2, (.ptr 0 0)), (3, (.ptr 1 0)), (4, .nils), (5, .nils), (6, (.int .i64 (0))), (7, (.int .i64 ((chkS c).2.2))), (8, .nils), (9, (.sl 5 0 x8 x8 1)), (10, (.int .i64 x10)), (16, (.agg [(.vs tMark (c.1.1) (c.1.2)), (.vs tSand (c.2.1.1) (c.2.1.2))])), (17, (.agg [(.int .i64 (px)), (.int .i64 (py))])), (18, (.int .i64 ((chkS c).2.2))), (19, (.int .i64 ((chkS c).2.2))), (20, (.bool (false)))]), (hpOf 6 [(0, (.cells false [(.vs tMark (c.1.1) (c.1.2)), (.vs tSand (c.2.1.1) (c.2.1.2))])), (1, (.cells false [(.int .i64 (px)), (.int .i64 (py))])), (2, (.cells false [(.vs tMark (c.1.1) (c.1.2)), (.vs tSand (c.2.1.1) (c.2.1.2))])), (3, (.cells false [(.int .i64 (px)), (.int .i64 (py))])), (4, (.cells false [(.int .i64 (px)), (.int .i64 (py))])), (5, (.cells false x34))]), [], [], 73, false⟩, ⟨8, []⟩, [(.lop (pcOf H2 24 [0, 0, 1, 0, 1, 1, 1, 1]) 5 (tmOf 73 [(0, (.agg [(.vs tMark (c.1.1) (c.1.2)), (.vs tSand (c.2.1.1) (c.2.1.2))])), (1, (.agg [(.int .i64 (px)), (.int .i64 (py))])), (2, (.ptr 0 0)), (3, (.ptr 1 0)), (4, .nils), (5, .nils), (6, (.int .i64 (0))), (7, (.int .i64 ((chkS c).2.2))), (8, .nils), (9, .nils), (10, (.int .i64 (0))), (16, (.agg [(.vs tMark (c.1.1) (c.1.2)), (.vs tSand (c.2.1.1) (c.2.1.2))])), (17, (.agg [(.int .i64 (px)), (.int .i64 (py))])), (18, (.int .i64 ((chkS c).2.2))), (19, (.int .i64 ((chkS c).2.2))), (20, (.bool (false)))]) x53), (.blk 0), (.seq (pcOf H2 24 [1, 1, 1, 1, 1])), (.cal [(.tmp 4), (.tmp 5), (.tmp 6)] .top)]⟩
noncomputable def roncI5 (c : tChart.den) (px py : Int) (x8 : Nat) (x10 : Nat) (x12 : Int) (x36 : List AV) (x37 : List AV) (x56 : Nat) : Cfg := ⟨.ex (pcOf H2 24 [0, 0, 1, 0, 1, 1, 1, 1]) ⟨(tmOf 73 [(0, (.agg [(.vs tMark (c.1.1) (c.1.2)), (.vs tSand (c.2.1.1) (c.2.1.2))])), (1, (.agg [(.int .i64 (px)), (.int .i64 (py))])), (2, (.ptr 0 0)), (3, (.ptr 1 0)), (4, .nils), (5, .nils), (6, (.int .i64 (0))), (7, (.int .i64 ((chkS c).2.2))), (8, (.sl 6 0 x8 x8 1)), (9, (.sl 5 0 x10 x10 1)), (10, (.int .i64 x12)), (16, (.agg [(.vs tMark (c.1.1) (c.1.2)), (.vs tSand (c.2.1.1) (c.2.1.2))])), (17, (.agg [(.int .i64 (px)), (.int .i64 (py))])), (18, (.int .i64 ((chkS c).2.2))), (19, (.int .i64 ((chkS c).2.2))), (20, (.bool (false)))]), (hpOf 7 [(0, (.cells false [(.vs tMark (c.1.1) (c.1.2)), (.vs tSand (c.2.1.1) (c.2.1.2))])), (1, (.cells false [(.int .i64 (px)), (.int .i64 (py))])), (2, (.cells false [(.vs tMark (c.1.1) (c.1.2)), (.vs tSand (c.2.1.1) (c.2.1.2))])), (3, (.cells false [(.int .i64 (px)), (.int .i64 (py))])), (4, (.cells false [(.int .i64 (px)), (.int .i64 (py))])), (5, (.cells false x36)), (6, (.cells false x37))]), [], [], 73, false⟩, ⟨8, []⟩, [(.lop (pcOf H2 24 [0, 0, 1, 0, 1, 1, 1, 1]) 5 (tmOf 73 [(0, (.agg [(.vs tMark (c.1.1) (c.1.2)), (.vs tSand (c.2.1.1) (c.2.1.2))])), (1, (.agg [(.int .i64 (px)), (.int .i64 (py))])), (2, (.ptr 0 0)), (3, (.ptr 1 0)), (4, .nils), (5, .nils), (6, (.int .i64 (0))), (7, (.int .i64 ((chkS c).2.2))), (8, .nils), (9, .nils), (10, (.int .i64 (0))), (16, (.agg [(.vs tMark (c.1.1) (c.1.2)), (.vs tSand (c.2.1.1) (c.2.1.2))])), (17, (.agg [(.int .i64 (px)), (.int .i64 (py))])), (18, (.int .i64 ((chkS c).2.2))), (19, (.int .i64 ((chkS c).2.2))), (20, (.bool (false)))]) x56), (.blk 0), (.seq (pcOf H2 24 [1, 1, 1, 1, 1])), (.cal [(.tmp 4), (.tmp 5), (.tmp 6)] .top)]⟩
noncomputable def roncI6 (c : tChart.den) (px py : Int) (x8 : Nat) (x10 : Int) (x11 : Bool) (x12 : Bool) (x14 : List (Ty.den tP)) (x15 : Int) (x33 : List Nat) (x34 : Bool) (x35 : List (Ty.den tP)) (x36 : Int) (x37 : Int) (x38 : Int) (x39 : Int) (x67 : List AV) (x121 : Nat) (x140 : Nat) : Cfg := ⟨.ex (pcOf H2 24 [0, 0, 1, 0, 1, 1, 0, 0, 1, 0, 0, 1, 0, 1, 1, 1, 1]) ⟨(tmOf 73 [(0, (.agg [(.vs tMark (c.1.1) (c.1.2)), (.vs tSand (c.2.1.1) (c.2.1.2))])), (1, (.agg [(.int .i64 (px)), (.int .i64 (py))])), (2, (.ptr 0 0)), (3, (.ptr 1 0)), (4, .nils), (5, .nils), (6, (.int .i64 (0))), (7, (.int .i64 ((chkS c).2.2))), (8, (.sl 5 0 x8 x8 1)), (9, .nils), (10, (.int .i64 x10)), (11, (.bool x11)), (12, (.bool x12)), (13, (.vs tP (false) x14)), (14, (.int .i64 x15)), (16, (.agg [(.vs tMark (c.1.1) (c.1.2)), (.vs tSand (c.2.1.1) (c.2.1.2))])), (17, (.agg [(.int .i64 (px)), (.int .i64 (py))])), (18, (.int .i64 ((chkS c).2.2))), (19, (.int .i64 ((chkS c).2.2))), (20, (.bool (false))), (22, (.int .i64 x10)), (23, (.ptr 0 1)), (24, (.vs tSand (c.2.1.1) (c.2.1.2))), (25, (.int .i64 (Int.ofNat c.2.1.2.length))), (26, (.bool (true))), (29, (.ptr 0 1)), (30, (.vs tSand (c.2.1.1) (c.2.1.2))), (31, (.int .i64 x10)), (32, (.cp [(.str x33), (.vs tP x34 x35), (.int .i64 x36), (.int .i64 x37), (.int .i64 x38), (.int .i64 x39)] 0)), (33, (.cp [(.str x33), (.vs tP x34 x35), (.int .i64 x36), (.int .i64 x37), (.int .i64 x38), (.int .i64 x39)] 2)), (34, (.agg [(.int .i64 x36), (.int .i64 x37), (.int .i64 x38), (.int .i64 x39)])), (35, (.vs tP (false) x14))]), (hpOf 6 [(0, (.cells false [(.vs tMark (c.1.1) (c.1.2)), (.vs tSand (c.2.1.1) (c.2.1.2))])), (1, (.cells false [(.int .i64 (px)), (.int .i64 (py))])), (2, (.cells false [(.vs tMark (c.1.1) (c.1.2)), (.vs tSand (c.2.1.1) (c.2.1.2))])), (3, (.cells false [(.int .i64 (px)), (.int .i64 (py))])), (4, (.cells false [(.int .i64 (px)), (.int .i64 (py))])), (5, (.cells false x67))]), [], [], 73, false⟩, ⟨8, []⟩, [(.lop (pcOf H2 24 [0, 0, 1, 0, 1, 1, 0, 0, 1, 0, 0, 1, 0, 1, 1, 1, 1]) 6 (tmOf 73 [(0, (.agg [(.vs tMark (c.1.1) (c.1.2)), (.vs tSand (c.2.1.1) (c.2.1.2))])), (1, (.agg [(.int .i64 (px)), (.int .i64 (py))])), (2, (.ptr 0 0)), (3, (.ptr 1 0)), (4, .nils), (5, .nils), (6, (.int .i64 (0))), (7, (.int .i64 ((chkS c).2.2))), (8, (.sl 5 0 x8 x8 1)), (9, .nils), (10, (.int .i64 x10)), (11, (.bool (true))), (12, (.bool (false))), (13, (.vs tP (false) x14)), (14, (.int .i64 (0))), (16, (.agg [(.vs tMark (c.1.1) (c.1.2)), (.vs tSand (c.2.1.1) (c.2.1.2))])), (17, (.agg [(.int .i64 (px)), (.int .i64 (py))])), (18, (.int .i64 ((chkS c).2.2))), (19, (.int .i64 ((chkS c).2.2))), (20, (.bool (false))), (22, (.int .i64 x10)), (23, (.ptr 0 1)), (24, (.vs tSand (c.2.1.1) (c.2.1.2))), (25, (.int .i64 (Int.ofNat c.2.1.2.length))), (26, (.bool (true))), (29, (.ptr 0 1)), (30, (.vs tSand (c.2.1.1) (c.2.1.2))), (31, (.int .i64 x10)), (32, (.cp [(.str x33), (.vs tP x34 x35), (.int .i64 x36), (.int .i64 x37), (.int .i64 x38), (.int .i64 x39)] 0)), (33, (.cp [(.str x33), (.vs tP x34 x35), (.int .i64 x36), (.int .i64 x37), (.int .i64 x38), (.int .i64 x39)] 2)), (34, (.agg [(.int .i64 x36), (.int .i64 x37), (.int .i64 x38), (.int .i64 x39)])), (35, (.vs tP (false) x14))]) x121), (.blk 2), (.seq (pcOf H2 24 [1, 1, 1, 0, 0, 1, 0, 0, 1, 0, 1, 1, 1, 1])), (.blk 1), (.seq (pcOf H2 24 [1, 1, 0, 0, 1, 0, 1, 1, 1, 1])), (.lop (pcOf H2 24 [0, 0, 1, 0, 1, 1, 1, 1]) 5 (tmOf 73 [(0, (.agg [(.vs tMark (c.1.1) (c.1.2)), (.vs tSand (c.2.1.1) (c.2.1.2))])), (1, (.agg [(.int .i64 (px)), (.int .i64 (py))])), (2, (.ptr 0 0)), (3, (.ptr 1 0)), (4, .nils), (5, .nils), (6, (.int .i64 (0))), (7, (.int .i64 ((chkS c).2.2))), (8, .nils), (9, .nils), (10, (.int .i64 (0))), (16, (.agg [(.vs tMark (c.1.1) (c.1.2)), (.vs tSand (c.2.1.1) (c.2.1.2))])), (17, (.agg [(.int .i64 (px)), (.int .i64 (py))])), (18, (.int .i64 ((chkS c).2.2))), (19, (.int .i64 ((chkS c).2.2))), (20, (.bool (false)))]) x140), (.blk 0), (.seq (pcOf H2 24 [1, 1, 1, 1, 1])), (.cal [(.tmp 4), (.tmp 5), (.tmp 6)] .top)]⟩
noncomputable def roncI7 (c : tChart.den) (px py : Int) (x8 : Nat) (x10 : Int) (x11 : Bool) (x12 : Bool) (x14 : List (Ty.den tP)) (x15 : Int) (x33 : List Nat) (x34 : Bool) (x35 : List (Ty.den tP)) (x36 : Int) (x37 : Int) (x38 : Int) (x39 : Int) (x67 : List AV) (x121 : Nat) (x140 : Nat) : Cfg := ⟨.ex (pcOf H2 24 [0, 0, 1, 0, 1, 1, 0, 0, 1, 0, 0, 1, 0, 1, 1, 1, 1]) ⟨(tmOf 73 [(0, (.agg [(.vs tMark (c.1.1) (c.1.2)), (.vs tSand (c.2.1.1) (c.2.1.2))])), (1, (.agg [(.int .i64 (px)), (.int .i64 (py))])), (2, (.ptr 0 0)), (3, (.ptr 1 0)), (4, .nils), (5, .nils), (6, (.int .i64 (0))), (7, (.int .i64 ((chkS c).2.2))), (8, .nils), (9, (.sl 5 0 x8 x8 1)), (10, (.int .i64 x10)), (11, (.bool x11)), (12, (.bool x12)), (13, (.vs tP (false) x14)), (14, (.int .i64 x15)), (16, (.agg [(.vs tMark (c.1.1) (c.1.2)), (.vs tSand (c.2.1.1) (c.2.1.2))])), (17, (.agg [(.int .i64 (px)), (.int .i64 (py))])), (18, (.int .i64 ((chkS c).2.2))), (19, (.int .i64 ((chkS c).2.2))), (20, (.bool (false))), (22, (.int .i64 x10)), (23, (.ptr 0 1)), (24, (.vs tSand (c.2.1.1) (c.2.1.2))), (25, (.int .i64 (Int.ofNat c.2.1.2.length))), (26, (.bool (true))), (29, (.ptr 0 1)), (30, (.vs tSand (c.2.1.1) (c.2.1.2))), (31, (.int .i64 x10)), (32, (.cp [(.str x33), (.vs tP x34 x35), (.int .i64 x36), (.int .i64 x37), (.int .i64 x38), (.int .i64 x39)] 0)), (33, (.cp [(.str x33), (.vs tP x34 x35), (.int .i64 x36), (.int .i64 x37), (.int .i64 x38), (.int .i64 x39)] 2)), (34, (.agg [(.int .i64 x36), (.int .i64 x37), (.int .i64 x38), (.int .i64 x39)])), (35, (.vs tP (false) x14))]), (hpOf 6 [(0, (.cells false [(.vs tMark (c.1.1) (c.1.2)), (.vs tSand (c.2.1.1) (c.2.1.2))])), (1, (.cells false [(.int .i64 (px)), (.int .i64 (py))])), (2, (.cells false [(.vs tMark (c.1.1) (c.1.2)), (.vs tSand (c.2.1.1) (c.2.1.2))])), (3, (.cells false [(.int .i64 (px)), (.int .i64 (py))])), (4, (.cells false [(.int .i64 (px)), (.int .i64 (py))])), (5, (.cells false x67))]), [], [], 73, false⟩, ⟨8, []⟩, [(.lop (pcOf H2 24 [0, 0, 1, 0, 1, 1, 0, 0, 1, 0, 0, 1, 0, 1, 1, 1, 1]) 6 (tmOf 73 [(0, (.agg [(.vs tMark (c.1.1) (c.1.2)), (.vs tSand (c.2.1.1) (c.2.1.2))])), (1, (.agg [(.int .i64 (px)), (.int .i64 (py))])), (2, (.ptr 0 0)), (3, (.ptr 1 0)), (4, .nils), (5, .nils), (6, (.int .i64 (0))), (7, (.int .i64 ((chkS c).2.2))), (8, .nils), (9, (.sl 5 0 x8 x8 1)), (10, (.int .i64 x10)), (11, (.bool (true))), (12, (.bool (false))), (13, (.vs tP (false) x14)), (14, (.int .i64 (0))), (16, (.agg [(.vs tMark (c.1.1) (c.1.2)), (.vs tSand (c.2.1.1) (c.2.1.2))])), (17, (.agg [(.int .i64 (px)), (.int .i64 (py))])), (18, (.int .i64 ((chkS c).2.2))), (19, (.int .i64 ((chkS c).2.2))), (20, (.bool (false))), (22, (.int .i64 x10)), (23, (.ptr 0 1)), (24, (.vs tSand (c.2.1.1) (c.2.1.2))), (25, (.int .i64 (Int.ofNat c.2.1.2.length))), (26, (.bool (true))), (29, (.ptr 0 1)), (30, (.vs tSand (c.2.1.1) (c.2.1.2))), (31, (.int .i64 x10)), (32, (.cp [(.str x33), (.vs tP x34 x35), (.int .i64 x36), (.int .i64 x37), (.int .i64 x38), (.int .i64 x39)] 0)), (33, (.cp [(.str x33), (.vs tP x34 x35), (.int .i64 x36), (.int .i64 x37), (.int .i64 x38), (.int .i64 x39)] 2)), (34, (.agg [(.int .i64 x36), (.int .i64 x37), (.int .i64 x38), (.int .i64 x39)])), (35, (.vs tP (false) x14))]) x121), (.blk 2), (.seq (pcOf H2 24 [1, 1, 1, 0, 0, 1, 0, 0, 1, 0, 1, 1, 1, 1])), (.blk 1), (.seq (pcOf H2 24 [1, 1, 0, 0, 1, 0, 1, 1, 1, 1])), (.lop (pcOf H2 24 [0, 0, 1, 0, 1, 1, 1, 1]) 5 (tmOf 73 [(0, (.agg [(.vs tMark (c.1.1) (c.1.2)), (.vs tSand (c.2.1.1) (c.2.1.2))])), (1, (.agg [(.int .i64 (px)), (.int .i64 (py))])), (2, (.ptr 0 0)), (3, (.ptr 1 0)), (4, .nils), (5, .nils), (6, (.int .i64 (0))), (7, (.int .i64 ((chkS c).2.2))), (8, .nils), (9, .nils), (10, (.int .i64 (0))), (16, (.agg [(.vs tMark (c.1.1) (c.1.2)), (.vs tSand (c.2.1.1) (c.2.1.2))])), (17, (.agg [(.int .i64 (px)), (.int .i64 (py))])), (18, (.int .i64 ((chkS c).2.2))), (19, (.int .i64 ((chkS c).2.2))), (20, (.bool (false)))]) x140), (.blk 0), (.seq (pcOf H2 24 [1, 1, 1, 1, 1])), (.cal [(.tmp 4), (.tmp 5), (.tmp 6)] .top)]⟩
noncomputable def roncI8 (c : tChart.den) (px py : Int) (x8 : Nat) (x10 : Nat) (x12 : Int) (x13 : Bool) (x14 : Bool) (x16 : List (Ty.den tP)) (x17 : Int) (x35 : List Nat) (x36 : Bool) (x37 : List (Ty.den tP)) (x38 : Int) (x39 : Int) (x40 : Int) (x41 : Int) (x69 : List AV) (x70 : List AV) (x126 : Nat) (x145 : Nat) : Cfg := ⟨.ex (pcOf H2 24 [0, 0, 1, 0, 1, 1, 0, 0, 1, 0, 0, 1, 0, 1, 1, 1, 1]) ⟨(tmOf 73 [(0, (.agg [(.vs tMark (c.1.1) (c.1.2)), (.vs tSand (c.2.1.1) (c.2.1.2))])), (1, (.agg [(.int .i64 (px)), (.int .i64 (py))])), (2, (.ptr 0 0)), (3, (.ptr 1 0)), (4, .nils), (5, .nils), (6, (.int .i64 (0))), (7, (.int .i64 ((chkS c).2.2))), (8, (.sl 6 0 x8 x8 1)), (9, (.sl 5 0 x10 x10 1)), (10, (.int .i64 x12)), (11, (.bool x13)), (12, (.bool x14)), (13, (.vs tP (false) x16)), (14, (.int .i64 x17)), (16, (.agg [(.vs tMark (c.1.1) (c.1.2)), (.vs tSand (c.2.1.1) (c.2.1.2))])), (17, (.agg [(.int .i64 (px)), (.int .i64 (py))])), (18, (.int .i64 ((chkS c).2.2))), (19, (.int .i64 ((chkS c).2.2))), (20, (.bool (false))), (22, (.int .i64 x12)), (23, (.ptr 0 1)), (24, (.vs tSand (c.2.1.1) (c.2.1.2))), (25, (.int .i64 (Int.ofNat c.2.1.2.length))), (26, (.bool (true))), (29, (.ptr 0 1)), (30, (.vs tSand (c.2.1.1) (c.2.1.2))), (31, (.int .i64 x12)), (32, (.cp [(.str x35), (.vs tP x36 x37), (.int .i64 x38), (.int .i64 x39), (.int .i64 x40), (.int .i64 x41)] 0)), (33, (.cp [(.str x35), (.vs tP x36 x37), (.int .i64 x38), (.int .i64 x39), (.int .i64 x40), (.int .i64 x41)] 2)), (34, (.agg [(.int .i64 x38), (.int .i64 x39), (.int .i64 x40), (.int .i64 x41)])), (35, (.vs tP (false) x16))]), (hpOf 7 [(0, (.cells false [(.vs tMark (c.1.1) (c.1.2)), (.vs tSand (c.2.1.1) (c.2.1.2))])), (1, (.cells false [(.int .i64 (px)), (.int .i64 (py))])), (2, (.cells false [(.vs tMark (c.1.1) (c.1.2)), (.vs tSand (c.2.1.1) (c.2.1.2))])), (3, (.cells false [(.int .i64 (px)), (.int .i64 (py))])), (4, (.cells false [(.int .i64 (px)), (.int .i64 (py))])), (5, (.cells false x69)), (6, (.cells false x70))]), [], [], 73, false⟩, ⟨8, []⟩, [(.lop (pcOf H2 24 [0, 0, 1, 0, 1, 1, 0, 0, 1, 0, 0, 1, 0, 1, 1, 1, 1]) 7 (tmOf 73 [(0, (.agg [(.vs tMark (c.1.1) (c.1.2)), (.vs tSand (c.2.1.1) (c.2.1.2))])), (1, (.agg [(.int .i64 (px)), (.int .i64 (py))])), (2, (.ptr 0 0)), (3, (.ptr 1 0)), (4, .nils), (5, .nils), (6, (.int .i64 (0))), (7, (.int .i64 ((chkS c).2.2))), (8, (.sl 6 0 x8 x8 1)), (9, (.sl 5 0 x10 x10 1)), (10, (.int .i64 x12)), (11, (.bool (true))), (12, (.bool (false))), (13, (.vs tP (false) x16)), (14, (.int .i64 (0))), (16, (.agg [(.vs tMark (c.1.1) (c.1.2)), (.vs tSand (c.2.1.1) (c.2.1.2))])), (17, (.agg [(.int .i64 (px)), (.int .i64 (py))])), (18, (.int .i64 ((chkS c).2.2))), (19, (.int .i64 ((chkS c).2.2))), (20, (.bool (false))), (22, (.int .i64 x12)), (23, (.ptr 0 1)), (24, (.vs tSand (c.2.1.1) (c.2.1.2))), (25, (.int .i64 (Int.ofNat c.2.1.2.length))), (26, (.bool (true))), (29, (.ptr 0 1)), (30, (.vs tSand (c.2.1.1) (c.2.1.2))), (31, (.int .i64 x12)), (32, (.cp [(.str x35), (.vs tP x36 x37), (.int .i64 x38), (.int .i64 x39), (.int .i64 x40), (.int .i64 x41)] 0)), (33, (.cp [(.str x35), (.vs tP x36 x37), (.int .i64 x38), (.int .i64 x39), (.int .i64 x40), (.int .i64 x41)] 2)), (34, (.agg [(.int .i64 x38), (.int .i64 x39), (.int .i64 x40), (.int .i64 x41)])), (35, (.vs tP (false) x16))]) x126), (.blk 2), (.seq (pcOf H2 24 [1, 1, 1, 0, 0, 1, 0, 0, 1, 0, 1, 1, 1, 1])), (.blk 1), (.seq (pcOf H2 24 [1, 1, 0, 0, 1, 0, 1, 1, 1, 1])), (.lop (pcOf H2 24 [0, 0, 1, 0, 1, 1, 1, 1]) 5 (tmOf 73 [(0, (.agg [(.vs tMark (c.1.1) (c.1.2)), (.vs tSand (c.2.1.1) (c.2.1.2))])), (1, (.agg [(.int .i64 (px)), (.int .i64 (py))])), (2, (.ptr 0 0)), (3, (.ptr 1 0)), (4, .nils), (5, .nils), (6, (.int .i64 (0))), (7, (.int .i64 ((chkS c).2.2))), (8, .nils), (9, .nils), (10, (.int .i64 (0))), (16, (.agg [(.vs tMark (c.1.1) (c.1.2)), (.vs tSand (c.2.1.1) (c.2.1.2))])), (17, (.agg [(.int .i64 (px)), (.int .i64 (py))])), (18, (.int .i64 ((chkS c).2.2))), (19, (.int .i64 ((chkS c).2.2))), (20, (.bool (false)))]) x145), (.blk 0), (.seq (pcOf H2 24 [1, 1, 1, 1, 1])), (.cal [(.tmp 4), (.tmp 5), (.tmp 6)] .top)]⟩
theorem ronc_start (c : tChart.den) (px py : Int) : adv H2 (Y2 [24]) 3000 (startC H2 24 [tChart.av c, .agg [.int .i64 px, .int .i64 py]] 8) = (bif ieq (chkS c).2.2 0 then (bif ile (wr .i64 (0 - 10000)) px then (bif ile px 10000 then (bif ile (wr .i64 (0 - 10000)) py then (bif !ile py 10000 then some (.done (.tup [.nils, .nils, (.int .i64 (7))])) else (bif !ieq (chkS c).2.2 0 then some (.done (.tup [.nils, .nils, (.int .i64 ((chkS c).2.2))])) else some (.stop (roncI1 c px py (0) (1048575))))) else some (.done (.tup [.nils, .nils, (.int .i64 (7))]))) else some (.done (.tup [.nils, .nils, (.int .i64 (7))]))) else some (.done (.tup [.nils, .nils, (.int .i64 (7))]))) else (bif !ieq (chkS c).2.2 0 then some (.done (.tup [.nils, .nils, (.int .i64 ((chkS c).2.2))])) else some (.stop (roncI0 c px py (1048575))))) := by kernel_rfl
theorem ronc_step1 (c : tChart.den) (px py : Int) (x8 : Int) (x50 : Nat) : adv H2 (Y2 [24]) 3000 (roncI1 c px py x8 (x50 + 1)) = (bif !ile (↑c.2.1.2.length) x8 then (bif inB x8 c.2.1.2.length then (bif bK (c.2.1.2.getD x8.toNat tSand.dflt).2.2.1.1.1 (c.2.1.2.getD x8.toNat tSand.dflt).2.2.1.1.2.1 (c.2.1.2.getD x8.toNat tSand.dflt).2.2.1.2.1.1 (c.2.1.2.getD x8.toNat tSand.dflt).2.2.1.2.1.2.1 then some (.stop (roncI2 c px py (x8) (true) (false) (pts (c.2.1.2.getD x8.toNat tSand.dflt).2.2.1.1.1 (c.2.1.2.getD x8.toNat tSand.dflt).2.2.1.1.2.1 (c.2.1.2.getD x8.toNat tSand.dflt).2.2.1.2.1.1 (c.2.1.2.getD x8.toNat tSand.dflt).2.2.1.2.1.2.1) (0) ((c.2.1.2.getD x8.toNat tSand.dflt).1) ((c.2.1.2.getD x8.toNat tSand.dflt).2.1.1) ((c.2.1.2.getD x8.toNat tSand.dflt).2.1.2) ((c.2.1.2.getD x8.toNat tSand.dflt).2.2.1.1.1) ((c.2.1.2.getD x8.toNat tSand.dflt).2.2.1.1.2.1) ((c.2.1.2.getD x8.toNat tSand.dflt).2.2.1.2.1.1) ((c.2.1.2.getD x8.toNat tSand.dflt).2.2.1.2.1.2.1) (1048575) (x50 + 1))) else none) else none) else some (.done (.tup [.nils, .nils, (.int .i64 (0))]))) := by kernel_rfl
theorem ronc_step2 (c : tChart.den) (px py : Int) (x8 : Int) (x9 : Bool) (x10 : Bool) (x12 : List (Ty.den tP)) (x13 : Int) (x31 : List Nat) (x32 : Bool) (x33 : List (Ty.den tP)) (x34 : Int) (x35 : Int) (x36 : Int) (x37 : Int) (x116 : Nat) (x135 : Nat) : adv H2 (Y2 [24]) 3000 (roncI2 c px py x8 x9 x10 x12 x13 x31 x32 x33 x34 x35 x36 x37 (x116 + 1) (x135 + 1)) = (bif !ile (↑x12.length) x13 then (bif inB x8 c.2.1.2.length then (bif inB x13 x12.length then (bif cOK (c.2.1.2.getD x8.toNat tSand.dflt).2.1.2 && in5 (x12.getD x13.toNat tP.dflt).1 && in5 (x12.getD x13.toNat tP.dflt).2.1 && in10 px && in10 py then (bif ieq px px then (bif ieq py py then (bif bbeq c.2.1.1 c.2.1.1 then (bif vsB tSand c.2.1.2 tSand c.2.1.2 then (bif x9 then (bif x10 then some (.stop (roncI2 c px py (x8) (liesF (c.2.1.2.getD x8.toNat tSand.dflt).2.1.2 (px - (x12.getD x13.toNat tP.dflt).1) (py - (x12.getD x13.toNat tP.dflt).2.1) 0 (c.2.1.2.getD x8.toNat tSand.dflt).2.1.2.length) (true) (x12) (wr .i64 (x13 + 1)) (x31) (x32) (x33) (x34) (x35) (x36) (x37) (x116) (x135 + 1))) else some (.stop (roncI2 c px py (x8) (liesF (c.2.1.2.getD x8.toNat tSand.dflt).2.1.2 (px - (x12.getD x13.toNat tP.dflt).1) (py - (x12.getD x13.toNat tP.dflt).2.1) 0 (c.2.1.2.getD x8.toNat tSand.dflt).2.1.2.length) (liesF (c.2.1.2.getD x8.toNat tSand.dflt).2.1.2 (px - (x12.getD x13.toNat tP.dflt).1) (py - (x12.getD x13.toNat tP.dflt).2.1) 0 (c.2.1.2.getD x8.toNat tSand.dflt).2.1.2.length) (x12) (wr .i64 (x13 + 1)) (x31) (x32) (x33) (x34) (x35) (x36) (x37) (x116) (x135 + 1)))) else (bif x10 then some (.stop (roncI2 c px py (x8) (false) (true) (x12) (wr .i64 (x13 + 1)) (x31) (x32) (x33) (x34) (x35) (x36) (x37) (x116) (x135 + 1))) else some (.stop (roncI2 c px py (x8) (false) (liesF (c.2.1.2.getD x8.toNat tSand.dflt).2.1.2 (px - (x12.getD x13.toNat tP.dflt).1) (py - (x12.getD x13.toNat tP.dflt).2.1) 0 (c.2.1.2.getD x8.toNat tSand.dflt).2.1.2.length) (x12) (wr .i64 (x13 + 1)) (x31) (x32) (x33) (x34) (x35) (x36) (x37) (x116) (x135 + 1))))) else none) else none) else none) else none) else none) else none) else none) else (bif x9 then (bif x10 then some (.stop (roncI5 c px py (1) (1) (wr .i64 (x8 + 1)) ([AV.int IntKind.i64 x8]) ([AV.int IntKind.i64 x8]) (x135))) else some (.stop (roncI3 c px py (1) (wr .i64 (x8 + 1)) ([AV.int IntKind.i64 x8]) (x135)))) else (bif x10 then some (.stop (roncI4 c px py (1) (wr .i64 (x8 + 1)) ([AV.int IntKind.i64 x8]) (x135))) else some (.stop (roncI1 c px py (wr .i64 (x8 + 1)) (x135)))))) := by kernel_rfl
theorem ronc_step3 (c : tChart.den) (px py : Int) (x8 : Nat) (x10 : Int) (x34 : List AV) (x53 : Nat) : adv H2 (Y2 [24]) 3000 (roncI3 c px py x8 x10 x34 (x53 + 1)) = (bif !ile (↑c.2.1.2.length) x10 then (bif inB x10 c.2.1.2.length then (bif bK (c.2.1.2.getD x10.toNat tSand.dflt).2.2.1.1.1 (c.2.1.2.getD x10.toNat tSand.dflt).2.2.1.1.2.1 (c.2.1.2.getD x10.toNat tSand.dflt).2.2.1.2.1.1 (c.2.1.2.getD x10.toNat tSand.dflt).2.2.1.2.1.2.1 then some (.stop (roncI6 c px py (x8) (x10) (true) (false) (pts (c.2.1.2.getD x10.toNat tSand.dflt).2.2.1.1.1 (c.2.1.2.getD x10.toNat tSand.dflt).2.2.1.1.2.1 (c.2.1.2.getD x10.toNat tSand.dflt).2.2.1.2.1.1 (c.2.1.2.getD x10.toNat tSand.dflt).2.2.1.2.1.2.1) (0) ((c.2.1.2.getD x10.toNat tSand.dflt).1) ((c.2.1.2.getD x10.toNat tSand.dflt).2.1.1) ((c.2.1.2.getD x10.toNat tSand.dflt).2.1.2) ((c.2.1.2.getD x10.toNat tSand.dflt).2.2.1.1.1) ((c.2.1.2.getD x10.toNat tSand.dflt).2.2.1.1.2.1) ((c.2.1.2.getD x10.toNat tSand.dflt).2.2.1.2.1.1) ((c.2.1.2.getD x10.toNat tSand.dflt).2.2.1.2.1.2.1) (x34) (1048575) (x53 + 1))) else none) else none) else (bif plainL x34 then some (.done (.tup [(.csl (x34) (x8)), .nils, (.int .i64 (0))])) else none)) := by kernel_rfl
theorem ronc_step4 (c : tChart.den) (px py : Int) (x8 : Nat) (x10 : Int) (x34 : List AV) (x53 : Nat) : adv H2 (Y2 [24]) 3000 (roncI4 c px py x8 x10 x34 (x53 + 1)) = (bif !ile (↑c.2.1.2.length) x10 then (bif inB x10 c.2.1.2.length then (bif bK (c.2.1.2.getD x10.toNat tSand.dflt).2.2.1.1.1 (c.2.1.2.getD x10.toNat tSand.dflt).2.2.1.1.2.1 (c.2.1.2.getD x10.toNat tSand.dflt).2.2.1.2.1.1 (c.2.1.2.getD x10.toNat tSand.dflt).2.2.1.2.1.2.1 then some (.stop (roncI7 c px py (x8) (x10) (true) (false) (pts (c.2.1.2.getD x10.toNat tSand.dflt).2.2.1.1.1 (c.2.1.2.getD x10.toNat tSand.dflt).2.2.1.1.2.1 (c.2.1.2.getD x10.toNat tSand.dflt).2.2.1.2.1.1 (c.2.1.2.getD x10.toNat tSand.dflt).2.2.1.2.1.2.1) (0) ((c.2.1.2.getD x10.toNat tSand.dflt).1) ((c.2.1.2.getD x10.toNat tSand.dflt).2.1.1) ((c.2.1.2.getD x10.toNat tSand.dflt).2.1.2) ((c.2.1.2.getD x10.toNat tSand.dflt).2.2.1.1.1) ((c.2.1.2.getD x10.toNat tSand.dflt).2.2.1.1.2.1) ((c.2.1.2.getD x10.toNat tSand.dflt).2.2.1.2.1.1) ((c.2.1.2.getD x10.toNat tSand.dflt).2.2.1.2.1.2.1) (x34) (1048575) (x53 + 1))) else none) else none) else (bif plainL x34 then some (.done (.tup [.nils, (.csl (x34) (x8)), (.int .i64 (0))])) else none)) := by kernel_rfl
theorem ronc_step5 (c : tChart.den) (px py : Int) (x8 : Nat) (x10 : Nat) (x12 : Int) (x36 : List AV) (x37 : List AV) (x56 : Nat) : adv H2 (Y2 [24]) 3000 (roncI5 c px py x8 x10 x12 x36 x37 (x56 + 1)) = (bif !ile (↑c.2.1.2.length) x12 then (bif inB x12 c.2.1.2.length then (bif bK (c.2.1.2.getD x12.toNat tSand.dflt).2.2.1.1.1 (c.2.1.2.getD x12.toNat tSand.dflt).2.2.1.1.2.1 (c.2.1.2.getD x12.toNat tSand.dflt).2.2.1.2.1.1 (c.2.1.2.getD x12.toNat tSand.dflt).2.2.1.2.1.2.1 then some (.stop (roncI8 c px py (x8) (x10) (x12) (true) (false) (pts (c.2.1.2.getD x12.toNat tSand.dflt).2.2.1.1.1 (c.2.1.2.getD x12.toNat tSand.dflt).2.2.1.1.2.1 (c.2.1.2.getD x12.toNat tSand.dflt).2.2.1.2.1.1 (c.2.1.2.getD x12.toNat tSand.dflt).2.2.1.2.1.2.1) (0) ((c.2.1.2.getD x12.toNat tSand.dflt).1) ((c.2.1.2.getD x12.toNat tSand.dflt).2.1.1) ((c.2.1.2.getD x12.toNat tSand.dflt).2.1.2) ((c.2.1.2.getD x12.toNat tSand.dflt).2.2.1.1.1) ((c.2.1.2.getD x12.toNat tSand.dflt).2.2.1.1.2.1) ((c.2.1.2.getD x12.toNat tSand.dflt).2.2.1.2.1.1) ((c.2.1.2.getD x12.toNat tSand.dflt).2.2.1.2.1.2.1) (x36) (x37) (1048575) (x56 + 1))) else none) else none) else (bif plainL x37 then (bif plainL x36 then some (.done (.tup [(.csl (x37) (x8)), (.csl (x36) (x10)), (.int .i64 (0))])) else none) else none)) := by kernel_rfl
theorem ronc_step6 (c : tChart.den) (px py : Int) (x8 : Nat) (x10 : Int) (x11 : Bool) (x12 : Bool) (x14 : List (Ty.den tP)) (x15 : Int) (x33 : List Nat) (x34 : Bool) (x35 : List (Ty.den tP)) (x36 : Int) (x37 : Int) (x38 : Int) (x39 : Int) (x67 : List AV) (x121 : Nat) (x140 : Nat) : adv H2 (Y2 [24]) 3000 (roncI6 c px py x8 x10 x11 x12 x14 x15 x33 x34 x35 x36 x37 x38 x39 x67 (x121 + 1) (x140 + 1)) = (bif !ile (↑x14.length) x15 then (bif inB x10 c.2.1.2.length then (bif inB x15 x14.length then (bif cOK (c.2.1.2.getD x10.toNat tSand.dflt).2.1.2 && in5 (x14.getD x15.toNat tP.dflt).1 && in5 (x14.getD x15.toNat tP.dflt).2.1 && in10 px && in10 py then (bif ieq px px then (bif ieq py py then (bif bbeq c.2.1.1 c.2.1.1 then (bif vsB tSand c.2.1.2 tSand c.2.1.2 then (bif x11 then (bif x12 then (bif plO (AO.cells false x67) then some (.stop (roncI6 c px py (x8) (x10) (liesF (c.2.1.2.getD x10.toNat tSand.dflt).2.1.2 (px - (x14.getD x15.toNat tP.dflt).1) (py - (x14.getD x15.toNat tP.dflt).2.1) 0 (c.2.1.2.getD x10.toNat tSand.dflt).2.1.2.length) (true) (x14) (wr .i64 (x15 + 1)) (x33) (x34) (x35) (x36) (x37) (x38) (x39) (x67) (x121) (x140 + 1))) else none) else (bif plO (AO.cells false x67) then some (.stop (roncI6 c px py (x8) (x10) (liesF (c.2.1.2.getD x10.toNat tSand.dflt).2.1.2 (px - (x14.getD x15.toNat tP.dflt).1) (py - (x14.getD x15.toNat tP.dflt).2.1) 0 (c.2.1.2.getD x10.toNat tSand.dflt).2.1.2.length) (liesF (c.2.1.2.getD x10.toNat tSand.dflt).2.1.2 (px - (x14.getD x15.toNat tP.dflt).1) (py - (x14.getD x15.toNat tP.dflt).2.1) 0 (c.2.1.2.getD x10.toNat tSand.dflt).2.1.2.length) (x14) (wr .i64 (x15 + 1)) (x33) (x34) (x35) (x36) (x37) (x38) (x39) (x67) (x121) (x140 + 1))) else none)) else (bif x12 then (bif plO (AO.cells false x67) then some (.stop (roncI6 c px py (x8) (x10) (false) (true) (x14) (wr .i64 (x15 + 1)) (x33) (x34) (x35) (x36) (x37) (x38) (x39) (x67) (x121) (x140 + 1))) else none) else (bif plO (AO.cells false x67) then some (.stop (roncI6 c px py (x8) (x10) (false) (liesF (c.2.1.2.getD x10.toNat tSand.dflt).2.1.2 (px - (x14.getD x15.toNat tP.dflt).1) (py - (x14.getD x15.toNat tP.dflt).2.1) 0 (c.2.1.2.getD x10.toNat tSand.dflt).2.1.2.length) (x14) (wr .i64 (x15 + 1)) (x33) (x34) (x35) (x36) (x37) (x38) (x39) (x67) (x121) (x140 + 1))) else none))) else none) else none) else none) else none) else none) else none) else none) else (bif x11 then (bif (0 + x8 * 1).beq x67.length then (bif x8.ble 1048576 then (bif x12 then (bif plO (AO.cells false (x67 ++ [AV.int IntKind.i64 x10])) then some (.stop (roncI5 c px py (x8 + 1) (1) (wr .i64 (x10 + 1)) ([AV.int IntKind.i64 x10]) (x67 ++ [AV.int IntKind.i64 x10]) (x140))) else none) else (bif plO (AO.cells false (x67 ++ [AV.int IntKind.i64 x10])) then some (.stop (roncI3 c px py (x8 + 1) (wr .i64 (x10 + 1)) (x67 ++ [AV.int IntKind.i64 x10]) (x140))) else none)) else none) else none) else (bif x12 then (bif plO (AO.cells false x67) then some (.stop (roncI5 c px py (x8) (1) (wr .i64 (x10 + 1)) ([AV.int IntKind.i64 x10]) (x67) (x140))) else none) else (bif plO (AO.cells false x67) then some (.stop (roncI3 c px py (x8) (wr .i64 (x10 + 1)) (x67) (x140))) else none)))) := by kernel_rfl
theorem ronc_step7 (c : tChart.den) (px py : Int) (x8 : Nat) (x10 : Int) (x11 : Bool) (x12 : Bool) (x14 : List (Ty.den tP)) (x15 : Int) (x33 : List Nat) (x34 : Bool) (x35 : List (Ty.den tP)) (x36 : Int) (x37 : Int) (x38 : Int) (x39 : Int) (x67 : List AV) (x121 : Nat) (x140 : Nat) : adv H2 (Y2 [24]) 3000 (roncI7 c px py x8 x10 x11 x12 x14 x15 x33 x34 x35 x36 x37 x38 x39 x67 (x121 + 1) (x140 + 1)) = (bif !ile (↑x14.length) x15 then (bif inB x10 c.2.1.2.length then (bif inB x15 x14.length then (bif cOK (c.2.1.2.getD x10.toNat tSand.dflt).2.1.2 && in5 (x14.getD x15.toNat tP.dflt).1 && in5 (x14.getD x15.toNat tP.dflt).2.1 && in10 px && in10 py then (bif ieq px px then (bif ieq py py then (bif bbeq c.2.1.1 c.2.1.1 then (bif vsB tSand c.2.1.2 tSand c.2.1.2 then (bif x11 then (bif x12 then (bif plO (AO.cells false x67) then some (.stop (roncI7 c px py (x8) (x10) (liesF (c.2.1.2.getD x10.toNat tSand.dflt).2.1.2 (px - (x14.getD x15.toNat tP.dflt).1) (py - (x14.getD x15.toNat tP.dflt).2.1) 0 (c.2.1.2.getD x10.toNat tSand.dflt).2.1.2.length) (true) (x14) (wr .i64 (x15 + 1)) (x33) (x34) (x35) (x36) (x37) (x38) (x39) (x67) (x121) (x140 + 1))) else none) else (bif plO (AO.cells false x67) then some (.stop (roncI7 c px py (x8) (x10) (liesF (c.2.1.2.getD x10.toNat tSand.dflt).2.1.2 (px - (x14.getD x15.toNat tP.dflt).1) (py - (x14.getD x15.toNat tP.dflt).2.1) 0 (c.2.1.2.getD x10.toNat tSand.dflt).2.1.2.length) (liesF (c.2.1.2.getD x10.toNat tSand.dflt).2.1.2 (px - (x14.getD x15.toNat tP.dflt).1) (py - (x14.getD x15.toNat tP.dflt).2.1) 0 (c.2.1.2.getD x10.toNat tSand.dflt).2.1.2.length) (x14) (wr .i64 (x15 + 1)) (x33) (x34) (x35) (x36) (x37) (x38) (x39) (x67) (x121) (x140 + 1))) else none)) else (bif x12 then (bif plO (AO.cells false x67) then some (.stop (roncI7 c px py (x8) (x10) (false) (true) (x14) (wr .i64 (x15 + 1)) (x33) (x34) (x35) (x36) (x37) (x38) (x39) (x67) (x121) (x140 + 1))) else none) else (bif plO (AO.cells false x67) then some (.stop (roncI7 c px py (x8) (x10) (false) (liesF (c.2.1.2.getD x10.toNat tSand.dflt).2.1.2 (px - (x14.getD x15.toNat tP.dflt).1) (py - (x14.getD x15.toNat tP.dflt).2.1) 0 (c.2.1.2.getD x10.toNat tSand.dflt).2.1.2.length) (x14) (wr .i64 (x15 + 1)) (x33) (x34) (x35) (x36) (x37) (x38) (x39) (x67) (x121) (x140 + 1))) else none))) else none) else none) else none) else none) else none) else none) else none) else (bif x11 then (bif x12 then (bif (0 + x8 * 1).beq x67.length then (bif x8.ble 1048576 then (bif plO (AO.cells false (x67 ++ [AV.int IntKind.i64 x10])) then some (.stop (roncI5 c px py (1) (x8 + 1) (wr .i64 (x10 + 1)) (x67 ++ [AV.int IntKind.i64 x10]) ([AV.int IntKind.i64 x10]) (x140))) else none) else none) else none) else (bif plO (AO.cells false x67) then some (.stop (roncI5 c px py (1) (x8) (wr .i64 (x10 + 1)) (x67) ([AV.int IntKind.i64 x10]) (x140))) else none)) else (bif x12 then (bif (0 + x8 * 1).beq x67.length then (bif x8.ble 1048576 then (bif plO (AO.cells false (x67 ++ [AV.int IntKind.i64 x10])) then some (.stop (roncI4 c px py (x8 + 1) (wr .i64 (x10 + 1)) (x67 ++ [AV.int IntKind.i64 x10]) (x140))) else none) else none) else none) else (bif plO (AO.cells false x67) then some (.stop (roncI4 c px py (x8) (wr .i64 (x10 + 1)) (x67) (x140))) else none)))) := by kernel_rfl
theorem ronc_step8 (c : tChart.den) (px py : Int) (x8 : Nat) (x10 : Nat) (x12 : Int) (x13 : Bool) (x14 : Bool) (x16 : List (Ty.den tP)) (x17 : Int) (x35 : List Nat) (x36 : Bool) (x37 : List (Ty.den tP)) (x38 : Int) (x39 : Int) (x40 : Int) (x41 : Int) (x69 : List AV) (x70 : List AV) (x126 : Nat) (x145 : Nat) : adv H2 (Y2 [24]) 3000 (roncI8 c px py x8 x10 x12 x13 x14 x16 x17 x35 x36 x37 x38 x39 x40 x41 x69 x70 (x126 + 1) (x145 + 1)) = (bif !ile (↑x16.length) x17 then (bif inB x12 c.2.1.2.length then (bif inB x17 x16.length then (bif cOK (c.2.1.2.getD x12.toNat tSand.dflt).2.1.2 && in5 (x16.getD x17.toNat tP.dflt).1 && in5 (x16.getD x17.toNat tP.dflt).2.1 && in10 px && in10 py then (bif ieq px px then (bif ieq py py then (bif bbeq c.2.1.1 c.2.1.1 then (bif vsB tSand c.2.1.2 tSand c.2.1.2 then (bif x13 then (bif x14 then (bif plO (AO.cells false x70) then (bif plO (AO.cells false x69) then some (.stop (roncI8 c px py (x8) (x10) (x12) (liesF (c.2.1.2.getD x12.toNat tSand.dflt).2.1.2 (px - (x16.getD x17.toNat tP.dflt).1) (py - (x16.getD x17.toNat tP.dflt).2.1) 0 (c.2.1.2.getD x12.toNat tSand.dflt).2.1.2.length) (true) (x16) (wr .i64 (x17 + 1)) (x35) (x36) (x37) (x38) (x39) (x40) (x41) (x69) (x70) (x126) (x145 + 1))) else none) else none) else (bif plO (AO.cells false x70) then (bif plO (AO.cells false x69) then some (.stop (roncI8 c px py (x8) (x10) (x12) (liesF (c.2.1.2.getD x12.toNat tSand.dflt).2.1.2 (px - (x16.getD x17.toNat tP.dflt).1) (py - (x16.getD x17.toNat tP.dflt).2.1) 0 (c.2.1.2.getD x12.toNat tSand.dflt).2.1.2.length) (liesF (c.2.1.2.getD x12.toNat tSand.dflt).2.1.2 (px - (x16.getD x17.toNat tP.dflt).1) (py - (x16.getD x17.toNat tP.dflt).2.1) 0 (c.2.1.2.getD x12.toNat tSand.dflt).2.1.2.length) (x16) (wr .i64 (x17 + 1)) (x35) (x36) (x37) (x38) (x39) (x40) (x41) (x69) (x70) (x126) (x145 + 1))) else none) else none)) else (bif x14 then (bif plO (AO.cells false x70) then (bif plO (AO.cells false x69) then some (.stop (roncI8 c px py (x8) (x10) (x12) (false) (true) (x16) (wr .i64 (x17 + 1)) (x35) (x36) (x37) (x38) (x39) (x40) (x41) (x69) (x70) (x126) (x145 + 1))) else none) else none) else (bif plO (AO.cells false x70) then (bif plO (AO.cells false x69) then some (.stop (roncI8 c px py (x8) (x10) (x12) (false) (liesF (c.2.1.2.getD x12.toNat tSand.dflt).2.1.2 (px - (x16.getD x17.toNat tP.dflt).1) (py - (x16.getD x17.toNat tP.dflt).2.1) 0 (c.2.1.2.getD x12.toNat tSand.dflt).2.1.2.length) (x16) (wr .i64 (x17 + 1)) (x35) (x36) (x37) (x38) (x39) (x40) (x41) (x69) (x70) (x126) (x145 + 1))) else none) else none))) else none) else none) else none) else none) else none) else none) else none) else (bif x13 then (bif (0 + x8 * 1).beq x70.length then (bif x8.ble 1048576 then (bif x14 then (bif (0 + x10 * 1).beq x69.length then (bif x10.ble 1048576 then (bif plO (AO.cells false (x70 ++ [AV.int IntKind.i64 x12])) then (bif plO (AO.cells false (x69 ++ [AV.int IntKind.i64 x12])) then some (.stop (roncI5 c px py (x8 + 1) (x10 + 1) (wr .i64 (x12 + 1)) (x69 ++ [AV.int IntKind.i64 x12]) (x70 ++ [AV.int IntKind.i64 x12]) (x145))) else none) else none) else none) else none) else (bif plO (AO.cells false (x70 ++ [AV.int IntKind.i64 x12])) then (bif plO (AO.cells false x69) then some (.stop (roncI5 c px py (x8 + 1) (x10) (wr .i64 (x12 + 1)) (x69) (x70 ++ [AV.int IntKind.i64 x12]) (x145))) else none) else none)) else none) else none) else (bif x14 then (bif (0 + x10 * 1).beq x69.length then (bif x10.ble 1048576 then (bif plO (AO.cells false x70) then (bif plO (AO.cells false (x69 ++ [AV.int IntKind.i64 x12])) then some (.stop (roncI5 c px py (x8) (x10 + 1) (wr .i64 (x12 + 1)) (x69 ++ [AV.int IntKind.i64 x12]) (x70) (x145))) else none) else none) else none) else none) else (bif plO (AO.cells false x70) then (bif plO (AO.cells false x69) then some (.stop (roncI5 c px py (x8) (x10) (wr .i64 (x12 + 1)) (x69) (x70) (x145))) else none) else none)))) := by kernel_rfl
noncomputable def intzI0 (a b : (Ty.sl tI).den) (x5 : Int) (x26 : Nat) : Cfg := ⟨.ex (pcOf H2 25 [0, 0, 1, 0, 1, 1]) ⟨(tmOf 26 [(0, (.vs tI (a.1) (a.2))), (1, (.vs tI (b.1) (b.2))), (4, (.bool (false))), (5, (.int .i64 x5)), (6, (.vs tI (a.1) (a.2))), (7, (.int .i64 (Int.ofNat a.2.length))), (8, (.vs tI (b.1) (b.2))), (9, (.int .i64 (Int.ofNat b.2.length))), (10, (.bool (false)))]), (hpOf 0 []), [], [], 26, false⟩, ⟨6, []⟩, [(.lop (pcOf H2 25 [0, 0, 1, 0, 1, 1]) 0 (tmOf 26 [(0, (.vs tI (a.1) (a.2))), (1, (.vs tI (b.1) (b.2))), (4, (.bool (false))), (5, (.int .i64 (0))), (6, (.vs tI (a.1) (a.2))), (7, (.int .i64 (Int.ofNat a.2.length))), (8, (.vs tI (b.1) (b.2))), (9, (.int .i64 (Int.ofNat b.2.length))), (10, (.bool (false)))]) x26), (.blk 0), (.seq (pcOf H2 25 [1, 1, 1])), (.cal [(.tmp 4)] .top)]⟩
theorem intz_start (a b : (Ty.sl tI).den) : adv H2 (Y2 [25]) 3000 (startC H2 25 [.vs tI a.1 a.2, .vs tI b.1 b.2] 6) = (bif !ieq ↑a.2.length ↑b.2.length then some (.done (.bool (false))) else some (.stop (intzI0 a b (0) (1048575)))) := by kernel_rfl
theorem intz_step0 (a b : (Ty.sl tI).den) (x5 : Int) (x26 : Nat) : adv H2 (Y2 [25]) 3000 (intzI0 a b x5 (x26 + 1)) = (bif !ile (↑a.2.length) x5 then (bif inB x5 a.2.length then (bif inB x5 b.2.length then (bif !ieq (a.2.getD x5.toNat tI.dflt) (b.2.getD x5.toNat tI.dflt) then some (.done (.bool (false))) else some (.stop (intzI0 a b (wr .i64 (x5 + 1)) (x26)))) else none) else none) else some (.done (.bool (true)))) := by kernel_rfl
theorem rowY_memZ (x v : Int) : ∀ (r : Nat) (y : Int), y ≤ v → v < y + r → ((x, v, ()) : tP.den) ∈ rowY x y r
 | 0, y, h1, h2 => by omega
 | r + 1, y, h1, h2 => by
  rw [rowY, List.mem_cons]
  by_cases h : v = y
  · left; rw [h]
  · right; exact rowY_memZ x v r (y + 1) (by omega) (by omega)
theorem ptsX_memZ (y0 u v : Int) (n : Nat) (hy : y0 ≤ v ∧ v < y0 + n) : ∀ (r : Nat) (x : Int), x ≤ u → u < x + r → ((u, v, ()) : tP.den) ∈ ptsX y0 n x r
 | 0, x, h1, h2 => by omega
 | r + 1, x, h1, h2 => by
  rw [ptsX, List.mem_append]
  by_cases h : u = x
  · left; rw [h]; exact rowY_memZ x v n y0 hy.1 hy.2
  · right; exact ptsX_memZ y0 u v n hy r (x + 1) (by omega) (by omega)
theorem pts_iffZ {x0 x1 y0 y1 : Int} {p : tP.den} : p ∈ pts x0 x1 y0 y1 ↔ ∃ u v : Int, p = (u, v, ()) ∧ (x0 ≤ u ∧ u ≤ x1) ∧ y0 ≤ v ∧ v ≤ y1 := by
 constructor
 · intro h
   obtain ⟨u, v, h1, ⟨h2, h3⟩, h4, h5⟩ := ptsX_inS h
   exact ⟨u, v, h1, by omega, by omega, by omega⟩
 · rintro ⟨u, v, rfl, h1, h2⟩
   exact ptsX_memZ y0 u v _ (by omega) _ x0 h1.1 (by omega)
noncomputable def liesSZ (s : tSand.den) (px py u v : Int) : Bool := liesF s.2.1.2 (px - u) (py - v) 0 s.2.1.2.length
theorem any_iffZ {s : tSand.den} {x0 x1 y0 y1 : Int} (e0 : s.2.2.1.1.1 = x0) (e1 : s.2.2.1.1.2.1 = x1) (e2 : s.2.2.1.2.1.1 = y0) (e3 : s.2.2.1.2.1.2.1 = y1) (hg : goodS s = true) {px py : Int} : anyS s px py = true ↔ ∃ u v : Int, (x0 ≤ u ∧ u ≤ x1) ∧ (y0 ≤ v ∧ v ≤ y1) ∧ liesSZ s px py u v = true := by
 obtain ⟨_, _, g6, g7⟩ := goodS_iff e0 e1 e2 e3 hg
 unfold anyS mvSd mvS liesSZ
 rw [e0, e1, e2, e3]
 have h := mvF_any (C := s.2.1.2) (fx := px) (fy := py) g7.1 (x1 - x0 + 1).toNat x0
 constructor
 · intro hh
   rw [ile_iff] at hh
   simp only [Bool.not_eq_true', decide_eq_false_iff_not] at hh
   obtain ⟨u, v, h1, h2, h3⟩ := h.1 (by omega)
   exact ⟨u, v, by omega, h2, h3⟩
 · rintro ⟨u, v, h1, h2, h3⟩
   have := h.2 ⟨u, v, by omega, h2, h3⟩
   rw [ile_iff, decide_eq_false (by omega)]; rfl
theorem all_iffZ {s : tSand.den} {x0 x1 y0 y1 : Int} (e0 : s.2.2.1.1.1 = x0) (e1 : s.2.2.1.1.2.1 = x1) (e2 : s.2.2.1.2.1.1 = y0) (e3 : s.2.2.1.2.1.2.1 = y1) (hg : goodS s = true) {px py : Int} : allS s px py = true ↔ ∀ u v : Int, (x0 ≤ u ∧ u ≤ x1) → (y0 ≤ v ∧ v ≤ y1) → liesSZ s px py u v = true := by
 obtain ⟨_, _, g6, g7⟩ := goodS_iff e0 e1 e2 e3 hg
 unfold allS mvSd mvS liesSZ totSd
 rw [e0, e1, e2, e3]
 have h := mvF_all (C := s.2.1.2) (fx := px) (fy := py) g7.1 (x1 - x0 + 1).toNat x0
 rw [show (((x1 - x0 + 1).toNat : Nat) : Int) = x1 - x0 + 1 by omega] at h
 constructor
 · intro hh u v h1 h2
   exact h.1 (ieq_t' hh) u v (by omega) h2
 · intro hh
   rw [ieq_iff]
   exact decide_eq_true (h.2 (fun u v h1 h2 => hh u v (by omega) h2))
noncomputable def lieP (s : tSand.den) (px py : Int) (p : tP.den) : Bool := liesF s.2.1.2 (px - p.1) (py - p.2.1) 0 s.2.1.2.length
noncomputable def boxS (s : tSand.den) : List tP.den := pts s.2.2.1.1.1 s.2.2.1.1.2.1 s.2.2.1.2.1.1 s.2.2.1.2.1.2.1
theorem box_all {s : tSand.den} (hg : goodS s = true) (px py : Int) : (boxS s).all (lieP s px py) = allS s px py := by
 rw [Bool.eq_iff_iff, all_iffZ rfl rfl rfl rfl hg, List.all_eq_true]
 constructor
 · intro h u v h1 h2
   exact h (u, v, ()) (pts_iffZ.2 ⟨u, v, rfl, h1, h2⟩)
 · intro h p hp
   obtain ⟨u, v, rfl, h1, h2⟩ := pts_iffZ.1 hp
   exact h u v h1 h2
theorem box_any {s : tSand.den} (hg : goodS s = true) (px py : Int) : (boxS s).any (lieP s px py) = anyS s px py := by
 rw [Bool.eq_iff_iff, any_iffZ rfl rfl rfl rfl hg, List.any_eq_true]
 constructor
 · rintro ⟨p, hp, h⟩
   obtain ⟨u, v, rfl, h1, h2⟩ := pts_iffZ.1 hp
   exact ⟨u, v, h1, h2, h⟩
 · rintro ⟨u, v, h1, h2, h⟩
   exact ⟨(u, v, ()), pts_iffZ.2 ⟨u, v, rfl, h1, h2⟩, h⟩
noncomputable def onSR (c : tChart.den) (px py : Int) (k m : Nat) (s t : List Int) : Cfg :=
 match s with
 | [] => match t with
  | [] => roncI1 c px py k m
  | _ :: _ => roncI4 c px py t.length k (flat tI t) m
 | _ :: _ => match t with
  | [] => roncI3 c px py s.length k (flat tI s) m
  | _ :: _ => roncI5 c px py s.length t.length k (flat tI t) (flat tI s) m
noncomputable def onIR (c : tChart.den) (px py : Int) (k : Nat) (a b : Bool) (L : List tP.den) (j : Nat) (q : tSand.den) (m M : Nat) (s t : List Int) : Cfg :=
 match s with
 | [] => match t with
  | [] => roncI2 c px py k a b L j q.1 q.2.1.1 q.2.1.2 q.2.2.1.1.1 q.2.2.1.1.2.1 q.2.2.1.2.1.1 q.2.2.1.2.1.2.1 m M
  | _ :: _ => roncI7 c px py t.length k a b L j q.1 q.2.1.1 q.2.1.2 q.2.2.1.1.1 q.2.2.1.1.2.1 q.2.2.1.2.1.1 q.2.2.1.2.1.2.1 (flat tI t) m M
 | _ :: _ => match t with
  | [] => roncI6 c px py s.length k a b L j q.1 q.2.1.1 q.2.1.2 q.2.2.1.1.1 q.2.2.1.1.2.1 q.2.2.1.2.1.1 q.2.2.1.2.1.2.1 (flat tI s) m M
  | _ :: _ => roncI8 c px py s.length t.length k a b L j q.1 q.2.1.1 q.2.1.2 q.2.2.1.1.1 q.2.2.1.1.2.1 q.2.2.1.2.1.1 q.2.2.1.2.1.2.1 (flat tI t) (flat tI s) m M
section
variable (c : tChart.den) (px py : Int) (k : Nat) (hk : k < c.2.1.2.length) (h4 : c.2.1.2.length ≤ 4) (hg : goodS (sd c k) = true) (h1 : in10 px = true) (h2 : in10 py = true)
include hk h4 hg h1 h2
theorem inn_step (a b : Bool) (L : List tP.den) (hL : ∀ p ∈ L, in5 p.1 = true ∧ in5 p.2.1 = true) (q : tSand.den) (j m M : Nat) (s t : List Int) (hj : j < L.length) (hlen : L.length ≤ 1000000) :
  adv H2 (Y2 [24]) 3000 (onIR c px py k a b L j q (m + 1) (M + 1) s t) = some (.stop (onIR c px py k (a && lieP (sd c k) px py (L.getD j tP.dflt)) (b || lieP (sd c k) px py (L.getD j tP.dflt)) L (j + 1) q m (M + 1) s t)) := by
 have hp := hL (L.getD j tP.dflt) (by simp [hj])
 have hcc : cOK (sd c k).2.1.2 = true := (goodS_iff rfl rfl rfl rfl hg).1
 have hsd : c.2.1.2.getD k tSand.dflt = sd c k := rfl
 have hl : liesF (sd c k).2.1.2 (px - (L.getD j tP.dflt).1) (py - (L.getD j tP.dflt).2.1) 0 (sd c k).2.1.2.length = lieP (sd c k) px py (L.getD j tP.dflt) := rfl
 cases s with
 | nil =>
  cases t with
  | nil =>
   have h := ronc_step2 c px py k a b L j q.1 q.2.1.1 q.2.1.2 q.2.2.1.1.1 q.2.2.1.1.2.1 q.2.2.1.2.1.1 q.2.2.1.2.1.2.1 m M
   simp only [ile_lt hj, inB_at hk, inB_at hj, nat_to, hsd, hcc, hp.1, hp.2, h1, h2, hl, ieq_self, bbeq_self, vsB_self, wr_succ (show j < 1048577 by omega), Bool.and_self, Bool.not_false, cond_true] at h
   refine h.trans ?_
   cases a <;> cases b <;> rfl
  | cons t0 t =>
   have h := ronc_step7 c px py (t0 :: t).length k a b L j q.1 q.2.1.1 q.2.1.2 q.2.2.1.1.1 q.2.2.1.1.2.1 q.2.2.1.2.1.1 q.2.2.1.2.1.2.1 (flat tI (t0 :: t)) m M
   simp only [ile_lt hj, inB_at hk, inB_at hj, nat_to, hsd, hcc, hp.1, hp.2, h1, h2, hl, plO, flatI_plain, ieq_self, bbeq_self, vsB_self, wr_succ (show j < 1048577 by omega), Bool.and_self, Bool.not_false, cond_true] at h
   refine h.trans ?_
   cases a <;> cases b <;> rfl
 | cons s0 s =>
  cases t with
  | nil =>
   have h := ronc_step6 c px py (s0 :: s).length k a b L j q.1 q.2.1.1 q.2.1.2 q.2.2.1.1.1 q.2.2.1.1.2.1 q.2.2.1.2.1.1 q.2.2.1.2.1.2.1 (flat tI (s0 :: s)) m M
   simp only [ile_lt hj, inB_at hk, inB_at hj, nat_to, hsd, hcc, hp.1, hp.2, h1, h2, hl, plO, flatI_plain, ieq_self, bbeq_self, vsB_self, wr_succ (show j < 1048577 by omega), Bool.and_self, Bool.not_false, cond_true] at h
   refine h.trans ?_
   cases a <;> cases b <;> rfl
  | cons t0 t =>
   have h := ronc_step8 c px py (s0 :: s).length (t0 :: t).length k a b L j q.1 q.2.1.1 q.2.1.2 q.2.2.1.1.1 q.2.2.1.1.2.1 q.2.2.1.2.1.1 q.2.2.1.2.1.2.1 (flat tI (t0 :: t)) (flat tI (s0 :: s)) m M
   simp only [ile_lt hj, inB_at hk, inB_at hj, nat_to, hsd, hcc, hp.1, hp.2, h1, h2, hl, plO, flatI_plain, ieq_self, bbeq_self, vsB_self, wr_succ (show j < 1048577 by omega), Bool.and_self, Bool.not_false, cond_true] at h
   refine h.trans ?_
   cases a <;> cases b <;> rfl
theorem inn_end (a b : Bool) (L : List tP.den) (q : tSand.den) (j m M : Nat) (s t : List Int) (hj : L.length ≤ j) (hs : s.length ≤ k) (ht : t.length ≤ k) :
  adv H2 (Y2 [24]) 3000 (onIR c px py k a b L j q (m + 1) (M + 1) s t) = some (.stop (onSR c px py (k + 1) M (bif a then s ++ [(k : Int)] else s) (bif b then t ++ [(k : Int)] else t))) := by
 have l1 : s.length.ble 1048576 = true := Nat.ble_eq_true_of_le (by omega)
 have l2 : t.length.ble 1048576 = true := Nat.ble_eq_true_of_le (by omega)
 cases s with
 | nil =>
  cases t with
  | nil =>
   have h := ronc_step2 c px py k a b L j q.1 q.2.1.1 q.2.1.2 q.2.2.1.1.1 q.2.2.1.1.2.1 q.2.2.1.2.1.1 q.2.2.1.2.1.2.1 m M
   simp only [ile_ge hj, wr_succ (show k < 1048577 by omega), Bool.not_true, cond_false] at h
   refine h.trans ?_
   cases a <;> cases b <;> rfl
  | cons t0 t =>
   have h := ronc_step7 c px py (t0 :: t).length k a b L j q.1 q.2.1.1 q.2.1.2 q.2.2.1.1.1 q.2.2.1.1.2.1 q.2.2.1.2.1.1 q.2.2.1.2.1.2.1 (flat tI (t0 :: t)) m M
   simp only [ile_ge hj, l2, plO, flatI_add, flatI_plain, wr_succ (show k < 1048577 by omega), Bool.not_true, cond_true, cond_false] at h
   rw [beq_flatI] at h
   have f2 : (t0 :: t).length + 1 = (t0 :: t ++ [(k : Int)]).length := by simp
   rw [f2] at h
   refine h.trans ?_
   cases a <;> cases b <;> rfl
 | cons s0 s =>
  have f1 : (s0 :: s).length + 1 = (s0 :: s ++ [(k : Int)]).length := by simp
  cases t with
  | nil =>
   have h := ronc_step6 c px py (s0 :: s).length k a b L j q.1 q.2.1.1 q.2.1.2 q.2.2.1.1.1 q.2.2.1.1.2.1 q.2.2.1.2.1.1 q.2.2.1.2.1.2.1 (flat tI (s0 :: s)) m M
   simp only [ile_ge hj, l1, plO, flatI_add, flatI_plain, wr_succ (show k < 1048577 by omega), Bool.not_true, cond_true, cond_false] at h
   rw [beq_flatI, f1] at h
   refine h.trans ?_
   cases a <;> cases b <;> rfl
  | cons t0 t =>
   have f2 : (t0 :: t).length + 1 = (t0 :: t ++ [(k : Int)]).length := by simp
   have h := ronc_step8 c px py (s0 :: s).length (t0 :: t).length k a b L j q.1 q.2.1.1 q.2.1.2 q.2.2.1.1.1 q.2.2.1.1.2.1 q.2.2.1.2.1.1 q.2.2.1.2.1.2.1 (flat tI (t0 :: t)) (flat tI (s0 :: s)) m M
   simp only [ile_ge hj, l1, l2, plO, flatI_add, flatI_plain, wr_succ (show k < 1048577 by omega), Bool.not_true, cond_true, cond_false] at h
   rw [beq_flatI (s0 :: s), beq_flatI (t0 :: t), f1, f2] at h
   refine h.trans ?_
   cases a <;> cases b <;> rfl
theorem out_step (m : Nat) (s t : List Int) : adv H2 (Y2 [24]) 3000 (onSR c px py k (m + 1) s t) = some (.stop (onIR c px py k true false (boxS (sd c k)) 0 (sd c k) 1048575 (m + 1) s t)) := by
 have hsd : c.2.1.2.getD k tSand.dflt = sd c k := rfl
 obtain ⟨x0, e0⟩ : ∃ y : Int, (sd c k).2.2.1.1.1 = y := ⟨_, rfl⟩
 obtain ⟨x1, e1⟩ : ∃ y : Int, (sd c k).2.2.1.1.2.1 = y := ⟨_, rfl⟩
 obtain ⟨y0, e2⟩ : ∃ y : Int, (sd c k).2.2.1.2.1.1 = y := ⟨_, rfl⟩
 obtain ⟨y1, e3⟩ : ∃ y : Int, (sd c k).2.2.1.2.1.2.1 = y := ⟨_, rfl⟩
 obtain ⟨g1, ⟨⟨g2, g3⟩, g4, g5⟩, g6, g7⟩ := goodS_iff e0 e1 e2 e3 hg
 have i0 := in5_iff.1 g2
 have i1 := in5_iff.1 g3
 have i2 := in5_iff.1 g4
 have i3 := in5_iff.1 g5
 have hb : bK (sd c k).2.2.1.1.1 (sd c k).2.2.1.1.2.1 (sd c k).2.2.1.2.1.1 (sd c k).2.2.1.2.1.2.1 = true := by rw [e0, e1, e2, e3, bK_iff]; omega
 cases s with
 | nil =>
  cases t with
  | nil =>
   have h := ronc_step1 c px py k m
   simp only [ile_lt hk, inB_at hk, nat_to, hsd, hb, Bool.not_false, cond_true] at h
   exact h
  | cons t0 t =>
   have h := ronc_step4 c px py (t0 :: t).length k (flat tI (t0 :: t)) m
   simp only [ile_lt hk, inB_at hk, nat_to, hsd, hb, Bool.not_false, cond_true] at h
   exact h
 | cons s0 s =>
  cases t with
  | nil =>
   have h := ronc_step3 c px py (s0 :: s).length k (flat tI (s0 :: s)) m
   simp only [ile_lt hk, inB_at hk, nat_to, hsd, hb, Bool.not_false, cond_true] at h
   exact h
  | cons t0 t =>
   have h := ronc_step5 c px py (s0 :: s).length (t0 :: t).length k (flat tI (t0 :: t)) (flat tI (s0 :: s)) m
   simp only [ile_lt hk, inB_at hk, nat_to, hsd, hb, Bool.not_false, cond_true] at h
   exact h
theorem inn_ans (L : List tP.den) (hL : ∀ p ∈ L, in5 p.1 = true ∧ in5 p.2.1 = true) (hlen : L.length ≤ 1000000) (q : tSand.den) (M : Nat) (s t : List Int) (hs : s.length ≤ k) (ht : t.length ≤ k) (A : AV) : ∀ (n j m : Nat) (a b : Bool), j + n = L.length → n < m →
  Ans H2 (onSR c px py (k + 1) M (bif a && (L.drop j).all (lieP (sd c k) px py) then s ++ [(k : Int)] else s) (bif b || (L.drop j).any (lieP (sd c k) px py) then t ++ [(k : Int)] else t)) A → Ans H2 (onIR c px py k a b L j q m (M + 1) s t) A
 | 0, j, m + 1, a, b, hj, hm, hA => by
  rw [List.drop_eq_nil_of_le (by omega), List.all_nil, List.any_nil, Bool.and_true, Bool.or_false] at hA
  exact .stop (Y2_ok _) H2sy (inn_end c px py k hk h4 hg h1 h2 a b L q j m M s t (by omega) hs ht) hA
 | n + 1, j, m + 1, a, b, hj, hm, hA => by
  have hlt : j < L.length := by omega
  have hd : L.drop j = L.getD j tP.dflt :: L.drop (j + 1) := by rw [List.drop_eq_getElem_cons hlt]; simp [hlt]
  rw [hd, List.all_cons, List.any_cons, ← Bool.and_assoc, ← Bool.or_assoc] at hA
  exact .stop (Y2_ok _) H2sy (inn_step c px py k hk h4 hg h1 h2 a b L hL q j m M s t hlt hlen) (inn_ans L hL hlen q M s t hs ht A n (j + 1) m _ _ (by omega) (by omega) hA)
end
theorem ron_ans (c : tChart.den) (px py : Int) (hv : (chkS c).2.2 = 0) (h1 : in10 px = true) (h2 : in10 py = true) : ∀ (r k m : Nat) (s t : List Int), k + r = c.2.1.2.length → r < m → s.length ≤ k → t.length ≤ k → Ans H2 (onSR c px py k m s t) (tupS (onF c px py s t k r, 0))
 | 0, k, m + 1, s, t, hk, hm, hs, ht => by
  have hle : c.2.1.2.length ≤ k := by omega
  rw [onF]
  cases s with
  | nil =>
   cases t with
   | nil =>
    have h := ronc_step1 c px py k m
    simp only [ile_ge hle, Bool.not_true, cond_false] at h
    exact .doneT (Y2_ok _) H2sy h (Tells.tupL (.cons .nils (.cons .nils (.refl _))))
   | cons t0 t =>
    have h := ronc_step4 c px py (t0 :: t).length k (flat tI (t0 :: t)) m
    simp only [ile_ge hle, flatI_plain, Bool.not_true, cond_true, cond_false] at h
    exact .doneT (Y2_ok _) H2sy h (Tells.tupL (.cons .nils (.cons (Tells.lst (t0 :: t) (by simp)) (.refl _))))
  | cons s0 s =>
   cases t with
   | nil =>
    have h := ronc_step3 c px py (s0 :: s).length k (flat tI (s0 :: s)) m
    simp only [ile_ge hle, flatI_plain, Bool.not_true, cond_true, cond_false] at h
    exact .doneT (Y2_ok _) H2sy h (Tells.tupL (.cons (Tells.lst (s0 :: s) (by simp)) (.cons .nils (.refl _))))
   | cons t0 t =>
    have h := ronc_step5 c px py (s0 :: s).length (t0 :: t).length k (flat tI (t0 :: t)) (flat tI (s0 :: s)) m
    simp only [ile_ge hle, flatI_plain, Bool.not_true, cond_true, cond_false] at h
    exact .doneT (Y2_ok _) H2sy h (Tells.tupL (.cons (Tells.lst (s0 :: s) (by simp)) (.cons (Tells.lst (t0 :: t) (by simp)) (.refl _))))
 | r + 1, k, m + 1, s, t, hk, hm, hs, ht => by
  have h4 := (valid_sands hv).1
  have hlt : k < c.2.1.2.length := by omega
  have hg := sd_good hv hlt
  obtain ⟨x0, e0⟩ : ∃ y : Int, (sd c k).2.2.1.1.1 = y := ⟨_, rfl⟩
  obtain ⟨x1, e1⟩ : ∃ y : Int, (sd c k).2.2.1.1.2.1 = y := ⟨_, rfl⟩
  obtain ⟨y0, e2⟩ : ∃ y : Int, (sd c k).2.2.1.2.1.1 = y := ⟨_, rfl⟩
  obtain ⟨y1, e3⟩ : ∃ y : Int, (sd c k).2.2.1.2.1.2.1 = y := ⟨_, rfl⟩
  obtain ⟨g1, ⟨⟨g2, g3⟩, g4, g5⟩, g6, g7⟩ := goodS_iff e0 e1 e2 e3 hg
  have i0 := in5_iff.1 g2
  have i1 := in5_iff.1 g3
  have i2 := in5_iff.1 g4
  have i3 := in5_iff.1 g5
  have hbx : boxS (sd c k) = pts x0 x1 y0 y1 := by unfold boxS; rw [e0, e1, e2, e3]
  have hlen : (boxS (sd c k)).length ≤ 41 * 41 := by
   rw [hbx]; unfold pts; rw [ptsX_lenS]; exact Nat.mul_le_mul (by omega) (by omega)
  rw [onF]
  refine .stop (Y2_ok _) H2sy (out_step c px py k hlt h4 hg h1 h2 m s t) (inn_ans c px py k hlt h4 hg h1 h2 (boxS (sd c k)) (fun p hp => ?_) (by omega) (sd c k) m s t hs ht _ (boxS (sd c k)).length 0 1048575 true false (by omega) (by omega) ?_)
  · rw [hbx] at hp
    obtain ⟨u, v, rfl, q1, q2⟩ := pts_iffZ.1 hp
    exact ⟨in5_iff.2 (show -500 ≤ u ∧ u ≤ 500 by omega), in5_iff.2 (show -500 ≤ v ∧ v ≤ 500 by omega)⟩
  · rw [List.drop_zero, box_all hg, box_any hg, Bool.true_and, Bool.false_or]
    refine ron_ans c px py hv h1 h2 r (k + 1) m _ _ (by omega) (by omega) ?_ ?_
    · cases allS (sd c k) px py <;> simp <;> omega
    · cases anyS (sd c k) px py <;> simp <;> omega
theorem ron_call (c : tChart.den) (px py : Int) : AnsF H2 24 [tChart.av c, .agg [.int .i64 px, .int .i64 py]] (tupS (onS c px py)) := by
 refine Ans.call (n := 8) (ext_none (by kernel_rfl)) (hasB_spec (by kernel_rfl)) ?_
 have h := ronc_start c px py
 rw [m10] at h
 unfold onS in10
 cases c1 : ieq (chkS c).2.2 0 with
 | false =>
  simp only [c1, Bool.not_false, cond_true, cond_false] at h ⊢
  exact .doneT (Y2_ok _) H2sy h (Tells.tupL (.cons .nils (.cons .nils (.refl _))))
 | true =>
  cases d1 : ile (-10000) px <;> cases d2 : ile px 10000 <;> cases d3 : ile (-10000) py <;> cases d4 : ile py 10000 <;>
   try (simp only [c1, d1, d2, d3, d4, Bool.not_false, Bool.not_true, Bool.and_self, Bool.and_true, Bool.and_false, Bool.false_and, cond_true, cond_false] at h ⊢; exact .doneT (Y2_ok _) H2sy h (Tells.tupL (.cons .nils (.cons .nils (.refl _)))))
  simp only [c1, d1, d2, d3, d4, Bool.not_true, Bool.and_self, cond_true, cond_false] at h ⊢
  exact .stop (Y2_ok _) H2sy h (ron_ans c px py (ieq_t' c1) (by unfold in10; rw [d1, d2]; rfl) (by unfold in10; rw [d3, d4]; rfl) c.2.1.2.length 0 1048575 [] [] (by omega) (by have := (valid_sands (ieq_t' c1)).1; omega) (by simp) (by simp))
noncomputable def intzG (a b : List tI.den) : Nat → Nat → Bool
 | _, 0 => true
 | k, r + 1 => bif ieq (a.getD k tI.dflt) (b.getD k tI.dflt) then intzG a b (k + 1) r else false
noncomputable def intzS (a b : List tI.den) : Bool := bif ieq (a.length : Int) (b.length : Int) then intzG a b 0 a.length else false
theorem intz_ans (a b : (Ty.sl tI).den) (hl : a.2.length < 1048576) (he : a.2.length = b.2.length) : ∀ (r k m : Nat), k + r = a.2.length → r < m → Ans H2 (intzI0 a b k m) (.bool (intzG a.2 b.2 k r))
 | 0, k, m + 1, hk, hm => by
  have h := intz_step0 a b k m
  simp only [ile_ge (show a.2.length ≤ k by omega), Bool.not_true, cond_false] at h
  exact .doneB (Y2_ok _) H2sy h rfl
 | r + 1, k, m + 1, hk, hm => by
  have h := intz_step0 a b k m
  have e : (k : Int).toNat = k := by simp
  simp only [ile_lt (show k < a.2.length by omega), inB_at (show k < a.2.length by omega), inB_at (show k < b.2.length by omega), e, wr_succ (show k < 1048577 by omega), Bool.not_false, cond_true] at h
  rw [intzG]
  cases c1 : ieq (a.2.getD k tI.dflt) (b.2.getD k tI.dflt) with
  | true =>
   simp only [c1, Bool.not_true, cond_true, cond_false] at h ⊢
   exact .stop (Y2_ok _) H2sy h (intz_ans a b hl he r (k + 1) m (by omega) (by omega))
  | false =>
   simp only [c1, Bool.not_false, cond_true, cond_false] at h ⊢
   exact .doneB (Y2_ok _) H2sy h rfl
theorem intz_call (a b : (Ty.sl tI).den) (hl : a.2.length < 1048575) : AnsF H2 25 [.vs tI a.1 a.2, .vs tI b.1 b.2] (.bool (intzS a.2 b.2)) := by
 refine Ans.call (n := 6) (ext_none (by kernel_rfl)) (hasB_spec (by kernel_rfl)) ?_
 have h := intz_start a b
 unfold intzS
 cases c1 : ieq (a.2.length : Int) (b.2.length : Int) with
 | false =>
  simp only [c1, Bool.not_false, cond_true, cond_false] at h ⊢
  exact .doneB (Y2_ok _) H2sy h rfl
 | true =>
  simp only [c1, Bool.not_true, cond_true, cond_false] at h ⊢
  exact .stop (Y2_ok _) H2sy h (intz_ans a b (by omega) (by have := ieq_t' c1; omega) a.2.length 0 1048575 (by omega) (by omega))
theorem intzG_self (a : List tI.den) : ∀ (r k : Nat), intzG a a k r = true
 | 0, _ => rfl
 | r + 1, k => by rw [intzG, ieq_self, cond_true]; exact intzG_self a r (k + 1)
theorem intzS_self (a : List tI.den) : intzS a a = true := by unfold intzS; rw [ieq_self, cond_true]; exact intzG_self a _ _
end Go.Proofs.YtffnpkbopjjdaaaGreatDoor


set_option maxRecDepth 100000
namespace Go.Proofs.YtffnpkbopjjdaaaGreatDoor
open Go Go.Eng
theorem lefO_start (a b : tP.den) : adv E0 (hdOf []) 3000 (startC E0 109 [tP.av a, tP.av b] 3) = some (.done (.int .i64 (wr .i64 (wr .i64 (a.1 * b.2.1) - wr .i64 (a.2.1 * b.1))))) := by kernel_rfl
theorem ahea_start (a b : tP.den) : adv E0 (hdOf []) 3000 (startC E0 144 [tP.av a, tP.av b] 3) = some (.done (.int .i64 (wr .i64 (wr .i64 (a.1 * b.1) + wr .i64 (a.2.1 * b.2.1))))) := by kernel_rfl
theorem squa_start (a : tP.den) : adv E0 (hdOf []) 3000 (startC E0 145 [tP.av a] 3) = some (.done (.int .i64 (wr .i64 (wr .i64 (a.1 * a.1) + wr .i64 (a.2.1 * a.2.1))))) := by kernel_rfl
noncomputable def vecS (a b : tP.den) : AV := .agg [.int .i64 (wr .i64 (b.1 - a.1)), .int .i64 (wr .i64 (b.2.1 - a.2.1))]
noncomputable def lefS (a b : tP.den) : AV := .int .i64 (wr .i64 (wr .i64 (a.1 * b.2.1) - wr .i64 (a.2.1 * b.1)))
noncomputable def aheS (a b : tP.den) : AV := .int .i64 (wr .i64 (wr .i64 (a.1 * b.1) + wr .i64 (a.2.1 * b.2.1)))
theorem vec_call (a b : tP.den) : AnsF E0 83 [tP.av a, tP.av b] (vecS a b) :=
 Ans.call (n := 3) (E0ext _ _ (by kernel_rfl)) (hasB_spec (by kernel_rfl)) (.done (hdOf_ok _) E0sy (vecTo_start a b) rfl)
theorem lef_call (a b : tP.den) : AnsF E0 109 [tP.av a, tP.av b] (lefS a b) :=
 Ans.call (n := 3) (E0ext _ _ (by kernel_rfl)) (hasB_spec (by kernel_rfl)) (.doneI (hdOf_ok _) E0sy (lefO_start a b) rfl)
theorem ahe_call (a b : tP.den) : AnsF E0 144 [tP.av a, tP.av b] (aheS a b) :=
 Ans.call (n := 3) (E0ext _ _ (by kernel_rfl)) (hasB_spec (by kernel_rfl)) (.doneI (hdOf_ok _) E0sy (ahea_start a b) rfl)
theorem squ_call (a : tP.den) : AnsF E0 145 [tP.av a] (aheS a a) :=
 Ans.call (n := 3) (E0ext _ _ (by kernel_rfl)) (hasB_spec (by kernel_rfl)) (.doneI (hdOf_ok _) E0sy (squa_start a) rfl)
noncomputable def XA (f : Nat) (args : List AV) : Option (Bool × AV) :=
 match Nat.beq f 83 with
 | true => con2 tP tP (fun _ _ => true) vecS args
 | false => match Nat.beq f 109 with
 | true => con2 tP tP (fun _ _ => true) lefS args
 | false => match Nat.beq f 144 with
 | true => con2 tP tP (fun _ _ => true) aheS args
 | false => match Nat.beq f 145 with
 | true => con1 tP (fun _ => true) (fun a => aheS a a) args
 | false => none
theorem XA_con : Con E0 (under XA) := by
 intro f args v h
 rw [under_iff] at h
 unfold XA at h
 split at h
 · rename_i e; obtain rfl := Nat.eq_of_beq_eq_true e
   exact con2_spec (t := tP) (u := tP) (fun a b _ => vec_call a b) h
 split at h
 · rename_i e; obtain rfl := Nat.eq_of_beq_eq_true e
   exact con2_spec (t := tP) (u := tP) (fun a b _ => lef_call a b) h
 split at h
 · rename_i e; obtain rfl := Nat.eq_of_beq_eq_true e
   exact con2_spec (t := tP) (u := tP) (fun a b _ => ahe_call a b) h
 split at h
 · rename_i e; obtain rfl := Nat.eq_of_beq_eq_true e
   exact con1_spec (t := tP) (fun a _ => squ_call a) h
 · cases h
noncomputable def EA : Env := { T0.env with ext := (E0.say (under XA)).ext }
theorem eA : EnvOK Tryz.prog EA := by
 have h := tabs_ok.env
 refine ⟨fun t k ht => ?_, h.zero, h.fn, h.eqok, h.meth⟩
 obtain ⟨h1, h2⟩ := h.ty t k ht
 refine ⟨h1, ?_⟩
 cases k <;> exact h2
theorem nA : NameOK EA := tabs_ok.name
theorem xA : ExtOK Tryz.prog EA := ExtOK.sayG e0 x0 n0 tabs_ok.mix XA_con
end Go.Proofs.YtffnpkbopjjdaaaGreatDoor


set_option maxRecDepth 100000
namespace Go.Proofs.YtffnpkbopjjdaaaGreatDoor
open Go Go.Eng
noncomputable def c0 : Ent := ⟨23, [(.agg [(.sl 10 0 2 2 4), (.sl 21 0 2 2 6)]), (.agg [(.int .i64 (150)), (.int .i64 (50))])], 23, [(7, (.cells false [(.int .i64 (0)), (.int .i64 (1)), (.int .i64 (50)), (.int .i64 (2))])), (9, (.cells false [(.int .i64 (10)), (.int .i64 (3)), (.int .i64 (90)), (.int .i64 (0))])), (10, (.cells false [(.str [99, 104, 117, 114, 99, 104]), (.int .i64 (3000)), (.int .i64 (4000)), (.sl 7 0 2 2 2), (.str [109, 105, 108, 108]), (.int .i64 (-2000)), (.int .i64 (0)), (.sl 9 0 2 2 2)])), (15, (.cells false [(.int .i64 (100)), (.int .i64 (0)), (.int .i64 (200)), (.int .i64 (0)), (.int .i64 (200)), (.int .i64 (100)), (.int .i64 (100)), (.int .i64 (100))])), (20, (.cells false [(.int .i64 (-300)), (.int .i64 (-300)), (.int .i64 (-100)), (.int .i64 (-400)), (.int .i64 (-200)), (.int .i64 (-200))])), (21, (.cells false [(.str [107, 110, 111, 108, 108]), (.sl 15 0 4 4 2), (.int .i64 (0)), (.int .i64 (10)), (.int .i64 (-5)), (.int .i64 (5)), (.str [115, 112, 105, 116]), (.sl 20 0 3 3 2), (.int .i64 (0)), (.int .i64 (0)), (.int .i64 (0)), (.int .i64 (0))]))], (.tup [(.sl 451 0 1 1 1), (.sl 453 0 1 1 1), (.int .i64 (0))]), [(451, (.cells false [(.int .i64 (0))])), (453, (.cells false [(.int .i64 (0))]))], 481⟩
noncomputable def c1 : Ent := ⟨23, [(.agg [(.sl 486 0 2 2 4), (.sl 497 0 2 2 6)]), (.agg [(.int .i64 (205)), (.int .i64 (50))])], 499, [(483, (.cells false [(.int .i64 (0)), (.int .i64 (1)), (.int .i64 (50)), (.int .i64 (2))])), (485, (.cells false [(.int .i64 (10)), (.int .i64 (3)), (.int .i64 (90)), (.int .i64 (0))])), (486, (.cells false [(.str [99, 104, 117, 114, 99, 104]), (.int .i64 (3000)), (.int .i64 (4000)), (.sl 483 0 2 2 2), (.str [109, 105, 108, 108]), (.int .i64 (-2000)), (.int .i64 (0)), (.sl 485 0 2 2 2)])), (491, (.cells false [(.int .i64 (100)), (.int .i64 (0)), (.int .i64 (200)), (.int .i64 (0)), (.int .i64 (200)), (.int .i64 (100)), (.int .i64 (100)), (.int .i64 (100))])), (496, (.cells false [(.int .i64 (-300)), (.int .i64 (-300)), (.int .i64 (-100)), (.int .i64 (-400)), (.int .i64 (-200)), (.int .i64 (-200))])), (497, (.cells false [(.str [107, 110, 111, 108, 108]), (.sl 491 0 4 4 2), (.int .i64 (0)), (.int .i64 (10)), (.int .i64 (-5)), (.int .i64 (5)), (.str [115, 112, 105, 116]), (.sl 496 0 3 3 2), (.int .i64 (0)), (.int .i64 (0)), (.int .i64 (0)), (.int .i64 (0))]))], (.tup [.nils, (.sl 927 0 1 1 1), (.int .i64 (0))]), [(927, (.cells false [(.int .i64 (0))]))], 955⟩
noncomputable def c2 : Ent := ⟨108, [(.agg [(.str [107, 110, 111, 108, 108]), (.sl 1136 0 4 4 2), (.int .i64 (0)), (.int .i64 (10)), (.int .i64 (-5)), (.int .i64 (5)), (.int .i64 (0)), (.int .i64 (0))]), (.int .i64 (100))], 1274, [(1136, (.cells false [(.int .i64 (100)), (.int .i64 (0)), (.int .i64 (200)), (.int .i64 (0)), (.int .i64 (200)), (.int .i64 (100)), (.int .i64 (100)), (.int .i64 (100))]))], (.tup [(.agg [(.int .i64 (0)), (.int .i64 (0))]), (.bool false)]), [], 6682⟩
noncomputable def c3 : Ent := ⟨108, [(.agg [(.str [107, 110, 111, 108, 108]), (.sl 6738 0 4 4 2), (.int .i64 (0)), (.int .i64 (10)), (.int .i64 (-5)), (.int .i64 (5)), (.int .i64 (0)), (.int .i64 (0))]), (.int .i64 (79))], 7004, [(6738, (.cells false [(.int .i64 (100)), (.int .i64 (0)), (.int .i64 (200)), (.int .i64 (0)), (.int .i64 (200)), (.int .i64 (100)), (.int .i64 (100)), (.int .i64 (100))]))], (.tup [(.agg [(.int .i64 (0)), (.int .i64 (0))]), (.bool false)]), [], 12412⟩
noncomputable def c4 : Ent := ⟨108, [(.agg [(.str [107, 110, 111, 108, 108]), (.sl 6738 0 4 4 2), (.int .i64 (0)), (.int .i64 (10)), (.int .i64 (-5)), (.int .i64 (5)), (.int .i64 (0)), (.int .i64 (0))]), (.int .i64 (99))], 12487, [(6738, (.cells false [(.int .i64 (100)), (.int .i64 (0)), (.int .i64 (200)), (.int .i64 (0)), (.int .i64 (200)), (.int .i64 (100)), (.int .i64 (100)), (.int .i64 (100))]))], (.tup [(.agg [(.int .i64 (0)), (.int .i64 (0))]), (.bool false)]), [], 17895⟩
noncomputable def c5 : Ent := ⟨108, [(.agg [(.str [107, 110, 111, 108, 108]), (.sl 6738 0 4 4 2), (.int .i64 (0)), (.int .i64 (10)), (.int .i64 (-5)), (.int .i64 (5)), (.int .i64 (0)), (.int .i64 (0))]), (.int .i64 (100))], 18048, [(6738, (.cells false [(.int .i64 (100)), (.int .i64 (0)), (.int .i64 (200)), (.int .i64 (0)), (.int .i64 (200)), (.int .i64 (100)), (.int .i64 (100)), (.int .i64 (100))]))], (.tup [(.agg [(.int .i64 (0)), (.int .i64 (0))]), (.bool false)]), [], 23456⟩
noncomputable def c6 : Ent := ⟨28, [(.agg [(.sl 6733 0 2 2 4), (.sl 6744 0 2 2 6)]), (.agg [(.int .i64 (0)), (.int .i64 (0))])], 6746, [(6730, (.cells false [(.int .i64 (0)), (.int .i64 (1)), (.int .i64 (50)), (.int .i64 (2))])), (6732, (.cells false [(.int .i64 (10)), (.int .i64 (3)), (.int .i64 (90)), (.int .i64 (0))])), (6733, (.cells false [(.str [99, 104, 117, 114, 99, 104]), (.int .i64 (3000)), (.int .i64 (4000)), (.sl 6730 0 2 2 2), (.str [109, 105, 108, 108]), (.int .i64 (-2000)), (.int .i64 (0)), (.sl 6732 0 2 2 2)])), (6738, (.cells false [(.int .i64 (100)), (.int .i64 (0)), (.int .i64 (200)), (.int .i64 (0)), (.int .i64 (200)), (.int .i64 (100)), (.int .i64 (100)), (.int .i64 (100))])), (6743, (.cells false [(.int .i64 (-300)), (.int .i64 (-300)), (.int .i64 (-100)), (.int .i64 (-400)), (.int .i64 (-200)), (.int .i64 (-200))])), (6744, (.cells false [(.str [107, 110, 111, 108, 108]), (.sl 6738 0 4 4 2), (.int .i64 (0)), (.int .i64 (10)), (.int .i64 (-5)), (.int .i64 (5)), (.str [115, 112, 105, 116]), (.sl 6743 0 3 3 2), (.int .i64 (0)), (.int .i64 (0)), (.int .i64 (0)), (.int .i64 (0))]))], (.tup [(.int .i64 (100)), (.int .i64 (0))]), [], 23502⟩
noncomputable def c7 : Ent := ⟨34, [(.agg [(.sl 23821 0 2 2 4), (.sl 23832 0 2 2 6)]), (.int .i64 (20)), (.int .i64 (1)), (.agg [(.int .i64 (-2010)), (.int .i64 (-1990)), (.int .i64 (0)), (.int .i64 (0))])], 23834, [(23818, (.cells false [(.int .i64 (0)), (.int .i64 (1)), (.int .i64 (50)), (.int .i64 (2))])), (23820, (.cells false [(.int .i64 (10)), (.int .i64 (3)), (.int .i64 (90)), (.int .i64 (0))])), (23821, (.cells false [(.str [99, 104, 117, 114, 99, 104]), (.int .i64 (3000)), (.int .i64 (4000)), (.sl 23818 0 2 2 2), (.str [109, 105, 108, 108]), (.int .i64 (-2000)), (.int .i64 (0)), (.sl 23820 0 2 2 2)])), (23826, (.cells false [(.int .i64 (100)), (.int .i64 (0)), (.int .i64 (200)), (.int .i64 (0)), (.int .i64 (200)), (.int .i64 (100)), (.int .i64 (100)), (.int .i64 (100))])), (23831, (.cells false [(.int .i64 (-300)), (.int .i64 (-300)), (.int .i64 (-100)), (.int .i64 (-400)), (.int .i64 (-200)), (.int .i64 (-200))])), (23832, (.cells false [(.str [107, 110, 111, 108, 108]), (.sl 23826 0 4 4 2), (.int .i64 (0)), (.int .i64 (10)), (.int .i64 (-5)), (.int .i64 (5)), (.str [115, 112, 105, 116]), (.sl 23831 0 3 3 2), (.int .i64 (0)), (.int .i64 (0)), (.int .i64 (0)), (.int .i64 (0))]))], (.tup [(.sl 25739 0 2 2 1), (.int .i64 (0))]), [(25739, (.cells false [(.int .i64 (8)), (.int .i64 (24))]))], 25740⟩
noncomputable def c8 : Ent := ⟨36, [(.agg [(.sl 25745 0 2 2 4), (.sl 25756 0 2 2 6)])], 25757, [(25742, (.cells false [(.int .i64 (0)), (.int .i64 (1)), (.int .i64 (50)), (.int .i64 (2))])), (25744, (.cells false [(.int .i64 (10)), (.int .i64 (3)), (.int .i64 (90)), (.int .i64 (0))])), (25745, (.cells false [(.str [99, 104, 117, 114, 99, 104]), (.int .i64 (3000)), (.int .i64 (4000)), (.sl 25742 0 2 2 2), (.str [109, 105, 108, 108]), (.int .i64 (-2000)), (.int .i64 (0)), (.sl 25744 0 2 2 2)])), (25750, (.cells false [(.int .i64 (100)), (.int .i64 (0)), (.int .i64 (200)), (.int .i64 (0)), (.int .i64 (200)), (.int .i64 (100)), (.int .i64 (100)), (.int .i64 (100))])), (25755, (.cells false [(.int .i64 (-300)), (.int .i64 (-300)), (.int .i64 (-100)), (.int .i64 (-400)), (.int .i64 (-200)), (.int .i64 (-200))])), (25756, (.cells false [(.str [107, 110, 111, 108, 108]), (.sl 25750 0 4 4 2), (.int .i64 (0)), (.int .i64 (10)), (.int .i64 (-5)), (.int .i64 (5)), (.str [115, 112, 105, 116]), (.sl 25755 0 3 3 2), (.int .i64 (0)), (.int .i64 (0)), (.int .i64 (0)), (.int .i64 (0))]))], (.tup [(.str [109, 97, 114, 107, 32, 99, 104, 117, 114, 99, 104, 32, 51, 48, 48, 48, 32, 52, 48, 48, 48, 32, 48, 32, 49, 32, 53, 48, 32, 50, 10, 109, 97, 114, 107, 32, 109, 105, 108, 108, 32, 45, 50, 48, 48, 48, 32, 48, 32, 49, 48, 32, 51, 32, 57, 48, 32, 48, 10, 115, 97, 110, 100, 32, 107, 110, 111, 108, 108, 32, 48, 32, 49, 48, 32, 45, 53, 32, 53, 32, 49, 48, 48, 32, 48, 32, 50, 48, 48, 32, 48, 32, 50, 48, 48, 32, 49, 48, 48, 32, 49, 48, 48, 32, 49, 48, 48, 10, 115, 97, 110, 100, 32, 115, 112, 105, 116, 32, 48, 32, 48, 32, 48, 32, 48, 32, 45, 51, 48, 48, 32, 45, 51, 48, 48, 32, 45, 49, 48, 48, 32, 45, 52, 48, 48, 32, 45, 50, 48, 48, 32, 45, 50, 48, 48, 10]), (.int .i64 (0))]), [], 25939⟩
noncomputable def c9 : Ent := ⟨115, [(.str [109, 97, 114, 107, 32, 99, 104, 117, 114, 99, 104, 32, 51, 48, 48, 48, 32, 52, 48, 48, 48, 32, 48, 32, 49, 32, 53, 48, 32, 50, 10, 109, 97, 114, 107, 32, 109, 105, 108, 108, 32, 45, 50, 48, 48, 48, 32, 48, 32, 49, 48, 32, 51, 32, 57, 48, 32, 48, 10, 115, 97, 110, 100, 32, 107, 110, 111, 108, 108, 32, 48, 32, 49, 48, 32, 45, 53, 32, 53, 32, 49, 48, 48, 32, 48, 32, 50, 48, 48, 32, 48, 32, 50, 48, 48, 32, 49, 48, 48, 32, 49, 48, 48, 32, 49, 48, 48, 10, 115, 97, 110, 100, 32, 115, 112, 105, 116, 32, 48, 32, 48, 32, 48, 32, 48, 32, 45, 51, 48, 48, 32, 45, 51, 48, 48, 32, 45, 49, 48, 48, 32, 45, 52, 48, 48, 32, 45, 50, 48, 48, 32, 45, 50, 48, 48, 10])], 25942, [], (.agg [(.sl 25967 0 2 2 4), (.sl 26004 0 2 2 6)]), [(25955, (.cells false [(.int .i64 (0)), (.int .i64 (1)), (.int .i64 (50)), (.int .i64 (2))])), (25966, (.cells false [(.int .i64 (10)), (.int .i64 (3)), (.int .i64 (90)), (.int .i64 (0))])), (25967, (.cells false [(.str [99, 104, 117, 114, 99, 104]), (.int .i64 (3000)), (.int .i64 (4000)), (.sl 25955 0 2 2 2), (.str [109, 105, 108, 108]), (.int .i64 (-2000)), (.int .i64 (0)), (.sl 25966 0 2 2 2)])), (25986, (.cells false [(.int .i64 (100)), (.int .i64 (0)), (.int .i64 (200)), (.int .i64 (0)), (.int .i64 (200)), (.int .i64 (100)), (.int .i64 (100)), (.int .i64 (100))])), (26003, (.cells false [(.int .i64 (-300)), (.int .i64 (-300)), (.int .i64 (-100)), (.int .i64 (-400)), (.int .i64 (-200)), (.int .i64 (-200))])), (26004, (.cells false [(.str [107, 110, 111, 108, 108]), (.sl 25986 0 4 4 2), (.int .i64 (0)), (.int .i64 (10)), (.int .i64 (-5)), (.int .i64 (5)), (.str [115, 112, 105, 116]), (.sl 26003 0 3 3 2), (.int .i64 (0)), (.int .i64 (0)), (.int .i64 (0)), (.int .i64 (0))]))], 26005⟩
noncomputable def c10 : Ent := ⟨36, [(.agg [(.sl 25967 0 2 2 4), (.sl 26004 0 2 2 6)])], 26006, [(25955, (.cells false [(.int .i64 (0)), (.int .i64 (1)), (.int .i64 (50)), (.int .i64 (2))])), (25966, (.cells false [(.int .i64 (10)), (.int .i64 (3)), (.int .i64 (90)), (.int .i64 (0))])), (25967, (.cells false [(.str [99, 104, 117, 114, 99, 104]), (.int .i64 (3000)), (.int .i64 (4000)), (.sl 25955 0 2 2 2), (.str [109, 105, 108, 108]), (.int .i64 (-2000)), (.int .i64 (0)), (.sl 25966 0 2 2 2)])), (25986, (.cells false [(.int .i64 (100)), (.int .i64 (0)), (.int .i64 (200)), (.int .i64 (0)), (.int .i64 (200)), (.int .i64 (100)), (.int .i64 (100)), (.int .i64 (100))])), (26003, (.cells false [(.int .i64 (-300)), (.int .i64 (-300)), (.int .i64 (-100)), (.int .i64 (-400)), (.int .i64 (-200)), (.int .i64 (-200))])), (26004, (.cells false [(.str [107, 110, 111, 108, 108]), (.sl 25986 0 4 4 2), (.int .i64 (0)), (.int .i64 (10)), (.int .i64 (-5)), (.int .i64 (5)), (.str [115, 112, 105, 116]), (.sl 26003 0 3 3 2), (.int .i64 (0)), (.int .i64 (0)), (.int .i64 (0)), (.int .i64 (0))]))], (.tup [(.str [109, 97, 114, 107, 32, 99, 104, 117, 114, 99, 104, 32, 51, 48, 48, 48, 32, 52, 48, 48, 48, 32, 48, 32, 49, 32, 53, 48, 32, 50, 10, 109, 97, 114, 107, 32, 109, 105, 108, 108, 32, 45, 50, 48, 48, 48, 32, 48, 32, 49, 48, 32, 51, 32, 57, 48, 32, 48, 10, 115, 97, 110, 100, 32, 107, 110, 111, 108, 108, 32, 48, 32, 49, 48, 32, 45, 53, 32, 53, 32, 49, 48, 48, 32, 48, 32, 50, 48, 48, 32, 48, 32, 50, 48, 48, 32, 49, 48, 48, 32, 49, 48, 48, 32, 49, 48, 48, 10, 115, 97, 110, 100, 32, 115, 112, 105, 116, 32, 48, 32, 48, 32, 48, 32, 48, 32, 45, 51, 48, 48, 32, 45, 51, 48, 48, 32, 45, 49, 48, 48, 32, 45, 52, 48, 48, 32, 45, 50, 48, 48, 32, 45, 50, 48, 48, 10]), (.int .i64 (0))]), [], 26188⟩
end Go.Proofs.YtffnpkbopjjdaaaGreatDoor

