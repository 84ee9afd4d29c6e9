/-
  What is proved: norelaw01.ChartClear returns true for every chart, moves, points of sands and place near a sand: with the radius of Radius, or a lesser one, no point of a sand, wherever it has wandered, is in the circle; with a radius greater by 1 the sand that Clear returns is, moved as it says, and none before it. Conditions: none but those of the given card (package-level variables start as the program's text lays them).
-/
import Derived.Test.YtffnpkbopjjdaaaGreatDoorPart06
import Derived.Test.YtffnpkbopjjdaaaGreatDoorPart07
import Derived.Test.YtffnpkbopjjdaaaGreatDoorPart08
import Derived.Test.YtffnpkbopjjdaaaGreatDoorPart09
import Derived.Test.YtffnpkbopjjdaaaGreatDoorPart10
import Derived.Test.YtffnpkbopjjdaaaGreatDoorPart11
import Derived.Test.YtffnpkbopjjdaaaGreatDoorPart17
import Derived.Test.YtffnpkbopjjdaaaGreatDoorPart12
import Derived.Test.YtffnpkbopjjdaaaGreatDoorPart13
import Derived.Test.YtffnpkbopjjdaaaGreatDoorPart14
import Derived.Test.YtffnpkbopjjdaaaGreatDoorPart15
import Derived.Test.YtffnpkbopjjdaaaGreatDoorPart05
import Derived.Test.YtffnpkbopjjdaaaGreatDoorRows
import Derived.Test.YtffnpkbopjjdaaaGreatDoorCards
import Derived.Test.YtffnpkbopjjdaaaGreatDoorTie
import Derived.ProofKit
import Derived.LaidMore
import Derived.OpenShut
import Derived.Stop.Joined
import Derived.Lay
import Derived.SevenTiedAt
set_option linter.unusedSectionVars false
set_option linter.unusedSimpArgs false
set_option linter.unusedVariables false
set_option maxRecDepth 100000
namespace Go.Proofs.YtffnpkbopjjdaaaGreatDoor
open Go Go.Eng
noncomputable def L3 : List Ent := [c0, c1, c2, c3, c4, c5, c6, c7, c8, c9, c10]
theorem l3 : ∀ e ∈ L3, EntOK Tryz.prog EA e := ents_cons o0 (ents_cons o1 (ents_cons o2 (ents_cons o3 (ents_cons o4 (ents_cons o5 (ents_cons o6 (ents_cons o7 (ents_cons o8 (ents_cons o9 (ents_cons o10 (ents_nil)))))))))))
end Go.Proofs.YtffnpkbopjjdaaaGreatDoor


set_option maxRecDepth 100000
namespace Go.Proofs.YtffnpkbopjjdaaaGreatDoor
open Go Go.Eng
theorem kn_true : isTrueT EA L3 40 22 = true := by kernel_rfl
end Go.Proofs.YtffnpkbopjjdaaaGreatDoor


set_option maxRecDepth 100000
namespace Go.Proofs.YtffnpkbopjjdaaaGreatDoor
open Go Go.Eng
theorem movd_start (s : tSand.den) (l : (Ty.sl (.int .u16)).den) (n : Int) : adv H3 (Y3 []) 3000 (startC H3 47 [tSand.av s, .vs (.int .u16) l.1 l.2, .int .i64 n] 6) = (let z1 := (wr .i64 (wr .i64 (2 * n) + 1)); (bif u16 l.2 && ile 0 (wr .i64 (2 * n)) then (bif amC s.2.2.1.1.1 s.2.2.1.1.2.1 (turnS l.2 (wr .i64 (2 * n))) then (bif u16 l.2 && ile 0 z1 then (bif amC s.2.2.1.2.1.1 s.2.2.1.2.1.2.1 (turnS l.2 z1) then (bif ieq s.2.2.1.2.1.1 s.2.2.1.2.1.1 then (bif ieq s.2.2.1.2.1.2.1 s.2.2.1.2.1.2.1 then (bif ieq s.2.2.1.2.1.1 s.2.2.1.2.1.1 then (bif ieq s.2.2.1.2.1.2.1 s.2.2.1.2.1.2.1 then (bif ieq s.2.2.1.2.1.1 s.2.2.1.2.1.1 then (bif ieq s.2.2.1.2.1.2.1 s.2.2.1.2.1.2.1 then (bif ieq s.2.2.1.2.1.1 s.2.2.1.2.1.1 then (bif ieq s.2.2.1.2.1.2.1 s.2.2.1.2.1.2.1 then (bif ieq s.2.2.1.1.1 s.2.2.1.1.1 then (bif ieq s.2.2.1.1.2.1 s.2.2.1.1.2.1 then (bif ieq s.2.2.1.1.1 s.2.2.1.1.1 then (bif ieq s.2.2.1.1.2.1 s.2.2.1.1.2.1 then some (.done (.agg [(.int .i64 (amS s.2.2.1.1.1 s.2.2.1.1.2.1 (turnS l.2 (wr .i64 (2 * n))))), (.int .i64 (amS s.2.2.1.2.1.1 s.2.2.1.2.1.2.1 (turnS l.2 z1)))])) else none) else none) else none) else none) else none) else none) else none) else none) else none) else none) else none) else none) else none) else none) else none) else none)) := by kernel_rfl
theorem near_start (c : tChart.den) (l : (Ty.sl (.int .u16)).den) : adv H3 (Y3 []) 3000 (startC H3 44 [tChart.av c, .vs (.int .u16) l.1 l.2] 6) = (let z1 := (wr .i64 ((turnS l.2 2).tmod 400 - 200) + ((c.2.1.2.getD ((turnS l.2 0).tmod ↑c.2.1.2.length).toNat tSand.dflt).2.1.2.getD ((turnS l.2 3).tmod ↑(c.2.1.2.getD ((turnS l.2 0).tmod ↑c.2.1.2.length).toNat tSand.dflt).2.1.2.length).toNat tP.dflt).2.1); let z2 := (wr .i64 ((turnS l.2 1).tmod 400 - 200) + ((c.2.1.2.getD ((turnS l.2 0).tmod ↑c.2.1.2.length).toNat tSand.dflt).2.1.2.getD ((turnS l.2 3).tmod ↑(c.2.1.2.getD ((turnS l.2 0).tmod ↑c.2.1.2.length).toNat tSand.dflt).2.1.2.length).toNat tP.dflt).1); let z3 := (wr .i64 ((turnS l.2 1).tmod 400 - 200)); let z4 := (wr .i64 ((turnS l.2 2).tmod 400 - 200)); (bif u16 l.2 && ile 0 1 then (bif u16 l.2 && ile 0 2 then (bif !ile (↑c.2.1.2.length) 0 then (bif u16 l.2 && ile 0 0 then (bif ieq (↑c.2.1.2.length) 0 then none else (bif inB ((turnS l.2 0).tmod ↑c.2.1.2.length) c.2.1.2.length then (bif bbeq c.2.1.1 c.2.1.1 then (bif vsB tSand c.2.1.2 tSand c.2.1.2 then (bif bbeq c.2.1.1 c.2.1.1 then (bif vsB tSand c.2.1.2 tSand c.2.1.2 then (bif bbeq c.2.1.1 c.2.1.1 then (bif vsB tSand c.2.1.2 tSand c.2.1.2 then (bif bbeq c.2.1.1 c.2.1.1 then (bif vsB tSand c.2.1.2 tSand c.2.1.2 then (bif u16 l.2 && ile 0 3 then (bif ieq (↑(c.2.1.2.getD ((turnS l.2 0).tmod ↑c.2.1.2.length).toNat tSand.dflt).2.1.2.length) 0 then none else (bif inB ((turnS l.2 3).tmod ↑(c.2.1.2.getD ((turnS l.2 0).tmod ↑c.2.1.2.length).toNat tSand.dflt).2.1.2.length) (c.2.1.2.getD ((turnS l.2 0).tmod ↑c.2.1.2.length).toNat tSand.dflt).2.1.2.length then (bif bbeq (c.2.1.2.getD ((turnS l.2 0).tmod ↑c.2.1.2.length).toNat tSand.dflt).2.1.1 (c.2.1.2.getD ((turnS l.2 0).tmod ↑c.2.1.2.length).toNat tSand.dflt).2.1.1 then (bif vsB tP (c.2.1.2.getD ((turnS l.2 0).tmod ↑c.2.1.2.length).toNat tSand.dflt).2.1.2 tP (c.2.1.2.getD ((turnS l.2 0).tmod ↑c.2.1.2.length).toNat tSand.dflt).2.1.2 then (bif bbeq (c.2.1.2.getD ((turnS l.2 0).tmod ↑c.2.1.2.length).toNat tSand.dflt).2.1.1 (c.2.1.2.getD ((turnS l.2 0).tmod ↑c.2.1.2.length).toNat tSand.dflt).2.1.1 then (bif vsB tP (c.2.1.2.getD ((turnS l.2 0).tmod ↑c.2.1.2.length).toNat tSand.dflt).2.1.2 tP (c.2.1.2.getD ((turnS l.2 0).tmod ↑c.2.1.2.length).toNat tSand.dflt).2.1.2 then (bif bbeq (c.2.1.2.getD ((turnS l.2 0).tmod ↑c.2.1.2.length).toNat tSand.dflt).2.1.1 (c.2.1.2.getD ((turnS l.2 0).tmod ↑c.2.1.2.length).toNat tSand.dflt).2.1.1 then (bif vsB tP (c.2.1.2.getD ((turnS l.2 0).tmod ↑c.2.1.2.length).toNat tSand.dflt).2.1.2 tP (c.2.1.2.getD ((turnS l.2 0).tmod ↑c.2.1.2.length).toNat tSand.dflt).2.1.2 then (bif bbeq (c.2.1.2.getD ((turnS l.2 0).tmod ↑c.2.1.2.length).toNat tSand.dflt).2.1.1 (c.2.1.2.getD ((turnS l.2 0).tmod ↑c.2.1.2.length).toNat tSand.dflt).2.1.1 then (bif vsB tP (c.2.1.2.getD ((turnS l.2 0).tmod ↑c.2.1.2.length).toNat tSand.dflt).2.1.2 tP (c.2.1.2.getD ((turnS l.2 0).tmod ↑c.2.1.2.length).toNat tSand.dflt).2.1.2 then (bif ieq z3 z3 then (bif ieq z4 z4 then (bif ieq z3 z3 then (bif ieq z4 z4 then some (.done (.agg [(.int .i64 (bif ile (bif ile 10000 (wr .i64 z2) then 10000 else wr .i64 z2) (-10000) then -10000 else bif ile 10000 (wr .i64 z2) then 10000 else wr .i64 z2)), (.int .i64 (bif ile (bif ile 10000 (wr .i64 z1) then 10000 else wr .i64 z1) (-10000) then -10000 else bif ile 10000 (wr .i64 z1) then 10000 else wr .i64 z1))])) else none) else none) else none) else none) else none) else none) else none) else none) else none) else none) else none) else none) else none)) else none) else none) else none) else none) else none) else none) else none) else none) else none) else none)) else none) else some (.done (.agg [(.int .i64 (bif ile (bif ile 10000 z3 then 10000 else wr .i64 ((turnS l.2 1).tmod 400 - 200)) (-10000) then -10000 else bif ile 10000 z3 then 10000 else wr .i64 ((turnS l.2 1).tmod 400 - 200))), (.int .i64 (bif ile (bif ile 10000 z4 then 10000 else wr .i64 ((turnS l.2 2).tmod 400 - 200)) (-10000) then -10000 else bif ile 10000 z4 then 10000 else wr .i64 ((turnS l.2 2).tmod 400 - 200)))]))) else none) else none)) := by kernel_rfl
noncomputable def clp (v : Int) : Int := bif ile (bif ile 10000 v then 10000 else v) (-10000) then -10000 else bif ile 10000 v then 10000 else v
theorem clp_in (v : Int) : in10 (clp v) = true := by
 rw [in10_iff]
 unfold clp
 cases c1 : ile 10000 v with
 | true => simp only [cond_true, show ile 10000 (-10000) = false from rfl, cond_false]; omega
 | false =>
  rw [ile_iff] at c1
  simp only [decide_eq_false_iff_not] at c1
  simp only [cond_false]
  cases c2 : ile v (-10000) with
  | true => simp only [cond_true]; omega
  | false =>
   rw [ile_iff] at c2
   simp only [decide_eq_false_iff_not] at c2
   simp only [cond_false]; omega
noncomputable def nrC (c : tChart.den) (l : List Int) : tP.den := (c.2.1.2.getD ((turnS l 0).tmod (c.2.1.2.length : Int)).toNat tSand.dflt).2.1.2.getD ((turnS l 3).tmod ((c.2.1.2.getD ((turnS l 0).tmod (c.2.1.2.length : Int)).toNat tSand.dflt).2.1.2.length : Int)).toNat tP.dflt
noncomputable def nX (c : tChart.den) (l : List Int) : Int := bif ile (c.2.1.2.length : Int) 0 then clp (wr .i64 ((turnS l 1).tmod 400 - 200)) else clp (wr .i64 (wr .i64 ((turnS l 1).tmod 400 - 200) + (nrC c l).1))
noncomputable def nY (c : tChart.den) (l : List Int) : Int := bif ile (c.2.1.2.length : Int) 0 then clp (wr .i64 ((turnS l 2).tmod 400 - 200)) else clp (wr .i64 (wr .i64 ((turnS l 2).tmod 400 - 200) + (nrC c l).2.1))
theorem nX_in (c : tChart.den) (l : List Int) : in10 (nX c l) = true := by unfold nX; cases ile (c.2.1.2.length : Int) 0 <;> exact clp_in _
theorem nY_in (c : tChart.den) (l : List Int) : in10 (nY c l) = true := by unfold nY; cases ile (c.2.1.2.length : Int) 0 <;> exact clp_in _
theorem mod_at {a : Int} {n : Nat} (ha : 0 ≤ a) (hn : 0 < n) : inB (a.tmod (n : Int)) n = true ∧ (a.tmod (n : Int)).toNat < n := by
 have e : a.tmod (n : Int) = a % (n : Int) := Int.tmod_eq_emod_of_nonneg ha
 have h1 := Int.emod_nonneg a (show (n : Int) ≠ 0 by omega)
 have h2 := Int.emod_lt_of_pos a (show 0 < (n : Int) by omega)
 rw [e]
 exact ⟨by rw [inB_iff]; exact decide_eq_true ⟨h1, h2⟩, by omega⟩
theorem near_call (c : tChart.den) (l : (Ty.sl (.int .u16)).den) (hl : u16 l.2 = true) (hv : (chkS c).2.2 = 0) : AnsF H3 44 [tChart.av c, .vs (.int .u16) l.1 l.2] (.agg [.int .i64 (nX c l.2), .int .i64 (nY c l.2)]) := by
 refine Ans.call (n := 6) (ext_none (by kernel_rfl)) (hasB_spec (by kernel_rfl)) ?_
 have h := near_start c l
 have t1 : ile 0 1 = true := rfl
 have t2 : ile 0 2 = true := rfl
 have t3 : ile 0 3 = true := rfl
 have t0 : ile 0 0 = true := rfl
 have q0 := turnS_b hl 0
 have q3 := turnS_b hl 3
 unfold nX nY
 cases c1 : ile (c.2.1.2.length : Int) 0 with
 | true =>
  simp only [hl, t1, t2, c1, Bool.and_self, Bool.not_true, cond_true, cond_false] at h ⊢
  exact .done (Y3_ok _) H3sy h rfl
 | false =>
  have hpos : 0 < c.2.1.2.length := by rw [ile_iff] at c1; simp only [decide_eq_false_iff_not] at c1; omega
  obtain ⟨m1, m2⟩ := mod_at q0.1 hpos
  have hg := goodS_len (sd_good hv m2)
  have z1 : ieq (c.2.1.2.length : Int) 0 = false := by rw [ieq_iff]; exact decide_eq_false (by omega)
  unfold nrC
  unfold sd at hg
  generalize hS : c.2.1.2.getD ((turnS l.2 0).tmod (c.2.1.2.length : Int)).toNat tSand.dflt = S at h hg
  obtain ⟨m3, m4⟩ := mod_at q3.1 (show 0 < S.2.1.2.length by omega)
  have z2 : ieq (S.2.1.2.length : Int) 0 = false := by rw [ieq_iff]; exact decide_eq_false (by omega)
  simp only [hl, t0, t1, t2, t3, c1, m1, m3, z1, z2, ieq_self, bbeq_self, vsB_self, Bool.and_self, Bool.not_false, cond_true, cond_false] at h ⊢
  exact .done (Y3_ok _) H3sy h rfl
noncomputable def mX (s : tSand.den) (l : List Int) (n : Int) : Int := amS s.2.2.1.1.1 s.2.2.1.1.2.1 (turnS l (2 * n))
noncomputable def mY (s : tSand.den) (l : List Int) (n : Int) : Int := amS s.2.2.1.2.1.1 s.2.2.1.2.1.2.1 (turnS l (2 * n + 1))
theorem movd_call (s : tSand.den) (l : (Ty.sl (.int .u16)).den) (n : Int) (hl : u16 l.2 = true) (hs : goodS s = true) (hn : ile 0 n = true) (hn2 : ile n 1000 = true) : AnsF H3 47 [tSand.av s, .vs (.int .u16) l.1 l.2, .int .i64 n] (.agg [.int .i64 (mX s l.2 n), .int .i64 (mY s l.2 n)]) := by
 refine Ans.call (n := 6) (ext_none (by kernel_rfl)) (hasB_spec (by kernel_rfl)) ?_
 have h := movd_start s l n
 rw [ile_iff] at hn hn2
 simp only [decide_eq_true_eq] at hn hn2
 obtain ⟨_, ⟨⟨g2, g3⟩, g4, g5⟩, g6, g7⟩ := goodS_iff rfl rfl rfl rfl hs
 have i0 := in5_iff.1 g2
 have i1 := in5_iff.1 g3
 have i2 := in5_iff.1 g4
 have i3 := in5_iff.1 g5
 have w1 : wr .i64 (2 * n) = 2 * n := wr_in (by omega) (by omega)
 have w2 : wr .i64 (2 * n + 1) = 2 * n + 1 := wr_in (by omega) (by omega)
 have p1 : ile 0 (2 * n) = true := by rw [ile_iff]; exact decide_eq_true (by omega)
 have p2 : ile 0 (2 * n + 1) = true := by rw [ile_iff]; exact decide_eq_true (by omega)
 have b1 := turnS_b hl (2 * n)
 have b2 := turnS_b hl (2 * n + 1)
 obtain ⟨x0, e0⟩ : ∃ y : Int, s.2.2.1.1.1 = y := ⟨_, rfl⟩
 obtain ⟨x1, e1⟩ : ∃ y : Int, s.2.2.1.1.2.1 = y := ⟨_, rfl⟩
 obtain ⟨y0, e2⟩ : ∃ y : Int, s.2.2.1.2.1.1 = y := ⟨_, rfl⟩
 obtain ⟨y1, e3⟩ : ∃ y : Int, s.2.2.1.2.1.2.1 = y := ⟨_, rfl⟩
 rw [e0] at i0 g6; rw [e1] at i1 g6; rw [e2] at i2 g7; rw [e3] at i3 g7
 have a1 : amC x0 x1 (turnS l.2 (2 * n)) = true := by rw [amC_iff]; omega
 have a2 : amC y0 y1 (turnS l.2 (2 * n + 1)) = true := by rw [amC_iff]; omega
 unfold mX mY
 simp only [e0, e1, e2, e3, w1, w2, p1, p2, hl, a1, a2, ieq_self, Bool.and_self, cond_true] at h ⊢
 exact .done (Y3_ok _) H3sy h rfl
noncomputable def LK : List Said := [(44, con2 tChart (.sl (.int .u16)) (fun c l => u16 l.2 && ieq (chkS c).2.2 0) (fun c l => .agg [.int .i64 (nX c l.2), .int .i64 (nY c l.2)])),
 (47, con3 tSand (.sl (.int .u16)) tI (fun s l n => u16 l.2 && goodS s && ile 0 n && ile n 1000) (fun s l n => .agg [.int .i64 (mX s l.2 n), .int .i64 (mY s l.2 n)])), (22, say0 (.bool true))]
theorem LK_ok : ∀ e ∈ LK, SaidG Tryz.prog H3.glob e :=
 saids_cons (SaidOK.g h3 xh3 nh3 tabs_ok.mix (fun _ _ h => con2_spec (t := tChart) (u := .sl (.int .u16)) (fun c l hc => by
  rw [Bool.and_eq_true] at hc
  exact near_call c l hc.1 (ieq_t' hc.2)) h) rfl)
 (saids_cons (SaidOK.g h3 xh3 nh3 tabs_ok.mix (fun _ _ h => con3_spec (t := tSand) (u := .sl (.int .u16)) (w := tI) (fun s l n hc => by
  simp only [Bool.and_eq_true] at hc
  exact movd_call s l n hc.1.1.1 hc.1.1.2 hc.1.2 hc.2) h) rfl)
 (saids_cons (XG.g (XG.closedT eA xA nA tabs_ok.mix l3 kn_true) rfl) saids_nil))
end Go.Proofs.YtffnpkbopjjdaaaGreatDoor

namespace Go.Eng
theorem sq_nn (a : Int) : 0 ≤ a * a := by
 by_cases h : 0 ≤ a
 · exact Int.mul_nonneg h h
 · rw [← Int.neg_mul_neg]; exact Int.mul_nonneg (by omega) (by omega)
theorem lagr (a b u v : Int) : (a * a + b * b) * (u * u + v * v) = (a * u + b * v) * (a * u + b * v) + (a * v - b * u) * (a * v - b * u) := by grind
theorem vq_le {ax ay vx vy qx qy : Int} (hn : 0 < ax * ax + ay * ay) (hp : ax * qy = ay * qx) (h : (ax * vx + ay * vy) * (ax * qx + ay * qy) ≤ 0) : vx * qx + vy * qy ≤ 0 := by
 have e : (ax * ax + ay * ay) * (vx * qx + vy * qy) = (ax * vx + ay * vy) * (ax * qx + ay * qy) + (ax * vy - ay * vx) * (ax * qy - ay * qx) := by grind
 have z : ax * qy - ay * qx = 0 := by omega
 rw [z, Int.mul_zero, Int.add_zero] at e
 by_cases hh : vx * qx + vy * qy ≤ 0
 · exact hh
 · have := Int.mul_pos hn (show 0 < vx * qx + vy * qy by omega)
   omega
theorem far_end {vx vy qx qy T r : Int} (h : r * r ≤ vx * vx + vy * vy) (h2 : vx * qx + vy * qy ≤ 0) (hT : 0 ≤ T) : T * T * (r * r) ≤ (T * vx - qx) * (T * vx - qx) + (T * vy - qy) * (T * vy - qy) := by
 have e : (T * vx - qx) * (T * vx - qx) + (T * vy - qy) * (T * vy - qy) = T * T * (vx * vx + vy * vy) - 2 * (T * (vx * qx + vy * qy)) + (qx * qx + qy * qy) := by grind
 have a1 := Int.mul_le_mul_of_nonneg_left h (sq_nn T)
 have a2 : T * (vx * qx + vy * qy) ≤ 0 := Int.mul_nonpos_of_nonneg_of_nonpos hT h2
 have a3 := sq_nn qx
 have a4 := sq_nn qy
 rw [e]; omega
theorem side_far {ax ay vx vy r qx qy T : Int} (hn : 0 < ax * ax + ay * ay) (hT : 0 < T) (hp : ax * qy = ay * qx) (h0 : 0 ≤ ax * qx + ay * qy) (h1 : ax * qx + ay * qy ≤ T * (ax * ax + ay * ay))
  (hf : (ax * vx + ay * vy ≤ 0 ∧ r * r ≤ vx * vx + vy * vy) ∨ (ax * ax + ay * ay ≤ ax * vx + ay * vy ∧ r * r ≤ (vx - ax) * (vx - ax) + (vy - ay) * (vy - ay)) ∨ r * r * (ax * ax + ay * ay) ≤ (ax * vy - ay * vx) * (ax * vy - ay * vx)) :
  T * T * (r * r) ≤ (T * vx - qx) * (T * vx - qx) + (T * vy - qy) * (T * vy - qy) := by
 rcases hf with ⟨g1, g2⟩ | ⟨g1, g2⟩ | g
 · exact far_end g2 (vq_le hn hp (Int.mul_nonpos_of_nonpos_of_nonneg g1 h0)) (by omega)
 · have k1 : ax * (qy - T * ay) = ay * (qx - T * ax) := by grind
   have k2 : ax * (vx - ax) + ay * (vy - ay) = (ax * vx + ay * vy) - (ax * ax + ay * ay) := by grind
   have k3 : ax * (qx - T * ax) + ay * (qy - T * ay) = (ax * qx + ay * qy) - T * (ax * ax + ay * ay) := by grind
   have := far_end g2 (vq_le (vx := vx - ax) (vy := vy - ay) (qx := qx - T * ax) (qy := qy - T * ay) hn k1 (by rw [k2, k3]; exact Int.mul_nonpos_of_nonneg_of_nonpos (by omega) (by omega))) (show 0 ≤ T by omega)
   have k4 : T * (vx - ax) - (qx - T * ax) = T * vx - qx := by grind
   have k5 : T * (vy - ay) - (qy - T * ay) = T * vy - qy := by grind
   rw [k4, k5] at this
   exact this
 · have e := lagr ax ay (T * vx - qx) (T * vy - qy)
   have e2 : ax * (T * vy - qy) - ay * (T * vx - qx) = T * (ax * vy - ay * vx) := by grind
   rw [e2] at e
   have e3 : T * (ax * vy - ay * vx) * (T * (ax * vy - ay * vx)) = T * T * ((ax * vy - ay * vx) * (ax * vy - ay * vx)) := by grind
   have a1 := Int.mul_le_mul_of_nonneg_left g (sq_nn T)
   have a2 := sq_nn (ax * (T * vx - qx) + ay * (T * vy - qy))
   have a3 : T * T * (r * r * (ax * ax + ay * ay)) = (ax * ax + ay * ay) * (T * T * (r * r)) := by grind
   have a4 : (ax * ax + ay * ay) * (T * T * (r * r)) ≤ (ax * ax + ay * ay) * ((T * vx - qx) * (T * vx - qx) + (T * vy - qy) * (T * vy - qy)) := by omega
   exact Int.le_of_mul_le_mul_left a4 hn
theorem least_q (l m : Nat → Int) : ∀ n : Nat, (∀ j, j < n → m j ≤ 0) ∨ ∃ k, k < n ∧ 0 < m k ∧ ∀ j, j < n → 0 < m j → l k * m j ≤ l j * m k
 | 0 => .inl fun j hj => by omega
 | n + 1 => by
  rcases least_q l m n with h | ⟨k, hk, hm, h⟩
  · by_cases hn : 0 < m n
    · refine .inr ⟨n, by omega, hn, fun j hj hj2 => ?_⟩
      by_cases e : j = n
      · subst e; exact Int.le_refl _
      · have := h j (by omega); omega
    · refine .inl fun j hj => ?_
      by_cases e : j = n
      · subst e; omega
      · exact h j (by omega)
  · by_cases hn : 0 < m n
    · by_cases hc : l k * m n ≤ l n * m k
      · refine .inr ⟨k, by omega, hm, fun j hj hj2 => ?_⟩
        by_cases e : j = n
        · subst e; exact hc
        · exact h j (by omega) hj2
      · refine .inr ⟨n, by omega, hn, fun j hj hj2 => ?_⟩
        by_cases e : j = n
        · subst e; exact Int.le_refl _
        · have h1 := h j (by omega) hj2
          have a1 : l n * m k * m j ≤ l k * m n * m j := Int.mul_le_mul_of_nonneg_right (by omega) (by omega)
          have a2 : l k * m j * m n ≤ l j * m k * m n := Int.mul_le_mul_of_nonneg_right h1 (by omega)
          have a3 : m k * (l n * m j) ≤ m k * (l j * m n) := by
           have e1 : m k * (l n * m j) = l n * m k * m j := by grind
           have e2 : m k * (l j * m n) = l j * m k * m n := by grind
           have e3 : l k * m n * m j = l k * m j * m n := by grind
           omega
          exact Int.le_of_mul_le_mul_left a3 hm
    · refine .inr ⟨k, by omega, hm, fun j hj hj2 => ?_⟩
      by_cases e : j = n
      · subst e; omega
      · exact h j (by omega) hj2
section
variable (X Y : Nat → Int) (n : Nat)
def gA (k : Nat) : Int := X ((k + 1) % n) - X k
def gB (k : Nat) : Int := Y ((k + 1) % n) - Y k
def gL (S : Int) (k : Nat) (px py : Int) : Int := gA X n k * (py - S * Y k) - gB Y n k * (px - S * X k)
theorem poly_far (hn : 3 ≤ n) (turns : ∀ k, k < n → 0 < gA X n k * gB Y n ((k + 1) % n) - gB Y n k * gA X n ((k + 1) % n))
  {S px py dx dy r : Int} (hS : 0 < S) (hr : 0 ≤ r) (hp : ∀ k, k < n → 0 ≤ gL X Y n S k px py) (hd : ∃ k, k < n ∧ gL X Y n 1 k dx dy < 0)
  (hf : ∀ k, k < n → (gA X n k * (dx - X k) + gB Y n k * (dy - Y k) ≤ 0 ∧ r * r ≤ (dx - X k) * (dx - X k) + (dy - Y k) * (dy - Y k)) ∨
   (gA X n k * gA X n k + gB Y n k * gB Y n k ≤ gA X n k * (dx - X k) + gB Y n k * (dy - Y k) ∧ r * r ≤ (dx - X k - gA X n k) * (dx - X k - gA X n k) + (dy - Y k - gB Y n k) * (dy - Y k - gB Y n k)) ∨
   r * r * (gA X n k * gA X n k + gB Y n k * gB Y n k) ≤ (gA X n k * (dy - Y k) - gB Y n k * (dx - X k)) * (gA X n k * (dy - Y k) - gB Y n k * (dx - X k))) :
  S * S * (r * r) ≤ (px - S * dx) * (px - S * dx) + (py - S * dy) * (py - S * dy) := by
 rcases least_q (fun k => gL X Y n S k px py) (fun k => -gL X Y n 1 k dx dy) n with h | ⟨k, hk, hm, h⟩
 · obtain ⟨k, hk, h2⟩ := hd
   have := h k hk
   omega
 · -- the side at which the way from the point leaves the polygon
   obtain ⟨m, hmd⟩ : ∃ m, -gL X Y n 1 k dx dy = m := ⟨_, rfl⟩
   obtain ⟨l, hld⟩ : ∃ l, gL X Y n S k px py = l := ⟨_, rfl⟩
   have hl : 0 ≤ l := by rw [← hld]; exact hp k hk
   simp only [hmd, hld] at hm h
   obtain ⟨T, hTd⟩ : ∃ T, l + S * m = T := ⟨_, rfl⟩
   have hSm : 0 < S * m := Int.mul_pos hS hm
   have hT : 0 < T := by omega
   have hall : ∀ j, j < n → 0 ≤ gL X Y n T j (m * px + l * dx) (m * py + l * dy) := fun j hj => by
    have e : gL X Y n T j (m * px + l * dx) (m * py + l * dy) = m * gL X Y n S j px py + l * gL X Y n 1 j dx dy := by
     unfold gL; rw [← hTd]; grind
    rw [e]
    have a1 := Int.mul_nonneg (show 0 ≤ m by omega) (hp j hj)
    by_cases hv : 0 ≤ gL X Y n 1 j dx dy
    · have := Int.mul_nonneg hl hv; omega
    · have a2 := h j hj (by omega)
      rw [Int.mul_neg, Int.mul_comm (gL X Y n S j px py)] at a2
      omega
   have hzero : gL X Y n T k (m * px + l * dx) (m * py + l * dy) = 0 := by
    have e : gL X Y n T k (m * px + l * dx) (m * py + l * dy) = m * gL X Y n S k px py + l * gL X Y n 1 k dx dy := by
     unfold gL; rw [← hTd]; grind
    rw [e, hld, show gL X Y n 1 k dx dy = -m by omega]
    grind
   obtain ⟨i, hi, hik⟩ : ∃ i, i < n ∧ (i + 1) % n = k := by
    by_cases hk0 : k = 0
    · exact ⟨n - 1, by omega, by rw [show n - 1 + 1 = n by omega, Nat.mod_self, hk0]⟩
    · exact ⟨k - 1, by omega, by rw [show k - 1 + 1 = k by omega]; exact Nat.mod_eq_of_lt hk⟩
   have hj : (k + 1) % n < n := Nat.mod_lt _ (by omega)
   have ti := turns i hi
   have tk := turns k hk
   rw [hik] at ti
   have hi2 := hall i hi
   have hj2 := hall _ hj
   unfold gL at hzero hi2 hj2
   have eXi : X k = X i + gA X n i := by unfold gA; rw [hik]; omega
   have eYi : Y k = Y i + gB Y n i := by unfold gB; rw [hik]; omega
   have eXj : X ((k + 1) % n) = X k + gA X n k := by unfold gA; omega
   have eYj : Y ((k + 1) % n) = Y k + gB Y n k := by unfold gB; omega
   rw [eXj, eYj] at hj2
   have hfk := hf k hk
   generalize gA X n i = ai at *
   generalize gB Y n i = bi at *
   generalize gA X n ((k + 1) % n) = aj at *
   generalize gB Y n ((k + 1) % n) = bj at *
   generalize gA X n k = a at *
   generalize gB Y n k = b at *
   obtain ⟨qx, hqx⟩ : ∃ q, m * px + l * dx - T * X k = q := ⟨_, rfl⟩
   obtain ⟨qy, hqy⟩ : ∃ q, m * py + l * dy - T * Y k = q := ⟨_, rfl⟩
   have hcross : a * qy = b * qx := by rw [← hqx, ← hqy]; omega
   have hnn : 0 < a * a + b * b := by
    by_cases h0 : a = 0 ∧ b = 0
    · rw [h0.1, h0.2] at ti; simp at ti
    · have := sq_nn a
      have := sq_nn b
      by_cases ha : a = 0
      · have hb : b ≠ 0 := fun hb => h0 ⟨ha, hb⟩
        have : b * b ≠ 0 := fun hx => by rcases Int.mul_eq_zero.1 hx with h | h <;> exact hb h
        omega
      · have : a * a ≠ 0 := fun hx => by rcases Int.mul_eq_zero.1 hx with h | h <;> exact ha h
        omega
   have p1 : (a * a + b * b) * qx = (a * qx + b * qy) * a := by grind
   have p2 : (a * a + b * b) * qy = (a * qx + b * qy) * b := by grind
   have w0 : 0 ≤ a * qx + b * qy := by
    have e1 : ai * (m * py + l * dy - T * Y i) - bi * (m * px + l * dx - T * X i) = ai * qy - bi * qx := by
     rw [← hqx, ← hqy, eXi, eYi]; grind
    rw [e1] at hi2
    have e2 : (a * a + b * b) * (ai * qy - bi * qx) = (ai * b - bi * a) * (a * qx + b * qy) := by grind
    have e3 := Int.mul_nonneg (show 0 ≤ a * a + b * b by omega) hi2
    rw [e2] at e3
    by_cases hc : 0 ≤ a * qx + b * qy
    · exact hc
    · have := Int.mul_neg_of_pos_of_neg ti (show a * qx + b * qy < 0 by omega)
      omega
   have w1 : a * qx + b * qy ≤ T * (a * a + b * b) := by
    have e1 : aj * (m * py + l * dy - T * (Y k + b)) - bj * (m * px + l * dx - T * (X k + a)) = aj * (qy - T * b) - bj * (qx - T * a) := by
     rw [← hqx, ← hqy]; grind
    rw [e1] at hj2
    have e2 : (a * a + b * b) * (aj * (qy - T * b) - bj * (qx - T * a)) = (a * bj - b * aj) * (T * (a * a + b * b) - (a * qx + b * qy)) := by grind
    have e3 := Int.mul_nonneg (show 0 ≤ a * a + b * b by omega) hj2
    rw [e2] at e3
    by_cases hc : a * qx + b * qy ≤ T * (a * a + b * b)
    · exact hc
    · have := Int.mul_neg_of_pos_of_neg tk (show T * (a * a + b * b) - (a * qx + b * qy) < 0 by omega)
      omega
   have far := side_far hnn hT hcross w0 w1 hfk
   have f1 : T * (dx - X k) - qx = -(m * (px - S * dx)) := by rw [← hqx, ← hTd]; grind
   have f2 : T * (dy - Y k) - qy = -(m * (py - S * dy)) := by rw [← hqy, ← hTd]; grind
   rw [f1, f2, Int.neg_mul_neg, Int.neg_mul_neg] at far
   have f3 : m * (px - S * dx) * (m * (px - S * dx)) + m * (py - S * dy) * (m * (py - S * dy)) = m * m * ((px - S * dx) * (px - S * dx) + (py - S * dy) * (py - S * dy)) := by grind
   rw [f3] at far
   have f4 : S * m * (S * m) ≤ T * T := Int.mul_le_mul (by omega) (by omega) (by omega) (by omega)
   have f5 : S * m * (S * m) * (r * r) ≤ T * T * (r * r) := Int.mul_le_mul_of_nonneg_right f4 (sq_nn r)
   have f6 : S * m * (S * m) * (r * r) = m * m * (S * S * (r * r)) := by grind
   exact Int.le_of_mul_le_mul_left (by omega) (Int.mul_pos hm hm)
end
end Go.Eng


set_option maxRecDepth 100000
namespace Go.Proofs.YtffnpkbopjjdaaaGreatDoor
open Go Go.Eng
theorem sandE_round {s : tSand.den} (h : sandE s = 0) : roundS s.2.1.2 = true := by
 unfold sandE at h
 cases c1 : (ile 3 (s.2.1.2.length : Int) && ile (s.2.1.2.length : Int) 8) with
 | false => rw [c1, cond_false] at h; exact absurd h (by decide)
 | true =>
  rw [c1, cond_true] at h
  cases c3 : s.2.1.2.all inP with
  | false => rw [c3, cond_false] at h; exact absurd h (by decide)
  | true =>
   rw [c3, cond_true] at h
   unfold sandT at h
   cases c4 : inB4 s.2.2.1.1.1 s.2.2.1.1.2.1 s.2.2.1.2.1.1 s.2.2.1.2.1.2.1 with
   | false => rw [c4, cond_false] at h; exact absurd h (by decide)
   | true =>
    rw [c4, cond_true] at h
    cases c5 : fit4 s.2.2.1.1.1 s.2.2.1.1.2.1 s.2.2.1.2.1.1 s.2.2.1.2.1.2.1 with
    | false => rw [c5, cond_false] at h; exact absurd h (by decide)
    | true =>
     rw [c5, cond_true] at h
     cases c6 : roundS s.2.1.2 with
     | true => rfl
     | false => rw [c6, cond_false] at h; exact absurd h (by decide)
theorem sandN_round {mem : List Nat → Bool} {s : tSand.den} (h : sandN mem s = 0) : roundS s.2.1.2 = true := by
 unfold sandN at h
 cases c1 : nameS s.1 <;> simp only [c1, cond_true, cond_false] at h
 · exact absurd h (by decide)
 cases c2 : mem s.1 <;> simp only [c2, cond_true, cond_false] at h
 · exact sandE_round h
 · exact absurd h (by decide)
theorem sandsS_round : ∀ {l : List tSand.den} {mem : List Nat → Bool} {i : Nat}, (sandsS mem i l).2.2 = 0 → l.all (fun s => roundS s.2.1.2) = true
 | [], _, _, _ => rfl
 | s :: l, mem, i, h => by
  rw [sandsS] at h
  cases c : ieq (sandN mem s) 0 with
  | false => rw [c, cond_false] at h; exact absurd h (ieq_f' c)
  | true =>
   rw [c, cond_true] at h
   rw [List.all_cons, sandsS_round h, sandN_round (ieq_t' c)]; rfl
theorem valid_round {c : tChart.den} (h : (chkS c).2.2 = 0) : c.2.1.2.all (fun s => roundS s.2.1.2) = true := by
 unfold chkS at h
 cases e : ile (c.1.2.length : Int) 8 <;> rw [e] at h
 · rw [cond_false] at h; exact absurd h (by decide)
 · rw [cond_true] at h
   obtain ⟨mem', h2⟩ := marksS_k h
   rw [h2] at h
   unfold sandsK at h
   cases e2 : ile (c.2.1.2.length : Int) 4 <;> rw [e2] at h
   · rw [cond_false] at h; exact absurd h (by decide)
   · rw [cond_true] at h
     exact sandsS_round h
theorem sd_round {c : tChart.den} (h : (chkS c).2.2 = 0) {k : Nat} (hk : k < c.2.1.2.length) : roundS (sd c k).2.1.2 = true :=
 List.all_eq_true.1 (valid_round h) (sd c k) (by unfold sd; simp [hk])
theorem round_left {C : List tP.den} (hin : inC C) (h : roundS C = true) {i n : Nat} (hi : i < C.length) (hn : n < C.length) (h1 : n ≠ i) (h2 : n ≠ (i + 1) % C.length) : 0 < sL C i (gx C n) (gy C n) := by
 unfold roundS at h
 have hr := List.all_eq_true.1 h i (List.mem_range'_1.2 (by omega))
 unfold rowR at hr
 have hc := List.all_eq_true.1 hr n (List.mem_range'_1.2 (by omega))
 have z1 : ieq (n : Int) (i : Int) = false := by rw [ieq_iff]; exact decide_eq_false (by omega)
 have z2 : ieq (n : Int) (((i + 1) % C.length : Nat) : Int) = false := by rw [ieq_iff]; exact decide_eq_false (by omega)
 unfold cellR at hc
 rw [z1, z2] at hc
 simp only [Bool.not_false, cond_true] at hc
 have hq : (i + 1) % C.length < C.length := Nat.mod_lt _ (by omega)
 have b1 := hin i hi
 have b2 := hin n hn
 have b3 := hin _ hq
 have s := side_b hin hi (dx := gx C n) (dy := gy C n) (by omega) (by omega)
 have f1 : ∀ j, (at' C j).1 = gx C j := fun j => rfl
 have f2 : ∀ j, (at' C j).2.1 = gy C j := fun j => rfl
 unfold posI posC crs at hc
 simp only [f1, f2] at hc
 have hA : gx C ((i + 1) % C.length) - gx C i = sA C i := rfl
 have hB : gy C ((i + 1) % C.length) - gy C i = sB C i := rfl
 rw [hA, hB, wr_in (n := sA C i) (by omega) (by omega), wr_in (n := sB C i) (by omega) (by omega), wr_in (n := gx C n - gx C i) (by omega) (by omega), wr_in (n := gy C n - gy C i) (by omega) (by omega),
  wr_in (n := sA C i * (gy C n - gy C i)) (by omega) (by omega), wr_in (n := sB C i * (gx C n - gx C i)) (by omega) (by omega), wr_in (by omega) (by omega), ile_iff] at hc
 simp only [Bool.not_eq_true', decide_eq_false_iff_not] at hc
 unfold sL; omega
theorem corner_left {C : List tP.den} (hin : inC C) (h : roundS C = true) {i n : Nat} (hi : i < C.length) (hn : n < C.length) : 0 ≤ sL C i (gx C n) (gy C n) := by
 by_cases h1 : n = i
 · subst h1
   have : sL C n (gx C n) (gy C n) = 0 := by unfold sL; rw [Int.sub_self, Int.sub_self, Int.mul_zero, Int.mul_zero]; rfl
   omega
 · by_cases h2 : n = (i + 1) % C.length
   · have hA : gx C n - gx C i = sA C i := by rw [h2]; rfl
     have hB : gy C n - gy C i = sB C i := by rw [h2]; rfl
     have : sL C i (gx C n) (gy C n) = 0 := by unfold sL; rw [hA, hB, Int.mul_comm]; omega
     omega
   · have := round_left hin h hi hn h1 h2
     omega
theorem round_turns {C : List tP.den} (hin : inC C) (h : roundS C = true) (h3 : 3 ≤ C.length) {k : Nat} (hk : k < C.length) : 0 < sA C k * sB C ((k + 1) % C.length) - sB C k * sA C ((k + 1) % C.length) := by
 have hj : (k + 1) % C.length < C.length := Nat.mod_lt _ (by omega)
 have hne : k ≠ (k + 1) % C.length ∧ k ≠ ((k + 1) % C.length + 1) % C.length := by
  by_cases a : k + 1 = C.length
  · rw [a, Nat.mod_self, Nat.mod_eq_of_lt (show 0 + 1 < C.length by omega)]; omega
  · rw [Nat.mod_eq_of_lt (show k + 1 < C.length by omega)]
    by_cases b : k + 2 = C.length
    · rw [show k + 1 + 1 = C.length by omega, Nat.mod_self]; omega
    · rw [Nat.mod_eq_of_lt (show k + 1 + 1 < C.length by omega)]; omega
 have := round_left hin h hj hk hne.1 hne.2
 unfold sL at this
 have hA : gx C k - gx C ((k + 1) % C.length) = -sA C k := by unfold sA; omega
 have hB : gy C k - gy C ((k + 1) % C.length) = -sB C k := by unfold sB; omega
 rw [hA, hB, Int.mul_neg, Int.mul_neg] at this
 rw [Int.mul_comm (sA C k), Int.mul_comm (sB C k)]
 omega
theorem liesF_not {C : List tP.den} {dx dy : Int} : ∀ {n k : Nat}, liesF C dx dy k n = false → ∃ j, k ≤ j ∧ j < k + n ∧ sL C j dx dy < 0
 | 0, k, h => by rw [liesF] at h; exact absurd h (by decide)
 | n + 1, k, h => by
  rw [liesF] at h
  cases e : ile 0 (sL C k dx dy) with
  | true =>
   rw [e, cond_true] at h
   obtain ⟨j, a, b, c⟩ := liesF_not h
   exact ⟨j, by omega, by omega, c⟩
  | false =>
   rw [ile_iff] at e
   have := of_decide_eq_false e
   exact ⟨k, by omega, by omega, by omega⟩
theorem sidF_not {C : List tP.den} {dx dy r : Int} : ∀ {n k : Nat}, sidF C dx dy r k n = false → ∀ j, k ≤ j → j < k + n → nearI (sA C j) (sB C j) (dx - gx C j) (dy - gy C j) r = false
 | 0, k, _, j, a, b => by omega
 | n + 1, k, h, j, a, b => by
  rw [sidF] at h
  cases e : nearI (sA C k) (sB C k) (dx - gx C k) (dy - gy C k) r with
  | true => rw [e, cond_true] at h; exact absurd h (by decide)
  | false =>
   rw [e, cond_false] at h
   by_cases hj : j = k
   · rw [hj]; exact e
   · exact sidF_not h j (by omega) (by omega)
theorem near_not {ax ay vx vy r : Int} (h : nearI ax ay vx vy r = false) : (ax * vx + ay * vy ≤ 0 ∧ r * r ≤ vx * vx + vy * vy) ∨ (ax * ax + ay * ay ≤ ax * vx + ay * vy ∧ r * r ≤ (vx - ax) * (vx - ax) + (vy - ay) * (vy - ay)) ∨ r * r * (ax * ax + ay * ay) ≤ (ax * vy - ay * vx) * (ax * vy - ay * vx) := by
 have key : ∀ {a b : Int}, (!ile a b) = false → a ≤ b := fun {a b} h => by
  rw [ile_iff, Bool.not_eq_false'] at h
  exact of_decide_eq_true h
 unfold nearI at h
 cases e1 : ile (ax * vx + ay * vy) 0 with
 | true =>
  rw [e1, cond_true] at h
  rw [ile_iff] at e1
  exact .inl ⟨of_decide_eq_true e1, key h⟩
 | false =>
  rw [e1, cond_false] at h
  cases e2 : ile (ax * ax + ay * ay) (ax * vx + ay * vy) with
  | true =>
   rw [e2, cond_true] at h
   rw [ile_iff] at e2
   exact .inr (.inl ⟨of_decide_eq_true e2, key h⟩)
  | false => rw [e2, cond_false] at h; exact .inr (.inr (key h))
theorem mix_left {a b g h x y z u0 v0 u1 v1 u2 v2 : Int} (e : x + y + z = 100) : a * (x * v0 + y * v1 + z * v2 - 100 * h) - b * (x * u0 + y * u1 + z * u2 - 100 * g) = x * (a * (v0 - h) - b * (u0 - g)) + y * (a * (v1 - h) - b * (u1 - g)) + z * (a * (v2 - h) - b * (u2 - g)) := by
 rw [← e]; grind
theorem clear_far {C : List tP.den} (hin : inC C) (hrd : roundS C = true) (h3 : 3 ≤ C.length) {dx dy r : Int} (h0 : 0 ≤ r) (hinc : incF C dx dy r = false) {x y z : Int} (hx : 0 ≤ x) (hy : 0 ≤ y) (hz : 0 ≤ z) (hs : x + y + z = 100) {i j l : Nat} (hi : i < C.length) (hj : j < C.length) (hl : l < C.length) :
  100 * 100 * (r * r) ≤ (x * gx C i + y * gx C j + z * gx C l - 100 * dx) * (x * gx C i + y * gx C j + z * gx C l - 100 * dx) + (x * gy C i + y * gy C j + z * gy C l - 100 * dy) * (x * gy C i + y * gy C j + z * gy C l - 100 * dy) := by
 unfold incF at hinc
 rw [Bool.or_eq_false_iff] at hinc
 refine poly_far (gx C) (gy C) C.length h3 (fun k hk => round_turns hin hrd h3 hk) (S := 100) (by omega) h0 (fun k hk => ?_) ?_ (fun k hk => near_not (sidF_not hinc.1 k (by omega) (by omega)))
 · have e : gL (gx C) (gy C) C.length 100 k (x * gx C i + y * gx C j + z * gx C l) (x * gy C i + y * gy C j + z * gy C l) = x * sL C k (gx C i) (gy C i) + y * sL C k (gx C j) (gy C j) + z * sL C k (gx C l) (gy C l) := mix_left hs
   rw [e]
   have a1 := Int.mul_nonneg hx (corner_left hin hrd hk hi)
   have a2 := Int.mul_nonneg hy (corner_left hin hrd hk hj)
   have a3 := Int.mul_nonneg hz (corner_left hin hrd hk hl)
   omega
 · obtain ⟨k, _, hk, hneg⟩ := liesF_not hinc.2
   refine ⟨k, by omega, ?_⟩
   have e : gL (gx C) (gy C) C.length 1 k dx dy = sL C k dx dy := by
    unfold gL sL; rw [Int.one_mul, Int.one_mul]; rfl
   rw [e]; exact hneg
end Go.Proofs.YtffnpkbopjjdaaaGreatDoor


set_option maxRecDepth 100000
namespace Go.Proofs.YtffnpkbopjjdaaaGreatDoor
open Go Go.Eng
theorem crnr_start (s : tSand.den) (l : (Ty.sl (.int .u16)).den) : adv H3 (Y3 []) 3000 (startC H3 50 [tSand.av s, .vs (.int .u16) l.1 l.2] 8) = (let z1 := (wr .i64 (101 - (turnS l.2 3).tmod 101)); (bif u16 l.2 && ile 0 0 then (bif ieq (↑s.2.1.2.length) 0 then none else (bif inB ((turnS l.2 0).tmod ↑s.2.1.2.length) s.2.1.2.length then (bif u16 l.2 && ile 0 1 then (bif ieq (↑s.2.1.2.length) 0 then none else (bif inB ((turnS l.2 1).tmod ↑s.2.1.2.length) s.2.1.2.length then (bif u16 l.2 && ile 0 2 then (bif ieq (↑s.2.1.2.length) 0 then none else (bif inB ((turnS l.2 2).tmod ↑s.2.1.2.length) s.2.1.2.length then (bif bbeq s.2.1.1 s.2.1.1 then (bif vsB tP s.2.1.2 tP s.2.1.2 then (bif bbeq s.2.1.1 s.2.1.1 then (bif vsB tP s.2.1.2 tP s.2.1.2 then (bif bbeq s.2.1.1 s.2.1.1 then (bif vsB tP s.2.1.2 tP s.2.1.2 then (bif bbeq s.2.1.1 s.2.1.1 then (bif vsB tP s.2.1.2 tP s.2.1.2 then (bif bbeq s.2.1.1 s.2.1.1 then (bif vsB tP s.2.1.2 tP s.2.1.2 then (bif bbeq s.2.1.1 s.2.1.1 then (bif vsB tP s.2.1.2 tP s.2.1.2 then (bif bbeq s.2.1.1 s.2.1.1 then (bif vsB tP s.2.1.2 tP s.2.1.2 then (bif bbeq s.2.1.1 s.2.1.1 then (bif vsB tP s.2.1.2 tP s.2.1.2 then (bif bbeq s.2.1.1 s.2.1.1 then (bif vsB tP s.2.1.2 tP s.2.1.2 then (bif bbeq s.2.1.1 s.2.1.1 then (bif vsB tP s.2.1.2 tP s.2.1.2 then (bif bbeq s.2.1.1 s.2.1.1 then (bif vsB tP s.2.1.2 tP s.2.1.2 then (bif bbeq s.2.1.1 s.2.1.1 then (bif vsB tP s.2.1.2 tP s.2.1.2 then (bif bbeq s.2.1.1 s.2.1.1 then (bif vsB tP s.2.1.2 tP s.2.1.2 then (bif bbeq s.2.1.1 s.2.1.1 then (bif vsB tP s.2.1.2 tP s.2.1.2 then (bif bbeq s.2.1.1 s.2.1.1 then (bif vsB tP s.2.1.2 tP s.2.1.2 then (bif u16 l.2 && ile 0 3 then (bif u16 l.2 && ile 0 4 then (bif ieq z1 0 then none else some (.done (.agg [(.int .i64 (wr .i64 (wr .i64 (wr .i64 ((turnS l.2 3).tmod 101 * (s.2.1.2.getD ((turnS l.2 0).tmod ↑s.2.1.2.length).toNat tP.dflt).1) + wr .i64 ((turnS l.2 4).tmod z1 * (s.2.1.2.getD ((turnS l.2 1).tmod ↑s.2.1.2.length).toNat tP.dflt).1)) + wr .i64 (wr .i64 (wr .i64 (100 - (turnS l.2 3).tmod 101) - (turnS l.2 4).tmod z1) * (s.2.1.2.getD ((turnS l.2 2).tmod ↑s.2.1.2.length).toNat tP.dflt).1)))), (.int .i64 (wr .i64 (wr .i64 (wr .i64 ((turnS l.2 3).tmod 101 * (s.2.1.2.getD ((turnS l.2 0).tmod ↑s.2.1.2.length).toNat tP.dflt).2.1) + wr .i64 ((turnS l.2 4).tmod z1 * (s.2.1.2.getD ((turnS l.2 1).tmod ↑s.2.1.2.length).toNat tP.dflt).2.1)) + wr .i64 (wr .i64 (wr .i64 (100 - (turnS l.2 3).tmod 101) - (turnS l.2 4).tmod z1) * (s.2.1.2.getD ((turnS l.2 2).tmod ↑s.2.1.2.length).toNat tP.dflt).2.1))))]))) else none) else none) else none) else none) else none) else none) else none) else none) else none) else none) else none) else none) else none) else none) else none) else none) else none) else none) else none) else none) else none) else none) else none) else none) else none) else none) else none) else none) else none) else none) else none) else none) else none)) else none) else none)) else none) else none)) else none)) := by kernel_rfl
noncomputable def ix (C : List tP.den) (l : List Int) (n : Int) : Nat := (turnS l n % (C.length : Int)).toNat
noncomputable def wX (l : List Int) : Int := turnS l 3 % 101
noncomputable def wY (l : List Int) : Int := turnS l 4 % (101 - wX l)
noncomputable def crX (C : List tP.den) (l : List Int) : Int := wX l * gx C (ix C l 0) + wY l * gx C (ix C l 1) + (100 - wX l - wY l) * gx C (ix C l 2)
noncomputable def crY (C : List tP.den) (l : List Int) : Int := wX l * gy C (ix C l 0) + wY l * gy C (ix C l 1) + (100 - wX l - wY l) * gy C (ix C l 2)
theorem wXY_b {l : List Int} (h : u16 l = true) : (0 ≤ wX l ∧ wX l ≤ 100) ∧ 0 ≤ wY l ∧ wX l + wY l ≤ 100 := by
 have b3 := turnS_b h 3
 have b4 := turnS_b h 4
 unfold wY wX
 have e1 := Int.emod_nonneg (turnS l 3) (show (101 : Int) ≠ 0 by omega)
 have e2 := Int.emod_lt_of_pos (turnS l 3) (show (0 : Int) < 101 by omega)
 have e3 := Int.emod_nonneg (turnS l 4) (show (101 - turnS l 3 % 101 : Int) ≠ 0 by omega)
 have e4 := Int.emod_lt_of_pos (turnS l 4) (show (0 : Int) < 101 - turnS l 3 % 101 by omega)
 omega
theorem ix_lt {C : List tP.den} (l : List Int) (n : Int) (hC : 0 < C.length) : ix C l n < C.length := by
 unfold ix
 have e1 := Int.emod_nonneg (turnS l n) (show (C.length : Int) ≠ 0 by omega)
 have e2 := Int.emod_lt_of_pos (turnS l n) (show (0 : Int) < C.length by omega)
 omega
theorem mul_w {w g : Int} (h1 : 0 ≤ w ∧ w ≤ 100) (h2 : -10000 ≤ g ∧ g ≤ 10000) : -1000000 ≤ w * g ∧ w * g ≤ 1000000 := by
 have := mul_b (a := w) (b := g) (m := 100) (n := 10000) (by omega) (by omega) (by omega) (by omega)
 omega
theorem crnr_call (s : tSand.den) (l : (Ty.sl (.int .u16)).den) (hg : goodS s = true) (hl : u16 l.2 = true) : AnsF H3 50 [tSand.av s, (Ty.sl (.int .u16)).av l] (.agg [.int .i64 (crX s.2.1.2 l.2), .int .i64 (crY s.2.1.2 l.2)]) := by
 refine Ans.call (n := 8) (ext_none (by kernel_rfl)) (hasB_spec (by kernel_rfl)) ?_
 have h := crnr_start s l
 have hav : startC H3 50 [tSand.av s, (Ty.sl (.int .u16)).av l] 8 = startC H3 50 [tSand.av s, .vs (.int .u16) l.1 l.2] 8 := rfl
 rw [hav]
 have h3 := goodS_len hg
 obtain ⟨_, hin⟩ := cOK_in (goodS_iff rfl rfl rfl rfl hg).1
 obtain ⟨C, hC⟩ : ∃ C, s.2.1.2 = C := ⟨_, rfl⟩
 rw [hC] at h3 hin h ⊢
 have hne : ieq (C.length : Int) 0 = false := by rw [ieq_iff]; exact decide_eq_false (by omega)
 have c0 := ix_lt (C := C) l.2 0 (by omega)
 have c1 := ix_lt (C := C) l.2 1 (by omega)
 have c2 := ix_lt (C := C) l.2 2 (by omega)
 have t : ∀ n : Int, 0 ≤ turnS l.2 n := fun n => (turnS_b hl n).1
 have tm : ∀ n : Int, (turnS l.2 n).tmod (C.length : Int) = ((ix C l.2 n : Nat) : Int) := fun n => by
  rw [Int.tmod_eq_emod_of_nonneg (t n)]
  unfold ix
  have e1 := Int.emod_nonneg (turnS l.2 n) (show (C.length : Int) ≠ 0 by omega)
  omega
 obtain ⟨⟨wb1, wb2⟩, wb3, wb4⟩ := wXY_b hl
 have tx : (turnS l.2 3).tmod 101 = wX l.2 := Int.tmod_eq_emod_of_nonneg (t 3)
 have k1 : wr .i64 (101 - wX l.2) = 101 - wX l.2 := wr_in (by omega) (by omega)
 have ty : (turnS l.2 4).tmod (101 - wX l.2) = wY l.2 := Int.tmod_eq_emod_of_nonneg (t 4)
 have k2 : ieq (101 - wX l.2) 0 = false := by rw [ieq_iff]; exact decide_eq_false (by omega)
 have k3 : wr .i64 (100 - wX l.2) = 100 - wX l.2 := wr_in (by omega) (by omega)
 have k4 : wr .i64 (100 - wX l.2 - wY l.2) = 100 - wX l.2 - wY l.2 := wr_in (by omega) (by omega)
 have q0 : ile 0 0 = true := by kernel_rfl
 have q1 : ile 0 1 = true := by kernel_rfl
 have q2 : ile 0 2 = true := by kernel_rfl
 have q3 : ile 0 3 = true := by kernel_rfl
 have q4 : ile 0 4 = true := by kernel_rfl
 have f1 : ∀ j, (C.getD j tP.dflt).1 = gx C j := fun j => rfl
 have f2 : ∀ j, (C.getD j tP.dflt).2.1 = gy C j := fun j => rfl
 simp only [hl, q0, q1, q2, q3, q4, hne, tm, inB_at c0, inB_at c1, inB_at c2, nat_to, f1, f2, tx, k1, ty, k2, k3, k4, bbeq_self, vsB_self, Bool.and_self, cond_true, cond_false] at h
 have g0 := hin _ c0
 have g1 := hin _ c1
 have g2 := hin _ c2
 have z0 := mul_w (w := wX l.2) (by omega) g0.1
 have z1 := mul_w (w := wY l.2) (by omega) g1.1
 have z2 := mul_w (w := 100 - wX l.2 - wY l.2) (by omega) g2.1
 have y0 := mul_w (w := wX l.2) (by omega) g0.2
 have y1 := mul_w (w := wY l.2) (by omega) g1.2
 have y2 := mul_w (w := 100 - wX l.2 - wY l.2) (by omega) g2.2
 rw [wr_in (n := wX l.2 * gx C (ix C l.2 0)) (by omega) (by omega), wr_in (n := wY l.2 * gx C (ix C l.2 1)) (by omega) (by omega), wr_in (n := (100 - wX l.2 - wY l.2) * gx C (ix C l.2 2)) (by omega) (by omega),
  wr_in (n := wX l.2 * gy C (ix C l.2 0)) (by omega) (by omega), wr_in (n := wY l.2 * gy C (ix C l.2 1)) (by omega) (by omega), wr_in (n := (100 - wX l.2 - wY l.2) * gy C (ix C l.2 2)) (by omega) (by omega),
  wr_in (n := wX l.2 * gx C (ix C l.2 0) + wY l.2 * gx C (ix C l.2 1)) (by omega) (by omega), wr_in (n := wX l.2 * gy C (ix C l.2 0) + wY l.2 * gy C (ix C l.2 1)) (by omega) (by omega), wr_in (by omega) (by omega), wr_in (by omega) (by omega)] at h
 exact .done (Y3_ok _) H3sy h rfl
noncomputable def LU : List Said := [(26, con3 tChart tP tI (fun _ _ _ => true) (fun c p r => tupC (cleS c p.1 p.2.1 r))), (28, con2 tChart tP (fun _ _ => true) (fun c p => .tup [.int .i64 (radS c p.1 p.2.1).1, .int .i64 (radS c p.1 p.2.1).2])),
 (50, con2 tSand (.sl (.int .u16)) (fun s l => goodS s && u16 l.2) (fun s l => .agg [.int .i64 (crX s.2.1.2 l.2), .int .i64 (crY s.2.1.2 l.2)]))]
theorem LU_ok : ∀ e ∈ LU, SaidG Tryz.prog N4.glob e :=
 saids_cons (SaidOK.g en4 xn4 nn4 tabs_ok.mix (fun _ _ h => con3_spec (t := tChart) (u := tP) (w := tI) (fun c p r _ => clea_call c p r) h) rfl)
 (saids_cons (SaidOK.g en4 xn4 nn4 tabs_ok.mix (fun _ _ h => con2_spec (t := tChart) (u := tP) (fun c p _ => radi_call c p) h) rfl)
 (saids_cons (SaidOK.g h3 xh3 nh3 tabs_ok.mix (fun _ _ h => con2_spec (t := tSand) (u := .sl (.int .u16)) (fun s l hc => by
  rw [Bool.and_eq_true] at hc
  exact crnr_call s l hc.1 hc.2) h) rfl) saids_nil))
noncomputable def M1 : Env := N4.say (under (xOf LU))
theorem m1 : EnvOK Tryz.prog M1 := en4.say _
theorem nm1 : NameOK M1 := nn4.say _
theorem xm1 : ExtOK Tryz.prog M1 := xn4.sayL LU_ok
noncomputable def M2 : Env := M1.say (under (xOf LJ))
theorem m2 : EnvOK Tryz.prog M2 := m1.say _
theorem nm2 : NameOK M2 := nm1.say _
theorem xm2 : ExtOK Tryz.prog M2 := xm1.sayL LJ_ok
noncomputable def M3 : Env := M2.say (under (xOf LK))
theorem m3 : EnvOK Tryz.prog M3 := m2.say _
theorem nm3 : NameOK M3 := nm2.say _
theorem xm3 : ExtOK Tryz.prog M3 := xm2.sayL LK_ok
theorem M3sy : M3.sy = true := rfl
noncomputable def K1 (l : List Nat) : Sy := (V4 []).on LU l
noncomputable def K2 (l : List Nat) : Sy := (K1 []).on LJ l
noncomputable def K3 (l : List Nat) : Sy := (K2 []).on LK l
theorem K1_ok (l : List Nat) : (K1 l).ok M1 := Sy.on_ok (V4_ok _)
theorem K2_ok (l : List Nat) : (K2 l).ok M2 := Sy.on_ok (K1_ok _)
theorem K3_ok (l : List Nat) : (K3 l).ok M3 := Sy.on_ok (K2_ok _)
abbrev tXs : Ty := .cons (.sl (.int .u16)) (.cons (.sl (.int .u16)) .nil)
end Go.Proofs.YtffnpkbopjjdaaaGreatDoor


set_option maxRecDepth 100000
namespace Go.Proofs.YtffnpkbopjjdaaaGreatDoor
open Go Go.Eng
theorem fmY_is {C : List tP.den} {fx fy r x : Int} : ∀ (n : Nat) (y : Int),
  ((fmY C fx fy r x y n).2.2 = true → ∃ v, fmY C fx fy r x y n = (x, v, true) ∧ (y ≤ v ∧ v < y + n) ∧ incF C (fx - x) (fy - v) r = true ∧ ∀ w, y ≤ w → w < v → incF C (fx - x) (fy - w) r = false) ∧
  ((fmY C fx fy r x y n).2.2 = false → ∀ w, y ≤ w → w < y + n → incF C (fx - x) (fy - w) r = false)
 | 0, y => ⟨fun h => absurd h (by rw [fmY]; decide), fun _ w a b => by omega⟩
 | n + 1, y => by
  obtain ⟨i1, i2⟩ := fmY_is (C := C) (fx := fx) (fy := fy) (r := r) (x := x) n (y + 1)
  rw [fmY]
  cases e : incF C (fx - x) (fy - y) r with
  | true =>
   rw [cond_true]
   exact ⟨fun _ => ⟨y, rfl, by omega, e, fun w a b => by omega⟩, fun h => Bool.noConfusion h⟩
  | false =>
   rw [cond_false]
   refine ⟨fun h => ?_, fun h w a b => ?_⟩
   · obtain ⟨v, h1, h2, h3, h4⟩ := i1 h
     refine ⟨v, h1, by omega, h3, fun w a b => ?_⟩
     by_cases hw : w = y
     · rw [hw]; exact e
     · exact h4 w (by omega) b
   · by_cases hw : w = y
     · rw [hw]; exact e
     · exact i2 h w (by omega) (by omega)
theorem fmX_is {C : List tP.den} {fx fy r y0 : Int} {ny : Nat} : ∀ (n : Nat) (x : Int),
  ((fmX C fx fy r y0 ny x n).2.2 = true → ∃ u v, fmX C fx fy r y0 ny x n = (u, v, true) ∧ (x ≤ u ∧ u < x + n) ∧ (y0 ≤ v ∧ v < y0 + ny) ∧ incF C (fx - u) (fy - v) r = true ∧
   ∀ a b, x ≤ a → (y0 ≤ b ∧ b < y0 + ny) → (a < u ∨ (a = u ∧ b < v)) → incF C (fx - a) (fy - b) r = false) ∧
  ((fmX C fx fy r y0 ny x n).2.2 = false → ∀ a b, (x ≤ a ∧ a < x + n) → (y0 ≤ b ∧ b < y0 + ny) → incF C (fx - a) (fy - b) r = false)
 | 0, x => ⟨fun h => absurd h (by rw [fmX]; decide), fun _ a b h1 h2 => by omega⟩
 | n + 1, x => by
  obtain ⟨i1, i2⟩ := fmX_is (C := C) (fx := fx) (fy := fy) (r := r) (y0 := y0) (ny := ny) n (x + 1)
  obtain ⟨j1, j2⟩ := fmY_is (C := C) (fx := fx) (fy := fy) (r := r) (x := x) ny y0
  rw [fmX]
  cases e : (fmY C fx fy r x y0 ny).2.2 with
  | true =>
   rw [cond_true]
   obtain ⟨v, h1, h2, h3, h4⟩ := j1 e
   refine ⟨fun _ => ⟨x, v, h1, by omega, h2, h3, fun a b h5 h6 h7 => ?_⟩, fun h => absurd (e.symm.trans h) (by decide)⟩
   have : a = x := by omega
   rw [this]; exact h4 b h6.1 (by omega)
  | false =>
   rw [cond_false]
   refine ⟨fun h => ?_, fun h a b h1 h2 => ?_⟩
   · obtain ⟨u, v, h1, h2, h3, h4, h5⟩ := i1 h
     refine ⟨u, v, h1, by omega, h3, h4, fun a b h6 h7 h8 => ?_⟩
     by_cases ha : a = x
     · rw [ha]; exact j2 e b h7.1 h7.2
     · exact h5 a b (by omega) h7 h8
   · by_cases ha : a = x
     · rw [ha]; exact j2 e b h2.1 h2.2
     · exact i2 h a b (by omega) h2
theorem fmP_is {s : tSand.den} {x0 x1 y0 y1 px py r : Int} (e0 : s.2.2.1.1.1 = x0) (e1 : s.2.2.1.1.2.1 = x1) (e2 : s.2.2.1.2.1.1 = y0) (e3 : s.2.2.1.2.1.2.1 = y1) (hg : goodS s = true) :
  ((fmP s px py r).2.2 = true → ∃ u v, fmP s px py r = (u, v, true) ∧ (x0 ≤ u ∧ u ≤ x1) ∧ (y0 ≤ v ∧ v ≤ y1) ∧ incF s.2.1.2 (px - u) (py - v) r = true ∧
   ∀ a b : Int, x0 ≤ a → (y0 ≤ b ∧ b ≤ y1) → (a < u ∨ (a = u ∧ b < v)) → incF s.2.1.2 (px - a) (py - b) r = false) ∧
  ((fmP s px py r).2.2 = false → ∀ a b : Int, (x0 ≤ a ∧ a ≤ x1) → (y0 ≤ b ∧ b ≤ y1) → incF s.2.1.2 (px - a) (py - b) r = false) := by
 obtain ⟨_, _, g6, g7⟩ := goodS_iff e0 e1 e2 e3 hg
 have hp : fmP s px py r = fmX s.2.1.2 px py r y0 (y1 - y0 + 1).toNat x0 (x1 - x0 + 1).toNat := by
  unfold fmP fmS
  show fmX s.2.1.2 px py r s.2.2.1.2.1.1 (s.2.2.1.2.1.2.1 - s.2.2.1.2.1.1 + 1).toNat s.2.2.1.1.1 (s.2.2.1.1.2.1 - s.2.2.1.1.1 + 1).toNat = _
  rw [e0, e1, e2, e3]
 rw [hp]
 obtain ⟨i1, i2⟩ := fmX_is (C := s.2.1.2) (fx := px) (fy := py) (r := r) (y0 := y0) (ny := (y1 - y0 + 1).toNat) (x1 - x0 + 1).toNat x0
 refine ⟨fun h => ?_, fun h a b h1 h2 => i2 h a b (by omega) (by omega)⟩
 obtain ⟨u, v, h1, h2, h3, h4, h5⟩ := i1 h
 exact ⟨u, v, h1, by omega, by omega, h4, fun a b h6 h7 h8 => h5 a b h6 (by omega) h8⟩
theorem firF_is {S : List tSand.den} {px py r : Int} : ∀ (n k : Nat),
  ((firF S px py r k n).2.2.2 = true → ∃ j : Nat, (k ≤ j ∧ j < k + n) ∧ firF S px py r k n = ((j : Int), (fmP (S.getD j tSand.dflt) px py r).1, (fmP (S.getD j tSand.dflt) px py r).2.1, true) ∧ (fmP (S.getD j tSand.dflt) px py r).2.2 = true ∧
   ∀ i : Nat, k ≤ i → i < j → (fmP (S.getD i tSand.dflt) px py r).2.2 = false) ∧
  ((firF S px py r k n).2.2.2 = false → ∀ i : Nat, k ≤ i → i < k + n → (fmP (S.getD i tSand.dflt) px py r).2.2 = false)
 | 0, k => ⟨fun h => absurd h (by rw [firF]; decide), fun _ i a b => by omega⟩
 | n + 1, k => by
  obtain ⟨i1, i2⟩ := firF_is (S := S) (px := px) (py := py) (r := r) n (k + 1)
  rw [firF]
  cases e : (fmP (S.getD k tSand.dflt) px py r).2.2 with
  | true =>
   rw [cond_true]
   exact ⟨fun _ => ⟨k, by omega, rfl, e, fun i a b => by omega⟩, fun h => Bool.noConfusion h⟩
  | false =>
   rw [cond_false]
   refine ⟨fun h => ?_, fun h i a b => ?_⟩
   · obtain ⟨j, h1, h2, h3, h4⟩ := i1 h
     refine ⟨j, by omega, h2, h3, fun i a b => ?_⟩
     by_cases hi : i = k
     · rw [hi]; exact e
     · exact h4 i (by omega) b
   · by_cases hi : i = k
     · rw [hi]; exact e
     · exact i2 h i (by omega) (by omega)
theorem clear_all {S : List tSand.den} {px py r : Int} (hr : 0 < r) (h : hitR S px py r = false) {i : Nat} (hi : i < S.length) (hg : goodS (S.getD i tSand.dflt) = true) {a b : Int}
  (h1 : (S.getD i tSand.dflt).2.2.1.1.1 ≤ a ∧ a ≤ (S.getD i tSand.dflt).2.2.1.1.2.1) (h2 : (S.getD i tSand.dflt).2.2.1.2.1.1 ≤ b ∧ b ≤ (S.getD i tSand.dflt).2.2.1.2.1.2.1) : incF (S.getD i tSand.dflt).2.1.2 (px - a) (py - b) r = false := by
 unfold hitR firS at h
 have e : ieq r 0 = false := by rw [ieq_iff]; exact decide_eq_false (by omega)
 rw [e, cond_false] at h
 exact (fmP_is rfl rfl rfl rfl hg).2 ((firF_is S.length 0).2 h i (by omega) (by omega)) a b h1 h2
end Go.Proofs.YtffnpkbopjjdaaaGreatDoor


set_option maxRecDepth 100000
namespace Go.Proofs.YtffnpkbopjjdaaaGreatDoor
open Go Go.Eng
noncomputable def cclrI0 (c : tChart.den) (x : tXs.den) (y : (Ty.sl (.int .u16)).den) (x18 : Int) (x224 : Nat) : Cfg := ⟨.ex (pcOf M3 9 [0, 0, 1, 0, 1, 1, 1, 1, 1, 1, 1, 1, 1]) ⟨(tmOf 284 [(0, (.agg [(.vs tMark (c.1.1) (c.1.2)), (.vs tSand (c.2.1.1) (c.2.1.2))])), (1, (.agg [(.vs (.int .u16) (x.1.1) (x.1.2)), (.vs (.int .u16) (x.2.1.1) (x.2.1.2))])), (2, (.vs (.int .u16) (y.1) (y.2))), (3, (.ptr 0 0)), (4, (.ptr 1 0)), (6, (.bool (false))), (9, (.ptr 2 0)), (10, (.int .i64 ((radS c (nX c y.2) (nY c y.2)).1))), (11, (.int .i64 ((radS c (nX c y.2) (nY c y.2)).2))), (12, (.int .i64 ((turnS y.2 4).tmod (wr .i64 ((radS c (nX c y.2) (nY c y.2)).1 + 1))))), (13, (.int .i64 ((cleS c (nX c y.2) (nY c y.2) (radS c (nX c y.2) (nY c y.2)).1).1))), (14, (.ptr 3 0)), (15, (.int .i64 ((cleS c (nX c y.2) (nY c y.2) (radS c (nX c y.2) (nY c y.2)).1).2.2.2))), (16, (.int .i64 ((cleS c (nX c y.2) (nY c y.2) ((turnS y.2 4).tmod (wr .i64 ((radS c (nX c y.2) (nY c y.2)).1 + 1)))).1))), (17, (.ptr 4 0)), (18, (.int .i64 ((cleS c (nX c y.2) (nY c y.2) ((turnS y.2 4).tmod (wr .i64 ((radS c (nX c y.2) (nY c y.2)).1 + 1)))).2.2.2))), (19, (.int .i64 x18)), (30, (.agg [(.vs tMark (c.1.1) (c.1.2)), (.vs tSand (c.2.1.1) (c.2.1.2))])), (31, (.bool (ieq (chkS c).2.2 0))), (32, (.bool (false))), (44, (.agg [(.vs tMark (c.1.1) (c.1.2)), (.vs tSand (c.2.1.1) (c.2.1.2))])), (45, (.vs (.int .u16) (y.1) (y.2))), (46, (.agg [(.int .i64 (nX c y.2)), (.int .i64 (nY c y.2))])), (47, (.tup [(.int .i64 ((radS c (nX c y.2) (nY c y.2)).1)), (.int .i64 ((radS c (nX c y.2) (nY c y.2)).2))])), (48, (.agg [(.vs tMark (c.1.1) (c.1.2)), (.vs tSand (c.2.1.1) (c.2.1.2))])), (49, (.agg [(.int .i64 (nX c y.2)), (.int .i64 (nY c y.2))])), (50, (.tup [(.int .i64 ((radS c (nX c y.2) (nY c y.2)).1)), (.int .i64 ((radS c (nX c y.2) (nY c y.2)).2))])), (51, (.int .i64 ((radS c (nX c y.2) (nY c y.2)).1))), (52, (.int .i64 ((radS c (nX c y.2) (nY c y.2)).2))), (53, (.int .i64 ((radS c (nX c y.2) (nY c y.2)).2))), (54, (.bool (!ieq (radS c (nX c y.2) (nY c y.2)).2 0))), (55, (.bool (false))), (56, (.int .i64 ((radS c (nX c y.2) (nY c y.2)).1))), (57, (.bool (!ile 0 (radS c (nX c y.2) (nY c y.2)).1))), (58, (.bool (!ile 0 (radS c (nX c y.2) (nY c y.2)).1))), (59, (.bool (false))), (60, (.int .i64 ((radS c (nX c y.2) (nY c y.2)).1))), (61, (.bool (!ile (radS c (nX c y.2) (nY c y.2)).1 5000))), (62, (.bool (false))), (63, (.vs (.int .u16) (y.1) (y.2))), (64, (.int .i64 (turnS y.2 4))), (65, (.int .i64 ((radS c (nX c y.2) (nY c y.2)).1))), (66, (.int .i64 (wr .i64 ((radS c (nX c y.2) (nY c y.2)).1 + 1)))), (67, (.int .i64 ((turnS y.2 4).tmod (wr .i64 ((radS c (nX c y.2) (nY c y.2)).1 + 1))))), (68, (.tup [(.int .i64 ((cleS c (nX c y.2) (nY c y.2) (radS c (nX c y.2) (nY c y.2)).1).1)), (.agg [(.int .i64 ((cleS c (nX c y.2) (nY c y.2) (radS c (nX c y.2) (nY c y.2)).1).2.1)), (.int .i64 ((cleS c (nX c y.2) (nY c y.2) (radS c (nX c y.2) (nY c y.2)).1).2.2.1))]), (.int .i64 ((cleS c (nX c y.2) (nY c y.2) (radS c (nX c y.2) (nY c y.2)).1).2.2.2))])), (69, (.agg [(.vs tMark (c.1.1) (c.1.2)), (.vs tSand (c.2.1.1) (c.2.1.2))])), (70, (.agg [(.int .i64 (nX c y.2)), (.int .i64 (nY c y.2))])), (71, (.int .i64 ((radS c (nX c y.2) (nY c y.2)).1))), (72, (.tup [(.int .i64 ((cleS c (nX c y.2) (nY c y.2) (radS c (nX c y.2) (nY c y.2)).1).1)), (.agg [(.int .i64 ((cleS c (nX c y.2) (nY c y.2) (radS c (nX c y.2) (nY c y.2)).1).2.1)), (.int .i64 ((cleS c (nX c y.2) (nY c y.2) (radS c (nX c y.2) (nY c y.2)).1).2.2.1))]), (.int .i64 ((cleS c (nX c y.2) (nY c y.2) (radS c (nX c y.2) (nY c y.2)).1).2.2.2))])), (73, (.int .i64 ((cleS c (nX c y.2) (nY c y.2) (radS c (nX c y.2) (nY c y.2)).1).1))), (74, (.agg [(.int .i64 ((cleS c (nX c y.2) (nY c y.2) (radS c (nX c y.2) (nY c y.2)).1).2.1)), (.int .i64 ((cleS c (nX c y.2) (nY c y.2) (radS c (nX c y.2) (nY c y.2)).1).2.2.1))])), (75, (.int .i64 ((cleS c (nX c y.2) (nY c y.2) (radS c (nX c y.2) (nY c y.2)).1).2.2.2))), (76, (.tup [(.int .i64 ((cleS c (nX c y.2) (nY c y.2) ((turnS y.2 4).tmod (wr .i64 ((radS c (nX c y.2) (nY c y.2)).1 + 1)))).1)), (.agg [(.int .i64 ((cleS c (nX c y.2) (nY c y.2) ((turnS y.2 4).tmod (wr .i64 ((radS c (nX c y.2) (nY c y.2)).1 + 1)))).2.1)), (.int .i64 ((cleS c (nX c y.2) (nY c y.2) ((turnS y.2 4).tmod (wr .i64 ((radS c (nX c y.2) (nY c y.2)).1 + 1)))).2.2.1))]), (.int .i64 ((cleS c (nX c y.2) (nY c y.2) ((turnS y.2 4).tmod (wr .i64 ((radS c (nX c y.2) (nY c y.2)).1 + 1)))).2.2.2))])), (77, (.agg [(.vs tMark (c.1.1) (c.1.2)), (.vs tSand (c.2.1.1) (c.2.1.2))])), (78, (.agg [(.int .i64 (nX c y.2)), (.int .i64 (nY c y.2))])), (79, (.int .i64 ((turnS y.2 4).tmod (wr .i64 ((radS c (nX c y.2) (nY c y.2)).1 + 1))))), (80, (.tup [(.int .i64 ((cleS c (nX c y.2) (nY c y.2) ((turnS y.2 4).tmod (wr .i64 ((radS c (nX c y.2) (nY c y.2)).1 + 1)))).1)), (.agg [(.int .i64 ((cleS c (nX c y.2) (nY c y.2) ((turnS y.2 4).tmod (wr .i64 ((radS c (nX c y.2) (nY c y.2)).1 + 1)))).2.1)), (.int .i64 ((cleS c (nX c y.2) (nY c y.2) ((turnS y.2 4).tmod (wr .i64 ((radS c (nX c y.2) (nY c y.2)).1 + 1)))).2.2.1))]), (.int .i64 ((cleS c (nX c y.2) (nY c y.2) ((turnS y.2 4).tmod (wr .i64 ((radS c (nX c y.2) (nY c y.2)).1 + 1)))).2.2.2))])), (81, (.int .i64 ((cleS c (nX c y.2) (nY c y.2) ((turnS y.2 4).tmod (wr .i64 ((radS c (nX c y.2) (nY c y.2)).1 + 1)))).1))), (82, (.agg [(.int .i64 ((cleS c (nX c y.2) (nY c y.2) ((turnS y.2 4).tmod (wr .i64 ((radS c (nX c y.2) (nY c y.2)).1 + 1)))).2.1)), (.int .i64 ((cleS c (nX c y.2) (nY c y.2) ((turnS y.2 4).tmod (wr .i64 ((radS c (nX c y.2) (nY c y.2)).1 + 1)))).2.2.1))])), (83, (.int .i64 ((cleS c (nX c y.2) (nY c y.2) ((turnS y.2 4).tmod (wr .i64 ((radS c (nX c y.2) (nY c y.2)).1 + 1)))).2.2.2))), (84, (.int .i64 ((cleS c (nX c y.2) (nY c y.2) (radS c (nX c y.2) (nY c y.2)).1).2.2.2))), (85, (.bool (!ieq (cleS c (nX c y.2) (nY c y.2) (radS c (nX c y.2) (nY c y.2)).1).2.2.2 4))), (86, (.bool (false))), (87, (.int .i64 ((cleS c (nX c y.2) (nY c y.2) ((turnS y.2 4).tmod (wr .i64 ((radS c (nX c y.2) (nY c y.2)).1 + 1)))).2.2.2))), (88, (.bool (!ieq (cleS c (nX c y.2) (nY c y.2) ((turnS y.2 4).tmod (wr .i64 ((radS c (nX c y.2) (nY c y.2)).1 + 1)))).2.2.2 4))), (89, (.bool (false)))]), (hpOf 5 [(0, (.cells false [(.vs tMark (c.1.1) (c.1.2)), (.vs tSand (c.2.1.1) (c.2.1.2))])), (1, (.cells false [(.vs (.int .u16) (x.1.1) (x.1.2)), (.vs (.int .u16) (x.2.1.1) (x.2.1.2))])), (2, (.cells false [(.int .i64 (nX c y.2)), (.int .i64 (nY c y.2))])), (3, (.cells false [(.int .i64 ((cleS c (nX c y.2) (nY c y.2) (radS c (nX c y.2) (nY c y.2)).1).2.1)), (.int .i64 ((cleS c (nX c y.2) (nY c y.2) (radS c (nX c y.2) (nY c y.2)).1).2.2.1))])), (4, (.cells false [(.int .i64 ((cleS c (nX c y.2) (nY c y.2) ((turnS y.2 4).tmod (wr .i64 ((radS c (nX c y.2) (nY c y.2)).1 + 1)))).2.1)), (.int .i64 ((cleS c (nX c y.2) (nY c y.2) ((turnS y.2 4).tmod (wr .i64 ((radS c (nX c y.2) (nY c y.2)).1 + 1)))).2.2.1))]))]), [], [], 284, false⟩, ⟨8, []⟩, [(.lop (pcOf M3 9 [0, 0, 1, 0, 1, 1, 1, 1, 1, 1, 1, 1, 1]) 5 (tmOf 284 [(0, (.agg [(.vs tMark (c.1.1) (c.1.2)), (.vs tSand (c.2.1.1) (c.2.1.2))])), (1, (.agg [(.vs (.int .u16) (x.1.1) (x.1.2)), (.vs (.int .u16) (x.2.1.1) (x.2.1.2))])), (2, (.vs (.int .u16) (y.1) (y.2))), (3, (.ptr 0 0)), (4, (.ptr 1 0)), (6, (.bool (false))), (9, (.ptr 2 0)), (10, (.int .i64 ((radS c (nX c y.2) (nY c y.2)).1))), (11, (.int .i64 ((radS c (nX c y.2) (nY c y.2)).2))), (12, (.int .i64 ((turnS y.2 4).tmod (wr .i64 ((radS c (nX c y.2) (nY c y.2)).1 + 1))))), (13, (.int .i64 ((cleS c (nX c y.2) (nY c y.2) (radS c (nX c y.2) (nY c y.2)).1).1))), (14, (.ptr 3 0)), (15, (.int .i64 ((cleS c (nX c y.2) (nY c y.2) (radS c (nX c y.2) (nY c y.2)).1).2.2.2))), (16, (.int .i64 ((cleS c (nX c y.2) (nY c y.2) ((turnS y.2 4).tmod (wr .i64 ((radS c (nX c y.2) (nY c y.2)).1 + 1)))).1))), (17, (.ptr 4 0)), (18, (.int .i64 ((cleS c (nX c y.2) (nY c y.2) ((turnS y.2 4).tmod (wr .i64 ((radS c (nX c y.2) (nY c y.2)).1 + 1)))).2.2.2))), (19, (.int .i64 (0))), (30, (.agg [(.vs tMark (c.1.1) (c.1.2)), (.vs tSand (c.2.1.1) (c.2.1.2))])), (31, (.bool (ieq (chkS c).2.2 0))), (32, (.bool (false))), (44, (.agg [(.vs tMark (c.1.1) (c.1.2)), (.vs tSand (c.2.1.1) (c.2.1.2))])), (45, (.vs (.int .u16) (y.1) (y.2))), (46, (.agg [(.int .i64 (nX c y.2)), (.int .i64 (nY c y.2))])), (47, (.tup [(.int .i64 ((radS c (nX c y.2) (nY c y.2)).1)), (.int .i64 ((radS c (nX c y.2) (nY c y.2)).2))])), (48, (.agg [(.vs tMark (c.1.1) (c.1.2)), (.vs tSand (c.2.1.1) (c.2.1.2))])), (49, (.agg [(.int .i64 (nX c y.2)), (.int .i64 (nY c y.2))])), (50, (.tup [(.int .i64 ((radS c (nX c y.2) (nY c y.2)).1)), (.int .i64 ((radS c (nX c y.2) (nY c y.2)).2))])), (51, (.int .i64 ((radS c (nX c y.2) (nY c y.2)).1))), (52, (.int .i64 ((radS c (nX c y.2) (nY c y.2)).2))), (53, (.int .i64 ((radS c (nX c y.2) (nY c y.2)).2))), (54, (.bool (!ieq (radS c (nX c y.2) (nY c y.2)).2 0))), (55, (.bool (false))), (56, (.int .i64 ((radS c (nX c y.2) (nY c y.2)).1))), (57, (.bool (!ile 0 (radS c (nX c y.2) (nY c y.2)).1))), (58, (.bool (!ile 0 (radS c (nX c y.2) (nY c y.2)).1))), (59, (.bool (false))), (60, (.int .i64 ((radS c (nX c y.2) (nY c y.2)).1))), (61, (.bool (!ile (radS c (nX c y.2) (nY c y.2)).1 5000))), (62, (.bool (false))), (63, (.vs (.int .u16) (y.1) (y.2))), (64, (.int .i64 (turnS y.2 4))), (65, (.int .i64 ((radS c (nX c y.2) (nY c y.2)).1))), (66, (.int .i64 (wr .i64 ((radS c (nX c y.2) (nY c y.2)).1 + 1)))), (67, (.int .i64 ((turnS y.2 4).tmod (wr .i64 ((radS c (nX c y.2) (nY c y.2)).1 + 1))))), (68, (.tup [(.int .i64 ((cleS c (nX c y.2) (nY c y.2) (radS c (nX c y.2) (nY c y.2)).1).1)), (.agg [(.int .i64 ((cleS c (nX c y.2) (nY c y.2) (radS c (nX c y.2) (nY c y.2)).1).2.1)), (.int .i64 ((cleS c (nX c y.2) (nY c y.2) (radS c (nX c y.2) (nY c y.2)).1).2.2.1))]), (.int .i64 ((cleS c (nX c y.2) (nY c y.2) (radS c (nX c y.2) (nY c y.2)).1).2.2.2))])), (69, (.agg [(.vs tMark (c.1.1) (c.1.2)), (.vs tSand (c.2.1.1) (c.2.1.2))])), (70, (.agg [(.int .i64 (nX c y.2)), (.int .i64 (nY c y.2))])), (71, (.int .i64 ((radS c (nX c y.2) (nY c y.2)).1))), (72, (.tup [(.int .i64 ((cleS c (nX c y.2) (nY c y.2) (radS c (nX c y.2) (nY c y.2)).1).1)), (.agg [(.int .i64 ((cleS c (nX c y.2) (nY c y.2) (radS c (nX c y.2) (nY c y.2)).1).2.1)), (.int .i64 ((cleS c (nX c y.2) (nY c y.2) (radS c (nX c y.2) (nY c y.2)).1).2.2.1))]), (.int .i64 ((cleS c (nX c y.2) (nY c y.2) (radS c (nX c y.2) (nY c y.2)).1).2.2.2))])), (73, (.int .i64 ((cleS c (nX c y.2) (nY c y.2) (radS c (nX c y.2) (nY c y.2)).1).1))), (74, (.agg [(.int .i64 ((cleS c (nX c y.2) (nY c y.2) (radS c (nX c y.2) (nY c y.2)).1).2.1)), (.int .i64 ((cleS c (nX c y.2) (nY c y.2) (radS c (nX c y.2) (nY c y.2)).1).2.2.1))])), (75, (.int .i64 ((cleS c (nX c y.2) (nY c y.2) (radS c (nX c y.2) (nY c y.2)).1).2.2.2))), (76, (.tup [(.int .i64 ((cleS c (nX c y.2) (nY c y.2) ((turnS y.2 4).tmod (wr .i64 ((radS c (nX c y.2) (nY c y.2)).1 + 1)))).1)), (.agg [(.int .i64 ((cleS c (nX c y.2) (nY c y.2) ((turnS y.2 4).tmod (wr .i64 ((radS c (nX c y.2) (nY c y.2)).1 + 1)))).2.1)), (.int .i64 ((cleS c (nX c y.2) (nY c y.2) ((turnS y.2 4).tmod (wr .i64 ((radS c (nX c y.2) (nY c y.2)).1 + 1)))).2.2.1))]), (.int .i64 ((cleS c (nX c y.2) (nY c y.2) ((turnS y.2 4).tmod (wr .i64 ((radS c (nX c y.2) (nY c y.2)).1 + 1)))).2.2.2))])), (77, (.agg [(.vs tMark (c.1.1) (c.1.2)), (.vs tSand (c.2.1.1) (c.2.1.2))])), (78, (.agg [(.int .i64 (nX c y.2)), (.int .i64 (nY c y.2))])), (79, (.int .i64 ((turnS y.2 4).tmod (wr .i64 ((radS c (nX c y.2) (nY c y.2)).1 + 1))))), (80, (.tup [(.int .i64 ((cleS c (nX c y.2) (nY c y.2) ((turnS y.2 4).tmod (wr .i64 ((radS c (nX c y.2) (nY c y.2)).1 + 1)))).1)), (.agg [(.int .i64 ((cleS c (nX c y.2) (nY c y.2) ((turnS y.2 4).tmod (wr .i64 ((radS c (nX c y.2) (nY c y.2)).1 + 1)))).2.1)), (.int .i64 ((cleS c (nX c y.2) (nY c y.2) ((turnS y.2 4).tmod (wr .i64 ((radS c (nX c y.2) (nY c y.2)).1 + 1)))).2.2.1))]), (.int .i64 ((cleS c (nX c y.2) (nY c y.2) ((turnS y.2 4).tmod (wr .i64 ((radS c (nX c y.2) (nY c y.2)).1 + 1)))).2.2.2))])), (81, (.int .i64 ((cleS c (nX c y.2) (nY c y.2) ((turnS y.2 4).tmod (wr .i64 ((radS c (nX c y.2) (nY c y.2)).1 + 1)))).1))), (82, (.agg [(.int .i64 ((cleS c (nX c y.2) (nY c y.2) ((turnS y.2 4).tmod (wr .i64 ((radS c (nX c y.2) (nY c y.2)).1 + 1)))).2.1)), (.int .i64 ((cleS c (nX c y.2) (nY c y.2) ((turnS y.2 4).tmod (wr .i64 ((radS c (nX c y.2) (nY c y.2)).1 + 1)))).2.2.1))])), (83, (.int .i64 ((cleS c (nX c y.2) (nY c y.2) ((turnS y.2 4).tmod (wr .i64 ((radS c (nX c y.2) (nY c y.2)).1 + 1)))).2.2.2))), (84, (.int .i64 ((cleS c (nX c y.2) (nY c y.2) (radS c (nX c y.2) (nY c y.2)).1).2.2.2))), (85, (.bool (!ieq (cleS c (nX c y.2) (nY c y.2) (radS c (nX c y.2) (nY c y.2)).1).2.2.2 4))), (86, (.bool (false))), (87, (.int .i64 ((cleS c (nX c y.2) (nY c y.2) ((turnS y.2 4).tmod (wr .i64 ((radS c (nX c y.2) (nY c y.2)).1 + 1)))).2.2.2))), (88, (.bool (!ieq (cleS c (nX c y.2) (nY c y.2) ((turnS y.2 4).tmod (wr .i64 ((radS c (nX c y.2) (nY c y.2)).1 + 1)))).2.2.2 4))), (89, (.bool (false)))]) x224), (.blk 0), (.seq (pcOf M3 9 [1, 1, 1, 1, 1, 1, 1, 1, 1, 1])), (.cal [(.tmp 6)] .top)]⟩
noncomputable def cclrI1 (c : tChart.den) (x : tXs.den) (y : (Ty.sl (.int .u16)).den) (x18 : Int) (x21 : Int) (x448 : Nat) : Cfg := let z2 := cleS c (nX c y.2) (nY c y.2) (wr .i64 ((radS c (nX c y.2) (nY c y.2)).1 + 1)); let z3 := c.2.1.2.getD z2.1.toNat tSand.dflt; ⟨.ex (pcOf M3 9 [0, 0, 1, 0, 1, 1, 1, 1, 1, 1, 1, 1, 1, 1, 1, 1, 1, 1, 1]) ⟨(tmOf 284 [(0, (.agg [(.vs tMark (c.1.1) (c.1.2)), (.vs tSand (c.2.1.1) (c.2.1.2))])), (1, (.agg [(.vs (.int .u16) (x.1.1) (x.1.2)), (.vs (.int .u16) (x.2.1.1) (x.2.1.2))])), (2, (.vs (.int .u16) (y.1) (y.2))), (3, (.ptr 0 0)), (4, (.ptr 1 0)), (6, (.bool (false))), (9, (.ptr 2 0)), (10, (.int .i64 ((radS c (nX c y.2) (nY c y.2)).1))), (11, (.int .i64 ((radS c (nX c y.2) (nY c y.2)).2))), (12, (.int .i64 ((turnS y.2 4).tmod (wr .i64 ((radS c (nX c y.2) (nY c y.2)).1 + 1))))), (13, (.int .i64 ((cleS c (nX c y.2) (nY c y.2) (radS c (nX c y.2) (nY c y.2)).1).1))), (14, (.ptr 3 0)), (15, (.int .i64 ((cleS c (nX c y.2) (nY c y.2) (radS c (nX c y.2) (nY c y.2)).1).2.2.2))), (16, (.int .i64 ((cleS c (nX c y.2) (nY c y.2) ((turnS y.2 4).tmod (wr .i64 ((radS c (nX c y.2) (nY c y.2)).1 + 1)))).1))), (17, (.ptr 4 0)), (18, (.int .i64 ((cleS c (nX c y.2) (nY c y.2) ((turnS y.2 4).tmod (wr .i64 ((radS c (nX c y.2) (nY c y.2)).1 + 1)))).2.2.2))), (19, (.int .i64 x18)), (24, (.int .i64 (z2.1))), (25, (.ptr 5 0)), (26, (.int .i64 (z2.2.2.2))), (27, (.ptr 6 0)), (28, (.int .i64 x21)), (30, (.agg [(.vs tMark (c.1.1) (c.1.2)), (.vs tSand (c.2.1.1) (c.2.1.2))])), (31, (.bool (ieq (chkS c).2.2 0))), (32, (.bool (false))), (44, (.agg [(.vs tMark (c.1.1) (c.1.2)), (.vs tSand (c.2.1.1) (c.2.1.2))])), (45, (.vs (.int .u16) (y.1) (y.2))), (46, (.agg [(.int .i64 (nX c y.2)), (.int .i64 (nY c y.2))])), (47, (.tup [(.int .i64 ((radS c (nX c y.2) (nY c y.2)).1)), (.int .i64 ((radS c (nX c y.2) (nY c y.2)).2))])), (48, (.agg [(.vs tMark (c.1.1) (c.1.2)), (.vs tSand (c.2.1.1) (c.2.1.2))])), (49, (.agg [(.int .i64 (nX c y.2)), (.int .i64 (nY c y.2))])), (50, (.tup [(.int .i64 ((radS c (nX c y.2) (nY c y.2)).1)), (.int .i64 ((radS c (nX c y.2) (nY c y.2)).2))])), (51, (.int .i64 ((radS c (nX c y.2) (nY c y.2)).1))), (52, (.int .i64 ((radS c (nX c y.2) (nY c y.2)).2))), (53, (.int .i64 ((radS c (nX c y.2) (nY c y.2)).2))), (54, (.bool (!ieq (radS c (nX c y.2) (nY c y.2)).2 0))), (55, (.bool (false))), (56, (.int .i64 ((radS c (nX c y.2) (nY c y.2)).1))), (57, (.bool (!ile 0 (radS c (nX c y.2) (nY c y.2)).1))), (58, (.bool (!ile 0 (radS c (nX c y.2) (nY c y.2)).1))), (59, (.bool (false))), (60, (.int .i64 ((radS c (nX c y.2) (nY c y.2)).1))), (61, (.bool (!ile (radS c (nX c y.2) (nY c y.2)).1 5000))), (62, (.bool (false))), (63, (.vs (.int .u16) (y.1) (y.2))), (64, (.int .i64 (turnS y.2 4))), (65, (.int .i64 ((radS c (nX c y.2) (nY c y.2)).1))), (66, (.int .i64 (wr .i64 ((radS c (nX c y.2) (nY c y.2)).1 + 1)))), (67, (.int .i64 ((turnS y.2 4).tmod (wr .i64 ((radS c (nX c y.2) (nY c y.2)).1 + 1))))), (68, (.tup [(.int .i64 ((cleS c (nX c y.2) (nY c y.2) (radS c (nX c y.2) (nY c y.2)).1).1)), (.agg [(.int .i64 ((cleS c (nX c y.2) (nY c y.2) (radS c (nX c y.2) (nY c y.2)).1).2.1)), (.int .i64 ((cleS c (nX c y.2) (nY c y.2) (radS c (nX c y.2) (nY c y.2)).1).2.2.1))]), (.int .i64 ((cleS c (nX c y.2) (nY c y.2) (radS c (nX c y.2) (nY c y.2)).1).2.2.2))])), (69, (.agg [(.vs tMark (c.1.1) (c.1.2)), (.vs tSand (c.2.1.1) (c.2.1.2))])), (70, (.agg [(.int .i64 (nX c y.2)), (.int .i64 (nY c y.2))])), (71, (.int .i64 ((radS c (nX c y.2) (nY c y.2)).1))), (72, (.tup [(.int .i64 ((cleS c (nX c y.2) (nY c y.2) (radS c (nX c y.2) (nY c y.2)).1).1)), (.agg [(.int .i64 ((cleS c (nX c y.2) (nY c y.2) (radS c (nX c y.2) (nY c y.2)).1).2.1)), (.int .i64 ((cleS c (nX c y.2) (nY c y.2) (radS c (nX c y.2) (nY c y.2)).1).2.2.1))]), (.int .i64 ((cleS c (nX c y.2) (nY c y.2) (radS c (nX c y.2) (nY c y.2)).1).2.2.2))])), (73, (.int .i64 ((cleS c (nX c y.2) (nY c y.2) (radS c (nX c y.2) (nY c y.2)).1).1))), (74, (.agg [(.int .i64 ((cleS c (nX c y.2) (nY c y.2) (radS c (nX c y.2) (nY c y.2)).1).2.1)), (.int .i64 ((cleS c (nX c y.2) (nY c y.2) (radS c (nX c y.2) (nY c y.2)).1).2.2.1))])), (75, (.int .i64 ((cleS c (nX c y.2) (nY c y.2) (radS c (nX c y.2) (nY c y.2)).1).2.2.2))), (76, (.tup [(.int .i64 ((cleS c (nX c y.2) (nY c y.2) ((turnS y.2 4).tmod (wr .i64 ((radS c (nX c y.2) (nY c y.2)).1 + 1)))).1)), (.agg [(.int .i64 ((cleS c (nX c y.2) (nY c y.2) ((turnS y.2 4).tmod (wr .i64 ((radS c (nX c y.2) (nY c y.2)).1 + 1)))).2.1)), (.int .i64 ((cleS c (nX c y.2) (nY c y.2) ((turnS y.2 4).tmod (wr .i64 ((radS c (nX c y.2) (nY c y.2)).1 + 1)))).2.2.1))]), (.int .i64 ((cleS c (nX c y.2) (nY c y.2) ((turnS y.2 4).tmod (wr .i64 ((radS c (nX c y.2) (nY c y.2)).1 + 1)))).2.2.2))])), (77, (.agg [(.vs tMark (c.1.1) (c.1.2)), (.vs tSand (c.2.1.1) (c.2.1.2))])), (78, (.agg [(.int .i64 (nX c y.2)), (.int .i64 (nY c y.2))])), (79, (.int .i64 ((turnS y.2 4).tmod (wr .i64 ((radS c (nX c y.2) (nY c y.2)).1 + 1))))), (80, (.tup [(.int .i64 ((cleS c (nX c y.2) (nY c y.2) ((turnS y.2 4).tmod (wr .i64 ((radS c (nX c y.2) (nY c y.2)).1 + 1)))).1)), (.agg [(.int .i64 ((cleS c (nX c y.2) (nY c y.2) ((turnS y.2 4).tmod (wr .i64 ((radS c (nX c y.2) (nY c y.2)).1 + 1)))).2.1)), (.int .i64 ((cleS c (nX c y.2) (nY c y.2) ((turnS y.2 4).tmod (wr .i64 ((radS c (nX c y.2) (nY c y.2)).1 + 1)))).2.2.1))]), (.int .i64 ((cleS c (nX c y.2) (nY c y.2) ((turnS y.2 4).tmod (wr .i64 ((radS c (nX c y.2) (nY c y.2)).1 + 1)))).2.2.2))])), (81, (.int .i64 ((cleS c (nX c y.2) (nY c y.2) ((turnS y.2 4).tmod (wr .i64 ((radS c (nX c y.2) (nY c y.2)).1 + 1)))).1))), (82, (.agg [(.int .i64 ((cleS c (nX c y.2) (nY c y.2) ((turnS y.2 4).tmod (wr .i64 ((radS c (nX c y.2) (nY c y.2)).1 + 1)))).2.1)), (.int .i64 ((cleS c (nX c y.2) (nY c y.2) ((turnS y.2 4).tmod (wr .i64 ((radS c (nX c y.2) (nY c y.2)).1 + 1)))).2.2.1))])), (83, (.int .i64 ((cleS c (nX c y.2) (nY c y.2) ((turnS y.2 4).tmod (wr .i64 ((radS c (nX c y.2) (nY c y.2)).1 + 1)))).2.2.2))), (84, (.int .i64 ((cleS c (nX c y.2) (nY c y.2) (radS c (nX c y.2) (nY c y.2)).1).2.2.2))), (85, (.bool (!ieq (cleS c (nX c y.2) (nY c y.2) (radS c (nX c y.2) (nY c y.2)).1).2.2.2 4))), (86, (.bool (false))), (87, (.int .i64 ((cleS c (nX c y.2) (nY c y.2) ((turnS y.2 4).tmod (wr .i64 ((radS c (nX c y.2) (nY c y.2)).1 + 1)))).2.2.2))), (88, (.bool (!ieq (cleS c (nX c y.2) (nY c y.2) ((turnS y.2 4).tmod (wr .i64 ((radS c (nX c y.2) (nY c y.2)).1 + 1)))).2.2.2 4))), (89, (.bool (false))), (90, (.int .i64 x18)), (91, (.ptr 0 1)), (92, (.vs tSand (c.2.1.1) (c.2.1.2))), (93, (.int .i64 (Int.ofNat c.2.1.2.length))), (94, (.bool (false))), (144, (.int .i64 ((radS c (nX c y.2) (nY c y.2)).1))), (145, (.bool (false))), (147, (.tup [(.int .i64 (z2.1)), (.agg [(.int .i64 (z2.2.1)), (.int .i64 (z2.2.2.1))]), (.int .i64 (z2.2.2.2))])), (148, (.agg [(.vs tMark (c.1.1) (c.1.2)), (.vs tSand (c.2.1.1) (c.2.1.2))])), (149, (.agg [(.int .i64 (nX c y.2)), (.int .i64 (nY c y.2))])), (150, (.int .i64 ((radS c (nX c y.2) (nY c y.2)).1))), (151, (.int .i64 (wr .i64 ((radS c (nX c y.2) (nY c y.2)).1 + 1)))), (152, (.tup [(.int .i64 (z2.1)), (.agg [(.int .i64 (z2.2.1)), (.int .i64 (z2.2.2.1))]), (.int .i64 (z2.2.2.2))])), (153, (.int .i64 (z2.1))), (154, (.agg [(.int .i64 (z2.2.1)), (.int .i64 (z2.2.2.1))])), (155, (.int .i64 (z2.2.2.2))), (156, (.int .i64 (z2.2.2.2))), (157, (.bool (!ieq z2.2.2.2 0))), (158, (.bool (false))), (159, (.int .i64 (z2.1))), (160, (.bool (!ile 0 z2.1))), (161, (.bool (!ile 0 z2.1))), (162, (.bool (false))), (163, (.int .i64 (z2.1))), (164, (.ptr 0 1)), (165, (.vs tSand (c.2.1.1) (c.2.1.2))), (166, (.int .i64 (Int.ofNat c.2.1.2.length))), (167, (.bool (ile (↑c.2.1.2.length) z2.1))), (168, (.bool (false))), (169, (.ptr 0 1)), (170, (.vs tSand (c.2.1.1) (c.2.1.2))), (171, (.int .i64 (z2.1))), (172, (.cp [(.str (z3.1)), (.vs tP (z3.2.1.1) (z3.2.1.2)), (.int .i64 (z3.2.2.1.1.1)), (.int .i64 (z3.2.2.1.1.2.1)), (.int .i64 (z3.2.2.1.2.1.1)), (.int .i64 (z3.2.2.1.2.1.2.1))] 0)), (173, (.cp [(.str (z3.1)), (.vs tP (z3.2.1.1) (z3.2.1.2)), (.int .i64 (z3.2.2.1.1.1)), (.int .i64 (z3.2.2.1.1.2.1)), (.int .i64 (z3.2.2.1.2.1.1)), (.int .i64 (z3.2.2.1.2.1.2.1))] 2)), (174, (.agg [(.int .i64 (z3.2.2.1.1.1)), (.int .i64 (z3.2.2.1.1.2.1)), (.int .i64 (z3.2.2.1.2.1.1)), (.int .i64 (z3.2.2.1.2.1.2.1))])), (175, (.ptr 5 0)), (176, (.int .i64 (z2.2.1))), (177, (.ptr 6 0)), (178, (.ptr 6 0)), (179, (.int .i64 (z3.2.2.1.1.1))), (180, (.bool (!ile z3.2.2.1.1.1 z2.2.1))), (181, (.bool (false))), (182, (.ptr 5 0)), (183, (.int .i64 (z2.2.1))), (184, (.ptr 6 0)), (185, (.ptr 6 1)), (186, (.int .i64 (z3.2.2.1.1.2.1))), (187, (.bool (!ile z2.2.1 z3.2.2.1.1.2.1))), (188, (.bool (!ile z2.2.1 z3.2.2.1.1.2.1))), (189, (.bool (false))), (190, (.ptr 5 1)), (191, (.int .i64 (z2.2.2.1))), (192, (.ptr 6 2)), (193, (.ptr 6 2)), (194, (.int .i64 (z3.2.2.1.2.1.1))), (195, (.bool (!ile z3.2.2.1.2.1.1 z2.2.2.1))), (196, (.bool (!ile z3.2.2.1.2.1.1 z2.2.2.1))), (197, (.bool (false))), (198, (.ptr 5 1)), (199, (.int .i64 (z2.2.2.1))), (200, (.ptr 6 2)), (201, (.ptr 6 3)), (202, (.int .i64 (z3.2.2.1.2.1.2.1))), (203, (.bool (!ile z2.2.2.1 z3.2.2.1.2.1.2.1))), (204, (.bool (!ile z2.2.2.1 z3.2.2.1.2.1.2.1))), (205, (.bool (false))), (206, (.ptr 0 1)), (207, (.vs tSand (c.2.1.1) (c.2.1.2))), (208, (.int .i64 (z2.1))), (209, (.cp [(.str (z3.1)), (.vs tP (z3.2.1.1) (z3.2.1.2)), (.int .i64 (z3.2.2.1.1.1)), (.int .i64 (z3.2.2.1.1.2.1)), (.int .i64 (z3.2.2.1.2.1.1)), (.int .i64 (z3.2.2.1.2.1.2.1))] 0)), (210, (.agg [(.str (z3.1)), (.vs tP (z3.2.1.1) (z3.2.1.2)), (.int .i64 (z3.2.2.1.1.1)), (.int .i64 (z3.2.2.1.1.2.1)), (.int .i64 (z3.2.2.1.2.1.1)), (.int .i64 (z3.2.2.1.2.1.2.1))])), (211, (.agg [(.int .i64 (z2.2.1)), (.int .i64 (z2.2.2.1))])), (212, (.agg [(.int .i64 (nX c y.2)), (.int .i64 (nY c y.2))])), (213, (.int .i64 ((radS c (nX c y.2) (nY c y.2)).1))), (214, (.int .i64 (wr .i64 ((radS c (nX c y.2) (nY c y.2)).1 + 1)))), (215, (.bool (insF z3.2.1.2 (nX c y.2 - z2.2.1) (nY c y.2 - z2.2.2.1) (wr .i64 ((radS c (nX c y.2) (nY c y.2)).1 + 1))))), (216, (.bool (!insF z3.2.1.2 (nX c y.2 - z2.2.1) (nY c y.2 - z2.2.2.1) (wr .i64 ((radS c (nX c y.2) (nY c y.2)).1 + 1))))), (217, (.bool (false)))]), (hpOf 7 [(0, (.cells false [(.vs tMark (c.1.1) (c.1.2)), (.vs tSand (c.2.1.1) (c.2.1.2))])), (1, (.cells false [(.vs (.int .u16) (x.1.1) (x.1.2)), (.vs (.int .u16) (x.2.1.1) (x.2.1.2))])), (2, (.cells false [(.int .i64 (nX c y.2)), (.int .i64 (nY c y.2))])), (3, (.cells false [(.int .i64 ((cleS c (nX c y.2) (nY c y.2) (radS c (nX c y.2) (nY c y.2)).1).2.1)), (.int .i64 ((cleS c (nX c y.2) (nY c y.2) (radS c (nX c y.2) (nY c y.2)).1).2.2.1))])), (4, (.cells false [(.int .i64 ((cleS c (nX c y.2) (nY c y.2) ((turnS y.2 4).tmod (wr .i64 ((radS c (nX c y.2) (nY c y.2)).1 + 1)))).2.1)), (.int .i64 ((cleS c (nX c y.2) (nY c y.2) ((turnS y.2 4).tmod (wr .i64 ((radS c (nX c y.2) (nY c y.2)).1 + 1)))).2.2.1))])), (5, (.cells false [(.int .i64 (z2.2.1)), (.int .i64 (z2.2.2.1))])), (6, (.cells false [(.int .i64 (z3.2.2.1.1.1)), (.int .i64 (z3.2.2.1.1.2.1)), (.int .i64 (z3.2.2.1.2.1.1)), (.int .i64 (z3.2.2.1.2.1.2.1))]))]), [], [], 284, false⟩, ⟨8, []⟩, [(.lop (pcOf M3 9 [0, 0, 1, 0, 1, 1, 1, 1, 1, 1, 1, 1, 1, 1, 1, 1, 1, 1, 1]) 7 (tmOf 284 [(0, (.agg [(.vs tMark (c.1.1) (c.1.2)), (.vs tSand (c.2.1.1) (c.2.1.2))])), (1, (.agg [(.vs (.int .u16) (x.1.1) (x.1.2)), (.vs (.int .u16) (x.2.1.1) (x.2.1.2))])), (2, (.vs (.int .u16) (y.1) (y.2))), (3, (.ptr 0 0)), (4, (.ptr 1 0)), (6, (.bool (false))), (9, (.ptr 2 0)), (10, (.int .i64 ((radS c (nX c y.2) (nY c y.2)).1))), (11, (.int .i64 ((radS c (nX c y.2) (nY c y.2)).2))), (12, (.int .i64 ((turnS y.2 4).tmod (wr .i64 ((radS c (nX c y.2) (nY c y.2)).1 + 1))))), (13, (.int .i64 ((cleS c (nX c y.2) (nY c y.2) (radS c (nX c y.2) (nY c y.2)).1).1))), (14, (.ptr 3 0)), (15, (.int .i64 ((cleS c (nX c y.2) (nY c y.2) (radS c (nX c y.2) (nY c y.2)).1).2.2.2))), (16, (.int .i64 ((cleS c (nX c y.2) (nY c y.2) ((turnS y.2 4).tmod (wr .i64 ((radS c (nX c y.2) (nY c y.2)).1 + 1)))).1))), (17, (.ptr 4 0)), (18, (.int .i64 ((cleS c (nX c y.2) (nY c y.2) ((turnS y.2 4).tmod (wr .i64 ((radS c (nX c y.2) (nY c y.2)).1 + 1)))).2.2.2))), (19, (.int .i64 x18)), (24, (.int .i64 (z2.1))), (25, (.ptr 5 0)), (26, (.int .i64 (z2.2.2.2))), (27, (.ptr 6 0)), (28, (.int .i64 (0))), (30, (.agg [(.vs tMark (c.1.1) (c.1.2)), (.vs tSand (c.2.1.1) (c.2.1.2))])), (31, (.bool (ieq (chkS c).2.2 0))), (32, (.bool (false))), (44, (.agg [(.vs tMark (c.1.1) (c.1.2)), (.vs tSand (c.2.1.1) (c.2.1.2))])), (45, (.vs (.int .u16) (y.1) (y.2))), (46, (.agg [(.int .i64 (nX c y.2)), (.int .i64 (nY c y.2))])), (47, (.tup [(.int .i64 ((radS c (nX c y.2) (nY c y.2)).1)), (.int .i64 ((radS c (nX c y.2) (nY c y.2)).2))])), (48, (.agg [(.vs tMark (c.1.1) (c.1.2)), (.vs tSand (c.2.1.1) (c.2.1.2))])), (49, (.agg [(.int .i64 (nX c y.2)), (.int .i64 (nY c y.2))])), (50, (.tup [(.int .i64 ((radS c (nX c y.2) (nY c y.2)).1)), (.int .i64 ((radS c (nX c y.2) (nY c y.2)).2))])), (51, (.int .i64 ((radS c (nX c y.2) (nY c y.2)).1))), (52, (.int .i64 ((radS c (nX c y.2) (nY c y.2)).2))), (53, (.int .i64 ((radS c (nX c y.2) (nY c y.2)).2))), (54, (.bool (!ieq (radS c (nX c y.2) (nY c y.2)).2 0))), (55, (.bool (false))), (56, (.int .i64 ((radS c (nX c y.2) (nY c y.2)).1))), (57, (.bool (!ile 0 (radS c (nX c y.2) (nY c y.2)).1))), (58, (.bool (!ile 0 (radS c (nX c y.2) (nY c y.2)).1))), (59, (.bool (false))), (60, (.int .i64 ((radS c (nX c y.2) (nY c y.2)).1))), (61, (.bool (!ile (radS c (nX c y.2) (nY c y.2)).1 5000))), (62, (.bool (false))), (63, (.vs (.int .u16) (y.1) (y.2))), (64, (.int .i64 (turnS y.2 4))), (65, (.int .i64 ((radS c (nX c y.2) (nY c y.2)).1))), (66, (.int .i64 (wr .i64 ((radS c (nX c y.2) (nY c y.2)).1 + 1)))), (67, (.int .i64 ((turnS y.2 4).tmod (wr .i64 ((radS c (nX c y.2) (nY c y.2)).1 + 1))))), (68, (.tup [(.int .i64 ((cleS c (nX c y.2) (nY c y.2) (radS c (nX c y.2) (nY c y.2)).1).1)), (.agg [(.int .i64 ((cleS c (nX c y.2) (nY c y.2) (radS c (nX c y.2) (nY c y.2)).1).2.1)), (.int .i64 ((cleS c (nX c y.2) (nY c y.2) (radS c (nX c y.2) (nY c y.2)).1).2.2.1))]), (.int .i64 ((cleS c (nX c y.2) (nY c y.2) (radS c (nX c y.2) (nY c y.2)).1).2.2.2))])), (69, (.agg [(.vs tMark (c.1.1) (c.1.2)), (.vs tSand (c.2.1.1) (c.2.1.2))])), (70, (.agg [(.int .i64 (nX c y.2)), (.int .i64 (nY c y.2))])), (71, (.int .i64 ((radS c (nX c y.2) (nY c y.2)).1))), (72, (.tup [(.int .i64 ((cleS c (nX c y.2) (nY c y.2) (radS c (nX c y.2) (nY c y.2)).1).1)), (.agg [(.int .i64 ((cleS c (nX c y.2) (nY c y.2) (radS c (nX c y.2) (nY c y.2)).1).2.1)), (.int .i64 ((cleS c (nX c y.2) (nY c y.2) (radS c (nX c y.2) (nY c y.2)).1).2.2.1))]), (.int .i64 ((cleS c (nX c y.2) (nY c y.2) (radS c (nX c y.2) (nY c y.2)).1).2.2.2))])), (73, (.int .i64 ((cleS c (nX c y.2) (nY c y.2) (radS c (nX c y.2) (nY c y.2)).1).1))), (74, (.agg [(.int .i64 ((cleS c (nX c y.2) (nY c y.2) (radS c (nX c y.2) (nY c y.2)).1).2.1)), (.int .i64 ((cleS c (nX c y.2) (nY c y.2) (radS c (nX c y.2) (nY c y.2)).1).2.2.1))])), (75, (.int .i64 ((cleS c (nX c y.2) (nY c y.2) (radS c (nX c y.2) (nY c y.2)).1).2.2.2))), (76, (.tup [(.int .i64 ((cleS c (nX c y.2) (nY c y.2) ((turnS y.2 4).tmod (wr .i64 ((radS c (nX c y.2) (nY c y.2)).1 + 1)))).1)), (.agg [(.int .i64 ((cleS c (nX c y.2) (nY c y.2) ((turnS y.2 4).tmod (wr .i64 ((radS c (nX c y.2) (nY c y.2)).1 + 1)))).2.1)), (.int .i64 ((cleS c (nX c y.2) (nY c y.2) ((turnS y.2 4).tmod (wr .i64 ((radS c (nX c y.2) (nY c y.2)).1 + 1)))).2.2.1))]), (.int .i64 ((cleS c (nX c y.2) (nY c y.2) ((turnS y.2 4).tmod (wr .i64 ((radS c (nX c y.2) (nY c y.2)).1 + 1)))).2.2.2))])), (77, (.agg [(.vs tMark (c.1.1) (c.1.2)), (.vs tSand (c.2.1.1) (c.2.1.2))])), (78, (.agg [(.int .i64 (nX c y.2)), (.int .i64 (nY c y.2))])), (79, (.int .i64 ((turnS y.2 4).tmod (wr .i64 ((radS c (nX c y.2) (nY c y.2)).1 + 1))))), (80, (.tup [(.int .i64 ((cleS c (nX c y.2) (nY c y.2) ((turnS y.2 4).tmod (wr .i64 ((radS c (nX c y.2) (nY c y.2)).1 + 1)))).1)), (.agg [(.int .i64 ((cleS c (nX c y.2) (nY c y.2) ((turnS y.2 4).tmod (wr .i64 ((radS c (nX c y.2) (nY c y.2)).1 + 1)))).2.1)), (.int .i64 ((cleS c (nX c y.2) (nY c y.2) ((turnS y.2 4).tmod (wr .i64 ((radS c (nX c y.2) (nY c y.2)).1 + 1)))).2.2.1))]), (.int .i64 ((cleS c (nX c y.2) (nY c y.2) ((turnS y.2 4).tmod (wr .i64 ((radS c (nX c y.2) (nY c y.2)).1 + 1)))).2.2.2))])), (81, (.int .i64 ((cleS c (nX c y.2) (nY c y.2) ((turnS y.2 4).tmod (wr .i64 ((radS c (nX c y.2) (nY c y.2)).1 + 1)))).1))), (82, (.agg [(.int .i64 ((cleS c (nX c y.2) (nY c y.2) ((turnS y.2 4).tmod (wr .i64 ((radS c (nX c y.2) (nY c y.2)).1 + 1)))).2.1)), (.int .i64 ((cleS c (nX c y.2) (nY c y.2) ((turnS y.2 4).tmod (wr .i64 ((radS c (nX c y.2) (nY c y.2)).1 + 1)))).2.2.1))])), (83, (.int .i64 ((cleS c (nX c y.2) (nY c y.2) ((turnS y.2 4).tmod (wr .i64 ((radS c (nX c y.2) (nY c y.2)).1 + 1)))).2.2.2))), (84, (.int .i64 ((cleS c (nX c y.2) (nY c y.2) (radS c (nX c y.2) (nY c y.2)).1).2.2.2))), (85, (.bool (!ieq (cleS c (nX c y.2) (nY c y.2) (radS c (nX c y.2) (nY c y.2)).1).2.2.2 4))), (86, (.bool (false))), (87, (.int .i64 ((cleS c (nX c y.2) (nY c y.2) ((turnS y.2 4).tmod (wr .i64 ((radS c (nX c y.2) (nY c y.2)).1 + 1)))).2.2.2))), (88, (.bool (!ieq (cleS c (nX c y.2) (nY c y.2) ((turnS y.2 4).tmod (wr .i64 ((radS c (nX c y.2) (nY c y.2)).1 + 1)))).2.2.2 4))), (89, (.bool (false))), (90, (.int .i64 x18)), (91, (.ptr 0 1)), (92, (.vs tSand (c.2.1.1) (c.2.1.2))), (93, (.int .i64 (Int.ofNat c.2.1.2.length))), (94, (.bool (false))), (144, (.int .i64 ((radS c (nX c y.2) (nY c y.2)).1))), (145, (.bool (false))), (147, (.tup [(.int .i64 (z2.1)), (.agg [(.int .i64 (z2.2.1)), (.int .i64 (z2.2.2.1))]), (.int .i64 (z2.2.2.2))])), (148, (.agg [(.vs tMark (c.1.1) (c.1.2)), (.vs tSand (c.2.1.1) (c.2.1.2))])), (149, (.agg [(.int .i64 (nX c y.2)), (.int .i64 (nY c y.2))])), (150, (.int .i64 ((radS c (nX c y.2) (nY c y.2)).1))), (151, (.int .i64 (wr .i64 ((radS c (nX c y.2) (nY c y.2)).1 + 1)))), (152, (.tup [(.int .i64 (z2.1)), (.agg [(.int .i64 (z2.2.1)), (.int .i64 (z2.2.2.1))]), (.int .i64 (z2.2.2.2))])), (153, (.int .i64 (z2.1))), (154, (.agg [(.int .i64 (z2.2.1)), (.int .i64 (z2.2.2.1))])), (155, (.int .i64 (z2.2.2.2))), (156, (.int .i64 (z2.2.2.2))), (157, (.bool (!ieq z2.2.2.2 0))), (158, (.bool (false))), (159, (.int .i64 (z2.1))), (160, (.bool (!ile 0 z2.1))), (161, (.bool (!ile 0 z2.1))), (162, (.bool (false))), (163, (.int .i64 (z2.1))), (164, (.ptr 0 1)), (165, (.vs tSand (c.2.1.1) (c.2.1.2))), (166, (.int .i64 (Int.ofNat c.2.1.2.length))), (167, (.bool (ile (↑c.2.1.2.length) z2.1))), (168, (.bool (false))), (169, (.ptr 0 1)), (170, (.vs tSand (c.2.1.1) (c.2.1.2))), (171, (.int .i64 (z2.1))), (172, (.cp [(.str (z3.1)), (.vs tP (z3.2.1.1) (z3.2.1.2)), (.int .i64 (z3.2.2.1.1.1)), (.int .i64 (z3.2.2.1.1.2.1)), (.int .i64 (z3.2.2.1.2.1.1)), (.int .i64 (z3.2.2.1.2.1.2.1))] 0)), (173, (.cp [(.str (z3.1)), (.vs tP (z3.2.1.1) (z3.2.1.2)), (.int .i64 (z3.2.2.1.1.1)), (.int .i64 (z3.2.2.1.1.2.1)), (.int .i64 (z3.2.2.1.2.1.1)), (.int .i64 (z3.2.2.1.2.1.2.1))] 2)), (174, (.agg [(.int .i64 (z3.2.2.1.1.1)), (.int .i64 (z3.2.2.1.1.2.1)), (.int .i64 (z3.2.2.1.2.1.1)), (.int .i64 (z3.2.2.1.2.1.2.1))])), (175, (.ptr 5 0)), (176, (.int .i64 (z2.2.1))), (177, (.ptr 6 0)), (178, (.ptr 6 0)), (179, (.int .i64 (z3.2.2.1.1.1))), (180, (.bool (!ile z3.2.2.1.1.1 z2.2.1))), (181, (.bool (false))), (182, (.ptr 5 0)), (183, (.int .i64 (z2.2.1))), (184, (.ptr 6 0)), (185, (.ptr 6 1)), (186, (.int .i64 (z3.2.2.1.1.2.1))), (187, (.bool (!ile z2.2.1 z3.2.2.1.1.2.1))), (188, (.bool (!ile z2.2.1 z3.2.2.1.1.2.1))), (189, (.bool (false))), (190, (.ptr 5 1)), (191, (.int .i64 (z2.2.2.1))), (192, (.ptr 6 2)), (193, (.ptr 6 2)), (194, (.int .i64 (z3.2.2.1.2.1.1))), (195, (.bool (!ile z3.2.2.1.2.1.1 z2.2.2.1))), (196, (.bool (!ile z3.2.2.1.2.1.1 z2.2.2.1))), (197, (.bool (false))), (198, (.ptr 5 1)), (199, (.int .i64 (z2.2.2.1))), (200, (.ptr 6 2)), (201, (.ptr 6 3)), (202, (.int .i64 (z3.2.2.1.2.1.2.1))), (203, (.bool (!ile z2.2.2.1 z3.2.2.1.2.1.2.1))), (204, (.bool (!ile z2.2.2.1 z3.2.2.1.2.1.2.1))), (205, (.bool (false))), (206, (.ptr 0 1)), (207, (.vs tSand (c.2.1.1) (c.2.1.2))), (208, (.int .i64 (z2.1))), (209, (.cp [(.str (z3.1)), (.vs tP (z3.2.1.1) (z3.2.1.2)), (.int .i64 (z3.2.2.1.1.1)), (.int .i64 (z3.2.2.1.1.2.1)), (.int .i64 (z3.2.2.1.2.1.1)), (.int .i64 (z3.2.2.1.2.1.2.1))] 0)), (210, (.agg [(.str (z3.1)), (.vs tP (z3.2.1.1) (z3.2.1.2)), (.int .i64 (z3.2.2.1.1.1)), (.int .i64 (z3.2.2.1.1.2.1)), (.int .i64 (z3.2.2.1.2.1.1)), (.int .i64 (z3.2.2.1.2.1.2.1))])), (211, (.agg [(.int .i64 (z2.2.1)), (.int .i64 (z2.2.2.1))])), (212, (.agg [(.int .i64 (nX c y.2)), (.int .i64 (nY c y.2))])), (213, (.int .i64 ((radS c (nX c y.2) (nY c y.2)).1))), (214, (.int .i64 (wr .i64 ((radS c (nX c y.2) (nY c y.2)).1 + 1)))), (215, (.bool (insF z3.2.1.2 (nX c y.2 - z2.2.1) (nY c y.2 - z2.2.2.1) (wr .i64 ((radS c (nX c y.2) (nY c y.2)).1 + 1))))), (216, (.bool (!insF z3.2.1.2 (nX c y.2 - z2.2.1) (nY c y.2 - z2.2.2.1) (wr .i64 ((radS c (nX c y.2) (nY c y.2)).1 + 1))))), (217, (.bool (false)))]) x448), (.blk 2), (.seq (pcOf M3 9 [1, 1, 1, 1, 1, 1, 1, 1, 1, 1, 1, 1, 1, 1, 1, 1])), (.cal [(.tmp 6)] .top)]⟩
theorem cclr_start (c : tChart.den) (x : tXs.den) (y : (Ty.sl (.int .u16)).den) : adv M3 (K3 [9]) 3000 (startC M3 9 [tChart.av c, tXs.av x, .vs (.int .u16) y.1 y.2] 8) = (bif !ieq (chkS c).2.2 0 then (bif bbeq c.1.1 c.1.1 then (bif vsB tMark c.1.2 tMark c.1.2 then (bif bbeq c.2.1.1 c.2.1.1 then (bif vsB tSand c.2.1.2 tSand c.2.1.2 then (bif bbeq c.1.1 c.1.1 then (bif vsB tMark c.1.2 tMark c.1.2 then (bif bbeq c.2.1.1 c.2.1.1 then (bif vsB tSand c.2.1.2 tSand c.2.1.2 then (bif !ieq (radS c 0 0).2 0 then some (.done (.bool (true))) else some (.done (.bool (false)))) else none) else none) else none) else none) else none) else none) else none) else none) else (bif u16 y.2 && ieq (chkS c).2.2 0 then (bif !ieq (radS c (nX c y.2) (nY c y.2)).2 0 then some (.done (.bool (false))) else (bif !ile 0 (radS c (nX c y.2) (nY c y.2)).1 then some (.done (.bool (false))) else (bif !ile (radS c (nX c y.2) (nY c y.2)).1 5000 then some (.done (.bool (false))) else (bif u16 y.2 && ile 0 4 then (bif ieq (wr .i64 ((radS c (nX c y.2) (nY c y.2)).1 + 1)) 0 then none else (bif !ieq (cleS c (nX c y.2) (nY c y.2) (radS c (nX c y.2) (nY c y.2)).1).2.2.2 4 then some (.done (.bool (false))) else (bif !ieq (cleS c (nX c y.2) (nY c y.2) ((turnS y.2 4).tmod (wr .i64 ((radS c (nX c y.2) (nY c y.2)).1 + 1)))).2.2.2 4 then some (.done (.bool (false))) else some (.stop (cclrI0 c x y (0) (1048575)))))) else none)))) else none)) := by kernel_rfl
theorem cclr_step0 (c : tChart.den) (x : tXs.den) (y : (Ty.sl (.int .u16)).den) (x18 : Int) (x224 : Nat) : adv M3 (K3 [9]) 3000 (cclrI0 c x y x18 (x224 + 1)) = (let z1 := (wr .i64 ((radS c (nX c y.2) (nY c y.2)).1 + 1)); let z2 := cleS c (nX c y.2) (nY c y.2) z1; let z3 := c.2.1.2.getD z2.1.toNat tSand.dflt; (bif !ile (↑c.2.1.2.length) x18 then (bif inB x18 c.2.1.2.length then (bif goodS (c.2.1.2.getD x18.toNat tSand.dflt) && u16 x.2.1.2 then (bif bbeq x.2.1.1 x.2.1.1 then (bif vsB (Ty.int IntKind.u16) x.2.1.2 (Ty.int IntKind.u16) x.2.1.2 then (bif bbeq c.2.1.1 c.2.1.1 then (bif vsB tSand c.2.1.2 tSand c.2.1.2 then (bif inB x18 c.2.1.2.length then (bif u16 x.1.2 && goodS (c.2.1.2.getD x18.toNat tSand.dflt) && ile 0 x18 && ile x18 1000 then (bif bbeq x.1.1 x.1.1 then (bif vsB (Ty.int IntKind.u16) x.1.2 (Ty.int IntKind.u16) x.1.2 then (bif bbeq c.2.1.1 c.2.1.1 then (bif vsB tSand c.2.1.2 tSand c.2.1.2 then (bif !ile (wr .i64 (wr .i64 (10000 * (radS c (nX c y.2) (nY c y.2)).1) * (radS c (nX c y.2) (nY c y.2)).1)) (wr .i64 (wr .i64 (wr .i64 (crX (c.2.1.2.getD x18.toNat tSand.dflt).2.1.2 x.2.1.2 + wr .i64 (100 * wr .i64 (mX (c.2.1.2.getD x18.toNat tSand.dflt) x.1.2 x18 - nX c y.2))) * wr .i64 (crX (c.2.1.2.getD x18.toNat tSand.dflt).2.1.2 x.2.1.2 + wr .i64 (100 * wr .i64 (mX (c.2.1.2.getD x18.toNat tSand.dflt) x.1.2 x18 - nX c y.2)))) + wr .i64 (wr .i64 (crY (c.2.1.2.getD x18.toNat tSand.dflt).2.1.2 x.2.1.2 + wr .i64 (100 * wr .i64 (mY (c.2.1.2.getD x18.toNat tSand.dflt) x.1.2 x18 - nY c y.2))) * wr .i64 (crY (c.2.1.2.getD x18.toNat tSand.dflt).2.1.2 x.2.1.2 + wr .i64 (100 * wr .i64 (mY (c.2.1.2.getD x18.toNat tSand.dflt) x.1.2 x18 - nY c y.2)))))) then some (.done (.bool (false))) else some (.stop (cclrI0 c x y (wr .i64 (x18 + 1)) (x224)))) else none) else none) else none) else none) else none) else none) else none) else none) else none) else none) else none) else none) else (bif ieq (radS c (nX c y.2) (nY c y.2)).1 5000 then some (.done (.bool (true))) else (bif !ieq z2.2.2.2 0 then some (.done (.bool (false))) else (bif !ile 0 z2.1 then some (.done (.bool (false))) else (bif ile (↑c.2.1.2.length) z2.1 then some (.done (.bool (false))) else (bif inB z2.1 c.2.1.2.length then (bif !ile z3.2.2.1.1.1 z2.2.1 then (bif ieq z3.2.2.1.1.1 z3.2.2.1.1.1 then (bif ieq z2.2.1 z2.2.1 then some (.done (.bool (false))) else none) else none) else (bif !ile z2.2.1 z3.2.2.1.1.2.1 then (bif ieq z3.2.2.1.1.2.1 z3.2.2.1.1.2.1 then (bif ieq z2.2.1 z2.2.1 then (bif ieq z3.2.2.1.1.1 z3.2.2.1.1.1 then (bif ieq z2.2.1 z2.2.1 then some (.done (.bool (false))) else none) else none) else none) else none) else (bif !ile z3.2.2.1.2.1.1 z2.2.2.1 then (bif ieq z3.2.2.1.2.1.1 z3.2.2.1.2.1.1 then (bif ieq z2.2.2.1 z2.2.2.1 then (bif ieq z3.2.2.1.1.2.1 z3.2.2.1.1.2.1 then (bif ieq z2.2.1 z2.2.1 then (bif ieq z3.2.2.1.1.1 z3.2.2.1.1.1 then (bif ieq z2.2.1 z2.2.1 then some (.done (.bool (false))) else none) else none) else none) else none) else none) else none) else (bif !ile z2.2.2.1 z3.2.2.1.2.1.2.1 then (bif ieq z3.2.2.1.2.1.2.1 z3.2.2.1.2.1.2.1 then (bif ieq z2.2.2.1 z2.2.2.1 then (bif ieq z3.2.2.1.2.1.1 z3.2.2.1.2.1.1 then (bif ieq z2.2.2.1 z2.2.2.1 then (bif ieq z3.2.2.1.1.2.1 z3.2.2.1.1.2.1 then (bif ieq z2.2.1 z2.2.1 then (bif ieq z3.2.2.1.1.1 z3.2.2.1.1.1 then (bif ieq z2.2.1 z2.2.1 then some (.done (.bool (false))) else none) else none) else none) else none) else none) else none) else none) else none) else (bif inB z2.1 c.2.1.2.length then (bif cOK z3.2.1.2 && in5 z2.2.1 && in5 z2.2.2.1 && in10 (nX c y.2) && in10 (nY c y.2) && inr z1 then (bif ieq (nX c y.2) (nX c y.2) then (bif ieq (nY c y.2) (nY c y.2) then (bif ieq z2.2.1 z2.2.1 then (bif ieq z2.2.2.1 z2.2.2.1 then (bif bbeq c.2.1.1 c.2.1.1 then (bif vsB tSand c.2.1.2 tSand c.2.1.2 then (bif ieq z3.2.2.1.2.1.2.1 z3.2.2.1.2.1.2.1 then (bif ieq z2.2.2.1 z2.2.2.1 then (bif ieq z3.2.2.1.2.1.1 z3.2.2.1.2.1.1 then (bif ieq z2.2.2.1 z2.2.2.1 then (bif ieq z3.2.2.1.1.2.1 z3.2.2.1.1.2.1 then (bif ieq z2.2.1 z2.2.1 then (bif ieq z3.2.2.1.1.1 z3.2.2.1.1.1 then (bif ieq z2.2.1 z2.2.1 then (bif !insF z3.2.1.2 (nX c y.2 - z2.2.1) (nY c y.2 - z2.2.2.1) z1 then some (.done (.bool (false))) else some (.stop (cclrI1 c x y (x18) (0) (1048575)))) else none) else none) else none) else none) else none) else none) else none) else none) else none) else none) else none) else none) else none) else none) else none) else none))))) else none))))))) := by kernel_rfl
theorem cclr_step1 (c : tChart.den) (x : tXs.den) (y : (Ty.sl (.int .u16)).den) (x18 : Int) (x21 : Int) (x448 : Nat) : adv M3 (K3 [9]) 3000 (cclrI1 c x y x18 x21 (x448 + 1)) = (let z1 := (wr .i64 ((radS c (nX c y.2) (nY c y.2)).1 + 1)); let z2 := cleS c (nX c y.2) (nY c y.2) z1; let z3 := c.2.1.2.getD z2.1.toNat tSand.dflt; (bif !ile z2.1 x21 then (bif inB x21 c.2.1.2.length then (bif inB x21 c.2.1.2.length then (bif u16 x.1.2 && goodS (c.2.1.2.getD x21.toNat tSand.dflt) && ile 0 x21 && ile x21 1000 then (bif cOK (c.2.1.2.getD x21.toNat tSand.dflt).2.1.2 && in5 (mX (c.2.1.2.getD x21.toNat tSand.dflt) x.1.2 x21) && in5 (mY (c.2.1.2.getD x21.toNat tSand.dflt) x.1.2 x21) && in10 (nX c y.2) && in10 (nY c y.2) && inr z1 then (bif ieq (nX c y.2) (nX c y.2) then (bif ieq (nY c y.2) (nY c y.2) then (bif ieq (nX c y.2) (nX c y.2) then (bif ieq (nY c y.2) (nY c y.2) then (bif bbeq x.1.1 x.1.1 then (bif vsB (Ty.int IntKind.u16) x.1.2 (Ty.int IntKind.u16) x.1.2 then (bif bbeq c.2.1.1 c.2.1.1 then (bif vsB tSand c.2.1.2 tSand c.2.1.2 then (bif bbeq c.2.1.1 c.2.1.1 then (bif vsB tSand c.2.1.2 tSand c.2.1.2 then (bif bbeq c.2.1.1 c.2.1.1 then (bif vsB tSand c.2.1.2 tSand c.2.1.2 then (bif insF (c.2.1.2.getD x21.toNat tSand.dflt).2.1.2 (nX c y.2 - mX (c.2.1.2.getD x21.toNat tSand.dflt) x.1.2 x21) (nY c y.2 - mY (c.2.1.2.getD x21.toNat tSand.dflt) x.1.2 x21) z1 then some (.done (.bool (false))) else some (.stop (cclrI1 c x y (x18) (wr .i64 (x21 + 1)) (x448)))) else none) else none) else none) else none) else none) else none) else none) else none) else none) else none) else none) else none) else none) else none) else none) else none) else (bif inB z2.1 c.2.1.2.length then (bif u16 x.1.2 && goodS z3 && ile 0 z2.1 && ile z2.1 1000 then (bif bbeq x.1.1 x.1.1 then (bif vsB (Ty.int IntKind.u16) x.1.2 (Ty.int IntKind.u16) x.1.2 then (bif bbeq c.2.1.1 c.2.1.1 then (bif vsB tSand c.2.1.2 tSand c.2.1.2 then (bif !ile z2.2.1 (mX z3 x.1.2 z2.1) then (bif inB z2.1 c.2.1.2.length then (bif cOK z3.2.1.2 && in5 (mX z3 x.1.2 z2.1) && in5 (mY z3 x.1.2 z2.1) && in10 (nX c y.2) && in10 (nY c y.2) && inr z1 then (bif !insF z3.2.1.2 (nX c y.2 - mX z3 x.1.2 z2.1) (nY c y.2 - mY z3 x.1.2 z2.1) z1 then (bif ieq (nX c y.2) (nX c y.2) then (bif ieq (nY c y.2) (nY c y.2) then (bif ieq (mX z3 x.1.2 z2.1) (mX z3 x.1.2 z2.1) then (bif ieq (mY z3 x.1.2 z2.1) (mY z3 x.1.2 z2.1) then (bif bbeq c.2.1.1 c.2.1.1 then (bif vsB tSand c.2.1.2 tSand c.2.1.2 then some (.done (.bool (true))) else none) else none) else none) else none) else none) else none) else (bif ieq (nX c y.2) (nX c y.2) then (bif ieq (nY c y.2) (nY c y.2) then (bif ieq (mX z3 x.1.2 z2.1) (mX z3 x.1.2 z2.1) then (bif ieq (mY z3 x.1.2 z2.1) (mY z3 x.1.2 z2.1) then (bif bbeq c.2.1.1 c.2.1.1 then (bif vsB tSand c.2.1.2 tSand c.2.1.2 then some (.done (.bool (false))) else none) else none) else none) else none) else none) else none)) else none) else none) else (bif ieq (mX z3 x.1.2 z2.1) z2.2.1 then (bif !ile z2.2.2.1 (mY z3 x.1.2 z2.1) then (bif inB z2.1 c.2.1.2.length then (bif cOK z3.2.1.2 && in5 (mX z3 x.1.2 z2.1) && in5 (mY z3 x.1.2 z2.1) && in10 (nX c y.2) && in10 (nY c y.2) && inr z1 then (bif !insF z3.2.1.2 (nX c y.2 - mX z3 x.1.2 z2.1) (nY c y.2 - mY z3 x.1.2 z2.1) z1 then (bif ieq (nX c y.2) (nX c y.2) then (bif ieq (nY c y.2) (nY c y.2) then (bif ieq (mX z3 x.1.2 z2.1) (mX z3 x.1.2 z2.1) then (bif ieq (mY z3 x.1.2 z2.1) (mY z3 x.1.2 z2.1) then (bif bbeq c.2.1.1 c.2.1.1 then (bif vsB tSand c.2.1.2 tSand c.2.1.2 then some (.done (.bool (true))) else none) else none) else none) else none) else none) else none) else (bif ieq (nX c y.2) (nX c y.2) then (bif ieq (nY c y.2) (nY c y.2) then (bif ieq (mX z3 x.1.2 z2.1) (mX z3 x.1.2 z2.1) then (bif ieq (mY z3 x.1.2 z2.1) (mY z3 x.1.2 z2.1) then (bif bbeq c.2.1.1 c.2.1.1 then (bif vsB tSand c.2.1.2 tSand c.2.1.2 then some (.done (.bool (false))) else none) else none) else none) else none) else none) else none)) else none) else none) else some (.done (.bool (true)))) else some (.done (.bool (true))))) else none) else none) else none) else none) else none) else none))) := by kernel_rfl
theorem crX_b {C : List tP.den} (hin : inC C) (h0 : 0 < C.length) {l : List Int} (hl : u16 l = true) : (-3000000 ≤ crX C l ∧ crX C l ≤ 3000000) ∧ -3000000 ≤ crY C l ∧ crY C l ≤ 3000000 := by
 obtain ⟨⟨wb1, wb2⟩, wb3, wb4⟩ := wXY_b hl
 have g0 := hin _ (ix_lt (C := C) l 0 h0)
 have g1 := hin _ (ix_lt (C := C) l 1 h0)
 have g2 := hin _ (ix_lt (C := C) l 2 h0)
 have z0 := mul_w (w := wX l) (by omega) g0.1
 have z1 := mul_w (w := wY l) (by omega) g1.1
 have z2 := mul_w (w := 100 - wX l - wY l) (by omega) g2.1
 have y0 := mul_w (w := wX l) (by omega) g0.2
 have y1 := mul_w (w := wY l) (by omega) g1.2
 have y2 := mul_w (w := 100 - wX l - wY l) (by omega) g2.2
 unfold crX crY
 omega
theorem rad_is {c : tChart.den} {P Q : Int} (hv : (chkS c).2.2 = 0) (h1 : in10 P = true) (h2 : in10 Q = true) : radS c P Q = (topR c.2.1.2 P Q, 0) := by
 unfold radS; rw [hv, ieq_self, h1, h2]; rfl
theorem cle_none {c : tChart.den} {P Q r : Int} (hv : (chkS c).2.2 = 0) (h1 : in10 P = true) (h2 : in10 Q = true) (r0 : 0 ≤ r) (r1 : r ≤ 5000) (h : hitR c.2.1.2 P Q r = false) : cleS c P Q r = (0, 0, 0, 4) := by
 unfold hitR at h
 unfold cleS
 rw [hv, ieq_self, h1, h2, show ile 0 r = true by rw [ile_iff]; exact decide_eq_true r0, show ile r 5000 = true by rw [ile_iff]; exact decide_eq_true r1, h]; rfl
theorem cle_some {c : tChart.den} {P Q r : Int} (hv : (chkS c).2.2 = 0) (h1 : in10 P = true) (h2 : in10 Q = true) (r0 : 0 < r) (r1 : r ≤ 5000) (h : hitR c.2.1.2 P Q r = true) :
  ∃ (j : Nat) (u v : Int), j < c.2.1.2.length ∧ cleS c P Q r = ((j : Int), u, v, 0) ∧ (((sd c j).2.2.1.1.1 ≤ u ∧ u ≤ (sd c j).2.2.1.1.2.1) ∧ (sd c j).2.2.1.2.1.1 ≤ v ∧ v ≤ (sd c j).2.2.1.2.1.2.1) ∧ incF (sd c j).2.1.2 (P - u) (Q - v) r = true ∧
   (∀ a b : Int, (sd c j).2.2.1.1.1 ≤ a → ((sd c j).2.2.1.2.1.1 ≤ b ∧ b ≤ (sd c j).2.2.1.2.1.2.1) → (a < u ∨ (a = u ∧ b < v)) → incF (sd c j).2.1.2 (P - a) (Q - b) r = false) ∧
   ∀ i : Nat, i < j → ∀ a b : Int, ((sd c i).2.2.1.1.1 ≤ a ∧ a ≤ (sd c i).2.2.1.1.2.1) → ((sd c i).2.2.1.2.1.1 ≤ b ∧ b ≤ (sd c i).2.2.1.2.1.2.1) → incF (sd c i).2.1.2 (P - a) (Q - b) r = false := by
 have hf : firS c.2.1.2 P Q r = firF c.2.1.2 P Q r 0 c.2.1.2.length := by
  unfold firS
  rw [show ieq r 0 = false by rw [ieq_iff]; exact decide_eq_false (by omega), cond_false]
 unfold hitR at h
 rw [hf] at h
 obtain ⟨j, hj, e1, e2, e3⟩ := (firF_is c.2.1.2.length 0).1 h
 have hg := sd_good hv (show j < c.2.1.2.length by omega)
 obtain ⟨u, v, p1, p2, p3, p4, p5⟩ := (fmP_is (px := P) (py := Q) (r := r) rfl rfl rfl rfl hg).1 e2
 have p1' : fmP (c.2.1.2.getD j tSand.dflt) P Q r = (u, v, true) := p1
 rw [p1'] at e1
 refine ⟨j, u, v, by omega, ?_, ⟨p2, p3⟩, p4, p5, fun i hi a b ha hb => ?_⟩
 · unfold cleS
   rw [hv, ieq_self, h1, h2, show ile 0 r = true by rw [ile_iff]; exact decide_eq_true (by omega), show ile r 5000 = true by rw [ile_iff]; exact decide_eq_true r1, hf, e1]; rfl
 · have hgi := sd_good hv (show i < c.2.1.2.length by omega)
   exact (fmP_is (px := P) (py := Q) (r := r) rfl rfl rfl rfl hgi).2 (e3 i (by omega) hi) a b ha hb
theorem ile_t {a b : Int} (h : a ≤ b) : ile a b = true := by rw [ile_iff]; exact decide_eq_true h
theorem ile_f {a b : Int} (h : b < a) : ile a b = false := by rw [ile_iff]; exact decide_eq_false (by omega)
section
variable (c : tChart.den) (x : tXs.den) (y : (Ty.sl (.int .u16)).den) (hv : (chkS c).2.2 = 0) (hx1 : u16 x.1.2 = true) (hx2 : u16 x.2.1.2 = true)
include hv hx1
theorem mv_box {i : Nat} (hi : i < c.2.1.2.length) : (((sd c i).2.2.1.1.1 ≤ mX (sd c i) x.1.2 i ∧ mX (sd c i) x.1.2 i ≤ (sd c i).2.2.1.1.2.1) ∧ (sd c i).2.2.1.2.1.1 ≤ mY (sd c i) x.1.2 i ∧ mY (sd c i) x.1.2 i ≤ (sd c i).2.2.1.2.1.2.1) ∧
  in5 (mX (sd c i) x.1.2 i) = true ∧ in5 (mY (sd c i) x.1.2 i) = true := by
 have hg := sd_good hv hi
 obtain ⟨gc, ⟨⟨g2, g3⟩, g4, g5⟩, g6, g7⟩ := goodS_iff rfl rfl rfl rfl hg
 have bm := amS_in (n := turnS x.1.2 (2 * (i : Int))) g6.1
 have bn := amS_in (n := turnS x.1.2 (2 * (i : Int) + 1)) g7.1
 have i0 := in5_iff.1 g2
 have i1 := in5_iff.1 g3
 have i2 := in5_iff.1 g4
 have i3 := in5_iff.1 g5
 refine ⟨⟨bm, bn⟩, ?_, ?_⟩
 · rw [in5_iff]; unfold mX; exact ⟨Int.le_trans i0.1 bm.1, Int.le_trans bm.2 i1.2⟩
 · rw [in5_iff]; unfold mY; exact ⟨Int.le_trans i2.1 bn.1, Int.le_trans bn.2 i3.2⟩
variable (R : Int) (hR : radS c (nX c y.2) (nY c y.2) = (R, 0)) (R0 : 0 ≤ R) (R1 : R < 5000) (j : Nat) (u v : Int) (hj : j < c.2.1.2.length) (hc : cleS c (nX c y.2) (nY c y.2) (R + 1) = ((j : Int), u, v, 0))
 (b1 : ∀ a b : Int, (sd c j).2.2.1.1.1 ≤ a → ((sd c j).2.2.1.2.1.1 ≤ b ∧ b ≤ (sd c j).2.2.1.2.1.2.1) → (a < u ∨ (a = u ∧ b < v)) → incF (sd c j).2.1.2 (nX c y.2 - a) (nY c y.2 - b) (R + 1) = false)
 (b2 : ∀ i : Nat, i < j → ∀ a b : Int, ((sd c i).2.2.1.1.1 ≤ a ∧ a ≤ (sd c i).2.2.1.1.2.1) → ((sd c i).2.2.1.2.1.1 ≤ b ∧ b ≤ (sd c i).2.2.1.2.1.2.1) → incF (sd c i).2.1.2 (nX c y.2 - a) (nY c y.2 - b) (R + 1) = false)
include hR R0 R1 hj hc b1 b2
theorem cclr_before (x18 : Int) : ∀ (n k m : Nat), k + n = j → n < m → AnsB M3 (cclrI1 c x y x18 k m) true
 | 0, k, m + 1, hk, hm => by
  have h := cclr_step1 c x y x18 k m
  have hkj : k = j := by omega
  have h4 := (valid_sands hv).1
  have hg := sd_good hv hj
  have gc := (goodS_iff rfl rfl rfl rfl hg).1
  obtain ⟨⟨m1, m2⟩, m3, m4⟩ := mv_box c x hv hx1 hj
  have hsd : c.2.1.2.getD j tSand.dflt = sd c j := rfl
  have w1 : wr .i64 (R + 1) = R + 1 := wr_in (by omega) (by omega)
  have hr : inr (R + 1) = true := by rw [inr_iff]; omega
  have hins : ∀ dx dy, insF (sd c j).2.1.2 dx dy (R + 1) = incF (sd c j).2.1.2 dx dy (R + 1) := fun dx dy => insF_inc (ile_f (by omega))
  simp only [hR, w1, hc, nat_to, hsd, ile_t (show (j : Int) ≤ (k : Int) by omega), inB_at hj, hx1, hg, gc, m3, m4, nX_in, nY_in, hr, hins, ile_t (show (0 : Int) ≤ (j : Int) by omega), ile_t (show (j : Int) ≤ 1000 by omega), ieq_self, bbeq_self, vsB_self, Bool.and_self, Bool.not_true, Bool.not_false, cond_true, cond_false] at h
  cases q1 : ile u (mX (sd c j) x.1.2 j) with
  | false =>
   rw [ile_iff] at q1
   have q1' := of_decide_eq_false q1
   rw [b1 _ _ m1.1 m2 (.inl (Int.not_le.1 q1'))] at h
   simp only [show ile u (mX (sd c j) x.1.2 j) = false by rw [ile_iff]; exact q1, Bool.not_false, cond_true] at h
   exact .doneB (K3_ok _) M3sy h rfl
  | true =>
   cases q2 : ieq (mX (sd c j) x.1.2 j) u with
   | false =>
    simp only [q1, q2, Bool.not_true, cond_true, cond_false] at h
    exact .doneB (K3_ok _) M3sy h rfl
   | true =>
    cases q3 : ile v (mY (sd c j) x.1.2 j) with
    | false =>
     have q3' := q3
     rw [ile_iff] at q3'
     have q4 := of_decide_eq_false q3'
     rw [b1 _ _ m1.1 m2 (.inr ⟨ieq_t' q2, Int.not_le.1 q4⟩)] at h
     simp only [q1, q2, q3, Bool.not_true, Bool.not_false, cond_true, cond_false] at h
     exact .doneB (K3_ok _) M3sy h rfl
    | true =>
     simp only [q1, q2, q3, Bool.not_true, cond_true, cond_false] at h
     exact .doneB (K3_ok _) M3sy h rfl
 | n + 1, k, m + 1, hk, hm => by
  have h := cclr_step1 c x y x18 k m
  have hlt : k < c.2.1.2.length := by omega
  have h4 := (valid_sands hv).1
  have hg := sd_good hv hlt
  have gc := (goodS_iff rfl rfl rfl rfl hg).1
  obtain ⟨⟨m1, m2⟩, m3, m4⟩ := mv_box c x hv hx1 hlt
  have hsd : c.2.1.2.getD k tSand.dflt = sd c k := rfl
  have w1 : wr .i64 (R + 1) = R + 1 := wr_in (by omega) (by omega)
  have hr : inr (R + 1) = true := by rw [inr_iff]; omega
  have hins : ∀ dx dy, insF (sd c k).2.1.2 dx dy (R + 1) = incF (sd c k).2.1.2 dx dy (R + 1) := fun dx dy => insF_inc (ile_f (by omega))
  simp only [hR, w1, hc, nat_to, hsd, ile_f (show (k : Int) < (j : Int) by omega), inB_at hlt, hx1, hg, gc, m3, m4, nX_in, nY_in, hr, hins, b2 k (by omega) _ _ m1 m2, ile_t (show (0 : Int) ≤ (k : Int) by omega), ile_t (show (k : Int) ≤ 1000 by omega), ieq_self, bbeq_self, vsB_self, wr_succ (show k < 1048577 by omega), Bool.and_self, Bool.not_true, Bool.not_false, cond_true, cond_false] at h
  exact .stop (K3_ok _) M3sy h (cclr_before x18 n (k + 1) m (by omega) (by omega))
end
end Go.Proofs.YtffnpkbopjjdaaaGreatDoor


set_option maxRecDepth 100000
namespace Go.Proofs.YtffnpkbopjjdaaaGreatDoor
open Go Go.Eng
theorem dist_ok {C : List tP.den} (hin : inC C) (hrd : roundS C = true) (h3 : 3 ≤ C.length) {P Q a b R : Int} {l : List Int} (hl : u16 l = true) (R0 : 0 ≤ R) (R1 : R ≤ 5000) (hP : -10000 ≤ P ∧ P ≤ 10000) (hQ : -10000 ≤ Q ∧ Q ≤ 10000) (ha : -500 ≤ a ∧ a ≤ 500) (hb : -500 ≤ b ∧ b ≤ 500)
  (hinc : 0 < R → incF C (P - a) (Q - b) R = false) :
  (!ile (wr .i64 (wr .i64 (10000 * R) * R)) (wr .i64 (wr .i64 (wr .i64 (crX C l + wr .i64 (100 * wr .i64 (a - P))) * wr .i64 (crX C l + wr .i64 (100 * wr .i64 (a - P)))) + wr .i64 (wr .i64 (crY C l + wr .i64 (100 * wr .i64 (b - Q))) * wr .i64 (crY C l + wr .i64 (100 * wr .i64 (b - Q))))))) = false := by
 obtain ⟨⟨c1, c2⟩, c3, c4⟩ := crX_b hin (by omega) hl
 obtain ⟨⟨wb1, wb2⟩, wb3, wb4⟩ := wXY_b hl
 rw [wr_in (n := a - P) (by omega) (by omega), wr_in (n := 100 * (a - P)) (by omega) (by omega), wr_in (n := crX C l + 100 * (a - P)) (by omega) (by omega),
  wr_in (n := b - Q) (by omega) (by omega), wr_in (n := 100 * (b - Q)) (by omega) (by omega), wr_in (n := crY C l + 100 * (b - Q)) (by omega) (by omega), wr_in (n := 10000 * R) (by omega) (by omega)]
 have m1 := mul_b (a := crX C l + 100 * (a - P)) (b := crX C l + 100 * (a - P)) (m := 5000000) (n := 5000000) (by omega) (by omega) (by omega) (by omega)
 have m2 := mul_b (a := crY C l + 100 * (b - Q)) (b := crY C l + 100 * (b - Q)) (m := 5000000) (n := 5000000) (by omega) (by omega) (by omega) (by omega)
 have m3 := mul_b (a := 10000 * R) (b := R) (m := 50000000) (n := 5000) (by omega) (by omega) (by omega) (by omega)
 rw [wr_in (n := 10000 * R * R) (by omega) (by omega), wr_in (n := (crX C l + 100 * (a - P)) * (crX C l + 100 * (a - P))) (by omega) (by omega), wr_in (n := (crY C l + 100 * (b - Q)) * (crY C l + 100 * (b - Q))) (by omega) (by omega), wr_in (by omega) (by omega)]
 have key : 10000 * R * R ≤ (crX C l + 100 * (a - P)) * (crX C l + 100 * (a - P)) + (crY C l + 100 * (b - Q)) * (crY C l + 100 * (b - Q)) := by
  by_cases hr : 0 < R
  · have := clear_far hin hrd h3 (r := R) R0 (hinc hr) (x := wX l) (y := wY l) (z := 100 - wX l - wY l) wb1 wb3 (by omega) (by omega) (ix_lt (C := C) l 0 (by omega)) (ix_lt (C := C) l 1 (by omega)) (ix_lt (C := C) l 2 (by omega))
    have ex : wX l * gx C (ix C l 0) + wY l * gx C (ix C l 1) + (100 - wX l - wY l) * gx C (ix C l 2) = crX C l := rfl
    have ey : wX l * gy C (ix C l 0) + wY l * gy C (ix C l 1) + (100 - wX l - wY l) * gy C (ix C l 2) = crY C l := rfl
    rw [ex, ey, show crX C l - 100 * (P - a) = crX C l + 100 * (a - P) by omega, show crY C l - 100 * (Q - b) = crY C l + 100 * (b - Q) by omega] at this
    rw [Int.mul_assoc]
    omega
  · have : R = 0 := by omega
    subst this
    have s1 := sq_nn (crX C l + 100 * (a - P))
    have s2 := sq_nn (crY C l + 100 * (b - Q))
    omega
 rw [ile_t key]; rfl
section
variable (c : tChart.den) (x : tXs.den) (y : (Ty.sl (.int .u16)).den) (hv : (chkS c).2.2 = 0) (hx1 : u16 x.1.2 = true) (hx2 : u16 x.2.1.2 = true)
include hv hx1 hx2
theorem cclr_loop : ∀ (n k m : Nat), k + n = c.2.1.2.length → n < m → AnsB M3 (cclrI0 c x y k m) true
 | 0, k, m + 1, hk, hm => by
  have h := cclr_step0 c x y k m
  have hP := nX_in c y.2
  have hQ := nY_in c y.2
  obtain ⟨⟨t0, t1⟩, t2⟩ := topR_is c.2.1.2 (nX c y.2) (nY c y.2)
  have hR := rad_is hv hP hQ
  have h4 := (valid_sands hv).1
  generalize topR c.2.1.2 (nX c y.2) (nY c y.2) = R at hR t0 t1 t2
  by_cases h5 : R = 5000
  · have e : ieq R 5000 = true := by rw [h5]; kernel_rfl
    simp only [hR, e, ile_ge (show c.2.1.2.length ≤ k by omega), Bool.not_true, cond_true, cond_false] at h
    exact .doneB (K3_ok _) M3sy h rfl
  · have e : ieq R 5000 = false := by rw [ieq_iff]; exact decide_eq_false h5
    obtain ⟨j, u, v, hj, hc, ⟨⟨p1, p2⟩, p3, p4⟩, hi, b1, b2⟩ := cle_some hv hP hQ (show 0 < R + 1 by omega) (by omega) ((t2 (R + 1) (by omega) (by omega)).2 (by omega))
    have hg := sd_good hv hj
    obtain ⟨x0, e0⟩ : ∃ y : Int, (sd c j).2.2.1.1.1 = y := ⟨_, rfl⟩
    obtain ⟨x1, e1⟩ : ∃ y : Int, (sd c j).2.2.1.1.2.1 = y := ⟨_, rfl⟩
    obtain ⟨y0, e2⟩ : ∃ y : Int, (sd c j).2.2.1.2.1.1 = y := ⟨_, rfl⟩
    obtain ⟨y1, e3⟩ : ∃ y : Int, (sd c j).2.2.1.2.1.2.1 = y := ⟨_, rfl⟩
    obtain ⟨gc, ⟨⟨g2, g3⟩, g4, g5⟩, g6, g7⟩ := goodS_iff e0 e1 e2 e3 hg
    have i0 := in5_iff.1 g2
    have i1 := in5_iff.1 g3
    have i2 := in5_iff.1 g4
    have i3 := in5_iff.1 g5
    rw [e0] at p1; rw [e1] at p2; rw [e2] at p3; rw [e3] at p4
    have p1 : x0 ≤ u := p1
    have p2 : u ≤ x1 := p2
    have p3 : y0 ≤ v := p3
    have p4 : v ≤ y1 := p4
    have u5 : in5 u = true := by rw [in5_iff]; omega
    have v5 : in5 v = true := by rw [in5_iff]; omega
    have hsd : c.2.1.2.getD j tSand.dflt = sd c j := rfl
    have w1 : wr .i64 (R + 1) = R + 1 := wr_in (by omega) (by omega)
    have hr : inr (R + 1) = true := by rw [inr_iff]; omega
    have hins : insF (sd c j).2.1.2 (nX c y.2 - u) (nY c y.2 - v) (R + 1) = true := by rw [insF_inc (ile_f (by omega))]; exact hi
    have z0 : ieq 0 0 = true := ieq_self 0
    simp only [hR, e, ile_ge (show c.2.1.2.length ≤ k by omega), w1, hc, nat_to, hsd, e0, e1, e2, e3, ile_t (show (0 : Int) ≤ (j : Int) by omega), ile_f (show (j : Int) < (c.2.1.2.length : Int) by omega), inB_at hj, ile_t p1, ile_t p2, ile_t p3, ile_t p4, gc, u5, v5, hP, hQ, hr, hins,
     ieq_self, bbeq_self, vsB_self, Bool.and_self, Bool.not_true, Bool.not_false, cond_true, cond_false] at h
    exact .stop (K3_ok _) M3sy h (cclr_before c x y hv hx1 R hR t0 (by omega) j u v hj hc b1 b2 k j 0 1048575 (by omega) (by omega))
 | n + 1, k, m + 1, hk, hm => by
  have h := cclr_step0 c x y k m
  have hP := nX_in c y.2
  have hQ := nY_in c y.2
  have hlt : k < c.2.1.2.length := by omega
  obtain ⟨⟨t0, t1⟩, t2⟩ := topR_is c.2.1.2 (nX c y.2) (nY c y.2)
  have hR := rad_is hv hP hQ
  have h4 := (valid_sands hv).1
  generalize topR c.2.1.2 (nX c y.2) (nY c y.2) = R at hR t0 t1 t2
  have hg := sd_good hv hlt
  obtain ⟨gc, _⟩ := goodS_iff rfl rfl rfl rfl hg
  obtain ⟨_, hin⟩ := cOK_in gc
  obtain ⟨⟨m1, m2⟩, m3, m4⟩ := mv_box c x hv hx1 hlt
  have hsd : c.2.1.2.getD k tSand.dflt = sd c k := rfl
  have hd := dist_ok hin (sd_round hv hlt) (goodS_len hg) hx2 t0 t1 (in10_iff.1 hP) (in10_iff.1 hQ) (in5_iff.1 m3) (in5_iff.1 m4) (fun hr => by
   refine clear_all (S := c.2.1.2) hr ?_ hlt hg m1 m2
   cases q : hitR c.2.1.2 (nX c y.2) (nY c y.2) R with
   | false => rfl
   | true => have := (t2 R t0 t1).1 q; omega)
  simp only [hR, ile_lt hlt, inB_at hlt, nat_to, hsd, hg, hx1, hx2, ile_t (show (0 : Int) ≤ (k : Int) by omega), ile_t (show (k : Int) ≤ 1000 by omega), ieq_self, bbeq_self, vsB_self, wr_succ (show k < 1048577 by omega), Bool.and_self, Bool.not_false, cond_true] at h
  rw [hd, cond_false] at h
  exact .stop (K3_ok _) M3sy h (cclr_loop n (k + 1) m (by omega) (by omega))
end
theorem cclr_ans (c : tChart.den) (x : tXs.den) (y : (Ty.sl (.int .u16)).den) (hx1 : u16 x.1.2 = true) (hx2 : u16 x.2.1.2 = true) (hy : u16 y.2 = true) : AnsB M3 (startC M3 9 [tChart.av c, tXs.av x, .vs (.int .u16) y.1 y.2] 8) true := by
 have h := cclr_start c x y
 cases c1 : ieq (chkS c).2.2 0 with
 | false =>
  have e : ieq (radS c 0 0).2 0 = false := by unfold radS; rw [c1]; exact c1
  simp only [c1, e, bbeq_self, vsB_self, Bool.not_false, cond_true] at h
  exact .doneB (K3_ok _) M3sy h rfl
 | true =>
  have hv := ieq_t' c1
  have hP := nX_in c y.2
  have hQ := nY_in c y.2
  obtain ⟨⟨t0, t1⟩, t2⟩ := topR_is c.2.1.2 (nX c y.2) (nY c y.2)
  have hR := rad_is hv hP hQ
  have h4 := (valid_sands hv).1
  generalize topR c.2.1.2 (nX c y.2) (nY c y.2) = R at hR t0 t1 t2
  have none : ∀ r, 0 ≤ r → r ≤ R → cleS c (nX c y.2) (nY c y.2) r = (0, 0, 0, 4) := fun r a b => cle_none hv hP hQ a (by omega) (by
   cases q : hitR c.2.1.2 (nX c y.2) (nY c y.2) r with
   | false => rfl
   | true => have := (t2 r a (by omega)).1 q; omega)
  have w1 : wr .i64 (R + 1) = R + 1 := wr_in (by omega) (by omega)
  have z : ieq (R + 1) 0 = false := by rw [ieq_iff]; exact decide_eq_false (by omega)
  have tb := turnS_b hy 4
  have tm : (turnS y.2 4).tmod (R + 1) = turnS y.2 4 % (R + 1) := Int.tmod_eq_emod_of_nonneg tb.1
  have l1 := Int.emod_nonneg (turnS y.2 4) (show R + 1 ≠ 0 by omega)
  have l2 := Int.emod_lt_of_pos (turnS y.2 4) (show 0 < R + 1 by omega)
  have q0 : ile 0 4 = true := by kernel_rfl
  simp only [c1, hy, hR, ile_t t0, ile_t t1, q0, w1, z, tm, none R t0 (Int.le_refl _), none _ l1 (show turnS y.2 4 % (R + 1) ≤ R by omega), ieq_self, Bool.and_self, Bool.not_true, cond_true, cond_false] at h
  exact .stop (K3_ok _) M3sy h (cclr_loop c x y hv hx1 hx2 c.2.1.2.length 0 1048575 (by omega) (by omega))
theorem u16_wfZ {l : (Ty.sl (.int .u16)).den} (h : (Ty.sl (.int .u16)).wf l = true) : u16 l.2 = true := by
 unfold u16
 rw [List.all_eq_true] at *
 intro n hn
 have := List.all_eq_true.1 h n hn
 simp only [Ty.wf, Bool.and_eq_true, decide_eq_true_eq] at this
 rw [ile_iff, ile_iff, Bool.and_eq_true]
 exact ⟨decide_eq_true this.1, decide_eq_true this.2⟩
theorem clear_true (c : tChart.den) (x : tXs.den) (y : (Ty.sl (.int .u16)).den) (hx : tXs.wf x = true) (hy : (Ty.sl (.int .u16)).wf y = true) : ∃ σ, callN M3 (8 + 1) 9 [tChart.av c, tXs.av x, (Ty.sl (.int .u16)).av y] .empty [] [] = some (.bool true, σ, []) := by
 have h : ((Ty.sl (.int .u16)).wf x.1 && ((Ty.sl (.int .u16)).wf x.2.1 && true)) = true := hx
 simp only [Bool.and_eq_true] at h
 exact AnsB.call (ext_none (by kernel_rfl)) (hasB_spec (by kernel_rfl)) (cclr_ans c x y (u16_wfZ h.1) (u16_wfZ h.2.1) (u16_wfZ hy))
end Go.Proofs.YtffnpkbopjjdaaaGreatDoor


namespace Go.Proofs.YtffnpkbopjjdaaaGreatDoor
open Go Go.ChangeShapes Go.WideShapes Go.Eng
theorem kOwn : ownKnob Tryz.prog.godebug = none := by kernel_rfl
theorem kPlain : (Rows.chartClearRow.laid.all fun x => x.2.handleName?.isNone) = true := by kernel_rfl
theorem kLaid : allT (glB Tryz.prog Rows.chartClearRow.laid) T0.gl (fun k => k) = true := by kernel_rfl
theorem kParams : Tryz.f9.params = #[25, 74, 64] := by kernel_rfl
theorem kResults : Tryz.f9.resultTypes = #[4] := by kernel_rfl
theorem kLaidOut : laidOutB Tryz.prog = true := by kernel_rfl
theorem kRead : Tryz.f9.params.toList.all (fun t => Tryz.prog.readableRec t && decide (t < Tryz.prog.types.size)) = true := by kernel_rfl
theorem kFit1 : fits Tryz.prog (tChart) 25 = true := by kernel_rfl
theorem kFit2 : fits Tryz.prog (tXs) 74 = true := by kernel_rfl
theorem kFit3 : fits Tryz.prog (Ty.sl (.int .u16)) 64 = true := by kernel_rfl
theorem kGlob : M3.glob = T0.gl.get := rfl
theorem kExt (c1 : (tChart).den) (c2 : (tXs).den) (c3 : (Ty.sl (.int .u16)).den) : M3.ext 9 [tChart.av c1, tXs.av c2, (Ty.sl (.int .u16)).av c3] = none := ext_none (by kernel_rfl)
set_option maxRecDepth 100000 in
theorem kLifted (os : Os) (started : os.Started) (H : Type) (enc : TypeId × Value → H) :
  ReturnsInHanded {} Tryz.checked os 9 .any (fun w args => (Rows.chartClearSpec.pre enc Tryz.prog Tryz.f9 [] false w args ∧ laidMetH Tryz.prog Rows.chartClearRow.laid w) ∧ sizedMet enc Tryz.prog Tryz.f9 (OpenSpec.ofChange Rows.chartClearSpec) false w args)
   (Rows.chartClearSpec.post enc Tryz.prog Tryz.f9 false true false false) := by
 refine returnsInHanded_of_change_and (C := Tryz.checked) (X := fun w _ => laidMetH Tryz.prog Rows.chartClearRow.laid w) (fun _ _ _ hh h => h.of_heap hh) kOwn started (by kernel_rfl) Tryz.func9
  (ChangeSpec.witness_shaped (enc := enc) (C := Tryz.checked) (os := os) (X := fun w _ => laidMetH Tryz.prog Rows.chartClearRow.laid w) false (World.laidAll Tryz.prog os Rows.chartClearRow.laid) #[.agg #[.slice none 0 0, .slice none 0 0], .agg #[.slice none 0 0, .slice none 0 0], .slice none 0 0] 8 (World.laidAll_os _ _ _)
   (World.shaped_of_ZipB (by kernel_rfl) (by kernel_rfl)) (by kernel_rfl) (by kernel_rfl) (by kernel_rfl)
   (by rw [MakeChecks.laidMetH_plain _ _ _ kPlain]; exact laidMet_laidAll _ (by kernel_rfl) (by kernel_rfl))) ?_
 intro W base args ds gs before hok hW _ _ hL _
 have hL' : laidMet Tryz.prog Rows.chartClearRow.laid W := by rw [← MakeChecks.laidMetH_plain _ _ _ kPlain]; exact hL
 have hW' := hW
 obtain ⟨p, q, hA, _⟩ := hW
 rw [kParams] at hA
 obtain ⟨v1, v2, v3, d1, d2, d3, p1, p2, p3, e1', e2', hp, t1, t2, t3⟩ := trodAll_three hA
 subst e1'; subst e2'
 rw [kParams] at hok
 obtain ⟨c1, h1, w1⟩ := arg_ty (t := tChart) (hok 0 25 v1 rfl rfl) kFit1 t1
 obtain ⟨c2, h2, w2⟩ := arg_ty (t := tXs) (hok 1 74 v2 rfl rfl) kFit2 t2
 obtain ⟨c3, h3, w3⟩ := arg_ty (t := Ty.sl (.int .u16)) (hok 2 64 v3 rfl rfl) kFit3 t3
 obtain ⟨σ, hrun⟩ := clear_true c1 c2 c3 w2 w3
 refine (law_run (A := [v1, v2, v3]) (V := Go.Eng.seen W) m3 xm3 nm3 tabs_ok.mix (kExt c1 c2 c3) hrun (.cons h1 (.cons h2 (.cons h3 (.nil _)))) (by kernel_rfl) (fun _ _ _ h => h) (glob_of kGlob kLaid hL')).mono fun e W' ⟨he, hf⟩ => ?_
 subst he
 exact ⟨_, rfl, post_law kLaidOut kRead kResults Tryz.underlying4 rfl rfl hW' hf⟩
theorem kHolds : Rows.ChartClearSaid :=
 OpenClaim.holds_of_wide 9 Tryz.f9 rfl rfl rfl rfl rfl rfl rfl ⟨rfl, rfl, rfl, rfl, rfl⟩ rfl rfl rfl rfl rfl (by kernel_rfl) Tryz.func9 (by kernel_rfl)
  (of_decide_eq_true (by kernel_rfl)) (by unfold Func.isWrapper; first | (rw [if_pos (by decide +kernel)]; kernel_rfl) | (rw [if_neg (by decide +kernel)]; exact ⟨rfl, rfl⟩))
  (fun os started H enc _ => kLifted os started H enc)
theorem chartClear_holds : Rows.ChartClearCardSaid :=
 Claim7.holds_tied_plain_at .later [] Rows.chartClearCard.laidKinds true Rows.chartClearCard.stood.harness true
  kHolds (fun _ h => by cases h) (by kernel_rfl) (fun _ h => by cases h) chartClear_row_tie rfl ⟨rfl, rfl⟩ (by kernel_rfl) rfl
  (fun f fn hf hfn => by
   obtain rfl : f = 9 := Option.some.inj ((show Tryz.prog.funcNamed "nore/norelaw01.ChartClear" = some 9 by kernel_rfl).symm.trans hf) |>.symm
   obtain rfl : fn = Tryz.f9 := (Option.some.inj (Tryz.func9.symm.trans hfn)).symm
   exact ⟨by kernel_rfl, fun j t ht => by
    rw [kParams] at ht
    rcases j with _ | _ | _ | j <;> simp at ht <;> subst ht <;> kernel_rfl⟩)
  (by kernel_rfl)
#print axioms chartClear_holds
end Go.Proofs.YtffnpkbopjjdaaaGreatDoor

