/-
  What is proved: norelaw01.ChartMarks returns true for every chart, day, mark, place and box: Colour, Seen and Points of the program return what the reference says. Conditions: none but those of the given card (package-level variables start as the program's text lays them).
-/
import Derived.Test.YtffnpkbopjjdaaaGreatDoorPart06
import Derived.Test.YtffnpkbopjjdaaaGreatDoorPart07
import Derived.Test.YtffnpkbopjjdaaaGreatDoorPart08
import Derived.Test.YtffnpkbopjjdaaaGreatDoorPart09
import Derived.Test.YtffnpkbopjjdaaaGreatDoorPart10
import Derived.Test.YtffnpkbopjjdaaaGreatDoorPart11
import Derived.Test.YtffnpkbopjjdaaaGreatDoorPart17
import Derived.Test.YtffnpkbopjjdaaaGreatDoorPart12
import Derived.Test.YtffnpkbopjjdaaaGreatDoorPart13
import Derived.Test.YtffnpkbopjjdaaaGreatDoorPart14
import Derived.Test.YtffnpkbopjjdaaaGreatDoorPart15
import Derived.Test.YtffnpkbopjjdaaaGreatDoorPart05
import Derived.Test.YtffnpkbopjjdaaaGreatDoorRows
import Derived.Test.YtffnpkbopjjdaaaGreatDoorCards
import Derived.Test.YtffnpkbopjjdaaaGreatDoorTie
import Derived.ProofKit
import Derived.LaidMore
import Derived.OpenShut
import Derived.Stop.Joined
import Derived.Lay
import Derived.SevenTiedAt
set_option linter.unusedSectionVars false
set_option linter.unusedSimpArgs false
set_option linter.unusedVariables false
/-
  CLOSED CALLS, joined.
-/
set_option maxRecDepth 100000
namespace Go.Proofs.YtffnpkbopjjdaaaGreatDoor
open Go Go.Eng
noncomputable def L3 : List Ent := [c0, c1, c2, c3, c4, c5, c6, c7, c8, c9, c10]
theorem l3 : ∀ e ∈ L3, EntOK Tryz.prog EA e := ents_cons o0 (ents_cons o1 (ents_cons o2 (ents_cons o3 (ents_cons o4 (ents_cons o5 (ents_cons o6 (ents_cons o7 (ents_cons o8 (ents_cons o9 (ents_cons o10 (ents_nil)))))))))))
end Go.Proofs.YtffnpkbopjjdaaaGreatDoor

/-
  THE LAW, its answer by the kernel.
-/
set_option maxRecDepth 100000
namespace Go.Proofs.YtffnpkbopjjdaaaGreatDoor
open Go Go.Eng
theorem kn_true : isTrueT EA L3 40 22 = true := by kernel_rfl
end Go.Proofs.YtffnpkbopjjdaaaGreatDoor

/-
  LOOPS, told by their heads.
-/
set_option maxRecDepth 100000
namespace Go.Proofs.YtffnpkbopjjdaaaGreatDoor
open Go Go.Eng
/-! ### With Awake -/
noncomputable def LW : List Said := [(22, say0 (.bool true))]
theorem LW_ok : ∀ e ∈ LW, SaidG Tryz.prog F3.glob e := saids_cons (XG.g (XG.closedT eA xA nA tabs_ok.mix l3 kn_true) rfl) saids_nil
noncomputable def F4 : Env := F3.say (under (xOf LW))
theorem f4 : EnvOK Tryz.prog F4 := f3.say _
theorem nf4 : NameOK F4 := nf3.say _
theorem xf4 : ExtOK Tryz.prog F4 := xf3.sayL LW_ok
theorem F4sy : F4.sy = true := rfl
noncomputable def Z4 (l : List Nat) : Sy := (Z3 []).on LW l
theorem Z4_ok (l : List Nat) : (Z4 l).ok F4 := Sy.on_ok (Z3_ok _)
end Go.Proofs.YtffnpkbopjjdaaaGreatDoor

/-
  LOOPS, told by their heads.
-/
set_option maxRecDepth 100000
namespace Go.Proofs.YtffnpkbopjjdaaaGreatDoor
open Go Go.Eng
theorem mrks_start (c : tChart.den) (x : tLook.den) : adv F4 (Z4 []) 3000 (startC F4 5 [tChart.av c, tLook.av x] 8) = (bif !ieq (colS c x.fst x.snd.fst).fst (colS c x.fst x.snd.fst).fst then some (.done (.bool (false))) else (bif !ieq (colS c x.fst x.snd.fst).snd (colS c x.fst x.snd.fst).snd then some (.done (.bool (false))) else (bif !ieq (seeS c x.fst x.snd.fst x.snd.snd.fst.fst x.snd.snd.fst.snd.fst).fst (seeS c x.fst x.snd.fst x.snd.snd.fst.fst x.snd.snd.fst.snd.fst).fst then some (.done (.bool (false))) else (bif !ieq (seeS c x.fst x.snd.fst x.snd.snd.fst.fst x.snd.snd.fst.snd.fst).snd (seeS c x.fst x.snd.fst x.snd.snd.fst.fst x.snd.snd.fst.snd.fst).snd then some (.done (.bool (false))) else (bif (pntS c x.fst x.snd.fst x.snd.snd.snd.fst.fst.fst x.snd.snd.snd.fst.fst.snd.fst x.snd.snd.snd.fst.snd.fst.fst x.snd.snd.snd.fst.snd.fst.snd.fst).fst.length.ble 1000 then (bif intsS (pntS c x.fst x.snd.fst x.snd.snd.snd.fst.fst.fst x.snd.snd.snd.fst.fst.snd.fst x.snd.snd.snd.fst.snd.fst.fst x.snd.snd.snd.fst.snd.fst.snd.fst).fst (pntS c x.fst x.snd.fst x.snd.snd.snd.fst.fst.fst x.snd.snd.snd.fst.fst.snd.fst x.snd.snd.snd.fst.snd.fst.fst x.snd.snd.snd.fst.snd.fst.snd.fst).fst then (bif ieq (pntS c x.fst x.snd.fst x.snd.snd.snd.fst.fst.fst x.snd.snd.snd.fst.fst.snd.fst x.snd.snd.snd.fst.snd.fst.fst x.snd.snd.snd.fst.snd.fst.snd.fst).snd (pntS c x.fst x.snd.fst x.snd.snd.snd.fst.fst.fst x.snd.snd.snd.fst.fst.snd.fst x.snd.snd.snd.fst.snd.fst.fst x.snd.snd.snd.fst.snd.fst.snd.fst).snd then some (.done (.bool (true))) else some (.done (.bool (false)))) else some (.done (.bool (false)))) else none))))) := by kernel_rfl
/-! ### The law ChartMarks finds true -/
theorem marks_true (c : tChart.den) (x : tLook.den) : ∃ σ, callN F4 (8 + 1) 5 [tChart.av c, tLook.av x] .empty [] [] = some (.bool true, σ, []) := by
  have h := mrks_start c x
  have hl : ((pntS c x.1 x.2.1 x.2.2.2.1.1.1 x.2.2.2.1.1.2.1 x.2.2.2.1.2.1.1 x.2.2.2.1.2.1.2.1).1.length).ble 1000 = true := Nat.ble_eq_true_of_le (by have := pntS_len c x.1 x.2.1 x.2.2.2.1.1.1 x.2.2.2.1.1.2.1 x.2.2.2.1.2.1.1 x.2.2.2.1.2.1.2.1; omega)
  simp only [ieq_self, hl, intsS_self, Bool.not_true, cond_true, cond_false] at h
  exact adv_true (Z4_ok _) F4sy (ext_none (by kernel_rfl)) (hasB_spec (by kernel_rfl)) h
end Go.Proofs.YtffnpkbopjjdaaaGreatDoor


namespace Go.Proofs.YtffnpkbopjjdaaaGreatDoor
open Go Go.ChangeShapes Go.WideShapes Go.Eng

theorem kOwn : ownKnob Tryz.prog.godebug = none := by kernel_rfl
theorem kPlain : (Rows.chartMarksRow.laid.all fun x => x.2.handleName?.isNone) = true := by kernel_rfl
theorem kLaid : allT (glB Tryz.prog Rows.chartMarksRow.laid) T0.gl (fun k => k) = true := by kernel_rfl
theorem kParams : Tryz.f5.params = #[25, 50] := by kernel_rfl
theorem kResults : Tryz.f5.resultTypes = #[4] := by kernel_rfl
theorem kLaidOut : laidOutB Tryz.prog = true := by kernel_rfl
theorem kRead : Tryz.f5.params.toList.all (fun t => Tryz.prog.readableRec t && decide (t < Tryz.prog.types.size)) = true := by kernel_rfl
theorem kFit1 : fits Tryz.prog (tChart) 25 = true := by kernel_rfl
theorem kFit2 : fits Tryz.prog (tLook) 50 = true := by kernel_rfl
theorem kGlob : F4.glob = T0.gl.get := rfl
theorem kExt (c1 : (tChart : Ty).den) (c2 : (tLook : Ty).den) : F4.ext 5 [tChart.av c1, tLook.av c2] = none := ext_none (by kernel_rfl)

set_option maxRecDepth 100000 in
theorem kLifted (os : Os) (started : os.Started) (H : Type) (enc : TypeId × Value → H) :
    ReturnsInHanded {} Tryz.checked os 5 .any (fun w args => (Rows.chartMarksSpec.pre enc Tryz.prog Tryz.f5 [] false w args ∧ laidMetH Tryz.prog Rows.chartMarksRow.laid w) ∧ sizedMet enc Tryz.prog Tryz.f5 (OpenSpec.ofChange Rows.chartMarksSpec) false w args)
      (Rows.chartMarksSpec.post enc Tryz.prog Tryz.f5 false true false false) := by
  refine returnsInHanded_of_change_and (C := Tryz.checked) (X := fun w _ => laidMetH Tryz.prog Rows.chartMarksRow.laid w) (fun _ _ _ hh h => h.of_heap hh) kOwn started (by kernel_rfl) Tryz.func5
    (ChangeSpec.witness_shaped (enc := enc) (C := Tryz.checked) (os := os) (X := fun w _ => laidMetH Tryz.prog Rows.chartMarksRow.laid w) false (World.laidAll Tryz.prog os Rows.chartMarksRow.laid) #[.agg #[.slice none 0 0, .slice none 0 0], .agg #[.int .i64 0, .int .i64 0, .int .i64 0, .int .i64 0, .int .i64 0, .int .i64 0, .int .i64 0, .int .i64 0]] 8 (World.laidAll_os _ _ _)
      (World.shaped_of_ZipB (by kernel_rfl) (by kernel_rfl)) (by kernel_rfl) (by kernel_rfl) (by kernel_rfl)
      (by rw [MakeChecks.laidMetH_plain _ _ _ kPlain]; exact laidMet_laidAll _ (by kernel_rfl) (by kernel_rfl))) ?_
  intro W base args ds gs before hok hW _ _ hL _
  have hL' : laidMet Tryz.prog Rows.chartMarksRow.laid W := by rw [← MakeChecks.laidMetH_plain _ _ _ kPlain]; exact hL
  have hW' := hW
  obtain ⟨p, q, hA, _⟩ := hW
  rw [kParams] at hA
  obtain ⟨v1, v2, d1, d2, p1, p2, e1', e2', hp, t1, t2⟩ := trodAll_two hA
  subst e1'; subst e2'
  rw [kParams] at hok
  obtain ⟨c1, h1⟩ := arg_ty (t := tChart) (hok 0 25 v1 rfl rfl) kFit1 t1
  obtain ⟨c2, h2⟩ := arg_ty (t := tLook) (hok 1 50 v2 rfl rfl) kFit2 t2
  obtain ⟨σ, hrun⟩ := marks_true c1 c2
  refine (law_run (A := [v1, v2]) (V := Go.Eng.seen W) f4 xf4 nf4 tabs_ok.mix (kExt c1 c2) hrun (.cons h1 (.cons h2 (.nil _))) (by kernel_rfl) (fun _ _ _ h => h) (glob_of kGlob kLaid hL')).mono fun e W' ⟨he, hf⟩ => ?_
  subst he
  exact ⟨_, rfl, post_law kLaidOut kRead kResults Tryz.underlying4 rfl rfl hW' hf⟩

theorem kHolds : Rows.ChartMarksSaid :=
  OpenClaim.holds_of_wide 5 Tryz.f5 rfl rfl rfl rfl rfl rfl rfl ⟨rfl, rfl, rfl, rfl, rfl⟩ rfl rfl rfl rfl rfl (by kernel_rfl) Tryz.func5 (by kernel_rfl)
    (of_decide_eq_true (by kernel_rfl)) (by unfold Func.isWrapper; first | (rw [if_pos (by decide +kernel)]; kernel_rfl) | (rw [if_neg (by decide +kernel)]; exact ⟨rfl, rfl⟩))
    (fun os started H enc _ => kLifted os started H enc)

/-- The tied card. -/
theorem chartMarks_holds : Rows.ChartMarksCardSaid :=
  Claim7.holds_tied_plain_at .later [] Rows.chartMarksCard.laidKinds true Rows.chartMarksCard.stood.harness true
    kHolds (fun _ h => by cases h) (by kernel_rfl) (fun _ h => by cases h) chartMarks_row_tie rfl ⟨rfl, rfl⟩ (by kernel_rfl) rfl
    (fun f fn hf hfn => by
      obtain rfl : f = 5 := Option.some.inj ((show Tryz.prog.funcNamed "nore/norelaw01.ChartMarks" = some 5 by kernel_rfl).symm.trans hf) |>.symm
      obtain rfl : fn = Tryz.f5 := (Option.some.inj (Tryz.func5.symm.trans hfn)).symm
      exact ⟨by kernel_rfl, fun j t ht => by
        rw [kParams] at ht
        rcases j with _ | _ | j <;> simp at ht <;> subst ht <;> kernel_rfl⟩)
    (by kernel_rfl)
#print axioms chartMarks_holds
end Go.Proofs.YtffnpkbopjjdaaaGreatDoor

