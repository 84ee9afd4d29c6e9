/-
  What is proved: norelaw04.SwingLies returns true for any mooring, look and places. Conditions: none but those of the given card (package-level variables start as the program's text lays them).
-/
import Derived.Test.YtgcgffnamfbcgaaGreatDoorPart06
import Derived.Test.YtgcgffnamfbcgaaGreatDoorPart13
import Derived.Test.YtgcgffnamfbcgaaGreatDoorPart07
import Derived.Test.YtgcgffnamfbcgaaGreatDoorPart14
import Derived.Test.YtgcgffnamfbcgaaGreatDoorPart08
import Derived.Test.YtgcgffnamfbcgaaGreatDoorPart15
import Derived.Test.YtgcgffnamfbcgaaGreatDoorPart09
import Derived.Test.YtgcgffnamfbcgaaGreatDoorPart10
import Derived.Test.YtgcgffnamfbcgaaGreatDoorPart16
import Derived.Test.YtgcgffnamfbcgaaGreatDoorPart11
import Derived.Test.YtgcgffnamfbcgaaGreatDoorPart05
import Derived.Test.YtgcgffnamfbcgaaGreatDoorRows
import Derived.Test.YtgcgffnamfbcgaaGreatDoorCards
import Derived.Test.YtgcgffnamfbcgaaGreatDoorTie
import Derived.ProofKit
import Derived.LaidMore
import Derived.OpenShut
import Derived.Stop.Joined
import Derived.Lay
import Derived.SevenTiedAt
set_option linter.unusedSectionVars false
set_option linter.unusedSimpArgs false
set_option linter.unusedVariables false
/-
  CLOSED CALLS, joined.
-/
set_option maxRecDepth 100000
namespace Go.Proofs.YtgcgffnamfbcgaaGreatDoor
open Go Go.Eng
noncomputable def L3 : List Ent := [c0, c1, c2, c3, c4, c5, c6, c7, c8, c9]
theorem l3 : ∀ e ∈ L3, EntOK Tryz.prog EN e := ents_cons o0 (ents_cons o1 (ents_cons o2 (ents_cons o3 (ents_cons o4 (ents_cons o5 (ents_cons o6 (ents_cons o7 (ents_cons o8 (ents_cons o9 (ents_nil))))))))))
end Go.Proofs.YtgcgffnamfbcgaaGreatDoor

/-
  THE LAW, its answer by the kernel.
-/
set_option maxRecDepth 100000
namespace Go.Proofs.YtgcgffnamfbcgaaGreatDoor
open Go Go.Eng
theorem kn_true : isTrueT EN L3 40 6 = true := by kernel_rfl
end Go.Proofs.YtgcgffnamfbcgaaGreatDoor

/-
  LOOPS, told by their heads.
-/
set_option maxRecDepth 100000
namespace Go.Proofs.YtgcgffnamfbcgaaGreatDoor
open Go Go.Eng
/-! ### The level of the law -/
noncomputable def LX : List Said := [(4, con4 tMo tLk tP tP (fun _ _ _ _ => true) (fun m x a p => tupB (lieS m x a p))), (5, con4 tMo tLk tP tP (fun _ _ _ _ => true) (fun m x a p => tupB (lieS m x a p))), (6, say0 (.bool true))]
theorem LX_ok : ∀ e ∈ LX, SaidG Tryz.prog F4.glob e :=
  saids_cons (SaidOK.g f4 xf4 nf4 tabs_ok.mix (fun _ _ h => con4_spec (t := tMo) (u := tLk) (w := tP) (s := tP) (fun m x a p _ => slie_call m x a p) h) rfl)
  (saids_cons (SaidOK.g f4 xf4 nf4 tabs_ok.mix (fun _ _ h => con4_spec (t := tMo) (u := tLk) (w := tP) (s := tP) (fun m x a p _ => rlie_call m x a p) h) rfl)
  (saids_cons (XG.g (XG.closedT eN xN nN tabs_ok.mix l3 kn_true) rfl) saids_nil))
noncomputable def F5 : Env := F4.say (under (xOf LX))
theorem f5 : EnvOK Tryz.prog F5 := f4.say _
theorem nf5 : NameOK F5 := nf4.say _
theorem xf5 : ExtOK Tryz.prog F5 := xf4.sayL LX_ok
theorem F5sy : F5.sy = true := rfl
noncomputable def Z5 (l : List Nat) : Sy := (Z4 []).on LX l
theorem Z5_ok (l : List Nat) : (Z5 l).ok F5 := Sy.on_ok (Z4_ok _)
end Go.Proofs.YtgcgffnamfbcgaaGreatDoor

/-
  LOOPS, told by their heads.
-/
set_option maxRecDepth 100000
namespace Go.Proofs.YtgcgffnamfbcgaaGreatDoor
open Go Go.Eng
theorem slaw_start (m : tMo.den) (x : tLk.den) (y : tLd.den) : adv F5 (Z5 []) 3000 (startC F5 3 [tMo.av m, tLk.av x, tLd.av y] 8) = (bif (lieS m x y.fst y.snd.fst).fst == (lieS m x y.fst y.snd.fst).fst then (bif ieq (lieS m x y.fst y.snd.fst).snd (lieS m x y.fst y.snd.fst).snd then some (.done (.bool (true))) else some (.done (.bool (false)))) else some (.done (.bool (false)))) := by kernel_rfl
/-! ### The law -/
theorem lies_true (m : tMo.den) (x : tLk.den) (y : tLd.den) : ∃ σ, callN F5 (8 + 1) 3 [tMo.av m, tLk.av x, tLd.av y] .empty [] [] = some (.bool true, σ, []) := by
  refine AnsB.call (ext_none (by kernel_rfl)) (hasB_spec (by kernel_rfl)) ?_
  have h := slaw_start m x y
  simp only [ieq_self, beq_self_eq_true, cond_true] at h
  exact .doneB (Z5_ok _) F5sy h rfl
end Go.Proofs.YtgcgffnamfbcgaaGreatDoor


namespace Go.Proofs.YtgcgffnamfbcgaaGreatDoor
open Go Go.ChangeShapes Go.WideShapes Go.Eng

theorem kOwn : ownKnob Tryz.prog.godebug = none := by kernel_rfl
theorem kPlain : (Rows.swingLiesRow.laid.all fun x => x.2.handleName?.isNone) = true := by kernel_rfl
theorem kLaid : allT (glB Tryz.prog Rows.swingLiesRow.laid) T0.gl (fun k => k) = true := by kernel_rfl
theorem kParams : Tryz.f3.params = #[31, 33, 37] := by kernel_rfl
theorem kResults : Tryz.f3.resultTypes = #[4] := by kernel_rfl
theorem kLaidOut : laidOutB Tryz.prog = true := by kernel_rfl
theorem kRead : Tryz.f3.params.toList.all (fun t => Tryz.prog.readableRec t && decide (t < Tryz.prog.types.size)) = true := by kernel_rfl
theorem kFit1 : fits Tryz.prog (tMo) 31 = true := by kernel_rfl
theorem kFit2 : fits Tryz.prog (tLk) 33 = true := by kernel_rfl
theorem kFit3 : fits Tryz.prog (tLd) 37 = true := by kernel_rfl
theorem kGlob : F5.glob = T0.gl.get := rfl
theorem kExt (c1 : (tMo).den) (c2 : (tLk).den) (c3 : (tLd).den) : F5.ext 3 [tMo.av c1, tLk.av c2, tLd.av c3] = none := ext_none (by kernel_rfl)

set_option maxRecDepth 100000 in
theorem kLifted (os : Os) (started : os.Started) (H : Type) (enc : TypeId × Value → H) :
    ReturnsInHanded {} Tryz.checked os 3 .any (fun w args => (Rows.swingLiesSpec.pre enc Tryz.prog Tryz.f3 [] false w args ∧ laidMetH Tryz.prog Rows.swingLiesRow.laid w) ∧ sizedMet enc Tryz.prog Tryz.f3 (OpenSpec.ofChange Rows.swingLiesSpec) false w args)
      (Rows.swingLiesSpec.post enc Tryz.prog Tryz.f3 false true false false) := by
  refine returnsInHanded_of_change_and (C := Tryz.checked) (X := fun w _ => laidMetH Tryz.prog Rows.swingLiesRow.laid w) (fun _ _ _ hh h => h.of_heap hh) kOwn started (by kernel_rfl) Tryz.func3
    (ChangeSpec.witness_shaped (enc := enc) (C := Tryz.checked) (os := os) (X := fun w _ => laidMetH Tryz.prog Rows.swingLiesRow.laid w) false (World.laidAll Tryz.prog os Rows.swingLiesRow.laid) #[.agg #[.slice none 0 0, .slice none 0 0, .int .i64 0, .int .i64 0, .int .i64 0, .int .i64 0, .int .i64 0, .int .i64 0, .int .i64 0], .agg #[.int .i64 0, .int .i64 0, .int .i64 0, .int .i64 0, .int .i64 0, .int .i64 0, .int .i64 0], .agg #[.int .i64 0, .int .i64 0, .int .i64 0, .int .i64 0]] 8 (World.laidAll_os _ _ _)
      (World.shaped_of_ZipB (by kernel_rfl) (by kernel_rfl)) (by kernel_rfl) (by kernel_rfl) (by kernel_rfl)
      (by rw [MakeChecks.laidMetH_plain _ _ _ kPlain]; exact laidMet_laidAll _ (by kernel_rfl) (by kernel_rfl))) ?_
  intro W base args ds gs before hok hW _ _ hL _
  have hL' : laidMet Tryz.prog Rows.swingLiesRow.laid W := by rw [← MakeChecks.laidMetH_plain _ _ _ kPlain]; exact hL
  have hW' := hW
  obtain ⟨p, q, hA, _⟩ := hW
  rw [kParams] at hA
  obtain ⟨v1, v2, v3, d1, d2, d3, p1, p2, p3, e1', e2', hp, t1, t2, t3⟩ := trodAll_three hA
  subst e1'; subst e2'
  rw [kParams] at hok
  obtain ⟨c1, h1, w1⟩ := arg_ty (t := tMo) (hok 0 31 v1 rfl rfl) kFit1 t1
  obtain ⟨c2, h2, w2⟩ := arg_ty (t := tLk) (hok 1 33 v2 rfl rfl) kFit2 t2
  obtain ⟨c3, h3, w3⟩ := arg_ty (t := tLd) (hok 2 37 v3 rfl rfl) kFit3 t3
  obtain ⟨σ, hrun⟩ := lies_true c1 c2 c3
  refine (law_run (A := [v1, v2, v3]) (V := Go.Eng.seen W) f5 xf5 nf5 tabs_ok.mix (kExt c1 c2 c3) hrun (.cons h1 (.cons h2 (.cons h3 (.nil _)))) (by kernel_rfl) (fun _ _ _ h => h) (glob_of kGlob kLaid hL')).mono fun e W' ⟨he, hf⟩ => ?_
  subst he
  exact ⟨_, rfl, post_law kLaidOut kRead kResults Tryz.underlying4 rfl rfl hW' hf⟩

theorem kHolds : Rows.SwingLiesSaid :=
  OpenClaim.holds_of_wide 3 Tryz.f3 rfl rfl rfl rfl rfl rfl rfl ⟨rfl, rfl, rfl, rfl, rfl⟩ rfl rfl rfl rfl rfl (by kernel_rfl) Tryz.func3 (by kernel_rfl)
    (of_decide_eq_true (by kernel_rfl)) (by unfold Func.isWrapper; first | (rw [if_pos (by decide +kernel)]; kernel_rfl) | (rw [if_neg (by decide +kernel)]; exact ⟨rfl, rfl⟩))
    (fun os started H enc _ => kLifted os started H enc)

/-- The tied card. -/
theorem swingLies_holds : Rows.SwingLiesCardSaid :=
  Claim7.holds_tied_plain_at .later [] Rows.swingLiesCard.laidKinds true Rows.swingLiesCard.stood.harness false
    kHolds (fun _ h => by cases h) (by kernel_rfl) (fun _ h => by cases h) swingLies_row_tie rfl ⟨rfl, rfl⟩ (by kernel_rfl) rfl
    (fun f fn hf hfn => by
      obtain rfl : f = 3 := Option.some.inj ((show Tryz.prog.funcNamed "nore/norelaw04.SwingLies" = some 3 by kernel_rfl).symm.trans hf) |>.symm
      obtain rfl : fn = Tryz.f3 := (Option.some.inj (Tryz.func3.symm.trans hfn)).symm
      exact ⟨by kernel_rfl, fun j t ht => by
        rw [kParams] at ht
        rcases j with _ | _ | _ | j <;> simp at ht <;> subst ht <;> kernel_rfl⟩)
    (by kernel_rfl)
#print axioms swingLies_holds
end Go.Proofs.YtgcgffnamfbcgaaGreatDoor

