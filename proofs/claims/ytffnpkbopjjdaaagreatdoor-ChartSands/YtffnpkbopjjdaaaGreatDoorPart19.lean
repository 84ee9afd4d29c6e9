/-
  What is proved: norelaw01.ChartSands returns true for every chart, place and radius: On, Clear and Radius of the program return what the reference says. Conditions: none but those of the given card (package-level variables start as the program's text lays them).
-/
import Derived.Test.YtffnpkbopjjdaaaGreatDoorPart07
import Derived.Test.YtffnpkbopjjdaaaGreatDoorPart08
import Derived.Test.YtffnpkbopjjdaaaGreatDoorPart09
import Derived.Test.YtffnpkbopjjdaaaGreatDoorPart10
import Derived.Test.YtffnpkbopjjdaaaGreatDoorPart11
import Derived.Test.YtffnpkbopjjdaaaGreatDoorPart12
import Derived.Test.YtffnpkbopjjdaaaGreatDoorPart18
import Derived.Test.YtffnpkbopjjdaaaGreatDoorPart13
import Derived.Test.YtffnpkbopjjdaaaGreatDoorPart14
import Derived.Test.YtffnpkbopjjdaaaGreatDoorPart15
import Derived.Test.YtffnpkbopjjdaaaGreatDoorPart16
import Derived.Test.YtffnpkbopjjdaaaGreatDoorPart06
import Derived.Test.YtffnpkbopjjdaaaGreatDoorRows
import Derived.Test.YtffnpkbopjjdaaaGreatDoorCards
import Derived.Test.YtffnpkbopjjdaaaGreatDoorTie
import Derived.ProofKit
import Derived.LaidMore
import Derived.OpenShut
import Derived.Stop.Joined
import Derived.Lay
import Derived.SevenTiedAt
set_option linter.unusedSectionVars false
set_option linter.unusedSimpArgs false
set_option linter.unusedVariables false
set_option maxRecDepth 100000
namespace Go.Proofs.YtffnpkbopjjdaaaGreatDoor
open Go Go.Eng
noncomputable def L3 : List Ent := [c0, c1, c2, c3, c4, c5, c6, c7, c8, c9, c10]
theorem l3 : ∀ e ∈ L3, EntOK Tryz.prog EA e := ents_cons o0 (ents_cons o1 (ents_cons o2 (ents_cons o3 (ents_cons o4 (ents_cons o5 (ents_cons o6 (ents_cons o7 (ents_cons o8 (ents_cons o9 (ents_cons o10 (ents_nil)))))))))))
end Go.Proofs.YtffnpkbopjjdaaaGreatDoor


set_option maxRecDepth 100000
namespace Go.Proofs.YtffnpkbopjjdaaaGreatDoor
open Go Go.Eng
theorem kn_true : isTrueT EA L3 40 22 = true := by kernel_rfl
end Go.Proofs.YtffnpkbopjjdaaaGreatDoor


set_option maxRecDepth 100000
namespace Go.Proofs.YtffnpkbopjjdaaaGreatDoor
open Go Go.Eng
noncomputable def lOn : List AV → Option (Bool × AV) := con2 tChart tP (fun _ _ => true) (fun c p => tupS (onS c p.1 p.2.1))
noncomputable def lCl : List AV → Option (Bool × AV) := con3 tChart tP tI (fun _ _ _ => true) (fun c p r => tupC (cleS c p.1 p.2.1 r))
noncomputable def lRa : List AV → Option (Bool × AV) := con2 tChart tP (fun _ _ => true) (fun c p => .tup [.int .i64 (radS c p.1 p.2.1).1, .int .i64 (radS c p.1 p.2.1).2])
noncomputable def LT : List Said := [(23, lOn), (24, lOn), (26, lCl), (27, lCl), (28, lRa), (29, lRa), (25, con2 (.sl tI) (.sl tI) (fun a _ => Nat.ble a.2.length 1000) (fun a b => .bool (intzS a.2 b.2))), (22, say0 (.bool true))]
theorem LT_ok : ∀ e ∈ LT, SaidG Tryz.prog N4.glob e :=
 saids_cons (SaidOK.g h2 xh2 nh2 tabs_ok.mix (fun _ _ h => con2_spec (t := tChart) (u := tP) (fun c p _ => on_call c p.1 p.2.1) h) rfl)
 (saids_cons (SaidOK.g h2 xh2 nh2 tabs_ok.mix (fun _ _ h => con2_spec (t := tChart) (u := tP) (fun c p _ => ron_call c p.1 p.2.1) h) rfl)
 (saids_cons (SaidOK.g en4 xn4 nn4 tabs_ok.mix (fun _ _ h => con3_spec (t := tChart) (u := tP) (w := tI) (fun c p r _ => clea_call c p r) h) rfl)
 (saids_cons (SaidOK.g en4 xn4 nn4 tabs_ok.mix (fun _ _ h => con3_spec (t := tChart) (u := tP) (w := tI) (fun c p r _ => rcle_call c p r) h) rfl)
 (saids_cons (SaidOK.g en4 xn4 nn4 tabs_ok.mix (fun _ _ h => con2_spec (t := tChart) (u := tP) (fun c p _ => radi_call c p) h) rfl)
 (saids_cons (SaidOK.g en4 xn4 nn4 tabs_ok.mix (fun _ _ h => con2_spec (t := tChart) (u := tP) (fun c p _ => rrad_call c p) h) rfl)
 (saids_cons (SaidOK.g h2 xh2 nh2 tabs_ok.mix (fun _ _ h => con2_spec (t := .sl tI) (u := .sl tI) (fun a b hc => intz_call a b (by have := Nat.le_of_ble_eq_true hc; omega)) h) rfl)
 (saids_cons (XG.g (XG.closedT eA xA nA tabs_ok.mix l3 kn_true) rfl) saids_nil)))))))
noncomputable def N5 : Env := N4.say (under (xOf LT))
theorem en5 : EnvOK Tryz.prog N5 := en4.say _
theorem nn5 : NameOK N5 := nn4.say _
theorem xn5 : ExtOK Tryz.prog N5 := xn4.sayL LT_ok
theorem N5sy : N5.sy = true := rfl
noncomputable def V5 (l : List Nat) : Sy := (V4 []).on LT l
theorem V5_ok (l : List Nat) : (V5 l).ok N5 := Sy.on_ok (V4_ok _)
end Go.Proofs.YtffnpkbopjjdaaaGreatDoor


set_option maxRecDepth 100000
namespace Go.Proofs.YtffnpkbopjjdaaaGreatDoor
open Go Go.Eng
theorem snds_start (c : tChart.den) (p : tP.den) (r : Int) : adv N5 (V5 []) 3000 (startC N5 4 [tChart.av c, tP.av p, .int .i64 r] 8) = (bif (onS c p.1 p.2.1).1.1.length.ble 1000 then (bif !intzS (onS c p.1 p.2.1).1.1 (onS c p.1 p.2.1).1.1 then some (.done (.bool (false))) else (bif (onS c p.1 p.2.1).1.2.length.ble 1000 then (bif !intzS (onS c p.1 p.2.1).1.2 (onS c p.1 p.2.1).1.2 then some (.done (.bool (false))) else (bif !ieq (onS c p.1 p.2.1).2 (onS c p.1 p.2.1).2 then some (.done (.bool (false))) else (bif !ieq (cleS c p.1 p.2.1 r).1 (cleS c p.1 p.2.1 r).1 then some (.done (.bool (false))) else (bif !(ieq (cleS c p.1 p.2.1 r).2.1 (cleS c p.1 p.2.1 r).2.1 && (ieq (cleS c p.1 p.2.1 r).2.2.1 (cleS c p.1 p.2.1 r).2.2.1 && true)) then some (.done (.bool (false))) else (bif !ieq (cleS c p.1 p.2.1 r).2.2.2 (cleS c p.1 p.2.1 r).2.2.2 then some (.done (.bool (false))) else (bif ieq (radS c p.1 p.2.1).1 (radS c p.1 p.2.1).1 then (bif ieq (radS c p.1 p.2.1).2 (radS c p.1 p.2.1).2 then some (.done (.bool (true))) else some (.done (.bool (false)))) else some (.done (.bool (false))))))))) else none)) else none) := by kernel_rfl
theorem onF_len {c : tChart.den} {px py : Int} : ∀ (r k : Nat) (s t : List Int), (onF c px py s t k r).1.length ≤ s.length + r ∧ (onF c px py s t k r).2.length ≤ t.length + r
 | 0, _, _, _ => ⟨Nat.le_refl _, Nat.le_refl _⟩
 | r + 1, k, s, t => by
  rw [onF]
  obtain ⟨a, b⟩ := onF_len (c := c) (px := px) (py := py) r (k + 1) (bif allS (sd c k) px py then s ++ [(k : Int)] else s) (bif anyS (sd c k) px py then t ++ [(k : Int)] else t)
  have a2 : (bif allS (sd c k) px py then s ++ [(k : Int)] else s).length ≤ s.length + 1 := by cases allS (sd c k) px py <;> simp
  have b2 : (bif anyS (sd c k) px py then t ++ [(k : Int)] else t).length ≤ t.length + 1 := by cases anyS (sd c k) px py <;> simp
  exact ⟨by omega, by omega⟩
theorem onS_len (c : tChart.den) (px py : Int) : (onS c px py).1.1.length ≤ 4 ∧ (onS c px py).1.2.length ≤ 4 := by
 unfold onS
 cases c1 : ieq (chkS c).2.2 0 with
 | false => exact ⟨Nat.zero_le _, Nat.zero_le _⟩
 | true =>
  cases in10 px && in10 py with
  | false => exact ⟨Nat.zero_le _, Nat.zero_le _⟩
  | true =>
   have h4 := (valid_sands (ieq_t' c1)).1
   obtain ⟨a, b⟩ := onF_len (c := c) (px := px) (py := py) c.2.1.2.length 0 [] []
   simp only [cond_true, List.length_nil] at a b ⊢
   exact ⟨by omega, by omega⟩
theorem sands_true (c : tChart.den) (p : tP.den) (r : Int) : ∃ σ, callN N5 (8 + 1) 4 [tChart.av c, tP.av p, .int .i64 r] .empty [] [] = some (.bool true, σ, []) := by
 have h := snds_start c p r
 obtain ⟨a, b⟩ := onS_len c p.1 p.2.1
 have ha : (onS c p.1 p.2.1).1.1.length.ble 1000 = true := Nat.ble_eq_true_of_le (by omega)
 have hb : (onS c p.1 p.2.1).1.2.length.ble 1000 = true := Nat.ble_eq_true_of_le (by omega)
 simp only [ha, hb, intzS_self, ieq_self, Bool.not_true, Bool.and_self, cond_true, cond_false] at h
 exact adv_true (V5_ok _) N5sy (ext_none (by kernel_rfl)) (hasB_spec (by kernel_rfl)) h
theorem n5 : EnvOK Tryz.prog N5 := en5
end Go.Proofs.YtffnpkbopjjdaaaGreatDoor


namespace Go.Proofs.YtffnpkbopjjdaaaGreatDoor
open Go Go.ChangeShapes Go.WideShapes Go.Eng
theorem kOwn : ownKnob Tryz.prog.godebug = none := by kernel_rfl
theorem kPlain : (Rows.chartSandsRow.laid.all fun x => x.2.handleName?.isNone) = true := by kernel_rfl
theorem kLaid : allT (glB Tryz.prog Rows.chartSandsRow.laid) T0.gl (fun k => k) = true := by kernel_rfl
theorem kParams : Tryz.f4.params = #[25, 27, 3] := by kernel_rfl
theorem kResults : Tryz.f4.resultTypes = #[4] := by kernel_rfl
theorem kLaidOut : laidOutB Tryz.prog = true := by kernel_rfl
theorem kRead : Tryz.f4.params.toList.all (fun t => Tryz.prog.readableRec t && decide (t < Tryz.prog.types.size)) = true := by kernel_rfl
theorem kFit1 : fits Tryz.prog (tChart) 25 = true := by kernel_rfl
theorem kFit2 : fits Tryz.prog (tP) 27 = true := by kernel_rfl
theorem kFit3 : fits Tryz.prog (tI) 3 = true := by kernel_rfl
theorem kGlob : N5.glob = T0.gl.get := rfl
theorem kExt (c1 : (tChart).den) (c2 : (tP).den) (c3 : Int) : N5.ext 4 [tChart.av c1, tP.av c2, .int .i64 c3] = none := ext_none (by kernel_rfl)
set_option maxRecDepth 100000 in
theorem kLifted (os : Os) (started : os.Started) (H : Type) (enc : TypeId × Value → H) :
  ReturnsInHanded {} Tryz.checked os 4 .any (fun w args => (Rows.chartSandsSpec.pre enc Tryz.prog Tryz.f4 [] false w args ∧ laidMetH Tryz.prog Rows.chartSandsRow.laid w) ∧ sizedMet enc Tryz.prog Tryz.f4 (OpenSpec.ofChange Rows.chartSandsSpec) false w args)
   (Rows.chartSandsSpec.post enc Tryz.prog Tryz.f4 false true false false) := by
 refine returnsInHanded_of_change_and (C := Tryz.checked) (X := fun w _ => laidMetH Tryz.prog Rows.chartSandsRow.laid w) (fun _ _ _ hh h => h.of_heap hh) kOwn started (by kernel_rfl) Tryz.func4
  (ChangeSpec.witness_shaped (enc := enc) (C := Tryz.checked) (os := os) (X := fun w _ => laidMetH Tryz.prog Rows.chartSandsRow.laid w) false (World.laidAll Tryz.prog os Rows.chartSandsRow.laid) #[.agg #[.slice none 0 0, .slice none 0 0], .agg #[.int .i64 0, .int .i64 0], .int .i64 0] 8 (World.laidAll_os _ _ _)
   (World.shaped_of_ZipB (by kernel_rfl) (by kernel_rfl)) (by kernel_rfl) (by kernel_rfl) (by kernel_rfl)
   (by rw [MakeChecks.laidMetH_plain _ _ _ kPlain]; exact laidMet_laidAll _ (by kernel_rfl) (by kernel_rfl))) ?_
 intro W base args ds gs before hok hW _ _ hL _
 have hL' : laidMet Tryz.prog Rows.chartSandsRow.laid W := by rw [← MakeChecks.laidMetH_plain _ _ _ kPlain]; exact hL
 have hW' := hW
 obtain ⟨p, q, hA, _⟩ := hW
 rw [kParams] at hA
 obtain ⟨v1, v2, v3, d1, d2, d3, p1, p2, p3, e1', e2', hp, t1, t2, t3⟩ := trodAll_three hA
 subst e1'; subst e2'
 rw [kParams] at hok
 obtain ⟨c1, h1, w1⟩ := arg_ty (t := tChart) (hok 0 25 v1 rfl rfl) kFit1 t1
 obtain ⟨c2, h2, w2⟩ := arg_ty (t := tP) (hok 1 27 v2 rfl rfl) kFit2 t2
 obtain ⟨c3, h3, w3⟩ := arg_ty (t := tI) (hok 2 3 v3 rfl rfl) kFit3 t3
 obtain ⟨σ, hrun⟩ := sands_true c1 c2 c3
 refine (law_run (A := [v1, v2, v3]) (V := Go.Eng.seen W) n5 xn5 nn5 tabs_ok.mix (kExt c1 c2 c3) hrun (.cons h1 (.cons h2 (.cons h3 (.nil _)))) (by kernel_rfl) (fun _ _ _ h => h) (glob_of kGlob kLaid hL')).mono fun e W' ⟨he, hf⟩ => ?_
 subst he
 exact ⟨_, rfl, post_law kLaidOut kRead kResults Tryz.underlying4 rfl rfl hW' hf⟩
theorem kHolds : Rows.ChartSandsSaid :=
 OpenClaim.holds_of_wide 4 Tryz.f4 rfl rfl rfl rfl rfl rfl rfl ⟨rfl, rfl, rfl, rfl, rfl⟩ rfl rfl rfl rfl rfl (by kernel_rfl) Tryz.func4 (by kernel_rfl)
  (of_decide_eq_true (by kernel_rfl)) (by unfold Func.isWrapper; first | (rw [if_pos (by decide +kernel)]; kernel_rfl) | (rw [if_neg (by decide +kernel)]; exact ⟨rfl, rfl⟩))
  (fun os started H enc _ => kLifted os started H enc)
theorem chartSands_holds : Rows.ChartSandsCardSaid :=
 Claim7.holds_tied_plain_at .later [] Rows.chartSandsCard.laidKinds true Rows.chartSandsCard.stood.harness true
  kHolds (fun _ h => by cases h) (by kernel_rfl) (fun _ h => by cases h) chartSands_row_tie rfl ⟨rfl, rfl⟩ (by kernel_rfl) rfl
  (fun f fn hf hfn => by
   obtain rfl : f = 4 := Option.some.inj ((show Tryz.prog.funcNamed "nore/norelaw01.ChartSands" = some 4 by kernel_rfl).symm.trans hf) |>.symm
   obtain rfl : fn = Tryz.f4 := (Option.some.inj (Tryz.func4.symm.trans hfn)).symm
   exact ⟨by kernel_rfl, fun j t ht => by
    rw [kParams] at ht
    rcases j with _ | _ | _ | j <;> simp at ht <;> subst ht <;> kernel_rfl⟩)
  (by kernel_rfl)
#print axioms chartSands_holds
end Go.Proofs.YtffnpkbopjjdaaaGreatDoor

