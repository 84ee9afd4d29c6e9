/-
  THE ENGINE, 40: the operations of a region, one more in whichever order.
-/
import Derived.Test.YtikipcanjobloaaGreatDoorPart01
import Derived.Orders
import Derived.Test.YtikipcanjobloaaGreatDoorPart00
import Derived.Calls
import Derived.Laws.Externs
import Derived.Lib.Bytealg
import Derived.Lib.BufferWrite
import Derived.Lib.UnsafeStr
import Derived.Laws.MakeOwn
import Derived.Test.YtikipcanjobloaaGreatDoorChecked
set_option linter.unusedSectionVars false
set_option linter.unusedSimpArgs false
set_option linter.unusedVariables false
namespace Go.Eng
open Go

section
variable {E : Env} {call : CallF} {hs : List Hnd} {ops : Array Oper} {n0 : Nat}

theorem oneD_heavy {f : Inf} {o : Oper} {st st' : St} (hc : f.c ≠ 3) (h : oneD E call hs ops n0 f o st = some st') :
    oneOp E call hs ops o st = some st' ∧ ∃ w v, wantedA ops st.τ o = some w ∧ coreO E call hs w (op E st.τ st.σ o.op) st.rnd st.σ st.ds st.Λ = some (v, st'.σ, st'.ds, st'.Λ) ∧ Put st.nt st.τ o.dst v st'.τ ∧ st'.nt = st.nt ∧ st'.rnd = st.rnd := by
  unfold oneD at h
  split at h
  · rename_i e; exact absurd e hc
  · refine ⟨h, ?_⟩
    rw [oneOp_core] at h
    split at h
    · cases h
    · rename_i w hw
      split at h
      · cases h
      · rename_i v σ ds Λ hcr
        obtain ⟨h1, h2⟩ := putS_spec h
        refine ⟨w, v, hw, ?_, h1, by rw [h2], by rw [h2]⟩
        rw [h2]; exact hcr

theorem oneD_of_oneOp {f : Inf} {o : Oper} {st : St} (hc : f.c ≠ 3) : oneD E call hs ops n0 f o st = oneOp E call hs ops o st := by
  unfold oneD
  split
  · rename_i e; exact absurd e hc
  · rfl

theorem oneD_quiet {f : Inf} {o : Oper} {st st' : St} (hcl : cls o.op = 1 ∨ cls o.op = 2) (hc : f.c = cls o.op) (h : oneD E call hs ops n0 f o st = some st') :
    ∃ w v, wantedA ops st.τ o = some w ∧ Put st.nt st.τ o.dst v st'.τ ∧ st' = { st with τ := st'.τ } ∧ (w = true → op E st.τ st.σ o.op = some (.val v st.σ)) ∧ (w = false → v = undefA) := by
  obtain ⟨_, w, v, h1, h2, h3, h4, h5⟩ := oneD_heavy (by rw [hc]; rcases hcl with e | e <;> rw [e] <;> decide) h
  refine ⟨w, v, h1, h3, ?_, fun hw => ?_, fun hw => ?_⟩
  · cases w with
    | false =>
      simp only [coreO, Option.some.injEq, Prod.mk.injEq] at h2
      obtain ⟨_, e1, e2, e3⟩ := h2
      rcases st' with ⟨a, b, c, d, e, g⟩; simp only at e1 e2 e3 h4 h5; subst e1; subst e2; subst e3; subst h4; subst h5; rfl
    | true =>
      simp only [coreO] at h2
      split at h2
      · cases h2
      all_goals
        rename_i hop
      · rename_i v' σ'
        have e0 : σ' = st.σ := by
          rcases hcl with e | e
          · obtain ⟨u, e', _⟩ := look_spec o.op e hop; simp only [Res.val.injEq] at e'; exact e'.2
          · obtain ⟨u, e', _⟩ := pure_spec o.op e hop; simp only [Res.val.injEq] at e'; exact e'.2
        simp only [Option.some.injEq, Prod.mk.injEq] at h2
        obtain ⟨_, e1, e2, e3⟩ := h2
        rw [e0] at e1
        rcases st' with ⟨a, b, c, d, e, g⟩; simp only at e1 e2 e3 h4 h5; subst e1; subst e2; subst e3; subst h4; subst h5; rfl
      all_goals
        rcases hcl with e | e
        · obtain ⟨u, e', _⟩ := look_spec o.op e hop; cases e'
        · obtain ⟨u, e', _⟩ := pure_spec o.op e hop; cases e'
  · subst hw
    simp only [coreO] at h2
    split at h2
    · cases h2
    all_goals
      rename_i hop
    · rename_i v' σ'
      have e0 : σ' = st.σ := by
        rcases hcl with e | e
        · obtain ⟨u, e', _⟩ := look_spec o.op e hop; simp only [Res.val.injEq] at e'; exact e'.2
        · obtain ⟨u, e', _⟩ := pure_spec o.op e hop; simp only [Res.val.injEq] at e'; exact e'.2
      simp only [Option.some.injEq, Prod.mk.injEq] at h2
      rw [hop, e0, h2.1]
    all_goals
      rcases hcl with e | e
      · obtain ⟨u, e', _⟩ := look_spec o.op e hop; cases e'
      · obtain ⟨u, e', _⟩ := pure_spec o.op e hop; cases e'
  · subst hw
    simp only [coreO, Option.some.injEq, Prod.mk.injEq] at h2
    exact h2.1.symm

theorem oneD_alloc {f : Inf} {o : Oper} {st st' : St} (hc : f.c = 3) (h : oneD E call hs ops n0 f o st = some st') :
    ∃ w v, wantedA ops st.τ o = some w ∧ Put st.nt st.τ o.dst v st'.τ ∧ (w = false → v = undefA ∧ st' = { st with τ := st'.τ }) ∧
      (w = true → v = .ptr (n0 + f.k) 0 ∧ ∃ t z, o.op = .alloc t ∧ E.zero t = some z ∧ st' = { st with σ := st.σ.set (n0 + f.k) (.cells false z.cells), τ := st'.τ }) := by
  unfold oneD at h
  split at h
  · split at h
    · cases h
    · rename_i hw
      obtain ⟨h1, h2⟩ := putS_spec h
      exact ⟨false, _, hw, h1, fun _ => ⟨rfl, h2⟩, fun e => (by cases e)⟩
    · rename_i hw
      split at h
      · rename_i t ht
        split at h
        · rename_i z hz
          obtain ⟨h1, h2⟩ := putS_spec h
          exact ⟨true, _, hw, h1, fun e => (by cases e), fun _ => ⟨rfl, t, z, ht, hz, h2⟩⟩
        · cases h
      · cases h
  · rename_i hne
    exact absurd hc (fun e => hne e)

theorem oneD_put {f : Inf} {o : Oper} {st st' : St} (h : oneD E call hs ops n0 f o st = some st') : ∃ v, Put st.nt st.τ o.dst v st'.τ ∧ st'.nt = st.nt ∧ st'.rnd = st.rnd := by
  by_cases hc : f.c = 3
  · obtain ⟨w, v, h1, h2, h3, h4⟩ := oneD_alloc hc h
    refine ⟨v, h2, ?_⟩
    cases w with
    | false => obtain ⟨_, e⟩ := h3 rfl; exact ⟨by rw [e], by rw [e]⟩
    | true => obtain ⟨_, t, z, _, _, e⟩ := h4 rfl; exact ⟨by rw [e], by rw [e]⟩
  · obtain ⟨_, w, v, h1, h2, h3, h4, h5⟩ := oneD_heavy hc h
    exact ⟨v, h3, h4, h5⟩
end

section
variable (E : Env) (call : CallF) (hs : List Hnd) (ops : Array Oper) (n0 : Nat) (T : List Inf) (S : Nat → St)

abbrev ox (x : Nat) : Oper := oo ops.toList x
noncomputable def zval (x : Nat) : AO := .cells false (match (ox ops x).op with | .alloc t => (match E.zero t with | some z => z.cells | none => []) | _ => [])
noncomputable def ALs : List Nat := (List.range ops.size).filter (fun x => Nat.beq (cc T x) 3 && (match wantedA ops (S x).τ (ox ops x) with | some true => true | _ => false))

/-- The operations in the order of the text. -/
structure Txt (ph : Phs) (na : Nat) : Prop where
  fact : ∀ x, x < ops.size → Fact ops.toList T (dstsM ops.toList) x
  run : ∀ i, i < ops.size → oneD E call hs ops n0 (T.getD i default) (ox ops i) (S i) = some (S (i + 1))
  look : ∀ i, i < ops.size → cc T i = 1 → wantedA ops (S i).τ (ox ops i) ≠ some false → lookOK E (ox ops i) i (aa T i) (S i).τ (S (i + 1)).τ none ph = true
  kna : ∀ x, x < ops.size → cc T x = 3 → kk T x < na

inductive PhI : Nat → Phs → Prop
  | base (p : Nat) (h : ∀ x, x < p → cc T x ≠ 0) : PhI p [((S 0).σ, 0, none)]
  | step (p h : Nat) (ph : Phs) (hp : h < p) (h0 : cc T h = 0) (hn : ∀ x, h < x → x < p → cc T x ≠ 0) (t : PhI h ph) : PhI p (((S (h + 1)).σ, aa T h, some h) :: ph)

/-- Some of the operations have been carried out; behind p memory has turned by new variables alone. -/
structure DI (D : Nat → Bool) (X : St) (p : Nat) : Prop where
  lt : ∀ x, D x = true → x < ops.size
  nt : X.nt = (S 0).nt
  rnd : X.rnd = (S 0).rnd
  slot : ∀ k, X.τ.slot k ↔ (S 0).τ.slot k
  done : ∀ i t, D i = true → (ox ops i).dst = some t → X.τ.get t = (S (i + 1)).τ.get t
  rest : ∀ t, (∀ i, D i = true → (ox ops i).dst ≠ some t) → X.τ.get t = (S 0).τ.get t
  closed : ∀ i, D i = true → ∀ j, msHas (aa T i) j = true → D j = true
  ple : p ≤ ops.size
  hvy : ∀ x, x < ops.size → cc T x = 0 → (D x = true ↔ x < p)
  pv : p = 0 ∨ ∃ h, p = h + 1 ∧ cc T h = 0
  ds : X.ds = (S p).ds
  lam : X.Λ = (S p).Λ
  sg : X.σ = setsA (fun x => n0 + kk T x) (zval E ops) (S p).σ ((ALs ops T S).filter (fun x => D x && decide (p ≤ x)))
end

section
variable {E : Env} {call : CallF} {hs : List Hnd} {ops : Array Oper} {n0 : Nat} {T : List Inf} {S : Nat → St} {ph : Phs} {na : Nat}

theorem ox_get {x : Nat} (h : x < ops.size) : ops[x]? = some (ox ops x) := by
  simp [oo, List.getD_eq_getElem?_getD, h]

theorem PhI.mono {p : Nat} {ph : Phs} (h : PhI T S p ph) (hp : cc T p ≠ 0) : PhI T S (p + 1) ph := by
  cases h with
  | base _ h => exact .base _ (fun x hx => by rcases Nat.lt_succ_iff_lt_or_eq.1 hx with e | rfl; exact h x e; exact hp)
  | step _ h ph' h1 h2 h3 h4 => exact .step _ h ph' (by omega) h2 (fun x hx hx' => by rcases Nat.lt_succ_iff_lt_or_eq.1 hx' with e | rfl; exact h3 x hx e; exact hp) h4

theorem Txt.put (h : Txt E call hs ops n0 T S ph na) {i : Nat} (hi : i < ops.size) : ∃ v, Put (S i).nt (S i).τ (ox ops i).dst v (S (i + 1)).τ ∧ (S (i + 1)).nt = (S i).nt ∧ (S (i + 1)).rnd = (S i).rnd := oneD_put (h.run i hi)
theorem Txt.nt (h : Txt E call hs ops n0 T S ph na) : ∀ {i : Nat}, i ≤ ops.size → (S i).nt = (S 0).nt ∧ (S i).rnd = (S 0).rnd
  | 0, _ => ⟨rfl, rfl⟩
  | i + 1, hi => by
    obtain ⟨v, _, h2, h3⟩ := h.put (i := i) (by omega)
    obtain ⟨g1, g2⟩ := h.nt (i := i) (by omega)
    exact ⟨h2.trans g1, h3.trans g2⟩
theorem Txt.slot (h : Txt E call hs ops n0 T S ph na) : ∀ {i : Nat}, i ≤ ops.size → ∀ k, (S i).τ.slot k ↔ (S 0).τ.slot k
  | 0, _, k => Iff.rfl
  | i + 1, hi, k => by
    obtain ⟨v, h1, _, _⟩ := h.put (i := i) (by omega)
    exact (h1.slot k).trans (h.slot (by omega) k)
theorem Txt.keep (h : Txt E call hs ops n0 T S ph na) {j t : Nat} (hd : (ox ops j).dst = some t) : ∀ {i : Nat}, i ≤ ops.size → j < i → (S i).τ.get t = (S (j + 1)).τ.get t
  | 0, _, hj => absurd hj (Nat.not_lt_zero j)
  | i + 1, hi, hj => by
    by_cases e : j = i
    · subst e; rfl
    · obtain ⟨v, h1, _, _⟩ := h.put (i := i) (by omega)
      rw [h1.ne (t := t) (fun hdi => (h.fact i (by omega)).ssa t hdi j (by omega) hd)]
      exact h.keep hd (by omega) (by omega)
theorem Txt.none (h : Txt E call hs ops n0 T S ph na) {t : Nat} : ∀ {i : Nat}, i ≤ ops.size → (∀ j, j < i → (ox ops j).dst ≠ some t) → (S i).τ.get t = (S 0).τ.get t
  | 0, _, _ => rfl
  | i + 1, hi, hj => by
    obtain ⟨v, h1, _, _⟩ := h.put (i := i) (by omega)
    rw [h1.ne (hj i (by omega))]
    exact h.none (by omega) (fun j hj' => hj j (by omega))

theorem ALs_mem {x : Nat} : x ∈ ALs ops T S ↔ x < ops.size ∧ cc T x = 3 ∧ wantedA ops (S x).τ (ox ops x) = some true := by
  unfold ALs
  rw [List.mem_filter, List.mem_range, Bool.and_eq_true]
  refine and_congr Iff.rfl (and_congr ⟨fun h => Nat.eq_of_beq_eq_true h, fun h => by rw [h]; rfl⟩ ?_)
  split
  · rename_i e; exact ⟨fun _ => e, fun _ => rfl⟩
  · rename_i e; exact ⟨fun h => by simp at h, fun h => absurd h e⟩
theorem ALs_nodup : (ALs ops T S).Nodup := List.nodup_range.filter _
theorem Txt.key_ne (h : Txt E call hs ops n0 T S ph na) {x y : Nat} (hx : x < ops.size) (hy : y < ops.size) (h3 : cc T x = 3) (h3' : cc T y = 3) (hne : x ≠ y) : n0 + kk T x ≠ n0 + kk T y := by
  rcases Nat.lt_or_gt_of_ne hne with e | e
  · have := (h.fact y hy).k h3' x e h3; omega
  · have := (h.fact x hx).k h3 y e h3'; omega

/-- Memory, in the order of the text. -/
theorem Txt.mem (h : Txt E call hs ops n0 T S ph na) : ∀ {i : Nat}, i ≤ ops.size → ∃ p, p ≤ i ∧ (∀ x, x < ops.size → cc T x = 0 → (x < i ↔ x < p)) ∧ (p = 0 ∨ ∃ h, p = h + 1 ∧ cc T h = 0) ∧ (S i).ds = (S p).ds ∧ (S i).Λ = (S p).Λ ∧
    (S i).σ = setsA (fun x => n0 + kk T x) (zval E ops) (S p).σ ((ALs ops T S).filter (fun x => decide (x < i) && decide (p ≤ x)))
  | 0, _ => by
    refine ⟨0, Nat.le_refl _, fun x _ _ => Iff.rfl, .inl rfl, rfl, rfl, ?_⟩
    rw [List.filter_eq_nil_iff.2 (fun x _ => by simp)]; rfl
  | i + 1, hi => by
    have hrun := h.run i (by omega)
    have hF := h.fact i (by omega)
    by_cases h0 : cc T i = 0
    · refine ⟨i + 1, Nat.le_refl _, fun x _ _ => Iff.rfl, .inr ⟨i, rfl, h0⟩, rfl, rfl, ?_⟩
      rw [List.filter_eq_nil_iff.2 (fun x _ => by simp only [Bool.and_eq_true, decide_eq_true_eq]; omega)]; rfl
    · obtain ⟨p, g1, g2, g3, g4, g5, g6⟩ := h.mem (i := i) (by omega)
      refine ⟨p, by omega, fun x hx hx0 => ⟨fun hxi => ?_, fun hxp => by omega⟩, g3, ?_⟩
      · have : x ≠ i := fun e => h0 (e ▸ hx0)
        exact (g2 x hx hx0).1 (by omega)
      · by_cases h3 : cc T i = 3
        · obtain ⟨w, v, hw, _, ha, hb⟩ := oneD_alloc h3 hrun
          cases w with
          | false =>
            obtain ⟨_, e⟩ := ha rfl
            refine ⟨by rw [e]; exact g4, by rw [e]; exact g5, ?_⟩
            rw [e]; simp only; rw [g6]
            congr 1
            refine List.filter_congr (fun x hx => ?_)
            obtain ⟨_, _, hxw⟩ := ALs_mem.1 hx
            have : x ≠ i := fun e => by rw [e, hw] at hxw; cases hxw
            have : (x < i) ↔ (x < i + 1) := by omega
            simp only [this]
          | true =>
            obtain ⟨_, t, z, ht, hz, e⟩ := hb rfl
            refine ⟨by rw [e]; exact g4, by rw [e]; exact g5, ?_⟩
            have hiA : i ∈ ALs ops T S := ALs_mem.2 ⟨by omega, h3, hw⟩
            rw [setsA_insert (i := i) (f := fun x => decide (x < i) && decide (p ≤ x)) (g := fun x => decide (x < i + 1) && decide (p ≤ x)) _ ALs_nodup hiA (by simp) (by simp only [Bool.and_eq_true, decide_eq_true_eq]; omega)
              (fun x hx hne => by have : (x < i) ↔ (x < i + 1) := by omega
                                  simp only [this]) (fun x hx hne => h.key_ne (ALs_mem.1 hx).1 (by omega) (ALs_mem.1 hx).2.1 h3 hne)]
            rw [e]; simp only; rw [g6]
            congr 1
            unfold zval; rw [ht]; simp only [hz]
        · have hcl : cls (ox ops i).op = 1 ∨ cls (ox ops i).op = 2 := by
            have hc : cc T i = cls (ox ops i).op := hF.c
            have : ∀ o : Op, cls o = 0 ∨ cls o = 1 ∨ cls o = 2 ∨ cls o = 3 := by
              intro o
              unfold cls
              split <;> first | simp | (split <;> simp)
            rcases this (ox ops i).op with e | e | e | e
            · exact absurd (hc.trans e) h0
            · exact .inl e
            · exact .inr e
            · exact absurd (hc.trans e) h3
          obtain ⟨w, v, _, _, e, _, _⟩ := oneD_quiet hcl hF.c hrun
          refine ⟨by rw [e]; exact g4, by rw [e]; exact g5, ?_⟩
          rw [e]; simp only; rw [g6]
          congr 1
          refine List.filter_congr (fun x hx => ?_)
          have : x ≠ i := fun e => h3 (e ▸ (ALs_mem.1 hx).2.1)
          have : (x < i) ↔ (x < i + 1) := by omega
          simp only [this]
end
end Go.Eng

/-
  THE ENGINE, 41: the step.
-/
namespace Go.Eng
open Go

section
variable {E : Env} {call : CallF} {hs : List Hnd} {ops : Array Oper} {n0 : Nat} {T : List Inf} {S : Nat → St} {ph : Phs} {na : Nat} {D : Nat → Bool} {X : St} {p i : Nat}

theorem lookOK_now {o : Oper} {a am : Nat} {τ τ' : Tmps} {σ : Hp} {hh : Option Nat} {ph : Phs} {nx : Option Nat} (h : ∀ y, nx = some y → msHas a y = false) (hm : msHas am i = false) (hl : lookOK E o i a τ τ' nx ((σ, am, hh) :: ph) = true) : lookSame E o τ τ' σ = true := by
  cases nx with
  | none =>
    simp only [lookOK, hm] at hl
    split at hl
    · rename_i e; exact e
    · cases hl
  | some y =>
    simp only [lookOK, hm, h y rfl] at hl
    split at hl
    · rename_i e; exact e
    · cases hl

/-- What was seen at its time in the text is seen now. -/
theorem PhI.find {q : Nat} {ph : Phs} (h : PhI T S q ph) (hI : DI E ops n0 T S D X p) {o : Oper} {τ τ' : Tmps} (hanc : ∀ j, msHas (aa T i) j = true → D j = true) (hDi : D i = false) :
    ∀ (nx : Option Nat), q ≤ ops.size → (∀ x, q ≤ x → x < ops.size → cc T x = 0 → D x = false) → (∀ y, nx = some y → D y = false) → lookOK E o i (aa T i) τ τ' nx ph = true → lookSame E o τ τ' (S p).σ = true := by
  induction h with
  | base q hq =>
    intro nx hqs hlate hnx hl
    have hp : p = 0 := by
      rcases hI.pv with e | ⟨h, e, h0⟩
      · exact e
      · have hh : h < ops.size := by have := hI.ple; omega
        have hD := (hI.hvy h hh h0).2 (by omega)
        by_cases hlt : h < q
        · exact absurd h0 (hq h hlt)
        · rw [hlate h (by omega) hh h0] at hD; cases hD
    subst hp
    exact lookOK_now (fun y hy => by
      cases e : msHas (aa T i) y with
      | false => rfl
      | true => have := hanc y e; rw [hnx y hy] at this; cases this) (msHas_zero i) hl
  | step q h ph hq h0 hn t ih =>
    intro nx hqs hlate hnx hl
    have hh : h < ops.size := by omega
    cases hDh : D h with
    | true =>
      have hp : p = h + 1 := by
        have h1 := (hI.hvy h hh h0).1 hDh
        rcases hI.pv with e | ⟨h', e, h0'⟩
        · omega
        · have hh' : h' < ops.size := by have := hI.ple; omega
          have hD' := (hI.hvy h' hh' h0').2 (by omega)
          by_cases hlt : h' < q
          · by_cases e2 : h < h'
            · exact absurd h0' (hn h' e2 hlt)
            · omega
          · rw [hlate h' (by omega) hh' h0'] at hD'; cases hD'
      subst hp
      have hm : msHas (aa T h) i = false := by
        cases e : msHas (aa T h) i with
        | false => rfl
        | true => have := hI.closed h hDh i e; rw [hDi] at this; cases this
      exact lookOK_now (fun y hy => by
        cases e : msHas (aa T i) y with
        | false => rfl
        | true => have := hanc y e; rw [hnx y hy] at this; cases this) hm hl
    | false =>
      refine ih (some h) (by omega) (fun x hx hxs hx0 => ?_) (fun y hy => by simp only [Option.some.injEq] at hy; subst hy; exact hDh) ?_
      · by_cases e : x = h
        · subst e; exact hDh
        · by_cases e2 : x < q
          · exact absurd hx0 (hn x (by omega) e2)
          · exact hlate x (by omega) hxs hx0
      · simp only [lookOK] at hl
        split at hl
        · split at hl
          · exact hl
          · cases hl
        · exact hl

theorem DI.anc (h : DI E ops n0 T S D X p) (hF : Fact ops.toList T (dstsM ops.toList) i) (hr : ∀ e ∈ (ox ops i).after.toList, bindsA e = true → D e.on = true) : ∀ j, msHas (aa T i) j = true → D j = true := by
  intro j hj
  obtain ⟨_, e, h1, h2, h3⟩ := hF.anc j hj
  rcases h3 with rfl | h3
  · exact hr e h1 h2
  · exact h.closed _ (hr e h1 h2) j h3

theorem DI.operands (hT : Txt E call hs ops n0 T S ph na) (h : DI E ops n0 T S D X p) (hi : i < ops.size) (hD : D i = false) (hanc : ∀ j, msHas (aa T i) j = true → D j = true) :
    ∀ t, msHas (uses (ox ops i).op) t = true → X.τ.get t = (S i).τ.get t := by
  intro t ht
  by_cases hex : ∃ j, D j = true ∧ (ox ops j).dst = some t
  · obtain ⟨j, hj, hd⟩ := hex
    have hjs := h.lt j hj
    have hji : j < i := by
      rcases Nat.lt_trichotomy j i with e | e | e
      · exact e
      · subst e; rw [hD] at hj; cases hj
      · have hmem : ox ops j ∈ ops.toList := by
          have := ox_get hjs
          rw [← Array.getElem?_toList] at this
          exact List.mem_of_getElem? this
        have := (hT.fact j hjs).u2 t hd (dstsM_spec hmem hd) i e ht
        have := h.closed j hj i this
        rw [hD] at this; cases this
    rw [h.done j t hj hd, hT.keep hd (by omega) hji]
  · rw [h.rest t (fun j hj hd => hex ⟨j, hj, hd⟩), hT.none (i := i) (by omega) (fun j hj hd => hex ⟨j, hanc j ((hT.fact i hi).u1 t ht j hj hd), hd⟩)]

theorem DI.wanted (hT : Txt E call hs ops n0 T S ph na) (h : DI E ops n0 T S D X p) (hi : i < ops.size) (hanc : ∀ j, msHas (aa T i) j = true → D j = true) : wantedA ops X.τ (ox ops i) = wantedA ops (S i).τ (ox ops i) := by
  unfold wantedA
  split
  · rfl
  · rename_i j w hg
    have hj := (hT.fact i hi).guard j w hg
    have hji := ((hT.fact i hi).anc j hj).1
    rw [ox_get (show j < ops.size by omega)]
    simp only [Option.bind_some]
    cases hd : (ox ops j).dst with
    | none => rfl
    | some d =>
      simp only
      rw [h.done j d (hanc j hj) hd, hT.keep hd (show i ≤ ops.size by omega) hji]

/-- One more. -/
theorem DI.more (hT : Txt E call hs ops n0 T S ph na) (h : DI E ops n0 T S D X p) (hi : i < ops.size) (hD : D i = false) (hanc : ∀ j, msHas (aa T i) j = true → D j = true) {X' : St} {p' : Nat} {w : AV} (hnt : X'.nt = X.nt) (hrnd : X'.rnd = X.rnd)
    (hput : Put X.nt X.τ (ox ops i).dst w X'.τ) (hget : ∀ t, (ox ops i).dst = some t → X'.τ.get t = (S (i + 1)).τ.get t) (hple : p' ≤ ops.size)
    (hhvy : ∀ x, x < ops.size → cc T x = 0 → ((D x || decide (x = i)) = true ↔ x < p')) (hpv : p' = 0 ∨ ∃ h, p' = h + 1 ∧ cc T h = 0) (hds : X'.ds = (S p').ds) (hlam : X'.Λ = (S p').Λ)
    (hsg : X'.σ = setsA (fun x => n0 + kk T x) (zval E ops) (S p').σ ((ALs ops T S).filter (fun x => (D x || decide (x = i)) && decide (p' ≤ x)))) :
    DI E ops n0 T S (fun x => D x || decide (x = i)) X' p' := by
  have hor : ∀ {x}, (D x || decide (x = i)) = true → D x = true ∨ x = i := fun h => by simpa using h
  refine ⟨fun x hx => ?_, hnt.trans h.nt, hrnd.trans h.rnd, fun k => (hput.slot k).trans (h.slot k), fun j t hj hd => ?_, fun t ht => ?_, fun j hj k hk => ?_, hple, hhvy, hpv, hds, hlam, hsg⟩
  · rcases hor hx with e | rfl
    · exact h.lt x e
    · exact hi
  · rcases hor hj with e | rfl
    · have hne : (ox ops i).dst ≠ some t := by
        intro hdi
        have hjs := h.lt j e
        rcases Nat.lt_trichotomy j i with g | g | g
        · exact (hT.fact i hi).ssa t hdi j g hd
        · subst g; rw [hD] at e; cases e
        · exact (hT.fact j hjs).ssa t hd i g hdi
      rw [hput.ne hne]; exact h.done j t e hd
    · exact hget t hd
  · have h1 := ht i (by simp)
    rw [hput.ne h1]
    exact h.rest t (fun j hj => ht j (by simp [hj]))
  · rcases hor hj with e | rfl
    · have := h.closed j e k hk; simp [this]
    · have := hanc k hk; simp [this]

theorem DI.step (hT : Txt E call hs ops n0 T S ph na) (hph : PhI T S ops.size ph) (h : DI E ops n0 T S D X p) (hun : ∀ x, x < ops.size → cc T x = 3 → p ≤ x → (S p).σ.get (n0 + kk T x) = none)
    (hi : i < ops.size) (hD : D i = false) (hr : ∀ e ∈ (ox ops i).after.toList, bindsA e = true → D e.on = true) :
    ∃ X' p', oneD E call hs ops n0 (T.getD i default) (ox ops i) X = some X' ∧ DI E ops n0 T S (fun x => D x || decide (x = i)) X' p' ∧ ((p' = p ∧ cc T i ≠ 0) ∨ (cc T i = 0 ∧ p' = i + 1 ∧ X'.σ = (S (i + 1)).σ)) := by
  have hF := hT.fact i hi
  have hrun := hT.run i hi
  have hanc := h.anc hF hr
  have hops := h.operands hT hi hD hanc
  have hw := h.wanted hT hi hanc
  have hnt := (hT.nt (i := i) (by omega))
  have hXnt : X.nt = (S i).nt := h.nt.trans hnt.1.symm
  have hXrnd : X.rnd = (S i).rnd := h.rnd.trans hnt.2.symm
  have hslot : ∀ k, X.τ.slot k ↔ (S i).τ.slot k := fun k => (h.slot k).trans (hT.slot (by omega) k).symm
  have hor : ∀ {x}, (D x || decide (x = i)) = true ↔ D x = true ∨ x = i := by intro x; simp
  by_cases h0 : cc T i = 0
  · -- memory turns
    obtain ⟨_, w, v, h1, h2, h3, h4, h5⟩ := oneD_heavy (by rw [show (T.getD i default).c = 0 from h0]; decide) hrun
    obtain ⟨q, g1, g2, g3, g4, g5, g6⟩ := hT.mem (i := i) (by omega)
    have hbefore : ∀ x, x < ops.size → (cc T x = 0 ∨ cc T x = 3) → x ≠ i → (D x = true ↔ x < i) := by
      intro x hx hc hne
      constructor
      · intro hDx
        rcases Nat.lt_trichotomy x i with e | e | e
        · exact e
        · exact absurd e hne
        · exfalso
          have : msHas (aa T x) i = true := by
            rcases hc with hc | hc
            · exact (hT.fact x hx).ch hc i e (.inl h0)
            · exact (hT.fact x hx).al hc i e h0
          have := h.closed x hDx i this
          rw [hD] at this; cases this
      · intro e; exact hanc x (hF.ch h0 x e hc)
    have hpq : p = q := by
      have key : ∀ x, x < ops.size → cc T x = 0 → (x < p ↔ x < q) := by
        intro x hx hx0
        by_cases e : x = i
        · subst e
          have a1 : ¬ x < p := fun e' => by have := (h.hvy x hx hx0).2 e'; rw [hD] at this; cases this
          have a2 : ¬ x < q := fun e' => by have := (g2 x hx hx0).2 e'; omega
          exact ⟨fun e => absurd e a1, fun e => absurd e a2⟩
        · rw [← h.hvy x hx hx0, hbefore x hx (.inl hx0) e, g2 x hx hx0]
      rcases Nat.lt_trichotomy p q with e | e | e
      · rcases g3 with e' | ⟨y, e', y0⟩
        · omega
        · have := (key y (by omega) y0).2 (by omega); omega
      · exact e
      · rcases h.pv with e' | ⟨y, e', y0⟩
        · omega
        · have := (key y (by have := h.ple; omega) y0).1 (by omega); omega
    subst hpq
    have hσ : X.σ = (S i).σ := by
      rw [h.sg, g6]
      congr 1
      refine List.filter_congr (fun x hx => ?_)
      obtain ⟨hx1, hx2, _⟩ := ALs_mem.1 hx
      have hne : x ≠ i := fun e => by rw [e, h0] at hx2; cases hx2
      have hb := hbefore x hx1 (.inr hx2) hne
      cases hDx : D x with
      | true => have := hb.1 hDx; simp [this]
      | false =>
        have : ¬ x < i := fun e => by rw [hb.2 e] at hDx; cases hDx
        simp [this]
    have hds : X.ds = (S i).ds := h.ds.trans g4.symm
    have hΛ : X.Λ = (S i).Λ := h.lam.trans g5.symm
    rw [show (S i).nt = X.nt from hXnt.symm] at h3
    obtain ⟨τ2, p1, p2⟩ := h3.both (X := X.τ) hslot (w := v) (fun t y ht hy => by
      rw [ht] at h3
      rcases Tr.get_set _ _ _ _ _ (by rw [h3.some.1] at hy; exact hy) with ⟨_, e⟩ | ⟨e, _⟩
      · exact e.symm
      · exact absurd rfl e)
    refine ⟨{ X with τ := τ2, σ := (S (i + 1)).σ, ds := (S (i + 1)).ds, Λ := (S (i + 1)).Λ }, i + 1, ?_, ?_, .inr ⟨h0, rfl, rfl⟩⟩
    · rw [oneD_of_oneOp (by rw [show (T.getD i default).c = 0 from h0]; decide), oneOp_core, hw, h1]
      simp only
      rw [uses_congr (ox ops i).op hops, hσ, hXrnd, hds, hΛ, h2]
      simp only
      rw [Put.putS (τ' := τ2)]
      exact p1
    · refine h.more hT hi hD hanc rfl rfl p1 p2 (by omega) (fun x hx hx0 => ?_) (.inr ⟨i, rfl, h0⟩) rfl rfl ?_
      · rw [hor]
        by_cases e : x = i
        · subst e; exact ⟨fun _ => by omega, fun _ => .inr rfl⟩
        · rw [hbefore x hx (.inl hx0) e]
          exact ⟨fun hh => by rcases hh with hh | hh; omega; exact absurd hh e, fun hh => .inl (by omega)⟩
      · rw [List.filter_eq_nil_iff.2 (fun x hx => ?_)]
        · rfl
        · obtain ⟨hx1, hx2, _⟩ := ALs_mem.1 hx
          have hne : x ≠ i := fun e => by rw [e, h0] at hx2; cases hx2
          have hb := hbefore x hx1 (.inr hx2) hne
          simp only [Bool.and_eq_true, decide_eq_true_eq, hor]
          rintro ⟨hh | hh, hh2⟩
          · have := hb.1 hh; omega
          · exact hne hh
  · have hpi : cc T i = 3 → p ≤ i := by
      intro h3
      rcases h.pv with e | ⟨y, e, y0⟩
      · omega
      · apply Classical.byContradiction
        intro hlt
        have hys : y < ops.size := by have := h.ple; omega
        have hy := (h.hvy y hys y0).2 (by omega)
        have hiy : i < y := by
          have : i ≠ y := fun e => h0 (e ▸ y0)
          omega
        have := h.closed y hy i ((hT.fact y hys).ch y0 i hiy (.inr h3))
        rw [hD] at this; cases this
    have hhv : ∀ x, x < ops.size → cc T x = 0 → ((D x || decide (x = i)) = true ↔ x < p) := by
      intro x hx hx0
      rw [hor, ← h.hvy x hx hx0]
      exact ⟨fun hh => hh.elim (fun e => e) (fun e => absurd (e ▸ hx0) h0), .inl⟩
    have hkeep : ((cc T i = 3 → wantedA ops (S i).τ (ox ops i) ≠ some true)) → (ALs ops T S).filter (fun x => D x && decide (p ≤ x)) = (ALs ops T S).filter (fun x => (D x || decide (x = i)) && decide (p ≤ x)) := by
      intro hnw
      refine List.filter_congr (fun x hx => ?_)
      obtain ⟨hx1, hx2, hx3⟩ := ALs_mem.1 hx
      have hne : x ≠ i := fun e => by subst e; exact hnw hx2 hx3
      simp [hne]
    by_cases h3 : cc T i = 3
    · obtain ⟨w, v, q1, q2, q3, q4⟩ := oneD_alloc h3 hrun
      have q2' := q2
      rw [show (S i).nt = X.nt from hXnt.symm] at q2
      obtain ⟨τ2, p1, p2⟩ := q2.both (X := X.τ) hslot (w := v) (fun t y ht hy => by
        rw [ht] at q2
        rcases Tr.get_set _ _ _ _ _ (by rw [q2.some.1] at hy; exact hy) with ⟨_, e⟩ | ⟨e, _⟩
        · exact e.symm
        · exact absurd rfl e)
      cases w with
      | false =>
        obtain ⟨rfl, _⟩ := q3 rfl
        refine ⟨{ X with τ := τ2 }, p, ?_, ?_, .inl ⟨rfl, h0⟩⟩
        · unfold oneD
          rw [show (T.getD i default).c = 3 from h3]
          simp only
          rw [hw, q1]
          exact Put.putS p1
        · exact h.more hT hi hD hanc rfl rfl p1 p2 h.ple hhv h.pv h.ds h.lam (by rw [← hkeep (fun _ e => by rw [q1] at e; cases e)]; exact h.sg)
      | true =>
        obtain ⟨rfl, t, z, ht, hz, _⟩ := q4 rfl
        refine ⟨{ X with σ := X.σ.set (n0 + kk T i) (.cells false z.cells), τ := τ2 }, p, ?_, ?_, .inl ⟨rfl, h0⟩⟩
        · unfold oneD
          rw [show (T.getD i default).c = 3 from h3]
          simp only
          rw [hw, q1]
          simp only
          rw [ht]
          simp only [hz]
          exact Put.putS (st := { X with σ := X.σ.set (n0 + kk T i) (.cells false z.cells) }) p1
        · refine h.more hT hi hD hanc rfl rfl p1 p2 h.ple hhv h.pv h.ds h.lam ?_
          have hiA : i ∈ ALs ops T S := ALs_mem.2 ⟨hi, h3, q1⟩
          have hpi' := hpi h3
          rw [setsA_insert (i := i) (f := fun x => D x && decide (p ≤ x)) (g := fun x => (D x || decide (x = i)) && decide (p ≤ x)) _ ALs_nodup hiA (by simp [hD]) (by simp [hpi'])
            (fun x hx hne => by simp [hne]) (fun x hx hne => hT.key_ne (ALs_mem.1 hx).1 hi (ALs_mem.1 hx).2.1 h3 hne)]
          simp only; rw [h.sg]
          congr 1
          unfold zval; rw [ht]; simp only [hz]
    · have hcl : cls (ox ops i).op = 1 ∨ cls (ox ops i).op = 2 := by
        have hc : cc T i = cls (ox ops i).op := hF.c
        have : ∀ o : Op, cls o = 0 ∨ cls o = 1 ∨ cls o = 2 ∨ cls o = 3 := by
          intro o
          unfold cls
          split <;> first | simp | (split <;> simp)
        rcases this (ox ops i).op with e | e | e | e
        · exact absurd (hc.trans e) h0
        · exact .inl e
        · exact .inr e
        · exact absurd (hc.trans e) h3
      obtain ⟨w, v, q1, q2, q3, q4, q5⟩ := oneD_quiet hcl hF.c hrun
      have q2' := q2
      rw [show (S i).nt = X.nt from hXnt.symm] at q2
      have hc3 : (T.getD i default).c ≠ 3 := h3
      -- the value, now
      obtain ⟨u, hu1, hu2⟩ : ∃ u, (∀ t y, (ox ops i).dst = some t → (S (i + 1)).τ.get t = some y → u = y) ∧ coreO E call hs w (op E X.τ X.σ (ox ops i).op) X.rnd X.σ X.ds X.Λ = some (u, X.σ, X.ds, X.Λ) := by
        have hval : ∀ t y, (ox ops i).dst = some t → (S (i + 1)).τ.get t = some y → v = y := by
          intro t y ht hy
          rw [ht] at q2
          rcases Tr.get_set _ _ _ _ _ (by rw [q2.some.1] at hy; exact hy) with ⟨_, e⟩ | ⟨e, _⟩
          · exact e.symm
          · exact absurd rfl e
        cases w with
        | false => obtain rfl := q5 rfl; exact ⟨undefA, hval, rfl⟩
        | true =>
          have hop := q4 rfl
          rcases hcl with h1 | h2
          · have hlk := hT.look i hi (hF.c.trans h1) (by rw [q1]; simp)
            have hs := hph.find h (o := ox ops i) hanc hD none (Nat.le_refl _) (fun x hx hx' => by omega) (fun y hy => by cases hy) hlk
            unfold lookSame at hs
            split at hs
            · rename_i u σ' hop'
              obtain ⟨u', e1, e2⟩ := look_spec _ h1 hop'
              simp only [Res.val.injEq] at e1; obtain ⟨rfl, rfl⟩ := e1
              have hle : (S p).σ.le X.σ := by
                rw [h.sg]
                refine setsA_le _ (ALs_nodup.filter _) (fun x hx => ?_) (fun x hx y hy hne => ?_)
                · obtain ⟨hx1, hx2⟩ := List.mem_filter.1 hx
                  obtain ⟨hx3, hx4, _⟩ := ALs_mem.1 hx1
                  simp only [Bool.and_eq_true, decide_eq_true_eq] at hx2
                  exact hun x hx3 hx4 hx2.2
                · obtain ⟨hx3, hx4, _⟩ := ALs_mem.1 (List.mem_filter.1 hx).1
                  obtain ⟨hy3, hy4, _⟩ := ALs_mem.1 (List.mem_filter.1 hy).1
                  exact hT.key_ne hx3 hy3 hx4 hy4 hne
              have e3 := e2 X.σ hle
              rw [← uses_congr (ox ops i).op hops] at e3
              refine ⟨u, fun t y ht hy => ?_, by simp only [coreO, e3]⟩
              rw [ht] at hs
              simp only [hy] at hs
              exact (avbeq_eq _ _ hs).symm
            · cases hs
          · obtain ⟨u', e1, e2⟩ := pure_spec _ h2 hop
            simp only [Res.val.injEq] at e1
            have e3 := e2 X.σ
            rw [← uses_congr (ox ops i).op hops] at e3
            exact ⟨u', fun t y ht hy => by rw [← e1.1]; exact hval t y ht hy, by simp only [coreO, e3]⟩
      obtain ⟨τ2, p1, p2⟩ := q2.both (X := X.τ) hslot (w := u) hu1
      refine ⟨{ X with τ := τ2 }, p, ?_, ?_, .inl ⟨rfl, h0⟩⟩
      · rw [oneD_of_oneOp hc3, oneOp_core, hw, q1]
        simp only
        rw [hu2]
        exact Put.putS p1
      · exact h.more hT hi hD hanc rfl rfl p1 p2 h.ple hhv h.pv h.ds h.lam (by rw [← hkeep (fun e => absurd e h3)]; exact h.sg)
end
end Go.Eng

/-
  THE ENGINE, 42: regions whose order is drawn do what the engine says.
-/
namespace Go.Eng
open Go

attribute [local irreducible] upTo

section
variable (E : Env) (call : CallF) (hs : List Hnd) (ops : Array Oper) (n0 : Nat) (T : List Inf)
noncomputable def tx (st0 : St) : Nat → St
  | 0 => st0
  | i + 1 => (oneD E call hs ops n0 (T.getD i default) (ox ops i) (tx st0 i)).getD (tx st0 i)
end

section
variable {E : Env} {call : CallF} {hs : List Hnd} {ops : Array Oper} {n0 : Nat} {T : List Inf}

theorem runD_spec {st0 : St} (hF : ∀ x, x < ops.size → cc T x = cls (ox ops x).op) : ∀ (os : List Oper) (fs : List Inf) (i : Nat) (st : St) (ph : Phs) (lk : Lks) {st' : St} {ph' : Phs} {lk' : Lks},
    ops.toList.drop i = os → T.drop i = fs → fs.length = os.length → i + os.length = ops.size → tx E call hs ops n0 T st0 i = st → PhI T (tx E call hs ops n0 T st0) i ph → runD E call hs ops n0 os fs i st ph lk = some (st', ph', lk') →
    (∀ j, i ≤ j → j < ops.size → oneD E call hs ops n0 (T.getD j default) (ox ops j) (tx E call hs ops n0 T st0 j) = some (tx E call hs ops n0 T st0 (j + 1))) ∧ tx E call hs ops n0 T st0 ops.size = st' ∧ PhI T (tx E call hs ops n0 T st0) ops.size ph' ∧
      (∀ j, i ≤ j → j < ops.size → cc T j = 1 → (ox ops j, j, aa T j, (tx E call hs ops n0 T st0 j).τ, (tx E call hs ops n0 T st0 (j + 1)).τ) ∈ lk') ∧ ∀ x ∈ lk, x ∈ lk'
  | [], fs, i, st, ph, lk, st', ph', lk', ho, hT, hl, hi, hst, hph, h => by
    have : runD E call hs ops n0 [] fs i st ph lk = some (st, ph, lk) := by unfold runD; rfl
    rw [this] at h
    simp only [Option.some.injEq, Prod.mk.injEq] at h; obtain ⟨rfl, rfl, rfl⟩ := h
    simp only [List.length_nil, Nat.add_zero] at hi
    subst hi
    exact ⟨fun j h1 h2 => by omega, hst, hph, fun j h1 h2 => by omega, fun x hx => hx⟩
  | o :: os, [], i, st, ph, lk, st', ph', lk', ho, hT, hl, hi, hst, hph, h => by simp at hl
  | o :: os, f :: fs, i, st, ph, lk, st', ph', lk', ho, hT, hl, hi, hst, hph, h => by
    have hin : i < ops.size := by simp only [List.length_cons] at hi; omega
    have hoi : ox ops i = o := by
      have : (ops.toList.drop i)[0]? = some o := by rw [ho]; rfl
      rw [List.getElem?_drop] at this
      unfold ox oo
      rw [List.getD_eq_getElem?_getD]; rw [show i = i + 0 by rfl, this]; rfl
    have hTi : T.getD i default = f := by
      have : (T.drop i)[0]? = some f := by rw [hT]; rfl
      rw [List.getElem?_drop] at this
      simp only [List.getD_eq_getElem?_getD]; rw [show i = i + 0 by rfl, this]; rfl
    have ho' : ops.toList.drop (i + 1) = os := by
      have : (ops.toList.drop i).drop 1 = os := by rw [ho]; rfl
      rw [List.drop_drop] at this; exact this
    have hT' : T.drop (i + 1) = fs := by
      have : (T.drop i).drop 1 = fs := by rw [hT]; rfl
      rw [List.drop_drop] at this; exact this
    have hcc : cc T i = f.c := by unfold cc; rw [hTi]
    have haa : aa T i = f.a := by unfold aa; rw [hTi]
    simp only [runD] at h
    split at h
    · cases h
    · rename_i st1 h1
      have hn : tx E call hs ops n0 T st0 (i + 1) = st1 := by
        show (oneD E call hs ops n0 (T.getD i default) (ox ops i) (tx E call hs ops n0 T st0 i)).getD _ = _
        rw [hTi, hoi, hst, h1]; rfl
      have hrun : oneD E call hs ops n0 (T.getD i default) (ox ops i) (tx E call hs ops n0 T st0 i) = some (tx E call hs ops n0 T st0 (i + 1)) := by rw [hTi, hoi, hst, h1, hn]
      have fin : ∀ (ph1 : Phs) (lk1 : Lks), PhI T (tx E call hs ops n0 T st0) (i + 1) ph1 → (cc T i = 1 → (ox ops i, i, aa T i, (tx E call hs ops n0 T st0 i).τ, (tx E call hs ops n0 T st0 (i + 1)).τ) ∈ lk1) → (∀ x ∈ lk, x ∈ lk1) →
          runD E call hs ops n0 os fs (i + 1) st1 ph1 lk1 = some (st', ph', lk') → _ := fun ph1 lk1 hph1 hlk1 hsub hr => by
        obtain ⟨g1, g2, g3, g4, g5⟩ := runD_spec hF os fs (i + 1) st1 ph1 lk1 ho' hT' (by simpa using hl) (by simp only [List.length_cons] at hi; omega) hn hph1 hr
        exact (⟨fun j hj hj' => by
          by_cases e : j = i
          · subst e; exact hrun
          · exact g1 j (by omega) hj', g2, g3, fun j hj hj' hj1 => by
          by_cases e : j = i
          · subst e; exact g5 _ (hlk1 hj1)
          · exact g4 j (by omega) hj' hj1, fun x hx => g5 x (hsub x hx)⟩ : (∀ j, i ≤ j → j < ops.size → oneD E call hs ops n0 (T.getD j default) (ox ops j) (tx E call hs ops n0 T st0 j) = some (tx E call hs ops n0 T st0 (j + 1))) ∧ tx E call hs ops n0 T st0 ops.size = st' ∧ PhI T (tx E call hs ops n0 T st0) ops.size ph' ∧
      (∀ j, i ≤ j → j < ops.size → cc T j = 1 → (ox ops j, j, aa T j, (tx E call hs ops n0 T st0 j).τ, (tx E call hs ops n0 T st0 (j + 1)).τ) ∈ lk') ∧ ∀ x ∈ lk, x ∈ lk')
      split at h
      · rename_i h0
        refine fin _ _ ?_ (fun e => by rw [hcc, h0] at e; cases e) (fun x hx => hx) h
        have := PhI.step (T := T) (S := tx E call hs ops n0 T st0) (i + 1) i ph (by omega) (by rw [hcc]; exact h0) (fun x hx hx' => by omega) hph
        rw [hn, haa] at this; exact this
      · rename_i h1'
        refine fin _ _ (hph.mono (by rw [hcc, h1']; decide)) (fun _ => ?_) (fun x hx => List.mem_cons_of_mem _ hx) h
        rw [hoi, haa, hst, hn]; exact List.mem_cons_self
      · rename_i hne0 hne1
        exact fin _ _ (hph.mono (by rw [hcc]; exact fun e => hne0 e)) (fun e => by rw [hcc] at e; exact absurd e (fun e' => hne1 e')) (fun x hx => hx) h

theorem looksOK_spec {ph : Phs} : ∀ {lk : Lks}, looksOK E ops ph lk = true → ∀ o i a τ τ', (o, i, a, τ, τ') ∈ lk → wantedA ops τ o ≠ some false → lookOK E o i a τ τ' none ph = true
  | [], _, o, i, a, τ, τ', hm, _ => by cases hm
  | (o0, i0, a0, τ0, τ0') :: lk, h, o, i, a, τ, τ', hm, hw => by
    simp only [looksOK] at h
    split at h
    · rename_i e
      rcases List.mem_cons.1 hm with e' | hm
      · simp only [Prod.mk.injEq] at e'; obtain ⟨rfl, rfl, rfl, rfl, rfl⟩ := e'; exact absurd e hw
      · exact looksOK_spec h o i a τ τ' hm hw
    · split at h
      · rename_i e
        rcases List.mem_cons.1 hm with e' | hm
        · simp only [Prod.mk.injEq] at e'; obtain ⟨rfl, rfl, rfl, rfl, rfl⟩ := e'; exact e
        · exact looksOK_spec h o i a τ τ' hm hw
      · cases h
end

section
variable {P : Program} {E : Env} {base : Nat} {inv : Inv} {V V' : View} {X X' : St} {A : Array Value} {DS : List Deferred} {M : List Nat} {O : OO} {W W' : World}

/-- A new block at a number that was kept for it. -/
theorem HR.pushAt {σ : Hp} (h : HR E base V σ W) (hb : base ≤ W.heap.size) {r : Nat} (hr : V.m r = none) (hrn : r < σ.n) (N : Nat) (o : AO) (obj : Obj)
    (ho : OR (V.push r W.heap.size N) (W.alloc obj) W.heap.size 0 o) : HR E base (V.push r W.heap.size N) (σ.set r o) (W.alloc obj) := by
  have hle : V.le (V.push r W.heap.size N) := View.push_le hr (fun id b s hm => by have := (h.fresh _ _ hm).2; simp only at this; omega)
  refine ⟨fun b i v hk => ?_, fun g l hg => ?_, fun id o' hid hne => ?_, fun id id' blk s s' h1 h2 h3 h4 => ?_, fun id x hx => ?_, fun id o' hid => ?_⟩
  · have := h.cell b i v hk
    rw [cell_of_heap (heap_alloc W obj b (block_lt this))]; exact this
  · obtain ⟨f, hf⟩ := h.glob g l hg
    exact ⟨f, fun i hi => ⟨(hf i hi).1, (hf i hi).2.mono (View.bare_mono hle.K)⟩⟩
  · rcases Hp.get_set hid with ⟨rfl, rfl⟩ | ⟨hne', hid'⟩
    · exact ⟨W.heap.size, 0, by simp [View.push], hb, by simp, ho⟩
    · obtain ⟨blk, s, hm, h1, h2, h3⟩ := h.obj id o' hid' hne
      exact ⟨blk, s, hle.m _ _ hm, h1, by simp; omega, h3.mono hle (hle.N _ _ _ hm) (fun _ _ hk => hk) (heap_alloc W obj blk h2)⟩
  · have key : ∀ id s, live (σ.set r o) id → (V.push r W.heap.size N).m id = some (blk, s) → (id = r ∧ blk = W.heap.size) ∨ (live σ id ∧ V.m id = some (blk, s) ∧ blk < W.heap.size) := by
      intro id s ⟨oo, hl, hn⟩ hm
      by_cases e : id = r
      · simp only [View.push, e, if_true, Option.some.injEq, Prod.mk.injEq] at hm
        exact .inl ⟨e, hm.1.symm⟩
      · simp only [View.push, e, if_false] at hm
        rcases Hp.get_set hl with ⟨e', _⟩ | ⟨_, hl'⟩
        · exact absurd e' e
        · obtain ⟨b', s'', hm', _, hlt, _⟩ := h.obj id oo hl' hn
          rw [hm] at hm'; simp only [Option.some.injEq, Prod.mk.injEq] at hm'
          exact .inr ⟨⟨oo, hl', hn⟩, hm, by omega⟩
    rcases key id s h1 h3 with ⟨e1, e2⟩ | ⟨l1, m1, lt1⟩ <;> rcases key id' s' h2 h4 with ⟨e3, e4⟩ | ⟨l2, m2, lt2⟩
    · rw [e1, e3]
    · omega
    · omega
    · exact h.inj _ _ _ _ _ l1 l2 m1 m2
  · by_cases e : id = r
    · simp only [View.push, e, if_true, Option.some.injEq] at hx
      subst hx
      exact ⟨by rw [e]; exact hrn, by simp⟩
    · simp only [View.push, e, if_false] at hx
      exact ⟨(h.fresh _ _ hx).1, by have := (h.fresh _ _ hx).2; simp; omega⟩
  · rcases Hp.get_set hid with ⟨rfl, _⟩ | ⟨_, hid'⟩
    · exact ⟨(W.heap.size, 0), by simp [View.push]⟩
    · obtain ⟨x, hx⟩ := h.all _ _ hid'; exact ⟨x, hle.m _ _ hx⟩

theorem HR.bump {σ : Hp} (h : HR E base V σ W) (n : Nat) : HR E base V ⟨σ.t, σ.n + n⟩ W :=
  ⟨h.cell, h.glob, h.obj, h.inj, fun id x hx => ⟨Nat.lt_of_lt_of_le (h.fresh id x hx).1 (Nat.le_add_right _ _), (h.fresh id x hx).2⟩, h.all⟩

/-- A new variable, at a number that was kept for it. -/
theorem allocAt_spec (hE : EnvOK P E) (hcx : CxOK inv) (h : SR E base inv V X A DS M O W) {ops : Array Oper} {i r : Nat} {o : Oper} {t : TypeId} {z : AV} (ho : ops[i]? = some o) (hop : o.op = .alloc t) (hz : E.zero t = some z)
    (hr : V.m r = none) (hrn : r < X.σ.n) (hw : wantedA ops X.τ o = some true) (hX : putS { X with σ := X.σ.set r (.cells false z.cells) } o.dst (.ptr r 0) = some X') :
    ∃ N A' W', SR E base inv (V.push r W.heap.size N) X' A' DS M O W' ∧ Fr (fun _ => False) W W' ∧ W.heap.size < W'.heap.size ∧ V.le (V.push r W.heap.size N) ∧ (∀ b, Own (V.push r W.heap.size N) X'.σ b → Own V X.σ b ∨ b = W.heap.size) ∧ X'.σ.n = X.σ.n ∧ X'.rnd = X.rnd ∧
      ∀ fn b cs k rest, BOK fn X.rnd b cs → Steps P (lone (mkF b A DS (.inRegion ops (i :: rest) :: k)) cs W) (lone (mkF b A' DS (.inRegion ops rest :: k)) cs W') := by
  obtain ⟨ti, v, hi, hv, hc, _, _⟩ := hE.zero t z hz
  have hbd := hcx.bound _ _ _ _ h.cx
  let N := v.cells.size
  let obj : Obj := .cells v.cells t
  let V1 := V.push r W.heap.size N
  have hfr : Fr (fun _ => False) W (W.alloc obj) := Fr.alloc _ W _
  have hle : V.le V1 := View.push_le hr (fun id b s hm => by have := (h.hr.fresh _ _ hm).2; simp only at this; omega)
  have hK1 : ∀ o v, V.K W.heap.size o = some v → False := fun o v hk => by have := block_lt (h.hr.cell _ _ _ hk); omega
  have hzc := (hc V1).cells
  have hH : HR E base V1 (X.σ.set r (.cells false z.cells)) (W.alloc obj) := by
    refine h.hr.pushAt h.bs hr hrn N _ obj ⟨v.cells, t, heap_alloc_self _ _, ⟨?_, by simp [View.push, N]⟩, ⟨v.cells.toList, hzc, fun i hi => by simp⟩, fun o v hk => (hK1 o v hk).elim⟩
    have := hzc.1
    simp at this ⊢; omega
  have hown : ∀ b, Own V1 (X.σ.set r (.cells false z.cells)) b → Own V X.σ b ∨ b = W.heap.size := by
    rintro b ⟨id, s, ⟨oo, hl, hn⟩, hm⟩
    by_cases e : id = r
    · simp only [V1, View.push, e, if_true, Option.some.injEq, Prod.mk.injEq] at hm
      exact .inr hm.1.symm
    · simp only [V1, View.push, e, if_false] at hm
      rcases Hp.get_set hl with ⟨e', _⟩ | ⟨_, hl'⟩
      · exact absurd e' e
      · exact .inl ⟨id, s, ⟨oo, hl', hn⟩, hm⟩
  have hS : SR E base inv V1 { X with σ := X.σ.set r (.cells false z.cells) } A DS M O (W.alloc obj) := by
    refine ⟨hH, Nat.le_trans h.bs hfr.size, fun t a ht => (h.tm t a ht).mono hle, h.sz, h.ds.mono hle, fun r hr => ⟨?_, (h.mks r hr).2⟩, ?_, fun b hb ho => ?_⟩
    · rw [hfr.block r (lt_of_heap (h.mks r hr).1) (fun h => h)]; exact (h.mks r hr).1
    · exact hcx.stable _ _ _ _ _ _ h.cx (fun _ _ _ h => h) (fun _ _ _ h => .inl h) hH.cell (fun b hb => hfr.block b (hbd b hb) (fun h => h)) hfr.size
    · rcases hown b hb with e | e
      · exact h.dis b e ho
      · have := hbd b ho; omega
  have hp : VR V1 (.ptr r 0) (.pointer (some ⟨W.heap.size, 0 + 0, none⟩)) := .ptr r 0 W.heap.size 0 (by simp [V1, View.push])
  obtain ⟨g1, g2, g3⟩ := hS.put hp hX
  refine ⟨N, _, _, g1, hfr, by simp, hle, fun b hb => hown b (by rw [g2] at hb; exact hb), by rw [g2]; rfl, g3, fun fn b cs k rest hb => .one (st_value ho (wanted_spec h hw) (.inr (fun c e => by rw [hop] at e; cases e)) ?_)⟩
  obtain ⟨d, op', ty, pos, aft, gd⟩ := o
  simp only at hop; subst hop
  simp [execOp, Instr.alloc, zeroValue, typeInfo, hi, hv, newVar, newRow, obj]
end
end Go.Eng

/-
  THE ENGINE, 43: regions whose order is drawn, whole.
-/
namespace Go.Eng
open Go

attribute [local irreducible] upTo

section
variable {P : Program} {E : Env} {call : CallF} {base : Nat} {inv : Inv} {hs : List Hnd} {ops : Array Oper} {n0 na : Nat} {T : List Inf} {S : Nat → St} {ph : Phs}

/-- What is known between two operations. -/
structure Now (P : Program) (E : Env) (base : Nat) (inv : Inv) (hs : List Hnd) (ops : Array Oper) (n0 na : Nat) (T : List Inf) (S : Nat → St) (M : List Nat) (V0 : View) (σ0 : Hp) (O0 : OO) (W0 : World)
    (D : Nat → Bool) (X : St) (p : Nat) (V : View) (A : Array Value) (DS : List Deferred) (O : OO) (W : World) : Prop where
  di : DI E ops n0 T S D X p
  sr : SR E base inv V X A DS M O W
  hk : HOK P inv V.lv hs
  pr : Prg V0 σ0 O0 W0 V X.σ O W
  eq : σ0.n = n0
  rs : ∀ x, x < ops.size → cc T x = 3 → D x = false → V.m (n0 + kk T x) = none
  nn : n0 + na ≤ X.σ.n
  un : ∀ x, x < ops.size → cc T x = 3 → p ≤ x → (S p).σ.get (n0 + kk T x) = none

theorem now_step (hE : EnvOK P E) (hcx : CxOK inv) (hcall : CallOK P E call) (hT : Txt E call hs ops n0 T S ph na) (hph : PhI T S ops.size ph) {M : List Nat} {V0 : View} {σ0 : Hp} {O0 : OO} {W0 : World} {D : Nat → Bool} {X : St} {p : Nat} {V : View} {A : Array Value} {DS : List Deferred} {O : OO} {W : World}
    (h : Now P E base inv hs ops n0 na T S M V0 σ0 O0 W0 D X p V A DS O W) {i : Nat} (hi : i < ops.size) (hD : D i = false) (hr : ∀ e ∈ (ox ops i).after.toList, bindsA e = true → D e.on = true) :
    ∃ X' p' V' A' DS' O' W', Now P E base inv hs ops n0 na T S M V0 σ0 O0 W0 (fun x => D x || decide (x = i)) X' p' V' A' DS' O' W' ∧
      ∀ fn b cs k rest, BOK fn X.rnd b cs → Steps P (lone (mkF b A DS (.inRegion ops (i :: rest) :: k)) cs W) (lone (mkF b A' DS' (.inRegion ops rest :: k)) cs W') := by
  obtain ⟨X', p', h1, h2, h3⟩ := h.di.step hT hph h.un hi hD hr
  have hor : ∀ {x}, (D x || decide (x = i)) = false → D x = false ∧ x ≠ i := by intro x hx; simpa using hx
  -- what is not set yet is not set behind memory's last turn
  have unNew : ∀ {V' : View} {A' : Array Value} {DS' : List Deferred} {O' : OO} {W' : World}, SR E base inv V' X' A' DS' M O' W' → (∀ x, x < ops.size → cc T x = 3 → (D x || decide (x = i)) = false → V'.m (n0 + kk T x) = none) →
      ∀ x, x < ops.size → cc T x = 3 → p' ≤ x → (S p').σ.get (n0 + kk T x) = none := by
    intro V' A' DS' O' W' hsr hrs x hx hx3 hpx
    rcases h3 with ⟨e, _⟩ | ⟨h0, e, e2⟩
    · rw [e] at hpx ⊢; exact h.un x hx hx3 hpx
    · rw [e, ← e2]
      have hDx : (D x || decide (x = i)) = false := by
        have hne : x ≠ i := fun e' => by rw [e', h0] at hx3; cases hx3
        cases hd : D x with
        | false => simp [hne]
        | true =>
          exfalso
          have := h.di.closed x hd i ((hT.fact x hx).al hx3 i (by omega) h0)
          rw [hD] at this; cases this
      cases hg : X'.σ.get (n0 + kk T x) with
      | none => rfl
      | some o =>
        obtain ⟨y, hy⟩ := hsr.hr.all _ _ hg
        rw [hrs x hx hx3 hDx] at hy; cases hy
  have normal : oneOp E call hs ops (ox ops i) X = some X' → ∃ X' p' V' A' DS' O' W', Now P E base inv hs ops n0 na T S M V0 σ0 O0 W0 (fun x => D x || decide (x = i)) X' p' V' A' DS' O' W' ∧
      ∀ fn b cs k rest, BOK fn X.rnd b cs → Steps P (lone (mkF b A DS (.inRegion ops (i :: rest) :: k)) cs W) (lone (mkF b A' DS' (.inRegion ops rest :: k)) cs W') := fun hop => by
    obtain ⟨V', A', DS', O', W', s1, p1, r1, g1⟩ := oneOp_spec hE hcx hcall h.sr h.hk (ox_get hi) hop
    have hrs : ∀ x, x < ops.size → cc T x = 3 → (D x || decide (x = i)) = false → V'.m (n0 + kk T x) = none := by
      intro x hx hx3 hdx
      have h0 := h.rs x hx hx3 (hor hdx).1
      cases hm : V'.m (n0 + kk T x) with
      | none => rfl
      | some y =>
        rcases p1.nm _ _ hm with e | e
        · rw [h0] at e; cases e
        · have := hT.kna x hx hx3
          have := h.nn
          omega
    exact ⟨X', p', V', A', DS', O', W', ⟨h2, s1, by rw [p1.lv]; exact h.hk, h.pr.trans p1, h.eq, hrs, Nat.le_trans h.nn p1.nn, unNew s1 hrs⟩, fun fn b cs k rest hb => g1 fn b cs k rest hb⟩
  by_cases hc3 : cc T i = 3
  · obtain ⟨w, v, q1, q2, q3, q4⟩ := oneD_alloc hc3 h1
    cases w with
    | false =>
      refine normal ?_
      rw [oneOp_core, q1]
      simp only [coreO]
      unfold oneD at h1
      rw [show (T.getD i default).c = 3 from hc3] at h1
      simp only at h1
      rw [q1] at h1
      exact h1
    | true =>
      obtain ⟨rfl, t, z, ht, hz, hX⟩ := q4 rfl
      have hput : putS { X with σ := X.σ.set (n0 + kk T i) (.cells false z.cells) } (ox ops i).dst (.ptr (n0 + kk T i) 0) = some X' := by
        rw [Put.putS (st := { X with σ := X.σ.set (n0 + kk T i) (.cells false z.cells) }) q2]
        rw [hX]
      have hrn : n0 + kk T i < X.σ.n := by have := hT.kna i hi hc3; have := h.nn; omega
      obtain ⟨N, A', W', s1, f1, hlt, hle, hown, hn, hrd, g1⟩ := allocAt_spec hE hcx h.sr (ox_get hi) ht hz (h.rs i hi hc3 hD) hrn q1 hput
      have hm : ∀ id x, (V.push (n0 + kk T i) W.heap.size N).m id = some x → V.m id = some x ∨ (id = n0 + kk T i ∧ x.1 = W.heap.size) := by
        intro id x hx
        simp only [View.push] at hx
        split at hx
        · simp only [Option.some.injEq] at hx; subst hx; exact .inr ⟨by assumption, rfl⟩
        · exact .inl hx
      have hrs : ∀ x, x < ops.size → cc T x = 3 → (D x || decide (x = i)) = false → (V.push (n0 + kk T i) W.heap.size N).m (n0 + kk T x) = none := by
        intro x hx hx3 hdx
        have h0 := h.rs x hx hx3 (hor hdx).1
        cases hmx : (V.push (n0 + kk T i) W.heap.size N).m (n0 + kk T x) with
        | none => rfl
        | some y =>
          rcases hm _ _ hmx with e | ⟨e, _⟩
          · rw [h0] at e; cases e
          · exact absurd e (hT.key_ne hx hi hx3 hc3 (hor hdx).2)
      have hbd := hcx.bound _ _ _ _ h.sr.cx
      have hsz := h.pr.fr.size
      refine ⟨X', p', _, A', DS, O, W', ⟨h2, s1, h.hk, ?_, h.eq, hrs, by rw [hn]; exact h.nn, unNew s1 hrs⟩, fun fn b cs k rest hb => g1 fn b cs k rest hb⟩
      refine ⟨h.pr.le.trans hle, h.pr.lv, h.pr.fr.trans f1 (fun _ _ h => h.elim), fun b hb => ?_, h.pr.out, fun id b s hmm => ?_, h.pr.K, fun id x hx => ?_, by rw [hn]; exact h.pr.nn⟩
      · rcases hown b hb with e | e
        · exact h.pr.own b e
        · exact .inr (by omega)
      · rcases hm _ _ hmm with e | ⟨_, e⟩
        · rcases h.pr.mb id b s e with g | ⟨g2, g3, g4⟩
          · exact .inl g
          · exact .inr ⟨g2, by omega, g4⟩
        · simp only at e
          exact .inr ⟨by omega, by omega, fun ho => by have := hbd b ho; omega⟩
      · rcases hm _ _ hx with e | ⟨e, _⟩
        · exact h.pr.nm id x e
        · exact .inr (by have := h.eq; omega)
  · refine normal ?_
    rw [oneD_of_oneOp hc3] at h1; exact h1

/-- All of them, in the order that is drawn. -/
theorem draw_loop (hE : EnvOK P E) (hcx : CxOK inv) (hcall : CallOK P E call) (hT : Txt E call hs ops n0 T S ph na) (hph : PhI T S ops.size ph) {M : List Nat} {V0 : View} {σ0 : Hp} {O0 : OO} {W0 : World} :
    ∀ (fuel t : Nat) (listed : Array Bool) (todo : List Nat) {D : Nat → Bool} {X : St} {p : Nat} {V : View} {A : Array Value} {DS : List Deferred} {O : OO} {W : World},
    todo.length = fuel → todo.Nodup → (∀ x, x ∈ todo ↔ x < ops.size ∧ D x = false) → listed.size = ops.size → (∀ x, x < ops.size → listed[x]? = some (D x)) → Now P E base inv hs ops n0 na T S M V0 σ0 O0 W0 D X p V A DS O W →
    ∃ D' X' p' V' A' DS' O' W', (∀ x, x < ops.size → D' x = true) ∧ Now P E base inv hs ops n0 na T S M V0 σ0 O0 W0 D' X' p' V' A' DS' O' W' ∧
      ∀ fn b cs k, BOK fn X.rnd b cs → Steps P (lone (mkF b A DS (.inRegion ops (Region.linearise.go .any ops fuel t listed []) :: k)) cs W) (lone (mkF b A' DS' k) cs W')
  | 0, t, listed, todo, D, X, p, V, A, DS, O, W, hlen, hnd, htodo, hls, hl, h => by
    have : todo = [] := List.eq_nil_of_length_eq_zero hlen
    subst this
    refine ⟨D, X, p, V, A, DS, O, W, fun x hx => ?_, h, fun fn b cs k hb => ?_⟩
    · cases e : D x with
      | true => rfl
      | false => exact absurd ((htodo x).2 ⟨hx, e⟩) (by simp)
    · simp only [Region.linearise.go, List.reverse_nil]
      exact .one st_region_end
  | fuel + 1, t, listed, todo, D, X, p, V, A, DS, O, W, hlen, hnd, htodo, hls, hl, h => by
    have hgetD : ∀ x, x < ops.size → ∀ d, listed.getD x d = D x := fun x hx d => by
      rw [Array.getD_eq_getD_getElem?, hl x hx]; rfl
    have hmemR : ∀ i, i ∈ Region.ready .any ops listed ↔ i < ops.size ∧ D i = false ∧ ∀ e ∈ (ox ops i).after.toList, bindsA e = true → D e.on = true := by
      intro i
      unfold Region.ready
      rw [List.mem_filter, List.mem_range]
      constructor
      · rintro ⟨hi, hc⟩
        rw [Bool.and_eq_true, ox_get hi] at hc
        obtain ⟨c1, c2⟩ := hc
        rw [hgetD i hi] at c1
        refine ⟨hi, by simpa using c1, fun e he hb => ?_⟩
        simp only [Option.map_some, Option.getD_some, Array.all_eq_true_iff_forall_mem] at c2
        have := c2 e (by simpa using he)
        rw [bindsA_eq] at hb
        rw [hb] at this
        simp only [Bool.not_true, Bool.false_or] at this
        have hes : e.on < ops.size := by have := (hT.fact i hi).edge e he (by rw [bindsA_eq]; exact hb); omega
        rw [hgetD e.on hes] at this
        exact this
      · rintro ⟨hi, hd, he⟩
        refine ⟨hi, ?_⟩
        rw [Bool.and_eq_true, ox_get hi, hgetD i hi, hd]
        refine ⟨rfl, ?_⟩
        simp only [Option.map_some, Option.getD_some, Array.all_eq_true_iff_forall_mem]
        intro e hm
        cases hb : Region.binds .any e with
        | false => rfl
        | true =>
          have hm' : e ∈ (ox ops i).after.toList := by simpa using hm
          have hes : e.on < ops.size := by have := (hT.fact i hi).edge e hm' (by rw [bindsA_eq]; exact hb); omega
          rw [hgetD e.on hes, he e hm' (by rw [bindsA_eq]; exact hb)]
          rfl
    have hne : ∀ n x, x < n → x ∈ todo → Region.ready .any ops listed ≠ [] := by
      intro n
      induction n with
      | zero => intro x hx; omega
      | succ n ih =>
        intro x hx hxt
        obtain ⟨hxs, hxd⟩ := (htodo x).1 hxt
        by_cases hall : ∀ e ∈ (ox ops x).after.toList, bindsA e = true → D e.on = true
        · exact List.ne_nil_of_mem ((hmemR x).2 ⟨hxs, hxd, hall⟩)
        · obtain ⟨e, he⟩ := Classical.not_forall.1 hall
          obtain ⟨he1, he2⟩ := Classical.not_imp.1 he
          obtain ⟨hb, hd⟩ := Classical.not_imp.1 he2
          have hon := (hT.fact x hxs).edge e he1 hb
          refine ih e.on (by omega) ((htodo e.on).2 ⟨by omega, by cases e' : D e.on with | false => rfl | true => exact absurd e' hd⟩)
    have hrne : Region.ready .any ops listed ≠ [] := by
      cases todo with
      | nil => simp at hlen
      | cons x l => exact hne (x + 1) x (Nat.lt_succ_self x) (by simp)
    have hlt : t % (Region.ready .any ops listed).length < (Region.ready .any ops listed).length := Nat.mod_lt _ (List.length_pos_iff.2 hrne)
    have hget : (Region.ready .any ops listed)[t % (Region.ready .any ops listed).length]? = some ((Region.ready .any ops listed)[t % (Region.ready .any ops listed).length]) := List.getElem?_eq_getElem hlt
    generalize hieq : (Region.ready .any ops listed)[t % (Region.ready .any ops listed).length] = i at hget
    have himem : i ∈ Region.ready .any ops listed := List.mem_of_getElem? hget
    obtain ⟨hi, hD, hr⟩ := (hmemR i).1 himem
    obtain ⟨X1, p1, V1, A1, DS1, O1, W1, hN, g1⟩ := now_step hE hcx hcall hT hph h hi hD hr
    have hit : i ∈ todo := (htodo i).2 ⟨hi, hD⟩
    obtain ⟨D', X', p', V', A', DS', O', W', hall, hN', g2⟩ := draw_loop hE hcx hcall hT hph fuel (t / (Region.ready .any ops listed).length) (listed.setIfInBounds i true) (todo.erase i) (by rw [List.length_erase_of_mem hit, hlen]; rfl) (hnd.erase i)
      (fun x => by
        rw [hnd.mem_erase_iff, htodo x]
        constructor
        · rintro ⟨h1, h2, h3⟩; exact ⟨h2, by simp [h3, h1]⟩
        · rintro ⟨h1, h2⟩; simp at h2; exact ⟨h2.2, h1, h2.1⟩) (by simpa using hls)
      (fun x hx => by
        rw [Array.getElem?_setIfInBounds]
        by_cases e : i = x
        · subst e; simp [hls, hi]
        · rw [if_neg e, hl x hx]
          have e2 : decide (x = i) = false := decide_eq_false (fun e' => e e'.symm)
          rw [e2, Bool.or_false]) hN
    refine ⟨D', X', p', V', A', DS', O', W', hall, hN', fun fn b cs k hb => ?_⟩
    have hgo : Region.linearise.go .any ops (fuel + 1) t listed [] = i :: Region.linearise.go .any ops fuel (t / (Region.ready .any ops listed).length) (listed.setIfInBounds i true) [] := by
      simp only [Region.linearise.go]
      change (match (Region.ready .any ops listed)[t % (Region.ready .any ops listed).length]? with
        | some i => Region.linearise.go .any ops fuel (t / (Region.ready .any ops listed).length) (listed.setIfInBounds i true) [i]
        | none => [].reverse) = _
      rw [hget]
      simp only
      rw [linearise_go_acc, List.reverse_singleton, List.singleton_append]
    rw [hgo]
    have hrd : X1.rnd = X.rnd := hN.di.rnd.trans h.di.rnd.symm
    exact (g1 fn b cs k _ hb).trans (g2 fn b cs k (by rw [hrd]; exact hb))

theorem CodeOK.regionD (hE : EnvOK P E) (hmix : P.follows .mixedOrders = true) (hcall : CallOK P E call) {id : Nat} {ops : Array Oper} : CodeOK P E call base hs (.region id ops true) := by
  intro inv hcx V st st' e A DS M O W fn rl hrl h hS hh
  rw [exec_regionD] at h
  split at h
  · rename_i st1 h1
    simp only [Option.some.injEq, Prod.mk.injEq] at h; obtain ⟨rfl, rfl⟩ := h
    unfold runDraw at h1
    split at h1
    · cases h1
    · rename_i T na hpl
      split at h1
      · cases h1
      · rename_i st2 ph lk hrun
        split at h1
        · rename_i hlk
          simp only [Option.some.injEq] at h1; subst h1
          obtain ⟨hF, hlen, hkna⟩ := planOf_spec hpl
          have hn : ops.toList.length = ops.size := by simp
          rw [hn] at hF hlen hkna
          let st0 : St := { st with σ := ⟨st.σ.t, st.σ.n + na⟩ }
          let S := tx E call hs ops st.σ.n T st0
          obtain ⟨r1, r2, r3, r4, _⟩ := runD_spec (n0 := st.σ.n) (T := T) (st0 := st0) (fun x hx => (hF x hx).c) ops.toList T 0 st0 _ [] rfl rfl (by rw [hlen, hn]) (by rw [hn]; omega) rfl (.base 0 (fun x hx => absurd hx (Nat.not_lt_zero x))) hrun
          have hT : Txt E call hs ops st.σ.n T S ph na := ⟨hF, fun i hi => r1 i (Nat.zero_le _) hi, fun i hi hc hw => looksOK_spec hlk _ _ _ _ _ (r4 i (Nat.zero_le _) hi hc) hw, hkna⟩
          have hfrD : Fr (fun _ => False) W W.drew := Fr.drew _ W
          have hS1 := hS.grown hcx hfrD
          have hS0 : SR E base inv V st0 A DS M O W.drew := ⟨hS1.hr.bump na, hS1.bs, hS1.tm, hS1.sz, hS1.ds, hS1.mks, hS1.cx, hS1.dis⟩
          have hmn : ∀ k, V.m (st.σ.n + k) = none := fun k => by
            cases hm : V.m (st.σ.n + k) with
            | none => rfl
            | some x => have := (hS.hr.fresh _ _ hm).1; omega
          have hN0 : Now P E base inv hs ops st.σ.n na T S M V st.σ O W (fun _ => false) st0 0 V A DS O W.drew := by
            refine ⟨⟨fun x hx => (by cases hx), rfl, rfl, fun k => Iff.rfl, fun i t hi => (by cases hi), fun t _ => rfl, fun i hi => (by cases hi), Nat.zero_le _, fun x _ _ => ⟨fun h => (by cases h), fun h => absurd h (Nat.not_lt_zero x)⟩, .inl rfl, rfl, rfl, ?_⟩, hS0, hh,
              ⟨View.le.refl V, rfl, Fr.drew _ W, fun b hb => .inl hb, fun b hb => .inl hb, fun id b s hm => .inl ⟨id, s, hm⟩, fun b o v hv => .inl hv, fun id x hx => .inl hx, Nat.le_add_right _ _⟩, rfl, fun x _ _ _ => hmn _, Nat.le_refl _, fun x hx hx3 _ => ?_⟩
            · rw [List.filter_eq_nil_iff.2 (fun x _ => by simp)]; rfl
            · show st.σ.get _ = none
              cases hg : st.σ.get (st.σ.n + kk T x) with
              | none => rfl
              | some o => obtain ⟨y, hy⟩ := hS.hr.all _ _ hg; rw [hmn] at hy; cases hy
          obtain ⟨D', X', p', V', A', DS', O', W', hall, hN, g⟩ := draw_loop hE hcx hcall hT r3 ops.size (W.tape W.drawn (.order fn id)) (Array.replicate ops.size false) (List.range ops.size) (by simp) List.nodup_range (fun x => by simp) (by simp) (fun x hx => by simp [hx]) hN0
          -- what has come out is what comes out in the order of the text
          obtain ⟨q, q1, q2, q3, q4, q5, q6⟩ := hT.mem (i := ops.size) (Nat.le_refl _)
          have hpq : p' = q := by
            have key : ∀ x, x < ops.size → cc T x = 0 → (x < p' ↔ x < q) := fun x hx hx0 => by
              rw [← hN.di.hvy x hx hx0, ← q2 x hx hx0]
              exact ⟨fun _ => hx, fun _ => hall x hx⟩
            rcases Nat.lt_trichotomy p' q with e | e | e
            · rcases q3 with e' | ⟨y, e', y0⟩
              · omega
              · have := (key y (by omega) y0).2 (by omega); omega
            · exact e
            · rcases hN.di.pv with e' | ⟨y, e', y0⟩
              · omega
              · have := (key y (by have := hN.di.ple; omega) y0).1 (by omega); omega
          subst hpq
          have hr2 : S ops.size = st2 := r2
          rw [hr2] at q4 q5 q6
          have hσ : X'.σ = st2.σ := by
            rw [hN.di.sg, q6]
            congr 1
            refine List.filter_congr (fun x hx => ?_)
            obtain ⟨hx1, _, _⟩ := ALs_mem.1 hx
            simp [hall x hx1, hx1]
          have hds : X'.ds = st2.ds := hN.di.ds.trans q4.symm
          have hΛ : X'.Λ = st2.Λ := hN.di.lam.trans q5.symm
          have hntt := hT.nt (i := ops.size) (Nat.le_refl _)
          rw [hr2] at hntt
          have hτ : ∀ t, st2.τ.get t = X'.τ.get t := by
            intro t
            by_cases hex : ∃ j, j < ops.size ∧ (ox ops j).dst = some t
            · obtain ⟨j, hj, hd⟩ := hex
              rw [hN.di.done j t (hall j hj) hd, ← hr2, hT.keep hd (Nat.le_refl _) hj]
            · rw [hN.di.rest t (fun j hj hd => hex ⟨j, hN.di.lt j hj, hd⟩), ← hr2, hT.none (Nat.le_refl _) (fun j hj hd => hex ⟨j, hj, hd⟩)]
          have hsr := hN.sr
          have hS2 : SR E base inv V' st2 A' DS' M O' W' := ⟨by rw [← hσ]; exact hsr.hr, hsr.bs, fun t a ht => hsr.tm t a (by rw [← hτ]; exact ht), hsr.sz.trans (hN.di.nt.trans hntt.1.symm), by rw [← hds]; exact hsr.ds, hsr.mks, by rw [← hΛ]; exact hsr.cx, by rw [← hσ]; exact hsr.dis⟩
          refine ⟨V', A', DS', M, O', W', ⟨hS2, by rw [← hσ]; exact hN.pr, hntt.2, fun _ h => .inl h⟩, fun b cs k hb => ?_⟩
          have hfn := hb.1.fn
          refine Steps.head st_region_draw ?_
          simp only [Region.schedule, hmix, Bool.true_or, if_true, Region.linearise, hfn]
          exact g fn b cs k hb.1
        · cases h1
  · cases h
end
end Go.Eng

/-
  THE ENGINE, 44: whatever the engine answers is what the machine does.
-/
namespace Go.Eng
open Go

section
variable {P : Program} {E : Env}

theorem code_ok (hE : EnvOK P E) (hmix : P.follows .mixedOrders = true) (call : CallF) (hcall : CallOK P E call) (base : Nat) (hs : List Hnd) (c : Code) : CodeOK P E call base hs c := by
  induction c with
  | skip => exact .skip
  | seq a b iha ihb => exact .seq iha ihb
  | region id ops d =>
    cases d with
    | true => exact .regionD hE hmix hcall
    | false => exact .region hE hcall
  | cond c a b iha ihb => exact .cond iha ihb
  | block i b ih => exact .block ih
  | loop b ih => exact .loop ih
  | rangeFunc f ps a b iha ihb => exact .rangeFunc hcall iha ihb
  | exit i => exact .exit
  | scope b ih => exact .scope ih
  | label l => exact .label
  | goto l => exact .goto
  | ret => exact .ret
  | refuse w => exact .refuse

/-- The engine is right. -/
theorem engine_ok (hE : EnvOK P E) (hX : ExtOK P E) (hN : NameOK E) (hmix : P.follows .mixedOrders = true) (n : Nat) : CallOK P E (callN E n) :=
  callN_ok hE hX hN (code_ok hE hmix) n
end
end Go.Eng

/-
  THE ENGINE, 45: what is said ahead of three functions of Go's library, and the tables of a program.
-/
namespace Go.Eng
open Go

noncomputable def idxByte : List Nat → Nat → Nat → Int
  | [], _, _ => -1
  | b :: s, c, i => match Nat.beq b c with
    | true => Int.ofNat i
    | false => idxByte s c (i + 1)
noncomputable def cntByte : List Nat → Nat → Nat
  | [], _ => 0
  | b :: s, c => match Nat.beq b c with
    | true => cntByte s c + 1
    | false => cntByte s c

noncomputable def extA (fI fC fK : Nat) (f : Nat) (args : List AV) : Option AV :=
  match Nat.beq f fI with
  | true => match args with
    | [.str s, .int .u8 (.ofNat c)] => match Nat.ble c 255 with
      | true => some (.int .i64 (idxByte s c 0))
      | false => none
    | _ => none
  | false => match Nat.beq f fC with
    | true => match args with
      | [.str s, .int .u8 (.ofNat c)] => match Nat.ble c 255 with
        | true => some (.int .i64 (Int.ofNat (cntByte s c)))
        | false => none
      | _ => none
    | false => match Nat.beq f fK with
      | true => match args with
        | [.str s] => match Nat.ble s.length 281474976710656 with
          | true => some (.str s)
          | false => none
        | _ => none
      | false => none

/-- The tables of a program. -/
structure Tabs where
  ty : Tr KT
  sz : Tr Nat
  by_ : Tr Nat
  ze : Tr AV
  eq : Tr Unit
  fn : Tr Func
  gl : Tr (List AV)
  fI : Nat
  fC : Nat
  fK : Nat
  fB : Nat

noncomputable def Tabs.env (T : Tabs) : Env :=
  ⟨T.ty.get, fun t => match T.sz.get t with | some n => n | none => 0, fun t => match T.by_.get t with | some n => n | none => 0, T.ze.get, T.fn.get, T.gl.get, extA T.fI T.fC T.fK, fun f => Nat.beq f T.fB, fun t => match T.eq.get t with | some _ => true | none => false⟩

/-- The answer, and that nothing is left open. -/
noncomputable def answer (r : Option (AV × Hp × List LF)) : Nat :=
  match r with
  | some (.bool true, _, []) => 1
  | some (.bool false, _, []) => 2
  | some _ => 3
  | none => 0
end Go.Eng

/-
  THE ENGINE, 46: what the engine answers of a call, said of the machine.
-/
namespace Go.Eng
open Go

section
variable {P : Program} {E : Env}

/-- Nothing is held around. -/
def invT : Inv := fun _ _ O _ => ∀ b, ¬ O b
theorem invT_ok : CxOK invT := ⟨fun _ _ _ _ _ _ h _ _ _ _ _ => h, fun _ _ _ _ h b hb => absurd hb (h b)⟩

/-- What is known of variables of packages. -/
def GlobK (E : Env) (V : View) : Prop := ∀ g l, E.glob g = some l → ∃ z : Nat → Value, ∀ i (h : i < l.length), V.K g i = some (z i) ∧ VR V.bare l[i] (z i)

/-- A view in which nothing is one's own. -/
def alone (V : View) : View := { V with m := fun _ => none, lv := fun _ => none }

/-- Arguments without anything of one's own. -/
def closedA : Nat → AV → Bool
  | 0, _ => false
  | n + 1, v => match v with
    | .bool _ => true | .int _ _ => true | .str _ => true | .gp _ _ => true | .cp _ _ => true | .nilp => true | .csl _ _ => true | .nils => true | .nilm => true | .nilf => true | .nili => true
    | .fn _ a b => a.all (closedA n) && b.all (closedA n)
    | .ifc _ v => closedA n v
    | .agg l => l.all (closedA n)
    | .tup l => l.all (closedA n)
    | _ => false

theorem closedA_spec : ∀ (n : Nat) (a : AV) {V : View} {v : Value}, closedA n a = true → VR V a v → VR (alone V) a v
  | 0, a, V, v, h, _ => by simp [closedA] at h
  | n + 1, a, V, v, h, hv => by
    cases hv with
    | bool b => exact .bool b
    | int k i => exact .int k i
    | str b => exact .str b
    | ptr _ _ _ _ _ => simp [closedA] at h
    | gp g off => exact .gp g off
    | cp cells off blk o f hk hv => exact .cp cells off blk o f hk hv
    | nilp => exact .nilp
    | sl _ _ _ _ _ _ _ _ _ _ _ => simp [closedA] at h
    | csl cells len blk o cap A f hk hv hc ha => exact .csl cells len blk o cap A f hk hv hc ha
    | nils => exact .nils
    | mp _ _ _ => simp [closedA] at h
    | nilm => exact .nilm
    | iter _ _ _ => simp [closedA] at h
    | fn f a b A B ha hb hav hbv =>
      simp only [closedA, Bool.and_eq_true, List.all_eq_true] at h
      exact .fn f a b A B ha hb (fun i h1 h2 => closedA_spec n _ (h.1 _ (List.getElem_mem h1)) (hav i h1 h2)) (fun i h1 h2 => closedA_spec n _ (h.2 _ (List.getElem_mem h1)) (hbv i h1 h2))
    | yld _ _ _ => simp [closedA] at h
    | nilf => exact .nilf
    | ifc t v r hv => simp only [closedA] at h; exact .ifc t v r (closedA_spec n _ h hv)
    | nili => exact .nili
    | agg a A ha hav =>
      simp only [closedA, List.all_eq_true] at h
      exact .agg a A ha (fun i h1 h2 => closedA_spec n _ (h _ (List.getElem_mem h1)) (hav i h1 h2))
    | tup a A ha hav =>
      simp only [closedA, List.all_eq_true] at h
      exact .tup a A ha (fun i h1 h2 => closedA_spec n _ (h _ (List.getElem_mem h1)) (hav i h1 h2))

theorem closedA_list {n : Nat} {l : List AV} (h : l.all (closedA n) = true) {V : View} {A : List Value} (hv : VRs V l A) : VRs (alone V) l A :=
  ⟨hv.1, fun i h1 h2 => closedA_spec n _ (List.all_eq_true.1 h _ (List.getElem_mem h1)) (hv.2 i h1 h2)⟩

theorem HR.alone {V : View} {W : World} (hK : ∀ b o x, V.K b o = some x → W.cell? ⟨b, o, none⟩ = some x) (hg : GlobK E V) (base : Nat) : HR E base (alone V) .empty W := by
  refine ⟨hK, hg, fun id o h => ?_, fun id id' blk s s' h1 => ?_, fun id x h => ?_, fun id o h => ?_⟩
  · rw [Hp.get_empty] at h; cases h
  · obtain ⟨o, h, _⟩ := h1; rw [Hp.get_empty] at h; cases h
  · simp [Eng.alone] at h
  · rw [Hp.get_empty] at h; cases h

theorem no_own {V : View} (b : Nat) : ¬ Own V .empty b := by
  rintro ⟨id, s, ⟨o, h, _⟩, _⟩
  rw [Hp.get_empty] at h; cases h

/-- A closed call. -/
theorem closed_call (hc : ∀ n, CallOK P E (callN E n)) {n f : Nat} {args : List AV} {v : AV} {σ : Hp} (h : callN E n f args .empty [] [] = some (v, σ, [])) {V : View} {A : List Value} {W : World} (ha : VRs V args A) (hcl : args.all (closedA 9) = true)
    (hK : ∀ b o x, V.K b o = some x → W.cell? ⟨b, o, none⟩ = some x) (hg : GlobK E V) :
    ∃ V' R W', VR V' v R ∧ (∀ b o x, V'.K b o = some x → V.K b o = some x ∨ W.heap.size ≤ b) ∧ Fr (fun _ => False) W W' ∧ Goes P f A.toArray W R W' := by
  obtain ⟨V', O', W', R, hP, _, _, _, hv, hgo⟩ := hc n f args .empty [] [] v σ [] h W.heap.size invT (alone V) A (fun _ => False) W invT_ok ⟨fun _ _ => rfl, fun lvl hd l h1 => by simp at h1⟩ (HR.alone hK hg _) (Nat.le_refl _) (closedA_list hcl ha) (fun _ h => h) (fun _ _ h => h)
  refine ⟨V', R, W', hv, fun b o x hx => ?_, hP.fr.weaken (fun b _ hb => hb.elim (no_own b) (fun h => h)), hgo⟩
  rcases hP.K b o x hx with h | (h | h) | h
  · exact .inl h
  · exact absurd h (no_own b)
  · exact h.elim
  · exact .inr h

/-! ### Answers of whole calls, said ahead -/

abbrev Ents := List (Nat × List AV × AV)

noncomputable def lookE (L : Ents) (f : Nat) (args : List AV) : Option AV :=
  match L with
  | [] => none
  | (g, az, v) :: L => match Nat.beq f g with
    | false => lookE L f args
    | true => match avbeqL az args with
      | true => some v
      | false => lookE L f args

theorem lookE_mem : ∀ {L : Ents} {f : Nat} {args : List AV} {v : AV}, lookE L f args = some v → (f, args, v) ∈ L
  | [], f, args, v, h => by cases h
  | (g, az, w) :: L, f, args, v, h => by
    simp only [lookE] at h
    split at h
    · exact List.mem_cons_of_mem _ (lookE_mem h)
    · rename_i e
      split at h
      · rename_i e2
        simp only [Option.some.injEq] at h; subst h
        rw [Nat.eq_of_beq_eq_true e, ← avbeqL_eq _ _ e2]
        exact List.mem_cons_self
      · exact List.mem_cons_of_mem _ (lookE_mem h)

/-- The same, with more said ahead. -/
noncomputable def Env.more (E : Env) (L : Ents) : Env := { E with ext := fun f args => match lookE L f args with
  | some v => some v
  | none => E.ext f args }

/-- Answers that do not speak of memory. -/
def plainA : Nat → AV → Bool
  | 0, _ => false
  | n + 1, v => match v with
    | .bool _ => true | .int _ _ => true | .str _ => true | .nilp => true | .nils => true | .nilm => true | .nilf => true | .nili => true
    | .ifc _ v => plainA n v
    | .agg l => l.all (plainA n)
    | .tup l => l.all (plainA n)
    | _ => false

theorem plainA_spec : ∀ (n : Nat) (a : AV) {V V' : View} {v : Value}, plainA n a = true → VR V a v → VR V' a v
  | 0, a, V, V', v, h, _ => by simp [plainA] at h
  | n + 1, a, V, V', v, h, hv => by
    cases hv with
    | bool b => exact .bool b
    | int k i => exact .int k i
    | str b => exact .str b
    | nilp => exact .nilp
    | nils => exact .nils
    | nilm => exact .nilm
    | nilf => exact .nilf
    | nili => exact .nili
    | ifc t v r hv => simp only [plainA] at h; exact .ifc t v r (plainA_spec n _ h hv)
    | agg a A ha hav =>
      simp only [plainA, List.all_eq_true] at h
      exact .agg a A ha (fun i h1 h2 => plainA_spec n _ (h _ (List.getElem_mem h1)) (hav i h1 h2))
    | tup a A ha hav =>
      simp only [plainA, List.all_eq_true] at h
      exact .tup a A ha (fun i h1 h2 => plainA_spec n _ (h _ (List.getElem_mem h1)) (hav i h1 h2))
    | _ => simp [plainA] at h

/-- Is this what comes out? -/
noncomputable def comes (E : Env) (n f : Nat) (args : List AV) (v : AV) : Bool :=
  match callN E n f args .empty [] [] with
  | some (w, _, []) => match avbeq w v, args.all (closedA 9) with
    | true, true => plainA 9 v
    | _, _ => false
  | _ => false

theorem EnvOK.more (h : EnvOK P E) (L : Ents) : EnvOK P (E.more L) := by
  refine ⟨fun t k ht => ?_, h.zero, h.fn, h.eqok⟩
  obtain ⟨h1, h2⟩ := h.ty t k ht
  refine ⟨h1, ?_⟩
  cases k <;> exact h2

/-- What is found by a run may be said ahead. -/
theorem ExtOK.more (hE : EnvOK P E) (hX : ExtOK P E) (hN : NameOK E) (hmix : P.follows .mixedOrders = true) {L : Ents} (hL : ∀ e ∈ L, ∃ n, comes E n e.1 e.2.1 e.2.2 = true) : ExtOK P (E.more L) := by
  intro f args v h V A W ha hK hg
  have hc := engine_ok hE hX hN hmix
  simp only [Env.more] at h
  split at h
  · rename_i w hw
    simp only [Option.some.injEq] at h; subst h
    obtain ⟨n, hn⟩ := hL _ (lookE_mem hw)
    simp only [comes] at hn
    split at hn
    · rename_i u σ hcall
      split at hn
      · rename_i e1 e2
        have := avbeq_eq _ _ e1
        subst this
        obtain ⟨V', R, W', hv, _, hf, hgo⟩ := closed_call hc hcall ha e2 hK hg
        exact ⟨R, W', plainA_spec 9 _ hn hv, hf, hgo⟩
      · cases hn
    · cases hn
  · exact hX f args v h V A W ha hK hg

theorem NameOK.more (h : NameOK E) (L : Ents) : NameOK (E.more L) := h
end
end Go.Eng

namespace Go.Eng
open Go
section
variable {P : Program} {ρ : Operand → Value} {W W' : World} {d : Option Nat} {ty : TypeId} {pos : String} {aft : Array Edge} {gd : Option (Nat × Bool)}
theorem x_assign (x : Operand) : (execOp ρ ⟨d, .assign x, ty, pos, aft, gd⟩).run P W = .ok (.value (ρ x)) W := by simp [execOp]
theorem x_move (x : Operand) : (execOp ρ ⟨d, .move x, ty, pos, aft, gd⟩).run P W = .ok (.value (ρ x)) W := by simp [execOp]
theorem x_len_str {x : Operand} {T : TypeId} {s : ByteArray} (h : ρ x = .string s) (hT : P.underlying T = some .string) : (execOp ρ ⟨d, .call ⟨.builtin .len, #[x], #[T]⟩, ty, pos, aft, gd⟩).run P W = .ok (.value (goInt s.size)) W := by
  simp [execOp, resolve, h, invoke, builtin, Builtin.len_, under_run hT]
theorem x_len_sl {x : Operand} {T e : TypeId} {a : Option Addr} {l c : Nat} (h : ρ x = .slice a l c) (hT : P.underlying T = some (.slice e)) : (execOp ρ ⟨d, .call ⟨.builtin .len, #[x], #[T]⟩, ty, pos, aft, gd⟩).run P W = .ok (.value (goInt l)) W := by
  simp [execOp, resolve, h, invoke, builtin, Builtin.len_, under_run hT]
theorem x_eq0 {x : Operand} {T U : TypeId} {n : Int} (h : ρ x = .int .i64 n) (h0 : ρ (.const (.int .i64 0)) = .int .i64 0) (hT : P.underlying T = some (.int .i64)) : (execOp ρ ⟨d, .binOp .eql T x (.const (.int .i64 0)) U, ty, pos, aft, gd⟩).run P W = .ok (.value (.bool (n == 0))) W := by
  obtain ⟨X, h1, h2⟩ := arith_run (P := P) (V := ⟨fun _ => none, fun _ => none, fun _ _ => none, fun _ => 0⟩) (W := W) (op := .eql) (k := .i64) (a := n) (b := 0) (t := T) (x := .bool (ieq n 0)) (by decide) (by decide) rfl
  have h3 := h2.bool_inv
  subst h3
  have hg := eqGuard_plain (P := P) (W := W) .eql T x (.const (.int .i64 0)) (.int .i64 n) (.int .i64 0) (fun e => by cases e) (fun c c' e => by cases e)
  rw [ieq_eq] at h1
  simp [execOp, h, h0, hg, h1]
theorem x_make {x y : Operand} {T : TypeId} {v : Value} (h : (Instr.makeSlice T (ρ x) (ρ y)).run P W = .ok v W') : (execOp ρ ⟨d, .makeSlice T x y, ty, pos, aft, gd⟩).run P W = .ok (.value v) W' := by
  simp [execOp, h]
theorem x_copy {x y : Operand} {T U : TypeId} {v : Value} (h : (Builtin.copy_ #[T, U] ty #[ρ x, ρ y]).run P W = .ok v W') : (execOp ρ ⟨d, .call ⟨.builtin .copy, #[x, y], #[T, U]⟩, ty, pos, aft, gd⟩).run P W = .ok (.value v) W' := by
  simp [execOp, resolve, invoke, builtin, h]
theorem x_ustr {x y : Operand} {T U : TypeId} {v : Value} (h : (Builtin.unsafeString_ #[T, U] ty #[ρ x, ρ y]).run P W = .ok v W') : (execOp ρ ⟨d, .call ⟨.builtin .unsafeString, #[x, y], #[T, U]⟩, ty, pos, aft, gd⟩).run P W = .ok (.value v) W' := by
  simp [execOp, resolve, invoke, builtin, h]
theorem x_idx0 {x : Operand} {T e : TypeId} {g l c : Nat} (h : ρ x = .slice (some ⟨g, 0, none⟩) (l + 1) c) (h0 : ρ (.const (.int .i64 0)) = .int .i64 0) (hT : P.underlying T = some (.slice e)) (hz : (Go.sizeOf e).run P W = .ok 1 W) :
    (execOp ρ ⟨d, .indexAddr T x (.const (.int .i64 0)), ty, pos, aft, gd⟩).run P W = .ok (.value (.pointer (some ⟨g, 0, none⟩))) W := by
  simp [execOp, Instr.indexAt, h, h0, under_run hT, hz, asInt, asIntOf, Addr.add]
end

/-- stringslite.Clone, as it is translated: the numbers of int, bool, string, []byte, *byte. -/
def cloneF (tI tB tS tL tP : Nat) : Func :=
  { name := "internal/stringslite.Clone", origin := "", params := #[tS], resultTypes := #[tS], nfree := 0, ntmps := 18, results := #[.tmp 2],
    body := some ((Code.region 0 #[⟨some 2, .assign (.const (.string { data := #[] })), tS, "strings.go:115", #[], none⟩] false).seq
      (((Code.region 1 #[⟨some 4, .move (.tmp 0), tS, "strings.go:116", #[], none⟩,
          ⟨some 5, .call ⟨.builtin .len, #[.tmp 4], #[tS]⟩, tI, "strings.go:116", #[⟨0, .data⟩], none⟩,
          ⟨some 6, .binOp .eql tI (.tmp 5) (.const (.int .i64 0)) tI, tB, "strings.go:116", #[⟨1, .data⟩], none⟩] false).seq
        (.cond (.tmp 6) ((Code.region 2 #[⟨some 2, .assign (.const (.string { data := #[] })), tS, "strings.go:117", #[], none⟩] false).seq .ret) .skip)).seq
      ((Code.region 3 #[⟨some 7, .move (.tmp 0), tS, "strings.go:119", #[], none⟩,
          ⟨some 8, .call ⟨.builtin .len, #[.tmp 7], #[tS]⟩, tI, "strings.go:119", #[⟨0, .data⟩], none⟩,
          ⟨some 9, .makeSlice tL (.tmp 8) (.tmp 8), tL, "strings.go:119", #[⟨1, .data⟩, ⟨1, .data⟩], none⟩,
          ⟨some 3, .assign (.tmp 9), tL, "strings.go:119", #[⟨2, .data⟩, ⟨0, .phase⟩, ⟨1, .phase⟩, ⟨2, .phase⟩], none⟩] false).seq
      ((Code.region 4 #[⟨some 10, .move (.tmp 3), tL, "strings.go:120", #[], none⟩,
          ⟨some 11, .move (.tmp 0), tS, "strings.go:120", #[], none⟩,
          ⟨some 12, .call ⟨.builtin .copy, #[.tmp 10, .tmp 11], #[tL, tS]⟩, tI, "strings.go:120", #[⟨0, .data⟩, ⟨1, .data⟩], none⟩] false).seq
      ((Code.region 5 #[⟨some 13, .move (.tmp 3), tL, "strings.go:121", #[], none⟩,
          ⟨some 14, .indexAddr tL (.tmp 13) (.const (.int .i64 0)), 0, "strings.go:121", #[⟨0, .data⟩], none⟩,
          ⟨some 15, .move (.tmp 3), tL, "strings.go:121", #[], none⟩,
          ⟨some 16, .call ⟨.builtin .len, #[.tmp 15], #[tL]⟩, tI, "strings.go:121", #[⟨2, .data⟩], none⟩,
          ⟨some 17, .call ⟨.builtin .unsafeString, #[.tmp 14, .tmp 16], #[tP, tI]⟩, tS, "strings.go:121", #[⟨1, .data⟩, ⟨3, .data⟩], none⟩,
          ⟨some 2, .assign (.tmp 17), tS, "strings.go:121", #[⟨4, .data⟩, ⟨0, .phase⟩, ⟨1, .phase⟩, ⟨2, .phase⟩, ⟨3, .phase⟩, ⟨4, .phase⟩], none⟩] false).seq .ret))))),
    norace := false, file := "internal/stringslite/strings.go", endLine := 122,
    tmpNames := #["s", "s", "", "b", "", "", "", "", "", "", "", "", "", "", "", "", "", ""] }

section
variable {P : Program} {b : Frame} {A : Array Value} {DS : List Deferred} {k : List Item} {cs : List Frame} {W W' : World}

theorem st_op {ops : Array Oper} {i : Nat} {rest : List Nat} {o : Oper} {v : Value} (ho : ops[i]? = some o) (hg : o.guard = none) (hnd : ∀ c, o.op ≠ .defer c)
    (hr : (execOp (mkF b A [] []).eval o).run P W = .ok (.value v) W') :
    step P (lone (mkF b A [] (.inRegion ops (i :: rest) :: k)) cs W) = .next (lone (mkF b (putR A o.dst v) [] (.inRegion ops rest :: k)) cs W') :=
  st_value ho (by simp [Region.wanted, hg]) (.inr hnd) hr

theorem tmp_eval (t : Nat) : (mkF b A DS k).eval (.tmp t) = A.getD t undef := rfl
theorem put_size' (d : Nat) (v : Value) : (putR A (some d) v).size = A.size := by simp [putR]
theorem put_same {t : Nat} (v : Value) (h : t < A.size) : (putR A (some t) v).getD t undef = v := by
  simp [putR, Array.getD_eq_getD_getElem?, Array.getElem?_setIfInBounds, h]
theorem put_ne {d t : Nat} (v : Value) (h : d ≠ t) : (putR A (some d) v).getD t undef = A.getD t undef := by
  simp [putR, Array.getD_eq_getD_getElem?, Array.getElem?_setIfInBounds, h]

theorem clone_goes {f tI tB tS tL tP tE : Nat} {iE : TypeInfo} (hf : P.funcs[f]? = some (cloneF tI tB tS tL tP)) (hI : P.underlying tI = some (.int .i64)) (hS : P.underlying tS = some .string) (hL : P.underlying tL = some (.slice tE)) (hP : P.underlying tP = some (.pointer tE))
    (hE : P.info? tE = some iE) (hz : iE.zero = some (.int .u8 0)) (h1 : iE.size = 1) (h2 : iE.bytes = 1) (s : ByteArray) (hs : s.size ≤ 281474976710656) (W : World) :
    ∃ W', Fr (fun _ => False) W W' ∧ Goes P f #[.string s] W (.string s) W' := by
  have hcf : (callFunc f #[.string s]).run P W = .ok (.enter f #[.string s]) W := by
    simp [callFunc, Sem.run_bind, hf, cloneF]
  have hA0 : ∀ kind, Frame.enter P f #[.string s] kind = mkF (Frame.enter P f #[.string s] kind) (#[.string s] ++ Array.replicate 17 undef) [] [.code ((cloneF tI tB tS tL tP).body.getD .skip)] := by
    intro kind
    simp [Frame.enter, mkF, hf, cloneF]
  have hc0 : ∀ (b : Frame) (A : Array Value), (mkF b A [] []).eval (.const (.int .i64 0)) = .int .i64 0 := fun _ _ => rfl
  have hfin : ∀ (kind : CallKind) (caller : Frame) (rest : List Frame) (A1 : Array Value) (k1 : List Item) (W1 : World), (kind = .normal ∨ (kind = .deferred ∧ caller.mode = .returning)) → A1.getD 2 undef = .string s →
      Steps P (lone (mkF (Frame.enter P f #[.string s] kind) A1 [] (.code .ret :: k1)) (caller :: rest) W1) (lone (backTo kind (.string s) caller) rest W1) := by
    intro kind caller rest A1 k1 W1 hk h2
    refine .head (st_ret rfl) (.one ?_)
    exact un_done (b := Frame.enter P f #[.string s] kind) (fn := cloneF tI tB tS tL tP) hf (by
      have : (results (cloneF tI tB tS tL tP) A1).run P W1 = .ok (A1.getD 2 undef) W1 := by
        simp [results, cloneF, Array.getD_eq_getD_getElem?]
      rw [this, h2]) hk
  generalize hAA : (#[Value.string s] ++ Array.replicate 17 undef : Array Value) = A0 at hA0
  have g0 : A0.getD 0 undef = .string s := by rw [← hAA]; simp [Array.getD_eq_getD_getElem?]
  have z0 : A0.size = 18 := by rw [← hAA]; simp
  by_cases h0 : s.size = 0
  · have hse : s = { data := #[] } := by
      apply ByteArray.ext
      exact Array.eq_empty_of_size_eq_zero h0
    refine ⟨W, .refl _ _, .enter W hcf fun kind caller rest hk => ?_⟩
    rw [hA0 kind]
    refine .head st_seq (.head st_region (.head (st_op (o := ⟨some 2, .assign (.const (.string { data := #[] })), tS, "strings.go:115", #[], none⟩) rfl rfl (fun c e => by cases e) (x_assign _)) (.head st_region_end ?_)))
    refine .head st_seq (.head st_seq (.head st_region ?_))
    refine .head (st_op (o := ⟨some 4, .move (.tmp 0), tS, "strings.go:116", #[], none⟩) rfl rfl (fun c e => by cases e) (x_move _)) ?_
    rw [tmp_eval, put_ne _ (by decide), g0]
    refine .head (st_op (o := ⟨some 5, .call ⟨.builtin .len, #[.tmp 4], #[tS]⟩, tI, "strings.go:116", #[⟨0, .data⟩], none⟩) rfl rfl (fun c e => by cases e) (x_len_str (s := s) (by rw [tmp_eval]; exact put_same _ (by simp [put_size', z0])) hS)) ?_
    refine .head (st_op (o := ⟨some 6, .binOp .eql tI (.tmp 5) (.const (.int .i64 0)) tI, tB, "strings.go:116", #[⟨1, .data⟩], none⟩) rfl rfl (fun c e => by cases e) (x_eq0 (n := (s.size : Int)) (by rw [tmp_eval]; exact put_same _ (by simp [put_size', z0])) (hc0 _ _) hI)) ?_
    refine .head st_region_end (.head (st_cond (t := true) (by rw [tmp_eval, put_same _ (by simp [put_size', z0]), h0]; rfl)) ?_)
    refine .head st_seq (.head st_region (.head (st_op (o := ⟨some 2, .assign (.const (.string { data := #[] })), tS, "strings.go:117", #[], none⟩) rfl rfl (fun c e => by cases e) (x_assign _)) (.head st_region_end ?_)))
    refine hfin kind caller rest _ _ W hk ?_
    rw [put_same _ (by simp [put_size', z0]), hse]; rfl
  · have hz1 : ∀ w : World, (Go.sizeOf tE).run P w = .ok 1 w := fun w => by simp [Go.sizeOf, typeInfo, hE, h1]
    have hinfo : (P.info? tE).map (·.size) = some 1 := by rw [hE]; simp [h1]
    have hco : P.cellsOf tE = 1 := by simp [Program.cellsOf, hE, h1]
    obtain ⟨M, hM⟩ : ∃ M, M = madeCells (Value.int .u8 0).cells (((s.size : Nat) : Int).toNat * iE.size) := ⟨_, rfl⟩
    have hMs : M.size = s.size := by rw [hM, size_madeCells, h1]; simp
    let W1 : World := W.alloc (.cells M tE)
    have hmk : (Instr.makeSlice tL (.int .i64 (s.size : Int)) (.int .i64 (s.size : Int))).run P W = .ok (.slice (some ⟨W.heap.size, 0, none⟩) s.size s.size) W1 := by
      have h := run_make (P := P) W tL tE iE (.int .u8 0) hL hE hz .i64 .i64 (s.size : Int) (s.size : Int) (by omega) (by omega) (by rw [h2]; omega) (by omega)
      rw [← hM] at h
      simpa using h
    have hh1 : W1.heap[W.heap.size]? = some (.cells M tE (0, 0)) := heap_alloc_self W _
    have hcp := Lib.run_copy_row_string (P := P) W1 tL tS tI tE W.heap.size 0 s.size s.size s M tE hL hinfo hh1 (Nat.le_refl _) (by omega)
    obtain ⟨Y, hY⟩ : ∃ Y, Y = (M.toList.take 0 ++ Lib.byteCells s.data.toList ++ M.toList.drop (0 + s.size)).toArray := ⟨_, rfl⟩
    rw [← hY] at hcp
    have hYl : Y.toList = Lib.byteCells s.data.toList := by
      rw [hY, List.toList_toArray, List.take_zero, List.nil_append, List.drop_of_length_le (by rw [Array.length_toList]; omega), List.append_nil]
    have hYs : Y.size = s.size := by rw [← Array.length_toList, hYl, Lib.byteCells_length, ← Lib.size_eq]
    let W2 : World := W1.setRow W.heap.size Y
    have hh2 : W2.heap[W.heap.size]? = some (.cells Y tE (0, 0)) := setRow_self_heap W1 W.heap.size M Y tE (0, 0) hh1
    have hne : s.data.toList ≠ [] := fun e => h0 (by rw [Lib.size_eq, e]; rfl)
    have hus := Lib.run_unsafeString_row (P := P) W2 tP tI tS tE hP hco W.heap.size Y.size (by simp only [World.shape?, hh2]) s.data.toList hne (by rw [hYs, ← Lib.size_eq]; exact Nat.le_refl _) (by rw [← Lib.size_eq]; omega)
      (fun j x hx => by
        have e : (⟨W.heap.size, 0, none⟩ : Addr).add j = ⟨W.heap.size, j, none⟩ := by
          unfold Addr.add
          by_cases hj : j = 0
          · rw [if_pos hj, hj]
          · rw [if_neg hj, Nat.zero_add]
        rw [e, cell_of_row _ _ _ _ _ _ hh2, ← Array.getElem?_toList, hYl]
        simp [Lib.byteCells, hx])
    rw [← Lib.size_eq] at hus
    have hse : (⟨s.data.toList.toArray⟩ : ByteArray) = s := by simp
    rw [hse] at hus
    let W3 : World := W2.freeze ⟨W.heap.size, 0, none⟩ s.size
    have hfr : Fr (fun _ => False) W W3 := by
      have e1 : RowKit.Below W.heap.size W W1 := (RowKit.Below.refl _ W).alloc (Nat.le_refl _) _
      have e2 : RowKit.Below W.heap.size W1 W2 := ⟨rfl, rfl, rfl, Nat.le_of_eq (setRow_size _ _ _).symm, fun b hb => setRow_heap _ _ _ _ (by omega)⟩
      have e3 := Lib.below_freeze (e1.trans e2) (p := ⟨W.heap.size, 0, none⟩) (Nat.le_refl _) s.size
      exact ⟨e3.os, e3.tape, e3.output, e3.size, fun b hb _ => e3.block b hb⟩
    refine ⟨W3, hfr, .enter W hcf fun kind caller rest hk => ?_⟩
    have hn0 : ((s.size : Int) == 0) = false := by
      cases e : ((s.size : Int) == 0) with
      | false => rfl
      | true => exact absurd (by simpa using e) h0
    obtain ⟨m, hm⟩ : ∃ m, s.size = m + 1 := ⟨s.size - 1, by omega⟩
    rw [hA0 kind]
    refine .head st_seq (.head st_region (.head (st_op (o := ⟨some 2, .assign (.const (.string { data := #[] })), tS, "strings.go:115", #[], none⟩) rfl rfl (fun c e => by cases e) (x_assign _)) (.head st_region_end ?_)))
    refine .head st_seq (.head st_seq (.head st_region ?_))
    refine .head (st_op (o := ⟨some 4, .move (.tmp 0), tS, "strings.go:116", #[], none⟩) rfl rfl (fun c e => by cases e) (x_move _)) ?_
    rw [tmp_eval, put_ne _ (by decide), g0]
    refine .head (st_op (o := ⟨some 5, .call ⟨.builtin .len, #[.tmp 4], #[tS]⟩, tI, "strings.go:116", #[⟨0, .data⟩], none⟩) rfl rfl (fun c e => by cases e) (x_len_str (s := s) (by rw [tmp_eval]; exact put_same _ (by simp [put_size', z0])) hS)) ?_
    refine .head (st_op (o := ⟨some 6, .binOp .eql tI (.tmp 5) (.const (.int .i64 0)) tI, tB, "strings.go:116", #[⟨1, .data⟩], none⟩) rfl rfl (fun c e => by cases e) (x_eq0 (n := (s.size : Int)) (by rw [tmp_eval]; exact put_same _ (by simp [put_size', z0])) (hc0 _ _) hI)) ?_
    refine .head st_region_end (.head (st_cond (t := false) (by rw [tmp_eval, put_same _ (by simp [put_size', z0]), hn0])) ?_)
    refine .head st_skip (.head st_seq (.head st_region ?_))
    refine .head (st_op (o := ⟨some 7, .move (.tmp 0), tS, "strings.go:119", #[], none⟩) rfl rfl (fun c e => by cases e) (x_move _)) ?_
    rw [tmp_eval, put_ne _ (by decide), put_ne _ (by decide), put_ne _ (by decide), put_ne _ (by decide), g0]
    refine .head (st_op (o := ⟨some 8, .call ⟨.builtin .len, #[.tmp 7], #[tS]⟩, tI, "strings.go:119", #[⟨0, .data⟩], none⟩) rfl rfl (fun c e => by cases e) (x_len_str (s := s) (by rw [tmp_eval]; exact put_same _ (by simp [put_size', z0])) hS)) ?_
    refine .head (st_op (o := ⟨some 9, .makeSlice tL (.tmp 8) (.tmp 8), tL, "strings.go:119", #[⟨1, .data⟩, ⟨1, .data⟩], none⟩) (W' := W1) rfl rfl (fun c e => by cases e) (x_make (by rw [tmp_eval, put_same _ (by simp [put_size', z0])]; exact hmk))) ?_
    refine .head (st_op (o := ⟨some 3, .assign (.tmp 9), tL, "strings.go:119", #[⟨2, .data⟩, ⟨0, .phase⟩, ⟨1, .phase⟩, ⟨2, .phase⟩], none⟩) rfl rfl (fun c e => by cases e) (x_assign _)) ?_
    rw [tmp_eval, put_same _ (by simp [put_size', z0])]
    refine .head st_region_end (.head st_seq (.head st_region ?_))
    refine .head (st_op (o := ⟨some 10, .move (.tmp 3), tL, "strings.go:120", #[], none⟩) rfl rfl (fun c e => by cases e) (x_move _)) ?_
    rw [tmp_eval, put_same _ (by simp [put_size', z0])]
    refine .head (st_op (o := ⟨some 11, .move (.tmp 0), tS, "strings.go:120", #[], none⟩) rfl rfl (fun c e => by cases e) (x_move _)) ?_
    rw [tmp_eval]
    iterate 9 rw [put_ne _ (by decide)]
    rw [g0]
    refine .head (st_op (o := ⟨some 12, .call ⟨.builtin .copy, #[.tmp 10, .tmp 11], #[tL, tS]⟩, tI, "strings.go:120", #[⟨0, .data⟩, ⟨1, .data⟩], none⟩) (W' := W2) rfl rfl (fun c e => by cases e)
      (x_copy (by rw [tmp_eval, tmp_eval, put_same _ (by simp [put_size', z0]), put_ne _ (by decide), put_same _ (by simp [put_size', z0])]; exact hcp))) ?_
    refine .head st_region_end (.head st_seq (.head st_region ?_))
    refine .head (st_op (o := ⟨some 13, .move (.tmp 3), tL, "strings.go:121", #[], none⟩) rfl rfl (fun c e => by cases e) (x_move _)) ?_
    rw [tmp_eval]
    iterate 3 rw [put_ne _ (by decide)]
    rw [put_same _ (by simp [put_size', z0]), hm]
    refine .head (st_op (o := ⟨some 14, .indexAddr tL (.tmp 13) (.const (.int .i64 0)), 0, "strings.go:121", #[⟨0, .data⟩], none⟩) rfl rfl (fun c e => by cases e) (x_idx0 (g := W.heap.size) (l := m) (c := m + 1) (by rw [tmp_eval]; exact put_same _ (by simp [put_size', z0])) (hc0 _ _) hL (hz1 _))) ?_
    refine .head (st_op (o := ⟨some 15, .move (.tmp 3), tL, "strings.go:121", #[], none⟩) rfl rfl (fun c e => by cases e) (x_move _)) ?_
    rw [tmp_eval]
    iterate 5 rw [put_ne _ (by decide)]
    rw [put_same _ (by simp [put_size', z0])]
    refine .head (st_op (o := ⟨some 16, .call ⟨.builtin .len, #[.tmp 15], #[tL]⟩, tI, "strings.go:121", #[⟨2, .data⟩], none⟩) rfl rfl (fun c e => by cases e) (x_len_sl (a := some ⟨W.heap.size, 0, none⟩) (l := m + 1) (c := m + 1) (by rw [tmp_eval]; exact put_same _ (by simp [put_size', z0])) hL)) ?_
    refine .head (st_op (o := ⟨some 17, .call ⟨.builtin .unsafeString, #[.tmp 14, .tmp 16], #[tP, tI]⟩, tS, "strings.go:121", #[⟨1, .data⟩, ⟨3, .data⟩], none⟩) (W' := W3) rfl rfl (fun c e => by cases e)
      (x_ustr (v := .string s) (by rw [tmp_eval, tmp_eval, put_ne _ (by decide), put_ne _ (by decide), put_same _ (by simp [put_size', z0]), put_same _ (by simp [put_size', z0]), ← hm]; exact hus))) ?_
    refine .head (st_op (o := ⟨some 2, .assign (.tmp 17), tS, "strings.go:121", #[⟨4, .data⟩, ⟨0, .phase⟩, ⟨1, .phase⟩, ⟨2, .phase⟩, ⟨3, .phase⟩, ⟨4, .phase⟩], none⟩) rfl rfl (fun c e => by cases e) (x_assign _)) ?_
    rw [tmp_eval, put_same _ (by simp [put_size', z0])]
    refine .head st_region_end ?_
    exact hfin kind caller rest _ _ W3 hk (put_same _ (by simp [put_size', z0]))
end
end Go.Eng

/-
  THE ENGINE, 48: what is said ahead is so; the tables of a program are its own.
-/
namespace Go.Eng
open Go

theorem u8_toNat {c : Nat} (hc : c ≤ 255) : c.toUInt8.toNat = c := by
  show (UInt8.ofNat c).toNat = c
  rw [UInt8.toNat_ofNat']
  omega
theorem u8_beq {b : UInt8} {c : Nat} (hc : c ≤ 255) : Nat.beq b.toNat c = (b == c.toUInt8) := by
  have h := u8_toNat hc
  cases e : (b == c.toUInt8) with
  | true =>
    have : b = c.toUInt8 := by simpa using e
    subst this
    rw [h]; exact Nat.beq_refl c
  | false =>
    cases e2 : Nat.beq b.toNat c with
    | false => rfl
    | true =>
      have h2 := Nat.eq_of_beq_eq_true e2
      have : b = c.toUInt8 := by
        apply UInt8.toNat_inj.1
        rw [h, h2]
      subst this
      simp at e

theorem idxByte_spec {c : Nat} (hc : c ≤ 255) : ∀ (l : List UInt8) (i : Nat) (x : Int), Lib.indexByte l c.toUInt8 = x → idxByte (l.map (·.toNat)) c i = if x = -1 then -1 else x + i
  | [], i, x, hx => by
    have : x = -1 := by rw [← hx]; rfl
    subst this; simp [idxByte]
  | b :: l, i, x, hx => by
    simp only [List.map_cons, idxByte]
    rw [u8_beq hc]
    unfold Lib.indexByte at hx
    have hge := Lib.indexByte_ge l c.toUInt8
    by_cases e : (b == c.toUInt8) = true
    · rw [if_pos e] at hx
      subst hx
      rw [e]; simp
    · have e' : (b == c.toUInt8) = false := by simpa using e
      rw [if_neg e] at hx
      rw [e']
      simp only
      rw [idxByte_spec hc l (i + 1) _ rfl]
      by_cases h : Lib.indexByte l c.toUInt8 = -1
      · have h2 : (Lib.indexByte l c.toUInt8 == -1) = true := by rw [h]; rfl
        rw [if_pos h2] at hx
        subst hx
        rw [if_pos h]; rfl
      · have h2 : ¬ (Lib.indexByte l c.toUInt8 == -1) = true := by simpa using h
        rw [if_neg h2] at hx
        subst hx
        rw [if_neg h, if_neg (by omega)]
        omega

theorem cntByte_spec {c : Nat} (hc : c ≤ 255) : ∀ (l : List UInt8), cntByte (l.map (·.toNat)) c = Lib.countByte l c.toUInt8
  | [] => rfl
  | b :: l => by
    simp only [List.map_cons, cntByte]
    rw [u8_beq hc, cntByte_spec hc l]
    unfold Lib.countByte
    rw [List.count_cons]
    by_cases e : (b == c.toUInt8) = true
    · rw [if_pos e, e]
    · have e' : (b == c.toUInt8) = false := by simpa using e
      rw [if_neg e, e']; simp

section
variable {P : Program}

/-- The three functions of Go's library. -/
structure LibOK (P : Program) (fI fC fK : Nat) : Prop where
  idx : ∃ fn, P.funcs[fI]? = some fn ∧ (fn.name == "runtime.NumGoroutine") = false ∧ fn.body.isNone = true ∧ Extern.findNext fn = none ∧ Extern.find fn = some Extern.BytealgIndexByte.indexByte
  cnt : ∃ fn, P.funcs[fC]? = some fn ∧ (fn.name == "runtime.NumGoroutine") = false ∧ fn.body.isNone = true ∧ Extern.findNext fn = none ∧ Extern.find fn = some Extern.BytealgCount.count
  cln : ∃ tI tB tS tL tP tE iE, P.funcs[fK]? = some (cloneF tI tB tS tL tP) ∧ P.underlying tI = some (.int .i64) ∧ P.underlying tS = some .string ∧ P.underlying tL = some (.slice tE) ∧ P.underlying tP = some (.pointer tE) ∧
    P.info? tE = some iE ∧ iE.zero = some (.int .u8 0) ∧ iE.size = 1 ∧ iE.bytes = 1

theorem one_str_u8 {V : View} {s : List Nat} {c : Nat} {A : List Value} (h : VRs V [.str s, .int .u8 (.ofNat c)] A) : ∃ b : ByteArray, s = b.data.toList.map (·.toNat) ∧ A = [.string b, .int .u8 (.ofNat c)] := by
  obtain ⟨X, Xs, rfl, h1, h2⟩ := h.cons_inv
  obtain ⟨Y, Ys, rfl, h3, h4⟩ := h2.cons_inv
  cases h4.nil_inv
  obtain ⟨b, rfl, rfl⟩ := h1.str_inv
  have := h3.int_inv
  subst this
  exact ⟨b, rfl, rfl⟩

theorem ext_ok {E : Env} {fI fC fK : Nat} (hE : E.ext = extA fI fC fK) (h : LibOK P fI fC fK) : ExtOK P E := by
  intro f args v hx V A W ha hK hg
  rw [hE] at hx
  unfold extA at hx
  split at hx
  · rename_i e
    have hf := Nat.eq_of_beq_eq_true e
    subst hf
    split at hx
    · rename_i s c
      split at hx
      · rename_i hc
        simp only [Option.some.injEq] at hx; subst hx
        have hc' := Nat.le_of_ble_eq_true hc
        obtain ⟨b, rfl, rfl⟩ := one_str_u8 ha
        obtain ⟨fn, h1, h2, h3, h4, h5⟩ := h.idx
        refine ⟨.int .i64 (Lib.indexByte b.data.toList c.toUInt8), W, ?_, .refl _ _, .value ?_⟩
        · rw [idxByte_spec hc' b.data.toList 0 _ rfl]
          split
          · rename_i e2; rw [e2]; exact .int _ _
          · rw [show Lib.indexByte b.data.toList c.toUInt8 + ((0 : Nat) : Int) = Lib.indexByte b.data.toList c.toUInt8 by omega]; exact .int _ _
        · rw [run_callFunc_extern h1 h2 h3 h4 h5]
          rw [show ([Value.string b, .int .u8 (.ofNat c)] : List Value).toArray = #[.string b, .int .u8 (.ofNat c)] from rfl, Lib.run_indexByteString]
          rfl
      · cases hx
    · cases hx
  · split at hx
    · rename_i _ e
      have hf := Nat.eq_of_beq_eq_true e
      subst hf
      split at hx
      · rename_i s c
        split at hx
        · rename_i hc
          simp only [Option.some.injEq] at hx; subst hx
          have hc' := Nat.le_of_ble_eq_true hc
          obtain ⟨b, rfl, rfl⟩ := one_str_u8 ha
          obtain ⟨fn, h1, h2, h3, h4, h5⟩ := h.cnt
          refine ⟨.int .i64 (Lib.countByte b.data.toList c.toUInt8 : Nat), W, ?_, .refl _ _, .value ?_⟩
          · rw [cntByte_spec hc' b.data.toList]; exact .int _ _
          · rw [run_callFunc_extern h1 h2 h3 h4 h5]
            rw [show ([Value.string b, .int .u8 (.ofNat c)] : List Value).toArray = #[.string b, .int .u8 (.ofNat c)] from rfl, Lib.run_countString]
            rfl
        · cases hx
      · cases hx
    · split at hx
      · rename_i _ _ e
        have hf := Nat.eq_of_beq_eq_true e
        subst hf
        split at hx
        · rename_i s
          split at hx
          · rename_i hc
            simp only [Option.some.injEq] at hx; subst hx
            have hc' := Nat.le_of_ble_eq_true hc
            obtain ⟨X, Xs, rfl, h1, h2⟩ := ha.cons_inv
            cases h2.nil_inv
            obtain ⟨b, rfl, rfl⟩ := h1.str_inv
            obtain ⟨tI, tB, tS, tL, tP, tE, iE, k1, k2, k3, k4, k5, k6, k7, k8, k9⟩ := h.cln
            have hs : b.size ≤ 281474976710656 := by
              have : b.size = (b.data.toList.map (·.toNat)).length := by simp only [List.length_map]; rfl
              omega
            obtain ⟨W', hfr, hgo⟩ := clone_goes k1 k2 k3 k4 k5 k6 k7 k8 k9 b hs W
            exact ⟨.string b, W', .str b, hfr, hgo⟩
          · cases hx
        · cases hx
      · cases hx

/-! ### The tables -/

/-- Is it so of each entry? f: the number of an entry, by its place in the part that is looked at. -/
def allT {α : Type} (p : Nat → α → Bool) : Tr α → (Nat → Nat) → Bool
  | .lf, _ => true
  | .nd l v r, f => (match v with | none => true | some v => p (f 0) v) && (allT p l (fun j => f (2 * j + 1)) && allT p r (fun j => f (2 * j + 2)))

theorem allT_spec {α : Type} {p : Nat → α → Bool} : ∀ (t : Tr α) (f : Nat → Nat), allT p t f = true → ∀ k v, t.get k = some v → p (f k) v = true
  | .lf, f, _, k, v, h => by simp [Tr.get_lf] at h
  | .nd l w r, f, ha, k, v, h => by
    simp only [allT, Bool.and_eq_true] at ha
    obtain ⟨h0, h1, h2⟩ := ha
    rw [Tr.get_nd] at h
    cases k with
    | zero => simp only at h; subst h; exact h0
    | succ k =>
      simp only at h
      cases e : Nat.beq ((k + 1) % 2) 1 with
      | true =>
        rw [e] at h; simp only at h
        have := allT_spec l _ h1 _ _ h
        have hm := Nat.eq_of_beq_eq_true e
        rw [show k + 1 = 2 * ((k + 1) / 2) + 1 by omega]; exact this
      | false =>
        rw [e] at h; simp only at h
        have := allT_spec r _ h2 _ _ h
        have hm : (k + 1) % 2 = 0 := by
          have : (k + 1) % 2 ≠ 1 := fun e' => by rw [e'] at e; exact absurd e (by decide)
          omega
        rw [show k + 1 = 2 * ((k + 1) / 2 - 1) + 2 by omega]; exact this

/-- Is it so of each entry, as a statement? -/
def allP {α : Type} (p : Nat → α → Prop) : Tr α → (Nat → Nat) → Prop
  | .lf, _ => True
  | .nd l v r, f => (match v with | none => True | some v => p (f 0) v) ∧ allP p l (fun j => f (2 * j + 1)) ∧ allP p r (fun j => f (2 * j + 2))
theorem allP_spec {α : Type} {p : Nat → α → Prop} : ∀ (t : Tr α) (f : Nat → Nat), allP p t f → ∀ k v, t.get k = some v → p (f k) v
  | .lf, f, _, k, v, h => by simp [Tr.get_lf] at h
  | .nd l w r, f, ha, k, v, h => by
    obtain ⟨h0, h1, h2⟩ := ha
    rw [Tr.get_nd] at h
    cases k with
    | zero => simp only at h; subst h; exact h0
    | succ k =>
      simp only at h
      cases e : Nat.beq ((k + 1) % 2) 1 with
      | true =>
        rw [e] at h; simp only at h
        have := allP_spec l _ h1 _ _ h
        have hm := Nat.eq_of_beq_eq_true e
        rw [show k + 1 = 2 * ((k + 1) / 2) + 1 by omega]; exact this
      | false =>
        rw [e] at h; simp only at h
        have := allP_spec r _ h2 _ _ h
        have hm : (k + 1) % 2 = 0 := by
          have : (k + 1) % 2 ≠ 1 := fun e' => by rw [e'] at e; exact absurd e (by decide)
          omega
        rw [show k + 1 = 2 * ((k + 1) / 2 - 1) + 2 by omega]; exact this

def hasB (P : Program) (E : Nat → Nat) (t : Nat) : Bool := match P.info? t with
  | some i => Nat.beq (E t) i.size
  | none => false
theorem hasB_spec {E : Env} {t : Nat} (h : hasB P E.size t = true) : Has P E t := by
  unfold hasB at h
  split at h
  · rename_i i hi; exact ⟨i, hi, Nat.eq_of_beq_eq_true h⟩
  · cases h

def fieldsB (P : Program) (E : Nat → Nat) : List KF → List Field → Bool
  | [], [] => true
  | k :: ks, f :: fs => Nat.beq k.off f.offset && (Nat.beq k.type f.type && ((k.named == (f.name != "_")) && (hasB P E f.type && fieldsB P E ks fs)))
  | _, _ => false
theorem fieldsB_spec {E : Env} : ∀ {ks : List KF} {fs : List Field}, fieldsB P E.size ks fs = true → ks = fs.map (fun f => (⟨f.offset, f.type, f.name != "_"⟩ : KF)) ∧ ∀ f ∈ fs, Has P E f.type
  | [], [], _ => ⟨rfl, fun f hf => by cases hf⟩
  | k :: ks, [], h => by simp [fieldsB] at h
  | [], f :: fs, h => by simp [fieldsB] at h
  | k :: ks, f :: fs, h => by
    simp only [fieldsB, Bool.and_eq_true] at h
    obtain ⟨h1, h2, h3, h4, h5⟩ := h
    obtain ⟨g1, g2⟩ := fieldsB_spec h5
    obtain ⟨o, t, n⟩ := k
    have e1 := Nat.eq_of_beq_eq_true h1
    have e2 := Nat.eq_of_beq_eq_true h2
    have e3 : n = (f.name != "_") := by simpa using h3
    simp only at e1 e2
    subst e1; subst e2; subst e3
    exact ⟨by rw [g1]; rfl, fun x hx => by
      rcases List.mem_cons.1 hx with rfl | hx
      · exact hasB_spec h4
      · exact g2 x hx⟩

noncomputable def tyB (P : Program) (sz by_ : Nat → Nat) (t : Nat) (k : KT) : Bool := hasB P sz t && (match k, P.underlying t with
  | .bool, some .bool => true
  | .int k, some (.int k') => ikb k k'
  | .str, some .string => true
  | .ptr, some (.pointer _) => true
  | .slice e, some (.slice e') => Nat.beq e e' && (hasB P sz e && (match P.info? e with | some i => Nat.beq (by_ e) i.bytes | none => false))
  | .arr n e, some (.array n' e') => Nat.beq n n' && (Nat.beq e e' && hasB P sz e)
  | .map k e, some (.map k' e') => Nat.beq k k' && (Nat.beq e e' && hasB P sz e)
  | .fn, some (.func _ _ _) => true
  | .ifc b, some (.interface ms) => b == ms.isEmpty
  | .struct fs, some (.struct F) => fieldsB P sz fs F.toList
  | _, _ => false)

theorem tyB_spec {E : Env} {t : Nat} {k : KT} (h : tyB P E.size E.bytes t k = true) : Has P E t ∧ KOK P E t k := by
  unfold tyB at h
  rw [Bool.and_eq_true] at h
  obtain ⟨h1, h2⟩ := h
  refine ⟨hasB_spec h1, ?_⟩
  split at h2
  · rename_i hu; exact hu
  · rename_i hu; rw [ikb_eq h2]; exact hu
  · rename_i hu; exact hu
  · rename_i hu; exact ⟨_, hu⟩
  · rename_i e e' hu
    simp only [Bool.and_eq_true] at h2
    have := Nat.eq_of_beq_eq_true h2.1; subst this
    refine ⟨hu, hasB_spec h2.2.1, ?_⟩
    have h3 := h2.2.2
    split at h3
    · rename_i i hi; exact ⟨i, hi, Nat.eq_of_beq_eq_true h3⟩
    · cases h3
  · rename_i n e n' e' hu
    simp only [Bool.and_eq_true] at h2
    have e1 := Nat.eq_of_beq_eq_true h2.1; have e2 := Nat.eq_of_beq_eq_true h2.2.1; subst e1; subst e2
    exact ⟨hu, hasB_spec h2.2.2⟩
  · rename_i n e n' e' hu
    simp only [Bool.and_eq_true] at h2
    have e1 := Nat.eq_of_beq_eq_true h2.1; have e2 := Nat.eq_of_beq_eq_true h2.2.1; subst e1; subst e2
    exact ⟨hu, hasB_spec h2.2.2⟩
  · rename_i hu; exact ⟨_, _, _, hu⟩
  · rename_i b ms hu; exact ⟨ms, hu, by simpa using h2⟩
  · rename_i fs F hu
    obtain ⟨g1, g2⟩ := fieldsB_spec h2
    exact ⟨F, hu, g1, g2⟩
  · cases h2

noncomputable def zeB (P : Program) (sz : Nat → Nat) (t : Nat) (z : AV) : Bool := match P.info? t with
  | some i => match i.zero with
    | some v => (match lit 4 v with | some z' => avbeq z' z | none => false) && (Nat.beq v.cells.size i.size && Nat.beq (sz t) i.size)
    | none => false
  | none => false
theorem zeB_spec {sz : Nat → Nat} {t : Nat} {z : AV} (h : zeB P sz t z = true) : ∃ i v, P.info? t = some i ∧ i.zero = some v ∧ Const z v ∧ v.cells.size = i.size ∧ sz t = i.size := by
  unfold zeB at h
  split at h
  · rename_i i hi
    split at h
    · rename_i v hv
      simp only [Bool.and_eq_true] at h
      obtain ⟨h1, h2, h3⟩ := h
      split at h1
      · rename_i z' hz'
        have := avbeq_eq _ _ h1
        subst this
        exact ⟨i, v, hi, hv, fun V => lit_sound 4 v _ hz' V, Nat.eq_of_beq_eq_true h2, Nat.eq_of_beq_eq_true h3⟩
      · cases h1
    · cases h
  · cases h

/-- What is asked of the tables of a program. -/
structure TabsOK (P : Program) (T : Tabs) : Prop where
  ty : allT (tyB P T.env.size T.env.bytes) T.ty (fun k => k) = true
  ze : allT (zeB P T.env.size) T.ze (fun k => k) = true
  eq : allT (fun t _ => !P.stoodInHeld t && !P.eqGuardType P.depth t) T.eq (fun k => k) = true
  fn : allP (fun f fn => P.funcs[f]? = some fn) T.fn (fun k => k)
  nm : allT (fun _ fn => fn.name != "runtime.NumGoroutine") T.fn (fun k => k) = true
  lib : LibOK P T.fI T.fC T.fK
  mix : P.follows .mixedOrders = true

theorem TabsOK.env {T : Tabs} (h : TabsOK P T) : EnvOK P T.env := by
  refine ⟨fun t k ht => tyB_spec (allT_spec _ _ h.ty _ _ ht), fun t z hz => ?_, fun f fn hf => allP_spec _ _ h.fn _ _ hf, fun t ht => ?_⟩
  · obtain ⟨i, v, h1, h2, h3, h4, h5⟩ := zeB_spec (allT_spec _ _ h.ze _ _ hz)
    exact ⟨i, v, h1, h2, h3, h4, h5⟩
  · have ht' : (match T.eq.get t with | some _ => true | none => false) = true := ht
    split at ht'
    · rename_i u hu
      have := allT_spec _ _ h.eq _ _ hu
      simpa using this
    · cases ht'
theorem TabsOK.name {T : Tabs} (h : TabsOK P T) : NameOK T.env := by
  intro f fn hf
  have := allT_spec _ _ h.nm _ _ hf
  simpa using this
theorem TabsOK.ext {T : Tabs} (h : TabsOK P T) : ExtOK P T.env := ext_ok (fI := T.fI) (fC := T.fC) (fK := T.fK) rfl h.lib
end
end Go.Eng

set_option maxRecDepth 100000
namespace Go.Proofs.YtikipcanjobloaaGreatDoor
open Go Go.Eng
noncomputable def tyT : Tr KT := (.nd (.nd (.nd (.nd (.nd (.nd (.nd (.nd .lf (some .fn) .lf) (some .fn) (.nd .lf (some (.int .u64)) .lf)) (some .fn) (.nd (.nd .lf (some (.int .u64)) .lf) (some (.struct [⟨0, 9, true⟩, ⟨1, 27, true⟩, ⟨3, 93, true⟩])) (.nd .lf (some (.struct [⟨0, 5, true⟩, ⟨1, 5, true⟩])) .lf))) (some .ptr) (.nd (.nd (.nd .lf (some .fn) .lf) (some (.arr 4 5)) (.nd .lf (some (.arr 65 5)) .lf)) (some (.struct [⟨0, 46, true⟩, ⟨2, 46, true⟩])) (.nd (.nd .lf (some .fn) .lf) (some (.slice 9)) (.nd .lf (some (.arr 0 16)) .lf)))) (some (.struct [⟨0, 2, true⟩, ⟨1, 3, true⟩, ⟨2, 4, true⟩, ⟨3, 6, true⟩])) (.nd (.nd (.nd (.nd .lf (some (.slice 4)) .lf) (some .fn) (.nd .lf (some (.ifc false)) .lf)) (some .fn) (.nd (.nd .lf (some .fn) .lf) (some (.struct [⟨0, 3, true⟩, ⟨1, 3, true⟩])) (.nd .lf (some (.struct [⟨0, 9, true⟩, ⟨1, 9, true⟩, ⟨2, 200, true⟩])) .lf))) (some (.slice 70)) (.nd (.nd (.nd .lf (some .fn) .lf) (some .fn) .lf) (some .fn) (.nd (.nd .lf (some .fn) .lf) (some .fn) (.nd .lf (some (.struct [⟨0, 12, true⟩, ⟨1, 12, true⟩, ⟨2, 206, true⟩, ⟨3, 242, true⟩, ⟨4, 5, true⟩, ⟨5, 5, true⟩, ⟨6, 243, true⟩, ⟨7, 244, true⟩, ⟨8, 211, true⟩, ⟨9, 245, true⟩, ⟨10, 246, true⟩])) .lf))))) (some (.int .i64)) (.nd (.nd (.nd (.nd (.nd .lf (some (.arr 32 4)) .lf) (some .fn) (.nd .lf (some .fn) .lf)) (some .fn) (.nd (.nd .lf (some .fn) .lf) (some .fn) (.nd .lf (some .fn) .lf))) (some (.struct [⟨0, 17, true⟩])) (.nd (.nd (.nd .lf (some (.slice 46)) .lf) (some (.int .i16)) (.nd .lf (some .ptr) .lf)) (some .fn) (.nd (.nd .lf (some .fn) .lf) (some .fn) (.nd .lf (some (.int .u8)) .lf)))) (some .str) (.nd (.nd (.nd (.nd .lf (some .fn) .lf) (some .fn) (.nd .lf (some .fn) .lf)) (some .fn) (.nd (.nd .lf (some .fn) .lf) (some .fn) (.nd .lf (some (.struct [⟨0, 9, true⟩])) .lf))) (some (.struct [⟨0, 3, true⟩, ⟨1, 3, true⟩])) (.nd (.nd (.nd .lf (some (.struct [⟨0, 3, true⟩, ⟨1, 3, true⟩])) .lf) (some (.struct [⟨0, 86, true⟩, ⟨4, 64, true⟩])) (.nd .lf (some .fn) .lf)) (some .fn) (.nd (.nd .lf (some .fn) .lf) (some .fn) .lf))))) (some .fn) (.nd (.nd (.nd (.nd (.nd (.nd .lf (some .fn) .lf) (some .fn) (.nd .lf (some .fn) .lf)) (some .fn) (.nd (.nd .lf (some .fn) .lf) (some .fn) (.nd .lf (some (.arr 16 224)) .lf))) (some .ptr) (.nd (.nd (.nd .lf (some .fn) .lf) (some .fn) .lf) (some (.struct [⟨0, 3, true⟩, ⟨1, 3, true⟩, ⟨2, 27, true⟩, ⟨4, 48, true⟩])) (.nd (.nd .lf (some (.struct [⟨0, 111, true⟩])) .lf) (some .fn) (.nd .lf (some (.struct [⟨0, 239, false⟩])) .lf)))) (some .str) (.nd (.nd (.nd (.nd .lf (some .fn) .lf) (some .fn) .lf) (some .fn) (.nd (.nd .lf (some .ptr) .lf) (some .fn) (.nd .lf (some .fn) .lf))) (some (.struct [⟨0, 22, true⟩, ⟨1, 23, true⟩])) (.nd (.nd (.nd .lf (some .fn) .lf) (some (.int .i8)) (.nd .lf (some .ptr) .lf)) (some .fn) (.nd (.nd .lf (some .fn) .lf) (some .fn) .lf)))) (some (.int .u8)) (.nd (.nd (.nd (.nd (.nd .lf (some .fn) .lf) (some (.struct [⟨0, 9, true⟩, ⟨1, 68, true⟩, ⟨2, 48, true⟩])) (.nd .lf (some .fn) .lf)) none (.nd (.nd .lf (some .fn) .lf) (some .fn) (.nd .lf (some .fn) .lf))) (some (.int .i32)) (.nd (.nd (.nd .lf (some .fn) .lf) (some (.struct [⟨0, 82, true⟩, ⟨1, 5, true⟩, ⟨2, 84, true⟩])) (.nd .lf (some .fn) .lf)) none (.nd (.nd .lf (some .fn) .lf) (some (.struct [⟨0, 70, true⟩, ⟨6, 27, true⟩])) (.nd .lf (some (.int .i32)) .lf)))) (some (.struct [⟨0, 9, true⟩, ⟨1, 12, true⟩])) (.nd (.nd (.nd (.nd .lf (some .fn) .lf) (some .fn) (.nd .lf (some (.arr 20 191)) .lf)) (some (.struct [⟨0, 3, true⟩, ⟨1, 3, true⟩])) (.nd (.nd .lf (some .fn) .lf) (some .fn) (.nd .lf (some (.struct [⟨0, 17, true⟩, ⟨1, 17, true⟩, ⟨2, 17, true⟩, ⟨3, 9, true⟩])) .lf))) none (.nd (.nd .lf (some (.slice 103)) (.nd .lf (some (.arr 64 5)) .lf)) (some .fn) (.nd (.nd .lf (some .fn) .lf) (some .fn) .lf)))))) none (.nd (.nd (.nd (.nd (.nd (.nd (.nd .lf (some .fn) .lf) (some (.slice 82)) (.nd .lf (some .fn) .lf)) none (.nd (.nd .lf (some .fn) .lf) (some .fn) (.nd .lf (some (.struct [⟨0, 5, true⟩, ⟨1, 5, true⟩])) .lf))) (some .ptr) (.nd (.nd (.nd .lf (some .fn) .lf) (some .fn) (.nd .lf (some .fn) .lf)) (some (.struct [⟨0, 46, true⟩, ⟨2, 46, true⟩])) (.nd (.nd .lf (some (.struct [⟨0, 111, true⟩])) .lf) (some .fn) (.nd .lf (some (.struct [⟨0, 239, false⟩])) .lf)))) (some (.struct [⟨0, 2, true⟩, ⟨1, 3, true⟩, ⟨2, 4, true⟩, ⟨3, 6, true⟩])) (.nd (.nd (.nd (.nd .lf (some .fn) .lf) (some .fn) (.nd .lf (some (.ifc false)) .lf)) none (.nd (.nd .lf (some .fn) .lf) (some .fn) (.nd .lf (some .fn) .lf))) (some (.struct [⟨0, 22, true⟩, ⟨1, 23, true⟩])) (.nd (.nd (.nd .lf (some .fn) .lf) (some .fn) (.nd .lf (some .fn) .lf)) none (.nd (.nd .lf (some .fn) .lf) (some .fn) (.nd .lf (some (.struct [⟨0, 12, true⟩, ⟨1, 12, true⟩, ⟨2, 206, true⟩, ⟨3, 242, true⟩, ⟨4, 5, true⟩, ⟨5, 5, true⟩, ⟨6, 243, true⟩, ⟨7, 244, true⟩, ⟨8, 211, true⟩, ⟨9, 245, true⟩, ⟨10, 246, true⟩])) .lf))))) (some .bool) (.nd (.nd (.nd (.nd (.nd .lf (some .fn) .lf) (some (.slice 27)) (.nd .lf (some .fn) .lf)) (some (.slice 3)) (.nd (.nd .lf (some .fn) .lf) (some .fn) .lf)) (some (.ifc true)) (.nd (.nd (.nd .lf (some (.arr 8 27)) .lf) (some (.arr 2 83)) (.nd .lf (some .fn) .lf)) (some .fn) (.nd (.nd .lf (some .fn) .lf) (some .fn) (.nd .lf (some .fn) .lf)))) (some (.int .u64)) (.nd (.nd (.nd (.nd .lf (some .fn) .lf) (some .fn) (.nd .lf (some .fn) .lf)) (some .fn) (.nd (.nd .lf (some .fn) .lf) (some (.map 9 4)) (.nd .lf (some (.struct [⟨0, 9, true⟩])) .lf))) (some (.int .i64)) (.nd (.nd (.nd .lf (some .fn) .lf) (some (.struct [⟨0, 86, true⟩, ⟨4, 64, true⟩])) (.nd .lf (some (.arr 32 5)) .lf)) (some .fn) (.nd (.nd .lf (some .fn) .lf) (some .fn) .lf))))) (some (.int .i64)) (.nd (.nd (.nd (.nd (.nd (.nd .lf (some .fn) .lf) (some .fn) .lf) (some .fn) (.nd (.nd .lf (some .fn) .lf) (some .fn) .lf)) (some (.struct [⟨0, 17, true⟩])) (.nd (.nd (.nd .lf (some .fn) .lf) (some (.int .u16)) (.nd .lf (some .fn) .lf)) (some (.struct [⟨0, 3, true⟩, ⟨1, 3, true⟩, ⟨2, 27, true⟩, ⟨4, 48, true⟩])) (.nd (.nd .lf (some .fn) .lf) (some .fn) (.nd .lf (some (.int .u8)) .lf)))) (some .str) (.nd (.nd (.nd (.nd .lf (some .fn) .lf) (some (.arr 2 64)) (.nd .lf (some .fn) .lf)) none (.nd (.nd .lf (some (.slice 5)) .lf) (some .fn) (.nd .lf (some .ptr) .lf))) (some (.struct [⟨0, 3, true⟩, ⟨1, 3, true⟩])) (.nd (.nd (.nd .lf (some (.struct [⟨0, 3, true⟩, ⟨1, 3, true⟩])) .lf) (some (.arr 2 89)) (.nd .lf (some .fn) .lf)) none (.nd (.nd .lf (some .ptr) .lf) none .lf)))) (some (.int .u8)) (.nd (.nd (.nd (.nd (.nd .lf (some .fn) .lf) (some (.struct [⟨0, 9, true⟩, ⟨1, 68, true⟩, ⟨2, 48, true⟩])) (.nd .lf (some .fn) .lf)) (some .fn) (.nd (.nd .lf (some .fn) .lf) (some (.struct [⟨0, 3, true⟩, ⟨1, 3, true⟩])) (.nd .lf (some (.struct [⟨0, 9, true⟩, ⟨1, 9, true⟩, ⟨2, 200, true⟩])) .lf))) (some (.slice 95)) (.nd (.nd (.nd .lf (some .fn) .lf) (some (.struct [⟨0, 82, true⟩, ⟨1, 5, true⟩, ⟨2, 84, true⟩])) (.nd .lf (some (.int .i64)) .lf)) (some .fn) (.nd (.nd .lf (some .fn) .lf) (some (.struct [⟨0, 70, true⟩, ⟨6, 27, true⟩])) (.nd .lf (some (.int .i32)) .lf)))) (some (.struct [⟨0, 9, true⟩, ⟨1, 12, true⟩])) (.nd (.nd (.nd (.nd .lf (some .fn) .lf) (some .fn) (.nd .lf (some (.int .u32)) .lf)) (some (.struct [⟨0, 3, true⟩, ⟨1, 3, true⟩])) (.nd (.nd .lf (some .fn) .lf) (some .fn) (.nd .lf (some (.struct [⟨0, 17, true⟩, ⟨1, 17, true⟩, ⟨2, 17, true⟩, ⟨3, 9, true⟩])) .lf))) (some .fn) (.nd (.nd (.nd .lf (some .fn) .lf) (some (.struct [⟨0, 9, true⟩, ⟨1, 27, true⟩, ⟨3, 93, true⟩])) (.nd .lf (some (.arr 256 5)) .lf)) (some .fn) (.nd (.nd .lf (some (.arr 24 5)) .lf) (some .fn) .lf)))))))
noncomputable def szT : Tr Nat := (.nd (.nd (.nd (.nd (.nd (.nd (.nd (.nd .lf (some 1) .lf) (some 1) (.nd .lf (some 1) .lf)) (some 1) (.nd (.nd .lf (some 1) .lf) (some 4) (.nd .lf (some 2) .lf))) (some 1) (.nd (.nd (.nd .lf (some 1) .lf) (some 4) (.nd .lf (some 65) .lf)) (some 4) (.nd (.nd .lf (some 1) .lf) (some 1) (.nd .lf (some 0) .lf)))) (some 4) (.nd (.nd (.nd (.nd .lf (some 1) .lf) (some 1) (.nd .lf (some 1) .lf)) (some 1) (.nd (.nd .lf (some 1) .lf) (some 2) (.nd .lf (some 3) .lf))) (some 1) (.nd (.nd (.nd .lf (some 1) .lf) (some 1) (.nd .lf (some 1) .lf)) (some 1) (.nd (.nd .lf (some 1) .lf) (some 1) (.nd .lf (some 11) .lf))))) (some 1) (.nd (.nd (.nd (.nd (.nd .lf (some 32) .lf) (some 1) (.nd .lf (some 1) .lf)) (some 1) (.nd (.nd .lf (some 1) .lf) (some 1) (.nd .lf (some 1) .lf))) (some 1) (.nd (.nd (.nd .lf (some 1) .lf) (some 1) (.nd .lf (some 1) .lf)) (some 1) (.nd (.nd .lf (some 1) .lf) (some 1) (.nd .lf (some 1) .lf)))) (some 1) (.nd (.nd (.nd (.nd .lf (some 1) .lf) (some 1) (.nd .lf (some 1) .lf)) (some 1) (.nd (.nd .lf (some 1) .lf) (some 1) (.nd .lf (some 1) .lf))) (some 2) (.nd (.nd (.nd .lf (some 2) .lf) (some 5) (.nd .lf (some 1) .lf)) (some 1) (.nd (.nd .lf (some 1) .lf) (some 1) .lf))))) (some 1) (.nd (.nd (.nd (.nd (.nd (.nd .lf (some 1) .lf) (some 1) (.nd .lf (some 1) .lf)) (some 1) (.nd (.nd .lf (some 1) .lf) (some 1) (.nd .lf (some 32) .lf))) (some 1) (.nd (.nd (.nd .lf (some 1) .lf) (some 1) (.nd .lf (some 1) .lf)) (some 8) (.nd (.nd .lf (some 1) .lf) (some 1) (.nd .lf (some 0) .lf)))) (some 1) (.nd (.nd (.nd (.nd .lf (some 1) .lf) (some 1) (.nd .lf (some 1) .lf)) (some 1) (.nd (.nd .lf (some 1) .lf) (some 1) (.nd .lf (some 1) .lf))) (some 2) (.nd (.nd (.nd .lf (some 1) .lf) (some 1) (.nd .lf (some 1) .lf)) (some 1) (.nd (.nd .lf (some 1) .lf) (some 1) (.nd .lf (some 1) .lf))))) (some 1) (.nd (.nd (.nd (.nd (.nd .lf (some 1) .lf) (some 6) (.nd .lf (some 1) .lf)) (some 1) (.nd (.nd .lf (some 1) .lf) (some 1) (.nd .lf (some 1) .lf))) (some 1) (.nd (.nd (.nd .lf (some 1) .lf) (some 4) (.nd .lf (some 1) .lf)) (some 1) (.nd (.nd .lf (some 1) .lf) (some 8) (.nd .lf (some 1) .lf)))) (some 2) (.nd (.nd (.nd (.nd .lf (some 1) .lf) (some 1) (.nd .lf (some 20) .lf)) (some 2) (.nd (.nd .lf (some 1) .lf) (some 1) (.nd .lf (some 4) .lf))) (some 1) (.nd (.nd (.nd .lf (some 1) .lf) (some 1) (.nd .lf (some 64) .lf)) (some 1) (.nd (.nd .lf (some 1) .lf) (some 1) .lf)))))) (some 1) (.nd (.nd (.nd (.nd (.nd (.nd (.nd .lf (some 1) .lf) (some 1) (.nd .lf (some 1) .lf)) (some 1) (.nd (.nd .lf (some 1) .lf) (some 1) (.nd .lf (some 2) .lf))) (some 1) (.nd (.nd (.nd .lf (some 1) .lf) (some 1) (.nd .lf (some 1) .lf)) (some 4) (.nd (.nd .lf (some 1) .lf) (some 1) (.nd .lf (some 0) .lf)))) (some 4) (.nd (.nd (.nd (.nd .lf (some 1) .lf) (some 1) (.nd .lf (some 1) .lf)) (some 1) (.nd (.nd .lf (some 1) .lf) (some 1) (.nd .lf (some 1) .lf))) (some 2) (.nd (.nd (.nd .lf (some 1) .lf) (some 1) (.nd .lf (some 1) .lf)) (some 1) (.nd (.nd .lf (some 1) .lf) (some 1) (.nd .lf (some 11) .lf))))) (some 1) (.nd (.nd (.nd (.nd (.nd .lf (some 1) .lf) (some 1) (.nd .lf (some 1) .lf)) (some 1) (.nd (.nd .lf (some 1) .lf) (some 1) (.nd .lf (some 1) .lf))) (some 1) (.nd (.nd (.nd .lf (some 16) .lf) (some 2) (.nd .lf (some 1) .lf)) (some 1) (.nd (.nd .lf (some 1) .lf) (some 1) (.nd .lf (some 1) .lf)))) (some 1) (.nd (.nd (.nd (.nd .lf (some 1) .lf) (some 1) (.nd .lf (some 1) .lf)) (some 1) (.nd (.nd .lf (some 1) .lf) (some 1) (.nd .lf (some 1) .lf))) (some 1) (.nd (.nd (.nd .lf (some 1) .lf) (some 5) (.nd .lf (some 32) .lf)) (some 1) (.nd (.nd .lf (some 1) .lf) (some 1) .lf))))) (some 1) (.nd (.nd (.nd (.nd (.nd (.nd .lf (some 1) .lf) (some 1) (.nd .lf (some 1) .lf)) (some 1) (.nd (.nd .lf (some 1) .lf) (some 1) (.nd .lf (some 1) .lf))) (some 1) (.nd (.nd (.nd .lf (some 1) .lf) (some 1) (.nd .lf (some 1) .lf)) (some 8) (.nd (.nd .lf (some 1) .lf) (some 1) (.nd .lf (some 1) .lf)))) (some 1) (.nd (.nd (.nd (.nd .lf (some 1) .lf) (some 2) (.nd .lf (some 1) .lf)) (some 1) (.nd (.nd .lf (some 1) .lf) (some 1) (.nd .lf (some 1) .lf))) (some 2) (.nd (.nd (.nd .lf (some 2) .lf) (some 2) (.nd .lf (some 1) .lf)) (some 1) (.nd (.nd .lf (some 1) .lf) (some 1) .lf)))) (some 1) (.nd (.nd (.nd (.nd (.nd .lf (some 1) .lf) (some 6) (.nd .lf (some 1) .lf)) (some 1) (.nd (.nd .lf (some 1) .lf) (some 2) (.nd .lf (some 3) .lf))) (some 1) (.nd (.nd (.nd .lf (some 1) .lf) (some 4) (.nd .lf (some 1) .lf)) (some 1) (.nd (.nd .lf (some 1) .lf) (some 8) (.nd .lf (some 1) .lf)))) (some 2) (.nd (.nd (.nd (.nd .lf (some 1) .lf) (some 1) (.nd .lf (some 1) .lf)) (some 2) (.nd (.nd .lf (some 1) .lf) (some 1) (.nd .lf (some 4) .lf))) (some 1) (.nd (.nd (.nd .lf (some 1) .lf) (some 4) (.nd .lf (some 256) .lf)) (some 1) (.nd (.nd .lf (some 24) .lf) (some 1) .lf)))))))
noncomputable def byT : Tr Nat := (.nd (.nd (.nd (.nd (.nd (.nd (.nd (.nd .lf (some 8) .lf) (some 8) (.nd .lf (some 8) .lf)) (some 8) (.nd (.nd .lf (some 8) .lf) (some 56) (.nd .lf (some 2) .lf))) (some 8) (.nd (.nd (.nd .lf (some 8) .lf) (some 4) (.nd .lf (some 65) .lf)) (some 32) (.nd (.nd .lf (some 8) .lf) (some 24) (.nd .lf (some 0) .lf)))) (some 24) (.nd (.nd (.nd (.nd .lf (some 24) .lf) (some 8) (.nd .lf (some 16) .lf)) (some 8) (.nd (.nd .lf (some 8) .lf) (some 16) (.nd .lf (some 48) .lf))) (some 24) (.nd (.nd (.nd .lf (some 8) .lf) (some 8) (.nd .lf (some 0) .lf)) (some 8) (.nd (.nd .lf (some 8) .lf) (some 8) (.nd .lf (some 48) .lf))))) (some 8) (.nd (.nd (.nd (.nd (.nd .lf (some 32) .lf) (some 8) (.nd .lf (some 8) .lf)) (some 8) (.nd (.nd .lf (some 8) .lf) (some 8) (.nd .lf (some 8) .lf))) (some 8) (.nd (.nd (.nd .lf (some 24) .lf) (some 2) (.nd .lf (some 8) .lf)) (some 8) (.nd (.nd .lf (some 8) .lf) (some 8) (.nd .lf (some 1) .lf)))) (some 16) (.nd (.nd (.nd (.nd .lf (some 8) .lf) (some 8) (.nd .lf (some 8) .lf)) (some 8) (.nd (.nd .lf (some 8) .lf) (some 8) (.nd .lf (some 16) .lf))) (some 16) (.nd (.nd (.nd .lf (some 16) .lf) (some 32) (.nd .lf (some 8) .lf)) (some 8) (.nd (.nd .lf (some 8) .lf) (some 8) .lf))))) (some 8) (.nd (.nd (.nd (.nd (.nd (.nd .lf (some 8) .lf) (some 8) (.nd .lf (some 8) .lf)) (some 8) (.nd (.nd .lf (some 8) .lf) (some 8) (.nd .lf (some 32) .lf))) (some 8) (.nd (.nd (.nd .lf (some 8) .lf) (some 8) (.nd .lf (some 0) .lf)) (some 64) (.nd (.nd .lf (some 24) .lf) (some 8) (.nd .lf (some 0) .lf)))) (some 16) (.nd (.nd (.nd (.nd .lf (some 8) .lf) (some 8) (.nd .lf (some 0) .lf)) (some 8) (.nd (.nd .lf (some 8) .lf) (some 8) (.nd .lf (some 8) .lf))) (some 48) (.nd (.nd (.nd .lf (some 8) .lf) (some 1) (.nd .lf (some 8) .lf)) (some 8) (.nd (.nd .lf (some 8) .lf) (some 8) (.nd .lf (some 8) .lf))))) (some 1) (.nd (.nd (.nd (.nd (.nd .lf (some 8) .lf) (some 72) (.nd .lf (some 8) .lf)) (some 0) (.nd (.nd .lf (some 8) .lf) (some 8) (.nd .lf (some 8) .lf))) (some 4) (.nd (.nd (.nd .lf (some 8) .lf) (some 8) (.nd .lf (some 8) .lf)) (some 0) (.nd (.nd .lf (some 8) .lf) (some 88) (.nd .lf (some 4) .lf)))) (some 24) (.nd (.nd (.nd (.nd .lf (some 8) .lf) (some 8) (.nd .lf (some 160) .lf)) (some 16) (.nd (.nd .lf (some 8) .lf) (some 8) (.nd .lf (some 40) .lf))) (some 0) (.nd (.nd (.nd .lf (some 0) .lf) (some 24) (.nd .lf (some 64) .lf)) (some 8) (.nd (.nd .lf (some 8) .lf) (some 8) .lf)))))) (some 0) (.nd (.nd (.nd (.nd (.nd (.nd (.nd .lf (some 8) .lf) (some 24) (.nd .lf (some 8) .lf)) (some 0) (.nd (.nd .lf (some 8) .lf) (some 8) (.nd .lf (some 2) .lf))) (some 8) (.nd (.nd (.nd .lf (some 8) .lf) (some 8) (.nd .lf (some 8) .lf)) (some 32) (.nd (.nd .lf (some 24) .lf) (some 8) (.nd .lf (some 0) .lf)))) (some 24) (.nd (.nd (.nd (.nd .lf (some 8) .lf) (some 8) (.nd .lf (some 16) .lf)) (some 0) (.nd (.nd .lf (some 8) .lf) (some 8) (.nd .lf (some 8) .lf))) (some 48) (.nd (.nd (.nd .lf (some 8) .lf) (some 8) (.nd .lf (some 8) .lf)) (some 0) (.nd (.nd .lf (some 8) .lf) (some 8) (.nd .lf (some 48) .lf))))) (some 1) (.nd (.nd (.nd (.nd (.nd .lf (some 8) .lf) (some 24) (.nd .lf (some 8) .lf)) (some 24) (.nd (.nd .lf (some 8) .lf) (some 8) (.nd .lf (some 0) .lf))) (some 16) (.nd (.nd (.nd .lf (some 128) .lf) (some 4) (.nd .lf (some 8) .lf)) (some 8) (.nd (.nd .lf (some 8) .lf) (some 8) (.nd .lf (some 8) .lf)))) (some 8) (.nd (.nd (.nd (.nd .lf (some 8) .lf) (some 8) (.nd .lf (some 8) .lf)) (some 8) (.nd (.nd .lf (some 8) .lf) (some 8) (.nd .lf (some 16) .lf))) (some 8) (.nd (.nd (.nd .lf (some 8) .lf) (some 32) (.nd .lf (some 32) .lf)) (some 8) (.nd (.nd .lf (some 8) .lf) (some 8) .lf))))) (some 8) (.nd (.nd (.nd (.nd (.nd (.nd .lf (some 8) .lf) (some 8) (.nd .lf (some 0) .lf)) (some 8) (.nd (.nd .lf (some 8) .lf) (some 8) (.nd .lf (some 0) .lf))) (some 8) (.nd (.nd (.nd .lf (some 8) .lf) (some 2) (.nd .lf (some 8) .lf)) (some 64) (.nd (.nd .lf (some 8) .lf) (some 8) (.nd .lf (some 1) .lf)))) (some 16) (.nd (.nd (.nd (.nd .lf (some 8) .lf) (some 48) (.nd .lf (some 8) .lf)) (some 0) (.nd (.nd .lf (some 24) .lf) (some 8) (.nd .lf (some 8) .lf))) (some 16) (.nd (.nd (.nd .lf (some 16) .lf) (some 2) (.nd .lf (some 8) .lf)) (some 0) (.nd (.nd .lf (some 8) .lf) (some 0) .lf)))) (some 1) (.nd (.nd (.nd (.nd (.nd .lf (some 8) .lf) (some 72) (.nd .lf (some 8) .lf)) (some 8) (.nd (.nd .lf (some 8) .lf) (some 16) (.nd .lf (some 48) .lf))) (some 24) (.nd (.nd (.nd .lf (some 8) .lf) (some 8) (.nd .lf (some 8) .lf)) (some 8) (.nd (.nd .lf (some 8) .lf) (some 88) (.nd .lf (some 4) .lf)))) (some 24) (.nd (.nd (.nd (.nd .lf (some 8) .lf) (some 8) (.nd .lf (some 4) .lf)) (some 16) (.nd (.nd .lf (some 8) .lf) (some 8) (.nd .lf (some 40) .lf))) (some 8) (.nd (.nd (.nd .lf (some 8) .lf) (some 56) (.nd .lf (some 256) .lf)) (some 8) (.nd (.nd .lf (some 24) .lf) (some 8) .lf)))))))
noncomputable def zeT : Tr AV := (.nd (.nd (.nd (.nd (.nd (.nd (.nd (.nd .lf (some .nilf) .lf) (some .nilf) (.nd .lf (some (.int .u64 (0))) .lf)) (some .nilf) (.nd (.nd .lf (some (.int .u64 (0))) .lf) (some (.agg [(.str []), (.int .i64 (0)), (.int .i64 (0)), .nils])) (.nd .lf (some (.agg [(.int .u8 (0)), (.int .u8 (0))])) .lf))) (some .nilp) (.nd (.nd (.nd .lf (some .nilf) .lf) (some (.agg [(.int .u8 (0)), (.int .u8 (0)), (.int .u8 (0)), (.int .u8 (0))])) (.nd .lf (some (.agg [(.int .u8 (0)), (.int .u8 (0)), (.int .u8 (0)), (.int .u8 (0)), (.int .u8 (0)), (.int .u8 (0)), (.int .u8 (0)), (.int .u8 (0)), (.int .u8 (0)), (.int .u8 (0)), (.int .u8 (0)), (.int .u8 (0)), (.int .u8 (0)), (.int .u8 (0)), (.int .u8 (0)), (.int .u8 (0)), (.int .u8 (0)), (.int .u8 (0)), (.int .u8 (0)), (.int .u8 (0)), (.int .u8 (0)), (.int .u8 (0)), (.int .u8 (0)), (.int .u8 (0)), (.int .u8 (0)), (.int .u8 (0)), (.int .u8 (0)), (.int .u8 (0)), (.int .u8 (0)), (.int .u8 (0)), (.int .u8 (0)), (.int .u8 (0)), (.int .u8 (0)), (.int .u8 (0)), (.int .u8 (0)), (.int .u8 (0)), (.int .u8 (0)), (.int .u8 (0)), (.int .u8 (0)), (.int .u8 (0)), (.int .u8 (0)), (.int .u8 (0)), (.int .u8 (0)), (.int .u8 (0)), (.int .u8 (0)), (.int .u8 (0)), (.int .u8 (0)), (.int .u8 (0)), (.int .u8 (0)), (.int .u8 (0)), (.int .u8 (0)), (.int .u8 (0)), (.int .u8 (0)), (.int .u8 (0)), (.int .u8 (0)), (.int .u8 (0)), (.int .u8 (0)), (.int .u8 (0)), (.int .u8 (0)), (.int .u8 (0)), (.int .u8 (0)), (.int .u8 (0)), (.int .u8 (0)), (.int .u8 (0)), (.int .u8 (0))])) .lf)) (some (.agg [(.int .i64 (0)), (.int .i64 (0)), (.int .i64 (0)), (.int .i64 (0))])) (.nd (.nd .lf (some .nilf) .lf) (some .nils) (.nd .lf (some (.agg [])) .lf)))) (some (.agg [(.int .i64 (0)), (.int .i64 (0)), (.bool false), (.int .u8 (0))])) (.nd (.nd (.nd (.nd .lf (some .nils) .lf) (some .nilf) (.nd .lf (some .nili) .lf)) (some .nilf) (.nd (.nd .lf (some .nilf) .lf) (some (.agg [(.int .i64 (0)), (.int .i64 (0))])) (.nd .lf (some (.agg [(.str []), (.str []), .nili])) .lf))) (some .nils) (.nd (.nd (.nd .lf (some .nilf) .lf) (some .nilf) (.nd .lf (some (.tup [(.int .i64 (0)), .nili])) .lf)) (some .nilf) (.nd (.nd .lf (some .nilf) .lf) (some .nilf) (.nd .lf (some (.agg [(.int .u64 (0)), (.int .u64 (0)), (.int .u32 (0)), (.int .u8 (0)), (.int .u8 (0)), (.int .u8 (0)), (.int .u8 (0)), .nilf, .nilp, (.int .i32 (0)), (.int .i32 (0))])) .lf))))) (some (.int .i64 (0))) (.nd (.nd (.nd (.nd (.nd .lf (some (.agg [(.bool false), (.bool false), (.bool false), (.bool false), (.bool false), (.bool false), (.bool false), (.bool false), (.bool false), (.bool false), (.bool false), (.bool false), (.bool false), (.bool false), (.bool false), (.bool false), (.bool false), (.bool false), (.bool false), (.bool false), (.bool false), (.bool false), (.bool false), (.bool false), (.bool false), (.bool false), (.bool false), (.bool false), (.bool false), (.bool false), (.bool false), (.bool false)])) .lf) (some .nilf) (.nd .lf (some .nilf) .lf)) (some .nilf) (.nd (.nd .lf (some .nilf) .lf) (some .nilf) (.nd .lf (some .nilf) .lf))) (some (.agg [.nilp])) (.nd (.nd (.nd .lf (some .nils) .lf) (some (.int .i16 (0))) (.nd .lf (some .nilp) .lf)) (some .nilf) (.nd (.nd .lf (some .nilf) .lf) (some .nilf) (.nd .lf (some (.int .u8 (0))) .lf)))) (some (.str [])) (.nd (.nd (.nd (.nd .lf (some .nilf) .lf) (some .nilf) (.nd .lf (some .nilf) .lf)) (some .nilf) (.nd (.nd .lf (some .nilf) .lf) (some .nilf) (.nd .lf (some (.agg [(.str [])])) .lf))) (some (.agg [(.int .i64 (0)), (.int .i64 (0))])) (.nd (.nd (.nd .lf (some (.agg [(.int .i64 (0)), (.int .i64 (0))])) .lf) (some (.agg [(.int .u16 (0)), (.int .u8 (0)), (.int .i16 (0)), (.int .i16 (0)), .nils])) (.nd .lf (some .nilf) .lf)) (some .nilf) (.nd (.nd .lf (some .nilf) .lf) (some .nilf) .lf))))) (some .nilf) (.nd (.nd (.nd (.nd (.nd (.nd .lf (some .nilf) .lf) (some .nilf) (.nd .lf (some .nilf) .lf)) (some .nilf) (.nd (.nd .lf (some .nilf) .lf) (some .nilf) (.nd .lf (some (.agg [(.int .u8 (0)), (.int .u8 (0)), (.int .u8 (0)), (.int .u8 (0)), (.int .u8 (0)), (.int .u8 (0)), (.int .u8 (0)), (.int .u8 (0)), (.int .u8 (0)), (.int .u8 (0)), (.int .u8 (0)), (.int .u8 (0)), (.int .u8 (0)), (.int .u8 (0)), (.int .u8 (0)), (.int .u8 (0)), (.int .u8 (0)), (.int .u8 (0)), (.int .u8 (0)), (.int .u8 (0)), (.int .u8 (0)), (.int .u8 (0)), (.int .u8 (0)), (.int .u8 (0)), (.int .u8 (0)), (.int .u8 (0)), (.int .u8 (0)), (.int .u8 (0)), (.int .u8 (0)), (.int .u8 (0)), (.int .u8 (0)), (.int .u8 (0))])) .lf))) (some .nilp) (.nd (.nd (.nd .lf (some .nilf) .lf) (some .nilf) (.nd .lf (some (.tup [(.int .i32 (0)), (.int .i64 (0))])) .lf)) (some (.agg [(.int .i64 (0)), (.int .i64 (0)), (.int .i64 (0)), (.int .i64 (0)), (.int .i64 (0)), (.int .i64 (0)), (.int .i64 (0)), (.int .i64 (0))])) (.nd (.nd .lf (some (.agg [.nils])) .lf) (some .nilf) (.nd .lf (some (.agg [])) .lf)))) (some (.str [])) (.nd (.nd (.nd (.nd .lf (some .nilf) .lf) (some .nilf) (.nd .lf (some (.tup [(.int .i64 (0)), .nili])) .lf)) (some .nilf) (.nd (.nd .lf (some .nilp) .lf) (some .nilf) (.nd .lf (some .nilf) .lf))) (some (.agg [.nils, .nils])) (.nd (.nd (.nd .lf (some .nilf) .lf) (some (.int .i8 (0))) (.nd .lf (some .nilp) .lf)) (some .nilf) (.nd (.nd .lf (some .nilf) .lf) (some .nilf) (.nd .lf (some .nilp) .lf))))) (some (.int .u8 (0))) (.nd (.nd (.nd (.nd (.nd .lf (some .nilf) .lf) (some (.agg [(.str []), .nils, (.int .i64 (0)), (.int .i64 (0)), (.int .i64 (0)), (.int .i64 (0))])) (.nd .lf (some .nilf) .lf)) (some (.tup [.nils, .nils, (.int .i64 (0))])) (.nd (.nd .lf (some .nilf) .lf) (some .nilf) (.nd .lf (some .nilf) .lf))) (some (.int .i32 (0))) (.nd (.nd (.nd .lf (some .nilf) .lf) (some (.agg [(.int .u16 (0)), (.int .u8 (0)), (.int .i16 (0)), (.int .i16 (0))])) (.nd .lf (some .nilf) .lf)) (some (.tup [.nils, (.int .i64 (0))])) (.nd (.nd .lf (some .nilf) .lf) (some (.agg [(.str []), .nils, (.int .i64 (0)), (.int .i64 (0)), (.int .i64 (0)), (.int .i64 (0)), (.int .i64 (0)), (.int .i64 (0))])) (.nd .lf (some (.int .i32 (0))) .lf)))) (some (.agg [(.str []), (.int .u64 (0))])) (.nd (.nd (.nd (.nd .lf (some .nilf) .lf) (some .nilf) (.nd .lf (some (.agg [(.int .u64 (0)), (.int .u64 (0)), (.int .u64 (0)), (.int .u64 (0)), (.int .u64 (0)), (.int .u64 (0)), (.int .u64 (0)), (.int .u64 (0)), (.int .u64 (0)), (.int .u64 (0)), (.int .u64 (0)), (.int .u64 (0)), (.int .u64 (0)), (.int .u64 (0)), (.int .u64 (0)), (.int .u64 (0)), (.int .u64 (0)), (.int .u64 (0)), (.int .u64 (0)), (.int .u64 (0))])) .lf)) (some (.agg [(.int .i64 (0)), (.int .i64 (0))])) (.nd (.nd .lf (some .nilf) .lf) (some .nilf) (.nd .lf (some (.agg [.nilp, .nilp, .nilp, (.str [])])) .lf))) (some (.tup [(.agg [(.int .i64 (0)), (.int .i64 (0))]), (.int .i64 (0))])) (.nd (.nd (.nd .lf (some (.tup [(.agg [(.int .i64 (0)), (.int .i64 (0))]), (.bool false)])) .lf) (some .nils) (.nd .lf (some (.agg [(.int .u8 (0)), (.int .u8 (0)), (.int .u8 (0)), (.int .u8 (0)), (.int .u8 (0)), (.int .u8 (0)), (.int .u8 (0)), (.int .u8 (0)), (.int .u8 (0)), (.int .u8 (0)), (.int .u8 (0)), (.int .u8 (0)), (.int .u8 (0)), (.int .u8 (0)), (.int .u8 (0)), (.int .u8 (0)), (.int .u8 (0)), (.int .u8 (0)), (.int .u8 (0)), (.int .u8 (0)), (.int .u8 (0)), (.int .u8 (0)), (.int .u8 (0)), (.int .u8 (0)), (.int .u8 (0)), (.int .u8 (0)), (.int .u8 (0)), (.int .u8 (0)), (.int .u8 (0)), (.int .u8 (0)), (.int .u8 (0)), (.int .u8 (0)), (.int .u8 (0)), (.int .u8 (0)), (.int .u8 (0)), (.int .u8 (0)), (.int .u8 (0)), (.int .u8 (0)), (.int .u8 (0)), (.int .u8 (0)), (.int .u8 (0)), (.int .u8 (0)), (.int .u8 (0)), (.int .u8 (0)), (.int .u8 (0)), (.int .u8 (0)), (.int .u8 (0)), (.int .u8 (0)), (.int .u8 (0)), (.int .u8 (0)), (.int .u8 (0)), (.int .u8 (0)), (.int .u8 (0)), (.int .u8 (0)), (.int .u8 (0)), (.int .u8 (0)), (.int .u8 (0)), (.int .u8 (0)), (.int .u8 (0)), (.int .u8 (0)), (.int .u8 (0)), (.int .u8 (0)), (.int .u8 (0)), (.int .u8 (0))])) .lf)) (some .nilf) (.nd (.nd .lf (some .nilf) .lf) (some .nilf) .lf)))))) (some (.tup [])) (.nd (.nd (.nd (.nd (.nd (.nd (.nd .lf (some .nilf) .lf) (some .nils) (.nd .lf (some .nilf) .lf)) (some (.tup [(.int .i64 (0)), (.int .i64 (0)), (.int .i64 (0))])) (.nd (.nd .lf (some .nilf) .lf) (some .nilf) (.nd .lf (some (.agg [(.int .u8 (0)), (.int .u8 (0))])) .lf))) (some .nilp) (.nd (.nd (.nd .lf (some .nilf) .lf) (some .nilf) (.nd .lf (some .nilf) .lf)) (some (.agg [(.int .i64 (0)), (.int .i64 (0)), (.int .i64 (0)), (.int .i64 (0))])) (.nd (.nd .lf (some (.agg [.nils])) .lf) (some .nilf) (.nd .lf (some (.agg [])) .lf)))) (some (.agg [(.int .i64 (0)), (.int .i64 (0)), (.bool false), (.int .u8 (0))])) (.nd (.nd (.nd (.nd .lf (some .nilf) .lf) (some .nilf) (.nd .lf (some .nili) .lf)) (some (.tup [(.int .i64 (0)), (.agg [(.int .i64 (0)), (.int .i64 (0))]), (.int .i64 (0))])) (.nd (.nd .lf (some .nilf) .lf) (some .nilf) (.nd .lf (some .nilf) .lf))) (some (.agg [.nils, .nils])) (.nd (.nd (.nd .lf (some .nilf) .lf) (some .nilf) (.nd .lf (some .nilf) .lf)) (some (.tup [(.str []), (.int .i64 (0))])) (.nd (.nd .lf (some .nilf) .lf) (some .nilf) (.nd .lf (some (.agg [(.int .u64 (0)), (.int .u64 (0)), (.int .u32 (0)), (.int .u8 (0)), (.int .u8 (0)), (.int .u8 (0)), (.int .u8 (0)), .nilf, .nilp, (.int .i32 (0)), (.int .i32 (0))])) .lf))))) (some (.bool false)) (.nd (.nd (.nd (.nd (.nd .lf (some .nilf) .lf) (some .nils) (.nd .lf (some .nilf) .lf)) (some .nils) (.nd (.nd .lf (some .nilf) .lf) (some .nilf) (.nd .lf (some (.tup [(.int .u64 (0)), .nili])) .lf))) (some .nili) (.nd (.nd (.nd .lf (some (.agg [(.int .i64 (0)), (.int .i64 (0)), (.int .i64 (0)), (.int .i64 (0)), (.int .i64 (0)), (.int .i64 (0)), (.int .i64 (0)), (.int .i64 (0)), (.int .i64 (0)), (.int .i64 (0)), (.int .i64 (0)), (.int .i64 (0)), (.int .i64 (0)), (.int .i64 (0)), (.int .i64 (0)), (.int .i64 (0))])) .lf) (some (.agg [(.int .i16 (0)), (.int .i16 (0))])) (.nd .lf (some .nilf) .lf)) (some .nilf) (.nd (.nd .lf (some .nilf) .lf) (some .nilf) (.nd .lf (some .nilf) .lf)))) (some (.int .u64 (0))) (.nd (.nd (.nd (.nd .lf (some .nilf) .lf) (some .nilf) (.nd .lf (some .nilf) .lf)) (some .nilf) (.nd (.nd .lf (some .nilf) .lf) (some .nilm) (.nd .lf (some (.agg [(.str [])])) .lf))) (some (.int .i64 (0))) (.nd (.nd (.nd .lf (some .nilf) .lf) (some (.agg [(.int .u16 (0)), (.int .u8 (0)), (.int .i16 (0)), (.int .i16 (0)), .nils])) (.nd .lf (some (.agg [(.int .u8 (0)), (.int .u8 (0)), (.int .u8 (0)), (.int .u8 (0)), (.int .u8 (0)), (.int .u8 (0)), (.int .u8 (0)), (.int .u8 (0)), (.int .u8 (0)), (.int .u8 (0)), (.int .u8 (0)), (.int .u8 (0)), (.int .u8 (0)), (.int .u8 (0)), (.int .u8 (0)), (.int .u8 (0)), (.int .u8 (0)), (.int .u8 (0)), (.int .u8 (0)), (.int .u8 (0)), (.int .u8 (0)), (.int .u8 (0)), (.int .u8 (0)), (.int .u8 (0)), (.int .u8 (0)), (.int .u8 (0)), (.int .u8 (0)), (.int .u8 (0)), (.int .u8 (0)), (.int .u8 (0)), (.int .u8 (0)), (.int .u8 (0))])) .lf)) (some .nilf) (.nd (.nd .lf (some .nilf) .lf) (some .nilf) .lf))))) (some (.int .i64 (0))) (.nd (.nd (.nd (.nd (.nd (.nd .lf (some .nilf) .lf) (some .nilf) (.nd .lf (some (.tup [.nils, (.str [])])) .lf)) (some .nilf) (.nd (.nd .lf (some .nilf) .lf) (some .nilf) (.nd .lf (some (.tup [(.int .u32 (0)), (.int .u32 (0))])) .lf))) (some (.agg [.nilp])) (.nd (.nd (.nd .lf (some .nilf) .lf) (some (.int .u16 (0))) (.nd .lf (some .nilf) .lf)) (some (.agg [(.int .i64 (0)), (.int .i64 (0)), (.int .i64 (0)), (.int .i64 (0)), (.int .i64 (0)), (.int .i64 (0)), (.int .i64 (0)), (.int .i64 (0))])) (.nd (.nd .lf (some .nilf) .lf) (some .nilf) (.nd .lf (some (.int .u8 (0))) .lf)))) (some (.str [])) (.nd (.nd (.nd (.nd .lf (some .nilf) .lf) (some (.agg [.nils, .nils])) (.nd .lf (some .nilf) .lf)) (some (.tup [(.int .i64 (0)), (.int .i64 (0))])) (.nd (.nd .lf (some .nils) .lf) (some .nilf) (.nd .lf (some .nilp) .lf))) (some (.agg [(.int .i64 (0)), (.int .i64 (0))])) (.nd (.nd (.nd .lf (some (.agg [(.int .i64 (0)), (.int .i64 (0))])) .lf) (some (.agg [(.int .i8 (0)), (.int .i8 (0))])) (.nd .lf (some .nilf) .lf)) (some (.tup [(.agg [.nils, .nils]), (.int .i64 (0))])) (.nd (.nd .lf (some .nilp) .lf) (some (.tup [(.int .i64 (0)), (.agg [(.int .i64 (0)), (.int .i64 (0))]), (.bool false)])) .lf)))) (some (.int .u8 (0))) (.nd (.nd (.nd (.nd (.nd .lf (some .nilf) .lf) (some (.agg [(.str []), .nils, (.int .i64 (0)), (.int .i64 (0)), (.int .i64 (0)), (.int .i64 (0))])) (.nd .lf (some .nilf) .lf)) (some .nilf) (.nd (.nd .lf (some .nilf) .lf) (some (.agg [(.int .i64 (0)), (.int .i64 (0))])) (.nd .lf (some (.agg [(.str []), (.str []), .nili])) .lf))) (some .nils) (.nd (.nd (.nd .lf (some .nilf) .lf) (some (.agg [(.int .u16 (0)), (.int .u8 (0)), (.int .i16 (0)), (.int .i16 (0))])) (.nd .lf (some (.int .i64 (0))) .lf)) (some .nilf) (.nd (.nd .lf (some .nilf) .lf) (some (.agg [(.str []), .nils, (.int .i64 (0)), (.int .i64 (0)), (.int .i64 (0)), (.int .i64 (0)), (.int .i64 (0)), (.int .i64 (0))])) (.nd .lf (some (.int .i32 (0))) .lf)))) (some (.agg [(.str []), (.int .u64 (0))])) (.nd (.nd (.nd (.nd .lf (some .nilf) .lf) (some .nilf) (.nd .lf (some (.int .u32 (0))) .lf)) (some (.agg [(.int .i64 (0)), (.int .i64 (0))])) (.nd (.nd .lf (some .nilf) .lf) (some .nilf) (.nd .lf (some (.agg [.nilp, .nilp, .nilp, (.str [])])) .lf))) (some .nilf) (.nd (.nd (.nd .lf (some .nilf) .lf) (some (.agg [(.str []), (.int .i64 (0)), (.int .i64 (0)), .nils])) (.nd .lf (some (.agg [(.int .u8 (0)), (.int .u8 (0)), (.int .u8 (0)), (.int .u8 (0)), (.int .u8 (0)), (.int .u8 (0)), (.int .u8 (0)), (.int .u8 (0)), (.int .u8 (0)), (.int .u8 (0)), (.int .u8 (0)), (.int .u8 (0)), (.int .u8 (0)), (.int .u8 (0)), (.int .u8 (0)), (.int .u8 (0)), (.int .u8 (0)), (.int .u8 (0)), (.int .u8 (0)), (.int .u8 (0)), (.int .u8 (0)), (.int .u8 (0)), (.int .u8 (0)), (.int .u8 (0)), (.int .u8 (0)), (.int .u8 (0)), (.int .u8 (0)), (.int .u8 (0)), (.int .u8 (0)), (.int .u8 (0)), (.int .u8 (0)), (.int .u8 (0)), (.int .u8 (0)), (.int .u8 (0)), (.int .u8 (0)), (.int .u8 (0)), (.int .u8 (0)), (.int .u8 (0)), (.int .u8 (0)), (.int .u8 (0)), (.int .u8 (0)), (.int .u8 (0)), (.int .u8 (0)), (.int .u8 (0)), (.int .u8 (0)), (.int .u8 (0)), (.int .u8 (0)), (.int .u8 (0)), (.int .u8 (0)), (.int .u8 (0)), (.int .u8 (0)), (.int .u8 (0)), (.int .u8 (0)), (.int .u8 (0)), (.int .u8 (0)), (.int .u8 (0)), (.int .u8 (0)), (.int .u8 (0)), (.int .u8 (0)), (.int .u8 (0)), (.int .u8 (0)), (.int .u8 (0)), (.int .u8 (0)), (.int .u8 (0)), (.int .u8 (0)), (.int .u8 (0)), (.int .u8 (0)), (.int .u8 (0)), (.int .u8 (0)), (.int .u8 (0)), (.int .u8 (0)), (.int .u8 (0)), (.int .u8 (0)), (.int .u8 (0)), (.int .u8 (0)), (.int .u8 (0)), (.int .u8 (0)), (.int .u8 (0)), (.int .u8 (0)), (.int .u8 (0)), (.int .u8 (0)), (.int .u8 (0)), (.int .u8 (0)), (.int .u8 (0)), (.int .u8 (0)), (.int .u8 (0)), (.int .u8 (0)), (.int .u8 (0)), (.int .u8 (0)), (.int .u8 (0)), (.int .u8 (0)), (.int .u8 (0)), (.int .u8 (0)), (.int .u8 (0)), (.int .u8 (0)), (.int .u8 (0)), (.int .u8 (0)), (.int .u8 (0)), (.int .u8 (0)), (.int .u8 (0)), (.int .u8 (0)), (.int .u8 (0)), (.int .u8 (0)), (.int .u8 (0)), (.int .u8 (0)), (.int .u8 (0)), (.int .u8 (0)), (.int .u8 (0)), (.int .u8 (0)), (.int .u8 (0)), (.int .u8 (0)), (.int .u8 (0)), (.int .u8 (0)), (.int .u8 (0)), (.int .u8 (0)), (.int .u8 (0)), (.int .u8 (0)), (.int .u8 (0)), (.int .u8 (0)), (.int .u8 (0)), (.int .u8 (0)), (.int .u8 (0)), (.int .u8 (0)), (.int .u8 (0)), (.int .u8 (0)), (.int .u8 (0)), (.int .u8 (0)), (.int .u8 (0)), (.int .u8 (0)), (.int .u8 (0)), (.int .u8 (0)), (.int .u8 (0)), (.int .u8 (0)), (.int .u8 (0)), (.int .u8 (0)), (.int .u8 (0)), (.int .u8 (0)), (.int .u8 (0)), (.int .u8 (0)), (.int .u8 (0)), (.int .u8 (0)), (.int .u8 (0)), (.int .u8 (0)), (.int .u8 (0)), (.int .u8 (0)), (.int .u8 (0)), (.int .u8 (0)), (.int .u8 (0)), (.int .u8 (0)), (.int .u8 (0)), (.int .u8 (0)), (.int .u8 (0)), (.int .u8 (0)), (.int .u8 (0)), (.int .u8 (0)), (.int .u8 (0)), (.int .u8 (0)), (.int .u8 (0)), (.int .u8 (0)), (.int .u8 (0)), (.int .u8 (0)), (.int .u8 (0)), (.int .u8 (0)), (.int .u8 (0)), (.int .u8 (0)), (.int .u8 (0)), (.int .u8 (0)), (.int .u8 (0)), (.int .u8 (0)), (.int .u8 (0)), (.int .u8 (0)), (.int .u8 (0)), (.int .u8 (0)), (.int .u8 (0)), (.int .u8 (0)), (.int .u8 (0)), (.int .u8 (0)), (.int .u8 (0)), (.int .u8 (0)), (.int .u8 (0)), (.int .u8 (0)), (.int .u8 (0)), (.int .u8 (0)), (.int .u8 (0)), (.int .u8 (0)), (.int .u8 (0)), (.int .u8 (0)), (.int .u8 (0)), (.int .u8 (0)), (.int .u8 (0)), (.int .u8 (0)), (.int .u8 (0)), (.int .u8 (0)), (.int .u8 (0)), (.int .u8 (0)), (.int .u8 (0)), (.int .u8 (0)), (.int .u8 (0)), (.int .u8 (0)), (.int .u8 (0)), (.int .u8 (0)), (.int .u8 (0)), (.int .u8 (0)), (.int .u8 (0)), (.int .u8 (0)), (.int .u8 (0)), (.int .u8 (0)), (.int .u8 (0)), (.int .u8 (0)), (.int .u8 (0)), (.int .u8 (0)), (.int .u8 (0)), (.int .u8 (0)), (.int .u8 (0)), (.int .u8 (0)), (.int .u8 (0)), (.int .u8 (0)), (.int .u8 (0)), (.int .u8 (0)), (.int .u8 (0)), (.int .u8 (0)), (.int .u8 (0)), (.int .u8 (0)), (.int .u8 (0)), (.int .u8 (0)), (.int .u8 (0)), (.int .u8 (0)), (.int .u8 (0)), (.int .u8 (0)), (.int .u8 (0)), (.int .u8 (0)), (.int .u8 (0)), (.int .u8 (0)), (.int .u8 (0)), (.int .u8 (0)), (.int .u8 (0)), (.int .u8 (0)), (.int .u8 (0)), (.int .u8 (0)), (.int .u8 (0)), (.int .u8 (0)), (.int .u8 (0)), (.int .u8 (0)), (.int .u8 (0)), (.int .u8 (0)), (.int .u8 (0)), (.int .u8 (0)), (.int .u8 (0)), (.int .u8 (0)), (.int .u8 (0)), (.int .u8 (0)), (.int .u8 (0)), (.int .u8 (0)), (.int .u8 (0)), (.int .u8 (0)), (.int .u8 (0))])) .lf)) (some .nilf) (.nd (.nd .lf (some (.agg [(.int .u8 (0)), (.int .u8 (0)), (.int .u8 (0)), (.int .u8 (0)), (.int .u8 (0)), (.int .u8 (0)), (.int .u8 (0)), (.int .u8 (0)), (.int .u8 (0)), (.int .u8 (0)), (.int .u8 (0)), (.int .u8 (0)), (.int .u8 (0)), (.int .u8 (0)), (.int .u8 (0)), (.int .u8 (0)), (.int .u8 (0)), (.int .u8 (0)), (.int .u8 (0)), (.int .u8 (0)), (.int .u8 (0)), (.int .u8 (0)), (.int .u8 (0)), (.int .u8 (0))])) .lf) (some .nilf) .lf)))))))
noncomputable def eqT : Tr Unit := (.nd (.nd (.nd (.nd (.nd (.nd .lf none (.nd .lf (some ()) (.nd .lf (some ()) .lf))) none (.nd .lf (some ()) .lf)) (some ()) (.nd (.nd .lf none (.nd .lf (some ()) .lf)) none .lf)) none (.nd .lf none (.nd (.nd .lf none (.nd .lf none (.nd .lf (some ()) .lf))) (some ()) (.nd (.nd (.nd .lf (some ()) .lf) (some ()) .lf) none .lf)))) none (.nd (.nd (.nd .lf none (.nd .lf (some ()) (.nd (.nd .lf (some ()) .lf) none .lf))) none (.nd .lf (some ()) .lf)) none (.nd (.nd (.nd (.nd .lf (some ()) .lf) none .lf) none (.nd (.nd .lf (some ()) .lf) none (.nd .lf (some ()) .lf))) none (.nd (.nd .lf (some ()) .lf) none .lf)))) none (.nd (.nd (.nd (.nd (.nd .lf none (.nd .lf none (.nd .lf (some ()) .lf))) none (.nd .lf (some ()) (.nd (.nd .lf (some ()) .lf) none .lf))) (some ()) (.nd .lf (some ()) .lf)) none (.nd .lf none (.nd (.nd .lf none (.nd .lf none (.nd .lf (some ()) .lf))) none (.nd (.nd .lf (some ()) .lf) none .lf)))) none (.nd (.nd (.nd .lf none (.nd .lf (some ()) .lf)) none (.nd .lf (some ()) (.nd (.nd (.nd .lf (some ()) .lf) none .lf) none .lf))) none (.nd (.nd (.nd (.nd .lf (some ()) .lf) none (.nd .lf (some ()) .lf)) none (.nd (.nd .lf (some ()) .lf) none (.nd .lf (some ()) .lf))) none (.nd (.nd .lf (some ()) .lf) none (.nd (.nd .lf (some ()) .lf) none .lf))))))
noncomputable def fnT : Tr Func := (.nd (.nd (.nd (.nd (.nd (.nd (.nd (.nd .lf (some Tryz.f127) .lf) (some Tryz.f63) .lf) (some Tryz.f31) (.nd (.nd .lf (some Tryz.f159) .lf) (some Tryz.f95) .lf)) (some Tryz.f15) (.nd (.nd (.nd .lf (some Tryz.f143) .lf) (some Tryz.f79) .lf) (some Tryz.f47) (.nd (.nd .lf (some Tryz.f175) .lf) (some Tryz.f111) .lf))) (some Tryz.f7) (.nd (.nd (.nd (.nd .lf (some Tryz.f135) .lf) (some Tryz.f71) .lf) (some Tryz.f39) (.nd (.nd .lf (some Tryz.f167) .lf) (some Tryz.f103) .lf)) (some Tryz.f23) (.nd (.nd (.nd .lf (some Tryz.f151) .lf) (some Tryz.f87) .lf) (some Tryz.f55) (.nd (.nd .lf (some Tryz.f183) .lf) (some Tryz.f119) .lf)))) (some Tryz.f3) (.nd (.nd (.nd (.nd (.nd .lf (some Tryz.f131) .lf) (some Tryz.f67) .lf) (some Tryz.f35) (.nd (.nd .lf (some Tryz.f163) .lf) (some Tryz.f99) .lf)) (some Tryz.f19) (.nd (.nd (.nd .lf (some Tryz.f147) .lf) (some Tryz.f83) .lf) (some Tryz.f51) (.nd (.nd .lf (some Tryz.f179) .lf) (some Tryz.f115) .lf))) (some Tryz.f11) (.nd (.nd (.nd (.nd .lf (some Tryz.f139) .lf) (some Tryz.f75) .lf) (some Tryz.f43) (.nd (.nd .lf (some Tryz.f171) .lf) (some Tryz.f107) .lf)) (some Tryz.f27) (.nd (.nd (.nd .lf (some Tryz.f155) .lf) (some Tryz.f91) .lf) (some Tryz.f59) (.nd .lf (some Tryz.f123) .lf))))) none (.nd (.nd (.nd (.nd (.nd (.nd .lf (some Tryz.f129) .lf) (some Tryz.f65) .lf) (some Tryz.f33) (.nd (.nd .lf (some Tryz.f161) .lf) (some Tryz.f97) .lf)) (some Tryz.f17) (.nd (.nd (.nd .lf (some Tryz.f145) .lf) (some Tryz.f81) .lf) (some Tryz.f49) (.nd (.nd .lf (some Tryz.f177) .lf) (some Tryz.f113) .lf))) (some Tryz.f9) (.nd (.nd (.nd (.nd .lf (some Tryz.f137) .lf) (some Tryz.f73) .lf) (some Tryz.f41) (.nd (.nd .lf (some Tryz.f169) .lf) (some Tryz.f105) .lf)) (some Tryz.f25) (.nd (.nd (.nd .lf (some Tryz.f153) .lf) (some Tryz.f89) .lf) (some Tryz.f57) (.nd .lf (some Tryz.f121) .lf)))) (some Tryz.f5) (.nd (.nd (.nd (.nd (.nd .lf (some Tryz.f133) .lf) (some Tryz.f69) .lf) (some Tryz.f37) (.nd .lf (some Tryz.f101) .lf)) (some Tryz.f21) (.nd (.nd (.nd .lf (some Tryz.f149) .lf) (some Tryz.f85) .lf) (some Tryz.f53) (.nd (.nd .lf (some Tryz.f181) .lf) (some Tryz.f117) .lf))) (some Tryz.f13) (.nd (.nd (.nd (.nd .lf (some Tryz.f141) .lf) (some Tryz.f77) .lf) (some Tryz.f45) (.nd (.nd .lf (some Tryz.f173) .lf) (some Tryz.f109) .lf)) (some Tryz.f29) (.nd (.nd (.nd .lf (some Tryz.f157) .lf) (some Tryz.f93) .lf) (some Tryz.f61) (.nd .lf (some Tryz.f125) .lf)))))) none (.nd (.nd (.nd (.nd (.nd (.nd (.nd .lf (some Tryz.f128) .lf) (some Tryz.f64) .lf) (some Tryz.f32) (.nd (.nd .lf (some Tryz.f160) .lf) (some Tryz.f96) .lf)) (some Tryz.f16) (.nd (.nd (.nd .lf (some Tryz.f144) .lf) (some Tryz.f80) .lf) (some Tryz.f48) (.nd (.nd .lf (some Tryz.f176) .lf) (some Tryz.f112) .lf))) (some Tryz.f8) (.nd (.nd (.nd (.nd .lf (some Tryz.f136) .lf) (some Tryz.f72) .lf) (some Tryz.f40) (.nd (.nd .lf (some Tryz.f168) .lf) (some Tryz.f104) .lf)) (some Tryz.f24) (.nd (.nd (.nd .lf (some Tryz.f152) .lf) (some Tryz.f88) .lf) (some Tryz.f56) (.nd (.nd .lf (some Tryz.f184) .lf) (some Tryz.f120) .lf)))) (some Tryz.f4) (.nd (.nd (.nd (.nd (.nd .lf (some Tryz.f132) .lf) (some Tryz.f68) .lf) (some Tryz.f36) (.nd (.nd .lf (some Tryz.f164) .lf) (some Tryz.f100) .lf)) (some Tryz.f20) (.nd (.nd (.nd .lf (some Tryz.f148) .lf) (some Tryz.f84) .lf) (some Tryz.f52) (.nd (.nd .lf (some Tryz.f180) .lf) (some Tryz.f116) .lf))) (some Tryz.f12) (.nd (.nd (.nd (.nd .lf (some Tryz.f140) .lf) (some Tryz.f76) .lf) (some Tryz.f44) (.nd .lf (some Tryz.f108) .lf)) (some Tryz.f28) (.nd (.nd (.nd .lf (some Tryz.f156) .lf) (some Tryz.f92) .lf) (some Tryz.f60) (.nd .lf (some Tryz.f124) .lf))))) (some Tryz.f2) (.nd (.nd (.nd (.nd (.nd (.nd .lf (some Tryz.f130) .lf) (some Tryz.f66) .lf) (some Tryz.f34) (.nd .lf (some Tryz.f98) .lf)) (some Tryz.f18) (.nd (.nd (.nd .lf (some Tryz.f146) .lf) (some Tryz.f82) .lf) (some Tryz.f50) (.nd (.nd .lf (some Tryz.f178) .lf) (some Tryz.f114) .lf))) (some Tryz.f10) (.nd (.nd (.nd (.nd .lf (some Tryz.f138) .lf) (some Tryz.f74) .lf) (some Tryz.f42) (.nd (.nd .lf (some Tryz.f170) .lf) (some Tryz.f106) .lf)) (some Tryz.f26) (.nd (.nd (.nd .lf (some Tryz.f154) .lf) (some Tryz.f90) .lf) (some Tryz.f58) (.nd .lf (some Tryz.f122) .lf)))) (some Tryz.f6) (.nd (.nd (.nd (.nd (.nd .lf (some Tryz.f134) .lf) (some Tryz.f70) .lf) (some Tryz.f38) (.nd (.nd .lf (some Tryz.f166) .lf) (some Tryz.f102) .lf)) (some Tryz.f22) (.nd (.nd (.nd .lf (some Tryz.f150) .lf) (some Tryz.f86) (.nd .lf (some Tryz.f214) .lf)) (some Tryz.f54) (.nd (.nd .lf (some Tryz.f182) .lf) (some Tryz.f118) .lf))) (some Tryz.f14) (.nd (.nd (.nd (.nd .lf (some Tryz.f142) .lf) (some Tryz.f78) .lf) (some Tryz.f46) (.nd (.nd .lf (some Tryz.f174) .lf) (some Tryz.f110) .lf)) (some Tryz.f30) (.nd (.nd (.nd .lf (some Tryz.f158) .lf) (some Tryz.f94) .lf) (some Tryz.f62) (.nd .lf (some Tryz.f126) .lf)))))))
noncomputable def glT : Tr (List AV) := (.nd (.nd .lf (some [(.int .u64 (1)), (.int .u64 (10)), (.int .u64 (100)), (.int .u64 (1000)), (.int .u64 (10000)), (.int .u64 (100000)), (.int .u64 (1000000)), (.int .u64 (10000000)), (.int .u64 (100000000)), (.int .u64 (1000000000)), (.int .u64 (10000000000)), (.int .u64 (100000000000)), (.int .u64 (1000000000000)), (.int .u64 (10000000000000)), (.int .u64 (100000000000000)), (.int .u64 (1000000000000000)), (.int .u64 (10000000000000000)), (.int .u64 (100000000000000000)), (.int .u64 (1000000000000000000)), (.int .u64 (10000000000000000000))]) .lf) (some [(.int .i64 (0)), (.int .i64 (1000)), (.int .i64 (195)), (.int .i64 (981)), (.int .i64 (383)), (.int .i64 (924)), (.int .i64 (556)), (.int .i64 (831)), (.int .i64 (707)), (.int .i64 (707)), (.int .i64 (831)), (.int .i64 (556)), (.int .i64 (924)), (.int .i64 (383)), (.int .i64 (981)), (.int .i64 (195))]) .lf)
noncomputable def T0 : Tabs := ⟨tyT, szT, byT, zeT, eqT, fnT, glT, 162, 165, 155, 148⟩
theorem fnT_ok : allP (fun f fn => Tryz.prog.funcs[f]? = some fn) fnT (fun k => k) := ⟨trivial, ⟨trivial, ⟨Tryz.func3, ⟨Tryz.func7, ⟨Tryz.func15, ⟨Tryz.func31, ⟨Tryz.func63, ⟨Tryz.func127, trivial, trivial⟩, trivial⟩, ⟨Tryz.func95, ⟨Tryz.func159, trivial, trivial⟩, trivial⟩⟩, ⟨Tryz.func47, ⟨Tryz.func79, ⟨Tryz.func143, trivial, trivial⟩, trivial⟩, ⟨Tryz.func111, ⟨Tryz.func175, trivial, trivial⟩, trivial⟩⟩⟩, ⟨Tryz.func23, ⟨Tryz.func39, ⟨Tryz.func71, ⟨Tryz.func135, trivial, trivial⟩, trivial⟩, ⟨Tryz.func103, ⟨Tryz.func167, trivial, trivial⟩, trivial⟩⟩, ⟨Tryz.func55, ⟨Tryz.func87, ⟨Tryz.func151, trivial, trivial⟩, trivial⟩, ⟨Tryz.func119, ⟨Tryz.func183, trivial, trivial⟩, trivial⟩⟩⟩⟩, ⟨Tryz.func11, ⟨Tryz.func19, ⟨Tryz.func35, ⟨Tryz.func67, ⟨Tryz.func131, trivial, trivial⟩, trivial⟩, ⟨Tryz.func99, ⟨Tryz.func163, trivial, trivial⟩, trivial⟩⟩, ⟨Tryz.func51, ⟨Tryz.func83, ⟨Tryz.func147, trivial, trivial⟩, trivial⟩, ⟨Tryz.func115, ⟨Tryz.func179, trivial, trivial⟩, trivial⟩⟩⟩, ⟨Tryz.func27, ⟨Tryz.func43, ⟨Tryz.func75, ⟨Tryz.func139, trivial, trivial⟩, trivial⟩, ⟨Tryz.func107, ⟨Tryz.func171, trivial, trivial⟩, trivial⟩⟩, ⟨Tryz.func59, ⟨Tryz.func91, ⟨Tryz.func155, trivial, trivial⟩, trivial⟩, ⟨Tryz.func123, trivial, trivial⟩⟩⟩⟩⟩, ⟨Tryz.func5, ⟨Tryz.func9, ⟨Tryz.func17, ⟨Tryz.func33, ⟨Tryz.func65, ⟨Tryz.func129, trivial, trivial⟩, trivial⟩, ⟨Tryz.func97, ⟨Tryz.func161, trivial, trivial⟩, trivial⟩⟩, ⟨Tryz.func49, ⟨Tryz.func81, ⟨Tryz.func145, trivial, trivial⟩, trivial⟩, ⟨Tryz.func113, ⟨Tryz.func177, trivial, trivial⟩, trivial⟩⟩⟩, ⟨Tryz.func25, ⟨Tryz.func41, ⟨Tryz.func73, ⟨Tryz.func137, trivial, trivial⟩, trivial⟩, ⟨Tryz.func105, ⟨Tryz.func169, trivial, trivial⟩, trivial⟩⟩, ⟨Tryz.func57, ⟨Tryz.func89, ⟨Tryz.func153, trivial, trivial⟩, trivial⟩, ⟨Tryz.func121, trivial, trivial⟩⟩⟩⟩, ⟨Tryz.func13, ⟨Tryz.func21, ⟨Tryz.func37, ⟨Tryz.func69, ⟨Tryz.func133, trivial, trivial⟩, trivial⟩, ⟨Tryz.func101, trivial, trivial⟩⟩, ⟨Tryz.func53, ⟨Tryz.func85, ⟨Tryz.func149, trivial, trivial⟩, trivial⟩, ⟨Tryz.func117, ⟨Tryz.func181, trivial, trivial⟩, trivial⟩⟩⟩, ⟨Tryz.func29, ⟨Tryz.func45, ⟨Tryz.func77, ⟨Tryz.func141, trivial, trivial⟩, trivial⟩, ⟨Tryz.func109, ⟨Tryz.func173, trivial, trivial⟩, trivial⟩⟩, ⟨Tryz.func61, ⟨Tryz.func93, ⟨Tryz.func157, trivial, trivial⟩, trivial⟩, ⟨Tryz.func125, trivial, trivial⟩⟩⟩⟩⟩⟩, ⟨Tryz.func2, ⟨Tryz.func4, ⟨Tryz.func8, ⟨Tryz.func16, ⟨Tryz.func32, ⟨Tryz.func64, ⟨Tryz.func128, trivial, trivial⟩, trivial⟩, ⟨Tryz.func96, ⟨Tryz.func160, trivial, trivial⟩, trivial⟩⟩, ⟨Tryz.func48, ⟨Tryz.func80, ⟨Tryz.func144, trivial, trivial⟩, trivial⟩, ⟨Tryz.func112, ⟨Tryz.func176, trivial, trivial⟩, trivial⟩⟩⟩, ⟨Tryz.func24, ⟨Tryz.func40, ⟨Tryz.func72, ⟨Tryz.func136, trivial, trivial⟩, trivial⟩, ⟨Tryz.func104, ⟨Tryz.func168, trivial, trivial⟩, trivial⟩⟩, ⟨Tryz.func56, ⟨Tryz.func88, ⟨Tryz.func152, trivial, trivial⟩, trivial⟩, ⟨Tryz.func120, ⟨Tryz.func184, trivial, trivial⟩, trivial⟩⟩⟩⟩, ⟨Tryz.func12, ⟨Tryz.func20, ⟨Tryz.func36, ⟨Tryz.func68, ⟨Tryz.func132, trivial, trivial⟩, trivial⟩, ⟨Tryz.func100, ⟨Tryz.func164, trivial, trivial⟩, trivial⟩⟩, ⟨Tryz.func52, ⟨Tryz.func84, ⟨Tryz.func148, trivial, trivial⟩, trivial⟩, ⟨Tryz.func116, ⟨Tryz.func180, trivial, trivial⟩, trivial⟩⟩⟩, ⟨Tryz.func28, ⟨Tryz.func44, ⟨Tryz.func76, ⟨Tryz.func140, trivial, trivial⟩, trivial⟩, ⟨Tryz.func108, trivial, trivial⟩⟩, ⟨Tryz.func60, ⟨Tryz.func92, ⟨Tryz.func156, trivial, trivial⟩, trivial⟩, ⟨Tryz.func124, trivial, trivial⟩⟩⟩⟩⟩, ⟨Tryz.func6, ⟨Tryz.func10, ⟨Tryz.func18, ⟨Tryz.func34, ⟨Tryz.func66, ⟨Tryz.func130, trivial, trivial⟩, trivial⟩, ⟨Tryz.func98, trivial, trivial⟩⟩, ⟨Tryz.func50, ⟨Tryz.func82, ⟨Tryz.func146, trivial, trivial⟩, trivial⟩, ⟨Tryz.func114, ⟨Tryz.func178, trivial, trivial⟩, trivial⟩⟩⟩, ⟨Tryz.func26, ⟨Tryz.func42, ⟨Tryz.func74, ⟨Tryz.func138, trivial, trivial⟩, trivial⟩, ⟨Tryz.func106, ⟨Tryz.func170, trivial, trivial⟩, trivial⟩⟩, ⟨Tryz.func58, ⟨Tryz.func90, ⟨Tryz.func154, trivial, trivial⟩, trivial⟩, ⟨Tryz.func122, trivial, trivial⟩⟩⟩⟩, ⟨Tryz.func14, ⟨Tryz.func22, ⟨Tryz.func38, ⟨Tryz.func70, ⟨Tryz.func134, trivial, trivial⟩, trivial⟩, ⟨Tryz.func102, ⟨Tryz.func166, trivial, trivial⟩, trivial⟩⟩, ⟨Tryz.func54, ⟨Tryz.func86, ⟨Tryz.func150, trivial, trivial⟩, ⟨Tryz.func214, trivial, trivial⟩⟩, ⟨Tryz.func118, ⟨Tryz.func182, trivial, trivial⟩, trivial⟩⟩⟩, ⟨Tryz.func30, ⟨Tryz.func46, ⟨Tryz.func78, ⟨Tryz.func142, trivial, trivial⟩, trivial⟩, ⟨Tryz.func110, ⟨Tryz.func174, trivial, trivial⟩, trivial⟩⟩, ⟨Tryz.func62, ⟨Tryz.func94, ⟨Tryz.func158, trivial, trivial⟩, trivial⟩, ⟨Tryz.func126, trivial, trivial⟩⟩⟩⟩⟩⟩⟩
theorem lib_ok : LibOK Tryz.prog 162 165 155 := by
  obtain ⟨i, hi, hz, h1, h2⟩ := info_parts (show (Tryz.prog.info? 5).map (fun i => (i.zero, i.size, i.bytes)) = some (some (.int .u8 0), 1, 1) by kernel_rfl)
  exact ⟨⟨_, Tryz.func162, by kernel_rfl, by kernel_rfl, by kernel_rfl, by kernel_rfl⟩, ⟨_, Tryz.func165, by kernel_rfl, by kernel_rfl, by kernel_rfl, by kernel_rfl⟩,
    ⟨3, 4, 9, 170, 211, 5, i, by rw [Tryz.func155]; rfl, by kernel_rfl, by kernel_rfl, by kernel_rfl, by kernel_rfl, hi, hz, h1, h2⟩⟩
theorem tabs_ok : TabsOK Tryz.prog T0 := ⟨by kernel_rfl, by kernel_rfl, by kernel_rfl, fnT_ok, by kernel_rfl, lib_ok, by kernel_rfl⟩
end Go.Proofs.YtikipcanjobloaaGreatDoor

/-
  THE ENGINE, 49: a call of no arguments, whole.
-/
namespace Go.Eng
open Go

section
variable {P : Program} {E : Env}

/-- What the engine answers of a whole call, in the words of contracts. -/
theorem calls_of (hE : EnvOK P E) (hX : ExtOK P E) (hN : NameOK E) (hmix : P.follows .mixedOrders = true) {n f : Nat} {args : List AV} {v : AV} {σ : Hp} (hext : E.ext f args = none) (h : callN E (n + 1) f args .empty [] [] = some (v, σ, []))
    {V : View} {A : List Value} {W : World} (ha : VRs V args A) (hcl : args.all (closedA 9) = true) (hK : ∀ b o x, V.K b o = some x → W.cell? ⟨b, o, none⟩ = some x) (hg : GlobK E V) :
    Calls P f A.toArray W fun e W' => ∃ V' R, e = .returned R ∧ VR V' v R ∧ Fr (fun _ => False) W W' := by
  have ih := engine_ok hE hX hN hmix n
  have hcode := code_ok hE hmix (callN E n) ih
  simp only [callN, hext] at h
  split at h
  · cases h
  · rename_i fn hfn
    split at h
    · cases h
    · rename_i body hbody
      split at h
      · cases h
      · rename_i e st1 hex
        have hf := hE.fn f fn hfn
        have hcf : (callFunc f A.toArray).run P W = .ok (.enter f A.toArray) W := by
          simp [callFunc, Sem.run_bind, hf, hN f fn hfn, hbody]
        have ha' := closedA_list hcl ha
        have hS : SR E W.heap.size invT (alone V) ⟨tmps0 fn.ntmps (.full (dep fn.ntmps)) 0 args, .empty, [], [], args.length + (fn.ntmps - args.length), false⟩ (A.toArray ++ Array.replicate (fn.ntmps - A.length) undef) [] [] (fun _ => False) W := by
          refine ⟨HR.alone hK hg _, Nat.le_refl _, fun t a ht => ?_, by simp [ha'.1], .nil, fun r hr => absurd hr (by simp), fun _ h => h, fun _ _ h => h⟩
          rcases tmps0_spec _ _ _ _ _ _ ht with ⟨j, rfl, hj⟩ | g
          · obtain ⟨X, h1, h2⟩ := ha'.get hj
            have : j < A.length := (List.getElem?_eq_some_iff.1 h1).1
            have e : (A.toArray ++ Array.replicate (fn.ntmps - A.length) undef).getD (0 + j) undef = X := by
              rw [Array.getD_eq_getD_getElem?, Nat.zero_add, Array.getElem?_append_left (by simpa using this)]
              simp [h1]
            rw [e]; exact h2
          · rw [Tr.get_full] at g; cases g
        have hh : HOK P invT (alone V).lv [] := ⟨fun _ _ => rfl, fun lvl hd l h1 => by simp at h1⟩
        obtain ⟨V1, A1, DS1, M1, O1, W1, L1, g1⟩ := hcode W.heap.size [] body invT invT_ok (alone V) _ st1 e _ _ _ _ _ f none (fun _ h => by cases h) hex hS hh
        split at h
        · cases h
        · rename_i hne
          split at h
          · cases h
          · rename_i σ2 Λ2 hrd
            obtain ⟨V2, O2, W2, S2, p2, o2, g2⟩ := unwind_spec invT_ok ih L1.sr.ds (View.le.refl V1) (st := st1) L1.sr (by rw [L1.pr.lv]; exact hh) hrd
            have hP := L1.pr.transM p2 (fun r hr => (L1.mg r hr).elim (fun x => absurd x (by simp)) (fun x => x)) o2
            have hfr : Fr (fun _ => False) W W2 := hP.fr.weaken (fun b _ hb => hb.elim (no_own b) (fun h => h))
            have fin : ∀ vs, resultsA E st1.τ σ2 fn.results.toList = some vs → Calls P f A.toArray W fun e W' => ∃ V' R, e = .returned R ∧ VR V' (packA vs) R ∧ Fr (fun _ => False) W W' := by
              intro vs hvs
              obtain ⟨L, h1, h2⟩ := results_run hE S2 (fn := fn) hvs
              intro cs
              have hent : Frame.enter P f A.toArray .normal = mkF (Frame.enter P f A.toArray .normal) (A.toArray ++ Array.replicate (fn.ntmps - A.length) undef) [] [.code body] := by
                simp [Frame.enter, mkF, hf, hbody]
              have hro : (Frame.enter P f A.toArray .normal).roundOf = none := rfl
              have ha1 := g1 (Frame.enter P f A.toArray .normal) cs [] ⟨⟨rfl, rfl, .inl rfl⟩, rfl⟩
              rw [← hent] at ha1
              obtain ⟨todo, s1⟩ : ∃ todo, Steps P (lone (Frame.enter P f A.toArray .normal) cs W) (lone (retF (Frame.enter P f A.toArray .normal) A1 DS1 todo) cs W1) := by
                cases e with
                | normal => exact ⟨[], Steps.trans ha1 (.one (st_end hro))⟩
                | exit i => exact absurd rfl (hne i)
                | ret => obtain ⟨k', h2⟩ := ha1; exact ⟨_, h2.trans (.one (st_ret hro))⟩
              exact ⟨.returned (pack L), W2, retF (Frame.enter P f A.toArray .normal) A1 [] todo, ⟨V2, pack L, rfl, pack_spec h2, hfr⟩, s1.trans (g2 _ cs todo), rfl, rfl, rfl, rfl, fn, hf, h1⟩
            split at h
            · rename_i v1 hvs
              simp only [Option.some.injEq, Prod.mk.injEq] at h; obtain ⟨rfl, _, _⟩ := h
              exact fin _ hvs
            · rename_i vs hnv hvs
              simp only [Option.some.injEq, Prod.mk.injEq] at h; obtain ⟨rfl, _, _⟩ := h
              have := fin _ hvs
              unfold packA at this
              split at this
              · exact absurd rfl (hnv _)
              · exact this
            · cases h

/-- Is the answer true? -/
noncomputable def isTrue (E : Env) (n f : Nat) : Bool :=
  match E.ext f [], callN E (n + 1) f [] .empty [] [] with
  | none, some (.bool true, _, []) => true
  | _, _ => false

theorem calls_true (hE : EnvOK P E) (hX : ExtOK P E) (hN : NameOK E) (hmix : P.follows .mixedOrders = true) {n f : Nat} (h : isTrue E n f = true) {V : View} {W : World} (hK : ∀ b o x, V.K b o = some x → W.cell? ⟨b, o, none⟩ = some x) (hg : GlobK E V) :
    Calls P f #[] W fun e W' => e = .returned (.bool true) ∧ Fr (fun _ => False) W W' := by
  unfold isTrue at h
  split at h
  · rename_i σ h1 h2
    refine (calls_of hE hX hN hmix h1 h2 (.nil V) rfl hK hg).mono fun e W' ⟨V', R, he, hv, hf⟩ => ?_
    cases hv
    exact ⟨he, hf⟩
  · cases h
end
end Go.Eng

/-
  THE ENGINE, 50: what is said ahead of functions, for whichever arguments.
-/
namespace Go.Eng
open Go

section
variable {P : Program} {E : Env}

/-- What comes out, if nothing is left open. -/
noncomputable def val? (r : Option (AV × Hp × List LF)) : Option AV :=
  match r with
  | some (v, _, []) => some v
  | _ => none

/-- The same, with a function said ahead. -/
noncomputable def Env.say (E : Env) (S : Nat → List AV → Option AV) : Env := { E with ext := fun f args => match S f args with
  | some v => some v
  | none => E.ext f args }

theorem EnvOK.say (h : EnvOK P E) (S : Nat → List AV → Option AV) : EnvOK P (E.say S) := by
  refine ⟨fun t k ht => ?_, h.zero, h.fn, h.eqok⟩
  obtain ⟨h1, h2⟩ := h.ty t k ht
  refine ⟨h1, ?_⟩
  cases k <;> exact h2
theorem NameOK.say (h : NameOK E) (S : Nat → List AV → Option AV) : NameOK (E.say S) := h

theorem ExtOK.say (hE : EnvOK P E) (hX : ExtOK P E) (hN : NameOK E) (hmix : P.follows .mixedOrders = true) {S : Nat → List AV → Option AV}
    (hS : ∀ f args v, S f args = some v → (∃ n, val? (callN E n f args .empty [] []) = some v) ∧ args.all (closedA 9) = true ∧ plainA 9 v = true) : ExtOK P (E.say S) := by
  intro f args v h V A W ha hK hg
  have hc := engine_ok hE hX hN hmix
  simp only [Env.say] at h
  split at h
  · rename_i w hw
    simp only [Option.some.injEq] at h; subst h
    obtain ⟨⟨n, hn⟩, hp, hq⟩ := hS f args _ hw
    unfold val? at hn
    split at hn
    · rename_i u σ hcall
      simp only [Option.some.injEq] at hn; subst hn
      obtain ⟨V', R, W', hv, _, hf, hgo⟩ := closed_call hc hcall ha hp hK hg
      exact ⟨R, W', plainA_spec 9 _ hq hv, hf, hgo⟩
    · cases hn
  · exact hX f args v h V A W ha hK hg

/-- Each entry comes out so. -/
def AllE (E : Env) (L : Ents) : Prop := ∀ e ∈ L, ∃ n, comes E n e.1 e.2.1 e.2.2 = true
theorem AllE.nil : AllE E [] := fun e he => by cases he
theorem AllE.cons {n f : Nat} {args : List AV} {v : AV} {L : Ents} (h : comes E n f args v = true) (k : AllE E L) : AllE E ((f, args, v) :: L) := fun e he => by
  rcases List.mem_cons.1 he with rfl | he
  · exact ⟨n, h⟩
  · exact k e he

/-- Two pairs of integers. -/
noncomputable def two2 (g : Int → Int → Int → Int → AV) (args : List AV) : Option AV :=
  match args with
  | [.agg [.int .i64 a, .int .i64 b], .agg [.int .i64 c, .int .i64 d]] => some (g a b c d)
  | _ => none
noncomputable def one2 (g : Int → Int → AV) (args : List AV) : Option AV :=
  match args with
  | [.agg [.int .i64 a, .int .i64 b]] => some (g a b)
  | _ => none
theorem two2_inv {g : Int → Int → Int → Int → AV} {args : List AV} {v : AV} (h : two2 g args = some v) : ∃ a b c d, args = [.agg [.int .i64 a, .int .i64 b], .agg [.int .i64 c, .int .i64 d]] ∧ v = g a b c d := by
  unfold two2 at h
  split at h
  · simp only [Option.some.injEq] at h; exact ⟨_, _, _, _, rfl, h.symm⟩
  · cases h
theorem one2_inv {g : Int → Int → AV} {args : List AV} {v : AV} (h : one2 g args = some v) : ∃ a b, args = [.agg [.int .i64 a, .int .i64 b]] ∧ v = g a b := by
  unfold one2 at h
  split at h
  · simp only [Option.some.injEq] at h; exact ⟨_, _, rfl, h.symm⟩
  · cases h
end
end Go.Eng

namespace Go.Proofs.YtikipcanjobloaaGreatDoor
open Go Go.Eng

noncomputable def gVec (a b c d : Int) : AV := .agg [.int .i64 (wr .i64 (c - a)), .int .i64 (wr .i64 (d - b))]
noncomputable def gLeft (a b c d : Int) : AV := .int .i64 (wr .i64 (wr .i64 (a * d) - wr .i64 (b * c)))
noncomputable def gAhead (a b c d : Int) : AV := .int .i64 (wr .i64 (wr .i64 (a * c) + wr .i64 (b * d)))
noncomputable def gSquare (a b : Int) : AV := .int .i64 (wr .i64 (wr .i64 (a * a) + wr .i64 (b * b)))

theorem cVec (a b c d : Int) : val? (callN T0.env 9 83 [.agg [.int .i64 a, .int .i64 b], .agg [.int .i64 c, .int .i64 d]] .empty [] []) = some (gVec a b c d) := by kernel_rfl
theorem cLeft (a b c d : Int) : val? (callN T0.env 9 109 [.agg [.int .i64 a, .int .i64 b], .agg [.int .i64 c, .int .i64 d]] .empty [] []) = some (gLeft a b c d) := by kernel_rfl
theorem cAhead (a b c d : Int) : val? (callN T0.env 9 144 [.agg [.int .i64 a, .int .i64 b], .agg [.int .i64 c, .int .i64 d]] .empty [] []) = some (gAhead a b c d) := by kernel_rfl
theorem cSquare (a b : Int) : val? (callN T0.env 9 145 [.agg [.int .i64 a, .int .i64 b]] .empty [] []) = some (gSquare a b) := by kernel_rfl

/-- What is said ahead. -/
noncomputable def S0 (f : Nat) (args : List AV) : Option AV :=
  match Nat.beq f 83 with
  | true => two2 gVec args
  | false => match Nat.beq f 109 with
    | true => two2 gLeft args
    | false => match Nat.beq f 144 with
      | true => two2 gAhead args
      | false => match Nat.beq f 145 with
        | true => one2 gSquare args
        | false => none

theorem S0_ok (f : Nat) (args : List AV) (v : AV) (h : S0 f args = some v) : (∃ n, val? (callN T0.env n f args .empty [] []) = some v) ∧ args.all (closedA 9) = true ∧ plainA 9 v = true := by
  unfold S0 at h
  split at h
  · rename_i e; have := Nat.eq_of_beq_eq_true e; subst this
    obtain ⟨a, b, c, d, rfl, rfl⟩ := two2_inv h
    exact ⟨⟨9, cVec a b c d⟩, rfl, rfl⟩
  · split at h
    · rename_i e; have := Nat.eq_of_beq_eq_true e; subst this
      obtain ⟨a, b, c, d, rfl, rfl⟩ := two2_inv h
      exact ⟨⟨9, cLeft a b c d⟩, rfl, rfl⟩
    · split at h
      · rename_i e; have := Nat.eq_of_beq_eq_true e; subst this
        obtain ⟨a, b, c, d, rfl, rfl⟩ := two2_inv h
        exact ⟨⟨9, cAhead a b c d⟩, rfl, rfl⟩
      · split at h
        · rename_i e; have := Nat.eq_of_beq_eq_true e; subst this
          obtain ⟨a, b, rfl, rfl⟩ := one2_inv h
          exact ⟨⟨9, cSquare a b⟩, rfl, rfl⟩
        · cases h

noncomputable def E1 : Env := T0.env.say S0
theorem e1 : EnvOK Tryz.prog E1 := tabs_ok.env.say S0
theorem n1 : NameOK E1 := tabs_ok.name.say S0
theorem x1 : ExtOK Tryz.prog E1 := tabs_ok.env.say S0 |> fun _ => ExtOK.say tabs_ok.env tabs_ok.ext tabs_ok.name tabs_ok.mix S0_ok
end Go.Proofs.YtikipcanjobloaaGreatDoor

/-
  THE ENGINE, 53: the same, made for the kernel: small bodies, no state within states.
-/
namespace Go.Eng
open Go

/-! ### Operations -/

noncomputable def litF (v : Value) : Option AV :=
  match v with
  | .int k i => some (.int k i)
  | .bool b => some (.bool b)
  | v => lit 3 v
noncomputable def evF (τ : Tmps) (x : Operand) : Option AV :=
  Operand.rec (motive := fun _ => Option AV) (fun t => τ.get t) (fun v => litF v) (fun g => some (.gp g 0)) (fun f => some (.fn f [] [])) x
theorem evF_eq (τ : Tmps) (x : Operand) : evF τ x = ev τ x := by
  cases x with
  | const v => cases v <;> rfl
  | _ => rfl

noncomputable def p_move (τ : Tmps) (σ : Hp) (x : Operand) : Option Res :=
  (evF τ x).map (.val · σ)
noncomputable def p_pick (τ : Tmps) (σ : Hp) (c : Operand) (a : Operand) (b : Operand) : Option Res :=
  match evF τ c with
    | some (.bool true) => (evF τ a).map (.val · σ)
    | some (.bool false) => (evF τ b).map (.val · σ)
    | _ => none
noncomputable def p_alloc (E : Env) (σ : Hp) (t : TypeId) : Option Res :=
  match E.zero t with
    | some z => some (.val (.ptr σ.n 0) (σ.push (.cells false z.cells)))
    | none => none
noncomputable def p_box (τ : Tmps) (σ : Hp) (x : Operand) : Option Res :=
  match evF τ x with
    | some z => some (.val (.ptr σ.n 0) (σ.push (.cells false z.cells)))
    | none => none
noncomputable def p_build (E : Env) (τ : Tmps) (σ : Hp) (t : TypeId) (ps : Array (Nat × Operand)) : Option Res :=
  match E.zero t, evParts τ ps.toList with
    | some z, some parts => match E.ty t with
      | some (.struct fs) => (fill (fieldPlace E fs) z.cells parts).map fun cs => .val (.agg cs) σ
      | some (.arr _ e) => (fill (fun i => some (i * E.size e, E.size e)) z.cells parts).map fun cs => .val (.agg cs) σ
      | _ => none
    | _, _ => none
noncomputable def p_buildSlice (E : Env) (τ : Tmps) (σ : Hp) (t : TypeId) (len : Nat) (ps : Array (Nat × Operand)) : Option Res :=
  match E.ty t, evParts τ ps.toList with
    | some (.slice e), some parts => match E.zero e, Nat.ble (len * E.size e) 65536 with
      | some z, true => (fill (fun i => some (i * E.size e, E.size e)) (repl len z.cells) parts).map fun cs => .val (.sl σ.n 0 len (E.size e)) (σ.push (.cells false cs))
      | _, _ => none
    | _, _ => none
noncomputable def p_load (E : Env) (τ : Tmps) (σ : Hp) (t : TypeId) (a : Operand) : Option Res :=
  match evF τ a with
    | some a => (loadV E σ t a).map (.val · σ)
    | none => none
noncomputable def p_store (E : Env) (τ : Tmps) (σ : Hp) (t : TypeId) (a : Operand) (x : Operand) : Option Res :=
  match evF τ a, evF τ x with
    | some a, some x => (storeV E σ t a x).map .skip
    | _, _ => none
noncomputable def p_nilCheck (τ : Tmps) (σ : Hp) (x : Operand) : Option Res :=
  match evF τ x with
    | some (.ptr id off) => some (.val (.ptr id off) σ)
    | some (.gp g off) => some (.val (.gp g off) σ)
    | some (.cp l off) => some (.val (.cp l off) σ)
    | some (.fn f a b) => some (.val (.fn f a b) σ)
    | some (.ifc t v) => some (.val (.ifc t v) σ)
    | _ => none
noncomputable def p_binOp (E : Env) (τ : Tmps) (σ : Hp) (b : BinOp) (t : TypeId) (x : Operand) (y : Operand) : Option Res :=
  match evF τ x, evF τ y with
    | some v, some w => (binop E b t v w (isConst x || isConst y)).map (.val · σ)
    | _, _ => none
noncomputable def p_unOp (τ : Tmps) (σ : Hp) (u : UnOp) (x : Operand) : Option Res :=
  match evF τ x with
    | some x => (unop u x).map (.val · σ)
    | none => none
noncomputable def p_convert (E : Env) (τ : Tmps) (σ : Hp) (s : TypeId) (d : TypeId) (x : Operand) : Option Res :=
  match evF τ x with
    | some x => (convV E σ s d x).map fun r => .val r.1 r.2
    | none => none
noncomputable def p_makeInterface (E : Env) (τ : Tmps) (σ : Hp) (t : TypeId) (x : Operand) : Option Res :=
  match E.ty t, evF τ x with
    | some (.ifc _), _ => none
    | some _, some x => some (.val (.ifc t x) σ)
    | _, _ => none
noncomputable def p_makeFunc (τ : Tmps) (σ : Hp) (fn : Fn) (first captured : Array Operand) : Option Res :=
  match fn with
  | .func f => match evs τ first.toList, evs τ captured.toList with
    | some a, some b => some (.val (.fn f a b) σ)
    | _, _ => none
  | _ => none
noncomputable def p_makeMap (E : Env) (σ : Hp) (t : TypeId) (r : Option Operand) : Option Res :=
  match r with
  | none => match E.ty t with
    | some (.map _ _) => some (.val (.mp σ.n) (σ.push (.map [])))
    | _ => none
  | _ => none
noncomputable def p_makeSlice (E : Env) (τ : Tmps) (σ : Hp) (t : TypeId) (l : Operand) (c : Operand) : Option Res :=
  match E.ty t, evF τ l, evF τ c with
    | some (.slice e), some (.int .i64 (.ofNat n)), some (.int .i64 (.ofNat m)) => match Nat.ble n m, Nat.ble m 65536 && Nat.ble (E.bytes e) 65536, E.zero e with
      | true, true, some z => some (.val (.sl σ.n 0 n (E.size e)) (σ.push (.cells false (repl n z.cells))))
      | _, _, _ => none
    | _, _, _ => none
noncomputable def p_slice (E : Env) (τ : Tmps) (σ : Hp) (t : TypeId) (x : Operand) (lo hi mx : Option Operand) : Option Res :=
  match mx with
  | none => match ev τ x, optA τ lo, optA τ hi with
    | some x, some lo, some hi => (sliceV E σ t x lo hi).map (.val · σ)
    | _, _, _ => none
  | _ => none
noncomputable def p_fieldAddr (E : Env) (τ : Tmps) (σ : Hp) (t : TypeId) (x : Operand) (i : Nat) : Option Res :=
  match E.ty t with
    | some (.struct fs) => match fs[i]?, evF τ x with
      | some f, some x => match Nat.beq (E.size f.type) 0, x with
        | false, .ptr id off => some (.val (.ptr id (off + f.off)) σ)
        | false, .gp g off => some (.val (.gp g (off + f.off)) σ)
        | false, .cp l off => some (.val (.cp l (off + f.off)) σ)
        | _, _ => none
      | _, _ => none
    | _ => none
noncomputable def p_field (E : Env) (τ : Tmps) (σ : Hp) (t : TypeId) (x : Operand) (i : Nat) : Option Res :=
  match E.ty t, evF τ x with
    | some (.struct fs), some (.agg cs) => match fs[i]? with
      | some f => (part E f.type cs f.off).map (.val · σ)
      | none => none
    | _, _ => none
noncomputable def p_indexAddr (E : Env) (τ : Tmps) (σ : Hp) (t : TypeId) (x : Operand) (i : Operand) : Option Res :=
  match E.ty t, evF τ x, evF τ i with
    | some (.slice e), some (.sl id off len _), some (.int _ j) => (idx j len).map fun j => .val (.ptr id (off + j * E.size e)) σ
    | some (.slice e), some (.csl cells len), some (.int _ j) => (idx j len).map fun j => .val (.cp cells (j * E.size e)) σ
    | some (.arr len e), some (.ptr id off), some (.int _ j) => (idx j len).map fun j => .val (.ptr id (off + j * E.size e)) σ
    | some (.arr len e), some (.gp g off), some (.int _ j) => (idx j len).map fun j => .val (.gp g (off + j * E.size e)) σ
    | _, _, _ => none
noncomputable def p_index (E : Env) (τ : Tmps) (σ : Hp) (t : TypeId) (x : Operand) (i : Operand) : Option Res :=
  match E.ty t, evF τ x, evF τ i with
    | some (.arr len e), some (.agg cs), some (.int _ j) => match idx j len with
      | some j => (part E e cs (j * E.size e)).map (.val · σ)
      | none => none
    | some .str, some (.str s), some (.int _ (.ofNat j)) => (s[j]?).map fun b => .val (.int .u8 (Int.ofNat b)) σ
    | _, _, _ => none
noncomputable def p_lookup (E : Env) (τ : Tmps) (σ : Hp) (t : TypeId) (x : Operand) (k : Operand) (ok : Bool) : Option Res :=
  match E.ty t, evF τ x, evF τ k, keyT E t with
    | some (.map _ e), some m, some k, some kt =>
      match (match m with | .nilm => some [] | .mp id => (match σ.get id with | some (.map es) => some es | _ => none) | _ => none), E.zero e with
      | some es, some z => match findKey kt k es 0 with
        | some (some (_, y)) => some (.val (match ok with | true => .tup [y, .bool true] | false => y) σ)
        | some none => some (.val (match ok with | true => .tup [z, .bool false] | false => z) σ)
        | none => none
      | _, _ => none
    | _, _, _, _ => none
noncomputable def p_upd (E : Env) (τ : Tmps) (σ : Hp) (t : TypeId) (m : Operand) (k : Operand) (x : Operand) : Option Res :=
  match evF τ m, evF τ k, evF τ x, keyT E t with
    | some (.mp id), some k, some x, some kt => match σ.get id with
      | some (.map es) => (mapSet kt es k x).map fun es => .skip (σ.set id (.map es))
      | _ => none
    | _, _, _, _ => none
noncomputable def p_range (E : Env) (τ : Tmps) (σ : Hp) (t : TypeId) (x : Operand) : Option Res :=
  match E.ty t, evF τ x with
    | some .str, some (.str s) => some (.val (.iter σ.n) (σ.push (.siter s 0)))
    | _, _ => none
noncomputable def p_next (τ : Tmps) (σ : Hp) (x : Operand) (s : Bool) : Option Res :=
  match s with
  | true => match ev τ x with
    | some (.iter id) => match σ.get id with
      | some (.siter s pos) => match s[pos]? with
        | some b => match Nat.ble b 127 with
          | true => some (.val (.tup [.bool true, .int .i64 pos, .int .i32 (Int.ofNat b)]) (σ.set id (.siter s (pos + 1))))
          | false => none
        | none => some (.val (.tup [.bool false]) σ)
      | _ => none
    | _ => none
  | false => none
noncomputable def p_typeAssert (E : Env) (τ : Tmps) (σ : Hp) (x : Operand) (a : TypeId) (ok : Bool) : Option Res :=
  match E.ty a, evF τ x with
    | some (.ifc _), _ => none
    | some _, some .nili => match ok, E.zero a with
      | true, some z => some (.val (.tup [z, .bool false]) σ)
      | _, _ => none
    | some _, some (.ifc t y) => match Nat.beq t a with
      | true => some (.val (match ok with | true => .tup [y, .bool true] | false => y) σ)
      | false => match ok, E.zero a with
        | true, some z => some (.val (.tup [z, .bool false]) σ)
        | _, _ => none
    | _, _ => none
noncomputable def p_extract (τ : Tmps) (σ : Hp) (x : Operand) (i : Nat) : Option Res :=
  match evF τ x with
    | some (.tup l) => (l[i]?).map (.val · σ)
    | _ => none
noncomputable def p_defer (E : Env) (τ : Tmps) (σ : Hp) (c : Call) : Option Res :=
  match callV E τ σ c with
    | some (.call f args) => some (.dfr f args)
    | _ => none
noncomputable def opF (E : Env) (τ : Tmps) (σ : Hp) (o : Op) : Option Res :=
  Op.rec (motive := fun _ => Option Res) (fun x => p_move τ σ x) (fun x => p_move τ σ x) (fun c a b => p_pick τ σ c a b) (fun t => p_alloc E σ t) (fun _ x => p_box τ σ x) (fun t ps => p_build E τ σ t ps) (fun t len ps => p_buildSlice E τ σ t len ps) (fun t m k x => p_upd E τ σ t m k x) (fun t a => p_load E τ σ t a) (fun t a x => p_store E τ σ t a x) (fun _ => none) (fun _ => none) (fun x => p_nilCheck τ σ x) (fun b t x y _ => p_binOp E τ σ b t x y) (fun u _ x => p_unOp τ σ u x) (fun s d x => p_convert E τ σ s d x) (fun _ _ => none) (fun t x => p_makeInterface E τ σ t x) (fun f a b => p_makeFunc τ σ f a b) (fun t r => p_makeMap E σ t r) (fun _ _ => none) (fun t l c => p_makeSlice E τ σ t l c) (fun t x a b c => p_slice E τ σ t x a b c) (fun t x i => p_fieldAddr E τ σ t x i) (fun t x i => p_field E τ σ t x i) (fun t x i => p_indexAddr E τ σ t x i) (fun t x i => p_index E τ σ t x i) (fun t x k ok => p_lookup E τ σ t x k ok) (fun t m k x => p_upd E τ σ t m k x) (fun _ _ _ => none) (fun _ _ _ _ => none) (fun t x => p_range E τ σ t x) (fun x s => p_next τ σ x s) (fun _ => none) (fun x _ a ok => p_typeAssert E τ σ x a ok) (fun x i => p_extract τ σ x i) (fun c => callV E τ σ c) (fun _ => none) (fun c => p_defer E τ σ c) (fun _ => none) (fun _ _ => none) (fun _ _ _ => none) (fun _ _ => none) o

theorem opF_eq (E : Env) (τ : Tmps) (σ : Hp) (o : Op) : opF E τ σ o = op E τ σ o := by
  cases o with
  | makeFunc f a b => cases f <;> rfl
  | makeMap t r => cases r <;> rfl
  | slice t x a b c => cases c <;> rfl
  | next x s => cases s <;> simp only [opF, p_next, op, evF_eq] <;> rfl
  | extract x i => simp only [opF, p_extract, op, evF_eq] <;> rfl
  | typeAssert x u a ok => simp only [opF, p_typeAssert, op, evF_eq] <;> rfl
  | range t x => simp only [opF, p_range, op, evF_eq] <;> rfl
  | mapUpdate t m k x => simp only [opF, p_upd, op, evF_eq] <;> rfl
  | insert t m k x => simp only [opF, p_upd, op, evF_eq] <;> rfl
  | lookup t x k ok => simp only [opF, p_lookup, op, evF_eq] <;> rfl
  | index t x i => simp only [opF, p_index, op, evF_eq] <;> rfl
  | indexAddr t x i => simp only [opF, p_indexAddr, op, evF_eq] <;> rfl
  | field t x i => simp only [opF, p_field, op, evF_eq] <;> rfl
  | fieldAddr t x i => simp only [opF, p_fieldAddr, op, evF_eq] <;> rfl
  | makeSlice t l c => simp only [opF, p_makeSlice, op, evF_eq] <;> rfl
  | makeInterface t x => simp only [opF, p_makeInterface, op, evF_eq] <;> rfl
  | convert s d x => simp only [opF, p_convert, op, evF_eq] <;> rfl
  | unOp u t x => simp only [opF, p_unOp, op, evF_eq] <;> rfl
  | binOp b t x y u => simp only [opF, p_binOp, op, evF_eq] <;> rfl
  | nilCheck x => simp only [opF, p_nilCheck, op, evF_eq] <;> rfl
  | store t a x => simp only [opF, p_store, op, evF_eq] <;> rfl
  | load t a => simp only [opF, p_load, op, evF_eq] <;> rfl
  | box t x => simp only [opF, p_box, op, evF_eq] <;> rfl
  | pick c a b => simp only [opF, p_pick, op, evF_eq] <;> rfl
  | move x => simp only [opF, p_move, op, evF_eq] <;> rfl
  | assign x => simp only [opF, p_move, op, evF_eq] <;> rfl
  | _ => rfl

/-! ### Calls -/

/-- Without anything of one's own. -/
noncomputable def flatL (g : AV → Bool) (l : List AV) : Bool := List.rec true (fun v _ r => Bool.rec false r (g v)) l
noncomputable def flatV (n : Nat) : AV → Bool := Nat.rec (fun _ => false) (fun _ ih v => match v with
  | .bool _ => true | .int _ _ => true | .str _ => true | .gp _ _ => true | .cp _ _ => true | .nilp => true | .csl _ _ => true | .nils => true | .nilm => true | .nilf => true | .nili => true
  | .agg l => flatL ih l
  | _ => false) n

theorem flatL_cons {g : AV → Bool} {v : AV} {l : List AV} : flatL g (v :: l) = true ↔ g v = true ∧ flatL g l = true := by
  show Bool.rec false (flatL g l) (g v) = true ↔ _
  cases g v <;> simp

theorem flat_both : ∀ n, (∀ v, flatV n v = true → (∀ σ, frzArg v σ = (v, σ)) ∧ ids v = [] ∧ ∀ y ρ, ren y ρ v = some v) ∧ (∀ l, flatL (flatV n) l = true → (∀ σ, frzArgs l σ = (l, σ)) ∧ idsL l = [] ∧ ∀ y ρ, renL y ρ l = some l) := by
  intro n
  induction n with
  | zero =>
    refine ⟨fun v h => absurd h (by intro h; cases h), fun l h => ?_⟩
    cases l with
    | nil => exact ⟨fun _ => rfl, rfl, fun _ _ => rfl⟩
    | cons v l => have := (flatL_cons.1 h).1; cases this
  | succ n ih =>
    have hv : ∀ v, flatV (n + 1) v = true → (∀ σ, frzArg v σ = (v, σ)) ∧ ids v = [] ∧ ∀ y ρ, ren y ρ v = some v := by
      intro v h
      cases v with
      | agg l =>
        obtain ⟨h1, h2, h3⟩ := ih.2 l h
        exact ⟨fun σ => by simp only [frzArg, h1], by simp only [ids, h2], fun y ρ => by simp only [ren, h3, Option.map_some]⟩
      | ptr => cases h
      | sl => cases h
      | mp => cases h
      | iter => cases h
      | fn => cases h
      | yld => cases h
      | ifc => cases h
      | tup => cases h
      | _ => exact ⟨fun σ => by simp only [frzArg], by simp only [ids], fun y ρ => by simp only [ren]⟩
    refine ⟨hv, fun l => ?_⟩
    induction l with
    | nil => exact fun _ => ⟨fun _ => rfl, rfl, fun _ _ => rfl⟩
    | cons v l ihl =>
      intro h
      obtain ⟨a, b⟩ := flatL_cons.1 h
      obtain ⟨h1, h2, h3⟩ := hv v a
      obtain ⟨g1, g2, g3⟩ := ihl b
      exact ⟨fun σ => by simp only [frzArgs, h1, g1], by simp only [idsL, h2, g2, List.append_nil], fun y ρ => by simp only [renL, h3, g3]⟩

noncomputable def leaveF (y : Nat) (σ : Hp) (v : AV) (σ'' : Hp) (Λ : List LF) : Option (AV × Hp × List LF) :=
  Bool.rec (match leave y σ [] v σ'' with
    | none => none
    | some (v', σ3) => some (v', σ3, Λ)) (some (v, σ, Λ)) (flatV 3 v)
noncomputable def doCallF (E : Env) (call : CallF) (hs : List Hnd) (f : Nat) (args : List AV) (σ : Hp) (Λ : List LF) : Option (AV × Hp × List LF) :=
  Bool.rec (doCall E call hs f args σ Λ)
    (Option.rec (motive := fun _ => Option (AV × Hp × List LF)) none (fun r => leaveF hs.length σ r.1 r.2.1 r.2.2) (call f args .empty hs Λ)) (flatL (flatV 3) args)

theorem doCallF_eq (E : Env) (call : CallF) (hs : List Hnd) (f : Nat) (args : List AV) (σ : Hp) (Λ : List LF) : doCallF E call hs f args σ Λ = doCall E call hs f args σ Λ := by
  unfold doCallF
  cases h : flatL (flatV 3) args with
  | false => rfl
  | true =>
    obtain ⟨h1, h2, h3⟩ := (flat_both 3).2 args h
    have e2 : enter hs.length σ args = some (args, .empty, []) := by simp only [enter, h2, h3]
    have e3 : doCall E call hs f args σ Λ = match call f args .empty hs Λ with
        | none => none
        | some (v, σ'', Λ) => match leave hs.length σ [] v σ'' with
          | none => none
          | some (v', σ3) => some (v', σ3, Λ) := by
      unfold doCall
      cases E.byref f with
      | true => simp only [e2] <;> rfl
      | false => simp only [h1, e2] <;> rfl
    rw [e3]
    cases call f args .empty hs Λ with
    | none => rfl
    | some r =>
      obtain ⟨v, σ'', Λ'⟩ := r
      simp only [leaveF]
      cases hv : flatV 3 v with
      | false => rfl
      | true =>
        obtain ⟨_, g2, g3⟩ := (flat_both 3).1 v hv
        simp only [leave, g2, g3]

/-! ### Regions -/

structure S4 where
  τ : Tmps
  σ : Hp
  ds : List (Nat × List AV)
  Λ : List LF
abbrev K4 (α : Type) := Tmps → Hp → List (Nat × List AV) → List LF → Option α

noncomputable def putF {α : Type} (k : K4 α) (nt : Nat) (τ : Tmps) (σ : Hp) (ds : List (Nat × List AV)) (Λ : List LF) (d : Option Nat) (v : AV) : Option α :=
  Option.rec (motive := fun _ => Option α) (k τ σ ds Λ) (fun t => Bool.rec (motive := fun _ => Option α) none (k (τ.set t v) σ ds Λ) (Nat.ble (Nat.succ t) nt)) d

noncomputable def callR {α : Type} (k : K4 α) (nt : Nat) (τ : Tmps) (ds : List (Nat × List AV)) (d : Option Nat) (r : Option (AV × Hp × List LF)) : Option α :=
  Option.rec (motive := fun _ => Option α) none (fun r => putF k nt τ r.2.1 ds r.2.2 d r.1) r

noncomputable def resF {α : Type} (E : Env) (call : CallF) (hs : List Hnd) (nt : Nat) (rnd : Bool) (k : K4 α) (d : Option Nat) (τ : Tmps) (σ : Hp) (ds : List (Nat × List AV)) (Λ : List LF) (r : Option Res) : Option α :=
  Option.rec (motive := fun _ => Option α) none (fun r => Res.rec (motive := fun _ => Option α) (fun v σ' => putF k nt τ σ' ds Λ d v) (fun σ' => putF k nt τ σ' ds Λ d undefA)
    (fun f args => callR k nt τ ds d (doCallF E call hs f args σ Λ)) (fun l args => callR k nt τ ds d (doYield hs l args σ Λ))
    (fun f args => Bool.rec (motive := fun _ => Option α) (putF k nt τ σ ((f, args) :: ds) Λ d undefA) none rnd) (Bool.rec (motive := fun _ => Option α) (putF k nt τ σ ds Λ d .nili) none rnd) r) r

noncomputable def oneF {α : Type} (E : Env) (call : CallF) (hs : List Hnd) (ops : Array Oper) (nt : Nat) (rnd : Bool) (o : Oper) (k : K4 α) (τ : Tmps) (σ : Hp) (ds : List (Nat × List AV)) (Λ : List LF) : Option α :=
  Option.rec (motive := fun _ => Option α) (resF E call hs nt rnd k o.dst τ σ ds Λ (opF E τ σ o.op))
    (fun _ => match wantedA ops τ o with
      | none => none
      | some false => putF k nt τ σ ds Λ o.dst undefA
      | some true => resF E call hs nt rnd k o.dst τ σ ds Λ (opF E τ σ o.op)) o.guard

/-- What comes behind an operation. -/
def thenK {α : Type} (k : K4 α) : Option St → Option α
  | none => none
  | some st => k st.τ st.σ st.ds st.Λ

theorem putF_eq {α : Type} (k : K4 α) (st : St) (d : Option Nat) (v : AV) : putF k st.nt st.τ st.σ st.ds st.Λ d v = thenK k (putS st d v) := by
  unfold putS putT
  cases d with
  | none => rfl
  | some t =>
    simp only [putF]
    rw [show Nat.ble (Nat.succ t) st.nt = Nat.ble (t + 1) st.nt from rfl]
    cases Nat.ble (t + 1) st.nt <;> rfl

theorem putS_nt {st st' : St} {d : Option Nat} {v : AV} (h : putS st d v = some st') : st'.nt = st.nt ∧ st'.rnd = st.rnd := by
  unfold putS at h
  split at h
  · simp only [Option.some.injEq] at h; subst h; exact ⟨rfl, rfl⟩
  · cases h

theorem resF_eq {α : Type} (E : Env) (call : CallF) (hs : List Hnd) (nt : Nat) (rnd : Bool) (k : K4 α) (d : Option Nat) (τ : Tmps) (σ : Hp) (ds : List (Nat × List AV)) (Λ : List LF) (r : Option Res) :
    resF E call hs nt rnd k d τ σ ds Λ r = thenK k (match r with
    | none => none
    | some (.val v σ') => putS ⟨τ, σ', ds, Λ, nt, rnd⟩ d v
    | some (.skip σ') => putS ⟨τ, σ', ds, Λ, nt, rnd⟩ d undefA
    | some (.call f args) => match doCall E call hs f args σ Λ with
      | some (v, σ, Λ) => putS ⟨τ, σ, ds, Λ, nt, rnd⟩ d v
      | none => none
    | some (.yld l args) => match doYield hs l args σ Λ with
      | some (v, σ, Λ) => putS ⟨τ, σ, ds, Λ, nt, rnd⟩ d v
      | none => none
    | some (.dfr f args) => match rnd with
      | true => none
      | false => putS ⟨τ, σ, (f, args) :: ds, Λ, nt, rnd⟩ d undefA
    | some .recov => match rnd with
      | true => none
      | false => putS ⟨τ, σ, ds, Λ, nt, rnd⟩ d .nili) := by
  cases r with
  | none => rfl
  | some r =>
    cases r with
    | val v σ' => exact putF_eq k ⟨τ, σ', ds, Λ, nt, rnd⟩ d v
    | skip σ' => exact putF_eq k ⟨τ, σ', ds, Λ, nt, rnd⟩ d undefA
    | call f args =>
      simp only [resF, doCallF_eq]
      cases doCall E call hs f args σ Λ with
      | none => rfl
      | some r => obtain ⟨v, σ', Λ'⟩ := r; exact putF_eq k ⟨τ, σ', ds, Λ', nt, rnd⟩ d v
    | yld l args =>
      simp only [resF]
      cases doYield hs l args σ Λ with
      | none => rfl
      | some r => obtain ⟨v, σ', Λ'⟩ := r; exact putF_eq k ⟨τ, σ', ds, Λ', nt, rnd⟩ d v
    | dfr f args =>
      cases rnd with
      | true => rfl
      | false => exact putF_eq k ⟨τ, σ, (f, args) :: ds, Λ, nt, false⟩ d undefA
    | recov =>
      cases rnd with
      | true => rfl
      | false => exact putF_eq k ⟨τ, σ, ds, Λ, nt, false⟩ d .nili

theorem oneF_eq {α : Type} (E : Env) (call : CallF) (hs : List Hnd) (ops : Array Oper) (o : Oper) (k : K4 α) (st : St) :
    oneF E call hs ops st.nt st.rnd o k st.τ st.σ st.ds st.Λ = thenK k (oneOp E call hs ops o st) := by
  obtain ⟨τ, σ, ds, Λ, nt, rnd⟩ := st
  have hr : ∀ r, resF E call hs nt rnd k o.dst τ σ ds Λ (opF E τ σ o.op) = thenK k r → oneF E call hs ops nt rnd o k τ σ ds Λ = thenK k (match wantedA ops τ o with
      | none => none
      | some false => putS ⟨τ, σ, ds, Λ, nt, rnd⟩ o.dst undefA
      | some true => r) := by
    intro r h
    unfold oneF
    cases hg : o.guard with
    | none =>
      have : wantedA ops τ o = some true := by unfold wantedA; rw [hg]
      rw [this]; exact h
    | some g =>
      simp only
      cases wantedA ops τ o with
      | none => rfl
      | some b =>
        cases b with
        | true => exact h
        | false => exact putF_eq k ⟨τ, σ, ds, Λ, nt, rnd⟩ o.dst undefA
  rw [hr _ (resF_eq E call hs nt rnd k o.dst τ σ ds Λ (opF E τ σ o.op)), opF_eq]
  unfold oneOp
  rfl

theorem oneOp_nt {E : Env} {call : CallF} {hs : List Hnd} {ops : Array Oper} {o : Oper} {st st' : St} (h : oneOp E call hs ops o st = some st') : st'.nt = st.nt ∧ st'.rnd = st.rnd := by
  have key : ∀ {s : St} {d : Option Nat} {v : AV}, putS s d v = some st' → s.nt = st.nt → s.rnd = st.rnd → st'.nt = st.nt ∧ st'.rnd = st.rnd := fun h h1 h2 => by
    obtain ⟨a, b⟩ := putS_nt h
    exact ⟨a.trans h1, b.trans h2⟩
  unfold oneOp at h
  split at h
  · cases h
  · exact key h rfl rfl
  · split at h
    · cases h
    · exact key h rfl rfl
    · exact key h rfl rfl
    · split at h
      · exact key h rfl rfl
      · cases h
    · split at h
      · exact key h rfl rfl
      · cases h
    · split at h
      · cases h
      · exact key h rfl rfl
    · split at h
      · cases h
      · exact key h rfl rfl

noncomputable def runF (E : Env) (call : CallF) (hs : List Hnd) (ops : Array Oper) (nt : Nat) (rnd : Bool) (l : List Oper) : K4 S4 :=
  List.rec (motive := fun _ => K4 S4) (fun τ σ ds Λ => some ⟨τ, σ, ds, Λ⟩) (fun o _ ih => oneF E call hs ops nt rnd o ih) l

def s4 (st : St) : S4 := ⟨st.τ, st.σ, st.ds, st.Λ⟩

theorem runF_eq (E : Env) (call : CallF) (hs : List Hnd) (ops : Array Oper) : ∀ (l : List Oper) (st : St), runF E call hs ops st.nt st.rnd l st.τ st.σ st.ds st.Λ = (runOps E call hs ops l st).map s4
  | [], st => rfl
  | o :: l, st => by
    show oneF E call hs ops st.nt st.rnd o (runF E call hs ops st.nt st.rnd l) st.τ st.σ st.ds st.Λ = _
    rw [oneF_eq, runOps]
    cases h : oneOp E call hs ops o st with
    | none => rfl
    | some st1 =>
      obtain ⟨h1, h2⟩ := oneOp_nt h
      show runF E call hs ops st.nt st.rnd l st1.τ st1.σ st1.ds st1.Λ = _
      rw [← h1, ← h2, runF_eq E call hs ops l st1]

theorem runOps_nt {E : Env} {call : CallF} {hs : List Hnd} {ops : Array Oper} : ∀ {l : List Oper} {st st' : St}, runOps E call hs ops l st = some st' → st'.nt = st.nt ∧ st'.rnd = st.rnd
  | [], st, st', h => by simp only [runOps, Option.some.injEq] at h; subst h; exact ⟨rfl, rfl⟩
  | o :: l, st, st', h => by
    rw [runOps] at h
    split at h
    · rename_i st1 h1
      obtain ⟨a, b⟩ := oneOp_nt h1
      obtain ⟨c, d⟩ := runOps_nt h
      exact ⟨c.trans a, d.trans b⟩
    · cases h

end Go.Eng

/-
  THE ENGINE, 54: regions whose order is drawn, codes and calls, made for the kernel.
-/
namespace Go.Eng
open Go

attribute [local irreducible] upTo

section
variable {E : Env} {call : CallF} {hs : List Hnd} {ops : Array Oper}

/-! ### Regions whose order is drawn -/

noncomputable def lookSameF (E : Env) (o : Oper) (τ τ' : Tmps) (σ : Hp) : Bool :=
  match opF E τ σ o.op with
  | some (.val v _) => match o.dst with
    | none => true
    | some d => match τ'.get d with
      | some w => avbeq w v
      | none => true
  | _ => false
theorem lookSameF_eq (E : Env) (o : Oper) (τ τ' : Tmps) (σ : Hp) : lookSameF E o τ τ' σ = lookSame E o τ τ' σ := by
  unfold lookSameF lookSame
  rw [opF_eq]
  rfl
noncomputable def lookOKF (E : Env) (o : Oper) (i a : Nat) (τ τ' : Tmps) : Option Nat → Phs → Bool
  | _, [] => true
  | nx, (σ, am, h) :: ph => match (match nx with | some x => msHas a x | none => false), msHas am i with
    | false, false => match lookSameF E o τ τ' σ with
      | true => lookOKF E o i a τ τ' h ph
      | false => false
    | _, _ => lookOKF E o i a τ τ' h ph
theorem lookOKF_eq (E : Env) (o : Oper) (i a : Nat) (τ τ' : Tmps) : ∀ (ph : Phs) (nx : Option Nat), lookOKF E o i a τ τ' nx ph = lookOK E o i a τ τ' nx ph
  | [], _ => rfl
  | (σ, am, h) :: ph, nx => by
    simp only [lookOKF, lookOK, lookSameF_eq, lookOKF_eq E o i a τ τ' ph]
    rfl
noncomputable def looksOKF (E : Env) (ops : Array Oper) (ph : Phs) : Lks → Bool
  | [] => true
  | (o, i, a, τ, τ') :: lk => match wantedA ops τ o with
    | some false => looksOKF E ops ph lk
    | _ => match lookOKF E o i a τ τ' none ph with
      | true => looksOKF E ops ph lk
      | false => false
theorem looksOKF_eq (E : Env) (ops : Array Oper) (ph : Phs) : ∀ lk : Lks, looksOKF E ops ph lk = looksOK E ops ph lk
  | [] => rfl
  | (o, i, a, τ, τ') :: lk => by
    simp only [looksOKF, looksOK, lookOKF_eq, looksOKF_eq E ops ph lk]
    rfl

abbrev D4 := List Inf → Nat → Phs → Lks → K4 (S4 × Phs × Lks)
noncomputable def behindD (o : Oper) (f : Inf) (fs : List Inf) (i : Nat) (ph : Phs) (lk : Lks) (ih : D4) (τ0 : Tmps) : K4 (S4 × Phs × Lks) := fun τ σ ds Λ =>
  Bool.rec (motive := fun _ => Option (S4 × Phs × Lks)) (Bool.rec (motive := fun _ => Option (S4 × Phs × Lks)) (ih fs (i + 1) ph lk τ σ ds Λ) (ih fs (i + 1) ph ((o, i, f.a, τ0, τ) :: lk) τ σ ds Λ) (Nat.beq f.c 1)) (ih fs (i + 1) ((σ, f.a, some i) :: ph) lk τ σ ds Λ) (Nat.beq f.c 0)
noncomputable def stepD (E : Env) (call : CallF) (hs : List Hnd) (ops : Array Oper) (nt : Nat) (rnd : Bool) (n0 : Nat) (o : Oper) (f : Inf) (fs : List Inf) (i : Nat) (ph : Phs) (lk : Lks) (ih : D4) : K4 (S4 × Phs × Lks) := fun τ σ ds Λ =>
  Bool.rec (motive := fun _ => Option (S4 × Phs × Lks)) (oneF E call hs ops nt rnd o (behindD o f fs i ph lk ih τ) τ σ ds Λ) (thenK (behindD o f fs i ph lk ih τ) (oneD E call hs ops n0 f o ⟨τ, σ, ds, Λ, nt, rnd⟩)) (Nat.beq f.c 3)
noncomputable def runDF (E : Env) (call : CallF) (hs : List Hnd) (ops : Array Oper) (nt : Nat) (rnd : Bool) (n0 : Nat) (l : List Oper) : D4 :=
  List.rec (motive := fun _ => D4) (fun _ _ ph lk τ σ ds Λ => some (⟨τ, σ, ds, Λ⟩, ph, lk))
    (fun o _ ih fs i ph lk => List.rec (motive := fun _ => K4 (S4 × Phs × Lks)) (fun τ σ ds Λ => some (⟨τ, σ, ds, Λ⟩, ph, lk)) (fun f fs' _ => stepD E call hs ops nt rnd n0 o f fs' i ph lk ih) fs) l

theorem oneD_nt {n0 : Nat} {f : Inf} {o : Oper} {st st' : St} (h : oneD E call hs ops n0 f o st = some st') : st'.nt = st.nt ∧ st'.rnd = st.rnd := by
  have key : ∀ {s : St} {d : Option Nat} {v : AV}, putS s d v = some st' → s.nt = st.nt → s.rnd = st.rnd → st'.nt = st.nt ∧ st'.rnd = st.rnd := fun h h1 h2 => by
    obtain ⟨a, b⟩ := putS_nt h
    exact ⟨a.trans h1, b.trans h2⟩
  unfold oneD at h
  split at h
  · split at h
    · cases h
    · exact key h rfl rfl
    · split at h
      · split at h
        · exact key h rfl rfl
        · cases h
      · cases h
  · exact oneOp_nt h

theorem stepD_eq {nt : Nat} {rnd : Bool} {n0 : Nat} {o : Oper} {f : Inf} {fs : List Inf} {i : Nat} {ph : Phs} {lk : Lks} {ih : D4} (st : St) (h1 : st.nt = nt) (h2 : st.rnd = rnd) :
    stepD E call hs ops nt rnd n0 o f fs i ph lk ih st.τ st.σ st.ds st.Λ = thenK (behindD o f fs i ph lk ih st.τ) (oneD E call hs ops n0 f o st) := by
  subst h1; subst h2
  unfold stepD
  cases h : Nat.beq f.c 3 with
  | true => rfl
  | false =>
    rw [show oneD E call hs ops n0 f o st = oneOp E call hs ops o st by
      unfold oneD
      split
      · rename_i e; rw [e] at h; cases h
      · rfl]
    exact oneF_eq E call hs ops o _ st

theorem runDF_eq {nt : Nat} {rnd : Bool} {n0 : Nat} : ∀ (l : List Oper) (fs : List Inf) (i : Nat) (ph : Phs) (lk : Lks) (st : St), st.nt = nt → st.rnd = rnd →
    runDF E call hs ops nt rnd n0 l fs i ph lk st.τ st.σ st.ds st.Λ = (runD E call hs ops n0 l fs i st ph lk).map fun r => (s4 r.1, r.2.1, r.2.2)
  | [], fs, i, ph, lk, st, h1, h2 => by cases fs <;> rfl
  | o :: l, [], i, ph, lk, st, h1, h2 => rfl
  | o :: l, f :: fs, i, ph, lk, st, h1, h2 => by
    show stepD E call hs ops nt rnd n0 o f fs i ph lk (runDF E call hs ops nt rnd n0 l) st.τ st.σ st.ds st.Λ = _
    rw [stepD_eq st h1 h2, runD]
    cases h : oneD E call hs ops n0 f o st with
    | none => rfl
    | some st1 =>
      obtain ⟨a, b⟩ := oneD_nt h
      have ih := fun ph lk => runDF_eq (nt := nt) (rnd := rnd) (n0 := n0) l fs (i + 1) ph lk st1 (a.trans h1) (b.trans h2)
      simp only [thenK, behindD]
      split
      · rename_i e; rw [e]; exact ih _ _
      · rename_i e; rw [e]; exact ih _ _
      · rename_i e1 e2
        rw [show Nat.beq f.c 0 = false by cases h : Nat.beq f.c 0 with | false => rfl | true => exact absurd (Nat.eq_of_beq_eq_true h) e1,
          show Nat.beq f.c 1 = false by cases h : Nat.beq f.c 1 with | false => rfl | true => exact absurd (Nat.eq_of_beq_eq_true h) e2]
        exact ih _ _

noncomputable def drawG (E : Env) (call : CallF) (hs : List Hnd) (ops : Array Oper) (nt : Nat) (rnd : Bool) (fs : List Inf) (na : Nat) : K4 S4 := fun τ σ ds Λ =>
  Option.rec (motive := fun _ => Option S4) none (fun r => Bool.rec (motive := fun _ => Option S4) none (some r.1) (looksOKF E ops r.2.1 r.2.2)) (runDF E call hs ops nt rnd σ.n ops.toList fs 0 [(⟨σ.t, σ.n + na⟩, 0, none)] [] τ ⟨σ.t, σ.n + na⟩ ds Λ)
noncomputable def drawF (E : Env) (call : CallF) (hs : List Hnd) (ops : Array Oper) (nt : Nat) (rnd : Bool) : K4 S4 := fun τ σ ds Λ =>
  Option.rec (motive := fun _ => Option S4) none (fun p => drawG E call hs ops nt rnd p.1 p.2 τ σ ds Λ) (planOf ops.toList)

theorem drawF_eq (st : St) : drawF E call hs ops st.nt st.rnd st.τ st.σ st.ds st.Λ = (runDraw E call hs ops st).map s4 := by
  unfold drawF runDraw
  cases planOf ops.toList with
  | none => rfl
  | some p =>
    obtain ⟨fs, na⟩ := p
    have e := runDF_eq (E := E) (call := call) (hs := hs) (ops := ops) (nt := st.nt) (rnd := st.rnd) (n0 := st.σ.n) ops.toList fs 0 [(⟨st.σ.t, st.σ.n + na⟩, 0, none)] [] { st with σ := ⟨st.σ.t, st.σ.n + na⟩ } rfl rfl
    simp only [drawG]
    simp only at e
    rw [e]
    cases runD E call hs ops st.σ.n ops.toList fs 0 { st with σ := ⟨st.σ.t, st.σ.n + na⟩ } [(⟨st.σ.t, st.σ.n + na⟩, 0, none)] [] with
    | none => rfl
    | some r =>
      obtain ⟨st', ph, lk⟩ := r
      simp only [Option.map_some, looksOKF_eq]
      cases looksOK E ops ph lk <;> rfl

theorem runD_nt {n0 : Nat} : ∀ {l : List Oper} {fs : List Inf} {i : Nat} {st : St} {ph : Phs} {lk : Lks} {r : St × Phs × Lks}, runD E call hs ops n0 l fs i st ph lk = some r → r.1.nt = st.nt ∧ r.1.rnd = st.rnd
  | [], fs, i, st, ph, lk, r, h => by simp only [runD, Option.some.injEq] at h; subst h; exact ⟨rfl, rfl⟩
  | o :: l, [], i, st, ph, lk, r, h => by simp only [runD, Option.some.injEq] at h; subst h; exact ⟨rfl, rfl⟩
  | o :: l, f :: fs, i, st, ph, lk, r, h => by
    rw [runD] at h
    split at h
    · cases h
    · rename_i st1 h1
      obtain ⟨a, b⟩ := oneD_nt h1
      split at h <;> (obtain ⟨c, d⟩ := runD_nt h; exact ⟨c.trans a, d.trans b⟩)
theorem runDraw_nt {st st' : St} (h : runDraw E call hs ops st = some st') : st'.nt = st.nt ∧ st'.rnd = st.rnd := by
  unfold runDraw at h
  split at h
  · cases h
  · split at h
    · cases h
    · rename_i hr
      split at h
      · simp only [Option.some.injEq] at h; subst h
        exact runD_nt hr
      · cases h

/-! ### Codes -/

abbrev XF := List Hnd → Nat → Bool → K4 (Ex × S4)
noncomputable def xNorm : XF := fun _ _ _ τ σ ds Λ => some (.normal, ⟨τ, σ, ds, Λ⟩)
noncomputable def xReg (E : Env) (call : CallF) (ops : Array Oper) (d : Bool) : XF := fun hs nt rnd τ σ ds Λ =>
  Option.rec (motive := fun _ => Option (Ex × S4)) none (fun s => some (.normal, s)) (Bool.rec (motive := fun _ => Option S4) (runF E call hs ops nt rnd ops.toList τ σ ds Λ) (drawF E call hs ops nt rnd τ σ ds Λ) d)
noncomputable def xSeq (a b : XF) : XF := fun hs nt rnd τ σ ds Λ =>
  Option.rec (motive := fun _ => Option (Ex × S4)) none (fun r => Ex.rec (motive := fun _ => Option (Ex × S4)) (b hs nt rnd r.2.τ r.2.σ r.2.ds r.2.Λ) (fun i => some (.exit i, r.2)) (some (.ret, r.2)) r.1) (a hs nt rnd τ σ ds Λ)
noncomputable def xCond (c : Operand) (a b : XF) : XF := fun hs nt rnd τ σ ds Λ => match evF τ c with
  | some (.bool x) => Bool.rec (motive := fun _ => Option (Ex × S4)) (b hs nt rnd τ σ ds Λ) (a hs nt rnd τ σ ds Λ) x
  | _ => none
noncomputable def xBlock (i : Nat) (b : XF) : XF := fun hs nt rnd τ σ ds Λ =>
  Option.rec (motive := fun _ => Option (Ex × S4)) none (fun r => Ex.rec (motive := fun _ => Option (Ex × S4)) (some (.normal, r.2)) (fun j => some (Bool.rec (.exit j) .normal (Nat.beq j i), r.2)) (some (.ret, r.2)) r.1) (b hs nt rnd τ σ ds Λ)
noncomputable def upToF (body : K4 (Ex × S4)) (k : Nat) : K4 (Option Ex × S4) :=
  Nat.rec (motive := fun _ => K4 (Option Ex × S4)) (fun τ σ ds Λ => Option.rec (motive := fun _ => Option (Option Ex × S4)) none (fun r => Ex.rec (motive := fun _ => Option (Option Ex × S4)) (some (none, r.2)) (fun i => some (some (.exit i), r.2)) (some (some .ret, r.2)) r.1) (body τ σ ds Λ))
    (fun _ ih τ σ ds Λ => Option.rec (motive := fun _ => Option (Option Ex × S4)) none (fun r => Option.rec (motive := fun _ => Option (Option Ex × S4)) (ih r.2.τ r.2.σ r.2.ds r.2.Λ) (fun e => some (some e, r.2)) r.1) (ih τ σ ds Λ)) k
noncomputable def xLoop (b : XF) : XF := fun hs nt rnd τ σ ds Λ =>
  Option.rec (motive := fun _ => Option (Ex × S4)) none (fun r => Option.rec (motive := fun _ => Option (Ex × S4)) none (fun e => some (e, r.2)) r.1) (upToF (b hs nt rnd) 20 τ σ ds Λ)

/-- A round of a loop over a function. -/
noncomputable def xHnd (params : Array Nat) (asg body : XF) (hs : List Hnd) (nt : Nat) (τ : Tmps) : Hnd := fun az Λ => match Λ with
  | [] => none
  | lf :: Λ => match lf.done with
    | true => none
    | false => match setParams nt τ params.toList az with
      | none => none
      | some τ => match asg hs nt true τ lf.σ [] Λ with
        | some (.normal, s1) => match body hs nt true s1.τ s1.σ s1.ds s1.Λ with
          | some (e, s2) => match s2.ds with
            | [] => some (e.isNormal, ⟨s2.σ, !e.isNormal, e⟩ :: s2.Λ)
            | _ => none
          | none => none
        | _ => none
noncomputable def xRange (call : CallF) (f : Operand) (params : Array Nat) (asg body : XF) : XF := fun hs nt _ τ σ ds Λ =>
  match evF τ f with
  | some (.fn g first caps) => match enter (hs.length + 1) σ (first ++ [.yld hs.length] ++ caps) with
    | none => none
    | some (args', σ', l) =>
      match call g args' σ' (hs.map deeper ++ [xHnd params asg body hs nt τ]) (⟨lend σ l, false, .normal⟩ :: Λ) with
      | some (_, σ'', lf :: Λ) => match leave hs.length lf.σ l undefA σ'' with
        | some (_, σ3) => some (lf.pend, ⟨τ, σ3, ds, Λ⟩)
        | none => none
      | _ => none
  | _ => none

noncomputable def execF (E : Env) (call : CallF) (c : Code) : XF :=
  Code.rec (motive := fun _ => XF) xNorm (fun _ ops d => xReg E call ops d) (fun _ _ a b => xSeq a b) (fun c _ _ a b => xCond c a b) (fun i _ b => xBlock i b) (fun _ b => xLoop b) (fun f p _ _ a b => xRange call f p a b)
    (fun i _ _ _ τ σ ds Λ => some (.exit i, ⟨τ, σ, ds, Λ⟩)) (fun _ b => b) (fun _ => xNorm) (fun _ _ _ _ _ _ _ _ => none) (fun _ _ _ τ σ ds Λ => some (.ret, ⟨τ, σ, ds, Λ⟩)) (fun _ _ _ _ _ _ _ _ => none) c

def e4 (r : Ex × St) : Ex × S4 := (r.1, s4 r.2)

theorem upTo_nt {body : St → Option (Ex × St)} (hb : ∀ {st e st'}, body st = some (e, st') → st'.nt = st.nt ∧ st'.rnd = st.rnd) : ∀ (k : Nat) {st st' : St} {e : Option Ex}, upTo body k st = some (e, st') → st'.nt = st.nt ∧ st'.rnd = st.rnd
  | 0, st, st', e, h => by
    rw [upTo] at h
    split at h
    · rename_i st1 h1
      simp only [Option.some.injEq, Prod.mk.injEq] at h; obtain ⟨_, rfl⟩ := h
      exact hb h1
    · rename_i h1
      simp only [Option.some.injEq, Prod.mk.injEq] at h; obtain ⟨_, rfl⟩ := h
      exact hb h1
    · cases h
  | k + 1, st, st', e, h => by
    rw [upTo] at h
    split at h
    · rename_i st1 h1
      obtain ⟨a, b⟩ := upTo_nt hb k h1
      obtain ⟨c, d⟩ := upTo_nt hb k h
      exact ⟨c.trans a, d.trans b⟩
    · exact upTo_nt hb k h

theorem exec_nt : ∀ (c : Code) {hs : List Hnd} {st st' : St} {e : Ex}, exec E call c hs st = some (e, st') → st'.nt = st.nt ∧ st'.rnd = st.rnd := by
  intro c
  induction c with
  | skip => intro hs st st' e h; simp only [exec_skip, Option.some.injEq, Prod.mk.injEq] at h; obtain ⟨_, rfl⟩ := h; exact ⟨rfl, rfl⟩
  | label l => intro hs st st' e h; simp only [exec_label, Option.some.injEq, Prod.mk.injEq] at h; obtain ⟨_, rfl⟩ := h; exact ⟨rfl, rfl⟩
  | exit i => intro hs st st' e h; simp only [exec_exit, Option.some.injEq, Prod.mk.injEq] at h; obtain ⟨_, rfl⟩ := h; exact ⟨rfl, rfl⟩
  | ret => intro hs st st' e h; simp only [exec_ret, Option.some.injEq, Prod.mk.injEq] at h; obtain ⟨_, rfl⟩ := h; exact ⟨rfl, rfl⟩
  | goto l => intro hs st st' e h; simp [exec_goto] at h
  | refuse w => intro hs st st' e h; simp [exec_refuse] at h
  | scope b ih => intro hs st st' e h; rw [exec_scope] at h; exact ih h
  | region id ops d =>
    intro hs st st' e h
    cases d with
    | true =>
      rw [exec_regionD] at h
      split at h
      · rename_i h1
        simp only [Option.some.injEq, Prod.mk.injEq] at h; obtain ⟨_, rfl⟩ := h
        exact runDraw_nt h1
      · cases h
    | false =>
      rw [exec_region] at h
      split at h
      · rename_i h1
        simp only [Option.some.injEq, Prod.mk.injEq] at h; obtain ⟨_, rfl⟩ := h
        exact runOps_nt h1
      · cases h
  | seq a b iha ihb =>
    intro hs st st' e h
    rw [exec_seq] at h
    split at h
    · rename_i st1 h1
      obtain ⟨x, y⟩ := iha h1
      obtain ⟨z, w⟩ := ihb h
      exact ⟨z.trans x, w.trans y⟩
    · exact iha h
  | cond c a b iha ihb =>
    intro hs st st' e h
    rw [exec_cond] at h
    split at h
    · exact iha h
    · exact ihb h
    · cases h
  | block i b ih =>
    intro hs st st' e h
    rw [exec_block] at h
    split at h
    · rename_i h1
      simp only [Option.some.injEq, Prod.mk.injEq] at h; obtain ⟨_, rfl⟩ := h
      exact ih h1
    · exact ih h
  | loop b ih =>
    intro hs st st' e h
    rw [exec_loop] at h
    split at h
    · rename_i h1
      simp only [Option.some.injEq, Prod.mk.injEq] at h; obtain ⟨_, rfl⟩ := h
      exact upTo_nt (fun h => ih h) _ h1
    · cases h
  | rangeFunc f ps a b iha ihb =>
    intro hs st st' e h
    have this := h
    rw [exec_rangeFunc] at this
    split at this
    · split at this
      · cases this
      · split at this
        · split at this
          · simp only [Option.some.injEq, Prod.mk.injEq] at this; obtain ⟨_, rfl⟩ := this
            exact ⟨rfl, rfl⟩
          · cases this
        · cases this
    · cases this

/-- The same codes. -/
def XOK (E : Env) (call : CallF) (c : Code) : Prop := ∀ (hs : List Hnd) (st : St), execF E call c hs st.nt st.rnd st.τ st.σ st.ds st.Λ = (exec E call c hs st).map e4

theorem upToF_eq {body : St → Option (Ex × St)} {bodyF : K4 (Ex × S4)} {nt : Nat} {rnd : Bool} (hb : ∀ st : St, st.nt = nt → st.rnd = rnd → bodyF st.τ st.σ st.ds st.Λ = (body st).map e4) (hn : ∀ {st e st'}, body st = some (e, st') → st'.nt = st.nt ∧ st'.rnd = st.rnd) :
    ∀ (k : Nat) (st : St), st.nt = nt → st.rnd = rnd → upToF bodyF k st.τ st.σ st.ds st.Λ = (upTo body k st).map fun r => (r.1, s4 r.2)
  | 0, st, h1, h2 => by
    rw [upTo]
    show @Option.rec _ (fun _ => Option (Option Ex × S4)) none _ (bodyF st.τ st.σ st.ds st.Λ) = _
    rw [hb st h1 h2]
    cases body st with
    | none => rfl
    | some r => obtain ⟨e, st'⟩ := r; cases e <;> rfl
  | k + 1, st, h1, h2 => by
    rw [upTo]
    show @Option.rec _ (fun _ => Option (Option Ex × S4)) none _ (upToF bodyF k st.τ st.σ st.ds st.Λ) = _
    rw [upToF_eq hb hn k st h1 h2]
    cases h : upTo body k st with
    | none => rfl
    | some r =>
      obtain ⟨e, st'⟩ := r
      cases e with
      | none =>
        obtain ⟨a, b⟩ := upTo_nt hn k h
        exact upToF_eq hb hn k st' (a.trans h1) (b.trans h2)
      | some e => rfl

theorem xHnd_eq {a b : Code} (ha : XOK E call a) (hb : XOK E call b) (ps : Array Nat) (hs : List Hnd) (nt : Nat) (τ : Tmps) : xHnd ps (execF E call a) (execF E call b) hs nt τ = rangeH E call hs nt τ ps a b := by
  funext az Λ
  cases Λ with
  | nil => rfl
  | cons lf Λ =>
    simp only [xHnd, rangeH]
    cases lf.done with
    | true => rfl
    | false =>
      simp only
      cases setParams nt τ ps.toList az with
      | none => rfl
      | some τ' =>
        have e1 := ha hs ⟨τ', lf.σ, [], Λ, nt, true⟩
        simp only at e1 ⊢
        rw [e1]
        cases h1 : exec E call a hs ⟨τ', lf.σ, [], Λ, nt, true⟩ with
        | none => rfl
        | some r =>
          obtain ⟨e, st1⟩ := r
          cases e with
          | normal =>
            obtain ⟨n1, n2⟩ := exec_nt a h1
            have e2 := hb hs st1
            rw [n1, n2] at e2
            simp only [Option.map_some, e4, s4]
            simp only at e2
            rw [e2]
            cases exec E call b hs st1 with
            | none => rfl
            | some r =>
              obtain ⟨e, st2⟩ := r
              simp only [Option.map_some, e4, s4]
              cases st2.ds <;> rfl
          | exit i => rfl
          | ret => rfl

theorem execF_eq (c : Code) : XOK E call c := by
  induction c with
  | skip => intro hs st; rfl
  | label l => intro hs st; rfl
  | exit i => intro hs st; rfl
  | ret => intro hs st; rfl
  | goto l => intro hs st; rfl
  | refuse w => intro hs st; rfl
  | scope b ih => intro hs st; rw [exec_scope]; exact ih hs st
  | region id ops d =>
    intro hs st
    cases d with
    | true =>
      rw [exec_regionD]
      show @Option.rec _ (fun _ => Option (Ex × S4)) none _ (drawF E call hs ops st.nt st.rnd st.τ st.σ st.ds st.Λ) = _
      rw [drawF_eq]
      cases runDraw E call hs ops st <;> rfl
    | false =>
      rw [exec_region]
      show @Option.rec _ (fun _ => Option (Ex × S4)) none _ (runF E call hs ops st.nt st.rnd ops.toList st.τ st.σ st.ds st.Λ) = _
      rw [runF_eq]
      cases runOps E call hs ops ops.toList st <;> rfl
  | seq a b iha ihb =>
    intro hs st
    rw [exec_seq]
    show @Option.rec _ (fun _ => Option (Ex × S4)) none _ (execF E call a hs st.nt st.rnd st.τ st.σ st.ds st.Λ) = _
    rw [iha hs st]
    cases h : exec E call a hs st with
    | none => rfl
    | some r =>
      obtain ⟨e, st1⟩ := r
      obtain ⟨n1, n2⟩ := exec_nt a h
      cases e with
      | normal =>
        show execF E call b hs st.nt st.rnd st1.τ st1.σ st1.ds st1.Λ = _
        rw [← n1, ← n2]
        exact ihb hs st1
      | exit i => rfl
      | ret => rfl
  | cond c a b iha ihb =>
    intro hs st
    rw [exec_cond]
    show (match evF st.τ c with
      | some (.bool x) => Bool.rec (motive := fun _ => Option (Ex × S4)) (execF E call b hs st.nt st.rnd st.τ st.σ st.ds st.Λ) (execF E call a hs st.nt st.rnd st.τ st.σ st.ds st.Λ) x
      | _ => none) = _
    rw [evF_eq]
    split
    · rename_i x hx
      cases x with
      | true => rw [hx]; exact iha hs st
      | false => rw [hx]; exact ihb hs st
    · rename_i hne
      split
      · rename_i h; exact absurd h (hne true)
      · rename_i h; exact absurd h (hne false)
      · rfl
  | block i b ih =>
    intro hs st
    rw [exec_block]
    show @Option.rec _ (fun _ => Option (Ex × S4)) none _ (execF E call b hs st.nt st.rnd st.τ st.σ st.ds st.Λ) = _
    rw [ih hs st]
    cases exec E call b hs st with
    | none => rfl
    | some r =>
      obtain ⟨e, st1⟩ := r
      cases e with
      | normal => rfl
      | exit j =>
        simp only [Option.map_some, e4]
        cases Nat.beq j i <;> rfl
      | ret => rfl
  | loop b ih =>
    intro hs st
    rw [exec_loop]
    show @Option.rec _ (fun _ => Option (Ex × S4)) none _ (upToF (execF E call b hs st.nt st.rnd) 20 st.τ st.σ st.ds st.Λ) = _
    rw [upToF_eq (body := exec E call b hs) (nt := st.nt) (rnd := st.rnd) (fun st' h1 h2 => by rw [← h1, ← h2]; exact ih hs st') (fun h => exec_nt b h) 20 st rfl rfl]
    cases upTo (exec E call b hs) 20 st with
    | none => rfl
    | some r => obtain ⟨e, st1⟩ := r; cases e <;> rfl
  | rangeFunc f ps a b iha ihb =>
    intro hs st
    rw [exec_rangeFunc]
    show xRange call f ps (execF E call a) (execF E call b) hs st.nt st.rnd st.τ st.σ st.ds st.Λ = _
    unfold xRange
    rw [evF_eq, xHnd_eq iha ihb]
    cases ev st.τ f with
    | none => rfl
    | some v =>
      cases v with
      | fn g first caps =>
        simp only
        cases enter (hs.length + 1) st.σ (first ++ [.yld hs.length] ++ caps) with
        | none => rfl
        | some r =>
          obtain ⟨args', σ', l⟩ := r
          simp only
          cases call g args' σ' (hs.map deeper ++ [rangeH E call hs st.nt st.τ ps a b]) (⟨lend st.σ l, false, .normal⟩ :: st.Λ) with
          | none => rfl
          | some r =>
            obtain ⟨v0, σ2, Λ2⟩ := r
            cases Λ2 with
            | nil => rfl
            | cons lf Λ2 =>
              simp only
              cases leave hs.length lf.σ l undefA σ2 with
              | none => rfl
              | some r => obtain ⟨v3, σ3⟩ := r; rfl
      | _ => rfl

/-! ### Calls of functions -/

abbrev RF := Option (AV × Hp × List LF)
noncomputable def packF (σ : Hp) (Λ : List LF) (r : Option (List AV)) : RF :=
  match r with
  | some [v] => some (v, σ, Λ)
  | some vs => some (.tup vs, σ, Λ)
  | none => none
noncomputable def finF (E : Env) (call : CallF) (hs : List Hnd) (rs : List ResultVar) (s : S4) : RF :=
  List.rec (motive := fun _ => RF) (packF s.σ s.Λ (resultsA E s.τ s.σ rs)) (fun _ _ _ => match runDefers E call hs s.ds s.σ s.Λ with
    | none => none
    | some (σ, Λ) => packF σ Λ (resultsA E s.τ σ rs)) s.ds
noncomputable def bodyF (E : Env) (call : CallF) (hs : List Hnd) (fn : Func) (args : List AV) (σ : Hp) (Λ : List LF) (body : Code) : RF :=
  Option.rec (motive := fun _ => RF) none (fun r => Ex.rec (motive := fun _ => RF) (finF E call hs fn.results.toList r.2) (fun _ => none) (finF E call hs fn.results.toList r.2) r.1)
    (execF E call body hs (args.length + (fn.ntmps - args.length)) false (tmps0 fn.ntmps (.full (dep fn.ntmps)) 0 args) σ [] Λ)
noncomputable def funcF (E : Env) (call : CallF) (hs : List Hnd) (args : List AV) (σ : Hp) (Λ : List LF) (fn : Func) : RF :=
  Option.rec (motive := fun _ => RF) none (fun b => bodyF E call hs fn args σ Λ b) fn.body
noncomputable def callF (E : Env) (n : Nat) : CallF :=
  Nat.rec (motive := fun _ => CallF) (fun _ _ _ _ _ => none) (fun _ ih f args σ hs Λ => Option.rec (motive := fun _ => RF) (Option.rec (motive := fun _ => RF) none (fun fn => funcF E ih hs args σ Λ fn) (E.fn f)) (fun v => some (v, σ, Λ)) (E.ext f args)) n

theorem finF_eq (rs : List ResultVar) (st : St) : finF E call hs rs (s4 st) = match runDefers E call hs st.ds st.σ st.Λ with
    | none => none
    | some (σ, Λ) => match resultsA E st.τ σ rs with
      | some [v] => some (v, σ, Λ)
      | some vs => some (.tup vs, σ, Λ)
      | none => none := by
  unfold finF s4
  simp only
  cases h : st.ds with
  | nil =>
    simp only [runDefers]
    rfl
  | cons d ds => rfl

theorem callF_eq (E : Env) : ∀ n, callF E n = callN E n
  | 0 => by funext f args σ hs Λ; rfl
  | n + 1 => by
    have ih := callF_eq E n
    funext f args σ hs Λ
    show @Option.rec _ (fun _ => RF) (@Option.rec _ (fun _ => RF) none (fun fn => funcF E (callF E n) hs args σ Λ fn) (E.fn f)) (fun v => some (v, σ, Λ)) (E.ext f args) = _
    rw [ih, callN]
    cases E.ext f args with
    | some v => rfl
    | none =>
      simp only
      cases E.fn f with
      | none => rfl
      | some fn =>
        simp only [funcF]
        cases fn.body with
        | none => rfl
        | some body =>
          simp only [bodyF]
          have e := execF_eq (E := E) (call := callN E n) body hs ⟨tmps0 fn.ntmps (.full (dep fn.ntmps)) 0 args, σ, [], Λ, args.length + (fn.ntmps - args.length), false⟩
          simp only at e
          rw [e]
          cases exec E (callN E n) body hs ⟨tmps0 fn.ntmps (.full (dep fn.ntmps)) 0 args, σ, [], Λ, args.length + (fn.ntmps - args.length), false⟩ with
          | none => rfl
          | some r =>
            obtain ⟨e, st⟩ := r
            cases e with
            | exit i => rfl
            | normal => exact finF_eq _ _
            | ret => exact finF_eq _ _

/-! ### What is asked of the kernel -/

noncomputable def ansF (v : AV) (r : RF) : Bool :=
  match r with
  | some (w, _, []) => avbeq w v
  | _ => false
noncomputable def comesF (E : Env) (n f : Nat) (args : List AV) (v : AV) : Bool :=
  Bool.rec false (Bool.rec false (plainA 9 v) (args.all (closedA 9))) (ansF v (callF E n f args .empty [] []))
theorem comes_of {E : Env} {n f : Nat} {args : List AV} {v : AV} (h : comesF E n f args v = true) : comes E n f args v = true := by
  unfold comesF at h
  rw [callF_eq] at h
  unfold comes
  cases hc : ansF v (callN E n f args .empty [] []) with
  | false => rw [hc] at h; cases h
  | true =>
    rw [hc] at h
    cases ha : args.all (closedA 9) with
    | false => rw [ha] at h; cases h
    | true =>
      rw [ha] at h
      unfold ansF at hc
      split at hc
      · rename_i w σ e
        rw [e]
        simp only [hc]
        exact h
      · cases hc
noncomputable def isTrueF (E : Env) (n f : Nat) : Bool :=
  match E.ext f [], callF E (n + 1) f [] .empty [] [] with
  | none, some (.bool true, _, []) => true
  | _, _ => false
theorem isTrue_of {E : Env} {n f : Nat} (h : isTrueF E n f = true) : isTrue E n f = true := by
  unfold isTrueF at h
  rw [callF_eq] at h
  exact h
end
end Go.Eng

