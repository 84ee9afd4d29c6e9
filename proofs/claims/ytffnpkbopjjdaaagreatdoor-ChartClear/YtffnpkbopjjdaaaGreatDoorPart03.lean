/-
  THE ENGINE: one more part of it.
-/
import Derived.Test.YtffnpkbopjjdaaaGreatDoorPart02
import Derived.Test.YtffnpkbopjjdaaaGreatDoorChecked
import Derived.KernelRfl
set_option linter.unusedSectionVars false
set_option linter.unusedSimpArgs false
set_option linter.unusedVariables false
namespace Go.Eng
open Go
attribute [local irreducible] upTo
section
variable {E : Env} {call : CallF} {hs : Hnds} {ops : Array Oper}
noncomputable def lookSameF (E : Env) (o : Oper) (τ τ' : Tmps) (σ : Hp) : Bool :=
 match cstL τ o.op with
 | true => true
 | false => match opF E τ σ o.op with
  | some (.val v _) => match o.dst with
   | none => true
   | some d => match τ'.get d with
    | some w => avbeq w v
    | none => true
  | _ => false
theorem lookSameF_eq (E : Env) (o : Oper) (τ τ' : Tmps) (σ : Hp) : lookSameF E o τ τ' σ = lookSame E o τ τ' σ := by
 unfold lookSameF lookSame
 rw [opF_eq]
 rfl
noncomputable def lookOKF (E : Env) (o : Oper) (i a : Nat) (τ τ' : Tmps) : Option Nat → Phs → Bool
 | _, [] => true
 | nx, (σ, am, h) :: ph => match (match nx with | some x => msHas a x | none => false), msHas am i with
  | false, false => match lookSameF E o τ τ' σ with
   | true => lookOKF E o i a τ τ' h ph
   | false => false
  | _, _ => lookOKF E o i a τ τ' h ph
theorem lookOKF_eq (E : Env) (o : Oper) (i a : Nat) (τ τ' : Tmps) : ∀ (ph : Phs) (nx : Option Nat), lookOKF E o i a τ τ' nx ph = lookOK E o i a τ τ' nx ph
 | [], _ => rfl
 | (σ, am, h) :: ph, nx => by
  simp only [lookOKF, lookOK, lookSameF_eq, lookOKF_eq E o i a τ τ' ph]
  rfl
noncomputable def looksOKF (E : Env) (ops : Array Oper) (ph : Phs) : Lks → Bool
 | [] => true
 | (o, i, a, τ, τ') :: lk => match wantedA ops τ o with
  | some false => looksOKF E ops ph lk
  | _ => match lookOKF E o i a τ τ' none ph with
   | true => looksOKF E ops ph lk
   | false => false
theorem looksOKF_eq (E : Env) (ops : Array Oper) (ph : Phs) : ∀ lk : Lks, looksOKF E ops ph lk = looksOK E ops ph lk
 | [] => rfl
 | (o, i, a, τ, τ') :: lk => by
  simp only [looksOKF, looksOK, lookOKF_eq, looksOKF_eq E ops ph lk]
  rfl
abbrev D4 := List Inf → Nat → Phs → Lks → K4 (S4 × Phs × Lks)
noncomputable def behindD (o : Oper) (f : Inf) (fs : List Inf) (i : Nat) (ph : Phs) (lk : Lks) (ih : D4) (τ0 : Tmps) : K4 (S4 × Phs × Lks) := fun τ σ ds Λ =>
 Bool.rec (motive := fun _ => Option (S4 × Phs × Lks)) (Bool.rec (motive := fun _ => Option (S4 × Phs × Lks)) (ih fs (i + 1) ph lk τ σ ds Λ) (ih fs (i + 1) ph ((o, i, f.a, τ0, τ) :: lk) τ σ ds Λ) (Nat.beq f.c 1)) (ih fs (i + 1) ((σ, f.a, some i) :: ph) lk τ σ ds Λ) (Nat.beq f.c 0)
noncomputable def stepD (E : Env) (call : CallF) (hs : Hnds) (ops : Array Oper) (nt : Nat) (rnd : Bool) (n0 : Nat) (o : Oper) (f : Inf) (fs : List Inf) (i : Nat) (ph : Phs) (lk : Lks) (ih : D4) : K4 (S4 × Phs × Lks) := fun τ σ ds Λ =>
 Bool.rec (motive := fun _ => Option (S4 × Phs × Lks)) (oneF E call hs ops nt rnd o (behindD o f fs i ph lk ih τ) τ σ ds Λ) (thenK (behindD o f fs i ph lk ih τ) (oneD E call hs ops n0 f o ⟨τ, σ, ds, Λ, nt, rnd⟩)) (Nat.beq f.c 3)
noncomputable def runDF (E : Env) (call : CallF) (hs : Hnds) (ops : Array Oper) (nt : Nat) (rnd : Bool) (n0 : Nat) (l : List Oper) : D4 :=
 List.rec (motive := fun _ => D4) (fun _ _ ph lk τ σ ds Λ => some (⟨τ, σ, ds, Λ⟩, ph, lk))
  (fun o _ ih fs i ph lk => List.rec (motive := fun _ => K4 (S4 × Phs × Lks)) (fun τ σ ds Λ => some (⟨τ, σ, ds, Λ⟩, ph, lk)) (fun f fs' _ => stepD E call hs ops nt rnd n0 o f fs' i ph lk ih) fs) l
theorem oneD_nt {n0 : Nat} {f : Inf} {o : Oper} {st st' : St} (h : oneD E call hs ops n0 f o st = some st') : st'.nt = st.nt ∧ st'.rnd = st.rnd := by
 have key : ∀ {s : St} {d : Option Nat} {v : AV}, putS s d v = some st' → s.nt = st.nt → s.rnd = st.rnd → st'.nt = st.nt ∧ st'.rnd = st.rnd := fun h h1 h2 => by
  obtain ⟨a, b⟩ := putS_nt h
  exact ⟨a.trans h1, b.trans h2⟩
 unfold oneD at h
 split at h
 · split at h
   · cases h
   · exact key h rfl rfl
   · split at h
     · exact key h rfl rfl
     · cases h
 · exact oneOp_nt h
theorem stepD_eq {nt : Nat} {rnd : Bool} {n0 : Nat} {o : Oper} {f : Inf} {fs : List Inf} {i : Nat} {ph : Phs} {lk : Lks} {ih : D4} (st : St) (h1 : st.nt = nt) (h2 : st.rnd = rnd) :
  stepD E call hs ops nt rnd n0 o f fs i ph lk ih st.τ st.σ st.ds st.Λ = thenK (behindD o f fs i ph lk ih st.τ) (oneD E call hs ops n0 f o st) := by
 subst h1; subst h2
 unfold stepD
 cases h : Nat.beq f.c 3 with
 | true => rfl
 | false =>
  rw [show oneD E call hs ops n0 f o st = oneOp E call hs ops o st by
   unfold oneD
   split
   · rename_i e; rw [e] at h; cases h
   · rfl]
  exact oneF_eq E call hs ops o _ st
theorem runDF_eq {nt : Nat} {rnd : Bool} {n0 : Nat} : ∀ (l : List Oper) (fs : List Inf) (i : Nat) (ph : Phs) (lk : Lks) (st : St), st.nt = nt → st.rnd = rnd →
  runDF E call hs ops nt rnd n0 l fs i ph lk st.τ st.σ st.ds st.Λ = (runD E call hs ops n0 l fs i st ph lk).map fun r => (s4 r.1, r.2.1, r.2.2)
 | [], fs, i, ph, lk, st, h1, h2 => by cases fs <;> rfl
 | o :: l, [], i, ph, lk, st, h1, h2 => rfl
 | o :: l, f :: fs, i, ph, lk, st, h1, h2 => by
  show stepD E call hs ops nt rnd n0 o f fs i ph lk (runDF E call hs ops nt rnd n0 l) st.τ st.σ st.ds st.Λ = _
  rw [stepD_eq st h1 h2, runD]
  cases h : oneD E call hs ops n0 f o st with
  | none => rfl
  | some st1 =>
   obtain ⟨a, b⟩ := oneD_nt h
   have ih := fun ph lk => runDF_eq (nt := nt) (rnd := rnd) (n0 := n0) l fs (i + 1) ph lk st1 (a.trans h1) (b.trans h2)
   simp only [thenK, behindD]
   split
   · rename_i e; rw [e]; exact ih _ _
   · rename_i e; rw [e]; exact ih _ _
   · rename_i e1 e2
     rw [show Nat.beq f.c 0 = false by cases h : Nat.beq f.c 0 with | false => rfl | true => exact absurd (Nat.eq_of_beq_eq_true h) e1,
      show Nat.beq f.c 1 = false by cases h : Nat.beq f.c 1 with | false => rfl | true => exact absurd (Nat.eq_of_beq_eq_true h) e2]
     exact ih _ _
noncomputable def drawG (E : Env) (call : CallF) (hs : Hnds) (ops : Array Oper) (nt : Nat) (rnd : Bool) (fs : List Inf) (na : Nat) : K4 S4 := fun τ σ ds Λ =>
 Option.rec (motive := fun _ => Option S4) none (fun r => Bool.rec (motive := fun _ => Option S4) (Bool.rec (motive := fun _ => Option S4) none (some r.1) (looksOKF E ops r.2.1 r.2.2)) (some r.1) (quietI fs)) (runDF E call hs ops nt rnd σ.n ops.toList fs 0 [(⟨σ.t, σ.n + na⟩, 0, none)] [] τ ⟨σ.t, σ.n + na⟩ ds Λ)
noncomputable def drawF (E : Env) (call : CallF) (hs : Hnds) (ops : Array Oper) (nt : Nat) (rnd : Bool) : K4 S4 := fun τ σ ds Λ =>
 Option.rec (motive := fun _ => Option S4) (Option.rec (motive := fun _ => Option S4) none (fun ops' => Option.rec (motive := fun _ => Option S4) none (fun p => drawG E call hs ops' nt rnd p.1 p.2 τ σ ds Λ) (planOf ops'.toList)) (permOf ops)) (fun p => drawG E call hs ops nt rnd p.1 p.2 τ σ ds Λ) (planOf ops.toList)
theorem drawG_eq {fs : List Inf} {na : Nat} (st : St) : drawG E call hs ops st.nt st.rnd fs na st.τ st.σ st.ds st.Λ = (runDrawQ E call hs ops fs na st).map s4 := by
 unfold runDrawQ
 have e := runDF_eq (E := E) (call := call) (hs := hs) (ops := ops) (nt := st.nt) (rnd := st.rnd) (n0 := st.σ.n) ops.toList fs 0 [(⟨st.σ.t, st.σ.n + na⟩, 0, none)] [] { st with σ := ⟨st.σ.t, st.σ.n + na⟩ } rfl rfl
 simp only [drawG]
 simp only at e
 rw [e]
 cases runD E call hs ops st.σ.n ops.toList fs 0 { st with σ := ⟨st.σ.t, st.σ.n + na⟩ } [(⟨st.σ.t, st.σ.n + na⟩, 0, none)] [] with
 | none => rfl
 | some r =>
  obtain ⟨st', ph, lk⟩ := r
  simp only [Option.map_some, looksOKF_eq]
  cases quietI fs
  · simp only
    cases looksOK E ops ph lk <;> rfl
  · rfl
theorem drawF_eq (st : St) : drawF E call hs ops st.nt st.rnd st.τ st.σ st.ds st.Λ = (runDraw E call hs ops st).map s4 := by
 unfold drawF runDraw
 cases planOf ops.toList with
 | some p => exact drawG_eq st
 | none =>
  simp only
  cases permOf ops with
  | none => rfl
  | some ops' =>
   simp only [runDrawP]
   cases planOf ops'.toList with
   | none => rfl
   | some p => exact drawG_eq st
theorem runD_nt {n0 : Nat} : ∀ {l : List Oper} {fs : List Inf} {i : Nat} {st : St} {ph : Phs} {lk : Lks} {r : St × Phs × Lks}, runD E call hs ops n0 l fs i st ph lk = some r → r.1.nt = st.nt ∧ r.1.rnd = st.rnd
 | [], fs, i, st, ph, lk, r, h => by simp only [runD, Option.some.injEq] at h; subst h; exact ⟨rfl, rfl⟩
 | o :: l, [], i, st, ph, lk, r, h => by simp only [runD, Option.some.injEq] at h; subst h; exact ⟨rfl, rfl⟩
 | o :: l, f :: fs, i, st, ph, lk, r, h => by
  rw [runD] at h
  split at h
  · cases h
  · rename_i st1 h1
    obtain ⟨a, b⟩ := oneD_nt h1
    split at h <;> (obtain ⟨c, d⟩ := runD_nt h; exact ⟨c.trans a, d.trans b⟩)
theorem runDrawQ_nt {fs : List Inf} {na : Nat} {st st' : St} (h : runDrawQ E call hs ops fs na st = some st') : st'.nt = st.nt ∧ st'.rnd = st.rnd := by
 unfold runDrawQ at h
 split at h
 · cases h
 · rename_i hr
   split at h
   · simp only [Option.some.injEq] at h; subst h
     exact runD_nt hr
   · cases h
theorem runDraw_nt {st st' : St} (h : runDraw E call hs ops st = some st') : st'.nt = st.nt ∧ st'.rnd = st.rnd := by
 unfold runDraw at h
 split at h
 · exact runDrawQ_nt h
 · split at h
   · unfold runDrawP at h
     split at h
     · cases h
     · exact runDrawQ_nt h
   · cases h
abbrev XF := Hnds → Nat → Bool → K4 (Ex × S4)
noncomputable def xNorm : XF := fun _ _ _ τ σ ds Λ => some (.normal, ⟨τ, σ, ds, Λ⟩)
noncomputable def xReg (E : Env) (call : CallF) (ops : Array Oper) (d : Bool) : XF := fun hs nt rnd τ σ ds Λ =>
 Option.rec (motive := fun _ => Option (Ex × S4)) none (fun s => some (.normal, s)) (Bool.rec (motive := fun _ => Option S4) (runF E call hs ops nt rnd ops.toList τ σ ds Λ) (drawF E call hs ops nt rnd τ σ ds Λ) d)
noncomputable def xSeq (a b : XF) : XF := fun hs nt rnd τ σ ds Λ =>
 Option.rec (motive := fun _ => Option (Ex × S4)) none (fun r => Ex.rec (motive := fun _ => Option (Ex × S4)) (b hs nt rnd r.2.τ r.2.σ r.2.ds r.2.Λ) (fun i => some (.exit i, r.2)) (some (.ret, r.2)) r.1) (a hs nt rnd τ σ ds Λ)
noncomputable def xCond (c : Operand) (a b : XF) : XF := fun hs nt rnd τ σ ds Λ => match evF τ c with
 | some (.bool x) => Bool.rec (motive := fun _ => Option (Ex × S4)) (b hs nt rnd τ σ ds Λ) (a hs nt rnd τ σ ds Λ) x
 | _ => none
noncomputable def xBlock (i : Nat) (b : XF) : XF := fun hs nt rnd τ σ ds Λ =>
 Option.rec (motive := fun _ => Option (Ex × S4)) none (fun r => Ex.rec (motive := fun _ => Option (Ex × S4)) (some (.normal, r.2)) (fun j => some (Bool.rec (.exit j) .normal (Nat.beq j i), r.2)) (some (.ret, r.2)) r.1) (b hs nt rnd τ σ ds Λ)
noncomputable def upToF (body : K4 (Ex × S4)) (k : Nat) : K4 (Option Ex × S4) :=
 Nat.rec (motive := fun _ => K4 (Option Ex × S4)) (fun τ σ ds Λ => Option.rec (motive := fun _ => Option (Option Ex × S4)) none (fun r => Ex.rec (motive := fun _ => Option (Option Ex × S4)) (some (none, r.2)) (fun i => some (some (.exit i), r.2)) (some (some .ret, r.2)) r.1) (body τ σ ds Λ))
  (fun _ ih τ σ ds Λ => Option.rec (motive := fun _ => Option (Option Ex × S4)) none (fun r => Option.rec (motive := fun _ => Option (Option Ex × S4)) (ih r.2.τ r.2.σ r.2.ds r.2.Λ) (fun e => some (some e, r.2)) r.1) (ih τ σ ds Λ)) k
noncomputable def xLoop (E : Env) (call : CallF) (c : Code) (b : XF) : XF := fun hs nt rnd τ σ ds Λ =>
 Bool.rec (motive := fun _ => Option (Ex × S4)) (Option.rec (motive := fun _ => Option (Ex × S4)) none (fun r => Option.rec (motive := fun _ => Option (Ex × S4)) none (fun e => some (e, r.2)) r.1) (upToF (b hs nt rnd) 20 τ σ ds Λ))
  ((exec E call (.loop c) hs ⟨τ, σ, ds, Λ, nt, rnd⟩).map fun r => (r.1, ⟨r.2.τ, r.2.σ, r.2.ds, r.2.Λ⟩)) E.sy
noncomputable def xHnd (params : Array Nat) (asg body : XF) (hs : Hnds) (nt : Nat) (τ : Tmps) : Hnd := fun az σ Λ => match Λ with
 | [] => none
 | lf :: Λ => match lf.done with
  | true => none
  | false => match setParams nt τ params.toList az with
   | none => none
   | some τ => match asg hs nt true τ σ [] Λ with
    | some (.normal, s1) => match body hs nt true s1.τ s1.σ s1.ds s1.Λ with
     | some (e, s2) => match s2.ds with
      | [] => some (e.isNormal, s2.σ, ⟨!e.isNormal, e⟩ :: s2.Λ)
      | _ => none
     | none => none
    | _ => none
noncomputable def xRange (call : CallF) (f : Operand) (params : Array Nat) (asg body : XF) : XF := fun hs nt _ τ σ ds Λ =>
 match evF τ f with
 | some (.fn g first caps) =>
  match call g (first ++ [.yld σ.n] ++ caps) ⟨σ.t, σ.n + 1⟩ ((σ.n, xHnd params asg body hs nt τ) :: deepen hs) (⟨false, .normal⟩ :: Λ) with
  | some (_, σ, lf :: Λ) => some (lf.pend, ⟨τ, σ, ds, Λ⟩)
  | _ => none
 | _ => none
noncomputable def execF (E : Env) (call : CallF) (c : Code) : XF :=
 Code.rec (motive := fun _ => XF) xNorm (fun _ ops d => xReg E call ops d) (fun _ _ a b => xSeq a b) (fun c _ _ a b => xCond c a b) (fun i _ b => xBlock i b) (fun c b => xLoop E call c b) (fun f p _ _ a b => xRange call f p a b)
  (fun i _ _ _ τ σ ds Λ => some (.exit i, ⟨τ, σ, ds, Λ⟩)) (fun _ b => b) (fun _ => xNorm) (fun _ _ _ _ _ _ _ _ => none) (fun _ _ _ τ σ ds Λ => some (.ret, ⟨τ, σ, ds, Λ⟩)) (fun _ _ _ _ _ _ _ _ => none) c
def e4 (r : Ex × St) : Ex × S4 := (r.1, s4 r.2)
theorem upTo_nt {body : St → Option (Ex × St)} (hb : ∀ {st e st'}, body st = some (e, st') → st'.nt = st.nt ∧ st'.rnd = st.rnd) : ∀ (k : Nat) {st st' : St} {e : Option Ex}, upTo body k st = some (e, st') → st'.nt = st.nt ∧ st'.rnd = st.rnd
 | 0, st, st', e, h => by
  rw [upTo] at h
  split at h
  · rename_i st1 h1
    simp only [Option.some.injEq, Prod.mk.injEq] at h; obtain ⟨_, rfl⟩ := h
    exact hb h1
  · rename_i h1
    simp only [Option.some.injEq, Prod.mk.injEq] at h; obtain ⟨_, rfl⟩ := h
    exact hb h1
  · cases h
 | k + 1, st, st', e, h => by
  rw [upTo] at h
  split at h
  · rename_i st1 h1
    obtain ⟨a, b⟩ := upTo_nt hb k h1
    obtain ⟨c, d⟩ := upTo_nt hb k h
    exact ⟨c.trans a, d.trans b⟩
  · exact upTo_nt hb k h
theorem exec_nt : ∀ (c : Code) {hs : Hnds} {st st' : St} {e : Ex}, exec E call c hs st = some (e, st') → st'.nt = st.nt ∧ st'.rnd = st.rnd := by
 intro c
 induction c with
 | skip => intro hs st st' e h; simp only [exec_skip, Option.some.injEq, Prod.mk.injEq] at h; obtain ⟨_, rfl⟩ := h; exact ⟨rfl, rfl⟩
 | label l => intro hs st st' e h; simp only [exec_label, Option.some.injEq, Prod.mk.injEq] at h; obtain ⟨_, rfl⟩ := h; exact ⟨rfl, rfl⟩
 | exit i => intro hs st st' e h; simp only [exec_exit, Option.some.injEq, Prod.mk.injEq] at h; obtain ⟨_, rfl⟩ := h; exact ⟨rfl, rfl⟩
 | ret => intro hs st st' e h; simp only [exec_ret, Option.some.injEq, Prod.mk.injEq] at h; obtain ⟨_, rfl⟩ := h; exact ⟨rfl, rfl⟩
 | goto l => intro hs st st' e h; simp [exec_goto] at h
 | refuse w => intro hs st st' e h; simp [exec_refuse] at h
 | scope b ih => intro hs st st' e h; rw [exec_scope] at h; exact ih h
 | region id ops d =>
  intro hs st st' e h
  cases d with
  | true =>
   rw [exec_regionD] at h
   split at h
   · rename_i h1
     simp only [Option.some.injEq, Prod.mk.injEq] at h; obtain ⟨_, rfl⟩ := h
     exact runDraw_nt h1
   · cases h
  | false =>
   rw [exec_region] at h
   split at h
   · rename_i h1
     simp only [Option.some.injEq, Prod.mk.injEq] at h; obtain ⟨_, rfl⟩ := h
     exact runOps_nt h1
   · cases h
 | seq a b iha ihb =>
  intro hs st st' e h
  rw [exec_seq] at h
  split at h
  · rename_i st1 h1
    obtain ⟨x, y⟩ := iha h1
    obtain ⟨z, w⟩ := ihb h
    exact ⟨z.trans x, w.trans y⟩
  · exact iha h
 | cond c a b iha ihb =>
  intro hs st st' e h
  rw [exec_cond] at h
  split at h
  · exact iha h
  · exact ihb h
  · cases h
 | block i b ih =>
  intro hs st st' e h
  rw [exec_block] at h
  split at h
  · rename_i h1
    simp only [Option.some.injEq, Prod.mk.injEq] at h; obtain ⟨_, rfl⟩ := h
    exact ih h1
  · exact ih h
 | loop b ih =>
  intro hs st st' e h
  rw [exec_loop] at h
  split at h
  · rename_i h1
    simp only [Option.some.injEq, Prod.mk.injEq] at h; obtain ⟨_, rfl⟩ := h
    split at h1
    · refine upTo_nt (body := fun s => roundC _ _ (exec E call b hs s)) (fun {s e s'} h => ?_) _ h1
      simp only [roundC] at h
      split at h
      · rename_i s1 hx
        simp only [Option.some.injEq, Prod.mk.injEq] at h; obtain ⟨_, rfl⟩ := h
        obtain ⟨a1, a2⟩ := ih hx
        exact ⟨clean_nt.1.trans a1, clean_nt.2.trans a2⟩
      · exact ih h
    · exact upTo_nt (fun h => ih h) _ h1
  · cases h
 | rangeFunc f ps a b iha ihb =>
  intro hs st st' e h
  have this := h
  rw [exec_rangeFunc] at this
  split at this
  · split at this
    · simp only [Option.some.injEq, Prod.mk.injEq] at this; obtain ⟨_, rfl⟩ := this
      exact ⟨rfl, rfl⟩
    · cases this
  · cases this
def XOK (E : Env) (call : CallF) (c : Code) : Prop := ∀ (hs : Hnds) (st : St), execF E call c hs st.nt st.rnd st.τ st.σ st.ds st.Λ = (exec E call c hs st).map e4
theorem upToF_eq {body : St → Option (Ex × St)} {bodyF : K4 (Ex × S4)} {nt : Nat} {rnd : Bool} (hb : ∀ st : St, st.nt = nt → st.rnd = rnd → bodyF st.τ st.σ st.ds st.Λ = (body st).map e4) (hn : ∀ {st e st'}, body st = some (e, st') → st'.nt = st.nt ∧ st'.rnd = st.rnd) :
  ∀ (k : Nat) (st : St), st.nt = nt → st.rnd = rnd → upToF bodyF k st.τ st.σ st.ds st.Λ = (upTo body k st).map fun r => (r.1, s4 r.2)
 | 0, st, h1, h2 => by
  rw [upTo]
  show @Option.rec _ (fun _ => Option (Option Ex × S4)) none _ (bodyF st.τ st.σ st.ds st.Λ) = _
  rw [hb st h1 h2]
  cases body st with
  | none => rfl
  | some r => obtain ⟨e, st'⟩ := r; cases e <;> rfl
 | k + 1, st, h1, h2 => by
  rw [upTo]
  show @Option.rec _ (fun _ => Option (Option Ex × S4)) none _ (upToF bodyF k st.τ st.σ st.ds st.Λ) = _
  rw [upToF_eq hb hn k st h1 h2]
  cases h : upTo body k st with
  | none => rfl
  | some r =>
   obtain ⟨e, st'⟩ := r
   cases e with
   | none =>
    obtain ⟨a, b⟩ := upTo_nt hn k h
    exact upToF_eq hb hn k st' (a.trans h1) (b.trans h2)
   | some e => rfl
theorem xHnd_eq {a b : Code} (ha : XOK E call a) (hb : XOK E call b) (ps : Array Nat) (hs : Hnds) (nt : Nat) (τ : Tmps) : xHnd ps (execF E call a) (execF E call b) hs nt τ = rangeH E call hs nt τ ps a b := by
 funext az σ Λ
 cases Λ with
 | nil => rfl
 | cons lf Λ =>
  simp only [xHnd, rangeH]
  cases lf.done with
  | true => rfl
  | false =>
   simp only
   cases setParams nt τ ps.toList az with
   | none => rfl
   | some τ' =>
    have e1 := ha hs ⟨τ', σ, [], Λ, nt, true⟩
    simp only at e1 ⊢
    rw [e1]
    cases h1 : exec E call a hs ⟨τ', σ, [], Λ, nt, true⟩ with
    | none => rfl
    | some r =>
     obtain ⟨e, st1⟩ := r
     cases e with
     | normal =>
      obtain ⟨n1, n2⟩ := exec_nt a h1
      have e2 := hb hs st1
      rw [n1, n2] at e2
      simp only [Option.map_some, e4, s4]
      simp only at e2
      rw [e2]
      cases exec E call b hs st1 with
      | none => rfl
      | some r =>
       obtain ⟨e, st2⟩ := r
       simp only [Option.map_some, e4, s4]
       cases st2.ds <;> rfl
     | exit i => rfl
     | ret => rfl
theorem execF_eq (c : Code) : XOK E call c := by
 induction c with
 | skip => intro hs st; rfl
 | label l => intro hs st; rfl
 | exit i => intro hs st; rfl
 | ret => intro hs st; rfl
 | goto l => intro hs st; rfl
 | refuse w => intro hs st; rfl
 | scope b ih => intro hs st; rw [exec_scope]; exact ih hs st
 | region id ops d =>
  intro hs st
  cases d with
  | true =>
   rw [exec_regionD]
   show @Option.rec _ (fun _ => Option (Ex × S4)) none _ (drawF E call hs ops st.nt st.rnd st.τ st.σ st.ds st.Λ) = _
   rw [drawF_eq]
   cases runDraw E call hs ops st <;> rfl
  | false =>
   rw [exec_region]
   show @Option.rec _ (fun _ => Option (Ex × S4)) none _ (runF E call hs ops st.nt st.rnd ops.toList st.τ st.σ st.ds st.Λ) = _
   rw [runF_eq]
   cases runOps E call hs ops ops.toList st <;> rfl
 | seq a b iha ihb =>
  intro hs st
  rw [exec_seq]
  show @Option.rec _ (fun _ => Option (Ex × S4)) none _ (execF E call a hs st.nt st.rnd st.τ st.σ st.ds st.Λ) = _
  rw [iha hs st]
  cases h : exec E call a hs st with
  | none => rfl
  | some r =>
   obtain ⟨e, st1⟩ := r
   obtain ⟨n1, n2⟩ := exec_nt a h
   cases e with
   | normal =>
    show execF E call b hs st.nt st.rnd st1.τ st1.σ st1.ds st1.Λ = _
    rw [← n1, ← n2]
    exact ihb hs st1
   | exit i => rfl
   | ret => rfl
 | cond c a b iha ihb =>
  intro hs st
  rw [exec_cond]
  show (match evF st.τ c with
   | some (.bool x) => Bool.rec (motive := fun _ => Option (Ex × S4)) (execF E call b hs st.nt st.rnd st.τ st.σ st.ds st.Λ) (execF E call a hs st.nt st.rnd st.τ st.σ st.ds st.Λ) x
   | _ => none) = _
  rw [evF_eq]
  split
  · rename_i x hx
    cases x with
    | true => rw [hx]; exact iha hs st
    | false => rw [hx]; exact ihb hs st
  · rename_i hne
    split
    · rename_i h; exact absurd h (hne true)
    · rename_i h; exact absurd h (hne false)
    · rfl
 | block i b ih =>
  intro hs st
  rw [exec_block]
  show @Option.rec _ (fun _ => Option (Ex × S4)) none _ (execF E call b hs st.nt st.rnd st.τ st.σ st.ds st.Λ) = _
  rw [ih hs st]
  cases exec E call b hs st with
  | none => rfl
  | some r =>
   obtain ⟨e, st1⟩ := r
   cases e with
   | normal => rfl
   | exit j =>
    simp only [Option.map_some, e4]
    cases Nat.beq j i <;> rfl
   | ret => rfl
 | loop b ih =>
  intro hs st
  show xLoop E call b (execF E call b) hs st.nt st.rnd st.τ st.σ st.ds st.Λ = _
  unfold xLoop
  cases hsy : E.sy with
  | true => rfl
  | false =>
   rw [exec_loop, hsy]
   show @Option.rec _ (fun _ => Option (Ex × S4)) none _ (upToF (execF E call b hs st.nt st.rnd) 20 st.τ st.σ st.ds st.Λ) = _
   rw [upToF_eq (body := exec E call b hs) (nt := st.nt) (rnd := st.rnd) (fun st' h1 h2 => by rw [← h1, ← h2]; exact ih hs st') (fun h => exec_nt b h) 20 st rfl rfl]
   simp only
   cases upTo (exec E call b hs) 20 st with
   | none => rfl
   | some r => obtain ⟨e, st1⟩ := r; cases e <;> rfl
 | rangeFunc f ps a b iha ihb =>
  intro hs st
  rw [exec_rangeFunc]
  show xRange call f ps (execF E call a) (execF E call b) hs st.nt st.rnd st.τ st.σ st.ds st.Λ = _
  unfold xRange
  rw [evF_eq, xHnd_eq iha ihb]
  cases ev st.τ f with
  | none => rfl
  | some v =>
   cases v with
   | fn g first caps =>
    simp only
    cases call g (first ++ [.yld st.σ.n] ++ caps) ⟨st.σ.t, st.σ.n + 1⟩ ((st.σ.n, rangeH E call hs st.nt st.τ ps a b) :: deepen hs) (⟨false, .normal⟩ :: st.Λ) with
    | none => rfl
    | some r =>
     obtain ⟨v0, σ2, Λ2⟩ := r
     cases Λ2 with
     | nil => rfl
     | cons lf Λ2 => rfl
   | _ => rfl
abbrev RF := Option (AV × Hp × List LF)
noncomputable def packF (σ : Hp) (Λ : List LF) (r : Option (List AV)) : RF :=
 match r with
 | some [v] => some (v, σ, Λ)
 | some vs => some (.tup vs, σ, Λ)
 | none => none
noncomputable def finF (E : Env) (call : CallF) (hs : Hnds) (rs : List ResultVar) (s : S4) : RF :=
 List.rec (motive := fun _ => RF) (packF s.σ s.Λ (resultsA E s.τ s.σ rs)) (fun _ _ _ => match runDefers E call hs s.ds s.σ s.Λ with
  | none => none
  | some (σ, Λ) => packF σ Λ (resultsA E s.τ σ rs)) s.ds
noncomputable def bodyF (E : Env) (call : CallF) (hs : Hnds) (fn : Func) (args : List AV) (σ : Hp) (Λ : List LF) (body : Code) : RF :=
 Option.rec (motive := fun _ => RF) none (fun r => Ex.rec (motive := fun _ => RF) (finF E call hs fn.results.toList r.2) (fun _ => none) (finF E call hs fn.results.toList r.2) r.1)
  (execF E call body hs (args.length + (fn.ntmps - args.length)) false (tmps0 fn.ntmps (.full (dep fn.ntmps)) 0 args) σ [] Λ)
noncomputable def funcF (E : Env) (call : CallF) (hs : Hnds) (args : List AV) (σ : Hp) (Λ : List LF) (fn : Func) : RF :=
 Option.rec (motive := fun _ => RF) none (fun b => bodyF E call hs fn args σ Λ b) fn.body
theorem finF_eq (rs : List ResultVar) (st : St) : finF E call hs rs (s4 st) = match runDefers E call hs st.ds st.σ st.Λ with
  | none => none
  | some (σ, Λ) => match resultsA E st.τ σ rs with
   | some [v] => some (v, σ, Λ)
   | some vs => some (.tup vs, σ, Λ)
   | none => none := by
 unfold finF s4
 simp only
 cases h : st.ds with
 | nil =>
  simp only [runDefers]
  rfl
 | cons d ds => rfl
end
end Go.Eng


namespace Go.Eng
open Go
attribute [local irreducible] upTo
structure PC where
 f : Nat
 p : List Nat
 c : Code
structure HD where
 lvl : Nat
 nt : Nat
 n : Nat
 τ : Tmps
 params : Array Nat
 asg : PC
 body : PC
structure Ev where
 n : Nat
 D : List HD
structure DR where
 pc : PC
 ops : Array Oper
 n0 : Nat
 os : List Oper
 fs : List Inf
 i : Nat
 ph : Phs
 lk : Lks
 q : Bool
inductive Rt where
 | top
 | op (pc : PC) (j : Nat) (dst : Option Nat) (rest : List Oper) (τ : Tmps) (ds : List (Nat × List AV)) (nt : Nat) (rnd : Bool) (ev : Ev)
 | dr (d : DR) (o : Oper) (f : Inf) (τ : Tmps) (ds : List (Nat × List AV)) (nt : Nat) (rnd : Bool) (ev : Ev)
 | rng (τ : Tmps) (ds : List (Nat × List AV)) (nt : Nat) (rnd : Bool) (ev : Ev)
inductive Fm where
 | seq (b : PC) | asg (b : PC) | blk (i : Nat)
 | lop (b : PC) (n0 : Nat) (τ0 : Tmps) (j : Nat)
 | cal (rs : List ResultVar) (r : Rt)
 | rnd (pre : List LF) (r : Rt)
inductive Cu where
 | ex (c : PC) (st : St)
 | op (pc : PC) (j : Nat) (rest : List Oper) (st : St)
 | dr (d : DR) (st : St)
 | rt (e : Ex) (st : St)
 | vl (r : Rt) (v : AV) (σ : Hp) (Λ : List LF)
structure Cfg where
 cu : Cu
 ev : Ev
 K : List Fm
noncomputable def opsOf (c : Code) : Array Oper :=
 match c with
 | .region _ ops _ => ops
 | _ => #[]
noncomputable def opsD (c : Code) : Array Oper :=
 match planOf (opsOf c).toList with
 | some _ => opsOf c
 | none => match permOf (opsOf c) with
  | some ops => ops
  | none => #[]
noncomputable def fsD (c : Code) : List Inf :=
 match planOf (opsD c).toList with
 | some r => r.1
 | none => []
abbrev Rr := AV × Hp × List LF
structure Sy where
 x : Nat → List AV → Option (Bool × AV)
 hd : Nat → Bool
 pl : Bool := true
 fl : List Nat := []
def Sy.ok (E : Env) (S : Sy) : Prop := ∀ f args v, S.x f args = some (true, v) → E.ext f args = some v
section
variable (E : Env)
noncomputable def toHs : List HD → Hnds
 | [] => []
 | h :: D => (h.lvl, rangeH E (callN E h.n) (toHs D) h.nt h.τ h.params h.asg.c h.body.c) :: deepen (toHs D)
noncomputable def rounds (ev : Ev) (b : Code) (n0 : Nat) (τ0 : Tmps) : Nat → St → Option (Ex × St)
 | 0, _ => none
 | j + 1, st => match exec E (callN E ev.n) b (toHs E ev.D) st with
  | some (.normal, st) => rounds ev b n0 τ0 j (clean n0 τ0 st)
  | r => r
noncomputable def finD (d : DR) (r : Option (St × Phs × Lks)) : Option St :=
 match r with
 | none => none
 | some (st, ph, lk) => match (match d.q with | true => true | false => looksOK E d.ops ph lk) with
  | true => some st
  | false => none
noncomputable def restD (ev : Ev) (d : DR) (st : St) : Option St := finD E d (runD E (callN E ev.n) (toHs E ev.D) d.ops d.n0 d.os d.fs d.i st d.ph d.lk)
noncomputable def DR.nxt (d : DR) (o : Oper) (f : Inf) (τ : Tmps) (st : St) : DR :=
 match f.c with
 | 0 => { d with i := d.i + 1, ph := (st.σ, f.a, some d.i) :: d.ph }
 | 1 => { d with i := d.i + 1, lk := (o, d.i, f.a, τ, st.τ) :: d.lk }
 | _ => { d with i := d.i + 1 }
noncomputable def contV (cE : Ev → Ex → St → Option Rr) : Rt → AV → Hp → List LF → Option Rr
 | .top, v, σ, Λ => some (v, σ, Λ)
 | .op pc _ dst rest τ ds nt rnd ev, v, σ, Λ => match putS ⟨τ, σ, ds, Λ, nt, rnd⟩ dst v with
  | none => none
  | some st => match runOps E (callN E ev.n) (toHs E ev.D) (opsOf pc.c) rest st with
   | none => none
   | some st => cE ev .normal st
 | .dr d o f τ ds nt rnd ev, v, σ, Λ => match putS ⟨τ, σ, ds, Λ, nt, rnd⟩ o.dst v with
  | none => none
  | some st => match restD E ev (d.nxt o f τ st) st with
   | none => none
   | some st => cE ev .normal st
 | .rng τ ds nt rnd ev, _, σ, Λ => match Λ with
  | lf :: Λ => cE ev lf.pend ⟨τ, σ, ds, Λ, nt, rnd⟩
  | [] => none
noncomputable def contE : List Fm → Ev → Ex → St → Option Rr
 | [], _, _, _ => none
 | .seq b :: K, ev, e, st => match e with
  | .normal => match exec E (callN E ev.n) b.c (toHs E ev.D) st with
   | some (e, st) => contE K ev e st
   | none => none
  | e => contE K ev e st
 | .asg b :: K, ev, e, st => match e with
  | .normal => match exec E (callN E ev.n) b.c (toHs E ev.D) st with
   | some (e, st) => contE K ev e st
   | none => none
  | _ => none
 | .blk i :: K, ev, e, st => match e with
  | .exit j => contE K ev (match Nat.beq j i with | true => .normal | false => .exit j) st
  | e => contE K ev e st
 | .lop b n0 τ0 j :: K, ev, e, st => match e with
  | .normal => match rounds E ev b.c n0 τ0 j (clean n0 τ0 st) with
   | some (e, st) => contE K ev e st
   | none => none
  | e => contE K ev e st
 | .cal rs r :: K, ev, e, st => match e with
  | .exit _ => none
  | _ => match runDefers E (callN E ev.n) (toHs E ev.D) st.ds st.σ st.Λ with
   | none => none
   | some (σ, Λ) => match resultsA E st.τ σ rs with
    | some [v] => contV E (contE K) r v σ Λ
    | some vs => contV E (contE K) r (.tup vs) σ Λ
    | none => none
 | .rnd pre r :: K, _, e, st => match st.ds with
  | [] => contV E (contE K) r (.bool e.isNormal) st.σ (pre ++ ⟨!e.isNormal, e⟩ :: st.Λ)
  | _ => none
noncomputable def den (c : Cfg) : Option Rr :=
 match c.cu with
 | .ex pc st => match exec E (callN E c.ev.n) pc.c (toHs E c.ev.D) st with
  | some (e, st) => contE E c.K c.ev e st
  | none => none
 | .op pc _ rest st => match runOps E (callN E c.ev.n) (toHs E c.ev.D) (opsOf pc.c) rest st with
  | some st => contE E c.K c.ev .normal st
  | none => none
 | .dr d st => match restD E c.ev d st with
  | some st => contE E c.K c.ev .normal st
  | none => none
 | .rt e st => contE E c.K c.ev e st
 | .vl r v σ Λ => contV E (contE E c.K) r v σ Λ
noncomputable def frzV (v : AV) (σ : Hp) : Option AV :=
 match v with
 | .tup l => match frzL 5000 l σ with
  | some r => some (.tup r.1)
  | none => none
 | v => match frz 5000 v σ with
  | some r => some r.1
  | none => none
inductive Out where
 | stop (c : Cfg)
 | done (v : AV)
mutual
noncomputable def frzD : Nat → AV → Hp → (AV → Hp → Option Out) → Option Out
 | 0, _, _, _ => none
 | n + 1, v, σ, k => match v with
  | .sl id off len _ _ => match σ.get id with
   | some (.cells _ l) => Bool.rec (motive := fun _ => Option Out) none (k (.csl (l.drop off) len) (σ.set id (.cells true l))) (plainL (l.drop off))
   | _ => none
  | .agg l => frzDL n l σ (fun l σ => k (.agg l) σ)
  | .ptr _ _ => none | .mp _ => none | .iter _ => none | .fn _ _ _ => none | .yld _ => none | .tup _ => none | .cp _ _ => none
  | .ifc t v => frzD n v σ (fun v σ => k (.ifc t v) σ)
  | v => k v σ
noncomputable def frzDL : Nat → List AV → Hp → (List AV → Hp → Option Out) → Option Out
 | _, [], σ, k => k [] σ
 | 0, _ :: _, _, _ => none
 | n + 1, v :: vs, σ, k => frzD n v σ (fun v σ => frzDL n vs σ (fun vs σ => k (v :: vs) σ))
end
noncomputable def doneK (v : AV) (σ : Hp) : Option Out :=
 match v with
 | .tup l => frzDL 5000 l σ (fun l _ => some (.done (.tup l)))
 | v => frzD 5000 v σ (fun v _ => some (.done v))
noncomputable def pickV (x y : AV) (t : Bool) : Option AV :=
 match x, y with
 | .bool a, .bool b => some (.bool (Bool.rec b a t))
 | .int k a, .int k' b => match ikb k k' with
  | true => some (.int k (Bool.rec b a t))
  | false => none
 | _, _ => none
noncomputable def okSB : List (AV × AV) → Bool
 | [] => true
 | (k, v) :: es => match k, v with
  | .str _, .bool _ => okSB es
  | _, _ => false
noncomputable def hasSB (s : List Nat) : List (AV × AV) → Bool
 | [] => false
 | (k, _) :: es => match k with
  | .str t => match lbeq s t with
   | true => true
   | false => hasSB s es
  | _ => hasSB s es
noncomputable def getSB (s : List Nat) : List (AV × AV) → Bool
 | [] => false
 | (k, v) :: es => match k, v with
  | .str t, .bool b => match lbeq s t with
   | true => b
   | false => getSB s es
  | _, _ => getSB s es
noncomputable def setSB (s : List Nat) (b : Bool) : List (AV × AV) → List (AV × AV)
 | [] => [(.str s, .bool b)]
 | (k, v) :: es => match k with
  | .str t => match lbeq s t with
   | true => (.str s, .bool b) :: es
   | false => (k, v) :: setSB s b es
  | _ => (k, v) :: setSB s b es
mutual
noncomputable def eqvB : Nat → Nat → AV → AV → Option Bool
 | 0, _, _, _ => none
 | d + 1, t, x, y =>
  match E.ty t with
  | some (.struct fs) => match x with
   | .agg xs => match y with
    | .agg ys => match E.eqok t with
     | true => eqvFB d fs xs ys
     | false => none
    | _ => none
   | _ => none
  | some .bool => eqv E (d + 1) t x y
  | some (.int _) => eqv E (d + 1) t x y
  | some .str => eqv E (d + 1) t x y
  | _ => none
noncomputable def eqvFB : Nat → List KF → List AV → List AV → Option Bool
 | _, [], _, _ => some true
 | 0, _ :: _, _, _ => none
 | d + 1, f :: fs, xs, ys => match f.named with
  | false => eqvFB d fs xs ys
  | true => match part E f.type xs f.off, part E f.type ys f.off with
   | some x, some y => match eqvB d f.type x y, eqvFB d fs xs ys with
    | some a, some b => some (a && b)
    | _, _ => none
   | _, _ => none
end
noncomputable def appK (σ : Hp) (ats : Array TypeId) (s x : AV) (k : Res → Option Out) : Option Out :=
 match (ats[0]?).bind E.ty, (match (ats[1]?).bind E.ty with | some (.slice _) => true | some .str => true | _ => false) with
 | some (.slice e), true => match elemsOf σ (E.size e) x with
  | some (new, n) => match E.zero e with
   | some _ => Bool.rec (motive := fun _ => Option Out) none
    (match s with
    | .nils => Bool.rec (motive := fun _ => Option Out) (k (.val (.sl σ.n 0 n n (E.size e)) (σ.push (.cells false new)))) (k (.val .nils σ)) (Nat.beq n 0)
    | .sl id off len cl sz => match σ.get id with
     | some (.cells ro l) => match Nat.beq sz (E.size e) with
      | true => Bool.rec (motive := fun _ => Option Out) none (Bool.rec (motive := fun _ => Option Out) none (Bool.rec (motive := fun _ => Option Out) (k (.val (.sl σ.n 0 (len + n) (len + n) sz) ((σ.set id .gone).push (.cells ro (l.drop off ++ new))))) (k (.val (.sl id off len cl sz) σ)) (Nat.beq n 0)) (Nat.ble len 1048576)) (Nat.beq (off + len * E.size e) l.length)
      | false => none
     | _ => none
    | _ => none) (Nat.ble n 1048576 && oneAll new && Nat.ble (E.bytes e) 65536)
   | none => none
  | none => none
 | _, _ => none
noncomputable def toB : AV → Bool
 | .bool b => b
 | _ => false
noncomputable def toI : AV → Int
 | .int _ n => n
 | _ => 0
noncomputable def toS : AV → List Nat
 | .str s => s
 | _ => []
noncomputable def asZ (z c : AV) : AV :=
 match z with
 | .bool _ => .bool (toB c)
 | .int k _ => .int k (toI c)
 | .str _ => .str (toS c)
 | _ => c
noncomputable def isZ (z c : AV) : Bool :=
 match z with
 | .bool _ => match c with
  | .bool _ => true
  | _ => false
 | .int k _ => match c with
  | .int k' _ => ikb k' k
  | _ => false
 | .str _ => match c with
  | .str _ => true
  | _ => false
 | _ => false
noncomputable def scalA : AV → Bool
 | .bool _ => true
 | .int _ _ => true
 | .str _ => true
 | _ => false
noncomputable def scalL : List AV → Bool
 | [] => false
 | z :: zs => match zs with
  | [] => scalA z
  | _ => scalA z && scalL zs
noncomputable def asZs (l : List AV) : List AV → Nat → List AV
 | [], _ => []
 | z :: zs, off => asZ z (l.getD off .nili) :: asZs l zs (off + 1)
noncomputable def isZs (l : List AV) : List AV → Nat → Bool
 | [], _ => true
 | z :: zs, off => Nat.ble (off + 1) l.length && (isZ z (l.getD off .nili) && isZs l zs (off + 1))
noncomputable def loadK (t : Nat) (l : List AV) (off : Nat) (k : AV → Option Out) : Option (Option Out) :=
 match E.ty t with
 | some (.arr _ _) => match E.zero t with
  | some (.agg zs) => match scalL zs, Nat.beq zs.length (E.size t) with
   | true, true => some (Bool.rec (motive := fun _ => Option Out) none (k (.agg (asZs l zs off))) (isZs l zs off))
   | _, _ => none
  | _ => none
 | some (.struct _) => match E.zero t with
  | some (.agg zs) => match scalL zs, Nat.beq zs.length (E.size t) with
   | true, true => some (Bool.rec (motive := fun _ => Option Out) none (k (.agg (asZs l zs off))) (isZs l zs off))
   | _, _ => none
  | _ => none
 | some _ => match E.zero t with
  | some z => match scalA z with
   | true => some (Bool.rec (motive := fun _ => Option Out) none (k (asZ z (l.getD off .nili))) (isZs l [z] off))
   | false => none
  | none => none
 | none => none
noncomputable def opK (τ : Tmps) (σ : Hp) (o : Op) (k : Res → Option Out) : Option Out :=
 match o with
 | .indexAddr t x i => match E.ty t, evF τ x, evF τ i with
  | some (.slice e), some (.vs ty _ l), some (.int _ j) => match Nat.beq ty.size (E.size e) with
   | true => Bool.rec (motive := fun _ => Option Out) none (k (.val (.cp (ty.cells (l.getD j.toNat ty.dflt)) 0) σ)) (inB j l.length)
   | false => none
  | some (.slice e), some (.sl id off len _ _), some (.int _ j) => Bool.rec (motive := fun _ => Option Out) none (k (.val (.ptr id (off + j.toNat * E.size e)) σ)) (inB j len)
  | some (.slice e), some (.csl cells len), some (.int _ j) => Bool.rec (motive := fun _ => Option Out) none (k (.val (.cp cells (j.toNat * E.size e)) σ)) (inB j len)
  | some (.arr len e), some (.ptr id off), some (.int _ j) => Bool.rec (motive := fun _ => Option Out) none (k (.val (.ptr id (off + j.toNat * E.size e)) σ)) (inB j len)
  | some (.arr len e), some (.gp g off), some (.int _ j) => Bool.rec (motive := fun _ => Option Out) none (k (.val (.gp g (off + j.toNat * E.size e)) σ)) (inB j len)
  | _, _, _ => none
 | .index t x i => match E.ty t, evF τ x, evF τ i with
  | some .str, some (.str s), some (.int _ j) => Bool.rec (motive := fun _ => Option Out) none (k (.val (.int .u8 (Int.ofNat (s.getD j.toNat 0))) σ)) (inB j s.length)
  | some (.arr len e), some (.agg cs), some (.int _ j) => match loadK E e cs (j.toNat * E.size e) (fun v => k (.val v σ)) with
   | some r => Bool.rec (motive := fun _ => Option Out) none r (inB j len)
   | none => match opF E τ σ (.index t x i) with
    | some r => k r
    | none => none
  | _, _, _ => match opF E τ σ (.index t x i) with
   | some r => k r
   | none => none
 | .next x true => match evF τ x with
  | some (.iter id) => match σ.get id with
   | some (.siter s pos) => Bool.rec (motive := fun _ => Option Out) (k (.val (.tup [.bool false]) σ)) (Bool.rec (motive := fun _ => Option Out)
     (k (.val (.tup [.bool true, .int .i64 (Int.ofNat pos), .int .i32 (Int.ofNat (decN s pos).1)]) (σ.set id (.siter s (pos + (decN s pos).2)))))
     (k (.val (.tup [.bool true, .int .i64 (Int.ofNat pos), .int .i32 (Int.ofNat (s.getD pos 0))]) (σ.set id (.siter s (pos + 1))))) (Nat.ble (s.getD pos 0) 127)) (Nat.ble (pos + 1) s.length)
   | _ => none
  | _ => none
 | .binOp b t x y h => match b, evF τ x, evF τ y with
  | .rem, some (.int k1 n), some (.int k2 m) => match ikb k1 k2 with
   | true => Bool.rec (motive := fun _ => Option Out) (k (.val (.int k1 (n.tmod m)) σ)) none (ieq m 0)
   | false => none
  | .quo, some (.int k1 n), some (.int k2 m) => match ikb k1 k2 with
   | true => Bool.rec (motive := fun _ => Option Out) (k (.val (.int k1 (wr k1 (n.tdiv m))) σ)) none (ieq m 0)
   | false => none
  | .eql, some (.agg xs), some (.agg ys) => match eqvB E 40 t (.agg xs) (.agg ys) with
   | some r => k (.val (.bool r) σ)
   | none => none
  | .neq, some (.agg xs), some (.agg ys) => match eqvB E 40 t (.agg xs) (.agg ys) with
   | some r => k (.val (.bool (!r)) σ)
   | none => none
  | _, _, _ => match opF E τ σ (.binOp b t x y h) with
   | some r => k r
   | none => none
 | .pick c a b => match evF τ c with
  | some (.bool t) => match evF τ a, evF τ b with
   | some x, some y => match pickV x y t with
    | some v => k (.val v σ)
    | none => Bool.rec (motive := fun _ => Option Out) (k (.val y σ)) (k (.val x σ)) t
   | _, _ => none
  | _ => none
 | .call c => match c.callee, evs τ c.args.toList with
  | .builtin .append, some [s, x] => appK E σ c.argTypes s x k
  | _, _ => match opF E τ σ (.call c) with
   | some r => k r
   | none => none
 | .lookup t m key ok => match E.ty t, evF τ m, evF τ key, keyT E t with
  | some (.map _ e), some (.mp id), some (.str s), some (kt, .str) => match σ.get id, E.zero e with
   | some (.map es), some (.bool false) => Bool.rec (motive := fun _ => Option Out) none (k (.val (match ok with | true => .tup [.bool (getSB s es), .bool (hasSB s es)] | false => .bool (getSB s es)) σ)) (okSB es)
   | _, _ => match opF E τ σ (.lookup t m key ok) with
    | some r => k r
    | none => none
  | _, _, _, _ => match opF E τ σ (.lookup t m key ok) with
   | some r => k r
   | none => none
 | .mapUpdate t m key x => match evF τ m, evF τ key, evF τ x, keyT E t with
  | some (.mp id), some (.str s), some (.bool b), some (kt, .str) => match σ.get id with
   | some (.map es) => Bool.rec (motive := fun _ => Option Out) none (k (.skip (σ.set id (.map (setSB s b es))))) (okSB es)
   | _ => none
  | _, _, _, _ => match opF E τ σ (.mapUpdate t m key x) with
   | some r => k r
   | none => none
 | .load t a => match (match evF τ a with
   | some (.ptr id off) => match σ.get id with
    | some (.cells _ l) => loadK E t l off (fun v => k (.val v σ))
    | _ => none
   | some (.gp g off) => match E.glob g with
    | some l => loadK E t l off (fun v => k (.val v σ))
    | none => none
   | _ => none) with
  | some r => r
  | none => match opF E τ σ (.load t a) with
   | some r => k r
   | none => none
 | .store t a x => match evF τ a, evF τ x with
  | some (.ptr id off), some v => match σ.get id with
   | some (.cells false l) => match isAggT E t, Nat.beq v.cells.length (E.size t), oneAll v.cells with
    | some _, true, true => Bool.rec (motive := fun _ => Option Out) none (k (.skip (σ.set id (.cells false (setAt l off v.cells))))) (Nat.ble (off + v.cells.length) l.length)
    | _, _, _ => none
   | _ => none
  | _, _ => none
 | o => match opF E τ σ o with
  | some r => k r
  | none => none
mutual
noncomputable def avbK (k : Option Out) : AV → AV → Option Out
 | .int k1 a, .int k2 b => match ikb k1 k2 with
  | true => Bool.rec (motive := fun _ => Option Out) none k (ieq a b)
  | false => none
 | .bool a, .bool b => Bool.rec (motive := fun _ => Option Out) none k (bbeq a b)
 | .str a, .str b => Bool.rec (motive := fun _ => Option Out) none k (lbeq a b)
 | .vs t nl l, .vs t' nl' l' => Bool.rec (motive := fun _ => Option Out) none (Bool.rec (motive := fun _ => Option Out) none k (vsB t l t' l')) (bbeq nl nl')
 | .agg l, .agg m => avbKL k l m
 | .tup l, .tup m => avbKL k l m
 | a, b => Bool.rec (motive := fun _ => Option Out) none k (avbeq a b)
noncomputable def avbKL (k : Option Out) : List AV → List AV → Option Out
 | [], [] => k
 | a :: l, b :: m => avbK (avbKL k l m) a b
 | _, _ => none
end
noncomputable def lookK (o : Oper) (i a : Nat) (τ τ' : Tmps) (k : Option Out) : Option Nat → Phs → Option Out
 | _, [] => k
 | nx, (σ, am, h) :: ph => match (match nx with | some x => msHas a x | none => false), msHas am i with
  | false, false => match cstL τ o.op with
   | true => lookK o i a τ τ' k h ph
   | false => opK E τ σ o.op fun r => match r with
    | .val v _ => match o.dst with
     | none => lookK o i a τ τ' k h ph
     | some d => match τ'.get d with
      | some w => avbK (lookK o i a τ τ' k h ph) w v
      | none => lookK o i a τ τ' k h ph
    | _ => none
  | _, _ => lookK o i a τ τ' k h ph
noncomputable def looksK (ops : Array Oper) (ph : Phs) (k : Option Out) : Lks → Option Out
 | [] => k
 | (o, i, a, τ, τ') :: lk => match wantedA ops τ o with
  | some false => looksK ops ph k lk
  | _ => lookK E o i a τ τ' (looksK ops ph k lk) none ph
mutual
noncomputable def frzK (pl : Bool) (k : AV → Hp → Option Out) : AV → Hp → Option Out
 | .sl id off len cl sz, σ => match σ.get id with
  | some (.cells _ l) => Bool.rec (motive := fun _ => Option Out) (match pl with
   | true => none
   | false => match frz 5000 (.sl id off len cl sz) σ with
    | some r => k r.1 r.2
    | none => k (.sl id off len cl sz) σ) (k (.csl (l.drop off) len) (σ.set id (.cells true l))) (plainL (l.drop off))
  | _ => k (.sl id off len cl sz) σ
 | .agg l, σ => frzKs pl (fun l σ => k (.agg l) σ) l σ
 | v, σ => k v σ
noncomputable def frzKs (pl : Bool) (k : List AV → Hp → Option Out) : List AV → Hp → Option Out
 | [], σ => k [] σ
 | v :: vs, σ => frzK pl (fun v σ => frzKs pl (fun vs σ => k (v :: vs) σ) vs σ) v σ
end
variable (S : Sy)
noncomputable def callK (ev : Ev) (f : Nat) (args : List AV) (σ : Hp) (Λ : List LF) (r : Rt) (K : List Fm) (k : Cfg → Option Out) : Option Out :=
 match ev.n with
 | 0 => none
 | m + 1 => match S.x f args with
  | some (c, v) => Bool.rec (motive := fun _ => Option Out) none (k ⟨.vl r v σ Λ, ev, K⟩) c
  | none => match E.ext f args with
  | some v => k ⟨.vl r v σ Λ, ev, K⟩
  | none => match E.fn f with
   | none => none
   | some fn => match fn.body with
    | none => none
    | some body => k ⟨.ex ⟨f, [], body⟩ ⟨tmps0 fn.ntmps (.full (dep fn.ntmps)) 0 args, σ, [], Λ, args.length + (fn.ntmps - args.length), false⟩, ⟨m, ev.D⟩, .cal fn.results.toList r :: K⟩
noncomputable def fD : List HD → Nat → List LF → Option (List LF × HD × List HD × List LF)
 | [], _, _ => none
 | h :: D, l, Λ => match Nat.beq h.lvl l with
  | true => some ([], h, D, Λ)
  | false => match Λ with
   | [] => none
   | lf :: Λ => match fD D l Λ with
    | some (pre, x) => some (lf :: pre, x)
    | none => none
noncomputable def yldK (ev : Ev) (l : Nat) (args : List AV) (σ : Hp) (Λ : List LF) (r : Rt) (K : List Fm) (k : Cfg → Option Out) : Option Out :=
 match fD ev.D l Λ with
 | some (pre, h, D, lf :: Λ) => match lf.done with
  | true => none
  | false => match setParams h.nt h.τ h.params.toList args with
   | none => none
   | some τ => k ⟨.ex h.asg ⟨τ, σ, [], Λ, h.nt, true⟩, ⟨h.n, D⟩, .asg h.body :: .rnd pre r :: K⟩
 | _ => none
noncomputable def resK (ev : Ev) (st : St) (r : Res) (rt : Rt) (K : List Fm) (k : Cfg → Option Out) (put : AV → St → Option Out) : Option Out :=
 match r with
 | .val v σ => put v { st with σ := σ }
 | .skip σ => put undefA { st with σ := σ }
 | .call f args => match E.frz f with
  | true => frzKs S.pl (fun args σ => callK E S ev f args σ st.Λ rt K k) args st.σ
  | false => callK E S ev f args st.σ st.Λ rt K k
 | .yld l args => yldK ev l args st.σ st.Λ rt K k
 | .dfr f args => match st.rnd with
  | true => none
  | false => put undefA { st with ds := (f, args) :: st.ds }
 | .recov => match st.rnd with
  | true => none
  | false => put .nili st
noncomputable def guardK (ops : Array Oper) (st : St) (o : Oper) (no yes : St → Option Out) : Option Out :=
 match o.guard with
 | none => yes st
 | some (j, want) => match (ops[j]?).bind (·.dst) with
  | some d => match st.τ.get d with
   | some (.bool b) => Bool.rec (motive := fun _ => Option Out) (Bool.rec (motive := fun _ => Option Out) (yes { st with τ := st.τ.set d (.bool false) }) (no { st with τ := st.τ.set d (.bool false) }) want) (Bool.rec (motive := fun _ => Option Out) (no { st with τ := st.τ.set d (.bool true) }) (yes { st with τ := st.τ.set d (.bool true) }) want) b
   | some (.tup []) => no st
   | _ => none
  | none => none
noncomputable def knowT (st : St) (x : Operand) (t : Bool) : St :=
 match x with
 | .tmp d => { st with τ := st.τ.set d (.bool t) }
 | _ => st
noncomputable def opsK (pc : PC) (j : Nat) (rest : List Oper) (st : St) (ev : Ev) (K : List Fm) (k : Cfg → Option Out) : Option Out :=
 match rest with
 | [] => k ⟨.rt .normal st, ev, K⟩
 | o :: os =>
  let put : AV → St → Option Out := fun v s => match putS s o.dst v with
   | some s => k ⟨.op pc (j + 1) os s, ev, K⟩
   | none => none
  guardK (opsOf pc.c) st o (fun st => put undefA st) (fun st => opK E st.τ st.σ o.op fun r => resK E S ev st r (.op pc (j + 1) o.dst os st.τ st.ds st.nt st.rnd ev) K k put)
noncomputable def drK (d : DR) (st : St) (ev : Ev) (K : List Fm) (k : Cfg → Option Out) : Option Out :=
 match d.os, d.fs with
 | o :: os, f :: fs =>
  let d' : DR := { d with os := os, fs := fs }
  let put : Tmps → AV → St → Option Out := fun τ v s => match putS s o.dst v with
   | some s => k ⟨.dr (d'.nxt o f τ s) s, ev, K⟩
   | none => none
  match f.c with
  | 3 => guardK d.ops st o (fun st => put st.τ undefA st) (fun st => match newA E st.τ o.op with
   | some (v, ao) => put st.τ (v (d.n0 + f.k)) { st with σ := st.σ.set (d.n0 + f.k) ao }
   | none => none)
  | _ => guardK d.ops st o (fun st => put st.τ undefA st) (fun st => opK E st.τ st.σ o.op fun r => resK E S ev st r (.dr d' o f st.τ st.ds st.nt st.rnd ev) K k (put st.τ))
 | _, _ => match d.q with
  | true => k ⟨.rt .normal st, ev, K⟩
  | false => looksK E d.ops d.ph (k ⟨.rt .normal st, ev, K⟩) d.lk
noncomputable def drOf (pc : PC) (ops : Array Oper) (fs : List Inf) (na : Nat) (st : St) : DR := ⟨pc, ops, st.σ.n, ops.toList, fs, 0, [(⟨st.σ.t, st.σ.n + na⟩, 0, none)], [], quietI fs⟩
noncomputable def exK (pc : PC) (st : St) (ev : Ev) (K : List Fm) (k : Cfg → Option Out) : Option Out :=
 match pc.c with
 | .skip => k ⟨.rt .normal st, ev, K⟩
 | .label _ => k ⟨.rt .normal st, ev, K⟩
 | .region _ ops d => match d with
  | false => k ⟨.op pc 0 ops.toList st, ev, K⟩
  | true => match planOf ops.toList with
   | some (fs, na) => k ⟨.dr (drOf pc ops fs na st) { st with σ := ⟨st.σ.t, st.σ.n + na⟩ }, ev, K⟩
   | none => match permOf ops with
    | none => none
    | some ops => match planOf ops.toList with
     | some (fs, na) => k ⟨.dr (drOf pc ops fs na st) { st with σ := ⟨st.σ.t, st.σ.n + na⟩ }, ev, K⟩
     | none => none
 | .seq a b => k ⟨.ex ⟨pc.f, 0 :: pc.p, a⟩ st, ev, .seq ⟨pc.f, 1 :: pc.p, b⟩ :: K⟩
 | .cond x a b => match evF st.τ x with
  | some (.bool t) => Bool.rec (motive := fun _ => Option Out) (k ⟨.ex ⟨pc.f, 1 :: pc.p, b⟩ (knowT st x false), ev, K⟩) (k ⟨.ex ⟨pc.f, 0 :: pc.p, a⟩ (knowT st x true), ev, K⟩) t
  | _ => none
 | .block i b => k ⟨.ex ⟨pc.f, 0 :: pc.p, b⟩ st, ev, .blk i :: K⟩
 | .loop b => k ⟨.ex ⟨pc.f, 0 :: pc.p, b⟩ st, ev, .lop ⟨pc.f, 0 :: pc.p, b⟩ st.σ.n st.τ 1048575 :: K⟩
 | .scope b => k ⟨.ex ⟨pc.f, 0 :: pc.p, b⟩ st, ev, K⟩
 | .exit i => k ⟨.rt (.exit i) st, ev, K⟩
 | .ret => k ⟨.rt .ret st, ev, K⟩
 | .rangeFunc x params a b => match evF st.τ x with
  | some (.fn g first caps) => callK E S ⟨ev.n, ⟨st.σ.n, st.nt, ev.n, st.τ, params, ⟨pc.f, 0 :: pc.p, a⟩, ⟨pc.f, 1 :: pc.p, b⟩⟩ :: ev.D⟩ g (first ++ [.yld st.σ.n] ++ caps) ⟨st.σ.t, st.σ.n + 1⟩ (⟨false, .normal⟩ :: st.Λ) (.rng st.τ st.ds st.nt st.rnd ev) K k
  | _ => none
 | _ => none
mutual
noncomputable def slA : AV → List Nat
 | .sl i _ _ _ _ => [i]
 | .mp i => [i]
 | .ifc _ v => slA v
 | .agg l => slL l
 | .tup l => slL l
 | .fn _ a b => slL a ++ slL b
 | _ => []
noncomputable def slL : List AV → List Nat
 | [] => []
 | v :: vs => slA v ++ slL vs
end
noncomputable def slT (τ : Tmps) : List Nat :=
 Tr.rec (motive := fun _ => List Nat) [] (fun _ v _ a b => (match v with | some v => slA v | none => []) ++ a ++ b) τ
noncomputable def slD : List HD → List Nat
 | [] => []
 | h :: D => slT h.τ ++ slD D
noncomputable def slR : Rt → List Nat
 | .top => []
 | .op _ _ _ _ τ _ _ _ ev => slT τ ++ slD ev.D
 | .dr _ _ _ τ _ _ _ ev => slT τ ++ slD ev.D
 | .rng τ _ _ _ ev => slT τ ++ slD ev.D
noncomputable def slK : List Fm → List Nat
 | [] => []
 | .cal _ r :: K => slR r ++ slK K
 | .rnd _ r :: K => slR r ++ slK K
 | _ :: K => slK K
noncomputable def nubN : List Nat → List Nat → List Nat
 | [], acc => acc
 | i :: l, acc => match elemN i acc with
  | true => nubN l acc
  | false => nubN l (i :: acc)
noncomputable def plO : AO → Bool
 | .cells _ l => plainL l
 | .map es => okSB es
 | _ => true
noncomputable def condsK (σ : Hp) (k : Option Out) : List Nat → Option Out
 | [] => k
 | i :: l => match σ.get i with
  | some o => Bool.rec (motive := fun _ => Option Out) none (condsK σ k l) (plO o)
  | none => condsK σ k l
noncomputable def idsOP (F : List Nat) (i : Nat) (o : Option AO) : List Nat :=
 match elemN i F with
 | true => []
 | false => idsO o
noncomputable def idsHP (F : List Nat) (σ : Hp) : Nat → List Nat
 | 0 => []
 | n + 1 => idsHP F σ n ++ idsOP F n (σ.get n)
noncomputable def reachP (F : List Nat) (σ : Hp) (n0 : Nat) : Nat → List Nat → List Nat → List Nat
 | 0, _, acc => acc
 | _, [], acc => acc
 | k + 1, i :: todo, acc => match Nat.ble n0 i, elemN i acc with
  | true, false => reachP F σ n0 k (idsOP F i (σ.get i) ++ todo) (acc ++ [i])
  | _, _ => reachP F σ n0 k todo acc
noncomputable def bldP (F : List Nat) (σ : Hp) (n0 : Nat) (L : List Nat) : List (Nat × Nat) → Tr AO → Option (Tr AO)
 | [], t => some t
 | (i, j) :: r, t => match σ.get i with
  | none => bldP F σ n0 L r t
  | some o => match elemN i F with
   | true => bldP F σ n0 L r (t.set j o)
   | false => match renOb n0 L o with
    | some o => bldP F σ n0 L r (t.set j o)
    | none => none
noncomputable def cleanLP (F : List Nat) (n0 : Nat) (L : List Nat) (τ : Tmps) (st : St) : Option St :=
 match freshL n0 L, st.ds with
 | true, [] => match renT n0 L τ, bldP F st.σ n0 L (upN n0 ++ pairN L n0) (.full 22) with
  | some τ, some t => some { st with τ := τ, σ := ⟨t, n0 + L.length⟩ }
  | _, _ => none
 | _, _ => none
noncomputable def cleanP (F : List Nat) (n0 : Nat) (τ0 : Tmps) (st : St) : St :=
 match Nat.ble n0 st.σ.n, cleanLP F n0 (reachP F st.σ n0 4096 (idsT (restr τ0 st.τ) ++ idsHP F st.σ n0) []) (restr τ0 st.τ) st with
 | true, some st => st
 | _, _ => st
noncomputable def cleanK (D : List HD) (K : List Fm) (n0 : Nat) (τ0 : Tmps) (st : St) (k : St → Option Out) : Option Out :=
 match S.pl with
 | false => k (clean n0 τ0 st)
 | true => condsK st.σ (k (cleanP (nubN (S.fl ++ slT st.τ ++ slD D ++ slK K) []) n0 τ0 st)) (nubN (S.fl ++ slT st.τ ++ slD D ++ slK K) [])
noncomputable def retK (e : Ex) (st : St) (ev : Ev) (K : List Fm) (k : Cfg → Option Out) : Option Out :=
 match K with
 | [] => none
 | .seq b :: K => match e with
  | .normal => k ⟨.ex b st, ev, K⟩
  | e => k ⟨.rt e st, ev, K⟩
 | .asg b :: K => match e with
  | .normal => k ⟨.ex b st, ev, K⟩
  | _ => none
 | .blk i :: K => match e with
  | .exit j => k ⟨.rt (match Nat.beq j i with | true => .normal | false => .exit j) st, ev, K⟩
  | e => k ⟨.rt e st, ev, K⟩
 | .lop b n0 τ0 j :: K => match e with
  | .normal => match j with
   | 0 => none
   | j + 1 => cleanK S ev.D K n0 τ0 st fun st => k ⟨.ex b st, ev, .lop b n0 τ0 j :: K⟩
  | e => k ⟨.rt e st, ev, K⟩
 | .cal rs r :: K => match e with
  | .exit _ => none
  | _ => match st.ds with
   | [] => match resultsA E st.τ st.σ rs with
    | some [v] => k ⟨.vl r v st.σ st.Λ, ev, K⟩
    | some vs => k ⟨.vl r (.tup vs) st.σ st.Λ, ev, K⟩
    | none => none
   | _ => none
 | .rnd pre r :: K => match st.ds with
  | [] => k ⟨.vl r (.bool e.isNormal) st.σ (pre ++ ⟨!e.isNormal, e⟩ :: st.Λ), ev, K⟩
  | _ => none
noncomputable def valK (r : Rt) (v : AV) (σ : Hp) (Λ : List LF) (K : List Fm) (k : Cfg → Option Out) : Option Out :=
 match r with
 | .top => match K, Λ with
  | [], [] => doneK v σ
  | _, _ => none
 | .op pc j dst rest τ ds nt rnd ev => match putS ⟨τ, σ, ds, Λ, nt, rnd⟩ dst v with
  | some st => k ⟨.op pc j rest st, ev, K⟩
  | none => none
 | .dr d o f τ ds nt rnd ev => match putS ⟨τ, σ, ds, Λ, nt, rnd⟩ o.dst v with
  | some st => k ⟨.dr (d.nxt o f τ st) st, ev, K⟩
  | none => none
 | .rng τ ds nt rnd ev => match Λ with
  | lf :: Λ => k ⟨.rt lf.pend ⟨τ, σ, ds, Λ, nt, rnd⟩, ev, K⟩
  | [] => none
noncomputable def stepK (c : Cfg) (k : Cfg → Option Out) : Option Out :=
 match c.cu with
 | .ex pc st => exK E S pc st c.ev c.K k
 | .op pc j rest st => opsK E S pc j rest st c.ev c.K k
 | .dr d st => drK E S d st c.ev c.K k
 | .rt e st => retK E S e st c.ev c.K k
 | .vl r v σ Λ => valK r v σ Λ c.K k
noncomputable def atHead (c : Cfg) : Bool :=
 match c.cu, c.K with
 | .ex pc _, .lop b _ _ _ :: _ => match S.hd pc.f, Nat.beq pc.p.length b.p.length, Nat.beq pc.f b.f with
  | true, true, true => true
  | _, _, _ => false
 | _, _ => false
noncomputable def adv : Nat → Cfg → Option Out
 | 0, _ => none
 | n + 1, c => stepK E S c fun c' => match atHead S c' with
  | true => some (.stop c')
  | false => adv n c'
end
end Go.Eng


namespace Go.Eng
open Go
attribute [local irreducible] upTo
section
variable {E : Env} {S : Sy}
theorem idx_inB {j : Int} {n : Nat} (h : inB j n = true) : idx j n = some j.toNat := by
 cases j with
 | ofNat m => simp only [idx]; simp only [inB] at h; rw [h]; rfl
 | negSucc m => cases h
theorem brec {α : Type} {a b : Option α} {t : Bool} {r : α} (h : (Bool.rec (motive := fun _ => Option α) a b t) = some r) : (t = false ∧ a = some r) ∨ (t = true ∧ b = some r) := by
 cases t with
 | false => exact .inl ⟨rfl, h⟩
 | true => exact .inr ⟨rfl, h⟩
noncomputable def choose2 (x y : AV) (t : Bool) : AV := match t with
 | true => x
 | false => y
theorem pickV_spec {x y v : AV} {t : Bool} (h : pickV x y t = some v) : v = choose2 x y t := by
 unfold pickV at h
 split at h
 · simp only [Option.some.injEq] at h; subst h; cases t <;> rfl
 · rename_i k a k' b h0
   split at h
   · rename_i hk
     have := ikb_eq hk; subst this
     simp only [Option.some.injEq] at h; subst h; cases t <;> rfl
   · cases h
 · cases h
theorem plain_ids : ∀ {l : List AV}, plainL l = true → idsL l = []
 | [], _ => rfl
 | v :: l, h => by
  cases v <;> first | (cases h; done) | skip
  all_goals (simp only [plainL] at h; simp only [idsL, idsA, plain_ids h]; rfl)
theorem plain_ren {n0 : Nat} {L : List Nat} : ∀ {l : List AV}, plainL l = true → renL n0 L l = some l
 | [], _ => rfl
 | v :: l, h => by
  cases v <;> first | (cases h; done) | skip
  all_goals (simp only [plainL] at h; simp only [renL, renA, plain_ren h])
theorem okSB_ids : ∀ {es : List (AV × AV)}, okSB es = true → idsL (es.map (·.1)) = [] ∧ idsL (es.map (·.2)) = []
 | [], _ => ⟨rfl, rfl⟩
 | (k, v) :: es, h => by
  cases k <;> cases v <;> first | (cases h; done) | skip
  simp only [okSB] at h
  obtain ⟨h1, h2⟩ := okSB_ids h
  simp only [List.map_cons, idsL, idsA, h1, h2]
  exact ⟨rfl, rfl⟩
theorem okSB_ren {n0 : Nat} {L : List Nat} : ∀ {es : List (AV × AV)}, okSB es = true → renES n0 L es = some es
 | [], _ => rfl
 | (k, v) :: es, h => by
  cases k <;> cases v <;> first | (cases h; done) | skip
  simp only [okSB] at h
  simp only [renES, renA, okSB_ren h]
theorem plO_ids {o : AO} (h : plO o = true) : idsO (some o) = [] := by
 cases o with
 | cells ro l => exact plain_ids h
 | map es => obtain ⟨h1, h2⟩ := okSB_ids h; simp only [idsO, h1, h2]; rfl
 | siter s p => rfl
 | gone => rfl
theorem plO_ren {o : AO} {n0 : Nat} {L : List Nat} (h : plO o = true) : renOb n0 L o = some o := by
 cases o with
 | cells ro l => simp only [renOb, plain_ren (l := l) h, Option.map_some]
 | map es => simp only [renOb, okSB_ren (es := es) h, Option.map_some]
 | siter s p => rfl
 | gone => rfl
theorem condsK_spec {σ : Hp} {k : Option Out} {r : Out} : ∀ {F : List Nat}, condsK σ k F = some r → k = some r ∧ ∀ i o, elemN i F = true → σ.get i = some o → plO o = true
 | [], h => ⟨h, fun i o hi => by cases hi⟩
 | j :: F, h => by
  simp only [condsK] at h
  have step : ∀ (h' : condsK σ k F = some r) (hj : ∀ o, σ.get j = some o → plO o = true), k = some r ∧ ∀ i o, elemN i (j :: F) = true → σ.get i = some o → plO o = true := by
   intro h' hj
   obtain ⟨h1, h2⟩ := condsK_spec h'
   refine ⟨h1, fun i o hi ho => ?_⟩
   simp only [elemN] at hi
   split at hi
   · rename_i e; have := Nat.eq_of_beq_eq_true e; subst this; exact hj o ho
   · exact h2 i o hi ho
  split at h
  · rename_i o ho
    rcases brec h with ⟨_, h⟩ | ⟨hp, h⟩
    · cases h
    · exact step h (fun o' ho' => by rw [ho] at ho'; simp only [Option.some.injEq] at ho'; subst ho'; exact hp)
  · rename_i hn
    exact step h (fun o' ho' => by rw [hn] at ho'; cases ho')
section
variable {F : List Nat} {σ : Hp} (hF : ∀ i o, elemN i F = true → σ.get i = some o → plO o = true)
include hF
theorem idsOP_eq (i : Nat) : idsOP F i (σ.get i) = idsO (σ.get i) := by
 unfold idsOP
 split
 · rename_i e
   cases ho : σ.get i with
   | none => rfl
   | some o => exact (plO_ids (hF i o e ho)).symm
 · rfl
theorem idsHP_eq : ∀ n, idsHP F σ n = idsH σ n
 | 0 => rfl
 | n + 1 => by simp only [idsHP, idsH, idsHP_eq n, idsOP_eq hF n]
theorem reachP_eq {n0 : Nat} : ∀ (k : Nat) (todo acc : List Nat), reachP F σ n0 k todo acc = reach σ n0 k todo acc
 | 0, _, _ => rfl
 | _ + 1, [], _ => rfl
 | k + 1, i :: todo, acc => by
  simp only [reachP, reach, idsOP_eq hF i]
  cases Nat.ble n0 i <;> cases elemN i acc <;> exact reachP_eq k _ _
theorem bldP_eq {n0 : Nat} {L : List Nat} : ∀ (r : List (Nat × Nat)) (t : Tr AO), bldP F σ n0 L r t = bld σ n0 L r t
 | [], _ => rfl
 | (i, j) :: r, t => by
  simp only [bldP, bld]
  cases ho : σ.get i with
  | none => exact bldP_eq r t
  | some o =>
   simp only
   cases e : elemN i F with
   | true => simp only [plO_ren (hF i o e ho)]; exact bldP_eq r _
   | false =>
    simp only
    cases renOb n0 L o with
    | none => rfl
    | some o => exact bldP_eq r _
end
theorem cleanP_eq {F : List Nat} {n0 : Nat} {τ0 : Tmps} {st : St} (hF : ∀ i o, elemN i F = true → st.σ.get i = some o → plO o = true) : cleanP F n0 τ0 st = clean n0 τ0 st := by
 simp only [cleanP, clean, cleanLP, cleanL, idsHP_eq hF, reachP_eq hF, bldP_eq hF]
 rfl
theorem cleanK_spec {D : List HD} {K : List Fm} {n0 : Nat} {τ0 : Tmps} {st : St} {k : St → Option Out} {r : Out} (h : cleanK S D K n0 τ0 st k = some r) : k (clean n0 τ0 st) = some r := by
 unfold cleanK at h
 split at h
 · exact h
 · obtain ⟨h1, h2⟩ := condsK_spec h
   rw [cleanP_eq h2] at h1
   exact h1
theorem appK_spec {σ : Hp} {ats : Array TypeId} {s x : AV} {k : Res → Option Out} {r : Out} (h : appK E σ ats s x k = some r) : ∃ res, builtinV E σ .append ats [s, x] = some res ∧ k res = some r := by
 unfold appK at h
 split at h
 · rename_i e hk hz
   have hz2 : (∃ e', (ats[1]?).bind E.ty = some (.slice e')) ∨ (ats[1]?).bind E.ty = some .str := by
    split at hz
    · rename_i e' he; exact .inl ⟨e', he⟩
    · rename_i he; exact .inr he
    · cases hz
   clear hz
   split at h
   · rename_i new n hel
     split at h
     · rename_i z hz0
       rcases brec h with ⟨_, h⟩ | ⟨hcond, h⟩
       · cases h
       · split at h
         · rcases brec h with ⟨hn, h⟩ | ⟨hn, h⟩
           · refine ⟨_, ?_, h⟩
             cases n with
             | zero => exact absurd hn (by decide)
             | succ m => rcases hz2 with ⟨e', hz2⟩ | hz2 <;> (unfold builtinV; simp only [hk, hz2, hel, hcond, hz0])
           · have := Nat.eq_of_beq_eq_true hn; subst this
             refine ⟨_, ?_, h⟩
             rcases hz2 with ⟨e', hz2⟩ | hz2 <;> (unfold builtinV; simp only [hk, hz2, hel, hcond, hz0])
         · split at h
           · rename_i ro l hget
             split at h
             · rename_i hsz
               rcases brec h with ⟨_, h⟩ | ⟨h1, h⟩
               · cases h
               rcases brec h with ⟨_, h⟩ | ⟨h2, h⟩
               · cases h
               rcases brec h with ⟨hn, h⟩ | ⟨hn, h⟩
               · refine ⟨_, ?_, h⟩
                 cases n with
                 | zero => exact absurd hn (by decide)
                 | succ m => rcases hz2 with ⟨e', hz2⟩ | hz2 <;> (unfold builtinV; simp only [hk, hz2, hel, hcond, hz0, hget, hsz, h1, h2, Bool.and_self])
               · have := Nat.eq_of_beq_eq_true hn; subst this
                 refine ⟨_, ?_, h⟩
                 rcases hz2 with ⟨e', hz2⟩ | hz2 <;> (unfold builtinV; simp only [hk, hz2, hel, hcond, hz0, hget, hsz, h1, h2, Bool.and_self])
             · cases h
           · cases h
         · cases h
     · cases h
   · cases h
 · cases h
theorem keyT_str {t kt : Nat} (h : keyT E t = some (kt, .str)) : E.ty kt = some .str := by
 unfold keyT at h
 split at h
 · split at h
   · simp only [Option.some.injEq, Prod.mk.injEq] at h; obtain ⟨_, h⟩ := h; cases h
   · rename_i h1
     simp only [Option.some.injEq, Prod.mk.injEq] at h; obtain ⟨rfl, _⟩ := h
     exact h1
   · simp only [Option.some.injEq, Prod.mk.injEq] at h; obtain ⟨_, h⟩ := h; cases h
   · simp only [Option.some.injEq, Prod.mk.injEq] at h; obtain ⟨_, h⟩ := h; cases h
   · cases h
 · cases h
theorem findKey_SB {t : Nat} {s : List Nat} {b : Bool} : ∀ {es : List (AV × AV)} {i : Nat}, okSB es = true →
  (hasSB s es = true ∧ ∃ j, findKey E t .str (.str s) es i = some (some (i + j, .bool (getSB s es))) ∧ setSB s b es = es.set j (.str s, .bool b)) ∨
  (hasSB s es = false ∧ getSB s es = false ∧ findKey E t .str (.str s) es i = some none ∧ setSB s b es = es ++ [(.str s, .bool b)])
 | [], i, _ => .inr ⟨rfl, rfl, rfl, rfl⟩
 | (k, v) :: es, i, h => by
  cases k with
  | str u =>
   cases v with
   | bool w =>
    simp only [okSB] at h
    simp only [hasSB, getSB, setSB, findKey, keyEqT, keyEq]
    cases e : lbeq s u with
    | true => exact .inl ⟨rfl, 0, rfl, rfl⟩
    | false =>
     simp only
     rcases findKey_SB (t := t) (s := s) (b := b) (i := i + 1) h with ⟨h1, j, h2, h3⟩ | ⟨h1, h2, h3, h4⟩
     · refine .inl ⟨h1, j + 1, ?_, ?_⟩
       · rw [h2]; congr 3; omega
       · rw [h3]; rfl
     · exact .inr ⟨h1, h2, h3, by rw [h4]; rfl⟩
   | _ => simp [okSB] at h
  | _ => simp [okSB] at h
theorem eqvB_both : ∀ d : Nat, (∀ t x y b, eqvB E d t x y = some b → eqv E d t x y = some b) ∧ (∀ fs xs ys b, eqvFB E d fs xs ys = some b → eqvF E d fs xs ys = some b)
 | 0 => by
  refine ⟨fun t x y b h => by simp [eqvB] at h, fun fs xs ys b h => ?_⟩
  cases fs with
  | nil => simp only [eqvFB] at h; simp only [eqvF]; exact h
  | cons f fs => simp [eqvFB] at h
 | d + 1 => by
  obtain ⟨ih1, ih2⟩ := eqvB_both d
  refine ⟨fun t x y b h => ?_, fun fs xs ys b h => ?_⟩
  · simp only [eqvB] at h
    split at h
    · rename_i fs ht
      split at h
      · split at h
        · split at h
          · rename_i hok
            simp only [eqv, ht, hok]
            exact ih2 _ _ _ _ h
          · cases h
        · cases h
      · cases h
    · exact h
    · exact h
    · exact h
    · cases h
  · cases fs with
    | nil => simp only [eqvFB] at h; simp only [eqvF]; exact h
    | cons f fs =>
     simp only [eqvFB] at h
     simp only [eqvF]
     split at h
     · rename_i hn; rw [hn]; exact ih2 _ _ _ _ h
     · rename_i hn
       rw [hn]; simp only
       split at h
       · rename_i x y hx hy
         rw [hx, hy]; simp only
         split at h
         · rename_i a c ha hc
           rw [ih1 _ _ _ _ ha]
           simp only [Option.some.injEq] at h; subst h
           cases a with
           | true => simp only [Bool.true_and]; exact ih2 _ _ _ _ hc
           | false => rfl
         · cases h
       · cases h
theorem isZ_spec {z c : AV} (h : isZ z c = true) : asZ z c = c := by
 cases z <;> cases c <;> first | (cases h; done) | rfl | skip
 rename_i k n k' n'
 have := ikb_eq (show ikb k' k = true from h); subst this; rfl
theorem isZs_take {l : List AV} : ∀ {zs : List AV} {off : Nat}, isZs l zs off = true → (l.drop off).take zs.length = asZs l zs off
 | [], _, _ => by simp [asZs]
 | z :: zs, off, h => by
  simp only [isZs, Bool.and_eq_true] at h
  have hlt : off < l.length := Nat.le_of_ble_eq_true h.1
  have e : l.getD off .nili = l[off] := by simp [hlt]
  rw [List.drop_eq_getElem_cons hlt, List.length_cons, List.take_succ_cons, isZs_take h.2.2, asZs, isZ_spec h.2.1, e]
theorem isZs_len {l : List AV} : ∀ {zs : List AV} {off : Nat}, zs ≠ [] → isZs l zs off = true → off + zs.length ≤ l.length
 | [], _, h, _ => absurd rfl h
 | [z], off, _, h => by
  simp only [isZs, Bool.and_eq_true] at h
  exact Nat.le_of_ble_eq_true h.1
 | z :: z' :: zs, off, _, h => by
  have h' := h
  unfold isZs at h'
  simp only [Bool.and_eq_true] at h'
  have := isZs_len (by simp) h'.2.2
  simp only [List.length_cons] at this ⊢
  omega
theorem isZs_cut {l zs : List AV} {off : Nat} (hz : zs ≠ []) (h : isZs l zs off = true) : cut l off zs.length = some (asZs l zs off) := by
 unfold cut
 rw [Nat.ble_eq_true_of_le (isZs_len hz h), isZs_take h]
theorem scalL_ne {zs : List AV} (h : scalL zs = true) : zs ≠ [] := by
 rintro rfl; cases h
theorem loadK_spec {t : Nat} {l : List AV} {off : Nat} {k : AV → Option Out} {R : Option Out} {out : Out} (h : loadK E t l off k = some R) (hR : R = some out) :
  ∃ v, k v = some out ∧ ((isAggT E t = some true ∧ (cut l off (E.size t)).map .agg = some v) ∨ (isAggT E t = some false ∧ cut l off 1 = some [v] ∧ l[off]? = some v)) := by
 unfold loadK at h
 split at h
 · rename_i ht
   split at h
   · rename_i zs hz
     split at h
     · rename_i h1 h2
       simp only [Option.some.injEq] at h; subst h
       rcases brec hR with ⟨_, h⟩ | ⟨hb, h⟩
       · cases h
       · refine ⟨_, h, .inl ⟨by simp only [isAggT, ht], ?_⟩⟩
         rw [← Nat.eq_of_beq_eq_true h2, isZs_cut (scalL_ne h1) hb]; rfl
     · cases h
   · cases h
 · rename_i ht
   split at h
   · rename_i zs hz
     split at h
     · rename_i h1 h2
       simp only [Option.some.injEq] at h; subst h
       rcases brec hR with ⟨_, h⟩ | ⟨hb, h⟩
       · cases h
       · refine ⟨_, h, .inl ⟨by simp only [isAggT, ht], ?_⟩⟩
         rw [← Nat.eq_of_beq_eq_true h2, isZs_cut (scalL_ne h1) hb]; rfl
     · cases h
   · cases h
 · rename_i kt hnA hnS ht
   split at h
   · rename_i z hz
     split at h
     · rename_i h1
       simp only [Option.some.injEq] at h; subst h
       rcases brec hR with ⟨_, h⟩ | ⟨hb, h⟩
       · cases h
       · have hc := isZs_cut (zs := [z]) (by simp) hb
         have hlt : off < l.length := isZs_len (zs := [z]) (by simp) hb
         have e : l.getD off .nili = l[off] := by simp [hlt]
         simp only [isZs, Bool.and_eq_true] at hb
         refine ⟨_, h, .inr ⟨?_, hc, ?_⟩⟩
         · unfold isAggT; rw [ht]
           cases kt <;> first | rfl | exact (hnA _ _ rfl).elim | exact (hnS _ rfl).elim
         · rw [isZ_spec hb.2.1, e, List.getElem?_eq_getElem hlt]
     · cases h
   · cases h
 · cases h
theorem opK_spec {τ : Tmps} {σ : Hp} {o : Op} {k : Res → Option Out} {r : Out} (h : opK E τ σ o k = some r) : ∃ res, op E τ σ o = some res ∧ k res = some r := by
 have dflt : ∀ {o : Op}, (match opF E τ σ o with | some r => k r | none => none) = some r → ∃ res, op E τ σ o = some res ∧ k res = some r := by
  intro o h
  rw [opF_eq] at h
  split at h
  · rename_i res hr
    exact ⟨res, hr, h⟩
  · cases h
 unfold opK at h
 split at h
 · simp only [evF_eq] at h
   split at h
   · rename_i h1 h2 h3
     split at h
     · rename_i hsz
       rcases brec h with ⟨_, h⟩ | ⟨hb, h⟩
       · cases h
       · exact ⟨_, by simp only [op, h1, h2, h3, hb, hsz], h⟩
     · cases h
   all_goals first
    | (cases h; done)
    | (rename_i h1 h2 h3
       rcases brec h with ⟨_, h⟩ | ⟨hb, h⟩
       · cases h
       · exact ⟨_, by simp only [op, h1, h2, h3, idx_inB hb, Option.map_some], h⟩)
 · rename_i t x i
   simp only [evF_eq] at h
   split at h
   · rename_i s ik j h1 h2 h3
     rcases brec h with ⟨_, h⟩ | ⟨hb, h⟩
     · cases h
     · refine ⟨_, ?_, h⟩
       cases j with
       | negSucc m => cases hb
       | ofNat m =>
        have hm : m < s.length := Nat.le_of_ble_eq_true hb
        simp only [op, h1, h2, h3, List.getElem?_eq_getElem hm, Option.map_some]
        simp [List.getD, hm]
   · rename_i len e cs ik j h1 h2 h3
     split at h
     · rename_i R hR
       rcases brec h with ⟨_, h⟩ | ⟨hb, h⟩
       · cases h
       · obtain ⟨v, hk, hv⟩ := loadK_spec hR h
         refine ⟨_, ?_, hk⟩
         simp only [op, h1, h2, h3, idx_inB hb, part]
         rcases hv with ⟨ha, hv⟩ | ⟨ha, hv, hv2⟩
         · simp only [ha, hv, Option.map_some]
         · simp only [ha, hv2, Option.map_some]
     · exact dflt h
   · exact dflt h
 · rename_i x
   simp only [evF_eq] at h
   split at h
   · rename_i id h1
     split at h
     · rename_i s pos h2
       rcases brec h with ⟨hp, h⟩ | ⟨hp, h⟩
       · refine ⟨_, ?_, h⟩
         have : s[pos]? = none := by
          rw [List.getElem?_eq_none_iff]
          have := Nat.not_le_of_not_ble_eq_true (n := pos + 1) (m := s.length) (by rw [hp]; simp)
          omega
         simp only [op, h1, h2, this]
       · have hm : pos < s.length := Nat.le_of_ble_eq_true hp
         have hd : s.getD pos 0 = s[pos] := by simp [List.getD, hm]
         rw [hd] at h
         rcases brec h with ⟨hb, h⟩ | ⟨hb, h⟩
         · exact ⟨_, by simp only [op, h1, h2, List.getElem?_eq_getElem hm, hb]; rfl, h⟩
         · exact ⟨_, by simp only [op, h1, h2, List.getElem?_eq_getElem hm, hb]; rfl, h⟩
     · cases h
   · cases h
 · rename_i b t x y hh
   simp only [evF_eq] at h
   split at h
   · rename_i k1 n k2 m h1 h2
     split at h
     · rename_i hk
       rcases brec h with ⟨hm, h⟩ | ⟨hm, h⟩
       · exact ⟨_, by simp only [op, h1, h2, binop, hk, arith, hm, Option.map_some], h⟩
       · cases h
     · cases h
   · rename_i k1 n k2 m h1 h2
     split at h
     · rename_i hk
       rcases brec h with ⟨hm, h⟩ | ⟨hm, h⟩
       · exact ⟨_, by simp only [op, h1, h2, binop, hk, arith, hm, Option.map_some], h⟩
       · cases h
     · cases h
   · rename_i xs ys h1 h2
     split at h
     · rename_i r hr
       have := (eqvB_both 40).1 _ _ _ _ hr
       exact ⟨_, by simp only [op, h1, h2, binop, this, Option.map_some], h⟩
     · cases h
   · rename_i xs ys h1 h2
     split at h
     · rename_i r hr
       have := (eqvB_both 40).1 _ _ _ _ hr
       exact ⟨_, by simp only [op, h1, h2, binop, this, Option.map_some], h⟩
     · cases h
   · exact dflt h
 · simp only [evF_eq] at h
   split at h
   · rename_i t hc
     split at h
     · rename_i x y hx hy
       split at h
       · rename_i v hv
         have e := pickV_spec hv
         clear hv
         subst e
         refine ⟨_, ?_, h⟩
         cases t <;> simp only [op, hc, hx, hy, Option.map_some, choose2]
       · rcases brec h with ⟨rfl, h⟩ | ⟨rfl, h⟩
         · exact ⟨_, by simp only [op, hc, hy, Option.map_some], h⟩
         · exact ⟨_, by simp only [op, hc, hx, Option.map_some], h⟩
     · cases h
   · cases h
 · rename_i c
   split at h
   · rename_i s x hc ha
     obtain ⟨res, h1, h2⟩ := appK_spec h
     exact ⟨res, by simp only [op, callV, hc, ha]; exact h1, h2⟩
   · exact dflt h
 · rename_i t m key ok
   simp only [evF_eq] at h
   split at h
   · rename_i kt0 e id s kt h1 h2 h3 h4
     split at h
     · rename_i es hget hz
       rcases brec h with ⟨_, h⟩ | ⟨hok, h⟩
       · cases h
       · refine ⟨_, ?_, h⟩
         have hf : findK E (kt, .str) (.str s) es = findKey E kt .str (.str s) es 0 := by
          unfold findK
          have : keyFit E 9 kt (.str s) = true := by simp only [keyFit, keyT_str h4]
          simp only [this]
         simp only [op, h1, h2, h3, h4, hget, hz, hf]
         rcases findKey_SB (E := E) (t := kt) (s := s) (b := false) (i := 0) hok with ⟨a1, j, a2, _⟩ | ⟨a1, a2, a3, _⟩
         · rw [a2, a1]; cases ok <;> rfl
         · rw [a3, a1, a2]; cases ok <;> rfl
     · exact dflt h
   · exact dflt h
 · rename_i t m key x
   simp only [evF_eq] at h
   split at h
   · rename_i id s b kt h2 h3 h4 h5
     split at h
     · rename_i es hget
       rcases brec h with ⟨_, h⟩ | ⟨hok, h⟩
       · cases h
       · refine ⟨_, ?_, h⟩
         have hf : findK E (kt, .str) (.str s) es = findKey E kt .str (.str s) es 0 := by
          unfold findK
          have : keyFit E 9 kt (.str s) = true := by simp only [keyFit, keyT_str h5]
          simp only [this]
         simp only [op, h2, h3, h4, h5, hget, mapSet, hf]
         rcases findKey_SB (E := E) (t := kt) (s := s) (b := b) (i := 0) hok with ⟨a1, j, a2, a3⟩ | ⟨a1, a2, a3, a4⟩
         · rw [a2, a3]; simp only [Nat.zero_add, Option.map_some]
         · rw [a3, a4]; simp only [Option.map_some]
     · cases h
   · exact dflt h
 · rename_i t a
   simp only [evF_eq] at h
   split at h
   · rename_i R hR
     split at hR
     · rename_i id off ha
       split at hR
       · rename_i ro l hget
         obtain ⟨v, hk, hv⟩ := loadK_spec hR h
         refine ⟨_, ?_, hk⟩
         rcases hv with ⟨hA, hv⟩ | ⟨hA, hv, _⟩
         · simp only [op, ha, loadV, hA, loadC, hget, hv, Option.map_some]
         · simp only [op, ha, loadV, hA, loadC, hget, hv, Option.map_some]
       · cases hR
     · rename_i g off ha
       split at hR
       · rename_i l hget
         obtain ⟨v, hk, hv⟩ := loadK_spec hR h
         refine ⟨_, ?_, hk⟩
         rcases hv with ⟨hA, hv⟩ | ⟨hA, hv, _⟩
         · simp only [op, ha, loadV, hA, loadC, hget, hv, Option.map_some]
         · simp only [op, ha, loadV, hA, loadC, hget, hv, Option.map_some]
       · cases hR
     · cases hR
   · exact dflt h
 · rename_i t a x
   simp only [evF_eq] at h
   split at h
   · rename_i id off v ha hx
     split at h
     · rename_i l hget
       split at h
       · rename_i b hA hn ho
         rcases brec h with ⟨_, h⟩ | ⟨hb, h⟩
         · cases h
         · refine ⟨_, ?_, h⟩
           simp only [op, ha, hx, storeV, hget, hA, hn, ho, hb, Option.map_some]
       · cases h
     · cases h
   · cases h
 · exact dflt h
mutual
theorem avbK_spec {k : Option Out} {r : Out} (a b : AV) (h : avbK k a b = some r) : avbeq a b = true ∧ k = some r := by
 unfold avbK at h
 split at h
 · split at h
   · rename_i e
     rcases brec h with ⟨_, h⟩ | ⟨h1, h⟩
     · cases h
     · exact ⟨by simp only [avbeq, e, h1], h⟩
   · cases h
 · rename_i x y
   rcases brec h with ⟨_, h'⟩ | ⟨h1, h'⟩
   · cases h'
   · exact ⟨by have := bbeq_eq h1; subst this; cases x <;> rfl, h'⟩
 · rcases brec h with ⟨_, h⟩ | ⟨h1, h⟩
   · cases h
   · exact ⟨by simp only [avbeq, h1], h⟩
 · rcases brec h with ⟨_, h⟩ | ⟨h1, h⟩
   · cases h
   rcases brec h with ⟨_, h⟩ | ⟨h2, h⟩
   · cases h
   · exact ⟨by simp only [avbeq, h1, h2], h⟩
 · obtain ⟨h1, h2⟩ := avbKL_spec _ _ h
   exact ⟨by simp only [avbeq, h1], h2⟩
 · obtain ⟨h1, h2⟩ := avbKL_spec _ _ h
   exact ⟨by simp only [avbeq, h1], h2⟩
 · rcases brec h with ⟨_, h⟩ | ⟨h1, h⟩
   · cases h
   · exact ⟨h1, h⟩
theorem avbKL_spec {k : Option Out} {r : Out} (a b : List AV) (h : avbKL k a b = some r) : avbeqL a b = true ∧ k = some r := by
 cases a with
 | nil => cases b with
  | nil => simp only [avbKL] at h; exact ⟨rfl, h⟩
  | cons y m => simp only [avbKL] at h; cases h
 | cons x l => cases b with
  | nil => simp only [avbKL] at h; cases h
  | cons y m =>
   simp only [avbKL] at h
   obtain ⟨h1, h2⟩ := avbK_spec x y h
   obtain ⟨h3, h4⟩ := avbKL_spec l m h2
   exact ⟨by simp only [avbeqL, h1, h3], h4⟩
end
theorem lookK_spec {o : Oper} {i a : Nat} {τ τ' : Tmps} {k : Option Out} {r : Out} : ∀ {ph : Phs} {nx : Option Nat}, lookK E o i a τ τ' k nx ph = some r → lookOK E o i a τ τ' nx ph = true ∧ k = some r
 | [], _, h => ⟨rfl, h⟩
 | (σ, am, hh) :: ph, nx, h => by
  have core : ∀ b : Bool, (match b, msHas am i with
    | false, false => (match cstL τ o.op with
     | true => lookK E o i a τ τ' k hh ph
     | false => opK E τ σ o.op fun r => match r with
      | .val v _ => match o.dst with
       | none => lookK E o i a τ τ' k hh ph
       | some d => match τ'.get d with
        | some w => avbK (lookK E o i a τ τ' k hh ph) w v
        | none => lookK E o i a τ τ' k hh ph
      | _ => none)
    | _, _ => lookK E o i a τ τ' k hh ph) = some r →
    (match b, msHas am i with
    | false, false => (match lookSame E o τ τ' σ with
     | true => lookOK E o i a τ τ' hh ph
     | false => false)
    | _, _ => lookOK E o i a τ τ' hh ph) = true ∧ k = some r := by
   intro b h
   cases b with
   | true =>
    obtain ⟨h1, h2⟩ := lookK_spec (ph := ph) h
    exact ⟨h1, h2⟩
   | false =>
    cases hm : msHas am i with
    | true =>
     rw [hm] at h
     obtain ⟨h1, h2⟩ := lookK_spec (ph := ph) h
     exact ⟨h1, h2⟩
    | false =>
     rw [hm] at h
     simp only at h ⊢
     split at h
     · rename_i hc
       obtain ⟨h1, h2⟩ := lookK_spec h
       exact ⟨by simp only [lookSame, hc, h1], h2⟩
     · rename_i hc
       obtain ⟨res, ho, h⟩ := opK_spec h
       split at h
       · rename_i v σ'
         split at h
         · rename_i hd
           obtain ⟨h1, h2⟩ := lookK_spec h
           exact ⟨by simp only [lookSame, hc, ho, hd, h1], h2⟩
         · rename_i d hd
           split at h
           · rename_i w hw
             obtain ⟨h0, h⟩ := avbK_spec _ _ h
             obtain ⟨h1, h2⟩ := lookK_spec h
             exact ⟨by simp only [lookSame, hc, ho, hd, hw, h0, h1], h2⟩
           · rename_i hw
             obtain ⟨h1, h2⟩ := lookK_spec h
             exact ⟨by simp only [lookSame, hc, ho, hd, hw, h1], h2⟩
       · cases h
  cases nx with
  | none => exact core false h
  | some x => exact core (msHas a x) h
theorem looksK_spec {ops : Array Oper} {ph : Phs} {k : Option Out} {r : Out} : ∀ {lk : Lks}, looksK E ops ph k lk = some r → looksOK E ops ph lk = true ∧ k = some r
 | [], h => ⟨rfl, h⟩
 | (o, i, a, τ, τ') :: lk, h => by
  simp only [looksK] at h
  simp only [looksOK]
  split at h
  · rename_i e
    rw [e]; simp only
    exact looksK_spec h
  · rename_i hne
    obtain ⟨h1, h2⟩ := lookK_spec h
    obtain ⟨h3, h4⟩ := looksK_spec h2
    refine ⟨?_, h4⟩
    split
    · exact h3
    · rw [h1]; simp only; exact h3
mutual
theorem frzK_spec {pl : Bool} {out : Out} (v : AV) {k : AV → Hp → Option Out} {σ : Hp} (h : frzK pl k v σ = some out) : k (frzArg v σ).1 (frzArg v σ).2 = some out := by
 cases v with
 | sl id off len cl sz =>
  simp only [frzK] at h
  simp only [frzArg]
  split at h
  · rename_i ro l hget
    rcases brec h with ⟨hp, h⟩ | ⟨hp, h⟩
    · cases pl
      case true => cases h
      simp only at h
      split at h
      · rename_i r hr; rw [hr]; exact h
      · rename_i hr; rw [hr]; exact h
    · have : frz 5000 (.sl id off len cl sz) σ = some (.csl (l.drop off) len, σ.set id (.cells true l)) := by
       rw [show (5000 : Nat) = 4999 + 1 from rfl]
       simp only [frz, hget, hp]
      rw [this]; exact h
  · rename_i hget
    have : frz 5000 (.sl id off len cl sz) σ = none := by
     rw [show (5000 : Nat) = 4999 + 1 from rfl]
     simp only [frz]
    rw [this]; exact h
 | agg l =>
  simp only [frzK] at h
  simp only [frzArg]
  exact frzKs_spec l h
 | _ => simp only [frzK] at h; simp only [frzArg]; exact h
theorem frzKs_spec {pl : Bool} {out : Out} (l : List AV) {k : List AV → Hp → Option Out} {σ : Hp} (h : frzKs pl k l σ = some out) : k (frzArgs l σ).1 (frzArgs l σ).2 = some out := by
 cases l with
 | nil => simp only [frzKs] at h; simp only [frzArgs]; exact h
 | cons v vs =>
  simp only [frzKs] at h
  have h1 := frzK_spec v h
  have h2 := frzKs_spec vs h1
  simp only [frzArgs]
  exact h2
end
theorem Tr.set_self {α : Type} : ∀ (t : Tr α) {k : Nat} {v : α}, t.get k = some v → t.set k v = t
 | .lf, k, v, h => by rw [Tr.get_lf] at h; cases h
 | .nd l w r, k, v, h => by
  rw [Tr.get_nd] at h
  rw [Tr.set_nd]
  cases k with
  | zero => simp only at h ⊢; rw [h]
  | succ k =>
   simp only at h ⊢
   cases e : Nat.beq ((k + 1) % 2) 1 with
   | true => rw [e] at h; simp only at h ⊢; rw [Tr.set_self l h]
   | false => rw [e] at h; simp only at h ⊢; rw [Tr.set_self r h]
theorem guardK_spec {ops : Array Oper} {st : St} {o : Oper} {no yes : St → Option Out} {r : Out} (h : guardK ops st o no yes = some r) : (wantedA ops st.τ o = some false ∧ no st = some r) ∨ (wantedA ops st.τ o = some true ∧ yes st = some r) := by
 unfold guardK at h
 unfold wantedA
 split at h
 · rename_i hg; rw [hg]; exact .inr ⟨rfl, h⟩
 · rename_i j want hg
   rw [hg]; simp only
   split at h
   · rename_i d hd
     rw [hd]; simp only
     split at h
     · rename_i b hb
       have hs : { st with τ := st.τ.set d (.bool b) } = st := by rw [Tr.set_self _ hb]
       rw [hb]; simp only
       rcases brec h with ⟨rfl, h⟩ | ⟨rfl, h⟩ <;> rcases brec h with ⟨rfl, h⟩ | ⟨rfl, h⟩ <;> rw [hs] at h
       · exact .inr ⟨rfl, h⟩
       · exact .inl ⟨rfl, h⟩
       · exact .inl ⟨rfl, h⟩
       · exact .inr ⟨rfl, h⟩
     · rename_i hb; rw [hb]; exact .inl ⟨rfl, h⟩
     · cases h
   · cases h
theorem knowT_spec {st : St} {x : Operand} {t : Bool} (h : ev st.τ x = some (.bool t)) : knowT st x t = st := by
 unfold knowT
 split
 · rename_i d
   have : st.τ.get d = some (.bool t) := h
   rw [Tr.set_self _ this]
 · rfl
noncomputable def resS (E : Env) (call : CallF) (hs : Hnds) (st : St) (r : Res) (dst : Option Nat) : Option St :=
 match r with
 | .val v σ => putS { st with σ := σ } dst v
 | .skip σ => putS { st with σ := σ } dst undefA
 | .call f args => match doCall E call hs f args st.σ st.Λ with
  | some (v, σ, Λ) => putS { st with σ := σ, Λ := Λ } dst v
  | none => none
 | .yld l args => match doYield hs l args st.σ st.Λ with
  | some (v, σ, Λ) => putS { st with σ := σ, Λ := Λ } dst v
  | none => none
 | .dfr f args => match st.rnd with
  | true => none
  | false => putS { st with ds := (f, args) :: st.ds } dst undefA
 | .recov => match st.rnd with
  | true => none
  | false => putS st dst .nili
theorem oneOp_resS {call : CallF} {hs : Hnds} {ops : Array Oper} {o : Oper} {st : St} : oneOp E call hs ops o st = match wantedA ops st.τ o with
  | none => none
  | some false => putS st o.dst undefA
  | some true => match op E st.τ st.σ o.op with
   | none => none
   | some r => resS E call hs st r o.dst := by
 unfold oneOp
 cases wantedA ops st.τ o with
 | none => rfl
 | some w =>
  cases w with
  | false => rfl
  | true =>
   simp only
   cases op E st.τ st.σ o.op with
   | none => rfl
   | some r => cases r <;> rfl
theorem callK_spec (hS : S.ok E) {ev : Ev} {f : Nat} {args : List AV} {σ : Hp} {Λ : List LF} {r : Rt} {K : List Fm} {k : Cfg → Option Out} {out : Out} (h : callK E S ev f args σ Λ r K k = some out) :
  ∃ c', k c' = some out ∧ ∀ res, den E c' = some res → ∃ v σ' Λ', callN E ev.n f args σ (toHs E ev.D) Λ = some (v, σ', Λ') ∧ contV E (contE E K) r v σ' Λ' = some res := by
 unfold callK at h
 split at h
 · cases h
 · rename_i m hm
   rw [hm]
   split at h
   · rename_i c v hv
     rcases brec h with ⟨_, h⟩ | ⟨rfl, h⟩
     · cases h
     · exact ⟨_, h, fun res hr => ⟨v, σ, Λ, by simp only [callN, hS _ _ _ hv], hr⟩⟩
   split at h
   · rename_i v hv
     exact ⟨_, h, fun res hr => ⟨v, σ, Λ, by simp only [callN, hv], hr⟩⟩
   · rename_i hv
     split at h
     · cases h
     · rename_i fn hfn
       split at h
       · cases h
       · rename_i body hbody
         refine ⟨_, h, fun res hr => ?_⟩
         simp only [den] at hr
         simp only [callN, hv, hfn, hbody]
         split at hr
         · rename_i e st hx
           rw [hx]
           simp only
           simp only [contE] at hr
           split at hr
           · cases hr
           · rename_i hne
             split at hr
             · cases hr
             · rename_i σ1 Λ1 hd
               split at hr
               · rename_i v hvs
                 refine ⟨v, σ1, Λ1, ?_, hr⟩
                 cases e with
                 | exit i => exact absurd rfl (hne i)
                 | normal => simp only [hd, hvs]
                 | ret => simp only [hd, hvs]
               · rename_i vs hnv hvs
                 refine ⟨.tup vs, σ1, Λ1, ?_, hr⟩
                 have : (match some vs with
                  | some [v] => some (v, σ1, Λ1)
                  | some vs => some (AV.tup vs, σ1, Λ1)
                  | none => none) = some (AV.tup vs, σ1, Λ1) := by
                  split
                  · rename_i v e; simp only [Option.some.injEq] at e; exact absurd e (hnv v)
                  · rename_i e; simp only [Option.some.injEq] at e; rw [e]
                  · rename_i e; cases e
                 cases e with
                 | exit i => exact absurd rfl (hne i)
                 | normal => simp only [hd, hvs]
                 | ret => simp only [hd, hvs]
               · cases hr
         · cases hr
theorem hndOf_deepM {l : Nat} : ∀ {hs : Hnds}, hndOf (deepen hs) l = (hndOf hs l).map deeper
 | [] => rfl
 | (i, h) :: hs => by
  simp only [deepen, hndOf]
  cases Nat.beq i l with
  | true => rfl
  | false => exact hndOf_deepM
theorem fD_spec {l : Nat} : ∀ {D : List HD} {Λ pre Λ1 : List LF} {h : HD} {D' : List HD}, fD D l Λ = some (pre, h, D', Λ1) → ∃ g, hndOf (toHs E D) l = some g ∧
  ∀ az σ b σ' Λ2, rangeH E (callN E h.n) (toHs E D') h.nt h.τ h.params h.asg.c h.body.c az σ Λ1 = some (b, σ', Λ2) → g az σ Λ = some (b, σ', pre ++ Λ2)
 | [], Λ, pre, Λ1, h, D', hh => by cases hh
 | x :: D, Λ, pre, Λ1, h, D', hh => by
  simp only [fD] at hh
  simp only [toHs, hndOf]
  split at hh
  · rename_i e
    simp only [Option.some.injEq, Prod.mk.injEq] at hh; obtain ⟨rfl, rfl, rfl, rfl⟩ := hh
    rw [e]
    exact ⟨_, rfl, fun az σ b σ' Λ2 h => h⟩
  · rename_i e
    rw [e]
    simp only
    split at hh
    · cases hh
    · rename_i lf Λ'
      split at hh
      · rename_i pre1 y hy
        simp only [Option.some.injEq, Prod.mk.injEq] at hh; obtain ⟨rfl, rfl⟩ := hh
        obtain ⟨g, g1, g2⟩ := fD_spec hy
        refine ⟨deeper g, by rw [hndOf_deepM, g1]; rfl, fun az σ b σ' Λ2 h => ?_⟩
        simp only [deeper, g2 az σ b σ' Λ2 h]
        rfl
      · cases hh
theorem yldK_spec {ev : Ev} {l : Nat} {args : List AV} {σ : Hp} {Λ : List LF} {r : Rt} {K : List Fm} {k : Cfg → Option Out} {out : Out} (h : yldK ev l args σ Λ r K k = some out) :
  ∃ c', k c' = some out ∧ ∀ res, den E c' = some res → ∃ v σ' Λ', doYield (toHs E ev.D) l args σ Λ = some (v, σ', Λ') ∧ contV E (contE E K) r v σ' Λ' = some res := by
 unfold yldK at h
 split at h
 · rename_i pre hd D lf Λ1 hf
   split at h
   · cases h
   · rename_i hdone
     split at h
     · cases h
     · rename_i τ hτ
       refine ⟨_, h, fun res hr => ?_⟩
       obtain ⟨g, g1, g2⟩ := fD_spec (E := E) hf
       simp only [den] at hr
       split at hr
       · rename_i e st hx
         simp only [contE] at hr
         cases e with
         | normal =>
          simp only at hr
          split at hr
          · rename_i e2 st2 hx2
            split at hr
            · rename_i hds
              refine ⟨.bool e2.isNormal, st2.σ, pre ++ ⟨!e2.isNormal, e2⟩ :: st2.Λ, ?_, hr⟩
              have : rangeH E (callN E hd.n) (toHs E D) hd.nt hd.τ hd.params hd.asg.c hd.body.c args σ (lf :: Λ1) = some (e2.isNormal, st2.σ, ⟨!e2.isNormal, e2⟩ :: st2.Λ) := by
               simp only [rangeH, hdone, hτ, hx, hx2, hds]
              simp only [doYield, g1, g2 _ _ _ _ _ this]
            · cases hr
          · cases hr
         | exit i => cases hr
         | ret => cases hr
       · cases hr
 · cases h
theorem resK_spec (hS : S.ok E) {ev : Ev} {st : St} {r : Res} {rt : Rt} {K : List Fm} {k : Cfg → Option Out} {put : AV → St → Option Out} {dst : Option Nat} {contO : St → Option Rr} {out : Out}
  (hput : ∀ v s out, put v s = some out → ∃ c', k c' = some out ∧ ∀ res, den E c' = some res → ∃ s', putS s dst v = some s' ∧ contO s' = some res)
  (hrt : ∀ v σ Λ res, contV E (contE E K) rt v σ Λ = some res → ∃ s', putS ⟨st.τ, σ, st.ds, Λ, st.nt, st.rnd⟩ dst v = some s' ∧ contO s' = some res) (h : resK E S ev st r rt K k put = some out) :
  ∃ c', k c' = some out ∧ ∀ res, den E c' = some res → ∃ s', resS E (callN E ev.n) (toHs E ev.D) st r dst = some s' ∧ contO s' = some res := by
 unfold resK at h
 cases r with
 | val v σ => exact hput _ _ _ h
 | skip σ => exact hput _ _ _ h
 | call f args =>
  simp only at h
  split at h
  · rename_i hf
    have h := frzKs_spec args h
    obtain ⟨c', h1, h2⟩ := callK_spec hS h
    refine ⟨c', h1, fun res hr => ?_⟩
    obtain ⟨v, σ', Λ', h3, h4⟩ := h2 res hr
    obtain ⟨s', h5, h6⟩ := hrt _ _ _ _ h4
    refine ⟨s', ?_, h6⟩
    simp only [resS, doCall, hf]
    rw [show frzArgs args st.σ = ((frzArgs args st.σ).1, (frzArgs args st.σ).2) from rfl]
    simp only [h3]
    exact h5
  · rename_i hf
    obtain ⟨c', h1, h2⟩ := callK_spec hS h
    refine ⟨c', h1, fun res hr => ?_⟩
    obtain ⟨v, σ', Λ', h3, h4⟩ := h2 res hr
    obtain ⟨s', h5, h6⟩ := hrt _ _ _ _ h4
    exact ⟨s', by simp only [resS, doCall, hf, h3]; exact h5, h6⟩
 | yld l args =>
  obtain ⟨c', h1, h2⟩ := yldK_spec (E := E) h
  refine ⟨c', h1, fun res hr => ?_⟩
  obtain ⟨v, σ', Λ', h3, h4⟩ := h2 res hr
  obtain ⟨s', h5, h6⟩ := hrt _ _ _ _ h4
  exact ⟨s', by simp only [resS, h3]; exact h5, h6⟩
 | dfr f args =>
  simp only at h
  split at h
  · cases h
  · rename_i hr
    obtain ⟨c', h1, h2⟩ := hput _ _ _ h
    refine ⟨c', h1, fun res hx => ?_⟩
    obtain ⟨s', h3, h4⟩ := h2 res hx
    refine ⟨s', ?_, h4⟩
    unfold resS
    simp only
    split
    · rename_i e; rw [hr] at e; cases e
    · exact h3
 | recov =>
  simp only at h
  split at h
  · cases h
  · rename_i hr
    obtain ⟨c', h1, h2⟩ := hput _ _ _ h
    refine ⟨c', h1, fun res hx => ?_⟩
    obtain ⟨s', h3, h4⟩ := h2 res hx
    refine ⟨s', ?_, h4⟩
    unfold resS
    simp only
    split
    · rename_i e; rw [hr] at e; cases e
    · exact h3
theorem opsK_spec (hS : S.ok E) {pc : PC} {j : Nat} {rest : List Oper} {st : St} {ev : Ev} {K : List Fm} {k : Cfg → Option Out} {out : Out} (h : opsK E S pc j rest st ev K k = some out) :
  ∃ c', k c' = some out ∧ ∀ res, den E c' = some res → den E ⟨.op pc j rest st, ev, K⟩ = some res := by
 unfold opsK at h
 cases rest with
 | nil => exact ⟨_, h, fun res hr => hr⟩
 | cons o os =>
  simp only at h
  have hput : ∀ v s out, (match putS s o.dst v with
    | some s => k ⟨.op pc (j + 1) os s, ev, K⟩
    | none => none) = some out → ∃ c', k c' = some out ∧ ∀ res, den E c' = some res → ∃ s', putS s o.dst v = some s' ∧ (match runOps E (callN E ev.n) (toHs E ev.D) (opsOf pc.c) os s' with
     | some s => contE E K ev .normal s
     | none => none) = some res := by
   intro v s out h
   split at h
   · rename_i s' hs
     exact ⟨_, h, fun res hr => ⟨s', hs, hr⟩⟩
   · cases h
  have fin : ∀ {c' : Cfg}, (∀ res, den E c' = some res → ∃ s', oneOp E (callN E ev.n) (toHs E ev.D) (opsOf pc.c) o st = some s' ∧ (match runOps E (callN E ev.n) (toHs E ev.D) (opsOf pc.c) os s' with
        | some s => contE E K ev .normal s
        | none => none) = some res) → ∀ res, den E c' = some res → den E ⟨.op pc j (o :: os) st, ev, K⟩ = some res := by
   intro c' h res hr
   obtain ⟨s', h1, h2⟩ := h res hr
   simp only [den, runOps, h1]
   exact h2
  rcases guardK_spec h with ⟨hw, h⟩ | ⟨hw, h⟩
  · obtain ⟨c', h1, h2⟩ := hput _ _ _ h
    refine ⟨c', h1, fin (fun res hr => ?_)⟩
    obtain ⟨s', h3, h4⟩ := h2 res hr
    exact ⟨s', by rw [oneOp_resS, hw]; exact h3, h4⟩
  · obtain ⟨r, hop, h⟩ := opK_spec h
    obtain ⟨c', h1, h2⟩ := resK_spec hS (dst := o.dst) (contO := fun s' => match runOps E (callN E ev.n) (toHs E ev.D) (opsOf pc.c) os s' with
      | some s => contE E K ev .normal s
      | none => none) hput (fun v σ Λ res hr => by
     simp only [contV] at hr
     split at hr
     · cases hr
     · rename_i s hs
       refine ⟨s, hs, ?_⟩
       split at hr
       · cases hr
       · rename_i s2 hs2
         simp only [hs2]; exact hr) h
    refine ⟨c', h1, fin (fun res hr => ?_)⟩
    obtain ⟨s', h3, h4⟩ := h2 res hr
    exact ⟨s', by rw [oneOp_resS, hw]; simp only [hop]; exact h3, h4⟩
end
end Go.Eng


namespace Go.Eng
open Go
attribute [local irreducible] upTo
section
variable {E : Env} {S : Sy}
theorem restD_done {ev : Ev} {d : DR} {st : St} (h : d.os = [] ∨ d.fs = []) : restD E ev d st = match (match d.q with | true => true | false => looksOK E d.ops d.ph d.lk) with
  | true => some st
  | false => none := by
 have : runD E (callN E ev.n) (toHs E ev.D) d.ops d.n0 d.os d.fs d.i st d.ph d.lk = some (st, d.ph, d.lk) := by
  rcases h with h | h
  · rw [h]; cases d.fs <;> rfl
  · rw [h]; cases d.os <;> rfl
 unfold restD
 rw [this]
 rfl
theorem restD_step {ev : Ev} {d : DR} {st : St} {o : Oper} {os : List Oper} {f : Inf} {fs : List Inf} (ho : d.os = o :: os) (hf : d.fs = f :: fs) : restD E ev d st = match oneD E (callN E ev.n) (toHs E ev.D) d.ops d.n0 f o st with
  | none => none
  | some s => restD E ev (({ d with os := os, fs := fs } : DR).nxt o f st.τ s) s := by
 unfold restD
 rw [ho, hf]
 simp only [runD]
 cases oneD E (callN E ev.n) (toHs E ev.D) d.ops d.n0 f o st with
 | none => rfl
 | some s =>
  obtain ⟨c, a, kk⟩ := f
  match c with
  | 0 => rfl
  | 1 => rfl
  | n + 2 => rfl
theorem drK_spec (hS : S.ok E) {d : DR} {st : St} {ev : Ev} {K : List Fm} {k : Cfg → Option Out} {out : Out} (h : drK E S d st ev K k = some out) :
  ∃ c', k c' = some out ∧ ∀ res, den E c' = some res → den E ⟨.dr d st, ev, K⟩ = some res := by
 unfold drK at h
 split at h
 · rename_i o os f fs ho hf
   simp only at h
   have hput : ∀ v s out, (match putS s o.dst v with
     | some s => k ⟨.dr (({ d with os := os, fs := fs } : DR).nxt o f st.τ s) s, ev, K⟩
     | none => none) = some out → ∃ c', k c' = some out ∧ ∀ res, den E c' = some res → ∃ s', putS s o.dst v = some s' ∧ (match restD E ev (({ d with os := os, fs := fs } : DR).nxt o f st.τ s') s' with
      | some s => contE E K ev .normal s
      | none => none) = some res := by
    intro v s out h
    split at h
    · rename_i s' hs
      exact ⟨_, h, fun res hr => ⟨s', hs, hr⟩⟩
    · cases h
   have fin : ∀ {c' : Cfg}, (∀ res, den E c' = some res → ∃ s', oneD E (callN E ev.n) (toHs E ev.D) d.ops d.n0 f o st = some s' ∧ (match restD E ev (({ d with os := os, fs := fs } : DR).nxt o f st.τ s') s' with
         | some s => contE E K ev .normal s
         | none => none) = some res) → ∀ res, den E c' = some res → den E ⟨.dr d st, ev, K⟩ = some res := by
    intro c' h res hr
    obtain ⟨s', h1, h2⟩ := h res hr
    simp only [den]
    rw [restD_step ho hf, h1]
    exact h2
   split at h
   · rename_i hc
     rcases guardK_spec h with ⟨hw, h⟩ | ⟨hw, h⟩
     · obtain ⟨c', h1, h2⟩ := hput _ _ _ h
       refine ⟨c', h1, fin (fun res hr => ?_)⟩
       obtain ⟨s', h3, h4⟩ := h2 res hr
       exact ⟨s', by unfold oneD; rw [hc]; simp only [hw]; exact h3, h4⟩
     · split at h
       · rename_i v ao hn
         obtain ⟨c', h1, h2⟩ := hput _ _ _ h
         refine ⟨c', h1, fin (fun res hr => ?_)⟩
         obtain ⟨s', h3, h4⟩ := h2 res hr
         exact ⟨s', by unfold oneD; rw [hc]; simp only [hw, hn]; exact h3, h4⟩
       · cases h
   · rename_i hc
     have hone : oneD E (callN E ev.n) (toHs E ev.D) d.ops d.n0 f o st = oneOp E (callN E ev.n) (toHs E ev.D) d.ops o st := oneD_of_oneOp (fun e => hc e)
     rcases guardK_spec h with ⟨hw, h⟩ | ⟨hw, h⟩
     · obtain ⟨c', h1, h2⟩ := hput _ _ _ h
       refine ⟨c', h1, fin (fun res hr => ?_)⟩
       obtain ⟨s', h3, h4⟩ := h2 res hr
       exact ⟨s', by rw [hone, oneOp_resS, hw]; exact h3, h4⟩
     · obtain ⟨r, hop, h⟩ := opK_spec h
       obtain ⟨c', h1, h2⟩ := resK_spec hS (dst := o.dst) (contO := fun s' => match restD E ev (({ d with os := os, fs := fs } : DR).nxt o f st.τ s') s' with
         | some s => contE E K ev .normal s
         | none => none) hput (fun v σ Λ res hr => by
        simp only [contV] at hr
        split at hr
        · cases hr
        · rename_i s hs
          refine ⟨s, hs, ?_⟩
          split at hr
          · cases hr
          · rename_i s2 hs2
            simp only [hs2]; exact hr) h
       refine ⟨c', h1, fin (fun res hr => ?_)⟩
       obtain ⟨s', h3, h4⟩ := h2 res hr
       exact ⟨s', by rw [hone, oneOp_resS, hw]; simp only [hop]; exact h3, h4⟩
 · rename_i hne
   have hd : d.os = [] ∨ d.fs = [] := by
    cases ho : d.os with
    | nil => exact .inl rfl
    | cons o os =>
     cases hf : d.fs with
     | nil => exact .inr rfl
     | cons f fs => exact absurd hf (hne o os f fs ho)
   split at h
   · rename_i hq
     refine ⟨_, h, fun res hr => ?_⟩
     simp only [den, restD_done hd, hq]
     exact hr
   · rename_i hq
     obtain ⟨hl, h⟩ := looksK_spec h
     refine ⟨_, h, fun res hr => ?_⟩
     simp only [den, restD_done hd, hq, hl]
     exact hr
theorem rounds_upTo {ev : Ev} {b : Code} {n0 : Nat} {τ0 : Tmps} : ∀ (k m : Nat) (st : St) {r : Ex × St}, rounds E ev b n0 τ0 (2 ^ k + m) st = some r →
  (∃ st1, upTo (fun s => roundC n0 τ0 (exec E (callN E ev.n) b (toHs E ev.D) s)) k st = some (none, st1) ∧ rounds E ev b n0 τ0 m st1 = some r) ∨
  (upTo (fun s => roundC n0 τ0 (exec E (callN E ev.n) b (toHs E ev.D) s)) k st = some (some r.1, r.2))
 | 0, m, st, r, h => by
  rw [show 2 ^ 0 + m = m + 1 by omega] at h
  simp only [rounds] at h
  rw [upTo]
  split at h
  · rename_i st1 hx
    refine .inl ⟨clean n0 τ0 st1, ?_, h⟩
    rw [hx]; rfl
  · rename_i hne
    obtain ⟨e, s⟩ := r
    refine .inr ?_
    rw [h]
    cases e with
    | normal => exact absurd h (fun h => hne s h)
    | exit i => rfl
    | ret => rfl
 | k + 1, m, st, r, h => by
  have e : 2 ^ (k + 1) + m = 2 ^ k + (2 ^ k + m) := by rw [Nat.pow_succ]; omega
  rw [e] at h
  rw [upTo]
  rcases rounds_upTo k (2 ^ k + m) st h with ⟨st1, h1, h2⟩ | h1
  · rw [h1]
    exact rounds_upTo k m st1 h2
  · rw [h1]; exact .inr rfl
theorem loop_den (hsy : E.sy = true) {ev : Ev} {b : Code} {st : St} {r : Ex × St} (h : rounds E ev b st.σ.n st.τ (2 ^ 20) st = some r) : exec E (callN E ev.n) (.loop b) (toHs E ev.D) st = some r := by
 rw [exec_loop, hsy]
 simp only
 rcases rounds_upTo 20 0 st h with ⟨st1, h1, h2⟩ | h1
 · cases h2
 · rw [h1]
theorem exK_spec (hS : S.ok E) (hsy : E.sy = true) {pc : PC} {st : St} {ev : Ev} {K : List Fm} {k : Cfg → Option Out} {out : Out} (h : exK E S pc st ev K k = some out) :
  ∃ c', k c' = some out ∧ ∀ res, den E c' = some res → den E ⟨.ex pc st, ev, K⟩ = some res := by
 obtain ⟨pf, pp, c⟩ := pc
 unfold exK at h
 cases c with
 | skip => exact ⟨_, h, fun res hr => hr⟩
 | label l => exact ⟨_, h, fun res hr => hr⟩
 | exit i => exact ⟨_, h, fun res hr => hr⟩
 | ret => exact ⟨_, h, fun res hr => hr⟩
 | goto l => cases h
 | refuse w => cases h
 | scope b => exact ⟨_, h, fun res hr => hr⟩
 | region id ops d =>
  cases d with
  | false =>
   refine ⟨_, h, fun res hr => ?_⟩
   simp only [den, opsOf] at hr
   simp only [den, exec_region]
   split at hr
   · rename_i s hs; rw [hs]; exact hr
   · cases hr
  | true =>
   simp only at h
   have key : ∀ {pc : PC} {ops' : Array Oper} {fs : List Inf} {na : Nat} {res : Rr}, den E ⟨.dr (drOf pc ops' fs na st) { st with σ := ⟨st.σ.t, st.σ.n + na⟩ }, ev, K⟩ = some res →
     ∃ s, runDrawQ E (callN E ev.n) (toHs E ev.D) ops' fs na st = some s ∧ contE E K ev .normal s = some res := by
    intro pc ops' fs na res hr
    simp only [den, restD, drOf] at hr
    split at hr
    · rename_i s hs
      refine ⟨s, ?_, hr⟩
      unfold runDrawQ
      exact hs
    · cases hr
   split at h
   · rename_i fs na hpl
     refine ⟨_, h, fun res hr => ?_⟩
     obtain ⟨s, h1, h2⟩ := key hr
     simp only [den, exec_regionD, runDraw, hpl, h1]
     exact h2
   · rename_i hpl
     split at h
     · cases h
     · rename_i ops' hpm
       split at h
       · rename_i fs na hpl2
         refine ⟨_, h, fun res hr => ?_⟩
         obtain ⟨s, h1, h2⟩ := key hr
         simp only [den, exec_regionD, runDraw, hpl, hpm, runDrawP, hpl2, h1]
         exact h2
       · cases h
 | seq a b =>
  refine ⟨_, h, fun res hr => ?_⟩
  simp only [den] at hr ⊢
  rw [exec_seq]
  split at hr
  · rename_i e s hs
    rw [hs]
    cases e with
    | normal => exact hr
    | exit i => exact hr
    | ret => exact hr
  · cases hr
 | cond x a b =>
  simp only [evF_eq] at h
  split at h
  · rename_i t ht
    rcases brec h with ⟨rfl, h⟩ | ⟨rfl, h⟩
    · rw [knowT_spec ht] at h
      refine ⟨_, h, fun res hr => ?_⟩
      simp only [den] at hr ⊢
      rw [exec_cond, ht]; exact hr
    · rw [knowT_spec ht] at h
      refine ⟨_, h, fun res hr => ?_⟩
      simp only [den] at hr ⊢
      rw [exec_cond, ht]; exact hr
  · cases h
 | block i b =>
  refine ⟨_, h, fun res hr => ?_⟩
  simp only [den] at hr ⊢
  rw [exec_block]
  split at hr
  · rename_i e s hs
    rw [hs]
    cases e with
    | normal => exact hr
    | exit j => exact hr
    | ret => exact hr
  · cases hr
 | loop b =>
  refine ⟨_, h, fun res hr => ?_⟩
  simp only [den] at hr ⊢
  have key : ∀ e s, rounds E ev b st.σ.n st.τ (2 ^ 20) st = some (e, s) → contE E K ev e s = some res → (match exec E (callN E ev.n) (.loop b) (toHs E ev.D) st with
    | some (e, st) => contE E K ev e st
    | none => none) = some res := by
   intro e s h1 h2
   rw [loop_den hsy h1]; exact h2
  have e20 : (2 : Nat) ^ 20 = 1048575 + 1 := by decide
  split at hr
  · rename_i e s hs
    cases e with
    | normal =>
     simp only [contE] at hr
     split at hr
     · rename_i e2 s2 h2
       refine key e2 s2 ?_ hr
       rw [e20]
       show (match exec E (callN E ev.n) b (toHs E ev.D) st with
        | some (.normal, st') => rounds E ev b st.σ.n st.τ 1048575 (clean st.σ.n st.τ st')
        | r => r) = _
       rw [hs]; exact h2
     · cases hr
    | exit i =>
     refine key _ s ?_ hr
     rw [e20]
     show (match exec E (callN E ev.n) b (toHs E ev.D) st with
       | some (.normal, st') => rounds E ev b st.σ.n st.τ 1048575 (clean st.σ.n st.τ st')
       | r => r) = _
     rw [hs]
    | ret =>
     refine key _ s ?_ hr
     rw [e20]
     show (match exec E (callN E ev.n) b (toHs E ev.D) st with
       | some (.normal, st') => rounds E ev b st.σ.n st.τ 1048575 (clean st.σ.n st.τ st')
       | r => r) = _
     rw [hs]
  · cases hr
 | rangeFunc x ps a b =>
  simp only [evF_eq] at h
  split at h
  · rename_i g first caps hx
    obtain ⟨c', h1, h2⟩ := callK_spec hS h
    refine ⟨c', h1, fun res hr => ?_⟩
    obtain ⟨v, σ', Λ', h3, h4⟩ := h2 res hr
    simp only [den]
    rw [exec_rangeFunc, hx]
    simp only [toHs] at h3
    simp only [h3]
    simp only [contV] at h4
    split at h4
    · exact h4
    · cases h4
  · cases h
theorem retK_spec {e : Ex} {st : St} {ev : Ev} {K : List Fm} {k : Cfg → Option Out} {out : Out} (h : retK E S e st ev K k = some out) :
  ∃ c', k c' = some out ∧ ∀ res, den E c' = some res → den E ⟨.rt e st, ev, K⟩ = some res := by
 unfold retK at h
 cases K with
 | nil => cases h
 | cons F K =>
  cases F with
  | seq b =>
   cases e with
   | normal => exact ⟨_, h, fun res hr => hr⟩
   | exit i => exact ⟨_, h, fun res hr => hr⟩
   | ret => exact ⟨_, h, fun res hr => hr⟩
  | asg b =>
   cases e with
   | normal => exact ⟨_, h, fun res hr => hr⟩
   | exit i => cases h
   | ret => cases h
  | blk i =>
   cases e with
   | normal => exact ⟨_, h, fun res hr => hr⟩
   | exit i => exact ⟨_, h, fun res hr => hr⟩
   | ret => exact ⟨_, h, fun res hr => hr⟩
  | lop b n0 τ0 j =>
   cases e with
   | normal =>
    simp only at h
    split at h
    · cases h
    · rename_i j
      have h := cleanK_spec h
      refine ⟨_, h, fun res hr => ?_⟩
      simp only [den, contE, rounds] at hr ⊢
      split at hr
      · rename_i e2 s2 h2
        cases e2 with
        | normal => simp only [h2]; exact hr
        | exit i => simp only [h2]; exact hr
        | ret => simp only [h2]; exact hr
      · cases hr
   | exit i => exact ⟨_, h, fun res hr => hr⟩
   | ret => exact ⟨_, h, fun res hr => hr⟩
  | cal rs r =>
   simp only at h
   have key : ∀ {c' : Cfg}, (∃ vs, resultsA E st.τ st.σ rs = some vs ∧ st.ds = [] ∧ ((∃ v, vs = [v] ∧ c' = ⟨.vl r v st.σ st.Λ, ev, K⟩) ∨ ((∀ v, vs ≠ [v]) ∧ c' = ⟨.vl r (.tup vs) st.σ st.Λ, ev, K⟩))) → (∀ i, e ≠ .exit i) → ∀ res, den E c' = some res → den E ⟨.rt e st, ev, .cal rs r :: K⟩ = some res := by
    rintro c' ⟨vs, h1, h2, h3⟩ hne res hr
    have hd : runDefers E (callN E ev.n) (toHs E ev.D) st.ds st.σ st.Λ = some (st.σ, st.Λ) := by rw [h2]; rfl
    have : (match resultsA E st.τ st.σ rs with
     | some [v] => contV E (contE E K) r v st.σ st.Λ
     | some vs => contV E (contE E K) r (.tup vs) st.σ st.Λ
     | none => none) = some res := by
     rcases h3 with ⟨v, rfl, rfl⟩ | ⟨hnv, rfl⟩
     · rw [h1]; exact hr
     · rw [h1]
       split
       · rename_i v e; simp only [Option.some.injEq] at e; exact absurd e (hnv v)
       · rename_i e; simp only [Option.some.injEq] at e; rw [← e]; exact hr
       · rename_i e; cases e
    simp only [den, contE]
    cases e with
    | exit i => exact absurd rfl (hne i)
    | normal => simp only [hd]; exact this
    | ret => simp only [hd]; exact this
   cases e with
   | exit i => cases h
   | normal =>
    simp only at h
    split at h
    · rename_i hds
      split at h
      · rename_i v hv
        exact ⟨_, h, key ⟨_, hv, hds, .inl ⟨v, rfl, rfl⟩⟩ (fun i h => by cases h)⟩
      · rename_i vs hnv hv
        exact ⟨_, h, key ⟨_, hv, hds, .inr ⟨fun v e => hnv v (by rw [e]), rfl⟩⟩ (fun i h => by cases h)⟩
      · cases h
    · cases h
   | ret =>
    simp only at h
    split at h
    · rename_i hds
      split at h
      · rename_i v hv
        exact ⟨_, h, key ⟨_, hv, hds, .inl ⟨v, rfl, rfl⟩⟩ (fun i h => by cases h)⟩
      · rename_i vs hnv hv
        exact ⟨_, h, key ⟨_, hv, hds, .inr ⟨fun v e => hnv v (by rw [e]), rfl⟩⟩ (fun i h => by cases h)⟩
      · cases h
    · cases h
  | rnd pre r =>
   simp only at h
   split at h
   · rename_i hds
     refine ⟨_, h, fun res hr => ?_⟩
     simp only [den, contE, hds]
     exact hr
   · cases h
mutual
theorem frzD_spec {out : Out} : ∀ (n : Nat) (v : AV) {σ : Hp} {k : AV → Hp → Option Out}, frzD n v σ k = some out → ∃ v' σ', frz n v σ = some (v', σ') ∧ k v' σ' = some out
 | 0, v, σ, k, h => by simp only [frzD] at h; cases h
 | n + 1, v, σ, k, h => by
  cases v with
  | sl id off len cl sz =>
   simp only [frzD] at h
   simp only [frz]
   split at h
   · rename_i ro l hget
     rcases brec h with ⟨_, h⟩ | ⟨hp, h⟩
     · cases h
     · exact ⟨_, _, by rw [hget]; simp only [hp], h⟩
   · cases h
  | agg l =>
   simp only [frzD] at h
   obtain ⟨l', σ', h1, h2⟩ := frzDL_spec n l h
   exact ⟨_, _, by simp only [frz, h1], h2⟩
  | ifc t v =>
   simp only [frzD] at h
   obtain ⟨l', σ', h1, h2⟩ := frzD_spec n v h
   exact ⟨_, _, by simp only [frz, h1], h2⟩
  | ptr | mp | iter | fn | yld | tup | cp => simp only [frzD] at h; cases h
  | _ => simp only [frzD] at h; exact ⟨_, _, by simp only [frz], h⟩
theorem frzDL_spec {out : Out} : ∀ (n : Nat) (l : List AV) {σ : Hp} {k : List AV → Hp → Option Out}, frzDL n l σ k = some out → ∃ l' σ', frzL n l σ = some (l', σ') ∧ k l' σ' = some out
 | n, [], σ, k, h => by
  have : frzDL n [] σ k = k [] σ := by cases n <;> simp only [frzDL]
  rw [this] at h
  exact ⟨_, _, by cases n <;> simp only [frzL], h⟩
 | 0, _ :: _, σ, k, h => by simp only [frzDL] at h; cases h
 | n + 1, v :: vs, σ, k, h => by
  simp only [frzDL] at h
  obtain ⟨v', σ', h1, h2⟩ := frzD_spec n v h
  obtain ⟨l', σ'', h3, h4⟩ := frzDL_spec n vs h2
  exact ⟨_, _, by simp only [frzL, h1, h3], h4⟩
end
theorem doneK_spec {v : AV} {σ : Hp} {out : Out} (h : doneK v σ = some out) : ∃ v', frzV v σ = some v' ∧ out = .done v' := by
 cases v with
 | tup l =>
  simp only [doneK] at h
  obtain ⟨l', σ', h1, h2⟩ := frzDL_spec 5000 _ h
  simp only [Option.some.injEq] at h2; subst h2
  exact ⟨_, by simp only [frzV, h1], rfl⟩
 | _ =>
  simp only [doneK] at h
  obtain ⟨l', σ', h1, h2⟩ := frzD_spec 5000 _ h
  simp only [Option.some.injEq] at h2; subst h2
  exact ⟨_, by simp only [frzV, h1], rfl⟩
theorem valK_spec {r : Rt} {v : AV} {σ : Hp} {Λ : List LF} {ev : Ev} {K : List Fm} {k : Cfg → Option Out} {out : Out} (h : valK r v σ Λ K k = some out) :
  (∃ v', out = .done v' ∧ den E ⟨.vl r v σ Λ, ev, K⟩ = some (v, σ, []) ∧ frzV v σ = some v') ∨ ∃ c', k c' = some out ∧ ∀ res, den E c' = some res → den E ⟨.vl r v σ Λ, ev, K⟩ = some res := by
 unfold valK at h
 cases r with
 | top =>
  simp only at h
  split at h
  · obtain ⟨v', h1, rfl⟩ := doneK_spec h
    exact .inl ⟨v', rfl, rfl, h1⟩
  · cases h
 | op pc j dst rest τ ds nt rnd ev' =>
  simp only at h
  split at h
  · rename_i s hs
    refine .inr ⟨_, h, fun res hr => ?_⟩
    simp only [den] at hr
    simp only [den, contV, hs]
    split at hr
    · rename_i s2 h2; simp only [h2]; exact hr
    · cases hr
  · cases h
 | dr d o f τ ds nt rnd ev' =>
  simp only at h
  split at h
  · rename_i s hs
    refine .inr ⟨_, h, fun res hr => ?_⟩
    simp only [den] at hr
    simp only [den, contV, hs]
    split at hr
    · rename_i s2 h2; simp only [h2]; exact hr
    · cases hr
  · cases h
 | rng τ ds nt rnd ev' =>
  simp only at h
  split at h
  · exact .inr ⟨_, h, fun res hr => hr⟩
  · cases h
theorem stepK_spec (hS : S.ok E) (hsy : E.sy = true) {c : Cfg} {k : Cfg → Option Out} {out : Out} (h : stepK E S c k = some out) :
  (∃ v v0 σ, out = .done v ∧ den E c = some (v0, σ, []) ∧ frzV v0 σ = some v) ∨ ∃ c', k c' = some out ∧ ∀ res, den E c' = some res → den E c = some res := by
 obtain ⟨cu, ev, K⟩ := c
 unfold stepK at h
 cases cu with
 | ex pc st => exact .inr (exK_spec hS hsy h)
 | op pc j rest st => exact .inr (opsK_spec hS h)
 | dr d st => exact .inr (drK_spec hS h)
 | rt e st => exact .inr (retK_spec h)
 | vl r v σ Λ =>
  rcases valK_spec (E := E) (ev := ev) h with ⟨v', h1, h2⟩ | h
  · exact .inl ⟨v', v, σ, h1, h2⟩
  · exact .inr h
def Goto (E : Env) (c c' : Cfg) : Prop := ∀ res, den E c' = some res → den E c = some res
theorem Goto.refl (c : Cfg) : Goto E c c := fun _ h => h
theorem Goto.trans {a b c : Cfg} (h : Goto E a b) (k : Goto E b c) : Goto E a c := fun r x => h r (k r x)
theorem adv_spec (hS : S.ok E) (hsy : E.sy = true) : ∀ {n : Nat} {c : Cfg} {out : Out}, adv E S n c = some out → match out with
  | .stop c' => Goto E c c'
  | .done v => ∃ v0 σ, den E c = some (v0, σ, []) ∧ frzV v0 σ = some v
 | 0, c, out, h => by cases h
 | n + 1, c, out, h => by
  simp only [adv] at h
  rcases stepK_spec hS hsy h with ⟨v, v0, σ, rfl, h1⟩ | ⟨c1, h1, h2⟩
  · exact ⟨v0, σ, h1⟩
  · split at h1
    · simp only [Option.some.injEq] at h1; subst h1
      exact h2
    · have := adv_spec hS hsy h1
      cases out with
      | stop c' => exact Goto.trans h2 this
      | done v => obtain ⟨v0, σ, h3, h4⟩ := this; exact ⟨v0, σ, h2 _ h3, h4⟩
noncomputable def callC (f : Nat) (args : List AV) (n : Nat) (fn : Func) (body : Code) : Cfg :=
 ⟨.ex ⟨f, [], body⟩ ⟨tmps0 fn.ntmps (.full (dep fn.ntmps)) 0 args, .empty, [], [], args.length + (fn.ntmps - args.length), false⟩, ⟨n, []⟩, [.cal fn.results.toList .top]⟩
theorem callC_spec {f : Nat} {args : List AV} {n : Nat} {fn : Func} {body : Code} {v : AV} {σ : Hp} {Λ : List LF} (hx : E.ext f args = none) (hf : E.fn f = some fn) (hb : fn.body = some body) (h : den E (callC f args n fn body) = some (v, σ, Λ)) :
  callN E (n + 1) f args .empty [] [] = some (v, σ, Λ) := by
 have h0 : callK E ⟨fun _ _ => none, fun _ => true, false, []⟩ ⟨n + 1, []⟩ f args .empty [] .top [] (fun c => match c.cu with | _ => some (.stop c)) = some (.stop (callC f args n fn body)) := by
  simp only [callK, hx, hf, hb]; rfl
 obtain ⟨c', h1, h2⟩ := callK_spec (fun _ _ _ h => by cases h) h0
 simp only [Option.some.injEq, Out.stop.injEq] at h1; subst h1
 obtain ⟨v', σ', Λ', h3, h4⟩ := h2 _ h
 simp only [contV, Option.some.injEq, Prod.mk.injEq] at h4; obtain ⟨rfl, rfl, rfl⟩ := h4
 exact h3
end
end Go.Eng


namespace Go.Eng
open Go
noncomputable def codeAt (c : Code) : List Nat → Code
 | [] => c
 | i :: p => match c with
  | .seq a b => match i with | 0 => codeAt a p | _ => codeAt b p
  | .cond _ a b => match i with | 0 => codeAt a p | _ => codeAt b p
  | .block _ b => codeAt b p
  | .loop b => codeAt b p
  | .scope b => codeAt b p
  | .rangeFunc _ _ a b => match i with | 0 => codeAt a p | _ => codeAt b p
  | _ => .skip
noncomputable def bodyOf (E : Env) (f : Nat) : Code :=
 match E.fn f with
 | some fn => match fn.body with
  | some b => b
  | none => .skip
 | none => .skip
noncomputable def pcOf (E : Env) (f : Nat) (p : List Nat) : PC := ⟨f, p, codeAt (bodyOf E f) p.reverse⟩
noncomputable def tmOf (nt : Nat) : List (Nat × AV) → Tmps
 | [] => .full (dep nt)
 | (i, v) :: l => (tmOf nt l).set i v
noncomputable def hpOf (n : Nat) : List (Nat × AO) → Hp
 | [] => ⟨.full 22, n⟩
 | (i, o) :: l => ⟨(hpOf n l).t.set i o, n⟩
noncomputable def startC (E : Env) (f : Nat) (args : List AV) (n : Nat) : Cfg :=
 match E.fn f with
 | some fn => match fn.body with
  | some b => callC f args n fn b
  | none => ⟨.rt .ret ⟨.lf, .empty, [], [], 0, false⟩, ⟨0, []⟩, []⟩
 | none => ⟨.rt .ret ⟨.lf, .empty, [], [], 0, false⟩, ⟨0, []⟩, []⟩
theorem startC_spec {E : Env} {f : Nat} {args : List AV} {n : Nat} {v : AV} {σ : Hp} {Λ : List LF} (hx : E.ext f args = none) (hf : ∃ fn b, E.fn f = some fn ∧ fn.body = some b) (h : den E (startC E f args n) = some (v, σ, Λ)) : callN E (n + 1) f args .empty [] [] = some (v, σ, Λ) := by
 obtain ⟨fn, b, h1, h2⟩ := hf
 simp only [startC, h1, h2] at h
 exact callC_spec hx h1 h2 h
end Go.Eng


namespace Go.Eng
open Go
def Tells (v w : AV) : Prop := ∀ V R, VR V v R → VR V w R
def TellsL (v w : List AV) : Prop := ∀ V R, VRs V v R → VRs V w R
theorem Tells.refl (v : AV) : Tells v v := fun _ _ h => h
theorem Tells.trans {a b c : AV} (h : Tells a b) (k : Tells b c) : Tells a c := fun V R x => k V R (h V R x)
theorem TellsL.refl (v : List AV) : TellsL v v := fun _ _ h => h
theorem TellsL.nil : TellsL [] [] := fun _ _ h => h
theorem TellsL.cons {a b : AV} {l m : List AV} (h : Tells a b) (k : TellsL l m) : TellsL (a :: l) (b :: m) := fun V R x => by
 obtain ⟨X, Xs, rfl, hX, hXs⟩ := x.cons_inv
 exact .cons (h V X hX) (k V Xs hXs)
theorem VRs.splitL {V : View} : ∀ {a c : List AV} {R : List Value}, VRs V (a ++ c) R → ∃ R1 R2, R = R1 ++ R2 ∧ VRs V a R1 ∧ VRs V c R2
 | [], c, R, h => ⟨[], R, rfl, .nil _, h⟩
 | x :: a, c, R, h => by
  obtain ⟨X, Xs, rfl, h1, h2⟩ := VRs.cons_inv (az := a ++ c) h
  obtain ⟨R1, R2, rfl, h3, h4⟩ := VRs.splitL h2
  exact ⟨X :: R1, R2, rfl, .cons h1 h3, h4⟩
theorem VRs.joinL {V : View} : ∀ {a c : List AV} {R1 R2 : List Value}, VRs V a R1 → VRs V c R2 → VRs V (a ++ c) (R1 ++ R2)
 | [], c, R1, R2, h, k => by cases h.nil_inv; exact k
 | x :: a, c, R1, R2, h, k => by
  obtain ⟨X, Xs, rfl, h1, h2⟩ := h.cons_inv
  exact .cons h1 (VRs.joinL h2 k)
theorem TellsL.append {a b c d : List AV} (h : TellsL a b) (k : TellsL c d) : TellsL (a ++ c) (b ++ d) := by
 intro V R hx
 obtain ⟨R1, R2, rfl, h1, h2⟩ := hx.splitL
 exact (h V _ h1).joinL (k V _ h2)
theorem Tells.agg {a b : List AV} (h : TellsL a b) : Tells (.agg a) (.agg b) := fun V R x => by
 obtain ⟨L, rfl, hL⟩ := x.agg_inv
 exact .agg' (h V L hL)
theorem Tells.csl {t : Ty} {l : List t.den} : Tells (.csl (flat t l) l.length) (.vs t false l) := fun V R x => by
 obtain ⟨blk, o, cap, A, f, hk, hv, hc, rfl, ha⟩ := x.csl_inv
 exact .vs t l blk o cap A f hk hv hc ha
theorem Tells.nils {t : Ty} : Tells .nils (.vs t true []) := fun V R x => by cases x; exact .vsn t
def Ans (E : Env) (c : Cfg) (v : AV) : Prop := ∃ v0 σ v1, den E c = some (v0, σ, []) ∧ frzV v0 σ = some v1 ∧ Tells v1 v
section
variable {E : Env} {S : Sy} (hS : S.ok E) (hsy : E.sy = true)
include hS hsy
theorem Ans.stop {n : Nat} {c c' : Cfg} {v : AV} (h : adv E S n c = some (.stop c')) (k : Ans E c' v) : Ans E c v := by
 obtain ⟨v0, σ, v1, k, k2⟩ := k
 exact ⟨v0, σ, v1, adv_spec hS hsy h _ k, k2⟩
theorem Ans.doneT {n : Nat} {c : Cfg} {v1 v : AV} (h : adv E S n c = some (.done v1)) (ht : Tells v1 v) : Ans E c v := by
 obtain ⟨v0, σ, h1, h2⟩ := adv_spec hS hsy h
 exact ⟨v0, σ, v1, h1, h2, ht⟩
theorem Ans.done {n : Nat} {c : Cfg} {v v' : AV} (h : adv E S n c = some (.done v)) (e : v = v') : Ans E c v' := Ans.doneT hS hsy h (e ▸ .refl _)
end
section
variable {P : Program} {E : Env}
theorem frzV_spec {base : Nat} {V : View} {σ : Hp} {W : World} {v v' : AV} {R : Value} (H : HR E base V σ W) (hv : VR V v R) (h : frzV v σ = some v') : ∃ V' σ', Fz E base V σ W V' σ' ∧ VR V'.bare v' R := by
 have main : (∀ l, v ≠ .tup l) → (match frz 5000 v σ with | some r => some r.1 | none => none) = some v' → ∃ V' σ', Fz E base V σ W V' σ' ∧ VR V'.bare v' R := by
  intro _ h
  split at h
  · rename_i r hr
    simp only [Option.some.injEq] at h; subst h
    obtain ⟨V', h1, h2⟩ := (frz_both (E := E) (base := base) (W := W) 5000).1 v r.1 V σ r.2 R H hv hr
    exact ⟨V', _, h1, h2⟩
  · cases h
 unfold frzV at h
 split at h
 · rename_i l
   split at h
   · rename_i r hr
     simp only [Option.some.injEq] at h; subst h
     cases hv with
     | tup _ A ha hav =>
      obtain ⟨V', h1, h2⟩ := (frz_both (E := E) (base := base) (W := W) 5000).2 l r.1 V σ r.2 A H ⟨ha, hav⟩ hr
      exact ⟨V', _, h1, .tup _ _ h2.1 h2.2⟩
   · cases h
 · rename_i hne
   exact main (fun l e => hne l e) h
theorem closed_callH (hc : ∀ n, CallOK P E (callN E n)) {n f : Nat} {args : List AV} {v0 v : AV} {σ : Hp} (h : callN E n f args .empty [] [] = some (v0, σ, [])) (hz : frzV v0 σ = some v) {V : View} {A : List Value} {W : World} (ha : VRs V args A) (hcl : args.all (closedA 9) = true)
  (hK : ∀ b o x, V.K b o = some x → W.cell? ⟨b, o, none⟩ = some x) (hg : GlobK E V) :
  ∃ R W' V', KG V V' W W' ∧ VR V' v R ∧ Fr (fun _ => False) W W' ∧ Goes P f A.toArray W R W' := by
 obtain ⟨V1, O', W', R, hP, hr, _, _, _, hv, hgo⟩ := hc n f args .empty [] [] v0 σ [] h W.heap.size invT (alone V) A (fun _ => False) W invT_ok (fun lvl h e => by cases e) (HR.alone hK hg _) (Nat.le_refl _) (closedA_list hcl ha) (fun _ h => h) (fun _ _ h => h) (fun i x hx => by simp [Eng.alone] at hx)
 obtain ⟨V2, σ2, hf, hv2⟩ := frzV_spec hr hv hz
 have hle : V2.bare.le { V with K := V2.K } := ⟨fun _ _ h => by simp [View.bare] at h, fun _ _ h => by simp [View.bare] at h, fun _ _ _ h => h, fun _ _ _ h => by simp [View.bare] at h⟩
 refine ⟨R, W', { V with K := V2.K }, ⟨rfl, rfl, rfl, fun b o x hx => hf.le.K _ _ _ (hP.le.K _ _ _ hx), fun b o x hx => ?_⟩, hv2.mono hle, hP.fr.weaken (fun b _ hb => hb.elim (no_own b) (fun h => h)), hgo⟩
 have hcell := hf.hr.cell _ _ _ hx
 rcases hf.K b o x hx with h1 | h1
 · rcases hP.K b o x h1 with h | (h | h) | h
   · exact .inl h
   · exact absurd h (no_own b)
   · exact h.elim
   · exact .inr ⟨h, hcell⟩
 · rcases hP.own b h1 with h | h
   · exact absurd h (no_own b)
   · exact .inr ⟨h, hcell⟩
theorem frzV_boolI {v : AV} {σ : Hp} {b : Bool} (h : frzV v σ = some (.bool b)) : v = .bool b := by
 unfold frzV at h
 obtain ⟨n, hn⟩ : ∃ n, (5000 : Nat) = n + 1 := ⟨4999, rfl⟩
 rw [hn] at h
 split at h
 · split at h <;> cases h
 · rename_i hne
   cases v with
   | sl id off len cl sz =>
    simp only [frz] at h
    split at h
    · rename_i r hr
      split at hr
      · split at hr
        · simp only [Option.some.injEq] at hr; subst hr; cases h
        · split at hr
          · simp only [Option.some.injEq] at hr; subst hr; cases h
          · cases hr
      · cases hr
    · cases h
   | agg l =>
    simp only [frz] at h
    split at h
    · rename_i r hr
      split at hr
      · simp only [Option.some.injEq] at hr; subst hr; cases h
      · cases hr
    · cases h
   | ifc t v =>
    simp only [frz] at h
    split at h
    · rename_i r hr
      split at hr
      · simp only [Option.some.injEq] at hr; subst hr; cases h
      · cases hr
    · cases h
   | tup l => exact absurd rfl (hne l)
   | ptr | mp | iter | fn | yld | cp => simp only [frz] at h; cases h
   | _ => simp only [frz, Option.some.injEq] at h; exact h
theorem adv_true {S : Sy} (hS : S.ok E) (hsy : E.sy = true) {n m f : Nat} {args : List AV} (hx : E.ext f args = none) (hf : ∃ fn b, E.fn f = some fn ∧ fn.body = some b) (h : adv E S n (startC E f args m) = some (.done (.bool true))) : ∃ σ, callN E (m + 1) f args .empty [] [] = some (.bool true, σ, []) := by
 obtain ⟨v0, σ, h1, h2⟩ := adv_spec hS hsy h
 have := frzV_boolI h2
 subst this
 exact ⟨σ, startC_spec hx hf h1⟩
def AnsF (E : Env) (f : Nat) (args : List AV) (v : AV) : Prop := ∃ n v0 σ v1, callN E n f args .empty [] [] = some (v0, σ, []) ∧ frzV v0 σ = some v1 ∧ Tells v1 v
theorem Ans.call {f : Nat} {args : List AV} {n : Nat} {v : AV} (hx : E.ext f args = none) (hf : ∃ fn b, E.fn f = some fn ∧ fn.body = some b) (h : Ans E (startC E f args n) v) : AnsF E f args v := by
 obtain ⟨v0, σ, v1, h1, h2⟩ := h
 exact ⟨n + 1, v0, σ, v1, startC_spec hx hf h1, h2⟩
def Con (E : Env) (S : Nat → List AV → Option AV) : Prop := ∀ f args v, S f args = some v → ∃ args', TellsL args args' ∧ args'.all (closedA 9) = true ∧ AnsF E f args' v
theorem ExtOK.sayG (hE : EnvOK P E) (hX : ExtOK P E) (hN : NameOK E) (hmix : P.follows .mixedOrders = true) {S : Nat → List AV → Option AV} (hS : Con E S) : ExtOK P (E.say S) := by
 intro f args v h V A W ha hK hg
 have hc := engine_ok hE hX hN hmix
 simp only [Env.say] at h
 split at h
 · rename_i w hw
   simp only [Option.some.injEq] at h; subst h
   obtain ⟨args', h1, h2, n, v0, σ, v1, h3, h4, h5⟩ := hS f args _ hw
   obtain ⟨R, W', V', k1, k2, k3, k4⟩ := closed_callH hc h3 h4 (h1 V A ha) h2 hK hg
   exact ⟨R, W', V', k1, h5 _ _ k2, k3, k4⟩
 · exact hX f args v h V A W ha hK hg
end
noncomputable def under (x : Nat → List AV → Option (Bool × AV)) (f : Nat) (args : List AV) : Option AV :=
 match x f args with
 | some (c, v) => match c with
  | true => some v
  | false => none
 | none => none
theorem under_iff {x : Nat → List AV → Option (Bool × AV)} {f : Nat} {args : List AV} {v : AV} : under x f args = some v ↔ x f args = some (true, v) := by
 unfold under
 split
 · rename_i c w h
   rw [h]
   cases c <;> simp
 · rename_i h; rw [h]; simp
theorem ile_iff {a b : Int} : ile a b = decide (a ≤ b) := ile_eq a b
theorem ieq_iff {a b : Int} : ieq a b = decide (a = b) := by rw [ieq_eq]; rfl
theorem inB_iff {a : Int} {n : Nat} : inB a n = decide (0 ≤ a ∧ a < n) := by
 cases a with
 | ofNat m =>
  simp only [inB]
  by_cases h : m < n
  · rw [Nat.ble_eq_true_of_le h, decide_eq_true]; simp only [Int.ofNat_eq_natCast]; omega
  · rw [decide_eq_false (by simp only [Int.ofNat_eq_natCast]; omega)]
    cases e : Nat.ble (m + 1) n with
    | false => rfl
    | true => exact absurd (Nat.le_of_ble_eq_true e) h
 | negSucc m =>
  simp only [inB]
  rw [decide_eq_false]
  omega
theorem wr_in {n : Int} (h1 : -9223372036854775808 ≤ n) (h2 : n ≤ 9223372036854775807) : wr .i64 n = n := by
 cases n with
 | ofNat m =>
  simp only [wr]
  rw [Nat.ble_eq_true_of_le (by simp only [Int.ofNat_eq_natCast] at h2; omega)]
 | negSucc m =>
  simp only [wr]
  rw [Nat.ble_eq_true_of_le (by omega)]
end Go.Eng


namespace Go.Eng
open Go
noncomputable def tyCast (T t : Ty) (l : List T.den) : Option (List t.den) := if h : Ty.eqb T t = true then some (Ty.eqb_eq h ▸ l) else none
theorem tyCast_spec {T t : Ty} {l : List T.den} {l' : List t.den} (h : tyCast T t l = some l') : ∃ e : T = t, l' = e ▸ l := by
 unfold tyCast at h
 split at h
 · rename_i e
   simp only [Option.some.injEq] at h
   exact ⟨Ty.eqb_eq e, h.symm⟩
 · cases h
noncomputable def rd : (t : Ty) → List AV → Option (t.den × List AV)
 | .int k, l => match l with
  | .int k' n :: l => match ikb k' k with
   | true => some (n, l)
   | false => none
  | _ => none
 | .bool, l => match l with
  | .bool b :: l => some (b, l)
  | _ => none
 | .str, l => match l with
  | .str b :: l => some (b, l)
  | _ => none
 | .nil, l => some ((), l)
 | .cons t ts, l => match rd t l with
  | some (a, l) => match rd ts l with
   | some (b, l) => some ((a, b), l)
   | none => none
  | none => none
 | .sl t, l => match l with
  | .vs T nl x :: l => match tyCast T t x with
   | some x => some ((nl, x), l)
   | none => none
  | .nils :: l => some ((true, []), l)
  | _ => none
theorem TellsL.one {a b : AV} (h : Tells a b) (l : List AV) : TellsL (a :: l) ([b] ++ l) := TellsL.cons h (.refl l)
theorem rd_spec : ∀ (t : Ty) {l r : List AV} {d : t.den}, rd t l = some (d, r) → TellsL l (t.cells d ++ r)
 | .int k, l, r, d, h => by
  simp only [rd] at h
  split at h
  · split at h
    · rename_i hk
      simp only [Option.some.injEq, Prod.mk.injEq] at h; obtain ⟨rfl, rfl⟩ := h
      have := ikb_eq hk; subst this
      exact .refl _
    · cases h
  · cases h
 | .bool, l, r, d, h => by
  simp only [rd] at h
  split at h
  · simp only [Option.some.injEq, Prod.mk.injEq] at h; obtain ⟨rfl, rfl⟩ := h
    exact .refl _
  · cases h
 | .str, l, r, d, h => by
  simp only [rd] at h
  split at h
  · simp only [Option.some.injEq, Prod.mk.injEq] at h; obtain ⟨rfl, rfl⟩ := h
    exact .refl _
  · cases h
 | .nil, l, r, d, h => by
  simp only [rd, Option.some.injEq, Prod.mk.injEq] at h; obtain ⟨_, rfl⟩ := h
  exact .refl _
 | .cons t ts, l, r, d, h => by
  simp only [rd] at h
  split at h
  · rename_i a l1 h1
    split at h
    · rename_i b l2 h2
      simp only [Option.some.injEq, Prod.mk.injEq] at h; obtain ⟨rfl, rfl⟩ := h
      have k1 := rd_spec t h1
      have k2 := rd_spec ts h2
      intro V R hx
      have := TellsL.append (.refl (t.cells a)) k2 V R (k1 V R hx)
      simpa [Ty.cells, List.append_assoc] using this
    · cases h
  · cases h
 | .sl t, l, r, d, h => by
  simp only [rd] at h
  split at h
  · split at h
    · rename_i hc
      simp only [Option.some.injEq, Prod.mk.injEq] at h; obtain ⟨rfl, rfl⟩ := h
      obtain ⟨e, rfl⟩ := tyCast_spec hc
      subst e
      exact .refl _
    · cases h
  · simp only [Option.some.injEq, Prod.mk.injEq] at h; obtain ⟨rfl, rfl⟩ := h
    exact .one .nils _
  · cases h
noncomputable def rdN (t : Ty) : Nat → List AV → Option (List t.den)
 | 0, l => match l with
  | [] => some []
  | _ => none
 | n + 1, l => match rd t l with
  | some (d, l) => match rdN t n l with
   | some ds => some (d :: ds)
   | none => none
  | none => none
theorem rdN_spec {t : Ty} : ∀ {n : Nat} {l : List AV} {ds : List t.den}, rdN t n l = some ds → TellsL l (flat t ds) ∧ ds.length = n
 | 0, l, ds, h => by
  simp only [rdN] at h
  split at h
  · simp only [Option.some.injEq] at h; subst h; exact ⟨.nil, rfl⟩
  · cases h
 | n + 1, l, ds, h => by
  simp only [rdN] at h
  split at h
  · rename_i d l1 h1
    split at h
    · rename_i ds h2
      simp only [Option.some.injEq] at h; subst h
      obtain ⟨k1, k2⟩ := rdN_spec h2
      refine ⟨fun V R hx => ?_, by simp [k2]⟩
      have := TellsL.append (.refl (t.cells d)) k1 V R (rd_spec t h1 V R hx)
      simpa [flat] using this
    · cases h
  · cases h
noncomputable def rdA (t : Ty) (a : AV) : Option t.den :=
 match t with
 | .nil => match a with
  | .agg l => match rd .nil l with
   | some (d, []) => some d
   | _ => none
  | _ => none
 | .cons x y => match a with
  | .agg l => match rd (.cons x y) l with
   | some (d, []) => some d
   | _ => none
  | _ => none
 | .sl t => match a with
  | .csl cells len => match rdN t len cells with
   | some ds => some (false, ds)
   | none => none
  | a => match rd (.sl t) [a] with
   | some (d, []) => some d
   | _ => none
 | t => match rd t [a] with
  | some (d, []) => some d
  | _ => none
theorem TellsL.head {a b : AV} (h : TellsL [a] [b]) : Tells a b := fun V R x => by
 have h1 := h V [R] (.cons x (.nil _))
 obtain ⟨X, Xs, e, hX, _⟩ := h1.cons_inv
 simp only [List.cons.injEq] at e
 rw [e.1]; exact hX
theorem rdN_csl {t : Ty} {n : Nat} {l : List AV} {ds : List t.den} (h : rdN t n l = some ds) : Tells (.csl l n) (.vs t false ds) := by
 obtain ⟨h1, h2⟩ := rdN_spec h
 subst h2
 intro V R hx
 obtain ⟨blk, o, cap, A, f, hk, hv, hc, rfl, ha⟩ := hx.csl_inv
 have hV : VRs V.bare l ((List.range l.length).map f) := ⟨by simp, fun i h h' => by simp only [List.getElem_map, List.getElem_range]; exact hv i h⟩
 have hW := h1 _ _ hV
 have hlen : (flat t ds).length = l.length := by rw [hW.1]; simp
 refine .vs t ds blk o cap A f (fun i hi => hk i (by omega)) (fun i hi => ?_) hc ha
 have := hW.2 i hi (by simp; omega)
 simpa using this
theorem rdA_spec : ∀ (t : Ty) {a : AV} {d : t.den}, rdA t a = some d → Tells a (t.av d)
 | .nil, a, d, h => by
  simp only [rdA] at h
  split at h
  · split at h
    · rename_i h1
      have := rd_spec .nil h1
      exact .agg (by simpa [Ty.cells] using this)
    · cases h
  · cases h
 | .cons x y, a, d, h => by
  simp only [rdA] at h
  split at h
  · split at h
    · rename_i h1
      simp only [Option.some.injEq] at h; subst h
      have := rd_spec (.cons x y) h1
      exact .agg (by simpa [Ty.cells] using this)
    · cases h
  · cases h
 | .sl t, a, d, h => by
  simp only [rdA] at h
  split at h
  · split at h
    · rename_i h1
      simp only [Option.some.injEq] at h; subst h
      exact rdN_csl h1
    · cases h
  · split at h
    · rename_i h1
      simp only [Option.some.injEq] at h; subst h
      have := rd_spec (.sl t) h1
      exact TellsL.head (by simpa [Ty.cells, Ty.av] using this)
    · cases h
 | .int k, a, d, h => by
  simp only [rdA] at h
  split at h
  · rename_i h1
    simp only [Option.some.injEq] at h; subst h
    exact TellsL.head (by simpa [Ty.cells, Ty.av] using rd_spec (.int k) h1)
  · cases h
 | .bool, a, d, h => by
  simp only [rdA] at h
  split at h
  · rename_i h1
    simp only [Option.some.injEq] at h; subst h
    exact TellsL.head (by simpa [Ty.cells, Ty.av] using rd_spec .bool h1)
  · cases h
 | .str, a, d, h => by
  simp only [rdA] at h
  split at h
  · rename_i h1
    simp only [Option.some.injEq] at h; subst h
    exact TellsL.head (by simpa [Ty.cells, Ty.av] using rd_spec .str h1)
  · cases h
theorem cells_closed : ∀ (t : Ty) (d : t.den) (n : Nat), (t.cells d).all (closedA (n + 1)) = true
 | .int _, _, _ => rfl
 | .bool, _, _ => rfl
 | .str, _, _ => rfl
 | .nil, _, _ => rfl
 | .cons t ts, d, n => by simp only [Ty.cells, List.all_append, cells_closed t d.1 n, cells_closed ts d.2 n, Bool.and_self]
 | .sl _, _, _ => rfl
theorem av_closed (t : Ty) (d : t.den) (n : Nat) : closedA (n + 2) (t.av d) = true := by
 cases t with
 | nil => rfl
 | cons t ts =>
  have := cells_closed (.cons t ts) d n
  simp only [Ty.cells] at this
  simp only [Ty.av]
  exact this
 | _ => rfl
noncomputable def con1 (t : Ty) (c : t.den → Bool) (v : t.den → AV) (args : List AV) : Option (Bool × AV) :=
 match args with
 | [a] => match rdA t a with
  | some x => some (c x, v x)
  | none => none
 | _ => none
noncomputable def con2 (t u : Ty) (c : t.den → u.den → Bool) (v : t.den → u.den → AV) (args : List AV) : Option (Bool × AV) :=
 match args with
 | [a, b] => match rdA t a, rdA u b with
  | some x, some y => some (c x y, v x y)
  | _, _ => none
 | _ => none
noncomputable def con3 (t u w : Ty) (c : t.den → u.den → w.den → Bool) (v : t.den → u.den → w.den → AV) (args : List AV) : Option (Bool × AV) :=
 match args with
 | [a, b, d] => match rdA t a, rdA u b, rdA w d with
  | some x, some y, some z => some (c x y z, v x y z)
  | _, _, _ => none
 | _ => none
noncomputable def con4 (t u w s : Ty) (c : t.den → u.den → w.den → s.den → Bool) (v : t.den → u.den → w.den → s.den → AV) (args : List AV) : Option (Bool × AV) :=
 match args with
 | [a, b, d, e] => match rdA t a, rdA u b, rdA w d, rdA s e with
  | some x, some y, some z, some q => some (c x y z q, v x y z q)
  | _, _, _, _ => none
 | _ => none
theorem con1_spec {E : Env} {f : Nat} {t : Ty} {c : t.den → Bool} {v : t.den → AV} (h : ∀ x, c x = true → AnsF E f [t.av x] (v x)) {args : List AV} {r : AV} (hc : con1 t c v args = some (true, r)) : ∃ args', TellsL args args' ∧ args'.all (closedA 9) = true ∧ AnsF E f args' r := by
 unfold con1 at hc
 split at hc
 · split at hc
   · rename_i x hx
     simp only [Option.some.injEq, Prod.mk.injEq] at hc; obtain ⟨h1, rfl⟩ := hc
     exact ⟨_, .cons (rdA_spec _ hx) .nil, by simp [av_closed], h x h1⟩
   · cases hc
 · cases hc
theorem con2_spec {E : Env} {f : Nat} {t u : Ty} {c : t.den → u.den → Bool} {v : t.den → u.den → AV} (h : ∀ x y, c x y = true → AnsF E f [t.av x, u.av y] (v x y)) {args : List AV} {r : AV} (hc : con2 t u c v args = some (true, r)) : ∃ args', TellsL args args' ∧ args'.all (closedA 9) = true ∧ AnsF E f args' r := by
 unfold con2 at hc
 split at hc
 · split at hc
   · rename_i x y hx hy
     simp only [Option.some.injEq, Prod.mk.injEq] at hc; obtain ⟨h1, rfl⟩ := hc
     exact ⟨_, .cons (rdA_spec _ hx) (.cons (rdA_spec _ hy) .nil), by simp [av_closed], h x y h1⟩
   · cases hc
 · cases hc
theorem con3_spec {E : Env} {f : Nat} {t u w : Ty} {c : t.den → u.den → w.den → Bool} {v : t.den → u.den → w.den → AV} (h : ∀ x y z, c x y z = true → AnsF E f [t.av x, u.av y, w.av z] (v x y z)) {args : List AV} {r : AV} (hc : con3 t u w c v args = some (true, r)) : ∃ args', TellsL args args' ∧ args'.all (closedA 9) = true ∧ AnsF E f args' r := by
 unfold con3 at hc
 split at hc
 · split at hc
   · rename_i x y z hx hy hz
     simp only [Option.some.injEq, Prod.mk.injEq] at hc; obtain ⟨h1, rfl⟩ := hc
     exact ⟨_, .cons (rdA_spec _ hx) (.cons (rdA_spec _ hy) (.cons (rdA_spec _ hz) .nil)), by simp [av_closed], h x y z h1⟩
   · cases hc
 · cases hc
theorem con4_spec {E : Env} {f : Nat} {t u w s : Ty} {c : t.den → u.den → w.den → s.den → Bool} {v : t.den → u.den → w.den → s.den → AV} (h : ∀ x y z q, c x y z q = true → AnsF E f [t.av x, u.av y, w.av z, s.av q] (v x y z q)) {args : List AV} {r : AV} (hc : con4 t u w s c v args = some (true, r)) : ∃ args', TellsL args args' ∧ args'.all (closedA 9) = true ∧ AnsF E f args' r := by
 unfold con4 at hc
 split at hc
 · split at hc
   · rename_i x y z q hx hy hz hq
     simp only [Option.some.injEq, Prod.mk.injEq] at hc; obtain ⟨h1, rfl⟩ := hc
     exact ⟨_, .cons (rdA_spec _ hx) (.cons (rdA_spec _ hy) (.cons (rdA_spec _ hz) (.cons (rdA_spec _ hq) .nil))), by simp [av_closed], h x y z q h1⟩
   · cases hc
 · cases hc
end Go.Eng


namespace Go.Eng
open Go
theorem ieq_self (a : Int) : ieq a a = true := by rw [ieq_iff]; simp
theorem lbeq_iff {a b : List Nat} : lbeq a b = decide (a = b) := by rw [lbeq_eq]; by_cases h : a = b <;> simp [h]
theorem getD_at {α : Type} {l : List α} {k : Nat} {d : α} (h : k < l.length) : l.getD (k : Int).toNat d = l[k] := by simp [h]
theorem inB_at {k n : Nat} (h : k < n) : inB (k : Int) n = true := by rw [inB_iff]; simp; omega
theorem ile_lt {k n : Nat} (h : k < n) : ile (n : Int) (k : Int) = false := by rw [ile_iff]; simp; omega
theorem ile_ge {k n : Nat} (h : n ≤ k) : ile (n : Int) (k : Int) = true := by rw [ile_iff]; simp; omega
theorem wr_succ {k : Nat} (h : k < 1048577) : wr .i64 ((k : Int) + 1) = ((k + 1 : Nat) : Int) := by rw [wr_in (by omega) (by omega)]; rfl
theorem decN_big {s : List Nat} {i : Nat} (hi : i < s.length) (h : 127 < s.getD i 0) : 128 ≤ (decN s i).1 := by
 unfold decN
 split
 · rename_i hall
   have hb : ∀ (b : ByteArray) (j : Nat), 128 ≤ (b.get! (j + 0)).toNat → 128 ≤ (Utf8.decode b j).1 := by
    intro b j hj
    unfold Utf8.decode
    simp only
    have : ¬ (b.get! (j + 0)).toNat < 0x80 := by omega
    simp only [this, if_false]
    repeat' split
    all_goals (try simp only [Bool.and_eq_true, decide_eq_true_eq, ge_iff_le] at *)
    all_goals (first | omega | (simp only [Utf8.runeError]; omega))
   apply hb
   have hs : s[i] < 256 := by
    have := List.all_eq_true.1 hall s[i] (List.getElem_mem hi)
    have := Nat.le_of_ble_eq_true this
    omega
   have e : (ByteArray.mk (s.map Nat.toUInt8).toArray).get! (i + 0) = (s[i]).toUInt8 := by
    simp [ByteArray.get!, hi]
   rw [e]
   have : (s[i]).toUInt8.toNat = s[i] := by simp [Nat.toUInt8]; omega
   rw [this]
   have e2 : s.getD i 0 = s[i] := by simp [hi]
   omega
 · decide
section
variable {E : Env} {S : Sy} (hS : S.ok E) (hsy : E.sy = true)
include hS hsy
theorem Ans.doneB {n : Nat} {c : Cfg} {b b' : Bool} (h : adv E S n c = some (.done (.bool b))) (e : b = b') : Ans E c (.bool b') := e ▸ Ans.done hS hsy h rfl
theorem Ans.doneI {n : Nat} {c : Cfg} {k : IntKind} {b b' : Int} (h : adv E S n c = some (.done (.int k b))) (e : b = b') : Ans E c (.int k b') := e ▸ Ans.done hS hsy h rfl
theorem Ans.stopE {n : Nat} {c c' : Cfg} {v v' : AV} (h : adv E S n c = some (.stop c')) (k : Ans E c' v) (e : v = v') : Ans E c v' := e ▸ Ans.stop hS hsy h k
end
end Go.Eng

set_option maxRecDepth 100000
namespace Go.Proofs.YtffnpkbopjjdaaaGreatDoor
open Go Go.Eng
noncomputable def tyT : Tr KT := (.nd (.nd (.nd (.nd (.nd (.nd (.nd (.nd .lf (some .fn) .lf) (some .fn) (.nd .lf (some (.int .u64)) .lf)) (some .fn) (.nd (.nd .lf (some (.int .u64)) .lf) (some (.struct [⟨0, 9, true⟩, ⟨1, 27, true⟩, ⟨3, 93, true⟩])) (.nd .lf (some (.struct [⟨0, 5, true⟩, ⟨1, 5, true⟩])) .lf))) (some .ptr) (.nd (.nd (.nd .lf (some .fn) .lf) (some (.arr 4 5)) (.nd .lf (some (.arr 65 5)) .lf)) (some (.struct [⟨0, 46, true⟩, ⟨2, 46, true⟩])) (.nd (.nd .lf (some .fn) .lf) (some (.slice 9)) (.nd .lf (some (.arr 0 16)) .lf)))) (some (.struct [⟨0, 2, true⟩, ⟨1, 3, true⟩, ⟨2, 4, true⟩, ⟨3, 6, true⟩])) (.nd (.nd (.nd (.nd .lf (some (.slice 4)) .lf) (some .fn) (.nd .lf (some (.ifc false)) .lf)) (some .fn) (.nd (.nd .lf (some .fn) .lf) (some (.struct [⟨0, 3, true⟩, ⟨1, 3, true⟩])) (.nd .lf (some (.struct [⟨0, 9, true⟩, ⟨1, 9, true⟩, ⟨2, 200, true⟩])) .lf))) (some (.slice 70)) (.nd (.nd (.nd .lf (some .fn) .lf) (some .fn) .lf) (some .fn) (.nd (.nd .lf (some .fn) .lf) (some .fn) (.nd .lf (some (.struct [⟨0, 12, true⟩, ⟨1, 12, true⟩, ⟨2, 206, true⟩, ⟨3, 242, true⟩, ⟨4, 5, true⟩, ⟨5, 5, true⟩, ⟨6, 243, true⟩, ⟨7, 244, true⟩, ⟨8, 211, true⟩, ⟨9, 245, true⟩, ⟨10, 246, true⟩])) .lf))))) (some (.int .i64)) (.nd (.nd (.nd (.nd (.nd .lf (some (.arr 32 4)) .lf) (some .fn) (.nd .lf (some .fn) .lf)) (some .fn) (.nd (.nd .lf (some .fn) .lf) (some .fn) (.nd .lf (some .fn) .lf))) (some (.struct [⟨0, 17, true⟩])) (.nd (.nd (.nd .lf (some (.slice 46)) .lf) (some (.int .i16)) (.nd .lf (some .ptr) .lf)) (some .fn) (.nd (.nd .lf (some .fn) .lf) (some .fn) (.nd .lf (some (.int .u8)) .lf)))) (some .str) (.nd (.nd (.nd (.nd .lf (some .fn) .lf) (some .fn) (.nd .lf (some .fn) .lf)) (some .fn) (.nd (.nd .lf (some .fn) .lf) (some .fn) (.nd .lf (some (.struct [⟨0, 9, true⟩])) .lf))) (some (.struct [⟨0, 3, true⟩, ⟨1, 3, true⟩])) (.nd (.nd (.nd .lf (some (.struct [⟨0, 3, true⟩, ⟨1, 3, true⟩])) .lf) (some (.struct [⟨0, 86, true⟩, ⟨4, 64, true⟩])) (.nd .lf (some .fn) .lf)) (some .fn) (.nd (.nd .lf (some .fn) .lf) (some .fn) .lf))))) (some .fn) (.nd (.nd (.nd (.nd (.nd (.nd .lf (some .fn) .lf) (some .fn) (.nd .lf (some .fn) .lf)) (some .fn) (.nd (.nd .lf (some .fn) .lf) (some .fn) (.nd .lf (some (.arr 16 224)) .lf))) (some .ptr) (.nd (.nd (.nd .lf (some .fn) .lf) (some .fn) .lf) (some (.struct [⟨0, 3, true⟩, ⟨1, 3, true⟩, ⟨2, 27, true⟩, ⟨4, 48, true⟩])) (.nd (.nd .lf (some (.struct [⟨0, 111, true⟩])) .lf) (some .fn) (.nd .lf (some (.struct [⟨0, 239, false⟩])) .lf)))) (some .str) (.nd (.nd (.nd (.nd .lf (some .fn) .lf) (some .fn) .lf) (some .fn) (.nd (.nd .lf (some .ptr) .lf) (some .fn) (.nd .lf (some .fn) .lf))) (some (.struct [⟨0, 22, true⟩, ⟨1, 23, true⟩])) (.nd (.nd (.nd .lf (some .fn) .lf) (some (.int .i8)) (.nd .lf (some .ptr) .lf)) (some .fn) (.nd (.nd .lf (some .fn) .lf) (some .fn) .lf)))) (some (.int .u8)) (.nd (.nd (.nd (.nd (.nd .lf (some .fn) .lf) (some (.struct [⟨0, 9, true⟩, ⟨1, 68, true⟩, ⟨2, 48, true⟩])) (.nd .lf (some .fn) .lf)) none (.nd (.nd .lf (some .fn) .lf) (some .fn) (.nd .lf (some .fn) .lf))) (some (.int .i32)) (.nd (.nd (.nd .lf (some .fn) .lf) (some (.struct [⟨0, 82, true⟩, ⟨1, 5, true⟩, ⟨2, 84, true⟩])) (.nd .lf (some .fn) .lf)) none (.nd (.nd .lf (some .fn) .lf) (some (.struct [⟨0, 70, true⟩, ⟨6, 27, true⟩])) (.nd .lf (some (.int .i32)) .lf)))) (some (.struct [⟨0, 9, true⟩, ⟨1, 12, true⟩])) (.nd (.nd (.nd (.nd .lf (some .fn) .lf) (some .fn) (.nd .lf (some (.arr 20 191)) .lf)) (some (.struct [⟨0, 3, true⟩, ⟨1, 3, true⟩])) (.nd (.nd .lf (some .fn) .lf) (some .fn) (.nd .lf (some (.struct [⟨0, 17, true⟩, ⟨1, 17, true⟩, ⟨2, 17, true⟩, ⟨3, 9, true⟩])) .lf))) none (.nd (.nd .lf (some (.slice 103)) (.nd .lf (some (.arr 64 5)) .lf)) (some .fn) (.nd (.nd .lf (some .fn) .lf) (some .fn) .lf)))))) none (.nd (.nd (.nd (.nd (.nd (.nd (.nd .lf (some .fn) .lf) (some (.slice 82)) (.nd .lf (some .fn) .lf)) none (.nd (.nd .lf (some .fn) .lf) (some .fn) (.nd .lf (some (.struct [⟨0, 5, true⟩, ⟨1, 5, true⟩])) .lf))) (some .ptr) (.nd (.nd (.nd .lf (some .fn) .lf) (some .fn) (.nd .lf (some .fn) .lf)) (some (.struct [⟨0, 46, true⟩, ⟨2, 46, true⟩])) (.nd (.nd .lf (some (.struct [⟨0, 111, true⟩])) .lf) (some .fn) (.nd .lf (some (.struct [⟨0, 239, false⟩])) .lf)))) (some (.struct [⟨0, 2, true⟩, ⟨1, 3, true⟩, ⟨2, 4, true⟩, ⟨3, 6, true⟩])) (.nd (.nd (.nd (.nd .lf (some .fn) .lf) (some .fn) (.nd .lf (some (.ifc false)) .lf)) none (.nd (.nd .lf (some .fn) .lf) (some .fn) (.nd .lf (some .fn) .lf))) (some (.struct [⟨0, 22, true⟩, ⟨1, 23, true⟩])) (.nd (.nd (.nd .lf (some .fn) .lf) (some .fn) (.nd .lf (some .fn) .lf)) none (.nd (.nd .lf (some .fn) .lf) (some .fn) (.nd .lf (some (.struct [⟨0, 12, true⟩, ⟨1, 12, true⟩, ⟨2, 206, true⟩, ⟨3, 242, true⟩, ⟨4, 5, true⟩, ⟨5, 5, true⟩, ⟨6, 243, true⟩, ⟨7, 244, true⟩, ⟨8, 211, true⟩, ⟨9, 245, true⟩, ⟨10, 246, true⟩])) .lf))))) (some .bool) (.nd (.nd (.nd (.nd (.nd .lf (some .fn) .lf) (some (.slice 27)) (.nd .lf (some .fn) .lf)) (some (.slice 3)) (.nd (.nd .lf (some .fn) .lf) (some .fn) .lf)) (some (.ifc true)) (.nd (.nd (.nd .lf (some (.arr 8 27)) .lf) (some (.arr 2 83)) (.nd .lf (some .fn) .lf)) (some .fn) (.nd (.nd .lf (some .fn) .lf) (some .fn) (.nd .lf (some .fn) .lf)))) (some (.int .u64)) (.nd (.nd (.nd (.nd .lf (some .fn) .lf) (some .fn) (.nd .lf (some .fn) .lf)) (some .fn) (.nd (.nd .lf (some .fn) .lf) (some (.map 9 4)) (.nd .lf (some (.struct [⟨0, 9, true⟩])) .lf))) (some (.int .i64)) (.nd (.nd (.nd .lf (some .fn) .lf) (some (.struct [⟨0, 86, true⟩, ⟨4, 64, true⟩])) (.nd .lf (some (.arr 32 5)) .lf)) (some .fn) (.nd (.nd .lf (some .fn) .lf) (some .fn) .lf))))) (some (.int .i64)) (.nd (.nd (.nd (.nd (.nd (.nd .lf (some .fn) .lf) (some .fn) .lf) (some .fn) (.nd (.nd .lf (some .fn) .lf) (some .fn) .lf)) (some (.struct [⟨0, 17, true⟩])) (.nd (.nd (.nd .lf (some .fn) .lf) (some (.int .u16)) (.nd .lf (some .fn) .lf)) (some (.struct [⟨0, 3, true⟩, ⟨1, 3, true⟩, ⟨2, 27, true⟩, ⟨4, 48, true⟩])) (.nd (.nd .lf (some .fn) .lf) (some .fn) (.nd .lf (some (.int .u8)) .lf)))) (some .str) (.nd (.nd (.nd (.nd .lf (some .fn) .lf) (some (.arr 2 64)) (.nd .lf (some .fn) .lf)) none (.nd (.nd .lf (some (.slice 5)) .lf) (some .fn) (.nd .lf (some .ptr) .lf))) (some (.struct [⟨0, 3, true⟩, ⟨1, 3, true⟩])) (.nd (.nd (.nd .lf (some (.struct [⟨0, 3, true⟩, ⟨1, 3, true⟩])) .lf) (some (.arr 2 89)) (.nd .lf (some .fn) .lf)) none (.nd (.nd .lf (some .ptr) .lf) none .lf)))) (some (.int .u8)) (.nd (.nd (.nd (.nd (.nd .lf (some .fn) .lf) (some (.struct [⟨0, 9, true⟩, ⟨1, 68, true⟩, ⟨2, 48, true⟩])) (.nd .lf (some .fn) .lf)) (some .fn) (.nd (.nd .lf (some .fn) .lf) (some (.struct [⟨0, 3, true⟩, ⟨1, 3, true⟩])) (.nd .lf (some (.struct [⟨0, 9, true⟩, ⟨1, 9, true⟩, ⟨2, 200, true⟩])) .lf))) (some (.slice 95)) (.nd (.nd (.nd .lf (some .fn) .lf) (some (.struct [⟨0, 82, true⟩, ⟨1, 5, true⟩, ⟨2, 84, true⟩])) (.nd .lf (some (.int .i64)) .lf)) (some .fn) (.nd (.nd .lf (some .fn) .lf) (some (.struct [⟨0, 70, true⟩, ⟨6, 27, true⟩])) (.nd .lf (some (.int .i32)) .lf)))) (some (.struct [⟨0, 9, true⟩, ⟨1, 12, true⟩])) (.nd (.nd (.nd (.nd .lf (some .fn) .lf) (some .fn) (.nd .lf (some (.int .u32)) .lf)) (some (.struct [⟨0, 3, true⟩, ⟨1, 3, true⟩])) (.nd (.nd .lf (some .fn) .lf) (some .fn) (.nd .lf (some (.struct [⟨0, 17, true⟩, ⟨1, 17, true⟩, ⟨2, 17, true⟩, ⟨3, 9, true⟩])) .lf))) (some .fn) (.nd (.nd (.nd .lf (some .fn) .lf) (some (.struct [⟨0, 9, true⟩, ⟨1, 27, true⟩, ⟨3, 93, true⟩])) (.nd .lf (some (.arr 256 5)) .lf)) (some .fn) (.nd (.nd .lf (some (.arr 24 5)) .lf) (some .fn) .lf)))))))
noncomputable def szT : Tr Nat := (.nd (.nd (.nd (.nd (.nd (.nd (.nd (.nd .lf (some 1) .lf) (some 1) (.nd .lf (some 1) .lf)) (some 1) (.nd (.nd .lf (some 1) .lf) (some 4) (.nd .lf (some 2) .lf))) (some 1) (.nd (.nd (.nd .lf (some 1) .lf) (some 4) (.nd .lf (some 65) .lf)) (some 4) (.nd (.nd .lf (some 1) .lf) (some 1) (.nd .lf (some 0) .lf)))) (some 4) (.nd (.nd (.nd (.nd .lf (some 1) .lf) (some 1) (.nd .lf (some 1) .lf)) (some 1) (.nd (.nd .lf (some 1) .lf) (some 2) (.nd .lf (some 3) .lf))) (some 1) (.nd (.nd (.nd .lf (some 1) .lf) (some 1) (.nd .lf (some 1) .lf)) (some 1) (.nd (.nd .lf (some 1) .lf) (some 1) (.nd .lf (some 11) .lf))))) (some 1) (.nd (.nd (.nd (.nd (.nd .lf (some 32) .lf) (some 1) (.nd .lf (some 1) .lf)) (some 1) (.nd (.nd .lf (some 1) .lf) (some 1) (.nd .lf (some 1) .lf))) (some 1) (.nd (.nd (.nd .lf (some 1) .lf) (some 1) (.nd .lf (some 1) .lf)) (some 1) (.nd (.nd .lf (some 1) .lf) (some 1) (.nd .lf (some 1) .lf)))) (some 1) (.nd (.nd (.nd (.nd .lf (some 1) .lf) (some 1) (.nd .lf (some 1) .lf)) (some 1) (.nd (.nd .lf (some 1) .lf) (some 1) (.nd .lf (some 1) .lf))) (some 2) (.nd (.nd (.nd .lf (some 2) .lf) (some 5) (.nd .lf (some 1) .lf)) (some 1) (.nd (.nd .lf (some 1) .lf) (some 1) .lf))))) (some 1) (.nd (.nd (.nd (.nd (.nd (.nd .lf (some 1) .lf) (some 1) (.nd .lf (some 1) .lf)) (some 1) (.nd (.nd .lf (some 1) .lf) (some 1) (.nd .lf (some 32) .lf))) (some 1) (.nd (.nd (.nd .lf (some 1) .lf) (some 1) (.nd .lf (some 1) .lf)) (some 8) (.nd (.nd .lf (some 1) .lf) (some 1) (.nd .lf (some 0) .lf)))) (some 1) (.nd (.nd (.nd (.nd .lf (some 1) .lf) (some 1) (.nd .lf (some 1) .lf)) (some 1) (.nd (.nd .lf (some 1) .lf) (some 1) (.nd .lf (some 1) .lf))) (some 2) (.nd (.nd (.nd .lf (some 1) .lf) (some 1) (.nd .lf (some 1) .lf)) (some 1) (.nd (.nd .lf (some 1) .lf) (some 1) (.nd .lf (some 1) .lf))))) (some 1) (.nd (.nd (.nd (.nd (.nd .lf (some 1) .lf) (some 6) (.nd .lf (some 1) .lf)) (some 1) (.nd (.nd .lf (some 1) .lf) (some 1) (.nd .lf (some 1) .lf))) (some 1) (.nd (.nd (.nd .lf (some 1) .lf) (some 4) (.nd .lf (some 1) .lf)) (some 1) (.nd (.nd .lf (some 1) .lf) (some 8) (.nd .lf (some 1) .lf)))) (some 2) (.nd (.nd (.nd (.nd .lf (some 1) .lf) (some 1) (.nd .lf (some 20) .lf)) (some 2) (.nd (.nd .lf (some 1) .lf) (some 1) (.nd .lf (some 4) .lf))) (some 1) (.nd (.nd (.nd .lf (some 1) .lf) (some 1) (.nd .lf (some 64) .lf)) (some 1) (.nd (.nd .lf (some 1) .lf) (some 1) .lf)))))) (some 1) (.nd (.nd (.nd (.nd (.nd (.nd (.nd .lf (some 1) .lf) (some 1) (.nd .lf (some 1) .lf)) (some 1) (.nd (.nd .lf (some 1) .lf) (some 1) (.nd .lf (some 2) .lf))) (some 1) (.nd (.nd (.nd .lf (some 1) .lf) (some 1) (.nd .lf (some 1) .lf)) (some 4) (.nd (.nd .lf (some 1) .lf) (some 1) (.nd .lf (some 0) .lf)))) (some 4) (.nd (.nd (.nd (.nd .lf (some 1) .lf) (some 1) (.nd .lf (some 1) .lf)) (some 1) (.nd (.nd .lf (some 1) .lf) (some 1) (.nd .lf (some 1) .lf))) (some 2) (.nd (.nd (.nd .lf (some 1) .lf) (some 1) (.nd .lf (some 1) .lf)) (some 1) (.nd (.nd .lf (some 1) .lf) (some 1) (.nd .lf (some 11) .lf))))) (some 1) (.nd (.nd (.nd (.nd (.nd .lf (some 1) .lf) (some 1) (.nd .lf (some 1) .lf)) (some 1) (.nd (.nd .lf (some 1) .lf) (some 1) (.nd .lf (some 1) .lf))) (some 1) (.nd (.nd (.nd .lf (some 16) .lf) (some 2) (.nd .lf (some 1) .lf)) (some 1) (.nd (.nd .lf (some 1) .lf) (some 1) (.nd .lf (some 1) .lf)))) (some 1) (.nd (.nd (.nd (.nd .lf (some 1) .lf) (some 1) (.nd .lf (some 1) .lf)) (some 1) (.nd (.nd .lf (some 1) .lf) (some 1) (.nd .lf (some 1) .lf))) (some 1) (.nd (.nd (.nd .lf (some 1) .lf) (some 5) (.nd .lf (some 32) .lf)) (some 1) (.nd (.nd .lf (some 1) .lf) (some 1) .lf))))) (some 1) (.nd (.nd (.nd (.nd (.nd (.nd .lf (some 1) .lf) (some 1) (.nd .lf (some 1) .lf)) (some 1) (.nd (.nd .lf (some 1) .lf) (some 1) (.nd .lf (some 1) .lf))) (some 1) (.nd (.nd (.nd .lf (some 1) .lf) (some 1) (.nd .lf (some 1) .lf)) (some 8) (.nd (.nd .lf (some 1) .lf) (some 1) (.nd .lf (some 1) .lf)))) (some 1) (.nd (.nd (.nd (.nd .lf (some 1) .lf) (some 2) (.nd .lf (some 1) .lf)) (some 1) (.nd (.nd .lf (some 1) .lf) (some 1) (.nd .lf (some 1) .lf))) (some 2) (.nd (.nd (.nd .lf (some 2) .lf) (some 2) (.nd .lf (some 1) .lf)) (some 1) (.nd (.nd .lf (some 1) .lf) (some 1) .lf)))) (some 1) (.nd (.nd (.nd (.nd (.nd .lf (some 1) .lf) (some 6) (.nd .lf (some 1) .lf)) (some 1) (.nd (.nd .lf (some 1) .lf) (some 2) (.nd .lf (some 3) .lf))) (some 1) (.nd (.nd (.nd .lf (some 1) .lf) (some 4) (.nd .lf (some 1) .lf)) (some 1) (.nd (.nd .lf (some 1) .lf) (some 8) (.nd .lf (some 1) .lf)))) (some 2) (.nd (.nd (.nd (.nd .lf (some 1) .lf) (some 1) (.nd .lf (some 1) .lf)) (some 2) (.nd (.nd .lf (some 1) .lf) (some 1) (.nd .lf (some 4) .lf))) (some 1) (.nd (.nd (.nd .lf (some 1) .lf) (some 4) (.nd .lf (some 256) .lf)) (some 1) (.nd (.nd .lf (some 24) .lf) (some 1) .lf)))))))
noncomputable def byT : Tr Nat := (.nd (.nd (.nd (.nd (.nd (.nd (.nd (.nd .lf (some 8) .lf) (some 8) (.nd .lf (some 8) .lf)) (some 8) (.nd (.nd .lf (some 8) .lf) (some 56) (.nd .lf (some 2) .lf))) (some 8) (.nd (.nd (.nd .lf (some 8) .lf) (some 4) (.nd .lf (some 65) .lf)) (some 32) (.nd (.nd .lf (some 8) .lf) (some 24) (.nd .lf (some 0) .lf)))) (some 24) (.nd (.nd (.nd (.nd .lf (some 24) .lf) (some 8) (.nd .lf (some 16) .lf)) (some 8) (.nd (.nd .lf (some 8) .lf) (some 16) (.nd .lf (some 48) .lf))) (some 24) (.nd (.nd (.nd .lf (some 8) .lf) (some 8) (.nd .lf (some 0) .lf)) (some 8) (.nd (.nd .lf (some 8) .lf) (some 8) (.nd .lf (some 48) .lf))))) (some 8) (.nd (.nd (.nd (.nd (.nd .lf (some 32) .lf) (some 8) (.nd .lf (some 8) .lf)) (some 8) (.nd (.nd .lf (some 8) .lf) (some 8) (.nd .lf (some 8) .lf))) (some 8) (.nd (.nd (.nd .lf (some 24) .lf) (some 2) (.nd .lf (some 8) .lf)) (some 8) (.nd (.nd .lf (some 8) .lf) (some 8) (.nd .lf (some 1) .lf)))) (some 16) (.nd (.nd (.nd (.nd .lf (some 8) .lf) (some 8) (.nd .lf (some 8) .lf)) (some 8) (.nd (.nd .lf (some 8) .lf) (some 8) (.nd .lf (some 16) .lf))) (some 16) (.nd (.nd (.nd .lf (some 16) .lf) (some 32) (.nd .lf (some 8) .lf)) (some 8) (.nd (.nd .lf (some 8) .lf) (some 8) .lf))))) (some 8) (.nd (.nd (.nd (.nd (.nd (.nd .lf (some 8) .lf) (some 8) (.nd .lf (some 8) .lf)) (some 8) (.nd (.nd .lf (some 8) .lf) (some 8) (.nd .lf (some 32) .lf))) (some 8) (.nd (.nd (.nd .lf (some 8) .lf) (some 8) (.nd .lf (some 0) .lf)) (some 64) (.nd (.nd .lf (some 24) .lf) (some 8) (.nd .lf (some 0) .lf)))) (some 16) (.nd (.nd (.nd (.nd .lf (some 8) .lf) (some 8) (.nd .lf (some 0) .lf)) (some 8) (.nd (.nd .lf (some 8) .lf) (some 8) (.nd .lf (some 8) .lf))) (some 48) (.nd (.nd (.nd .lf (some 8) .lf) (some 1) (.nd .lf (some 8) .lf)) (some 8) (.nd (.nd .lf (some 8) .lf) (some 8) (.nd .lf (some 8) .lf))))) (some 1) (.nd (.nd (.nd (.nd (.nd .lf (some 8) .lf) (some 72) (.nd .lf (some 8) .lf)) (some 0) (.nd (.nd .lf (some 8) .lf) (some 8) (.nd .lf (some 8) .lf))) (some 4) (.nd (.nd (.nd .lf (some 8) .lf) (some 8) (.nd .lf (some 8) .lf)) (some 0) (.nd (.nd .lf (some 8) .lf) (some 88) (.nd .lf (some 4) .lf)))) (some 24) (.nd (.nd (.nd (.nd .lf (some 8) .lf) (some 8) (.nd .lf (some 160) .lf)) (some 16) (.nd (.nd .lf (some 8) .lf) (some 8) (.nd .lf (some 40) .lf))) (some 0) (.nd (.nd (.nd .lf (some 0) .lf) (some 24) (.nd .lf (some 64) .lf)) (some 8) (.nd (.nd .lf (some 8) .lf) (some 8) .lf)))))) (some 0) (.nd (.nd (.nd (.nd (.nd (.nd (.nd .lf (some 8) .lf) (some 24) (.nd .lf (some 8) .lf)) (some 0) (.nd (.nd .lf (some 8) .lf) (some 8) (.nd .lf (some 2) .lf))) (some 8) (.nd (.nd (.nd .lf (some 8) .lf) (some 8) (.nd .lf (some 8) .lf)) (some 32) (.nd (.nd .lf (some 24) .lf) (some 8) (.nd .lf (some 0) .lf)))) (some 24) (.nd (.nd (.nd (.nd .lf (some 8) .lf) (some 8) (.nd .lf (some 16) .lf)) (some 0) (.nd (.nd .lf (some 8) .lf) (some 8) (.nd .lf (some 8) .lf))) (some 48) (.nd (.nd (.nd .lf (some 8) .lf) (some 8) (.nd .lf (some 8) .lf)) (some 0) (.nd (.nd .lf (some 8) .lf) (some 8) (.nd .lf (some 48) .lf))))) (some 1) (.nd (.nd (.nd (.nd (.nd .lf (some 8) .lf) (some 24) (.nd .lf (some 8) .lf)) (some 24) (.nd (.nd .lf (some 8) .lf) (some 8) (.nd .lf (some 0) .lf))) (some 16) (.nd (.nd (.nd .lf (some 128) .lf) (some 4) (.nd .lf (some 8) .lf)) (some 8) (.nd (.nd .lf (some 8) .lf) (some 8) (.nd .lf (some 8) .lf)))) (some 8) (.nd (.nd (.nd (.nd .lf (some 8) .lf) (some 8) (.nd .lf (some 8) .lf)) (some 8) (.nd (.nd .lf (some 8) .lf) (some 8) (.nd .lf (some 16) .lf))) (some 8) (.nd (.nd (.nd .lf (some 8) .lf) (some 32) (.nd .lf (some 32) .lf)) (some 8) (.nd (.nd .lf (some 8) .lf) (some 8) .lf))))) (some 8) (.nd (.nd (.nd (.nd (.nd (.nd .lf (some 8) .lf) (some 8) (.nd .lf (some 0) .lf)) (some 8) (.nd (.nd .lf (some 8) .lf) (some 8) (.nd .lf (some 0) .lf))) (some 8) (.nd (.nd (.nd .lf (some 8) .lf) (some 2) (.nd .lf (some 8) .lf)) (some 64) (.nd (.nd .lf (some 8) .lf) (some 8) (.nd .lf (some 1) .lf)))) (some 16) (.nd (.nd (.nd (.nd .lf (some 8) .lf) (some 48) (.nd .lf (some 8) .lf)) (some 0) (.nd (.nd .lf (some 24) .lf) (some 8) (.nd .lf (some 8) .lf))) (some 16) (.nd (.nd (.nd .lf (some 16) .lf) (some 2) (.nd .lf (some 8) .lf)) (some 0) (.nd (.nd .lf (some 8) .lf) (some 0) .lf)))) (some 1) (.nd (.nd (.nd (.nd (.nd .lf (some 8) .lf) (some 72) (.nd .lf (some 8) .lf)) (some 8) (.nd (.nd .lf (some 8) .lf) (some 16) (.nd .lf (some 48) .lf))) (some 24) (.nd (.nd (.nd .lf (some 8) .lf) (some 8) (.nd .lf (some 8) .lf)) (some 8) (.nd (.nd .lf (some 8) .lf) (some 88) (.nd .lf (some 4) .lf)))) (some 24) (.nd (.nd (.nd (.nd .lf (some 8) .lf) (some 8) (.nd .lf (some 4) .lf)) (some 16) (.nd (.nd .lf (some 8) .lf) (some 8) (.nd .lf (some 40) .lf))) (some 8) (.nd (.nd (.nd .lf (some 8) .lf) (some 56) (.nd .lf (some 256) .lf)) (some 8) (.nd (.nd .lf (some 24) .lf) (some 8) .lf)))))))
noncomputable def zeT : Tr AV := (.nd (.nd (.nd (.nd (.nd (.nd (.nd (.nd .lf (some .nilf) .lf) (some .nilf) (.nd .lf (some (.int .u64 (0))) .lf)) (some .nilf) (.nd (.nd .lf (some (.int .u64 (0))) .lf) (some (.agg [(.str []), (.int .i64 (0)), (.int .i64 (0)), .nils])) (.nd .lf (some (.agg [(.int .u8 (0)), (.int .u8 (0))])) .lf))) (some .nilp) (.nd (.nd (.nd .lf (some .nilf) .lf) (some (.agg [(.int .u8 (0)), (.int .u8 (0)), (.int .u8 (0)), (.int .u8 (0))])) (.nd .lf (some (.agg [(.int .u8 (0)), (.int .u8 (0)), (.int .u8 (0)), (.int .u8 (0)), (.int .u8 (0)), (.int .u8 (0)), (.int .u8 (0)), (.int .u8 (0)), (.int .u8 (0)), (.int .u8 (0)), (.int .u8 (0)), (.int .u8 (0)), (.int .u8 (0)), (.int .u8 (0)), (.int .u8 (0)), (.int .u8 (0)), (.int .u8 (0)), (.int .u8 (0)), (.int .u8 (0)), (.int .u8 (0)), (.int .u8 (0)), (.int .u8 (0)), (.int .u8 (0)), (.int .u8 (0)), (.int .u8 (0)), (.int .u8 (0)), (.int .u8 (0)), (.int .u8 (0)), (.int .u8 (0)), (.int .u8 (0)), (.int .u8 (0)), (.int .u8 (0)), (.int .u8 (0)), (.int .u8 (0)), (.int .u8 (0)), (.int .u8 (0)), (.int .u8 (0)), (.int .u8 (0)), (.int .u8 (0)), (.int .u8 (0)), (.int .u8 (0)), (.int .u8 (0)), (.int .u8 (0)), (.int .u8 (0)), (.int .u8 (0)), (.int .u8 (0)), (.int .u8 (0)), (.int .u8 (0)), (.int .u8 (0)), (.int .u8 (0)), (.int .u8 (0)), (.int .u8 (0)), (.int .u8 (0)), (.int .u8 (0)), (.int .u8 (0)), (.int .u8 (0)), (.int .u8 (0)), (.int .u8 (0)), (.int .u8 (0)), (.int .u8 (0)), (.int .u8 (0)), (.int .u8 (0)), (.int .u8 (0)), (.int .u8 (0)), (.int .u8 (0))])) .lf)) (some (.agg [(.int .i64 (0)), (.int .i64 (0)), (.int .i64 (0)), (.int .i64 (0))])) (.nd (.nd .lf (some .nilf) .lf) (some .nils) (.nd .lf (some (.agg [])) .lf)))) (some (.agg [(.int .i64 (0)), (.int .i64 (0)), (.bool false), (.int .u8 (0))])) (.nd (.nd (.nd (.nd .lf (some .nils) .lf) (some .nilf) (.nd .lf (some .nili) .lf)) (some .nilf) (.nd (.nd .lf (some .nilf) .lf) (some (.agg [(.int .i64 (0)), (.int .i64 (0))])) (.nd .lf (some (.agg [(.str []), (.str []), .nili])) .lf))) (some .nils) (.nd (.nd (.nd .lf (some .nilf) .lf) (some .nilf) (.nd .lf (some (.tup [(.int .i64 (0)), .nili])) .lf)) (some .nilf) (.nd (.nd .lf (some .nilf) .lf) (some .nilf) (.nd .lf (some (.agg [(.int .u64 (0)), (.int .u64 (0)), (.int .u32 (0)), (.int .u8 (0)), (.int .u8 (0)), (.int .u8 (0)), (.int .u8 (0)), .nilf, .nilp, (.int .i32 (0)), (.int .i32 (0))])) .lf))))) (some (.int .i64 (0))) (.nd (.nd (.nd (.nd (.nd .lf (some (.agg [(.bool false), (.bool false), (.bool false), (.bool false), (.bool false), (.bool false), (.bool false), (.bool false), (.bool false), (.bool false), (.bool false), (.bool false), (.bool false), (.bool false), (.bool false), (.bool false), (.bool false), (.bool false), (.bool false), (.bool false), (.bool false), (.bool false), (.bool false), (.bool false), (.bool false), (.bool false), (.bool false), (.bool false), (.bool false), (.bool false), (.bool false), (.bool false)])) .lf) (some .nilf) (.nd .lf (some .nilf) .lf)) (some .nilf) (.nd (.nd .lf (some .nilf) .lf) (some .nilf) (.nd .lf (some .nilf) .lf))) (some (.agg [.nilp])) (.nd (.nd (.nd .lf (some .nils) .lf) (some (.int .i16 (0))) (.nd .lf (some .nilp) .lf)) (some .nilf) (.nd (.nd .lf (some .nilf) .lf) (some .nilf) (.nd .lf (some (.int .u8 (0))) .lf)))) (some (.str [])) (.nd (.nd (.nd (.nd .lf (some .nilf) .lf) (some .nilf) (.nd .lf (some .nilf) .lf)) (some .nilf) (.nd (.nd .lf (some .nilf) .lf) (some .nilf) (.nd .lf (some (.agg [(.str [])])) .lf))) (some (.agg [(.int .i64 (0)), (.int .i64 (0))])) (.nd (.nd (.nd .lf (some (.agg [(.int .i64 (0)), (.int .i64 (0))])) .lf) (some (.agg [(.int .u16 (0)), (.int .u8 (0)), (.int .i16 (0)), (.int .i16 (0)), .nils])) (.nd .lf (some .nilf) .lf)) (some .nilf) (.nd (.nd .lf (some .nilf) .lf) (some .nilf) .lf))))) (some .nilf) (.nd (.nd (.nd (.nd (.nd (.nd .lf (some .nilf) .lf) (some .nilf) (.nd .lf (some .nilf) .lf)) (some .nilf) (.nd (.nd .lf (some .nilf) .lf) (some .nilf) (.nd .lf (some (.agg [(.int .u8 (0)), (.int .u8 (0)), (.int .u8 (0)), (.int .u8 (0)), (.int .u8 (0)), (.int .u8 (0)), (.int .u8 (0)), (.int .u8 (0)), (.int .u8 (0)), (.int .u8 (0)), (.int .u8 (0)), (.int .u8 (0)), (.int .u8 (0)), (.int .u8 (0)), (.int .u8 (0)), (.int .u8 (0)), (.int .u8 (0)), (.int .u8 (0)), (.int .u8 (0)), (.int .u8 (0)), (.int .u8 (0)), (.int .u8 (0)), (.int .u8 (0)), (.int .u8 (0)), (.int .u8 (0)), (.int .u8 (0)), (.int .u8 (0)), (.int .u8 (0)), (.int .u8 (0)), (.int .u8 (0)), (.int .u8 (0)), (.int .u8 (0))])) .lf))) (some .nilp) (.nd (.nd (.nd .lf (some .nilf) .lf) (some .nilf) (.nd .lf (some (.tup [(.int .i32 (0)), (.int .i64 (0))])) .lf)) (some (.agg [(.int .i64 (0)), (.int .i64 (0)), (.int .i64 (0)), (.int .i64 (0)), (.int .i64 (0)), (.int .i64 (0)), (.int .i64 (0)), (.int .i64 (0))])) (.nd (.nd .lf (some (.agg [.nils])) .lf) (some .nilf) (.nd .lf (some (.agg [])) .lf)))) (some (.str [])) (.nd (.nd (.nd (.nd .lf (some .nilf) .lf) (some .nilf) (.nd .lf (some (.tup [(.int .i64 (0)), .nili])) .lf)) (some .nilf) (.nd (.nd .lf (some .nilp) .lf) (some .nilf) (.nd .lf (some .nilf) .lf))) (some (.agg [.nils, .nils])) (.nd (.nd (.nd .lf (some .nilf) .lf) (some (.int .i8 (0))) (.nd .lf (some .nilp) .lf)) (some .nilf) (.nd (.nd .lf (some .nilf) .lf) (some .nilf) (.nd .lf (some .nilp) .lf))))) (some (.int .u8 (0))) (.nd (.nd (.nd (.nd (.nd .lf (some .nilf) .lf) (some (.agg [(.str []), .nils, (.int .i64 (0)), (.int .i64 (0)), (.int .i64 (0)), (.int .i64 (0))])) (.nd .lf (some .nilf) .lf)) (some (.tup [.nils, .nils, (.int .i64 (0))])) (.nd (.nd .lf (some .nilf) .lf) (some .nilf) (.nd .lf (some .nilf) .lf))) (some (.int .i32 (0))) (.nd (.nd (.nd .lf (some .nilf) .lf) (some (.agg [(.int .u16 (0)), (.int .u8 (0)), (.int .i16 (0)), (.int .i16 (0))])) (.nd .lf (some .nilf) .lf)) (some (.tup [.nils, (.int .i64 (0))])) (.nd (.nd .lf (some .nilf) .lf) (some (.agg [(.str []), .nils, (.int .i64 (0)), (.int .i64 (0)), (.int .i64 (0)), (.int .i64 (0)), (.int .i64 (0)), (.int .i64 (0))])) (.nd .lf (some (.int .i32 (0))) .lf)))) (some (.agg [(.str []), (.int .u64 (0))])) (.nd (.nd (.nd (.nd .lf (some .nilf) .lf) (some .nilf) (.nd .lf (some (.agg [(.int .u64 (0)), (.int .u64 (0)), (.int .u64 (0)), (.int .u64 (0)), (.int .u64 (0)), (.int .u64 (0)), (.int .u64 (0)), (.int .u64 (0)), (.int .u64 (0)), (.int .u64 (0)), (.int .u64 (0)), (.int .u64 (0)), (.int .u64 (0)), (.int .u64 (0)), (.int .u64 (0)), (.int .u64 (0)), (.int .u64 (0)), (.int .u64 (0)), (.int .u64 (0)), (.int .u64 (0))])) .lf)) (some (.agg [(.int .i64 (0)), (.int .i64 (0))])) (.nd (.nd .lf (some .nilf) .lf) (some .nilf) (.nd .lf (some (.agg [.nilp, .nilp, .nilp, (.str [])])) .lf))) (some (.tup [(.agg [(.int .i64 (0)), (.int .i64 (0))]), (.int .i64 (0))])) (.nd (.nd (.nd .lf (some (.tup [(.agg [(.int .i64 (0)), (.int .i64 (0))]), (.bool false)])) .lf) (some .nils) (.nd .lf (some (.agg [(.int .u8 (0)), (.int .u8 (0)), (.int .u8 (0)), (.int .u8 (0)), (.int .u8 (0)), (.int .u8 (0)), (.int .u8 (0)), (.int .u8 (0)), (.int .u8 (0)), (.int .u8 (0)), (.int .u8 (0)), (.int .u8 (0)), (.int .u8 (0)), (.int .u8 (0)), (.int .u8 (0)), (.int .u8 (0)), (.int .u8 (0)), (.int .u8 (0)), (.int .u8 (0)), (.int .u8 (0)), (.int .u8 (0)), (.int .u8 (0)), (.int .u8 (0)), (.int .u8 (0)), (.int .u8 (0)), (.int .u8 (0)), (.int .u8 (0)), (.int .u8 (0)), (.int .u8 (0)), (.int .u8 (0)), (.int .u8 (0)), (.int .u8 (0)), (.int .u8 (0)), (.int .u8 (0)), (.int .u8 (0)), (.int .u8 (0)), (.int .u8 (0)), (.int .u8 (0)), (.int .u8 (0)), (.int .u8 (0)), (.int .u8 (0)), (.int .u8 (0)), (.int .u8 (0)), (.int .u8 (0)), (.int .u8 (0)), (.int .u8 (0)), (.int .u8 (0)), (.int .u8 (0)), (.int .u8 (0)), (.int .u8 (0)), (.int .u8 (0)), (.int .u8 (0)), (.int .u8 (0)), (.int .u8 (0)), (.int .u8 (0)), (.int .u8 (0)), (.int .u8 (0)), (.int .u8 (0)), (.int .u8 (0)), (.int .u8 (0)), (.int .u8 (0)), (.int .u8 (0)), (.int .u8 (0)), (.int .u8 (0))])) .lf)) (some .nilf) (.nd (.nd .lf (some .nilf) .lf) (some .nilf) .lf)))))) (some (.tup [])) (.nd (.nd (.nd (.nd (.nd (.nd (.nd .lf (some .nilf) .lf) (some .nils) (.nd .lf (some .nilf) .lf)) (some (.tup [(.int .i64 (0)), (.int .i64 (0)), (.int .i64 (0))])) (.nd (.nd .lf (some .nilf) .lf) (some .nilf) (.nd .lf (some (.agg [(.int .u8 (0)), (.int .u8 (0))])) .lf))) (some .nilp) (.nd (.nd (.nd .lf (some .nilf) .lf) (some .nilf) (.nd .lf (some .nilf) .lf)) (some (.agg [(.int .i64 (0)), (.int .i64 (0)), (.int .i64 (0)), (.int .i64 (0))])) (.nd (.nd .lf (some (.agg [.nils])) .lf) (some .nilf) (.nd .lf (some (.agg [])) .lf)))) (some (.agg [(.int .i64 (0)), (.int .i64 (0)), (.bool false), (.int .u8 (0))])) (.nd (.nd (.nd (.nd .lf (some .nilf) .lf) (some .nilf) (.nd .lf (some .nili) .lf)) (some (.tup [(.int .i64 (0)), (.agg [(.int .i64 (0)), (.int .i64 (0))]), (.int .i64 (0))])) (.nd (.nd .lf (some .nilf) .lf) (some .nilf) (.nd .lf (some .nilf) .lf))) (some (.agg [.nils, .nils])) (.nd (.nd (.nd .lf (some .nilf) .lf) (some .nilf) (.nd .lf (some .nilf) .lf)) (some (.tup [(.str []), (.int .i64 (0))])) (.nd (.nd .lf (some .nilf) .lf) (some .nilf) (.nd .lf (some (.agg [(.int .u64 (0)), (.int .u64 (0)), (.int .u32 (0)), (.int .u8 (0)), (.int .u8 (0)), (.int .u8 (0)), (.int .u8 (0)), .nilf, .nilp, (.int .i32 (0)), (.int .i32 (0))])) .lf))))) (some (.bool false)) (.nd (.nd (.nd (.nd (.nd .lf (some .nilf) .lf) (some .nils) (.nd .lf (some .nilf) .lf)) (some .nils) (.nd (.nd .lf (some .nilf) .lf) (some .nilf) (.nd .lf (some (.tup [(.int .u64 (0)), .nili])) .lf))) (some .nili) (.nd (.nd (.nd .lf (some (.agg [(.int .i64 (0)), (.int .i64 (0)), (.int .i64 (0)), (.int .i64 (0)), (.int .i64 (0)), (.int .i64 (0)), (.int .i64 (0)), (.int .i64 (0)), (.int .i64 (0)), (.int .i64 (0)), (.int .i64 (0)), (.int .i64 (0)), (.int .i64 (0)), (.int .i64 (0)), (.int .i64 (0)), (.int .i64 (0))])) .lf) (some (.agg [(.int .i16 (0)), (.int .i16 (0))])) (.nd .lf (some .nilf) .lf)) (some .nilf) (.nd (.nd .lf (some .nilf) .lf) (some .nilf) (.nd .lf (some .nilf) .lf)))) (some (.int .u64 (0))) (.nd (.nd (.nd (.nd .lf (some .nilf) .lf) (some .nilf) (.nd .lf (some .nilf) .lf)) (some .nilf) (.nd (.nd .lf (some .nilf) .lf) (some .nilm) (.nd .lf (some (.agg [(.str [])])) .lf))) (some (.int .i64 (0))) (.nd (.nd (.nd .lf (some .nilf) .lf) (some (.agg [(.int .u16 (0)), (.int .u8 (0)), (.int .i16 (0)), (.int .i16 (0)), .nils])) (.nd .lf (some (.agg [(.int .u8 (0)), (.int .u8 (0)), (.int .u8 (0)), (.int .u8 (0)), (.int .u8 (0)), (.int .u8 (0)), (.int .u8 (0)), (.int .u8 (0)), (.int .u8 (0)), (.int .u8 (0)), (.int .u8 (0)), (.int .u8 (0)), (.int .u8 (0)), (.int .u8 (0)), (.int .u8 (0)), (.int .u8 (0)), (.int .u8 (0)), (.int .u8 (0)), (.int .u8 (0)), (.int .u8 (0)), (.int .u8 (0)), (.int .u8 (0)), (.int .u8 (0)), (.int .u8 (0)), (.int .u8 (0)), (.int .u8 (0)), (.int .u8 (0)), (.int .u8 (0)), (.int .u8 (0)), (.int .u8 (0)), (.int .u8 (0)), (.int .u8 (0))])) .lf)) (some .nilf) (.nd (.nd .lf (some .nilf) .lf) (some .nilf) .lf))))) (some (.int .i64 (0))) (.nd (.nd (.nd (.nd (.nd (.nd .lf (some .nilf) .lf) (some .nilf) (.nd .lf (some (.tup [.nils, (.str [])])) .lf)) (some .nilf) (.nd (.nd .lf (some .nilf) .lf) (some .nilf) (.nd .lf (some (.tup [(.int .u32 (0)), (.int .u32 (0))])) .lf))) (some (.agg [.nilp])) (.nd (.nd (.nd .lf (some .nilf) .lf) (some (.int .u16 (0))) (.nd .lf (some .nilf) .lf)) (some (.agg [(.int .i64 (0)), (.int .i64 (0)), (.int .i64 (0)), (.int .i64 (0)), (.int .i64 (0)), (.int .i64 (0)), (.int .i64 (0)), (.int .i64 (0))])) (.nd (.nd .lf (some .nilf) .lf) (some .nilf) (.nd .lf (some (.int .u8 (0))) .lf)))) (some (.str [])) (.nd (.nd (.nd (.nd .lf (some .nilf) .lf) (some (.agg [.nils, .nils])) (.nd .lf (some .nilf) .lf)) (some (.tup [(.int .i64 (0)), (.int .i64 (0))])) (.nd (.nd .lf (some .nils) .lf) (some .nilf) (.nd .lf (some .nilp) .lf))) (some (.agg [(.int .i64 (0)), (.int .i64 (0))])) (.nd (.nd (.nd .lf (some (.agg [(.int .i64 (0)), (.int .i64 (0))])) .lf) (some (.agg [(.int .i8 (0)), (.int .i8 (0))])) (.nd .lf (some .nilf) .lf)) (some (.tup [(.agg [.nils, .nils]), (.int .i64 (0))])) (.nd (.nd .lf (some .nilp) .lf) (some (.tup [(.int .i64 (0)), (.agg [(.int .i64 (0)), (.int .i64 (0))]), (.bool false)])) .lf)))) (some (.int .u8 (0))) (.nd (.nd (.nd (.nd (.nd .lf (some .nilf) .lf) (some (.agg [(.str []), .nils, (.int .i64 (0)), (.int .i64 (0)), (.int .i64 (0)), (.int .i64 (0))])) (.nd .lf (some .nilf) .lf)) (some .nilf) (.nd (.nd .lf (some .nilf) .lf) (some (.agg [(.int .i64 (0)), (.int .i64 (0))])) (.nd .lf (some (.agg [(.str []), (.str []), .nili])) .lf))) (some .nils) (.nd (.nd (.nd .lf (some .nilf) .lf) (some (.agg [(.int .u16 (0)), (.int .u8 (0)), (.int .i16 (0)), (.int .i16 (0))])) (.nd .lf (some (.int .i64 (0))) .lf)) (some .nilf) (.nd (.nd .lf (some .nilf) .lf) (some (.agg [(.str []), .nils, (.int .i64 (0)), (.int .i64 (0)), (.int .i64 (0)), (.int .i64 (0)), (.int .i64 (0)), (.int .i64 (0))])) (.nd .lf (some (.int .i32 (0))) .lf)))) (some (.agg [(.str []), (.int .u64 (0))])) (.nd (.nd (.nd (.nd .lf (some .nilf) .lf) (some .nilf) (.nd .lf (some (.int .u32 (0))) .lf)) (some (.agg [(.int .i64 (0)), (.int .i64 (0))])) (.nd (.nd .lf (some .nilf) .lf) (some .nilf) (.nd .lf (some (.agg [.nilp, .nilp, .nilp, (.str [])])) .lf))) (some .nilf) (.nd (.nd (.nd .lf (some .nilf) .lf) (some (.agg [(.str []), (.int .i64 (0)), (.int .i64 (0)), .nils])) (.nd .lf (some (.agg [(.int .u8 (0)), (.int .u8 (0)), (.int .u8 (0)), (.int .u8 (0)), (.int .u8 (0)), (.int .u8 (0)), (.int .u8 (0)), (.int .u8 (0)), (.int .u8 (0)), (.int .u8 (0)), (.int .u8 (0)), (.int .u8 (0)), (.int .u8 (0)), (.int .u8 (0)), (.int .u8 (0)), (.int .u8 (0)), (.int .u8 (0)), (.int .u8 (0)), (.int .u8 (0)), (.int .u8 (0)), (.int .u8 (0)), (.int .u8 (0)), (.int .u8 (0)), (.int .u8 (0)), (.int .u8 (0)), (.int .u8 (0)), (.int .u8 (0)), (.int .u8 (0)), (.int .u8 (0)), (.int .u8 (0)), (.int .u8 (0)), (.int .u8 (0)), (.int .u8 (0)), (.int .u8 (0)), (.int .u8 (0)), (.int .u8 (0)), (.int .u8 (0)), (.int .u8 (0)), (.int .u8 (0)), (.int .u8 (0)), (.int .u8 (0)), (.int .u8 (0)), (.int .u8 (0)), (.int .u8 (0)), (.int .u8 (0)), (.int .u8 (0)), (.int .u8 (0)), (.int .u8 (0)), (.int .u8 (0)), (.int .u8 (0)), (.int .u8 (0)), (.int .u8 (0)), (.int .u8 (0)), (.int .u8 (0)), (.int .u8 (0)), (.int .u8 (0)), (.int .u8 (0)), (.int .u8 (0)), (.int .u8 (0)), (.int .u8 (0)), (.int .u8 (0)), (.int .u8 (0)), (.int .u8 (0)), (.int .u8 (0)), (.int .u8 (0)), (.int .u8 (0)), (.int .u8 (0)), (.int .u8 (0)), (.int .u8 (0)), (.int .u8 (0)), (.int .u8 (0)), (.int .u8 (0)), (.int .u8 (0)), (.int .u8 (0)), (.int .u8 (0)), (.int .u8 (0)), (.int .u8 (0)), (.int .u8 (0)), (.int .u8 (0)), (.int .u8 (0)), (.int .u8 (0)), (.int .u8 (0)), (.int .u8 (0)), (.int .u8 (0)), (.int .u8 (0)), (.int .u8 (0)), (.int .u8 (0)), (.int .u8 (0)), (.int .u8 (0)), (.int .u8 (0)), (.int .u8 (0)), (.int .u8 (0)), (.int .u8 (0)), (.int .u8 (0)), (.int .u8 (0)), (.int .u8 (0)), (.int .u8 (0)), (.int .u8 (0)), (.int .u8 (0)), (.int .u8 (0)), (.int .u8 (0)), (.int .u8 (0)), (.int .u8 (0)), (.int .u8 (0)), (.int .u8 (0)), (.int .u8 (0)), (.int .u8 (0)), (.int .u8 (0)), (.int .u8 (0)), (.int .u8 (0)), (.int .u8 (0)), (.int .u8 (0)), (.int .u8 (0)), (.int .u8 (0)), (.int .u8 (0)), (.int .u8 (0)), (.int .u8 (0)), (.int .u8 (0)), (.int .u8 (0)), (.int .u8 (0)), (.int .u8 (0)), (.int .u8 (0)), (.int .u8 (0)), (.int .u8 (0)), (.int .u8 (0)), (.int .u8 (0)), (.int .u8 (0)), (.int .u8 (0)), (.int .u8 (0)), (.int .u8 (0)), (.int .u8 (0)), (.int .u8 (0)), (.int .u8 (0)), (.int .u8 (0)), (.int .u8 (0)), (.int .u8 (0)), (.int .u8 (0)), (.int .u8 (0)), (.int .u8 (0)), (.int .u8 (0)), (.int .u8 (0)), (.int .u8 (0)), (.int .u8 (0)), (.int .u8 (0)), (.int .u8 (0)), (.int .u8 (0)), (.int .u8 (0)), (.int .u8 (0)), (.int .u8 (0)), (.int .u8 (0)), (.int .u8 (0)), (.int .u8 (0)), (.int .u8 (0)), (.int .u8 (0)), (.int .u8 (0)), (.int .u8 (0)), (.int .u8 (0)), (.int .u8 (0)), (.int .u8 (0)), (.int .u8 (0)), (.int .u8 (0)), (.int .u8 (0)), (.int .u8 (0)), (.int .u8 (0)), (.int .u8 (0)), (.int .u8 (0)), (.int .u8 (0)), (.int .u8 (0)), (.int .u8 (0)), (.int .u8 (0)), (.int .u8 (0)), (.int .u8 (0)), (.int .u8 (0)), (.int .u8 (0)), (.int .u8 (0)), (.int .u8 (0)), (.int .u8 (0)), (.int .u8 (0)), (.int .u8 (0)), (.int .u8 (0)), (.int .u8 (0)), (.int .u8 (0)), (.int .u8 (0)), (.int .u8 (0)), (.int .u8 (0)), (.int .u8 (0)), (.int .u8 (0)), (.int .u8 (0)), (.int .u8 (0)), (.int .u8 (0)), (.int .u8 (0)), (.int .u8 (0)), (.int .u8 (0)), (.int .u8 (0)), (.int .u8 (0)), (.int .u8 (0)), (.int .u8 (0)), (.int .u8 (0)), (.int .u8 (0)), (.int .u8 (0)), (.int .u8 (0)), (.int .u8 (0)), (.int .u8 (0)), (.int .u8 (0)), (.int .u8 (0)), (.int .u8 (0)), (.int .u8 (0)), (.int .u8 (0)), (.int .u8 (0)), (.int .u8 (0)), (.int .u8 (0)), (.int .u8 (0)), (.int .u8 (0)), (.int .u8 (0)), (.int .u8 (0)), (.int .u8 (0)), (.int .u8 (0)), (.int .u8 (0)), (.int .u8 (0)), (.int .u8 (0)), (.int .u8 (0)), (.int .u8 (0)), (.int .u8 (0)), (.int .u8 (0)), (.int .u8 (0)), (.int .u8 (0)), (.int .u8 (0)), (.int .u8 (0)), (.int .u8 (0)), (.int .u8 (0)), (.int .u8 (0)), (.int .u8 (0)), (.int .u8 (0)), (.int .u8 (0)), (.int .u8 (0)), (.int .u8 (0)), (.int .u8 (0)), (.int .u8 (0)), (.int .u8 (0)), (.int .u8 (0)), (.int .u8 (0)), (.int .u8 (0)), (.int .u8 (0)), (.int .u8 (0)), (.int .u8 (0)), (.int .u8 (0)), (.int .u8 (0)), (.int .u8 (0)), (.int .u8 (0)), (.int .u8 (0)), (.int .u8 (0)), (.int .u8 (0)), (.int .u8 (0)), (.int .u8 (0)), (.int .u8 (0)), (.int .u8 (0))])) .lf)) (some .nilf) (.nd (.nd .lf (some (.agg [(.int .u8 (0)), (.int .u8 (0)), (.int .u8 (0)), (.int .u8 (0)), (.int .u8 (0)), (.int .u8 (0)), (.int .u8 (0)), (.int .u8 (0)), (.int .u8 (0)), (.int .u8 (0)), (.int .u8 (0)), (.int .u8 (0)), (.int .u8 (0)), (.int .u8 (0)), (.int .u8 (0)), (.int .u8 (0)), (.int .u8 (0)), (.int .u8 (0)), (.int .u8 (0)), (.int .u8 (0)), (.int .u8 (0)), (.int .u8 (0)), (.int .u8 (0)), (.int .u8 (0))])) .lf) (some .nilf) .lf)))))))
noncomputable def eqT : Tr Unit := (.nd (.nd (.nd (.nd (.nd (.nd .lf none (.nd .lf (some ()) (.nd .lf (some ()) .lf))) none (.nd (.nd .lf (some ()) (.nd .lf (some ()) .lf)) (some ()) (.nd .lf none (.nd .lf (some ()) .lf)))) (some ()) (.nd (.nd .lf none (.nd .lf (some ()) .lf)) none .lf)) none (.nd (.nd (.nd (.nd (.nd .lf (some ()) .lf) none .lf) none .lf) none .lf) none (.nd (.nd .lf none (.nd .lf none (.nd .lf (some ()) .lf))) (some ()) (.nd (.nd (.nd .lf (some ()) .lf) (some ()) .lf) none .lf)))) none (.nd (.nd (.nd (.nd .lf none (.nd .lf none (.nd .lf (some ()) .lf))) none (.nd .lf (some ()) (.nd (.nd .lf (some ()) .lf) none .lf))) none (.nd .lf (some ()) .lf)) none (.nd (.nd (.nd (.nd .lf (some ()) .lf) none .lf) none (.nd (.nd .lf (some ()) .lf) none (.nd .lf (some ()) .lf))) none (.nd (.nd (.nd .lf none (.nd .lf (some ()) .lf)) (some ()) .lf) none (.nd (.nd .lf none (.nd .lf (some ()) .lf)) none .lf))))) none (.nd (.nd (.nd (.nd (.nd .lf none (.nd .lf none (.nd .lf (some ()) .lf))) none (.nd .lf (some ()) (.nd (.nd .lf (some ()) .lf) none .lf))) (some ()) (.nd .lf (some ()) .lf)) none (.nd (.nd .lf none (.nd (.nd (.nd .lf (some ()) .lf) (some ()) .lf) none .lf)) none (.nd (.nd .lf none (.nd .lf none (.nd .lf (some ()) .lf))) none (.nd (.nd .lf (some ()) (.nd .lf (some ()) .lf)) none .lf)))) none (.nd (.nd (.nd .lf none (.nd .lf (some ()) .lf)) none (.nd (.nd (.nd .lf (some ()) .lf) none .lf) (some ()) (.nd (.nd (.nd .lf (some ()) .lf) (some ()) .lf) none .lf))) none (.nd (.nd (.nd (.nd .lf (some ()) .lf) none (.nd .lf (some ()) .lf)) none (.nd (.nd .lf (some ()) .lf) none (.nd .lf (some ()) .lf))) none (.nd (.nd .lf (some ()) .lf) none (.nd (.nd .lf (some ()) (.nd .lf (some ()) .lf)) none (.nd (.nd .lf (some ()) .lf) none .lf)))))))
noncomputable def fnT : Tr Func := (.nd (.nd (.nd (.nd (.nd (.nd (.nd (.nd .lf (some Tryz.f127) .lf) (some Tryz.f63) .lf) (some Tryz.f31) (.nd (.nd .lf (some Tryz.f159) .lf) (some Tryz.f95) .lf)) (some Tryz.f15) (.nd (.nd (.nd .lf (some Tryz.f143) .lf) (some Tryz.f79) .lf) (some Tryz.f47) (.nd (.nd .lf (some Tryz.f175) .lf) (some Tryz.f111) .lf))) (some Tryz.f7) (.nd (.nd (.nd (.nd .lf (some Tryz.f135) .lf) (some Tryz.f71) .lf) (some Tryz.f39) (.nd (.nd .lf (some Tryz.f167) .lf) (some Tryz.f103) .lf)) (some Tryz.f23) (.nd (.nd (.nd .lf (some Tryz.f151) .lf) (some Tryz.f87) .lf) (some Tryz.f55) (.nd (.nd .lf (some Tryz.f183) .lf) (some Tryz.f119) .lf)))) (some Tryz.f3) (.nd (.nd (.nd (.nd (.nd .lf (some Tryz.f131) .lf) (some Tryz.f67) .lf) (some Tryz.f35) (.nd (.nd .lf (some Tryz.f163) .lf) (some Tryz.f99) .lf)) (some Tryz.f19) (.nd (.nd (.nd .lf (some Tryz.f147) .lf) (some Tryz.f83) .lf) (some Tryz.f51) (.nd (.nd .lf (some Tryz.f179) .lf) (some Tryz.f115) .lf))) (some Tryz.f11) (.nd (.nd (.nd (.nd .lf (some Tryz.f139) .lf) (some Tryz.f75) .lf) (some Tryz.f43) (.nd (.nd .lf (some Tryz.f171) .lf) (some Tryz.f107) .lf)) (some Tryz.f27) (.nd (.nd (.nd .lf (some Tryz.f155) .lf) (some Tryz.f91) .lf) (some Tryz.f59) (.nd .lf (some Tryz.f123) .lf))))) none (.nd (.nd (.nd (.nd (.nd (.nd .lf (some Tryz.f129) .lf) (some Tryz.f65) .lf) (some Tryz.f33) (.nd (.nd .lf (some Tryz.f161) .lf) (some Tryz.f97) .lf)) (some Tryz.f17) (.nd (.nd (.nd .lf (some Tryz.f145) .lf) (some Tryz.f81) .lf) (some Tryz.f49) (.nd (.nd .lf (some Tryz.f177) .lf) (some Tryz.f113) .lf))) (some Tryz.f9) (.nd (.nd (.nd (.nd .lf (some Tryz.f137) .lf) (some Tryz.f73) .lf) (some Tryz.f41) (.nd (.nd .lf (some Tryz.f169) .lf) (some Tryz.f105) .lf)) (some Tryz.f25) (.nd (.nd (.nd .lf (some Tryz.f153) .lf) (some Tryz.f89) .lf) (some Tryz.f57) (.nd .lf (some Tryz.f121) .lf)))) (some Tryz.f5) (.nd (.nd (.nd (.nd (.nd .lf (some Tryz.f133) .lf) (some Tryz.f69) .lf) (some Tryz.f37) (.nd .lf (some Tryz.f101) .lf)) (some Tryz.f21) (.nd (.nd (.nd .lf (some Tryz.f149) .lf) (some Tryz.f85) .lf) (some Tryz.f53) (.nd (.nd .lf (some Tryz.f181) .lf) (some Tryz.f117) .lf))) (some Tryz.f13) (.nd (.nd (.nd (.nd .lf (some Tryz.f141) .lf) (some Tryz.f77) .lf) (some Tryz.f45) (.nd (.nd .lf (some Tryz.f173) .lf) (some Tryz.f109) .lf)) (some Tryz.f29) (.nd (.nd (.nd .lf (some Tryz.f157) .lf) (some Tryz.f93) .lf) (some Tryz.f61) (.nd .lf (some Tryz.f125) .lf)))))) none (.nd (.nd (.nd (.nd (.nd (.nd (.nd .lf (some Tryz.f128) .lf) (some Tryz.f64) .lf) (some Tryz.f32) (.nd (.nd .lf (some Tryz.f160) .lf) (some Tryz.f96) .lf)) (some Tryz.f16) (.nd (.nd (.nd .lf (some Tryz.f144) .lf) (some Tryz.f80) .lf) (some Tryz.f48) (.nd (.nd .lf (some Tryz.f176) .lf) (some Tryz.f112) .lf))) (some Tryz.f8) (.nd (.nd (.nd (.nd .lf (some Tryz.f136) .lf) (some Tryz.f72) .lf) (some Tryz.f40) (.nd (.nd .lf (some Tryz.f168) .lf) (some Tryz.f104) .lf)) (some Tryz.f24) (.nd (.nd (.nd .lf (some Tryz.f152) .lf) (some Tryz.f88) .lf) (some Tryz.f56) (.nd (.nd .lf (some Tryz.f184) .lf) (some Tryz.f120) .lf)))) (some Tryz.f4) (.nd (.nd (.nd (.nd (.nd .lf (some Tryz.f132) .lf) (some Tryz.f68) .lf) (some Tryz.f36) (.nd (.nd .lf (some Tryz.f164) .lf) (some Tryz.f100) .lf)) (some Tryz.f20) (.nd (.nd (.nd .lf (some Tryz.f148) .lf) (some Tryz.f84) .lf) (some Tryz.f52) (.nd (.nd .lf (some Tryz.f180) .lf) (some Tryz.f116) .lf))) (some Tryz.f12) (.nd (.nd (.nd (.nd .lf (some Tryz.f140) .lf) (some Tryz.f76) .lf) (some Tryz.f44) (.nd .lf (some Tryz.f108) .lf)) (some Tryz.f28) (.nd (.nd (.nd .lf (some Tryz.f156) .lf) (some Tryz.f92) .lf) (some Tryz.f60) (.nd .lf (some Tryz.f124) .lf))))) (some Tryz.f2) (.nd (.nd (.nd (.nd (.nd (.nd .lf (some Tryz.f130) .lf) (some Tryz.f66) .lf) (some Tryz.f34) (.nd .lf (some Tryz.f98) .lf)) (some Tryz.f18) (.nd (.nd (.nd .lf (some Tryz.f146) .lf) (some Tryz.f82) .lf) (some Tryz.f50) (.nd (.nd .lf (some Tryz.f178) .lf) (some Tryz.f114) .lf))) (some Tryz.f10) (.nd (.nd (.nd (.nd .lf (some Tryz.f138) .lf) (some Tryz.f74) .lf) (some Tryz.f42) (.nd (.nd .lf (some Tryz.f170) .lf) (some Tryz.f106) .lf)) (some Tryz.f26) (.nd (.nd (.nd .lf (some Tryz.f154) .lf) (some Tryz.f90) .lf) (some Tryz.f58) (.nd .lf (some Tryz.f122) .lf)))) (some Tryz.f6) (.nd (.nd (.nd (.nd (.nd .lf (some Tryz.f134) .lf) (some Tryz.f70) .lf) (some Tryz.f38) (.nd (.nd .lf (some Tryz.f166) .lf) (some Tryz.f102) .lf)) (some Tryz.f22) (.nd (.nd (.nd .lf (some Tryz.f150) .lf) (some Tryz.f86) (.nd .lf (some Tryz.f214) .lf)) (some Tryz.f54) (.nd (.nd .lf (some Tryz.f182) .lf) (some Tryz.f118) .lf))) (some Tryz.f14) (.nd (.nd (.nd (.nd .lf (some Tryz.f142) .lf) (some Tryz.f78) .lf) (some Tryz.f46) (.nd (.nd .lf (some Tryz.f174) .lf) (some Tryz.f110) .lf)) (some Tryz.f30) (.nd (.nd (.nd .lf (some Tryz.f158) .lf) (some Tryz.f94) .lf) (some Tryz.f62) (.nd .lf (some Tryz.f126) .lf)))))))
noncomputable def glT : Tr (List AV) := (.nd (.nd .lf (some [(.int .u64 (1)), (.int .u64 (10)), (.int .u64 (100)), (.int .u64 (1000)), (.int .u64 (10000)), (.int .u64 (100000)), (.int .u64 (1000000)), (.int .u64 (10000000)), (.int .u64 (100000000)), (.int .u64 (1000000000)), (.int .u64 (10000000000)), (.int .u64 (100000000000)), (.int .u64 (1000000000000)), (.int .u64 (10000000000000)), (.int .u64 (100000000000000)), (.int .u64 (1000000000000000)), (.int .u64 (10000000000000000)), (.int .u64 (100000000000000000)), (.int .u64 (1000000000000000000)), (.int .u64 (10000000000000000000))]) .lf) (some [(.int .i64 (0)), (.int .i64 (1000)), (.int .i64 (195)), (.int .i64 (981)), (.int .i64 (383)), (.int .i64 (924)), (.int .i64 (556)), (.int .i64 (831)), (.int .i64 (707)), (.int .i64 (707)), (.int .i64 (831)), (.int .i64 (556)), (.int .i64 (924)), (.int .i64 (383)), (.int .i64 (981)), (.int .i64 (195))]) .lf)
noncomputable def mtT : Tr (List (String × Nat)) := (.nd (.nd (.nd (.nd (.nd .lf (some [("Error", 193), ("RuntimeError", 194)]) .lf) none .lf) none (.nd (.nd .lf (some [("Error", 198), ("RuntimeError", 199)]) (.nd .lf none (.nd .lf none (.nd .lf (some [("String", 203)]) .lf)))) (some [("Error", 189), ("RuntimeError", 190)]) .lf)) none (.nd (.nd (.nd .lf (some [("Align", 197)]) .lf) none (.nd (.nd .lf none (.nd (.nd .lf (some [("nore/chart.count", 107), ("nore/chart.cut", 121)]) .lf) none .lf)) none (.nd (.nd .lf none (.nd .lf (some [("Error", 201)]) .lf)) none .lf))) none .lf)) none (.nd (.nd (.nd (.nd .lf (some [("Error", 195), ("RuntimeError", 196)]) .lf) (some [("Error", 185), ("RuntimeError", 186)]) .lf) none .lf) none (.nd (.nd .lf (some [("Error", 187), ("RuntimeError", 188)]) (.nd (.nd .lf none (.nd .lf none (.nd .lf (some [("Error", 202)]) .lf))) none (.nd .lf none (.nd (.nd .lf (some [("nore/chart.mark", 128), ("nore/chart.more", 139), ("nore/chart.number", 142), ("nore/chart.point", 141), ("nore/chart.sand", 129), ("nore/chart.span", 143), ("nore/chart.word", 127)]) .lf) none .lf)))) none (.nd (.nd .lf none (.nd (.nd .lf none (.nd .lf (some [("Error", 200)]) .lf)) none (.nd .lf (some [("nore/chart.firstMove", 108), ("nore/chart.movesOnto", 69), ("nore/chart.rowsOnto", 106), ("nore/chart.sideIsNear", 122)]) .lf))) (some [("Error", 191), ("RuntimeError", 192)]) .lf))))
noncomputable def T0 : Tabs := ⟨tyT, szT, byT, zeT, eqT, fnT, glT, 162, 165, 155, .lf, mtT, true⟩
theorem fnT_ok : allP (fun f fn => Tryz.prog.funcs[f]? = some fn) fnT (fun k => k) := ⟨trivial, ⟨trivial, ⟨Tryz.func3, ⟨Tryz.func7, ⟨Tryz.func15, ⟨Tryz.func31, ⟨Tryz.func63, ⟨Tryz.func127, trivial, trivial⟩, trivial⟩, ⟨Tryz.func95, ⟨Tryz.func159, trivial, trivial⟩, trivial⟩⟩, ⟨Tryz.func47, ⟨Tryz.func79, ⟨Tryz.func143, trivial, trivial⟩, trivial⟩, ⟨Tryz.func111, ⟨Tryz.func175, trivial, trivial⟩, trivial⟩⟩⟩, ⟨Tryz.func23, ⟨Tryz.func39, ⟨Tryz.func71, ⟨Tryz.func135, trivial, trivial⟩, trivial⟩, ⟨Tryz.func103, ⟨Tryz.func167, trivial, trivial⟩, trivial⟩⟩, ⟨Tryz.func55, ⟨Tryz.func87, ⟨Tryz.func151, trivial, trivial⟩, trivial⟩, ⟨Tryz.func119, ⟨Tryz.func183, trivial, trivial⟩, trivial⟩⟩⟩⟩, ⟨Tryz.func11, ⟨Tryz.func19, ⟨Tryz.func35, ⟨Tryz.func67, ⟨Tryz.func131, trivial, trivial⟩, trivial⟩, ⟨Tryz.func99, ⟨Tryz.func163, trivial, trivial⟩, trivial⟩⟩, ⟨Tryz.func51, ⟨Tryz.func83, ⟨Tryz.func147, trivial, trivial⟩, trivial⟩, ⟨Tryz.func115, ⟨Tryz.func179, trivial, trivial⟩, trivial⟩⟩⟩, ⟨Tryz.func27, ⟨Tryz.func43, ⟨Tryz.func75, ⟨Tryz.func139, trivial, trivial⟩, trivial⟩, ⟨Tryz.func107, ⟨Tryz.func171, trivial, trivial⟩, trivial⟩⟩, ⟨Tryz.func59, ⟨Tryz.func91, ⟨Tryz.func155, trivial, trivial⟩, trivial⟩, ⟨Tryz.func123, trivial, trivial⟩⟩⟩⟩⟩, ⟨Tryz.func5, ⟨Tryz.func9, ⟨Tryz.func17, ⟨Tryz.func33, ⟨Tryz.func65, ⟨Tryz.func129, trivial, trivial⟩, trivial⟩, ⟨Tryz.func97, ⟨Tryz.func161, trivial, trivial⟩, trivial⟩⟩, ⟨Tryz.func49, ⟨Tryz.func81, ⟨Tryz.func145, trivial, trivial⟩, trivial⟩, ⟨Tryz.func113, ⟨Tryz.func177, trivial, trivial⟩, trivial⟩⟩⟩, ⟨Tryz.func25, ⟨Tryz.func41, ⟨Tryz.func73, ⟨Tryz.func137, trivial, trivial⟩, trivial⟩, ⟨Tryz.func105, ⟨Tryz.func169, trivial, trivial⟩, trivial⟩⟩, ⟨Tryz.func57, ⟨Tryz.func89, ⟨Tryz.func153, trivial, trivial⟩, trivial⟩, ⟨Tryz.func121, trivial, trivial⟩⟩⟩⟩, ⟨Tryz.func13, ⟨Tryz.func21, ⟨Tryz.func37, ⟨Tryz.func69, ⟨Tryz.func133, trivial, trivial⟩, trivial⟩, ⟨Tryz.func101, trivial, trivial⟩⟩, ⟨Tryz.func53, ⟨Tryz.func85, ⟨Tryz.func149, trivial, trivial⟩, trivial⟩, ⟨Tryz.func117, ⟨Tryz.func181, trivial, trivial⟩, trivial⟩⟩⟩, ⟨Tryz.func29, ⟨Tryz.func45, ⟨Tryz.func77, ⟨Tryz.func141, trivial, trivial⟩, trivial⟩, ⟨Tryz.func109, ⟨Tryz.func173, trivial, trivial⟩, trivial⟩⟩, ⟨Tryz.func61, ⟨Tryz.func93, ⟨Tryz.func157, trivial, trivial⟩, trivial⟩, ⟨Tryz.func125, trivial, trivial⟩⟩⟩⟩⟩⟩, ⟨Tryz.func2, ⟨Tryz.func4, ⟨Tryz.func8, ⟨Tryz.func16, ⟨Tryz.func32, ⟨Tryz.func64, ⟨Tryz.func128, trivial, trivial⟩, trivial⟩, ⟨Tryz.func96, ⟨Tryz.func160, trivial, trivial⟩, trivial⟩⟩, ⟨Tryz.func48, ⟨Tryz.func80, ⟨Tryz.func144, trivial, trivial⟩, trivial⟩, ⟨Tryz.func112, ⟨Tryz.func176, trivial, trivial⟩, trivial⟩⟩⟩, ⟨Tryz.func24, ⟨Tryz.func40, ⟨Tryz.func72, ⟨Tryz.func136, trivial, trivial⟩, trivial⟩, ⟨Tryz.func104, ⟨Tryz.func168, trivial, trivial⟩, trivial⟩⟩, ⟨Tryz.func56, ⟨Tryz.func88, ⟨Tryz.func152, trivial, trivial⟩, trivial⟩, ⟨Tryz.func120, ⟨Tryz.func184, trivial, trivial⟩, trivial⟩⟩⟩⟩, ⟨Tryz.func12, ⟨Tryz.func20, ⟨Tryz.func36, ⟨Tryz.func68, ⟨Tryz.func132, trivial, trivial⟩, trivial⟩, ⟨Tryz.func100, ⟨Tryz.func164, trivial, trivial⟩, trivial⟩⟩, ⟨Tryz.func52, ⟨Tryz.func84, ⟨Tryz.func148, trivial, trivial⟩, trivial⟩, ⟨Tryz.func116, ⟨Tryz.func180, trivial, trivial⟩, trivial⟩⟩⟩, ⟨Tryz.func28, ⟨Tryz.func44, ⟨Tryz.func76, ⟨Tryz.func140, trivial, trivial⟩, trivial⟩, ⟨Tryz.func108, trivial, trivial⟩⟩, ⟨Tryz.func60, ⟨Tryz.func92, ⟨Tryz.func156, trivial, trivial⟩, trivial⟩, ⟨Tryz.func124, trivial, trivial⟩⟩⟩⟩⟩, ⟨Tryz.func6, ⟨Tryz.func10, ⟨Tryz.func18, ⟨Tryz.func34, ⟨Tryz.func66, ⟨Tryz.func130, trivial, trivial⟩, trivial⟩, ⟨Tryz.func98, trivial, trivial⟩⟩, ⟨Tryz.func50, ⟨Tryz.func82, ⟨Tryz.func146, trivial, trivial⟩, trivial⟩, ⟨Tryz.func114, ⟨Tryz.func178, trivial, trivial⟩, trivial⟩⟩⟩, ⟨Tryz.func26, ⟨Tryz.func42, ⟨Tryz.func74, ⟨Tryz.func138, trivial, trivial⟩, trivial⟩, ⟨Tryz.func106, ⟨Tryz.func170, trivial, trivial⟩, trivial⟩⟩, ⟨Tryz.func58, ⟨Tryz.func90, ⟨Tryz.func154, trivial, trivial⟩, trivial⟩, ⟨Tryz.func122, trivial, trivial⟩⟩⟩⟩, ⟨Tryz.func14, ⟨Tryz.func22, ⟨Tryz.func38, ⟨Tryz.func70, ⟨Tryz.func134, trivial, trivial⟩, trivial⟩, ⟨Tryz.func102, ⟨Tryz.func166, trivial, trivial⟩, trivial⟩⟩, ⟨Tryz.func54, ⟨Tryz.func86, ⟨Tryz.func150, trivial, trivial⟩, ⟨Tryz.func214, trivial, trivial⟩⟩, ⟨Tryz.func118, ⟨Tryz.func182, trivial, trivial⟩, trivial⟩⟩⟩, ⟨Tryz.func30, ⟨Tryz.func46, ⟨Tryz.func78, ⟨Tryz.func142, trivial, trivial⟩, trivial⟩, ⟨Tryz.func110, ⟨Tryz.func174, trivial, trivial⟩, trivial⟩⟩, ⟨Tryz.func62, ⟨Tryz.func94, ⟨Tryz.func158, trivial, trivial⟩, trivial⟩, ⟨Tryz.func126, trivial, trivial⟩⟩⟩⟩⟩⟩⟩
theorem lib_ok : T0.lb = true → LibOK Tryz.prog 162 165 155 := by
 intro _
 obtain ⟨i, hi, hz, h1, h2⟩ := info_parts (show (Tryz.prog.info? 5).map (fun i => (i.zero, i.size, i.bytes)) = some (some (.int .u8 0), 1, 1) by kernel_rfl)
 exact ⟨⟨_, Tryz.func162, by kernel_rfl, by kernel_rfl, by kernel_rfl, by kernel_rfl⟩, ⟨_, Tryz.func165, by kernel_rfl, by kernel_rfl, by kernel_rfl, by kernel_rfl⟩,
  ⟨3, 4, 9, 170, 211, 5, i, by rw [Tryz.func155]; rfl, by kernel_rfl, by kernel_rfl, by kernel_rfl, by kernel_rfl, hi, hz, h1, h2⟩⟩
theorem tabs_ok : TabsOK Tryz.prog T0 := ⟨by kernel_rfl, by kernel_rfl, by kernel_rfl, fnT_ok, by kernel_rfl, by kernel_rfl, lib_ok, by kernel_rfl⟩
end Go.Proofs.YtffnpkbopjjdaaaGreatDoor


set_option maxRecDepth 100000
namespace Go.Proofs.YtffnpkbopjjdaaaGreatDoor
open Go Go.Eng
noncomputable def E0 : Env := { T0.env with sy := true, frz := fun _ => true }
theorem e0 : EnvOK Tryz.prog E0 := by
 have h := tabs_ok.env
 refine ⟨fun t k ht => ?_, h.zero, h.fn, h.eqok, h.meth⟩
 obtain ⟨h1, h2⟩ := h.ty t k ht
 refine ⟨h1, ?_⟩
 cases k <;> exact h2
theorem n0 : NameOK E0 := tabs_ok.name
theorem x0 : ExtOK Tryz.prog E0 := tabs_ok.ext
abbrev tI : Ty := .int .i64
abbrev tP : Ty := .cons tI (.cons tI .nil)
abbrev tBox : Ty := .cons tP (.cons tP .nil)
abbrev tMark : Ty := .cons .str (.cons tP (.cons (.sl tP) .nil))
abbrev tSand : Ty := .cons .str (.cons (.sl tP) (.cons tBox .nil))
abbrev tChart : Ty := .cons (.sl tMark) (.cons (.sl tSand) .nil)
noncomputable def hdOf (l : List Nat) : Sy := ⟨fun _ _ => none, fun f => l.any (Nat.beq f), true, []⟩
theorem hdOf_ok (l : List Nat) : (hdOf l).ok E0 := fun _ _ _ h => by cases h
theorem E0sy : E0.sy = true := rfl
theorem E0ext (f : Nat) (args : List AV) (h : (E0.ext f args).isNone = true) : E0.ext f args = none := by
 cases e : E0.ext f args with
 | none => rfl
 | some v => rw [e] at h; cases h
noncomputable def hasB (E : Env) (f : Nat) : Bool := match E.fn f with
 | some fn => fn.body.isSome
 | none => false
theorem hasB_spec {E : Env} {f : Nat} (h : hasB E f = true) : ∃ fn b, E.fn f = some fn ∧ fn.body = some b := by
 unfold hasB at h
 split at h
 · rename_i fn e
   obtain ⟨b, hb⟩ := Option.isSome_iff_exists.1 h
   exact ⟨fn, b, e, hb⟩
 · cases h
end Go.Proofs.YtffnpkbopjjdaaaGreatDoor


set_option maxRecDepth 100000
namespace Go.Proofs.YtffnpkbopjjdaaaGreatDoor
open Go Go.Eng
theorem vecTo_start (a b : tP.den) : adv E0 (hdOf []) 3000 (startC E0 83 [tP.av a, tP.av b] 3) = some (.done (.agg [(.int .i64 (wr .i64 (b.1 - a.1))), (.int .i64 (wr .i64 (b.2.1 - a.2.1)))])) := by kernel_rfl
noncomputable def nameI0 (s : List Nat) (x2 : Int) (x8 : Nat) (x16 : Nat) : Cfg := ⟨.ex (pcOf E0 18 [0, 0, 1, 0, 1, 1, 1]) ⟨(tmOf 34 [(0, (.str (s))), (2, (.bool (false))), (3, (.int .i32 x2)), (7, (.str (s))), (8, (.int .i64 (Int.ofNat s.length))), (9, (.bool (false))), (10, (.str (s))), (11, (.iter 0))]), (hpOf 1 [(0, (.siter (s) x8))]), [], [], 34, false⟩, ⟨3, []⟩, [(.lop (pcOf E0 18 [0, 0, 1, 0, 1, 1, 1]) 1 (tmOf 34 [(0, (.str (s))), (2, (.bool (false))), (3, (.int .i32 (45))), (7, (.str (s))), (8, (.int .i64 (Int.ofNat s.length))), (9, (.bool (false))), (10, (.str (s))), (11, (.iter 0))]) x16), (.blk 0), (.seq (pcOf E0 18 [1, 1, 1, 1])), (.cal [(.tmp 2)] .top)]⟩
theorem name_start (s : List Nat) : adv E0 (hdOf [18]) 3000 (startC E0 18 [.str s] 3) = (bif !ile (↑s.length) 14 then some (.done (.bool (false))) else some (.stop (nameI0 s (45) (0) (1048575)))) := by kernel_rfl
theorem name_step0 (s : List Nat) (x2 : Int) (x8 : Nat) (x16 : Nat) : adv E0 (hdOf [18]) 3000 (nameI0 s x2 x8 (x16 + 1)) = (bif (x8 + 1).ble s.length then (bif (s.getD x8 0).ble 127 then (bif ile 97 (Int.ofNat (s.getD x8 0)) then (bif !ile (Int.ofNat (s.getD x8 0)) 122 then (bif !ieq (Int.ofNat (s.getD x8 0)) 45 then some (.done (.bool (false))) else (bif ieq x2 45 then some (.done (.bool (false))) else some (.stop (nameI0 s (Int.ofNat (s.getD x8 0)) (x8 + 1) (x16))))) else some (.stop (nameI0 s (Int.ofNat (s.getD x8 0)) (x8 + 1) (x16)))) else (bif !ieq (Int.ofNat (s.getD x8 0)) 45 then some (.done (.bool (false))) else (bif ieq x2 45 then some (.done (.bool (false))) else some (.stop (nameI0 s (Int.ofNat (s.getD x8 0)) (x8 + 1) (x16)))))) else (bif ile 97 (Int.ofNat (decN s x8).1) then (bif !ile (Int.ofNat (decN s x8).1) 122 then (bif !ieq (Int.ofNat (decN s x8).1) 45 then some (.done (.bool (false))) else (bif ieq x2 45 then some (.done (.bool (false))) else some (.stop (nameI0 s (Int.ofNat (decN s x8).1) (x8 + (decN s x8).2) (x16))))) else some (.stop (nameI0 s (Int.ofNat (decN s x8).1) (x8 + (decN s x8).2) (x16)))) else (bif !ieq (Int.ofNat (decN s x8).1) 45 then some (.done (.bool (false))) else (bif ieq x2 45 then some (.done (.bool (false))) else some (.stop (nameI0 s (Int.ofNat (decN s x8).1) (x8 + (decN s x8).2) (x16))))))) else some (.done (.bool (!ieq x2 45)))) := by kernel_rfl
noncomputable def rnameI0 (s : List Nat) (x2 : Int) (x14 : Nat) : Cfg := ⟨.ex (pcOf E0 19 [0, 0, 1, 0, 1, 1]) ⟨(tmOf 46 [(0, (.str (s))), (2, (.bool (false))), (3, (.int .i64 x2)), (4, (.str (s))), (5, (.int .i64 (Int.ofNat s.length))), (6, (.bool (ile (↑s.length) 14))), (7, (.bool (false)))]), (hpOf 0 []), [], [], 46, false⟩, ⟨3, []⟩, [(.lop (pcOf E0 19 [0, 0, 1, 0, 1, 1]) 0 (tmOf 46 [(0, (.str (s))), (2, (.bool (false))), (3, (.int .i64 (0))), (4, (.str (s))), (5, (.int .i64 (Int.ofNat s.length))), (6, (.bool (ile (↑s.length) 14))), (7, (.bool (false)))]) x14), (.blk 0), (.seq (pcOf E0 19 [1, 1, 1])), (.cal [(.tmp 2)] .top)]⟩
theorem rname_start (s : List Nat) : adv E0 (hdOf [19]) 3000 (startC E0 19 [.str s] 3) = (bif ile 1 ↑s.length then (bif !ile (↑s.length) 14 then some (.done (.bool (false))) else some (.stop (rnameI0 s (0) (1048575)))) else some (.done (.bool (false)))) := by kernel_rfl
theorem rname_step0 (s : List Nat) (x2 : Int) (x14 : Nat) : adv E0 (hdOf [19]) 3000 (rnameI0 s x2 (x14 + 1)) = (bif !ile (↑s.length) x2 then (bif inB x2 s.length then (bif ile 97 (Int.ofNat (s.getD x2.toNat 0)) then (bif inB x2 s.length then (bif ile (Int.ofNat (s.getD x2.toNat 0)) 122 then some (.stop (rnameI0 s (wr .i64 (x2 + 1)) (x14))) else (bif inB x2 s.length then (bif !ieq (Int.ofNat (s.getD x2.toNat 0)) 45 then some (.done (.bool (false))) else (bif ieq x2 0 then some (.done (.bool (false))) else (bif ieq x2 (wr .i64 (↑s.length - 1)) then some (.done (.bool (false))) else (bif inB (wr .i64 (x2 - 1)) s.length then (bif ieq (Int.ofNat (s.getD (wr .i64 (x2 - 1)).toNat 0)) 45 then some (.done (.bool (false))) else some (.stop (rnameI0 s (wr .i64 (x2 + 1)) (x14)))) else none)))) else none)) else none) else (bif inB x2 s.length then (bif !ieq (Int.ofNat (s.getD x2.toNat 0)) 45 then some (.done (.bool (false))) else (bif ieq x2 0 then some (.done (.bool (false))) else (bif ieq x2 (wr .i64 (↑s.length - 1)) then some (.done (.bool (false))) else (bif inB (wr .i64 (x2 - 1)) s.length then (bif ieq (Int.ofNat (s.getD (wr .i64 (x2 - 1)).toNat 0)) 45 then some (.done (.bool (false))) else some (.stop (rnameI0 s (wr .i64 (x2 + 1)) (x14)))) else none)))) else none)) else none) else some (.done (.bool (true)))) := by kernel_rfl
noncomputable def paintsI0 (d : (Ty.sl tP).den) (x3 : Int) (x7 : Int) (x16 : Nat) : Cfg := ⟨.ex (pcOf E0 118 [0, 0, 1, 0, 1, 1]) ⟨(tmOf 31 [(0, (.vs tP (d.1) (d.2))), (2, (.int .i64 (0))), (3, (.int .i64 x3)), (6, (.vs tP (d.1) (d.2))), (7, (.int .i64 (Int.ofNat d.2.length))), (8, (.int .i64 x7))]), (hpOf 0 []), [], [], 31, false⟩, ⟨3, []⟩, [(.lop (pcOf E0 118 [0, 0, 1, 0, 1, 1]) 0 (tmOf 31 [(0, (.vs tP (d.1) (d.2))), (2, (.int .i64 (0))), (3, (.int .i64 (-1))), (6, (.vs tP (d.1) (d.2))), (7, (.int .i64 (Int.ofNat d.2.length))), (8, (.int .i64 (0)))]) x16), (.blk 0), (.seq (pcOf E0 118 [1, 1, 1])), (.cal [(.tmp 2)] .top)]⟩
theorem paints_start (d : (Ty.sl tP).den) : adv E0 (hdOf [118]) 3000 (startC E0 118 [.vs tP d.1 d.2] 3) = some (.stop (paintsI0 d (-1) (0) (1048575))) := by kernel_rfl
theorem paints_step0 (d : (Ty.sl tP).den) (x3 : Int) (x7 : Int) (x16 : Nat) : adv E0 (hdOf [118]) 3000 (paintsI0 d x3 x7 (x16 + 1)) = (bif !ile (Int.ofNat d.2.length) x7 then (bif inB x7 d.2.length then (bif !ile 0 (d.2.getD x7.toNat tP.dflt).1 then some (.done (.int .i64 (7))) else (bif !ile (d.2.getD x7.toNat tP.dflt).1 40000 then some (.done (.int .i64 (7))) else (bif !ile 0 (d.2.getD x7.toNat tP.dflt).2.1 then some (.done (.int .i64 (7))) else (bif !ile (d.2.getD x7.toNat tP.dflt).2.1 4 then some (.done (.int .i64 (7))) else (bif ile (d.2.getD x7.toNat tP.dflt).1 x3 then some (.done (.int .i64 (2))) else some (.stop (paintsI0 d ((d.2.getD x7.toNat tP.dflt).1) (wr .i64 (x7 + 1)) (x16)))))))) else none) else some (.done (.int .i64 (0)))) := by kernel_rfl
noncomputable def rpaintsI0 (d : (Ty.sl tP).den) (x3 : Int) (x18 : Nat) : Cfg := ⟨.ex (pcOf E0 65 [0, 0, 1, 0, 1, 1]) ⟨(tmOf 46 [(0, (.vs tP (d.1) (d.2))), (2, (.int .i64 (0))), (3, (.int .i64 x3)), (4, (.vs tP (d.1) (d.2))), (5, (.int .i64 (Int.ofNat d.2.length))), (6, (.bool (ile (↑d.2.length) 4))), (7, (.bool (false)))]), (hpOf 0 []), [], [], 46, false⟩, ⟨3, []⟩, [(.lop (pcOf E0 65 [0, 0, 1, 0, 1, 1]) 0 (tmOf 46 [(0, (.vs tP (d.1) (d.2))), (2, (.int .i64 (0))), (3, (.int .i64 (0))), (4, (.vs tP (d.1) (d.2))), (5, (.int .i64 (Int.ofNat d.2.length))), (6, (.bool (ile (↑d.2.length) 4))), (7, (.bool (false)))]) x18), (.blk 0), (.seq (pcOf E0 65 [1, 1, 1])), (.cal [(.tmp 2)] .top)]⟩
theorem rpaints_start (d : (Ty.sl tP).den) : adv E0 (hdOf [65]) 3000 (startC E0 65 [.vs tP d.1 d.2] 3) = (bif ile 1 ↑d.2.length then (bif !ile (↑d.2.length) 4 then some (.done (.int .i64 (3))) else some (.stop (rpaintsI0 d (0) (1048575)))) else some (.done (.int .i64 (3)))) := by kernel_rfl
theorem rpaints_step0 (d : (Ty.sl tP).den) (x3 : Int) (x18 : Nat) : adv E0 (hdOf [65]) 3000 (rpaintsI0 d x3 (x18 + 1)) = (bif !ile (↑d.2.length) x3 then (bif inB x3 d.2.length then (bif ile 0 (d.2.getD x3.toNat tP.dflt).1 then (bif !ile (d.2.getD x3.toNat tP.dflt).1 40000 then some (.done (.int .i64 (7))) else (bif inB x3 d.2.length then (bif ile 0 (d.2.getD x3.toNat tP.dflt).2.1 then (bif !ile (d.2.getD x3.toNat tP.dflt).2.1 4 then some (.done (.int .i64 (7))) else (bif !ile x3 0 then (bif inB x3 d.2.length then (bif inB (wr .i64 (x3 - 1)) d.2.length then (bif ile (d.2.getD x3.toNat tP.dflt).1 (d.2.getD (wr .i64 (x3 - 1)).toNat tP.dflt).1 then some (.done (.int .i64 (2))) else some (.stop (rpaintsI0 d (wr .i64 (x3 + 1)) (x18)))) else none) else none) else some (.stop (rpaintsI0 d (wr .i64 (x3 + 1)) (x18))))) else some (.done (.int .i64 (7)))) else none)) else some (.done (.int .i64 (7)))) else none) else some (.done (.int .i64 (0)))) := by kernel_rfl
noncomputable def placeI0 (d : (Ty.sl .str).den) (s : List Nat) (x4 : Int) (x10 : Nat) : Cfg := ⟨.ex (pcOf E0 104 [0, 0, 1, 0, 1]) ⟨(tmOf 19 [(0, (.vs .str (d.1) (d.2))), (1, (.str (s))), (4, (.int .i64 (0))), (5, (.int .i64 x4))]), (hpOf 0 []), [], [], 19, false⟩, ⟨3, []⟩, [(.lop (pcOf E0 104 [0, 0, 1, 0, 1]) 0 (tmOf 19 [(0, (.vs .str (d.1) (d.2))), (1, (.str (s))), (4, (.int .i64 (0))), (5, (.int .i64 (0)))]) x10), (.blk 0), (.seq (pcOf E0 104 [1, 1])), (.cal [(.tmp 4)] .top)]⟩
theorem place_start (d : (Ty.sl .str).den) (s : List Nat) : adv E0 (hdOf [104]) 3000 (startC E0 104 [.vs .str d.1 d.2, .str s] 3) = some (.stop (placeI0 d s (0) (1048575))) := by kernel_rfl
theorem place_step0 (d : (Ty.sl .str).den) (s : List Nat) (x4 : Int) (x10 : Nat) : adv E0 (hdOf [104]) 3000 (placeI0 d s x4 (x10 + 1)) = (bif !ile (↑d.2.length) x4 then (bif inB x4 d.2.length then (bif lbeq (d.2.getD x4.toNat Ty.str.dflt) s then some (.done (.int .i64 (x4))) else some (.stop (placeI0 d s (wr .i64 (x4 + 1)) (x10)))) else none) else some (.done (.int .i64 (-1)))) := by kernel_rfl
theorem same_at {α : Type} {l : List α} {j k : Nat} (hk : k < l.length) (hj : j < l.length) (e : k + 1 = j + 1) : l[k] = l[j] := by
 have : k = j := by omega
 subst this; rfl
theorem ile_neg {a : Int} (h : ile 0 a = true) : ile a (-1) = false := by
 rw [ile_iff] at h ⊢
 simp only [decide_eq_true_eq] at h
 exact decide_eq_false (by omega)
def placeF (s : List Nat) : List (List Nat) → Nat → Int
 | [], _ => -1
 | a :: l, k => if a = s then k else placeF s l (k + 1)
theorem place_ans (d : (Ty.sl .str).den) (s : List Nat) (hl : d.2.length < 1048576) : ∀ (r k m : Nat), k + r = d.2.length → r < m → Ans E0 (placeI0 d s k m) (.int .i64 (placeF s (d.2.drop k) k))
 | 0, k, m + 1, hk, hm => by
  have h := place_step0 d s k m
  simp only [Int.ofNat_eq_natCast, ile_ge (show d.2.length ≤ k by omega), Bool.not_true, cond_false] at h
  rw [List.drop_eq_nil_of_le (by omega)]
  exact .doneI (hdOf_ok _) E0sy h rfl
 | r + 1, k, m + 1, hk, hm => by
  have h := place_step0 d s k m
  have hlt : k < d.2.length := by omega
  simp only [Int.ofNat_eq_natCast, ile_lt hlt, inB_at hlt, getD_at hlt, wr_succ (show k < 1048577 by omega), Bool.not_false, cond_true, lbeq_iff] at h
  rw [List.drop_eq_getElem_cons hlt, placeF]
  by_cases e : d.2[k] = s
  · simp only [e, decide_true, cond_true] at h
    rw [if_pos e]
    exact .doneI (hdOf_ok _) E0sy h rfl
  · simp only [e, decide_false, cond_false] at h
    rw [if_neg e]
    exact .stop (hdOf_ok _) E0sy h (place_ans d s hl r (k + 1) m (by omega) (by omega))
theorem place_call (d : (Ty.sl .str).den) (s : List Nat) (hl : d.2.length < 1048575) : AnsF E0 104 [.vs .str d.1 d.2, .str s] (.int .i64 (placeF s d.2 0)) :=
 Ans.call (n := 3) (E0ext _ _ (by kernel_rfl)) (hasB_spec (by kernel_rfl)) (.stop (hdOf_ok _) E0sy (place_start d s) (place_ans d s (by omega) d.2.length 0 1048575 (by omega) (by omega)))
noncomputable def isL (c : Nat) : Bool := ile 97 (c : Int) && ile (c : Int) 122
noncomputable def nmF : Int → List Nat → Bool
 | b, [] => !ieq b 45
 | b, c :: l => bif isL c then nmF c l else (bif ieq (c : Int) 45 && !ieq b 45 then nmF c l else false)
noncomputable def nameS (s : List Nat) : Bool := ile (s.length : Int) 14 && nmF 45 s
theorem name_ans (s : List Nat) (hl : s.length < 1048576) : ∀ (r k m : Nat) (b : Int), k + r = s.length → r < m → Ans E0 (nameI0 s b k m) (.bool (nmF b (s.drop k)))
 | 0, k, m + 1, b, hk, hm => by
  have h := name_step0 s b k m
  have e : (k + 1).ble s.length = false := by cases e : (k + 1).ble s.length with | false => rfl | true => exact absurd (Nat.le_of_ble_eq_true e) (by omega)
  simp only [e, cond_false] at h
  rw [List.drop_eq_nil_of_le (by omega), nmF]
  first
   | exact .doneB (hdOf_ok _) E0sy h rfl
   | (cases c1 : ieq b 45 <;> simp only [c1, cond_true, cond_false, Bool.not_true, Bool.not_false] at h <;> exact .doneB (hdOf_ok _) E0sy h rfl)
 | r + 1, k, m + 1, b, hk, hm => by
  have h := name_step0 s b k m
  have hlt : k < s.length := by omega
  have e : (k + 1).ble s.length = true := Nat.ble_eq_true_of_le hlt
  have eg : s.getD k 0 = s[k] := by simp [hlt]
  rw [List.drop_eq_getElem_cons hlt, nmF, isL]
  cases hb : (s[k]).ble 127 with
  | true =>
   simp only [e, cond_true, eg, hb, Int.ofNat_eq_natCast] at h
   have ih := name_ans s hl r (k + 1) m (s[k] : Int) (by omega) (by omega)
   cases c1 : ile 97 (s[k] : Int) <;> cases c2 : ile (s[k] : Int) 122 <;> cases c3 : ieq (s[k] : Int) 45 <;> cases c4 : ieq b 45 <;>
    simp only [c1, c2, c3, c4, cond_true, cond_false, Bool.not_true, Bool.not_false, Bool.and_true, Bool.and_false] at h ⊢ <;>
    first
     | exact .doneB (hdOf_ok _) E0sy h rfl
     | exact .stop (hdOf_ok _) E0sy h ih
  | false =>
   have hbig : 128 ≤ (decN s k).1 := decN_big hlt (by rw [eg]; exact Nat.lt_of_not_le (fun h' => by rw [Nat.ble_eq_true_of_le h'] at hb; cases hb))
   have hc : 127 < s[k] := Nat.lt_of_not_le (fun h' => by rw [Nat.ble_eq_true_of_le h'] at hb; cases hb)
   have d1 : ile 97 ((decN s k).1 : Int) = true := by rw [ile_iff]; simp; omega
   have d2 : ile ((decN s k).1 : Int) 122 = false := by rw [ile_iff]; simp; omega
   have d3 : ieq ((decN s k).1 : Int) 45 = false := by rw [ieq_iff]; simp; omega
   have f2 : ile (s[k] : Int) 122 = false := by rw [ile_iff]; simp; omega
   have f3 : ieq (s[k] : Int) 45 = false := by rw [ieq_iff]; simp; omega
   simp only [e, cond_true, cond_false, eg, hb, Int.ofNat_eq_natCast, d1, d2, d3, Bool.not_false] at h
   simp only [f2, f3, Bool.and_false, Bool.false_and, cond_false]
   exact .doneB (hdOf_ok _) E0sy h rfl
theorem name_call (s : List Nat) : AnsF E0 18 [.str s] (.bool (nameS s)) := by
 refine Ans.call (n := 3) (E0ext _ _ (by kernel_rfl)) (hasB_spec (by kernel_rfl)) ?_
 have h := name_start s
 unfold nameS
 cases c1 : ile (s.length : Int) 14 with
 | false =>
  simp only [c1, Bool.not_false, cond_true] at h
  exact .doneB (hdOf_ok _) E0sy h rfl
 | true =>
  simp only [c1, Bool.not_true, cond_false] at h
  have hl : s.length ≤ 14 := by rw [ile_iff] at c1; simp at c1; omega
  exact .stopE (hdOf_ok _) E0sy h (name_ans s (by omega) s.length 0 1048575 45 (by omega) (by omega)) (by simp)
theorem rname_ans (s : List Nat) (hl : s.length ≤ 14) : ∀ (r k m : Nat) (b : Int), k + r = s.length → r < m → (k = 0 → b = 45 ∧ 0 < s.length) → (∀ j (hj : j < s.length), k = j + 1 → b = (s[j] : Int)) → (k = s.length → ieq b 45 = false) → Ans E0 (rnameI0 s k m) (.bool (nmF b (s.drop k)))
 | 0, k, m + 1, b, hk, hm, h0, hb, he => by
  have h := rname_step0 s k m
  simp only [ile_ge (show s.length ≤ k by omega), Bool.not_true, cond_false] at h
  rw [List.drop_eq_nil_of_le (by omega), nmF, he (by omega)]
  exact .doneB (hdOf_ok _) E0sy h rfl
 | r + 1, k, m + 1, b, hk, hm, h0, hb, he => by
  have h := rname_step0 s k m
  have hlt : k < s.length := by omega
  have w1 : wr .i64 ((s.length : Int) - 1) = (s.length : Int) - 1 := wr_in (by omega) (by omega)
  have w2 : wr .i64 ((k : Int) - 1) = (k : Int) - 1 := wr_in (by omega) (by omega)
  simp only [ile_lt hlt, inB_at hlt, getD_at hlt, wr_succ (show k < 1048577 by omega), Bool.not_false, cond_true, Int.ofNat_eq_natCast, w1, w2] at h
  rw [List.drop_eq_getElem_cons hlt, nmF, isL]
  have ih := fun (hne : k + 1 = s.length → ieq (s[k] : Int) 45 = false) => rname_ans s hl r (k + 1) m (s[k] : Int) (by omega) (by omega) (by omega) (fun j hj e => congrArg (fun n : Nat => (n : Int)) (same_at hlt hj e)) hne
  cases c3 : ieq (s[k] : Int) 45 with
  | false =>
   have ih := ih (fun _ => c3)
   cases c1 : ile 97 (s[k] : Int) <;> cases c2 : ile (s[k] : Int) 122 <;>
    simp only [c1, c2, c3, cond_true, cond_false, Bool.not_true, Bool.not_false, Bool.and_true, Bool.and_false, Bool.false_and] at h ⊢ <;>
    first
     | exact .doneB (hdOf_ok _) E0sy h rfl
     | exact .stop (hdOf_ok _) E0sy h ih
  | true =>
   have hc : (s[k] : Int) = 45 := by rw [ieq_iff] at c3; simpa using c3
   have c1 : ile 97 (s[k] : Int) = false := by rw [ile_iff, hc]; rfl
   simp only [c1, c3, cond_true, cond_false, Bool.not_true, Bool.true_and, Bool.false_and] at h ⊢
   cases k with
   | zero =>
    obtain ⟨rfl, _⟩ := h0 rfl
    have z : ieq ((0 : Nat) : Int) 0 = true := by decide
    simp only [z, cond_true] at h
    rw [show ieq 45 45 = true by rw [ieq_iff]; simp]
    exact .doneB (hdOf_ok _) E0sy h rfl
   | succ j =>
    have z : ieq ((j + 1 : Nat) : Int) 0 = false := by rw [ieq_iff]; simp; omega
    have hj : j < s.length := by omega
    have hbj := hb j hj rfl
    have e2 : ((j + 1 : Nat) : Int) - 1 = (j : Int) := by omega
    simp only [z, cond_false, e2, inB_at hj, getD_at hj, cond_true] at h
    rw [← hbj] at h
    cases c5 : ieq ((j + 1 : Nat) : Int) ((s.length : Int) - 1) with
    | true =>
     have hr : j + 2 = s.length := by rw [ieq_iff] at c5; simp at c5; omega
     simp only [c5, cond_true] at h
     rw [List.drop_eq_nil_of_le (by omega), nmF, hc]
     refine .doneB (hdOf_ok _) E0sy h ?_
     cases ieq b 45 <;> rfl
    | false =>
     have hr : j + 2 ≠ s.length := by intro e; rw [ieq_iff] at c5; simp at c5; omega
     simp only [c5, cond_false] at h
     cases c4 : ieq b 45 with
     | true =>
      simp only [c4, cond_true, Bool.not_true, cond_false] at h ⊢
      exact .doneB (hdOf_ok _) E0sy h rfl
     | false =>
      simp only [c4, cond_true, Bool.not_false, cond_false] at h ⊢
      exact .stop (hdOf_ok _) E0sy h (ih (fun e => absurd e (by omega)))
theorem rname_call (s : List Nat) : AnsF E0 19 [.str s] (.bool (nameS s)) := by
 refine Ans.call (n := 3) (E0ext _ _ (by kernel_rfl)) (hasB_spec (by kernel_rfl)) ?_
 have h := rname_start s
 unfold nameS
 cases c0 : ile 1 (s.length : Int) with
 | false =>
  have : s = [] := by
   rw [ile_iff] at c0
   cases s with
   | nil => rfl
   | cons a l => simp at c0; omega
  subst this
  simp only [c0, cond_false] at h
  refine .doneB (hdOf_ok _) E0sy h ?_
  rw [nmF, show ieq 45 45 = true by rw [ieq_iff]; simp]
  simp
 | true =>
  have h1 : 1 ≤ s.length := by rw [ile_iff] at c0; simp at c0; omega
  cases c1 : ile (s.length : Int) 14 with
  | false =>
   simp only [c0, c1, Bool.not_false, cond_true] at h
   exact .doneB (hdOf_ok _) E0sy h rfl
  | true =>
   simp only [c0, c1, Bool.not_true, cond_false, cond_true] at h
   have hl : s.length ≤ 14 := by rw [ile_iff] at c1; simp at c1; omega
   exact .stopE (hdOf_ok _) E0sy h (rname_ans s hl s.length 0 1048575 45 (by omega) (by omega) (fun _ => ⟨rfl, by omega⟩) (fun j _ e => by omega) (fun e => by omega)) (by simp)
noncomputable def paintsF : Int → List tP.den → Int
 | _, [] => 0
 | b, p :: l => bif ile 0 p.1 && ile p.1 40000 && ile 0 p.2.1 && ile p.2.1 4 then (bif ile p.1 b then 2 else paintsF p.1 l) else 7
noncomputable def paintsE (l : List tP.den) : Int := bif ile 1 (l.length : Int) && ile (l.length : Int) 4 then paintsF (-1) l else 3
theorem paints_ans (d : (Ty.sl tP).den) (hl : d.2.length < 1048576) : ∀ (r k m : Nat) (b : Int), k + r = d.2.length → r < m → Ans E0 (paintsI0 d b k m) (.int .i64 (paintsF b (d.2.drop k)))
 | 0, k, m + 1, b, hk, hm => by
  have h := paints_step0 d b k m
  simp only [Int.ofNat_eq_natCast, ile_ge (show d.2.length ≤ k by omega), Bool.not_true, cond_false] at h
  rw [List.drop_eq_nil_of_le (by omega)]
  exact .doneI (hdOf_ok _) E0sy h rfl
 | r + 1, k, m + 1, b, hk, hm => by
  have h := paints_step0 d b k m
  have hlt : k < d.2.length := by omega
  simp only [Int.ofNat_eq_natCast, ile_lt hlt, inB_at hlt, getD_at hlt, wr_succ (show k < 1048577 by omega), Bool.not_false, cond_true, ieq_self] at h
  rw [List.drop_eq_getElem_cons hlt, paintsF]
  have ih := paints_ans d hl r (k + 1) m (d.2[k]).1 (by omega) (by omega)
  cases c1 : ile 0 (d.2[k]).1 <;> cases c2 : ile (d.2[k]).1 40000 <;> cases c3 : ile 0 (d.2[k]).2.1 <;> cases c4 : ile (d.2[k]).2.1 4 <;> cases c5 : ile (d.2[k]).1 b <;>
   simp only [c1, c2, c3, c4, c5, cond_true, cond_false, Bool.not_true, Bool.not_false, Bool.and_true, Bool.and_false, Bool.and_self] at h ⊢ <;>
   first
    | exact .doneI (hdOf_ok _) E0sy h rfl
    | exact .stop (hdOf_ok _) E0sy h ih
theorem paints_call (d : (Ty.sl tP).den) (hl : d.2.length < 1048575) : AnsF E0 118 [.vs tP d.1 d.2] (.int .i64 (paintsF (-1) d.2)) :=
 Ans.call (n := 3) (E0ext _ _ (by kernel_rfl)) (hasB_spec (by kernel_rfl)) (.stop (hdOf_ok _) E0sy (paints_start d) (paints_ans d (by omega) d.2.length 0 1048575 (-1) (by omega) (by omega)))
theorem rpaints_ans (d : (Ty.sl tP).den) (hl : d.2.length ≤ 4) : ∀ (r k m : Nat) (b : Int), k + r = d.2.length → r < m → (k = 0 → b = -1) → (∀ j (hj : j < d.2.length), k = j + 1 → b = (d.2[j]).1) → Ans E0 (rpaintsI0 d k m) (.int .i64 (paintsF b (d.2.drop k)))
 | 0, k, m + 1, b, hk, hm, h0, hb => by
  have h := rpaints_step0 d k m
  simp only [Int.ofNat_eq_natCast, ile_ge (show d.2.length ≤ k by omega), Bool.not_true, cond_false] at h
  rw [List.drop_eq_nil_of_le (by omega)]
  exact .doneI (hdOf_ok _) E0sy h rfl
 | r + 1, k, m + 1, b, hk, hm, h0, hb => by
  have h := rpaints_step0 d k m
  have hlt : k < d.2.length := by omega
  have w2 : wr .i64 ((k : Int) - 1) = (k : Int) - 1 := wr_in (by omega) (by omega)
  simp only [Int.ofNat_eq_natCast, ile_lt hlt, inB_at hlt, getD_at hlt, wr_succ (show k < 1048577 by omega), Bool.not_false, cond_true, ieq_self, w2] at h
  rw [List.drop_eq_getElem_cons hlt, paintsF]
  have ih := rpaints_ans d hl r (k + 1) m (d.2[k]).1 (by omega) (by omega) (by omega) (fun j hj e => congrArg (fun p : tP.den => p.1) (same_at hlt hj e))
  cases k with
  | zero =>
   have hb0 := h0 rfl
   subst hb0
   have z : ile ((0 : Nat) : Int) 0 = true := by decide
   simp only [z, Bool.not_true, cond_false] at h
   cases c1 : ile 0 (d.2[0]).1 <;> cases c2 : ile (d.2[0]).1 40000 <;> cases c3 : ile 0 (d.2[0]).2.1 <;> cases c4 : ile (d.2[0]).2.1 4 <;>
    simp only [c1, c2, c3, c4, cond_true, cond_false, Bool.not_true, Bool.not_false, Bool.and_true, Bool.and_false, Bool.and_self, Bool.false_and] at h ⊢
   all_goals first
    | exact .doneI (hdOf_ok _) E0sy h rfl
    | (have c5 : ile (d.2[0]).1 (-1) = false := ile_neg c1
       simp only [c5, cond_false]
       exact .stop (hdOf_ok _) E0sy h ih)
  | succ j =>
   have z : ile ((j + 1 : Nat) : Int) 0 = false := by rw [ile_iff]; simp <;> omega
   have hj : j < d.2.length := by omega
   have hbj := hb j hj rfl
   have e2 : ((j + 1 : Nat) : Int) - 1 = (j : Int) := by omega
   simp only [z, cond_true, e2, inB_at hj, getD_at hj, Bool.not_false] at h
   rw [← hbj] at h
   cases c1 : ile 0 (d.2[j + 1]).1 <;> cases c2 : ile (d.2[j + 1]).1 40000 <;> cases c3 : ile 0 (d.2[j + 1]).2.1 <;> cases c4 : ile (d.2[j + 1]).2.1 4 <;> cases c5 : ile (d.2[j + 1]).1 b <;>
    simp only [c1, c2, c3, c4, c5, cond_true, cond_false, Bool.not_true, Bool.not_false, Bool.and_true, Bool.and_false, Bool.and_self, Bool.false_and] at h ⊢ <;>
    first
     | exact .doneI (hdOf_ok _) E0sy h rfl
     | exact .stop (hdOf_ok _) E0sy h ih
theorem rpaints_call (d : (Ty.sl tP).den) : AnsF E0 65 [.vs tP d.1 d.2] (.int .i64 (paintsE d.2)) := by
 refine Ans.call (n := 3) (E0ext _ _ (by kernel_rfl)) (hasB_spec (by kernel_rfl)) ?_
 have h := rpaints_start d
 unfold paintsE
 cases c0 : ile 1 (d.2.length : Int) <;> cases c1 : ile (d.2.length : Int) 4 <;> simp only [c0, c1, cond_true, cond_false, Bool.not_true, Bool.not_false, Bool.and_true, Bool.and_false, Bool.and_self] at h ⊢ <;>
  first
   | exact .doneI (hdOf_ok _) E0sy h rfl
   | skip
 have hl : d.2.length ≤ 4 := by rw [ile_iff] at c1; simp at c1; omega
 exact .stopE (hdOf_ok _) E0sy h (rpaints_ans d hl d.2.length 0 1048575 (-1) (by omega) (by omega) (fun _ => rfl) (fun j _ e => by omega)) (by simp)
end Go.Proofs.YtffnpkbopjjdaaaGreatDoor

