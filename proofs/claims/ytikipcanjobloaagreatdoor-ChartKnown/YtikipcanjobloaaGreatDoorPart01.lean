/-
  THE ENGINE, 17: every operation.
-/
import Derived.Test.YtikipcanjobloaaGreatDoorPart00
import Derived.Control
set_option linter.unusedSectionVars false
set_option linter.unusedSimpArgs false
set_option linter.unusedVariables false
namespace Go.Eng
open Go
section
variable {P : Program} {E : Env} {base : Nat} {V : View} {σ : Hp} {W : World} {τ : Tmps} {ρ : Operand → Value}

theorem builtin_run (hE : EnvOK P E) (H : HR E base V σ W) (hb : base ≤ W.heap.size) {b : Builtin} {ats : Array TypeId} {t : TypeId} {consts : Array Bool} {args : List AV} {ARGS : List Value} {r : Res} (ha : VRs V args ARGS)
    (h : builtinV E σ b ats args = some r) : OpOK P E base V σ W ((builtin b ats t consts ARGS.toArray).run P W) r := by
  have h0 := h
  unfold builtinV at h
  split at h
  · obtain ⟨X, Xs, rfl, hx, hxs⟩ := ha.cons_inv
    cases hxs.nil_inv
    exact len_run hE H hb hx h0
  · obtain ⟨S, Ss, rfl, hs, hss⟩ := ha.cons_inv
    obtain ⟨X, Xs, rfl, hx, hxs⟩ := hss.cons_inv
    cases hxs.nil_inv
    exact append_run hE H hb hs hx h0
  · obtain ⟨S, Ss, rfl, hs, hss⟩ := ha.cons_inv
    obtain ⟨X, Xs, rfl, hx, hxs⟩ := hss.cons_inv
    cases hxs.nil_inv
    rw [hs.int_inv, hx.int_inv]
    exact max_run hE H hb h0
  · obtain ⟨S, Ss, rfl, hs, hss⟩ := ha.cons_inv
    obtain ⟨X, Xs, rfl, hx, hxs⟩ := hss.cons_inv
    cases hxs.nil_inv
    rw [hs.int_inv, hx.int_inv]
    exact min_run hE H hb h0
  · cases ha.nil_inv
    simp only [Option.some.injEq] at h; subst h
    rfl
  · cases h

theorem evs_length {τ : Tmps} : ∀ {l : List Operand} {r : List AV}, evs τ l = some r → True := fun _ => trivial

theorem VR.fn_inv {f : Nat} {a b : List AV} {v : Value} (h : VR V (.fn f a b) v) : ∃ A B : List Value, v = .func (.func f) A.toArray B.toArray ∧ VRs V a A ∧ VRs V b B := by
  cases h with
  | fn _ _ _ A B ha hb hav hbv => exact ⟨A, B, rfl, ⟨ha, hav⟩, ⟨hb, hbv⟩⟩
theorem VR.yld_inv {l : Nat} {v : Value} (h : VR V (.yld l) v) : ∃ b, v = .func (.yield b) #[] #[] ∧ V.lv l = some b := by
  cases h with
  | yld _ b hb => exact ⟨b, rfl, hb⟩

variable {dst : Option Tmp} {ty : TypeId} {pos : String} {after : Array Edge} {guard : Option (Nat × Bool)}
variable (hE : EnvOK P E) (H : HR E base V σ W) (hb : base ≤ W.heap.size) (hρ : EvR V τ ρ)
include hE H hb hρ

theorem s_call (c : Call) {r : Res} (h : op E τ σ (.call c) = some r) : OpOK P E base V σ W ((execOp ρ ⟨dst, .call c, ty, pos, after, guard⟩).run P W) r := by
  simp only [op, callV] at h
  split at h
  · cases h
  · rename_i args hargs
    have ha := evs_spec hρ _ _ hargs
    have harr : c.args.map ρ = (c.args.toList.map ρ).toArray := (map_toArray c.args ρ).symm
    split at h
    · rename_i b hc
      have := builtin_run (t := ty) (consts := (c.args.map fun | .const _ => true | _ => false)) hE H hb ha h
      simp only [execOp, resolve, hc, pure_bind, invoke, harr]
      exact this
    · rename_i f hc
      split at h
      · rename_i g first caps hf
        simp only [Option.some.injEq] at h; subst h
        obtain ⟨A, B, hF, hA, hB⟩ := (hρ f _ hf).fn_inv
        refine ⟨A ++ c.args.toList.map ρ ++ B, ?_, (hA.append ha).append hB⟩
        simp only [execOp, resolve, hc, hF, Deferred.ofValue, pure_bind, invoke, harr]
        congr 2
        simp
      · rename_i l hf
        simp only [Option.some.injEq] at h; subst h
        obtain ⟨b, hF, hl⟩ := (hρ f _ hf).yld_inv
        refine ⟨b, c.args.toList.map ρ, hl, ?_, ha⟩
        simp only [execOp, resolve, hc, hF, Deferred.ofValue, pure_bind, invoke, harr]
        congr 2
        simp
      · cases h
    · cases h

theorem s_defer (c : Call) {r : Res} (h : op E τ σ (.defer c) = some r) : OpOK P E base V σ W ((execOp ρ ⟨dst, .defer c, ty, pos, after, guard⟩).run P W) r := by
  simp only [op] at h
  split at h
  · rename_i f args hcall
    simp only [Option.some.injEq] at h; subst h
    simp only [callV] at hcall
    split at hcall
    · cases hcall
    · rename_i args' hargs
      have ha := evs_spec hρ _ _ hargs
      have harr : c.args.map ρ = (c.args.toList.map ρ).toArray := (map_toArray c.args ρ).symm
      split at hcall
      · rename_i b hc
        exfalso
        -- no built-in function is deferred
        unfold builtinV at hcall
        repeat' split at hcall
        all_goals cases hcall
      · rename_i f' hc
        split at hcall
        · rename_i g first caps hf
          simp only [Option.some.injEq, Res.call.injEq] at hcall; obtain ⟨rfl, rfl⟩ := hcall
          obtain ⟨A, B, hF, hA, hB⟩ := (hρ f' _ hf).fn_inv
          refine ⟨B, A ++ c.args.toList.map ρ, ?_, by have := (hA.append ha).append hB; simpa using this⟩
          simp only [execOp, resolve, hc, hF, Deferred.ofValue, pure_bind, harr]
          show Result.ok _ _ = _
          simp
        · cases hcall
        · cases hcall
      · cases hcall
  · cases h

theorem op_sound (o : Oper) {r : Res} (h : op E τ σ o.op = some r) : OpOK P E base V σ W ((execOp ρ o).run P W) r := by
  obtain ⟨dst, o, ty, pos, after, guard⟩ := o
  simp only at h
  cases o
  case move x => exact s_move hE H hb hρ x h
  case assign x => exact s_assign hE H hb hρ x h
  case pick a b c => exact s_pick hE H hb hρ a b c h
  case alloc t => exact s_alloc hE H hb hρ t h
  case box t x => exact s_box hE H hb hρ t x h
  case build t ps => exact s_build hE H hb hρ t ps h
  case buildSlice t n ps => exact s_buildSlice hE H hb hρ t n ps h
  case insert t m k x => exact s_insert hE H hb hρ t m k x h
  case load t x => exact s_load hE H hb hρ t x h
  case store t x y => exact s_store hE H hb hρ t x y h
  case nilCheck x => exact s_nilCheck hE H hb hρ x h
  case binOp b t x y t' => exact s_binOp hE H hb hρ b t x y t' h
  case unOp u t x => exact s_unOp hE H hb hρ u t x h
  case convert s d x => exact s_convert hE H hb hρ s d x h
  case makeInterface t x => exact s_makeInterface hE H hb hρ t x h
  case makeFunc f a b =>
    cases f
    case func f => exact s_makeFunc hE H hb hρ f a b h
    all_goals (simp [op] at h)
  case makeMap t r' =>
    cases r'
    case none => exact s_makeMap hE H hb hρ t h
    case some x => simp [op] at h
  case makeSlice t l c => exact s_makeSlice hE H hb hρ t l c h
  case slice t x lo hi mx =>
    cases mx
    case none => exact s_slice hE H hb hρ t x lo hi h
    case some y => simp [op] at h
  case fieldAddr t x i => exact s_fieldAddr hE H hb hρ t x i h
  case field t x i => exact s_field hE H hb hρ t x i h
  case indexAddr t x y => exact s_indexAddr hE H hb hρ t x y h
  case index t x y => exact s_index hE H hb hρ t x y h
  case lookup t x k ok => exact s_lookup hE H hb hρ t x k ok h
  case mapUpdate t m k x => exact s_mapUpdate hE H hb hρ t m k x h
  case range t x => exact s_range hE H hb hρ t x h
  case next x b =>
    cases b
    case true => exact s_next hE H hb hρ x h
    case false => simp [op] at h
  case typeAssert x t a ok => exact s_typeAssert hE H hb hρ x t a ok h
  case extract x i => exact s_extract hE H hb hρ x i h
  case call c => exact s_call hE H hb hρ c h
  case defer c => exact s_defer hE H hb hρ c h
  all_goals (simp [op] at h)
end
end Go.Eng

/-
  THE ENGINE, 18: the machine's steps, frame by frame.
-/
namespace Go.Eng
open Go

/-- A frame that runs. -/
def mkF (b : Frame) (A : Array Value) (DS : List Deferred) (todo : List Item) : Frame :=
  { fn := b.fn, tmps := A, todo, defers := DS, mode := .run, kind := b.kind, roundOf := b.roundOf }

section
variable {P : Program} {b : Frame} {A : Array Value} {DS : List Deferred} {k : List Item} {cs : List Frame} {W : World}

theorem st_skip : step P (lone (mkF b A DS (.code .skip :: k)) cs W) = .next (lone (mkF b A DS k) cs W) := step_lone_go (by simp [stepG, stepG.exec, mkF])
theorem st_label {l : Nat} : step P (lone (mkF b A DS (.code (.label l) :: k)) cs W) = .next (lone (mkF b A DS k) cs W) := step_lone_go (by simp [stepG, stepG.exec, mkF])
theorem st_inBlock {i : Nat} : step P (lone (mkF b A DS (.inBlock i :: k)) cs W) = .next (lone (mkF b A DS k) cs W) := step_lone_go (by simp [stepG, stepG.exec, mkF])
theorem st_inScope {c : Code} : step P (lone (mkF b A DS (.inScope c :: k)) cs W) = .next (lone (mkF b A DS k) cs W) := step_lone_go (by simp [stepG, stepG.exec, mkF])
theorem st_seq {x y : Code} : step P (lone (mkF b A DS (.code (.seq x y) :: k)) cs W) = .next (lone (mkF b A DS (.code x :: .code y :: k)) cs W) := step_lone_go (by simp [stepG, stepG.exec, mkF])
theorem mkF_eval (x : Operand) : (mkF b A DS k).eval x = (match x with | .tmp t => A.getD t undef | .const v => v | .global g => .pointer (some ⟨g, 0, none⟩) | .func f => .func (.func f) #[] #[]) := by
  cases x <;> rfl
theorem st_cond {c : Operand} {x y : Code} {t : Bool} (h : (mkF b A DS []).eval c = .bool t) :
    step P (lone (mkF b A DS (.code (.cond c x y) :: k)) cs W) = .next (lone (mkF b A DS (.code (if t then x else y) :: k)) cs W) :=
  step_lone_go (by
    have h' : (mkF b A DS (.code (.cond c x y) :: k)).eval c = .bool t := by rw [mkF_eval]; rw [mkF_eval] at h; exact h
    simp only [mkF] at h' ⊢
    simp [stepG, stepG.exec, h'])
theorem st_block {i : Nat} {c : Code} : step P (lone (mkF b A DS (.code (.block i c) :: k)) cs W) = .next (lone (mkF b A DS (.code c :: .inBlock i :: k)) cs W) := step_lone_go (by simp [stepG, stepG.exec, mkF])
theorem st_loop {c : Code} : step P (lone (mkF b A DS (.code (.loop c) :: k)) cs W) = .next (lone (mkF b A DS (.code c :: .inLoop c :: k)) cs W) := step_lone_go (by simp [stepG, stepG.exec, mkF])
theorem st_inLoop {c : Code} : step P (lone (mkF b A DS (.inLoop c :: k)) cs W) = .next (lone (mkF b A DS (.code c :: .inLoop c :: k)) cs W) := step_lone_go (by simp [stepG, stepG.exec, mkF])
theorem st_scope {c : Code} : step P (lone (mkF b A DS (.code (.scope c) :: k)) cs W) = .next (lone (mkF b A DS (.code c :: .inScope c :: k)) cs W) := step_lone_go (by simp [stepG, stepG.exec, mkF])
theorem st_exit {i : Nat} {k' : List Item} (h : exitTo i k = some k') : step P (lone (mkF b A DS (.code (.exit i) :: k)) cs W) = .next (lone (mkF b A DS k') cs W) := step_lone_go (by simp [stepG, stepG.exec, mkF, h])
theorem st_region {i : Nat} {ops : Array Oper} : step P (lone (mkF b A DS (.code (.region i ops false) :: k)) cs W) = .next (lone (mkF b A DS (.inRegion ops (List.range ops.size) :: k)) cs W) := step_lone_go (by simp [stepG, stepG.exec, mkF])
theorem st_region_draw {i : Nat} {ops : Array Oper} : step P (lone (mkF b A DS (.code (.region i ops true) :: k)) cs W) =
    .next (lone (mkF b A DS (.inRegion ops (Region.schedule (P.follows .mixedOrders) ops (W.tape W.drawn (.order b.fn i))) :: k)) cs W.drew) :=
  step_lone_go (by simp [stepG, stepG.exec, mkF, choose, Sem.run, Question.forced, Question.cut])
theorem st_region_end {ops : Array Oper} : step P (lone (mkF b A DS (.inRegion ops [] :: k)) cs W) = .next (lone (mkF b A DS k) cs W) := step_lone_go (by simp [stepG, stepG.exec, mkF])

def putR (A : Array Value) (d : Option Tmp) (v : Value) : Array Value :=
  match d with
  | some t => A.setIfInBounds t v
  | none => A

theorem mkF_finish {ops : Array Oper} {i : Nat} {rest : List Nat} {o : Oper} (ho : ops[i]? = some o) (v : Value) :
    (mkF b A DS (.inRegion ops (i :: rest) :: k)).finish v = mkF b (putR A o.dst v) DS (.inRegion ops rest :: k) := by
  simp only [mkF, Frame.finish, ho, Option.bind_some, putR]
  cases o.dst <;> rfl

theorem st_unwanted {ops : Array Oper} {i : Nat} {rest : List Nat} {o : Oper} (ho : ops[i]? = some o) (hw : Region.wanted o (yielded ops A) = false) :
    step P (lone (mkF b A DS (.inRegion ops (i :: rest) :: k)) cs W) = .next (lone (mkF b (putR A o.dst undef) DS (.inRegion ops rest :: k)) cs W) := by
  rw [← mkF_finish ho]
  exact step_lone_go (by simp [stepG, stepG.exec, mkF, ho, hw])

theorem stG_op {ops : Array Oper} {i : Nat} {rest : List Nat} {o : Oper} (ho : ops[i]? = some o) (hw : Region.wanted o (yielded ops A) = true) (hnd : b.roundOf = none ∨ ∀ c, o.op ≠ .defer c) :
    stepG P true { frame := mkF b A DS (.inRegion ops (i :: rest) :: k), callers := cs, status := .running, dying := none } W =
      stepG.apply P true (mkF b A DS (.inRegion ops (i :: rest) :: k)) cs none (execOp (mkF b A DS []).eval o) W := by
  have he : (mkF b A DS (.inRegion ops (i :: rest) :: k)).eval = (mkF b A DS []).eval := by funext x; rw [mkF_eval, mkF_eval]
  simp only [mkF] at he ⊢
  simp only [stepG, stepG.exec, ho, Option.map_some, Option.getD_some, hw, if_true, stepG.oper, Frame.oper?, he]
  split
  · rename_i l c h1 h2
    rcases hnd with h | h
    · rw [h] at h1; cases h1
    · exact absurd h2 (h c)
  · rfl

/-- An operation that comes to a value. -/
theorem st_value {ops : Array Oper} {i : Nat} {rest : List Nat} {o : Oper} {v : Value} {W' : World} (ho : ops[i]? = some o) (hw : Region.wanted o (yielded ops A) = true) (hnd : b.roundOf = none ∨ ∀ c, o.op ≠ .defer c)
    (hr : (execOp (mkF b A DS []).eval o).run P W = .ok (.value v) W') :
    step P (lone (mkF b A DS (.inRegion ops (i :: rest) :: k)) cs W) = .next (lone (mkF b (putR A o.dst v) DS (.inRegion ops rest :: k)) cs W') := by
  rw [← mkF_finish ho]
  refine step_lone_go ?_
  rw [stG_op ho hw hnd]
  simp [stepG.apply, hr]
theorem st_nothing {ops : Array Oper} {i : Nat} {rest : List Nat} {o : Oper} {W' : World} (ho : ops[i]? = some o) (hw : Region.wanted o (yielded ops A) = true) (hnd : b.roundOf = none ∨ ∀ c, o.op ≠ .defer c)
    (hr : (execOp (mkF b A DS []).eval o).run P W = .ok .skip W') :
    step P (lone (mkF b A DS (.inRegion ops (i :: rest) :: k)) cs W) = .next (lone (mkF b (putR A o.dst undef) DS (.inRegion ops rest :: k)) cs W') := by
  rw [← mkF_finish ho]
  refine step_lone_go ?_
  rw [stG_op ho hw hnd]
  simp [stepG.apply, hr]
theorem st_defer {ops : Array Oper} {i : Nat} {rest : List Nat} {o : Oper} {d : Deferred} {W' : World} (ho : ops[i]? = some o) (hw : Region.wanted o (yielded ops A) = true) (hnd : b.roundOf = none)
    (hr : (execOp (mkF b A DS []).eval o).run P W = .ok (.defer d) W') :
    step P (lone (mkF b A DS (.inRegion ops (i :: rest) :: k)) cs W) = .next (lone (mkF b (putR A o.dst undef) (d :: DS) (.inRegion ops rest :: k)) cs W') := by
  have : mkF b (putR A o.dst undef) (d :: DS) (.inRegion ops rest :: k) = ({ mkF b A DS (.inRegion ops (i :: rest) :: k) with defers := d :: DS } : Frame).finish undef := by
    simp only [mkF, Frame.finish, ho, Option.bind_some, putR]
    cases o.dst <;> rfl
  rw [this]
  refine step_lone_go ?_
  rw [stG_op ho hw (.inl hnd)]
  simp [stepG.apply, hr]
  rfl
/-- A call: the machine enters the function. -/
theorem st_enter {ops : Array Oper} {i : Nat} {rest : List Nat} {o : Oper} {f : FuncId} {args : Array Value} {W' : World} (ho : ops[i]? = some o) (hw : Region.wanted o (yielded ops A) = true) (hnd : b.roundOf = none ∨ ∀ c, o.op ≠ .defer c)
    (hr : (execOp (mkF b A DS []).eval o).run P W = .ok (.enter f args) W') :
    step P (lone (mkF b A DS (.inRegion ops (i :: rest) :: k)) cs W) = .next (lone (Frame.enter P f args .normal) (mkF b A DS (.inRegion ops (i :: rest) :: k) :: cs) W') := by
  refine step_lone_go ?_
  rw [stG_op ho hw hnd]
  have ht : (mkF b A DS (.inRegion ops (i :: rest) :: k)).todo = .inRegion ops (i :: rest) :: k := rfl
  simp [stepG.apply, hr, ht]
theorem st_round {ops : Array Oper} {i : Nat} {rest : List Nat} {o : Oper} {l f : Nat} {tmps : Array Value} {asg body : Code} {W' : World} (ho : ops[i]? = some o) (hw : Region.wanted o (yielded ops A) = true) (hnd : b.roundOf = none ∨ ∀ c, o.op ≠ .defer c)
    (hr : (execOp (mkF b A DS []).eval o).run P W = .ok (.round l f tmps asg body) W') :
    step P (lone (mkF b A DS (.inRegion ops (i :: rest) :: k)) cs W) = .next (lone (Frame.round l f tmps asg body .normal) (mkF b A DS (.inRegion ops (i :: rest) :: k) :: cs) W') := by
  refine step_lone_go ?_
  rw [stG_op ho hw hnd]
  have ht : (mkF b A DS (.inRegion ops (i :: rest) :: k)).todo = .inRegion ops (i :: rest) :: k := rfl
  simp [stepG.apply, hr, ht]
/-- recover, where nothing is to be recovered. -/
theorem st_recover {ops : Array Oper} {i : Nat} {rest : List Nat} {o : Oper} {W' : World} (ho : ops[i]? = some o) (hw : Region.wanted o (yielded ops A) = true) (hnd : b.roundOf = none)
    (hq : b.kind = .normal ∨ (b.kind = .deferred ∧ ∃ c rest', cs = c :: rest' ∧ c.mode = .returning))
    (hr : (execOp (mkF b A DS []).eval o).run P W = .ok .recover W') :
    step P (lone (mkF b A DS (.inRegion ops (i :: rest) :: k)) cs W) = .next (lone (mkF b (putR A o.dst .nilIface) DS (.inRegion ops rest :: k)) cs W') := by
  rw [← mkF_finish ho]
  refine step_lone_go ?_
  rw [stG_op ho hw (.inl hnd)]
  have ht : tryRecover (mkF b A DS (.inRegion ops (i :: rest) :: k)) cs = none := by
    rcases hq with h | ⟨h, c, rest', rfl, hm⟩
    · unfold tryRecover; simp [mkF, h]
    · unfold tryRecover; simp [mkF, h, hm]
  have hro : (mkF b A DS (.inRegion ops (i :: rest) :: k)).roundOf = none := hnd
  simp [stepG.apply, hr, hro, ht]
end
end Go.Eng

/-
  THE ENGINE, 19: a frame of the engine stands for a frame of the machine.
-/
namespace Go.Eng
open Go

abbrev KK := Nat → Nat → Option Value
abbrev OO := Nat → Prop
/-- What the calls around hold: the frames whose loops are being run, what memory holds for good, the blocks that they own. -/
abbrev Inv := List LF → KK → OO → World → Prop

structure CxOK (inv : Inv) : Prop where
  stable : ∀ Λ K O W K' W', inv Λ K O W → (∀ b o v, K b o = some v → K' b o = some v) → (∀ b o v, K' b o = some v → K b o = some v ∨ ¬ O b) → (∀ b o v, K' b o = some v → W'.cell? ⟨b, o, none⟩ = some v) →
    (∀ b, O b → W'.heap[b]? = W.heap[b]?) → W.heap.size ≤ W'.heap.size → inv Λ K' O W'
  bound : ∀ Λ K O W, inv Λ K O W → ∀ b, O b → b < W.heap.size

inductive DsR (V : View) : List Nat → List (Nat × List AV) → List Deferred → Prop where
  | nil : DsR V [] [] []
  | cons (M : List Nat) (f : Nat) (args : List AV) (caps A : List Value) (ds : List (Nat × List AV)) (DS : List Deferred) (h : VRs V args (A ++ caps)) (t : DsR V M ds DS) : DsR V M ((f, args) :: ds) ({ target := .fn (.func f) caps.toArray, args := A.toArray } :: DS)
  | mark (M : List Nat) (r : Nat) (ds : List (Nat × List AV)) (DS : List Deferred) (h : r ∉ M) (t : DsR V M ds DS) : DsR V (r :: M) ds ({ target := .collected r, args := #[] } :: DS)

theorem DsR.mono {V V' : View} {M : List Nat} (hV : V.le V') {ds : List (Nat × List AV)} {DS : List Deferred} (h : DsR V M ds DS) : DsR V' M ds DS := by
  induction h with
  | nil => exact .nil
  | cons M f args caps A ds DS h t ih => exact .cons M f args caps A ds DS (h.mono hV) ih
  | mark M r ds DS h t ih => exact .mark M r ds DS h ih

structure SR (E : Env) (base : Nat) (inv : Inv) (V : View) (st : St) (A : Array Value) (DS : List Deferred) (M : List Nat) (O : OO) (W : World) : Prop where
  hr : HR E base V st.σ W
  bs : base ≤ W.heap.size
  tm : ∀ t a, st.τ.get t = some a → VR V a (A.getD t undef)
  sz : A.size = st.nt
  ds : DsR V M st.ds DS
  mks : ∀ r ∈ M, W.heap[r]? = some (.deferred (some [])) ∧ ¬ O r
  cx : inv st.Λ V.K O W
  dis : ∀ b, Own V st.σ b → ¬ O b

structure Prg (V : View) (σ : Hp) (O : OO) (W : World) (V' : View) (σ' : Hp) (O' : OO) (W' : World) : Prop where
  le : V.le V'
  lv : V'.lv = V.lv
  fr : Fr (fun b => Own V σ b ∨ O b) W W'
  own : ∀ b, Own V' σ' b → Own V σ b ∨ W.heap.size ≤ b
  out : ∀ b, O' b → O b ∨ W.heap.size ≤ b
  mb : ∀ id b s, V'.m id = some (b, s) → (∃ id' s', V.m id' = some (b, s')) ∨ (W.heap.size ≤ b ∧ b < W'.heap.size ∧ ¬ O' b)
  K : ∀ b o v, V'.K b o = some v → V.K b o = some v ∨ (Own V σ b ∨ O b) ∨ W.heap.size ≤ b
  nm : ∀ id x, V'.m id = some x → V.m id = some x ∨ σ.n ≤ id
  nn : σ.n ≤ σ'.n

theorem Prg.refl (V : View) (σ : Hp) (O : OO) (W : World) : Prg V σ O W V σ O W := ⟨View.le.refl V, rfl, Fr.refl _ _, fun _ h => .inl h, fun _ h => .inl h, fun id _ s h => .inl ⟨id, s, h⟩, fun _ _ _ h => .inl h, fun _ _ h => .inl h, Nat.le_refl _⟩
theorem Prg.trans {V V' V'' : View} {σ σ' σ'' : Hp} {O O' O'' : OO} {W W' W'' : World} (h : Prg V σ O W V' σ' O' W') (k : Prg V' σ' O' W' V'' σ'' O'' W'') : Prg V σ O W V'' σ'' O'' W'' := by
  have hs := h.fr.size
  have both : ∀ b, Own V' σ' b ∨ O' b → (Own V σ b ∨ O b) ∨ W.heap.size ≤ b := fun b hb => hb.elim (fun x => (h.own b x).imp .inl (fun x => x)) (fun x => (h.out b x).imp .inr (fun x => x))
  refine ⟨h.le.trans k.le, k.lv.trans h.lv, h.fr.trans k.fr (fun b hb hO => ?_), fun b hb => ?_, fun b hb => ?_, fun id b s hm => ?_, fun b o v hv => ?_, fun id x hx => (k.nm id x hx).elim (h.nm id x) (fun y => .inr (Nat.le_trans h.nn y)), Nat.le_trans h.nn k.nn⟩
  · rcases both b hO with h' | h'
    · exact h'
    · omega
  · rcases k.own b hb with h' | h'
    · exact h.own b h'
    · exact .inr (by omega)
  · rcases k.out b hb with h' | h'
    · exact h.out b h'
    · exact .inr (by omega)
  · rcases k.mb id b s hm with ⟨id', s', h'⟩ | ⟨h1, h2, h3⟩
    · rcases h.mb id' b s' h' with g | ⟨g1, g2, g3⟩
      · exact .inl g
      · have := k.fr.size
        exact .inr ⟨g1, by omega, fun ho => (k.out b ho).elim g3 (fun x => by omega)⟩
    · exact .inr ⟨by omega, h2, h3⟩
  · rcases k.K b o v hv with h' | h' | h'
    · exact h.K b o v h'
    · exact .inr (both b h')
    · exact .inr (.inr (by omega))

theorem Prg.of_stp {E : Env} {base : Nat} {V V' : View} {σ σ' : Hp} {W W' : World} {O : OO} (h : Stp E base V σ W V' σ' W') (hO : ∀ b, O b → b < W.heap.size) : Prg V σ O W V' σ' O W' :=
  ⟨h.le, h.lv, h.fr.weaken (fun _ _ h => .inl h), h.own, fun b hb => .inl hb, fun id b s hm => (h.mb id b s hm).imp (fun x => x) (fun x => ⟨x, (h.hr.fresh _ _ hm).2, fun ho => by have := hO b ho; omega⟩), fun b o v hv => (h.K b o v hv).imp (fun x => x) .inr, h.nm, h.nn⟩

/-- A block of a heap holds cells, a map, or a string that is gone through. -/
theorem Own.kind {E : Env} {base : Nat} {V : View} {σ : Hp} {W : World} (H : HR E base V σ W) {b : Nat} (h : Own V σ b) : b < W.heap.size ∧ W.heap[b]? ≠ some (.deferred (some [])) := by
  obtain ⟨id, s, ⟨o, hg, hn⟩, hm⟩ := h
  obtain ⟨blk, s', hm', _, hlt, ho⟩ := H.obj _ _ hg hn
  rw [hm] at hm'; simp only [Option.some.injEq, Prod.mk.injEq] at hm'; obtain ⟨rfl, rfl⟩ := hm'
  refine ⟨hlt, fun e => ?_⟩
  cases o with
  | cells ro l => obtain ⟨cs, t, h1, _⟩ := ho; rw [e] at h1; cases h1
  | map es => obtain ⟨_, en, cl, h1, _⟩ := ho; rw [e] at h1; cases h1
  | siter s p => obtain ⟨_, bb, h1, _⟩ := ho; rw [e] at h1; cases h1
  | gone => exact hn rfl

section
variable {P : Program} {E : Env} {base : Nat} {inv : Inv} {V V' : View} {st : St} {A : Array Value} {DS : List Deferred} {M : List Nat} {O : OO} {W W' : World}

/-- A step of the frame's own. -/
theorem SR.stp (hcx : CxOK inv) (h : SR E base inv V st A DS M O W) {σ' : Hp} (hs : Stp E base V st.σ W V' σ' W') : SR E base inv V' { st with σ := σ' } A DS M O W' := by
  have hb := hcx.bound _ _ _ _ h.cx
  refine ⟨hs.hr, Nat.le_trans h.bs hs.fr.size, fun t a ht => (h.tm t a ht).mono hs.le, h.sz, h.ds.mono hs.le, fun r hr => ⟨?_, (h.mks r hr).2⟩, ?_, fun b hO => ?_⟩
  · have := (h.mks r hr).1
    rw [hs.fr.block r (Array.getElem?_eq_some_iff.1 this).1 (fun ho => (ho.kind h.hr).2 this)]; exact this
  · refine hcx.stable _ _ _ _ _ _ h.cx hs.le.K (fun b o v hv => ?_) hs.hr.cell (fun b hO => ?_) hs.fr.size
    · rcases hs.K b o v hv with h' | h'
      · exact .inl h'
      · exact .inr (fun hO => by have := hb b hO; omega)
    · exact hs.fr.block b (hb b hO) (fun ho => h.dis b ho hO)
  · rcases hs.own b hO with h' | h'
    · exact h.dis b h'
    · intro ho; have := hb b ho; omega

theorem SR.evR (h : SR E base inv V st A DS M O W) (b : Frame) : EvR V st.τ (mkF b A DS []).eval := by
  intro x a hx
  rw [mkF_eval]
  cases x with
  | tmp t => exact h.tm t a hx
  | const v => exact lit_sound 3 v a hx V
  | global g => simp only [ev, Option.some.injEq] at hx; subst hx; exact .gp g 0
  | func f => simp only [ev, Option.some.injEq] at hx; subst hx; exact .fn f [] [] [] [] rfl rfl (by intro i h; simp at h) (by intro i h; simp at h)

/-- What is put into a temporary. -/
theorem SR.put (h : SR E base inv V st A DS M O W) {st' : St} {d : Option Tmp} {a : AV} {v : Value} (hv : VR V a v) (hp : putS st d a = some st') : SR E base inv V st' (putR A d v) DS M O W ∧ st'.σ = st.σ ∧ st'.rnd = st.rnd := by
  unfold putS putT at hp
  cases d with
  | none => simp only [Option.some.injEq] at hp; subst hp; exact ⟨h, rfl, rfl⟩
  | some t =>
    simp only at hp
    split at hp
    · rename_i τ hτ
      split at hτ
      · rename_i hb
        have hb' := Nat.le_of_ble_eq_true hb
        simp only [Option.some.injEq] at hτ hp; subst hτ; subst hp
        refine ⟨⟨h.hr, h.bs, fun t' a' ht' => ?_, by simp [putR, h.sz], h.ds, h.mks, h.cx, h.dis⟩, rfl, rfl⟩
        rcases Tr.get_set _ _ _ _ _ ht' with ⟨rfl, rfl⟩ | ⟨hne, ht''⟩
        · have : t' < A.size := by rw [h.sz]; omega
          simp only [putR, Array.getD_eq_getD_getElem?, Array.getElem?_setIfInBounds, this, if_true, Option.getD_some]
          exact hv
        · have := h.tm t' a' ht''
          simp only [putR, Array.getD_eq_getD_getElem?, Array.getElem?_setIfInBounds] at this ⊢
          rw [if_neg (fun e => hne e.symm)]; exact this
      · cases hτ
    · cases hp

theorem undef_VR (V : View) : VR V undefA undef := VR.tup' (.nil V)

/-- Is the operation carried out? The machine thinks so too. -/
theorem wanted_spec (h : SR E base inv V st A DS M O W) {ops : Array Oper} {o : Oper} {b : Bool} (hw : wantedA ops st.τ o = some b) : Region.wanted o (yielded ops A) = b := by
  unfold wantedA at hw
  unfold Region.wanted
  split at hw
  · rename_i hg; rw [hg]; simp only [Option.some.injEq] at hw; subst hw; rfl
  · rename_i j want hg
    rw [hg]
    simp only
    split at hw
    · rename_i d hd
      split at hw
      · rename_i x hx
        simp only [Option.some.injEq] at hw; subst hw
        have hv := (h.tm d _ hx).bool_inv
        have : A[d]? = some (.bool x) := by
          rw [Array.getD_eq_getD_getElem?] at hv
          cases hA : A[d]? with
          | none => rw [hA] at hv; simp [undef] at hv
          | some y => rw [hA] at hv; simpa using hv
        simp only [yielded, hd, Option.bind_some, this]
        cases x <;> cases want <;> rfl
      · rename_i hx
        simp only [Option.some.injEq] at hw; subst hw
        obtain ⟨L, hv, hL⟩ := (h.tm d _ hx).tup_inv
        cases hL.nil_inv
        have : yielded ops A j = none := by
          simp only [yielded, hd, Option.bind_some]
          rw [Array.getD_eq_getD_getElem?] at hv
          cases hA : A[d]? with
          | none => rfl
          | some y => rw [hA] at hv; simp only [Option.getD_some] at hv; subst hv; rfl
        rw [this]; rfl
      · cases hw
    · cases hw
end
end Go.Eng

/-
  THE ENGINE, 20: what a slice holds, for good.
-/
namespace Go.Eng
open Go
section
variable {P : Program} {E : Env} {base : Nat} {V : View} {σ : Hp} {W : World}

/-- Only what memory holds for good has grown, and that in blocks of one's own. -/
structure Fz (E : Env) (base : Nat) (V : View) (σ : Hp) (W : World) (V' : View) (σ' : Hp) : Prop where
  le : V.le V'
  m : V'.m = V.m
  lv : V'.lv = V.lv
  N : V'.N = V.N
  n : σ'.n = σ.n
  hr : HR E base V' σ' W
  K : ∀ b o v, V'.K b o = some v → V.K b o = some v ∨ Own V σ b
  own : ∀ id, live σ' id → live σ id

theorem Fz.refl (H : HR E base V σ W) : Fz E base V σ W V σ := ⟨View.le.refl V, rfl, rfl, rfl, rfl, H, fun _ _ _ h => .inl h, fun _ h => h⟩
theorem Fz.ownB {V' : View} {σ' : Hp} (h : Fz E base V σ W V' σ') {b : Nat} (hb : Own V' σ' b) : Own V σ b := by
  obtain ⟨id, s, hl, hm⟩ := hb
  exact ⟨id, s, h.own id hl, by rw [← h.m]; exact hm⟩
theorem Fz.trans {V' V'' : View} {σ' σ'' : Hp} (h : Fz E base V σ W V' σ') (k : Fz E base V' σ' W V'' σ'') : Fz E base V σ W V'' σ'' :=
  ⟨h.le.trans k.le, k.m.trans h.m, k.lv.trans h.lv, k.N.trans h.N, k.n.trans h.n, k.hr, fun b o v hv => by
    rcases k.K b o v hv with h' | h'
    · exact h.K b o v h'
    · exact .inr (h.ownB h'), fun id hl => h.own id (k.own id hl)⟩

open Classical in
/-- One object. -/
theorem frz_one (H : HR E base V σ W) {id : Nat} {ro : Bool} {l : List AV} {blk s : Nat} (hid : σ.get id = some (.cells ro l)) (hm : V.m id = some (blk, s)) :
    ∃ V', Fz E base V σ W V' (σ.set id (.cells true l)) ∧ ∃ L : List Value, VRs V l L ∧ ∀ i (h : i < L.length), V'.K blk (s + i) = some L[i] := by
  obtain ⟨blk', s', hm', hbase, hlt, cs, t, hb, ⟨hsz, hN⟩, ⟨L, hL, hc⟩, hK⟩ := H.obj _ _ hid (by simp)
  rw [hm] at hm'; simp only [Option.some.injEq, Prod.mk.injEq] at hm'; obtain ⟨rfl, rfl⟩ := hm'
  let V' : View := { V with K := fun b o => if b = blk ∧ s ≤ o ∧ o < s + l.length then W.cell? ⟨b, o, none⟩ else V.K b o }
  have hcell : ∀ i (h : i < L.length), W.cell? ⟨blk, s + i, none⟩ = some L[i] := fun i hi => by rw [cell_of_row _ _ _ _ _ _ hb]; exact hc i hi
  have hle : V.le V' := ⟨fun _ _ h => h, fun _ _ h => h, fun b o v hk => by
    simp only [V']
    split
    · exact H.cell _ _ _ hk
    · exact hk, fun _ _ _ _ => rfl⟩
  have lvl : ∀ x, live (σ.set id (.cells true l)) x → live σ x := by
    intro x ⟨o, hx, hn⟩
    rcases Hp.get_set hx with ⟨rfl, _⟩ | ⟨_, hx'⟩
    · exact ⟨_, hid, by simp⟩
    · exact ⟨o, hx', hn⟩
  refine ⟨V', ⟨hle, rfl, rfl, rfl, rfl, ⟨fun b o v hk => ?_, fun g gl hg => ?_, fun x o hx hn => ?_, fun a b c d e h1 h2 h3 h4 => H.inj _ _ _ _ _ (lvl _ h1) (lvl _ h2) h3 h4, H.fresh, fun x o hx => by
    rcases Hp.get_set hx with ⟨rfl, _⟩ | ⟨_, hx'⟩
    · exact ⟨_, hm⟩
    · exact H.all _ _ hx'⟩, fun b o v hk => ?_, lvl⟩, L, hL, fun i hi => ?_⟩
  · simp only [V'] at hk
    split at hk
    · exact hk
    · exact H.cell _ _ _ hk
  · obtain ⟨f, hf⟩ := H.glob g gl hg
    exact ⟨f, fun i hi => ⟨hle.K _ _ _ (hf i hi).1, (hf i hi).2.mono (View.bare_mono hle.K)⟩⟩
  · rcases Hp.get_set hx with ⟨rfl, rfl⟩ | ⟨hne, hx'⟩
    · refine ⟨blk, s, hm, hbase, hlt, cs, t, hb, ⟨hsz, hN⟩, ⟨L, hL.mono hle, hc⟩, fun o v hk => ⟨rfl, ?_⟩⟩
      simp only [V'] at hk
      split at hk
      · rename_i h; exact h.2.2
      · exact (hK o v hk).2
    · obtain ⟨b, s1, g1, g2, g3, g4⟩ := H.obj x o hx' hn
      have hbne : b ≠ blk := fun eb => hne (H.inj _ _ _ _ _ ⟨o, hx', hn⟩ ⟨_, hid, by simp⟩ (eb ▸ g1) hm)
      refine ⟨b, s1, g1, g2, g3, g4.mono hle rfl (fun i v hk => ?_) rfl⟩
      simp only [V'] at hk
      rw [if_neg (fun h => hbne h.1)] at hk; exact hk
  · simp only [V'] at hk
    split at hk
    · rename_i h; exact .inr ⟨id, s, ⟨_, hid, by simp⟩, h.1 ▸ hm⟩
    · exact .inl hk
  · have hi' : i < l.length := by rw [hL.1]; exact hi
    simp only [V']
    rw [if_pos ⟨trivial, by omega, by omega⟩]
    exact hcell i hi

/-- What is frozen stands for what it stood for. -/
theorem frz_both : ∀ n : Nat,
    (∀ (v v' : AV) (V : View) (σ σ' : Hp) (R : Value), HR E base V σ W → VR V v R → frz n v σ = some (v', σ') → ∃ V', Fz E base V σ W V' σ' ∧ VR V'.bare v' R) ∧
    (∀ (l l' : List AV) (V : View) (σ σ' : Hp) (L : List Value), HR E base V σ W → VRs V l L → frzL n l σ = some (l', σ') → ∃ V', Fz E base V σ W V' σ' ∧ VRs V'.bare l' L)
  | 0 => by
    refine ⟨fun v v' V σ σ' R H hv h => by simp [frz] at h, fun l l' V σ σ' L H hl h => ?_⟩
    cases l with
    | nil => simp only [frzL, Option.some.injEq, Prod.mk.injEq] at h; obtain ⟨rfl, rfl⟩ := h; cases hl.nil_inv; exact ⟨V, .refl H, .nil _⟩
    | cons v vs => simp [frzL] at h
  | n + 1 => by
    obtain ⟨ih1, ih2⟩ := frz_both n
    refine ⟨fun v v' V σ σ' R H hv h => ?_, fun l l' V σ σ' L H hl h => ?_⟩
    · cases v <;> simp only [frz] at h
      case sl id off len sz =>
        split at h
        · rename_i ro l hget
          split at h
          · rename_i cs σ1 hcs
            simp only [Option.some.injEq, Prod.mk.injEq] at h; obtain ⟨rfl, rfl⟩ := h
            obtain ⟨blk, s, cap, A, hm, hc, rfl, hA⟩ := hv.sl_inv
            obtain ⟨V1, hf1, L, hL, hK⟩ := frz_one H hget hm
            obtain ⟨V2, hf2, hcs2⟩ := ih2 _ _ V1 _ _ (L.drop off) hf1.hr ((hL.mono hf1.le).drop off) hcs
            refine ⟨V2, hf1.trans hf2, .csl cs len blk (s + off) cap A (fun i => (L.drop off).getD i undef) (fun i hi => ?_) (fun i hi => ?_) hc (hA.imp (fun x => x) (fun x => x.1))⟩
            · show V2.K blk (s + off + i) = _
              have hi' : i < (L.drop off).length := by rw [← hcs2.1]; exact hi
              have hi2 : off + i < L.length := by rw [List.length_drop] at hi'; omega
              have := hf2.le.K _ _ _ (hK (off + i) hi2)
              rw [Nat.add_assoc, this]
              simp [List.getD, hi2]
            · have hi' : i < (L.drop off).length := by rw [← hcs2.1]; exact hi
              have := hcs2.2 i hi hi'
              simp only [List.getD, List.getElem?_eq_getElem hi', Option.getD_some]
              exact this
          · cases h
        · cases h
      case agg l =>
        split at h
        · rename_i cs σ1 hcs
          simp only [Option.some.injEq, Prod.mk.injEq] at h; obtain ⟨rfl, rfl⟩ := h
          obtain ⟨L, rfl, hL⟩ := hv.agg_inv
          obtain ⟨V2, hf2, hcs2⟩ := ih2 _ _ V _ _ L H hL hcs
          exact ⟨V2, hf2, .agg' hcs2⟩
        · cases h
      case ifc t x =>
        split at h
        · rename_i y σ1 hy
          simp only [Option.some.injEq, Prod.mk.injEq] at h; obtain ⟨rfl, rfl⟩ := h
          cases hv with
          | ifc _ _ Y hY =>
            obtain ⟨V2, hf2, hy2⟩ := ih1 _ _ V _ _ Y H hY hy
            exact ⟨V2, hf2, .ifc _ _ _ hy2⟩
        · cases h
      case csl cells len =>
        simp only [Option.some.injEq, Prod.mk.injEq] at h; obtain ⟨rfl, rfl⟩ := h
        obtain ⟨blk, o, cap, A, f, hk, hvv, hc, rfl, hA⟩ := hv.csl_inv
        exact ⟨V, .refl H, .csl _ _ blk o cap A f hk hvv hc hA⟩
      all_goals first
        | (cases h; done)
        | (simp only [Option.some.injEq, Prod.mk.injEq] at h; obtain ⟨rfl, rfl⟩ := h; exact ⟨V, .refl H, by cases hv; constructor⟩)
        | (simp only [Option.some.injEq, Prod.mk.injEq] at h; obtain ⟨rfl, rfl⟩ := h; exact ⟨V, .refl H, by cases hv; constructor <;> assumption⟩)
    · cases l with
      | nil => simp only [frzL, Option.some.injEq, Prod.mk.injEq] at h; obtain ⟨rfl, rfl⟩ := h; cases hl.nil_inv; exact ⟨V, .refl H, .nil _⟩
      | cons v vs =>
        obtain ⟨X, Xs, rfl, hX, hXs⟩ := hl.cons_inv
        simp only [frzL] at h
        split at h
        · rename_i v1 σ1 hv1
          split at h
          · rename_i vs1 σ2 hvs1
            simp only [Option.some.injEq, Prod.mk.injEq] at h; obtain ⟨rfl, rfl⟩ := h
            obtain ⟨V1, hf1, hx1⟩ := ih1 _ _ V _ _ X H hX hv1
            obtain ⟨V2, hf2, hx2⟩ := ih2 _ _ V1 _ _ Xs hf1.hr (hXs.mono hf1.le) hvs1
            exact ⟨V2, hf1.trans hf2, .cons (hx1.mono (View.bare_mono hf2.le.K)) hx2⟩
          · cases h
        · cases h
end
end Go.Eng

/-
  THE ENGINE, 21: what is handed to a call, and back.
-/
namespace Go.Eng
open Go

theorem Tr.get_set_ne {α : Type} (t : Tr α) (k j : Nat) (x : α) (h : j ≠ k) : (t.set k x).get j = t.get j := by
  induction t generalizing k j with
  | lf => rfl
  | nd l w r ihl ihr =>
    rw [Tr.set_nd]
    cases k with
    | zero =>
      simp only
      cases j with
      | zero => exact absurd rfl h
      | succ j => rw [Tr.get_nd, Tr.get_nd]; rfl
    | succ k =>
      simp only
      by_cases hk : (k + 1) % 2 = 1
      · have e : Nat.beq ((k + 1) % 2) 1 = true := by rw [hk]; rfl
        rw [e]; simp only
        cases j with
        | zero => rw [Tr.get_nd, Tr.get_nd]; rfl
        | succ j =>
          rw [Tr.get_nd, Tr.get_nd]; simp only
          by_cases hj : (j + 1) % 2 = 1
          · have e' : Nat.beq ((j + 1) % 2) 1 = true := by rw [hj]; rfl
            rw [e']; simp only
            exact ihl _ _ (by omega)
          · have e' : Nat.beq ((j + 1) % 2) 1 = false := by
              have : (j + 1) % 2 = 0 := by omega
              rw [this]; rfl
            rw [e']
      · have e : Nat.beq ((k + 1) % 2) 1 = false := by
          have : (k + 1) % 2 = 0 := by omega
          rw [this]; rfl
        rw [e]; simp only
        cases j with
        | zero => rw [Tr.get_nd, Tr.get_nd]; rfl
        | succ j =>
          rw [Tr.get_nd, Tr.get_nd]; simp only
          by_cases hj : (j + 1) % 2 = 1
          · have e' : Nat.beq ((j + 1) % 2) 1 = true := by rw [hj]; rfl
            rw [e']
          · have e' : Nat.beq ((j + 1) % 2) 1 = false := by
              have : (j + 1) % 2 = 0 := by omega
              rw [this]; rfl
            rw [e']; simp only
            exact ihr _ _ (by omega)

theorem Hp.get_set_ne (σ : Hp) (k j : Nat) (o : AO) (h : j ≠ k) : (σ.set k o).get j = σ.get j := Tr.get_set_ne _ _ _ _ h
theorem Hp.get_empty (j : Nat) : Hp.empty.get j = none := Tr.get_full 14 j

/-! ### Lists of numbers -/

theorem has_false {l : List Nat} {i : Nat} (h : has l i = false) : i ∉ l := by
  induction l with
  | nil => simp
  | cons j l ih =>
    simp only [has] at h
    split at h
    · cases h
    · rename_i e
      have : j ≠ i := Nat.ne_of_beq_eq_false e
      simp only [List.mem_cons, not_or]
      exact ⟨fun e' => this e'.symm, ih h⟩

theorem pos_spec {l : List Nat} {i j : Nat} (h : pos l i = some j) : l[j]? = some i := by
  induction l generalizing j with
  | nil => simp [pos] at h
  | cons k l ih =>
    simp only [pos] at h
    split at h
    · rename_i e
      simp only [Option.some.injEq] at h; subst h
      simp [Nat.eq_of_beq_eq_true e]
    · obtain ⟨j', h1, rfl⟩ := Option.map_eq_some_iff.1 h
      simpa using ih h1

theorem pos_of {l : List Nat} (hnd : l.Nodup) {i j : Nat} (h : l[j]? = some i) : pos l i = some j := by
  induction l generalizing j with
  | nil => simp at h
  | cons k l ih =>
    simp only [pos]
    cases j with
    | zero =>
      simp only [List.getElem?_cons_zero, Option.some.injEq] at h; subst h
      simp
    | succ j =>
      simp only [List.getElem?_cons_succ] at h
      have hne : k ≠ i := by
        intro e; subst e
        exact (List.nodup_cons.1 hnd).1 (List.mem_of_getElem? h)
      have : Nat.beq k i = false := by
        cases e : Nat.beq k i with
        | false => rfl
        | true => exact absurd (Nat.eq_of_beq_eq_true e) hne
      rw [this]; simp only
      rw [ih (List.nodup_cons.1 hnd).2 h]; rfl

theorem reach_nodup (σ : Hp) : ∀ n todo seen, seen.Nodup → (reach σ n todo seen).Nodup := by
  intro n
  induction n with
  | zero => intro todo seen h; exact h
  | succ n ih =>
    intro todo seen h
    cases todo with
    | nil => exact h
    | cons i todo =>
      simp only [reach]
      split
      · exact ih _ _ h
      · rename_i e
        refine ih _ _ ?_
        rw [List.nodup_append]
        exact ⟨h, by simp, fun a ha b hb => by simp only [List.mem_singleton] at hb; subst hb; intro e'; exact has_false e (e' ▸ ha)⟩

/-! ### Renaming -/

structure Rn (y : Nat) (ρ : Nat → Option Nat) (V V' : View) : Prop where
  m : ∀ i j x, ρ i = some j → V.m i = some x → V'.m j = some x
  lv : ∀ l x, l < y → V.lv l = some x → V'.lv l = some x
  K : ∀ b o x, V.K b o = some x → V'.K b o = some x
  N : ∀ i j blk s, ρ i = some j → V.m i = some (blk, s) → V'.N blk = V.N blk

theorem renL_spec {y : Nat} {ρ : Nat → Option Nat} {l l' : List AV} (h : renL y ρ l = some l') : l'.length = l.length ∧ ∀ i (h : i < l.length) (h' : i < l'.length), ren y ρ l[i] = some l'[i] := by
  induction l generalizing l' with
  | nil => simp only [renL, Option.some.injEq] at h; subst h; exact ⟨rfl, fun i h => absurd h (by simp)⟩
  | cons v vs ih =>
    simp only [renL] at h
    split at h
    · rename_i v' vs' h1 h2
      simp only [Option.some.injEq] at h; subst h
      obtain ⟨g1, g2⟩ := ih h2
      refine ⟨by simp [g1], fun i hi hi' => ?_⟩
      cases i with
      | zero => exact h1
      | succ i => exact g2 i (by simpa using hi) (by simpa using hi')
    · cases h

theorem VR.ren {y : Nat} {ρ : Nat → Option Nat} {V V' : View} {a a' : AV} {v : Value} (hv : VR V a v) (hr : Rn y ρ V V') (h : ren y ρ a = some a') : VR V' a' v := by
  induction hv generalizing a' V' with
  | bool b => simp only [Eng.ren, Option.some.injEq] at h; subst h; exact .bool b
  | int k n => simp only [Eng.ren, Option.some.injEq] at h; subst h; exact .int k n
  | str b => simp only [Eng.ren, Option.some.injEq] at h; subst h; exact .str b
  | ptr id off blk s hm =>
    simp only [Eng.ren] at h
    obtain ⟨j, hj, rfl⟩ := Option.map_eq_some_iff.1 h
    exact .ptr _ _ _ _ (hr.m _ _ _ hj hm)
  | gp g off => simp only [Eng.ren, Option.some.injEq] at h; subst h; exact .gp _ _
  | cp cells off blk o f hk hv ih => simp only [Eng.ren, Option.some.injEq] at h; subst h; exact .cp _ _ _ _ f (fun i hi => hr.K _ _ _ (hk i hi)) (fun i hi => (hv i hi).mono (View.bare_mono hr.K))
  | nilp => simp only [Eng.ren, Option.some.injEq] at h; subst h; exact .nilp
  | sl id off len sz blk s cap A hm hc ha =>
    simp only [Eng.ren] at h
    obtain ⟨j, hj, rfl⟩ := Option.map_eq_some_iff.1 h
    exact .sl _ _ _ _ _ _ _ A (hr.m _ _ _ hj hm) hc (ha.imp (fun x => x) fun x => ⟨x.1, by rw [hr.N _ _ _ _ hj hm]; exact x.2⟩)
  | csl cells len blk o cap A f hk hv hc ha ih => simp only [Eng.ren, Option.some.injEq] at h; subst h; exact .csl _ _ _ _ _ A f (fun i hi => hr.K _ _ _ (hk i hi)) (fun i hi => (hv i hi).mono (View.bare_mono hr.K)) hc ha
  | nils => simp only [Eng.ren, Option.some.injEq] at h; subst h; exact .nils
  | mp id blk hm =>
    simp only [Eng.ren] at h
    obtain ⟨j, hj, rfl⟩ := Option.map_eq_some_iff.1 h
    exact .mp _ _ (hr.m _ _ _ hj hm)
  | nilm => simp only [Eng.ren, Option.some.injEq] at h; subst h; exact .nilm
  | iter id blk hm =>
    simp only [Eng.ren] at h
    obtain ⟨j, hj, rfl⟩ := Option.map_eq_some_iff.1 h
    exact .iter _ _ (hr.m _ _ _ hj hm)
  | fn f a b A B ha hb hav hbv iha ihb =>
    simp only [Eng.ren] at h
    split at h
    · rename_i a1 b1 h1 h2
      simp only [Option.some.injEq] at h; subst h
      obtain ⟨p1, p2⟩ := renL_spec h1
      obtain ⟨q1, q2⟩ := renL_spec h2
      exact .fn f a1 b1 A B (p1.trans ha) (q1.trans hb) (fun i hi hi' => iha i (by omega) hi' hr (p2 i (by omega) hi)) (fun i hi hi' => ihb i (by omega) hi' hr (q2 i (by omega) hi))
    · cases h
  | yld lvl l hl =>
    simp only [Eng.ren] at h
    split at h
    · rename_i e
      simp only [Option.some.injEq] at h; subst h
      exact .yld _ _ (hr.lv _ _ (Nat.le_of_ble_eq_true e) hl)
    · cases h
  | nilf => simp only [Eng.ren, Option.some.injEq] at h; subst h; exact .nilf
  | ifc t v r hv ih =>
    simp only [Eng.ren] at h
    obtain ⟨j, hj, rfl⟩ := Option.map_eq_some_iff.1 h
    exact .ifc _ _ _ (ih hr hj)
  | nili => simp only [Eng.ren, Option.some.injEq] at h; subst h; exact .nili
  | agg a A ha hav ih =>
    simp only [Eng.ren] at h
    obtain ⟨l, hl, rfl⟩ := Option.map_eq_some_iff.1 h
    obtain ⟨p1, p2⟩ := renL_spec hl
    exact .agg l A (p1.trans ha) (fun i hi hi' => ih i (by omega) hi' hr (p2 i (by omega) hi))
  | tup a A ha hav ih =>
    simp only [Eng.ren] at h
    obtain ⟨l, hl, rfl⟩ := Option.map_eq_some_iff.1 h
    obtain ⟨p1, p2⟩ := renL_spec hl
    exact .tup l A (p1.trans ha) (fun i hi hi' => ih i (by omega) hi' hr (p2 i (by omega) hi))

theorem VRs.ren {y : Nat} {ρ : Nat → Option Nat} {V V' : View} {a a' : List AV} {L : List Value} (hv : VRs V a L) (hr : Rn y ρ V V') (h : renL y ρ a = some a') : VRs V' a' L := by
  obtain ⟨p1, p2⟩ := renL_spec h
  exact ⟨p1.trans hv.1, fun i hi hi' => (hv.2 i (by omega) hi').ren hr (p2 i (by omega) hi)⟩

theorem renE_spec {y : Nat} {ρ : Nat → Option Nat} {l l' : List (AV × AV)} (h : renE y ρ l = some l') : renL y ρ (l.map (·.1)) = some (l'.map (·.1)) ∧ renL y ρ (l.map (·.2)) = some (l'.map (·.2)) := by
  induction l generalizing l' with
  | nil => simp only [renE, Option.some.injEq] at h; subst h; exact ⟨rfl, rfl⟩
  | cons v vs ih =>
    obtain ⟨v, w⟩ := v
    simp only [renE] at h
    split at h
    · rename_i v' w' vs' h1 h2 h3
      simp only [Option.some.injEq] at h; subst h
      obtain ⟨g1, g2⟩ := ih h3
      simp only [List.map_cons, renL, h1, h2, g1, g2, and_self]
    · cases h

theorem OR.ren {y : Nat} {ρ : Nat → Option Nat} {V V' : View} {W : World} {blk s : Nat} {o o' : AO} (ho : OR V W blk s o) (hr : Rn y ρ V V') (h : renO y ρ o = some o') (hN : V'.N blk = V.N blk) (hK : ∀ i v, V'.K blk i = some v → V.K blk i = some v) : OR V' W blk s o' := by
  cases o with
  | cells ro l =>
    simp only [renO] at h
    obtain ⟨l', hl, rfl⟩ := Option.map_eq_some_iff.1 h
    obtain ⟨cs, t, h1, h0, ⟨L, h2, h3⟩, h4⟩ := ho
    have hlen := (renL_spec hl).1
    exact ⟨cs, t, h1, ⟨by rw [hlen]; exact h0.1, h0.2.trans hN.symm⟩, ⟨L, h2.ren hr hl, h3⟩, fun o v hk => by rw [hlen]; exact h4 o v (hK _ _ hk)⟩
  | map es =>
    simp only [renO] at h
    obtain ⟨l', hl, rfl⟩ := Option.map_eq_some_iff.1 h
    obtain ⟨h0, en, clock, h1, h2, h3⟩ := ho
    obtain ⟨e1, e2⟩ := renE_spec hl
    exact ⟨h0, en, clock, h1, h2.ren hr e1, h3.ren hr e2⟩
  | siter str pos =>
    simp only [renO, Option.some.injEq] at h; subst h
    exact ho
  | gone => simp only [renO, Option.some.injEq] at h; subst h; trivial

theorem renO_gone {y : Nat} {ρ : Nat → Option Nat} {o o' : AO} (h : renO y ρ o = some o') (hn : o' ≠ .gone) : o ≠ .gone := by
  intro e; subst e; simp only [renO, Option.some.injEq] at h; exact hn h.symm

/-! ### Copies -/

theorem copyIn_spec {y : Nat} {ρ : Nat → Option Nat} {σ : Hp} : ∀ {l : List Nat} {σ0 σ' : Hp}, copyIn y ρ σ l σ0 = some σ' →
    σ'.n = σ0.n + l.length ∧ (∀ id o, σ'.get id = some o → (∃ j i oo, id = σ0.n + j ∧ l[j]? = some i ∧ σ.get i = some oo ∧ renO y ρ oo = some o) ∨ σ0.get id = some o) ∧ ∀ i ∈ l, ∃ o, σ.get i = some o
  | [], σ0, σ', h => by
    simp only [copyIn, Option.some.injEq] at h; subst h
    exact ⟨rfl, fun id o h => .inr h, fun i h => absurd h (by simp)⟩
  | i :: l, σ0, σ', h => by
    simp only [copyIn] at h
    split at h
    · rename_i o ho
      split at h
      · rename_i o1 ho1
        obtain ⟨h1, h2, h3⟩ := copyIn_spec h
        refine ⟨by rw [h1]; simp [Hp.push]; omega, fun id o2 h' => ?_, fun i' hi' => ?_⟩
        · rcases h2 id o2 h' with ⟨j, i', oo, e, g1, g2, g3⟩ | g
          · exact .inl ⟨j + 1, i', oo, by rw [e]; simp [Hp.push]; omega, by simpa using g1, g2, g3⟩
          · rcases Hp.get_push g with ⟨rfl, rfl⟩ | ⟨_, g'⟩
            · exact .inl ⟨0, i, o, by simp, by simp, ho, ho1⟩
            · exact .inr g'
        · rcases List.mem_cons.1 hi' with rfl | h'
          · exact ⟨_, ho⟩
          · exact h3 _ h'
      · cases h
    · cases h

theorem copyBack_spec {y : Nat} {ρ : Nat → Option Nat} {σ' : Hp} : ∀ {l : List Nat} {j0 : Nat} {σ σ1 : Hp}, copyBack y ρ σ' j0 l σ = some σ1 →
    σ1.n = σ.n ∧ ∀ id o, σ1.get id = some o → (∃ j oo, l[j]? = some id ∧ σ'.get (j0 + j) = some oo ∧ renO y ρ oo = some o) ∨ (id ∉ l ∧ σ.get id = some o)
  | [], j0, σ, σ1, h => by
    simp only [copyBack, Option.some.injEq] at h; subst h
    exact ⟨rfl, fun id o h => .inr ⟨by simp, h⟩⟩
  | i :: l, j0, σ, σ1, h => by
    simp only [copyBack] at h
    split at h
    · rename_i o ho
      split at h
      · rename_i o1 ho1
        obtain ⟨h1, h2⟩ := copyBack_spec h
        refine ⟨h1, fun id o2 h' => ?_⟩
        rcases h2 id o2 h' with ⟨j, oo, g1, g2, g3⟩ | ⟨g1, g2⟩
        · exact .inl ⟨j + 1, oo, by simpa using g1, by rw [show j0 + (j + 1) = j0 + 1 + j by omega]; exact g2, g3⟩
        · rcases Hp.get_set g2 with ⟨rfl, rfl⟩ | ⟨hne, g'⟩
          · exact .inl ⟨0, o, by simp, ho, ho1⟩
          · exact .inr ⟨by simp only [List.mem_cons, not_or]; exact ⟨hne, g1⟩, g'⟩
      · cases h
    · cases h

theorem lend_n (l : List Nat) (σ : Hp) : (lend σ l).n = σ.n := by
  induction l generalizing σ with
  | nil => rfl
  | cons i l ih => exact ih _

theorem lend_get {l : List Nat} {σ : Hp} {id : Nat} {o : AO} (h : (lend σ l).get id = some o) (hn : o ≠ .gone) : id ∉ l ∧ σ.get id = some o := by
  induction l generalizing σ with
  | nil => exact ⟨by simp, h⟩
  | cons i l ih =>
    obtain ⟨h1, h2⟩ := ih (σ := σ.set i .gone) h
    rcases Hp.get_set h2 with ⟨_, e⟩ | ⟨hne, h'⟩
    · exact absurd e hn
    · exact ⟨by simp only [List.mem_cons, not_or]; exact ⟨hne, h1⟩, h'⟩

theorem lend_keep {l : List Nat} {σ : Hp} {id : Nat} (h : id ∉ l) : (lend σ l).get id = σ.get id := by
  induction l generalizing σ with
  | nil => rfl
  | cons i l ih =>
    simp only [List.mem_cons, not_or] at h
    exact (ih h.2).trans (Hp.get_set_ne _ _ _ _ h.1)

theorem lend_live {l : List Nat} {σ : Hp} {id : Nat} (h : live (lend σ l) id) : id ∉ l ∧ live σ id := by
  obtain ⟨o, h1, h2⟩ := h
  obtain ⟨g1, g2⟩ := lend_get h1 h2
  exact ⟨g1, o, g2, h2⟩

section
variable {E : Env} {base : Nat} {V : View} {σ : Hp} {W : World}

theorem HR.lend (H : HR E base V σ W) : ∀ {l : List Nat}, (∀ i ∈ l, ∃ x, V.m i = some x) → HR E base V (lend σ l) W := by
  intro l
  induction l generalizing σ with
  | nil => intro _; exact H
  | cons i l ih => intro h; exact ih (H.drop i (h i (by simp))) (fun j hj => h j (by simp [hj]))

/-- What is handed to a call. -/
structure Ent (E : Env) (base : Nat) (V : View) (σ : Hp) (W : World) (Vc : View) (σ' : Hp) (l : List Nat) : Prop where
  hr : HR E base Vc σ' W
  m : ∀ j, Vc.m j = (l[j]?).bind V.m
  lv : Vc.lv = V.lv
  K : Vc.K = V.K
  N : Vc.N = V.N
  nodup : l.Nodup
  n : σ'.n = l.length
  maps : ∀ i ∈ l, ∃ x, V.m i = some x
  own : ∀ b, Own Vc σ' b → ∃ i s, i ∈ l ∧ live σ i ∧ V.m i = some (b, s)

theorem Ent.of (H : HR E base V σ W) {y : Nat} {l : List Nat} (hnd : l.Nodup) {σ' : Hp} (h : copyIn y (pos l) σ l .empty = some σ') :
    Ent E base V σ W { V with m := fun j => (l[j]?).bind V.m } σ' l ∧ Rn y (pos l) V { V with m := fun j => (l[j]?).bind V.m } := by
  obtain ⟨h1, h2, h3⟩ := copyIn_spec h
  let Vc : View := { V with m := fun j => (l[j]?).bind V.m }
  have hn : σ'.n = l.length := by rw [h1]; simp [Hp.empty]
  have hrn : Rn y (pos l) V Vc := ⟨fun i j x hj hx => by simp only [Vc, pos_spec hj, Option.bind_some]; exact hx, fun _ _ _ h => h, fun _ _ _ h => h, fun _ _ _ _ _ _ => rfl⟩
  have hmaps : ∀ i ∈ l, ∃ x, V.m i = some x := fun i hi => by obtain ⟨o, ho⟩ := h3 i hi; exact H.all _ _ ho
  have key : ∀ j o, σ'.get j = some o → ∃ i oo, l[j]? = some i ∧ σ.get i = some oo ∧ renO y (pos l) oo = some o := by
    intro j o hj
    rcases h2 j o hj with ⟨j', i, oo, e, g⟩ | g
    · have : j = j' := by rw [e]; simp [Hp.empty]
      subst this; exact ⟨i, oo, g⟩
    · rw [Hp.get_empty] at g; cases g
  have keyl : ∀ j, live σ' j → ∃ i, l[j]? = some i ∧ live σ i := by
    intro j ⟨o, hj, hne⟩
    obtain ⟨i, oo, g1, g2, g3⟩ := key j o hj
    exact ⟨i, g1, oo, g2, renO_gone g3 hne⟩
  refine ⟨⟨⟨H.cell, H.glob, fun j o hj hne => ?_, fun j j' blk s s' l1 l2 m1 m2 => ?_, fun j x hx => ?_, fun j o hj => ?_⟩, fun _ => rfl, rfl, rfl, rfl, hnd, hn, hmaps, fun b hb => ?_⟩, hrn⟩
  · obtain ⟨i, oo, g1, g2, g3⟩ := key j o hj
    obtain ⟨blk, s, hm, hb, hlt, ho⟩ := H.obj i oo g2 (renO_gone g3 hne)
    exact ⟨blk, s, by simp only [g1, Option.bind_some]; exact hm, hb, hlt, ho.ren hrn g3 rfl (fun _ _ h => h)⟩
  · obtain ⟨i, g1, g2⟩ := keyl j l1
    obtain ⟨i', g1', g2'⟩ := keyl j' l2
    simp only [g1, Option.bind_some] at m1
    simp only [g1', Option.bind_some] at m2
    have := H.inj _ _ _ _ _ g2 g2' m1 m2
    subst this
    have e1 := pos_of hnd g1
    rw [pos_of hnd g1'] at e1
    simpa using e1.symm
  · cases e : l[j]? with
    | none => simp only [e] at hx; cases hx
    | some i =>
      simp only [e, Option.bind_some] at hx
      exact ⟨by rw [hn]; exact (List.getElem?_eq_some_iff.1 e).1, (H.fresh _ _ hx).2⟩
  · obtain ⟨i, oo, g1, g2, g3⟩ := key j o hj
    obtain ⟨x, hx⟩ := H.all _ _ g2
    exact ⟨x, by simp only [g1, Option.bind_some]; exact hx⟩
  · obtain ⟨j, s, hl, hm⟩ := hb
    obtain ⟨i, g1, g2⟩ := keyl j hl
    simp only [g1, Option.bind_some] at hm
    exact ⟨i, s, List.mem_of_getElem? g1, g2, hm⟩

/-- A call's heap. -/
theorem enter_spec (H : HR E base V σ W) {y : Nat} {args args' : List AV} {A : List Value} (ha : VRs V args A) {σ' : Hp} {l : List Nat} (h : enter y σ args = some (args', σ', l)) :
    ∃ Vc, Ent E base V σ W Vc σ' l ∧ VRs Vc args' A := by
  unfold enter at h
  split at h
  · split at h
    · rename_i args1 h1
      simp only [Option.some.injEq, Prod.mk.injEq] at h; obtain ⟨rfl, rfl, rfl⟩ := h
      obtain ⟨e, hrn⟩ := Ent.of H (y := y) (l := []) List.nodup_nil (σ' := .empty) rfl
      refine ⟨_, e, ha.ren ?_ h1⟩
      exact ⟨fun i j x hj => by simp at hj, fun _ _ _ h => h, fun _ _ _ h => h, fun _ _ _ _ _ _ => rfl⟩
    · cases h
  · simp only at h
    split at h
    · rename_i args1 σ1 h1 h2
      simp only [Option.some.injEq, Prod.mk.injEq] at h; obtain ⟨rfl, rfl, rfl⟩ := h
      obtain ⟨e, hrn⟩ := Ent.of H (reach_nodup σ 1000 _ [] List.nodup_nil) h2
      exact ⟨_, e, ha.ren hrn h1⟩
    · cases h

theorem ids_nil_ren {y : Nat} {V V' : View} (h1 : ∀ l x, l < y → V.lv l = some x → V'.lv l = some x) (h2 : ∀ b o x, V.K b o = some x → V'.K b o = some x) : Rn y (fun _ => none) V V' :=
  ⟨fun i j x hj => by simp at hj, h1, h2, fun i j _ _ hj => by simp at hj⟩

/-- What is known where a call comes back. -/
structure Ret (E : Env) (base : Nat) (V : View) (σ : Hp) (l : List Nat) (V2 : View) (σ2 : Hp) (y : Nat) (W : World) : Prop where
  hl : HR E base V (lend σ l) W
  h2 : HR E base V2 σ2 W
  K : V.K = V2.K
  m : ∀ j i x, l[j]? = some i → V.m i = some x → V2.m j = some x
  maps : ∀ i ∈ l, ∃ x, V.m i = some x
  lv : ∀ i x, i < y → V2.lv i = some x → V.lv i = some x
  N : ∀ i b s, V2.m i = some (b, s) → ∀ id s', V.m id = some (b, s') → V2.N b = V.N b
  dis : ∀ b, Own V2 σ2 b → ¬ Own V (lend σ l) b

structure Back (E : Env) (base : Nat) (V : View) (σ : Hp) (l : List Nat) (V2 : View) (σ2 : Hp) (W : World) (V3 : View) (σ3 : Hp) : Prop where
  hr : HR E base V3 σ3 W
  le : V.le V3
  lv : V3.lv = V.lv
  K : V3.K = V.K
  own : ∀ b, Own V3 σ3 b → Own V2 σ2 b ∨ Own V (lend σ l) b
  mb : ∀ id b s, V3.m id = some (b, s) → (∃ id' s', V.m id' = some (b, s')) ∨ ∃ i s', V2.m i = some (b, s')
  nm : ∀ id x, V3.m id = some x → V.m id = some x ∨ σ.n ≤ id
  nn : σ.n ≤ σ3.n

open Classical in
theorem leave_spec {V2 : View} {σ2 : Hp} {y : Nat} {l : List Nat} (R : Ret E base V σ l V2 σ2 y W) {v v' : AV} {X : Value} (hv : VR V2 v X) {σ3 : Hp} (h : leave y σ l v σ2 = some (v', σ3)) :
    ∃ V3, Back E base V σ l V2 σ2 W V3 σ3 ∧ VR V3 v' X := by
  have HL := R.hl
  have H2 := R.h2
  unfold leave at h
  split at h
  · split at h
    · rename_i v1 h1
      simp only [Option.some.injEq, Prod.mk.injEq] at h; obtain ⟨rfl, rfl⟩ := h
      exact ⟨V, ⟨HL, View.le.refl V, rfl, rfl, fun b hb => .inr hb, fun id b s h => .inl ⟨id, s, h⟩, fun _ _ h => .inl h, Nat.le_refl _⟩, hv.ren (ids_nil_ren R.lv (fun b o x hx => by rw [R.K]; exact hx)) h1⟩
    · cases h
  · rename_i l l' is' hne
    simp only at h
    generalize hnews : (reach σ2 1000 (ids v ++ List.range l.length) []).filter (fun i => Nat.ble l.length i) = news at h
    generalize hρ : (fun i => match Nat.ble (i + 1) l.length with
      | true => l[i]?
      | false => (pos news i).map (σ.n + ·)) = ρ at h
    have hnd : news.Nodup := by rw [← hnews]; exact (reach_nodup σ2 1000 _ [] List.nodup_nil).filter _
    split at h
    · rename_i v1 σ1 h1 hb
      split at h
      · rename_i σ4 hc
        simp only [Option.some.injEq, Prod.mk.injEq] at h; obtain ⟨rfl, rfl⟩ := h
        obtain ⟨n1, b1⟩ := copyBack_spec hb
        obtain ⟨n2, c1, c2⟩ := copyIn_spec hc
        have hn : σ4.n = σ.n + news.length := by rw [n2, n1]
        have hlt : ∀ i x, V.m i = some x → i < σ.n := fun i x hx => by have := (HL.fresh i x hx).1; rwa [lend_n] at this
        let V3 : View := ⟨fun id => if id < σ.n then V.m id else (news[id - σ.n]?).bind V2.m, V.lv, V.K, fun b => if ∃ id s, V.m id = some (b, s) then V.N b else V2.N b⟩
        have hle : V.le V3 := ⟨fun id x hx => by simp only [V3]; rw [if_pos (hlt id x hx)]; exact hx, fun _ _ h => h, fun _ _ _ h => h, fun id blk s hm => by simp only [V3]; rw [if_pos ⟨id, s, hm⟩]⟩
        have hrn : Rn y ρ V2 V3 := by
          refine ⟨fun i j x hj hx => ?_, R.lv, fun b o x hx => by show V.K b o = _; rw [R.K]; exact hx, fun i j blk s _ hm => ?_⟩
          · rw [← hρ] at hj
            simp only at hj
            split at hj
            · obtain ⟨x0, hx0⟩ := R.maps j (List.mem_of_getElem? hj)
              have := R.m _ _ _ hj hx0
              rw [hx] at this; simp only [Option.some.injEq] at this; subst this
              exact hle.m _ _ hx0
            · obtain ⟨k, hk, rfl⟩ := Option.map_eq_some_iff.1 hj
              simp only [V3]
              rw [if_neg (by omega), Nat.add_sub_cancel_left, pos_spec hk]; exact hx
          · simp only [V3]
            split
            · rename_i hex
              obtain ⟨id, s', hid⟩ := hex
              exact (R.N i blk s hm id s' hid).symm
            · rfl
        have key : ∀ id o, σ4.get id = some o → (∃ i oo, σ2.get i = some oo ∧ renO y ρ oo = some o ∧ ρ i = some id) ∨ (id ∉ l ∧ σ.get id = some o) := by
          intro id o hid
          rcases c1 id o hid with ⟨j, i, oo, e, g1, g2, g3⟩ | g
          · refine .inl ⟨i, oo, g2, g3, ?_⟩
            have hi : i ∈ news := List.mem_of_getElem? g1
            rw [← hnews, List.mem_filter] at hi
            have hble : Nat.ble (i + 1) l.length = false := by
              cases e' : Nat.ble (i + 1) l.length with
              | false => rfl
              | true => have := Nat.le_of_ble_eq_true e'; have := Nat.le_of_ble_eq_true hi.2; omega
            rw [← hρ]; simp only [hble, pos_of hnd g1, Option.map_some]
            rw [e, n1]
          · rcases b1 id o g with ⟨j, oo, g1, g2, g3⟩ | g'
            · refine .inl ⟨j, oo, by simpa using g2, g3, ?_⟩
              have hj := (List.getElem?_eq_some_iff.1 g1).1
              rw [← hρ]; simp only [Nat.ble_eq_true_of_le (show j + 1 ≤ l.length from hj)]
              exact g1
            · exact .inr g'
        have keyl : ∀ id b s, live σ4 id → V3.m id = some (b, s) → (∃ i, live σ2 i ∧ V2.m i = some (b, s) ∧ ρ i = some id) ∨ (live (lend σ l) id ∧ V.m id = some (b, s)) := by
          intro id b s ⟨o, hid, hno⟩ hm
          rcases key id o hid with ⟨i, oo, g1, g2, g3⟩ | ⟨g1, g2⟩
          · obtain ⟨x, hx⟩ := H2.all _ _ g1
            have := hrn.m _ _ _ g3 hx
            rw [hm] at this; simp only [Option.some.injEq] at this; subst this
            exact .inl ⟨i, ⟨oo, g1, renO_gone g2 hno⟩, hx, g3⟩
          · have g3 : (lend σ l).get id = some o := (lend_keep g1).trans g2
            obtain ⟨x, hx⟩ := HL.all _ _ g3
            have := hle.m _ _ hx
            rw [hm] at this; simp only [Option.some.injEq] at this; subst this
            exact .inr ⟨⟨o, g3, hno⟩, hx⟩
        refine ⟨V3, ⟨⟨HL.cell, HL.glob, fun id o hid hno => ?_, fun id id' blk s s' l1 l2 m1 m2 => ?_, fun id x hx => ?_, fun id o hid => ?_⟩, hle, rfl, rfl, fun b ⟨id, s, hlv, hm⟩ => ?_, fun id b s hm => ?_, fun id x hx => by
            simp only [V3] at hx
            split at hx
            · exact .inl hx
            · exact .inr (by omega), by omega⟩, hv.ren hrn h1⟩
        · rcases key id o hid with ⟨i, oo, g1, g2, g3⟩ | ⟨g1, g2⟩
          · obtain ⟨blk, s, hm, hb', hlt', ho⟩ := H2.obj i oo g1 (renO_gone g2 hno)
            exact ⟨blk, s, hrn.m _ _ _ g3 hm, hb', hlt', ho.ren hrn g2 (hrn.N _ _ _ _ g3 hm) (fun i v hk => by rw [← R.K]; exact hk)⟩
          · have g3 : (lend σ l).get id = some o := (lend_keep g1).trans g2
            obtain ⟨blk, s, hm, hb', hlt', ho⟩ := HL.obj id o g3 hno
            exact ⟨blk, s, hle.m _ _ hm, hb', hlt', ho.mono hle (hle.N _ _ _ hm) (fun _ _ h => h) rfl⟩
        · rcases keyl _ _ _ l1 m1 with ⟨i, g1, g2, g3⟩ | ⟨g1, g2⟩ <;> rcases keyl _ _ _ l2 m2 with ⟨i', k1, k2, k3⟩ | ⟨k1, k2⟩
          · have := H2.inj _ _ _ _ _ g1 k1 g2 k2
            subst this
            rw [g3] at k3; simpa using k3
          · exact absurd ⟨id', _, k1, k2⟩ (R.dis blk ⟨i, _, g1, g2⟩)
          · exact absurd ⟨id, _, g1, g2⟩ (R.dis blk ⟨i', _, k1, k2⟩)
          · exact HL.inj _ _ _ _ _ g1 k1 g2 k2
        · simp only [V3] at hx
          split at hx
          · rename_i hlt'
            exact ⟨by rw [hn]; omega, (HL.fresh _ _ hx).2⟩
          · rename_i hge
            cases e : news[id - σ.n]? with
            | none => simp only [e] at hx; cases hx
            | some i =>
              simp only [e, Option.bind_some] at hx
              have := (List.getElem?_eq_some_iff.1 e).1
              exact ⟨by rw [hn]; omega, (H2.fresh _ _ hx).2⟩
        · rcases key id o hid with ⟨i, oo, g1, g2, g3⟩ | ⟨g1, g2⟩
          · obtain ⟨x, hx⟩ := H2.all _ _ g1
            exact ⟨x, hrn.m _ _ _ g3 hx⟩
          · obtain ⟨x, hx⟩ := HL.all _ _ ((lend_keep g1).trans g2)
            exact ⟨x, hle.m _ _ hx⟩
        · rcases keyl _ _ _ hlv hm with ⟨i, g1, g2, g3⟩ | ⟨g1, g2⟩
          · exact .inl ⟨i, s, g1, g2⟩
          · exact .inr ⟨id, s, g1, g2⟩
        · simp only [V3] at hm
          split at hm
          · exact .inl ⟨id, s, hm⟩
          · cases e : news[id - σ.n]? with
            | none => simp only [e] at hm; cases hm
            | some i => simp only [e, Option.bind_some] at hm; exact .inr ⟨i, s, hm⟩
      · cases h
    · cases h
end
end Go.Eng

/-
  THE ENGINE, 22: what the calls around hold, while a call runs.
-/
namespace Go.Eng
open Go
section
variable {P : Program} {E : Env} {base : Nat} {V : View} {σ : Hp} {W : World}

mutual
theorem frzArg_spec (v : AV) {V : View} {σ : Hp} {R : Value} (H : HR E base V σ W) (hv : VR V v R) : ∃ V', Fz E base V σ W V' (frzArg v σ).2 ∧ VR V' (frzArg v σ).1 R := by
  cases v with
  | sl id off len sz =>
    simp only [frzArg]
    split
    · rename_i r hr
      obtain ⟨V', h1, h2⟩ := (frz_both 5000).1 (.sl id off len sz) r.1 V σ r.2 R H hv hr
      exact ⟨V', h1, h2.mono V'.bare_le⟩
    · exact ⟨V, .refl H, hv⟩
  | agg l =>
    obtain ⟨L, rfl, hL⟩ := hv.agg_inv
    obtain ⟨V', h1, h2⟩ := frzArgs_spec l H hL
    exact ⟨V', h1, .agg' h2⟩
  | _ => exact ⟨V, .refl H, hv⟩
theorem frzArgs_spec (l : List AV) {V : View} {σ : Hp} {L : List Value} (H : HR E base V σ W) (hv : VRs V l L) : ∃ V', Fz E base V σ W V' (frzArgs l σ).2 ∧ VRs V' (frzArgs l σ).1 L := by
  cases l with
  | nil => cases hv.nil_inv; exact ⟨V, .refl H, .nil V⟩
  | cons v vs =>
    obtain ⟨X, Xs, rfl, hX, hXs⟩ := hv.cons_inv
    obtain ⟨V1, h1, h2⟩ := frzArg_spec v H hX
    obtain ⟨V2, h3, h4⟩ := frzArgs_spec vs h1.hr (hXs.mono h1.le)
    exact ⟨V2, h1.trans h3, .cons (h2.mono h3.le) h4⟩
end
end

section
variable {P : Program} {E : Env} {base : Nat} {inv : Inv} {V V' : View} {st : St} {A : Array Value} {DS : List Deferred} {M : List Nat} {O : OO} {W W' : World}

/-- What is frozen turns nothing. -/
theorem SR.fz (hcx : CxOK inv) (h : SR E base inv V st A DS M O W) {σ' : Hp} (hf : Fz E base V st.σ W V' σ') : SR E base inv V' { st with σ := σ' } A DS M O W := by
  refine ⟨hf.hr, h.bs, fun t a ht => (h.tm t a ht).mono hf.le, h.sz, h.ds.mono hf.le, h.mks, ?_, fun b hb => h.dis b (hf.ownB hb)⟩
  exact hcx.stable _ _ _ _ _ _ h.cx hf.le.K (fun b o v hv => (hf.K b o v hv).imp (fun x => x) (fun ho => h.dis b ho)) hf.hr.cell (fun _ _ => rfl) (Nat.le_refl _)

theorem Prg.of_fz {σ σ' : Hp} (hf : Fz E base V σ W V' σ') (O : OO) : Prg V σ O W V' σ' O W :=
  ⟨hf.le, hf.lv, Fr.refl _ _, fun b hb => .inl (hf.ownB hb), fun b hb => .inl hb, fun id b s hm => .inl ⟨id, s, by rw [← hf.m]; exact hm⟩, fun b o v hv => (hf.K b o v hv).imp (fun x => x) (fun x => .inl (.inl x)), fun id x hx => .inl (by rw [← hf.m]; exact hx), Nat.le_of_eq hf.n.symm⟩

/-- What a frame holds while it calls: all but what it has handed over. -/
def callInv (E : Env) (base : Nat) (inv : Inv) (V : View) (st : St) (l : List Nat) (A : Array Value) (DS : List Deferred) (M : List Nat) : Inv := fun Λ K O W =>
  ∃ O0, (∀ b, O b ↔ O0 b ∨ Own V (lend st.σ l) b ∨ b ∈ M) ∧ SR E base inv { V with K := K } { st with σ := lend st.σ l, Λ := Λ } A DS M O0 W

theorem SR.others (hcx : CxOK inv) {K' : KK} (h : SR E base inv V st A DS M O W) (hK : ∀ b o v, V.K b o = some v → K' b o = some v)
    (hK' : ∀ b o v, K' b o = some v → V.K b o = some v ∨ ¬ (O b ∨ Own V st.σ b ∨ b ∈ M)) (hc : ∀ b o v, K' b o = some v → W'.cell? ⟨b, o, none⟩ = some v)
    (hW : ∀ b, (O b ∨ Own V st.σ b ∨ b ∈ M) → W'.heap[b]? = W.heap[b]?) (hs : W.heap.size ≤ W'.heap.size) : SR E base inv { V with K := K' } st A DS M O W' := by
  have hle : V.le { V with K := K' } := ⟨fun _ _ h => h, fun _ _ h => h, hK, fun _ _ _ _ => rfl⟩
  have H := h.hr
  refine ⟨⟨hc, fun g l hg => ?_, fun id o hid hne => ?_, H.inj, fun id x hx => ⟨(H.fresh id x hx).1, Nat.lt_of_lt_of_le (H.fresh id x hx).2 hs⟩, H.all⟩, Nat.le_trans h.bs hs, fun t a ht => (h.tm t a ht).mono hle, h.sz, h.ds.mono hle, fun r hr => ⟨?_, (h.mks r hr).2⟩, ?_, h.dis⟩
  · obtain ⟨f, hf⟩ := H.glob g l hg
    exact ⟨f, fun i hi => ⟨hK _ _ _ (hf i hi).1, (hf i hi).2.mono (View.bare_mono hK)⟩⟩
  · obtain ⟨blk, s, h1, h2, h3, h4⟩ := H.obj id o hid hne
    have hown : Own V st.σ blk := ⟨id, s, ⟨o, hid, hne⟩, h1⟩
    refine ⟨blk, s, h1, h2, Nat.lt_of_lt_of_le h3 hs, h4.mono hle rfl (fun i v hk => ?_) (hW blk (.inr (.inl hown)))⟩
    rcases hK' _ _ _ hk with h' | h'
    · exact h'
    · exact absurd (.inr (.inl hown)) h'
  · rw [hW r (.inr (.inr hr))]; exact (h.mks r hr).1
  · exact hcx.stable _ _ _ _ _ _ h.cx hK (fun b o v hv => (hK' b o v hv).imp (fun x => x) (fun hn ho => hn (.inl ho))) hc (fun b hb => hW b (.inl hb)) hs

theorem callInv_ok (hcx : CxOK inv) (l : List Nat) : CxOK (callInv E base inv V st l A DS M) := by
  refine ⟨fun Λ K O W K' W' h hK hK' hc hW hs => ?_, fun Λ K O W h b hb => ?_⟩
  · obtain ⟨O0, hO, hS⟩ := h
    refine ⟨O0, hO, ?_⟩
    have own : ∀ b, Own { V with K := K } (lend st.σ l) b ↔ Own V (lend st.σ l) b := fun b => Iff.rfl
    exact SR.others (V := { V with K := K }) hcx hS hK (fun b o v hv => (hK' b o v hv).imp (fun x => x) (fun hn ho => hn ((hO b).2 ho))) hc (fun b hb => hW b ((hO b).2 hb)) hs
  · obtain ⟨O0, hO, hS⟩ := h
    rcases (hO b).1 hb with h' | h' | h'
    · exact hcx.bound _ _ _ _ hS.cx b h'
    · exact (Own.kind hS.hr h').1
    · exact (Array.getElem?_eq_some_iff.1 (hS.mks b h').1).1

/-- A frame calls: what it holds meanwhile. -/
theorem SR.call (hcx : CxOK inv) (h : SR E base inv V st A DS M O W) {l : List Nat} (hl : ∀ i ∈ l, ∃ x, V.m i = some x) :
    callInv E base inv V st l A DS M st.Λ V.K (fun b => O b ∨ Own V (lend st.σ l) b ∨ b ∈ M) W :=
  ⟨O, fun _ => Iff.rfl, ⟨h.hr.lend hl, h.bs, h.tm, h.sz, h.ds, h.mks, h.cx, fun b ⟨id, s, hlv, hm⟩ => h.dis b ⟨id, s, (lend_live hlv).2, hm⟩⟩⟩
end
end Go.Eng

/-
  THE ENGINE, 23: a call from a frame.
-/
namespace Go.Eng
open Go

/-- Where the machine goes on when a function has come to its end. -/
def backTo (kind : CallKind) (R : Value) (caller : Frame) : Frame :=
  match kind with
  | .deferred => caller
  | _ => caller.finish R

/-- A function is called, and comes to a value. -/
inductive Goes (P : Program) (f : Nat) (A : Array Value) (W : World) (R : Value) (W' : World) : Prop where
  | value (h : (callFunc f A).run P W = .ok (.value R) W')
  | enter (W1 : World) (h : (callFunc f A).run P W = .ok (.enter f A) W1)
      (hs : ∀ kind caller rest, (kind = .normal ∨ (kind = .deferred ∧ caller.mode = .returning)) → Steps P (lone (Frame.enter P f A kind) (caller :: rest) W1) (lone (backTo kind R caller) rest W'))

/-- A round of a loop is run, and comes to its end. -/
def GoesY (P : Program) (l : Nat) (A : Array Value) (W : World) (b : Bool) (W' : World) : Prop :=
  ∃ W1 f tmps asg body, (Instr.yield l A).run P W = .ok (.round l f tmps asg body) W1 ∧ ∀ caller rest, Steps P (lone (Frame.round l f tmps asg body .normal) (caller :: rest) W1) (lone (caller.finish (.bool b)) rest W')

/-- What a view of memory alone says. -/
def kview (K : KK) : View := ⟨fun _ => none, fun _ => none, K, fun _ => 0⟩

/-- What the calls around make of it. -/
structure Grow (K : KK) (O : OO) (W : World) (K' : KK) (O' : OO) (W' : World) : Prop where
  le : ∀ b o v, K b o = some v → K' b o = some v
  cell : ∀ b o v, K' b o = some v → W'.cell? ⟨b, o, none⟩ = some v
  fr : Fr O W W'
  out : ∀ b, O' b → O b ∨ W.heap.size ≤ b
  K : ∀ b o v, K' b o = some v → K b o = some v ∨ O b ∨ W.heap.size ≤ b

def YOK (P : Program) (inv : Inv) (h : Hnd) (l : Nat) : Prop :=
  ∀ Λ K O W args A b Λ', inv Λ K O W → (∀ b o v, K b o = some v → W.cell? ⟨b, o, none⟩ = some v) → VRs (kview K) args A → h args Λ = some (b, Λ') →
    ∃ K' O' W', inv Λ' K' O' W' ∧ Grow K O W K' O' W' ∧ GoesY P l A.toArray W b W'

def HOK (P : Program) (inv : Inv) (lv : Nat → Option Nat) (hs : List Hnd) : Prop := (∀ i, hs.length ≤ i → lv i = none) ∧ ∀ lvl h l, hs[lvl]? = some h → lv lvl = some l → YOK P inv h l

/-- What a call comes to is what the engine says. -/
def CallOK (P : Program) (E : Env) (call : CallF) : Prop :=
  ∀ f args σ hs Λ v σ' Λ', call f args σ hs Λ = some (v, σ', Λ') →
    ∀ base inv V A O W, CxOK inv → HOK P inv V.lv hs → HR E base V σ W → base ≤ W.heap.size → VRs V args A → inv Λ V.K O W → (∀ b, Own V σ b → ¬ O b) →
      ∃ V' O' W' R, Prg V σ O W V' σ' O' W' ∧ HR E base V' σ' W' ∧ inv Λ' V'.K O' W' ∧ (∀ b, Own V' σ' b → ¬ O' b) ∧ VR V' v R ∧ Goes P f A.toArray W R W'

section
variable {P : Program} {E : Env} {base : Nat} {inv : Inv} {V V' : View} {st : St} {A : Array Value} {DS : List Deferred} {M : List Nat} {O : OO} {W W' : World}

theorem cell_mark {W : World} {r o : Nat} {v : Value} (h : W.heap[r]? = some (.deferred (some []))) (hc : W.cell? ⟨r, o, none⟩ = some v) : False := by
  simp [World.cell?, h] at hc

theorem kview_cell {W : World} {K K' : KK} (h : ∀ b o v, K b o = some v → K' b o = some v) : (kview K).le (kview K') := ⟨fun _ _ h => by simp [kview] at h, fun _ _ h => by simp [kview] at h, h, fun _ _ _ h => by simp [kview] at h⟩

/-- The loops around can be run from within a call. -/
theorem YOK.call (hcx : CxOK inv) {h : Hnd} {lp : Nat} (l : List Nat) (hy : YOK P inv h lp) : YOK P (callInv E base inv V st l A DS M) h lp := by
  intro Λ K O W args AA b Λ' hi hc hargs hh
  obtain ⟨O0, hO, hS⟩ := hi
  obtain ⟨K', O', W', h1, h2, h3⟩ := hy Λ K O0 W args AA b Λ' hS.cx hc hargs hh
  have hbd := hcx.bound _ _ _ _ hS.cx
  have H := hS.hr
  have hmlt : ∀ r ∈ M, r < W.heap.size := fun r hr => (Array.getElem?_eq_some_iff.1 (hS.mks r hr).1).1
  have hheap : ∀ b, (Own V (lend st.σ l) b ∨ b ∈ M) → W'.heap[b]? = W.heap[b]? := by
    intro b hb
    rcases hb with hb | hb
    · exact h2.fr.block b (Own.kind (V := { V with K := K }) H hb).1 (hS.dis b hb)
    · exact h2.fr.block b (hmlt b hb) (hS.mks b hb).2
  have hle : ({ V with K := K } : View).le { V with K := K' } := ⟨fun _ _ h => h, fun _ _ h => h, h2.le, fun _ _ _ _ => rfl⟩
  have hout : ∀ b, (Own V (lend st.σ l) b ∨ b ∈ M) → ¬ O' b := by
    intro b hb ho
    rcases h2.out b ho with h' | h'
    · rcases hb with hb | hb
      · exact hS.dis b hb h'
      · exact (hS.mks b hb).2 h'
    · rcases hb with hb | hb
      · have := (Own.kind (V := { V with K := K }) H hb).1; omega
      · have := hmlt b hb; omega
  refine ⟨K', fun b => O' b ∨ Own V (lend st.σ l) b ∨ b ∈ M, W', ⟨O', fun _ => Iff.rfl, ⟨⟨h2.cell, fun g gl hg => ?_, fun id o hid hne => ?_, H.inj, fun id x hx => ⟨(H.fresh id x hx).1, Nat.lt_of_lt_of_le (H.fresh id x hx).2 h2.fr.size⟩, H.all⟩, Nat.le_trans hS.bs h2.fr.size, fun t a ht => (hS.tm t a ht).mono hle, hS.sz, hS.ds.mono hle, fun r hr => ⟨?_, hout r (.inr hr)⟩, h1, fun b hb => hout b (.inl hb)⟩⟩, ⟨h2.le, h2.cell, h2.fr.weaken (fun b _ hb => (hO b).2 (.inl hb)), fun b hb => ?_, fun b o v hv => ?_⟩, h3⟩
  · obtain ⟨f, hf⟩ := H.glob g gl hg
    exact ⟨f, fun i hi => ⟨h2.le _ _ _ (hf i hi).1, (hf i hi).2.mono (View.bare_mono h2.le)⟩⟩
  · obtain ⟨blk, s, g1, g2, g3, g4⟩ := H.obj id o hid hne
    have hown : Own V (lend st.σ l) blk := ⟨id, s, ⟨o, hid, hne⟩, g1⟩
    refine ⟨blk, s, g1, g2, Nat.lt_of_lt_of_le g3 h2.fr.size, g4.mono hle rfl (fun i v hk => ?_) (hheap blk (.inl hown))⟩
    rcases h2.K _ _ _ hk with h' | h' | h'
    · exact h'
    · exact absurd h' (hS.dis blk hown)
    · exact absurd g3 (by omega)
  · rw [hheap r (.inr hr)]; exact (hS.mks r hr).1
  · rcases hb with hb | hb
    · rcases h2.out b hb with h' | h'
      · exact .inl ((hO b).2 (.inl h'))
      · exact .inr h'
    · exact .inl ((hO b).2 (.inr hb))
  · rcases h2.K b o v hv with h' | h' | h'
    · exact .inl h'
    · exact .inr (.inl ((hO b).2 (.inl h')))
    · exact .inr (.inr h')

theorem HOK.call (hcx : CxOK inv) {lv : Nat → Option Nat} {hs : List Hnd} (l : List Nat) (h : HOK P inv lv hs) : HOK P (callInv E base inv V st l A DS M) lv hs :=
  ⟨h.1, fun lvl hd lp h1 h2 => (h.2 lvl hd lp h1 h2).call hcx l⟩

/-- A call. -/
theorem call_spec (hcx : CxOK inv) {call : CallF} (hcall : CallOK P E call) (h : SR E base inv V st A DS M O W) {hs : List Hnd} (hh : HOK P inv V.lv hs) {args args' : List AV} {AA : List Value} (ha : VRs V args AA)
    {σ' σ'' σ3 : Hp} {l : List Nat} {f : Nat} {v v' : AV} {Λ' : List LF} (he : enter hs.length st.σ args = some (args', σ', l)) (hc : call f args' σ' hs st.Λ = some (v, σ'', Λ')) (hl : leave hs.length st.σ l v σ'' = some (v', σ3)) :
    ∃ V3 O3 W' R, SR E base inv V3 { st with σ := σ3, Λ := Λ' } A DS M O3 W' ∧ Prg V st.σ O W V3 σ3 O3 W' ∧ VR V3 v' R ∧ Goes P f AA.toArray W R W' := by
  obtain ⟨Vc, hE, hargs⟩ := enter_spec h.hr ha he
  have hci := h.call hcx (l := l) hE.maps
  have hlend : ∀ b, Own V (lend st.σ l) b → Own V st.σ b := fun b ⟨id, s, hlv, hm⟩ => ⟨id, s, (lend_live hlv).2, hm⟩
  have hvc : ∀ b, Own Vc σ' b → Own V st.σ b := fun b hb => by obtain ⟨i, s, _, g1, g2⟩ := hE.own b hb; exact ⟨i, s, g1, g2⟩
  have hmlt : ∀ r ∈ M, r < W.heap.size := fun r hr => (Array.getElem?_eq_some_iff.1 (h.mks r hr).1).1
  have hdis : ∀ b, Own Vc σ' b → ¬ (O b ∨ Own V (lend st.σ l) b ∨ b ∈ M) := by
    intro b hb ho
    obtain ⟨i, s, hi, g1, g2⟩ := hE.own b hb
    rcases ho with ho | ⟨i', s', hl', hm'⟩ | ho
    · exact h.dis b (hvc b hb) ho
    · have := h.hr.inj _ _ _ _ _ g1 (lend_live hl').2 g2 hm'
      subst this
      exact (lend_live hl').1 hi
    · exact (Own.kind h.hr (hvc b hb)).2 (h.mks b ho).1
  obtain ⟨V2, O2, W', R, hP, H2, hci2, hd2, hv2, hg⟩ := hcall _ _ _ _ _ _ _ _ hc base (callInv E base inv V st l A DS M) Vc AA _ W (callInv_ok hcx l) (by rw [hE.lv]; exact hh.call hcx l) hE.hr h.bs hargs (by rw [hE.K]; exact hci) hdis
  obtain ⟨O3, hO3, hS3⟩ := hci2
  have hKle : ∀ b o x, V.K b o = some x → V2.K b o = some x := fun b o x hx => hP.le.K _ _ _ (by rw [hE.K]; exact hx)
  have hmVc : ∀ id b s, Vc.m id = some (b, s) → ∃ i, V.m i = some (b, s) := by
    intro id b s hm
    rw [hE.m] at hm
    obtain ⟨i, _, h2⟩ := Option.bind_eq_some_iff.1 hm
    exact ⟨i, h2⟩
  have hret : Ret E base { V with K := V2.K } st.σ l V2 σ'' hs.length W' := by
    refine ⟨hS3.hr, H2, rfl, fun j i x hj hx => hP.le.m _ _ (by rw [hE.m, hj]; exact hx), hE.maps, fun i x _ hx => by rw [hP.lv, hE.lv] at hx; exact hx, fun i b s hm id s' hid => ?_, fun b hb ho => ?_⟩
    · show V2.N b = V.N b
      rcases hP.mb _ _ _ hm with ⟨id', s'', h'⟩ | ⟨h', _, _⟩
      · rw [hP.le.N _ _ _ h', hE.N]
      · have := (h.hr.fresh _ _ hid).2; simp only at this; omega
    · exact hd2 b hb ((hO3 b).2 (.inr (.inl ho)))
  obtain ⟨V3, hB, hv3⟩ := leave_spec hret hv2 hl
  have hle1 : V.le { V with K := V2.K } := ⟨fun _ _ h => h, fun _ _ h => h, hKle, fun _ _ _ _ => rfl⟩
  have hle : V.le V3 := hle1.trans hB.le
  have hmk : ∀ r ∈ M, W'.heap[r]? = W.heap[r]? := fun r hr => ((hS3.mks r hr).1).trans ((h.mks r hr).1).symm
  refine ⟨V3, O3, W', R, ⟨hB.hr, hS3.bs, fun t a ht => (h.tm t a ht).mono hle, h.sz, h.ds.mono hle, hS3.mks, by show inv Λ' V3.K O3 W'; rw [hB.K]; exact hS3.cx, fun b hb ho => ?_⟩,
    ⟨hle, hB.lv, ⟨hP.fr.os, hP.fr.tape, hP.fr.output, hP.fr.size, fun b hb hno => ?_⟩, fun b hb => ?_, fun b hb => ?_, fun id b s hm => ?_, fun b o x hx => ?_, hB.nm, hB.nn⟩, hv3, hg⟩
  · rcases hB.own b hb with h' | h'
    · exact hd2 b h' ((hO3 b).2 (.inl ho))
    · exact hS3.dis b h' ho
  · by_cases hm : b ∈ M
    · exact hmk b hm
    · refine hP.fr.block b hb (fun ho => hno ?_)
      rcases ho with h' | h' | h' | h'
      · exact .inl (hvc b h')
      · exact .inr h'
      · exact .inl (hlend b h')
      · exact absurd h' hm
  · rcases hB.own b hb with h' | h'
    · exact (hP.own b h').imp (hvc b) (fun x => x)
    · exact .inl (hlend b h')
  · rcases hP.out b ((hO3 b).2 (.inl hb)) with (h' | h' | h') | h'
    · exact .inl h'
    · exact absurd hb (hS3.dis b h')
    · exact absurd hb (hS3.mks b h').2
    · exact .inr h'
  · rcases hB.mb id b s hm with h' | ⟨i, s', h'⟩
    · exact .inl h'
    · rcases hP.mb _ _ _ h' with ⟨id', s'', g⟩ | g
      · obtain ⟨i', g'⟩ := hmVc _ _ _ g
        exact .inl ⟨i', s'', g'⟩
      · exact .inr ⟨g.1, g.2.1, fun ho => g.2.2 ((hO3 b).2 (.inl ho))⟩
  · rw [hB.K] at hx
    rcases hP.K b o x hx with h' | (h' | h' | h' | h') | h'
    · rw [hE.K] at h'; exact .inl h'
    · exact .inr (.inl (.inl (hvc b h')))
    · exact .inr (.inl (.inr h'))
    · exact .inr (.inl (.inl (hlend b h')))
    · exact (cell_mark (hS3.mks b h').1 (H2.cell _ _ _ hx)).elim
    · exact .inr (.inr h')

theorem doCall_spec (hcx : CxOK inv) {call : CallF} (hcall : CallOK P E call) (h : SR E base inv V st A DS M O W) {hs : List Hnd} (hh : HOK P inv V.lv hs) {args : List AV} {AA : List Value} (ha : VRs V args AA)
    {σ3 : Hp} {f : Nat} {v' : AV} {Λ' : List LF} (hd : doCall E call hs f args st.σ st.Λ = some (v', σ3, Λ')) :
    ∃ V3 O3 W' R, SR E base inv V3 { st with σ := σ3, Λ := Λ' } A DS M O3 W' ∧ Prg V st.σ O W V3 σ3 O3 W' ∧ VR V3 v' R ∧ Goes P f AA.toArray W R W' := by
  have key : ∀ (V1 : View) (σ1 : Hp) (args1 : List AV), Fz E base V st.σ W V1 σ1 → VRs V1 args1 AA →
      (match enter hs.length σ1 args1 with
      | none => none
      | some (args', σ', l) => match call f args' σ' hs st.Λ with
        | none => none
        | some (v, σ'', Λ) => match leave hs.length σ1 l v σ'' with
          | none => none
          | some (v', σ3) => some (v', σ3, Λ)) = some (v', σ3, Λ') →
      ∃ V3 O3 W' R, SR E base inv V3 { st with σ := σ3, Λ := Λ' } A DS M O3 W' ∧ Prg V st.σ O W V3 σ3 O3 W' ∧ VR V3 v' R ∧ Goes P f AA.toArray W R W' := by
    intro V1 σ1 args1 hf ha1 hm
    split at hm
    · cases hm
    · rename_i args' σ' l he
      split at hm
      · cases hm
      · rename_i v σ'' Λ1 hc
        split at hm
        · cases hm
        · rename_i v1 σ4 hl
          simp only [Option.some.injEq, Prod.mk.injEq] at hm; obtain ⟨rfl, rfl, rfl⟩ := hm
          have h1 := h.fz hcx hf
          obtain ⟨V3, O3, W', R, g1, g2, g3, g4⟩ := call_spec hcx hcall h1 (by rw [hf.lv]; exact hh) ha1 he hc hl
          exact ⟨V3, O3, W', R, g1, (Prg.of_fz hf O).trans g2, g3, g4⟩
  unfold doCall at hd
  cases hb : E.byref f with
  | true => rw [hb] at hd; exact key V st.σ args (.refl h.hr) ha hd
  | false =>
    rw [hb] at hd
    obtain ⟨V1, h1, h2⟩ := frzArgs_spec args h.hr ha
    exact key V1 _ _ h1 h2 hd
end
end Go.Eng

/-
  THE ENGINE, 24: the operations of a region, one after another.
-/
namespace Go.Eng
open Go

/-- What the machine's frame is, besides what the engine knows. -/
structure BOK (fn : Nat) (rnd : Bool) (b : Frame) (cs : List Frame) : Prop where
  fn : b.fn = fn
  rnd : b.roundOf.isSome = rnd
  kind : b.kind = .normal ∨ (b.kind = .deferred ∧ ∃ c rest, cs = c :: rest ∧ c.mode = .returning)

section
variable {P : Program} {E : Env} {base : Nat} {inv : Inv} {V V' : View} {st : St} {A : Array Value} {DS : List Deferred} {M : List Nat} {O : OO} {W W' : World}

/-- The loops around go on; the frame's own is as it was. -/
theorem SR.grow (hcx : CxOK inv) (h : SR E base inv V st A DS M O W) {K' : KK} {O' : OO} {Λ' : List LF} (h1 : inv Λ' K' O' W') (h2 : Grow V.K O W K' O' W') :
    SR E base inv { V with K := K' } { st with Λ := Λ' } A DS M O' W' ∧ Prg V st.σ O W { V with K := K' } st.σ O' W' := by
  have hbd := hcx.bound _ _ _ _ h.cx
  have H := h.hr
  have hmlt : ∀ r ∈ M, r < W.heap.size := fun r hr => (Array.getElem?_eq_some_iff.1 (h.mks r hr).1).1
  have hle : V.le { V with K := K' } := ⟨fun _ _ h => h, fun _ _ h => h, h2.le, fun _ _ _ _ => rfl⟩
  refine ⟨⟨⟨h2.cell, fun g gl hg => ?_, fun id o hid hne => ?_, H.inj, fun id x hx => ⟨(H.fresh id x hx).1, Nat.lt_of_lt_of_le (H.fresh id x hx).2 h2.fr.size⟩, H.all⟩, Nat.le_trans h.bs h2.fr.size, fun t a ht => (h.tm t a ht).mono hle, h.sz, h.ds.mono hle, fun r hr => ⟨?_, fun ho => ?_⟩, h1, fun b hb ho => ?_⟩,
    ⟨hle, rfl, h2.fr.weaken (fun _ _ h => .inr h), fun b hb => .inl hb, h2.out, fun id b s hm => .inl ⟨id, s, hm⟩, fun b o v hv => ?_, fun _ _ h => .inl h, Nat.le_refl _⟩⟩
  · obtain ⟨f, hf⟩ := H.glob g gl hg
    exact ⟨f, fun i hi => ⟨h2.le _ _ _ (hf i hi).1, (hf i hi).2.mono (View.bare_mono h2.le)⟩⟩
  · obtain ⟨blk, s, g1, g2, g3, g4⟩ := H.obj id o hid hne
    have hown : Own V st.σ blk := ⟨id, s, ⟨o, hid, hne⟩, g1⟩
    refine ⟨blk, s, g1, g2, Nat.lt_of_lt_of_le g3 h2.fr.size, g4.mono hle rfl (fun i v hk => ?_) (h2.fr.block blk g3 (h.dis blk hown))⟩
    rcases h2.K _ _ _ hk with h' | h' | h'
    · exact h'
    · exact absurd h' (h.dis blk hown)
    · exact absurd g3 (by omega)
  · rw [h2.fr.block r (hmlt r hr) (h.mks r hr).2]; exact (h.mks r hr).1
  · rcases h2.out r ho with h' | h'
    · exact (h.mks r hr).2 h'
    · have := hmlt r hr; omega
  · rcases h2.out b ho with h' | h'
    · exact h.dis b hb h'
    · have := (Own.kind H hb).1; omega
  · rcases h2.K b o v hv with h' | h' | h'
    · exact .inl h'
    · exact .inr (.inl (.inr h'))
    · exact .inr (.inr h')

theorem doYield_spec (hcx : CxOK inv) (h : SR E base inv V st A DS M O W) {hs : List Hnd} (hh : HOK P inv V.lv hs) {args : List AV} {AA : List Value} (ha : VRs V args AA) {lvl lp : Nat} (hlv : V.lv lvl = some lp)
    {σ3 : Hp} {v' : AV} {Λ' : List LF} (hd : doYield hs lvl args st.σ st.Λ = some (v', σ3, Λ')) :
    ∃ V3 O3 W' b, SR E base inv V3 { st with σ := σ3, Λ := Λ' } A DS M O3 W' ∧ Prg V st.σ O W V3 σ3 O3 W' ∧ v' = .bool b ∧ GoesY P lp AA.toArray W b W' := by
  obtain ⟨V1, h1, h2⟩ := frzArgs_spec args h.hr ha
  unfold doYield at hd
  split at hd
  rename_i args1 σ1 hf
  rw [hf] at h1 h2
  simp only at h1 h2
  split at hd
  · rename_i args2 hren
    split at hd
    · rename_i hnd hget
      split at hd
      · rename_i b Λ1 hb
        simp only [Option.some.injEq, Prod.mk.injEq] at hd; obtain ⟨rfl, rfl, rfl⟩ := hd
        have hS := h.fz hcx h1
        have hargs : VRs (kview V1.K) args2 AA := h2.ren (y := 0) (ids_nil_ren (fun l x hl _ => absurd hl (Nat.not_lt_zero l)) (fun _ _ _ h => h)) hren
        obtain ⟨K', O', W', g1, g2, g3⟩ := hh.2 lvl hnd lp hget hlv _ _ _ _ _ _ _ _ hS.cx hS.hr.cell hargs hb
        obtain ⟨k1, k2⟩ := hS.grow hcx g1 g2
        exact ⟨_, O', W', b, k1, (Prg.of_fz h1 O).trans k2, rfl, g3⟩
      · cases hd
    · cases hd
  · cases hd

theorem op_defer {τ : Tmps} {σ : Hp} {c : Call} {r : Res} (h : op E τ σ (.defer c) = some r) : ∃ f args, r = .dfr f args := by
  simp only [op] at h
  split at h
  · simp only [Option.some.injEq] at h; exact ⟨_, _, h.symm⟩
  · cases h

theorem oneOp_spec (hE : EnvOK P E) (hcx : CxOK inv) {call : CallF} (hcall : CallOK P E call) (h : SR E base inv V st A DS M O W) {hs : List Hnd} (hh : HOK P inv V.lv hs) {ops : Array Oper} {i : Nat} {o : Oper} (ho : ops[i]? = some o)
    {st' : St} (hd : oneOp E call hs ops o st = some st') :
    ∃ V' A' DS' O' W', SR E base inv V' st' A' DS' M O' W' ∧ Prg V st.σ O W V' st'.σ O' W' ∧ st'.rnd = st.rnd ∧
      ∀ fn b cs k rest, BOK fn st.rnd b cs → Steps P (lone (mkF b A DS (.inRegion ops (i :: rest) :: k)) cs W) (lone (mkF b A' DS' (.inRegion ops rest :: k)) cs W') := by
  unfold oneOp at hd
  split at hd
  · cases hd
  · rename_i hw
    obtain ⟨g1, g2, g3⟩ := h.put (undef_VR V) hd
    exact ⟨V, _, DS, O, W, g1, by rw [g2]; exact .refl _ _ _ _, g3, fun fn b cs k rest hb => .one (st_unwanted ho (wanted_spec h hw))⟩
  · rename_i hw
    have hw' := wanted_spec h hw
    split at hd
    · cases hd
    · rename_i v σ hop
      have hnd : ∀ c, o.op ≠ .defer c := by intro c e; rw [e] at hop; obtain ⟨_, _, h'⟩ := op_defer hop; cases h'
      have key : ∀ b : Frame, OpOK P E base V st.σ W ((execOp (mkF b A DS []).eval o).run P W) (.val v σ) := fun b => op_sound hE h.hr h.bs (h.evR b) o hop
      obtain ⟨V1, W1, v1, e1, s1, r1⟩ := key default
      have hS := h.stp hcx s1
      obtain ⟨g1, g2, g3⟩ := hS.put r1 hd
      refine ⟨V1, _, DS, O, W1, g1, by rw [g2]; exact .of_stp s1 (hcx.bound _ _ _ _ h.cx), g3, fun fn b cs k rest hb => .one (st_value ho hw' (.inr hnd) ?_)⟩
      have : (mkF b A DS []).eval = (mkF default A DS []).eval := by funext x; rw [mkF_eval, mkF_eval]
      rw [this]; exact e1
    · rename_i σ hop
      have hnd : ∀ c, o.op ≠ .defer c := by intro c e; rw [e] at hop; obtain ⟨_, _, h'⟩ := op_defer hop; cases h'
      have key : OpOK P E base V st.σ W ((execOp (mkF default A DS []).eval o).run P W) (.skip σ) := op_sound hE h.hr h.bs (h.evR default) o hop
      obtain ⟨V1, W1, e1, s1⟩ := key
      have hS := h.stp hcx s1
      obtain ⟨g1, g2, g3⟩ := hS.put (undef_VR V1) hd
      refine ⟨V1, _, DS, O, W1, g1, by rw [g2]; exact .of_stp s1 (hcx.bound _ _ _ _ h.cx), g3, fun fn b cs k rest hb => .one (st_nothing ho hw' (.inr hnd) ?_)⟩
      have : (mkF b A DS []).eval = (mkF default A DS []).eval := by funext x; rw [mkF_eval, mkF_eval]
      rw [this]; exact e1
    · rename_i f args hop
      have hnd : ∀ c, o.op ≠ .defer c := by intro c e; rw [e] at hop; obtain ⟨_, _, h'⟩ := op_defer hop; cases h'
      have key : OpOK P E base V st.σ W ((execOp (mkF default A DS []).eval o).run P W) (.call f args) := op_sound hE h.hr h.bs (h.evR default) o hop
      obtain ⟨AA, e1, r1⟩ := key
      split at hd
      · rename_i v σ Λ hdc
        obtain ⟨V1, O1, W1, R, s1, p1, vr, hg⟩ := doCall_spec hcx hcall h hh r1 hdc
        obtain ⟨g1, g2, g3⟩ := s1.put vr hd
        refine ⟨V1, _, DS, O1, W1, g1, by rw [g2]; exact p1, g3, fun fn b cs k rest hb => ?_⟩
        have hev : (mkF b A DS []).eval = (mkF default A DS []).eval := by funext x; rw [mkF_eval, mkF_eval]
        cases hg with
        | value hv => exact .one (st_value ho hw' (.inr hnd) (by rw [hev, e1]; exact hv))
        | enter Wm hv hst =>
          refine .head (st_enter ho hw' (.inr hnd) (by rw [hev, e1]; exact hv)) ?_
          have := hst .normal (mkF b A DS (.inRegion ops (i :: rest) :: k)) cs (.inl rfl)
          rw [show backTo .normal R (mkF b A DS (.inRegion ops (i :: rest) :: k)) = mkF b (putR A o.dst R) DS (.inRegion ops rest :: k) from mkF_finish ho R] at this
          exact this
      · cases hd
    · rename_i l args hop
      have hnd : ∀ c, o.op ≠ .defer c := by intro c e; rw [e] at hop; obtain ⟨_, _, h'⟩ := op_defer hop; cases h'
      have key : OpOK P E base V st.σ W ((execOp (mkF default A DS []).eval o).run P W) (.yld l args) := op_sound hE h.hr h.bs (h.evR default) o hop
      obtain ⟨lp, AA, hlv, e1, r1⟩ := key
      split at hd
      · rename_i v σ Λ hdy
        obtain ⟨V1, O1, W1, bb, s1, p1, rfl, hg⟩ := doYield_spec hcx h hh r1 hlv hdy
        obtain ⟨g1, g2, g3⟩ := s1.put (.bool bb) hd
        refine ⟨V1, _, DS, O1, W1, g1, by rw [g2]; exact p1, g3, fun fn b cs k rest hb => ?_⟩
        have hev : (mkF b A DS []).eval = (mkF default A DS []).eval := by funext x; rw [mkF_eval, mkF_eval]
        obtain ⟨Wm, f, tmps, asg, body, hv, hst⟩ := hg
        refine .head (st_round ho hw' (.inr hnd) (by rw [hev, e1]; exact hv)) ?_
        have := hst (mkF b A DS (.inRegion ops (i :: rest) :: k)) cs
        rw [mkF_finish ho] at this
        exact this
      · cases hd
    · rename_i f args hop
      have key : OpOK P E base V st.σ W ((execOp (mkF default A DS []).eval o).run P W) (.dfr f args) := op_sound hE h.hr h.bs (h.evR default) o hop
      obtain ⟨caps, AA, e1, r1⟩ := key
      split at hd
      · cases hd
      · rename_i hr
        have hS : SR E base inv V { st with ds := (f, args) :: st.ds } A ({ target := .fn (.func f) caps.toArray, args := AA.toArray } :: DS) M O W := ⟨h.hr, h.bs, h.tm, h.sz, .cons M f args caps AA st.ds DS r1 h.ds, h.mks, h.cx, h.dis⟩
        obtain ⟨g1, g2, g3⟩ := hS.put (undef_VR V) hd
        refine ⟨V, _, _, O, W, g1, by rw [g2]; exact .refl _ _ _ _, g3, fun fn b cs k rest hb => ?_⟩
        have hev : (mkF b A DS []).eval = (mkF default A DS []).eval := by funext x; rw [mkF_eval, mkF_eval]
        have hro : b.roundOf = none := by
          have := hb.rnd
          rw [hr] at this
          cases e : b.roundOf with
          | none => rfl
          | some x => rw [e] at this; cases this
        exact .one (st_defer ho hw' hro (by rw [hev]; exact e1))
    · rename_i hop
      have key : OpOK P E base V st.σ W ((execOp (mkF default A DS []).eval o).run P W) .recov := op_sound hE h.hr h.bs (h.evR default) o hop
      split at hd
      · cases hd
      · rename_i hr
        obtain ⟨g1, g2, g3⟩ := h.put (v := .nilIface) .nili hd
        refine ⟨V, _, DS, O, W, g1, by rw [g2]; exact .refl _ _ _ _, g3, fun fn b cs k rest hb => ?_⟩
        have hev : (mkF b A DS []).eval = (mkF default A DS []).eval := by funext x; rw [mkF_eval, mkF_eval]
        have hro : b.roundOf = none := by
          have := hb.rnd
          rw [hr] at this
          cases e : b.roundOf with
          | none => rfl
          | some x => rw [e] at this; cases this
        exact .one (st_recover ho hw' hro hb.kind (by rw [hev]; exact key))

/-- All of them, in the order of the code. -/
theorem runOps_spec (hE : EnvOK P E) (hcx : CxOK inv) {call : CallF} (hcall : CallOK P E call) {hs : List Hnd} {ops : Array Oper} : ∀ (os : List Oper) (n : Nat) {V : View} {st st' : St} {A : Array Value} {DS : List Deferred} {O : OO} {W : World},
    ops.toList.drop n = os → SR E base inv V st A DS M O W → HOK P inv V.lv hs → runOps E call hs ops os st = some st' →
    ∃ V' A' DS' O' W', SR E base inv V' st' A' DS' M O' W' ∧ Prg V st.σ O W V' st'.σ O' W' ∧ st'.rnd = st.rnd ∧
      ∀ fn b cs k, BOK fn st.rnd b cs → Steps P (lone (mkF b A DS (.inRegion ops (List.range' n os.length) :: k)) cs W) (lone (mkF b A' DS' k) cs W')
  | [], n, V, st, st', A, DS, O, W, hos, h, hh, hd => by
    simp only [runOps, Option.some.injEq] at hd; subst hd
    exact ⟨V, A, DS, O, W, h, .refl _ _ _ _, rfl, fun fn b cs k hb => .one st_region_end⟩
  | o :: os, n, V, st, st', A, DS, O, W, hos, h, hh, hd => by
    simp only [runOps] at hd
    split at hd
    · rename_i st1 h1
      have ho : ops[n]? = some o := by
        have : (ops.toList.drop n)[0]? = some o := by rw [hos]; rfl
        rw [List.getElem?_drop] at this
        simpa using this
      have hos' : ops.toList.drop (n + 1) = os := by
        have : (ops.toList.drop n).drop 1 = os := by rw [hos]; rfl
        rw [List.drop_drop] at this; exact this
      obtain ⟨V1, A1, DS1, O1, W1, s1, p1, r1, g1⟩ := oneOp_spec hE hcx hcall h hh ho h1
      obtain ⟨V2, A2, DS2, O2, W2, s2, p2, r2, g2⟩ := runOps_spec hE hcx hcall os (n + 1) hos' s1 (by rw [p1.lv]; exact hh) hd
      exact ⟨V2, A2, DS2, O2, W2, s2, p1.trans p2, r2.trans r1, fun fn b cs k hb => (g1 fn b cs k _ hb).trans (g2 fn b cs k (by rw [r1]; exact hb))⟩
    · cases hd
end
end Go.Eng

/-
  THE ENGINE, 25: codes.
-/
namespace Go.Eng
open Go

attribute [local irreducible] upTo

section
variable {E : Env} {call : CallF} {hs : List Hnd} {st : St}
theorem exec_skip : exec E call .skip hs st = some (.normal, st) := rfl
theorem exec_label {l : Nat} : exec E call (.label l) hs st = some (.normal, st) := rfl
theorem exec_exit {i : Nat} : exec E call (.exit i) hs st = some (.exit i, st) := rfl
theorem exec_ret : exec E call .ret hs st = some (.ret, st) := rfl
theorem exec_goto {i : Nat} : exec E call (.goto i) hs st = none := rfl
theorem exec_refuse {s : String} : exec E call (.refuse s) hs st = none := rfl
theorem exec_seq {a b : Code} : exec E call (.seq a b) hs st = match exec E call a hs st with
    | some (.normal, st) => exec E call b hs st
    | r => r := rfl
theorem exec_cond {c : Operand} {a b : Code} : exec E call (.cond c a b) hs st = match ev st.τ c with
    | some (.bool true) => exec E call a hs st
    | some (.bool false) => exec E call b hs st
    | _ => none := rfl
theorem exec_block {i : Nat} {b : Code} : exec E call (.block i b) hs st = match exec E call b hs st with
    | some (.exit j, st) => some ((match Nat.beq j i with | true => .normal | false => .exit j), st)
    | r => r := rfl
theorem exec_loop {b : Code} : exec E call (.loop b) hs st = match upTo (exec E call b hs) 20 st with
    | some (some e, st) => some (e, st)
    | _ => none := rfl
theorem exec_scope {b : Code} : exec E call (.scope b) hs st = exec E call b hs st := rfl
theorem exec_region {i : Nat} {ops : Array Oper} : exec E call (.region i ops false) hs st = match runOps E call hs ops ops.toList st with
    | some st => some (.normal, st)
    | none => none := rfl
theorem exec_regionD {i : Nat} {ops : Array Oper} : exec E call (.region i ops true) hs st = match runDraw E call hs ops st with
    | some st => some (.normal, st)
    | none => none := rfl
end

/-- How a code has ended. -/
def Arr (P : Program) (m : Machine) (b : Frame) (A : Array Value) (DS : List Deferred) (k : List Item) (cs : List Frame) (W : World) : Ex → Prop
  | .normal => Steps P m (lone (mkF b A DS k) cs W)
  | .exit i => ∃ k', exitTo i k' = exitTo i k ∧ Steps P m (lone (mkF b A DS (.code (.exit i) :: k')) cs W)
  | .ret => ∃ k', Steps P m (lone (mkF b A DS (.code .ret :: k')) cs W)

theorem Arr.of_steps {P : Program} {m m1 : Machine} {b : Frame} {A : Array Value} {DS : List Deferred} {k : List Item} {cs : List Frame} {W : World} {e : Ex} (h : Steps P m m1) (k' : Arr P m1 b A DS k cs W e) : Arr P m b A DS k cs W e := by
  cases e with
  | normal => exact h.trans k'
  | exit i => obtain ⟨x, h1, h2⟩ := k'; exact ⟨x, h1, h.trans h2⟩
  | ret => obtain ⟨x, h2⟩ := k'; exact ⟨x, h.trans h2⟩

/-- Where something ends that is not normal, what stands behind it does not matter. -/
theorem Arr.behind {P : Program} {m : Machine} {b : Frame} {A : Array Value} {DS : List Deferred} {k k' : List Item} {cs : List Frame} {W : World} {e : Ex} (hne : e ≠ .normal) (hk : ∀ i, e = .exit i → exitTo i k = exitTo i k') (h : Arr P m b A DS k cs W e) : Arr P m b A DS k' cs W e := by
  cases e with
  | normal => exact absurd rfl hne
  | exit i => obtain ⟨x, h1, h2⟩ := h; exact ⟨x, h1.trans (hk i rfl), h2⟩
  | ret => exact h

/-- What is left, with the world as it is. -/
structure Left (E : Env) (base : Nat) (inv : Inv) (V : View) (st : St) (M : List Nat) (O : OO) (W : World) (V' : View) (st' : St) (A' : Array Value) (DS' : List Deferred) (M' : List Nat) (O' : OO) (W' : World) : Prop where
  sr : SR E base inv V' st' A' DS' M' O' W'
  pr : Prg V st.σ O W V' st'.σ O' W'
  rnd : st'.rnd = st.rnd
  mg : ∀ r ∈ M', r ∈ M ∨ W.heap.size ≤ r

theorem Left.refl {E : Env} {base : Nat} {inv : Inv} {V : View} {st : St} {A : Array Value} {DS : List Deferred} {M : List Nat} {O : OO} {W : World} (h : SR E base inv V st A DS M O W) : Left E base inv V st M O W V st A DS M O W :=
  ⟨h, .refl _ _ _ _, rfl, fun _ h => .inl h⟩
theorem Left.trans {E : Env} {base : Nat} {inv : Inv} {V V' V'' : View} {st st' st'' : St} {A' A'' : Array Value} {DS' DS'' : List Deferred} {M M' M'' : List Nat} {O O' O'' : OO} {W W' W'' : World}
    (h : Left E base inv V st M O W V' st' A' DS' M' O' W') (k : Left E base inv V' st' M' O' W' V'' st'' A'' DS'' M'' O'' W'') : Left E base inv V st M O W V'' st'' A'' DS'' M'' O'' W'' :=
  ⟨k.sr, h.pr.trans k.pr, k.rnd.trans h.rnd, fun r hr => by
    rcases k.mg r hr with h' | h'
    · exact h.mg r h'
    · have := h.pr.fr.size; exact .inr (by omega)⟩

/-- The loop whose round is being run is there. -/
def RLOK (inv : Inv) (rl : Option Nat) : Prop := ∀ l, rl = some l → ∀ Λ K O W, inv Λ K O W → ∃ r, W.heap[l]? = some (.loop r)

def CodeOK (P : Program) (E : Env) (call : CallF) (base : Nat) (hs : List Hnd) (c : Code) : Prop :=
  ∀ inv, CxOK inv → ∀ V st st' e A DS M O W fn rl, RLOK inv rl → exec E call c hs st = some (e, st') → SR E base inv V st A DS M O W → HOK P inv V.lv hs →
    ∃ V' A' DS' M' O' W', Left E base inv V st M O W V' st' A' DS' M' O' W' ∧ ∀ b cs k, BOK fn st.rnd b cs ∧ b.roundOf = rl → Arr P (lone (mkF b A DS (.code c :: k)) cs W) b A' DS' k cs W' e

section
variable {P : Program} {E : Env} {call : CallF} {base : Nat} {hs : List Hnd}

theorem CodeOK.skip : CodeOK P E call base hs .skip := by
  intro inv hcx V st st' e A DS M O W fn rl hrl h hS hh
  simp only [exec_skip, Option.some.injEq, Prod.mk.injEq] at h; obtain ⟨rfl, rfl⟩ := h
  exact ⟨V, A, DS, M, O, W, .refl hS, fun b cs k hb => .one st_skip⟩
theorem CodeOK.label {l : Nat} : CodeOK P E call base hs (.label l) := by
  intro inv hcx V st st' e A DS M O W fn rl hrl h hS hh
  simp only [exec_label, Option.some.injEq, Prod.mk.injEq] at h; obtain ⟨rfl, rfl⟩ := h
  exact ⟨V, A, DS, M, O, W, .refl hS, fun b cs k hb => .one st_label⟩
theorem CodeOK.exit {i : Nat} : CodeOK P E call base hs (.exit i) := by
  intro inv hcx V st st' e A DS M O W fn rl hrl h hS hh
  simp only [exec_exit, Option.some.injEq, Prod.mk.injEq] at h; obtain ⟨rfl, rfl⟩ := h
  exact ⟨V, A, DS, M, O, W, .refl hS, fun b cs k hb => ⟨k, rfl, .refl _ _⟩⟩
theorem CodeOK.ret : CodeOK P E call base hs .ret := by
  intro inv hcx V st st' e A DS M O W fn rl hrl h hS hh
  simp only [exec_ret, Option.some.injEq, Prod.mk.injEq] at h; obtain ⟨rfl, rfl⟩ := h
  exact ⟨V, A, DS, M, O, W, .refl hS, fun b cs k hb => ⟨k, .refl _ _⟩⟩
theorem CodeOK.goto {i : Nat} : CodeOK P E call base hs (.goto i) := by
  intro inv hcx V st st' e A DS M O W fn rl hrl h hS hh
  simp [exec_goto] at h
theorem CodeOK.refuse {s : String} : CodeOK P E call base hs (.refuse s) := by
  intro inv hcx V st st' e A DS M O W fn rl hrl h hS hh
  simp [exec_refuse] at h

theorem CodeOK.seq {x y : Code} (hx : CodeOK P E call base hs x) (hy : CodeOK P E call base hs y) : CodeOK P E call base hs (.seq x y) := by
  intro inv hcx V st st' e A DS M O W fn rl hrl h hS hh
  simp only [exec_seq] at h
  split at h
  · rename_i st1 h1
    obtain ⟨V1, A1, DS1, M1, O1, W1, L1, g1⟩ := hx inv hcx V st st1 _ A DS M O W fn rl hrl h1 hS hh
    obtain ⟨V2, A2, DS2, M2, O2, W2, L2, g2⟩ := hy inv hcx V1 st1 st' e A1 DS1 M1 O1 W1 fn rl hrl h L1.sr (by rw [L1.pr.lv]; exact hh)
    exact ⟨V2, A2, DS2, M2, O2, W2, L1.trans L2, fun b cs k hb => .of_steps (.head st_seq (g1 b cs (.code y :: k) hb)) (g2 b cs k ⟨by rw [L1.rnd]; exact hb.1, hb.2⟩)⟩
  · rename_i hne
    obtain ⟨V1, A1, DS1, M1, O1, W1, L1, g1⟩ := hx inv hcx V st st' e A DS M O W fn rl hrl h hS hh
    refine ⟨V1, A1, DS1, M1, O1, W1, L1, fun b cs k hb => .of_steps (.one st_seq) (Arr.behind (k := .code y :: k) (fun e' => ?_) (fun i _ => rfl) (g1 b cs (.code y :: k) hb))⟩
    subst e'; exact hne st' h

theorem CodeOK.scope {x : Code} (hx : CodeOK P E call base hs x) : CodeOK P E call base hs (.scope x) := by
  intro inv hcx V st st' e A DS M O W fn rl hrl h hS hh
  simp only [exec_scope] at h
  obtain ⟨V1, A1, DS1, M1, O1, W1, L1, g1⟩ := hx inv hcx V st st' e A DS M O W fn rl hrl h hS hh
  refine ⟨V1, A1, DS1, M1, O1, W1, L1, fun b cs k hb => .of_steps (.one st_scope) ?_⟩
  have := g1 b cs (.inScope x :: k) hb
  cases e with
  | normal => exact this.trans (.one st_inScope)
  | exit i => exact this.behind (by simp) (fun _ _ => rfl)
  | ret => exact this.behind (by simp) (fun _ _ => rfl)

theorem CodeOK.block {i : Nat} {x : Code} (hx : CodeOK P E call base hs x) : CodeOK P E call base hs (.block i x) := by
  intro inv hcx V st st' e A DS M O W fn rl hrl h hS hh
  simp only [exec_block] at h
  split at h
  · rename_i j st1 h1
    simp only [Option.some.injEq, Prod.mk.injEq] at h; obtain ⟨h, rfl⟩ := h
    obtain ⟨V1, A1, DS1, M1, O1, W1, L1, g1⟩ := hx inv hcx V st st1 _ A DS M O W fn rl hrl h1 hS hh
    refine ⟨V1, A1, DS1, M1, O1, W1, L1, fun b cs k hb => .of_steps (.one st_block) ?_⟩
    obtain ⟨k', h2, h3⟩ := g1 b cs (.inBlock i :: k) hb
    have hex : exitTo j (.inBlock i :: k) = if (i == j) = true then some k else exitTo j k := rfl
    rw [hex] at h2
    cases hij : Nat.beq j i with
    | true =>
      rw [hij] at h; simp only at h; subst h
      have : j = i := Nat.eq_of_beq_eq_true hij
      subst this
      rw [if_pos (by simp)] at h2
      exact h3.trans (.one (st_exit h2))
    | false =>
      rw [hij] at h; simp only at h; subst h
      have : j ≠ i := Nat.ne_of_beq_eq_false hij
      rw [if_neg (by simp; exact fun e => this e.symm)] at h2
      exact ⟨k', h2, h3⟩
  · rename_i hne
    obtain ⟨V1, A1, DS1, M1, O1, W1, L1, g1⟩ := hx inv hcx V st st' e A DS M O W fn rl hrl h hS hh
    refine ⟨V1, A1, DS1, M1, O1, W1, L1, fun b cs k hb => .of_steps (.one st_block) ?_⟩
    have := g1 b cs (.inBlock i :: k) hb
    cases e with
    | normal => exact this.trans (.one st_inBlock)
    | exit j => exact absurd h (hne j st')
    | ret => exact this.behind (by simp) (fun _ h => by cases h)

theorem CodeOK.cond {c : Operand} {x y : Code} (hx : CodeOK P E call base hs x) (hy : CodeOK P E call base hs y) : CodeOK P E call base hs (.cond c x y) := by
  intro inv hcx V st st' e A DS M O W fn rl hrl h hS hh
  simp only [exec_cond] at h
  split at h
  · rename_i hc
    obtain ⟨V1, A1, DS1, M1, O1, W1, L1, g1⟩ := hx inv hcx V st st' e A DS M O W fn rl hrl h hS hh
    exact ⟨V1, A1, DS1, M1, O1, W1, L1, fun b cs k hb => .of_steps (.one (st_cond (t := true) ((hS.evR b c _ hc).bool_inv))) (g1 b cs k hb)⟩
  · rename_i hc
    obtain ⟨V1, A1, DS1, M1, O1, W1, L1, g1⟩ := hy inv hcx V st st' e A DS M O W fn rl hrl h hS hh
    exact ⟨V1, A1, DS1, M1, O1, W1, L1, fun b cs k hb => .of_steps (.one (st_cond (t := false) ((hS.evR b c _ hc).bool_inv))) (g1 b cs k hb)⟩
  · cases h

/-- Rounds of a loop. -/
theorem upTo_spec {c : Code} (hc : CodeOK P E call base hs c) : ∀ n inv, CxOK inv → ∀ V st st' r A DS M O W fn rl, RLOK inv rl → upTo (exec E call c hs) n st = some (r, st') → SR E base inv V st A DS M O W → HOK P inv V.lv hs →
    ∃ V' A' DS' M' O' W', Left E base inv V st M O W V' st' A' DS' M' O' W' ∧ ∀ b cs k, BOK fn st.rnd b cs ∧ b.roundOf = rl → match r with
      | none => Steps P (lone (mkF b A DS (.code c :: .inLoop c :: k)) cs W) (lone (mkF b A' DS' (.inLoop c :: k)) cs W')
      | some e => e ≠ .normal ∧ Arr P (lone (mkF b A DS (.code c :: .inLoop c :: k)) cs W) b A' DS' k cs W' e
  | 0, inv, hcx, V, st, st', r, A, DS, M, O, W, fn, rl, hrl, h, hS, hh => by
    simp only [upTo] at h
    split at h
    · rename_i st1 h1
      simp only [Option.some.injEq, Prod.mk.injEq] at h; obtain ⟨rfl, rfl⟩ := h
      obtain ⟨V1, A1, DS1, M1, O1, W1, L1, g1⟩ := hc inv hcx V st st1 _ A DS M O W fn rl hrl h1 hS hh
      exact ⟨V1, A1, DS1, M1, O1, W1, L1, fun b cs k hb => g1 b cs _ hb⟩
    · rename_i e st1 hne h1
      simp only [Option.some.injEq, Prod.mk.injEq] at h; obtain ⟨rfl, rfl⟩ := h
      obtain ⟨V1, A1, DS1, M1, O1, W1, L1, g1⟩ := hc inv hcx V st st1 _ A DS M O W fn rl hrl h1 hS hh
      have hn : e ≠ .normal := by intro e'; subst e'; exact hne rfl
      exact ⟨V1, A1, DS1, M1, O1, W1, L1, fun b cs k hb => ⟨hn, Arr.behind (k := .inLoop c :: k) hn (fun _ _ => rfl) (g1 b cs (.inLoop c :: k) hb)⟩⟩
    · cases h
  | n + 1, inv, hcx, V, st, st', r, A, DS, M, O, W, fn, rl, hrl, h, hS, hh => by
    simp only [upTo] at h
    split at h
    · rename_i st1 h1
      obtain ⟨V1, A1, DS1, M1, O1, W1, L1, g1⟩ := upTo_spec hc n inv hcx V st st1 none A DS M O W fn rl hrl h1 hS hh
      obtain ⟨V2, A2, DS2, M2, O2, W2, L2, g2⟩ := upTo_spec hc n inv hcx V1 st1 st' r A1 DS1 M1 O1 W1 fn rl hrl h L1.sr (by rw [L1.pr.lv]; exact hh)
      refine ⟨V2, A2, DS2, M2, O2, W2, L1.trans L2, fun b cs k hb => ?_⟩
      have s1 := (g1 b cs k hb).trans (.one st_inLoop)
      have s2 := g2 b cs k ⟨by rw [L1.rnd]; exact hb.1, hb.2⟩
      cases r with
      | none => exact s1.trans s2
      | some e => exact ⟨s2.1, .of_steps s1 s2.2⟩
    · exact upTo_spec hc n inv hcx V st st' r A DS M O W fn rl hrl h hS hh

theorem CodeOK.loop {x : Code} (hx : CodeOK P E call base hs x) : CodeOK P E call base hs (.loop x) := by
  intro inv hcx V st st' e A DS M O W fn rl hrl h hS hh
  simp only [exec_loop] at h
  split at h
  · rename_i e1 st1 h1
    simp only [Option.some.injEq, Prod.mk.injEq] at h; obtain ⟨rfl, rfl⟩ := h
    obtain ⟨V1, A1, DS1, M1, O1, W1, L1, g1⟩ := upTo_spec hx 20 inv hcx V st st1 _ A DS M O W fn rl hrl h1 hS hh
    exact ⟨V1, A1, DS1, M1, O1, W1, L1, fun b cs k hb => .of_steps (.one st_loop) (g1 b cs k hb).2⟩
  · cases h

theorem CodeOK.region (hE : EnvOK P E) (hcall : CallOK P E call) {i : Nat} {ops : Array Oper} : CodeOK P E call base hs (.region i ops false) := by
  intro inv hcx V st st' e A DS M O W fn rl hrl h hS hh
  simp only [exec_region] at h
  split at h
  · rename_i st1 h1
    simp only [Option.some.injEq, Prod.mk.injEq] at h; obtain ⟨rfl, rfl⟩ := h
    obtain ⟨V1, A1, DS1, O1, W1, s1, p1, r1, g1⟩ := runOps_spec hE hcx hcall ops.toList 0 (by simp) hS hh h1
    refine ⟨V1, A1, DS1, M, O1, W1, ⟨s1, p1, r1, fun _ h => .inl h⟩, fun b cs k hb => ?_⟩
    have := g1 fn b cs k hb.1
    rw [Array.length_toList, ← List.range_eq_range'] at this
    exact .head st_region this
  · cases h
end
end Go.Eng

/-
  THE ENGINE, 26: a frame that returns.
-/
namespace Go.Eng
open Go

/-- A frame that returns. -/
def retF (b : Frame) (A : Array Value) (DS : List Deferred) (todo : List Item) : Frame := { mkF b A DS todo with mode := .returning }

section
variable {P : Program} {b : Frame} {A : Array Value} {DS : List Deferred} {k : List Item} {cs : List Frame} {W W' : World}

theorem st_ret (h : b.roundOf = none) : step P (lone (mkF b A DS (.code .ret :: k)) cs W) = .next (lone (retF b A DS (.code .ret :: k)) cs W) :=
  step_lone_go (by simp [stepG, stepG.exec, mkF, retF, h])
theorem st_end (h : b.roundOf = none) : step P (lone (mkF b A DS []) cs W) = .next (lone (retF b A DS []) cs W) :=
  step_lone_go (by simp [stepG, stepG.exec, mkF, retF, h])

theorem un_done {fn : Func} {v : Value} (hf : P.funcs[b.fn]? = some fn) (hr : (results fn A).run P W = .ok v W) {c : Frame} (hk : b.kind = .normal ∨ (b.kind = .deferred ∧ c.mode = .returning)) :
    step P (lone (retF b A [] k) (c :: cs) W) = .next (lone (backTo b.kind v c) cs W) := by
  refine step_lone_go ?_
  rcases hk with h | ⟨h, hm⟩
  · simp [stepG, unwind, doReturn, retF, mkF, hf, Sem.runT_eq, hr, h, backTo]
  · simp [stepG, unwind, doReturn, retF, mkF, hf, Sem.runT_eq, hr, h, backTo, hm]

theorem un_value {f : Nat} {caps args : Array Value} {v : Value} (hi : (callFunc f (args ++ caps)).run P W = .ok (.value v) W') :
    step P (lone (retF b A ({ target := .fn (.func f) caps, args } :: DS) k) cs W) = .next (lone (retF b A DS k) cs W') := by
  refine step_lone_go ?_
  simp [stepG, unwind, callDeferred, retF, mkF, invoke, Sem.runT_eq, hi]

theorem un_enter {f : Nat} {caps args args' : Array Value} (hi : (callFunc f (args ++ caps)).run P W = .ok (.enter f args') W') :
    step P (lone (retF b A ({ target := .fn (.func f) caps, args } :: DS) k) cs W) = .next (lone (Frame.enter P f args' .deferred) (retF b A DS k :: cs) W') := by
  refine step_lone_go ?_
  simp [stepG, unwind, callDeferred, retF, mkF, invoke, Sem.runT_eq, hi]

theorem un_mark {r : Nat} (h : W.heap[r]? = some (.deferred (some []))) :
    step P (lone (retF b A ({ target := .collected r, args := #[] } :: DS) k) cs W) = .next (lone (retF b A DS k) cs { W with heap := W.heap.setIfInBounds r (.deferred none) }) := by
  refine step_lone_go ?_
  have hr : (Instr.takeDeferred r).run P W = .ok [] { W with heap := W.heap.setIfInBounds r (.deferred none) } := by
    simp [Instr.takeDeferred, getObj, setObj, Sem.run, h]
  simp [stepG, unwind, retF, mkF, Sem.runT_eq, hr]
end
end Go.Eng

/-
  THE ENGINE, 27: a function, from its call to its end.
-/
namespace Go.Eng
open Go

/-- What is said ahead of some functions. -/
def ExtOK (P : Program) (E : Env) : Prop :=
  ∀ f args v, E.ext f args = some v → ∀ V A W, VRs V args A → (∀ b o x, V.K b o = some x → W.cell? ⟨b, o, none⟩ = some x) →
    (∀ g l, E.glob g = some l → ∃ z : Nat → Value, ∀ i (h : i < l.length), V.K g i = some (z i) ∧ VR V.bare l[i] (z i)) →
    ∃ R W', VR V v R ∧ Fr (fun _ => False) W W' ∧ Goes P f A.toArray W R W'

def NameOK (E : Env) : Prop := ∀ f fn, E.fn f = some fn → fn.name ≠ "runtime.NumGoroutine"

/-- One result, or several. -/
def pack (L : List Value) : Value := if h : L.toArray.size = 1 then L.toArray[0] else .tuple L.toArray

def oneR (A : Array Value) (r : ResultVar) : Sem Value :=
  match r with
  | .tmp t => pure (A.getD t undef)
  | .cell a t => do loadVar t (← asAddr (A.getD a undef))

section
variable {P : Program} {E : Env} {base : Nat} {inv : Inv} {V V' : View} {st : St} {A : Array Value} {DS : List Deferred} {M : List Nat} {O : OO} {W W' : World}

theorem results_list (hE : EnvOK P E) (h : SR E base inv V st A DS M O W) : ∀ {rs : List ResultVar} {vs : List AV}, resultsA E st.τ st.σ rs = some vs →
    ∃ L, (rs.mapM (oneR A)).run P W = .ok L W ∧ VRs V vs L
  | [], vs, hr => by
    simp only [resultsA, Option.some.injEq] at hr; subst hr
    exact ⟨[], by simp, .nil V⟩
  | .tmp t :: rs, vs, hr => by
    simp only [resultsA] at hr
    split at hr
    · rename_i v vs' hv hvs
      simp only [Option.some.injEq] at hr; subst hr
      obtain ⟨L, h1, h2⟩ := results_list hE h hvs
      exact ⟨_ :: L, by simp [List.mapM_cons, Sem.run_bind, h1, oneR], .cons (h.tm t v hv) h2⟩
    · cases hr
  | .cell a t :: rs, vs, hr => by
    simp only [resultsA] at hr
    split at hr
    · rename_i p hp
      split at hr
      · rename_i v vs' hv hvs
        simp only [Option.some.injEq] at hr; subst hr
        obtain ⟨L, h1, h2⟩ := results_list hE h hvs
        obtain ⟨B, X, hB, hrun, hX⟩ := loadV_run hE h.hr (h.tm a p hp) hv
        exact ⟨X :: L, by simp [List.mapM_cons, Sem.run_bind, h1, oneR, hB, asAddr, hrun], .cons hX h2⟩
      · cases hr
    · cases hr

theorem results_run (hE : EnvOK P E) (h : SR E base inv V st A DS M O W) {fn : Func} {vs : List AV} (hr : resultsA E st.τ st.σ fn.results.toList = some vs) : ∃ L, (results fn A).run P W = .ok (pack L) W ∧ VRs V vs L := by
  obtain ⟨L, h1, h2⟩ := results_list hE h hr
  refine ⟨L, ?_, h2⟩
  have e : results fn A = (do
      let vs ← fn.results.mapM (oneR A)
      pure (if h : vs.size = 1 then vs[0] else .tuple vs)) := by
    unfold results
    congr 1
  rw [e, Array.mapM_eq_mapM_toList]
  simp only [Sem.run_bind, Sem.run_map, h1, Result.andThen_ok, Sem.run_pure, pack]

theorem Prg.weaken {σ σ' : Hp} {O' : OO} (h : Prg V σ O W V' σ' O' W') (Q : OO) (hQ : ∀ b, Q b → b < W.heap.size) : Prg V σ (fun b => O b ∨ Q b) W V' σ' (fun b => O' b ∨ Q b) W' :=
  ⟨h.le, h.lv, h.fr.weaken (fun b _ hb => hb.elim .inl (fun x => .inr (.inl x))), h.own, fun b hb => hb.elim (fun x => (h.out b x).imp .inl (fun y => y)) (fun x => .inl (.inr x)), fun id b s hm => (h.mb id b s hm).imp (fun x => x) (fun x => ⟨x.1, x.2.1, fun ho => ho.elim x.2.2 (fun y => by have := hQ b y; have := x.1; omega)⟩), fun b o v hv => (h.K b o v hv).imp (fun x => x) (fun x => x.imp (fun y => y.imp (fun z => z) .inl) (fun y => y)), h.nm, h.nn⟩

theorem SR.fewer (h : SR E base inv V st A DS M O W) {DS' : List Deferred} {M' : List Nat} {ds' : List (Nat × List AV)} (hds : DsR V M' ds' DS') (hM : ∀ r ∈ M', r ∈ M) : SR E base inv V { st with ds := ds' } A DS' M' O W :=
  ⟨h.hr, h.bs, h.tm, h.sz, hds, fun r hr => h.mks r (hM r hr), h.cx, h.dis⟩

/-- What has been put off is done; the frame then has nothing left to do but to return. -/
theorem unwind_spec (hcx : CxOK inv) {call : CallF} (hcall : CallOK P E call) {hs : List Hnd} {V0 : View} {M : List Nat} {ds : List (Nat × List AV)} {DS : List Deferred} (hds : DsR V0 M ds DS) :
    ∀ {V : View} {st : St} {O : OO} {W : World} {σ' : Hp} {Λ' : List LF}, V0.le V → SR E base inv V { st with ds := ds } A DS M O W → HOK P inv V.lv hs → runDefers E call hs ds st.σ st.Λ = some (σ', Λ') →
    ∃ V' O' W', SR E base inv V' { st with σ := σ', Λ := Λ', ds := [] } A [] [] O' W' ∧ Prg V st.σ (fun b => O b ∨ b ∈ M) W V' σ' (fun b => O' b ∨ b ∈ M) W' ∧ (∀ b, O' b → O b ∨ W.heap.size ≤ b) ∧
      ∀ b cs k, Steps P (lone (retF b A DS k) cs W) (lone (retF b A [] k) cs W') := by
  induction hds with
  | nil =>
    intro V st O W σ' Λ' hle h hh hr
    simp only [runDefers, Option.some.injEq, Prod.mk.injEq] at hr; obtain ⟨rfl, rfl⟩ := hr
    exact ⟨V, O, W, h, .refl _ _ _ _, fun _ h => .inl h, fun _ _ _ => .refl _ _⟩
  | cons M f args caps AA ds DS hargs t ih =>
    intro V st O W σ' Λ' hle h hh hr
    simp only [runDefers] at hr
    split at hr
    · rename_i v σ1 Λ1 hdc
      obtain ⟨V1, O1, W1, R, s1, p1, _, hg⟩ := doCall_spec hcx hcall h hh (hargs.mono hle) hdc
      have s2 := s1.fewer (t.mono (hle.trans p1.le)) (fun _ h => h)
      obtain ⟨V2, O2, W2, s3, p3, o3, g3⟩ := ih (st := { st with σ := σ1, Λ := Λ1 }) (hle.trans p1.le) s2 (by rw [p1.lv]; exact hh) hr
      refine ⟨V2, O2, W2, s3, (p1.weaken (fun b => b ∈ M) (fun r hr => (Array.getElem?_eq_some_iff.1 (h.mks r hr).1).1)).trans p3, fun b hb => (o3 b hb).elim (fun x => p1.out b x) (fun x => .inr (by have := p1.fr.size; omega)), fun b cs k => ?_⟩
      have harr : AA.toArray ++ caps.toArray = (AA ++ caps).toArray := by simp
      cases hg with
      | value hv => exact .head (un_value (by rw [harr]; exact hv)) (g3 b cs k)
      | enter Wm hv hst =>
        refine .head (un_enter (by rw [harr]; exact hv)) ?_
        have := hst .deferred (retF b A DS k) cs (.inr ⟨rfl, rfl⟩)
        exact this.trans (g3 b cs k)
    · cases hr
  | mark M r ds DS hrM t ih =>
    intro V st O W σ' Λ' hle h hh hr
    have hm := h.mks r (by simp)
    have hlt := (Array.getElem?_eq_some_iff.1 hm.1).1
    let W1 : World := { W with heap := W.heap.setIfInBounds r (.deferred none) }
    have hother : ∀ b, b ≠ r → W1.heap[b]? = W.heap[b]? := fun b hb => by
      simp only [W1, Array.getElem?_setIfInBounds]
      rw [if_neg (fun e => hb e.symm)]
    have hsz : W1.heap.size = W.heap.size := by simp [W1]
    have h1 : SR E base inv V { st with ds := ds } A DS M O W := h.fewer (t.mono hle) (fun r' h => by simp [h])
    have hne : ∀ b, (O b ∨ Own V st.σ b ∨ b ∈ M) → b ≠ r := by
      intro b hb e; subst e
      rcases hb with hb | hb | hb
      · exact hm.2 hb
      · exact (Own.kind h.hr hb).2 hm.1
      · exact hrM hb
    have h2 : SR E base inv V { st with ds := ds } A DS M O W1 := by
      have := SR.others (K' := V.K) (W' := W1) hcx h1 (fun _ _ _ h => h) (fun _ _ _ h => .inl h) (fun b o v hv => ?_) (fun b hb => hother b (hne b hb)) (Nat.le_of_eq hsz.symm)
      · exact this
      · have hc := h.hr.cell b o v hv
        rw [cell_of_heap (hother b (fun e => by subst e; exact cell_mark hm.1 hc))]; exact hc
    obtain ⟨V2, O2, W2, s3, p3, o3, g3⟩ := ih hle h2 hh hr
    refine ⟨V2, O2, W2, s3, ?_, fun b hb => (o3 b hb).imp (fun x => x) (fun x => by rw [← hsz]; exact x), fun b cs k => .head (un_mark hm.1) (g3 b cs k)⟩
    refine ⟨p3.le, p3.lv, ⟨p3.fr.os, p3.fr.tape, p3.fr.output, by rw [← hsz]; exact p3.fr.size, fun b hb hno => ?_⟩, fun b hb => (p3.own b hb).imp (fun x => x) (fun x => by rw [← hsz]; exact x), fun b hb => ?_, fun id b s hm' => (p3.mb id b s hm').imp (fun x => x) (fun x => ⟨by rw [← hsz]; exact x.1, x.2.1, fun ho => x.2.2 (ho.imp (fun y => y) (fun y => (List.mem_cons.1 y).elim (fun e => by have := x.1; rw [hsz] at this; omega) (fun z => z)))⟩), fun b o v hv => ?_, p3.nm, p3.nn⟩
    · have hbr : b ≠ r := fun e => hno (.inr (.inr (by simp [e])))
      rw [p3.fr.block b (by rw [hsz]; exact hb) (fun ho => hno (ho.imp (fun x => x) (fun x => x.imp (fun y => y) (fun y => by simp [y])))), hother b hbr]
    · rcases hb with hb | hb
      · rcases p3.out b (.inl hb) with (h' | h') | h'
        · exact .inl (.inl h')
        · exact .inl (.inr (by simp [h']))
        · exact .inr (by rw [← hsz]; exact h')
      · exact .inl (.inr hb)
    · rcases p3.K b o v hv with h' | (h' | h' | h') | h'
      · exact .inl h'
      · exact .inr (.inl (.inl h'))
      · exact .inr (.inl (.inr (.inl h')))
      · exact .inr (.inl (.inr (.inr (by simp [h']))))
      · exact .inr (.inr (by rw [← hsz]; exact h'))
end
end Go.Eng

/-
  THE ENGINE, 28: what a call comes to is what the engine says.
-/
namespace Go.Eng
open Go

theorem tmps0_spec (n : Nat) : ∀ (args : List AV) (τ : Tmps) (i t : Nat) (a : AV), (tmps0 n τ i args).get t = some a → (∃ j, t = i + j ∧ args[j]? = some a) ∨ τ.get t = some a
  | [], τ, i, t, a, h => .inr h
  | v :: vs, τ, i, t, a, h => by
    rcases tmps0_spec n vs (τ.set i v) (i + 1) t a h with ⟨j, e, g⟩ | g
    · exact .inl ⟨j + 1, by omega, by simpa using g⟩
    · rcases Tr.get_set _ _ _ _ _ g with ⟨rfl, rfl⟩ | ⟨_, g'⟩
      · exact .inl ⟨0, rfl, rfl⟩
      · exact .inr g'

theorem Prg.transM {V V' V'' : View} {σ σ' σ'' : Hp} {O O' O'' : OO} {W W' W'' : World} {M : List Nat} (h : Prg V σ O W V' σ' O' W') (k : Prg V' σ' (fun b => O' b ∨ b ∈ M) W' V'' σ'' (fun b => O'' b ∨ b ∈ M) W'') (hM : ∀ r ∈ M, W.heap.size ≤ r) (ho : ∀ b, O'' b → O' b ∨ W'.heap.size ≤ b) : Prg V σ O W V'' σ'' O'' W'' := by
  have hs := h.fr.size
  have both : ∀ b, Own V' σ' b ∨ (O' b ∨ b ∈ M) → (Own V σ b ∨ O b) ∨ W.heap.size ≤ b := fun b hb => by
    rcases hb with x | x | x
    · exact (h.own b x).imp .inl (fun x => x)
    · exact (h.out b x).imp .inr (fun x => x)
    · exact .inr (hM b x)
  refine ⟨h.le.trans k.le, k.lv.trans h.lv, h.fr.trans k.fr (fun b hb hO => ?_), fun b hb => ?_, fun b hb => ?_, fun id b s hm => ?_, fun b o v hv => ?_, fun id x hx => (k.nm id x hx).elim (h.nm id x) (fun y => .inr (Nat.le_trans h.nn y)), Nat.le_trans h.nn k.nn⟩
  · rcases both b hO with h' | h'
    · exact h'
    · omega
  · rcases k.own b hb with h' | h'
    · exact h.own b h'
    · exact .inr (by omega)
  · rcases k.out b (.inl hb) with (h' | h') | h'
    · exact h.out b h'
    · exact .inr (hM b h')
    · exact .inr (by omega)
  · rcases k.mb id b s hm with ⟨id', s', h'⟩ | ⟨h1, h2, h3⟩
    · rcases h.mb id' b s' h' with g | ⟨g1, g2, g3⟩
      · exact .inl g
      · have := k.fr.size
        exact .inr ⟨g1, by omega, fun hb => (ho b hb).elim g3 (fun x => by omega)⟩
    · exact .inr ⟨by omega, h2, fun hb => h3 (.inl hb)⟩
  · rcases k.K b o v hv with h' | h' | h'
    · exact h.K b o v h'
    · exact .inr (both b h')
    · exact .inr (.inr (by omega))

def packA (vs : List AV) : AV :=
  match vs with
  | [v] => v
  | vs => .tup vs

theorem pack_spec {V : View} {vs : List AV} {L : List Value} (h : VRs V vs L) : VR V (packA vs) (pack L) := by
  match vs, h with
  | [], h => cases h.nil_inv; exact VR.tup' (.nil V)
  | [v], h =>
    obtain ⟨X, Xs, rfl, hX, hXs⟩ := h.cons_inv
    cases hXs.nil_inv
    exact hX
  | v :: w :: vs, h =>
    have hl := h.1
    unfold pack
    rw [dif_neg (by simp only [List.size_toArray, ← hl, List.length_cons]; omega)]
    exact VR.tup' h

section
variable {P : Program} {E : Env}

theorem callN_ok (hE : EnvOK P E) (hX : ExtOK P E) (hN : NameOK E) (hcode : ∀ call, CallOK P E call → ∀ base hs c, CodeOK P E call base hs c) : ∀ n, CallOK P E (callN E n)
  | 0 => by intro f args σ hs Λ v σ' Λ' h; simp [callN] at h
  | n + 1 => by
    have ih := callN_ok hE hX hN hcode n
    intro f args σ hs Λ v σ' Λ' h base inv V A O W hcx hh H hb ha hi hd
    simp only [callN] at h
    split at h
    · rename_i v0 hext
      simp only [Option.some.injEq, Prod.mk.injEq] at h; obtain ⟨rfl, rfl, rfl⟩ := h
      obtain ⟨R, W', hv, hfr, hg⟩ := hX f args _ hext V A W ha H.cell H.glob
      have hH := H.grow (View.le.refl V) rfl rfl (fun _ _ _ h => .inl h) (fun b hb => hfr.block b hb (fun h => h)) hfr.size
      exact ⟨V, O, W', R, ⟨View.le.refl V, rfl, hfr.weaken (fun _ _ h => h.elim), fun _ h => .inl h, fun _ h => .inl h, fun id _ s h => .inl ⟨id, s, h⟩, fun _ _ _ h => .inl h, fun _ _ h => .inl h, Nat.le_refl _⟩, hH,
        hcx.stable _ _ _ _ _ _ hi (fun _ _ _ h => h) (fun _ _ _ h => .inl h) hH.cell (fun b hb => hfr.block b (hcx.bound _ _ _ _ hi b hb) (fun h => h)) hfr.size, hd, hv, hg⟩
    · split at h
      · cases h
      · rename_i fn hfn
        split at h
        · cases h
        · rename_i body hbody
          split at h
          · cases h
          · rename_i e st1 hex
            have hf := hE.fn f fn hfn
            have hcf : (callFunc f A.toArray).run P W = .ok (.enter f A.toArray) W := by
              simp [callFunc, Sem.run_bind, hf, hN f fn hfn, hbody]
            have hS : SR E base inv V ⟨tmps0 fn.ntmps (.full (dep fn.ntmps)) 0 args, σ, [], Λ, args.length + (fn.ntmps - args.length), false⟩ (A.toArray ++ Array.replicate (fn.ntmps - A.length) undef) [] [] O W := by
              refine ⟨H, hb, fun t a ht => ?_, by simp [ha.1], .nil, fun r hr => absurd hr (by simp), hi, hd⟩
              rcases tmps0_spec _ _ _ _ _ _ ht with ⟨j, rfl, hj⟩ | g
              · obtain ⟨X, h1, h2⟩ := ha.get hj
                have : j < A.length := (List.getElem?_eq_some_iff.1 h1).1
                have e : (A.toArray ++ Array.replicate (fn.ntmps - A.length) undef).getD (0 + j) undef = X := by
                  rw [Array.getD_eq_getD_getElem?, Nat.zero_add, Array.getElem?_append_left (by simpa using this)]
                  simp [h1]
                rw [e]; exact h2
              · rw [Tr.get_full] at g; cases g
            obtain ⟨V1, A1, DS1, M1, O1, W1, L1, g1⟩ := hcode _ ih base hs body inv hcx V _ st1 e _ _ _ _ _ f none (fun _ h => by cases h) hex hS hh
            have hret : e ≠ .exit 0 → (∀ i, e ≠ .exit i) → ∀ kind cs, (kind = .normal ∨ (kind = .deferred ∧ ∃ c rest, cs = c :: rest ∧ c.mode = .returning)) →
                ∃ todo, Steps P (lone (Frame.enter P f A.toArray kind) cs W) (lone (retF (Frame.enter P f A.toArray kind) A1 DS1 todo) cs W1) := by
              intro _ hne kind cs hk
              have hent : Frame.enter P f A.toArray kind = mkF (Frame.enter P f A.toArray kind) (A.toArray ++ Array.replicate (fn.ntmps - A.length) undef) [] [.code body] := by
                simp [Frame.enter, mkF, hf, hbody]
              have hro : (Frame.enter P f A.toArray kind).roundOf = none := rfl
              have ha1 := g1 (Frame.enter P f A.toArray kind) cs [] ⟨⟨rfl, rfl, hk⟩, rfl⟩
              rw [← hent] at ha1
              cases e with
              | normal => exact ⟨[], Steps.trans ha1 (.one (st_end hro))⟩
              | exit i => exact absurd rfl (hne i)
              | ret => obtain ⟨k', h2⟩ := ha1; exact ⟨_, h2.trans (.one (st_ret hro))⟩
            split at h
            · cases h
            · rename_i hne
              split at h
              · cases h
              · rename_i σ2 Λ2 hrd
                obtain ⟨V2, O2, W2, S2, p2, o2, g2⟩ := unwind_spec hcx ih L1.sr.ds (View.le.refl V1) (st := st1) L1.sr (by rw [L1.pr.lv]; exact hh) hrd
                have hP := L1.pr.transM p2 (fun r hr => (L1.mg r hr).elim (fun x => absurd x (by simp)) (fun x => x)) o2
                have fin : ∀ vs, resultsA E st1.τ σ2 fn.results.toList = some vs → ∃ R, VR V2 (packA vs) R ∧ Goes P f A.toArray W R W2 := by
                  intro vs hvs
                  obtain ⟨L, h1, h2⟩ := results_run hE S2 (fn := fn) hvs
                  refine ⟨pack L, pack_spec h2, .enter W hcf fun kind caller rest hk => ?_⟩
                  obtain ⟨todo, s1⟩ := hret (hne 0) hne kind (caller :: rest) (hk.imp (fun x => x) (fun x => ⟨x.1, caller, rest, rfl, x.2⟩))
                  refine s1.trans ((g2 _ _ _).trans (.one ?_))
                  exact un_done (b := Frame.enter P f A.toArray kind) (fn := fn) hf h1 hk
                split at h
                · rename_i v1 hvs
                  simp only [Option.some.injEq, Prod.mk.injEq] at h; obtain ⟨rfl, rfl, rfl⟩ := h
                  obtain ⟨R, hv, hg⟩ := fin _ hvs
                  exact ⟨V2, O2, W2, R, hP, S2.hr, S2.cx, S2.dis, hv, hg⟩
                · rename_i vs hnv hvs
                  simp only [Option.some.injEq, Prod.mk.injEq] at h; obtain ⟨rfl, rfl, rfl⟩ := h
                  obtain ⟨R, hv, hg⟩ := fin _ hvs
                  refine ⟨V2, O2, W2, R, hP, S2.hr, S2.cx, S2.dis, ?_, hg⟩
                  unfold packA at hv
                  split at hv
                  · exact absurd rfl (hnv _)
                  · exact hv
                · cases h
end
end Go.Eng

/-
  THE ENGINE, 29: an operation looks at its operands alone.
-/
namespace Go.Eng
open Go
section
variable {E : Env} {τ τ' : Tmps} {σ : Hp}

theorem evs_congr : ∀ {l : List Operand}, (∀ x ∈ l, ev τ x = ev τ' x) → evs τ l = evs τ' l
  | [], _ => rfl
  | x :: xs, h => by
    simp only [evs]
    rw [h x (by simp), evs_congr (fun y hy => h y (by simp [hy]))]

theorem evParts_congr : ∀ {l : List (Nat × Operand)}, (∀ x ∈ l.map (·.2), ev τ x = ev τ' x) → evParts τ l = evParts τ' l
  | [], _ => rfl
  | (i, x) :: xs, h => by
    simp only [evParts]
    rw [h x (by simp), evParts_congr (fun y hy => h y (by simp only [List.map_cons, List.mem_cons]; exact .inr hy))]

theorem optA_congr {x : Option Operand} (h : ∀ y ∈ x.toArray, ev τ y = ev τ' y) : optA τ x = optA τ' x := by
  cases x with
  | none => rfl
  | some y => simp only [optA]; rw [h y (by simp)]

theorem callV_congr {c : Call} (h : ∀ x ∈ c.operands, ev τ x = ev τ' x) : callV E τ σ c = callV E τ' σ c := by
  obtain ⟨callee, args, tys⟩ := c
  have ha : evs τ args.toList = evs τ' args.toList := evs_congr (fun x hx => h x (by simp only [Call.operands, Array.mem_append]; exact .inr (by simpa using hx)))
  cases callee with
  | value f =>
    have hf : ev τ f = ev τ' f := h f (by simp [Call.operands])
    simp only [callV, ha, hf]
  | _ => simp only [callV, ha]

theorem op_congr (o : Op) (h : ∀ x ∈ o.operands, ev τ x = ev τ' x) : op E τ σ o = op E τ' σ o := by
  cases o with
  | call c => simp only [op]; rw [callV_congr h]
  | defer c => simp only [op]; rw [callV_congr h]
  | build t ps =>
    have := evParts_congr (τ := τ) (τ' := τ') (l := ps.toList) (fun x hx => h x (by simpa [Op.operands] using hx))
    simp only [op, this]
  | buildSlice t n ps =>
    have := evParts_congr (τ := τ) (τ' := τ') (l := ps.toList) (fun x hx => h x (by simpa [Op.operands] using hx))
    simp only [op, this]
  | makeFunc f first caps =>
    have h1 := evs_congr (τ := τ) (τ' := τ') (l := first.toList) (fun x hx => h x (by simp only [Op.operands, Array.mem_append]; exact .inl (by simpa using hx)))
    have h2 := evs_congr (τ := τ) (τ' := τ') (l := caps.toList) (fun x hx => h x (by simp only [Op.operands, Array.mem_append]; exact .inr (by simpa using hx)))
    cases f <;> simp only [op, h1, h2]
  | makeMap t r => cases r <;> simp only [op]
  | slice t x lo hi m =>
    have h0 : ev τ x = ev τ' x := h x (by simp [Op.operands])
    have h1 : optA τ lo = optA τ' lo := optA_congr (fun y hy => h y (by simp only [Op.operands, Array.mem_append]; exact .inl (.inl (.inr hy))))
    have h2 : optA τ hi = optA τ' hi := optA_congr (fun y hy => h y (by simp only [Op.operands, Array.mem_append]; exact .inl (.inr hy)))
    cases m <;> simp only [op, h0, h1, h2]
  | pick c a b => simp only [op, h c (by simp [Op.operands]), h a (by simp [Op.operands]), h b (by simp [Op.operands])]
  | store t a v => simp only [op, h a (by simp [Op.operands]), h v (by simp [Op.operands])]
  | binOp b t a v u => simp only [op, h a (by simp [Op.operands]), h v (by simp [Op.operands])]
  | makeSlice t a v => simp only [op, h a (by simp [Op.operands]), h v (by simp [Op.operands])]
  | indexAddr t a v => simp only [op, h a (by simp [Op.operands]), h v (by simp [Op.operands])]
  | index t a v => simp only [op, h a (by simp [Op.operands]), h v (by simp [Op.operands])]
  | lookup t a v ok => simp only [op, h a (by simp [Op.operands]), h v (by simp [Op.operands])]
  | mapUpdate t a v w => simp only [op, h a (by simp [Op.operands]), h v (by simp [Op.operands]), h w (by simp [Op.operands])]
  | insert t a v w => simp only [op, h a (by simp [Op.operands]), h v (by simp [Op.operands]), h w (by simp [Op.operands])]
  | move x => simp only [op, h x (by simp [Op.operands])]
  | assign x => simp only [op, h x (by simp [Op.operands])]
  | box t x => simp only [op, h x (by simp [Op.operands])]
  | load t x => simp only [op, h x (by simp [Op.operands])]
  | nilCheck x => simp only [op, h x (by simp [Op.operands])]
  | unOp u t x => simp only [op, h x (by simp [Op.operands])]
  | convert s d x => simp only [op, h x (by simp [Op.operands])]
  | makeInterface t x => simp only [op, h x (by simp [Op.operands])]
  | fieldAddr t x i => simp only [op, h x (by simp [Op.operands])]
  | field t x i => simp only [op, h x (by simp [Op.operands])]
  | range t x => simp only [op, h x (by simp [Op.operands])]
  | next x b => cases b <;> simp only [op, h x (by simp [Op.operands])]
  | typeAssert x t a ok => simp only [op, h x (by simp [Op.operands])]
  | extract x i => simp only [op, h x (by simp [Op.operands])]
  | _ => simp only [op]
end
end Go.Eng

/-
  THE ENGINE, 30: the machine's steps in a loop over a function.
-/
namespace Go
/-- An object turns. -/
def World.put (W : World) (l : Nat) (o : Obj) : World := { W with heap := W.heap.setIfInBounds l o }
end Go
namespace Go.Eng
open Go
section
variable {P : Program} {b : Frame} {A : Array Value} {DS : List Deferred} {k : List Item} {cs : List Frame} {W W' : World}

/-- The loop, as it is made. -/
def newLoop (b : Frame) (A : Array Value) (params : Array Tmp) (asg body : Code) (defers : Nat) : Loop :=
  { state := .ready, pending := none, fn := b.fn, tmps := A, params, assign := asg, body, defers }

theorem st_rangeFunc {f : Operand} {params : Array Tmp} {asg body : Code} {g : Nat} {F C args : Array Value} (hro : b.roundOf = none) (hf : (mkF b A DS []).eval f = .func (.func g) F C)
    (hc : (callFunc g (F.push (.func (.yield (W.heap.size + 1)) #[] #[]) ++ C)).run P ((W.alloc (.deferred (some []))).alloc (.loop (newLoop b A params asg body W.heap.size))) = .ok (.enter g args) W') :
    step P (lone (mkF b A DS (.code (.rangeFunc f params asg body) :: k)) cs W) =
      .next (lone (Frame.enter P g args .normal) (mkF b A ({ target := .collected W.heap.size, args := #[] } :: DS) (.inRangeFunc (W.heap.size + 1) :: k) :: cs) W') := by
  have h1 : (Instr.enterLoop b.fn A params asg body none).run P W = .ok (W.heap.size + 1, [{ target := .collected W.heap.size, args := #[] }]) ((W.alloc (.deferred (some []))).alloc (.loop (newLoop b A params asg body W.heap.size))) := by
    simp [Instr.enterLoop, newObj, Sem.run, newLoop]
  refine step_lone_go ?_
  have hf' : (mkF b A ({ target := .collected W.heap.size, args := #[] } :: DS) (.inRangeFunc (W.heap.size + 1) :: k)).eval f = .func (.func g) F C := by
    rw [mkF_eval]; rw [mkF_eval] at hf; exact hf
  have hy : (mkF b A ({ target := .collected W.heap.size, args := #[] } :: DS) (.inRangeFunc (W.heap.size + 1) :: k)).eval (.const (.func (.yield (W.heap.size + 1)) #[] #[])) = .func (.yield (W.heap.size + 1)) #[] #[] := rfl
  simp only [mkF, hro] at hf' hy ⊢
  simp [stepG, stepG.exec, Sem.runT_eq, hro, h1, stepG.apply, resolve, hf', hy, Deferred.ofValue, invoke, hc]

/-- Within a round of another loop. -/
theorem st_rangeFunc_in {f : Operand} {params : Array Tmp} {asg body : Code} {g l0 : Nat} {r0 : Loop} {F C args : Array Value} (hro : b.roundOf = some l0) (hl : W.heap[l0]? = some (.loop r0)) (hf : (mkF b A DS []).eval f = .func (.func g) F C)
    (hc : (callFunc g (F.push (.func (.yield W.heap.size) #[] #[]) ++ C)).run P (W.alloc (.loop (newLoop b A params asg body r0.defers))) = .ok (.enter g args) W') :
    step P (lone (mkF b A DS (.code (.rangeFunc f params asg body) :: k)) cs W) =
      .next (lone (Frame.enter P g args .normal) (mkF b A DS (.inRangeFunc W.heap.size :: k) :: cs) W') := by
  have h1 : (Instr.enterLoop b.fn A params asg body (some l0)).run P W = .ok (W.heap.size, []) (W.alloc (.loop (newLoop b A params asg body r0.defers))) := by
    simp [Instr.enterLoop, Instr.getLoop, getObj, newObj, Sem.run, newLoop, hl]
  refine step_lone_go ?_
  have hf' : (mkF b A DS (.inRangeFunc W.heap.size :: k)).eval f = .func (.func g) F C := by
    rw [mkF_eval]; rw [mkF_eval] at hf; exact hf
  have hy : (mkF b A DS (.inRangeFunc W.heap.size :: k)).eval (.const (.func (.yield W.heap.size) #[] #[])) = .func (.yield W.heap.size) #[] #[] := rfl
  simp only [mkF, hro] at hf' hy ⊢
  simp [stepG, stepG.exec, Sem.runT_eq, h1, stepG.apply, resolve, hf', hy, Deferred.ofValue, invoke, hc]

theorem st_beginRound {l : Nat} {r : Loop} (hro : b.roundOf = some l) (hl : W.heap[l]? = some (.loop r)) (hs : r.state = .ready) :
    step P (lone (mkF b A DS (.beginRound :: k)) cs W) = .next (lone (mkF b A DS k) cs (W.put l (.loop { r with state := .busy }))) := by
  have h1 : (Instr.beginRound l).run P W = .ok () (W.put l (.loop { r with state := .busy })) := by
    simp [Instr.beginRound, Instr.getLoop, getObj, setObj, Sem.run, hl, hs, World.put]
  refine step_lone_go ?_
  simp only [mkF, hro]
  simp [stepG, stepG.exec, stepG.apply, Sem.runT_eq, h1, Frame.finish]

theorem endRound_run {l : Nat} {r : Loop} (hl : W.heap[l]? = some (.loop r)) (jump : Option Code) :
    (Instr.endRound l jump).run P W = .ok (.bool jump.isNone) (W.put l (.loop { r with state := if jump.isNone then .ready else .done, pending := jump })) := by
  simp [Instr.endRound, Instr.getLoop, getObj, setObj, Sem.run, hl, World.put]

theorem st_roundEnd {l : Nat} {r : Loop} {c : Frame} (hro : b.roundOf = some l) (hk : b.kind = .normal) (hl : W.heap[l]? = some (.loop r)) :
    step P (lone (mkF b A DS []) (c :: cs) W) = .next (lone (c.finish (.bool true)) cs (W.put l (.loop { r with state := .ready, pending := none }))) := by
  have h1 := endRound_run (P := P) hl none
  refine step_lone_go ?_
  simp only [mkF, hro, hk]
  simp [stepG, stepG.exec, doReturn, Sem.runT_eq, h1]

theorem st_roundRet {l : Nat} {r : Loop} {c : Frame} (hro : b.roundOf = some l) (hk : b.kind = .normal) (hl : W.heap[l]? = some (.loop r)) :
    step P (lone (mkF b A DS (.code .ret :: k)) (c :: cs) W) = .next (lone (c.finish (.bool false)) cs (W.put l (.loop { r with state := .done, pending := some .ret }))) := by
  have h1 := endRound_run (P := P) hl (some .ret)
  refine step_lone_go ?_
  simp only [mkF, hro, hk]
  simp [stepG, stepG.exec, doReturn, Sem.runT_eq, h1]

theorem st_roundExit {l i : Nat} {r : Loop} {c : Frame} (hro : b.roundOf = some l) (hk : b.kind = .normal) (hl : W.heap[l]? = some (.loop r)) (he : exitTo i k = none) :
    step P (lone (mkF b A DS (.code (.exit i) :: k)) (c :: cs) W) = .next (lone (c.finish (.bool false)) cs (W.put l (.loop { r with state := .done, pending := some (.exit i) }))) := by
  have h1 := endRound_run (P := P) hl (some (.exit i))
  refine step_lone_go ?_
  simp only [mkF, hro, hk]
  simp [stepG, stepG.exec, doReturn, Sem.runT_eq, h1, he]

theorem st_endRangeFunc {l : Nat} {r : Loop} (hl : W.heap[l]? = some (.loop r)) (hs : r.state ≠ .busy) :
    step P (lone (mkF b A DS (.endRangeFunc l :: k)) cs W) = .next (lone (mkF b A DS ((r.pending.map Item.code).toList ++ k)) cs (W.put l (.loop { r with state := .exhausted }))) := by
  have h1 : (Instr.endLoop l).run P W = .ok r.pending (W.put l (.loop { r with state := .exhausted })) := by
    simp [Instr.endLoop, Instr.getLoop, getObj, setObj, Sem.run, hl, World.put]
    exact fun e => absurd e hs
  refine step_lone_go ?_
  simp only [mkF]
  simp [stepG, stepG.exec, Sem.runT_eq, h1]
end
end Go.Eng

/-
  THE ENGINE, 31: what is held while a loop over a function runs.
-/
namespace Go.Eng
open Go

def jumpOf : Ex → Option Code
  | .normal => none
  | .exit i => some (.exit i)
  | .ret => some .ret

/-- The loop object, by how far the loop is. -/
def lpOf (lp : Loop) (lf : LF) : Loop := { lp with state := if lf.done then .done else .ready, pending := jumpOf lf.pend }

/-- What is held while a round runs: the marks of the frame, and the loop. -/
def bodyInv (inv : Inv) (M : List Nat) (l : Nat) (lp : Loop) : Inv := fun Λ K O W =>
  ∃ O0, (∀ b, O b ↔ O0 b ∨ b ∈ M ∨ b = l) ∧ inv Λ K O0 W ∧ (∀ r ∈ M, W.heap[r]? = some (.deferred (some [])) ∧ ¬ O0 r) ∧ W.heap[l]? = some (.loop lp) ∧ ¬ O0 l

/-- Blocks that a view knows, and an earlier one did not. -/
def NewM (V V0 : View) (b : Nat) : Prop := (∃ id s, V0.m id = some (b, s)) ∧ ¬ ∃ id s, V.m id = some (b, s)

/-- How a frame has grown since its loop began. -/
structure Gr (V : View) (σ : Hp) (O : OO) (sz : Nat) (V0 : View) (σ0 : Hp) (O0 : OO) (W : World) : Prop where
  size : sz ≤ W.heap.size
  own : ∀ b, Own V0 σ0 b → Own V σ b ∨ sz ≤ b
  out : ∀ b, O0 b → O b ∨ sz ≤ b
  mb : ∀ b, NewM V V0 b → sz ≤ b ∧ ¬ O0 b
  nm : ∀ id x, V0.m id = some x → V.m id = some x ∨ σ.n ≤ id
  nn : σ.n ≤ σ0.n

/-- What is held while the function that is ranged over runs. -/
def loopInv (E : Env) (base : Nat) (inv : Inv) (V : View) (st : St) (A : Array Value) (DS : List Deferred) (M : List Nat) (Os : OO) (sz : Nat) (l : Nat) (lp : Loop) : Inv := fun Λ K O W =>
  ∃ lf Λ0 V0 O0, Λ = lf :: Λ0 ∧ (∀ b, O b ↔ O0 b ∨ Own V0 lf.σ b ∨ b ∈ M ∨ b = l ∨ NewM V V0 b) ∧ SR E base inv V0 { st with σ := lf.σ, Λ := Λ0 } A DS M O0 W ∧ V0.K = K ∧ V0.lv = V.lv ∧ V.le V0 ∧ W.heap[l]? = some (.loop (lpOf lp lf)) ∧ ¬ O0 l ∧ Gr V st.σ Os sz V0 lf.σ O0 W

section
variable {P : Program} {E : Env} {base : Nat} {inv : Inv} {V V' : View} {st : St} {A : Array Value} {DS : List Deferred} {M : List Nat} {O : OO} {W W' : World}

theorem lt_of_heap {W : World} {b : Nat} {o : Obj} (h : W.heap[b]? = some o) : b < W.heap.size := (Array.getElem?_eq_some_iff.1 h).1

theorem bodyInv_ok (hcx : CxOK inv) (l : Nat) (lp : Loop) : CxOK (bodyInv inv M l lp) := by
  refine ⟨fun Λ K O W K' W' h hK hK' hc hW hs => ?_, fun Λ K O W h b hb => ?_⟩
  · obtain ⟨O0, hO, hi, hm, hl, hn⟩ := h
    refine ⟨O0, hO, hcx.stable _ _ _ _ _ _ hi hK (fun b o v hv => (hK' b o v hv).imp (fun x => x) (fun hno ho => hno ((hO b).2 (.inl ho)))) hc (fun b hb => hW b ((hO b).2 (.inl hb))) hs, fun r hr => ⟨?_, (hm r hr).2⟩, ?_, hn⟩
    · rw [hW r ((hO r).2 (.inr (.inl hr)))]; exact (hm r hr).1
    · rw [hW l ((hO l).2 (.inr (.inr rfl)))]; exact hl
  · obtain ⟨O0, hO, hi, hm, hl, hn⟩ := h
    rcases (hO b).1 hb with h' | h' | h'
    · exact hcx.bound _ _ _ _ hi b h'
    · exact lt_of_heap (hm b h').1
    · subst h'; exact lt_of_heap hl

theorem bodyInv_rl (l : Nat) (lp : Loop) : RLOK (bodyInv inv M l lp) (some l) := by
  intro l' he Λ K O W h
  simp only [Option.some.injEq] at he; subst he
  obtain ⟨O0, _, _, _, hl, _⟩ := h
  exact ⟨lp, hl⟩

theorem YOK.body (hcx : CxOK inv) {h : Hnd} {lb : Nat} (l : Nat) (lp : Loop) (hy : YOK P inv h lb) : YOK P (bodyInv inv M l lp) h lb := by
  intro Λ K O W args AA b Λ' hi hc hargs hh
  obtain ⟨O0, hO, hi0, hm, hl, hn⟩ := hi
  obtain ⟨K', O', W', h1, h2, h3⟩ := hy Λ K O0 W args AA b Λ' hi0 hc hargs hh
  have keep : ∀ r o, W.heap[r]? = some o → ¬ O0 r → W'.heap[r]? = some o ∧ ¬ O' r := fun r o hr hno =>
    ⟨by rw [h2.fr.block r (lt_of_heap hr) hno]; exact hr, fun ho => (h2.out r ho).elim hno (fun h' => by have := lt_of_heap hr; omega)⟩
  refine ⟨K', fun b => O' b ∨ b ∈ M ∨ b = l, W', ⟨O', fun _ => Iff.rfl, h1, fun r hr => keep r _ (hm r hr).1 (hm r hr).2, (keep l _ hl hn).1, (keep l _ hl hn).2⟩,
    ⟨h2.le, h2.cell, h2.fr.weaken (fun b _ hb => (hO b).2 (.inl hb)), fun b hb => ?_, fun b o v hv => ?_⟩, h3⟩
  · rcases hb with hb | hb
    · exact (h2.out b hb).imp (fun x => (hO b).2 (.inl x)) (fun x => x)
    · exact .inl ((hO b).2 (.inr hb))
  · rcases h2.K b o v hv with h' | h' | h'
    · exact .inl h'
    · exact .inr (.inl ((hO b).2 (.inl h')))
    · exact .inr (.inr h')

theorem HOK.body (hcx : CxOK inv) {lv : Nat → Option Nat} {hs : List Hnd} (l : Nat) (lp : Loop) (h : HOK P inv lv hs) : HOK P (bodyInv inv M l lp) lv hs :=
  ⟨h.1, fun lvl hd lb h1 h2 => (h.2 lvl hd lb h1 h2).body hcx l lp⟩

theorem loopInv_ok (hcx : CxOK inv) {Os : OO} {sz : Nat} (l : Nat) (lp : Loop) : CxOK (loopInv E base inv V st A DS M Os sz l lp) := by
  refine ⟨fun Λ K O W K' W' h hK hK' hc hW hs => ?_, fun Λ K O W h b hb => ?_⟩
  · obtain ⟨lf, Λ0, V0, O0, rfl, hO, hS, rfl, hlv, hle, hl, hn, hg⟩ := h
    have hS' := SR.others hcx hS hK (fun b o v hv => (hK' b o v hv).imp (fun x => x) (fun hno ho => hno ((hO b).2 (ho.imp (fun x => x) (fun x => x.imp (fun x => x) .inl)))))
      hc (fun b hb => hW b ((hO b).2 (hb.imp (fun x => x) (fun x => x.imp (fun x => x) .inl)))) hs
    exact ⟨lf, Λ0, { V0 with K := K' }, O0, rfl, hO, hS', rfl, hlv, hle.trans ⟨fun _ _ h => h, fun _ _ h => h, hK, fun _ _ _ _ => rfl⟩, by rw [hW l ((hO l).2 (.inr (.inr (.inr (.inl rfl)))))]; exact hl, hn, ⟨Nat.le_trans hg.size hs, hg.own, hg.out, hg.mb, hg.nm, hg.nn⟩⟩
  · obtain ⟨lf, Λ0, V0, O0, rfl, hO, hS, rfl, hlv, hle, hl, hn, hg⟩ := h
    rcases (hO b).1 hb with h' | h' | h' | h' | h'
    · exact hcx.bound _ _ _ _ hS.cx b h'
    · exact (Own.kind hS.hr h').1
    · exact lt_of_heap (hS.mks b h').1
    · subst h'; exact lt_of_heap hl
    · obtain ⟨⟨id, s, hm⟩, _⟩ := h'
      exact (hS.hr.fresh _ _ hm).2

/-- The loops further out, from within. -/
theorem YOK.deeper (hcx : CxOK inv) {h : Hnd} {lb : Nat} {Os : OO} {sz : Nat} (l : Nat) (lp : Loop) (hy : YOK P inv h lb) : YOK P (loopInv E base inv V st A DS M Os sz l lp) (deeper h) lb := by
  intro Λ K O W args AA b Λ' hi hc hargs hh
  obtain ⟨lf, Λ0, V0, O0, rfl, hO, hS, rfl, hlv, hle, hl, hn, hg⟩ := hi
  simp only [Eng.deeper] at hh
  split at hh
  · rename_i b1 Λ1 hb1
    simp only [Option.some.injEq, Prod.mk.injEq] at hh; obtain ⟨rfl, rfl⟩ := hh
    obtain ⟨K', O', W', h1, h2, h3⟩ := hy Λ0 V0.K O0 W args AA b1 Λ1 hS.cx hc hargs hb1
    obtain ⟨g1, g2⟩ := hS.grow hcx h1 h2
    have hout : ¬ O' l := fun ho => (h2.out l ho).elim hn (fun h' => by have := lt_of_heap hl; omega)
    refine ⟨K', fun b => O' b ∨ Own V0 lf.σ b ∨ b ∈ M ∨ b = l ∨ NewM V V0 b, W', ⟨lf, Λ1, { V0 with K := K' }, O', rfl, fun _ => Iff.rfl, g1, rfl, hlv, hle.trans g2.le, by rw [h2.fr.block l (lt_of_heap hl) hn]; exact hl, hout,
      ⟨Nat.le_trans hg.size h2.fr.size, hg.own, fun b hb => (h2.out b hb).elim (hg.out b) (fun x => .inr (Nat.le_trans hg.size x)), fun b hb => ⟨(hg.mb b hb).1, fun ho => (h2.out b ho).elim (hg.mb b hb).2 (fun x => by obtain ⟨⟨id, s, hm⟩, _⟩ := hb; have := (hS.hr.fresh _ _ hm).2; simp only at this; omega)⟩, hg.nm, hg.nn⟩⟩,
      ⟨h2.le, h2.cell, h2.fr.weaken (fun b _ hb => (hO b).2 (.inl hb)), fun b hb => ?_, fun b o v hv => ?_⟩, h3⟩
    · rcases hb with hb | hb
      · exact (h2.out b hb).imp (fun x => (hO b).2 (.inl x)) (fun x => x)
      · exact .inl ((hO b).2 (.inr hb))
    · rcases h2.K b o v hv with h' | h' | h'
      · exact .inl h'
      · exact .inr (.inl ((hO b).2 (.inl h')))
      · exact .inr (.inr h')
  · cases hh
end
end Go.Eng

/-
  THE ENGINE, 32: a round of a loop over a function.
-/
namespace Go.Eng
open Go

def putAll (A : Array Value) (ps : List Tmp) (AA : List Value) : Array Value := (ps.zip AA).foldl (fun tmps x => tmps.setIfInBounds x.1 x.2) A

theorem setParams_spec {V : View} {nt : Nat} : ∀ {ps : List Nat} {args : List AV} {τ τ' : Tmps} {A : Array Value} {AA : List Value}, setParams nt τ ps args = some τ' → (∀ t a, τ.get t = some a → VR V a (A.getD t undef)) → A.size = nt → VRs V args AA →
    (∀ t a, τ'.get t = some a → VR V a ((putAll A ps AA).getD t undef)) ∧ (putAll A ps AA).size = nt ∧ ps.length = AA.length
  | [], [], τ, τ', A, AA, h, ht, hs, ha => by
    simp only [setParams, Option.some.injEq] at h; subst h
    cases ha.nil_inv
    exact ⟨ht, hs, rfl⟩
  | p :: ps, a :: az, τ, τ', A, AA, h, ht, hs, ha => by
    obtain ⟨X, Xs, rfl, hX, hXs⟩ := ha.cons_inv
    simp only [setParams] at h
    split at h
    · rename_i hb
      have hlt := Nat.le_of_ble_eq_true hb
      have := setParams_spec (V := V) (A := A.setIfInBounds p X) h (fun t b hg => by
        rcases Tr.get_set _ _ _ _ _ hg with ⟨rfl, rfl⟩ | ⟨hne, hg'⟩
        · have : t < A.size := by omega
          simp only [Array.getD_eq_getD_getElem?, Array.getElem?_setIfInBounds, this, if_true, Option.getD_some]
          exact hX
        · have := ht t b hg'
          simp only [Array.getD_eq_getD_getElem?, Array.getElem?_setIfInBounds] at this ⊢
          rw [if_neg (fun e => hne e.symm)]; exact this) (by simpa using hs) hXs
      obtain ⟨h1, h2, h3⟩ := this
      exact ⟨h1, h2, by simp [h3]⟩
    · cases h
  | [], _ :: _, τ, τ', A, AA, h, ht, hs, ha => by simp [setParams] at h
  | _ :: _, [], τ, τ', A, AA, h, ht, hs, ha => by simp [setParams] at h

theorem yield_run {P : Program} {W : World} {l : Nat} {lp : Loop} (hl : W.heap[l]? = some (.loop lp)) {AA : List Value} (hs : lp.params.toList.length = AA.length) :
    (Instr.yield l AA.toArray).run P W = .ok (.round l lp.fn (putAll lp.tmps lp.params.toList AA) lp.assign lp.body) W := by
  have e : (lp.params.zip AA.toArray).foldl (fun tmps (x : Tmp × Value) => tmps.setIfInBounds x.1 x.2) lp.tmps = putAll lp.tmps lp.params.toList AA := by
    rw [← Array.foldl_toList, Array.toList_zip]; rfl
  have hs' : AA.length = lp.params.size := by simpa using hs.symm
  simp [Instr.yield, Instr.getLoop, getObj, Sem.run, hl, hs', ← e]

section
variable {P : Program} {E : Env} {base : Nat} {inv : Inv} {V V' : View} {st : St} {A : Array Value} {DS : List Deferred} {M : List Nat} {O : OO} {W W' : World}

theorem Own.not_loop {σ : Hp} (H : HR E base V σ W) {b : Nat} (h : Own V σ b) (lp : Loop) : W.heap[b]? ≠ some (.loop lp) := by
  obtain ⟨id, s, ⟨o, hg, hn⟩, hm⟩ := h
  obtain ⟨blk, s', hm', _, hlt, ho⟩ := H.obj _ _ hg hn
  rw [hm] at hm'; simp only [Option.some.injEq, Prod.mk.injEq] at hm'; obtain ⟨rfl, rfl⟩ := hm'
  intro e
  cases o with
  | cells ro l => obtain ⟨cs, t, h1, _⟩ := ho; rw [e] at h1; cases h1
  | map es => obtain ⟨_, en, cl, h1, _⟩ := ho; rw [e] at h1; cases h1
  | siter s p => obtain ⟨_, bb, h1, _⟩ := ho; rw [e] at h1; cases h1
  | gone => exact hn rfl

theorem cell_loop {W : World} {l o : Nat} {v : Value} {lp : Loop} (h : W.heap[l]? = some (.loop lp)) (hc : W.cell? ⟨l, o, none⟩ = some v) : False := by
  simp [World.cell?, h] at hc

theorem put_other (W : World) (l : Nat) (o : Obj) {b : Nat} (h : b ≠ l) : (W.put l o).heap[b]? = W.heap[b]? := by
  simp only [World.put, Array.getElem?_setIfInBounds]
  rw [if_neg (fun e => h e.symm)]
theorem put_self {W : World} {l : Nat} (o : Obj) (h : l < W.heap.size) : (W.put l o).heap[l]? = some o := by
  simp [World.put, Array.getElem?_setIfInBounds, h]
theorem put_size (W : World) (l : Nat) (o : Obj) : (W.put l o).heap.size = W.heap.size := by simp [World.put]

/-- Memory, the loop's own object aside, is as it was. -/
theorem HR.reloop {σ : Hp} (H : HR E base V σ W) {l : Nat} {lp lp' : Loop} (hl : W.heap[l]? = some (.loop lp)) : HR E base V σ (W.put l (.loop lp')) := by
  have hne : ∀ b, Own V σ b → b ≠ l := fun b hb e => by subst e; exact hb.not_loop H lp hl
  refine ⟨fun b o v hk => ?_, H.glob, fun id o hid hno => ?_, H.inj, fun id x hx => by rw [put_size]; exact H.fresh id x hx, H.all⟩
  · have hc := H.cell _ _ _ hk
    rw [cell_of_heap (put_other W l _ (fun e => by subst e; exact cell_loop hl hc))]; exact hc
  · obtain ⟨blk, s, h1, h2, h3, h4⟩ := H.obj id o hid hno
    exact ⟨blk, s, h1, h2, by rw [put_size]; exact h3, h4.mono (View.le.refl V) rfl (fun _ _ h => h) (put_other W l _ (hne blk ⟨id, s, ⟨o, hid, hno⟩, h1⟩))⟩

theorem inv_reloop (hcx : CxOK inv) {Λ : List LF} {K : KK} {l : Nat} {lp lp' : Loop} (h : inv Λ K O W) (hc : ∀ b o v, K b o = some v → W.cell? ⟨b, o, none⟩ = some v) (hl : W.heap[l]? = some (.loop lp)) (hn : ¬ O l) : inv Λ K O (W.put l (.loop lp')) := by
  refine hcx.stable _ _ _ _ _ _ h (fun _ _ _ h => h) (fun _ _ _ h => .inl h) (fun b o v hk => ?_) (fun b hb => put_other W l _ (fun e => by subst e; exact hn hb)) (by rw [put_size]; exact Nat.le_refl _)
  have := hc b o v hk
  rw [cell_of_heap (put_other W l _ (fun e => by subst e; exact cell_loop hl this))]; exact this

theorem SR.reloop (hcx : CxOK inv) {l : Nat} {lp lp' : Loop} {M' : List Nat} (h : SR E base (bodyInv inv M l lp) V st A DS M' O W) : SR E base (bodyInv inv M l lp') V st A DS M' O (W.put l (.loop lp')) := by
  obtain ⟨O0, hO, hi, hm, hl, hn⟩ := h.cx
  have hOl : O l := (hO l).2 (.inr (.inr rfl))
  refine ⟨h.hr.reloop hl, by rw [put_size]; exact h.bs, h.tm, h.sz, h.ds, fun r hr => ⟨?_, (h.mks r hr).2⟩, ⟨O0, hO, inv_reloop hcx hi h.hr.cell hl hn, fun r hr => ⟨?_, (hm r hr).2⟩, put_self _ (lt_of_heap hl), hn⟩, h.dis⟩
  · rw [put_other W l _ (fun e => by subst e; exact (h.mks r hr).2 hOl)]; exact (h.mks r hr).1
  · rw [put_other W l _ (fun e => by subst e; rw [(hm r hr).1] at hl; cases hl)]; exact (hm r hr).1
end
end Go.Eng

/-
  THE ENGINE, 33: the rounds of a loop are what the engine's handler says.
-/
namespace Go.Eng
open Go

/-- The engine's handler, as exec makes it. -/
noncomputable def rangeH (E : Env) (call : CallF) (hs : List Hnd) (nt : Nat) (τ : Tmps) (params : Array Tmp) (asg body : Code) : Hnd := fun az Λ => match Λ with
  | [] => none
  | lf :: Λ => match lf.done with
    | true => none
    | false => match setParams nt τ params.toList az with
      | none => none
      | some τ => match exec E call asg hs ⟨τ, lf.σ, [], Λ, nt, true⟩ with
        | some (.normal, st1) => match exec E call body hs st1 with
          | some (e, st2) => match st2.ds with
            | [] => some (e.isNormal, ⟨st2.σ, !e.isNormal, e⟩ :: st2.Λ)
            | _ => none
          | none => none
        | _ => none

section
variable {P : Program} {E : Env} {call : CallF} {base : Nat} {inv : Inv} {V : View} {st : St} {A : Array Value} {DS : List Deferred} {M : List Nat} {hs : List Hnd}

theorem round_ok (hcx : CxOK inv) {Os : OO} {sz : Nat} {asg body : Code} (hasg : CodeOK P E call base hs asg) (hbody : CodeOK P E call base hs body) (hh : HOK P inv V.lv hs) {l : Nat} {lp : Loop} (h1 : lp.tmps = A) (h2 : lp.assign = asg) (h3 : lp.body = body) :
    YOK P (loopInv E base inv V st A DS M Os sz l lp) (rangeH E call hs st.nt st.τ lp.params asg body) l := by
  intro Λ K O W args AA b Λ' hi hc hargs hr
  obtain ⟨lf, Λ0, V0, O0, rfl, hO, hS, rfl, hlv, hle, hl, hn, hgr⟩ := hi
  simp only [rangeH] at hr
  split at hr
  · cases hr
  · rename_i hdone
    split at hr
    · cases hr
    · rename_i τ1 hset
      split at hr
      · rename_i st1 hex1
        split at hr
        · rename_i e st2 hex2
          split at hr
          · rename_i hds
            simp only [Option.some.injEq, Prod.mk.injEq] at hr; obtain ⟨rfl, rfl⟩ := hr
            have hargs' : VRs V0 args AA := VRs.mono (V := kview V0.K) (V' := V0) ⟨fun _ _ h => by simp [kview] at h, fun _ _ h => by simp [kview] at h, fun _ _ _ h => h, fun _ _ _ h => by simp [kview] at h⟩ hargs
            obtain ⟨t1, t2, t3⟩ := setParams_spec hset hS.tm hS.sz hargs'
            have hy := yield_run (P := P) hl (AA := AA) t3
            have hOl : ∀ b, Own V0 lf.σ b → ¬ (O0 b ∨ b ∈ M ∨ b = l) := by
              intro b hb ho
              rcases ho with h' | h' | h'
              · exact hS.dis b hb h'
              · exact (Own.kind hS.hr hb).2 (hS.mks b h').1
              · subst h'; exact hb.not_loop hS.hr _ hl
            have hS0 : SR E base (bodyInv inv M l (lpOf lp lf)) V0 ⟨τ1, lf.σ, [], Λ0, st.nt, true⟩ (putAll A lp.params.toList AA) [] [] (fun b => O0 b ∨ b ∈ M ∨ b = l) W :=
              ⟨hS.hr, hS.bs, t1, t2, .nil, fun r hr => absurd hr (by simp), ⟨O0, fun _ => Iff.rfl, hS.cx, hS.mks, hl, hn⟩, hOl⟩
            have hhb : ∀ lp', HOK P (bodyInv inv M l lp') V0.lv hs := fun lp' => by rw [hlv]; exact hh.body hcx l lp'
            obtain ⟨V1, A1, DS1, M1, O1, W1, L1, g1⟩ := hasg _ (bodyInv_ok hcx l _) V0 _ st1 _ _ _ _ _ _ lp.fn (some l) (bodyInv_rl l _) hex1 hS0 (hhb _)
            obtain ⟨O1', hO1, hi1, hm1, hl1, hn1⟩ := L1.sr.cx
            let lpB : Loop := { lpOf lp lf with state := .busy }
            have hS1 : SR E base (bodyInv inv M l lpB) V1 st1 A1 DS1 M1 O1 (W1.put l (.loop lpB)) := SR.reloop hcx L1.sr
            obtain ⟨V2, A2, DS2, M2, O2, W2, L2, g2⟩ := hbody _ (bodyInv_ok hcx l _) V1 st1 st2 e A1 DS1 M1 O1 _ lp.fn (some l) (bodyInv_rl l _) hex2 hS1 (by rw [L1.pr.lv]; exact hhb _)
            obtain ⟨O2', hO2, hi2, hm2, hl2, hn2⟩ := L2.sr.cx
            have hle2 : V0.le V2 := L1.pr.le.trans L2.pr.le
            let lf' : LF := ⟨st2.σ, !e.isNormal, e⟩
            let W3 : World := W2.put l (.loop (lpOf lp lf'))
            have hr3 : HR E base V2 st2.σ W3 := L2.sr.hr.reloop hl2
            have hml : ∀ r ∈ M, r ≠ l := fun r hr e => by subst e; rw [(hm2 r hr).1] at hl2; cases hl2
            have hS3 : SR E base inv V2 { st with σ := st2.σ, Λ := st2.Λ } A DS M O2' W3 :=
              ⟨hr3, by rw [put_size]; exact L2.sr.bs, fun t a ht => (hS.tm t a ht).mono hle2, hS.sz, hS.ds.mono hle2, fun r hr => ⟨by rw [put_other W2 l _ (hml r hr)]; exact (hm2 r hr).1, (hm2 r hr).2⟩,
                inv_reloop hcx hi2 L2.sr.hr.cell hl2 hn2, fun b hb ho => L2.sr.dis b hb ((hO2 b).2 (.inl ho))⟩
            have hsz1 : W.heap.size ≤ W1.heap.size := L1.pr.fr.size
            have hsz2 : W1.heap.size ≤ W2.heap.size := by have := L2.pr.fr.size; rwa [put_size] at this
            have base0 : ∀ b, (Own V0 lf.σ b ∨ (O0 b ∨ b ∈ M ∨ b = l)) → O b := fun b hb => (hO b).2 (by
              rcases hb with h' | h' | h' | h'
              · exact .inr (.inl h')
              · exact .inl h'
              · exact .inr (.inr (.inl h'))
              · exact .inr (.inr (.inr (.inl h'))))
            have own1 : ∀ b, Own V1 st1.σ b → O b ∨ W.heap.size ≤ b := fun b hb => (L1.pr.own b hb).imp (fun x => base0 b (.inl x)) (fun x => x)
            have out1 : ∀ b, O1 b → O b ∨ W.heap.size ≤ b := fun b hb => (L1.pr.out b hb).imp (fun x => base0 b (.inr x)) (fun x => x)
            have own2 : ∀ b, Own V2 st2.σ b → O b ∨ W.heap.size ≤ b := fun b hb => (L2.pr.own b hb).elim (own1 b) (fun x => .inr (by rw [put_size] at x; omega))
            have out2 : ∀ b, O2 b → O b ∨ W.heap.size ≤ b := fun b hb => (L2.pr.out b hb).elim (out1 b) (fun x => .inr (by rw [put_size] at x; omega))
            have gsz := hgr.size
            have gown1 : ∀ b, Own V1 st1.σ b → Own V0 lf.σ b ∨ W.heap.size ≤ b := fun b hb => L1.pr.own b hb
            have gout1 : ∀ b, O1 b → (O0 b ∨ b ∈ M ∨ b = l) ∨ W.heap.size ≤ b := fun b hb => L1.pr.out b hb
            have gout2 : ∀ b, O2' b → O0 b ∨ W.heap.size ≤ b := fun b hb => by
              rcases L2.pr.out b ((hO2 b).2 (.inl hb)) with x | x
              · rcases gout1 b x with (y | y | y) | y
                · exact .inl y
                · exact absurd hb (hm2 b y).2
                · subst y; exact absurd hb hn2
                · exact .inr y
              · rw [put_size] at x; exact .inr (by omega)
            have hgr2 : Gr V st.σ Os sz V2 st2.σ O2' W3 := by
              refine ⟨by rw [put_size]; omega, fun b hb => ?_, fun b hb => ?_, fun b hb => ?_, fun id x hx => (L2.pr.nm id x hx).elim (fun y => (L1.pr.nm id x y).elim (hgr.nm id x) (fun z => .inr (Nat.le_trans hgr.nn z))) (fun y => .inr (Nat.le_trans (Nat.le_trans hgr.nn L1.pr.nn) y)), Nat.le_trans (Nat.le_trans hgr.nn L1.pr.nn) L2.pr.nn⟩
              · rcases L2.pr.own b hb with x | x
                · rcases gown1 b x with y | y
                  · exact hgr.own b y
                  · exact .inr (by omega)
                · rw [put_size] at x; exact .inr (by omega)
              · rcases gout2 b hb with x | x
                · exact hgr.out b x
                · exact .inr (by omega)
              · obtain ⟨⟨id, s, hm⟩, hnm⟩ := hb
                have hno2 : ∀ b, ¬ O2 b → ¬ O2' b := fun b h h' => h ((hO2 b).2 (.inl h'))
                rcases L2.pr.mb id b s hm with ⟨id1, s1, hm1⟩ | ⟨x, _, hno⟩
                · rcases L1.pr.mb id1 b s1 hm1 with ⟨id0, s0, hm0⟩ | ⟨x, x2, hno⟩
                  · have := hgr.mb b ⟨⟨id0, s0, hm0⟩, hnm⟩
                    refine ⟨this.1, fun ho => ?_⟩
                    rcases gout2 b ho with y | y
                    · exact this.2 y
                    · have := (hS.hr.fresh _ _ hm0).2; simp only at this; omega
                  · refine ⟨by omega, fun ho => ?_⟩
                    rcases L2.pr.out b ((hO2 b).2 (.inl ho)) with y | y
                    · exact hno y
                    · rw [put_size] at y; omega
                · rw [put_size] at x; exact ⟨by omega, hno2 b hno⟩
            refine ⟨V2.K, fun b => O2' b ∨ Own V2 st2.σ b ∨ b ∈ M ∨ b = l ∨ NewM V V2 b, W3, ⟨lf', st2.Λ, V2, O2', rfl, fun _ => Iff.rfl, hS3, rfl, (L2.pr.lv.trans L1.pr.lv).trans hlv, hle.trans hle2, put_self _ (lt_of_heap hl2), hn2, hgr2⟩,
              ⟨hle2.K, hr3.cell, ⟨?_, ?_, ?_, by rw [put_size]; omega, fun b hb hno => ?_⟩, fun b hb => ?_, fun b o v hv => ?_⟩, ?_⟩
            · exact (L2.pr.fr.os).trans L1.pr.fr.os
            · exact (L2.pr.fr.tape).trans L1.pr.fr.tape
            · exact (L2.pr.fr.output).trans L1.pr.fr.output
            · have hbl : b ≠ l := fun e => hno (base0 b (.inr (.inr (.inr e))))
              rw [put_other W2 l _ hbl, L2.pr.fr.block b (by rw [put_size]; omega) (fun ho => ?_), put_other W1 l _ hbl, L1.pr.fr.block b hb (fun ho => hno (base0 b ho))]
              rcases ho with h' | h'
              · exact (own1 b h').elim hno (fun x => by omega)
              · exact (out1 b h').elim hno (fun x => by omega)
            · rcases hb with h' | h' | h' | h' | ⟨⟨id, s, hm⟩, hnm⟩
              · exact out2 b ((hO2 b).2 (.inl h'))
              · exact own2 b h'
              · exact .inl (base0 b (.inr (.inr (.inl h'))))
              · exact .inl (base0 b (.inr (.inr (.inr h'))))
              · rcases L2.pr.mb id b s hm with ⟨id1, s1, hm1⟩ | ⟨x, _, _⟩
                · rcases L1.pr.mb id1 b s1 hm1 with ⟨id0, s0, hm0⟩ | ⟨x, _, _⟩
                  · exact .inl ((hO b).2 (.inr (.inr (.inr (.inr ⟨⟨id0, s0, hm0⟩, hnm⟩)))))
                  · exact .inr x
                · exact .inr (by rw [put_size] at x; omega)
            · rcases L2.pr.K b o v hv with h' | (h' | h') | h'
              · rcases L1.pr.K b o v h' with g | g | g
                · exact .inl g
                · exact .inr (.inl (base0 b g))
                · exact .inr (.inr g)
              · exact .inr (own1 b h')
              · exact .inr (out1 b h')
              · exact .inr (.inr (by rw [put_size] at h'; omega))
            · refine ⟨W, lp.fn, _, asg, body, by have hy' := hy; simp only [lpOf, h1, h2, h3] at hy'; exact hy', fun caller rest => ?_⟩
              have hb0 : BOK lp.fn true (Frame.round l lp.fn (putAll A lp.params.toList AA) asg body .normal) (caller :: rest) := ⟨rfl, rfl, .inl rfl⟩
              have s1 := g1 _ (caller :: rest) [.beginRound, .code body] ⟨hb0, rfl⟩
              have s2 := g2 (Frame.round l lp.fn (putAll A lp.params.toList AA) asg body .normal) (caller :: rest) [] ⟨by rw [L1.rnd]; exact hb0, rfl⟩
              have s12 : Steps P (lone (Frame.round l lp.fn (putAll A lp.params.toList AA) asg body .normal) (caller :: rest) W) (lone (mkF (Frame.round l lp.fn (putAll A lp.params.toList AA) asg body .normal) A1 DS1 [.code body]) (caller :: rest) (W1.put l (.loop lpB))) := by
                refine Steps.trans s1 (.one ?_)
                exact st_beginRound (l := l) rfl hl1 (by simp [lpOf, hdone])
              cases e with
              | normal => exact s12.trans (Steps.trans s2 (.one (st_roundEnd (l := l) (r := lpB) rfl rfl hl2)))
              | exit i =>
                obtain ⟨k', q1, q2⟩ := s2
                exact s12.trans (q2.trans (.one (st_roundExit (l := l) (r := lpB) rfl rfl hl2 (by rw [q1]; rfl))))
              | ret =>
                obtain ⟨k', q2⟩ := s2
                exact s12.trans (q2.trans (.one (st_roundRet (l := l) (r := lpB) rfl rfl hl2)))
          · cases hr
        · cases hr
      · cases hr
end
end Go.Eng

/-
  THE ENGINE, 34: a loop over a function.
-/
namespace Go.Eng
open Go

attribute [local irreducible] upTo

section
variable {P : Program} {b : Frame} {A : Array Value} {DS : List Deferred} {k : List Item} {cs : List Frame} {W W' : World}

theorem st_rangeFunc_val {f : Operand} {params : Array Tmp} {asg body : Code} {g : Nat} {F C : Array Value} {R : Value} (hro : b.roundOf = none) (hf : (mkF b A DS []).eval f = .func (.func g) F C)
    (hc : (callFunc g (F.push (.func (.yield (W.heap.size + 1)) #[] #[]) ++ C)).run P ((W.alloc (.deferred (some []))).alloc (.loop (newLoop b A params asg body W.heap.size))) = .ok (.value R) W') :
    step P (lone (mkF b A DS (.code (.rangeFunc f params asg body) :: k)) cs W) =
      .next (lone (mkF b A ({ target := .collected W.heap.size, args := #[] } :: DS) (.endRangeFunc (W.heap.size + 1) :: k)) cs W') := by
  have h1 : (Instr.enterLoop b.fn A params asg body none).run P W = .ok (W.heap.size + 1, [{ target := .collected W.heap.size, args := #[] }]) ((W.alloc (.deferred (some []))).alloc (.loop (newLoop b A params asg body W.heap.size))) := by
    simp [Instr.enterLoop, newObj, Sem.run, newLoop]
  refine step_lone_go ?_
  have hf' : (mkF b A ({ target := .collected W.heap.size, args := #[] } :: DS) (.inRangeFunc (W.heap.size + 1) :: k)).eval f = .func (.func g) F C := by
    rw [mkF_eval]; rw [mkF_eval] at hf; exact hf
  have hy : (mkF b A ({ target := .collected W.heap.size, args := #[] } :: DS) (.inRangeFunc (W.heap.size + 1) :: k)).eval (.const (.func (.yield (W.heap.size + 1)) #[] #[])) = .func (.yield (W.heap.size + 1)) #[] #[] := rfl
  simp only [mkF, hro] at hf' hy ⊢
  simp [stepG, stepG.exec, Sem.runT_eq, hro, h1, stepG.apply, resolve, hf', hy, Deferred.ofValue, invoke, hc, Frame.finish]

theorem st_rangeFunc_in_val {f : Operand} {params : Array Tmp} {asg body : Code} {g l0 : Nat} {r0 : Loop} {F C : Array Value} {R : Value} (hro : b.roundOf = some l0) (hl : W.heap[l0]? = some (.loop r0)) (hf : (mkF b A DS []).eval f = .func (.func g) F C)
    (hc : (callFunc g (F.push (.func (.yield W.heap.size) #[] #[]) ++ C)).run P (W.alloc (.loop (newLoop b A params asg body r0.defers))) = .ok (.value R) W') :
    step P (lone (mkF b A DS (.code (.rangeFunc f params asg body) :: k)) cs W) =
      .next (lone (mkF b A DS (.endRangeFunc W.heap.size :: k)) cs W') := by
  have h1 : (Instr.enterLoop b.fn A params asg body (some l0)).run P W = .ok (W.heap.size, []) (W.alloc (.loop (newLoop b A params asg body r0.defers))) := by
    simp [Instr.enterLoop, Instr.getLoop, getObj, newObj, Sem.run, newLoop, hl]
  refine step_lone_go ?_
  have hf' : (mkF b A DS (.inRangeFunc W.heap.size :: k)).eval f = .func (.func g) F C := by
    rw [mkF_eval]; rw [mkF_eval] at hf; exact hf
  have hy : (mkF b A DS (.inRangeFunc W.heap.size :: k)).eval (.const (.func (.yield W.heap.size) #[] #[])) = .func (.yield W.heap.size) #[] #[] := rfl
  simp only [mkF, hro] at hf' hy ⊢
  simp [stepG, stepG.exec, Sem.runT_eq, h1, stepG.apply, resolve, hf', hy, Deferred.ofValue, invoke, hc, Frame.finish]
end

theorem exec_rangeFunc {E : Env} {call : CallF} {hs : List Hnd} {st : St} {f : Operand} {params : Array Tmp} {asg body : Code} : exec E call (.rangeFunc f params asg body) hs st = match ev st.τ f with
    | some (.fn g first caps) => match enter (hs.length + 1) st.σ (first ++ [.yld hs.length] ++ caps) with
      | none => none
      | some (args', σ', l) =>
        match call g args' σ' (hs.map deeper ++ [rangeH E call hs st.nt st.τ params asg body]) (⟨lend st.σ l, false, .normal⟩ :: st.Λ) with
        | some (_, σ'', lf :: Λ) => match leave hs.length lf.σ l undefA σ'' with
          | some (_, σ3) => some (lf.pend, { st with σ := σ3, Λ := Λ })
          | none => none
        | _ => none
    | _ => none := rfl

section
variable {P : Program} {E : Env} {call : CallF} {base : Nat} {inv : Inv} {V V' : View} {st : St} {A : Array Value} {DS : List Deferred} {M : List Nat} {O : OO} {W W' : World} {hs : List Hnd}

theorem HR.relv {σ : Hp} (H : HR E base V σ W) {lv' : Nat → Option Nat} (h : ∀ l x, V.lv l = some x → lv' l = some x) : HR E base { V with lv := lv' } σ W :=
  ⟨H.cell, H.glob, fun id o hid hne => by
    obtain ⟨blk, s, h1, h2, h3, h4⟩ := H.obj id o hid hne
    have hle : V.le { V with lv := lv' } := ⟨fun _ _ h => h, h, fun _ _ _ h => h, fun _ _ _ _ => rfl⟩
    exact ⟨blk, s, h1, h2, h3, h4.mono hle rfl (fun _ _ h => h) rfl⟩, H.inj, H.fresh, H.all⟩

/-- The frame's own in a world that has grown by itself. -/
theorem SR.grown (hcx : CxOK inv) (h : SR E base inv V st A DS M O W) (hf : Fr (fun _ => False) W W') : SR E base inv V st A DS M O W' := by
  have hlt : ∀ b, (O b ∨ Own V st.σ b ∨ b ∈ M) → b < W.heap.size := fun b hb => by
    rcases hb with hb | hb | hb
    · exact hcx.bound _ _ _ _ h.cx b hb
    · exact (Own.kind h.hr hb).1
    · exact lt_of_heap (h.mks b hb).1
  exact SR.others (V := V) (K' := V.K) hcx h (fun _ _ _ h => h) (fun _ _ _ h => .inl h) (fun b o v hv => by
    have hc := h.hr.cell b o v hv
    rw [cell_of_heap (hf.block b (block_lt hc) (fun h => h))]; exact hc) (fun b hb => hf.block b (hlt b hb) (fun h => h)) hf.size

/-- The loop is made. -/
theorem enterLoop_ok (hcx : CxOK inv) (h : SR E base inv V st A DS M O W) (fn : Nat) {rl : Option Nat} (hrl : RLOK inv rl) (f : Operand) (params : Array Tmp) (asg body : Code) :
    ∃ W1 lb lp DS1 M1, SR E base inv V st A DS1 M1 O W1 ∧ Fr (fun _ => False) W W1 ∧ W1.heap[lb]? = some (.loop lp) ∧ ¬ O lb ∧ W.heap.size ≤ lb ∧ (∀ r ∈ M1, r ∈ M ∨ W.heap.size ≤ r) ∧
      lp.state = .ready ∧ lp.pending = none ∧ lp.tmps = A ∧ lp.params = params ∧ lp.assign = asg ∧ lp.body = body ∧
      ∀ b cs k g F C, b.fn = fn → b.roundOf = rl → (mkF b A DS []).eval f = .func (.func g) F C →
        (∀ args W', (callFunc g (F.push (.func (.yield lb) #[] #[]) ++ C)).run P W1 = .ok (.enter g args) W' → step P (lone (mkF b A DS (.code (.rangeFunc f params asg body) :: k)) cs W) = .next (lone (Frame.enter P g args .normal) (mkF b A DS1 (.inRangeFunc lb :: k) :: cs) W')) ∧
        (∀ R W', (callFunc g (F.push (.func (.yield lb) #[] #[]) ++ C)).run P W1 = .ok (.value R) W' → step P (lone (mkF b A DS (.code (.rangeFunc f params asg body) :: k)) cs W) = .next (lone (mkF b A DS1 (.endRangeFunc lb :: k)) cs W')) := by
  have hbd := hcx.bound _ _ _ _ h.cx
  cases rl with
  | none =>
    let lp : Loop := { state := .ready, pending := none, fn := fn, tmps := A, params, assign := asg, body, defers := W.heap.size }
    let W1 := (W.alloc (.deferred (some []))).alloc (.loop lp)
    have hfr : Fr (fun _ => False) W W1 := (Fr.alloc _ W _).trans (Fr.alloc (fun _ => False) _ _) (fun _ _ h => h)
    have h1 := h.grown hcx hfr
    have hs1 : (W.alloc (.deferred (some []))).heap.size = W.heap.size + 1 := by simp
    have hmk : W1.heap[W.heap.size]? = some (.deferred (some [])) := by
      rw [heap_alloc _ _ _ (by rw [hs1]; omega)]; exact heap_alloc_self W _
    have hlb : W1.heap[W.heap.size + 1]? = some (.loop lp) := by rw [← hs1]; exact heap_alloc_self _ _
    have hnO : ∀ n, W.heap.size ≤ n → ¬ O n := fun n hn ho => by have := hbd n ho; omega
    have hnM : W.heap.size ∉ M := fun hm => by have := lt_of_heap (h.mks _ hm).1; omega
    refine ⟨W1, W.heap.size + 1, lp, { target := .collected W.heap.size, args := #[] } :: DS, W.heap.size :: M,
      ⟨h1.hr, h1.bs, h1.tm, h1.sz, .mark M _ _ _ hnM h1.ds, fun r hr => ?_, h1.cx, h1.dis⟩, hfr, hlb, hnO _ (by omega), by omega, fun r hr => ?_, rfl, rfl, rfl, rfl, rfl, rfl, fun b cs k g F C hb hro hf => ⟨fun args W' hc => ?_, fun R W' hc => ?_⟩⟩
    · rcases List.mem_cons.1 hr with rfl | hr
      · exact ⟨hmk, hnO _ (Nat.le_refl _)⟩
      · exact h1.mks r hr
    · rcases List.mem_cons.1 hr with rfl | hr
      · exact .inr (Nat.le_refl _)
      · exact .inl hr
    · subst hb; exact st_rangeFunc hro hf hc
    · subst hb; exact st_rangeFunc_val hro hf hc
  | some l0 =>
    obtain ⟨r0, hr0⟩ := hrl l0 rfl _ _ _ _ h.cx
    let lp : Loop := { state := .ready, pending := none, fn := fn, tmps := A, params, assign := asg, body, defers := r0.defers }
    let W1 := W.alloc (.loop lp)
    have hfr : Fr (fun _ => False) W W1 := Fr.alloc _ W _
    have h1 := h.grown hcx hfr
    have hlb : W1.heap[W.heap.size]? = some (.loop lp) := heap_alloc_self _ _
    refine ⟨W1, W.heap.size, lp, DS, M, h1, hfr, hlb, fun ho => by have := hbd _ ho; omega, Nat.le_refl _, fun r hr => .inl hr, rfl, rfl, rfl, rfl, rfl, rfl, fun b cs k g F C hb hro hf => ⟨fun args W' hc => ?_, fun R W' hc => ?_⟩⟩
    · subst hb; exact st_rangeFunc_in hro hr0 hf hc
    · subst hb; exact st_rangeFunc_in_val hro hr0 hf hc

open Classical in
theorem CodeOK.rangeFunc (hcall : CallOK P E call) {f : Operand} {params : Array Tmp} {asg body : Code} (hasg : CodeOK P E call base hs asg) (hbody : CodeOK P E call base hs body) : CodeOK P E call base hs (.rangeFunc f params asg body) := by
  intro inv hcx V st st' e A DS M O W fn rl hrl h hS hh
  rw [exec_rangeFunc] at h
  split at h
  · rename_i g first caps hev
    split at h
    · cases h
    · rename_i args' σ' l hent
      split at h
      · rename_i v0 σ2 lf Λ2 hcl
        split at h
        · rename_i v3 σ3 hlv3
          simp only [Option.some.injEq, Prod.mk.injEq] at h; obtain ⟨rfl, rfl⟩ := h
          obtain ⟨W1, lb, lp, DS1, M1, S1, f1, hlb, hnO, hlbs, hM1, p1, p2, p3, p4, p5, p6, hstep⟩ := enterLoop_ok hcx hS fn hrl f params asg body
          subst p4
          have hbd := hcx.bound _ _ _ _ hS.cx
          -- the callee
          let lv' : Nat → Option Nat := fun i => if i = hs.length then some lb else V.lv i
          have hlvle : ∀ i x, V.lv i = some x → lv' i = some x := by
            intro i x hx
            simp only [lv']
            rw [if_neg (by intro e; subst e; rw [hh.1 _ (Nat.le_refl _)] at hx; cases hx)]; exact hx
          have hVle : V.le { V with lv := lv' } := ⟨fun _ _ h => h, hlvle, fun _ _ _ h => h, fun _ _ _ _ => rfl⟩
          obtain ⟨F, C, hfv, hF, hC⟩ : ∃ F C : List Value, (mkF default A DS []).eval f = .func (.func g) F.toArray C.toArray ∧ VRs V first F ∧ VRs V caps C := by
            have hv := hS.evR default f _ hev
            generalize (mkF default A DS []).eval f = x at hv
            cases hv with
            | fn _ _ _ F C ha hb hav hbv => exact ⟨F, C, rfl, ⟨ha, hav⟩, ⟨hb, hbv⟩⟩
          have hargs : VRs { V with lv := lv' } (first ++ [.yld hs.length] ++ caps) (F ++ [.func (.yield lb) #[] #[]] ++ C) :=
            ((hF.mono hVle).append (.cons (.yld _ _ (by simp [lv'])) (.nil _))).append (hC.mono hVle)
          obtain ⟨Vc, hE, hargs'⟩ := enter_spec (S1.hr.relv hlvle) hargs hent
          have hVcm : ∀ j, Vc.m j = (l[j]?).bind V.m := hE.m
          have hVcK : Vc.K = V.K := hE.K
          have hVcN : Vc.N = V.N := hE.N
          have hVclv : Vc.lv = lv' := hE.lv
          have hmaps : ∀ i ∈ l, ∃ x, V.m i = some x := hE.maps
          have hlend : ∀ b, Own V (lend st.σ l) b → Own V st.σ b := fun b ⟨id, s, hlv, hm⟩ => ⟨id, s, (lend_live hlv).2, hm⟩
          have hvc : ∀ b, Own Vc σ' b → Own V st.σ b := fun b hb => by obtain ⟨i, s, _, g1, g2⟩ := hE.own b hb; exact ⟨i, s, g1, g2⟩
          have hnn : ∀ b, ¬ NewM V V b := fun b hb => hb.2 hb.1
          let O1 : OO := fun b => O b ∨ Own V (lend st.σ l) b ∨ b ∈ M1 ∨ b = lb ∨ NewM V V b
          have hlp : lpOf lp ⟨lend st.σ l, false, .normal⟩ = lp := by
            cases lp; simp only at p1 p2; subst p1; subst p2; rfl
          have hci : loopInv E base inv V st A DS1 M1 O W1.heap.size lb lp (⟨lend st.σ l, false, .normal⟩ :: st.Λ) V.K O1 W1 :=
            ⟨⟨lend st.σ l, false, .normal⟩, st.Λ, V, O, rfl, fun _ => Iff.rfl, ⟨S1.hr.lend hmaps, S1.bs, S1.tm, S1.sz, S1.ds, S1.mks, S1.cx, fun b hb => S1.dis b (hlend b hb)⟩, rfl, rfl, View.le.refl V, by rw [hlp]; exact hlb, hnO,
              ⟨Nat.le_refl _, fun b hb => .inl (hlend b hb), fun b hb => .inl hb, fun b hb => absurd hb (hnn b), fun _ _ h => .inl h, Nat.le_of_eq (lend_n l st.σ).symm⟩⟩
          have hhk : HOK P (loopInv E base inv V st A DS1 M1 O W1.heap.size lb lp) Vc.lv (hs.map deeper ++ [rangeH E call hs st.nt st.τ lp.params asg body]) := by
            rw [hVclv]
            refine ⟨fun i hi => ?_, fun lvl hd lb' h1 h2 => ?_⟩
            · simp only [List.length_append, List.length_map, List.length_cons, List.length_nil] at hi
              simp only [lv']; rw [if_neg (by omega)]; exact hh.1 i (by omega)
            · by_cases hl : lvl < hs.length
              · rw [List.getElem?_append_left (by simpa using hl), List.getElem?_map] at h1
                obtain ⟨h0, hh0, rfl⟩ := Option.map_eq_some_iff.1 h1
                simp only [lv'] at h2; rw [if_neg (by omega)] at h2
                exact (hh.2 lvl h0 lb' hh0 h2).deeper hcx lb lp
              · rw [List.getElem?_append_right (by simpa using hl)] at h1
                have he : lvl = hs.length := by
                  have := (List.getElem?_eq_some_iff.1 h1).1
                  simp at this; omega
                subst he
                simp only [List.length_map, Nat.sub_self, List.getElem?_cons_zero, Option.some.injEq] at h1
                simp only [lv', if_true, Option.some.injEq] at h2
                subst h1; subst h2
                exact round_ok hcx hasg hbody hh p3 p5 p6
          have hdis : ∀ b, Own Vc σ' b → ¬ O1 b := by
            intro b hb ho
            obtain ⟨i, s, hi, g1, g2⟩ := hE.own b hb
            rcases ho with ho | ⟨i', s', hl', hm'⟩ | ho | ho | ho
            · exact S1.dis b (hvc b hb) ho
            · have := S1.hr.inj _ _ _ _ _ g1 (lend_live hl').2 g2 hm'
              subst this
              exact (lend_live hl').1 hi
            · exact (Own.kind S1.hr (hvc b hb)).2 (S1.mks b ho).1
            · have := (Own.kind hS.hr (hvc b hb)).1; omega
            · exact hnn b ho
          obtain ⟨V2, O2, W2, R, P2, H2, hi2, hd2, hv2, hg⟩ := hcall _ _ _ _ _ _ _ _ hcl base (loopInv E base inv V st A DS1 M1 O W1.heap.size lb lp) Vc _ O1 W1 (loopInv_ok hcx lb lp) hhk hE.hr S1.bs hargs' (by rw [hVcK]; exact hci) hdis
          obtain ⟨lf', Λ0, V0, O3, heq, hO2, S2, hK0, hlv0, hle0, hl2, hn2, hgr⟩ := hi2
          simp only [List.cons.injEq] at heq; obtain ⟨rfl, rfl⟩ := heq
          have hlend2 : ∀ b, Own V0 (lend lf.σ l) b → Own V0 lf.σ b := fun b ⟨id, s, hlv, hm⟩ => ⟨id, s, (lend_live hlv).2, hm⟩
          have hVcV : ∀ id b s, Vc.m id = some (b, s) → ∃ i, V.m i = some (b, s) := by
            intro id b s hm
            rw [hVcm] at hm
            obtain ⟨i, _, h2⟩ := Option.bind_eq_some_iff.1 hm
            exact ⟨i, h2⟩
          have hret : Ret E base V0 lf.σ l V2 σ2 hs.length W2 := by
            refine ⟨S2.hr.lend (fun i hi => by obtain ⟨x, hx⟩ := hmaps i hi; exact ⟨x, hle0.m _ _ hx⟩), H2, hK0, fun j i x hj hx => ?_, fun i hi => by obtain ⟨x, hx⟩ := hmaps i hi; exact ⟨x, hle0.m _ _ hx⟩, fun i x hi hx => ?_, fun i b s hm id s' hid => ?_, fun b hb ho => ?_⟩
            · obtain ⟨x', hx'⟩ := hmaps i (List.mem_of_getElem? hj)
              have := hle0.m _ _ hx'
              rw [hx] at this; simp only [Option.some.injEq] at this; subst this
              exact P2.le.m _ _ (by rw [hVcm, hj]; exact hx')
            · rw [P2.lv, hVclv] at hx
              simp only [lv'] at hx; rw [if_neg (by omega)] at hx
              rw [hlv0]; exact hx
            · rcases P2.mb _ _ _ hm with ⟨id', s'', h'⟩ | ⟨h', _, hno⟩
              · obtain ⟨i', hi'⟩ := hVcV _ _ _ h'
                rw [P2.le.N _ _ _ h', hVcN, hle0.N _ _ _ hi']
              · refine absurd ((hO2 b).2 (.inr (.inr (.inr (.inr ⟨⟨id, s', hid⟩, ?_⟩))))) hno
                rintro ⟨id1, s1, hm1⟩
                have := (S1.hr.fresh _ _ hm1).2; simp only at this; omega
            · exact hd2 b hb ((hO2 b).2 (.inr (.inl (hlend2 b ho))))
          obtain ⟨V3, hB, _⟩ := leave_spec hret (undef_VR V2) hlv3
          have hle : V.le V3 := hle0.trans hB.le
          let lpE : Loop := { lpOf lp lf with state := .exhausted }
          let W3 : World := W2.put lb (.loop lpE)
          have hbl : ∀ b, b < W.heap.size → b ≠ lb := fun b hb e => by omega
          have hml : ∀ r ∈ M1, r ≠ lb := fun r hr e => by subst e; rw [(S2.mks r hr).1] at hl2; cases hl2
          have hsz1 := f1.size
          have hsz2 := P2.fr.size
          have hS3 : SR E base inv V3 { st with σ := σ3, Λ := Λ2 } A DS1 M1 O3 W3 := by
            refine ⟨hB.hr.reloop hl2, by rw [put_size]; exact S2.bs, fun t a ht => (hS.tm t a ht).mono hle, hS.sz, S1.ds.mono hle, fun r hr => ⟨by rw [put_other W2 lb _ (hml r hr)]; exact (S2.mks r hr).1, (S2.mks r hr).2⟩, ?_, fun b hb ho => ?_⟩
            · have := inv_reloop (lp' := lpE) hcx S2.cx S2.hr.cell hl2 hn2
              rw [hB.K]; exact this
            · rcases hB.own b hb with x | x
              · exact hd2 b x ((hO2 b).2 (.inl ho))
              · exact S2.dis b (hlend2 b x) ho
          have hP3 : Prg V st.σ O W V3 σ3 O3 W3 := by
            refine ⟨hle, hB.lv.trans hlv0, ⟨P2.fr.os.trans f1.os, P2.fr.tape.trans f1.tape, P2.fr.output.trans f1.output, by rw [put_size]; omega, fun b hb hno => ?_⟩, fun b hb => ?_, fun b hb => ?_, fun id b s hm => ?_, fun b o v hv => ?_, fun id x hx => (hB.nm id x hx).elim (hgr.nm id x) (fun y => .inr (Nat.le_trans hgr.nn y)), Nat.le_trans hgr.nn hB.nn⟩
            · rw [put_other W2 lb _ (hbl b hb)]
              by_cases hm : b ∈ M
              · by_cases hm1 : b ∈ M1
                · exact ((S2.mks b hm1).1).trans (hS.mks b hm).1.symm
                · rw [P2.fr.block b (by omega) (fun ho => ?_)]
                  · exact f1.block b hb (fun h => h)
                  · rcases ho with x | x | x | x | x | x
                    · exact hno (.inl (hvc b x))
                    · exact hno (.inr x)
                    · exact hno (.inl (hlend b x))
                    · exact hm1 x
                    · exact hbl b hb x
                    · exact hnn b x
              · rw [P2.fr.block b (by omega) (fun ho => ?_)]
                · exact f1.block b hb (fun h => h)
                · rcases ho with x | x | x | x | x | x
                  · exact hno (.inl (hvc b x))
                  · exact hno (.inr x)
                  · exact hno (.inl (hlend b x))
                  · exact (hM1 b x).elim hm (fun y => by omega)
                  · exact hbl b hb x
                  · exact hnn b x
            · rcases hB.own b hb with x | x
              · rcases P2.own b x with y | y
                · exact .inl (hvc b y)
                · exact .inr (by omega)
              · rcases hgr.own b (hlend2 b x) with y | y
                · exact .inl y
                · exact .inr (by omega)
            · rcases hgr.out b hb with y | y
              · exact .inl y
              · exact .inr (by omega)
            · rcases hB.mb id b s hm with ⟨id', s', x⟩ | ⟨i, s', x⟩
              · by_cases hex : ∃ id s, V.m id = some (b, s)
                · exact .inl hex
                · have := hgr.mb b ⟨⟨id', s', x⟩, hex⟩
                  have hlt := (S2.hr.fresh _ _ x).2
                  simp only at hlt
                  exact .inr ⟨by omega, by rw [put_size]; exact hlt, this.2⟩
              · rcases P2.mb _ _ _ x with ⟨id', s'', y⟩ | ⟨y1, y2, y3⟩
                · obtain ⟨i', hi'⟩ := hVcV _ _ _ y
                  exact .inl ⟨i', s'', hi'⟩
                · exact .inr ⟨by omega, by rw [put_size]; exact y2, fun ho => y3 ((hO2 b).2 (.inl ho))⟩
            · rw [hB.K, hK0] at hv
              rcases P2.K b o v hv with x | (x | x | x | x | x | x) | x
              · rw [hVcK] at x; exact .inl x
              · exact .inr (.inl (.inl (hvc b x)))
              · exact .inr (.inl (.inr x))
              · exact .inr (.inl (.inl (hlend b x)))
              · exact (cell_mark (S2.mks b x).1 (H2.cell _ _ _ hv)).elim
              · exact .inr (.inr (by omega))
              · exact absurd x (hnn b)
              · exact .inr (.inr (by omega))
          refine ⟨V3, A, DS1, M1, O3, W3, ⟨hS3, hP3, rfl, hM1⟩, fun b cs k hb => ?_⟩
          have hev' : (mkF b A DS []).eval f = .func (.func g) F.toArray C.toArray := by
            rw [mkF_eval]; rw [mkF_eval] at hfv; exact hfv
          have harr : (F.toArray.push (.func (.yield lb) #[] #[]) ++ C.toArray) = (F ++ [Value.func (.yield lb) #[] #[]] ++ C).toArray := by simp
          obtain ⟨s1, s2⟩ := hstep b cs k g F.toArray C.toArray hb.1.fn hb.2 hev'
          rw [harr] at s1 s2
          have hto : Steps P (lone (mkF b A DS (.code (.rangeFunc f lp.params asg body) :: k)) cs W) (lone (mkF b A DS1 (.endRangeFunc lb :: k)) cs W2) := by
            cases hg with
            | value hv => exact .one (s2 _ _ hv)
            | enter Wm hv hst =>
              refine .head (s1 _ _ hv) ?_
              exact hst .normal (mkF b A DS1 (.inRangeFunc lb :: k)) cs (.inl rfl)
          have hend := st_endRangeFunc (P := P) (b := b) (A := A) (DS := DS1) (k := k) (cs := cs) hl2 (by simp only [lpOf]; split <;> simp)
          refine .of_steps (hto.trans (.one hend)) ?_
          cases hp : lf.pend with
          | normal =>
            have e : ((lpOf lp lf).pending.map Item.code).toList = [] := by simp only [lpOf, hp, jumpOf]; rfl
            rw [e]; exact Steps.refl P _
          | exit i =>
            have e : ((lpOf lp lf).pending.map Item.code).toList = [.code (.exit i)] := by simp only [lpOf, hp, jumpOf]; rfl
            rw [e]; exact ⟨k, rfl, Steps.refl P _⟩
          | ret =>
            have e : ((lpOf lp lf).pending.map Item.code).toList = [.code .ret] := by simp only [lpOf, hp, jumpOf]; rfl
            rw [e]; exact ⟨k, Steps.refl P _⟩
        · cases h
      · cases h
  · cases h
end
end Go.Eng

/-
  THE ENGINE, 35: regions whose order is drawn: sets of numbers, what an operation looks at.
-/
namespace Go.Eng
open Go

/-! ### Sets of numbers -/

theorem msHas_testBit (m i : Nat) : msHas m i = m.testBit i := by
  have e : (m >>> i) &&& 1 = (m >>> i) % 2 := Nat.and_one_is_mod _
  have h2 : (m >>> i) % 2 = 0 ∨ (m >>> i) % 2 = 1 := by omega
  have h1 : m.testBit i = ((m >>> i) % 2 != 0) := by
    rw [Nat.testBit, Nat.and_comm, e]
  rw [h1]
  show Nat.beq ((m >>> i) &&& 1) 1 = _
  rw [e]
  rcases h2 with h | h <;> rw [h] <;> rfl

theorem msHas_zero (i : Nat) : msHas 0 i = false := by rw [msHas_testBit]; exact Nat.zero_testBit i
theorem msHas_lor (a b i : Nat) : msHas (Nat.lor a b) i = (msHas a i || msHas b i) := by
  simp only [msHas_testBit]; exact Nat.testBit_or a b i
theorem msHas_land (a b i : Nat) : msHas (Nat.land a b) i = (msHas a i && msHas b i) := by
  simp only [msHas_testBit]; exact Nat.testBit_and a b i
theorem msHas_one (t i : Nat) : msHas (Nat.shiftLeft 1 t) i = true ↔ i = t := by
  rw [msHas_testBit]
  have : (1 <<< t).testBit i = (decide (i ≥ t) && (1 : Nat).testBit (i - t)) := Nat.testBit_shiftLeft 1
  show (1 <<< t).testBit i = true ↔ _
  rw [this]
  constructor
  · intro h
    simp only [ge_iff_le, Bool.and_eq_true, decide_eq_true_eq] at h
    have h2 : i - t = 0 := by
      cases e : i - t with
      | zero => rfl
      | succ n =>
        rw [e] at h
        have : (1 : Nat).testBit (n + 1) = false := by rw [Nat.testBit_succ]; simp
        rw [this] at h; exact absurd h.2 (by simp)
    omega
  · rintro rfl; simp
theorem msHas_add (m i j : Nat) : msHas (msAdd m i) j = true ↔ msHas m j = true ∨ j = i := by
  unfold msAdd
  rw [msHas_lor, Bool.or_eq_true, msHas_one]
theorem msSub_spec {a b : Nat} (h : msSub a b = true) {i : Nat} (hi : msHas a i = true) : msHas b i = true := by
  have e : Nat.land a b = a := Nat.eq_of_beq_eq_true h
  rw [← e, msHas_land, Bool.and_eq_true] at hi
  exact hi.2
theorem msHas_ne {m i : Nat} (h : msHas m i = true) : Nat.beq m 0 = false := by
  cases e : Nat.beq m 0 with
  | false => rfl
  | true => have := Nat.eq_of_beq_eq_true e; subst this; rw [msHas_zero] at h; cases h

/-! ### What an operation looks at -/

section
variable {E : Env} {τ τ' : Tmps} {σ : Hp}

theorem mO_congr {x : Operand} (h : ∀ t, msHas (mO x) t = true → τ.get t = τ'.get t) : ev τ x = ev τ' x := by
  cases x with
  | tmp t => exact h t ((msHas_one t t).2 rfl)
  | _ => rfl
theorem lor_l {a b : Nat} {p : Nat → Prop} (h : ∀ t, msHas (Nat.lor a b) t = true → p t) : ∀ t, msHas a t = true → p t := fun t ht => h t (by rw [msHas_lor, ht]; rfl)
theorem lor_r {a b : Nat} {p : Nat → Prop} (h : ∀ t, msHas (Nat.lor a b) t = true → p t) : ∀ t, msHas b t = true → p t := fun t ht => h t (by rw [msHas_lor, ht]; simp)
theorem mL_congr {l : List Operand} (h : ∀ t, msHas (mL l) t = true → τ.get t = τ'.get t) : ∀ x ∈ l, ev τ x = ev τ' x := by
  induction l with
  | nil => intro x hx; cases hx
  | cons y l ih =>
    intro x hx
    rcases List.mem_cons.1 hx with rfl | hx
    · exact mO_congr (lor_l h)
    · exact ih (lor_r h) x hx
theorem mP_congr {l : List (Nat × Operand)} (h : ∀ t, msHas (mP l) t = true → τ.get t = τ'.get t) : ∀ x ∈ l.map (·.2), ev τ x = ev τ' x := by
  induction l with
  | nil => intro x hx; cases hx
  | cons y l ih =>
    obtain ⟨i, y⟩ := y
    intro x hx
    simp only [List.map_cons, List.mem_cons] at hx
    rcases hx with rfl | hx
    · exact mO_congr (lor_l h)
    · exact ih (lor_r h) x hx
theorem mQ_congr {x : Option Operand} (h : ∀ t, msHas (mQ x) t = true → τ.get t = τ'.get t) : optA τ x = optA τ' x := by
  cases x with
  | none => rfl
  | some x => simp only [optA]; rw [mO_congr h]
theorem mC_congr {c : Call} (h : ∀ t, msHas (mC c) t = true → τ.get t = τ'.get t) : callV E τ σ c = callV E τ' σ c := by
  obtain ⟨callee, args, tys⟩ := c
  cases callee with
  | value f =>
    have ha : evs τ args.toList = evs τ' args.toList := evs_congr (mL_congr (lor_r h))
    have hf : ev τ f = ev τ' f := mO_congr (lor_l h)
    simp only [callV, ha, hf]
  | invoke r m =>
    have ha : evs τ args.toList = evs τ' args.toList := evs_congr (mL_congr h)
    simp only [callV, ha]
  | builtin b =>
    have ha : evs τ args.toList = evs τ' args.toList := evs_congr (mL_congr h)
    simp only [callV, ha]

theorem uses_congr (o : Op) (h : ∀ t, msHas (uses o) t = true → τ.get t = τ'.get t) : op E τ σ o = op E τ' σ o := by
  cases o with
  | call c => simp only [op]; rw [mC_congr h]
  | defer c => simp only [op]; rw [mC_congr h]
  | build t ps =>
    have := evParts_congr (τ := τ) (τ' := τ') (l := ps.toList) (mP_congr h)
    simp only [op, this]
  | buildSlice t n ps =>
    have := evParts_congr (τ := τ) (τ' := τ') (l := ps.toList) (mP_congr h)
    simp only [op, this]
  | makeFunc f first caps =>
    have h1 := evs_congr (τ := τ) (τ' := τ') (l := first.toList) (mL_congr (lor_l h))
    have h2 := evs_congr (τ := τ) (τ' := τ') (l := caps.toList) (mL_congr (lor_r h))
    cases f <;> simp only [op, h1, h2]
  | makeMap t r => cases r <;> simp only [op]
  | slice t x lo hi m =>
    have h0 : ev τ x = ev τ' x := mO_congr (lor_l h)
    have h1 : optA τ lo = optA τ' lo := mQ_congr (lor_l (lor_r h))
    have h2 : optA τ hi = optA τ' hi := mQ_congr (lor_r (lor_r h))
    cases m <;> simp only [op, h0, h1, h2]
  | pick c a b => simp only [op, mO_congr (lor_l h), mO_congr (lor_l (lor_r h)), mO_congr (lor_r (lor_r h))]
  | store t a v => simp only [op, mO_congr (lor_l h), mO_congr (lor_r h)]
  | binOp b t a v u => simp only [op, mO_congr (lor_l h), mO_congr (lor_r h)]
  | makeSlice t a v => simp only [op, mO_congr (lor_l h), mO_congr (lor_r h)]
  | indexAddr t a v => simp only [op, mO_congr (lor_l h), mO_congr (lor_r h)]
  | index t a v => simp only [op, mO_congr (lor_l h), mO_congr (lor_r h)]
  | lookup t a v ok => simp only [op, mO_congr (lor_l h), mO_congr (lor_r h)]
  | mapUpdate t a v w => simp only [op, mO_congr (lor_l h), mO_congr (lor_l (lor_r h)), mO_congr (lor_r (lor_r h))]
  | insert t a v w => simp only [op, mO_congr (lor_l h), mO_congr (lor_l (lor_r h)), mO_congr (lor_r (lor_r h))]
  | move x => simp only [op, mO_congr h]
  | assign x => simp only [op, mO_congr h]
  | box t x => simp only [op, mO_congr h]
  | load t x => simp only [op, mO_congr h]
  | nilCheck x => simp only [op, mO_congr h]
  | unOp u t x => simp only [op, mO_congr h]
  | convert s d x => simp only [op, mO_congr h]
  | makeInterface t x => simp only [op, mO_congr h]
  | fieldAddr t x i => simp only [op, mO_congr h]
  | field t x i => simp only [op, mO_congr h]
  | range t x => simp only [op, mO_congr h]
  | next x b => cases b <;> simp only [op, mO_congr h]
  | typeAssert x t a ok => simp only [op, mO_congr h]
  | extract x i => simp only [op, mO_congr h]
  | _ => simp only [op]

/-! ### Operations that turn nothing -/

/-- What an operation comes to where memory is as it is. -/
def Quiet (E : Env) (τ : Tmps) (o : Op) (v : AV) (σ : Hp) : Prop := op E τ σ o = some (.val v σ)

theorem map_val {x : Option AV} {r : Res} (h : x.map (.val · σ) = some r) : ∃ v, r = .val v σ ∧ ∀ σ2 : Hp, x.map (Res.val · σ2) = some (.val v σ2) := by
  obtain ⟨v, rfl, rfl⟩ := Option.map_eq_some_iff.1 h
  exact ⟨v, rfl, fun _ => rfl⟩

theorem mm_spec {b : Builtin} (hb : b = .max ∨ b = .min) {ats : Array TypeId} {args : List AV} {r : Res} (h : builtinV E σ b ats args = some r) : ∃ v, r = .val v σ ∧ ∀ σ2, builtinV E σ2 b ats args = some (.val v σ2) := by
  rcases hb with rfl | rfl
  · match args, h with
    | [.int k a, .int k' b], h =>
      simp only [builtinV] at h ⊢
      split at h
      · rename_i hk; simp only [Option.some.injEq] at h; subst h; exact ⟨_, rfl, fun _ => rfl⟩
      · cases h
  · match args, h with
    | [.int k a, .int k' b], h =>
      simp only [builtinV] at h ⊢
      split at h
      · rename_i hk; simp only [Option.some.injEq] at h; subst h; exact ⟨_, rfl, fun _ => rfl⟩
      · cases h

theorem pure_spec (o : Op) (hc : cls o = 2) {r : Res} (h : op E τ σ o = some r) : ∃ v, r = .val v σ ∧ ∀ σ2, op E τ σ2 o = some (.val v σ2) := by
  cases o with
  | move x => simp only [op] at h ⊢; exact map_val h
  | assign x => simp only [op] at h ⊢; exact map_val h
  | pick c a b =>
    simp only [op] at h ⊢
    split at h
    · exact map_val h
    · exact map_val h
    · cases h
  | build t ps =>
    simp only [op] at h ⊢
    split at h
    · split at h
      · obtain ⟨cs, h1, rfl⟩ := Option.map_eq_some_iff.1 h
        exact ⟨_, rfl, fun σ2 => by simp only [h1]; rfl⟩
      · obtain ⟨cs, h1, rfl⟩ := Option.map_eq_some_iff.1 h
        exact ⟨_, rfl, fun σ2 => by simp only [h1]; rfl⟩
      · cases h
    · cases h
  | nilCheck x =>
    simp only [op] at h ⊢
    split at h <;> first | (simp only [Option.some.injEq] at h; subst h; exact ⟨_, rfl, fun _ => rfl⟩) | cases h
  | binOp b t x y c =>
    simp only [op] at h ⊢
    split at h
    · exact map_val h
    · cases h
  | unOp u t x =>
    simp only [op] at h ⊢
    split at h
    · exact map_val h
    · cases h
  | makeInterface t x =>
    simp only [op] at h ⊢
    split at h <;> first | (simp only [Option.some.injEq] at h; subst h; exact ⟨_, rfl, fun _ => rfl⟩) | cases h
  | makeFunc f a b =>
    cases f <;> simp only [op] at h ⊢
    · split at h <;> first | (simp only [Option.some.injEq] at h; subst h; exact ⟨_, rfl, fun _ => rfl⟩) | cases h
    all_goals cases h
  | fieldAddr t x i =>
    simp only [op] at h ⊢
    split at h
    · split at h
      · split at h <;> first | (simp only [Option.some.injEq] at h; subst h; exact ⟨_, rfl, fun _ => rfl⟩) | cases h
      · cases h
    · cases h
  | field t x i =>
    simp only [op] at h ⊢
    split at h
    · split at h
      · exact map_val h
      · cases h
    · cases h
  | indexAddr t x i =>
    simp only [op] at h ⊢
    split at h
    all_goals first
      | cases h
      | (obtain ⟨j, h1, rfl⟩ := Option.map_eq_some_iff.1 h
         exact ⟨_, rfl, fun σ2 => by simp only [h1]; rfl⟩)
  | index t x i =>
    simp only [op] at h ⊢
    split at h
    · split at h
      · exact map_val h
      · cases h
    · obtain ⟨j, h1, rfl⟩ := Option.map_eq_some_iff.1 h
      exact ⟨_, rfl, fun σ2 => by simp only [h1]; rfl⟩
    · cases h
  | typeAssert x t a ok =>
    simp only [op] at h ⊢
    split at h
    · cases h
    · split at h
      · simp only [Option.some.injEq] at h; subst h; exact ⟨_, rfl, fun _ => rfl⟩
      · cases h
    · split at h
      · simp only [Option.some.injEq] at h; subst h; exact ⟨_, rfl, fun _ => rfl⟩
      · split at h
        · simp only [Option.some.injEq] at h; subst h; exact ⟨_, rfl, fun _ => rfl⟩
        · cases h
    · cases h
  | extract x i =>
    simp only [op] at h ⊢
    split at h
    · exact map_val h
    · cases h
  | call c =>
    obtain ⟨callee, args, tys⟩ := c
    cases callee with
    | builtin b =>
      have hb : b = .max ∨ b = .min := by
        cases b <;> first | (simp [cls] at hc; done) | simp
      simp only [op, callV] at h ⊢
      split at h
      · cases h
      · exact mm_spec hb h
    | _ => simp [cls] at hc
  | _ => simp [cls] at hc
end
end Go.Eng

/-
  THE ENGINE, 36: operations that look at memory see the same in memory that has more.
-/
namespace Go.Eng
open Go

def Hp.le (σ σ2 : Hp) : Prop := ∀ id x, σ.get id = some x → σ2.get id = some x

section
variable {E : Env} {τ : Tmps} {σ σ2 : Hp}

theorem loadC_mono (hl : σ.le σ2) {a : AV} {n : Nat} {l : List AV} (h : loadC E σ a n = some l) : loadC E σ2 a n = some l := by
  unfold loadC at h ⊢
  split at h
  · split at h
    · rename_i hg; simp only [hl _ _ hg]; exact h
    · cases h
  · exact h
  · exact h
  · cases h

theorem loadV_mono (hl : σ.le σ2) {t : Nat} {a v : AV} (h : loadV E σ t a = some v) : loadV E σ2 t a = some v := by
  unfold loadV at h ⊢
  split at h
  · obtain ⟨l, h1, h2⟩ := Option.map_eq_some_iff.1 h
    simp only [loadC_mono hl h1, Option.map_some, h2]
  · split at h
    · rename_i h1; simp only [loadC_mono hl h1]; exact h
    · cases h
  · cases h

theorem elemsOf_mono (hl : σ.le σ2) {n : Nat} {x : AV} {r : List AV × Nat} (h : elemsOf σ n x = some r) : elemsOf σ2 n x = some r := by
  unfold elemsOf at h ⊢
  split at h
  · exact h
  · split at h
    · rename_i hg; simp only [hl _ _ hg]; exact h
    · cases h
  · exact h
  · exact h
  · cases h

theorem convV_mono {s d : Nat} {x : AV} {r : AV × Hp} (h : convV E σ s d x = some r) : r.2 = σ ∧ ∀ σ2, σ.le σ2 → convV E σ2 s d x = some (r.1, σ2) := by
  unfold convV at h
  split at h
  · rename_i h1 h2
    simp only [Option.some.injEq] at h; subst h
    exact ⟨rfl, fun σ2 _ => by unfold convV; simp only [h1, h2]⟩
  · rename_i h1 h2
    simp only [Option.some.injEq] at h; subst h
    exact ⟨rfl, fun σ2 _ => by unfold convV; simp only [h1, h2]⟩
  · rename_i h1 h2
    split at h
    · rename_i h3
      simp only [Option.some.injEq] at h; subst h
      exact ⟨rfl, fun σ2 _ => by unfold convV; simp only [h1, h2, h3]⟩
    · cases h
  · cases h
  · rename_i x _ _ _ e hns h1 h2
    split at h
    · rename_i cs n h3 h4
      split at h
      · rename_i s' h5
        simp only [Option.some.injEq] at h; subst h
        refine ⟨rfl, fun σ2 hl => ?_⟩
        have h6 := elemsOf_mono hl h4
        cases x with
        | str s => exact absurd rfl (h2 s)
        | _ => simp only [convV, hns, h1, h3, h6, h5]
      · cases h
    · cases h
  · cases h

theorem sliceV_mono (hl : σ.le σ2) {t : Nat} {x v : AV} {lo hi : Option AV} (h : sliceV E σ t x lo hi = some v) : sliceV E σ2 t x lo hi = some v := by
  unfold sliceV at h
  split at h
  case h_5 =>
    rename_i h1
    split at h
    · rename_i h2
      split at h
      · rename_i h3
        split at h
        · rename_i h4
          unfold sliceV
          simp only [h1, h2, h3, hl _ _ h4]
          exact h
        · cases h
      · cases h
    · cases h
  case h_6 => cases h
  all_goals
    rename_i h1
    unfold sliceV
    simp only [h1]
    exact h

/-- What is seen in memory is seen in memory that has more. -/
theorem look_spec (o : Op) (hc : cls o = 1) {r : Res} (h : op E τ σ o = some r) : ∃ v, r = .val v σ ∧ ∀ σ2, σ.le σ2 → op E τ σ2 o = some (.val v σ2) := by
  cases o with
  | load t a =>
    simp only [op] at h ⊢
    split at h
    · obtain ⟨v, h1, rfl⟩ := Option.map_eq_some_iff.1 h
      exact ⟨v, rfl, fun σ2 hl => by simp only [loadV_mono hl h1, Option.map_some]⟩
    · cases h
  | convert s d x =>
    simp only [op] at h ⊢
    split at h
    · obtain ⟨q, h1, rfl⟩ := Option.map_eq_some_iff.1 h
      obtain ⟨h2, h3⟩ := convV_mono h1
      exact ⟨q.1, by rw [h2], fun σ2 hl => by simp only [h3 σ2 hl, Option.map_some]⟩
    · cases h
  | slice t x lo hi m =>
    cases m with
    | some m => simp only [op] at h; cases h
    | none =>
      simp only [op] at h ⊢
      split at h
      · obtain ⟨v, h1, rfl⟩ := Option.map_eq_some_iff.1 h
        exact ⟨v, rfl, fun σ2 hl => by simp only [sliceV_mono hl h1, Option.map_some]⟩
      · cases h
  | lookup t x k ok =>
    simp only [op] at h ⊢
    split at h
    · rename_i e m kv kt h1 h2 h3 h4
      cases m with
      | nilm =>
        simp only at h ⊢
        split at h
        · split at h
          · rename_i h8
            simp only [Option.some.injEq] at h; subst h
            exact ⟨_, rfl, fun σ2 hl => rfl⟩
          · rename_i h8
            simp only [Option.some.injEq] at h; subst h
            exact ⟨_, rfl, fun σ2 hl => rfl⟩
          · cases h
        · cases h
      | mp id =>
        simp only at h ⊢
        cases hg : σ.get id with
        | none => simp only [hg] at h; cases h
        | some ob =>
          cases ob with
          | map es =>
            simp only [hg] at h
            split at h
            · rename_i es' z h5 h6
              simp only [Option.some.injEq] at h5; subst h5
              split at h
              · rename_i h8
                simp only [Option.some.injEq] at h; subst h
                exact ⟨_, rfl, fun σ2 hl => by simp only [hl _ _ hg, h6, h8]⟩
              · rename_i h8
                simp only [Option.some.injEq] at h; subst h
                exact ⟨_, rfl, fun σ2 hl => by simp only [hl _ _ hg, h6, h8]⟩
              · cases h
            · cases h
          | _ => simp only [hg] at h; cases h
      | _ => cases h
    · cases h
  | call c =>
    obtain ⟨callee, args, tys⟩ := c
    cases callee with
    | builtin b =>
      have hb : b = .len := by cases b <;> first | rfl | (simp [cls] at hc; done)
      subst hb
      simp only [op, callV] at h ⊢
      split at h
      · cases h
      · rename_i az has
        match az, h with
        | [x], h =>
          simp only [builtinV] at h ⊢
          split at h
          case h_6 =>
            rename_i h1 _
            split at h
            · rename_i h2
              simp only [Option.some.injEq] at h; subst h
              exact ⟨_, rfl, fun σ2 hl => by simp only [hl _ _ h2]⟩
            · cases h
          case h_8 => cases h
          all_goals
            simp only [Option.some.injEq] at h; subst h
            exact ⟨_, rfl, fun σ2 hl => rfl⟩
    | _ => simp [cls] at hc
  | _ => simp [cls] at hc
end
end Go.Eng

/-
  THE ENGINE, 37: values that are found to be the same are; tables in which other places are written.
-/
namespace Go.Eng
open Go

theorem ieq_eq' {a b : Int} (h : ieq a b = true) : a = b := by rw [ieq_eq] at h; simpa using h
theorem lbeq_eq' {a b : List Nat} (h : lbeq a b = true) : a = b := by rw [lbeq_eq] at h; simpa using h

mutual
theorem avbeq_eq (a : AV) (b : AV) (h : avbeq a b = true) : a = b := by
  cases a with
  | bool x => cases b with
    | bool y => cases x <;> cases y <;> first | rfl | (simp [avbeq] at h; done)
    | _ => simp [avbeq] at h
  | int k n => cases b with
    | int k' n' =>
      simp only [avbeq] at h
      split at h
      · rename_i e; rw [ikb_eq e, ieq_eq' h]
      · cases h
    | _ => simp [avbeq] at h
  | str s => cases b with
    | str t => simp only [avbeq] at h; rw [lbeq_eq' h]
    | _ => simp [avbeq] at h
  | ptr i o => cases b with
    | ptr i' o' =>
      simp only [avbeq] at h
      split at h
      · rename_i e; rw [Nat.eq_of_beq_eq_true e, Nat.eq_of_beq_eq_true h]
      · cases h
    | _ => simp [avbeq] at h
  | gp i o => cases b with
    | gp i' o' =>
      simp only [avbeq] at h
      split at h
      · rename_i e; rw [Nat.eq_of_beq_eq_true e, Nat.eq_of_beq_eq_true h]
      · cases h
    | _ => simp [avbeq] at h
  | cp l o => cases b with
    | cp l' o' =>
      simp only [avbeq] at h
      split at h
      · rename_i e; rw [Nat.eq_of_beq_eq_true e, avbeqL_eq l l' h]
      · cases h
    | _ => simp [avbeq] at h
  | nilp => cases b with
    | nilp => rfl
    | _ => simp [avbeq] at h
  | sl i o l z => cases b with
    | sl i' o' l' z' =>
      simp only [avbeq] at h
      split at h
      · rename_i e1 e2 e3 e4
        rw [Nat.eq_of_beq_eq_true e1, Nat.eq_of_beq_eq_true e2, Nat.eq_of_beq_eq_true e3, Nat.eq_of_beq_eq_true e4]
      · cases h
    | _ => simp [avbeq] at h
  | csl l n => cases b with
    | csl l' n' =>
      simp only [avbeq] at h
      split at h
      · rename_i e; rw [Nat.eq_of_beq_eq_true e, avbeqL_eq l l' h]
      · cases h
    | _ => simp [avbeq] at h
  | nils => cases b with
    | nils => rfl
    | _ => simp [avbeq] at h
  | mp i => cases b with
    | mp i' => simp only [avbeq] at h; rw [Nat.eq_of_beq_eq_true h]
    | _ => simp [avbeq] at h
  | nilm => cases b with
    | nilm => rfl
    | _ => simp [avbeq] at h
  | iter i => cases b with
    | iter i' => simp only [avbeq] at h; rw [Nat.eq_of_beq_eq_true h]
    | _ => simp [avbeq] at h
  | fn f x y => cases b with
    | fn f' x' y' =>
      simp only [avbeq] at h
      split at h
      · rename_i e1 e2; rw [Nat.eq_of_beq_eq_true e1, avbeqL_eq x x' e2, avbeqL_eq y y' h]
      · cases h
    | _ => simp [avbeq] at h
  | yld l => cases b with
    | yld l' => simp only [avbeq] at h; rw [Nat.eq_of_beq_eq_true h]
    | _ => simp [avbeq] at h
  | nilf => cases b with
    | nilf => rfl
    | _ => simp [avbeq] at h
  | ifc t v => cases b with
    | ifc t' v' =>
      simp only [avbeq] at h
      split at h
      · rename_i e; rw [Nat.eq_of_beq_eq_true e, avbeq_eq v v' h]
      · cases h
    | _ => simp [avbeq] at h
  | nili => cases b with
    | nili => rfl
    | _ => simp [avbeq] at h
  | agg l => cases b with
    | agg l' => simp only [avbeq] at h; rw [avbeqL_eq l l' h]
    | _ => simp [avbeq] at h
  | tup l => cases b with
    | tup l' => simp only [avbeq] at h; rw [avbeqL_eq l l' h]
    | _ => simp [avbeq] at h
theorem avbeqL_eq (a : List AV) (b : List AV) (h : avbeqL a b = true) : a = b := by
  cases a with
  | nil => cases b with
    | nil => rfl
    | cons y b => simp [avbeqL] at h
  | cons x a => cases b with
    | nil => simp [avbeqL] at h
    | cons y b =>
      simp only [avbeqL] at h
      split at h
      · rename_i e; rw [avbeq_eq x y e, avbeqL_eq a b h]
      · cases h
end

/-! ### Places of tables -/

theorem Tr.set_comm {α : Type} (t : Tr α) {j k : Nat} (h : j ≠ k) (x y : α) : (t.set j x).set k y = (t.set k y).set j x := by
  induction t generalizing j k with
  | lf => rfl
  | nd l v r ihl ihr =>
    cases j with
    | zero => cases k with
      | zero => exact absurd rfl h
      | succ k => cases e : Nat.beq ((k + 1) % 2) 1 <;> simp only [Tr.set_nd, e]
    | succ j => cases k with
      | zero => cases e : Nat.beq ((j + 1) % 2) 1 <;> simp only [Tr.set_nd, e]
      | succ k =>
        have hj : ∀ n, Nat.beq ((n + 1) % 2) 1 = true → (n + 1) % 2 = 1 := fun n e => Nat.eq_of_beq_eq_true e
        have hj' : ∀ n, Nat.beq ((n + 1) % 2) 1 = false → (n + 1) % 2 = 0 := fun n e => by
          have : (n + 1) % 2 ≠ 1 := fun e' => by rw [e'] at e; exact absurd e (by decide)
          omega
        cases ej : Nat.beq ((j + 1) % 2) 1 <;> cases ek : Nat.beq ((k + 1) % 2) 1 <;> simp only [Tr.set_nd, ej, ek]
        · have h1 := hj' _ ej
          have h2 := hj' _ ek
          rw [ihr (by omega)]
        · have h1 := hj _ ej
          have h2 := hj _ ek
          rw [ihl (by omega)]

theorem Hp.set_comm (σ : Hp) {j k : Nat} (h : j ≠ k) (x y : AO) : (σ.set j x).set k y = (σ.set k y).set j x := by
  simp only [Hp.set, Tr.set_comm σ.t h]

/-- There is room for a place. -/
def Tr.slot {α : Type} (t : Tr α) (k : Nat) : Prop := ∀ x, (t.set k x).get k = some x

theorem Tr.slot_or {α : Type} (t : Tr α) (k : Nat) : t.slot k ∨ ∀ x, (t.set k x).get k = none := by
  induction t generalizing k with
  | lf => exact .inr fun x => rfl
  | nd l v r ihl ihr =>
    cases k with
    | zero => left; intro x; rfl
    | succ k =>
      cases e : Nat.beq ((k + 1) % 2) 1 with
      | true =>
        refine (ihl ((k + 1) / 2)).imp (fun h x => ?_) (fun h x => ?_)
        all_goals
          rw [Tr.set_nd]; simp only [e]; rw [Tr.get_nd]; simp only [e]; exact h x
      | false =>
        refine (ihr ((k + 1) / 2 - 1)).imp (fun h x => ?_) (fun h x => ?_)
        all_goals
          rw [Tr.set_nd]; simp only [e]; rw [Tr.get_nd]; simp only [e]; exact h x

theorem Tr.slot_set {α : Type} (t : Tr α) (j k : Nat) (y : α) : (t.set j y).slot k ↔ t.slot k := by
  by_cases h : j = k
  · subst h
    have e : ∀ x, ((t.set j y).set j x) = t.set j x := by
      intro x
      induction t generalizing j with
      | lf => rfl
      | nd l v r ihl ihr =>
        cases j with
        | zero => simp only [Tr.set_nd]
        | succ j => cases e : Nat.beq ((j + 1) % 2) 1 <;> simp only [Tr.set_nd, e] <;> first | rw [ihr] | rw [ihl]
    unfold Tr.slot
    simp only [e]
  · unfold Tr.slot
    constructor
    · intro hs x
      have := hs x
      rw [Tr.set_comm t h, Tr.get_set_ne _ _ _ _ (fun e => h e.symm)] at this
      exact this
    · intro hs x
      rw [Tr.set_comm t h, Tr.get_set_ne _ _ _ _ (fun e => h e.symm)]
      exact hs x
end Go.Eng

/-
  THE ENGINE, 38: what is known of a region whose order is drawn.
-/
namespace Go.Eng
open Go

theorem bindsA_eq (e : Edge) : bindsA e = Region.binds .any e := by
  unfold bindsA Region.binds
  cases e.ground <;> rfl

section
variable (ops : List Oper) (T : List Inf)

abbrev cc (x : Nat) : Nat := (T.getD x default).c
abbrev aa (x : Nat) : Nat := (T.getD x default).a
abbrev kk (x : Nat) : Nat := (T.getD x default).k
abbrev oo (x : Nat) : Oper := ops.getD x default

/-- What is known of the operation x. -/
structure Fact (allD : Nat) (x : Nat) : Prop where
  c : cc T x = cls (oo ops x).op
  anc : ∀ j, msHas (aa T x) j = true → j < x ∧ ∃ e ∈ (oo ops x).after.toList, bindsA e = true ∧ (j = e.on ∨ msHas (aa T e.on) j = true)
  edge : ∀ e ∈ (oo ops x).after.toList, bindsA e = true → e.on < x
  guard : ∀ j w, (oo ops x).guard = some (j, w) → msHas (aa T x) j = true
  u1 : ∀ t, msHas (uses (oo ops x).op) t = true → ∀ y, y < x → (oo ops y).dst = some t → msHas (aa T x) y = true
  u2 : ∀ t, (oo ops x).dst = some t → msHas allD t = true → ∀ y, y < x → msHas (uses (oo ops y).op) t = true → msHas (aa T x) y = true
  ssa : ∀ t, (oo ops x).dst = some t → ∀ y, y < x → (oo ops y).dst ≠ some t
  ch : cc T x = 0 → ∀ y, y < x → cc T y = 0 ∨ cc T y = 3 → msHas (aa T x) y = true
  al : cc T x = 3 → ∀ y, y < x → cc T y = 0 → msHas (aa T x) y = true
  k : cc T x = 3 → ∀ y, y < x → cc T y = 3 → kk T y < kk T x

/-- What is known ahead of the operation i. -/
structure PInv (allD : Nat) (i : Nat) (s : PS) : Prop where
  fact : ∀ x, x < i → Fact ops T allD x
  tab : ∀ j x y, s.tab.get j = some (x, y) → j < i ∧ (∀ m, msHas x m = true ↔ msHas (aa T j) m = true ∨ m = j) ∧ ∀ t, msHas y t = true → ∃ m, (m = j ∨ msHas (aa T j) m = true) ∧ (oo ops m).dst = some t
  hv : ∀ y, y < i → cc T y = 0 → msHas s.hv y = true
  als : ∀ y, y < i → cc T y = 3 → msHas s.als y = true
  sd : ∀ y, y < i → ∀ t, (oo ops y).dst = some t → msHas s.sd t = true
  rds : ∀ y, y < i → ∀ t, msHas (uses (oo ops y).op) t = true → msHas allD t = true → ∃ m, (m, y) ∈ s.rds ∧ msHas m t = true
  na : ∀ y, y < i → cc T y = 3 → kk T y < s.na
end

section
variable {ops : List Oper} {T : List Inf} {allD : Nat}

theorem ancs_spec {i : Nat} {s : PS} (h : PInv ops T allD i s) : ∀ {es : List Edge} {a d : Nat}, ancs s.tab es = some (a, d) →
    (∀ j, msHas a j = true → j < i ∧ ∃ e ∈ es, bindsA e = true ∧ (j = e.on ∨ msHas (aa T e.on) j = true)) ∧ (∀ e ∈ es, bindsA e = true → e.on < i) ∧
    (∀ t, msHas d t = true → ∃ m, msHas a m = true ∧ (oo ops m).dst = some t)
  | [], a, d, hh => by
    simp only [ancs, Option.some.injEq, Prod.mk.injEq] at hh; obtain ⟨rfl, rfl⟩ := hh
    exact ⟨fun j hj => absurd hj (by simp [msHas_zero]), fun e he => absurd he (by simp), fun t ht => absurd ht (by simp [msHas_zero])⟩
  | e :: es, a, d, hh => by
    simp only [ancs] at hh
    split at hh
    · cases hh
    · rename_i a1 d1 h1
      obtain ⟨r1, r2, r3⟩ := ancs_spec h h1
      split at hh
      · rename_i hb
        simp only [Option.some.injEq, Prod.mk.injEq] at hh; obtain ⟨rfl, rfl⟩ := hh
        refine ⟨fun j hj => ?_, fun e' he' hb' => ?_, r3⟩
        · obtain ⟨g1, e', g2, g3⟩ := r1 j hj
          exact ⟨g1, e', by simp [g2], g3⟩
        · rcases List.mem_cons.1 he' with rfl | he'
          · rw [hb] at hb'; cases hb'
          · exact r2 e' he' hb'
      · rename_i hb
        split at hh
        · cases hh
        · rename_i a2 d2 h2
          simp only [Option.some.injEq, Prod.mk.injEq] at hh; obtain ⟨rfl, rfl⟩ := hh
          obtain ⟨t1, t2, t3⟩ := h.tab _ _ _ h2
          refine ⟨fun j hj => ?_, fun e' he' hb' => ?_, fun t ht => ?_⟩
          · rw [msHas_lor, Bool.or_eq_true] at hj
            rcases hj with hj | hj
            · obtain ⟨g1, e', g2, g3⟩ := r1 j hj
              exact ⟨g1, e', by simp [g2], g3⟩
            · rcases (t2 j).1 hj with hj | hj
              · exact ⟨by have := ((h.fact _ t1).anc j hj).1; omega, e, by simp, hb, .inr hj⟩
              · exact ⟨by omega, e, by simp, hb, .inl hj⟩
          · rcases List.mem_cons.1 he' with rfl | he'
            · exact t1
            · exact r2 e' he' hb'
          · rw [msHas_lor, Bool.or_eq_true] at ht
            rcases ht with ht | ht
            · obtain ⟨m, g1, g2⟩ := r3 t ht
              exact ⟨m, by rw [msHas_lor, g1]; rfl, g2⟩
            · obtain ⟨m, g1, g2⟩ := t3 t ht
              refine ⟨m, ?_, g2⟩
              rw [msHas_lor, Bool.or_eq_true]
              exact .inr ((t2 m).2 g1.symm)

theorem readersOK_spec {t a : Nat} : ∀ {l : List (Nat × Nat)}, readersOK t a l = true → ∀ m y, (m, y) ∈ l → msHas m t = true → msHas a y = true
  | [], _, m, y, hm, _ => by cases hm
  | (m0, i0) :: l, h, m, y, hm, ht => by
    simp only [readersOK] at h
    split at h
    · rename_i e
      rcases List.mem_cons.1 hm with e' | hm
      · simp only [Prod.mk.injEq] at e'; obtain ⟨rfl, rfl⟩ := e'; rw [ht] at e; cases e
      · exact readersOK_spec h m y hm ht
    · split at h
      · rename_i e e2
        rcases List.mem_cons.1 hm with e' | hm
        · simp only [Prod.mk.injEq] at e'; obtain ⟨rfl, rfl⟩ := e'; exact e2
        · exact readersOK_spec h m y hm ht
      · cases h

theorem planStep_spec {i : Nat} {s s' : PS} {a d : Nat} {f : Inf} (h : PInv ops T allD i s) (ha : ancs s.tab (oo ops i).after.toList = some (a, d)) (hp : planStep allD (oo ops i) i s a d = some (f, s')) (hT : T.getD i default = f) :
    PInv ops T allD (i + 1) s' := by
  obtain ⟨r1, r2, r3⟩ := ancs_spec h ha
  unfold planStep at hp
  split at hp
  · rename_i hg hu hds hcl
    simp only [Option.some.injEq, Prod.mk.injEq] at hp; obtain ⟨rfl, rfl⟩ := hp
    have hc : cc T i = cls (oo ops i).op := by unfold cc; rw [hT]
    have hca : aa T i = a := by unfold aa; rw [hT]
    have hck : kk T i = s.na := by unfold kk; rw [hT]
    have hssa : ∀ t, (oo ops i).dst = some t → msHas s.sd t = false ∧ readersOK t a s.rds = true := by
      intro t ht
      rw [ht] at hds; simp only at hds
      split at hds
      · cases hds
      · rename_i e; exact ⟨e, hds⟩
    have hu1 : ∀ t, msHas (uses (oo ops i).op) t = true → ∀ y, y < i → (oo ops y).dst = some t → msHas a y = true := by
      intro t ht y hy hd
      have h1 : msHas (Nat.land (uses (oo ops i).op) s.sd) t = true := by rw [msHas_land, ht, h.sd y hy t hd]; rfl
      obtain ⟨m, g1, g2⟩ := r3 t (msSub_spec hu h1)
      have hm := (r1 m g1).1
      have : m = y := by
        rcases Nat.lt_trichotomy m y with e | e | e
        · exact absurd g2 ((h.fact y hy).ssa t hd m e)
        · exact e
        · exact absurd hd ((h.fact m hm).ssa t g2 y e)
      subst this; exact g1
    have hF : Fact ops T allD i := by
      refine ⟨hc, fun j hj => ?_, r2, fun j w hj => ?_, fun t ht y hy hd => by rw [hca]; exact hu1 t ht y hy hd, fun t ht hal y hy hus => ?_, fun t ht y hy hd => ?_, fun h0 y hy hy' => ?_, fun h3 y hy hy' => ?_, fun h3 y hy hy' => by rw [hck]; exact h.na y hy hy'⟩
      · rw [hca] at hj; exact r1 j hj
      · rw [hca]; rw [hj] at hg; exact hg
      · rw [hca]
        obtain ⟨m, g1, g2⟩ := h.rds y hy t hus hal
        exact readersOK_spec (hssa t ht).2 m y g1 g2
      · have := h.sd y hy t hd
        rw [(hssa t ht).1] at this; cases this
      · rw [hca]
        rw [hc] at h0
        rw [h0] at hcl; simp only at hcl
        split at hcl
        · rename_i e
          rcases hy' with g | g
          · exact msSub_spec e (h.hv y hy g)
          · exact msSub_spec hcl (h.als y hy g)
        · cases hcl
      · rw [hca]
        rw [hc] at h3
        rw [h3] at hcl; simp only at hcl
        exact msSub_spec hcl (h.hv y hy hy')
    have split1 : ∀ {y}, y < i + 1 → y < i ∨ y = i := fun h => by omega
    refine ⟨fun x hx => ?_, fun j x y hj => ?_, fun y hy hy0 => ?_, fun y hy hy3 => ?_, fun y hy t ht => ?_, fun y hy t ht hal => ?_, fun y hy hy3 => ?_⟩
    · rcases split1 hx with hx | rfl
      · exact h.fact x hx
      · exact hF
    · rcases Tr.get_set _ _ _ _ _ hj with ⟨rfl, e⟩ | ⟨_, hj'⟩
      · simp only [Prod.mk.injEq] at e; obtain ⟨rfl, rfl⟩ := e
        refine ⟨by omega, fun m => by rw [hca]; exact msHas_add _ _ _, fun t ht => ?_⟩
        cases hd : (oo ops j).dst with
        | none =>
          rw [hd] at ht
          obtain ⟨m, g1, g2⟩ := r3 t ht
          exact ⟨m, .inr (by rw [hca]; exact g1), g2⟩
        | some t' =>
          rw [hd] at ht
          rcases (msHas_add _ _ _).1 ht with ht | rfl
          · obtain ⟨m, g1, g2⟩ := r3 t ht
            exact ⟨m, .inr (by rw [hca]; exact g1), g2⟩
          · exact ⟨j, .inl rfl, hd⟩
      · obtain ⟨g1, g2, g3⟩ := h.tab _ _ _ hj'
        exact ⟨by omega, g2, g3⟩
    · rcases split1 hy with hy | rfl
      · have := h.hv y hy hy0
        simp only; split
        · exact (msHas_add _ _ _).2 (.inl this)
        · exact this
      · rw [hc] at hy0
        simp only; rw [hy0]; exact (msHas_add _ _ _).2 (.inr rfl)
    · rcases split1 hy with hy | rfl
      · have := h.als y hy hy3
        simp only; split
        · exact (msHas_add _ _ _).2 (.inl this)
        · exact this
      · rw [hc] at hy3
        simp only; rw [hy3]; exact (msHas_add _ _ _).2 (.inr rfl)
    · rcases split1 hy with hy | rfl
      · have := h.sd y hy t ht
        simp only; split
        · exact this
        · exact (msHas_add _ _ _).2 (.inl this)
      · simp only; rw [ht]; exact (msHas_add _ _ _).2 (.inr rfl)
    · rcases split1 hy with hy | rfl
      · obtain ⟨m, g1, g2⟩ := h.rds y hy t ht hal
        refine ⟨m, ?_, g2⟩
        simp only; split
        · exact g1
        · exact List.mem_cons_of_mem _ g1
      · have hm : msHas (Nat.land (uses (oo ops y).op) allD) t = true := by rw [msHas_land, ht, hal]; rfl
        refine ⟨_, ?_, hm⟩
        simp only; rw [msHas_ne hm]; exact List.mem_cons_self
    · rcases split1 hy with hy | rfl
      · have := h.na y hy hy3
        simp only; split
        · omega
        · exact this
      · rw [hc] at hy3
        rw [hck]; simp only; rw [hy3]; exact Nat.lt_succ_self _
  · cases hp

theorem plan_spec : ∀ {os : List Oper} {i : Nat} {s : PS} {fs : List Inf} {na : Nat}, plan allD os i s = some (fs, na) → ops.drop i = os → T.drop i = fs → PInv ops T allD i s →
    (∀ x, x < i + os.length → Fact ops T allD x) ∧ fs.length = os.length ∧ ∀ x, x < i + os.length → cc T x = 3 → kk T x < na
  | [], i, s, fs, na, h, ho, hT, hI => by
    simp only [plan, Option.some.injEq, Prod.mk.injEq] at h; obtain ⟨rfl, rfl⟩ := h
    exact ⟨fun x hx => hI.fact x (by simpa using hx), rfl, fun x hx => hI.na x (by simpa using hx)⟩
  | o :: os, i, s, fs, na, h, ho, hT, hI => by
    simp only [plan] at h
    split at h
    · cases h
    · rename_i a d ha
      split at h
      · cases h
      · rename_i f s' hp
        split at h
        · cases h
        · rename_i fs' na' hr
          simp only [Option.some.injEq, Prod.mk.injEq] at h; obtain ⟨rfl, rfl⟩ := h
          have hoi : oo ops i = o := by
            have : (ops.drop i)[0]? = some o := by rw [ho]; rfl
            rw [List.getElem?_drop] at this
            simp only [oo, List.getD_eq_getElem?_getD]; rw [show i = i + 0 by rfl, this]; rfl
          have hTi : T.getD i default = f := by
            have : (T.drop i)[0]? = some f := by rw [hT]; rfl
            rw [List.getElem?_drop] at this
            simp only [List.getD_eq_getElem?_getD]; rw [show i = i + 0 by rfl, this]; rfl
          have ho' : ops.drop (i + 1) = os := by
            have : (ops.drop i).drop 1 = os := by rw [ho]; rfl
            rw [List.drop_drop] at this; exact this
          have hT' : T.drop (i + 1) = fs' := by
            have : (T.drop i).drop 1 = fs' := by rw [hT]; rfl
            rw [List.drop_drop] at this; exact this
          obtain ⟨g1, g2, g3⟩ := plan_spec hr ho' hT' (planStep_spec hI (by rw [hoi]; exact ha) (by rw [hoi]; exact hp) hTi)
          exact ⟨fun x hx => g1 x (by simp only [List.length_cons] at hx; omega), by simp [g2], fun x hx => g3 x (by simp only [List.length_cons] at hx; omega)⟩

theorem dstsM_spec : ∀ {l : List Oper} {o : Oper} {t : Nat}, o ∈ l → o.dst = some t → msHas (dstsM l) t = true
  | [], o, t, h, _ => by cases h
  | x :: l, o, t, h, hd => by
    simp only [dstsM]
    rcases List.mem_cons.1 h with rfl | h
    · rw [hd]; exact (msHas_add _ _ _).2 (.inr rfl)
    · split
      · exact dstsM_spec h hd
      · exact (msHas_add _ _ _).2 (.inl (dstsM_spec h hd))

theorem planOf_spec {fs : List Inf} {na : Nat} (h : planOf ops = some (fs, na)) :
    (∀ x, x < ops.length → Fact ops fs (dstsM ops) x) ∧ fs.length = ops.length ∧ ∀ x, x < ops.length → cc fs x = 3 → kk fs x < na := by
  have hI : PInv ops fs (dstsM ops) 0 ⟨.full 9, 0, 0, 0, [], 0⟩ :=
    ⟨fun x hx => absurd hx (Nat.not_lt_zero x), fun j x y hj => (by rw [Tr.get_full] at hj; cases hj), fun y hy => absurd hy (Nat.not_lt_zero y), fun y hy => absurd hy (Nat.not_lt_zero y), fun y hy => absurd hy (Nat.not_lt_zero y), fun y hy => absurd hy (Nat.not_lt_zero y), fun y hy => absurd hy (Nat.not_lt_zero y)⟩
  have := plan_spec (ops := ops) (T := fs) h rfl rfl hI
  simpa using this
end
end Go.Eng

/-
  THE ENGINE, 39: in whichever order the operations of a region come, they come to the same.
-/
namespace Go.Eng
open Go

/-! ### One operation, in parts -/

/-- What an operation comes to, but for the temporaries. -/
noncomputable def coreO (E : Env) (call : CallF) (hs : List Hnd) (w : Bool) (r : Option Res) (rnd : Bool) (σ : Hp) (ds : List (Nat × List AV)) (Λ : List LF) : Option (AV × Hp × List (Nat × List AV) × List LF) :=
  match w with
  | false => some (undefA, σ, ds, Λ)
  | true => match r with
    | none => none
    | some (.val v σ) => some (v, σ, ds, Λ)
    | some (.skip σ) => some (undefA, σ, ds, Λ)
    | some (.call f args) => match doCall E call hs f args σ Λ with
      | some (v, σ, Λ) => some (v, σ, ds, Λ)
      | none => none
    | some (.yld l args) => match doYield hs l args σ Λ with
      | some (v, σ, Λ) => some (v, σ, ds, Λ)
      | none => none
    | some (.dfr f args) => match rnd with
      | true => none
      | false => some (undefA, σ, (f, args) :: ds, Λ)
    | some .recov => match rnd with
      | true => none
      | false => some (.nili, σ, ds, Λ)

section
variable {E : Env} {call : CallF} {hs : List Hnd} {ops : Array Oper}

theorem oneOp_core (o : Oper) (st : St) : oneOp E call hs ops o st = match wantedA ops st.τ o with
    | none => none
    | some w => match coreO E call hs w (op E st.τ st.σ o.op) st.rnd st.σ st.ds st.Λ with
      | none => none
      | some (v, σ, ds, Λ) => putS { st with σ := σ, ds := ds, Λ := Λ } o.dst v := by
  unfold oneOp
  cases wantedA ops st.τ o with
  | none => rfl
  | some w =>
    cases w with
    | false => rfl
    | true =>
      simp only [coreO]
      cases op E st.τ st.σ o.op with
      | none => rfl
      | some r =>
        cases r with
        | val v σ => rfl
        | skip σ => rfl
        | call f args =>
          simp only
          cases doCall E call hs f args st.σ st.Λ with
          | none => rfl
          | some q => rfl
        | yld l args =>
          simp only
          cases doYield hs l args st.σ st.Λ with
          | none => rfl
          | some q => rfl
        | dfr f args =>
          simp only
          cases st.rnd <;> rfl
        | recov =>
          obtain ⟨τ, σ, ds, Λ, nt, rnd⟩ := st
          cases rnd <;> rfl

/-- The temporaries, when something is put there. -/
def Put (nt : Nat) (τ : Tmps) (d : Option Nat) (v : AV) (τ' : Tmps) : Prop := putT nt τ d v = some τ'

theorem putS_spec {st st' : St} {d : Option Nat} {v : AV} (h : putS st d v = some st') : Put st.nt st.τ d v st'.τ ∧ st' = { st with τ := st'.τ } := by
  unfold putS at h
  split at h
  · rename_i τ hτ
    simp only [Option.some.injEq] at h; subst h
    exact ⟨hτ, rfl⟩
  · cases h
theorem Put.putS {st : St} {d : Option Nat} {v : AV} {τ' : Tmps} (h : Put st.nt st.τ d v τ') : putS st d v = some { st with τ := τ' } := by
  unfold Eng.putS
  rw [show putT st.nt st.τ d v = some τ' from h]
theorem Put.none {nt : Nat} {τ τ' : Tmps} {v : AV} (h : Put nt τ none v τ') : τ' = τ := by
  unfold Put putT at h; simp only [Option.some.injEq] at h; exact h.symm
theorem Put.some {nt t : Nat} {τ τ' : Tmps} {v : AV} (h : Put nt τ (some t) v τ') : τ' = τ.set t v ∧ Nat.ble (t + 1) nt = true := by
  unfold Put putT at h
  simp only at h
  split at h
  · rename_i e; simp only [Option.some.injEq] at h; exact ⟨h.symm, e⟩
  · cases h
theorem Put.mk {nt t : Nat} (τ : Tmps) (v : AV) (h : Nat.ble (t + 1) nt = true) : Put nt τ (Option.some t) v (τ.set t v) := by
  unfold Put putT; simp only [h]
theorem Put.slot {nt : Nat} {d : Option Nat} {τ τ' : Tmps} {v : AV} (h : Put nt τ d v τ') (k : Nat) : τ'.slot k ↔ τ.slot k := by
  cases d with
  | none => rw [h.none]
  | some t => rw [h.some.1]; exact Tr.slot_set _ _ _ _
theorem Put.ne {nt t : Nat} {d : Option Nat} {τ τ' : Tmps} {v : AV} (h : Put nt τ d v τ') (ht : d ≠ Option.some t) : τ'.get t = τ.get t := by
  cases d with
  | none => rw [h.none]
  | some t' => rw [h.some.1]; exact Tr.get_set_ne _ _ _ _ (fun e => ht (by rw [e]))

/-- The same is put into both. -/
theorem Put.both {nt : Nat} {d : Option Nat} {τ τ' X : Tmps} {v w : AV} (h : Put nt τ d v τ') (hs : ∀ k, X.slot k ↔ τ.slot k) (hw : ∀ t y, d = Option.some t → τ'.get t = Option.some y → w = y) :
    ∃ X', Put nt X d w X' ∧ ∀ t, d = Option.some t → X'.get t = τ'.get t := by
  cases d with
  | none => exact ⟨X, rfl, fun t ht => by cases ht⟩
  | some t =>
    obtain ⟨h1, h2⟩ := h.some
    refine ⟨X.set t w, .mk X w h2, fun t' ht' => ?_⟩
    simp only [Option.some.injEq] at ht'; subst ht'
    rcases Tr.slot_or X t with hx | hx
    · have hτ := (hs t).1 hx
      have e1 : τ'.get t = Option.some v := by rw [h1]; exact hτ v
      rw [hw t v rfl e1, e1]; exact hx v
    · rcases Tr.slot_or τ t with hτ | hτ
      · have := (hs t).2 hτ w
        rw [hx w] at this; cases this
      · rw [hx w, h1]; exact (hτ v).symm

/-! ### New variables, in whichever order -/

noncomputable def setsA (key : Nat → Nat) (val : Nat → AO) (σ : Hp) (L : List Nat) : Hp := L.foldl (fun σ x => σ.set (key x) (val x)) σ

theorem setsA_comm {key : Nat → Nat} {val : Nat → AO} {L : List Nat} {k : Nat} (v : AO) (h : ∀ x ∈ L, key x ≠ k) (σ : Hp) : setsA key val (σ.set k v) L = (setsA key val σ L).set k v := by
  induction L generalizing σ with
  | nil => rfl
  | cons x L ih =>
    show setsA key val ((σ.set k v).set (key x) (val x)) L = (setsA key val (σ.set (key x) (val x)) L).set k v
    rw [Hp.set_comm σ (fun e => h x (by simp) e.symm)]
    exact ih (fun y hy => h y (by simp [hy])) _

theorem setsA_insert {key : Nat → Nat} {val : Nat → AO} {f g : Nat → Bool} {i : Nat} : ∀ {L : List Nat} (σ : Hp), L.Nodup → i ∈ L → f i = false → g i = true → (∀ x ∈ L, x ≠ i → g x = f x) → (∀ x ∈ L, x ≠ i → key x ≠ key i) →
    setsA key val σ (L.filter g) = (setsA key val σ (L.filter f)).set (key i) (val i)
  | [], σ, _, hi, _, _, _, _ => by cases hi
  | x :: L, σ, hn, hi, hf, hg, hfg, hk => by
    obtain ⟨hx, hn'⟩ := List.nodup_cons.1 hn
    by_cases e : x = i
    · subst e
      have : L.filter g = L.filter f := List.filter_congr (fun y hy => hfg y (by simp [hy]) (fun e => hx (e ▸ hy)))
      rw [List.filter_cons_of_pos hg, List.filter_cons_of_neg (by simp [hf]), this]
      exact setsA_comm _ (fun y hy => hk y (by simp [(List.mem_filter.1 hy).1]) (fun e => hx (e ▸ (List.mem_filter.1 hy).1))) σ
    · have hi' : i ∈ L := by rcases List.mem_cons.1 hi with h | h; exact absurd h.symm e; exact h
      have hgf := hfg x (by simp) e
      cases hfx : f x with
      | true =>
        rw [hfx] at hgf
        rw [List.filter_cons_of_pos hgf, List.filter_cons_of_pos hfx]
        exact setsA_insert (σ.set (key x) (val x)) hn' hi' hf hg (fun y hy => hfg y (by simp [hy])) (fun y hy => hk y (by simp [hy]))
      | false =>
        rw [hfx] at hgf
        rw [List.filter_cons_of_neg (by simp [hgf]), List.filter_cons_of_neg (by simp [hfx])]
        exact setsA_insert σ hn' hi' hf hg (fun y hy => hfg y (by simp [hy])) (fun y hy => hk y (by simp [hy]))

theorem setsA_le {key : Nat → Nat} {val : Nat → AO} : ∀ {L : List Nat} (σ : Hp), L.Nodup → (∀ x ∈ L, σ.get (key x) = none) → (∀ x ∈ L, ∀ y ∈ L, x ≠ y → key x ≠ key y) → σ.le (setsA key val σ L)
  | [], σ, _, _, _ => fun _ _ h => h
  | x :: L, σ, hn, hu, hk => by
    obtain ⟨hx, hn'⟩ := List.nodup_cons.1 hn
    have h1 : σ.le (σ.set (key x) (val x)) := by
      intro id y hy
      rw [Hp.get_set_ne]
      · exact hy
      · intro e; rw [e, hu x (by simp)] at hy; cases hy
    have h2 := setsA_le (val := val) (L := L) (σ.set (key x) (val x)) hn' (fun y hy => by
      rw [Hp.get_set_ne _ _ _ _ (hk y (by simp [hy]) x (by simp) (fun e => hx (e ▸ hy)))]
      exact hu y (by simp [hy])) (fun a ha b hb => hk a (by simp [ha]) b (by simp [hb]))
    exact fun id y hy => h2 id y (h1 id y hy)

theorem setsA_n {key : Nat → Nat} {val : Nat → AO} : ∀ (L : List Nat) (σ : Hp), (setsA key val σ L).n = σ.n
  | [], _ => rfl
  | x :: L, σ => setsA_n L (σ.set (key x) (val x))
end
end Go.Eng

