/-
  THE ENGINE, 55: calls said ahead, with what they need of memory and what they leave there.
-/
import Derived.Test.YtlbonihgofbanaaGreatDoorPart02
set_option linter.unusedSectionVars false
set_option linter.unusedSimpArgs false
set_option linter.unusedVariables false
namespace Go.Eng
open Go

attribute [local irreducible] upTo

/-! ### Objects, compared -/

noncomputable def espbeq : List (AV × AV) → List (AV × AV) → Bool
  | [], [] => true
  | (a, b) :: l, (c, d) :: m => match avbeq a c with
    | true => match avbeq b d with
      | true => espbeq l m
      | false => false
    | false => false
  | _, _ => false
noncomputable def aobeq : AO → AO → Bool
  | .cells r l, .cells r' l' => match r, r' with
    | true, true => avbeqL l l'
    | false, false => avbeqL l l'
    | _, _ => false
  | .map l, .map l' => espbeq l l'
  | .siter s p, .siter s' p' => match Nat.beq p p' with
    | true => lbeq s s'
    | false => false
  | .gone, .gone => true
  | _, _ => false

theorem espbeq_eq : ∀ {a b : List (AV × AV)}, espbeq a b = true → a = b
  | [], [], _ => rfl
  | [], _ :: _, h => by cases h
  | _ :: _, [], h => by cases h
  | (a, b) :: l, (c, d) :: m, h => by
    simp only [espbeq] at h
    split at h
    · rename_i h1
      split at h
      · rename_i h2
        rw [avbeq_eq _ _ h1, avbeq_eq _ _ h2, espbeq_eq h]
      · cases h
    · cases h
theorem aobeq_eq {a b : AO} (h : aobeq a b = true) : a = b := by
  cases a with
  | cells r l => cases b with
    | cells r' l' => cases r <;> cases r' <;> first | (simp [aobeq] at h; done) | (simp only [aobeq] at h; rw [avbeqL_eq _ _ h])
    | _ => simp [aobeq] at h
  | map l => cases b with
    | map l' => simp only [aobeq] at h; rw [espbeq_eq h]
    | _ => simp [aobeq] at h
  | siter s p => cases b with
    | siter s' p' =>
      simp only [aobeq] at h
      split at h
      · rename_i h1; rw [Nat.eq_of_beq_eq_true h1, lbeq_eq' h]
      · cases h
    | _ => simp [aobeq] at h
  | gone => cases b with
    | gone => rfl
    | _ => simp [aobeq] at h

/-! ### Calls said ahead -/

abbrev Obs := List (Nat × AO)

/-- Does memory hold these? -/
noncomputable def hasAll (σ : Hp) : Obs → Bool
  | [] => true
  | (i, o) :: l => match σ.get i with
    | some o' => match aobeq o o' with
      | true => hasAll σ l
      | false => false
    | none => false
noncomputable def putObs (σ : Hp) : Obs → Hp
  | [] => σ
  | (i, o) :: l => putObs (σ.set i o) l

theorem hasAll_spec {σ : Hp} : ∀ {l : Obs}, hasAll σ l = true → ∀ i o, (i, o) ∈ l → σ.get i = some o
  | [], _, i, o, hm => by cases hm
  | (j, o') :: l, h, i, o, hm => by
    simp only [hasAll] at h
    split at h
    · rename_i o2 hg
      split at h
      · rename_i e
        rcases List.mem_cons.1 hm with e' | hm
        · simp only [Prod.mk.injEq] at e'; obtain ⟨rfl, rfl⟩ := e'
          rw [hg, aobeq_eq e]
        · exact hasAll_spec h i o hm
      · cases h
    · cases h
theorem putObs_n : ∀ (l : Obs) (σ : Hp), (putObs σ l).n = σ.n
  | [], _ => rfl
  | (i, o) :: l, σ => putObs_n l (σ.set i o)
theorem putObs_get : ∀ {l : Obs} {σ : Hp} {id : Nat} {o : AO}, (putObs σ l).get id = some o → (id, o) ∈ l ∨ ((∀ o', (id, o') ∉ l) ∧ σ.get id = some o)
  | [], σ, id, o, h => .inr ⟨fun _ h => (by cases h), h⟩
  | (i, x) :: l, σ, id, o, h => by
    rcases putObs_get (l := l) h with g | ⟨g1, g2⟩
    · exact .inl (List.mem_cons_of_mem _ g)
    · rcases Hp.get_set g2 with ⟨rfl, rfl⟩ | ⟨hne, g3⟩
      · exact .inl List.mem_cons_self
      · refine .inr ⟨fun o' hm => ?_, g3⟩
        rcases List.mem_cons.1 hm with e | hm
        · simp only [Prod.mk.injEq] at e; exact hne e.1
        · exact g1 o' hm

structure Ent where
  f : Nat
  args : List AV
  n0 : Nat
  need : Obs
  v : AV
  put : Obs
  n1 : Nat

noncomputable def Ent.pre (e : Ent) : Hp := putObs ⟨.full 22, e.n0⟩ e.need

theorem Ent.pre_get {e : Ent} {id : Nat} {o : AO} (h : e.pre.get id = some o) : (id, o) ∈ e.need := by
  rcases putObs_get h with g | ⟨_, g⟩
  · exact g
  · have : (⟨.full 22, e.n0⟩ : Hp).get id = none := Tr.get_full 22 id
    rw [this] at g; cases g
theorem Ent.pre_n (e : Ent) : e.pre.n = e.n0 := putObs_n _ _

/-- The first that speaks of this call. -/
noncomputable def findE (L : List Ent) (f : Nat) (args : List AV) (σ : Hp) : Option Ent :=
  match L with
  | [] => none
  | e :: L => match Nat.beq e.f f, Nat.beq e.n0 σ.n with
    | true, true => match avbeqL e.args args, hasAll σ e.need with
      | true, true => some e
      | _, _ => findE L f args σ
    | _, _ => findE L f args σ

theorem findE_spec : ∀ {L : List Ent} {f : Nat} {args : List AV} {σ : Hp} {e : Ent}, findE L f args σ = some e → e ∈ L ∧ e.f = f ∧ e.args = args ∧ e.n0 = σ.n ∧ ∀ i o, (i, o) ∈ e.need → σ.get i = some o
  | [], f, args, σ, e, h => by cases h
  | e' :: L, f, args, σ, e, h => by
    have rec' : findE L f args σ = some e → _ := fun h => by
      obtain ⟨h1, h2⟩ := findE_spec h
      exact (⟨List.mem_cons_of_mem _ h1, h2⟩ : e ∈ e' :: L ∧ e.f = f ∧ e.args = args ∧ e.n0 = σ.n ∧ ∀ i o, (i, o) ∈ e.need → σ.get i = some o)
    simp only [findE] at h
    split at h
    · rename_i e1 e2
      split at h
      · rename_i e3 e4
        simp only [Option.some.injEq] at h; subst h
        exact ⟨List.mem_cons_self, Nat.eq_of_beq_eq_true e1, avbeqL_eq _ _ e3, Nat.eq_of_beq_eq_true e2, hasAll_spec e4⟩
      · exact rec' h
    · exact rec' h

section
variable {P : Program} {E : Env}

/-- What is said of a call holds. -/
def EntOK (P : Program) (E : Env) (e : Ent) : Prop :=
  ∀ σ, e.n0 = σ.n → (∀ i o, (i, o) ∈ e.need → σ.get i = some o) → ∀ base inv V A O W Λ, CxOK inv → HR E base V σ W → base ≤ W.heap.size → VRs V e.args A → inv Λ V.K O W → (∀ b, Own V σ b → ¬ O b) → LvOK V σ →
    ∃ V' O' W' R, Prg V σ O W V' ⟨(putObs σ e.put).t, e.n1⟩ O' W' ∧ HR E base V' ⟨(putObs σ e.put).t, e.n1⟩ W' ∧ inv Λ V'.K O' W' ∧ (∀ b, Own V' ⟨(putObs σ e.put).t, e.n1⟩ b → ¬ O' b) ∧ LvOK V' ⟨(putObs σ e.put).t, e.n1⟩ ∧ VR V' e.v R ∧ Goes P e.f A.toArray W R W'

/-- Memory that holds less. -/
theorem HR.sub {base : Nat} {V : View} {σ σ0 : Hp} {W : World} (h : HR E base V σ W) (hs : ∀ id o, σ0.get id = some o → σ.get id = some o) (hn : σ0.n = σ.n) : HR E base V σ0 W :=
  ⟨h.cell, h.glob, fun id o hid hne => h.obj id o (hs id o hid) hne, fun id id' b s s' ⟨o, l1, n1⟩ ⟨o', l2, n2⟩ m1 m2 => h.inj id id' b s s' ⟨o, hs _ _ l1, n1⟩ ⟨o', hs _ _ l2, n2⟩ m1 m2, fun id x hx => by rw [hn]; exact h.fresh id x hx, fun id o hid => h.all id o (hs id o hid)⟩

theorem EntOK.of {e : Ent} {call : CallF} (hc : CallOK P E call) {σ1 : Hp} (h : call e.f e.args e.pre [] [] = some (e.v, σ1, [])) (hput : ∀ i o, (i, o) ∈ e.put → σ1.get i = some o) (hkeep : ∀ i o, (i, o) ∈ e.need → (∃ o', (i, o') ∈ e.put) ∨ σ1.get i = some o) (hn : σ1.n ≤ e.n1) : EntOK P E e := by
  intro σ hn0 hneed base inv V A O W Λ hcx H hb ha hi hd hlf
  have hsub : ∀ id o, e.pre.get id = some o → σ.get id = some o := fun id o hg => hneed id o (Ent.pre_get hg)
  have hpn : e.pre.n = σ.n := e.pre_n.trans hn0
  have hown0 : ∀ b, Own V e.pre b → Own V σ b := fun b ⟨id, s, ⟨o, l, n⟩, m⟩ => ⟨id, s, ⟨o, hsub _ _ l, n⟩, m⟩
  obtain ⟨V', O', W', R, hP, H1, hi1, hd1, hl1, hv, hg⟩ := hc e.f e.args e.pre [] [] e.v σ1 [] h base (fun _ K O W => inv Λ K O W) V A O W ⟨fun _ K O W K' W' h => hcx.stable Λ K O W K' W' h, fun _ K O W h => hcx.bound Λ K O W h⟩
    (fun lvl h e => by cases e) (H.sub hsub hpn) hb ha hi (fun b hb => hd b (hown0 b hb)) (fun i x hx => by rw [hpn]; exact hlf i x hx)
  have hbd := hcx.bound _ _ _ _ hi
  -- what lies behind
  have key : ∀ id o, (⟨(putObs σ e.put).t, e.n1⟩ : Hp).get id = some o → σ1.get id = some o ∨ (e.pre.get id = none ∧ σ.get id = some o) := by
    intro id o hg
    rcases putObs_get (show (putObs σ e.put).get id = some o from hg) with g | ⟨g1, g2⟩
    · exact .inl (hput id o g)
    · cases hp : e.pre.get id with
      | none => exact .inr ⟨rfl, g2⟩
      | some o2 =>
        have h2 := hsub _ _ hp
        rw [g2] at h2
        simp only [Option.some.injEq] at h2; subst h2
        rcases hkeep id o (Ent.pre_get hp) with ⟨o', hm⟩ | hk
        · exact absurd hm (g1 o')
        · exact .inl hk
  -- what was there and was not needed
  have untouched : ∀ id o, e.pre.get id = none → σ.get id = some o → o ≠ .gone → ∃ blk s, V.m id = some (blk, s) ∧ base ≤ blk ∧ blk < W.heap.size ∧ OR V' W' blk s o ∧ ¬ Own V e.pre blk ∧ ¬ O blk := by
    intro id o hp hg hne
    obtain ⟨blk, s, hm, h1, h2, h3⟩ := H.obj id o hg hne
    have hno : ¬ Own V e.pre blk := fun ⟨id', s', ⟨o', l', n'⟩, m'⟩ => by
      have := H.inj id id' blk s s' ⟨o, hg, hne⟩ ⟨o', hsub _ _ l', n'⟩ hm m'
      rw [this, l'] at hp; cases hp
    have hO : ¬ O blk := hd blk ⟨id, s, ⟨o, hg, hne⟩, hm⟩
    refine ⟨blk, s, hm, h1, h2, h3.mono hP.le (hP.le.N _ _ _ hm) (fun i v hk => ?_) (hP.fr.block blk h2 (fun x => x.elim hno hO)), hno, hO⟩
    rcases hP.K blk i v hk with x | (x | x) | x
    · exact x
    · exact absurd x hno
    · exact absurd x hO
    · omega
  have hsz := hP.fr.size
  have hown2 : ∀ b, Own V' ⟨(putObs σ e.put).t, e.n1⟩ b → Own V' σ1 b ∨ (Own V σ b ∧ b < W.heap.size) := by
    rintro b ⟨id, s, ⟨o, hg, hne⟩, hm⟩
    rcases key id o hg with g | ⟨g1, g2⟩
    · exact .inl ⟨id, s, ⟨o, g, hne⟩, hm⟩
    · obtain ⟨blk, s', hm', _, h2, _⟩ := untouched id o g1 g2 hne
      have := hP.le.m _ _ hm'
      rw [hm] at this
      simp only [Option.some.injEq, Prod.mk.injEq] at this
      obtain ⟨rfl, rfl⟩ := this
      exact .inr ⟨⟨id, s, ⟨o, g2, hne⟩, hm'⟩, h2⟩
  have hmix : ∀ id id' b s s' o o', σ1.get id = some o → o ≠ .gone → e.pre.get id' = none → σ.get id' = some o' → o' ≠ .gone → V'.m id = some (b, s) → V'.m id' = some (b, s') → False := by
    intro id id' b s s' o o' g1 n1 g2 g3 n2 m1 m2
    obtain ⟨blk, s2, hm', _, h2, _, hno, _⟩ := untouched id' o' g2 g3 n2
    have := hP.le.m _ _ hm'
    rw [m2] at this
    simp only [Option.some.injEq, Prod.mk.injEq] at this
    obtain ⟨rfl, _⟩ := this
    rcases hP.own b ⟨id, s, ⟨o, g1, n1⟩, m1⟩ with x | x
    · exact hno x
    · omega
  have hnn : σ.n ≤ e.n1 := by have := hP.nn; omega
  refine ⟨V', O', W', R, ⟨hP.le, hP.fr.weaken (fun b _ x => x.imp (hown0 b) (fun y => y)), fun b hb => ?_, hP.out, hP.mb, fun b o v hv => (hP.K b o v hv).imp (fun x => x) (fun x => x.imp (fun y => y.imp (hown0 b) (fun z => z)) (fun y => y)), fun id x hx => by rw [← hpn]; exact hP.nm id x hx, hnn⟩,
    ⟨H1.cell, H1.glob, fun id o hg hne => ?_, fun id id' b s s' ⟨o, g1, n1⟩ ⟨o', g2, n2⟩ m1 m2 => ?_, fun id x hx => ⟨Nat.lt_of_lt_of_le (H1.fresh id x hx).1 hn, (H1.fresh id x hx).2⟩, fun id o hg => ?_⟩, hi1, fun b hb ho => ?_, fun i x hx => Nat.lt_of_lt_of_le (hl1 i x hx) hn, hv, hg⟩
  · rcases hown2 b hb with x | ⟨x, _⟩
    · exact (hP.own b x).imp (hown0 b) (fun y => y)
    · exact .inl x
  · rcases key id o hg with g | ⟨g1, g2⟩
    · exact H1.obj id o g hne
    · obtain ⟨blk, s, hm, h1, h2, h3, _⟩ := untouched id o g1 g2 hne
      exact ⟨blk, s, hP.le.m _ _ hm, h1, by omega, h3⟩
  · rcases key id o g1 with g | ⟨k1, k2⟩ <;> rcases key id' o' g2 with g' | ⟨k3, k4⟩
    · exact H1.inj id id' b s s' ⟨o, g, n1⟩ ⟨o', g', n2⟩ m1 m2
    · exact (hmix id id' b s s' o o' g n1 k3 k4 n2 m1 m2).elim
    · exact (hmix id' id b s' s o' o g' n2 k1 k2 n1 m2 m1).elim
    · obtain ⟨b1, s1, hm1, _⟩ := untouched id o k1 k2 n1
      obtain ⟨b2, s2, hm2, _⟩ := untouched id' o' k3 k4 n2
      have e1 := hP.le.m _ _ hm1
      have e2 := hP.le.m _ _ hm2
      rw [m1] at e1
      rw [m2] at e2
      simp only [Option.some.injEq, Prod.mk.injEq] at e1 e2
      obtain ⟨rfl, rfl⟩ := e1
      obtain ⟨rfl, rfl⟩ := e2
      exact H.inj id id' b s s' ⟨o, k2, n1⟩ ⟨o', k4, n2⟩ hm1 hm2
  · rcases key id o hg with g | ⟨_, g2⟩
    · exact H1.all id o g
    · obtain ⟨x, hx⟩ := H.all id o g2; exact ⟨x, hP.le.m _ _ hx⟩
  · rcases hown2 b hb with x | ⟨x, hlt⟩
    · exact hd1 b x ho
    · rcases hP.out b ho with y | y
      · exact hd b x y
      · omega

/-- The engine, with calls said ahead. -/
noncomputable def callT (E : Env) (L : List Ent) : Nat → CallF
  | 0 => fun _ _ _ _ _ => none
  | n + 1 => fun f args σ hs Λ => match findE L f args σ with
    | some e => some (e.v, ⟨(putObs σ e.put).t, e.n1⟩, Λ)
    | none => bodyN E (callT E L n) f args σ hs Λ

theorem callT_ok (hE : EnvOK P E) (hX : ExtOK P E) (hN : NameOK E) (hmix : P.follows .mixedOrders = true) {L : List Ent} (hL : ∀ e ∈ L, EntOK P E e) : ∀ n, CallOK P E (callT E L n)
  | 0 => by intro f args σ hs Λ v σ' Λ' h; simp [callT] at h
  | n + 1 => by
    have ih := callT_ok hE hX hN hmix hL n
    intro f args σ hs Λ v σ' Λ' h
    simp only [callT] at h
    split at h
    · rename_i e hf
      simp only [Option.some.injEq, Prod.mk.injEq] at h; obtain ⟨rfl, rfl, rfl⟩ := h
      obtain ⟨h1, rfl, rfl, h4, h5⟩ := findE_spec hf
      intro base inv V A O W hcx hh H hb ha hi hd hlf
      exact hL e h1 σ h4 h5 base inv V A O W Λ hcx H hb ha hi hd hlf
    · exact body_ok hE hX hN ih (code_ok hE hmix _ ih) f args σ hs Λ v σ' Λ' h
end
end Go.Eng

/-
  THE ENGINE, 53: the same, made for the kernel: small bodies, no state within states.
-/
namespace Go.Eng
open Go

/-! ### Operations -/

noncomputable def litF (v : Value) : Option AV :=
  match v with
  | .int k i => some (.int k i)
  | .bool b => some (.bool b)
  | v => lit 3 v
noncomputable def evF (τ : Tmps) (x : Operand) : Option AV :=
  Operand.rec (motive := fun _ => Option AV) (fun t => τ.get t) (fun v => litF v) (fun g => some (.gp g 0)) (fun f => some (.fn f [] [])) x
theorem evF_eq (τ : Tmps) (x : Operand) : evF τ x = ev τ x := by
  cases x with
  | const v => cases v <;> rfl
  | _ => rfl

noncomputable def p_move (τ : Tmps) (σ : Hp) (x : Operand) : Option Res :=
  (evF τ x).map (.val · σ)
noncomputable def p_pick (τ : Tmps) (σ : Hp) (c : Operand) (a : Operand) (b : Operand) : Option Res :=
  match evF τ c with
    | some (.bool true) => (evF τ a).map (.val · σ)
    | some (.bool false) => (evF τ b).map (.val · σ)
    | _ => none
noncomputable def p_alloc (E : Env) (σ : Hp) (t : TypeId) : Option Res :=
  match E.zero t with
    | some z => some (.val (.ptr σ.n 0) (σ.push (.cells false z.cells)))
    | none => none
noncomputable def p_box (τ : Tmps) (σ : Hp) (x : Operand) : Option Res :=
  match evF τ x with
    | some z => some (.val (.ptr σ.n 0) (σ.push (.cells false z.cells)))
    | none => none
noncomputable def p_build (E : Env) (τ : Tmps) (σ : Hp) (t : TypeId) (ps : Array (Nat × Operand)) : Option Res :=
  match E.zero t, evParts τ ps.toList with
    | some z, some parts => match E.ty t with
      | some (.struct fs) => (fill (fieldPlace E fs) z.cells parts).map fun cs => .val (.agg cs) σ
      | some (.arr _ e) => (fill (fun i => some (i * E.size e, E.size e)) z.cells parts).map fun cs => .val (.agg cs) σ
      | _ => none
    | _, _ => none
noncomputable def p_buildSlice (E : Env) (τ : Tmps) (σ : Hp) (t : TypeId) (len : Nat) (ps : Array (Nat × Operand)) : Option Res :=
  match E.ty t, evParts τ ps.toList with
    | some (.slice e), some parts => match E.zero e, Nat.ble (len * E.size e) 65536 with
      | some z, true => (fill (fun i => some (i * E.size e, E.size e)) (repl len z.cells) parts).map fun cs => .val (.sl σ.n 0 len len (E.size e)) (σ.push (.cells false cs))
      | _, _ => none
    | _, _ => none
noncomputable def p_load (E : Env) (τ : Tmps) (σ : Hp) (t : TypeId) (a : Operand) : Option Res :=
  match evF τ a with
    | some a => (loadV E σ t a).map (.val · σ)
    | none => none
noncomputable def p_store (E : Env) (τ : Tmps) (σ : Hp) (t : TypeId) (a : Operand) (x : Operand) : Option Res :=
  match evF τ a, evF τ x with
    | some a, some x => (storeV E σ t a x).map .skip
    | _, _ => none
noncomputable def p_nilCheck (E : Env) (τ : Tmps) (σ : Hp) (x : Operand) : Option Res :=
  match evF τ x with
    | some (.ptr id off) => some (.val (.ptr id off) σ)
    | some (.gp g off) => some (.val (.gp g off) σ)
    | some (.cp l off) => some (.val (.cp l off) σ)
    | some (.fn f a b) => some (.val (.fn f a b) σ)
    | some (.ifc t v) => some (.val (.ifc t v) σ)
    | some (.mv t v n) => match E.meth t n with
      | some _ => some (.val (.mv t v n) σ)
      | none => none
    | _ => none
noncomputable def p_binOp (E : Env) (τ : Tmps) (σ : Hp) (b : BinOp) (t : TypeId) (x : Operand) (y : Operand) : Option Res :=
  match evF τ x, evF τ y with
    | some v, some w => (binop E b t v w (isConst x || isConst y)).map (.val · σ)
    | _, _ => none
noncomputable def p_unOp (τ : Tmps) (σ : Hp) (u : UnOp) (x : Operand) : Option Res :=
  match evF τ x with
    | some x => (unop u x).map (.val · σ)
    | none => none
noncomputable def p_convert (E : Env) (τ : Tmps) (σ : Hp) (s : TypeId) (d : TypeId) (x : Operand) : Option Res :=
  match evF τ x with
    | some x => (convV E σ s d x).map fun r => .val r.1 r.2
    | none => none
noncomputable def p_makeInterface (E : Env) (τ : Tmps) (σ : Hp) (t : TypeId) (x : Operand) : Option Res :=
  match E.ty t, evF τ x with
    | some (.ifc _), _ => none
    | some _, some x => some (.val (.ifc t x) σ)
    | _, _ => none
noncomputable def p_makeFunc (τ : Tmps) (σ : Hp) (fn : Fn) (first captured : Array Operand) : Option Res :=
  match fn with
  | .func f => match evs τ first.toList, evs τ captured.toList with
    | some a, some b => some (.val (.fn f a b) σ)
    | _, _ => none
  | .method n => match evs τ first.toList, evs τ captured.toList with
    | some [.ifc t v], some [] => some (.val (.mv t v n) σ)
    | _, _ => none
  | _ => none
noncomputable def p_makeMap (E : Env) (σ : Hp) (t : TypeId) (r : Option Operand) : Option Res :=
  match r with
  | none => match E.ty t with
    | some (.map _ _) => some (.val (.mp σ.n) (σ.push (.map [])))
    | _ => none
  | _ => none
noncomputable def p_makeSlice (E : Env) (τ : Tmps) (σ : Hp) (t : TypeId) (l : Operand) (c : Operand) : Option Res :=
  match E.ty t, evF τ l, evF τ c with
    | some (.slice e), some (.int .i64 (.ofNat n)), some (.int .i64 (.ofNat m)) => match Nat.ble n m, Nat.ble m 65536 && Nat.ble (E.bytes e) 65536, E.zero e with
      | true, true, some z => some (.val (.sl σ.n 0 n m (E.size e)) (σ.push (.cells false (repl n z.cells))))
      | _, _, _ => none
    | _, _, _ => none
noncomputable def p_slice (E : Env) (τ : Tmps) (σ : Hp) (t : TypeId) (x : Operand) (lo hi mx : Option Operand) : Option Res :=
  match mx with
  | none => match ev τ x, optA τ lo, optA τ hi with
    | some x, some lo, some hi => (sliceV E σ t x lo hi).map (.val · σ)
    | _, _, _ => none
  | some mx => match hi with
    | none => none
    | some hi => match ev τ x, optA τ lo, ev τ hi, ev τ mx with
      | some x, some lo, some hi, some mx => (slice3V E t x lo (some hi) (some mx)).map (.val · σ)
      | _, _, _, _ => none
noncomputable def p_fieldAddr (E : Env) (τ : Tmps) (σ : Hp) (t : TypeId) (x : Operand) (i : Nat) : Option Res :=
  match E.ty t with
    | some (.struct fs) => match fs[i]?, evF τ x with
      | some f, some x => match Nat.beq (E.size f.type) 0, x with
        | false, .ptr id off => some (.val (.ptr id (off + f.off)) σ)
        | false, .gp g off => some (.val (.gp g (off + f.off)) σ)
        | false, .cp l off => some (.val (.cp l (off + f.off)) σ)
        | _, _ => none
      | _, _ => none
    | _ => none
noncomputable def p_field (E : Env) (τ : Tmps) (σ : Hp) (t : TypeId) (x : Operand) (i : Nat) : Option Res :=
  match E.ty t, evF τ x with
    | some (.struct fs), some (.agg cs) => match fs[i]? with
      | some f => (part E f.type cs f.off).map (.val · σ)
      | none => none
    | _, _ => none
noncomputable def p_indexAddr (E : Env) (τ : Tmps) (σ : Hp) (t : TypeId) (x : Operand) (i : Operand) : Option Res :=
  match E.ty t, evF τ x, evF τ i with
    | some (.slice e), some (.sl id off len _ _), some (.int _ j) => (idx j len).map fun j => .val (.ptr id (off + j * E.size e)) σ
    | some (.slice e), some (.csl cells len), some (.int _ j) => (idx j len).map fun j => .val (.cp cells (j * E.size e)) σ
    | some (.slice e), some (.vs t _ l), some (.int _ j) => match inB j l.length, Nat.beq t.size (E.size e) with
      | true, true => some (.val (.cp (t.cells (l.getD j.toNat t.dflt)) 0) σ)
      | _, _ => none
    | some (.arr len e), some (.ptr id off), some (.int _ j) => (idx j len).map fun j => .val (.ptr id (off + j * E.size e)) σ
    | some (.arr len e), some (.gp g off), some (.int _ j) => (idx j len).map fun j => .val (.gp g (off + j * E.size e)) σ
    | _, _, _ => none
noncomputable def p_index (E : Env) (τ : Tmps) (σ : Hp) (t : TypeId) (x : Operand) (i : Operand) : Option Res :=
  match E.ty t, evF τ x, evF τ i with
    | some (.arr len e), some (.agg cs), some (.int _ j) => match idx j len with
      | some j => (part E e cs (j * E.size e)).map (.val · σ)
      | none => none
    | some .str, some (.str s), some (.int _ (.ofNat j)) => (s[j]?).map fun b => .val (.int .u8 (Int.ofNat b)) σ
    | _, _, _ => none
noncomputable def p_lookup (E : Env) (τ : Tmps) (σ : Hp) (t : TypeId) (x : Operand) (k : Operand) (ok : Bool) : Option Res :=
  match E.ty t, evF τ x, evF τ k, keyT E t with
    | some (.map _ e), some m, some k, some kt =>
      match (match m with | .nilm => some [] | .mp id => (match σ.get id with | some (.map es) => some es | _ => none) | _ => none), E.zero e with
      | some es, some z => match findK E kt k es with
        | some (some (_, y)) => some (.val (match ok with | true => .tup [y, .bool true] | false => y) σ)
        | some none => some (.val (match ok with | true => .tup [z, .bool false] | false => z) σ)
        | none => none
      | _, _ => none
    | _, _, _, _ => none
noncomputable def p_upd (E : Env) (τ : Tmps) (σ : Hp) (t : TypeId) (m : Operand) (k : Operand) (x : Operand) : Option Res :=
  match evF τ m, evF τ k, evF τ x, keyT E t with
    | some (.mp id), some k, some x, some kt => match σ.get id with
      | some (.map es) => (mapSet E kt es k x).map fun es => .skip (σ.set id (.map es))
      | _ => none
    | _, _, _, _ => none
noncomputable def p_range (E : Env) (τ : Tmps) (σ : Hp) (t : TypeId) (x : Operand) : Option Res :=
  match E.ty t, evF τ x with
    | some .str, some (.str s) => some (.val (.iter σ.n) (σ.push (.siter s 0)))
    | _, _ => none
noncomputable def p_next (τ : Tmps) (σ : Hp) (x : Operand) (s : Bool) : Option Res :=
  match s with
  | true => match ev τ x with
    | some (.iter id) => match σ.get id with
      | some (.siter s pos) => match s[pos]? with
        | some b => match Nat.ble b 127 with
          | true => some (.val (.tup [.bool true, .int .i64 pos, .int .i32 (Int.ofNat b)]) (σ.set id (.siter s (pos + 1))))
          | false => some (.val (.tup [.bool true, .int .i64 pos, .int .i32 (Int.ofNat (decN s pos).1)]) (σ.set id (.siter s (pos + (decN s pos).2))))
        | none => some (.val (.tup [.bool false]) σ)
      | _ => none
    | _ => none
  | false => none
noncomputable def p_typeAssert (E : Env) (τ : Tmps) (σ : Hp) (x : Operand) (a : TypeId) (ok : Bool) : Option Res :=
  match E.ty a, evF τ x with
    | some (.ifc _), _ => none
    | some _, some .nili => match ok, E.zero a with
      | true, some z => some (.val (.tup [z, .bool false]) σ)
      | _, _ => none
    | some _, some (.ifc t y) => match Nat.beq t a with
      | true => some (.val (match ok with | true => .tup [y, .bool true] | false => y) σ)
      | false => match ok, E.zero a with
        | true, some z => some (.val (.tup [z, .bool false]) σ)
        | _, _ => none
    | _, _ => none
noncomputable def p_extract (τ : Tmps) (σ : Hp) (x : Operand) (i : Nat) : Option Res :=
  match evF τ x with
    | some (.tup l) => (l[i]?).map (.val · σ)
    | _ => none
noncomputable def p_defer (E : Env) (τ : Tmps) (σ : Hp) (c : Call) : Option Res :=
  match isInv c, callV E τ σ c with
    | false, some (.call f args) => some (.dfr f args)
    | _, _ => none
noncomputable def opF (E : Env) (τ : Tmps) (σ : Hp) (o : Op) : Option Res :=
  Op.rec (motive := fun _ => Option Res) (fun x => p_move τ σ x) (fun x => p_move τ σ x) (fun c a b => p_pick τ σ c a b) (fun t => p_alloc E σ t) (fun _ x => p_box τ σ x) (fun t ps => p_build E τ σ t ps) (fun t len ps => p_buildSlice E τ σ t len ps) (fun t m k x => p_upd E τ σ t m k x) (fun t a => p_load E τ σ t a) (fun t a x => p_store E τ σ t a x) (fun _ => none) (fun _ => none) (fun x => p_nilCheck E τ σ x) (fun b t x y _ => p_binOp E τ σ b t x y) (fun u _ x => p_unOp τ σ u x) (fun s d x => p_convert E τ σ s d x) (fun _ _ => none) (fun t x => p_makeInterface E τ σ t x) (fun f a b => p_makeFunc τ σ f a b) (fun t r => p_makeMap E σ t r) (fun _ _ => none) (fun t l c => p_makeSlice E τ σ t l c) (fun t x a b c => p_slice E τ σ t x a b c) (fun t x i => p_fieldAddr E τ σ t x i) (fun t x i => p_field E τ σ t x i) (fun t x i => p_indexAddr E τ σ t x i) (fun t x i => p_index E τ σ t x i) (fun t x k ok => p_lookup E τ σ t x k ok) (fun t m k x => p_upd E τ σ t m k x) (fun _ _ _ => none) (fun _ _ _ _ => none) (fun t x => p_range E τ σ t x) (fun x s => p_next τ σ x s) (fun _ => none) (fun x _ a ok => p_typeAssert E τ σ x a ok) (fun x i => p_extract τ σ x i) (fun c => callV E τ σ c) (fun _ => none) (fun c => p_defer E τ σ c) (fun _ => none) (fun _ _ => none) (fun _ _ _ => none) (fun _ _ => none) o

theorem opF_eq (E : Env) (τ : Tmps) (σ : Hp) (o : Op) : opF E τ σ o = op E τ σ o := by
  cases o with
  | makeFunc f a b => cases f <;> rfl
  | makeMap t r => cases r <;> rfl
  | slice t x a b c => cases c with
    | none => rfl
    | some y => cases b <;> rfl
  | next x s => cases s <;> simp only [opF, p_next, op, evF_eq] <;> rfl
  | extract x i => simp only [opF, p_extract, op, evF_eq] <;> rfl
  | typeAssert x u a ok => simp only [opF, p_typeAssert, op, evF_eq] <;> rfl
  | range t x => simp only [opF, p_range, op, evF_eq] <;> rfl
  | mapUpdate t m k x => simp only [opF, p_upd, op, evF_eq] <;> rfl
  | insert t m k x => simp only [opF, p_upd, op, evF_eq] <;> rfl
  | lookup t x k ok => simp only [opF, p_lookup, op, evF_eq] <;> rfl
  | index t x i => simp only [opF, p_index, op, evF_eq] <;> rfl
  | indexAddr t x i => simp only [opF, p_indexAddr, op, evF_eq] <;> rfl
  | field t x i => simp only [opF, p_field, op, evF_eq] <;> rfl
  | fieldAddr t x i => simp only [opF, p_fieldAddr, op, evF_eq] <;> rfl
  | makeSlice t l c => simp only [opF, p_makeSlice, op, evF_eq] <;> rfl
  | makeInterface t x => simp only [opF, p_makeInterface, op, evF_eq] <;> rfl
  | convert s d x => simp only [opF, p_convert, op, evF_eq] <;> rfl
  | unOp u t x => simp only [opF, p_unOp, op, evF_eq] <;> rfl
  | binOp b t x y u => simp only [opF, p_binOp, op, evF_eq] <;> rfl
  | nilCheck x => simp only [opF, p_nilCheck, op, evF_eq] <;> rfl
  | store t a x => simp only [opF, p_store, op, evF_eq] <;> rfl
  | load t a => simp only [opF, p_load, op, evF_eq] <;> rfl
  | box t x => simp only [opF, p_box, op, evF_eq] <;> rfl
  | pick c a b => simp only [opF, p_pick, op, evF_eq] <;> rfl
  | move x => simp only [opF, p_move, op, evF_eq] <;> rfl
  | assign x => simp only [opF, p_move, op, evF_eq] <;> rfl
  | _ => rfl

/-! ### Calls -/

/-- Without slices to be frozen. -/
noncomputable def flatL (g : AV → Bool) (l : List AV) : Bool := List.rec true (fun v _ r => Bool.rec false r (g v)) l
noncomputable def flatV (n : Nat) : AV → Bool := Nat.rec (fun _ => false) (fun _ ih v => match v with
  | .sl _ _ _ _ _ => false
  | .agg l => flatL ih l
  | _ => true) n

theorem flatL_cons {g : AV → Bool} {v : AV} {l : List AV} : flatL g (v :: l) = true ↔ g v = true ∧ flatL g l = true := by
  show Bool.rec false (flatL g l) (g v) = true ↔ _
  cases g v <;> simp

theorem flat_both : ∀ n, (∀ v, flatV n v = true → ∀ σ, frzArg v σ = (v, σ)) ∧ (∀ l, flatL (flatV n) l = true → ∀ σ, frzArgs l σ = (l, σ)) := by
  intro n
  induction n with
  | zero =>
    refine ⟨fun v h => absurd h (by intro h; cases h), fun l h => ?_⟩
    cases l with
    | nil => exact fun _ => by simp only [frzArgs]
    | cons v l => have := (flatL_cons.1 h).1; cases this
  | succ n ih =>
    have hv : ∀ v, flatV (n + 1) v = true → ∀ σ, frzArg v σ = (v, σ) := by
      intro v h σ
      cases v with
      | agg l => simp only [frzArg, ih.2 l h]
      | sl => cases h
      | _ => simp only [frzArg]
    refine ⟨hv, fun l => ?_⟩
    induction l with
    | nil => exact fun _ _ => by simp only [frzArgs]
    | cons v l ihl =>
      intro h σ
      obtain ⟨a, b⟩ := flatL_cons.1 h
      simp only [frzArgs, hv v a, ihl b]

noncomputable def doCallF (E : Env) (call : CallF) (hs : Hnds) (f : Nat) (args : List AV) (σ : Hp) (Λ : List LF) : Option (AV × Hp × List LF) :=
  Bool.rec (doCall E call hs f args σ Λ) (call f args σ hs Λ) (flatL (flatV 3) args)

theorem doCallF_eq (E : Env) (call : CallF) (hs : Hnds) (f : Nat) (args : List AV) (σ : Hp) (Λ : List LF) : doCallF E call hs f args σ Λ = doCall E call hs f args σ Λ := by
  unfold doCallF
  cases h : flatL (flatV 3) args with
  | false => rfl
  | true =>
    have h1 := (flat_both 3).2 args h σ
    unfold doCall
    cases E.frz f with
    | true => simp only [h1]
    | false => rfl

/-! ### Regions -/

structure S4 where
  τ : Tmps
  σ : Hp
  ds : List (Nat × List AV)
  Λ : List LF
abbrev K4 (α : Type) := Tmps → Hp → List (Nat × List AV) → List LF → Option α

noncomputable def putF {α : Type} (k : K4 α) (nt : Nat) (τ : Tmps) (σ : Hp) (ds : List (Nat × List AV)) (Λ : List LF) (d : Option Nat) (v : AV) : Option α :=
  Option.rec (motive := fun _ => Option α) (k τ σ ds Λ) (fun t => Bool.rec (motive := fun _ => Option α) none (k (τ.set t v) σ ds Λ) (Nat.ble (Nat.succ t) nt)) d

noncomputable def callR {α : Type} (k : K4 α) (nt : Nat) (τ : Tmps) (ds : List (Nat × List AV)) (d : Option Nat) (r : Option (AV × Hp × List LF)) : Option α :=
  Option.rec (motive := fun _ => Option α) none (fun r => putF k nt τ r.2.1 ds r.2.2 d r.1) r

noncomputable def resF {α : Type} (E : Env) (call : CallF) (hs : Hnds) (nt : Nat) (rnd : Bool) (k : K4 α) (d : Option Nat) (τ : Tmps) (σ : Hp) (ds : List (Nat × List AV)) (Λ : List LF) (r : Option Res) : Option α :=
  Option.rec (motive := fun _ => Option α) none (fun r => Res.rec (motive := fun _ => Option α) (fun v σ' => putF k nt τ σ' ds Λ d v) (fun σ' => putF k nt τ σ' ds Λ d undefA)
    (fun f args => callR k nt τ ds d (doCallF E call hs f args σ Λ)) (fun l args => callR k nt τ ds d (doYield hs l args σ Λ))
    (fun f args => Bool.rec (motive := fun _ => Option α) (putF k nt τ σ ((f, args) :: ds) Λ d undefA) none rnd) (Bool.rec (motive := fun _ => Option α) (putF k nt τ σ ds Λ d .nili) none rnd) r) r

noncomputable def oneF {α : Type} (E : Env) (call : CallF) (hs : Hnds) (ops : Array Oper) (nt : Nat) (rnd : Bool) (o : Oper) (k : K4 α) (τ : Tmps) (σ : Hp) (ds : List (Nat × List AV)) (Λ : List LF) : Option α :=
  Option.rec (motive := fun _ => Option α) (resF E call hs nt rnd k o.dst τ σ ds Λ (opF E τ σ o.op))
    (fun _ => match wantedA ops τ o with
      | none => none
      | some false => putF k nt τ σ ds Λ o.dst undefA
      | some true => resF E call hs nt rnd k o.dst τ σ ds Λ (opF E τ σ o.op)) o.guard

/-- What comes behind an operation. -/
def thenK {α : Type} (k : K4 α) : Option St → Option α
  | none => none
  | some st => k st.τ st.σ st.ds st.Λ

theorem putF_eq {α : Type} (k : K4 α) (st : St) (d : Option Nat) (v : AV) : putF k st.nt st.τ st.σ st.ds st.Λ d v = thenK k (putS st d v) := by
  unfold putS putT
  cases d with
  | none => rfl
  | some t =>
    simp only [putF]
    rw [show Nat.ble (Nat.succ t) st.nt = Nat.ble (t + 1) st.nt from rfl]
    cases Nat.ble (t + 1) st.nt <;> rfl

theorem putS_nt {st st' : St} {d : Option Nat} {v : AV} (h : putS st d v = some st') : st'.nt = st.nt ∧ st'.rnd = st.rnd := by
  unfold putS at h
  split at h
  · simp only [Option.some.injEq] at h; subst h; exact ⟨rfl, rfl⟩
  · cases h

theorem resF_eq {α : Type} (E : Env) (call : CallF) (hs : Hnds) (nt : Nat) (rnd : Bool) (k : K4 α) (d : Option Nat) (τ : Tmps) (σ : Hp) (ds : List (Nat × List AV)) (Λ : List LF) (r : Option Res) :
    resF E call hs nt rnd k d τ σ ds Λ r = thenK k (match r with
    | none => none
    | some (.val v σ') => putS ⟨τ, σ', ds, Λ, nt, rnd⟩ d v
    | some (.skip σ') => putS ⟨τ, σ', ds, Λ, nt, rnd⟩ d undefA
    | some (.call f args) => match doCall E call hs f args σ Λ with
      | some (v, σ, Λ) => putS ⟨τ, σ, ds, Λ, nt, rnd⟩ d v
      | none => none
    | some (.yld l args) => match doYield hs l args σ Λ with
      | some (v, σ, Λ) => putS ⟨τ, σ, ds, Λ, nt, rnd⟩ d v
      | none => none
    | some (.dfr f args) => match rnd with
      | true => none
      | false => putS ⟨τ, σ, (f, args) :: ds, Λ, nt, rnd⟩ d undefA
    | some .recov => match rnd with
      | true => none
      | false => putS ⟨τ, σ, ds, Λ, nt, rnd⟩ d .nili) := by
  cases r with
  | none => rfl
  | some r =>
    cases r with
    | val v σ' => exact putF_eq k ⟨τ, σ', ds, Λ, nt, rnd⟩ d v
    | skip σ' => exact putF_eq k ⟨τ, σ', ds, Λ, nt, rnd⟩ d undefA
    | call f args =>
      simp only [resF, doCallF_eq]
      cases doCall E call hs f args σ Λ with
      | none => rfl
      | some r => obtain ⟨v, σ', Λ'⟩ := r; exact putF_eq k ⟨τ, σ', ds, Λ', nt, rnd⟩ d v
    | yld l args =>
      simp only [resF]
      cases doYield hs l args σ Λ with
      | none => rfl
      | some r => obtain ⟨v, σ', Λ'⟩ := r; exact putF_eq k ⟨τ, σ', ds, Λ', nt, rnd⟩ d v
    | dfr f args =>
      cases rnd with
      | true => rfl
      | false => exact putF_eq k ⟨τ, σ, (f, args) :: ds, Λ, nt, false⟩ d undefA
    | recov =>
      cases rnd with
      | true => rfl
      | false => exact putF_eq k ⟨τ, σ, ds, Λ, nt, false⟩ d .nili

theorem oneF_eq {α : Type} (E : Env) (call : CallF) (hs : Hnds) (ops : Array Oper) (o : Oper) (k : K4 α) (st : St) :
    oneF E call hs ops st.nt st.rnd o k st.τ st.σ st.ds st.Λ = thenK k (oneOp E call hs ops o st) := by
  obtain ⟨τ, σ, ds, Λ, nt, rnd⟩ := st
  have hr : ∀ r, resF E call hs nt rnd k o.dst τ σ ds Λ (opF E τ σ o.op) = thenK k r → oneF E call hs ops nt rnd o k τ σ ds Λ = thenK k (match wantedA ops τ o with
      | none => none
      | some false => putS ⟨τ, σ, ds, Λ, nt, rnd⟩ o.dst undefA
      | some true => r) := by
    intro r h
    unfold oneF
    cases hg : o.guard with
    | none =>
      have : wantedA ops τ o = some true := by unfold wantedA; rw [hg]
      rw [this]; exact h
    | some g =>
      simp only
      cases wantedA ops τ o with
      | none => rfl
      | some b =>
        cases b with
        | true => exact h
        | false => exact putF_eq k ⟨τ, σ, ds, Λ, nt, rnd⟩ o.dst undefA
  rw [hr _ (resF_eq E call hs nt rnd k o.dst τ σ ds Λ (opF E τ σ o.op)), opF_eq]
  unfold oneOp
  rfl

theorem oneOp_nt {E : Env} {call : CallF} {hs : Hnds} {ops : Array Oper} {o : Oper} {st st' : St} (h : oneOp E call hs ops o st = some st') : st'.nt = st.nt ∧ st'.rnd = st.rnd := by
  have key : ∀ {s : St} {d : Option Nat} {v : AV}, putS s d v = some st' → s.nt = st.nt → s.rnd = st.rnd → st'.nt = st.nt ∧ st'.rnd = st.rnd := fun h h1 h2 => by
    obtain ⟨a, b⟩ := putS_nt h
    exact ⟨a.trans h1, b.trans h2⟩
  unfold oneOp at h
  split at h
  · cases h
  · exact key h rfl rfl
  · split at h
    · cases h
    · exact key h rfl rfl
    · exact key h rfl rfl
    · split at h
      · exact key h rfl rfl
      · cases h
    · split at h
      · exact key h rfl rfl
      · cases h
    · split at h
      · cases h
      · exact key h rfl rfl
    · split at h
      · cases h
      · exact key h rfl rfl

noncomputable def runF (E : Env) (call : CallF) (hs : Hnds) (ops : Array Oper) (nt : Nat) (rnd : Bool) (l : List Oper) : K4 S4 :=
  List.rec (motive := fun _ => K4 S4) (fun τ σ ds Λ => some ⟨τ, σ, ds, Λ⟩) (fun o _ ih => oneF E call hs ops nt rnd o ih) l

def s4 (st : St) : S4 := ⟨st.τ, st.σ, st.ds, st.Λ⟩

theorem runF_eq (E : Env) (call : CallF) (hs : Hnds) (ops : Array Oper) : ∀ (l : List Oper) (st : St), runF E call hs ops st.nt st.rnd l st.τ st.σ st.ds st.Λ = (runOps E call hs ops l st).map s4
  | [], st => rfl
  | o :: l, st => by
    show oneF E call hs ops st.nt st.rnd o (runF E call hs ops st.nt st.rnd l) st.τ st.σ st.ds st.Λ = _
    rw [oneF_eq, runOps]
    cases h : oneOp E call hs ops o st with
    | none => rfl
    | some st1 =>
      obtain ⟨h1, h2⟩ := oneOp_nt h
      show runF E call hs ops st.nt st.rnd l st1.τ st1.σ st1.ds st1.Λ = _
      rw [← h1, ← h2, runF_eq E call hs ops l st1]

theorem runOps_nt {E : Env} {call : CallF} {hs : Hnds} {ops : Array Oper} : ∀ {l : List Oper} {st st' : St}, runOps E call hs ops l st = some st' → st'.nt = st.nt ∧ st'.rnd = st.rnd
  | [], st, st', h => by simp only [runOps, Option.some.injEq] at h; subst h; exact ⟨rfl, rfl⟩
  | o :: l, st, st', h => by
    rw [runOps] at h
    split at h
    · rename_i st1 h1
      obtain ⟨a, b⟩ := oneOp_nt h1
      obtain ⟨c, d⟩ := runOps_nt h
      exact ⟨c.trans a, d.trans b⟩
    · cases h

end Go.Eng

/-
  THE ENGINE, 54: regions whose order is drawn, codes and calls, made for the kernel.
-/
namespace Go.Eng
open Go

attribute [local irreducible] upTo

section
variable {E : Env} {call : CallF} {hs : Hnds} {ops : Array Oper}

/-! ### Regions whose order is drawn -/

noncomputable def lookSameF (E : Env) (o : Oper) (τ τ' : Tmps) (σ : Hp) : Bool :=
  match cstL τ o.op with
  | true => true
  | false => match opF E τ σ o.op with
    | some (.val v _) => match o.dst with
      | none => true
      | some d => match τ'.get d with
        | some w => avbeq w v
        | none => true
    | _ => false
theorem lookSameF_eq (E : Env) (o : Oper) (τ τ' : Tmps) (σ : Hp) : lookSameF E o τ τ' σ = lookSame E o τ τ' σ := by
  unfold lookSameF lookSame
  rw [opF_eq]
  rfl
noncomputable def lookOKF (E : Env) (o : Oper) (i a : Nat) (τ τ' : Tmps) : Option Nat → Phs → Bool
  | _, [] => true
  | nx, (σ, am, h) :: ph => match (match nx with | some x => msHas a x | none => false), msHas am i with
    | false, false => match lookSameF E o τ τ' σ with
      | true => lookOKF E o i a τ τ' h ph
      | false => false
    | _, _ => lookOKF E o i a τ τ' h ph
theorem lookOKF_eq (E : Env) (o : Oper) (i a : Nat) (τ τ' : Tmps) : ∀ (ph : Phs) (nx : Option Nat), lookOKF E o i a τ τ' nx ph = lookOK E o i a τ τ' nx ph
  | [], _ => rfl
  | (σ, am, h) :: ph, nx => by
    simp only [lookOKF, lookOK, lookSameF_eq, lookOKF_eq E o i a τ τ' ph]
    rfl
noncomputable def looksOKF (E : Env) (ops : Array Oper) (ph : Phs) : Lks → Bool
  | [] => true
  | (o, i, a, τ, τ') :: lk => match wantedA ops τ o with
    | some false => looksOKF E ops ph lk
    | _ => match lookOKF E o i a τ τ' none ph with
      | true => looksOKF E ops ph lk
      | false => false
theorem looksOKF_eq (E : Env) (ops : Array Oper) (ph : Phs) : ∀ lk : Lks, looksOKF E ops ph lk = looksOK E ops ph lk
  | [] => rfl
  | (o, i, a, τ, τ') :: lk => by
    simp only [looksOKF, looksOK, lookOKF_eq, looksOKF_eq E ops ph lk]
    rfl

abbrev D4 := List Inf → Nat → Phs → Lks → K4 (S4 × Phs × Lks)
noncomputable def behindD (o : Oper) (f : Inf) (fs : List Inf) (i : Nat) (ph : Phs) (lk : Lks) (ih : D4) (τ0 : Tmps) : K4 (S4 × Phs × Lks) := fun τ σ ds Λ =>
  Bool.rec (motive := fun _ => Option (S4 × Phs × Lks)) (Bool.rec (motive := fun _ => Option (S4 × Phs × Lks)) (ih fs (i + 1) ph lk τ σ ds Λ) (ih fs (i + 1) ph ((o, i, f.a, τ0, τ) :: lk) τ σ ds Λ) (Nat.beq f.c 1)) (ih fs (i + 1) ((σ, f.a, some i) :: ph) lk τ σ ds Λ) (Nat.beq f.c 0)
noncomputable def stepD (E : Env) (call : CallF) (hs : Hnds) (ops : Array Oper) (nt : Nat) (rnd : Bool) (n0 : Nat) (o : Oper) (f : Inf) (fs : List Inf) (i : Nat) (ph : Phs) (lk : Lks) (ih : D4) : K4 (S4 × Phs × Lks) := fun τ σ ds Λ =>
  Bool.rec (motive := fun _ => Option (S4 × Phs × Lks)) (oneF E call hs ops nt rnd o (behindD o f fs i ph lk ih τ) τ σ ds Λ) (thenK (behindD o f fs i ph lk ih τ) (oneD E call hs ops n0 f o ⟨τ, σ, ds, Λ, nt, rnd⟩)) (Nat.beq f.c 3)
noncomputable def runDF (E : Env) (call : CallF) (hs : Hnds) (ops : Array Oper) (nt : Nat) (rnd : Bool) (n0 : Nat) (l : List Oper) : D4 :=
  List.rec (motive := fun _ => D4) (fun _ _ ph lk τ σ ds Λ => some (⟨τ, σ, ds, Λ⟩, ph, lk))
    (fun o _ ih fs i ph lk => List.rec (motive := fun _ => K4 (S4 × Phs × Lks)) (fun τ σ ds Λ => some (⟨τ, σ, ds, Λ⟩, ph, lk)) (fun f fs' _ => stepD E call hs ops nt rnd n0 o f fs' i ph lk ih) fs) l

theorem oneD_nt {n0 : Nat} {f : Inf} {o : Oper} {st st' : St} (h : oneD E call hs ops n0 f o st = some st') : st'.nt = st.nt ∧ st'.rnd = st.rnd := by
  have key : ∀ {s : St} {d : Option Nat} {v : AV}, putS s d v = some st' → s.nt = st.nt → s.rnd = st.rnd → st'.nt = st.nt ∧ st'.rnd = st.rnd := fun h h1 h2 => by
    obtain ⟨a, b⟩ := putS_nt h
    exact ⟨a.trans h1, b.trans h2⟩
  unfold oneD at h
  split at h
  · split at h
    · cases h
    · exact key h rfl rfl
    · split at h
      · exact key h rfl rfl
      · cases h
  · exact oneOp_nt h

theorem stepD_eq {nt : Nat} {rnd : Bool} {n0 : Nat} {o : Oper} {f : Inf} {fs : List Inf} {i : Nat} {ph : Phs} {lk : Lks} {ih : D4} (st : St) (h1 : st.nt = nt) (h2 : st.rnd = rnd) :
    stepD E call hs ops nt rnd n0 o f fs i ph lk ih st.τ st.σ st.ds st.Λ = thenK (behindD o f fs i ph lk ih st.τ) (oneD E call hs ops n0 f o st) := by
  subst h1; subst h2
  unfold stepD
  cases h : Nat.beq f.c 3 with
  | true => rfl
  | false =>
    rw [show oneD E call hs ops n0 f o st = oneOp E call hs ops o st by
      unfold oneD
      split
      · rename_i e; rw [e] at h; cases h
      · rfl]
    exact oneF_eq E call hs ops o _ st

theorem runDF_eq {nt : Nat} {rnd : Bool} {n0 : Nat} : ∀ (l : List Oper) (fs : List Inf) (i : Nat) (ph : Phs) (lk : Lks) (st : St), st.nt = nt → st.rnd = rnd →
    runDF E call hs ops nt rnd n0 l fs i ph lk st.τ st.σ st.ds st.Λ = (runD E call hs ops n0 l fs i st ph lk).map fun r => (s4 r.1, r.2.1, r.2.2)
  | [], fs, i, ph, lk, st, h1, h2 => by cases fs <;> rfl
  | o :: l, [], i, ph, lk, st, h1, h2 => rfl
  | o :: l, f :: fs, i, ph, lk, st, h1, h2 => by
    show stepD E call hs ops nt rnd n0 o f fs i ph lk (runDF E call hs ops nt rnd n0 l) st.τ st.σ st.ds st.Λ = _
    rw [stepD_eq st h1 h2, runD]
    cases h : oneD E call hs ops n0 f o st with
    | none => rfl
    | some st1 =>
      obtain ⟨a, b⟩ := oneD_nt h
      have ih := fun ph lk => runDF_eq (nt := nt) (rnd := rnd) (n0 := n0) l fs (i + 1) ph lk st1 (a.trans h1) (b.trans h2)
      simp only [thenK, behindD]
      split
      · rename_i e; rw [e]; exact ih _ _
      · rename_i e; rw [e]; exact ih _ _
      · rename_i e1 e2
        rw [show Nat.beq f.c 0 = false by cases h : Nat.beq f.c 0 with | false => rfl | true => exact absurd (Nat.eq_of_beq_eq_true h) e1,
          show Nat.beq f.c 1 = false by cases h : Nat.beq f.c 1 with | false => rfl | true => exact absurd (Nat.eq_of_beq_eq_true h) e2]
        exact ih _ _

noncomputable def drawG (E : Env) (call : CallF) (hs : Hnds) (ops : Array Oper) (nt : Nat) (rnd : Bool) (fs : List Inf) (na : Nat) : K4 S4 := fun τ σ ds Λ =>
  Option.rec (motive := fun _ => Option S4) none (fun r => Bool.rec (motive := fun _ => Option S4) (Bool.rec (motive := fun _ => Option S4) none (some r.1) (looksOKF E ops r.2.1 r.2.2)) (some r.1) (quietI fs)) (runDF E call hs ops nt rnd σ.n ops.toList fs 0 [(⟨σ.t, σ.n + na⟩, 0, none)] [] τ ⟨σ.t, σ.n + na⟩ ds Λ)
noncomputable def drawF (E : Env) (call : CallF) (hs : Hnds) (ops : Array Oper) (nt : Nat) (rnd : Bool) : K4 S4 := fun τ σ ds Λ =>
  Option.rec (motive := fun _ => Option S4) (Option.rec (motive := fun _ => Option S4) none (fun ops' => Option.rec (motive := fun _ => Option S4) none (fun p => drawG E call hs ops' nt rnd p.1 p.2 τ σ ds Λ) (planOf ops'.toList)) (permOf ops)) (fun p => drawG E call hs ops nt rnd p.1 p.2 τ σ ds Λ) (planOf ops.toList)

theorem drawG_eq {fs : List Inf} {na : Nat} (st : St) : drawG E call hs ops st.nt st.rnd fs na st.τ st.σ st.ds st.Λ = (runDrawQ E call hs ops fs na st).map s4 := by
  unfold runDrawQ
  have e := runDF_eq (E := E) (call := call) (hs := hs) (ops := ops) (nt := st.nt) (rnd := st.rnd) (n0 := st.σ.n) ops.toList fs 0 [(⟨st.σ.t, st.σ.n + na⟩, 0, none)] [] { st with σ := ⟨st.σ.t, st.σ.n + na⟩ } rfl rfl
  simp only [drawG]
  simp only at e
  rw [e]
  cases runD E call hs ops st.σ.n ops.toList fs 0 { st with σ := ⟨st.σ.t, st.σ.n + na⟩ } [(⟨st.σ.t, st.σ.n + na⟩, 0, none)] [] with
  | none => rfl
  | some r =>
    obtain ⟨st', ph, lk⟩ := r
    simp only [Option.map_some, looksOKF_eq]
    cases quietI fs
    · simp only
      cases looksOK E ops ph lk <;> rfl
    · rfl

theorem drawF_eq (st : St) : drawF E call hs ops st.nt st.rnd st.τ st.σ st.ds st.Λ = (runDraw E call hs ops st).map s4 := by
  unfold drawF runDraw
  cases planOf ops.toList with
  | some p => exact drawG_eq st
  | none =>
    simp only
    cases permOf ops with
    | none => rfl
    | some ops' =>
      simp only [runDrawP]
      cases planOf ops'.toList with
      | none => rfl
      | some p => exact drawG_eq st

theorem runD_nt {n0 : Nat} : ∀ {l : List Oper} {fs : List Inf} {i : Nat} {st : St} {ph : Phs} {lk : Lks} {r : St × Phs × Lks}, runD E call hs ops n0 l fs i st ph lk = some r → r.1.nt = st.nt ∧ r.1.rnd = st.rnd
  | [], fs, i, st, ph, lk, r, h => by simp only [runD, Option.some.injEq] at h; subst h; exact ⟨rfl, rfl⟩
  | o :: l, [], i, st, ph, lk, r, h => by simp only [runD, Option.some.injEq] at h; subst h; exact ⟨rfl, rfl⟩
  | o :: l, f :: fs, i, st, ph, lk, r, h => by
    rw [runD] at h
    split at h
    · cases h
    · rename_i st1 h1
      obtain ⟨a, b⟩ := oneD_nt h1
      split at h <;> (obtain ⟨c, d⟩ := runD_nt h; exact ⟨c.trans a, d.trans b⟩)
theorem runDrawQ_nt {fs : List Inf} {na : Nat} {st st' : St} (h : runDrawQ E call hs ops fs na st = some st') : st'.nt = st.nt ∧ st'.rnd = st.rnd := by
  unfold runDrawQ at h
  split at h
  · cases h
  · rename_i hr
    split at h
    · simp only [Option.some.injEq] at h; subst h
      exact runD_nt hr
    · cases h
theorem runDraw_nt {st st' : St} (h : runDraw E call hs ops st = some st') : st'.nt = st.nt ∧ st'.rnd = st.rnd := by
  unfold runDraw at h
  split at h
  · exact runDrawQ_nt h
  · split at h
    · unfold runDrawP at h
      split at h
      · cases h
      · exact runDrawQ_nt h
    · cases h

/-! ### Codes -/

abbrev XF := Hnds → Nat → Bool → K4 (Ex × S4)
noncomputable def xNorm : XF := fun _ _ _ τ σ ds Λ => some (.normal, ⟨τ, σ, ds, Λ⟩)
noncomputable def xReg (E : Env) (call : CallF) (ops : Array Oper) (d : Bool) : XF := fun hs nt rnd τ σ ds Λ =>
  Option.rec (motive := fun _ => Option (Ex × S4)) none (fun s => some (.normal, s)) (Bool.rec (motive := fun _ => Option S4) (runF E call hs ops nt rnd ops.toList τ σ ds Λ) (drawF E call hs ops nt rnd τ σ ds Λ) d)
noncomputable def xSeq (a b : XF) : XF := fun hs nt rnd τ σ ds Λ =>
  Option.rec (motive := fun _ => Option (Ex × S4)) none (fun r => Ex.rec (motive := fun _ => Option (Ex × S4)) (b hs nt rnd r.2.τ r.2.σ r.2.ds r.2.Λ) (fun i => some (.exit i, r.2)) (some (.ret, r.2)) r.1) (a hs nt rnd τ σ ds Λ)
noncomputable def xCond (c : Operand) (a b : XF) : XF := fun hs nt rnd τ σ ds Λ => match evF τ c with
  | some (.bool x) => Bool.rec (motive := fun _ => Option (Ex × S4)) (b hs nt rnd τ σ ds Λ) (a hs nt rnd τ σ ds Λ) x
  | _ => none
noncomputable def xBlock (i : Nat) (b : XF) : XF := fun hs nt rnd τ σ ds Λ =>
  Option.rec (motive := fun _ => Option (Ex × S4)) none (fun r => Ex.rec (motive := fun _ => Option (Ex × S4)) (some (.normal, r.2)) (fun j => some (Bool.rec (.exit j) .normal (Nat.beq j i), r.2)) (some (.ret, r.2)) r.1) (b hs nt rnd τ σ ds Λ)
noncomputable def upToF (body : K4 (Ex × S4)) (k : Nat) : K4 (Option Ex × S4) :=
  Nat.rec (motive := fun _ => K4 (Option Ex × S4)) (fun τ σ ds Λ => Option.rec (motive := fun _ => Option (Option Ex × S4)) none (fun r => Ex.rec (motive := fun _ => Option (Option Ex × S4)) (some (none, r.2)) (fun i => some (some (.exit i), r.2)) (some (some .ret, r.2)) r.1) (body τ σ ds Λ))
    (fun _ ih τ σ ds Λ => Option.rec (motive := fun _ => Option (Option Ex × S4)) none (fun r => Option.rec (motive := fun _ => Option (Option Ex × S4)) (ih r.2.τ r.2.σ r.2.ds r.2.Λ) (fun e => some (some e, r.2)) r.1) (ih τ σ ds Λ)) k
noncomputable def xLoop (E : Env) (call : CallF) (c : Code) (b : XF) : XF := fun hs nt rnd τ σ ds Λ =>
  Bool.rec (motive := fun _ => Option (Ex × S4)) (Option.rec (motive := fun _ => Option (Ex × S4)) none (fun r => Option.rec (motive := fun _ => Option (Ex × S4)) none (fun e => some (e, r.2)) r.1) (upToF (b hs nt rnd) 20 τ σ ds Λ))
    ((exec E call (.loop c) hs ⟨τ, σ, ds, Λ, nt, rnd⟩).map fun r => (r.1, ⟨r.2.τ, r.2.σ, r.2.ds, r.2.Λ⟩)) E.sy

/-- A round of a loop over a function. -/
noncomputable def xHnd (params : Array Nat) (asg body : XF) (hs : Hnds) (nt : Nat) (τ : Tmps) : Hnd := fun az σ Λ => match Λ with
  | [] => none
  | lf :: Λ => match lf.done with
    | true => none
    | false => match setParams nt τ params.toList az with
      | none => none
      | some τ => match asg hs nt true τ σ [] Λ with
        | some (.normal, s1) => match body hs nt true s1.τ s1.σ s1.ds s1.Λ with
          | some (e, s2) => match s2.ds with
            | [] => some (e.isNormal, s2.σ, ⟨!e.isNormal, e⟩ :: s2.Λ)
            | _ => none
          | none => none
        | _ => none
noncomputable def xRange (call : CallF) (f : Operand) (params : Array Nat) (asg body : XF) : XF := fun hs nt _ τ σ ds Λ =>
  match evF τ f with
  | some (.fn g first caps) =>
    match call g (first ++ [.yld σ.n] ++ caps) ⟨σ.t, σ.n + 1⟩ ((σ.n, xHnd params asg body hs nt τ) :: deepen hs) (⟨false, .normal⟩ :: Λ) with
    | some (_, σ, lf :: Λ) => some (lf.pend, ⟨τ, σ, ds, Λ⟩)
    | _ => none
  | _ => none

noncomputable def execF (E : Env) (call : CallF) (c : Code) : XF :=
  Code.rec (motive := fun _ => XF) xNorm (fun _ ops d => xReg E call ops d) (fun _ _ a b => xSeq a b) (fun c _ _ a b => xCond c a b) (fun i _ b => xBlock i b) (fun c b => xLoop E call c b) (fun f p _ _ a b => xRange call f p a b)
    (fun i _ _ _ τ σ ds Λ => some (.exit i, ⟨τ, σ, ds, Λ⟩)) (fun _ b => b) (fun _ => xNorm) (fun _ _ _ _ _ _ _ _ => none) (fun _ _ _ τ σ ds Λ => some (.ret, ⟨τ, σ, ds, Λ⟩)) (fun _ _ _ _ _ _ _ _ => none) c

def e4 (r : Ex × St) : Ex × S4 := (r.1, s4 r.2)

theorem upTo_nt {body : St → Option (Ex × St)} (hb : ∀ {st e st'}, body st = some (e, st') → st'.nt = st.nt ∧ st'.rnd = st.rnd) : ∀ (k : Nat) {st st' : St} {e : Option Ex}, upTo body k st = some (e, st') → st'.nt = st.nt ∧ st'.rnd = st.rnd
  | 0, st, st', e, h => by
    rw [upTo] at h
    split at h
    · rename_i st1 h1
      simp only [Option.some.injEq, Prod.mk.injEq] at h; obtain ⟨_, rfl⟩ := h
      exact hb h1
    · rename_i h1
      simp only [Option.some.injEq, Prod.mk.injEq] at h; obtain ⟨_, rfl⟩ := h
      exact hb h1
    · cases h
  | k + 1, st, st', e, h => by
    rw [upTo] at h
    split at h
    · rename_i st1 h1
      obtain ⟨a, b⟩ := upTo_nt hb k h1
      obtain ⟨c, d⟩ := upTo_nt hb k h
      exact ⟨c.trans a, d.trans b⟩
    · exact upTo_nt hb k h

theorem exec_nt : ∀ (c : Code) {hs : Hnds} {st st' : St} {e : Ex}, exec E call c hs st = some (e, st') → st'.nt = st.nt ∧ st'.rnd = st.rnd := by
  intro c
  induction c with
  | skip => intro hs st st' e h; simp only [exec_skip, Option.some.injEq, Prod.mk.injEq] at h; obtain ⟨_, rfl⟩ := h; exact ⟨rfl, rfl⟩
  | label l => intro hs st st' e h; simp only [exec_label, Option.some.injEq, Prod.mk.injEq] at h; obtain ⟨_, rfl⟩ := h; exact ⟨rfl, rfl⟩
  | exit i => intro hs st st' e h; simp only [exec_exit, Option.some.injEq, Prod.mk.injEq] at h; obtain ⟨_, rfl⟩ := h; exact ⟨rfl, rfl⟩
  | ret => intro hs st st' e h; simp only [exec_ret, Option.some.injEq, Prod.mk.injEq] at h; obtain ⟨_, rfl⟩ := h; exact ⟨rfl, rfl⟩
  | goto l => intro hs st st' e h; simp [exec_goto] at h
  | refuse w => intro hs st st' e h; simp [exec_refuse] at h
  | scope b ih => intro hs st st' e h; rw [exec_scope] at h; exact ih h
  | region id ops d =>
    intro hs st st' e h
    cases d with
    | true =>
      rw [exec_regionD] at h
      split at h
      · rename_i h1
        simp only [Option.some.injEq, Prod.mk.injEq] at h; obtain ⟨_, rfl⟩ := h
        exact runDraw_nt h1
      · cases h
    | false =>
      rw [exec_region] at h
      split at h
      · rename_i h1
        simp only [Option.some.injEq, Prod.mk.injEq] at h; obtain ⟨_, rfl⟩ := h
        exact runOps_nt h1
      · cases h
  | seq a b iha ihb =>
    intro hs st st' e h
    rw [exec_seq] at h
    split at h
    · rename_i st1 h1
      obtain ⟨x, y⟩ := iha h1
      obtain ⟨z, w⟩ := ihb h
      exact ⟨z.trans x, w.trans y⟩
    · exact iha h
  | cond c a b iha ihb =>
    intro hs st st' e h
    rw [exec_cond] at h
    split at h
    · exact iha h
    · exact ihb h
    · cases h
  | block i b ih =>
    intro hs st st' e h
    rw [exec_block] at h
    split at h
    · rename_i h1
      simp only [Option.some.injEq, Prod.mk.injEq] at h; obtain ⟨_, rfl⟩ := h
      exact ih h1
    · exact ih h
  | loop b ih =>
    intro hs st st' e h
    rw [exec_loop] at h
    split at h
    · rename_i h1
      simp only [Option.some.injEq, Prod.mk.injEq] at h; obtain ⟨_, rfl⟩ := h
      split at h1
      · refine upTo_nt (body := fun s => roundC _ _ (exec E call b hs s)) (fun {s e s'} h => ?_) _ h1
        simp only [roundC] at h
        split at h
        · rename_i s1 hx
          simp only [Option.some.injEq, Prod.mk.injEq] at h; obtain ⟨_, rfl⟩ := h
          obtain ⟨a1, a2⟩ := ih hx
          exact ⟨clean_nt.1.trans a1, clean_nt.2.trans a2⟩
        · exact ih h
      · exact upTo_nt (fun h => ih h) _ h1
    · cases h
  | rangeFunc f ps a b iha ihb =>
    intro hs st st' e h
    have this := h
    rw [exec_rangeFunc] at this
    split at this
    · split at this
      · simp only [Option.some.injEq, Prod.mk.injEq] at this; obtain ⟨_, rfl⟩ := this
        exact ⟨rfl, rfl⟩
      · cases this
    · cases this

/-- The same codes. -/
def XOK (E : Env) (call : CallF) (c : Code) : Prop := ∀ (hs : Hnds) (st : St), execF E call c hs st.nt st.rnd st.τ st.σ st.ds st.Λ = (exec E call c hs st).map e4

theorem upToF_eq {body : St → Option (Ex × St)} {bodyF : K4 (Ex × S4)} {nt : Nat} {rnd : Bool} (hb : ∀ st : St, st.nt = nt → st.rnd = rnd → bodyF st.τ st.σ st.ds st.Λ = (body st).map e4) (hn : ∀ {st e st'}, body st = some (e, st') → st'.nt = st.nt ∧ st'.rnd = st.rnd) :
    ∀ (k : Nat) (st : St), st.nt = nt → st.rnd = rnd → upToF bodyF k st.τ st.σ st.ds st.Λ = (upTo body k st).map fun r => (r.1, s4 r.2)
  | 0, st, h1, h2 => by
    rw [upTo]
    show @Option.rec _ (fun _ => Option (Option Ex × S4)) none _ (bodyF st.τ st.σ st.ds st.Λ) = _
    rw [hb st h1 h2]
    cases body st with
    | none => rfl
    | some r => obtain ⟨e, st'⟩ := r; cases e <;> rfl
  | k + 1, st, h1, h2 => by
    rw [upTo]
    show @Option.rec _ (fun _ => Option (Option Ex × S4)) none _ (upToF bodyF k st.τ st.σ st.ds st.Λ) = _
    rw [upToF_eq hb hn k st h1 h2]
    cases h : upTo body k st with
    | none => rfl
    | some r =>
      obtain ⟨e, st'⟩ := r
      cases e with
      | none =>
        obtain ⟨a, b⟩ := upTo_nt hn k h
        exact upToF_eq hb hn k st' (a.trans h1) (b.trans h2)
      | some e => rfl

theorem xHnd_eq {a b : Code} (ha : XOK E call a) (hb : XOK E call b) (ps : Array Nat) (hs : Hnds) (nt : Nat) (τ : Tmps) : xHnd ps (execF E call a) (execF E call b) hs nt τ = rangeH E call hs nt τ ps a b := by
  funext az σ Λ
  cases Λ with
  | nil => rfl
  | cons lf Λ =>
    simp only [xHnd, rangeH]
    cases lf.done with
    | true => rfl
    | false =>
      simp only
      cases setParams nt τ ps.toList az with
      | none => rfl
      | some τ' =>
        have e1 := ha hs ⟨τ', σ, [], Λ, nt, true⟩
        simp only at e1 ⊢
        rw [e1]
        cases h1 : exec E call a hs ⟨τ', σ, [], Λ, nt, true⟩ with
        | none => rfl
        | some r =>
          obtain ⟨e, st1⟩ := r
          cases e with
          | normal =>
            obtain ⟨n1, n2⟩ := exec_nt a h1
            have e2 := hb hs st1
            rw [n1, n2] at e2
            simp only [Option.map_some, e4, s4]
            simp only at e2
            rw [e2]
            cases exec E call b hs st1 with
            | none => rfl
            | some r =>
              obtain ⟨e, st2⟩ := r
              simp only [Option.map_some, e4, s4]
              cases st2.ds <;> rfl
          | exit i => rfl
          | ret => rfl

theorem execF_eq (c : Code) : XOK E call c := by
  induction c with
  | skip => intro hs st; rfl
  | label l => intro hs st; rfl
  | exit i => intro hs st; rfl
  | ret => intro hs st; rfl
  | goto l => intro hs st; rfl
  | refuse w => intro hs st; rfl
  | scope b ih => intro hs st; rw [exec_scope]; exact ih hs st
  | region id ops d =>
    intro hs st
    cases d with
    | true =>
      rw [exec_regionD]
      show @Option.rec _ (fun _ => Option (Ex × S4)) none _ (drawF E call hs ops st.nt st.rnd st.τ st.σ st.ds st.Λ) = _
      rw [drawF_eq]
      cases runDraw E call hs ops st <;> rfl
    | false =>
      rw [exec_region]
      show @Option.rec _ (fun _ => Option (Ex × S4)) none _ (runF E call hs ops st.nt st.rnd ops.toList st.τ st.σ st.ds st.Λ) = _
      rw [runF_eq]
      cases runOps E call hs ops ops.toList st <;> rfl
  | seq a b iha ihb =>
    intro hs st
    rw [exec_seq]
    show @Option.rec _ (fun _ => Option (Ex × S4)) none _ (execF E call a hs st.nt st.rnd st.τ st.σ st.ds st.Λ) = _
    rw [iha hs st]
    cases h : exec E call a hs st with
    | none => rfl
    | some r =>
      obtain ⟨e, st1⟩ := r
      obtain ⟨n1, n2⟩ := exec_nt a h
      cases e with
      | normal =>
        show execF E call b hs st.nt st.rnd st1.τ st1.σ st1.ds st1.Λ = _
        rw [← n1, ← n2]
        exact ihb hs st1
      | exit i => rfl
      | ret => rfl
  | cond c a b iha ihb =>
    intro hs st
    rw [exec_cond]
    show (match evF st.τ c with
      | some (.bool x) => Bool.rec (motive := fun _ => Option (Ex × S4)) (execF E call b hs st.nt st.rnd st.τ st.σ st.ds st.Λ) (execF E call a hs st.nt st.rnd st.τ st.σ st.ds st.Λ) x
      | _ => none) = _
    rw [evF_eq]
    split
    · rename_i x hx
      cases x with
      | true => rw [hx]; exact iha hs st
      | false => rw [hx]; exact ihb hs st
    · rename_i hne
      split
      · rename_i h; exact absurd h (hne true)
      · rename_i h; exact absurd h (hne false)
      · rfl
  | block i b ih =>
    intro hs st
    rw [exec_block]
    show @Option.rec _ (fun _ => Option (Ex × S4)) none _ (execF E call b hs st.nt st.rnd st.τ st.σ st.ds st.Λ) = _
    rw [ih hs st]
    cases exec E call b hs st with
    | none => rfl
    | some r =>
      obtain ⟨e, st1⟩ := r
      cases e with
      | normal => rfl
      | exit j =>
        simp only [Option.map_some, e4]
        cases Nat.beq j i <;> rfl
      | ret => rfl
  | loop b ih =>
    intro hs st
    show xLoop E call b (execF E call b) hs st.nt st.rnd st.τ st.σ st.ds st.Λ = _
    unfold xLoop
    cases hsy : E.sy with
    | true => rfl
    | false =>
      rw [exec_loop, hsy]
      show @Option.rec _ (fun _ => Option (Ex × S4)) none _ (upToF (execF E call b hs st.nt st.rnd) 20 st.τ st.σ st.ds st.Λ) = _
      rw [upToF_eq (body := exec E call b hs) (nt := st.nt) (rnd := st.rnd) (fun st' h1 h2 => by rw [← h1, ← h2]; exact ih hs st') (fun h => exec_nt b h) 20 st rfl rfl]
      simp only
      cases upTo (exec E call b hs) 20 st with
      | none => rfl
      | some r => obtain ⟨e, st1⟩ := r; cases e <;> rfl
  | rangeFunc f ps a b iha ihb =>
    intro hs st
    rw [exec_rangeFunc]
    show xRange call f ps (execF E call a) (execF E call b) hs st.nt st.rnd st.τ st.σ st.ds st.Λ = _
    unfold xRange
    rw [evF_eq, xHnd_eq iha ihb]
    cases ev st.τ f with
    | none => rfl
    | some v =>
      cases v with
      | fn g first caps =>
        simp only
        cases call g (first ++ [.yld st.σ.n] ++ caps) ⟨st.σ.t, st.σ.n + 1⟩ ((st.σ.n, rangeH E call hs st.nt st.τ ps a b) :: deepen hs) (⟨false, .normal⟩ :: st.Λ) with
        | none => rfl
        | some r =>
          obtain ⟨v0, σ2, Λ2⟩ := r
          cases Λ2 with
          | nil => rfl
          | cons lf Λ2 => rfl
      | _ => rfl

/-! ### Calls of functions -/

abbrev RF := Option (AV × Hp × List LF)
noncomputable def packF (σ : Hp) (Λ : List LF) (r : Option (List AV)) : RF :=
  match r with
  | some [v] => some (v, σ, Λ)
  | some vs => some (.tup vs, σ, Λ)
  | none => none
noncomputable def finF (E : Env) (call : CallF) (hs : Hnds) (rs : List ResultVar) (s : S4) : RF :=
  List.rec (motive := fun _ => RF) (packF s.σ s.Λ (resultsA E s.τ s.σ rs)) (fun _ _ _ => match runDefers E call hs s.ds s.σ s.Λ with
    | none => none
    | some (σ, Λ) => packF σ Λ (resultsA E s.τ σ rs)) s.ds
noncomputable def bodyF (E : Env) (call : CallF) (hs : Hnds) (fn : Func) (args : List AV) (σ : Hp) (Λ : List LF) (body : Code) : RF :=
  Option.rec (motive := fun _ => RF) none (fun r => Ex.rec (motive := fun _ => RF) (finF E call hs fn.results.toList r.2) (fun _ => none) (finF E call hs fn.results.toList r.2) r.1)
    (execF E call body hs (args.length + (fn.ntmps - args.length)) false (tmps0 fn.ntmps (.full (dep fn.ntmps)) 0 args) σ [] Λ)
noncomputable def funcF (E : Env) (call : CallF) (hs : Hnds) (args : List AV) (σ : Hp) (Λ : List LF) (fn : Func) : RF :=
  Option.rec (motive := fun _ => RF) none (fun b => bodyF E call hs fn args σ Λ b) fn.body
noncomputable def callF (E : Env) (n : Nat) : CallF :=
  Nat.rec (motive := fun _ => CallF) (fun _ _ _ _ _ => none) (fun _ ih f args σ hs Λ => Option.rec (motive := fun _ => RF) (Option.rec (motive := fun _ => RF) none (fun fn => funcF E ih hs args σ Λ fn) (E.fn f)) (fun v => some (v, σ, Λ)) (E.ext f args)) n

theorem finF_eq (rs : List ResultVar) (st : St) : finF E call hs rs (s4 st) = match runDefers E call hs st.ds st.σ st.Λ with
    | none => none
    | some (σ, Λ) => match resultsA E st.τ σ rs with
      | some [v] => some (v, σ, Λ)
      | some vs => some (.tup vs, σ, Λ)
      | none => none := by
  unfold finF s4
  simp only
  cases h : st.ds with
  | nil =>
    simp only [runDefers]
    rfl
  | cons d ds => rfl

theorem callF_eq (E : Env) : ∀ n, callF E n = callN E n
  | 0 => by funext f args σ hs Λ; rfl
  | n + 1 => by
    have ih := callF_eq E n
    funext f args σ hs Λ
    show @Option.rec _ (fun _ => RF) (@Option.rec _ (fun _ => RF) none (fun fn => funcF E (callF E n) hs args σ Λ fn) (E.fn f)) (fun v => some (v, σ, Λ)) (E.ext f args) = _
    rw [ih, callN]
    cases E.ext f args with
    | some v => rfl
    | none =>
      simp only
      cases E.fn f with
      | none => rfl
      | some fn =>
        simp only [funcF]
        cases fn.body with
        | none => rfl
        | some body =>
          simp only [bodyF]
          have e := execF_eq (E := E) (call := callN E n) body hs ⟨tmps0 fn.ntmps (.full (dep fn.ntmps)) 0 args, σ, [], Λ, args.length + (fn.ntmps - args.length), false⟩
          simp only at e
          rw [e]
          cases exec E (callN E n) body hs ⟨tmps0 fn.ntmps (.full (dep fn.ntmps)) 0 args, σ, [], Λ, args.length + (fn.ntmps - args.length), false⟩ with
          | none => rfl
          | some r =>
            obtain ⟨e, st⟩ := r
            cases e with
            | exit i => rfl
            | normal => exact finF_eq _ _
            | ret => exact finF_eq _ _

/-! ### What is asked of the kernel -/

noncomputable def ansF (v : AV) (r : RF) : Bool :=
  match r with
  | some (w, _, []) => avbeq w v
  | _ => false
noncomputable def comesF (E : Env) (n f : Nat) (args : List AV) (v : AV) : Bool :=
  Bool.rec false (Bool.rec false (plainA 9 v) (args.all (closedA 9))) (ansF v (callF E n f args .empty [] []))
theorem comes_of {E : Env} {n f : Nat} {args : List AV} {v : AV} (h : comesF E n f args v = true) : comes E n f args v = true := by
  unfold comesF at h
  rw [callF_eq] at h
  unfold comes
  cases hc : ansF v (callN E n f args .empty [] []) with
  | false => rw [hc] at h; cases h
  | true =>
    rw [hc] at h
    cases ha : args.all (closedA 9) with
    | false => rw [ha] at h; cases h
    | true =>
      rw [ha] at h
      unfold ansF at hc
      split at hc
      · rename_i w σ e
        rw [e]
        simp only [hc]
        exact h
      · cases hc
noncomputable def isTrueF (E : Env) (n f : Nat) : Bool :=
  match E.ext f [], callF E (n + 1) f [] .empty [] [] with
  | none, some (.bool true, _, []) => true
  | _, _ => false
theorem isTrue_of {E : Env} {n f : Nat} (h : isTrueF E n f = true) : isTrue E n f = true := by
  unfold isTrueF at h
  rw [callF_eq] at h
  exact h
end
end Go.Eng

/-
  THE ENGINE, 61: the same as a machine whose states can be told, for whichever inputs.
-/
namespace Go.Eng
open Go

attribute [local irreducible] upTo

/-! ### States -/

/-- A code, and where it stands. -/
structure PC where
  f : Nat
  p : List Nat
  c : Code

/-- The rounds of a loop over a function, told. -/
structure HD where
  lvl : Nat
  nt : Nat
  n : Nat
  τ : Tmps
  params : Array Nat
  asg : PC
  body : PC

structure Ev where
  n : Nat
  D : List HD

/-- A region whose order is drawn, on its way. -/
structure DR where
  pc : PC
  ops : Array Oper
  n0 : Nat
  os : List Oper
  fs : List Inf
  i : Nat
  ph : Phs
  lk : Lks
  q : Bool

/-- What is done with a value. -/
inductive Rt where
  | top
  | op (pc : PC) (j : Nat) (dst : Option Nat) (rest : List Oper) (τ : Tmps) (ds : List (Nat × List AV)) (nt : Nat) (rnd : Bool) (ev : Ev)
  | dr (d : DR) (o : Oper) (f : Inf) (τ : Tmps) (ds : List (Nat × List AV)) (nt : Nat) (rnd : Bool) (ev : Ev)
  | rng (τ : Tmps) (ds : List (Nat × List AV)) (nt : Nat) (rnd : Bool) (ev : Ev)

inductive Fm where
  | seq (b : PC) | asg (b : PC) | blk (i : Nat)
  | lop (b : PC) (n0 : Nat) (τ0 : Tmps) (j : Nat)
  | cal (rs : List ResultVar) (r : Rt)
  | rnd (pre : List LF) (r : Rt)

inductive Cu where
  | ex (c : PC) (st : St)
  | op (pc : PC) (j : Nat) (rest : List Oper) (st : St)
  | dr (d : DR) (st : St)
  | rt (e : Ex) (st : St)
  | vl (r : Rt) (v : AV) (σ : Hp) (Λ : List LF)

structure Cfg where
  cu : Cu
  ev : Ev
  K : List Fm

noncomputable def opsOf (c : Code) : Array Oper :=
  match c with
  | .region _ ops _ => ops
  | _ => #[]

/-- The operations of a region whose order is drawn, in the order in which they are run; what is known of each. -/
noncomputable def opsD (c : Code) : Array Oper :=
  match planOf (opsOf c).toList with
  | some _ => opsOf c
  | none => match permOf (opsOf c) with
    | some ops => ops
    | none => #[]
noncomputable def fsD (c : Code) : List Inf :=
  match planOf (opsD c).toList with
  | some r => r.1
  | none => []
abbrev Rr := AV × Hp × List LF

/-- What is leant on where one runs: answers that are said ahead, under a condition; the functions whose loops are told by their heads. -/
structure Sy where
  x : Nat → List AV → Option (Bool × AV)
  hd : Nat → Bool
  pl : Bool := true
  fl : List Nat := []
  vr : Bool := false
  nf : List Nat := []
def Sy.ok (E : Env) (S : Sy) : Prop := ∀ f args v, S.x f args = some (true, v) → E.ext f args = some v

section
variable (E : Env)

noncomputable def toHs : List HD → Hnds
  | [] => []
  | h :: D => (h.lvl, rangeH E (callN E h.n) (toHs D) h.nt h.τ h.params h.asg.c h.body.c) :: deepen (toHs D)

/-! ### What they come to -/

noncomputable def rounds (ev : Ev) (b : Code) (n0 : Nat) (τ0 : Tmps) : Nat → St → Option (Ex × St)
  | 0, _ => none
  | j + 1, st => match exec E (callN E ev.n) b (toHs E ev.D) st with
    | some (.normal, st) => rounds ev b n0 τ0 j (clean n0 τ0 st)
    | r => r

noncomputable def finD (d : DR) (r : Option (St × Phs × Lks)) : Option St :=
  match r with
  | none => none
  | some (st, ph, lk) => match (match d.q with | true => true | false => looksOK E d.ops ph lk) with
    | true => some st
    | false => none
noncomputable def restD (ev : Ev) (d : DR) (st : St) : Option St := finD E d (runD E (callN E ev.n) (toHs E ev.D) d.ops d.n0 d.os d.fs d.i st d.ph d.lk)
/-- Behind an operation of a region whose order is drawn. -/
noncomputable def DR.nxt (d : DR) (o : Oper) (f : Inf) (τ : Tmps) (st : St) : DR :=
  match f.c with
  | 0 => { d with i := d.i + 1, ph := (st.σ, f.a, some d.i) :: d.ph }
  | 1 => { d with i := d.i + 1, lk := (o, d.i, f.a, τ, st.τ) :: d.lk }
  | _ => { d with i := d.i + 1 }

noncomputable def contV (cE : Ev → Ex → St → Option Rr) : Rt → AV → Hp → List LF → Option Rr
  | .top, v, σ, Λ => some (v, σ, Λ)
  | .op pc _ dst rest τ ds nt rnd ev, v, σ, Λ => match putS ⟨τ, σ, ds, Λ, nt, rnd⟩ dst v with
    | none => none
    | some st => match runOps E (callN E ev.n) (toHs E ev.D) (opsOf pc.c) rest st with
      | none => none
      | some st => cE ev .normal st
  | .dr d o f τ ds nt rnd ev, v, σ, Λ => match putS ⟨τ, σ, ds, Λ, nt, rnd⟩ o.dst v with
    | none => none
    | some st => match restD E ev (d.nxt o f τ st) st with
      | none => none
      | some st => cE ev .normal st
  | .rng τ ds nt rnd ev, _, σ, Λ => match Λ with
    | lf :: Λ => cE ev lf.pend ⟨τ, σ, ds, Λ, nt, rnd⟩
    | [] => none

noncomputable def contE : List Fm → Ev → Ex → St → Option Rr
  | [], _, _, _ => none
  | .seq b :: K, ev, e, st => match e with
    | .normal => match exec E (callN E ev.n) b.c (toHs E ev.D) st with
      | some (e, st) => contE K ev e st
      | none => none
    | e => contE K ev e st
  | .asg b :: K, ev, e, st => match e with
    | .normal => match exec E (callN E ev.n) b.c (toHs E ev.D) st with
      | some (e, st) => contE K ev e st
      | none => none
    | _ => none
  | .blk i :: K, ev, e, st => match e with
    | .exit j => contE K ev (match Nat.beq j i with | true => .normal | false => .exit j) st
    | e => contE K ev e st
  | .lop b n0 τ0 j :: K, ev, e, st => match e with
    | .normal => match rounds E ev b.c n0 τ0 j (clean n0 τ0 st) with
      | some (e, st) => contE K ev e st
      | none => none
    | e => contE K ev e st
  | .cal rs r :: K, ev, e, st => match e with
    | .exit _ => none
    | _ => match runDefers E (callN E ev.n) (toHs E ev.D) st.ds st.σ st.Λ with
      | none => none
      | some (σ, Λ) => match resultsA E st.τ σ rs with
        | some [v] => contV E (contE K) r v σ Λ
        | some vs => contV E (contE K) r (.tup vs) σ Λ
        | none => none
  | .rnd pre r :: K, _, e, st => match st.ds with
    | [] => contV E (contE K) r (.bool e.isNormal) st.σ (pre ++ ⟨!e.isNormal, e⟩ :: st.Λ)
    | _ => none

noncomputable def den (c : Cfg) : Option Rr :=
  match c.cu with
  | .ex pc st => match exec E (callN E c.ev.n) pc.c (toHs E c.ev.D) st with
    | some (e, st) => contE E c.K c.ev e st
    | none => none
  | .op pc _ rest st => match runOps E (callN E c.ev.n) (toHs E c.ev.D) (opsOf pc.c) rest st with
    | some st => contE E c.K c.ev .normal st
    | none => none
  | .dr d st => match restD E c.ev d st with
    | some st => contE E c.K c.ev .normal st
    | none => none
  | .rt e st => contE E c.K c.ev e st
  | .vl r v σ Λ => contV E (contE E c.K) r v σ Λ

/-! ### Steps -/

/-- What lies in an answer's slices, for good. -/
noncomputable def frzV (v : AV) (σ : Hp) : Option AV :=
  match v with
  | .tup l => match frzL 5000 l σ with
    | some r => some (.tup r.1)
    | none => none
  | v => match frz 5000 v σ with
    | some r => some r.1
    | none => none

/-- A state at the head of a round, or an answer, with what lies in its slices. -/
inductive Out where
  | stop (c : Cfg)
  | done (v : AV)

mutual
/-- What lies in slices; where it is not known whether it is plain, both ways. -/
noncomputable def frzD : Nat → AV → Hp → (AV → Hp → Option Out) → Option Out
  | 0, _, _, _ => none
  | n + 1, v, σ, k => match v with
    | .sl id off len _ _ => match σ.get id with
      | some (.cells _ l) => Bool.rec (motive := fun _ => Option Out) none (k (.csl (l.drop off) len) (σ.set id (.cells true l))) (plainL (l.drop off))
      | _ => none
    | .agg l => frzDL n l σ (fun l σ => k (.agg l) σ)
    | .ptr _ _ => none | .mp _ => none | .iter _ => none | .fn _ _ _ => none | .yld _ => none | .tup _ => none | .cp _ _ => none | .mv _ _ _ => none
    | .ifc t v => frzD n v σ (fun v σ => k (.ifc t v) σ)
    | v => k v σ
noncomputable def frzDL : Nat → List AV → Hp → (List AV → Hp → Option Out) → Option Out
  | _, [], σ, k => k [] σ
  | 0, _ :: _, _, _ => none
  | n + 1, v :: vs, σ, k => frzD n v σ (fun v σ => frzDL n vs σ (fun vs σ => k (v :: vs) σ))
end
noncomputable def doneK (v : AV) (σ : Hp) : Option Out :=
  match v with
  | .tup l => frzDL 5000 l σ (fun l _ => some (.done (.tup l)))
  | v => frzD 5000 v σ (fun v _ => some (.done v))

noncomputable def pickV (x y : AV) (t : Bool) : Option AV :=
  match x, y with
  | .bool a, .bool b => some (.bool (Bool.rec b a t))
  | .int k a, .int k' b => match ikb k k' with
    | true => some (.int k (Bool.rec b a t))
    | false => none
  | _, _ => none

/-! ### What is leant on where lists are not known -/

noncomputable def okSB : List (AV × AV) → Bool
  | [] => true
  | (k, v) :: es => match k, v with
    | .str _, .bool _ => okSB es
    | _, _ => false
noncomputable def hasSB (s : List Nat) : List (AV × AV) → Bool
  | [] => false
  | (k, _) :: es => match k with
    | .str t => match lbeq s t with
      | true => true
      | false => hasSB s es
    | _ => hasSB s es
noncomputable def getSB (s : List Nat) : List (AV × AV) → Bool
  | [] => false
  | (k, v) :: es => match k, v with
    | .str t, .bool b => match lbeq s t with
      | true => b
      | false => getSB s es
    | _, _ => getSB s es
noncomputable def setSB (s : List Nat) (b : Bool) : List (AV × AV) → List (AV × AV)
  | [] => [(.str s, .bool b)]
  | (k, v) :: es => match k with
    | .str t => match lbeq s t with
      | true => (.str s, .bool b) :: es
      | false => (k, v) :: setSB s b es
    | _ => (k, v) :: setSB s b es

mutual
/-- Equality of plain rows, told by one truth value. -/
noncomputable def eqvB : Nat → Nat → AV → AV → Option Bool
  | 0, _, _, _ => none
  | d + 1, t, x, y =>
    match E.ty t with
    | some (.struct fs) => match x with
      | .agg xs => match y with
        | .agg ys => match E.eqok t with
          | true => eqvFB d fs xs ys
          | false => none
        | _ => none
      | _ => none
    | some .bool => eqv E (d + 1) t x y
    | some (.int _) => eqv E (d + 1) t x y
    | some .str => eqv E (d + 1) t x y
    | _ => none
noncomputable def eqvFB : Nat → List KF → List AV → List AV → Option Bool
  | _, [], _, _ => some true
  | 0, _ :: _, _, _ => none
  | d + 1, f :: fs, xs, ys => match f.named with
    | false => eqvFB d fs xs ys
    | true => match part E f.type xs f.off, part E f.type ys f.off with
      | some x, some y => match eqvB d f.type x y, eqvFB d fs xs ys with
        | some a, some b => some (a && b)
        | _, _ => none
      | _, _ => none
end

noncomputable def appK (σ : Hp) (ats : Array TypeId) (s x : AV) (k : Res → Option Out) : Option Out :=
  match (ats[0]?).bind E.ty, (match (ats[1]?).bind E.ty with | some (.slice _) => true | some .str => true | _ => false) with
  | some (.slice e), true => match elemsOf σ (E.size e) x with
    | some (new, n) => match E.zero e with
      | some _ => Bool.rec (motive := fun _ => Option Out) none
        (match s with
        | .nils => Bool.rec (motive := fun _ => Option Out) (k (.val (.sl σ.n 0 n n (E.size e)) (σ.push (.cells false new)))) (k (.val .nils σ)) (Nat.beq n 0)
        | .csl cells len => Bool.rec (motive := fun _ => Option Out) none (k (.val (.csl cells len) σ)) (Nat.beq n 0)
        | .sl id off len cl sz => match σ.get id with
          | some (.cells ro l) => match Nat.beq sz (E.size e) with
            | true => Bool.rec (motive := fun _ => Option Out) none (Bool.rec (motive := fun _ => Option Out) none (Bool.rec (motive := fun _ => Option Out) (k (.val (.sl σ.n 0 (len + n) (len + n) sz) ((σ.set id .gone).push (.cells ro (l.drop off ++ new))))) (k (.val (.sl id off len cl sz) σ)) (Nat.beq n 0)) (Nat.ble len 1048576)) (Nat.beq (off + len * E.size e) l.length)
            | false => none
          | _ => none
        | _ => none) (Nat.ble n 1048576 && oneAll new && Nat.ble (E.bytes e) 65536)
      | none => none
    | none => none
  | _, _ => none

/-- Rows that are appended, with what their slices hold. -/
noncomputable def preK (σ : Hp) (x : AV) (k : AV → Hp → Option Out) : Option Out :=
  match x with
  | .sl id off len cl sz => match σ.get id with
    | some (.cells _ l) => Bool.rec (motive := fun _ => Option Out) (frzDL 4999 (l.drop off) (σ.set id (.cells true l)) (fun cs σ => k (.csl cs len) σ)) (k (.sl id off len cl sz) σ) (plainL (l.drop off))
    | _ => k (.sl id off len cl sz) σ
  | x => k x σ
noncomputable def appW (σ : Hp) (ats : Array TypeId) (s x : AV) (k : Res → Option Out) : Option Out :=
  match E.sy with
  | true => preK σ x (fun x σ => appK E σ ats s x k)
  | false => appK E σ ats s x k


/-! ### What is looked up at a place that is not known: plain cells, by the type's zero -/

noncomputable def toB : AV → Bool
  | .bool b => b
  | _ => false
noncomputable def toI : AV → Int
  | .int _ n => n
  | _ => 0
noncomputable def toS : AV → List Nat
  | .str s => s
  | _ => []
noncomputable def asZ (z c : AV) : AV :=
  match z with
  | .bool _ => .bool (toB c)
  | .int k _ => .int k (toI c)
  | .str _ => .str (toS c)
  | _ => c
noncomputable def isZ (z c : AV) : Bool :=
  match z with
  | .bool _ => match c with
    | .bool _ => true
    | _ => false
  | .int k _ => match c with
    | .int k' _ => ikb k' k
    | _ => false
  | .str _ => match c with
    | .str _ => true
    | _ => false
  | _ => false
noncomputable def scalA : AV → Bool
  | .bool _ => true
  | .int _ _ => true
  | .str _ => true
  | _ => false
/-- Some cells, all of them scalars. -/
noncomputable def scalL : List AV → Bool
  | [] => false
  | z :: zs => match zs with
    | [] => scalA z
    | _ => scalA z && scalL zs
noncomputable def asZs (l : List AV) : List AV → Nat → List AV
  | [], _ => []
  | z :: zs, off => asZ z (l.getD off .nili) :: asZs l zs (off + 1)
noncomputable def isZs (l : List AV) : List AV → Nat → Bool
  | [], _ => true
  | z :: zs, off => Nat.ble (off + 1) l.length && (isZ z (l.getD off .nili) && isZs l zs (off + 1))
/-- What lies in an interface's value; is it of this type, with these scalars? -/
noncomputable def payI (c : AV) : List AV :=
  match c with
  | .ifc _ w => match w with
    | .agg xs => xs
    | _ => []
  | _ => []
noncomputable def isI (t0 : Nat) (zs : List AV) (c : AV) : Bool :=
  match c with
  | .ifc t (.agg xs) => Nat.beq t t0 && Nat.beq xs.length zs.length && isZs xs zs 0
  | _ => false
noncomputable def asV (z : AV) (l : List AV) (off : Nat) : AV :=
  match z with
  | .agg zs => .agg (asZs l zs off)
  | z => asZ z (l.getD off .nili)
/-- A value that lies in cells; none: not of a type of scalars alone. -/
noncomputable def loadK (t : Nat) (l : List AV) (off : Nat) (k : AV → Option Out) : Option (Option Out) :=
  match E.ty t with
  | some (.arr _ _) => match E.zero t with
    | some (.agg zs) => match scalL zs, Nat.beq zs.length (E.size t) with
      | true, true => some (Bool.rec (motive := fun _ => Option Out) none (k (.agg (asZs l zs off))) (isZs l zs off))
      | _, _ => none
    | _ => none
  | some (.struct _) => match E.zero t with
    | some (.agg zs) => match scalL zs, Nat.beq zs.length (E.size t) with
      | true, true => some (Bool.rec (motive := fun _ => Option Out) none (k (.agg (asZs l zs off))) (isZs l zs off))
      | _, _ => none
    | _ => none
  | some kt => match E.zero t with
    | some z => match scalA z with
      | true => some (Bool.rec (motive := fun _ => Option Out) none (k (asZ z (l.getD off .nili))) (isZs l [z] off))
      | false => match kt, E.iv with
        | .ifc _, some t0 => match E.zero t0 with
          | some (.agg zs) => match scalL zs with
            | true => some (Bool.rec (motive := fun _ => Option Out) none (k (.ifc t0 (.agg (asZs (payI (l.getD off .nili)) zs 0)))) (Nat.ble (off + 1) l.length && isI t0 zs (l.getD off .nili)))
            | false => none
          | _ => none
        | _, _ => none
    | none => none
  | none => none
/-- An operation; where what it does hangs on what is not known, both ways. -/
noncomputable def opK (τ : Tmps) (σ : Hp) (o : Op) (k : Res → Option Out) : Option Out :=
  match o with
  | .indexAddr t x i => match E.ty t, evF τ x, evF τ i with
    | some (.slice e), some (.vs ty _ l), some (.int _ j) => match Nat.beq ty.size (E.size e) with
      | true => Bool.rec (motive := fun _ => Option Out) none (k (.val (.cp (ty.cells (l.getD j.toNat ty.dflt)) 0) σ)) (inB j l.length)
      | false => none
    | some (.slice e), some (.sl id off len _ _), some (.int _ j) => Bool.rec (motive := fun _ => Option Out) none (k (.val (.ptr id (off + j.toNat * E.size e)) σ)) (inB j len)
    | some (.slice e), some (.csl cells len), some (.int _ j) => Bool.rec (motive := fun _ => Option Out) none (k (.val (.cp cells (j.toNat * E.size e)) σ)) (inB j len)
    | some (.arr len e), some (.ptr id off), some (.int _ j) => Bool.rec (motive := fun _ => Option Out) none (k (.val (.ptr id (off + j.toNat * E.size e)) σ)) (inB j len)
    | some (.arr len e), some (.gp g off), some (.int _ j) => Bool.rec (motive := fun _ => Option Out) none (k (.val (.gp g (off + j.toNat * E.size e)) σ)) (inB j len)
    | _, _, _ => none
  | .index t x i => match E.ty t, evF τ x, evF τ i with
    | some .str, some (.str s), some (.int _ j) => Bool.rec (motive := fun _ => Option Out) none (k (.val (.int .u8 (Int.ofNat (s.getD j.toNat 0))) σ)) (inB j s.length)
    | some (.arr len e), some (.agg cs), some (.int _ j) => match loadK E e cs (j.toNat * E.size e) (fun v => k (.val v σ)) with
      | some r => Bool.rec (motive := fun _ => Option Out) none r (inB j len)
      | none => match opF E τ σ (.index t x i) with
        | some r => k r
        | none => none
    | _, _, _ => match opF E τ σ (.index t x i) with
      | some r => k r
      | none => none
  | .next x true => match evF τ x with
    | some (.iter id) => match σ.get id with
      | some (.siter s pos) => Bool.rec (motive := fun _ => Option Out) (k (.val (.tup [.bool false]) σ)) (Bool.rec (motive := fun _ => Option Out)
          (k (.val (.tup [.bool true, .int .i64 (Int.ofNat pos), .int .i32 (Int.ofNat (decN s pos).1)]) (σ.set id (.siter s (pos + (decN s pos).2)))))
          (k (.val (.tup [.bool true, .int .i64 (Int.ofNat pos), .int .i32 (Int.ofNat (s.getD pos 0))]) (σ.set id (.siter s (pos + 1))))) (Nat.ble (s.getD pos 0) 127)) (Nat.ble (pos + 1) s.length)
      | _ => none
    | _ => none
  | .binOp b t x y h => match b, evF τ x, evF τ y with
    | .rem, some (.int k1 n), some (.int k2 m) => match ikb k1 k2 with
      | true => Bool.rec (motive := fun _ => Option Out) (k (.val (.int k1 (n.tmod m)) σ)) none (ieq m 0)
      | false => none
    | .quo, some (.int k1 n), some (.int k2 m) => match ikb k1 k2 with
      | true => Bool.rec (motive := fun _ => Option Out) (k (.val (.int k1 (wr k1 (n.tdiv m))) σ)) none (ieq m 0)
      | false => none
    | .eql, some (.agg xs), some (.agg ys) => match eqvB E 40 t (.agg xs) (.agg ys) with
      | some r => k (.val (.bool r) σ)
      | none => none
    | .neq, some (.agg xs), some (.agg ys) => match eqvB E 40 t (.agg xs) (.agg ys) with
      | some r => k (.val (.bool (!r)) σ)
      | none => none
    | _, _, _ => match opF E τ σ (.binOp b t x y h) with
      | some r => k r
      | none => none
  | .pick c a b => match evF τ c with
    | some (.bool t) => match evF τ a, evF τ b with
      | some x, some y => match pickV x y t with
        | some v => k (.val v σ)
        | none => Bool.rec (motive := fun _ => Option Out) (k (.val y σ)) (k (.val x σ)) t
      | _, _ => none
    | _ => none
  | .call c => match c.callee, evs τ c.args.toList with
    | .builtin .append, some [s, x] => appW E σ c.argTypes s x k
    | _, _ => match opF E τ σ (.call c) with
      | some r => k r
      | none => none
  | .lookup t m key ok => match E.ty t, evF τ m, evF τ key, keyT E t with
    | some (.map _ e), some (.mp id), some (.str s), some (kt, .str) => match σ.get id, E.zero e with
      | some (.map es), some (.bool false) => Bool.rec (motive := fun _ => Option Out) none (k (.val (match ok with | true => .tup [.bool (getSB s es), .bool (hasSB s es)] | false => .bool (getSB s es)) σ)) (okSB es)
      | _, _ => match opF E τ σ (.lookup t m key ok) with
        | some r => k r
        | none => none
    | _, _, _, _ => match opF E τ σ (.lookup t m key ok) with
      | some r => k r
      | none => none
  | .mapUpdate t m key x => match evF τ m, evF τ key, evF τ x, keyT E t with
    | some (.mp id), some (.str s), some (.bool b), some (kt, .str) => match σ.get id with
      | some (.map es) => Bool.rec (motive := fun _ => Option Out) none (k (.skip (σ.set id (.map (setSB s b es))))) (okSB es)
      | _ => none
    | _, _, _, _ => match opF E τ σ (.mapUpdate t m key x) with
      | some r => k r
      | none => none
  | .load t a => match (match evF τ a with
      | some (.ptr id off) => match σ.get id with
        | some (.cells _ l) => loadK E t l off (fun v => k (.val v σ))
        | _ => none
      | some (.gp g off) => match E.glob g with
        | some l => loadK E t l off (fun v => k (.val v σ))
        | none => none
      | _ => none) with
    | some r => r
    | none => match opF E τ σ (.load t a) with
      | some r => k r
      | none => none
  | .store t a x => match evF τ a, evF τ x with
    | some (.ptr id off), some v => match σ.get id with
      | some (.cells false l) => match isAggT E t, Nat.beq v.cells.length (E.size t), oneAll v.cells with
        | some _, true, true => Bool.rec (motive := fun _ => Option Out) none (k (.skip (σ.set id (.cells false (setAt l off v.cells))))) (Nat.ble (off + v.cells.length) l.length)
        | _, _, _ => none
      | _ => none
    | _, _ => none
  | o => match opF E τ σ o with
    | some r => k r
    | none => none

mutual
/-- On, if two values are the same. -/
noncomputable def avbK (k : Option Out) : AV → AV → Option Out
  | .int k1 a, .int k2 b => match ikb k1 k2 with
    | true => Bool.rec (motive := fun _ => Option Out) none k (ieq a b)
    | false => none
  | .bool a, .bool b => Bool.rec (motive := fun _ => Option Out) none k (bbeq a b)
  | .str a, .str b => Bool.rec (motive := fun _ => Option Out) none k (lbeq a b)
  | .vs t nl l, .vs t' nl' l' => Bool.rec (motive := fun _ => Option Out) none (Bool.rec (motive := fun _ => Option Out) none k (vsB t l t' l')) (bbeq nl nl')
  | .agg l, .agg m => avbKL k l m
  | .tup l, .tup m => avbKL k l m
  | a, b => Bool.rec (motive := fun _ => Option Out) none k (avbeq a b)
noncomputable def avbKL (k : Option Out) : List AV → List AV → Option Out
  | [], [] => k
  | a :: l, b :: m => avbK (avbKL k l m) a b
  | _, _ => none
end
noncomputable def lookK (o : Oper) (i a : Nat) (τ τ' : Tmps) (k : Option Out) : Option Nat → Phs → Option Out
  | _, [] => k
  | nx, (σ, am, h) :: ph => match (match nx with | some x => msHas a x | none => false), msHas am i with
    | false, false => match cstL τ o.op with
      | true => lookK o i a τ τ' k h ph
      | false => opK E τ σ o.op fun r => match r with
        | .val v _ => match o.dst with
          | none => lookK o i a τ τ' k h ph
          | some d => match τ'.get d with
            | some w => avbK (lookK o i a τ τ' k h ph) w v
            | none => lookK o i a τ τ' k h ph
        | _ => none
    | _, _ => lookK o i a τ τ' k h ph
noncomputable def looksK (ops : Array Oper) (ph : Phs) (k : Option Out) : Lks → Option Out
  | [] => k
  | (o, i, a, τ, τ') :: lk => match wantedA ops τ o with
    | some false => looksK ops ph k lk
    | _ => lookK E o i a τ τ' (looksK ops ph k lk) none ph

mutual
/-- Slices among arguments are handed over as what they hold. -/
noncomputable def frzK (pl : Bool) (k : AV → Hp → Option Out) : AV → Hp → Option Out
  | .sl id off len cl sz, σ => match σ.get id with
    | some (.cells _ l) => Bool.rec (motive := fun _ => Option Out) (match pl with
      | true => none
      | false => match frz 5000 (.sl id off len cl sz) σ with
        | some r => k r.1 r.2
        | none => k (.sl id off len cl sz) σ) (k (.csl (l.drop off) len) (σ.set id (.cells true l))) (plainL (l.drop off))
    | _ => k (.sl id off len cl sz) σ
  | .agg l, σ => frzKs pl (fun l σ => k (.agg l) σ) l σ
  | v, σ => k v σ
noncomputable def frzKs (pl : Bool) (k : List AV → Hp → Option Out) : List AV → Hp → Option Out
  | [], σ => k [] σ
  | v :: vs, σ => frzK pl (fun v σ => frzKs pl (fun vs σ => k (v :: vs) σ) vs σ) v σ
end

variable (S : Sy)
noncomputable def callK (ev : Ev) (f : Nat) (args : List AV) (σ : Hp) (Λ : List LF) (r : Rt) (K : List Fm) (k : Cfg → Option Out) : Option Out :=
  match ev.n with
  | 0 => none
  | m + 1 => match S.x f args with
    | some (c, v) => Bool.rec (motive := fun _ => Option Out) none (k ⟨.vl r v σ Λ, ev, K⟩) c
    | none => match E.ext f args with
    | some v => k ⟨.vl r v σ Λ, ev, K⟩
    | none => match E.fn f with
      | none => none
      | some fn => match fn.body with
        | none => none
        | some body => k ⟨.ex ⟨f, [], body⟩ ⟨tmps0 fn.ntmps (.full (dep fn.ntmps)) 0 args, σ, [], Λ, args.length + (fn.ntmps - args.length), false⟩, ⟨m, ev.D⟩, .cal fn.results.toList r :: K⟩

noncomputable def fD : List HD → Nat → List LF → Option (List LF × HD × List HD × List LF)
  | [], _, _ => none
  | h :: D, l, Λ => match Nat.beq h.lvl l with
    | true => some ([], h, D, Λ)
    | false => match Λ with
      | [] => none
      | lf :: Λ => match fD D l Λ with
        | some (pre, x) => some (lf :: pre, x)
        | none => none

noncomputable def yldK (ev : Ev) (l : Nat) (args : List AV) (σ : Hp) (Λ : List LF) (r : Rt) (K : List Fm) (k : Cfg → Option Out) : Option Out :=
  match fD ev.D l Λ with
  | some (pre, h, D, lf :: Λ) => match lf.done with
    | true => none
    | false => match setParams h.nt h.τ h.params.toList args with
      | none => none
      | some τ => k ⟨.ex h.asg ⟨τ, σ, [], Λ, h.nt, true⟩, ⟨h.n, D⟩, .asg h.body :: .rnd pre r :: K⟩
  | _ => none

/-- What an operation comes to; `put`: behind it, if it gives a value. -/
noncomputable def resK (ev : Ev) (st : St) (r : Res) (rt : Rt) (K : List Fm) (k : Cfg → Option Out) (put : AV → St → Option Out) : Option Out :=
  match r with
  | .val v σ => put v { st with σ := σ }
  | .skip σ => put undefA { st with σ := σ }
  | .call f args => match E.frz f with
    | true => frzKs S.pl (fun args σ => callK E S ev f args σ st.Λ rt K k) args st.σ
    | false => callK E S ev f args st.σ st.Λ rt K k
  | .yld l args => yldK ev l args st.σ st.Λ rt K k
  | .dfr f args => match st.rnd with
    | true => none
    | false => put undefA { st with ds := (f, args) :: st.ds }
  | .recov => match st.rnd with
    | true => none
    | false => put .nili st

/-- Is the operation carried out? What is found out is remembered. -/
noncomputable def guardK (ops : Array Oper) (st : St) (o : Oper) (no yes : St → Option Out) : Option Out :=
  match o.guard with
  | none => yes st
  | some (j, want) => match (ops[j]?).bind (·.dst) with
    | some d => match st.τ.get d with
      | some (.bool b) => Bool.rec (motive := fun _ => Option Out) (Bool.rec (motive := fun _ => Option Out) (yes { st with τ := st.τ.set d (.bool false) }) (no { st with τ := st.τ.set d (.bool false) }) want) (Bool.rec (motive := fun _ => Option Out) (no { st with τ := st.τ.set d (.bool true) }) (yes { st with τ := st.τ.set d (.bool true) }) want) b
      | some (.tup []) => no st
      | _ => none
    | none => none
noncomputable def knowT (st : St) (x : Operand) (t : Bool) : St :=
  match x with
  | .tmp d => { st with τ := st.τ.set d (.bool t) }
  | _ => st

noncomputable def opsK (pc : PC) (j : Nat) (rest : List Oper) (st : St) (ev : Ev) (K : List Fm) (k : Cfg → Option Out) : Option Out :=
  match rest with
  | [] => k ⟨.rt .normal st, ev, K⟩
  | o :: os =>
    let put : AV → St → Option Out := fun v s => match putS s o.dst v with
      | some s => k ⟨.op pc (j + 1) os s, ev, K⟩
      | none => none
    guardK (opsOf pc.c) st o (fun st => put undefA st) (fun st => opK E st.τ st.σ o.op fun r => resK E S ev st r (.op pc (j + 1) o.dst os st.τ st.ds st.nt st.rnd ev) K k put)

noncomputable def drK (d : DR) (st : St) (ev : Ev) (K : List Fm) (k : Cfg → Option Out) : Option Out :=
  match d.os, d.fs with
  | o :: os, f :: fs =>
    let d' : DR := { d with os := os, fs := fs }
    let put : Tmps → AV → St → Option Out := fun τ v s => match putS s o.dst v with
      | some s => k ⟨.dr (d'.nxt o f τ s) s, ev, K⟩
      | none => none
    match f.c with
    | 3 => guardK d.ops st o (fun st => put st.τ undefA st) (fun st => match newA E st.τ o.op with
      | some (v, ao) => put st.τ (v (d.n0 + f.k)) { st with σ := st.σ.set (d.n0 + f.k) ao }
      | none => none)
    | _ => guardK d.ops st o (fun st => put st.τ undefA st) (fun st => opK E st.τ st.σ o.op fun r => resK E S ev st r (.dr d' o f st.τ st.ds st.nt st.rnd ev) K k (put st.τ))
  | _, _ => match d.q with
    | true => k ⟨.rt .normal st, ev, K⟩
    | false => looksK E d.ops d.ph (k ⟨.rt .normal st, ev, K⟩) d.lk

noncomputable def drOf (pc : PC) (ops : Array Oper) (fs : List Inf) (na : Nat) (st : St) : DR := ⟨pc, ops, st.σ.n, ops.toList, fs, 0, [(⟨st.σ.t, st.σ.n + na⟩, 0, none)], [], quietI fs⟩

noncomputable def exK (pc : PC) (st : St) (ev : Ev) (K : List Fm) (k : Cfg → Option Out) : Option Out :=
  match pc.c with
  | .skip => k ⟨.rt .normal st, ev, K⟩
  | .label _ => k ⟨.rt .normal st, ev, K⟩
  | .region _ ops d => match d with
    | false => k ⟨.op pc 0 ops.toList st, ev, K⟩
    | true => match planOf ops.toList with
      | some (fs, na) => k ⟨.dr (drOf pc ops fs na st) { st with σ := ⟨st.σ.t, st.σ.n + na⟩ }, ev, K⟩
      | none => match permOf ops with
        | none => none
        | some ops => match planOf ops.toList with
          | some (fs, na) => k ⟨.dr (drOf pc ops fs na st) { st with σ := ⟨st.σ.t, st.σ.n + na⟩ }, ev, K⟩
          | none => none
  | .seq a b => k ⟨.ex ⟨pc.f, 0 :: pc.p, a⟩ st, ev, .seq ⟨pc.f, 1 :: pc.p, b⟩ :: K⟩
  | .cond x a b => match evF st.τ x with
    | some (.bool t) => Bool.rec (motive := fun _ => Option Out) (k ⟨.ex ⟨pc.f, 1 :: pc.p, b⟩ (knowT st x false), ev, K⟩) (k ⟨.ex ⟨pc.f, 0 :: pc.p, a⟩ (knowT st x true), ev, K⟩) t
    | _ => none
  | .block i b => k ⟨.ex ⟨pc.f, 0 :: pc.p, b⟩ st, ev, .blk i :: K⟩
  | .loop b => k ⟨.ex ⟨pc.f, 0 :: pc.p, b⟩ st, ev, .lop ⟨pc.f, 0 :: pc.p, b⟩ st.σ.n st.τ 1048575 :: K⟩
  | .scope b => k ⟨.ex ⟨pc.f, 0 :: pc.p, b⟩ st, ev, K⟩
  | .exit i => k ⟨.rt (.exit i) st, ev, K⟩
  | .ret => k ⟨.rt .ret st, ev, K⟩
  | .rangeFunc x params a b => match evF st.τ x with
    | some (.fn g first caps) => callK E S ⟨ev.n, ⟨st.σ.n, st.nt, ev.n, st.τ, params, ⟨pc.f, 0 :: pc.p, a⟩, ⟨pc.f, 1 :: pc.p, b⟩⟩ :: ev.D⟩ g (first ++ [.yld st.σ.n] ++ caps) ⟨st.σ.t, st.σ.n + 1⟩ (⟨false, .normal⟩ :: st.Λ) (.rng st.τ st.ds st.nt st.rnd ev) K k
    | _ => none
  | _ => none

mutual
/-- The objects of slices and maps. -/
noncomputable def slA : AV → List Nat
  | .sl i _ _ _ _ => [i]
  | .mp i => [i]
  | .ifc _ v => slA v
  | .agg l => slL l
  | .tup l => slL l
  | .fn _ a b => slL a ++ slL b
  | _ => []
noncomputable def slL : List AV → List Nat
  | [] => []
  | v :: vs => slA v ++ slL vs
end
noncomputable def slT (τ : Tmps) : List Nat :=
  Tr.rec (motive := fun _ => List Nat) [] (fun _ v _ a b => (match v with | some v => slA v | none => []) ++ a ++ b) τ
/-- Lists that lie in variables. -/
noncomputable def vrT (vr : Bool) (σ : Hp) (τ : Tmps) : List Nat :=
  match vr with
  | false => []
  | true => Tr.rec (motive := fun _ => List Nat) [] (fun _ v _ a b => (match v with
    | some (.ptr i _) => (match σ.get i with
      | some (.cells _ l) => slL l
      | _ => [])
    | _ => []) ++ a ++ b) τ
noncomputable def slQ (vr : Bool) (τ0 τ : Tmps) : List Nat :=
  match vr with
  | false => slT τ
  | true => slT (restr τ0 τ)
noncomputable def slD : List HD → List Nat
  | [] => []
  | h :: D => slT h.τ ++ slD D
noncomputable def slR : Rt → List Nat
  | .top => []
  | .op _ _ _ _ τ _ _ _ ev => slT τ ++ slD ev.D
  | .dr _ _ _ τ _ _ _ ev => slT τ ++ slD ev.D
  | .rng τ _ _ _ ev => slT τ ++ slD ev.D
noncomputable def slK : List Fm → List Nat
  | [] => []
  | .cal _ r :: K => slR r ++ slK K
  | .rnd _ r :: K => slR r ++ slK K
  | _ :: K => slK K
noncomputable def nubN : List Nat → List Nat → List Nat
  | [], acc => acc
  | i :: l, acc => match elemN i acc with
    | true => nubN l acc
    | false => nubN l (i :: acc)
noncomputable def outN (nf : List Nat) : List Nat → List Nat
  | [] => []
  | i :: l => match elemN i nf with
    | true => outN nf l
    | false => i :: outN nf l
/-- Objects that tell of none. -/
noncomputable def plO : AO → Bool
  | .cells _ l => plainL l
  | .map es => okSB es
  | _ => true
noncomputable def condsK (σ : Hp) (k : Option Out) : List Nat → Option Out
  | [] => k
  | i :: l => match σ.get i with
    | some o => Bool.rec (motive := fun _ => Option Out) none (condsK σ k l) (plO o)
    | none => condsK σ k l
/-- The rounds of a loop cleaned, where some objects are known to tell of none. -/
noncomputable def idsOP (F : List Nat) (i : Nat) (o : Option AO) : List Nat :=
  match elemN i F with
  | true => []
  | false => idsO o
noncomputable def idsHP (F : List Nat) (σ : Hp) : Nat → List Nat
  | 0 => []
  | n + 1 => idsHP F σ n ++ idsOP F n (σ.get n)
noncomputable def reachP (F : List Nat) (σ : Hp) (n0 : Nat) : Nat → List Nat → List Nat → List Nat
  | 0, _, acc => acc
  | _, [], acc => acc
  | k + 1, i :: todo, acc => match Nat.ble n0 i, elemN i acc with
    | true, false => reachP F σ n0 k (idsOP F i (σ.get i) ++ todo) (acc ++ [i])
    | _, _ => reachP F σ n0 k todo acc
noncomputable def bldP (F : List Nat) (σ : Hp) (n0 : Nat) (L : List Nat) : List (Nat × Nat) → Tr AO → Option (Tr AO)
  | [], t => some t
  | (i, j) :: r, t => match σ.get i with
    | none => bldP F σ n0 L r t
    | some o => match elemN i F with
      | true => bldP F σ n0 L r (t.set j o)
      | false => match renOb n0 L o with
        | some o => bldP F σ n0 L r (t.set j o)
        | none => none
noncomputable def cleanLP (F : List Nat) (n0 : Nat) (L : List Nat) (τ : Tmps) (st : St) : Option St :=
  match freshL n0 L, st.ds with
  | true, [] => match renT n0 L τ, bldP F st.σ n0 L (upN n0 ++ pairN L n0) (.full 22) with
    | some τ, some t => some { st with τ := τ, σ := ⟨t, n0 + L.length⟩ }
    | _, _ => none
  | _, _ => none
noncomputable def cleanP (F : List Nat) (n0 : Nat) (τ0 : Tmps) (st : St) : St :=
  match Nat.ble n0 st.σ.n, cleanLP F n0 (reachP F st.σ n0 4096 (idsT (restr τ0 st.τ) ++ idsHP F st.σ n0) []) (restr τ0 st.τ) st with
  | true, some st => st
  | _, _ => st
noncomputable def cleanK (D : List HD) (K : List Fm) (n0 : Nat) (τ0 : Tmps) (st : St) (k : St → Option Out) : Option Out :=
  match S.pl with
  | false => k (clean n0 τ0 st)
  | true => condsK st.σ (k (cleanP (outN S.nf (nubN (S.fl ++ vrT S.vr st.σ st.τ ++ slQ S.vr τ0 st.τ ++ slD D ++ slK K) [])) n0 τ0 st)) (outN S.nf (nubN (S.fl ++ vrT S.vr st.σ st.τ ++ slQ S.vr τ0 st.τ ++ slD D ++ slK K) []))

noncomputable def retK (e : Ex) (st : St) (ev : Ev) (K : List Fm) (k : Cfg → Option Out) : Option Out :=
  match K with
  | [] => none
  | .seq b :: K => match e with
    | .normal => k ⟨.ex b st, ev, K⟩
    | e => k ⟨.rt e st, ev, K⟩
  | .asg b :: K => match e with
    | .normal => k ⟨.ex b st, ev, K⟩
    | _ => none
  | .blk i :: K => match e with
    | .exit j => k ⟨.rt (match Nat.beq j i with | true => .normal | false => .exit j) st, ev, K⟩
    | e => k ⟨.rt e st, ev, K⟩
  | .lop b n0 τ0 j :: K => match e with
    | .normal => match j with
      | 0 => none
      | j + 1 => cleanK S ev.D K n0 τ0 st fun st => k ⟨.ex b st, ev, .lop b n0 τ0 j :: K⟩
    | e => k ⟨.rt e st, ev, K⟩
  | .cal rs r :: K => match e with
    | .exit _ => none
    | _ => match st.ds with
      | [] => match resultsA E st.τ st.σ rs with
        | some [v] => k ⟨.vl r v st.σ st.Λ, ev, K⟩
        | some vs => k ⟨.vl r (.tup vs) st.σ st.Λ, ev, K⟩
        | none => none
      | _ => none
  | .rnd pre r :: K => match st.ds with
    | [] => k ⟨.vl r (.bool e.isNormal) st.σ (pre ++ ⟨!e.isNormal, e⟩ :: st.Λ), ev, K⟩
    | _ => none

noncomputable def valK (r : Rt) (v : AV) (σ : Hp) (Λ : List LF) (K : List Fm) (k : Cfg → Option Out) : Option Out :=
  match r with
  | .top => match K, Λ with
    | [], [] => doneK v σ
    | _, _ => none
  | .op pc j dst rest τ ds nt rnd ev => match putS ⟨τ, σ, ds, Λ, nt, rnd⟩ dst v with
    | some st => k ⟨.op pc j rest st, ev, K⟩
    | none => none
  | .dr d o f τ ds nt rnd ev => match putS ⟨τ, σ, ds, Λ, nt, rnd⟩ o.dst v with
    | some st => k ⟨.dr (d.nxt o f τ st) st, ev, K⟩
    | none => none
  | .rng τ ds nt rnd ev => match Λ with
    | lf :: Λ => k ⟨.rt lf.pend ⟨τ, σ, ds, Λ, nt, rnd⟩, ev, K⟩
    | [] => none

noncomputable def stepK (c : Cfg) (k : Cfg → Option Out) : Option Out :=
  match c.cu with
  | .ex pc st => exK E S pc st c.ev c.K k
  | .op pc j rest st => opsK E S pc j rest st c.ev c.K k
  | .dr d st => drK E S d st c.ev c.K k
  | .rt e st => retK E S e st c.ev c.K k
  | .vl r v σ Λ => valK r v σ Λ c.K k

/-- Is it at the head of a loop's round? -/
noncomputable def atHead (c : Cfg) : Bool :=
  match c.cu, c.K with
  | .ex pc _, .lop b _ _ _ :: _ => match S.hd pc.f, Nat.beq pc.p.length b.p.length, Nat.beq pc.f b.f with
    | true, true, true => true
    | _, _, _ => false
  | _, _ => false

/-- On, up to the head of a loop's round. -/
noncomputable def adv : Nat → Cfg → Option Out
  | 0, _ => none
  | n + 1, c => stepK E S c fun c' => match atHead S c' with
    | true => some (.stop c')
    | false => adv n c'
end
end Go.Eng

/-
  THE ENGINE, 62: the machine's steps keep what a state comes to.
-/
namespace Go.Eng
open Go

attribute [local irreducible] upTo

section
variable {E : Env} {S : Sy}

theorem idx_inB {j : Int} {n : Nat} (h : inB j n = true) : idx j n = some j.toNat := by
  cases j with
  | ofNat m => simp only [idx]; simp only [inB] at h; rw [h]; rfl
  | negSucc m => cases h

theorem brec {α : Type} {a b : Option α} {t : Bool} {r : α} (h : (Bool.rec (motive := fun _ => Option α) a b t) = some r) : (t = false ∧ a = some r) ∨ (t = true ∧ b = some r) := by
  cases t with
  | false => exact .inl ⟨rfl, h⟩
  | true => exact .inr ⟨rfl, h⟩

noncomputable def choose2 (x y : AV) (t : Bool) : AV := match t with
  | true => x
  | false => y
theorem pickV_spec {x y v : AV} {t : Bool} (h : pickV x y t = some v) : v = choose2 x y t := by
  unfold pickV at h
  split at h
  · simp only [Option.some.injEq] at h; subst h; cases t <;> rfl
  · rename_i k a k' b h0
    split at h
    · rename_i hk
      have := ikb_eq hk; subst this
      simp only [Option.some.injEq] at h; subst h; cases t <;> rfl
    · cases h
  · cases h

theorem scal_ids : ∀ {l : List AV}, scalP l = true → idsL l = []
  | [], _ => rfl
  | v :: l, h => by
    cases v <;> first | (cases h; done) | skip
    all_goals (simp only [scalP] at h; simp only [idsL, idsA, scal_ids h]; rfl)
theorem scal_ren {n0 : Nat} {L : List Nat} : ∀ {l : List AV}, scalP l = true → renL n0 L l = some l
  | [], _ => rfl
  | v :: l, h => by
    cases v <;> first | (cases h; done) | skip
    all_goals (simp only [scalP] at h; simp only [renL, renA, scal_ren h])
theorem plain_ids : ∀ {l : List AV}, plainL l = true → idsL l = []
  | [], _ => rfl
  | v :: l, h => by
    cases v <;> first | (cases h; done) | skip
    case ifc t w =>
      cases w <;> first | (cases h; done) | skip
      simp only [plainL, Bool.and_eq_true] at h
      simp only [idsL, idsA, scal_ids h.1, plain_ids h.2]; rfl
    all_goals (simp only [plainL] at h; simp only [idsL, idsA, plain_ids h]; rfl)
theorem plain_ren {n0 : Nat} {L : List Nat} : ∀ {l : List AV}, plainL l = true → renL n0 L l = some l
  | [], _ => rfl
  | v :: l, h => by
    cases v <;> first | (cases h; done) | skip
    case ifc t w =>
      cases w <;> first | (cases h; done) | skip
      simp only [plainL, Bool.and_eq_true] at h
      simp only [renL, renA, scal_ren h.1, plain_ren h.2, Option.map_some]
    all_goals (simp only [plainL] at h; simp only [renL, renA, plain_ren h])
theorem okSB_ids : ∀ {es : List (AV × AV)}, okSB es = true → idsL (es.map (·.1)) = [] ∧ idsL (es.map (·.2)) = []
  | [], _ => ⟨rfl, rfl⟩
  | (k, v) :: es, h => by
    cases k <;> cases v <;> first | (cases h; done) | skip
    simp only [okSB] at h
    obtain ⟨h1, h2⟩ := okSB_ids h
    simp only [List.map_cons, idsL, idsA, h1, h2]
    exact ⟨rfl, rfl⟩
theorem okSB_ren {n0 : Nat} {L : List Nat} : ∀ {es : List (AV × AV)}, okSB es = true → renES n0 L es = some es
  | [], _ => rfl
  | (k, v) :: es, h => by
    cases k <;> cases v <;> first | (cases h; done) | skip
    simp only [okSB] at h
    simp only [renES, renA, okSB_ren h]
theorem plO_ids {o : AO} (h : plO o = true) : idsO (some o) = [] := by
  cases o with
  | cells ro l => exact plain_ids h
  | map es => obtain ⟨h1, h2⟩ := okSB_ids h; simp only [idsO, h1, h2]; rfl
  | siter s p => rfl
  | gone => rfl
theorem plO_ren {o : AO} {n0 : Nat} {L : List Nat} (h : plO o = true) : renOb n0 L o = some o := by
  cases o with
  | cells ro l => simp only [renOb, plain_ren (l := l) h, Option.map_some]
  | map es => simp only [renOb, okSB_ren (es := es) h, Option.map_some]
  | siter s p => rfl
  | gone => rfl
theorem condsK_spec {σ : Hp} {k : Option Out} {r : Out} : ∀ {F : List Nat}, condsK σ k F = some r → k = some r ∧ ∀ i o, elemN i F = true → σ.get i = some o → plO o = true
  | [], h => ⟨h, fun i o hi => by cases hi⟩
  | j :: F, h => by
    simp only [condsK] at h
    have step : ∀ (h' : condsK σ k F = some r) (hj : ∀ o, σ.get j = some o → plO o = true), k = some r ∧ ∀ i o, elemN i (j :: F) = true → σ.get i = some o → plO o = true := by
      intro h' hj
      obtain ⟨h1, h2⟩ := condsK_spec h'
      refine ⟨h1, fun i o hi ho => ?_⟩
      simp only [elemN] at hi
      split at hi
      · rename_i e; have := Nat.eq_of_beq_eq_true e; subst this; exact hj o ho
      · exact h2 i o hi ho
    split at h
    · rename_i o ho
      rcases brec h with ⟨_, h⟩ | ⟨hp, h⟩
      · cases h
      · exact step h (fun o' ho' => by rw [ho] at ho'; simp only [Option.some.injEq] at ho'; subst ho'; exact hp)
    · rename_i hn
      exact step h (fun o' ho' => by rw [hn] at ho'; cases ho')
section
variable {F : List Nat} {σ : Hp} (hF : ∀ i o, elemN i F = true → σ.get i = some o → plO o = true)
include hF
theorem idsOP_eq (i : Nat) : idsOP F i (σ.get i) = idsO (σ.get i) := by
  unfold idsOP
  split
  · rename_i e
    cases ho : σ.get i with
    | none => rfl
    | some o => exact (plO_ids (hF i o e ho)).symm
  · rfl
theorem idsHP_eq : ∀ n, idsHP F σ n = idsH σ n
  | 0 => rfl
  | n + 1 => by simp only [idsHP, idsH, idsHP_eq n, idsOP_eq hF n]
theorem reachP_eq {n0 : Nat} : ∀ (k : Nat) (todo acc : List Nat), reachP F σ n0 k todo acc = reach σ n0 k todo acc
  | 0, _, _ => rfl
  | _ + 1, [], _ => rfl
  | k + 1, i :: todo, acc => by
    simp only [reachP, reach, idsOP_eq hF i]
    cases Nat.ble n0 i <;> cases elemN i acc <;> exact reachP_eq k _ _
theorem bldP_eq {n0 : Nat} {L : List Nat} : ∀ (r : List (Nat × Nat)) (t : Tr AO), bldP F σ n0 L r t = bld σ n0 L r t
  | [], _ => rfl
  | (i, j) :: r, t => by
    simp only [bldP, bld]
    cases ho : σ.get i with
    | none => exact bldP_eq r t
    | some o =>
      simp only
      cases e : elemN i F with
      | true => simp only [plO_ren (hF i o e ho)]; exact bldP_eq r _
      | false =>
        simp only
        cases renOb n0 L o with
        | none => rfl
        | some o => exact bldP_eq r _
end
theorem cleanP_eq {F : List Nat} {n0 : Nat} {τ0 : Tmps} {st : St} (hF : ∀ i o, elemN i F = true → st.σ.get i = some o → plO o = true) : cleanP F n0 τ0 st = clean n0 τ0 st := by
  simp only [cleanP, clean, cleanLP, cleanL, idsHP_eq hF, reachP_eq hF, bldP_eq hF]
  rfl
theorem cleanK_spec {D : List HD} {K : List Fm} {n0 : Nat} {τ0 : Tmps} {st : St} {k : St → Option Out} {r : Out} (h : cleanK S D K n0 τ0 st k = some r) : k (clean n0 τ0 st) = some r := by
  unfold cleanK at h
  split at h
  · exact h
  · obtain ⟨h1, h2⟩ := condsK_spec h
    rw [cleanP_eq h2] at h1
    exact h1

theorem appK_spec {σ : Hp} {ats : Array TypeId} {s x : AV} {k : Res → Option Out} {r : Out} (h : appK E σ ats s x k = some r) : ∃ res, builtinV E σ .append ats [s, x] = some res ∧ k res = some r := by
  unfold appK at h
  split at h
  · rename_i e hk hz
    have hz2 : (∃ e', (ats[1]?).bind E.ty = some (.slice e')) ∨ (ats[1]?).bind E.ty = some .str := by
      split at hz
      · rename_i e' he; exact .inl ⟨e', he⟩
      · rename_i he; exact .inr he
      · cases hz
    clear hz
    split at h
    · rename_i new n hel
      split at h
      · rename_i z hz0
        rcases brec h with ⟨_, h⟩ | ⟨hcond, h⟩
        · cases h
        · split at h
          · rcases brec h with ⟨hn, h⟩ | ⟨hn, h⟩
            · refine ⟨_, ?_, h⟩
              cases n with
              | zero => exact absurd hn (by decide)
              | succ m => rcases hz2 with ⟨e', hz2⟩ | hz2 <;> (unfold builtinV; simp only [hk, hz2, hel, hcond, hz0])
            · have := Nat.eq_of_beq_eq_true hn; subst this
              refine ⟨_, ?_, h⟩
              rcases hz2 with ⟨e', hz2⟩ | hz2 <;> (unfold builtinV; simp only [hk, hz2, hel, hcond, hz0])
          · rcases brec h with ⟨_, h⟩ | ⟨hn, h⟩
            · cases h
            · have := Nat.eq_of_beq_eq_true hn; subst this
              refine ⟨_, ?_, h⟩
              rcases hz2 with ⟨e', hz2⟩ | hz2 <;> (unfold builtinV; simp only [hk, hz2, hel, hcond, hz0])
          · split at h
            · rename_i ro l hget
              split at h
              · rename_i hsz
                rcases brec h with ⟨_, h⟩ | ⟨h1, h⟩
                · cases h
                rcases brec h with ⟨_, h⟩ | ⟨h2, h⟩
                · cases h
                rcases brec h with ⟨hn, h⟩ | ⟨hn, h⟩
                · refine ⟨_, ?_, h⟩
                  cases n with
                  | zero => exact absurd hn (by decide)
                  | succ m => rcases hz2 with ⟨e', hz2⟩ | hz2 <;> (unfold builtinV; simp only [hk, hz2, hel, hcond, hz0, hget, hsz, h1, h2, Bool.and_self])
                · have := Nat.eq_of_beq_eq_true hn; subst this
                  refine ⟨_, ?_, h⟩
                  rcases hz2 with ⟨e', hz2⟩ | hz2 <;> (unfold builtinV; simp only [hk, hz2, hel, hcond, hz0, hget, hsz, h1, h2, Bool.and_self])
              · cases h
            · cases h
          · cases h
      · cases h
    · cases h
  · cases h

mutual
theorem frzD_spec {out : Out} : ∀ (n : Nat) (v : AV) {σ : Hp} {k : AV → Hp → Option Out}, frzD n v σ k = some out → ∃ v' σ', frz n v σ = some (v', σ') ∧ k v' σ' = some out
  | 0, v, σ, k, h => by simp only [frzD] at h; cases h
  | n + 1, v, σ, k, h => by
    cases v with
    | sl id off len cl sz =>
      simp only [frzD] at h
      simp only [frz]
      split at h
      · rename_i ro l hget
        rcases brec h with ⟨_, h⟩ | ⟨hp, h⟩
        · cases h
        · exact ⟨_, _, by rw [hget]; simp only [hp], h⟩
      · cases h
    | agg l =>
      simp only [frzD] at h
      obtain ⟨l', σ', h1, h2⟩ := frzDL_spec n l h
      exact ⟨_, _, by simp only [frz, h1], h2⟩
    | ifc t v =>
      simp only [frzD] at h
      obtain ⟨l', σ', h1, h2⟩ := frzD_spec n v h
      exact ⟨_, _, by simp only [frz, h1], h2⟩
    | ptr | mp | iter | fn | yld | tup | cp | mv => simp only [frzD] at h; cases h
    | _ => simp only [frzD] at h; exact ⟨_, _, by simp only [frz], h⟩
theorem frzDL_spec {out : Out} : ∀ (n : Nat) (l : List AV) {σ : Hp} {k : List AV → Hp → Option Out}, frzDL n l σ k = some out → ∃ l' σ', frzL n l σ = some (l', σ') ∧ k l' σ' = some out
  | n, [], σ, k, h => by
    have : frzDL n [] σ k = k [] σ := by cases n <;> simp only [frzDL]
    rw [this] at h
    exact ⟨_, _, by cases n <;> simp only [frzL], h⟩
  | 0, _ :: _, σ, k, h => by simp only [frzDL] at h; cases h
  | n + 1, v :: vs, σ, k, h => by
    simp only [frzDL] at h
    obtain ⟨v', σ', h1, h2⟩ := frzD_spec n v h
    obtain ⟨l', σ'', h3, h4⟩ := frzDL_spec n vs h2
    exact ⟨_, _, by simp only [frzL, h1, h3], h4⟩
end
theorem preK_spec {σ : Hp} {x : AV} {k : AV → Hp → Option Out} {r : Out} (h : preK σ x k = some r) : (∃ z, preX σ x = some z ∧ k z.1 z.2 = some r) ∨ (preX σ x = none ∧ k x σ = some r) := by
  unfold preK at h
  unfold preX
  split at h
  · rename_i id off len cl sz
    simp only
    split at h
    · rename_i ro l hget
      rcases brec h with ⟨hp, h⟩ | ⟨hp, h⟩
      · obtain ⟨cs, σ', h1, h2⟩ := frzDL_spec 4999 _ h
        refine .inl ⟨(.csl cs len, σ'), ?_, h2⟩
        simp only [hget, hp]
        show frz (4999 + 1) _ _ = _
        simp only [frz, hget, hp, h1]
      · exact .inr ⟨by simp only [hget, hp], h⟩
    · rename_i hn
      refine .inr ⟨?_, h⟩
      split
      · rename_i ro l hg
        exact absurd hg (hn ro l)
      · rfl
  · rename_i hn
    refine .inr ⟨?_, h⟩
    split
    · rename_i id off len cl sz
      exact absurd rfl (hn id off len cl sz)
    · rfl
theorem appW_spec {σ : Hp} {ats : Array TypeId} {s x : AV} {k : Res → Option Out} {r : Out} (h : appW E σ ats s x k = some r) : ∃ res, builtinW E σ .append ats [s, x] = some res ∧ k res = some r := by
  unfold appW at h
  unfold builtinW
  cases hsy : E.sy with
  | true =>
    simp only [hsy] at h ⊢
    rcases preK_spec h with ⟨z, h1, h2⟩ | ⟨h1, h2⟩
    · rw [h1]; exact appK_spec h2
    · rw [h1]; exact appK_spec h2
  | false =>
    simp only [hsy] at h ⊢
    exact appK_spec h
theorem keyT_str {t kt : Nat} (h : keyT E t = some (kt, .str)) : E.ty kt = some .str := by
  unfold keyT at h
  split at h
  · split at h
    · simp only [Option.some.injEq, Prod.mk.injEq] at h; obtain ⟨_, h⟩ := h; cases h
    · rename_i h1
      simp only [Option.some.injEq, Prod.mk.injEq] at h; obtain ⟨rfl, _⟩ := h
      exact h1
    · simp only [Option.some.injEq, Prod.mk.injEq] at h; obtain ⟨_, h⟩ := h; cases h
    · simp only [Option.some.injEq, Prod.mk.injEq] at h; obtain ⟨_, h⟩ := h; cases h
    · cases h
  · cases h

theorem findKey_SB {t : Nat} {s : List Nat} {b : Bool} : ∀ {es : List (AV × AV)} {i : Nat}, okSB es = true →
    (hasSB s es = true ∧ ∃ j, findKey E t .str (.str s) es i = some (some (i + j, .bool (getSB s es))) ∧ setSB s b es = es.set j (.str s, .bool b)) ∨
    (hasSB s es = false ∧ getSB s es = false ∧ findKey E t .str (.str s) es i = some none ∧ setSB s b es = es ++ [(.str s, .bool b)])
  | [], i, _ => .inr ⟨rfl, rfl, rfl, rfl⟩
  | (k, v) :: es, i, h => by
    cases k with
    | str u =>
      cases v with
      | bool w =>
        simp only [okSB] at h
        simp only [hasSB, getSB, setSB, findKey, keyEqT, keyEq]
        cases e : lbeq s u with
        | true => exact .inl ⟨rfl, 0, rfl, rfl⟩
        | false =>
          simp only
          rcases findKey_SB (t := t) (s := s) (b := b) (i := i + 1) h with ⟨h1, j, h2, h3⟩ | ⟨h1, h2, h3, h4⟩
          · refine .inl ⟨h1, j + 1, ?_, ?_⟩
            · rw [h2]; congr 3; omega
            · rw [h3]; rfl
          · exact .inr ⟨h1, h2, h3, by rw [h4]; rfl⟩
      | _ => simp [okSB] at h
    | _ => simp [okSB] at h

theorem eqvB_both : ∀ d : Nat, (∀ t x y b, eqvB E d t x y = some b → eqv E d t x y = some b) ∧ (∀ fs xs ys b, eqvFB E d fs xs ys = some b → eqvF E d fs xs ys = some b)
  | 0 => by
    refine ⟨fun t x y b h => by simp [eqvB] at h, fun fs xs ys b h => ?_⟩
    cases fs with
    | nil => simp only [eqvFB] at h; simp only [eqvF]; exact h
    | cons f fs => simp [eqvFB] at h
  | d + 1 => by
    obtain ⟨ih1, ih2⟩ := eqvB_both d
    refine ⟨fun t x y b h => ?_, fun fs xs ys b h => ?_⟩
    · simp only [eqvB] at h
      split at h
      · rename_i fs ht
        split at h
        · split at h
          · split at h
            · rename_i hok
              simp only [eqv, ht, hok]
              exact ih2 _ _ _ _ h
            · cases h
          · cases h
        · cases h
      · exact h
      · exact h
      · exact h
      · cases h
    · cases fs with
      | nil => simp only [eqvFB] at h; simp only [eqvF]; exact h
      | cons f fs =>
        simp only [eqvFB] at h
        simp only [eqvF]
        split at h
        · rename_i hn; rw [hn]; exact ih2 _ _ _ _ h
        · rename_i hn
          rw [hn]; simp only
          split at h
          · rename_i x y hx hy
            rw [hx, hy]; simp only
            split at h
            · rename_i a c ha hc
              rw [ih1 _ _ _ _ ha]
              simp only [Option.some.injEq] at h; subst h
              cases a with
              | true => simp only [Bool.true_and]; exact ih2 _ _ _ _ hc
              | false => rfl
            · cases h
          · cases h

theorem isZ_spec {z c : AV} (h : isZ z c = true) : asZ z c = c := by
  cases z <;> cases c <;> first | (cases h; done) | rfl | skip
  rename_i k n k' n'
  have := ikb_eq (show ikb k' k = true from h); subst this; rfl
theorem isZs_take {l : List AV} : ∀ {zs : List AV} {off : Nat}, isZs l zs off = true → (l.drop off).take zs.length = asZs l zs off
  | [], _, _ => by simp [asZs]
  | z :: zs, off, h => by
    simp only [isZs, Bool.and_eq_true] at h
    have hlt : off < l.length := Nat.le_of_ble_eq_true h.1
    have e : l.getD off .nili = l[off] := by simp [hlt]
    rw [List.drop_eq_getElem_cons hlt, List.length_cons, List.take_succ_cons, isZs_take h.2.2, asZs, isZ_spec h.2.1, e]
theorem isZs_len {l : List AV} : ∀ {zs : List AV} {off : Nat}, zs ≠ [] → isZs l zs off = true → off + zs.length ≤ l.length
  | [], _, h, _ => absurd rfl h
  | [z], off, _, h => by
    simp only [isZs, Bool.and_eq_true] at h
    exact Nat.le_of_ble_eq_true h.1
  | z :: z' :: zs, off, _, h => by
    have h' := h
    unfold isZs at h'
    simp only [Bool.and_eq_true] at h'
    have := isZs_len (by simp) h'.2.2
    simp only [List.length_cons] at this ⊢
    omega
theorem isZs_cut {l zs : List AV} {off : Nat} (hz : zs ≠ []) (h : isZs l zs off = true) : cut l off zs.length = some (asZs l zs off) := by
  unfold cut
  rw [Nat.ble_eq_true_of_le (isZs_len hz h), isZs_take h]
theorem isI_spec {t : Nat} {zs : List AV} {c : AV} (h : isI t zs c = true) : AV.ifc t (.agg (asZs (payI c) zs 0)) = c := by
  unfold isI at h
  split at h
  · rename_i t' xs
    simp only [Bool.and_eq_true] at h
    obtain ⟨⟨h1, h2⟩, h3⟩ := h
    have e1 := Nat.eq_of_beq_eq_true h1
    have e2 := Nat.eq_of_beq_eq_true h2
    have := isZs_take h3
    rw [List.drop_zero, ← e2, List.take_length] at this
    subst e1
    show AV.ifc t' (.agg (asZs xs zs 0)) = _
    rw [← this]
  · cases h
theorem scalL_ne {zs : List AV} (h : scalL zs = true) : zs ≠ [] := by
  rintro rfl; cases h
theorem loadK_spec {t : Nat} {l : List AV} {off : Nat} {k : AV → Option Out} {R : Option Out} {out : Out} (h : loadK E t l off k = some R) (hR : R = some out) :
    ∃ v, k v = some out ∧ ((isAggT E t = some true ∧ (cut l off (E.size t)).map .agg = some v) ∨ (isAggT E t = some false ∧ cut l off 1 = some [v] ∧ l[off]? = some v)) := by
  unfold loadK at h
  split at h
  · rename_i ht
    split at h
    · rename_i zs hz
      split at h
      · rename_i h1 h2
        simp only [Option.some.injEq] at h; subst h
        rcases brec hR with ⟨_, h⟩ | ⟨hb, h⟩
        · cases h
        · refine ⟨_, h, .inl ⟨by simp only [isAggT, ht], ?_⟩⟩
          rw [← Nat.eq_of_beq_eq_true h2, isZs_cut (scalL_ne h1) hb]; rfl
      · cases h
    · cases h
  · rename_i ht
    split at h
    · rename_i zs hz
      split at h
      · rename_i h1 h2
        simp only [Option.some.injEq] at h; subst h
        rcases brec hR with ⟨_, h⟩ | ⟨hb, h⟩
        · cases h
        · refine ⟨_, h, .inl ⟨by simp only [isAggT, ht], ?_⟩⟩
          rw [← Nat.eq_of_beq_eq_true h2, isZs_cut (scalL_ne h1) hb]; rfl
      · cases h
    · cases h
  · rename_i kt hnA hnS ht
    split at h
    · rename_i z hz
      split at h
      · rename_i h1
        simp only [Option.some.injEq] at h; subst h
        rcases brec hR with ⟨_, h⟩ | ⟨hb, h⟩
        · cases h
        · have hc := isZs_cut (zs := [z]) (by simp) hb
          have hlt : off < l.length := isZs_len (zs := [z]) (by simp) hb
          have e : l.getD off .nili = l[off] := by simp [hlt]
          simp only [isZs, Bool.and_eq_true] at hb
          refine ⟨_, h, .inr ⟨?_, hc, ?_⟩⟩
          · unfold isAggT; rw [ht]
            cases kt <;> first | rfl | exact (hnA _ _ rfl).elim | exact (hnS _ rfl).elim
          · rw [isZ_spec hb.2.1, e, List.getElem?_eq_getElem hlt]
      · split at h
        · rename_i b0 t0 hiv _
          split at h
          · rename_i zs hz0
            split at h
            · rename_i h1
              simp only [Option.some.injEq] at h; subst h
              rcases brec hR with ⟨_, h⟩ | ⟨hb, h⟩
              · cases h
              · rw [Bool.and_eq_true] at hb
                have hlt : off < l.length := Nat.le_of_ble_eq_true hb.1
                have e : l.getD off .nili = l[off] := by simp [hlt]
                have hc := isI_spec hb.2
                refine ⟨_, h, .inr ⟨?_, ?_, ?_⟩⟩
                · unfold isAggT; rw [ht]
                · unfold cut
                  rw [Nat.ble_eq_true_of_le (show off + 1 ≤ l.length from hlt), hc, e, List.drop_eq_getElem_cons hlt]; rfl
                · rw [hc, e, List.getElem?_eq_getElem hlt]
            · cases h
          · cases h
        · cases h
    · cases h
  · cases h

theorem opK_spec {τ : Tmps} {σ : Hp} {o : Op} {k : Res → Option Out} {r : Out} (h : opK E τ σ o k = some r) : ∃ res, op E τ σ o = some res ∧ k res = some r := by
  have dflt : ∀ {o : Op}, (match opF E τ σ o with | some r => k r | none => none) = some r → ∃ res, op E τ σ o = some res ∧ k res = some r := by
    intro o h
    rw [opF_eq] at h
    split at h
    · rename_i res hr
      exact ⟨res, hr, h⟩
    · cases h
  unfold opK at h
  split at h
  · simp only [evF_eq] at h
    split at h
    · rename_i h1 h2 h3
      split at h
      · rename_i hsz
        rcases brec h with ⟨_, h⟩ | ⟨hb, h⟩
        · cases h
        · exact ⟨_, by simp only [op, h1, h2, h3, hb, hsz], h⟩
      · cases h
    all_goals first
      | (cases h; done)
      | (rename_i h1 h2 h3
         rcases brec h with ⟨_, h⟩ | ⟨hb, h⟩
         · cases h
         · exact ⟨_, by simp only [op, h1, h2, h3, idx_inB hb, Option.map_some], h⟩)
  · rename_i t x i
    simp only [evF_eq] at h
    split at h
    · rename_i s ik j h1 h2 h3
      rcases brec h with ⟨_, h⟩ | ⟨hb, h⟩
      · cases h
      · refine ⟨_, ?_, h⟩
        cases j with
        | negSucc m => cases hb
        | ofNat m =>
          have hm : m < s.length := Nat.le_of_ble_eq_true hb
          simp only [op, h1, h2, h3, List.getElem?_eq_getElem hm, Option.map_some]
          simp [List.getD, hm]
    · rename_i len e cs ik j h1 h2 h3
      split at h
      · rename_i R hR
        rcases brec h with ⟨_, h⟩ | ⟨hb, h⟩
        · cases h
        · obtain ⟨v, hk, hv⟩ := loadK_spec hR h
          refine ⟨_, ?_, hk⟩
          simp only [op, h1, h2, h3, idx_inB hb, part]
          rcases hv with ⟨ha, hv⟩ | ⟨ha, hv, hv2⟩
          · simp only [ha, hv, Option.map_some]
          · simp only [ha, hv2, Option.map_some]
      · exact dflt h
    · exact dflt h
  · rename_i x
    simp only [evF_eq] at h
    split at h
    · rename_i id h1
      split at h
      · rename_i s pos h2
        rcases brec h with ⟨hp, h⟩ | ⟨hp, h⟩
        · refine ⟨_, ?_, h⟩
          have : s[pos]? = none := by
            rw [List.getElem?_eq_none_iff]
            have := Nat.not_le_of_not_ble_eq_true (n := pos + 1) (m := s.length) (by rw [hp]; simp)
            omega
          simp only [op, h1, h2, this]
        · have hm : pos < s.length := Nat.le_of_ble_eq_true hp
          have hd : s.getD pos 0 = s[pos] := by simp [List.getD, hm]
          rw [hd] at h
          rcases brec h with ⟨hb, h⟩ | ⟨hb, h⟩
          · exact ⟨_, by simp only [op, h1, h2, List.getElem?_eq_getElem hm, hb]; rfl, h⟩
          · exact ⟨_, by simp only [op, h1, h2, List.getElem?_eq_getElem hm, hb]; rfl, h⟩
      · cases h
    · cases h
  · rename_i b t x y hh
    simp only [evF_eq] at h
    split at h
    · rename_i k1 n k2 m h1 h2
      split at h
      · rename_i hk
        rcases brec h with ⟨hm, h⟩ | ⟨hm, h⟩
        · exact ⟨_, by simp only [op, h1, h2, binop, hk, arith, hm, Option.map_some], h⟩
        · cases h
      · cases h
    · rename_i k1 n k2 m h1 h2
      split at h
      · rename_i hk
        rcases brec h with ⟨hm, h⟩ | ⟨hm, h⟩
        · exact ⟨_, by simp only [op, h1, h2, binop, hk, arith, hm, Option.map_some], h⟩
        · cases h
      · cases h
    · rename_i xs ys h1 h2
      split at h
      · rename_i r hr
        have := (eqvB_both 40).1 _ _ _ _ hr
        exact ⟨_, by simp only [op, h1, h2, binop, this, Option.map_some], h⟩
      · cases h
    · rename_i xs ys h1 h2
      split at h
      · rename_i r hr
        have := (eqvB_both 40).1 _ _ _ _ hr
        exact ⟨_, by simp only [op, h1, h2, binop, this, Option.map_some], h⟩
      · cases h
    · exact dflt h
  · simp only [evF_eq] at h
    split at h
    · rename_i t hc
      split at h
      · rename_i x y hx hy
        split at h
        · rename_i v hv
          have e := pickV_spec hv
          clear hv
          subst e
          refine ⟨_, ?_, h⟩
          cases t <;> simp only [op, hc, hx, hy, Option.map_some, choose2]
        · rcases brec h with ⟨rfl, h⟩ | ⟨rfl, h⟩
          · exact ⟨_, by simp only [op, hc, hy, Option.map_some], h⟩
          · exact ⟨_, by simp only [op, hc, hx, Option.map_some], h⟩
      · cases h
    · cases h
  · rename_i c
    split at h
    · rename_i s x hc ha
      obtain ⟨res, h1, h2⟩ := appW_spec h
      exact ⟨res, by simp only [op, callV, hc, ha]; exact h1, h2⟩
    · exact dflt h
  · rename_i t m key ok
    simp only [evF_eq] at h
    split at h
    · rename_i kt0 e id s kt h1 h2 h3 h4
      split at h
      · rename_i es hget hz
        rcases brec h with ⟨_, h⟩ | ⟨hok, h⟩
        · cases h
        · refine ⟨_, ?_, h⟩
          have hf : findK E (kt, .str) (.str s) es = findKey E kt .str (.str s) es 0 := by
            unfold findK
            have : keyFit E 9 kt (.str s) = true := by simp only [keyFit, keyT_str h4]
            simp only [this]
          simp only [op, h1, h2, h3, h4, hget, hz, hf]
          rcases findKey_SB (E := E) (t := kt) (s := s) (b := false) (i := 0) hok with ⟨a1, j, a2, _⟩ | ⟨a1, a2, a3, _⟩
          · rw [a2, a1]; cases ok <;> rfl
          · rw [a3, a1, a2]; cases ok <;> rfl
      · exact dflt h
    · exact dflt h
  · rename_i t m key x
    simp only [evF_eq] at h
    split at h
    · rename_i id s b kt h2 h3 h4 h5
      split at h
      · rename_i es hget
        rcases brec h with ⟨_, h⟩ | ⟨hok, h⟩
        · cases h
        · refine ⟨_, ?_, h⟩
          have hf : findK E (kt, .str) (.str s) es = findKey E kt .str (.str s) es 0 := by
            unfold findK
            have : keyFit E 9 kt (.str s) = true := by simp only [keyFit, keyT_str h5]
            simp only [this]
          simp only [op, h2, h3, h4, h5, hget, mapSet, hf]
          rcases findKey_SB (E := E) (t := kt) (s := s) (b := b) (i := 0) hok with ⟨a1, j, a2, a3⟩ | ⟨a1, a2, a3, a4⟩
          · rw [a2, a3]; simp only [Nat.zero_add, Option.map_some]
          · rw [a3, a4]; simp only [Option.map_some]
      · cases h
    · exact dflt h
  · rename_i t a
    simp only [evF_eq] at h
    split at h
    · rename_i R hR
      split at hR
      · rename_i id off ha
        split at hR
        · rename_i ro l hget
          obtain ⟨v, hk, hv⟩ := loadK_spec hR h
          refine ⟨_, ?_, hk⟩
          rcases hv with ⟨hA, hv⟩ | ⟨hA, hv, _⟩
          · simp only [op, ha, loadV, hA, loadC, hget, hv, Option.map_some]
          · simp only [op, ha, loadV, hA, loadC, hget, hv, Option.map_some]
        · cases hR
      · rename_i g off ha
        split at hR
        · rename_i l hget
          obtain ⟨v, hk, hv⟩ := loadK_spec hR h
          refine ⟨_, ?_, hk⟩
          rcases hv with ⟨hA, hv⟩ | ⟨hA, hv, _⟩
          · simp only [op, ha, loadV, hA, loadC, hget, hv, Option.map_some]
          · simp only [op, ha, loadV, hA, loadC, hget, hv, Option.map_some]
        · cases hR
      · cases hR
    · exact dflt h
  · rename_i t a x
    simp only [evF_eq] at h
    split at h
    · rename_i id off v ha hx
      split at h
      · rename_i l hget
        split at h
        · rename_i b hA hn ho
          rcases brec h with ⟨_, h⟩ | ⟨hb, h⟩
          · cases h
          · refine ⟨_, ?_, h⟩
            simp only [op, ha, hx, storeV, hget, hA, hn, ho, hb, Option.map_some]
        · cases h
      · cases h
    · cases h
  · exact dflt h

mutual
theorem avbK_spec {k : Option Out} {r : Out} (a b : AV) (h : avbK k a b = some r) : avbeq a b = true ∧ k = some r := by
  unfold avbK at h
  split at h
  · split at h
    · rename_i e
      rcases brec h with ⟨_, h⟩ | ⟨h1, h⟩
      · cases h
      · exact ⟨by simp only [avbeq, e, h1], h⟩
    · cases h
  · rename_i x y
    rcases brec h with ⟨_, h'⟩ | ⟨h1, h'⟩
    · cases h'
    · exact ⟨by have := bbeq_eq h1; subst this; cases x <;> rfl, h'⟩
  · rcases brec h with ⟨_, h⟩ | ⟨h1, h⟩
    · cases h
    · exact ⟨by simp only [avbeq, h1], h⟩
  · rcases brec h with ⟨_, h⟩ | ⟨h1, h⟩
    · cases h
    rcases brec h with ⟨_, h⟩ | ⟨h2, h⟩
    · cases h
    · exact ⟨by simp only [avbeq, h1, h2], h⟩
  · obtain ⟨h1, h2⟩ := avbKL_spec _ _ h
    exact ⟨by simp only [avbeq, h1], h2⟩
  · obtain ⟨h1, h2⟩ := avbKL_spec _ _ h
    exact ⟨by simp only [avbeq, h1], h2⟩
  · rcases brec h with ⟨_, h⟩ | ⟨h1, h⟩
    · cases h
    · exact ⟨h1, h⟩
theorem avbKL_spec {k : Option Out} {r : Out} (a b : List AV) (h : avbKL k a b = some r) : avbeqL a b = true ∧ k = some r := by
  cases a with
  | nil => cases b with
    | nil => simp only [avbKL] at h; exact ⟨rfl, h⟩
    | cons y m => simp only [avbKL] at h; cases h
  | cons x l => cases b with
    | nil => simp only [avbKL] at h; cases h
    | cons y m =>
      simp only [avbKL] at h
      obtain ⟨h1, h2⟩ := avbK_spec x y h
      obtain ⟨h3, h4⟩ := avbKL_spec l m h2
      exact ⟨by simp only [avbeqL, h1, h3], h4⟩
end
theorem lookK_spec {o : Oper} {i a : Nat} {τ τ' : Tmps} {k : Option Out} {r : Out} : ∀ {ph : Phs} {nx : Option Nat}, lookK E o i a τ τ' k nx ph = some r → lookOK E o i a τ τ' nx ph = true ∧ k = some r
  | [], _, h => ⟨rfl, h⟩
  | (σ, am, hh) :: ph, nx, h => by
    have core : ∀ b : Bool, (match b, msHas am i with
        | false, false => (match cstL τ o.op with
          | true => lookK E o i a τ τ' k hh ph
          | false => opK E τ σ o.op fun r => match r with
            | .val v _ => match o.dst with
              | none => lookK E o i a τ τ' k hh ph
              | some d => match τ'.get d with
                | some w => avbK (lookK E o i a τ τ' k hh ph) w v
                | none => lookK E o i a τ τ' k hh ph
            | _ => none)
        | _, _ => lookK E o i a τ τ' k hh ph) = some r →
        (match b, msHas am i with
        | false, false => (match lookSame E o τ τ' σ with
          | true => lookOK E o i a τ τ' hh ph
          | false => false)
        | _, _ => lookOK E o i a τ τ' hh ph) = true ∧ k = some r := by
      intro b h
      cases b with
      | true =>
        obtain ⟨h1, h2⟩ := lookK_spec (ph := ph) h
        exact ⟨h1, h2⟩
      | false =>
        cases hm : msHas am i with
        | true =>
          rw [hm] at h
          obtain ⟨h1, h2⟩ := lookK_spec (ph := ph) h
          exact ⟨h1, h2⟩
        | false =>
          rw [hm] at h
          simp only at h ⊢
          split at h
          · rename_i hc
            obtain ⟨h1, h2⟩ := lookK_spec h
            exact ⟨by simp only [lookSame, hc, h1], h2⟩
          · rename_i hc
            obtain ⟨res, ho, h⟩ := opK_spec h
            split at h
            · rename_i v σ'
              split at h
              · rename_i hd
                obtain ⟨h1, h2⟩ := lookK_spec h
                exact ⟨by simp only [lookSame, hc, ho, hd, h1], h2⟩
              · rename_i d hd
                split at h
                · rename_i w hw
                  obtain ⟨h0, h⟩ := avbK_spec _ _ h
                  obtain ⟨h1, h2⟩ := lookK_spec h
                  exact ⟨by simp only [lookSame, hc, ho, hd, hw, h0, h1], h2⟩
                · rename_i hw
                  obtain ⟨h1, h2⟩ := lookK_spec h
                  exact ⟨by simp only [lookSame, hc, ho, hd, hw, h1], h2⟩
            · cases h
    cases nx with
    | none => exact core false h
    | some x => exact core (msHas a x) h
theorem looksK_spec {ops : Array Oper} {ph : Phs} {k : Option Out} {r : Out} : ∀ {lk : Lks}, looksK E ops ph k lk = some r → looksOK E ops ph lk = true ∧ k = some r
  | [], h => ⟨rfl, h⟩
  | (o, i, a, τ, τ') :: lk, h => by
    simp only [looksK] at h
    simp only [looksOK]
    split at h
    · rename_i e
      rw [e]; simp only
      exact looksK_spec h
    · rename_i hne
      obtain ⟨h1, h2⟩ := lookK_spec h
      obtain ⟨h3, h4⟩ := looksK_spec h2
      refine ⟨?_, h4⟩
      split
      · exact h3
      · rw [h1]; simp only; exact h3

mutual
theorem frzK_spec {pl : Bool} {out : Out} (v : AV) {k : AV → Hp → Option Out} {σ : Hp} (h : frzK pl k v σ = some out) : k (frzArg v σ).1 (frzArg v σ).2 = some out := by
  cases v with
  | sl id off len cl sz =>
    simp only [frzK] at h
    simp only [frzArg]
    split at h
    · rename_i ro l hget
      rcases brec h with ⟨hp, h⟩ | ⟨hp, h⟩
      · cases pl
        case true => cases h
        simp only at h
        split at h
        · rename_i r hr; rw [hr]; exact h
        · rename_i hr; rw [hr]; exact h
      · have : frz 5000 (.sl id off len cl sz) σ = some (.csl (l.drop off) len, σ.set id (.cells true l)) := by
          rw [show (5000 : Nat) = 4999 + 1 from rfl]
          simp only [frz, hget, hp]
        rw [this]; exact h
    · rename_i hget
      have : frz 5000 (.sl id off len cl sz) σ = none := by
        rw [show (5000 : Nat) = 4999 + 1 from rfl]
        simp only [frz]
      rw [this]; exact h
  | agg l =>
    simp only [frzK] at h
    simp only [frzArg]
    exact frzKs_spec l h
  | _ => simp only [frzK] at h; simp only [frzArg]; exact h
theorem frzKs_spec {pl : Bool} {out : Out} (l : List AV) {k : List AV → Hp → Option Out} {σ : Hp} (h : frzKs pl k l σ = some out) : k (frzArgs l σ).1 (frzArgs l σ).2 = some out := by
  cases l with
  | nil => simp only [frzKs] at h; simp only [frzArgs]; exact h
  | cons v vs =>
    simp only [frzKs] at h
    have h1 := frzK_spec v h
    have h2 := frzKs_spec vs h1
    simp only [frzArgs]
    exact h2
end

theorem Tr.set_self {α : Type} : ∀ (t : Tr α) {k : Nat} {v : α}, t.get k = some v → t.set k v = t
  | .lf, k, v, h => by rw [Tr.get_lf] at h; cases h
  | .nd l w r, k, v, h => by
    rw [Tr.get_nd] at h
    rw [Tr.set_nd]
    cases k with
    | zero => simp only at h ⊢; rw [h]
    | succ k =>
      simp only at h ⊢
      cases e : Nat.beq ((k + 1) % 2) 1 with
      | true => rw [e] at h; simp only at h ⊢; rw [Tr.set_self l h]
      | false => rw [e] at h; simp only at h ⊢; rw [Tr.set_self r h]

theorem guardK_spec {ops : Array Oper} {st : St} {o : Oper} {no yes : St → Option Out} {r : Out} (h : guardK ops st o no yes = some r) : (wantedA ops st.τ o = some false ∧ no st = some r) ∨ (wantedA ops st.τ o = some true ∧ yes st = some r) := by
  unfold guardK at h
  unfold wantedA
  split at h
  · rename_i hg; rw [hg]; exact .inr ⟨rfl, h⟩
  · rename_i j want hg
    rw [hg]; simp only
    split at h
    · rename_i d hd
      rw [hd]; simp only
      split at h
      · rename_i b hb
        have hs : { st with τ := st.τ.set d (.bool b) } = st := by rw [Tr.set_self _ hb]
        rw [hb]; simp only
        rcases brec h with ⟨rfl, h⟩ | ⟨rfl, h⟩ <;> rcases brec h with ⟨rfl, h⟩ | ⟨rfl, h⟩ <;> rw [hs] at h
        · exact .inr ⟨rfl, h⟩
        · exact .inl ⟨rfl, h⟩
        · exact .inl ⟨rfl, h⟩
        · exact .inr ⟨rfl, h⟩
      · rename_i hb; rw [hb]; exact .inl ⟨rfl, h⟩
      · cases h
    · cases h

theorem knowT_spec {st : St} {x : Operand} {t : Bool} (h : ev st.τ x = some (.bool t)) : knowT st x t = st := by
  unfold knowT
  split
  · rename_i d
    have : st.τ.get d = some (.bool t) := h
    rw [Tr.set_self _ this]
  · rfl

/-- What an operation's answer makes of the state. -/
noncomputable def resS (E : Env) (call : CallF) (hs : Hnds) (st : St) (r : Res) (dst : Option Nat) : Option St :=
  match r with
  | .val v σ => putS { st with σ := σ } dst v
  | .skip σ => putS { st with σ := σ } dst undefA
  | .call f args => match doCall E call hs f args st.σ st.Λ with
    | some (v, σ, Λ) => putS { st with σ := σ, Λ := Λ } dst v
    | none => none
  | .yld l args => match doYield hs l args st.σ st.Λ with
    | some (v, σ, Λ) => putS { st with σ := σ, Λ := Λ } dst v
    | none => none
  | .dfr f args => match st.rnd with
    | true => none
    | false => putS { st with ds := (f, args) :: st.ds } dst undefA
  | .recov => match st.rnd with
    | true => none
    | false => putS st dst .nili

theorem oneOp_resS {call : CallF} {hs : Hnds} {ops : Array Oper} {o : Oper} {st : St} : oneOp E call hs ops o st = match wantedA ops st.τ o with
    | none => none
    | some false => putS st o.dst undefA
    | some true => match op E st.τ st.σ o.op with
      | none => none
      | some r => resS E call hs st r o.dst := by
  unfold oneOp
  cases wantedA ops st.τ o with
  | none => rfl
  | some w =>
    cases w with
    | false => rfl
    | true =>
      simp only
      cases op E st.τ st.σ o.op with
      | none => rfl
      | some r => cases r <;> rfl

theorem callK_spec (hS : S.ok E) {ev : Ev} {f : Nat} {args : List AV} {σ : Hp} {Λ : List LF} {r : Rt} {K : List Fm} {k : Cfg → Option Out} {out : Out} (h : callK E S ev f args σ Λ r K k = some out) :
    ∃ c', k c' = some out ∧ ∀ res, den E c' = some res → ∃ v σ' Λ', callN E ev.n f args σ (toHs E ev.D) Λ = some (v, σ', Λ') ∧ contV E (contE E K) r v σ' Λ' = some res := by
  unfold callK at h
  split at h
  · cases h
  · rename_i m hm
    rw [hm]
    split at h
    · rename_i c v hv
      rcases brec h with ⟨_, h⟩ | ⟨rfl, h⟩
      · cases h
      · exact ⟨_, h, fun res hr => ⟨v, σ, Λ, by simp only [callN, hS _ _ _ hv], hr⟩⟩
    split at h
    · rename_i v hv
      exact ⟨_, h, fun res hr => ⟨v, σ, Λ, by simp only [callN, hv], hr⟩⟩
    · rename_i hv
      split at h
      · cases h
      · rename_i fn hfn
        split at h
        · cases h
        · rename_i body hbody
          refine ⟨_, h, fun res hr => ?_⟩
          simp only [den] at hr
          simp only [callN, hv, hfn, hbody]
          split at hr
          · rename_i e st hx
            rw [hx]
            simp only
            simp only [contE] at hr
            split at hr
            · cases hr
            · rename_i hne
              split at hr
              · cases hr
              · rename_i σ1 Λ1 hd
                split at hr
                · rename_i v hvs
                  refine ⟨v, σ1, Λ1, ?_, hr⟩
                  cases e with
                  | exit i => exact absurd rfl (hne i)
                  | normal => simp only [hd, hvs]
                  | ret => simp only [hd, hvs]
                · rename_i vs hnv hvs
                  refine ⟨.tup vs, σ1, Λ1, ?_, hr⟩
                  have : (match some vs with
                    | some [v] => some (v, σ1, Λ1)
                    | some vs => some (AV.tup vs, σ1, Λ1)
                    | none => none) = some (AV.tup vs, σ1, Λ1) := by
                    split
                    · rename_i v e; simp only [Option.some.injEq] at e; exact absurd e (hnv v)
                    · rename_i e; simp only [Option.some.injEq] at e; rw [e]
                    · rename_i e; cases e
                  cases e with
                  | exit i => exact absurd rfl (hne i)
                  | normal => simp only [hd, hvs]
                  | ret => simp only [hd, hvs]
                · cases hr
          · cases hr

theorem hndOf_deepM {l : Nat} : ∀ {hs : Hnds}, hndOf (deepen hs) l = (hndOf hs l).map deeper
  | [] => rfl
  | (i, h) :: hs => by
    simp only [deepen, hndOf]
    cases Nat.beq i l with
    | true => rfl
    | false => exact hndOf_deepM

theorem fD_spec {l : Nat} : ∀ {D : List HD} {Λ pre Λ1 : List LF} {h : HD} {D' : List HD}, fD D l Λ = some (pre, h, D', Λ1) → ∃ g, hndOf (toHs E D) l = some g ∧
    ∀ az σ b σ' Λ2, rangeH E (callN E h.n) (toHs E D') h.nt h.τ h.params h.asg.c h.body.c az σ Λ1 = some (b, σ', Λ2) → g az σ Λ = some (b, σ', pre ++ Λ2)
  | [], Λ, pre, Λ1, h, D', hh => by cases hh
  | x :: D, Λ, pre, Λ1, h, D', hh => by
    simp only [fD] at hh
    simp only [toHs, hndOf]
    split at hh
    · rename_i e
      simp only [Option.some.injEq, Prod.mk.injEq] at hh; obtain ⟨rfl, rfl, rfl, rfl⟩ := hh
      rw [e]
      exact ⟨_, rfl, fun az σ b σ' Λ2 h => h⟩
    · rename_i e
      rw [e]
      simp only
      split at hh
      · cases hh
      · rename_i lf Λ'
        split at hh
        · rename_i pre1 y hy
          simp only [Option.some.injEq, Prod.mk.injEq] at hh; obtain ⟨rfl, rfl⟩ := hh
          obtain ⟨g, g1, g2⟩ := fD_spec hy
          refine ⟨deeper g, by rw [hndOf_deepM, g1]; rfl, fun az σ b σ' Λ2 h => ?_⟩
          simp only [deeper, g2 az σ b σ' Λ2 h]
          rfl
        · cases hh

theorem yldK_spec {ev : Ev} {l : Nat} {args : List AV} {σ : Hp} {Λ : List LF} {r : Rt} {K : List Fm} {k : Cfg → Option Out} {out : Out} (h : yldK ev l args σ Λ r K k = some out) :
    ∃ c', k c' = some out ∧ ∀ res, den E c' = some res → ∃ v σ' Λ', doYield (toHs E ev.D) l args σ Λ = some (v, σ', Λ') ∧ contV E (contE E K) r v σ' Λ' = some res := by
  unfold yldK at h
  split at h
  · rename_i pre hd D lf Λ1 hf
    split at h
    · cases h
    · rename_i hdone
      split at h
      · cases h
      · rename_i τ hτ
        refine ⟨_, h, fun res hr => ?_⟩
        obtain ⟨g, g1, g2⟩ := fD_spec (E := E) hf
        simp only [den] at hr
        split at hr
        · rename_i e st hx
          simp only [contE] at hr
          cases e with
          | normal =>
            simp only at hr
            split at hr
            · rename_i e2 st2 hx2
              split at hr
              · rename_i hds
                refine ⟨.bool e2.isNormal, st2.σ, pre ++ ⟨!e2.isNormal, e2⟩ :: st2.Λ, ?_, hr⟩
                have : rangeH E (callN E hd.n) (toHs E D) hd.nt hd.τ hd.params hd.asg.c hd.body.c args σ (lf :: Λ1) = some (e2.isNormal, st2.σ, ⟨!e2.isNormal, e2⟩ :: st2.Λ) := by
                  simp only [rangeH, hdone, hτ, hx, hx2, hds]
                simp only [doYield, g1, g2 _ _ _ _ _ this]
              · cases hr
            · cases hr
          | exit i => cases hr
          | ret => cases hr
        · cases hr
  · cases h

theorem resK_spec (hS : S.ok E) {ev : Ev} {st : St} {r : Res} {rt : Rt} {K : List Fm} {k : Cfg → Option Out} {put : AV → St → Option Out} {dst : Option Nat} {contO : St → Option Rr} {out : Out}
    (hput : ∀ v s out, put v s = some out → ∃ c', k c' = some out ∧ ∀ res, den E c' = some res → ∃ s', putS s dst v = some s' ∧ contO s' = some res)
    (hrt : ∀ v σ Λ res, contV E (contE E K) rt v σ Λ = some res → ∃ s', putS ⟨st.τ, σ, st.ds, Λ, st.nt, st.rnd⟩ dst v = some s' ∧ contO s' = some res) (h : resK E S ev st r rt K k put = some out) :
    ∃ c', k c' = some out ∧ ∀ res, den E c' = some res → ∃ s', resS E (callN E ev.n) (toHs E ev.D) st r dst = some s' ∧ contO s' = some res := by
  unfold resK at h
  cases r with
  | val v σ => exact hput _ _ _ h
  | skip σ => exact hput _ _ _ h
  | call f args =>
    simp only at h
    split at h
    · rename_i hf
      have h := frzKs_spec args h
      obtain ⟨c', h1, h2⟩ := callK_spec hS h
      refine ⟨c', h1, fun res hr => ?_⟩
      obtain ⟨v, σ', Λ', h3, h4⟩ := h2 res hr
      obtain ⟨s', h5, h6⟩ := hrt _ _ _ _ h4
      refine ⟨s', ?_, h6⟩
      simp only [resS, doCall, hf]
      rw [show frzArgs args st.σ = ((frzArgs args st.σ).1, (frzArgs args st.σ).2) from rfl]
      simp only [h3]
      exact h5
    · rename_i hf
      obtain ⟨c', h1, h2⟩ := callK_spec hS h
      refine ⟨c', h1, fun res hr => ?_⟩
      obtain ⟨v, σ', Λ', h3, h4⟩ := h2 res hr
      obtain ⟨s', h5, h6⟩ := hrt _ _ _ _ h4
      exact ⟨s', by simp only [resS, doCall, hf, h3]; exact h5, h6⟩
  | yld l args =>
    obtain ⟨c', h1, h2⟩ := yldK_spec (E := E) h
    refine ⟨c', h1, fun res hr => ?_⟩
    obtain ⟨v, σ', Λ', h3, h4⟩ := h2 res hr
    obtain ⟨s', h5, h6⟩ := hrt _ _ _ _ h4
    exact ⟨s', by simp only [resS, h3]; exact h5, h6⟩
  | dfr f args =>
    simp only at h
    split at h
    · cases h
    · rename_i hr
      obtain ⟨c', h1, h2⟩ := hput _ _ _ h
      refine ⟨c', h1, fun res hx => ?_⟩
      obtain ⟨s', h3, h4⟩ := h2 res hx
      refine ⟨s', ?_, h4⟩
      unfold resS
      simp only
      split
      · rename_i e; rw [hr] at e; cases e
      · exact h3
  | recov =>
    simp only at h
    split at h
    · cases h
    · rename_i hr
      obtain ⟨c', h1, h2⟩ := hput _ _ _ h
      refine ⟨c', h1, fun res hx => ?_⟩
      obtain ⟨s', h3, h4⟩ := h2 res hx
      refine ⟨s', ?_, h4⟩
      unfold resS
      simp only
      split
      · rename_i e; rw [hr] at e; cases e
      · exact h3

theorem opsK_spec (hS : S.ok E) {pc : PC} {j : Nat} {rest : List Oper} {st : St} {ev : Ev} {K : List Fm} {k : Cfg → Option Out} {out : Out} (h : opsK E S pc j rest st ev K k = some out) :
    ∃ c', k c' = some out ∧ ∀ res, den E c' = some res → den E ⟨.op pc j rest st, ev, K⟩ = some res := by
  unfold opsK at h
  cases rest with
  | nil => exact ⟨_, h, fun res hr => hr⟩
  | cons o os =>
    simp only at h
    have hput : ∀ v s out, (match putS s o.dst v with
        | some s => k ⟨.op pc (j + 1) os s, ev, K⟩
        | none => none) = some out → ∃ c', k c' = some out ∧ ∀ res, den E c' = some res → ∃ s', putS s o.dst v = some s' ∧ (match runOps E (callN E ev.n) (toHs E ev.D) (opsOf pc.c) os s' with
          | some s => contE E K ev .normal s
          | none => none) = some res := by
      intro v s out h
      split at h
      · rename_i s' hs
        exact ⟨_, h, fun res hr => ⟨s', hs, hr⟩⟩
      · cases h
    have fin : ∀ {c' : Cfg}, (∀ res, den E c' = some res → ∃ s', oneOp E (callN E ev.n) (toHs E ev.D) (opsOf pc.c) o st = some s' ∧ (match runOps E (callN E ev.n) (toHs E ev.D) (opsOf pc.c) os s' with
          | some s => contE E K ev .normal s
          | none => none) = some res) → ∀ res, den E c' = some res → den E ⟨.op pc j (o :: os) st, ev, K⟩ = some res := by
      intro c' h res hr
      obtain ⟨s', h1, h2⟩ := h res hr
      simp only [den, runOps, h1]
      exact h2
    rcases guardK_spec h with ⟨hw, h⟩ | ⟨hw, h⟩
    · obtain ⟨c', h1, h2⟩ := hput _ _ _ h
      refine ⟨c', h1, fin (fun res hr => ?_)⟩
      obtain ⟨s', h3, h4⟩ := h2 res hr
      exact ⟨s', by rw [oneOp_resS, hw]; exact h3, h4⟩
    · obtain ⟨r, hop, h⟩ := opK_spec h
      obtain ⟨c', h1, h2⟩ := resK_spec hS (dst := o.dst) (contO := fun s' => match runOps E (callN E ev.n) (toHs E ev.D) (opsOf pc.c) os s' with
          | some s => contE E K ev .normal s
          | none => none) hput (fun v σ Λ res hr => by
        simp only [contV] at hr
        split at hr
        · cases hr
        · rename_i s hs
          refine ⟨s, hs, ?_⟩
          split at hr
          · cases hr
          · rename_i s2 hs2
            simp only [hs2]; exact hr) h
      refine ⟨c', h1, fin (fun res hr => ?_)⟩
      obtain ⟨s', h3, h4⟩ := h2 res hr
      exact ⟨s', by rw [oneOp_resS, hw]; simp only [hop]; exact h3, h4⟩
end
end Go.Eng

/-
  THE ENGINE, 63: the machine, whole.
-/
namespace Go.Eng
open Go

attribute [local irreducible] upTo

section
variable {E : Env} {S : Sy}

theorem restD_done {ev : Ev} {d : DR} {st : St} (h : d.os = [] ∨ d.fs = []) : restD E ev d st = match (match d.q with | true => true | false => looksOK E d.ops d.ph d.lk) with
    | true => some st
    | false => none := by
  have : runD E (callN E ev.n) (toHs E ev.D) d.ops d.n0 d.os d.fs d.i st d.ph d.lk = some (st, d.ph, d.lk) := by
    rcases h with h | h
    · rw [h]; cases d.fs <;> rfl
    · rw [h]; cases d.os <;> rfl
  unfold restD
  rw [this]
  rfl

theorem restD_step {ev : Ev} {d : DR} {st : St} {o : Oper} {os : List Oper} {f : Inf} {fs : List Inf} (ho : d.os = o :: os) (hf : d.fs = f :: fs) : restD E ev d st = match oneD E (callN E ev.n) (toHs E ev.D) d.ops d.n0 f o st with
    | none => none
    | some s => restD E ev (({ d with os := os, fs := fs } : DR).nxt o f st.τ s) s := by
  unfold restD
  rw [ho, hf]
  simp only [runD]
  cases oneD E (callN E ev.n) (toHs E ev.D) d.ops d.n0 f o st with
  | none => rfl
  | some s =>
    obtain ⟨c, a, kk⟩ := f
    match c with
    | 0 => rfl
    | 1 => rfl
    | n + 2 => rfl

theorem drK_spec (hS : S.ok E) {d : DR} {st : St} {ev : Ev} {K : List Fm} {k : Cfg → Option Out} {out : Out} (h : drK E S d st ev K k = some out) :
    ∃ c', k c' = some out ∧ ∀ res, den E c' = some res → den E ⟨.dr d st, ev, K⟩ = some res := by
  unfold drK at h
  split at h
  · rename_i o os f fs ho hf
    simp only at h
    have hput : ∀ v s out, (match putS s o.dst v with
        | some s => k ⟨.dr (({ d with os := os, fs := fs } : DR).nxt o f st.τ s) s, ev, K⟩
        | none => none) = some out → ∃ c', k c' = some out ∧ ∀ res, den E c' = some res → ∃ s', putS s o.dst v = some s' ∧ (match restD E ev (({ d with os := os, fs := fs } : DR).nxt o f st.τ s') s' with
          | some s => contE E K ev .normal s
          | none => none) = some res := by
      intro v s out h
      split at h
      · rename_i s' hs
        exact ⟨_, h, fun res hr => ⟨s', hs, hr⟩⟩
      · cases h
    have fin : ∀ {c' : Cfg}, (∀ res, den E c' = some res → ∃ s', oneD E (callN E ev.n) (toHs E ev.D) d.ops d.n0 f o st = some s' ∧ (match restD E ev (({ d with os := os, fs := fs } : DR).nxt o f st.τ s') s' with
          | some s => contE E K ev .normal s
          | none => none) = some res) → ∀ res, den E c' = some res → den E ⟨.dr d st, ev, K⟩ = some res := by
      intro c' h res hr
      obtain ⟨s', h1, h2⟩ := h res hr
      simp only [den]
      rw [restD_step ho hf, h1]
      exact h2
    split at h
    · rename_i hc
      rcases guardK_spec h with ⟨hw, h⟩ | ⟨hw, h⟩
      · obtain ⟨c', h1, h2⟩ := hput _ _ _ h
        refine ⟨c', h1, fin (fun res hr => ?_)⟩
        obtain ⟨s', h3, h4⟩ := h2 res hr
        exact ⟨s', by unfold oneD; rw [hc]; simp only [hw]; exact h3, h4⟩
      · split at h
        · rename_i v ao hn
          obtain ⟨c', h1, h2⟩ := hput _ _ _ h
          refine ⟨c', h1, fin (fun res hr => ?_)⟩
          obtain ⟨s', h3, h4⟩ := h2 res hr
          exact ⟨s', by unfold oneD; rw [hc]; simp only [hw, hn]; exact h3, h4⟩
        · cases h
    · rename_i hc
      have hone : oneD E (callN E ev.n) (toHs E ev.D) d.ops d.n0 f o st = oneOp E (callN E ev.n) (toHs E ev.D) d.ops o st := oneD_of_oneOp (fun e => hc e)
      rcases guardK_spec h with ⟨hw, h⟩ | ⟨hw, h⟩
      · obtain ⟨c', h1, h2⟩ := hput _ _ _ h
        refine ⟨c', h1, fin (fun res hr => ?_)⟩
        obtain ⟨s', h3, h4⟩ := h2 res hr
        exact ⟨s', by rw [hone, oneOp_resS, hw]; exact h3, h4⟩
      · obtain ⟨r, hop, h⟩ := opK_spec h
        obtain ⟨c', h1, h2⟩ := resK_spec hS (dst := o.dst) (contO := fun s' => match restD E ev (({ d with os := os, fs := fs } : DR).nxt o f st.τ s') s' with
            | some s => contE E K ev .normal s
            | none => none) hput (fun v σ Λ res hr => by
          simp only [contV] at hr
          split at hr
          · cases hr
          · rename_i s hs
            refine ⟨s, hs, ?_⟩
            split at hr
            · cases hr
            · rename_i s2 hs2
              simp only [hs2]; exact hr) h
        refine ⟨c', h1, fin (fun res hr => ?_)⟩
        obtain ⟨s', h3, h4⟩ := h2 res hr
        exact ⟨s', by rw [hone, oneOp_resS, hw]; simp only [hop]; exact h3, h4⟩
  · rename_i hne
    have hd : d.os = [] ∨ d.fs = [] := by
      cases ho : d.os with
      | nil => exact .inl rfl
      | cons o os =>
        cases hf : d.fs with
        | nil => exact .inr rfl
        | cons f fs => exact absurd hf (hne o os f fs ho)
    split at h
    · rename_i hq
      refine ⟨_, h, fun res hr => ?_⟩
      simp only [den, restD_done hd, hq]
      exact hr
    · rename_i hq
      obtain ⟨hl, h⟩ := looksK_spec h
      refine ⟨_, h, fun res hr => ?_⟩
      simp only [den, restD_done hd, hq, hl]
      exact hr

theorem rounds_upTo {ev : Ev} {b : Code} {n0 : Nat} {τ0 : Tmps} : ∀ (k m : Nat) (st : St) {r : Ex × St}, rounds E ev b n0 τ0 (2 ^ k + m) st = some r →
    (∃ st1, upTo (fun s => roundC n0 τ0 (exec E (callN E ev.n) b (toHs E ev.D) s)) k st = some (none, st1) ∧ rounds E ev b n0 τ0 m st1 = some r) ∨
    (upTo (fun s => roundC n0 τ0 (exec E (callN E ev.n) b (toHs E ev.D) s)) k st = some (some r.1, r.2))
  | 0, m, st, r, h => by
    rw [show 2 ^ 0 + m = m + 1 by omega] at h
    simp only [rounds] at h
    rw [upTo]
    split at h
    · rename_i st1 hx
      refine .inl ⟨clean n0 τ0 st1, ?_, h⟩
      rw [hx]; rfl
    · rename_i hne
      obtain ⟨e, s⟩ := r
      refine .inr ?_
      rw [h]
      cases e with
      | normal => exact absurd h (fun h => hne s h)
      | exit i => rfl
      | ret => rfl
  | k + 1, m, st, r, h => by
    have e : 2 ^ (k + 1) + m = 2 ^ k + (2 ^ k + m) := by rw [Nat.pow_succ]; omega
    rw [e] at h
    rw [upTo]
    rcases rounds_upTo k (2 ^ k + m) st h with ⟨st1, h1, h2⟩ | h1
    · rw [h1]
      exact rounds_upTo k m st1 h2
    · rw [h1]; exact .inr rfl

theorem loop_den (hsy : E.sy = true) {ev : Ev} {b : Code} {st : St} {r : Ex × St} (h : rounds E ev b st.σ.n st.τ (2 ^ 20) st = some r) : exec E (callN E ev.n) (.loop b) (toHs E ev.D) st = some r := by
  rw [exec_loop, hsy]
  simp only
  rcases rounds_upTo 20 0 st h with ⟨st1, h1, h2⟩ | h1
  · cases h2
  · rw [h1]

theorem exK_spec (hS : S.ok E) (hsy : E.sy = true) {pc : PC} {st : St} {ev : Ev} {K : List Fm} {k : Cfg → Option Out} {out : Out} (h : exK E S pc st ev K k = some out) :
    ∃ c', k c' = some out ∧ ∀ res, den E c' = some res → den E ⟨.ex pc st, ev, K⟩ = some res := by
  obtain ⟨pf, pp, c⟩ := pc
  unfold exK at h
  cases c with
  | skip => exact ⟨_, h, fun res hr => hr⟩
  | label l => exact ⟨_, h, fun res hr => hr⟩
  | exit i => exact ⟨_, h, fun res hr => hr⟩
  | ret => exact ⟨_, h, fun res hr => hr⟩
  | goto l => cases h
  | refuse w => cases h
  | scope b => exact ⟨_, h, fun res hr => hr⟩
  | region id ops d =>
    cases d with
    | false =>
      refine ⟨_, h, fun res hr => ?_⟩
      simp only [den, opsOf] at hr
      simp only [den, exec_region]
      split at hr
      · rename_i s hs; rw [hs]; exact hr
      · cases hr
    | true =>
      simp only at h
      have key : ∀ {pc : PC} {ops' : Array Oper} {fs : List Inf} {na : Nat} {res : Rr}, den E ⟨.dr (drOf pc ops' fs na st) { st with σ := ⟨st.σ.t, st.σ.n + na⟩ }, ev, K⟩ = some res →
          ∃ s, runDrawQ E (callN E ev.n) (toHs E ev.D) ops' fs na st = some s ∧ contE E K ev .normal s = some res := by
        intro pc ops' fs na res hr
        simp only [den, restD, drOf] at hr
        split at hr
        · rename_i s hs
          refine ⟨s, ?_, hr⟩
          unfold runDrawQ
          exact hs
        · cases hr
      split at h
      · rename_i fs na hpl
        refine ⟨_, h, fun res hr => ?_⟩
        obtain ⟨s, h1, h2⟩ := key hr
        simp only [den, exec_regionD, runDraw, hpl, h1]
        exact h2
      · rename_i hpl
        split at h
        · cases h
        · rename_i ops' hpm
          split at h
          · rename_i fs na hpl2
            refine ⟨_, h, fun res hr => ?_⟩
            obtain ⟨s, h1, h2⟩ := key hr
            simp only [den, exec_regionD, runDraw, hpl, hpm, runDrawP, hpl2, h1]
            exact h2
          · cases h
  | seq a b =>
    refine ⟨_, h, fun res hr => ?_⟩
    simp only [den] at hr ⊢
    rw [exec_seq]
    split at hr
    · rename_i e s hs
      rw [hs]
      cases e with
      | normal => exact hr
      | exit i => exact hr
      | ret => exact hr
    · cases hr
  | cond x a b =>
    simp only [evF_eq] at h
    split at h
    · rename_i t ht
      rcases brec h with ⟨rfl, h⟩ | ⟨rfl, h⟩
      · rw [knowT_spec ht] at h
        refine ⟨_, h, fun res hr => ?_⟩
        simp only [den] at hr ⊢
        rw [exec_cond, ht]; exact hr
      · rw [knowT_spec ht] at h
        refine ⟨_, h, fun res hr => ?_⟩
        simp only [den] at hr ⊢
        rw [exec_cond, ht]; exact hr
    · cases h
  | block i b =>
    refine ⟨_, h, fun res hr => ?_⟩
    simp only [den] at hr ⊢
    rw [exec_block]
    split at hr
    · rename_i e s hs
      rw [hs]
      cases e with
      | normal => exact hr
      | exit j => exact hr
      | ret => exact hr
    · cases hr
  | loop b =>
    refine ⟨_, h, fun res hr => ?_⟩
    simp only [den] at hr ⊢
    have key : ∀ e s, rounds E ev b st.σ.n st.τ (2 ^ 20) st = some (e, s) → contE E K ev e s = some res → (match exec E (callN E ev.n) (.loop b) (toHs E ev.D) st with
        | some (e, st) => contE E K ev e st
        | none => none) = some res := by
      intro e s h1 h2
      rw [loop_den hsy h1]; exact h2
    have e20 : (2 : Nat) ^ 20 = 1048575 + 1 := by decide
    split at hr
    · rename_i e s hs
      cases e with
      | normal =>
        simp only [contE] at hr
        split at hr
        · rename_i e2 s2 h2
          refine key e2 s2 ?_ hr
          rw [e20]
          show (match exec E (callN E ev.n) b (toHs E ev.D) st with
            | some (.normal, st') => rounds E ev b st.σ.n st.τ 1048575 (clean st.σ.n st.τ st')
            | r => r) = _
          rw [hs]; exact h2
        · cases hr
      | exit i =>
        refine key _ s ?_ hr
        rw [e20]
        show (match exec E (callN E ev.n) b (toHs E ev.D) st with
            | some (.normal, st') => rounds E ev b st.σ.n st.τ 1048575 (clean st.σ.n st.τ st')
            | r => r) = _
        rw [hs]
      | ret =>
        refine key _ s ?_ hr
        rw [e20]
        show (match exec E (callN E ev.n) b (toHs E ev.D) st with
            | some (.normal, st') => rounds E ev b st.σ.n st.τ 1048575 (clean st.σ.n st.τ st')
            | r => r) = _
        rw [hs]
    · cases hr
  | rangeFunc x ps a b =>
    simp only [evF_eq] at h
    split at h
    · rename_i g first caps hx
      obtain ⟨c', h1, h2⟩ := callK_spec hS h
      refine ⟨c', h1, fun res hr => ?_⟩
      obtain ⟨v, σ', Λ', h3, h4⟩ := h2 res hr
      simp only [den]
      rw [exec_rangeFunc, hx]
      simp only [toHs] at h3
      simp only [h3]
      simp only [contV] at h4
      split at h4
      · exact h4
      · cases h4
    · cases h

theorem retK_spec {e : Ex} {st : St} {ev : Ev} {K : List Fm} {k : Cfg → Option Out} {out : Out} (h : retK E S e st ev K k = some out) :
    ∃ c', k c' = some out ∧ ∀ res, den E c' = some res → den E ⟨.rt e st, ev, K⟩ = some res := by
  unfold retK at h
  cases K with
  | nil => cases h
  | cons F K =>
    cases F with
    | seq b =>
      cases e with
      | normal => exact ⟨_, h, fun res hr => hr⟩
      | exit i => exact ⟨_, h, fun res hr => hr⟩
      | ret => exact ⟨_, h, fun res hr => hr⟩
    | asg b =>
      cases e with
      | normal => exact ⟨_, h, fun res hr => hr⟩
      | exit i => cases h
      | ret => cases h
    | blk i =>
      cases e with
      | normal => exact ⟨_, h, fun res hr => hr⟩
      | exit i => exact ⟨_, h, fun res hr => hr⟩
      | ret => exact ⟨_, h, fun res hr => hr⟩
    | lop b n0 τ0 j =>
      cases e with
      | normal =>
        simp only at h
        split at h
        · cases h
        · rename_i j
          have h := cleanK_spec h
          refine ⟨_, h, fun res hr => ?_⟩
          simp only [den, contE, rounds] at hr ⊢
          split at hr
          · rename_i e2 s2 h2
            cases e2 with
            | normal => simp only [h2]; exact hr
            | exit i => simp only [h2]; exact hr
            | ret => simp only [h2]; exact hr
          · cases hr
      | exit i => exact ⟨_, h, fun res hr => hr⟩
      | ret => exact ⟨_, h, fun res hr => hr⟩
    | cal rs r =>
      simp only at h
      have key : ∀ {c' : Cfg}, (∃ vs, resultsA E st.τ st.σ rs = some vs ∧ st.ds = [] ∧ ((∃ v, vs = [v] ∧ c' = ⟨.vl r v st.σ st.Λ, ev, K⟩) ∨ ((∀ v, vs ≠ [v]) ∧ c' = ⟨.vl r (.tup vs) st.σ st.Λ, ev, K⟩))) → (∀ i, e ≠ .exit i) → ∀ res, den E c' = some res → den E ⟨.rt e st, ev, .cal rs r :: K⟩ = some res := by
        rintro c' ⟨vs, h1, h2, h3⟩ hne res hr
        have hd : runDefers E (callN E ev.n) (toHs E ev.D) st.ds st.σ st.Λ = some (st.σ, st.Λ) := by rw [h2]; rfl
        have : (match resultsA E st.τ st.σ rs with
          | some [v] => contV E (contE E K) r v st.σ st.Λ
          | some vs => contV E (contE E K) r (.tup vs) st.σ st.Λ
          | none => none) = some res := by
          rcases h3 with ⟨v, rfl, rfl⟩ | ⟨hnv, rfl⟩
          · rw [h1]; exact hr
          · rw [h1]
            split
            · rename_i v e; simp only [Option.some.injEq] at e; exact absurd e (hnv v)
            · rename_i e; simp only [Option.some.injEq] at e; rw [← e]; exact hr
            · rename_i e; cases e
        simp only [den, contE]
        cases e with
        | exit i => exact absurd rfl (hne i)
        | normal => simp only [hd]; exact this
        | ret => simp only [hd]; exact this
      cases e with
      | exit i => cases h
      | normal =>
        simp only at h
        split at h
        · rename_i hds
          split at h
          · rename_i v hv
            exact ⟨_, h, key ⟨_, hv, hds, .inl ⟨v, rfl, rfl⟩⟩ (fun i h => by cases h)⟩
          · rename_i vs hnv hv
            exact ⟨_, h, key ⟨_, hv, hds, .inr ⟨fun v e => hnv v (by rw [e]), rfl⟩⟩ (fun i h => by cases h)⟩
          · cases h
        · cases h
      | ret =>
        simp only at h
        split at h
        · rename_i hds
          split at h
          · rename_i v hv
            exact ⟨_, h, key ⟨_, hv, hds, .inl ⟨v, rfl, rfl⟩⟩ (fun i h => by cases h)⟩
          · rename_i vs hnv hv
            exact ⟨_, h, key ⟨_, hv, hds, .inr ⟨fun v e => hnv v (by rw [e]), rfl⟩⟩ (fun i h => by cases h)⟩
          · cases h
        · cases h
    | rnd pre r =>
      simp only at h
      split at h
      · rename_i hds
        refine ⟨_, h, fun res hr => ?_⟩
        simp only [den, contE, hds]
        exact hr
      · cases h

theorem doneK_spec {v : AV} {σ : Hp} {out : Out} (h : doneK v σ = some out) : ∃ v', frzV v σ = some v' ∧ out = .done v' := by
  cases v with
  | tup l =>
    simp only [doneK] at h
    obtain ⟨l', σ', h1, h2⟩ := frzDL_spec 5000 _ h
    simp only [Option.some.injEq] at h2; subst h2
    exact ⟨_, by simp only [frzV, h1], rfl⟩
  | _ =>
    simp only [doneK] at h
    obtain ⟨l', σ', h1, h2⟩ := frzD_spec 5000 _ h
    simp only [Option.some.injEq] at h2; subst h2
    exact ⟨_, by simp only [frzV, h1], rfl⟩

theorem valK_spec {r : Rt} {v : AV} {σ : Hp} {Λ : List LF} {ev : Ev} {K : List Fm} {k : Cfg → Option Out} {out : Out} (h : valK r v σ Λ K k = some out) :
    (∃ v', out = .done v' ∧ den E ⟨.vl r v σ Λ, ev, K⟩ = some (v, σ, []) ∧ frzV v σ = some v') ∨ ∃ c', k c' = some out ∧ ∀ res, den E c' = some res → den E ⟨.vl r v σ Λ, ev, K⟩ = some res := by
  unfold valK at h
  cases r with
  | top =>
    simp only at h
    split at h
    · obtain ⟨v', h1, rfl⟩ := doneK_spec h
      exact .inl ⟨v', rfl, rfl, h1⟩
    · cases h
  | op pc j dst rest τ ds nt rnd ev' =>
    simp only at h
    split at h
    · rename_i s hs
      refine .inr ⟨_, h, fun res hr => ?_⟩
      simp only [den] at hr
      simp only [den, contV, hs]
      split at hr
      · rename_i s2 h2; simp only [h2]; exact hr
      · cases hr
    · cases h
  | dr d o f τ ds nt rnd ev' =>
    simp only at h
    split at h
    · rename_i s hs
      refine .inr ⟨_, h, fun res hr => ?_⟩
      simp only [den] at hr
      simp only [den, contV, hs]
      split at hr
      · rename_i s2 h2; simp only [h2]; exact hr
      · cases hr
    · cases h
  | rng τ ds nt rnd ev' =>
    simp only at h
    split at h
    · exact .inr ⟨_, h, fun res hr => hr⟩
    · cases h

theorem stepK_spec (hS : S.ok E) (hsy : E.sy = true) {c : Cfg} {k : Cfg → Option Out} {out : Out} (h : stepK E S c k = some out) :
    (∃ v v0 σ, out = .done v ∧ den E c = some (v0, σ, []) ∧ frzV v0 σ = some v) ∨ ∃ c', k c' = some out ∧ ∀ res, den E c' = some res → den E c = some res := by
  obtain ⟨cu, ev, K⟩ := c
  unfold stepK at h
  cases cu with
  | ex pc st => exact .inr (exK_spec hS hsy h)
  | op pc j rest st => exact .inr (opsK_spec hS h)
  | dr d st => exact .inr (drK_spec hS h)
  | rt e st => exact .inr (retK_spec h)
  | vl r v σ Λ =>
    rcases valK_spec (E := E) (ev := ev) h with ⟨v', h1, h2⟩ | h
    · exact .inl ⟨v', v, σ, h1, h2⟩
    · exact .inr h

/-- From c one comes to c'. -/
def Goto (E : Env) (c c' : Cfg) : Prop := ∀ res, den E c' = some res → den E c = some res
theorem Goto.refl (c : Cfg) : Goto E c c := fun _ h => h
theorem Goto.trans {a b c : Cfg} (h : Goto E a b) (k : Goto E b c) : Goto E a c := fun r x => h r (k r x)

theorem adv_spec (hS : S.ok E) (hsy : E.sy = true) : ∀ {n : Nat} {c : Cfg} {out : Out}, adv E S n c = some out → match out with
    | .stop c' => Goto E c c'
    | .done v => ∃ v0 σ, den E c = some (v0, σ, []) ∧ frzV v0 σ = some v
  | 0, c, out, h => by cases h
  | n + 1, c, out, h => by
    simp only [adv] at h
    rcases stepK_spec hS hsy h with ⟨v, v0, σ, rfl, h1⟩ | ⟨c1, h1, h2⟩
    · exact ⟨v0, σ, h1⟩
    · split at h1
      · simp only [Option.some.injEq] at h1; subst h1
        exact h2
      · have := adv_spec hS hsy h1
        cases out with
        | stop c' => exact Goto.trans h2 this
        | done v => obtain ⟨v0, σ, h3, h4⟩ := this; exact ⟨v0, σ, h2 _ h3, h4⟩

/-- A call, to be begun. -/
noncomputable def callC (f : Nat) (args : List AV) (n : Nat) (fn : Func) (body : Code) : Cfg :=
  ⟨.ex ⟨f, [], body⟩ ⟨tmps0 fn.ntmps (.full (dep fn.ntmps)) 0 args, .empty, [], [], args.length + (fn.ntmps - args.length), false⟩, ⟨n, []⟩, [.cal fn.results.toList .top]⟩

theorem callC_spec {f : Nat} {args : List AV} {n : Nat} {fn : Func} {body : Code} {v : AV} {σ : Hp} {Λ : List LF} (hx : E.ext f args = none) (hf : E.fn f = some fn) (hb : fn.body = some body) (h : den E (callC f args n fn body) = some (v, σ, Λ)) :
    callN E (n + 1) f args .empty [] [] = some (v, σ, Λ) := by
  have h0 : callK E ⟨fun _ _ => none, fun _ => true, false, [], false, []⟩ ⟨n + 1, []⟩ f args .empty [] .top [] (fun c => match c.cu with | _ => some (.stop c)) = some (.stop (callC f args n fn body)) := by
    simp only [callK, hx, hf, hb]; rfl
  obtain ⟨c', h1, h2⟩ := callK_spec (fun _ _ _ h => by cases h) h0
  simp only [Option.some.injEq, Out.stop.injEq] at h1; subst h1
  obtain ⟨v', σ', Λ', h3, h4⟩ := h2 _ h
  simp only [contV, Option.some.injEq, Prod.mk.injEq] at h4; obtain ⟨rfl, rfl, rfl⟩ := h4
  exact h3
end
end Go.Eng

/-
  THE ENGINE, 64: places in codes.
-/
namespace Go.Eng
open Go

noncomputable def codeAt (c : Code) : List Nat → Code
  | [] => c
  | i :: p => match c with
    | .seq a b => match i with | 0 => codeAt a p | _ => codeAt b p
    | .cond _ a b => match i with | 0 => codeAt a p | _ => codeAt b p
    | .block _ b => codeAt b p
    | .loop b => codeAt b p
    | .scope b => codeAt b p
    | .rangeFunc _ _ a b => match i with | 0 => codeAt a p | _ => codeAt b p
    | _ => .skip
noncomputable def bodyOf (E : Env) (f : Nat) : Code :=
  match E.fn f with
  | some fn => match fn.body with
    | some b => b
    | none => .skip
  | none => .skip
noncomputable def pcOf (E : Env) (f : Nat) (p : List Nat) : PC := ⟨f, p, codeAt (bodyOf E f) p.reverse⟩
noncomputable def tmOf (nt : Nat) : List (Nat × AV) → Tmps
  | [] => .full (dep nt)
  | (i, v) :: l => (tmOf nt l).set i v
noncomputable def hpOf (n : Nat) : List (Nat × AO) → Hp
  | [] => ⟨.full 22, n⟩
  | (i, o) :: l => ⟨(hpOf n l).t.set i o, n⟩
/-- A call, to be begun. -/
noncomputable def startC (E : Env) (f : Nat) (args : List AV) (n : Nat) : Cfg :=
  match E.fn f with
  | some fn => match fn.body with
    | some b => callC f args n fn b
    | none => ⟨.rt .ret ⟨.lf, .empty, [], [], 0, false⟩, ⟨0, []⟩, []⟩
  | none => ⟨.rt .ret ⟨.lf, .empty, [], [], 0, false⟩, ⟨0, []⟩, []⟩
theorem startC_spec {E : Env} {f : Nat} {args : List AV} {n : Nat} {v : AV} {σ : Hp} {Λ : List LF} (hx : E.ext f args = none) (hf : ∃ fn b, E.fn f = some fn ∧ fn.body = some b) (h : den E (startC E f args n) = some (v, σ, Λ)) : callN E (n + 1) f args .empty [] [] = some (v, σ, Λ) := by
  obtain ⟨fn, b, h1, h2⟩ := hf
  simp only [startC, h1, h2] at h
  exact callC_spec hx h1 h2 h
end Go.Eng

/-
  THE ENGINE, 65: what is said of answers.
-/
namespace Go.Eng
open Go

/-- What stands for the first stands for the second. -/
def Tells (v w : AV) : Prop := ∀ V R, VR V v R → VR V w R
def TellsL (v w : List AV) : Prop := ∀ V R, VRs V v R → VRs V w R
theorem Tells.refl (v : AV) : Tells v v := fun _ _ h => h
theorem Tells.trans {a b c : AV} (h : Tells a b) (k : Tells b c) : Tells a c := fun V R x => k V R (h V R x)
theorem TellsL.refl (v : List AV) : TellsL v v := fun _ _ h => h
theorem TellsL.nil : TellsL [] [] := fun _ _ h => h
theorem TellsL.cons {a b : AV} {l m : List AV} (h : Tells a b) (k : TellsL l m) : TellsL (a :: l) (b :: m) := fun V R x => by
  obtain ⟨X, Xs, rfl, hX, hXs⟩ := x.cons_inv
  exact .cons (h V X hX) (k V Xs hXs)
theorem VRs.splitL {V : View} : ∀ {a c : List AV} {R : List Value}, VRs V (a ++ c) R → ∃ R1 R2, R = R1 ++ R2 ∧ VRs V a R1 ∧ VRs V c R2
  | [], c, R, h => ⟨[], R, rfl, .nil _, h⟩
  | x :: a, c, R, h => by
    obtain ⟨X, Xs, rfl, h1, h2⟩ := VRs.cons_inv (az := a ++ c) h
    obtain ⟨R1, R2, rfl, h3, h4⟩ := VRs.splitL h2
    exact ⟨X :: R1, R2, rfl, .cons h1 h3, h4⟩
theorem VRs.joinL {V : View} : ∀ {a c : List AV} {R1 R2 : List Value}, VRs V a R1 → VRs V c R2 → VRs V (a ++ c) (R1 ++ R2)
  | [], c, R1, R2, h, k => by cases h.nil_inv; exact k
  | x :: a, c, R1, R2, h, k => by
    obtain ⟨X, Xs, rfl, h1, h2⟩ := h.cons_inv
    exact .cons h1 (VRs.joinL h2 k)
theorem TellsL.append {a b c d : List AV} (h : TellsL a b) (k : TellsL c d) : TellsL (a ++ c) (b ++ d) := by
  intro V R hx
  obtain ⟨R1, R2, rfl, h1, h2⟩ := hx.splitL
  exact (h V _ h1).joinL (k V _ h2)
theorem Tells.agg {a b : List AV} (h : TellsL a b) : Tells (.agg a) (.agg b) := fun V R x => by
  obtain ⟨L, rfl, hL⟩ := x.agg_inv
  exact .agg' (h V L hL)
theorem Tells.csl {t : Ty} {l : List t.den} : Tells (.csl (flat t l) l.length) (.vs t false l) := fun V R x => by
  obtain ⟨blk, o, cap, A, f, hk, hv, hc, rfl, ha⟩ := x.csl_inv
  exact .vs t l blk o cap A f hk hv hc ha
theorem Tells.nils {t : Ty} : Tells .nils (.vs t true []) := fun V R x => by cases x; exact .vsn t

/-- From c comes the answer v. -/
def Ans (E : Env) (c : Cfg) (v : AV) : Prop := ∃ v0 σ v1, den E c = some (v0, σ, []) ∧ frzV v0 σ = some v1 ∧ Tells v1 v

section
variable {E : Env} {S : Sy} (hS : S.ok E) (hsy : E.sy = true)
include hS hsy
theorem Ans.stop {n : Nat} {c c' : Cfg} {v : AV} (h : adv E S n c = some (.stop c')) (k : Ans E c' v) : Ans E c v := by
  obtain ⟨v0, σ, v1, k, k2⟩ := k
  exact ⟨v0, σ, v1, adv_spec hS hsy h _ k, k2⟩
theorem Ans.doneT {n : Nat} {c : Cfg} {v1 v : AV} (h : adv E S n c = some (.done v1)) (ht : Tells v1 v) : Ans E c v := by
  obtain ⟨v0, σ, h1, h2⟩ := adv_spec hS hsy h
  exact ⟨v0, σ, v1, h1, h2, ht⟩
theorem Ans.done {n : Nat} {c : Cfg} {v v' : AV} (h : adv E S n c = some (.done v)) (e : v = v') : Ans E c v' := Ans.doneT hS hsy h (e ▸ .refl _)
end

section
variable {P : Program} {E : Env}
theorem frzV_spec {base : Nat} {V : View} {σ : Hp} {W : World} {v v' : AV} {R : Value} (H : HR E base V σ W) (hv : VR V v R) (h : frzV v σ = some v') : ∃ V' σ', Fz E base V σ W V' σ' ∧ VR V'.bare v' R := by
  have main : (∀ l, v ≠ .tup l) → (match frz 5000 v σ with | some r => some r.1 | none => none) = some v' → ∃ V' σ', Fz E base V σ W V' σ' ∧ VR V'.bare v' R := by
    intro _ h
    split at h
    · rename_i r hr
      simp only [Option.some.injEq] at h; subst h
      obtain ⟨V', h1, h2⟩ := (frz_both (E := E) (base := base) (W := W) 5000).1 v r.1 V σ r.2 R H hv hr
      exact ⟨V', _, h1, h2⟩
    · cases h
  unfold frzV at h
  split at h
  · rename_i l
    split at h
    · rename_i r hr
      simp only [Option.some.injEq] at h; subst h
      cases hv with
      | tup _ A ha hav =>
        obtain ⟨V', h1, h2⟩ := (frz_both (E := E) (base := base) (W := W) 5000).2 l r.1 V σ r.2 A H ⟨ha, hav⟩ hr
        exact ⟨V', _, h1, .tup _ _ h2.1 h2.2⟩
    · cases h
  · rename_i hne
    exact main (fun l e => hne l e) h

/-- The same, with what it makes. -/
theorem closed_callH (hc : ∀ n, CallOK P E (callN E n)) {n f : Nat} {args : List AV} {v0 v : AV} {σ : Hp} (h : callN E n f args .empty [] [] = some (v0, σ, [])) (hz : frzV v0 σ = some v) {V : View} {A : List Value} {W : World} (ha : VRs V args A) (hcl : args.all (closedA 9) = true)
    (hK : ∀ b o x, V.K b o = some x → W.cell? ⟨b, o, none⟩ = some x) (hg : GlobK E V) :
    ∃ R W' V', KG V V' W W' ∧ VR V' v R ∧ Fr (fun _ => False) W W' ∧ Goes P f A.toArray W R W' := by
  obtain ⟨V1, O', W', R, hP, hr, _, _, _, hv, hgo⟩ := hc n f args .empty [] [] v0 σ [] h W.heap.size invT (alone V) A (fun _ => False) W invT_ok (fun lvl h e => by cases e) (HR.alone hK hg _) (Nat.le_refl _) (closedA_list hcl ha) (fun _ h => h) (fun _ _ h => h) (fun i x hx => by simp [Eng.alone] at hx)
  obtain ⟨V2, σ2, hf, hv2⟩ := frzV_spec hr hv hz
  have hle : V2.bare.le { V with K := V2.K } := ⟨fun _ _ h => by simp [View.bare] at h, fun _ _ h => by simp [View.bare] at h, fun _ _ _ h => h, fun _ _ _ h => by simp [View.bare] at h⟩
  refine ⟨R, W', { V with K := V2.K }, ⟨rfl, rfl, rfl, fun b o x hx => hf.le.K _ _ _ (hP.le.K _ _ _ hx), fun b o x hx => ?_⟩, hv2.mono hle, hP.fr.weaken (fun b _ hb => hb.elim (no_own b) (fun h => h)), hgo⟩
  have hcell := hf.hr.cell _ _ _ hx
  rcases hf.K b o x hx with h1 | h1
  · rcases hP.K b o x h1 with h | (h | h) | h
    · exact .inl h
    · exact absurd h (no_own b)
    · exact h.elim
    · exact .inr ⟨h, hcell⟩
  · rcases hP.own b h1 with h | h
    · exact absurd h (no_own b)
    · exact .inr ⟨h, hcell⟩

theorem frzV_boolI {v : AV} {σ : Hp} {b : Bool} (h : frzV v σ = some (.bool b)) : v = .bool b := by
  unfold frzV at h
  obtain ⟨n, hn⟩ : ∃ n, (5000 : Nat) = n + 1 := ⟨4999, rfl⟩
  rw [hn] at h
  split at h
  · split at h <;> cases h
  · rename_i hne
    cases v with
    | sl id off len cl sz =>
      simp only [frz] at h
      split at h
      · rename_i r hr
        split at hr
        · split at hr
          · simp only [Option.some.injEq] at hr; subst hr; cases h
          · split at hr
            · simp only [Option.some.injEq] at hr; subst hr; cases h
            · cases hr
        · cases hr
      · cases h
    | agg l =>
      simp only [frz] at h
      split at h
      · rename_i r hr
        split at hr
        · simp only [Option.some.injEq] at hr; subst hr; cases h
        · cases hr
      · cases h
    | ifc t v =>
      simp only [frz] at h
      split at h
      · rename_i r hr
        split at hr
        · simp only [Option.some.injEq] at hr; subst hr; cases h
        · cases hr
      · cases h
    | tup l => exact absurd rfl (hne l)
    | ptr | mp | iter | fn | yld | cp | mv => simp only [frz] at h; cases h
    | _ => simp only [frz, Option.some.injEq] at h; exact h
/-- A call that finds true. -/
theorem adv_true {S : Sy} (hS : S.ok E) (hsy : E.sy = true) {n m f : Nat} {args : List AV} (hx : E.ext f args = none) (hf : ∃ fn b, E.fn f = some fn ∧ fn.body = some b) (h : adv E S n (startC E f args m) = some (.done (.bool true))) : ∃ σ, callN E (m + 1) f args .empty [] [] = some (.bool true, σ, []) := by
  obtain ⟨v0, σ, h1, h2⟩ := adv_spec hS hsy h
  have := frzV_boolI h2
  subst this
  exact ⟨σ, startC_spec hx hf h1⟩
/-- The call of f comes to v. -/
def AnsF (E : Env) (f : Nat) (args : List AV) (v : AV) : Prop := ∃ n v0 σ v1, callN E n f args .empty [] [] = some (v0, σ, []) ∧ frzV v0 σ = some v1 ∧ Tells v1 v
theorem Ans.call {f : Nat} {args : List AV} {n : Nat} {v : AV} (hx : E.ext f args = none) (hf : ∃ fn b, E.fn f = some fn ∧ fn.body = some b) (h : Ans E (startC E f args n) v) : AnsF E f args v := by
  obtain ⟨v0, σ, v1, h1, h2⟩ := h
  exact ⟨n + 1, v0, σ, v1, startC_spec hx hf h1, h2⟩

/-- What is said of f is so. -/
def Con (E : Env) (S : Nat → List AV → Option AV) : Prop := ∀ f args v, S f args = some v → ∃ args', TellsL args args' ∧ args'.all (closedA 9) = true ∧ AnsF E f args' v

theorem ExtOK.sayG (hE : EnvOK P E) (hX : ExtOK P E) (hN : NameOK E) (hmix : P.follows .mixedOrders = true) {S : Nat → List AV → Option AV} (hS : Con E S) : ExtOK P (E.say S) := by
  intro f args v h V A W ha hK hg
  have hc := engine_ok hE hX hN hmix
  simp only [Env.say] at h
  split at h
  · rename_i w hw
    simp only [Option.some.injEq] at h; subst h
    obtain ⟨args', h1, h2, n, v0, σ, v1, h3, h4, h5⟩ := hS f args _ hw
    obtain ⟨R, W', V', k1, k2, k3, k4⟩ := closed_callH hc h3 h4 (h1 V A ha) h2 hK hg
    exact ⟨R, W', V', k1, h5 _ _ k2, k3, k4⟩
  · exact hX f args v h V A W ha hK hg
end

/-- Answers under conditions. -/
noncomputable def under (x : Nat → List AV → Option (Bool × AV)) (f : Nat) (args : List AV) : Option AV :=
  match x f args with
  | some (c, v) => match c with
    | true => some v
    | false => none
  | none => none
theorem under_iff {x : Nat → List AV → Option (Bool × AV)} {f : Nat} {args : List AV} {v : AV} : under x f args = some v ↔ x f args = some (true, v) := by
  unfold under
  split
  · rename_i c w h
    rw [h]
    cases c <;> simp
  · rename_i h; rw [h]; simp

theorem ile_iff {a b : Int} : ile a b = decide (a ≤ b) := ile_eq a b
theorem ieq_iff {a b : Int} : ieq a b = decide (a = b) := by rw [ieq_eq]; rfl
theorem inB_iff {a : Int} {n : Nat} : inB a n = decide (0 ≤ a ∧ a < n) := by
  cases a with
  | ofNat m =>
    simp only [inB]
    by_cases h : m < n
    · rw [Nat.ble_eq_true_of_le h, decide_eq_true]; simp only [Int.ofNat_eq_natCast]; omega
    · rw [decide_eq_false (by simp only [Int.ofNat_eq_natCast]; omega)]
      cases e : Nat.ble (m + 1) n with
      | false => rfl
      | true => exact absurd (Nat.le_of_ble_eq_true e) h
  | negSucc m =>
    simp only [inB]
    rw [decide_eq_false]
    omega
theorem wr_in {n : Int} (h1 : -9223372036854775808 ≤ n) (h2 : n ≤ 9223372036854775807) : wr .i64 n = n := by
  cases n with
  | ofNat m =>
    simp only [wr]
    rw [Nat.ble_eq_true_of_le (by simp only [Int.ofNat_eq_natCast] at h2; omega)]
  | negSucc m =>
    simp only [wr]
    rw [Nat.ble_eq_true_of_le (by omega)]
end Go.Eng

/-
  THE ENGINE, 66: values read as plain data of a type, for what is said of functions.
-/
namespace Go.Eng
open Go

noncomputable def tyCast (T t : Ty) (l : List T.den) : Option (List t.den) := if h : Ty.eqb T t = true then some (Ty.eqb_eq h ▸ l) else none
theorem tyCast_spec {T t : Ty} {l : List T.den} {l' : List t.den} (h : tyCast T t l = some l') : ∃ e : T = t, l' = e ▸ l := by
  unfold tyCast at h
  split at h
  · rename_i e
    simp only [Option.some.injEq] at h
    exact ⟨Ty.eqb_eq e, h.symm⟩
  · cases h

/-! ### Rows, read by a reader of one; whether they can be -/
section
variable {α : Type} (f : List AV → Option (Bool × α × List AV))
noncomputable def unf : Nat → List AV → List α
  | 0, _ => []
  | n + 1, l => match f l with
    | some (_, d, l) => d :: unf n l
    | none => []
noncomputable def isF : Nat → List AV → Bool
  | 0, l => match l with
    | [] => true
    | _ => false
  | n + 1, l => match f l with
    | some (c, _, l) => c && isF n l
    | none => false
end

/-- Cells, read as data of a type, under a condition. -/
noncomputable def rd : (t : Ty) → List AV → Option (Bool × t.den × List AV)
  | .int k, l => match l with
    | .int k' n :: l => match ikb k' k with
      | true => some (true, n, l)
      | false => none
    | _ => none
  | .bool, l => match l with
    | .bool b :: l => some (true, b, l)
    | _ => none
  | .str, l => match l with
    | .str b :: l => some (true, b, l)
    | _ => none
  | .nil, l => some (true, (), l)
  | .cons t ts, l => match rd t l with
    | some (c, a, l) => match rd ts l with
      | some (q, b, l) => some (c && q, (a, b), l)
      | none => none
    | none => none
  | .sl t, l => match l with
    | .vs T nl x :: l => match tyCast T t x with
      | some x => some (true, (nl, x), l)
      | none => none
    | .nils :: l => some (true, (true, []), l)
    | .csl cells n :: l => some (isF (rd t) n cells, (false, unf (rd t) n cells), l)
    | _ => none
theorem TellsL.one {a b : AV} (h : Tells a b) (l : List AV) : TellsL (a :: l) ([b] ++ l) := TellsL.cons h (.refl l)
theorem isF_spec {t : Ty} (ih : ∀ (l r : List AV) (d : t.den), rd t l = some (true, d, r) → TellsL l (t.cells d ++ r)) : ∀ (n : Nat) (l : List AV), isF (rd t) n l = true → TellsL l (flat t (unf (rd t) n l)) ∧ (unf (rd t) n l).length = n
  | 0, l, h => by
    simp only [isF] at h
    split at h
    · exact ⟨.nil, rfl⟩
    · cases h
  | n + 1, l, h => by
    simp only [isF] at h
    split at h
    · rename_i c d r h1
      simp only [Bool.and_eq_true] at h
      obtain ⟨rfl, h2⟩ := h
      obtain ⟨k1, k2⟩ := isF_spec ih n r h2
      have e : unf (rd t) (n + 1) l = d :: unf (rd t) n r := by simp only [unf, h1]
      rw [e]
      refine ⟨fun V R hx => ?_, by simp [k2]⟩
      have := TellsL.append (.refl (t.cells d)) k1 V R (ih _ _ _ h1 V R hx)
      simpa [flat] using this
    · cases h
theorem isF_csl {t : Ty} {n : Nat} {l : List AV} {ds : List t.den} (h1 : TellsL l (flat t ds)) (h2 : ds.length = n) : Tells (.csl l n) (.vs t false ds) := by
  subst h2
  intro V R hx
  obtain ⟨blk, o, cap, A, f, hk, hv, hc, rfl, ha⟩ := hx.csl_inv
  have hV : VRs V.bare l ((List.range l.length).map f) := ⟨by simp, fun i h h' => by simp only [List.getElem_map, List.getElem_range]; exact hv i h⟩
  have hW := h1 _ _ hV
  have hlen : (flat t ds).length = l.length := by rw [hW.1]; simp
  refine .vs t ds blk o cap A f (fun i hi => hk i (by omega)) (fun i hi => ?_) hc ha
  have := hW.2 i hi (by simp; omega)
  simpa using this
theorem rd_spec : ∀ (t : Ty) (l r : List AV) (d : t.den), rd t l = some (true, d, r) → TellsL l (t.cells d ++ r)
  | .int k, l, r, d, h => by
    simp only [rd] at h
    split at h
    · split at h
      · rename_i hk
        simp only [Option.some.injEq, Prod.mk.injEq] at h; obtain ⟨_, rfl, rfl⟩ := h
        have := ikb_eq hk; subst this
        exact .refl _
      · cases h
    · cases h
  | .bool, l, r, d, h => by
    simp only [rd] at h
    split at h
    · simp only [Option.some.injEq, Prod.mk.injEq] at h; obtain ⟨_, rfl, rfl⟩ := h
      exact .refl _
    · cases h
  | .str, l, r, d, h => by
    simp only [rd] at h
    split at h
    · simp only [Option.some.injEq, Prod.mk.injEq] at h; obtain ⟨_, rfl, rfl⟩ := h
      exact .refl _
    · cases h
  | .nil, l, r, d, h => by
    simp only [rd, Option.some.injEq, Prod.mk.injEq] at h; obtain ⟨_, _, rfl⟩ := h
    exact .refl _
  | .cons t ts, l, r, d, h => by
    simp only [rd] at h
    split at h
    · rename_i c a l1 h1
      split at h
      · rename_i q b l2 h2
        simp only [Option.some.injEq, Prod.mk.injEq, Bool.and_eq_true] at h; obtain ⟨⟨rfl, rfl⟩, rfl, rfl⟩ := h
        have k1 := rd_spec t _ _ _ h1
        have k2 := rd_spec ts _ _ _ h2
        intro V R hx
        have := TellsL.append (.refl (t.cells a)) k2 V R (k1 V R hx)
        simpa [Ty.cells, List.append_assoc] using this
      · cases h
    · cases h
  | .sl t, l, r, d, h => by
    simp only [rd] at h
    split at h
    · split at h
      · rename_i hc
        simp only [Option.some.injEq, Prod.mk.injEq] at h; obtain ⟨_, rfl, rfl⟩ := h
        obtain ⟨e, rfl⟩ := tyCast_spec hc
        subst e
        exact .refl _
      · cases h
    · simp only [Option.some.injEq, Prod.mk.injEq] at h; obtain ⟨_, rfl, rfl⟩ := h
      exact .one .nils _
    · simp only [Option.some.injEq, Prod.mk.injEq] at h; obtain ⟨hc, rfl, rfl⟩ := h
      obtain ⟨k1, k2⟩ := isF_spec (fun l r d => rd_spec t l r d) _ _ hc
      exact .one (isF_csl k1 k2) _
    · cases h

theorem ikb_self (k : IntKind) : ikb k k = true := by cases k <;> rfl
theorem tyCast_self {t : Ty} (l : List t.den) : tyCast t t l = some l := by
  unfold tyCast
  rw [dif_pos (Ty.eqb_self t)]
theorem rd_cells : ∀ (t : Ty) (d : t.den) (r : List AV), rd t (t.cells d ++ r) = some (true, d, r)
  | .int k, d, r => by simp [rd, Ty.cells, ikb_self]
  | .bool, d, r => by simp [rd, Ty.cells]
  | .str, d, r => by simp [rd, Ty.cells]
  | .nil, d, r => by simp [rd, Ty.cells]
  | .cons t ts, d, r => by simp [rd, Ty.cells, List.append_assoc, rd_cells t, rd_cells ts]
  | .sl t, d, r => by simp [rd, Ty.cells, tyCast_self]
theorem unf_flat {t : Ty} : ∀ (l : List t.den) (n : Nat), n = l.length → isF (rd t) n (flat t l) = true ∧ unf (rd t) n (flat t l) = l
  | [], n, h => by subst h; exact ⟨rfl, rfl⟩
  | d :: l, n, h => by
    subst h
    obtain ⟨h1, h2⟩ := unf_flat l l.length rfl
    have e : flat t (d :: l) = t.cells d ++ flat t l := rfl
    exact ⟨by simp only [List.length_cons, isF, e, rd_cells, h1, Bool.and_self], by simp only [List.length_cons, unf, e, rd_cells, h2]⟩

/-- A value, read as data of a type, under a condition. -/
noncomputable def rdA (t : Ty) (a : AV) : Option (Bool × t.den) :=
  match t with
  | .nil => match a with
    | .agg l => match rd .nil l with
      | some (c, d, []) => some (c, d)
      | _ => none
    | _ => none
  | .cons x y => match a with
    | .agg l => match rd (.cons x y) l with
      | some (c, d, []) => some (c, d)
      | _ => none
    | _ => none
  | t => match rd t [a] with
    | some (c, d, []) => some (c, d)
    | _ => none
theorem TellsL.head {a b : AV} (h : TellsL [a] [b]) : Tells a b := fun V R x => by
  have h1 := h V [R] (.cons x (.nil _))
  obtain ⟨X, Xs, e, hX, _⟩ := h1.cons_inv
  simp only [List.cons.injEq] at e
  rw [e.1]; exact hX
theorem rdA_spec : ∀ (t : Ty) {a : AV} {d : t.den}, rdA t a = some (true, d) → Tells a (t.av d)
  | .nil, a, d, h => by
    simp only [rdA] at h
    split at h
    · split at h
      · rename_i h1
        simp only [Option.some.injEq, Prod.mk.injEq] at h; obtain ⟨rfl, _⟩ := h
        have := rd_spec .nil _ _ _ h1
        exact .agg (by simpa [Ty.cells] using this)
      · cases h
    · cases h
  | .cons x y, a, d, h => by
    simp only [rdA] at h
    split at h
    · split at h
      · rename_i h1
        simp only [Option.some.injEq, Prod.mk.injEq] at h; obtain ⟨rfl, rfl⟩ := h
        have := rd_spec (.cons x y) _ _ _ h1
        exact .agg (by simpa [Ty.cells] using this)
      · cases h
    · cases h
  | .sl t, a, d, h => by
    simp only [rdA] at h
    split at h
    · rename_i h1
      simp only [Option.some.injEq, Prod.mk.injEq] at h; obtain ⟨rfl, rfl⟩ := h
      exact TellsL.head (by simpa [Ty.cells, Ty.av] using rd_spec (.sl t) _ _ _ h1)
    · cases h
  | .int k, a, d, h => by
    simp only [rdA] at h
    split at h
    · rename_i h1
      simp only [Option.some.injEq, Prod.mk.injEq] at h; obtain ⟨rfl, rfl⟩ := h
      exact TellsL.head (by simpa [Ty.cells, Ty.av] using rd_spec (.int k) _ _ _ h1)
    · cases h
  | .bool, a, d, h => by
    simp only [rdA] at h
    split at h
    · rename_i h1
      simp only [Option.some.injEq, Prod.mk.injEq] at h; obtain ⟨rfl, rfl⟩ := h
      exact TellsL.head (by simpa [Ty.cells, Ty.av] using rd_spec .bool _ _ _ h1)
    · cases h
  | .str, a, d, h => by
    simp only [rdA] at h
    split at h
    · rename_i h1
      simp only [Option.some.injEq, Prod.mk.injEq] at h; obtain ⟨rfl, rfl⟩ := h
      exact TellsL.head (by simpa [Ty.cells, Ty.av] using rd_spec .str _ _ _ h1)
    · cases h

theorem cells_closed : ∀ (t : Ty) (d : t.den) (n : Nat), (t.cells d).all (closedA (n + 1)) = true
  | .int _, _, _ => rfl
  | .bool, _, _ => rfl
  | .str, _, _ => rfl
  | .nil, _, _ => rfl
  | .cons t ts, d, n => by simp only [Ty.cells, List.all_append, cells_closed t d.1 n, cells_closed ts d.2 n, Bool.and_self]
  | .sl _, _, _ => rfl
theorem av_closed (t : Ty) (d : t.den) (n : Nat) : closedA (n + 2) (t.av d) = true := by
  cases t with
  | nil => rfl
  | cons t ts =>
    have := cells_closed (.cons t ts) d n
    simp only [Ty.cells] at this
    simp only [Ty.av]
    exact this
  | _ => rfl

/-! ### What is said of functions of so many arguments -/

noncomputable def con1 (t : Ty) (c : t.den → Bool) (v : t.den → AV) (args : List AV) : Option (Bool × AV) :=
  match args with
  | [a] => match rdA t a with
    | some (c1, x) => some (c1 && c x, v x)
    | _ => none
  | _ => none
noncomputable def con2 (t u : Ty) (c : t.den → u.den → Bool) (v : t.den → u.den → AV) (args : List AV) : Option (Bool × AV) :=
  match args with
  | [a, b] => match rdA t a, rdA u b with
    | some (c1, x), some (c2, y) => some (c1 && (c2 && c x y), v x y)
    | _, _ => none
  | _ => none
noncomputable def con3 (t u w : Ty) (c : t.den → u.den → w.den → Bool) (v : t.den → u.den → w.den → AV) (args : List AV) : Option (Bool × AV) :=
  match args with
  | [a, b, d] => match rdA t a, rdA u b, rdA w d with
    | some (c1, x), some (c2, y), some (c3, z) => some (c1 && (c2 && (c3 && c x y z)), v x y z)
    | _, _, _ => none
  | _ => none
noncomputable def con4 (t u w s : Ty) (c : t.den → u.den → w.den → s.den → Bool) (v : t.den → u.den → w.den → s.den → AV) (args : List AV) : Option (Bool × AV) :=
  match args with
  | [a, b, d, e] => match rdA t a, rdA u b, rdA w d, rdA s e with
    | some (c1, x), some (c2, y), some (c3, z), some (c4, q) => some (c1 && (c2 && (c3 && (c4 && c x y z q))), v x y z q)
    | _, _, _, _ => none
  | _ => none
theorem con1_spec {E : Env} {f : Nat} {t : Ty} {c : t.den → Bool} {v : t.den → AV} (h : ∀ x, c x = true → AnsF E f [t.av x] (v x)) {args : List AV} {r : AV} (hc : con1 t c v args = some (true, r)) : ∃ args', TellsL args args' ∧ args'.all (closedA 9) = true ∧ AnsF E f args' r := by
  unfold con1 at hc
  split at hc
  · split at hc
    · rename_i c1 x hx
      simp only [Option.some.injEq, Prod.mk.injEq, Bool.and_eq_true] at hc; obtain ⟨⟨rfl, h1⟩, rfl⟩ := hc
      exact ⟨_, .cons (rdA_spec _ hx) .nil, by simp [av_closed], h x h1⟩
    · cases hc
  · cases hc
theorem con2_spec {E : Env} {f : Nat} {t u : Ty} {c : t.den → u.den → Bool} {v : t.den → u.den → AV} (h : ∀ x y, c x y = true → AnsF E f [t.av x, u.av y] (v x y)) {args : List AV} {r : AV} (hc : con2 t u c v args = some (true, r)) : ∃ args', TellsL args args' ∧ args'.all (closedA 9) = true ∧ AnsF E f args' r := by
  unfold con2 at hc
  split at hc
  · split at hc
    · rename_i c1 x c2 y hx hy
      simp only [Option.some.injEq, Prod.mk.injEq, Bool.and_eq_true] at hc; obtain ⟨⟨rfl, rfl, h1⟩, rfl⟩ := hc
      exact ⟨_, .cons (rdA_spec _ hx) (.cons (rdA_spec _ hy) .nil), by simp [av_closed], h x y h1⟩
    · cases hc
  · cases hc
theorem con3_spec {E : Env} {f : Nat} {t u w : Ty} {c : t.den → u.den → w.den → Bool} {v : t.den → u.den → w.den → AV} (h : ∀ x y z, c x y z = true → AnsF E f [t.av x, u.av y, w.av z] (v x y z)) {args : List AV} {r : AV} (hc : con3 t u w c v args = some (true, r)) : ∃ args', TellsL args args' ∧ args'.all (closedA 9) = true ∧ AnsF E f args' r := by
  unfold con3 at hc
  split at hc
  · split at hc
    · rename_i c1 x c2 y c3 z hx hy hz
      simp only [Option.some.injEq, Prod.mk.injEq, Bool.and_eq_true] at hc; obtain ⟨⟨rfl, rfl, rfl, h1⟩, rfl⟩ := hc
      exact ⟨_, .cons (rdA_spec _ hx) (.cons (rdA_spec _ hy) (.cons (rdA_spec _ hz) .nil)), by simp [av_closed], h x y z h1⟩
    · cases hc
  · cases hc
theorem con4_spec {E : Env} {f : Nat} {t u w s : Ty} {c : t.den → u.den → w.den → s.den → Bool} {v : t.den → u.den → w.den → s.den → AV} (h : ∀ x y z q, c x y z q = true → AnsF E f [t.av x, u.av y, w.av z, s.av q] (v x y z q)) {args : List AV} {r : AV} (hc : con4 t u w s c v args = some (true, r)) : ∃ args', TellsL args args' ∧ args'.all (closedA 9) = true ∧ AnsF E f args' r := by
  unfold con4 at hc
  split at hc
  · split at hc
    · rename_i c1 x c2 y c3 z c4 q hx hy hz hq
      simp only [Option.some.injEq, Prod.mk.injEq, Bool.and_eq_true] at hc; obtain ⟨⟨rfl, rfl, rfl, rfl, h1⟩, rfl⟩ := hc
      exact ⟨_, .cons (rdA_spec _ hx) (.cons (rdA_spec _ hy) (.cons (rdA_spec _ hz) (.cons (rdA_spec _ hq) .nil))), by simp [av_closed], h x y z q h1⟩
    · cases hc
  · cases hc
end Go.Eng

/-
  THE ENGINE, 67: small things for what is said of loops.
-/
namespace Go.Eng
open Go

theorem ieq_self (a : Int) : ieq a a = true := by rw [ieq_iff]; simp
theorem lbeq_self (a : List Nat) : lbeq a a = true := by rw [lbeq_eq]; simp
theorem lbeq_iff {a b : List Nat} : lbeq a b = decide (a = b) := by rw [lbeq_eq]; by_cases h : a = b <;> simp [h]
theorem getD_at {α : Type} {l : List α} {k : Nat} {d : α} (h : k < l.length) : l.getD (k : Int).toNat d = l[k] := by simp [h]
theorem inB_at {k n : Nat} (h : k < n) : inB (k : Int) n = true := by rw [inB_iff]; simp; omega
theorem ile_lt {k n : Nat} (h : k < n) : ile (n : Int) (k : Int) = false := by rw [ile_iff]; simp; omega
theorem ile_ge {k n : Nat} (h : n ≤ k) : ile (n : Int) (k : Int) = true := by rw [ile_iff]; simp; omega
theorem wr_succ {k : Nat} (h : k < 1048577) : wr .i64 ((k : Int) + 1) = ((k + 1 : Nat) : Int) := by rw [wr_in (by omega) (by omega)]; rfl
theorem wr_pred {k : Nat} (h : k < 1048577) : wr .i64 ((k + 1 : Nat) - 1 : Int) = (k : Int) := by rw [wr_in (by omega) (by omega)]; omega
theorem decN_big {s : List Nat} {i : Nat} (hi : i < s.length) (h : 127 < s.getD i 0) : 128 ≤ (decN s i).1 := by
  unfold decN
  split
  · rename_i hall
    have hb : ∀ (b : ByteArray) (j : Nat), 128 ≤ (b.get! (j + 0)).toNat → 128 ≤ (Utf8.decode b j).1 := by
      intro b j hj
      unfold Utf8.decode
      simp only
      have : ¬ (b.get! (j + 0)).toNat < 0x80 := by omega
      simp only [this, if_false]
      repeat' split
      all_goals (try simp only [Bool.and_eq_true, decide_eq_true_eq, ge_iff_le] at *)
      all_goals (first | omega | (simp only [Utf8.runeError]; omega))
    apply hb
    have hs : s[i] < 256 := by
      have := List.all_eq_true.1 hall s[i] (List.getElem_mem hi)
      have := Nat.le_of_ble_eq_true this
      omega
    have e : (ByteArray.mk (s.map Nat.toUInt8).toArray).get! (i + 0) = (s[i]).toUInt8 := by
      simp [ByteArray.get!, hi]
    rw [e]
    have : (s[i]).toUInt8.toNat = s[i] := by simp [Nat.toUInt8]; omega
    rw [this]
    have e2 : s.getD i 0 = s[i] := by simp [hi]
    omega
  · decide
theorem ite_b {α : Type} {c : Bool} {a b : α} : (bif c then a else b) = if c = true then a else b := by cases c <;> rfl
section
variable {E : Env} {S : Sy} (hS : S.ok E) (hsy : E.sy = true)
include hS hsy
theorem Ans.doneB {n : Nat} {c : Cfg} {b b' : Bool} (h : adv E S n c = some (.done (.bool b))) (e : b = b') : Ans E c (.bool b') := e ▸ Ans.done hS hsy h rfl
theorem Ans.doneI {n : Nat} {c : Cfg} {k : IntKind} {b b' : Int} (h : adv E S n c = some (.done (.int k b))) (e : b = b') : Ans E c (.int k b') := e ▸ Ans.done hS hsy h rfl
theorem Ans.stopE {n : Nat} {c c' : Cfg} {v v' : AV} (h : adv E S n c = some (.stop c')) (k : Ans E c' v) (e : v = v') : Ans E c v' := e ▸ Ans.stop hS hsy h k
end
end Go.Eng

