/-
  THE ENGINE, 53: the same, made for the kernel: small bodies, no state within states.
-/
import Derived.Test.YtmmadmbikpfkbaaPart02
import Derived.Test.YtmmadmbikpfkbaaChecked
import Derived.ProofKit
set_option linter.unusedSectionVars false
set_option linter.unusedSimpArgs false
set_option linter.unusedVariables false
namespace Go.Eng
open Go

/-! ### Operations -/

noncomputable def litF (v : Value) : Option AV :=
  match v with
  | .int k i => some (.int k i)
  | .bool b => some (.bool b)
  | v => lit 3 v
noncomputable def evF (τ : Tmps) (x : Operand) : Option AV :=
  Operand.rec (motive := fun _ => Option AV) (fun t => τ.get t) (fun v => litF v) (fun g => some (.gp g 0)) (fun f => some (.fn f [] [])) x
theorem evF_eq (τ : Tmps) (x : Operand) : evF τ x = ev τ x := by
  cases x with
  | const v => cases v <;> rfl
  | _ => rfl

noncomputable def p_move (τ : Tmps) (σ : Hp) (x : Operand) : Option Res :=
  (evF τ x).map (.val · σ)
noncomputable def p_pick (τ : Tmps) (σ : Hp) (c : Operand) (a : Operand) (b : Operand) : Option Res :=
  match evF τ c with
    | some (.bool true) => (evF τ a).map (.val · σ)
    | some (.bool false) => (evF τ b).map (.val · σ)
    | _ => none
noncomputable def p_alloc (E : Env) (σ : Hp) (t : TypeId) : Option Res :=
  match E.zero t with
    | some z => some (.val (.ptr σ.n 0) (σ.push (.cells false z.cells)))
    | none => none
noncomputable def p_box (τ : Tmps) (σ : Hp) (x : Operand) : Option Res :=
  match evF τ x with
    | some z => some (.val (.ptr σ.n 0) (σ.push (.cells false z.cells)))
    | none => none
noncomputable def p_build (E : Env) (τ : Tmps) (σ : Hp) (t : TypeId) (ps : Array (Nat × Operand)) : Option Res :=
  match E.zero t, evParts τ ps.toList with
    | some z, some parts => match E.ty t with
      | some (.struct fs) => (fill (fieldPlace E fs) z.cells parts).map fun cs => .val (.agg cs) σ
      | some (.arr _ e) => (fill (fun i => some (i * E.size e, E.size e)) z.cells parts).map fun cs => .val (.agg cs) σ
      | _ => none
    | _, _ => none
noncomputable def p_buildSlice (E : Env) (τ : Tmps) (σ : Hp) (t : TypeId) (len : Nat) (ps : Array (Nat × Operand)) : Option Res :=
  match E.ty t, evParts τ ps.toList with
    | some (.slice e), some parts => match E.zero e, Nat.ble (len * E.size e) 65536 with
      | some z, true => (fill (fun i => some (i * E.size e, E.size e)) (repl len z.cells) parts).map fun cs => .val (.sl σ.n 0 len len (E.size e)) (σ.push (.cells false cs))
      | _, _ => none
    | _, _ => none
noncomputable def p_load (E : Env) (τ : Tmps) (σ : Hp) (t : TypeId) (a : Operand) : Option Res :=
  match evF τ a with
    | some a => (loadV E σ t a).map (.val · σ)
    | none => none
noncomputable def p_store (E : Env) (τ : Tmps) (σ : Hp) (t : TypeId) (a : Operand) (x : Operand) : Option Res :=
  match evF τ a, evF τ x with
    | some a, some x => (storeV E σ t a x).map .skip
    | _, _ => none
noncomputable def p_nilCheck (E : Env) (τ : Tmps) (σ : Hp) (x : Operand) : Option Res :=
  match evF τ x with
    | some (.ptr id off) => some (.val (.ptr id off) σ)
    | some (.gp g off) => some (.val (.gp g off) σ)
    | some (.cp l off) => some (.val (.cp l off) σ)
    | some (.fn f a b) => some (.val (.fn f a b) σ)
    | some (.ifc t v) => some (.val (.ifc t v) σ)
    | some (.mv t v n) => match E.meth t n with
      | some _ => some (.val (.mv t v n) σ)
      | none => none
    | _ => none
noncomputable def p_binOp (E : Env) (τ : Tmps) (σ : Hp) (b : BinOp) (t : TypeId) (x : Operand) (y : Operand) : Option Res :=
  match evF τ x, evF τ y with
    | some v, some w => (binop E b t v w (isConst x || isConst y)).map (.val · σ)
    | _, _ => none
noncomputable def p_unOp (τ : Tmps) (σ : Hp) (u : UnOp) (x : Operand) : Option Res :=
  match evF τ x with
    | some x => (unop u x).map (.val · σ)
    | none => none
noncomputable def p_convert (E : Env) (τ : Tmps) (σ : Hp) (s : TypeId) (d : TypeId) (x : Operand) : Option Res :=
  match evF τ x with
    | some x => (convV E σ s d x).map fun r => .val r.1 r.2
    | none => none
noncomputable def p_makeInterface (E : Env) (τ : Tmps) (σ : Hp) (t : TypeId) (x : Operand) : Option Res :=
  match E.ty t, evF τ x with
    | some (.ifc _), _ => none
    | some _, some x => some (.val (.ifc t x) σ)
    | _, _ => none
noncomputable def p_makeFunc (τ : Tmps) (σ : Hp) (fn : Fn) (first captured : Array Operand) : Option Res :=
  match fn with
  | .func f => match evs τ first.toList, evs τ captured.toList with
    | some a, some b => some (.val (.fn f a b) σ)
    | _, _ => none
  | .method n => match evs τ first.toList, evs τ captured.toList with
    | some [.ifc t v], some [] => some (.val (.mv t v n) σ)
    | _, _ => none
  | _ => none
noncomputable def p_makeMap (E : Env) (σ : Hp) (t : TypeId) (r : Option Operand) : Option Res :=
  match r with
  | none => match E.ty t with
    | some (.map _ _) => some (.val (.mp σ.n) (σ.push (.map [])))
    | _ => none
  | _ => none
noncomputable def p_makeSlice (E : Env) (τ : Tmps) (σ : Hp) (t : TypeId) (l : Operand) (c : Operand) : Option Res :=
  match E.ty t, evF τ l, evF τ c with
    | some (.slice e), some (.int .i64 (.ofNat n)), some (.int .i64 (.ofNat m)) => match Nat.ble n m, Nat.ble m 65536 && Nat.ble (E.bytes e) 65536, E.zero e with
      | true, true, some z => some (.val (.sl σ.n 0 n m (E.size e)) (σ.push (.cells false (repl n z.cells))))
      | _, _, _ => none
    | _, _, _ => none
noncomputable def p_slice (E : Env) (τ : Tmps) (σ : Hp) (t : TypeId) (x : Operand) (lo hi mx : Option Operand) : Option Res :=
  match mx with
  | none => match ev τ x, optA τ lo, optA τ hi with
    | some x, some lo, some hi => (sliceV E σ t x lo hi).map (.val · σ)
    | _, _, _ => none
  | some mx => match hi with
    | none => none
    | some hi => match ev τ x, optA τ lo, ev τ hi, ev τ mx with
      | some x, some lo, some hi, some mx => (slice3V E t x lo (some hi) (some mx)).map (.val · σ)
      | _, _, _, _ => none
noncomputable def p_fieldAddr (E : Env) (τ : Tmps) (σ : Hp) (t : TypeId) (x : Operand) (i : Nat) : Option Res :=
  match E.ty t with
    | some (.struct fs) => match fs[i]?, evF τ x with
      | some f, some x => match Nat.beq (E.size f.type) 0, x with
        | false, .ptr id off => some (.val (.ptr id (off + f.off)) σ)
        | false, .gp g off => some (.val (.gp g (off + f.off)) σ)
        | false, .cp l off => some (.val (.cp l (off + f.off)) σ)
        | _, _ => none
      | _, _ => none
    | _ => none
noncomputable def p_field (E : Env) (τ : Tmps) (σ : Hp) (t : TypeId) (x : Operand) (i : Nat) : Option Res :=
  match E.ty t, evF τ x with
    | some (.struct fs), some (.agg cs) => match fs[i]? with
      | some f => (part E f.type cs f.off).map (.val · σ)
      | none => none
    | _, _ => none
noncomputable def p_indexAddr (E : Env) (τ : Tmps) (σ : Hp) (t : TypeId) (x : Operand) (i : Operand) : Option Res :=
  match E.ty t, evF τ x, evF τ i with
    | some (.slice e), some (.sl id off len _ _), some (.int _ j) => (idx j len).map fun j => .val (.ptr id (off + j * E.size e)) σ
    | some (.slice e), some (.csl cells len), some (.int _ j) => (idx j len).map fun j => .val (.cp cells (j * E.size e)) σ
    | some (.slice e), some (.vs t _ l), some (.int _ j) => match inB j l.length, Nat.beq t.size (E.size e) with
      | true, true => some (.val (.cp (t.cells (l.getD j.toNat t.dflt)) 0) σ)
      | _, _ => none
    | some (.arr len e), some (.ptr id off), some (.int _ j) => (idx j len).map fun j => .val (.ptr id (off + j * E.size e)) σ
    | some (.arr len e), some (.gp g off), some (.int _ j) => (idx j len).map fun j => .val (.gp g (off + j * E.size e)) σ
    | _, _, _ => none
noncomputable def p_index (E : Env) (τ : Tmps) (σ : Hp) (t : TypeId) (x : Operand) (i : Operand) : Option Res :=
  match E.ty t, evF τ x, evF τ i with
    | some (.arr len e), some (.agg cs), some (.int _ j) => match idx j len with
      | some j => (part E e cs (j * E.size e)).map (.val · σ)
      | none => none
    | some .str, some (.str s), some (.int _ (.ofNat j)) => (s[j]?).map fun b => .val (.int .u8 (Int.ofNat b)) σ
    | _, _, _ => none
noncomputable def p_lookup (E : Env) (τ : Tmps) (σ : Hp) (t : TypeId) (x : Operand) (k : Operand) (ok : Bool) : Option Res :=
  match E.ty t, evF τ x, evF τ k, keyT E t with
    | some (.map _ e), some m, some k, some kt =>
      match (match m with | .nilm => some [] | .mp id => (match σ.get id with | some (.map es) => some es | _ => none) | _ => none), E.zero e with
      | some es, some z => match findK E kt k es with
        | some (some (_, y)) => some (.val (match ok with | true => .tup [y, .bool true] | false => y) σ)
        | some none => some (.val (match ok with | true => .tup [z, .bool false] | false => z) σ)
        | none => none
      | _, _ => none
    | _, _, _, _ => none
noncomputable def p_upd (E : Env) (τ : Tmps) (σ : Hp) (t : TypeId) (m : Operand) (k : Operand) (x : Operand) : Option Res :=
  match evF τ m, evF τ k, evF τ x, keyT E t with
    | some (.mp id), some k, some x, some kt => match σ.get id with
      | some (.map es) => (mapSet E kt es k x).map fun es => .skip (σ.set id (.map es))
      | _ => none
    | _, _, _, _ => none
noncomputable def p_range (E : Env) (τ : Tmps) (σ : Hp) (t : TypeId) (x : Operand) : Option Res :=
  match E.ty t, evF τ x with
    | some .str, some (.str s) => some (.val (.iter σ.n) (σ.push (.siter s 0)))
    | _, _ => none
noncomputable def p_next (τ : Tmps) (σ : Hp) (x : Operand) (s : Bool) : Option Res :=
  match s with
  | true => match ev τ x with
    | some (.iter id) => match σ.get id with
      | some (.siter s pos) => match s[pos]? with
        | some b => match Nat.ble b 127 with
          | true => some (.val (.tup [.bool true, .int .i64 pos, .int .i32 (Int.ofNat b)]) (σ.set id (.siter s (pos + 1))))
          | false => some (.val (.tup [.bool true, .int .i64 pos, .int .i32 (Int.ofNat (decN s pos).1)]) (σ.set id (.siter s (pos + (decN s pos).2))))
        | none => some (.val (.tup [.bool false]) σ)
      | _ => none
    | _ => none
  | false => none
noncomputable def p_typeAssert (E : Env) (τ : Tmps) (σ : Hp) (x : Operand) (a : TypeId) (ok : Bool) : Option Res :=
  match E.ty a, evF τ x with
    | some (.ifc _), _ => none
    | some _, some .nili => match ok, E.zero a with
      | true, some z => some (.val (.tup [z, .bool false]) σ)
      | _, _ => none
    | some _, some (.ifc t y) => match Nat.beq t a with
      | true => some (.val (match ok with | true => .tup [y, .bool true] | false => y) σ)
      | false => match ok, E.zero a with
        | true, some z => some (.val (.tup [z, .bool false]) σ)
        | _, _ => none
    | _, _ => none
noncomputable def p_extract (τ : Tmps) (σ : Hp) (x : Operand) (i : Nat) : Option Res :=
  match evF τ x with
    | some (.tup l) => (l[i]?).map (.val · σ)
    | _ => none
noncomputable def p_defer (E : Env) (τ : Tmps) (σ : Hp) (c : Call) : Option Res :=
  match isInv c, callV E τ σ c with
    | false, some (.call f args) => some (.dfr f args)
    | _, _ => none
noncomputable def opF (E : Env) (τ : Tmps) (σ : Hp) (o : Op) : Option Res :=
  Op.rec (motive := fun _ => Option Res) (fun x => p_move τ σ x) (fun x => p_move τ σ x) (fun c a b => p_pick τ σ c a b) (fun t => p_alloc E σ t) (fun _ x => p_box τ σ x) (fun t ps => p_build E τ σ t ps) (fun t len ps => p_buildSlice E τ σ t len ps) (fun t m k x => p_upd E τ σ t m k x) (fun t a => p_load E τ σ t a) (fun t a x => p_store E τ σ t a x) (fun _ => none) (fun _ => none) (fun x => p_nilCheck E τ σ x) (fun b t x y _ => p_binOp E τ σ b t x y) (fun u _ x => p_unOp τ σ u x) (fun s d x => p_convert E τ σ s d x) (fun _ _ => none) (fun t x => p_makeInterface E τ σ t x) (fun f a b => p_makeFunc τ σ f a b) (fun t r => p_makeMap E σ t r) (fun _ _ => none) (fun t l c => p_makeSlice E τ σ t l c) (fun t x a b c => p_slice E τ σ t x a b c) (fun t x i => p_fieldAddr E τ σ t x i) (fun t x i => p_field E τ σ t x i) (fun t x i => p_indexAddr E τ σ t x i) (fun t x i => p_index E τ σ t x i) (fun t x k ok => p_lookup E τ σ t x k ok) (fun t m k x => p_upd E τ σ t m k x) (fun _ _ _ => none) (fun _ _ _ _ => none) (fun t x => p_range E τ σ t x) (fun x s => p_next τ σ x s) (fun _ => none) (fun x _ a ok => p_typeAssert E τ σ x a ok) (fun x i => p_extract τ σ x i) (fun c => callV E τ σ c) (fun _ => none) (fun c => p_defer E τ σ c) (fun _ => none) (fun _ _ => none) (fun _ _ _ => none) (fun _ _ => none) o

theorem opF_eq (E : Env) (τ : Tmps) (σ : Hp) (o : Op) : opF E τ σ o = op E τ σ o := by
  cases o with
  | makeFunc f a b => cases f <;> rfl
  | makeMap t r => cases r <;> rfl
  | slice t x a b c => cases c with
    | none => rfl
    | some y => cases b <;> rfl
  | next x s => cases s <;> simp only [opF, p_next, op, evF_eq] <;> rfl
  | extract x i => simp only [opF, p_extract, op, evF_eq] <;> rfl
  | typeAssert x u a ok => simp only [opF, p_typeAssert, op, evF_eq] <;> rfl
  | range t x => simp only [opF, p_range, op, evF_eq] <;> rfl
  | mapUpdate t m k x => simp only [opF, p_upd, op, evF_eq] <;> rfl
  | insert t m k x => simp only [opF, p_upd, op, evF_eq] <;> rfl
  | lookup t x k ok => simp only [opF, p_lookup, op, evF_eq] <;> rfl
  | index t x i => simp only [opF, p_index, op, evF_eq] <;> rfl
  | indexAddr t x i => simp only [opF, p_indexAddr, op, evF_eq] <;> rfl
  | field t x i => simp only [opF, p_field, op, evF_eq] <;> rfl
  | fieldAddr t x i => simp only [opF, p_fieldAddr, op, evF_eq] <;> rfl
  | makeSlice t l c => simp only [opF, p_makeSlice, op, evF_eq] <;> rfl
  | makeInterface t x => simp only [opF, p_makeInterface, op, evF_eq] <;> rfl
  | convert s d x => simp only [opF, p_convert, op, evF_eq] <;> rfl
  | unOp u t x => simp only [opF, p_unOp, op, evF_eq] <;> rfl
  | binOp b t x y u => simp only [opF, p_binOp, op, evF_eq] <;> rfl
  | nilCheck x => simp only [opF, p_nilCheck, op, evF_eq] <;> rfl
  | store t a x => simp only [opF, p_store, op, evF_eq] <;> rfl
  | load t a => simp only [opF, p_load, op, evF_eq] <;> rfl
  | box t x => simp only [opF, p_box, op, evF_eq] <;> rfl
  | pick c a b => simp only [opF, p_pick, op, evF_eq] <;> rfl
  | move x => simp only [opF, p_move, op, evF_eq] <;> rfl
  | assign x => simp only [opF, p_move, op, evF_eq] <;> rfl
  | _ => rfl

/-! ### Calls -/

/-- Without slices to be frozen. -/
noncomputable def flatL (g : AV → Bool) (l : List AV) : Bool := List.rec true (fun v _ r => Bool.rec false r (g v)) l
noncomputable def flatV (n : Nat) : AV → Bool := Nat.rec (fun _ => false) (fun _ ih v => match v with
  | .sl _ _ _ _ _ => false
  | .agg l => flatL ih l
  | _ => true) n

theorem flatL_cons {g : AV → Bool} {v : AV} {l : List AV} : flatL g (v :: l) = true ↔ g v = true ∧ flatL g l = true := by
  show Bool.rec false (flatL g l) (g v) = true ↔ _
  cases g v <;> simp

theorem flat_both : ∀ n, (∀ v, flatV n v = true → ∀ σ, frzArg v σ = (v, σ)) ∧ (∀ l, flatL (flatV n) l = true → ∀ σ, frzArgs l σ = (l, σ)) := by
  intro n
  induction n with
  | zero =>
    refine ⟨fun v h => absurd h (by intro h; cases h), fun l h => ?_⟩
    cases l with
    | nil => exact fun _ => by simp only [frzArgs]
    | cons v l => have := (flatL_cons.1 h).1; cases this
  | succ n ih =>
    have hv : ∀ v, flatV (n + 1) v = true → ∀ σ, frzArg v σ = (v, σ) := by
      intro v h σ
      cases v with
      | agg l => simp only [frzArg, ih.2 l h]
      | sl => cases h
      | _ => simp only [frzArg]
    refine ⟨hv, fun l => ?_⟩
    induction l with
    | nil => exact fun _ _ => by simp only [frzArgs]
    | cons v l ihl =>
      intro h σ
      obtain ⟨a, b⟩ := flatL_cons.1 h
      simp only [frzArgs, hv v a, ihl b]

noncomputable def doCallF (E : Env) (call : CallF) (hs : Hnds) (f : Nat) (args : List AV) (σ : Hp) (Λ : List LF) : Option (AV × Hp × List LF) :=
  Bool.rec (doCall E call hs f args σ Λ) (call f args σ hs Λ) (flatL (flatV 3) args)

theorem doCallF_eq (E : Env) (call : CallF) (hs : Hnds) (f : Nat) (args : List AV) (σ : Hp) (Λ : List LF) : doCallF E call hs f args σ Λ = doCall E call hs f args σ Λ := by
  unfold doCallF
  cases h : flatL (flatV 3) args with
  | false => rfl
  | true =>
    have h1 := (flat_both 3).2 args h σ
    unfold doCall
    cases E.frz f with
    | true => simp only [h1]
    | false => rfl

/-! ### Regions -/

structure S4 where
  τ : Tmps
  σ : Hp
  ds : List (Nat × List AV)
  Λ : List LF
abbrev K4 (α : Type) := Tmps → Hp → List (Nat × List AV) → List LF → Option α

noncomputable def putF {α : Type} (k : K4 α) (nt : Nat) (τ : Tmps) (σ : Hp) (ds : List (Nat × List AV)) (Λ : List LF) (d : Option Nat) (v : AV) : Option α :=
  Option.rec (motive := fun _ => Option α) (k τ σ ds Λ) (fun t => Bool.rec (motive := fun _ => Option α) none (k (τ.set t v) σ ds Λ) (Nat.ble (Nat.succ t) nt)) d

noncomputable def callR {α : Type} (k : K4 α) (nt : Nat) (τ : Tmps) (ds : List (Nat × List AV)) (d : Option Nat) (r : Option (AV × Hp × List LF)) : Option α :=
  Option.rec (motive := fun _ => Option α) none (fun r => putF k nt τ r.2.1 ds r.2.2 d r.1) r

noncomputable def resF {α : Type} (E : Env) (call : CallF) (hs : Hnds) (nt : Nat) (rnd : Bool) (k : K4 α) (d : Option Nat) (τ : Tmps) (σ : Hp) (ds : List (Nat × List AV)) (Λ : List LF) (r : Option Res) : Option α :=
  Option.rec (motive := fun _ => Option α) none (fun r => Res.rec (motive := fun _ => Option α) (fun v σ' => putF k nt τ σ' ds Λ d v) (fun σ' => putF k nt τ σ' ds Λ d undefA)
    (fun f args => callR k nt τ ds d (doCallF E call hs f args σ Λ)) (fun l args => callR k nt τ ds d (doYield hs l args σ Λ))
    (fun f args => Bool.rec (motive := fun _ => Option α) (putF k nt τ σ ((f, args) :: ds) Λ d undefA) none rnd) (Bool.rec (motive := fun _ => Option α) (putF k nt τ σ ds Λ d .nili) none rnd) r) r

noncomputable def oneF {α : Type} (E : Env) (call : CallF) (hs : Hnds) (ops : Array Oper) (nt : Nat) (rnd : Bool) (o : Oper) (k : K4 α) (τ : Tmps) (σ : Hp) (ds : List (Nat × List AV)) (Λ : List LF) : Option α :=
  Option.rec (motive := fun _ => Option α) (resF E call hs nt rnd k o.dst τ σ ds Λ (opF E τ σ o.op))
    (fun _ => match wantedA ops τ o with
      | none => none
      | some false => putF k nt τ σ ds Λ o.dst undefA
      | some true => resF E call hs nt rnd k o.dst τ σ ds Λ (opF E τ σ o.op)) o.guard

/-- What comes behind an operation. -/
def thenK {α : Type} (k : K4 α) : Option St → Option α
  | none => none
  | some st => k st.τ st.σ st.ds st.Λ

theorem putF_eq {α : Type} (k : K4 α) (st : St) (d : Option Nat) (v : AV) : putF k st.nt st.τ st.σ st.ds st.Λ d v = thenK k (putS st d v) := by
  unfold putS putT
  cases d with
  | none => rfl
  | some t =>
    simp only [putF]
    rw [show Nat.ble (Nat.succ t) st.nt = Nat.ble (t + 1) st.nt from rfl]
    cases Nat.ble (t + 1) st.nt <;> rfl

theorem putS_nt {st st' : St} {d : Option Nat} {v : AV} (h : putS st d v = some st') : st'.nt = st.nt ∧ st'.rnd = st.rnd := by
  unfold putS at h
  split at h
  · simp only [Option.some.injEq] at h; subst h; exact ⟨rfl, rfl⟩
  · cases h

theorem resF_eq {α : Type} (E : Env) (call : CallF) (hs : Hnds) (nt : Nat) (rnd : Bool) (k : K4 α) (d : Option Nat) (τ : Tmps) (σ : Hp) (ds : List (Nat × List AV)) (Λ : List LF) (r : Option Res) :
    resF E call hs nt rnd k d τ σ ds Λ r = thenK k (match r with
    | none => none
    | some (.val v σ') => putS ⟨τ, σ', ds, Λ, nt, rnd⟩ d v
    | some (.skip σ') => putS ⟨τ, σ', ds, Λ, nt, rnd⟩ d undefA
    | some (.call f args) => match doCall E call hs f args σ Λ with
      | some (v, σ, Λ) => putS ⟨τ, σ, ds, Λ, nt, rnd⟩ d v
      | none => none
    | some (.yld l args) => match doYield hs l args σ Λ with
      | some (v, σ, Λ) => putS ⟨τ, σ, ds, Λ, nt, rnd⟩ d v
      | none => none
    | some (.dfr f args) => match rnd with
      | true => none
      | false => putS ⟨τ, σ, (f, args) :: ds, Λ, nt, rnd⟩ d undefA
    | some .recov => match rnd with
      | true => none
      | false => putS ⟨τ, σ, ds, Λ, nt, rnd⟩ d .nili) := by
  cases r with
  | none => rfl
  | some r =>
    cases r with
    | val v σ' => exact putF_eq k ⟨τ, σ', ds, Λ, nt, rnd⟩ d v
    | skip σ' => exact putF_eq k ⟨τ, σ', ds, Λ, nt, rnd⟩ d undefA
    | call f args =>
      simp only [resF, doCallF_eq]
      cases doCall E call hs f args σ Λ with
      | none => rfl
      | some r => obtain ⟨v, σ', Λ'⟩ := r; exact putF_eq k ⟨τ, σ', ds, Λ', nt, rnd⟩ d v
    | yld l args =>
      simp only [resF]
      cases doYield hs l args σ Λ with
      | none => rfl
      | some r => obtain ⟨v, σ', Λ'⟩ := r; exact putF_eq k ⟨τ, σ', ds, Λ', nt, rnd⟩ d v
    | dfr f args =>
      cases rnd with
      | true => rfl
      | false => exact putF_eq k ⟨τ, σ, (f, args) :: ds, Λ, nt, false⟩ d undefA
    | recov =>
      cases rnd with
      | true => rfl
      | false => exact putF_eq k ⟨τ, σ, ds, Λ, nt, false⟩ d .nili

theorem oneF_eq {α : Type} (E : Env) (call : CallF) (hs : Hnds) (ops : Array Oper) (o : Oper) (k : K4 α) (st : St) :
    oneF E call hs ops st.nt st.rnd o k st.τ st.σ st.ds st.Λ = thenK k (oneOp E call hs ops o st) := by
  obtain ⟨τ, σ, ds, Λ, nt, rnd⟩ := st
  have hr : ∀ r, resF E call hs nt rnd k o.dst τ σ ds Λ (opF E τ σ o.op) = thenK k r → oneF E call hs ops nt rnd o k τ σ ds Λ = thenK k (match wantedA ops τ o with
      | none => none
      | some false => putS ⟨τ, σ, ds, Λ, nt, rnd⟩ o.dst undefA
      | some true => r) := by
    intro r h
    unfold oneF
    cases hg : o.guard with
    | none =>
      have : wantedA ops τ o = some true := by unfold wantedA; rw [hg]
      rw [this]; exact h
    | some g =>
      simp only
      cases wantedA ops τ o with
      | none => rfl
      | some b =>
        cases b with
        | true => exact h
        | false => exact putF_eq k ⟨τ, σ, ds, Λ, nt, rnd⟩ o.dst undefA
  rw [hr _ (resF_eq E call hs nt rnd k o.dst τ σ ds Λ (opF E τ σ o.op)), opF_eq]
  unfold oneOp
  rfl

theorem oneOp_nt {E : Env} {call : CallF} {hs : Hnds} {ops : Array Oper} {o : Oper} {st st' : St} (h : oneOp E call hs ops o st = some st') : st'.nt = st.nt ∧ st'.rnd = st.rnd := by
  have key : ∀ {s : St} {d : Option Nat} {v : AV}, putS s d v = some st' → s.nt = st.nt → s.rnd = st.rnd → st'.nt = st.nt ∧ st'.rnd = st.rnd := fun h h1 h2 => by
    obtain ⟨a, b⟩ := putS_nt h
    exact ⟨a.trans h1, b.trans h2⟩
  unfold oneOp at h
  split at h
  · cases h
  · exact key h rfl rfl
  · split at h
    · cases h
    · exact key h rfl rfl
    · exact key h rfl rfl
    · split at h
      · exact key h rfl rfl
      · cases h
    · split at h
      · exact key h rfl rfl
      · cases h
    · split at h
      · cases h
      · exact key h rfl rfl
    · split at h
      · cases h
      · exact key h rfl rfl

noncomputable def runF (E : Env) (call : CallF) (hs : Hnds) (ops : Array Oper) (nt : Nat) (rnd : Bool) (l : List Oper) : K4 S4 :=
  List.rec (motive := fun _ => K4 S4) (fun τ σ ds Λ => some ⟨τ, σ, ds, Λ⟩) (fun o _ ih => oneF E call hs ops nt rnd o ih) l

def s4 (st : St) : S4 := ⟨st.τ, st.σ, st.ds, st.Λ⟩

theorem runF_eq (E : Env) (call : CallF) (hs : Hnds) (ops : Array Oper) : ∀ (l : List Oper) (st : St), runF E call hs ops st.nt st.rnd l st.τ st.σ st.ds st.Λ = (runOps E call hs ops l st).map s4
  | [], st => rfl
  | o :: l, st => by
    show oneF E call hs ops st.nt st.rnd o (runF E call hs ops st.nt st.rnd l) st.τ st.σ st.ds st.Λ = _
    rw [oneF_eq, runOps]
    cases h : oneOp E call hs ops o st with
    | none => rfl
    | some st1 =>
      obtain ⟨h1, h2⟩ := oneOp_nt h
      show runF E call hs ops st.nt st.rnd l st1.τ st1.σ st1.ds st1.Λ = _
      rw [← h1, ← h2, runF_eq E call hs ops l st1]

theorem runOps_nt {E : Env} {call : CallF} {hs : Hnds} {ops : Array Oper} : ∀ {l : List Oper} {st st' : St}, runOps E call hs ops l st = some st' → st'.nt = st.nt ∧ st'.rnd = st.rnd
  | [], st, st', h => by simp only [runOps, Option.some.injEq] at h; subst h; exact ⟨rfl, rfl⟩
  | o :: l, st, st', h => by
    rw [runOps] at h
    split at h
    · rename_i st1 h1
      obtain ⟨a, b⟩ := oneOp_nt h1
      obtain ⟨c, d⟩ := runOps_nt h
      exact ⟨c.trans a, d.trans b⟩
    · cases h

end Go.Eng

/-
  THE ENGINE, 54: regions whose order is drawn, codes and calls, made for the kernel.
-/
namespace Go.Eng
open Go

attribute [local irreducible] upTo

section
variable {E : Env} {call : CallF} {hs : Hnds} {ops : Array Oper}

/-! ### Regions whose order is drawn -/

noncomputable def lookSameF (E : Env) (o : Oper) (τ τ' : Tmps) (σ : Hp) : Bool :=
  match cstL τ o.op with
  | true => true
  | false => match opF E τ σ o.op with
    | some (.val v _) => match o.dst with
      | none => true
      | some d => match τ'.get d with
        | some w => avbeq w v
        | none => true
    | _ => false
theorem lookSameF_eq (E : Env) (o : Oper) (τ τ' : Tmps) (σ : Hp) : lookSameF E o τ τ' σ = lookSame E o τ τ' σ := by
  unfold lookSameF lookSame
  rw [opF_eq]
  rfl
noncomputable def lookOKF (E : Env) (o : Oper) (i a : Nat) (τ τ' : Tmps) : Option Nat → Phs → Bool
  | _, [] => true
  | nx, (σ, am, h) :: ph => match (match nx with | some x => msHas a x | none => false), msHas am i with
    | false, false => match lookSameF E o τ τ' σ with
      | true => lookOKF E o i a τ τ' h ph
      | false => false
    | _, _ => lookOKF E o i a τ τ' h ph
theorem lookOKF_eq (E : Env) (o : Oper) (i a : Nat) (τ τ' : Tmps) : ∀ (ph : Phs) (nx : Option Nat), lookOKF E o i a τ τ' nx ph = lookOK E o i a τ τ' nx ph
  | [], _ => rfl
  | (σ, am, h) :: ph, nx => by
    simp only [lookOKF, lookOK, lookSameF_eq, lookOKF_eq E o i a τ τ' ph]
    rfl
noncomputable def looksOKF (E : Env) (ops : Array Oper) (ph : Phs) : Lks → Bool
  | [] => true
  | (o, i, a, τ, τ') :: lk => match wantedA ops τ o with
    | some false => looksOKF E ops ph lk
    | _ => match lookOKF E o i a τ τ' none ph with
      | true => looksOKF E ops ph lk
      | false => false
theorem looksOKF_eq (E : Env) (ops : Array Oper) (ph : Phs) : ∀ lk : Lks, looksOKF E ops ph lk = looksOK E ops ph lk
  | [] => rfl
  | (o, i, a, τ, τ') :: lk => by
    simp only [looksOKF, looksOK, lookOKF_eq, looksOKF_eq E ops ph lk]
    rfl

abbrev D4 := List Inf → Nat → Phs → Lks → K4 (S4 × Phs × Lks)
noncomputable def behindD (o : Oper) (f : Inf) (fs : List Inf) (i : Nat) (ph : Phs) (lk : Lks) (ih : D4) (τ0 : Tmps) : K4 (S4 × Phs × Lks) := fun τ σ ds Λ =>
  Bool.rec (motive := fun _ => Option (S4 × Phs × Lks)) (Bool.rec (motive := fun _ => Option (S4 × Phs × Lks)) (ih fs (i + 1) ph lk τ σ ds Λ) (ih fs (i + 1) ph ((o, i, f.a, τ0, τ) :: lk) τ σ ds Λ) (Nat.beq f.c 1)) (ih fs (i + 1) ((σ, f.a, some i) :: ph) lk τ σ ds Λ) (Nat.beq f.c 0)
noncomputable def stepD (E : Env) (call : CallF) (hs : Hnds) (ops : Array Oper) (nt : Nat) (rnd : Bool) (n0 : Nat) (o : Oper) (f : Inf) (fs : List Inf) (i : Nat) (ph : Phs) (lk : Lks) (ih : D4) : K4 (S4 × Phs × Lks) := fun τ σ ds Λ =>
  Bool.rec (motive := fun _ => Option (S4 × Phs × Lks)) (oneF E call hs ops nt rnd o (behindD o f fs i ph lk ih τ) τ σ ds Λ) (thenK (behindD o f fs i ph lk ih τ) (oneD E call hs ops n0 f o ⟨τ, σ, ds, Λ, nt, rnd⟩)) (Nat.beq f.c 3)
noncomputable def runDF (E : Env) (call : CallF) (hs : Hnds) (ops : Array Oper) (nt : Nat) (rnd : Bool) (n0 : Nat) (l : List Oper) : D4 :=
  List.rec (motive := fun _ => D4) (fun _ _ ph lk τ σ ds Λ => some (⟨τ, σ, ds, Λ⟩, ph, lk))
    (fun o _ ih fs i ph lk => List.rec (motive := fun _ => K4 (S4 × Phs × Lks)) (fun τ σ ds Λ => some (⟨τ, σ, ds, Λ⟩, ph, lk)) (fun f fs' _ => stepD E call hs ops nt rnd n0 o f fs' i ph lk ih) fs) l

theorem oneD_nt {n0 : Nat} {f : Inf} {o : Oper} {st st' : St} (h : oneD E call hs ops n0 f o st = some st') : st'.nt = st.nt ∧ st'.rnd = st.rnd := by
  have key : ∀ {s : St} {d : Option Nat} {v : AV}, putS s d v = some st' → s.nt = st.nt → s.rnd = st.rnd → st'.nt = st.nt ∧ st'.rnd = st.rnd := fun h h1 h2 => by
    obtain ⟨a, b⟩ := putS_nt h
    exact ⟨a.trans h1, b.trans h2⟩
  unfold oneD at h
  split at h
  · split at h
    · cases h
    · exact key h rfl rfl
    · split at h
      · exact key h rfl rfl
      · cases h
  · exact oneOp_nt h

theorem stepD_eq {nt : Nat} {rnd : Bool} {n0 : Nat} {o : Oper} {f : Inf} {fs : List Inf} {i : Nat} {ph : Phs} {lk : Lks} {ih : D4} (st : St) (h1 : st.nt = nt) (h2 : st.rnd = rnd) :
    stepD E call hs ops nt rnd n0 o f fs i ph lk ih st.τ st.σ st.ds st.Λ = thenK (behindD o f fs i ph lk ih st.τ) (oneD E call hs ops n0 f o st) := by
  subst h1; subst h2
  unfold stepD
  cases h : Nat.beq f.c 3 with
  | true => rfl
  | false =>
    rw [show oneD E call hs ops n0 f o st = oneOp E call hs ops o st by
      unfold oneD
      split
      · rename_i e; rw [e] at h; cases h
      · rfl]
    exact oneF_eq E call hs ops o _ st

theorem runDF_eq {nt : Nat} {rnd : Bool} {n0 : Nat} : ∀ (l : List Oper) (fs : List Inf) (i : Nat) (ph : Phs) (lk : Lks) (st : St), st.nt = nt → st.rnd = rnd →
    runDF E call hs ops nt rnd n0 l fs i ph lk st.τ st.σ st.ds st.Λ = (runD E call hs ops n0 l fs i st ph lk).map fun r => (s4 r.1, r.2.1, r.2.2)
  | [], fs, i, ph, lk, st, h1, h2 => by cases fs <;> rfl
  | o :: l, [], i, ph, lk, st, h1, h2 => rfl
  | o :: l, f :: fs, i, ph, lk, st, h1, h2 => by
    show stepD E call hs ops nt rnd n0 o f fs i ph lk (runDF E call hs ops nt rnd n0 l) st.τ st.σ st.ds st.Λ = _
    rw [stepD_eq st h1 h2, runD]
    cases h : oneD E call hs ops n0 f o st with
    | none => rfl
    | some st1 =>
      obtain ⟨a, b⟩ := oneD_nt h
      have ih := fun ph lk => runDF_eq (nt := nt) (rnd := rnd) (n0 := n0) l fs (i + 1) ph lk st1 (a.trans h1) (b.trans h2)
      simp only [thenK, behindD]
      split
      · rename_i e; rw [e]; exact ih _ _
      · rename_i e; rw [e]; exact ih _ _
      · rename_i e1 e2
        rw [show Nat.beq f.c 0 = false by cases h : Nat.beq f.c 0 with | false => rfl | true => exact absurd (Nat.eq_of_beq_eq_true h) e1,
          show Nat.beq f.c 1 = false by cases h : Nat.beq f.c 1 with | false => rfl | true => exact absurd (Nat.eq_of_beq_eq_true h) e2]
        exact ih _ _

noncomputable def drawG (E : Env) (call : CallF) (hs : Hnds) (ops : Array Oper) (nt : Nat) (rnd : Bool) (fs : List Inf) (na : Nat) : K4 S4 := fun τ σ ds Λ =>
  Option.rec (motive := fun _ => Option S4) none (fun r => Bool.rec (motive := fun _ => Option S4) (Bool.rec (motive := fun _ => Option S4) none (some r.1) (looksOKF E ops r.2.1 r.2.2)) (some r.1) (quietI fs)) (runDF E call hs ops nt rnd σ.n ops.toList fs 0 [(⟨σ.t, σ.n + na⟩, 0, none)] [] τ ⟨σ.t, σ.n + na⟩ ds Λ)
noncomputable def drawF (E : Env) (call : CallF) (hs : Hnds) (ops : Array Oper) (nt : Nat) (rnd : Bool) : K4 S4 := fun τ σ ds Λ =>
  Option.rec (motive := fun _ => Option S4) (Option.rec (motive := fun _ => Option S4) none (fun ops' => Option.rec (motive := fun _ => Option S4) none (fun p => drawG E call hs ops' nt rnd p.1 p.2 τ σ ds Λ) (planOf ops'.toList)) (permOf ops)) (fun p => drawG E call hs ops nt rnd p.1 p.2 τ σ ds Λ) (planOf ops.toList)

theorem drawG_eq {fs : List Inf} {na : Nat} (st : St) : drawG E call hs ops st.nt st.rnd fs na st.τ st.σ st.ds st.Λ = (runDrawQ E call hs ops fs na st).map s4 := by
  unfold runDrawQ
  have e := runDF_eq (E := E) (call := call) (hs := hs) (ops := ops) (nt := st.nt) (rnd := st.rnd) (n0 := st.σ.n) ops.toList fs 0 [(⟨st.σ.t, st.σ.n + na⟩, 0, none)] [] { st with σ := ⟨st.σ.t, st.σ.n + na⟩ } rfl rfl
  simp only [drawG]
  simp only at e
  rw [e]
  cases runD E call hs ops st.σ.n ops.toList fs 0 { st with σ := ⟨st.σ.t, st.σ.n + na⟩ } [(⟨st.σ.t, st.σ.n + na⟩, 0, none)] [] with
  | none => rfl
  | some r =>
    obtain ⟨st', ph, lk⟩ := r
    simp only [Option.map_some, looksOKF_eq]
    cases quietI fs
    · simp only
      cases looksOK E ops ph lk <;> rfl
    · rfl

theorem drawF_eq (st : St) : drawF E call hs ops st.nt st.rnd st.τ st.σ st.ds st.Λ = (runDraw E call hs ops st).map s4 := by
  unfold drawF runDraw
  cases planOf ops.toList with
  | some p => exact drawG_eq st
  | none =>
    simp only
    cases permOf ops with
    | none => rfl
    | some ops' =>
      simp only [runDrawP]
      cases planOf ops'.toList with
      | none => rfl
      | some p => exact drawG_eq st

theorem runD_nt {n0 : Nat} : ∀ {l : List Oper} {fs : List Inf} {i : Nat} {st : St} {ph : Phs} {lk : Lks} {r : St × Phs × Lks}, runD E call hs ops n0 l fs i st ph lk = some r → r.1.nt = st.nt ∧ r.1.rnd = st.rnd
  | [], fs, i, st, ph, lk, r, h => by simp only [runD, Option.some.injEq] at h; subst h; exact ⟨rfl, rfl⟩
  | o :: l, [], i, st, ph, lk, r, h => by simp only [runD, Option.some.injEq] at h; subst h; exact ⟨rfl, rfl⟩
  | o :: l, f :: fs, i, st, ph, lk, r, h => by
    rw [runD] at h
    split at h
    · cases h
    · rename_i st1 h1
      obtain ⟨a, b⟩ := oneD_nt h1
      split at h <;> (obtain ⟨c, d⟩ := runD_nt h; exact ⟨c.trans a, d.trans b⟩)
theorem runDrawQ_nt {fs : List Inf} {na : Nat} {st st' : St} (h : runDrawQ E call hs ops fs na st = some st') : st'.nt = st.nt ∧ st'.rnd = st.rnd := by
  unfold runDrawQ at h
  split at h
  · cases h
  · rename_i hr
    split at h
    · simp only [Option.some.injEq] at h; subst h
      exact runD_nt hr
    · cases h
theorem runDraw_nt {st st' : St} (h : runDraw E call hs ops st = some st') : st'.nt = st.nt ∧ st'.rnd = st.rnd := by
  unfold runDraw at h
  split at h
  · exact runDrawQ_nt h
  · split at h
    · unfold runDrawP at h
      split at h
      · cases h
      · exact runDrawQ_nt h
    · cases h

/-! ### Codes -/

abbrev XF := Hnds → Nat → Bool → K4 (Ex × S4)
noncomputable def xNorm : XF := fun _ _ _ τ σ ds Λ => some (.normal, ⟨τ, σ, ds, Λ⟩)
noncomputable def xReg (E : Env) (call : CallF) (ops : Array Oper) (d : Bool) : XF := fun hs nt rnd τ σ ds Λ =>
  Option.rec (motive := fun _ => Option (Ex × S4)) none (fun s => some (.normal, s)) (Bool.rec (motive := fun _ => Option S4) (runF E call hs ops nt rnd ops.toList τ σ ds Λ) (drawF E call hs ops nt rnd τ σ ds Λ) d)
noncomputable def xSeq (a b : XF) : XF := fun hs nt rnd τ σ ds Λ =>
  Option.rec (motive := fun _ => Option (Ex × S4)) none (fun r => Ex.rec (motive := fun _ => Option (Ex × S4)) (b hs nt rnd r.2.τ r.2.σ r.2.ds r.2.Λ) (fun i => some (.exit i, r.2)) (some (.ret, r.2)) r.1) (a hs nt rnd τ σ ds Λ)
noncomputable def xCond (c : Operand) (a b : XF) : XF := fun hs nt rnd τ σ ds Λ => match evF τ c with
  | some (.bool x) => Bool.rec (motive := fun _ => Option (Ex × S4)) (b hs nt rnd τ σ ds Λ) (a hs nt rnd τ σ ds Λ) x
  | _ => none
noncomputable def xBlock (i : Nat) (b : XF) : XF := fun hs nt rnd τ σ ds Λ =>
  Option.rec (motive := fun _ => Option (Ex × S4)) none (fun r => Ex.rec (motive := fun _ => Option (Ex × S4)) (some (.normal, r.2)) (fun j => some (Bool.rec (.exit j) .normal (Nat.beq j i), r.2)) (some (.ret, r.2)) r.1) (b hs nt rnd τ σ ds Λ)
noncomputable def upToF (body : K4 (Ex × S4)) (k : Nat) : K4 (Option Ex × S4) :=
  Nat.rec (motive := fun _ => K4 (Option Ex × S4)) (fun τ σ ds Λ => Option.rec (motive := fun _ => Option (Option Ex × S4)) none (fun r => Ex.rec (motive := fun _ => Option (Option Ex × S4)) (some (none, r.2)) (fun i => some (some (.exit i), r.2)) (some (some .ret, r.2)) r.1) (body τ σ ds Λ))
    (fun _ ih τ σ ds Λ => Option.rec (motive := fun _ => Option (Option Ex × S4)) none (fun r => Option.rec (motive := fun _ => Option (Option Ex × S4)) (ih r.2.τ r.2.σ r.2.ds r.2.Λ) (fun e => some (some e, r.2)) r.1) (ih τ σ ds Λ)) k
noncomputable def xLoop (E : Env) (call : CallF) (c : Code) (b : XF) : XF := fun hs nt rnd τ σ ds Λ =>
  Bool.rec (motive := fun _ => Option (Ex × S4)) (Option.rec (motive := fun _ => Option (Ex × S4)) none (fun r => Option.rec (motive := fun _ => Option (Ex × S4)) none (fun e => some (e, r.2)) r.1) (upToF (b hs nt rnd) 20 τ σ ds Λ))
    ((exec E call (.loop c) hs ⟨τ, σ, ds, Λ, nt, rnd⟩).map fun r => (r.1, ⟨r.2.τ, r.2.σ, r.2.ds, r.2.Λ⟩)) E.sy

/-- A round of a loop over a function. -/
noncomputable def xHnd (params : Array Nat) (asg body : XF) (hs : Hnds) (nt : Nat) (τ : Tmps) : Hnd := fun az σ Λ => match Λ with
  | [] => none
  | lf :: Λ => match lf.done with
    | true => none
    | false => match setParams nt τ params.toList az with
      | none => none
      | some τ => match asg hs nt true τ σ [] Λ with
        | some (.normal, s1) => match body hs nt true s1.τ s1.σ s1.ds s1.Λ with
          | some (e, s2) => match s2.ds with
            | [] => some (e.isNormal, s2.σ, ⟨!e.isNormal, e⟩ :: s2.Λ)
            | _ => none
          | none => none
        | _ => none
noncomputable def xRange (call : CallF) (f : Operand) (params : Array Nat) (asg body : XF) : XF := fun hs nt _ τ σ ds Λ =>
  match evF τ f with
  | some (.fn g first caps) =>
    match call g (first ++ [.yld σ.n] ++ caps) ⟨σ.t, σ.n + 1⟩ ((σ.n, xHnd params asg body hs nt τ) :: deepen hs) (⟨false, .normal⟩ :: Λ) with
    | some (_, σ, lf :: Λ) => some (lf.pend, ⟨τ, σ, ds, Λ⟩)
    | _ => none
  | _ => none

noncomputable def execF (E : Env) (call : CallF) (c : Code) : XF :=
  Code.rec (motive := fun _ => XF) xNorm (fun _ ops d => xReg E call ops d) (fun _ _ a b => xSeq a b) (fun c _ _ a b => xCond c a b) (fun i _ b => xBlock i b) (fun c b => xLoop E call c b) (fun f p _ _ a b => xRange call f p a b)
    (fun i _ _ _ τ σ ds Λ => some (.exit i, ⟨τ, σ, ds, Λ⟩)) (fun _ b => b) (fun _ => xNorm) (fun _ _ _ _ _ _ _ _ => none) (fun _ _ _ τ σ ds Λ => some (.ret, ⟨τ, σ, ds, Λ⟩)) (fun _ _ _ _ _ _ _ _ => none) c

def e4 (r : Ex × St) : Ex × S4 := (r.1, s4 r.2)

theorem upTo_nt {body : St → Option (Ex × St)} (hb : ∀ {st e st'}, body st = some (e, st') → st'.nt = st.nt ∧ st'.rnd = st.rnd) : ∀ (k : Nat) {st st' : St} {e : Option Ex}, upTo body k st = some (e, st') → st'.nt = st.nt ∧ st'.rnd = st.rnd
  | 0, st, st', e, h => by
    rw [upTo] at h
    split at h
    · rename_i st1 h1
      simp only [Option.some.injEq, Prod.mk.injEq] at h; obtain ⟨_, rfl⟩ := h
      exact hb h1
    · rename_i h1
      simp only [Option.some.injEq, Prod.mk.injEq] at h; obtain ⟨_, rfl⟩ := h
      exact hb h1
    · cases h
  | k + 1, st, st', e, h => by
    rw [upTo] at h
    split at h
    · rename_i st1 h1
      obtain ⟨a, b⟩ := upTo_nt hb k h1
      obtain ⟨c, d⟩ := upTo_nt hb k h
      exact ⟨c.trans a, d.trans b⟩
    · exact upTo_nt hb k h

theorem exec_nt : ∀ (c : Code) {hs : Hnds} {st st' : St} {e : Ex}, exec E call c hs st = some (e, st') → st'.nt = st.nt ∧ st'.rnd = st.rnd := by
  intro c
  induction c with
  | skip => intro hs st st' e h; simp only [exec_skip, Option.some.injEq, Prod.mk.injEq] at h; obtain ⟨_, rfl⟩ := h; exact ⟨rfl, rfl⟩
  | label l => intro hs st st' e h; simp only [exec_label, Option.some.injEq, Prod.mk.injEq] at h; obtain ⟨_, rfl⟩ := h; exact ⟨rfl, rfl⟩
  | exit i => intro hs st st' e h; simp only [exec_exit, Option.some.injEq, Prod.mk.injEq] at h; obtain ⟨_, rfl⟩ := h; exact ⟨rfl, rfl⟩
  | ret => intro hs st st' e h; simp only [exec_ret, Option.some.injEq, Prod.mk.injEq] at h; obtain ⟨_, rfl⟩ := h; exact ⟨rfl, rfl⟩
  | goto l => intro hs st st' e h; simp [exec_goto] at h
  | refuse w => intro hs st st' e h; simp [exec_refuse] at h
  | scope b ih => intro hs st st' e h; rw [exec_scope] at h; exact ih h
  | region id ops d =>
    intro hs st st' e h
    cases d with
    | true =>
      rw [exec_regionD] at h
      split at h
      · rename_i h1
        simp only [Option.some.injEq, Prod.mk.injEq] at h; obtain ⟨_, rfl⟩ := h
        exact runDraw_nt h1
      · cases h
    | false =>
      rw [exec_region] at h
      split at h
      · rename_i h1
        simp only [Option.some.injEq, Prod.mk.injEq] at h; obtain ⟨_, rfl⟩ := h
        exact runOps_nt h1
      · cases h
  | seq a b iha ihb =>
    intro hs st st' e h
    rw [exec_seq] at h
    split at h
    · rename_i st1 h1
      obtain ⟨x, y⟩ := iha h1
      obtain ⟨z, w⟩ := ihb h
      exact ⟨z.trans x, w.trans y⟩
    · exact iha h
  | cond c a b iha ihb =>
    intro hs st st' e h
    rw [exec_cond] at h
    split at h
    · exact iha h
    · exact ihb h
    · cases h
  | block i b ih =>
    intro hs st st' e h
    rw [exec_block] at h
    split at h
    · rename_i h1
      simp only [Option.some.injEq, Prod.mk.injEq] at h; obtain ⟨_, rfl⟩ := h
      exact ih h1
    · exact ih h
  | loop b ih =>
    intro hs st st' e h
    rw [exec_loop] at h
    split at h
    · rename_i h1
      simp only [Option.some.injEq, Prod.mk.injEq] at h; obtain ⟨_, rfl⟩ := h
      split at h1
      · refine upTo_nt (body := fun s => roundC _ _ (exec E call b hs s)) (fun {s e s'} h => ?_) _ h1
        simp only [roundC] at h
        split at h
        · rename_i s1 hx
          simp only [Option.some.injEq, Prod.mk.injEq] at h; obtain ⟨_, rfl⟩ := h
          obtain ⟨a1, a2⟩ := ih hx
          exact ⟨clean_nt.1.trans a1, clean_nt.2.trans a2⟩
        · exact ih h
      · exact upTo_nt (fun h => ih h) _ h1
    · cases h
  | rangeFunc f ps a b iha ihb =>
    intro hs st st' e h
    have this := h
    rw [exec_rangeFunc] at this
    split at this
    · split at this
      · simp only [Option.some.injEq, Prod.mk.injEq] at this; obtain ⟨_, rfl⟩ := this
        exact ⟨rfl, rfl⟩
      · cases this
    · cases this

/-- The same codes. -/
def XOK (E : Env) (call : CallF) (c : Code) : Prop := ∀ (hs : Hnds) (st : St), execF E call c hs st.nt st.rnd st.τ st.σ st.ds st.Λ = (exec E call c hs st).map e4

theorem upToF_eq {body : St → Option (Ex × St)} {bodyF : K4 (Ex × S4)} {nt : Nat} {rnd : Bool} (hb : ∀ st : St, st.nt = nt → st.rnd = rnd → bodyF st.τ st.σ st.ds st.Λ = (body st).map e4) (hn : ∀ {st e st'}, body st = some (e, st') → st'.nt = st.nt ∧ st'.rnd = st.rnd) :
    ∀ (k : Nat) (st : St), st.nt = nt → st.rnd = rnd → upToF bodyF k st.τ st.σ st.ds st.Λ = (upTo body k st).map fun r => (r.1, s4 r.2)
  | 0, st, h1, h2 => by
    rw [upTo]
    show @Option.rec _ (fun _ => Option (Option Ex × S4)) none _ (bodyF st.τ st.σ st.ds st.Λ) = _
    rw [hb st h1 h2]
    cases body st with
    | none => rfl
    | some r => obtain ⟨e, st'⟩ := r; cases e <;> rfl
  | k + 1, st, h1, h2 => by
    rw [upTo]
    show @Option.rec _ (fun _ => Option (Option Ex × S4)) none _ (upToF bodyF k st.τ st.σ st.ds st.Λ) = _
    rw [upToF_eq hb hn k st h1 h2]
    cases h : upTo body k st with
    | none => rfl
    | some r =>
      obtain ⟨e, st'⟩ := r
      cases e with
      | none =>
        obtain ⟨a, b⟩ := upTo_nt hn k h
        exact upToF_eq hb hn k st' (a.trans h1) (b.trans h2)
      | some e => rfl

theorem xHnd_eq {a b : Code} (ha : XOK E call a) (hb : XOK E call b) (ps : Array Nat) (hs : Hnds) (nt : Nat) (τ : Tmps) : xHnd ps (execF E call a) (execF E call b) hs nt τ = rangeH E call hs nt τ ps a b := by
  funext az σ Λ
  cases Λ with
  | nil => rfl
  | cons lf Λ =>
    simp only [xHnd, rangeH]
    cases lf.done with
    | true => rfl
    | false =>
      simp only
      cases setParams nt τ ps.toList az with
      | none => rfl
      | some τ' =>
        have e1 := ha hs ⟨τ', σ, [], Λ, nt, true⟩
        simp only at e1 ⊢
        rw [e1]
        cases h1 : exec E call a hs ⟨τ', σ, [], Λ, nt, true⟩ with
        | none => rfl
        | some r =>
          obtain ⟨e, st1⟩ := r
          cases e with
          | normal =>
            obtain ⟨n1, n2⟩ := exec_nt a h1
            have e2 := hb hs st1
            rw [n1, n2] at e2
            simp only [Option.map_some, e4, s4]
            simp only at e2
            rw [e2]
            cases exec E call b hs st1 with
            | none => rfl
            | some r =>
              obtain ⟨e, st2⟩ := r
              simp only [Option.map_some, e4, s4]
              cases st2.ds <;> rfl
          | exit i => rfl
          | ret => rfl

theorem execF_eq (c : Code) : XOK E call c := by
  induction c with
  | skip => intro hs st; rfl
  | label l => intro hs st; rfl
  | exit i => intro hs st; rfl
  | ret => intro hs st; rfl
  | goto l => intro hs st; rfl
  | refuse w => intro hs st; rfl
  | scope b ih => intro hs st; rw [exec_scope]; exact ih hs st
  | region id ops d =>
    intro hs st
    cases d with
    | true =>
      rw [exec_regionD]
      show @Option.rec _ (fun _ => Option (Ex × S4)) none _ (drawF E call hs ops st.nt st.rnd st.τ st.σ st.ds st.Λ) = _
      rw [drawF_eq]
      cases runDraw E call hs ops st <;> rfl
    | false =>
      rw [exec_region]
      show @Option.rec _ (fun _ => Option (Ex × S4)) none _ (runF E call hs ops st.nt st.rnd ops.toList st.τ st.σ st.ds st.Λ) = _
      rw [runF_eq]
      cases runOps E call hs ops ops.toList st <;> rfl
  | seq a b iha ihb =>
    intro hs st
    rw [exec_seq]
    show @Option.rec _ (fun _ => Option (Ex × S4)) none _ (execF E call a hs st.nt st.rnd st.τ st.σ st.ds st.Λ) = _
    rw [iha hs st]
    cases h : exec E call a hs st with
    | none => rfl
    | some r =>
      obtain ⟨e, st1⟩ := r
      obtain ⟨n1, n2⟩ := exec_nt a h
      cases e with
      | normal =>
        show execF E call b hs st.nt st.rnd st1.τ st1.σ st1.ds st1.Λ = _
        rw [← n1, ← n2]
        exact ihb hs st1
      | exit i => rfl
      | ret => rfl
  | cond c a b iha ihb =>
    intro hs st
    rw [exec_cond]
    show (match evF st.τ c with
      | some (.bool x) => Bool.rec (motive := fun _ => Option (Ex × S4)) (execF E call b hs st.nt st.rnd st.τ st.σ st.ds st.Λ) (execF E call a hs st.nt st.rnd st.τ st.σ st.ds st.Λ) x
      | _ => none) = _
    rw [evF_eq]
    split
    · rename_i x hx
      cases x with
      | true => rw [hx]; exact iha hs st
      | false => rw [hx]; exact ihb hs st
    · rename_i hne
      split
      · rename_i h; exact absurd h (hne true)
      · rename_i h; exact absurd h (hne false)
      · rfl
  | block i b ih =>
    intro hs st
    rw [exec_block]
    show @Option.rec _ (fun _ => Option (Ex × S4)) none _ (execF E call b hs st.nt st.rnd st.τ st.σ st.ds st.Λ) = _
    rw [ih hs st]
    cases exec E call b hs st with
    | none => rfl
    | some r =>
      obtain ⟨e, st1⟩ := r
      cases e with
      | normal => rfl
      | exit j =>
        simp only [Option.map_some, e4]
        cases Nat.beq j i <;> rfl
      | ret => rfl
  | loop b ih =>
    intro hs st
    show xLoop E call b (execF E call b) hs st.nt st.rnd st.τ st.σ st.ds st.Λ = _
    unfold xLoop
    cases hsy : E.sy with
    | true => rfl
    | false =>
      rw [exec_loop, hsy]
      show @Option.rec _ (fun _ => Option (Ex × S4)) none _ (upToF (execF E call b hs st.nt st.rnd) 20 st.τ st.σ st.ds st.Λ) = _
      rw [upToF_eq (body := exec E call b hs) (nt := st.nt) (rnd := st.rnd) (fun st' h1 h2 => by rw [← h1, ← h2]; exact ih hs st') (fun h => exec_nt b h) 20 st rfl rfl]
      simp only
      cases upTo (exec E call b hs) 20 st with
      | none => rfl
      | some r => obtain ⟨e, st1⟩ := r; cases e <;> rfl
  | rangeFunc f ps a b iha ihb =>
    intro hs st
    rw [exec_rangeFunc]
    show xRange call f ps (execF E call a) (execF E call b) hs st.nt st.rnd st.τ st.σ st.ds st.Λ = _
    unfold xRange
    rw [evF_eq, xHnd_eq iha ihb]
    cases ev st.τ f with
    | none => rfl
    | some v =>
      cases v with
      | fn g first caps =>
        simp only
        cases call g (first ++ [.yld st.σ.n] ++ caps) ⟨st.σ.t, st.σ.n + 1⟩ ((st.σ.n, rangeH E call hs st.nt st.τ ps a b) :: deepen hs) (⟨false, .normal⟩ :: st.Λ) with
        | none => rfl
        | some r =>
          obtain ⟨v0, σ2, Λ2⟩ := r
          cases Λ2 with
          | nil => rfl
          | cons lf Λ2 => rfl
      | _ => rfl

/-! ### Calls of functions -/

abbrev RF := Option (AV × Hp × List LF)
noncomputable def packF (σ : Hp) (Λ : List LF) (r : Option (List AV)) : RF :=
  match r with
  | some [v] => some (v, σ, Λ)
  | some vs => some (.tup vs, σ, Λ)
  | none => none
noncomputable def finF (E : Env) (call : CallF) (hs : Hnds) (rs : List ResultVar) (s : S4) : RF :=
  List.rec (motive := fun _ => RF) (packF s.σ s.Λ (resultsA E s.τ s.σ rs)) (fun _ _ _ => match runDefers E call hs s.ds s.σ s.Λ with
    | none => none
    | some (σ, Λ) => packF σ Λ (resultsA E s.τ σ rs)) s.ds
noncomputable def bodyF (E : Env) (call : CallF) (hs : Hnds) (fn : Func) (args : List AV) (σ : Hp) (Λ : List LF) (body : Code) : RF :=
  Option.rec (motive := fun _ => RF) none (fun r => Ex.rec (motive := fun _ => RF) (finF E call hs fn.results.toList r.2) (fun _ => none) (finF E call hs fn.results.toList r.2) r.1)
    (execF E call body hs (args.length + (fn.ntmps - args.length)) false (tmps0 fn.ntmps (.full (dep fn.ntmps)) 0 args) σ [] Λ)
noncomputable def funcF (E : Env) (call : CallF) (hs : Hnds) (args : List AV) (σ : Hp) (Λ : List LF) (fn : Func) : RF :=
  Option.rec (motive := fun _ => RF) none (fun b => bodyF E call hs fn args σ Λ b) fn.body
noncomputable def callF (E : Env) (n : Nat) : CallF :=
  Nat.rec (motive := fun _ => CallF) (fun _ _ _ _ _ => none) (fun _ ih f args σ hs Λ => Option.rec (motive := fun _ => RF) (Option.rec (motive := fun _ => RF) none (fun fn => funcF E ih hs args σ Λ fn) (E.fn f)) (fun v => some (v, σ, Λ)) (E.ext f args)) n

theorem finF_eq (rs : List ResultVar) (st : St) : finF E call hs rs (s4 st) = match runDefers E call hs st.ds st.σ st.Λ with
    | none => none
    | some (σ, Λ) => match resultsA E st.τ σ rs with
      | some [v] => some (v, σ, Λ)
      | some vs => some (.tup vs, σ, Λ)
      | none => none := by
  unfold finF s4
  simp only
  cases h : st.ds with
  | nil =>
    simp only [runDefers]
    rfl
  | cons d ds => rfl

theorem callF_eq (E : Env) : ∀ n, callF E n = callN E n
  | 0 => by funext f args σ hs Λ; rfl
  | n + 1 => by
    have ih := callF_eq E n
    funext f args σ hs Λ
    show @Option.rec _ (fun _ => RF) (@Option.rec _ (fun _ => RF) none (fun fn => funcF E (callF E n) hs args σ Λ fn) (E.fn f)) (fun v => some (v, σ, Λ)) (E.ext f args) = _
    rw [ih, callN]
    cases E.ext f args with
    | some v => rfl
    | none =>
      simp only
      cases E.fn f with
      | none => rfl
      | some fn =>
        simp only [funcF]
        cases fn.body with
        | none => rfl
        | some body =>
          simp only [bodyF]
          have e := execF_eq (E := E) (call := callN E n) body hs ⟨tmps0 fn.ntmps (.full (dep fn.ntmps)) 0 args, σ, [], Λ, args.length + (fn.ntmps - args.length), false⟩
          simp only at e
          rw [e]
          cases exec E (callN E n) body hs ⟨tmps0 fn.ntmps (.full (dep fn.ntmps)) 0 args, σ, [], Λ, args.length + (fn.ntmps - args.length), false⟩ with
          | none => rfl
          | some r =>
            obtain ⟨e, st⟩ := r
            cases e with
            | exit i => rfl
            | normal => exact finF_eq _ _
            | ret => exact finF_eq _ _

/-! ### What is asked of the kernel -/

noncomputable def ansF (v : AV) (r : RF) : Bool :=
  match r with
  | some (w, _, []) => avbeq w v
  | _ => false
noncomputable def comesF (E : Env) (n f : Nat) (args : List AV) (v : AV) : Bool :=
  Bool.rec false (Bool.rec false (plainA 9 v) (args.all (closedA 9))) (ansF v (callF E n f args .empty [] []))
theorem comes_of {E : Env} {n f : Nat} {args : List AV} {v : AV} (h : comesF E n f args v = true) : comes E n f args v = true := by
  unfold comesF at h
  rw [callF_eq] at h
  unfold comes
  cases hc : ansF v (callN E n f args .empty [] []) with
  | false => rw [hc] at h; cases h
  | true =>
    rw [hc] at h
    cases ha : args.all (closedA 9) with
    | false => rw [ha] at h; cases h
    | true =>
      rw [ha] at h
      unfold ansF at hc
      split at hc
      · rename_i w σ e
        rw [e]
        simp only [hc]
        exact h
      · cases hc
noncomputable def isTrueF (E : Env) (n f : Nat) : Bool :=
  match E.ext f [], callF E (n + 1) f [] .empty [] [] with
  | none, some (.bool true, _, []) => true
  | _, _ => false
theorem isTrue_of {E : Env} {n f : Nat} (h : isTrueF E n f = true) : isTrue E n f = true := by
  unfold isTrueF at h
  rw [callF_eq] at h
  exact h
end
end Go.Eng

/-
  THE ENGINE, 55: calls said ahead, with what they need of memory and what they leave there.
-/
namespace Go.Eng
open Go

attribute [local irreducible] upTo

/-! ### Objects, compared -/

noncomputable def espbeq : List (AV × AV) → List (AV × AV) → Bool
  | [], [] => true
  | (a, b) :: l, (c, d) :: m => match avbeq a c with
    | true => match avbeq b d with
      | true => espbeq l m
      | false => false
    | false => false
  | _, _ => false
noncomputable def aobeq : AO → AO → Bool
  | .cells r l, .cells r' l' => match r, r' with
    | true, true => avbeqL l l'
    | false, false => avbeqL l l'
    | _, _ => false
  | .map l, .map l' => espbeq l l'
  | .siter s p, .siter s' p' => match Nat.beq p p' with
    | true => lbeq s s'
    | false => false
  | .gone, .gone => true
  | _, _ => false

theorem espbeq_eq : ∀ {a b : List (AV × AV)}, espbeq a b = true → a = b
  | [], [], _ => rfl
  | [], _ :: _, h => by cases h
  | _ :: _, [], h => by cases h
  | (a, b) :: l, (c, d) :: m, h => by
    simp only [espbeq] at h
    split at h
    · rename_i h1
      split at h
      · rename_i h2
        rw [avbeq_eq _ _ h1, avbeq_eq _ _ h2, espbeq_eq h]
      · cases h
    · cases h
theorem aobeq_eq {a b : AO} (h : aobeq a b = true) : a = b := by
  cases a with
  | cells r l => cases b with
    | cells r' l' => cases r <;> cases r' <;> first | (simp [aobeq] at h; done) | (simp only [aobeq] at h; rw [avbeqL_eq _ _ h])
    | _ => simp [aobeq] at h
  | map l => cases b with
    | map l' => simp only [aobeq] at h; rw [espbeq_eq h]
    | _ => simp [aobeq] at h
  | siter s p => cases b with
    | siter s' p' =>
      simp only [aobeq] at h
      split at h
      · rename_i h1; rw [Nat.eq_of_beq_eq_true h1, lbeq_eq' h]
      · cases h
    | _ => simp [aobeq] at h
  | gone => cases b with
    | gone => rfl
    | _ => simp [aobeq] at h

/-! ### Calls said ahead -/

abbrev Obs := List (Nat × AO)

/-- Does memory hold these? -/
noncomputable def hasAll (σ : Hp) : Obs → Bool
  | [] => true
  | (i, o) :: l => match σ.get i with
    | some o' => match aobeq o o' with
      | true => hasAll σ l
      | false => false
    | none => false
noncomputable def putObs (σ : Hp) : Obs → Hp
  | [] => σ
  | (i, o) :: l => putObs (σ.set i o) l

theorem hasAll_spec {σ : Hp} : ∀ {l : Obs}, hasAll σ l = true → ∀ i o, (i, o) ∈ l → σ.get i = some o
  | [], _, i, o, hm => by cases hm
  | (j, o') :: l, h, i, o, hm => by
    simp only [hasAll] at h
    split at h
    · rename_i o2 hg
      split at h
      · rename_i e
        rcases List.mem_cons.1 hm with e' | hm
        · simp only [Prod.mk.injEq] at e'; obtain ⟨rfl, rfl⟩ := e'
          rw [hg, aobeq_eq e]
        · exact hasAll_spec h i o hm
      · cases h
    · cases h
theorem putObs_n : ∀ (l : Obs) (σ : Hp), (putObs σ l).n = σ.n
  | [], _ => rfl
  | (i, o) :: l, σ => putObs_n l (σ.set i o)
theorem putObs_get : ∀ {l : Obs} {σ : Hp} {id : Nat} {o : AO}, (putObs σ l).get id = some o → (id, o) ∈ l ∨ ((∀ o', (id, o') ∉ l) ∧ σ.get id = some o)
  | [], σ, id, o, h => .inr ⟨fun _ h => (by cases h), h⟩
  | (i, x) :: l, σ, id, o, h => by
    rcases putObs_get (l := l) h with g | ⟨g1, g2⟩
    · exact .inl (List.mem_cons_of_mem _ g)
    · rcases Hp.get_set g2 with ⟨rfl, rfl⟩ | ⟨hne, g3⟩
      · exact .inl List.mem_cons_self
      · refine .inr ⟨fun o' hm => ?_, g3⟩
        rcases List.mem_cons.1 hm with e | hm
        · simp only [Prod.mk.injEq] at e; exact hne e.1
        · exact g1 o' hm

structure Ent where
  f : Nat
  args : List AV
  n0 : Nat
  need : Obs
  v : AV
  put : Obs
  n1 : Nat

noncomputable def Ent.pre (e : Ent) : Hp := putObs ⟨.full 22, e.n0⟩ e.need

theorem Ent.pre_get {e : Ent} {id : Nat} {o : AO} (h : e.pre.get id = some o) : (id, o) ∈ e.need := by
  rcases putObs_get h with g | ⟨_, g⟩
  · exact g
  · have : (⟨.full 22, e.n0⟩ : Hp).get id = none := Tr.get_full 22 id
    rw [this] at g; cases g
theorem Ent.pre_n (e : Ent) : e.pre.n = e.n0 := putObs_n _ _

/-- The first that speaks of this call. -/
noncomputable def findE (L : List Ent) (f : Nat) (args : List AV) (σ : Hp) : Option Ent :=
  match L with
  | [] => none
  | e :: L => match Nat.beq e.f f, Nat.beq e.n0 σ.n with
    | true, true => match avbeqL e.args args, hasAll σ e.need with
      | true, true => some e
      | _, _ => findE L f args σ
    | _, _ => findE L f args σ

theorem findE_spec : ∀ {L : List Ent} {f : Nat} {args : List AV} {σ : Hp} {e : Ent}, findE L f args σ = some e → e ∈ L ∧ e.f = f ∧ e.args = args ∧ e.n0 = σ.n ∧ ∀ i o, (i, o) ∈ e.need → σ.get i = some o
  | [], f, args, σ, e, h => by cases h
  | e' :: L, f, args, σ, e, h => by
    have rec' : findE L f args σ = some e → _ := fun h => by
      obtain ⟨h1, h2⟩ := findE_spec h
      exact (⟨List.mem_cons_of_mem _ h1, h2⟩ : e ∈ e' :: L ∧ e.f = f ∧ e.args = args ∧ e.n0 = σ.n ∧ ∀ i o, (i, o) ∈ e.need → σ.get i = some o)
    simp only [findE] at h
    split at h
    · rename_i e1 e2
      split at h
      · rename_i e3 e4
        simp only [Option.some.injEq] at h; subst h
        exact ⟨List.mem_cons_self, Nat.eq_of_beq_eq_true e1, avbeqL_eq _ _ e3, Nat.eq_of_beq_eq_true e2, hasAll_spec e4⟩
      · exact rec' h
    · exact rec' h

section
variable {P : Program} {E : Env}

/-- What is said of a call holds. -/
def EntOK (P : Program) (E : Env) (e : Ent) : Prop :=
  ∀ σ, e.n0 = σ.n → (∀ i o, (i, o) ∈ e.need → σ.get i = some o) → ∀ base inv V A O W Λ, CxOK inv → HR E base V σ W → base ≤ W.heap.size → VRs V e.args A → inv Λ V.K O W → (∀ b, Own V σ b → ¬ O b) → LvOK V σ →
    ∃ V' O' W' R, Prg V σ O W V' ⟨(putObs σ e.put).t, e.n1⟩ O' W' ∧ HR E base V' ⟨(putObs σ e.put).t, e.n1⟩ W' ∧ inv Λ V'.K O' W' ∧ (∀ b, Own V' ⟨(putObs σ e.put).t, e.n1⟩ b → ¬ O' b) ∧ LvOK V' ⟨(putObs σ e.put).t, e.n1⟩ ∧ VR V' e.v R ∧ Goes P e.f A.toArray W R W'

/-- Memory that holds less. -/
theorem HR.sub {base : Nat} {V : View} {σ σ0 : Hp} {W : World} (h : HR E base V σ W) (hs : ∀ id o, σ0.get id = some o → σ.get id = some o) (hn : σ0.n = σ.n) : HR E base V σ0 W :=
  ⟨h.cell, h.glob, fun id o hid hne => h.obj id o (hs id o hid) hne, fun id id' b s s' ⟨o, l1, n1⟩ ⟨o', l2, n2⟩ m1 m2 => h.inj id id' b s s' ⟨o, hs _ _ l1, n1⟩ ⟨o', hs _ _ l2, n2⟩ m1 m2, fun id x hx => by rw [hn]; exact h.fresh id x hx, fun id o hid => h.all id o (hs id o hid)⟩

theorem EntOK.of {e : Ent} {call : CallF} (hc : CallOK P E call) {σ1 : Hp} (h : call e.f e.args e.pre [] [] = some (e.v, σ1, [])) (hput : ∀ i o, (i, o) ∈ e.put → σ1.get i = some o) (hkeep : ∀ i o, (i, o) ∈ e.need → (∃ o', (i, o') ∈ e.put) ∨ σ1.get i = some o) (hn : σ1.n ≤ e.n1) : EntOK P E e := by
  intro σ hn0 hneed base inv V A O W Λ hcx H hb ha hi hd hlf
  have hsub : ∀ id o, e.pre.get id = some o → σ.get id = some o := fun id o hg => hneed id o (Ent.pre_get hg)
  have hpn : e.pre.n = σ.n := e.pre_n.trans hn0
  have hown0 : ∀ b, Own V e.pre b → Own V σ b := fun b ⟨id, s, ⟨o, l, n⟩, m⟩ => ⟨id, s, ⟨o, hsub _ _ l, n⟩, m⟩
  obtain ⟨V', O', W', R, hP, H1, hi1, hd1, hl1, hv, hg⟩ := hc e.f e.args e.pre [] [] e.v σ1 [] h base (fun _ K O W => inv Λ K O W) V A O W ⟨fun _ K O W K' W' h => hcx.stable Λ K O W K' W' h, fun _ K O W h => hcx.bound Λ K O W h⟩
    (fun lvl h e => by cases e) (H.sub hsub hpn) hb ha hi (fun b hb => hd b (hown0 b hb)) (fun i x hx => by rw [hpn]; exact hlf i x hx)
  have hbd := hcx.bound _ _ _ _ hi
  -- what lies behind
  have key : ∀ id o, (⟨(putObs σ e.put).t, e.n1⟩ : Hp).get id = some o → σ1.get id = some o ∨ (e.pre.get id = none ∧ σ.get id = some o) := by
    intro id o hg
    rcases putObs_get (show (putObs σ e.put).get id = some o from hg) with g | ⟨g1, g2⟩
    · exact .inl (hput id o g)
    · cases hp : e.pre.get id with
      | none => exact .inr ⟨rfl, g2⟩
      | some o2 =>
        have h2 := hsub _ _ hp
        rw [g2] at h2
        simp only [Option.some.injEq] at h2; subst h2
        rcases hkeep id o (Ent.pre_get hp) with ⟨o', hm⟩ | hk
        · exact absurd hm (g1 o')
        · exact .inl hk
  -- what was there and was not needed
  have untouched : ∀ id o, e.pre.get id = none → σ.get id = some o → o ≠ .gone → ∃ blk s, V.m id = some (blk, s) ∧ base ≤ blk ∧ blk < W.heap.size ∧ OR V' W' blk s o ∧ ¬ Own V e.pre blk ∧ ¬ O blk := by
    intro id o hp hg hne
    obtain ⟨blk, s, hm, h1, h2, h3⟩ := H.obj id o hg hne
    have hno : ¬ Own V e.pre blk := fun ⟨id', s', ⟨o', l', n'⟩, m'⟩ => by
      have := H.inj id id' blk s s' ⟨o, hg, hne⟩ ⟨o', hsub _ _ l', n'⟩ hm m'
      rw [this, l'] at hp; cases hp
    have hO : ¬ O blk := hd blk ⟨id, s, ⟨o, hg, hne⟩, hm⟩
    refine ⟨blk, s, hm, h1, h2, h3.mono hP.le (hP.le.N _ _ _ hm) (fun i v hk => ?_) (hP.fr.block blk h2 (fun x => x.elim hno hO)), hno, hO⟩
    rcases hP.K blk i v hk with x | (x | x) | x
    · exact x
    · exact absurd x hno
    · exact absurd x hO
    · omega
  have hsz := hP.fr.size
  have hown2 : ∀ b, Own V' ⟨(putObs σ e.put).t, e.n1⟩ b → Own V' σ1 b ∨ (Own V σ b ∧ b < W.heap.size) := by
    rintro b ⟨id, s, ⟨o, hg, hne⟩, hm⟩
    rcases key id o hg with g | ⟨g1, g2⟩
    · exact .inl ⟨id, s, ⟨o, g, hne⟩, hm⟩
    · obtain ⟨blk, s', hm', _, h2, _⟩ := untouched id o g1 g2 hne
      have := hP.le.m _ _ hm'
      rw [hm] at this
      simp only [Option.some.injEq, Prod.mk.injEq] at this
      obtain ⟨rfl, rfl⟩ := this
      exact .inr ⟨⟨id, s, ⟨o, g2, hne⟩, hm'⟩, h2⟩
  have hmix : ∀ id id' b s s' o o', σ1.get id = some o → o ≠ .gone → e.pre.get id' = none → σ.get id' = some o' → o' ≠ .gone → V'.m id = some (b, s) → V'.m id' = some (b, s') → False := by
    intro id id' b s s' o o' g1 n1 g2 g3 n2 m1 m2
    obtain ⟨blk, s2, hm', _, h2, _, hno, _⟩ := untouched id' o' g2 g3 n2
    have := hP.le.m _ _ hm'
    rw [m2] at this
    simp only [Option.some.injEq, Prod.mk.injEq] at this
    obtain ⟨rfl, _⟩ := this
    rcases hP.own b ⟨id, s, ⟨o, g1, n1⟩, m1⟩ with x | x
    · exact hno x
    · omega
  have hnn : σ.n ≤ e.n1 := by have := hP.nn; omega
  refine ⟨V', O', W', R, ⟨hP.le, hP.fr.weaken (fun b _ x => x.imp (hown0 b) (fun y => y)), fun b hb => ?_, hP.out, hP.mb, fun b o v hv => (hP.K b o v hv).imp (fun x => x) (fun x => x.imp (fun y => y.imp (hown0 b) (fun z => z)) (fun y => y)), fun id x hx => by rw [← hpn]; exact hP.nm id x hx, hnn⟩,
    ⟨H1.cell, H1.glob, fun id o hg hne => ?_, fun id id' b s s' ⟨o, g1, n1⟩ ⟨o', g2, n2⟩ m1 m2 => ?_, fun id x hx => ⟨Nat.lt_of_lt_of_le (H1.fresh id x hx).1 hn, (H1.fresh id x hx).2⟩, fun id o hg => ?_⟩, hi1, fun b hb ho => ?_, fun i x hx => Nat.lt_of_lt_of_le (hl1 i x hx) hn, hv, hg⟩
  · rcases hown2 b hb with x | ⟨x, _⟩
    · exact (hP.own b x).imp (hown0 b) (fun y => y)
    · exact .inl x
  · rcases key id o hg with g | ⟨g1, g2⟩
    · exact H1.obj id o g hne
    · obtain ⟨blk, s, hm, h1, h2, h3, _⟩ := untouched id o g1 g2 hne
      exact ⟨blk, s, hP.le.m _ _ hm, h1, by omega, h3⟩
  · rcases key id o g1 with g | ⟨k1, k2⟩ <;> rcases key id' o' g2 with g' | ⟨k3, k4⟩
    · exact H1.inj id id' b s s' ⟨o, g, n1⟩ ⟨o', g', n2⟩ m1 m2
    · exact (hmix id id' b s s' o o' g n1 k3 k4 n2 m1 m2).elim
    · exact (hmix id' id b s' s o' o g' n2 k1 k2 n1 m2 m1).elim
    · obtain ⟨b1, s1, hm1, _⟩ := untouched id o k1 k2 n1
      obtain ⟨b2, s2, hm2, _⟩ := untouched id' o' k3 k4 n2
      have e1 := hP.le.m _ _ hm1
      have e2 := hP.le.m _ _ hm2
      rw [m1] at e1
      rw [m2] at e2
      simp only [Option.some.injEq, Prod.mk.injEq] at e1 e2
      obtain ⟨rfl, rfl⟩ := e1
      obtain ⟨rfl, rfl⟩ := e2
      exact H.inj id id' b s s' ⟨o, k2, n1⟩ ⟨o', k4, n2⟩ hm1 hm2
  · rcases key id o hg with g | ⟨_, g2⟩
    · exact H1.all id o g
    · obtain ⟨x, hx⟩ := H.all id o g2; exact ⟨x, hP.le.m _ _ hx⟩
  · rcases hown2 b hb with x | ⟨x, hlt⟩
    · exact hd1 b x ho
    · rcases hP.out b ho with y | y
      · exact hd b x y
      · omega

/-- The engine, with calls said ahead. -/
noncomputable def callT (E : Env) (L : List Ent) : Nat → CallF
  | 0 => fun _ _ _ _ _ => none
  | n + 1 => fun f args σ hs Λ => match findE L f args σ with
    | some e => some (e.v, ⟨(putObs σ e.put).t, e.n1⟩, Λ)
    | none => bodyN E (callT E L n) f args σ hs Λ

theorem callT_ok (hE : EnvOK P E) (hX : ExtOK P E) (hN : NameOK E) (hmix : P.follows .mixedOrders = true) {L : List Ent} (hL : ∀ e ∈ L, EntOK P E e) : ∀ n, CallOK P E (callT E L n)
  | 0 => by intro f args σ hs Λ v σ' Λ' h; simp [callT] at h
  | n + 1 => by
    have ih := callT_ok hE hX hN hmix hL n
    intro f args σ hs Λ v σ' Λ' h
    simp only [callT] at h
    split at h
    · rename_i e hf
      simp only [Option.some.injEq, Prod.mk.injEq] at h; obtain ⟨rfl, rfl, rfl⟩ := h
      obtain ⟨h1, rfl, rfl, h4, h5⟩ := findE_spec hf
      intro base inv V A O W hcx hh H hb ha hi hd hlf
      exact hL e h1 σ h4 h5 base inv V A O W Λ hcx H hb ha hi hd hlf
    · exact body_ok hE hX hN ih (code_ok hE hmix _ ih) f args σ hs Λ v σ' Λ' h
end
end Go.Eng

/-
  THE ENGINE, 56: calls said ahead, made for the kernel.
-/
namespace Go.Eng
open Go

attribute [local irreducible] upTo

noncomputable def stepF (E : Env) (call : CallF) : CallF := fun f args σ hs Λ => Option.rec (motive := fun _ => RF) (Option.rec (motive := fun _ => RF) none (fun fn => funcF E call hs args σ Λ fn) (E.fn f)) (fun v => some (v, σ, Λ)) (E.ext f args)

theorem stepF_eq (E : Env) (call : CallF) : stepF E call = bodyN E call := by
  funext f args σ hs Λ
  unfold stepF bodyN
  cases E.ext f args with
  | some v => rfl
  | none =>
    simp only
    cases E.fn f with
    | none => rfl
    | some fn =>
      simp only [funcF]
      cases fn.body with
      | none => rfl
      | some body =>
        simp only [bodyF]
        have e := execF_eq (E := E) (call := call) body hs ⟨tmps0 fn.ntmps (.full (dep fn.ntmps)) 0 args, σ, [], Λ, args.length + (fn.ntmps - args.length), false⟩
        simp only at e
        rw [e]
        cases exec E call body hs ⟨tmps0 fn.ntmps (.full (dep fn.ntmps)) 0 args, σ, [], Λ, args.length + (fn.ntmps - args.length), false⟩ with
        | none => rfl
        | some r =>
          obtain ⟨e, st⟩ := r
          cases e with
          | exit i => rfl
          | normal => exact finF_eq _ _
          | ret => exact finF_eq _ _

noncomputable def findF (L : List Ent) (f : Nat) (args : List AV) (σ : Hp) : Option Ent :=
  List.rec (motive := fun _ => Option Ent) none (fun e _ ih => Bool.rec (motive := fun _ => Option Ent) ih (Bool.rec (motive := fun _ => Option Ent) ih (Bool.rec (motive := fun _ => Option Ent) ih (Bool.rec (motive := fun _ => Option Ent) ih (some e) (hasAll σ e.need)) (avbeqL e.args args)) (Nat.beq e.n0 σ.n)) (Nat.beq e.f f)) L

theorem findF_eq : ∀ (L : List Ent) (f : Nat) (args : List AV) (σ : Hp), findF L f args σ = findE L f args σ
  | [], f, args, σ => rfl
  | e :: L, f, args, σ => by
    have ih := findF_eq L f args σ
    show @Bool.rec (fun _ => Option Ent) (findF L f args σ) (@Bool.rec (fun _ => Option Ent) (findF L f args σ) (@Bool.rec (fun _ => Option Ent) (findF L f args σ) (@Bool.rec (fun _ => Option Ent) (findF L f args σ) (some e) (hasAll σ e.need)) (avbeqL e.args args)) (Nat.beq e.n0 σ.n)) (Nat.beq e.f f) = _
    rw [ih]
    simp only [findE]
    cases Nat.beq e.f f <;> cases Nat.beq e.n0 σ.n <;> cases avbeqL e.args args <;> cases hasAll σ e.need <;> rfl

noncomputable def sayF (Λ : List LF) (e : Ent) (σ : Hp) : RF := some (e.v, ⟨(putObs σ e.put).t, e.n1⟩, Λ)
noncomputable def callTF (E : Env) (L : List Ent) (n : Nat) : CallF :=
  Nat.rec (motive := fun _ => CallF) (fun _ _ _ _ _ => none) (fun _ ih f args σ hs Λ => Option.rec (motive := fun _ => RF) (stepF E ih f args σ hs Λ) (fun e => sayF Λ e σ) (findF L f args σ)) n

theorem callTF_eq (E : Env) (L : List Ent) : ∀ n, callTF E L n = callT E L n
  | 0 => rfl
  | n + 1 => by
    have ih := callTF_eq E L n
    funext f args σ hs Λ
    show @Option.rec _ (fun _ => RF) (stepF E (callTF E L n) f args σ hs Λ) (fun e => sayF Λ e σ) (findF L f args σ) = _
    have e : callT E L (n + 1) f args σ hs Λ = match findE L f args σ with
      | some e => some (e.v, ⟨(putObs σ e.put).t, e.n1⟩, Λ)
      | none => bodyN E (callT E L n) f args σ hs Λ := rfl
    rw [ih, stepF_eq, findF_eq, e]
    cases findE L f args σ <;> rfl

/-! ### What is asked of the kernel -/

noncomputable def hasKey (i : Nat) (l : Obs) : Bool := List.rec (motive := fun _ => Bool) false (fun x _ ih => Bool.rec (motive := fun _ => Bool) ih true (Nat.beq x.1 i)) l
noncomputable def keepAll (σ : Hp) (put : Obs) : Obs → Bool
  | [] => true
  | (i, o) :: l => match hasKey i put with
    | true => keepAll σ put l
    | false => match σ.get i with
      | some o' => match aobeq o o' with
        | true => keepAll σ put l
        | false => false
      | none => false

theorem hasKey_spec {i : Nat} : ∀ {l : Obs}, hasKey i l = true → ∃ o, (i, o) ∈ l
  | [], h => by cases h
  | (j, o) :: l, h => by
    have h' : @Bool.rec (fun _ => Bool) (hasKey i l) true (Nat.beq j i) = true := h
    cases e : Nat.beq j i with
    | true => have := Nat.eq_of_beq_eq_true e; subst this; exact ⟨o, List.mem_cons_self⟩
    | false =>
      rw [e] at h'
      obtain ⟨o', h2⟩ := hasKey_spec (l := l) h'
      exact ⟨o', List.mem_cons_of_mem _ h2⟩
theorem keepAll_spec {σ : Hp} {put : Obs} : ∀ {l : Obs}, keepAll σ put l = true → ∀ i o, (i, o) ∈ l → (∃ o', (i, o') ∈ put) ∨ σ.get i = some o
  | [], _, i, o, hm => by cases hm
  | (j, o') :: l, h, i, o, hm => by
    simp only [keepAll] at h
    split at h
    · rename_i e
      rcases List.mem_cons.1 hm with e' | hm
      · simp only [Prod.mk.injEq] at e'; obtain ⟨rfl, rfl⟩ := e'
        exact .inl (hasKey_spec e)
      · exact keepAll_spec h i o hm
    · split at h
      · rename_i o2 hg
        split at h
        · rename_i e
          rcases List.mem_cons.1 hm with e' | hm
          · simp only [Prod.mk.injEq] at e'; obtain ⟨rfl, rfl⟩ := e'
            exact .inr (by rw [hg, aobeq_eq e])
          · exact keepAll_spec h i o hm
        · cases h
      · cases h

noncomputable def ansE (e : Ent) (r : RF) : Bool :=
  match r with
  | some (w, σ, []) => match avbeq w e.v, hasAll σ e.put, keepAll σ e.put e.need with
    | true, true, true => Nat.ble σ.n e.n1
    | _, _, _ => false
  | _ => false
noncomputable def entF (E : Env) (L : List Ent) (n : Nat) (e : Ent) : Bool := ansE e (callTF E L n e.f e.args e.pre [] [])

section
variable {P : Program} {E : Env}

theorem ent_of (hE : EnvOK P E) (hX : ExtOK P E) (hN : NameOK E) (hmix : P.follows .mixedOrders = true) {L : List Ent} (hL : ∀ e ∈ L, EntOK P E e) {n : Nat} {e : Ent} (h : entF E L n e = true) : EntOK P E e := by
  unfold entF at h
  rw [callTF_eq] at h
  unfold ansE at h
  split at h
  · rename_i w σ hc
    split at h
    · rename_i h1 h2 h3
      have := avbeq_eq _ _ h1; subst this
      exact EntOK.of (callT_ok hE hX hN hmix hL n) hc (hasAll_spec h2) (keepAll_spec h3) (Nat.le_of_ble_eq_true h)
    · cases h
  · cases h

/-- Is the answer of a law of no parameters true, with calls said ahead? -/
noncomputable def isTrueT (E : Env) (L : List Ent) (n f : Nat) : Bool :=
  match E.ext f [], stepF E (callTF E L n) f [] .empty [] [] with
  | none, some (.bool true, _, []) => true
  | _, _ => false

theorem calls_trueT (hE : EnvOK P E) (hX : ExtOK P E) (hN : NameOK E) (hmix : P.follows .mixedOrders = true) {L : List Ent} (hL : ∀ e ∈ L, EntOK P E e) {n f : Nat} (h : isTrueT E L n f = true) {V : View} {W : World} (hK : ∀ b o x, V.K b o = some x → W.cell? ⟨b, o, none⟩ = some x) (hg : GlobK E V) :
    Calls P f #[] W fun e W' => e = .returned (.bool true) ∧ Fr (fun _ => False) W W' := by
  unfold isTrueT at h
  rw [stepF_eq, callTF_eq] at h
  split at h
  · rename_i σ h1 h2
    refine (calls_of hE hN hmix (callT_ok hE hX hN hmix hL n) h1 h2 (.nil V) rfl hK hg).mono fun e W' ⟨V', R, he, hv, hf⟩ => ?_
    cases hv
    exact ⟨he, hf⟩
  · cases h

theorem ents_nil : ∀ e ∈ ([] : List Ent), EntOK P E e := fun e he => by cases he
theorem ents_cons {e : Ent} {L : List Ent} (h : EntOK P E e) (hL : ∀ e ∈ L, EntOK P E e) : ∀ e' ∈ e :: L, EntOK P E e' := fun e' he => by
  rcases List.mem_cons.1 he with rfl | he
  · exact h
  · exact hL e' he
end
end Go.Eng

set_option maxRecDepth 100000
namespace Go.Proofs.Ytmmadmbikpfkbaa
open Go Go.Eng
noncomputable def tyT : Tr KT := (.nd (.nd (.nd (.nd (.nd (.nd (.nd (.nd .lf (some (.struct [⟨0, 17, true⟩, ⟨1, 17, true⟩, ⟨2, 17, true⟩, ⟨3, 9, true⟩])) .lf) none .lf) (some (.int .i64)) (.nd .lf (some .fn) .lf)) (some .ptr) (.nd (.nd .lf (some .fn) .lf) (some (.struct [⟨0, 3, true⟩, ⟨1, 3, true⟩])) (.nd .lf (some .fn) .lf))) (some (.struct [⟨0, 2, true⟩, ⟨1, 3, true⟩, ⟨2, 4, true⟩, ⟨3, 6, true⟩])) (.nd (.nd (.nd (.nd .lf (some (.int .u8)) .lf) (some .fn) .lf) none (.nd .lf (some (.struct [⟨0, 3, true⟩, ⟨1, 56, true⟩])) .lf)) (some (.slice 48)) (.nd (.nd .lf (some .fn) .lf) (some (.struct [⟨0, 3, true⟩, ⟨1, 54, true⟩])) (.nd .lf (some .fn) .lf)))) (some (.int .i64)) (.nd (.nd (.nd (.nd (.nd .lf (some (.struct [⟨0, 129, false⟩])) .lf) (some .fn) .lf) (some .fn) (.nd .lf (some .fn) .lf)) (some (.struct [⟨0, 17, true⟩])) (.nd (.nd .lf (some (.struct [⟨0, 25, true⟩, ⟨4, 38, true⟩, ⟨5, 80, true⟩, ⟨6, 81, true⟩])) .lf) (some .ptr) (.nd .lf (some .fn) .lf))) (some .str) (.nd (.nd (.nd (.nd .lf (some (.int .i32)) .lf) (some .fn) .lf) (some .fn) (.nd .lf (some .fn) .lf)) (some (.arr 3 3)) (.nd (.nd .lf (some .fn) .lf) (some .fn) (.nd .lf (some .fn) .lf))))) (some .fn) (.nd (.nd (.nd (.nd (.nd (.nd .lf (some (.arr 0 16)) .lf) (some .fn) .lf) (some .fn) (.nd .lf (some .fn) .lf)) (some .ptr) (.nd (.nd .lf (some (.map 56 3)) .lf) none (.nd .lf (some (.struct [⟨0, 3, true⟩, ⟨1, 111, true⟩])) .lf))) (some .str) (.nd (.nd (.nd (.nd .lf (some .ptr) .lf) (some .fn) .lf) (some .fn) (.nd .lf (some .fn) .lf)) (some (.struct [⟨0, 22, true⟩, ⟨1, 23, true⟩, ⟨2, 3, true⟩, ⟨3, 3, true⟩])) (.nd .lf none (.nd .lf (some .ptr) .lf)))) (some (.int .u8)) (.nd (.nd (.nd (.nd (.nd .lf (some (.int .u32)) .lf) (some .fn) .lf) (some .fn) (.nd .lf (some (.map 104 4)) .lf)) (some (.int .i32)) (.nd (.nd .lf (some .fn) .lf) (some (.struct [⟨0, 3, true⟩, ⟨1, 3, true⟩])) (.nd .lf (some .fn) .lf))) (some (.struct [⟨0, 9, true⟩, ⟨1, 12, true⟩])) (.nd (.nd (.nd (.nd .lf (some (.struct [⟨0, 12, true⟩, ⟨1, 12, true⟩, ⟨2, 133, true⟩, ⟨3, 134, true⟩, ⟨4, 5, true⟩, ⟨5, 5, true⟩, ⟨6, 135, true⟩, ⟨7, 136, true⟩, ⟨8, 137, true⟩, ⟨9, 138, true⟩, ⟨10, 139, true⟩])) .lf) (some .fn) .lf) (some (.struct [⟨0, 9, true⟩, ⟨1, 3, true⟩, ⟨2, 38, true⟩])) (.nd .lf (some (.arr 3 35)) .lf)) (some (.slice 38)) (.nd (.nd .lf (some .fn) .lf) (some .fn) (.nd .lf (some .fn) .lf)))))) none (.nd (.nd (.nd (.nd (.nd (.nd (.nd .lf (some (.struct [⟨0, 17, true⟩, ⟨1, 17, true⟩, ⟨2, 17, true⟩, ⟨3, 9, true⟩])) .lf) (some .fn) .lf) none (.nd .lf (some .fn) .lf)) (some .ptr) (.nd (.nd .lf (some (.slice 113)) .lf) (some (.struct [⟨0, 3, true⟩, ⟨1, 3, true⟩])) (.nd .lf (some (.struct [⟨0, 3, true⟩, ⟨1, 111, true⟩])) .lf))) (some (.struct [⟨0, 2, true⟩, ⟨1, 3, true⟩, ⟨2, 4, true⟩, ⟨3, 6, true⟩])) (.nd (.nd (.nd (.nd .lf (some .fn) .lf) (some .fn) .lf) (some .fn) (.nd .lf (some (.struct [⟨0, 3, true⟩, ⟨1, 56, true⟩])) .lf)) (some (.struct [⟨0, 22, true⟩, ⟨1, 23, true⟩, ⟨2, 3, true⟩, ⟨3, 3, true⟩])) (.nd (.nd .lf (some .fn) .lf) (some (.struct [⟨0, 3, true⟩, ⟨1, 54, true⟩])) (.nd .lf (some .fn) .lf)))) (some .bool) (.nd (.nd (.nd (.nd (.nd .lf (some .fn) .lf) (some .fn) .lf) none (.nd .lf (some .fn) .lf)) (some (.ifc true)) (.nd (.nd .lf (some .fn) .lf) (some (.struct [⟨0, 3, true⟩, ⟨1, 3, true⟩])) (.nd .lf (some .fn) .lf))) (some (.int .u64)) (.nd (.nd (.nd (.nd .lf (some (.struct [⟨0, 12, true⟩, ⟨1, 12, true⟩, ⟨2, 133, true⟩, ⟨3, 134, true⟩, ⟨4, 5, true⟩, ⟨5, 5, true⟩, ⟨6, 135, true⟩, ⟨7, 136, true⟩, ⟨8, 137, true⟩, ⟨9, 138, true⟩, ⟨10, 139, true⟩])) .lf) (some .fn) .lf) (some .fn) (.nd .lf (some .fn) .lf)) (some .fn) (.nd (.nd .lf (some .fn) .lf) (some .fn) (.nd .lf (some .fn) .lf))))) (some (.int .i64)) (.nd (.nd (.nd (.nd (.nd (.nd .lf (some (.struct [⟨0, 129, false⟩])) .lf) none .lf) none .lf) (some (.struct [⟨0, 17, true⟩])) (.nd (.nd .lf (some (.struct [⟨0, 25, true⟩, ⟨4, 38, true⟩, ⟨5, 80, true⟩, ⟨6, 81, true⟩])) .lf) (some .fn) (.nd .lf (some .fn) .lf))) (some .str) (.nd (.nd (.nd (.nd .lf (some (.int .i32)) .lf) (some .fn) .lf) (some .fn) .lf) (some .fn) (.nd (.nd .lf (some .fn) .lf) (some .fn) (.nd .lf (some (.map 9 4)) .lf)))) (some (.int .u8)) (.nd (.nd (.nd (.nd (.nd .lf (some (.int .u8)) .lf) (some .fn) .lf) (some (.slice 3)) (.nd .lf (some .fn) .lf)) (some (.slice 46)) (.nd .lf (some (.arr 5 53)) (.nd .lf (some .fn) .lf))) (some (.struct [⟨0, 9, true⟩, ⟨1, 12, true⟩])) (.nd (.nd (.nd .lf (some .fn) .lf) (some (.struct [⟨0, 9, true⟩, ⟨1, 3, true⟩, ⟨2, 38, true⟩])) (.nd .lf (some .fn) .lf)) (some .fn) (.nd .lf (some .fn) (.nd .lf (some .fn) .lf)))))))
noncomputable def szT : Tr Nat := (.nd (.nd (.nd (.nd (.nd (.nd (.nd (.nd .lf (some 4) .lf) (some 1) .lf) (some 1) (.nd .lf (some 1) .lf)) (some 1) (.nd (.nd .lf (some 1) .lf) (some 2) (.nd .lf (some 1) .lf))) (some 4) (.nd (.nd (.nd (.nd .lf (some 1) .lf) (some 1) .lf) (some 1) (.nd .lf (some 12) .lf)) (some 1) (.nd (.nd .lf (some 1) .lf) (some 11) (.nd .lf (some 1) .lf)))) (some 1) (.nd (.nd (.nd (.nd (.nd .lf (some 0) .lf) (some 1) .lf) (some 1) (.nd .lf (some 1) .lf)) (some 1) (.nd (.nd .lf (some 7) .lf) (some 1) (.nd .lf (some 1) .lf))) (some 1) (.nd (.nd (.nd (.nd .lf (some 1) .lf) (some 1) .lf) (some 1) (.nd .lf (some 1) .lf)) (some 3) (.nd (.nd .lf (some 1) .lf) (some 1) (.nd .lf (some 1) .lf))))) (some 1) (.nd (.nd (.nd (.nd (.nd (.nd .lf (some 0) .lf) (some 1) .lf) (some 1) (.nd .lf (some 1) .lf)) (some 1) (.nd (.nd .lf (some 1) .lf) (some 1) (.nd .lf (some 2) .lf))) (some 1) (.nd (.nd (.nd (.nd .lf (some 1) .lf) (some 1) .lf) (some 1) (.nd .lf (some 1) .lf)) (some 4) (.nd (.nd .lf (some 1) .lf) (some 1) (.nd .lf (some 1) .lf)))) (some 1) (.nd (.nd (.nd (.nd (.nd .lf (some 1) .lf) (some 1) .lf) (some 1) (.nd .lf (some 1) .lf)) (some 1) (.nd (.nd .lf (some 1) .lf) (some 2) (.nd .lf (some 1) .lf))) (some 2) (.nd (.nd (.nd (.nd .lf (some 11) .lf) (some 1) .lf) (some 3) (.nd .lf (some 3) .lf)) (some 1) (.nd (.nd .lf (some 1) .lf) (some 1) (.nd .lf (some 1) .lf)))))) (some 1) (.nd (.nd (.nd (.nd (.nd (.nd (.nd .lf (some 4) .lf) (some 1) .lf) (some 1) (.nd .lf (some 1) .lf)) (some 1) (.nd (.nd .lf (some 1) .lf) (some 2) (.nd .lf (some 2) .lf))) (some 4) (.nd (.nd (.nd (.nd .lf (some 1) .lf) (some 1) .lf) (some 1) (.nd .lf (some 12) .lf)) (some 4) (.nd (.nd .lf (some 1) .lf) (some 11) (.nd .lf (some 1) .lf)))) (some 1) (.nd (.nd (.nd (.nd (.nd .lf (some 1) .lf) (some 1) .lf) (some 1) (.nd .lf (some 1) .lf)) (some 1) (.nd (.nd .lf (some 1) .lf) (some 2) (.nd .lf (some 1) .lf))) (some 1) (.nd (.nd (.nd (.nd .lf (some 11) .lf) (some 1) .lf) (some 1) (.nd .lf (some 1) .lf)) (some 1) (.nd (.nd .lf (some 1) .lf) (some 1) (.nd .lf (some 1) .lf))))) (some 1) (.nd (.nd (.nd (.nd (.nd (.nd .lf (some 0) .lf) (some 1) .lf) (some 1) (.nd .lf (some 1) .lf)) (some 1) (.nd (.nd .lf (some 7) .lf) (some 1) (.nd .lf (some 1) .lf))) (some 1) (.nd (.nd (.nd (.nd .lf (some 1) .lf) (some 1) .lf) (some 1) (.nd .lf (some 1) .lf)) (some 1) (.nd (.nd .lf (some 1) .lf) (some 1) (.nd .lf (some 1) .lf)))) (some 1) (.nd (.nd (.nd (.nd (.nd .lf (some 1) .lf) (some 1) .lf) (some 1) (.nd .lf (some 1) .lf)) (some 1) (.nd (.nd .lf (some 1) .lf) (some 10) (.nd .lf (some 1) .lf))) (some 2) (.nd (.nd (.nd (.nd .lf (some 1) .lf) (some 1) .lf) (some 3) (.nd .lf (some 1) .lf)) (some 1) (.nd (.nd .lf (some 1) .lf) (some 1) (.nd .lf (some 1) .lf)))))))
noncomputable def byT : Tr Nat := (.nd (.nd (.nd (.nd (.nd (.nd (.nd (.nd .lf (some 40) .lf) (some 0) .lf) (some 8) (.nd .lf (some 8) .lf)) (some 8) (.nd (.nd .lf (some 8) .lf) (some 16) (.nd .lf (some 8) .lf))) (some 24) (.nd (.nd (.nd (.nd .lf (some 1) .lf) (some 8) .lf) (some 0) (.nd .lf (some 96) .lf)) (some 24) (.nd (.nd .lf (some 8) .lf) (some 88) (.nd .lf (some 8) .lf)))) (some 8) (.nd (.nd (.nd (.nd (.nd .lf (some 0) .lf) (some 8) .lf) (some 8) (.nd .lf (some 8) .lf)) (some 8) (.nd (.nd .lf (some 120) .lf) (some 8) (.nd .lf (some 8) .lf))) (some 16) (.nd (.nd (.nd (.nd .lf (some 4) .lf) (some 8) .lf) (some 8) (.nd .lf (some 8) .lf)) (some 24) (.nd (.nd .lf (some 8) .lf) (some 8) (.nd .lf (some 8) .lf))))) (some 8) (.nd (.nd (.nd (.nd (.nd (.nd .lf (some 0) .lf) (some 8) .lf) (some 8) (.nd .lf (some 8) .lf)) (some 8) (.nd (.nd .lf (some 8) .lf) (some 0) (.nd .lf (some 16) .lf))) (some 16) (.nd (.nd (.nd (.nd .lf (some 8) .lf) (some 8) .lf) (some 8) (.nd .lf (some 8) .lf)) (some 64) (.nd (.nd .lf (some 0) .lf) (some 0) (.nd .lf (some 8) .lf)))) (some 1) (.nd (.nd (.nd (.nd (.nd .lf (some 4) .lf) (some 8) .lf) (some 8) (.nd .lf (some 8) .lf)) (some 4) (.nd (.nd .lf (some 8) .lf) (some 16) (.nd .lf (some 8) .lf))) (some 24) (.nd (.nd (.nd (.nd .lf (some 48) .lf) (some 8) .lf) (some 48) (.nd .lf (some 24) .lf)) (some 24) (.nd (.nd .lf (some 8) .lf) (some 8) (.nd .lf (some 8) .lf)))))) (some 0) (.nd (.nd (.nd (.nd (.nd (.nd (.nd .lf (some 40) .lf) (some 8) .lf) (some 0) (.nd .lf (some 8) .lf)) (some 8) (.nd (.nd .lf (some 24) .lf) (some 16) (.nd .lf (some 16) .lf))) (some 24) (.nd (.nd (.nd (.nd .lf (some 8) .lf) (some 8) .lf) (some 8) (.nd .lf (some 96) .lf)) (some 64) (.nd (.nd .lf (some 8) .lf) (some 88) (.nd .lf (some 8) .lf)))) (some 1) (.nd (.nd (.nd (.nd (.nd .lf (some 8) .lf) (some 8) .lf) (some 0) (.nd .lf (some 8) .lf)) (some 16) (.nd (.nd .lf (some 8) .lf) (some 16) (.nd .lf (some 8) .lf))) (some 8) (.nd (.nd (.nd (.nd .lf (some 48) .lf) (some 8) .lf) (some 8) (.nd .lf (some 8) .lf)) (some 8) (.nd (.nd .lf (some 8) .lf) (some 8) (.nd .lf (some 8) .lf))))) (some 8) (.nd (.nd (.nd (.nd (.nd (.nd .lf (some 0) .lf) (some 0) .lf) (some 0) (.nd .lf (some 0) .lf)) (some 8) (.nd (.nd .lf (some 120) .lf) (some 8) (.nd .lf (some 8) .lf))) (some 16) (.nd (.nd (.nd (.nd .lf (some 4) .lf) (some 8) .lf) (some 8) (.nd .lf (some 0) .lf)) (some 8) (.nd (.nd .lf (some 8) .lf) (some 8) (.nd .lf (some 8) .lf)))) (some 1) (.nd (.nd (.nd (.nd (.nd .lf (some 1) .lf) (some 8) .lf) (some 24) (.nd .lf (some 8) .lf)) (some 24) (.nd (.nd .lf (some 0) .lf) (some 80) (.nd .lf (some 8) .lf))) (some 24) (.nd (.nd (.nd (.nd .lf (some 8) .lf) (some 8) .lf) (some 48) (.nd .lf (some 8) .lf)) (some 8) (.nd (.nd .lf (some 0) .lf) (some 8) (.nd .lf (some 8) .lf)))))))
noncomputable def zeT : Tr AV := (.nd (.nd (.nd (.nd (.nd (.nd (.nd (.nd .lf (some (.agg [.nilp, .nilp, .nilp, (.str [])])) .lf) (some (.tup [.nilp, (.int .i64 (0))])) .lf) (some (.int .i64 (0))) (.nd .lf (some .nilf) .lf)) (some .nilp) (.nd (.nd .lf (some .nilf) .lf) (some (.agg [(.int .i64 (0)), (.int .i64 (0))])) (.nd .lf (some .nilf) .lf))) (some (.agg [(.int .i64 (0)), (.int .i64 (0)), (.bool false), (.int .u8 (0))])) (.nd (.nd (.nd (.nd .lf (some (.int .u8 (0))) .lf) (some .nilf) .lf) (some (.tup [.nils, (.int .i64 (0))])) (.nd .lf (some (.agg [(.int .i64 (0)), (.int .i64 (0)), (.int .i64 (0)), (.int .i64 (0)), (.int .i64 (0)), (.int .i64 (0)), (.int .i64 (0)), (.int .i64 (0)), (.int .i64 (0)), (.int .i64 (0)), (.int .i64 (0)), (.int .i64 (0))])) .lf)) (some .nils) (.nd (.nd .lf (some .nilf) .lf) (some (.agg [(.int .i64 (0)), (.int .i64 (0)), (.int .i64 (0)), (.int .i64 (0)), (.int .i64 (0)), (.int .i64 (0)), (.int .i64 (0)), (.int .i64 (0)), (.int .i64 (0)), (.int .i64 (0)), (.int .i64 (0))])) (.nd .lf (some .nilf) .lf)))) (some (.int .i64 (0))) (.nd (.nd (.nd (.nd (.nd .lf (some (.agg [])) .lf) (some .nilf) .lf) (some .nilf) (.nd .lf (some .nilf) .lf)) (some (.agg [.nilp])) (.nd (.nd .lf (some (.agg [.nils, .nils, (.int .i64 (0)), (.int .i64 (0)), .nils, .nils, .nilm])) .lf) (some .nilp) (.nd .lf (some .nilf) .lf))) (some (.str [])) (.nd (.nd (.nd (.nd .lf (some (.int .i32 (0))) .lf) (some .nilf) .lf) (some .nilf) (.nd .lf (some .nilf) .lf)) (some (.agg [(.int .i64 (0)), (.int .i64 (0)), (.int .i64 (0))])) (.nd (.nd .lf (some .nilf) .lf) (some .nilf) (.nd .lf (some .nilf) .lf))))) (some .nilf) (.nd (.nd (.nd (.nd (.nd (.nd .lf (some (.agg [])) .lf) (some .nilf) .lf) (some .nilf) (.nd .lf (some .nilf) .lf)) (some .nilp) (.nd (.nd .lf (some .nilm) .lf) (some (.tup [(.int .i64 (0)), (.int .i64 (0)), (.int .i64 (0)), (.int .i64 (0))])) (.nd .lf (some (.agg [(.int .i64 (0)), .nilf])) .lf))) (some (.str [])) (.nd (.nd (.nd (.nd .lf (some .nilp) .lf) (some .nilf) .lf) (some .nilf) (.nd .lf (some .nilf) .lf)) (some (.agg [.nils, .nils, (.int .i64 (0)), (.int .i64 (0))])) (.nd (.nd .lf (some (.tup [(.agg [(.int .i64 (0)), (.int .i64 (0)), (.int .i64 (0)), (.int .i64 (0)), (.int .i64 (0)), (.int .i64 (0)), (.int .i64 (0)), (.int .i64 (0)), (.int .i64 (0)), (.int .i64 (0)), (.int .i64 (0))]), (.int .i64 (0)), (.int .i64 (0)), (.int .i64 (0))])) .lf) (some (.tup [.nilp, (.agg [(.int .i64 (0)), (.int .i64 (0)), (.int .i64 (0)), (.int .i64 (0)), (.int .i64 (0)), (.int .i64 (0)), (.int .i64 (0)), (.int .i64 (0)), (.int .i64 (0)), (.int .i64 (0)), (.int .i64 (0))]), (.int .i64 (0))])) (.nd .lf (some .nilp) .lf)))) (some (.int .u8 (0))) (.nd (.nd (.nd (.nd (.nd .lf (some (.int .u32 (0))) .lf) (some .nilf) .lf) (some .nilf) (.nd .lf (some .nilm) .lf)) (some (.int .i32 (0))) (.nd (.nd .lf (some .nilf) .lf) (some (.agg [(.int .i64 (0)), (.int .i64 (0))])) (.nd .lf (some .nilf) .lf))) (some (.agg [(.str []), (.int .u64 (0))])) (.nd (.nd (.nd (.nd .lf (some (.agg [(.int .u64 (0)), (.int .u64 (0)), (.int .u32 (0)), (.int .u8 (0)), (.int .u8 (0)), (.int .u8 (0)), (.int .u8 (0)), .nilf, .nilp, (.int .i32 (0)), (.int .i32 (0))])) .lf) (some .nilf) .lf) (some (.agg [(.str []), (.int .i64 (0)), .nils])) (.nd .lf (some (.agg [.nilf, .nilf, .nilf])) .lf)) (some .nils) (.nd (.nd .lf (some .nilf) .lf) (some .nilf) (.nd .lf (some .nilf) .lf)))))) (some (.tup [])) (.nd (.nd (.nd (.nd (.nd (.nd (.nd .lf (some (.agg [.nilp, .nilp, .nilp, (.str [])])) .lf) (some .nilf) .lf) (some (.tup [.nils, (.int .i64 (0))])) (.nd .lf (some .nilf) .lf)) (some .nilp) (.nd (.nd .lf (some .nils) .lf) (some (.agg [(.int .i64 (0)), (.int .i64 (0))])) (.nd .lf (some (.agg [(.int .i64 (0)), .nilf])) .lf))) (some (.agg [(.int .i64 (0)), (.int .i64 (0)), (.bool false), (.int .u8 (0))])) (.nd (.nd (.nd (.nd .lf (some .nilf) .lf) (some .nilf) .lf) (some .nilf) (.nd .lf (some (.agg [(.int .i64 (0)), (.int .i64 (0)), (.int .i64 (0)), (.int .i64 (0)), (.int .i64 (0)), (.int .i64 (0)), (.int .i64 (0)), (.int .i64 (0)), (.int .i64 (0)), (.int .i64 (0)), (.int .i64 (0)), (.int .i64 (0))])) .lf)) (some (.agg [.nils, .nils, (.int .i64 (0)), (.int .i64 (0))])) (.nd (.nd .lf (some .nilf) .lf) (some (.agg [(.int .i64 (0)), (.int .i64 (0)), (.int .i64 (0)), (.int .i64 (0)), (.int .i64 (0)), (.int .i64 (0)), (.int .i64 (0)), (.int .i64 (0)), (.int .i64 (0)), (.int .i64 (0)), (.int .i64 (0))])) (.nd .lf (some .nilf) .lf)))) (some (.bool false)) (.nd (.nd (.nd (.nd (.nd .lf (some .nilf) .lf) (some .nilf) .lf) (some (.tup [.nils, (.int .i64 (0)), (.int .i64 (0))])) (.nd .lf (some .nilf) .lf)) (some .nili) (.nd (.nd .lf (some .nilf) .lf) (some (.agg [(.int .i64 (0)), (.int .i64 (0))])) (.nd .lf (some .nilf) .lf))) (some (.int .u64 (0))) (.nd (.nd (.nd (.nd .lf (some (.agg [(.int .u64 (0)), (.int .u64 (0)), (.int .u32 (0)), (.int .u8 (0)), (.int .u8 (0)), (.int .u8 (0)), (.int .u8 (0)), .nilf, .nilp, (.int .i32 (0)), (.int .i32 (0))])) .lf) (some .nilf) .lf) (some .nilf) (.nd .lf (some .nilf) .lf)) (some .nilf) (.nd (.nd .lf (some .nilf) .lf) (some .nilf) (.nd .lf (some .nilf) .lf))))) (some (.int .i64 (0))) (.nd (.nd (.nd (.nd (.nd (.nd .lf (some (.agg [])) .lf) (some (.tup [.nils, (.int .i64 (0)), (.bool false)])) .lf) (some (.tup [(.int .i64 (0)), (.int .i64 (0))])) (.nd .lf (some (.tup [(.int .i64 (0)), (.bool false)])) .lf)) (some (.agg [.nilp])) (.nd (.nd .lf (some (.agg [.nils, .nils, (.int .i64 (0)), (.int .i64 (0)), .nils, .nils, .nilm])) .lf) (some .nilf) (.nd .lf (some .nilf) .lf))) (some (.str [])) (.nd (.nd (.nd (.nd .lf (some (.int .i32 (0))) .lf) (some .nilf) .lf) (some .nilf) (.nd .lf (some (.tup [(.int .i64 (0)), (.int .i64 (0))])) .lf)) (some .nilf) (.nd (.nd .lf (some .nilf) .lf) (some .nilf) (.nd .lf (some .nilm) .lf)))) (some (.int .u8 (0))) (.nd (.nd (.nd (.nd (.nd .lf (some (.int .u8 (0))) .lf) (some .nilf) .lf) (some .nils) (.nd .lf (some .nilf) .lf)) (some .nils) (.nd (.nd .lf (some (.tup [.nils, (.bool false)])) .lf) (some (.agg [(.int .i64 (0)), (.int .i64 (0)), (.int .i64 (0)), (.int .i64 (0)), (.int .i64 (0)), (.int .i64 (0)), (.int .i64 (0)), (.int .i64 (0)), (.int .i64 (0)), (.int .i64 (0))])) (.nd .lf (some .nilf) .lf))) (some (.agg [(.str []), (.int .u64 (0))])) (.nd (.nd (.nd (.nd .lf (some .nilp) .lf) (some .nilf) .lf) (some (.agg [(.str []), (.int .i64 (0)), .nils])) (.nd .lf (some .nilf) .lf)) (some .nilf) (.nd (.nd .lf (some (.tup [(.int .i64 (0)), (.int .i64 (0)), (.int .i64 (0))])) .lf) (some .nilf) (.nd .lf (some .nilf) .lf)))))))
noncomputable def eqT : Tr Unit := (.nd (.nd (.nd (.nd (.nd .lf none (.nd .lf (some ()) .lf)) (some ()) (.nd (.nd .lf none (.nd .lf (some ()) .lf)) none (.nd .lf (some ()) .lf))) none (.nd (.nd .lf none (.nd (.nd .lf (some ()) .lf) none .lf)) none (.nd .lf (some ()) .lf))) none (.nd (.nd (.nd (.nd (.nd (.nd .lf (some ()) .lf) none .lf) none .lf) none (.nd .lf none (.nd .lf (some ()) .lf))) none (.nd .lf (some ()) .lf)) none (.nd (.nd .lf none (.nd .lf (some ()) .lf)) none (.nd (.nd .lf (some ()) (.nd .lf (some ()) .lf)) none .lf)))) none (.nd (.nd (.nd (.nd .lf none (.nd .lf (some ()) (.nd .lf (some ()) .lf))) (some ()) (.nd (.nd .lf none (.nd .lf (some ()) .lf)) (some ()) (.nd .lf (some ()) .lf))) none (.nd (.nd .lf none (.nd .lf (some ()) .lf)) none .lf)) none (.nd (.nd (.nd .lf none (.nd (.nd .lf (some ()) .lf) none .lf)) none .lf) none (.nd (.nd .lf none (.nd .lf (some ()) .lf)) none (.nd (.nd .lf (some ()) .lf) none .lf)))))
noncomputable def fnT : Tr Func := (.nd (.nd (.nd (.nd (.nd (.nd (.nd .lf (some Try.f63) .lf) (some Try.f31) .lf) (some Try.f15) (.nd (.nd .lf (some Try.f79) .lf) (some Try.f47) .lf)) (some Try.f7) (.nd (.nd (.nd .lf (some Try.f71) .lf) (some Try.f39) .lf) (some Try.f23) (.nd .lf (some Try.f55) .lf))) (some Try.f3) (.nd (.nd (.nd (.nd .lf (some Try.f67) .lf) (some Try.f35) .lf) (some Try.f19) (.nd .lf (some Try.f51) .lf)) (some Try.f11) (.nd (.nd (.nd .lf (some Try.f75) .lf) (some Try.f43) .lf) (some Try.f27) (.nd .lf (some Try.f59) .lf)))) none (.nd (.nd (.nd (.nd (.nd .lf (some Try.f65) .lf) (some Try.f33) .lf) (some Try.f17) (.nd .lf (some Try.f49) .lf)) (some Try.f9) (.nd (.nd (.nd .lf (some Try.f73) .lf) (some Try.f41) .lf) (some Try.f25) (.nd .lf (some Try.f57) .lf))) (some Try.f5) (.nd (.nd (.nd (.nd .lf (some Try.f69) .lf) (some Try.f37) .lf) (some Try.f21) (.nd .lf (some Try.f53) .lf)) (some Try.f13) (.nd (.nd (.nd .lf (some Try.f77) .lf) (some Try.f45) .lf) (some Try.f29) (.nd .lf (some Try.f61) .lf))))) none (.nd (.nd (.nd (.nd (.nd (.nd .lf (some Try.f64) .lf) (some Try.f32) .lf) (some Try.f16) (.nd (.nd .lf (some Try.f80) .lf) (some Try.f48) .lf)) (some Try.f8) (.nd (.nd (.nd .lf (some Try.f72) .lf) (some Try.f40) .lf) (some Try.f24) (.nd .lf (some Try.f56) .lf))) (some Try.f4) (.nd (.nd (.nd (.nd .lf (some Try.f68) .lf) (some Try.f36) .lf) (some Try.f20) (.nd .lf (some Try.f52) .lf)) (some Try.f12) (.nd (.nd (.nd .lf (some Try.f76) .lf) (some Try.f44) .lf) (some Try.f28) (.nd .lf (some Try.f60) .lf)))) (some Try.f2) (.nd (.nd (.nd (.nd (.nd .lf (some Try.f66) .lf) (some Try.f34) .lf) (some Try.f18) (.nd .lf (some Try.f50) .lf)) (some Try.f10) (.nd (.nd (.nd .lf (some Try.f74) .lf) (some Try.f42) .lf) (some Try.f26) (.nd .lf (some Try.f58) .lf))) (some Try.f6) (.nd (.nd (.nd (.nd .lf (some Try.f70) .lf) (some Try.f38) .lf) (some Try.f22) (.nd .lf (some Try.f54) .lf)) (some Try.f14) (.nd (.nd (.nd .lf (some Try.f78) .lf) (some Try.f46) .lf) (some Try.f30) (.nd .lf (some Try.f62) .lf))))))
noncomputable def glT : Tr (List AV) := .lf
noncomputable def mtT : Tr (List (String × Nat)) := (.nd (.nd (.nd (.nd (.nd .lf (some [("Error", 89), ("RuntimeError", 90)]) .lf) none (.nd (.nd (.nd (.nd .lf (some [("String", 96)]) .lf) none .lf) none .lf) none .lf)) none (.nd (.nd .lf (some [("Error", 94), ("RuntimeError", 95)]) (.nd .lf (some [("nore/watch.able", 21), ("nore/watch.ableOf", 42), ("nore/watch.behind", 58), ("nore/watch.canDo", 30), ("nore/watch.choices", 56), ("nore/watch.endless", 25), ("nore/watch.filled", 37), ("nore/watch.following", 24), ("nore/watch.groups", 27), ("nore/watch.knows", 67), ("nore/watch.lasting", 22), ("nore/watch.only", 29), ("nore/watch.walk", 39), ("nore/watch.why", 57), ("nore/watch.without", 36)]) .lf)) (some [("Error", 85), ("RuntimeError", 86)]) .lf)) none (.nd (.nd (.nd .lf (some [("Align", 93)]) .lf) none .lf) none .lf)) none (.nd (.nd (.nd (.nd .lf (some [("Error", 91), ("RuntimeError", 92)]) .lf) (some [("Error", 81), ("RuntimeError", 82)]) .lf) none .lf) none (.nd (.nd .lf (some [("Error", 83), ("RuntimeError", 84)]) .lf) none (.nd .lf (some [("Error", 87), ("RuntimeError", 88)]) .lf))))
noncomputable def T0 : Tabs := ⟨tyT, szT, byT, zeT, eqT, fnT, glT, 99999, 99999, 99999, .lf, mtT, false⟩
theorem fnT_ok : allP (fun f fn => Try.prog.funcs[f]? = some fn) fnT (fun k => k) := ⟨trivial, ⟨trivial, ⟨Try.func3, ⟨Try.func7, ⟨Try.func15, ⟨Try.func31, ⟨Try.func63, trivial, trivial⟩, trivial⟩, ⟨Try.func47, ⟨Try.func79, trivial, trivial⟩, trivial⟩⟩, ⟨Try.func23, ⟨Try.func39, ⟨Try.func71, trivial, trivial⟩, trivial⟩, ⟨Try.func55, trivial, trivial⟩⟩⟩, ⟨Try.func11, ⟨Try.func19, ⟨Try.func35, ⟨Try.func67, trivial, trivial⟩, trivial⟩, ⟨Try.func51, trivial, trivial⟩⟩, ⟨Try.func27, ⟨Try.func43, ⟨Try.func75, trivial, trivial⟩, trivial⟩, ⟨Try.func59, trivial, trivial⟩⟩⟩⟩, ⟨Try.func5, ⟨Try.func9, ⟨Try.func17, ⟨Try.func33, ⟨Try.func65, trivial, trivial⟩, trivial⟩, ⟨Try.func49, trivial, trivial⟩⟩, ⟨Try.func25, ⟨Try.func41, ⟨Try.func73, trivial, trivial⟩, trivial⟩, ⟨Try.func57, trivial, trivial⟩⟩⟩, ⟨Try.func13, ⟨Try.func21, ⟨Try.func37, ⟨Try.func69, trivial, trivial⟩, trivial⟩, ⟨Try.func53, trivial, trivial⟩⟩, ⟨Try.func29, ⟨Try.func45, ⟨Try.func77, trivial, trivial⟩, trivial⟩, ⟨Try.func61, trivial, trivial⟩⟩⟩⟩⟩, ⟨Try.func2, ⟨Try.func4, ⟨Try.func8, ⟨Try.func16, ⟨Try.func32, ⟨Try.func64, trivial, trivial⟩, trivial⟩, ⟨Try.func48, ⟨Try.func80, trivial, trivial⟩, trivial⟩⟩, ⟨Try.func24, ⟨Try.func40, ⟨Try.func72, trivial, trivial⟩, trivial⟩, ⟨Try.func56, trivial, trivial⟩⟩⟩, ⟨Try.func12, ⟨Try.func20, ⟨Try.func36, ⟨Try.func68, trivial, trivial⟩, trivial⟩, ⟨Try.func52, trivial, trivial⟩⟩, ⟨Try.func28, ⟨Try.func44, ⟨Try.func76, trivial, trivial⟩, trivial⟩, ⟨Try.func60, trivial, trivial⟩⟩⟩⟩, ⟨Try.func6, ⟨Try.func10, ⟨Try.func18, ⟨Try.func34, ⟨Try.func66, trivial, trivial⟩, trivial⟩, ⟨Try.func50, trivial, trivial⟩⟩, ⟨Try.func26, ⟨Try.func42, ⟨Try.func74, trivial, trivial⟩, trivial⟩, ⟨Try.func58, trivial, trivial⟩⟩⟩, ⟨Try.func14, ⟨Try.func22, ⟨Try.func38, ⟨Try.func70, trivial, trivial⟩, trivial⟩, ⟨Try.func54, trivial, trivial⟩⟩, ⟨Try.func30, ⟨Try.func46, ⟨Try.func78, trivial, trivial⟩, trivial⟩, ⟨Try.func62, trivial, trivial⟩⟩⟩⟩⟩⟩
theorem lib_ok : T0.lb = true → LibOK Try.prog 99999 99999 99999 := fun h => by cases h
theorem tabs_ok : TabsOK Try.prog T0 := ⟨by kernel_rfl, by kernel_rfl, by kernel_rfl, fnT_ok, by kernel_rfl, by kernel_rfl, lib_ok, by kernel_rfl⟩
end Go.Proofs.Ytmmadmbikpfkbaa

/-
  THE CALLS that are said ahead.
-/
set_option maxRecDepth 100000
namespace Go.Proofs.Ytmmadmbikpfkbaa
open Go Go.Eng
noncomputable def E1 : Env := T0.env
theorem e1 : EnvOK Try.prog E1 := tabs_ok.env
theorem n1 : NameOK E1 := tabs_ok.name
theorem x1 : ExtOK Try.prog E1 := tabs_ok.ext
noncomputable def c0 : Ent := ⟨20, [(.fn 43 [] [(.ptr 968 0), (.ptr 969 0)])], 970, [(1, (.cells false [(.int .i64 (2))])), (2, (.cells false [(.str [97, 100, 97]), (.int .i64 (2)), .nils, (.str [98, 101, 110]), (.int .i64 (1)), .nils, (.str [99, 105, 100]), (.int .i64 (0)), (.sl 1 0 1 1 1)])), (3, (.cells false [(.int .i64 (1)), (.int .i64 (1)), (.int .i64 (1)), (.int .i64 (0)), (.int .i64 (1)), (.int .i64 (0))])), (960, (.cells false [(.int .i64 (0)), (.int .i64 (1)), (.int .i64 (2))])), (962, (.cells false [(.fn 69 [] [(.ptr 954 0)])])), (954, (.cells false [(.ptr 953 0)])), (963, (.cells false [(.fn 71 [] [(.ptr 954 0)])])), (964, (.cells false [(.fn 72 [] [])])), (961, (.cells false [(.int .i64 (1)), (.fn 64 [] [(.ptr 954 0)]), (.int .i64 (2)), (.fn 65 [] [(.ptr 954 0)]), (.int .i64 (3)), (.fn 77 [] [(.ptr 962 0)]), (.int .i64 (4)), (.fn 77 [] [(.ptr 963 0)]), (.int .i64 (5)), (.fn 77 [] [(.ptr 964 0)])])), (952, (.map [])), (953, (.cells false [(.sl 2 0 3 3 3), (.sl 3 0 3 3 2), (.int .i64 (1)), (.int .i64 (2)), (.sl 960 0 3 3 1), (.sl 961 0 5 5 2), (.mp 952)])), (968, (.cells false [(.ptr 953 0)])), (969, (.cells false [(.int .i64 (0)), (.int .i64 (0)), (.int .i64 (0)), (.int .i64 (0)), (.int .i64 (0)), (.int .i64 (0)), (.int .i64 (0)), (.int .i64 (0)), (.int .i64 (0)), (.int .i64 (0)), (.int .i64 (0))]))], (.sl 1614 0 2 2 1), [(1300, (.cells false [(.int .i64 (0))])), (1613, (.cells false [(.int .i64 (1))])), (1614, (.cells false [(.sl 1300 0 1 1 1), (.sl 1613 0 1 1 1)])), (952, (.map [((.agg [(.int .i64 (1)), (.int .i64 (1)), (.int .i64 (0)), (.int .i64 (0)), (.int .i64 (0)), (.int .i64 (0)), (.int .i64 (0)), (.int .i64 (0)), (.int .i64 (0)), (.int .i64 (0)), (.int .i64 (0))]), (.int .i64 (-1))), ((.agg [(.int .i64 (2)), (.int .i64 (0)), (.int .i64 (1)), (.int .i64 (1)), (.int .i64 (0)), (.int .i64 (0)), (.int .i64 (0)), (.int .i64 (0)), (.int .i64 (0)), (.int .i64 (0)), (.int .i64 (0))]), (.int .i64 (0))), ((.agg [(.int .i64 (2)), (.int .i64 (0)), (.int .i64 (1)), (.int .i64 (0)), (.int .i64 (0)), (.int .i64 (1)), (.int .i64 (0)), (.int .i64 (0)), (.int .i64 (0)), (.int .i64 (0)), (.int .i64 (0))]), (.int .i64 (-1))), ((.agg [(.int .i64 (0)), (.int .i64 (0)), (.int .i64 (0)), (.int .i64 (1)), (.int .i64 (0)), (.int .i64 (0)), (.int .i64 (1)), (.int .i64 (0)), (.int .i64 (0)), (.int .i64 (0)), (.int .i64 (0))]), (.int .i64 (-1))), ((.agg [(.int .i64 (1)), (.int .i64 (1)), (.int .i64 (0)), (.int .i64 (0)), (.int .i64 (1)), (.int .i64 (0)), (.int .i64 (0)), (.int .i64 (0)), (.int .i64 (0)), (.int .i64 (0)), (.int .i64 (0))]), (.int .i64 (-1))), ((.agg [(.int .i64 (1)), (.int .i64 (0)), (.int .i64 (0)), (.int .i64 (1)), (.int .i64 (0)), (.int .i64 (0)), (.int .i64 (0)), (.int .i64 (0)), (.int .i64 (0)), (.int .i64 (0)), (.int .i64 (0))]), (.int .i64 (-1))), ((.agg [(.int .i64 (2)), (.int .i64 (1)), (.int .i64 (0)), (.int .i64 (0)), (.int .i64 (1)), (.int .i64 (0)), (.int .i64 (0)), (.int .i64 (0)), (.int .i64 (0)), (.int .i64 (0)), (.int .i64 (0))]), (.int .i64 (0))), ((.agg [(.int .i64 (2)), (.int .i64 (0)), (.int .i64 (0)), (.int .i64 (0)), (.int .i64 (1)), (.int .i64 (1)), (.int .i64 (0)), (.int .i64 (0)), (.int .i64 (0)), (.int .i64 (0)), (.int .i64 (0))]), (.int .i64 (-1))), ((.agg [(.int .i64 (0)), (.int .i64 (1)), (.int .i64 (0)), (.int .i64 (0)), (.int .i64 (0)), (.int .i64 (0)), (.int .i64 (1)), (.int .i64 (0)), (.int .i64 (0)), (.int .i64 (0)), (.int .i64 (0))]), (.int .i64 (-1))), ((.agg [(.int .i64 (1)), (.int .i64 (0)), (.int .i64 (1)), (.int .i64 (1)), (.int .i64 (0)), (.int .i64 (0)), (.int .i64 (0)), (.int .i64 (0)), (.int .i64 (0)), (.int .i64 (0)), (.int .i64 (0))]), (.int .i64 (-1)))]))], 1623⟩
noncomputable def c1 : Ent := ⟨25, [(.ptr 2036 0)], 2048, [(6, (.cells false [(.int .i64 (2))])), (7, (.cells false [(.str [97, 100, 97]), (.int .i64 (2)), .nils, (.str [98, 101, 110]), (.int .i64 (1)), .nils, (.str [99, 105, 100]), (.int .i64 (0)), (.sl 6 0 1 1 1)])), (8, (.cells false [(.int .i64 (1)), (.int .i64 (1)), (.int .i64 (1)), (.int .i64 (0)), (.int .i64 (1)), (.int .i64 (0))])), (2043, (.cells false [(.int .i64 (0)), (.int .i64 (1)), (.int .i64 (2))])), (2045, (.cells false [(.fn 69 [] [(.ptr 2037 0)])])), (2037, (.cells false [(.ptr 2036 0)])), (2046, (.cells false [(.fn 71 [] [(.ptr 2037 0)])])), (2047, (.cells false [(.fn 72 [] [])])), (2044, (.cells false [(.int .i64 (1)), (.fn 64 [] [(.ptr 2037 0)]), (.int .i64 (2)), (.fn 65 [] [(.ptr 2037 0)]), (.int .i64 (3)), (.fn 77 [] [(.ptr 2045 0)]), (.int .i64 (4)), (.fn 77 [] [(.ptr 2046 0)]), (.int .i64 (5)), (.fn 77 [] [(.ptr 2047 0)])])), (2035, (.map [])), (2036, (.cells false [(.sl 7 0 3 3 3), (.sl 8 0 3 3 2), (.int .i64 (1)), (.int .i64 (1)), (.sl 2043 0 3 3 1), (.sl 2044 0 5 5 2), (.mp 2035)]))], (.tup [(.sl 2671 0 7 7 1), (.int .i64 (1)), (.bool true)]), [(2358, (.cells false [(.int .i64 (0))])), (2417, (.cells false [(.int .i64 (1))])), (2462, (.cells false [(.int .i64 (0))])), (2521, (.cells false [(.int .i64 (1))])), (2566, (.cells false [(.int .i64 (0))])), (2625, (.cells false [(.int .i64 (1))])), (2670, (.cells false [(.int .i64 (0))])), (2671, (.cells false [(.sl 2358 0 1 1 1), (.sl 2417 0 1 1 1), (.sl 2462 0 1 1 1), (.sl 2521 0 1 1 1), (.sl 2566 0 1 1 1), (.sl 2625 0 1 1 1), (.sl 2670 0 1 1 1)])), (2035, (.map [((.agg [(.int .i64 (1)), (.int .i64 (1)), (.int .i64 (0)), (.int .i64 (0)), (.int .i64 (0)), (.int .i64 (0)), (.int .i64 (0)), (.int .i64 (0)), (.int .i64 (0)), (.int .i64 (0)), (.int .i64 (0))]), (.int .i64 (-1))), ((.agg [(.int .i64 (2)), (.int .i64 (0)), (.int .i64 (0)), (.int .i64 (1)), (.int .i64 (0)), (.int .i64 (0)), (.int .i64 (0)), (.int .i64 (0)), (.int .i64 (0)), (.int .i64 (0)), (.int .i64 (0))]), (.int .i64 (-1))), ((.agg [(.int .i64 (0)), (.int .i64 (1)), (.int .i64 (0)), (.int .i64 (0)), (.int .i64 (0)), (.int .i64 (0)), (.int .i64 (0)), (.int .i64 (0)), (.int .i64 (0)), (.int .i64 (0)), (.int .i64 (0))]), (.int .i64 (-1))), ((.agg [(.int .i64 (1)), (.int .i64 (0)), (.int .i64 (0)), (.int .i64 (1)), (.int .i64 (0)), (.int .i64 (0)), (.int .i64 (0)), (.int .i64 (0)), (.int .i64 (0)), (.int .i64 (0)), (.int .i64 (0))]), (.int .i64 (-1))), ((.agg [(.int .i64 (2)), (.int .i64 (1)), (.int .i64 (0)), (.int .i64 (0)), (.int .i64 (0)), (.int .i64 (0)), (.int .i64 (0)), (.int .i64 (0)), (.int .i64 (0)), (.int .i64 (0)), (.int .i64 (0))]), (.int .i64 (-1))), ((.agg [(.int .i64 (0)), (.int .i64 (0)), (.int .i64 (0)), (.int .i64 (1)), (.int .i64 (0)), (.int .i64 (0)), (.int .i64 (0)), (.int .i64 (0)), (.int .i64 (0)), (.int .i64 (0)), (.int .i64 (0))]), (.int .i64 (-1)))]))], 2672⟩
noncomputable def c2 : Ent := ⟨11, [(.agg [(.sl 2 0 3 3 3), (.sl 3 0 3 3 2), (.int .i64 (1)), (.int .i64 (2))])], 2672, [(1, (.cells false [(.int .i64 (2))])), (2, (.cells false [(.str [97, 100, 97]), (.int .i64 (2)), .nils, (.str [98, 101, 110]), (.int .i64 (1)), .nils, (.str [99, 105, 100]), (.int .i64 (0)), (.sl 1 0 1 1 1)])), (3, (.cells false [(.int .i64 (1)), (.int .i64 (1)), (.int .i64 (1)), (.int .i64 (0)), (.int .i64 (1)), (.int .i64 (0))]))], (.tup [(.sl 3911 0 3 3 1), (.int .i64 (0))]), [(3911, (.cells false [(.int .i64 (0)), (.int .i64 (1)), (.int .i64 (2))]))], 3912⟩
noncomputable def c3 : Ent := ⟨50, [.nils, (.fn 51 [] [(.ptr 4226 0), (.ptr 4227 0)])], 4228, [(4225, (.cells false [(.sl 3961 0 4 4 1)])), (4226, (.cells false [(.fn 52 [] [(.ptr 4225 0)])])), (11, (.cells false [(.int .i64 (2))])), (16, (.cells false [(.str [97, 100, 97]), (.int .i64 (2)), .nils, (.str [98, 101, 110]), (.int .i64 (1)), .nils, (.str [99, 105, 100]), (.int .i64 (0)), (.sl 11 0 1 1 1), (.str [100, 97, 110]), (.int .i64 (1)), .nils])), (13, (.cells false [(.int .i64 (1)), (.int .i64 (1)), (.int .i64 (1)), (.int .i64 (0)), (.int .i64 (1)), (.int .i64 (0))])), (3961, (.cells false [(.int .i64 (0)), (.int .i64 (1)), (.int .i64 (2)), (.int .i64 (3))])), (3963, (.cells false [(.fn 69 [] [(.ptr 3953 0)])])), (3953, (.cells false [(.ptr 3952 0)])), (3964, (.cells false [(.fn 71 [] [(.ptr 3953 0)])])), (3965, (.cells false [(.fn 72 [] [])])), (3962, (.cells false [(.int .i64 (1)), (.fn 64 [] [(.ptr 3953 0)]), (.int .i64 (2)), (.fn 65 [] [(.ptr 3953 0)]), (.int .i64 (3)), (.fn 77 [] [(.ptr 3963 0)]), (.int .i64 (4)), (.fn 77 [] [(.ptr 3964 0)]), (.int .i64 (5)), (.fn 77 [] [(.ptr 3965 0)])])), (3951, (.map [((.agg [(.int .i64 (0)), (.int .i64 (0)), (.int .i64 (0)), (.int .i64 (0)), (.int .i64 (0)), (.int .i64 (0)), (.int .i64 (0)), (.int .i64 (0)), (.int .i64 (0)), (.int .i64 (0)), (.int .i64 (0))]), (.int .i64 (-1))), ((.agg [(.int .i64 (1)), (.int .i64 (1)), (.int .i64 (0)), (.int .i64 (0)), (.int .i64 (0)), (.int .i64 (0)), (.int .i64 (0)), (.int .i64 (0)), (.int .i64 (0)), (.int .i64 (0)), (.int .i64 (0))]), (.int .i64 (-1))), ((.agg [(.int .i64 (2)), (.int .i64 (0)), (.int .i64 (1)), (.int .i64 (1)), (.int .i64 (0)), (.int .i64 (0)), (.int .i64 (0)), (.int .i64 (0)), (.int .i64 (0)), (.int .i64 (0)), (.int .i64 (0))]), (.int .i64 (-1))), ((.agg [(.int .i64 (0)), (.int .i64 (0)), (.int .i64 (0)), (.int .i64 (0)), (.int .i64 (1)), (.int .i64 (0)), (.int .i64 (0)), (.int .i64 (1)), (.int .i64 (0)), (.int .i64 (0)), (.int .i64 (0))]), (.int .i64 (-1))), ((.agg [(.int .i64 (1)), (.int .i64 (1)), (.int .i64 (0)), (.int .i64 (0)), (.int .i64 (0)), (.int .i64 (0)), (.int .i64 (0)), (.int .i64 (0)), (.int .i64 (1)), (.int .i64 (0)), (.int .i64 (0))]), (.int .i64 (-1)))])), (3952, (.cells false [(.sl 16 0 4 4 3), (.sl 13 0 3 3 2), (.int .i64 (1)), (.int .i64 (2)), (.sl 3961 0 4 4 1), (.sl 3962 0 5 5 2), (.mp 3951)])), (3966, (.cells false [(.ptr 3952 0)])), (4227, (.cells false [(.fn 35 [] [(.ptr 3966 0)])]))], .nils, [], 5380⟩
noncomputable def c4 : Ent := ⟨50, [.nils, (.fn 51 [] [(.ptr 5809 0), (.ptr 5810 0)])], 5811, [(5808, (.cells false [(.sl 5725 0 4 4 1)])), (5809, (.cells false [(.fn 52 [] [(.ptr 5808 0)])])), (11, (.cells false [(.int .i64 (2))])), (16, (.cells false [(.str [97, 100, 97]), (.int .i64 (2)), .nils, (.str [98, 101, 110]), (.int .i64 (1)), .nils, (.str [99, 105, 100]), (.int .i64 (0)), (.sl 11 0 1 1 1), (.str [100, 97, 110]), (.int .i64 (1)), .nils])), (13, (.cells false [(.int .i64 (1)), (.int .i64 (1)), (.int .i64 (1)), (.int .i64 (0)), (.int .i64 (1)), (.int .i64 (0))])), (5725, (.cells false [(.int .i64 (0)), (.int .i64 (1)), (.int .i64 (2)), (.int .i64 (3))])), (5727, (.cells false [(.fn 69 [] [(.ptr 5717 0)])])), (5717, (.cells false [(.ptr 5716 0)])), (5728, (.cells false [(.fn 71 [] [(.ptr 5717 0)])])), (5729, (.cells false [(.fn 72 [] [])])), (5726, (.cells false [(.int .i64 (1)), (.fn 64 [] [(.ptr 5717 0)]), (.int .i64 (2)), (.fn 65 [] [(.ptr 5717 0)]), (.int .i64 (3)), (.fn 77 [] [(.ptr 5727 0)]), (.int .i64 (4)), (.fn 77 [] [(.ptr 5728 0)]), (.int .i64 (5)), (.fn 77 [] [(.ptr 5729 0)])])), (5715, (.map [])), (5716, (.cells false [(.sl 16 0 4 4 3), (.sl 13 0 3 3 2), (.int .i64 (1)), (.int .i64 (2)), (.sl 5725 0 4 4 1), (.sl 5726 0 5 5 2), (.mp 5715)])), (5730, (.cells false [(.ptr 5716 0)])), (5660, (.cells false [(.int .i64 (0))])), (5663, (.cells false [(.int .i64 (2))])), (5666, (.cells false [(.int .i64 (1))])), (5806, (.cells false [(.sl 5660 0 1 1 1), (.sl 5663 0 1 1 1), (.sl 5666 0 1 1 1), .nils])), (5807, (.cells false [(.sl 5806 0 4 4 1)])), (5810, (.cells false [(.fn 40 [] [(.ptr 5730 0), (.ptr 5807 0)])]))], (.sl 6500 0 4 4 1), [(6500, (.cells false [(.int .i64 (0)), (.int .i64 (1)), (.int .i64 (2)), (.int .i64 (3))]))], 6501⟩
noncomputable def c5 : Ent := ⟨25, [(.ptr 7558 0)], 7570, [(6547, (.cells false [(.int .i64 (2))])), (6548, (.cells false [(.str [97, 100, 97]), (.int .i64 (2)), .nils, (.str [98, 101, 110]), (.int .i64 (1)), .nils, (.str [99, 105, 100]), (.int .i64 (0)), (.sl 6547 0 1 1 1)])), (6549, (.cells false [(.int .i64 (1)), (.int .i64 (1)), (.int .i64 (1)), (.int .i64 (0)), (.int .i64 (1)), (.int .i64 (0))])), (7565, (.cells false [(.int .i64 (0)), (.int .i64 (1)), (.int .i64 (2))])), (7567, (.cells false [(.fn 69 [] [(.ptr 7559 0)])])), (7559, (.cells false [(.ptr 7558 0)])), (7568, (.cells false [(.fn 71 [] [(.ptr 7559 0)])])), (7569, (.cells false [(.fn 72 [] [])])), (7566, (.cells false [(.int .i64 (1)), (.fn 64 [] [(.ptr 7559 0)]), (.int .i64 (2)), (.fn 65 [] [(.ptr 7559 0)]), (.int .i64 (3)), (.fn 77 [] [(.ptr 7567 0)]), (.int .i64 (4)), (.fn 77 [] [(.ptr 7568 0)]), (.int .i64 (5)), (.fn 77 [] [(.ptr 7569 0)])])), (7557, (.map [])), (7558, (.cells false [(.sl 6548 0 3 3 3), (.sl 6549 0 3 3 2), (.int .i64 (1)), (.int .i64 (2)), (.sl 7565 0 3 3 1), (.sl 7566 0 5 5 2), (.mp 7557)]))], (.tup [(.sl 8171 0 5 5 1), (.int .i64 (2)), (.bool true)]), [(7905, (.cells false [(.int .i64 (0))])), (7987, (.cells false [(.int .i64 (2))])), (8049, (.cells false [(.int .i64 (1))])), (8094, (.cells false [(.int .i64 (0))])), (8170, (.cells false [(.int .i64 (2))])), (8171, (.cells false [(.sl 7905 0 1 1 1), (.sl 7987 0 1 1 1), (.sl 8049 0 1 1 1), (.sl 8094 0 1 1 1), (.sl 8170 0 1 1 1)])), (7557, (.map [((.agg [(.int .i64 (1)), (.int .i64 (1)), (.int .i64 (0)), (.int .i64 (0)), (.int .i64 (0)), (.int .i64 (0)), (.int .i64 (0)), (.int .i64 (0)), (.int .i64 (0)), (.int .i64 (0)), (.int .i64 (0))]), (.int .i64 (-1))), ((.agg [(.int .i64 (2)), (.int .i64 (0)), (.int .i64 (1)), (.int .i64 (1)), (.int .i64 (0)), (.int .i64 (0)), (.int .i64 (0)), (.int .i64 (0)), (.int .i64 (0)), (.int .i64 (0)), (.int .i64 (0))]), (.int .i64 (0))), ((.agg [(.int .i64 (2)), (.int .i64 (0)), (.int .i64 (1)), (.int .i64 (0)), (.int .i64 (0)), (.int .i64 (1)), (.int .i64 (0)), (.int .i64 (0)), (.int .i64 (0)), (.int .i64 (0)), (.int .i64 (0))]), (.int .i64 (-1))), ((.agg [(.int .i64 (0)), (.int .i64 (0)), (.int .i64 (0)), (.int .i64 (1)), (.int .i64 (0)), (.int .i64 (0)), (.int .i64 (1)), (.int .i64 (0)), (.int .i64 (0)), (.int .i64 (0)), (.int .i64 (0))]), (.int .i64 (-1))), ((.agg [(.int .i64 (1)), (.int .i64 (1)), (.int .i64 (0)), (.int .i64 (0)), (.int .i64 (1)), (.int .i64 (0)), (.int .i64 (0)), (.int .i64 (0)), (.int .i64 (0)), (.int .i64 (0)), (.int .i64 (0))]), (.int .i64 (-1)))]))], 8172⟩
noncomputable def c6 : Ent := ⟨11, [(.agg [(.sl 8174 0 3 3 3), (.sl 8175 0 3 3 2), (.int .i64 (1)), (.int .i64 (1))])], 8177, [(8173, (.cells false [(.int .i64 (2))])), (8174, (.cells false [(.str [97, 100, 97]), (.int .i64 (2)), .nils, (.str [98, 101, 110]), (.int .i64 (1)), .nils, (.str [99, 105, 100]), (.int .i64 (0)), (.sl 8173 0 1 1 1)])), (8175, (.cells false [(.int .i64 (1)), (.int .i64 (1)), (.int .i64 (1)), (.int .i64 (0)), (.int .i64 (1)), (.int .i64 (0))]))], (.tup [(.sl 8786 0 2 2 1), (.int .i64 (0))]), [(8786, (.cells false [(.int .i64 (0)), (.int .i64 (1))]))], 8787⟩
noncomputable def c7 : Ent := ⟨50, [.nils, (.fn 51 [] [(.ptr 9166 0), (.ptr 9167 0)])], 9168, [(9165, (.cells false [(.sl 8830 0 3 3 1)])), (9166, (.cells false [(.fn 52 [] [(.ptr 9165 0)])])), (6547, (.cells false [(.int .i64 (2))])), (6548, (.cells false [(.str [97, 100, 97]), (.int .i64 (2)), .nils, (.str [98, 101, 110]), (.int .i64 (1)), .nils, (.str [99, 105, 100]), (.int .i64 (0)), (.sl 6547 0 1 1 1)])), (6549, (.cells false [(.int .i64 (1)), (.int .i64 (1)), (.int .i64 (1)), (.int .i64 (0)), (.int .i64 (1)), (.int .i64 (0))])), (8830, (.cells false [(.int .i64 (0)), (.int .i64 (1)), (.int .i64 (2))])), (8832, (.cells false [(.fn 69 [] [(.ptr 8824 0)])])), (8824, (.cells false [(.ptr 8823 0)])), (8833, (.cells false [(.fn 71 [] [(.ptr 8824 0)])])), (8834, (.cells false [(.fn 72 [] [])])), (8831, (.cells false [(.int .i64 (1)), (.fn 64 [] [(.ptr 8824 0)]), (.int .i64 (2)), (.fn 65 [] [(.ptr 8824 0)]), (.int .i64 (3)), (.fn 77 [] [(.ptr 8832 0)]), (.int .i64 (4)), (.fn 77 [] [(.ptr 8833 0)]), (.int .i64 (5)), (.fn 77 [] [(.ptr 8834 0)])])), (8822, (.map [((.agg [(.int .i64 (0)), (.int .i64 (0)), (.int .i64 (0)), (.int .i64 (0)), (.int .i64 (0)), (.int .i64 (0)), (.int .i64 (0)), (.int .i64 (0)), (.int .i64 (0)), (.int .i64 (0)), (.int .i64 (0))]), (.int .i64 (-1))), ((.agg [(.int .i64 (1)), (.int .i64 (1)), (.int .i64 (0)), (.int .i64 (0)), (.int .i64 (0)), (.int .i64 (0)), (.int .i64 (0)), (.int .i64 (0)), (.int .i64 (0)), (.int .i64 (0)), (.int .i64 (0))]), (.int .i64 (-1))), ((.agg [(.int .i64 (2)), (.int .i64 (0)), (.int .i64 (1)), (.int .i64 (1)), (.int .i64 (0)), (.int .i64 (0)), (.int .i64 (0)), (.int .i64 (0)), (.int .i64 (0)), (.int .i64 (0)), (.int .i64 (0))]), (.int .i64 (0))), ((.agg [(.int .i64 (2)), (.int .i64 (0)), (.int .i64 (1)), (.int .i64 (0)), (.int .i64 (0)), (.int .i64 (1)), (.int .i64 (0)), (.int .i64 (0)), (.int .i64 (0)), (.int .i64 (0)), (.int .i64 (0))]), (.int .i64 (-1))), ((.agg [(.int .i64 (0)), (.int .i64 (0)), (.int .i64 (0)), (.int .i64 (1)), (.int .i64 (0)), (.int .i64 (0)), (.int .i64 (1)), (.int .i64 (0)), (.int .i64 (0)), (.int .i64 (0)), (.int .i64 (0))]), (.int .i64 (-1))), ((.agg [(.int .i64 (1)), (.int .i64 (1)), (.int .i64 (0)), (.int .i64 (0)), (.int .i64 (1)), (.int .i64 (0)), (.int .i64 (0)), (.int .i64 (0)), (.int .i64 (0)), (.int .i64 (0)), (.int .i64 (0))]), (.int .i64 (-1)))])), (8823, (.cells false [(.sl 6548 0 3 3 3), (.sl 6549 0 3 3 2), (.int .i64 (1)), (.int .i64 (2)), (.sl 8830 0 3 3 1), (.sl 8831 0 5 5 2), (.mp 8822)])), (8835, (.cells false [(.ptr 8823 0)])), (9167, (.cells false [(.fn 35 [] [(.ptr 8835 0)])]))], (.sl 9771 0 3 3 1), [(9771, (.cells false [(.int .i64 (0)), (.int .i64 (1)), (.int .i64 (2))]))], 9772⟩
noncomputable def c8 : Ent := ⟨14, [(.agg [(.sl 6548 0 3 3 3), (.sl 6549 0 3 3 2), (.int .i64 (1)), (.int .i64 (2))]), (.sl 9969 0 4 4 1), (.int .i64 (3))], 9970, [(6547, (.cells false [(.int .i64 (2))])), (6548, (.cells false [(.str [97, 100, 97]), (.int .i64 (2)), .nils, (.str [98, 101, 110]), (.int .i64 (1)), .nils, (.str [99, 105, 100]), (.int .i64 (0)), (.sl 6547 0 1 1 1)])), (6549, (.cells false [(.int .i64 (1)), (.int .i64 (1)), (.int .i64 (1)), (.int .i64 (0)), (.int .i64 (1)), (.int .i64 (0))])), (9958, (.cells false [(.int .i64 (0))])), (9961, (.cells false [(.int .i64 (2))])), (9964, (.cells false [(.int .i64 (1))])), (9967, (.cells false [(.int .i64 (0))])), (9969, (.cells false [(.sl 9958 0 1 1 1), (.sl 9961 0 1 1 1), (.sl 9964 0 1 1 1), (.sl 9967 0 1 1 1)]))], (.tup [(.sl 10594 0 2 2 1), (.int .i64 (0))]), [(10594, (.cells false [(.int .i64 (1)), (.int .i64 (2))]))], 10595⟩
noncomputable def c9 : Ent := ⟨17, [], 6546, [], (.bool true), [], 10729⟩
end Go.Proofs.Ytmmadmbikpfkbaa

