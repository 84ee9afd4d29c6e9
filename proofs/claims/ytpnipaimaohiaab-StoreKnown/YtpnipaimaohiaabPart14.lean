/-
  What is proved: norelaw08.StoreKnown returns true: the examples that the document gives of layer 8 come out as it says. Conditions: none.
-/
import Derived.Test.YtpnipaimaohiaabPart04
import Derived.Test.YtpnipaimaohiaabPart05
import Derived.Test.YtpnipaimaohiaabPart06
import Derived.Test.YtpnipaimaohiaabPart07
import Derived.Test.YtpnipaimaohiaabPart08
import Derived.Test.YtpnipaimaohiaabPart10
import Derived.Test.YtpnipaimaohiaabPart11
import Derived.Test.YtpnipaimaohiaabPart13
import Derived.Test.YtpnipaimaohiaabPart03
import Derived.DataReads
import Derived.OpenShut
import GoSem.ClaimJoined
import Derived.Lib.LaidU8
import Derived.FnData
import Derived.MakeChecks
import Derived.ProofKit
import Derived.LaidMore
import Derived.Stop.Joined
import Derived.Lay
import Derived.Test.YtpnipaimaohiaabRows
import Derived.SevenTiedAt
set_option linter.unusedSectionVars false
set_option linter.unusedSimpArgs false
set_option linter.unusedVariables false
/-
  CLOSED CALLS, joined.
-/
set_option maxRecDepth 100000
namespace Go.Proofs.Ytpnipaimaohiaab
open Go Go.Eng
noncomputable def L4 : List Ent := [c0, c1, c2, c3, c4, c5, c6, c7, c8, c9, c10, c11, c12, c13, c14, c15, c16, c17, c18, c19, c20, c21, c22]
theorem l4 : ∀ e ∈ L4, EntOK Try.prog E1 e := ents_cons o0 (ents_cons o1 (ents_cons o2 (ents_cons o3 (ents_cons o4 (ents_cons o5 (ents_cons o6 (ents_cons o7 (ents_cons o8 (ents_cons o9 (ents_cons o10 (ents_cons o11 (ents_cons o12 (ents_cons o13 (ents_cons o14 (ents_cons o15 (ents_cons o16 (ents_cons o17 (ents_cons o18 (ents_cons o19 (ents_cons o20 (ents_cons o21 (ents_cons o22 (ents_nil)))))))))))))))))))))))
end Go.Proofs.Ytpnipaimaohiaab

/-
  THE LAW, its answer by the kernel.
-/
set_option maxRecDepth 100000
namespace Go.Proofs.Ytpnipaimaohiaab
open Go Go.Eng
theorem kn_true : isTrueT E1 L4 40 3 = true := by kernel_rfl
end Go.Proofs.Ytpnipaimaohiaab

/-
  THE ENGINE, 51: data that are read are abstract values.
-/
namespace Go.Eng
open Go

section
variable {H : Type} {P : Program}

/-- Elements of one size, one behind the other. -/
noncomputable def avAll (g : DataW H → Option (List AV)) (sz : Nat) : List (DataW H) → Option (List AV)
  | [] => some []
  | d :: ds => match g d, avAll g sz ds with
    | some l, some r => match Nat.beq l.length sz with
      | true => some (l ++ r)
      | false => none
    | _, _ => none

/-- Fields, one behind the other. -/
noncomputable def avF (P : Program) (g : TypeId → DataW H → Option (List AV)) : Nat → List Field → List (DataW H) → Option (List AV)
  | _, [], [] => some []
  | off, f :: fs, d :: ds => match g f.type d, avF P g (off + P.cellsOf f.type) fs ds with
    | some l, some r => match Nat.beq f.offset off, Nat.beq l.length (P.cellsOf f.type) with
      | true, true => some (l ++ r)
      | _, _ => none
    | _, _ => none
  | _, _, _ => none

/-- All cells of a type. -/
noncomputable def full? (P : Program) (t : TypeId) : Option (List AV) → Option (List AV)
  | some l => match Nat.beq l.length (P.cellsOf t) with
    | true => some l
    | false => none
  | none => none
theorem full?_inv {t : TypeId} {r : Option (List AV)} {l : List AV} (h : full? P t r = some l) : r = some l ∧ l.length = P.cellsOf t := by
  unfold full? at h
  split at h
  · split at h
    · rename_i e
      simp only [Option.some.injEq] at h; subst h
      exact ⟨rfl, Nat.eq_of_beq_eq_true e⟩
    · cases h
  · cases h
/-- The cells of a datum of a type. -/
noncomputable def av (P : Program) : Nat → TypeId → DataW H → Option (List AV)
  | 0, _, _ => none
  | n + 1, t, d => match P.underlying t with
    | some .bool => match d with
      | .lit (.bool b) => some [.bool b]
      | _ => none
    | some (.int _) => match d with
      | .lit (.int k i) => some [.int k i]
      | _ => none
    | some .string => match d with
      | .lit (.string s) => some [.str (s.map (·.toNat))]
      | _ => none
    | some (.pointer e) => match d with
      | .nil => some [.nilp]
      | .ptr d => match Nat.ble 1 (P.cellsOf e) with
        | true => (av P n e d).map fun l => [.cp l 0]
        | false => none
      | _ => none
    | some (.slice e) => match d with
      | .nil => some [.nils]
      | .slice els _ => match Nat.ble 1 (P.cellsOf e) with
        | true => (avAll (av P n e) (P.cellsOf e) els).map fun l => [.csl l els.length]
        | false => none
      | _ => none
    | some (.struct fs) => match d with
      | .agg ps => full? P t (avF P (av P n) 0 fs.toList ps)
      | _ => none
    | some (.array _ e) => match d with
      | .agg ps => full? P t (avAll (av P n e) (P.cellsOf e) ps)
      | _ => none
    | _ => none

theorem avAll_cons {g : DataW H → Option (List AV)} {sz : Nat} {d : DataW H} {ds : List (DataW H)} {l : List AV} (h : avAll g sz (d :: ds) = some l) : ∃ a r, g d = some a ∧ avAll g sz ds = some r ∧ a.length = sz ∧ l = a ++ r := by
  simp only [avAll] at h
  split at h
  · rename_i a r h1 h2
    split at h
    · rename_i e
      simp only [Option.some.injEq] at h
      exact ⟨a, r, h1, h2, Nat.eq_of_beq_eq_true e, h.symm⟩
    · cases h
  · cases h

theorem avF_cons {g : TypeId → DataW H → Option (List AV)} {off : Nat} {f : Field} {fs : List Field} {d : DataW H} {ds : List (DataW H)} {l : List AV} (h : avF P g off (f :: fs) (d :: ds) = some l) :
    ∃ a r, g f.type d = some a ∧ avF P g (off + P.cellsOf f.type) fs ds = some r ∧ f.offset = off ∧ a.length = P.cellsOf f.type ∧ l = a ++ r := by
  simp only [avF] at h
  split at h
  · rename_i a r h1 h2
    split at h
    · rename_i e e2
      simp only [Option.some.injEq] at h
      exact ⟨a, r, h1, h2, Nat.eq_of_beq_eq_true e, Nat.eq_of_beq_eq_true e2, h.symm⟩
    · cases h
  · cases h

variable {enc : TypeId × Value → H} {w : World} {base : Nat} {spare : Nat → Bool} {held : Bool}

/-- A view by which all of memory is known. -/
def seen (w : World) : View := ⟨fun _ => none, fun _ => none, fun b o => w.cell? ⟨b, o, none⟩, fun _ => 0⟩
theorem seen_bare (w : World) : (seen w).bare = seen w := rfl

theorem cells?_get {a : Addr} {n : Nat} {cs : List Value} (h : w.cells? base a n = some cs) : cs.length = n ∧ ∀ j, j < n → w.cell? (a.add j) = cs[j]? := by
  unfold World.cells? at h
  split at h
  · refine ⟨by simpa using mapM_some_length h, fun j hj => ?_⟩
    exact mapM_some_get h j j (by simp [hj])
  · cases h

theorem cell?_spot {a : Addr} {v : Value} (h : w.cell? a = some v) : a.spot = none := by
  unfold World.cell? at h
  split at h
  · split at h
    · cases h
    · rename_i hs; simpa using hs
  · cases h

/-- What is laid one behind the other. -/
def Lies (w : World) (blk o : Nat) (l : List AV) : Prop := ∀ i (hi : i < l.length), ∃ v, w.cell? ⟨blk, o + i, none⟩ = some v ∧ VR (seen w) l[i] v

theorem Lies.append {blk o : Nat} {l r : List AV} (h : Lies w blk o l) (k : Lies w blk (o + l.length) r) : Lies w blk o (l ++ r) := by
  intro i hi
  by_cases hl : i < l.length
  · rw [List.getElem_append_left hl]; exact h i hl
  · have hi' : i - l.length < r.length := by rw [List.length_append] at hi; omega
    rw [List.getElem_append_right (by omega)]
    obtain ⟨v, h1, h2⟩ := k (i - l.length) hi'
    rw [show o + l.length + (i - l.length) = o + i by omega] at h1
    exact ⟨v, h1, h2⟩

theorem Lies.of {blk o : Nat} {l : List AV} {cs : List Value} (h : VRs (seen w) l cs) (hc : ∀ j, j < cs.length → w.cell? ⟨blk, o + j, none⟩ = cs[j]?) : Lies w blk o l := by
  intro i hi
  have hi' : i < cs.length := h.1 ▸ hi
  exact ⟨cs[i], by rw [hc i hi']; simp [hi'], h.2 i hi hi'⟩

theorem Lies.choose {blk o : Nat} {l : List AV} (h : Lies w blk o l) : ∃ f : Nat → Value, (∀ i, i < l.length → (seen w).K blk (o + i) = some (f i)) ∧ ∀ i (hi : i < l.length), VR (seen w).bare l[i] (f i) := by
  refine ⟨fun i => (w.cell? ⟨blk, o + i, none⟩).getD undef, fun i hi => ?_, fun i hi => ?_⟩
  · obtain ⟨v, h1, _⟩ := h i hi
    show w.cell? ⟨blk, o + i, none⟩ = _
    simp [h1]
  · obtain ⟨v, h1, h2⟩ := h i hi
    simp only [h1, Option.getD_some]
    exact h2

theorem spot_add {a : Addr} (hs : a.spot = none) (n : Nat) : a.add n = ⟨a.block, a.off + n, none⟩ := by
  obtain ⟨blk, off, spot⟩ := a
  simp only at hs; subst hs
  unfold Addr.add
  split
  · rename_i h; subst h; rfl
  · rfl
theorem spot_add2 {a : Addr} (hs : a.spot = none) (n m : Nat) : (a.add n).add m = a.add (n + m) := by
  rw [spot_add hs, spot_add rfl, spot_add hs, Nat.add_assoc]

theorem trod_parts {g : TypeId → List Value → Option (DataW H × List MemPlace)} {n : Nat} (ih : ∀ t cs d p l, g t cs = some (d, p) → av P n t d = some l → VRs (seen w) l cs) (cs : List Value) :
    ∀ (fs : List Field) (off : Nat) (xs : List (DataW H × List MemPlace)) (l : List AV), (∀ (i : Nat) (f : Field), fs[i]? = some f → g f.type ((cs.drop f.offset).take (P.cellsOf f.type)) = xs[i]?) → avF P (av P n) off fs (xs.map (·.1)) = some l → VRs (seen w) l ((cs.drop off).take l.length)
  | [], off, xs, l, h, hl => by
    cases xs with
    | nil =>
      simp only [List.map_nil, avF, Option.some.injEq] at hl; subst hl
      simpa using VRs.nil _
    | cons x xs => simp [avF] at hl
  | f :: fs, off, [], l, h, hl => by simp [avF] at hl
  | f :: fs, off, x :: xs, l, h, hl => by
    rw [List.map_cons] at hl
    obtain ⟨a, r, h1, h2, h3, h4, rfl⟩ := avF_cons hl
    have hx := h 0 f rfl
    rw [List.getElem?_cons_zero] at hx
    have e1 := ih _ _ _ x.2 a hx h1
    have e2 := trod_parts ih cs fs _ xs r (fun i f hf => by have := h (i + 1) f (by simpa using hf); simpa using this) h2
    rw [h3] at e1
    rw [List.length_append, h4, List.take_add, List.drop_drop]
    exact e1.append e2

theorem trod_elems {g : List Value → Option (DataW H × List MemPlace)} {n sz : Nat} {e : TypeId} (ih : ∀ cs d p l, g cs = some (d, p) → av P n e d = some l → VRs (seen w) l cs) (cs : List Value) :
    ∀ (i : Nat) (xs : List (DataW H × List MemPlace)) (l : List AV), (∀ j, j < xs.length → g ((cs.drop ((i + j) * sz)).take sz) = xs[j]?) → avAll (av P n e) sz (xs.map (·.1)) = some l → VRs (seen w) l ((cs.drop (i * sz)).take l.length)
  | i, [], l, h, hl => by
    simp only [List.map_nil, avAll, Option.some.injEq] at hl; subst hl
    simpa using VRs.nil _
  | i, x :: xs, l, h, hl => by
    rw [List.map_cons] at hl
    obtain ⟨a, r, h1, h2, h4, rfl⟩ := avAll_cons hl
    have hx := h 0 (by simp)
    rw [List.getElem?_cons_zero] at hx
    have e1 := ih _ _ x.2 a hx h1
    have e2 := trod_elems ih cs (i + 1) xs r (fun j hj => by have := h (j + 1) (by simpa using hj); rw [show i + 1 + j = i + (j + 1) by omega]; simpa using this) h2
    rw [List.length_append, h4, List.take_add, List.drop_drop]
    rw [show i * sz + sz = (i + 1) * sz by rw [Nat.add_mul, Nat.one_mul]]
    exact e1.append e2

theorem trod_lies {g : List Value → Option (DataW H × List MemPlace)} {n sz : Nat} {e : TypeId} (ih : ∀ cs d p l, g cs = some (d, p) → av P n e d = some l → VRs (seen w) l cs) (a : Addr) (hs : a.spot = none) :
    ∀ (i : Nat) (xs : List (DataW H × List MemPlace)) (l : List AV), (∀ j, j < xs.length → (w.cells? base (a.add ((i + j) * sz)) sz).bind g = xs[j]?) → avAll (av P n e) sz (xs.map (·.1)) = some l → Lies w a.block (a.off + i * sz) l
  | i, [], l, h, hl => by
    simp only [List.map_nil, avAll, Option.some.injEq] at hl; subst hl
    intro i hi; simp at hi
  | i, x :: xs, l, h, hl => by
    rw [List.map_cons] at hl
    obtain ⟨b, r, h1, h2, h4, rfl⟩ := avAll_cons hl
    have hx := h 0 (by simp)
    rw [List.getElem?_cons_zero, Option.bind_eq_some_iff] at hx
    obtain ⟨cs, hc, hx⟩ := hx
    have e1 := ih _ _ x.2 b hx h1
    have e2 := trod_lies ih a hs (i + 1) xs r (fun j hj => by have := h (j + 1) (by simpa using hj); rw [show i + 1 + j = i + (j + 1) by omega]; simpa using this) h2
    obtain ⟨c1, c2⟩ := cells?_get hc
    refine Lies.append (Lies.of e1 fun j hj => ?_) ?_
    · rw [← c2 j (c1 ▸ hj), spot_add hs]
      rw [show a.off + i * sz + j = a.off + ((i + 0) * sz + j) by rw [Nat.add_zero]; omega]
      rw [← spot_add hs, ← spot_add2 hs, spot_add hs]
    · rw [h4, show a.off + i * sz + sz = a.off + (i + 1) * sz by rw [Nat.add_mul, Nat.one_mul]; omega]
      exact e2

theorem trod_av (hsp : ∀ b, spare b = true) : ∀ (n m : Nat) (t : TypeId) (cs : List Value) (d : DataW H) (p : List MemPlace) (l : List AV), DataW.trod enc P w base spare held m t cs = some (d, p) → av P n t d = some l → VRs (seen w) l cs
  | 0, m, t, cs, d, p, l, h, hl => by simp [av] at hl
  | n + 1, m, t, cs, d, p, l, h, hl => by
    have ih := fun m t cs d p l (h : DataW.trod enc P w base spare held m t cs = some (d, p)) (hl : av P n t d = some l) => trod_av hsp n m t cs d p l h hl
    rw [av.eq_def] at hl
    simp only at hl
    split at hl
    · rename_i hu
      obtain ⟨b, rfl, hx⟩ := DataW.trod_bool hu h
      cases hx
      cases hl
      exact .cons (.bool _) (.nil _)
    · rename_i hu
      obtain ⟨i, rfl, hx, _⟩ := DataW.trod_int hu h
      cases hx
      cases hl
      exact .cons (.int _ _) (.nil _)
    · rename_i hu
      obtain ⟨s, rfl, hx, _⟩ := DataW.trod_string hu h
      cases hx
      cases hl
      exact .cons (.str _) (.nil _)
    · rename_i e hu
      rcases DataW.trod_pointer hu h with ⟨rfl, hx⟩ | ⟨a, cs', y, k, rfl, rfl, hx, hc, hy⟩
      · cases hx
        cases hl
        exact .cons .nilp (.nil _)
      · cases hx
        simp only at hl
        split at hl
        · rename_i hz
          have hz := Nat.le_of_ble_eq_true hz
          simp only [Option.map_eq_some_iff] at hl
          obtain ⟨l', hl', rfl⟩ := hl
          have e1 := ih _ _ _ _ y.2 _ hy hl'
          obtain ⟨c1, c2⟩ := cells?_get hc
          have hs : a.spot = none := by
            have := c2 0 (by omega)
            rw [List.getElem?_eq_getElem (by omega)] at this
            exact cell?_spot (a := a.add 0) this
          have hL : Lies w a.block a.off l' := Lies.of e1 fun j hj => by rw [← c2 j (c1 ▸ hj), spot_add hs]
          obtain ⟨f, f1, f2⟩ := hL.choose
          refine .cons ?_ (.nil _)
          obtain ⟨blk, off, spot⟩ := a
          simp only at hs; subst hs
          exact .cp l' 0 blk off f f1 f2
        · cases hl
    · rename_i e hu
      rcases DataW.trod_slice hu h with ⟨rfl, hx⟩ | ⟨a, len, cap, els, rest, k, rfl, rfl, hx, hb, hlc, _, hlen, h1, h2, _⟩
      · cases hx
        cases hl
        exact .cons .nils (.nil _)
      · cases hx
        simp only at hl
        split at hl
        · rename_i hz
          have hz := Nat.le_of_ble_eq_true hz
          simp only [Option.map_eq_some_iff] at hl
          obtain ⟨l', hl', rfl⟩ := hl
          obtain ⟨h2l, h2⟩ := h2 (hsp _)
          have hone : cap ≠ 0 → ∃ x, ((w.cells? base (a.add (0 * P.cellsOf e)) (P.cellsOf e)).bind (DataW.trod enc P w base spare held k e)) = some x := by
            intro hc0
            by_cases hl0 : len = 0
            · have := h2 0 (by omega)
              rw [List.getElem?_eq_getElem (by omega)] at this
              subst hl0
              exact ⟨_, by simpa using this⟩
            · have := h1 0 (by omega)
              rw [List.getElem?_eq_getElem (by omega)] at this
              exact ⟨_, this⟩
          have hs : cap = 0 ∨ a.spot = none := by
            by_cases hc0 : cap = 0
            · exact .inl hc0
            · right
              obtain ⟨x, hx⟩ := hone hc0
              rw [Option.bind_eq_some_iff] at hx
              obtain ⟨cs', hc, _⟩ := hx
              obtain ⟨c1, c2⟩ := cells?_get hc
              have := c2 0 (by omega)
              rw [List.getElem?_eq_getElem (by omega)] at this
              have := cell?_spot this
              simpa [Addr.add] using this
          have hL : Lies w a.block a.off l' := by
            rcases hs with hc0 | hs
            · have : els = [] := List.eq_nil_of_length_eq_zero (by omega)
              subst this
              simp only [List.map_nil, avAll, Option.some.injEq] at hl'; subst hl'
              intro i hi; simp at hi
            · have := trod_lies (w := w) (base := base) (g := DataW.trod enc P w base spare held k e) (n := n) (sz := P.cellsOf e) (e := e) (fun cs d p l h hl => ih _ e cs d p l h hl) a hs 0 els l' (fun j hj => by rw [Nat.zero_add]; exact h1 j (by omega)) hl'
              simpa using this
          obtain ⟨f, f1, f2⟩ := hL.choose
          refine .cons ?_ (.nil _)
          rw [show (els.map (·.1)).length = len by rw [List.length_map, hlen]]
          refine .csl l' len a.block a.off cap a f f1 f2 hlc (hs.imp (fun x => x) fun x => ?_)
          obtain ⟨blk, off, spot⟩ := a
          simp only at x; subst x; rfl
        · cases hl
    · rename_i fs hu
      obtain ⟨xs, k, rfl, hx, hlen, _, h1⟩ := DataW.trod_struct hu h
      cases hx
      simp only at hl
      obtain ⟨hl, hn⟩ := full?_inv hl
      have := trod_parts (w := w) (g := DataW.trod enc P w base spare held k) (fun t cs d p l h hl => ih k t cs d p l h hl) cs fs.toList 0 xs l (fun i f hf => h1 i f (by simpa using hf)) hl
      rw [List.drop_zero, hn, ← hlen, List.take_length] at this
      exact this
    · rename_i k e hu
      split at hl
      · rename_i ps
        obtain ⟨xs, k, rfl, hx, hlen, hxl, h1⟩ := DataW.trod_array hu h
        cases hx
        obtain ⟨hl, hn⟩ := full?_inv hl
        have := trod_elems (w := w) (g := DataW.trod enc P w base spare held k e) (n := n) (sz := P.cellsOf e) (e := e) (fun cs d p l h hl => ih k e cs d p l h hl) cs 0 xs l (fun j hj => by rw [Nat.zero_add]; exact h1 j (by omega)) hl
        rw [Nat.zero_mul, List.drop_zero, hn, ← hlen, List.take_length] at this
        exact this
      · cases hl
    · cases hl
end
end Go.Eng

/-
  THE ENGINE, 52: from what the engine answers of a law of no parameters to what its row says.
-/
namespace Go.Eng
open Go

section
variable {P : Program}

/-- What a run that turns nothing of one's own keeps. -/
theorem kept_of_fr {W W' : World} (h : Fr (fun _ => False) W W') (may : MemPlace → Prop) : W.keptBut W' may := by
  refine ⟨h.os, h.output, fun i hi => ?_⟩
  rw [h.block i hi (fun x => x)]
  split
  · rename_i h1 h2
    rw [h1] at h2
    cases h2
    exact ⟨rfl, rfl, rfl, fun _ _ => rfl⟩
  · rename_i h1 h2
    rw [h1] at h2
    cases h2
    exact .inr ⟨rfl, rfl⟩
  · rfl

/-- Does a listed variable hold these cells? -/
noncomputable def glB (P : Program) : List (String × DataW Unit) → Nat → List AV → Bool
  | [], _, _ => false
  | (n, d) :: r, g, l => match (match P.globalNamed n with | some g' => Nat.beq g' g | none => false) with
    | true => match P.globals[g]? with
      | some i => match av P 40 i.type d with
        | some l' => avbeqL l' l
        | none => false
      | none => false
    | false => glB P r g l

theorem glB_spec : ∀ {laid : List (String × DataW Unit)} {g : Nat} {l : List AV}, glB P laid g l = true → ∃ n d i, (n, d) ∈ laid ∧ P.globalNamed n = some g ∧ P.globals[g]? = some i ∧ av P 40 i.type d = some l
  | [], g, l, h => by simp [glB] at h
  | (n, d) :: r, g, l, h => by
    rw [glB] at h
    split at h
    · rename_i e
      split at e
      · rename_i g' hg
        have := Nat.eq_of_beq_eq_true e; subst this
        split at h
        · rename_i i hi
          split at h
          · rename_i l' hl
            have := avbeqL_eq _ _ h; subst this
            exact ⟨n, d, i, List.mem_cons_self, hg, hi, hl⟩
          · cases h
        · cases h
      · cases e
    · obtain ⟨n', d', i, h1, h2⟩ := glB_spec h
      exact ⟨n', d', i, List.mem_cons_of_mem _ h1, h2⟩

/-- What is known of variables, from what is laid. -/
theorem glob_of {E : Env} {laid : List (String × DataW Unit)} {gl : Tr (List AV)} (hE : E.glob = gl.get) (h : allT (glB P laid) gl (fun k => k) = true) {W : World} (hL : laidMet P laid W) : GlobK E (seen W) := by
  intro g l hg
  rw [hE] at hg
  obtain ⟨n, d, i, h1, h2, h3, h4⟩ := glB_spec (allT_spec _ _ h _ _ hg)
  obtain ⟨g', t, cs, fuel, p, k1, k2, k3, k4⟩ := Lib.laidMet.reads hL h1
  obtain rfl := Option.some.inj (h2.symm.trans k1)
  rw [h3] at k2
  simp only [Option.map_some, Option.some.injEq] at k2
  subst k2
  have hv := trod_av (w := W) (fun _ => rfl) _ _ _ _ _ _ _ k4 h4
  refine ⟨fun i => (cs[i]?).getD undef, fun i hi => ?_⟩
  have hi' : i < cs.toList.length := hv.1 ▸ hi
  have hc := World.var?_cell h2 k3 i
  have e : cs[i]? = some cs[i] := by simp [show i < cs.size by simpa using hi']
  refine ⟨?_, ?_⟩
  · show W.cell? ⟨g, i, none⟩ = _
    show _ = some ((cs[i]?).getD undef)
    rw [hc, e]; rfl
  · show VR (seen W) l[i] ((cs[i]?).getD undef)
    rw [e]
    have := hv.2 i hi hi'
    simpa using this

/-- Behind a law of no parameters. -/
theorem post0 {H : Type} {enc : TypeId × Value → H} {f : Func} {s : ChangeSpec} {W W' : World} {t : TypeId} (hp : f.params = #[]) (hr : f.resultTypes = #[t]) (ht : P.underlying t = some .bool) (hv : s.vars = [])
    (hs : s.fn H [] = { results := [.lit (.bool true)], args := [] }) {ds gs : List (DataW H)} {before : List MemPlace} (hW : DataW.Whole enc P f.params.toList s.vars false W [] ds gs before) (h : Fr (fun _ => False) W W') :
    s.post enc P f false true false false W #[] (.bool true) W' := by
  obtain ⟨p, q, h1, h2, h3, h4, h5⟩ := hW
  have h1' := h1
  have h2' := h2
  rw [hp] at h1'
  rw [hv] at h2'
  have e1 : ds = [] := by
    cases ds with
    | nil => rfl
    | cons d ds => exact absurd h1' (fun h => by cases h)
  have e2 : gs = [] := by
    cases gs with
    | nil => rfl
    | cons d ds => exact absurd h2' (fun h => by cases h)
  subst e1; subst e2
  refine ⟨[], [], before, [], [], [], ⟨p, q, h1, h2, h3, h4, h5⟩, ?_, ?_, ?_, kept_of_fr h _, fun h => by cases h⟩
  · rw [List.nil_append, hs, hr]
    exact Go.ChangeShapes.trodAll_mk1 ⟨1, by simp [DataW.trod, Value.cells, ht]⟩
  · rw [List.nil_append, hs, hp]
    rfl
  · rw [List.nil_append, hs, hv]
    rfl

/-- A law of no parameters that the engine finds true. -/
theorem law0 {T : Tabs} {E : Env} (hE : EnvOK P E) (hX : ExtOK P E) (hN : NameOK E) (hmix : P.follows .mixedOrders = true) (hgl : E.glob = T.gl.get) {laid : List (String × DataW Unit)} (hl : allT (glB P laid) T.gl (fun k => k) = true) {n f : Nat} (h : isTrue E n f = true)
    {W : World} (hL : laidMet P laid W) : Calls P f #[] W fun e W' => e = .returned (.bool true) ∧ Fr (fun _ => False) W W' :=
  calls_true hE hX hN hmix h (V := seen W) (fun _ _ _ h => h) (glob_of hgl hl hL)
end
end Go.Eng

/-
  THE ENGINE, 57: the end of a law, with calls said ahead.
-/
namespace Go.Eng
open Go

section
variable {P : Program}

/-- A law of no parameters that the engine finds true. -/
theorem law0T {T : Tabs} {E : Env} (hE : EnvOK P E) (hX : ExtOK P E) (hN : NameOK E) (hmix : P.follows .mixedOrders = true) (hgl : E.glob = T.gl.get) {laid : List (String × DataW Unit)} (hl : allT (glB P laid) T.gl (fun k => k) = true) {n f : Nat} {C : List Ent} (hC : ∀ e ∈ C, EntOK P E e) (h : isTrueT E C n f = true)
    {W : World} (hL : laidMet P laid W) : Calls P f #[] W fun e W' => e = .returned (.bool true) ∧ Fr (fun _ => False) W W' :=
  calls_trueT hE hX hN hmix hC h (V := seen W) (fun _ _ _ h => h) (glob_of hgl hl hL)
end
end Go.Eng


namespace Go.Proofs.Ytpnipaimaohiaab
open Go Go.ChangeShapes Go.WideShapes Go.Eng

theorem kOwn : ownKnob Try.prog.godebug = none := by kernel_rfl
theorem kNoLaid {W : World} : laidMet Try.prog [] W := ⟨[], rfl, List.nodup_nil, fun _ _ h => absurd h (by simp)⟩
theorem kLaid : allT (glB Try.prog []) T0.gl (fun k => k) = true := by kernel_rfl
theorem kParams : Try.f3.params = #[] := by kernel_rfl
theorem kResults : Try.f3.resultTypes = #[4] := by kernel_rfl

theorem g1 : E1.glob = T0.gl.get := rfl

set_option maxRecDepth 100000 in
theorem kLifted (os : Os) (started : os.Started) (H : Type) (enc : TypeId × Value → H) :
    ReturnsInHanded {} Try.checked os 3 .any (Rows.storeKnownSpec.pre6 enc Try.prog Try.f3 Rows.storeKnownRow.domain false) (Rows.storeKnownSpec.post enc Try.prog Try.f3 false true false false) := by
  refine returnsInHanded_of_change (C := Try.checked) kOwn started (by kernel_rfl) Try.func3
    (ChangeSpec.witness6 (enc := enc) (C := Try.checked) false ⟨#[], #[], []⟩ 8 (by kernel_rfl) (by kernel_rfl) (by kernel_rfl) (by kernel_rfl)) ?_
  intro W base args ds gs before _ hW _ _
  have e : args = #[] := by
    obtain ⟨p, q, hA, _⟩ := hW
    rw [kParams] at hA
    cases h : args.toList with
    | nil => exact Array.toList_eq_nil_iff.1 h
    | cons a r => rw [h] at hA; exact absurd hA (fun h => by cases h)
  subst e
  refine (law0T (T := T0) (laid := []) e1 x1 n1 tabs_ok.mix g1 kLaid l4 kn_true kNoLaid).mono fun e W' ⟨he, hf⟩ => ?_
  subst he
  exact ⟨_, rfl, post0 kParams kResults Try.underlying4 rfl rfl hW hf⟩

/-- The law. -/
theorem storeKnown_holds : Rows.StoreKnownSaid :=
  OpenClaim.holds_of_wide 3 Try.f3 rfl rfl rfl rfl rfl rfl rfl ⟨rfl, rfl, rfl, rfl, rfl⟩ rfl rfl rfl rfl rfl (by kernel_rfl) Try.func3 (by kernel_rfl)
    (of_decide_eq_true (by kernel_rfl)) (by unfold Func.isWrapper; first | (rw [if_pos (by decide +kernel)]; kernel_rfl) | (rw [if_neg (by decide +kernel)]; exact ⟨rfl, rfl⟩))
    (fun os started H enc _ => kLifted os started H enc)

#print axioms storeKnown_holds
end Go.Proofs.Ytpnipaimaohiaab

