/-
  What is proved: norelaw01.ChartChecks returns true for every string, number and chart: Name, Vector and Check of the program return what the reference says. Conditions: none but those of the given card (package-level variables start as the program's text lays them).
-/
import Derived.Test.YtjcegidfmkfimaaGreatDoorPart06
import Derived.Test.YtjcegidfmkfimaaGreatDoorPart07
import Derived.Test.YtjcegidfmkfimaaGreatDoorPart08
import Derived.Test.YtjcegidfmkfimaaGreatDoorPart09
import Derived.Test.YtjcegidfmkfimaaGreatDoorPart10
import Derived.Test.YtjcegidfmkfimaaGreatDoorPart11
import Derived.Test.YtjcegidfmkfimaaGreatDoorPart17
import Derived.Test.YtjcegidfmkfimaaGreatDoorPart12
import Derived.Test.YtjcegidfmkfimaaGreatDoorPart13
import Derived.Test.YtjcegidfmkfimaaGreatDoorPart14
import Derived.Test.YtjcegidfmkfimaaGreatDoorPart15
import Derived.Test.YtjcegidfmkfimaaGreatDoorPart02
import Derived.DataReads
import Derived.OpenShut
import GoSem.ClaimJoined
import Derived.Lib.LaidU8
import Derived.FnData
import Derived.MakeChecks
import Derived.ProofKit
import Derived.LaidMore
import Derived.Stop.Joined
import Derived.Lay
import Derived.Test.YtjcegidfmkfimaaGreatDoorPart03
import Derived.Test.YtjcegidfmkfimaaGreatDoorPart05
import Derived.Carry
import Derived.Test.YtjcegidfmkfimaaGreatDoorRows
import Derived.Test.YtjcegidfmkfimaaGreatDoorCards
import Derived.Test.YtjcegidfmkfimaaGreatDoorTie
import Derived.SevenTiedAt
set_option linter.unusedSectionVars false
set_option linter.unusedSimpArgs false
set_option linter.unusedVariables false
/-
  CLOSED CALLS, joined.
-/
set_option maxRecDepth 100000
namespace Go.Proofs.YtjcegidfmkfimaaGreatDoor
open Go Go.Eng
noncomputable def L3 : List Ent := [c0, c1, c2, c3, c4, c5, c6, c7, c8, c9, c10]
theorem l3 : ∀ e ∈ L3, EntOK Tryz.prog EA e := ents_cons o0 (ents_cons o1 (ents_cons o2 (ents_cons o3 (ents_cons o4 (ents_cons o5 (ents_cons o6 (ents_cons o7 (ents_cons o8 (ents_cons o9 (ents_cons o10 (ents_nil)))))))))))
end Go.Proofs.YtjcegidfmkfimaaGreatDoor

/-
  THE LAW, its answer by the kernel.
-/
set_option maxRecDepth 100000
namespace Go.Proofs.YtjcegidfmkfimaaGreatDoor
open Go Go.Eng
theorem kn_true : isTrueT EA L3 40 22 = true := by kernel_rfl
end Go.Proofs.YtjcegidfmkfimaaGreatDoor

/-
  THE ENGINE, 51: data that are read are abstract values.
-/
namespace Go.Eng
open Go

section
variable {H : Type} {P : Program}

/-- Elements of one size, one behind the other. -/
noncomputable def avAll (g : DataW H → Option (List AV)) (sz : Nat) : List (DataW H) → Option (List AV)
  | [] => some []
  | d :: ds => match g d, avAll g sz ds with
    | some l, some r => match Nat.beq l.length sz with
      | true => some (l ++ r)
      | false => none
    | _, _ => none

/-- Fields, one behind the other. -/
noncomputable def avF (P : Program) (g : TypeId → DataW H → Option (List AV)) : Nat → List Field → List (DataW H) → Option (List AV)
  | _, [], [] => some []
  | off, f :: fs, d :: ds => match g f.type d, avF P g (off + P.cellsOf f.type) fs ds with
    | some l, some r => match Nat.beq f.offset off, Nat.beq l.length (P.cellsOf f.type) with
      | true, true => some (l ++ r)
      | _, _ => none
    | _, _ => none
  | _, _, _ => none

/-- All cells of a type. -/
noncomputable def full? (P : Program) (t : TypeId) : Option (List AV) → Option (List AV)
  | some l => match Nat.beq l.length (P.cellsOf t) with
    | true => some l
    | false => none
  | none => none
theorem full?_inv {t : TypeId} {r : Option (List AV)} {l : List AV} (h : full? P t r = some l) : r = some l ∧ l.length = P.cellsOf t := by
  unfold full? at h
  split at h
  · split at h
    · rename_i e
      simp only [Option.some.injEq] at h; subst h
      exact ⟨rfl, Nat.eq_of_beq_eq_true e⟩
    · cases h
  · cases h
/-- The cells of a datum of a type. -/
noncomputable def av (P : Program) : Nat → TypeId → DataW H → Option (List AV)
  | 0, _, _ => none
  | n + 1, t, d => match P.underlying t with
    | some .bool => match d with
      | .lit (.bool b) => some [.bool b]
      | _ => none
    | some (.int _) => match d with
      | .lit (.int k i) => some [.int k i]
      | _ => none
    | some .string => match d with
      | .lit (.string s) => some [.str (s.map (·.toNat))]
      | _ => none
    | some (.pointer e) => match d with
      | .nil => some [.nilp]
      | .ptr d => match Nat.ble 1 (P.cellsOf e) with
        | true => (av P n e d).map fun l => [.cp l 0]
        | false => none
      | _ => none
    | some (.slice e) => match d with
      | .nil => some [.nils]
      | .slice els _ => match Nat.ble 1 (P.cellsOf e) with
        | true => (avAll (av P n e) (P.cellsOf e) els).map fun l => [.csl l els.length]
        | false => none
      | _ => none
    | some (.struct fs) => match d with
      | .agg ps => full? P t (avF P (av P n) 0 fs.toList ps)
      | _ => none
    | some (.array _ e) => match d with
      | .agg ps => full? P t (avAll (av P n e) (P.cellsOf e) ps)
      | _ => none
    | _ => none

theorem avAll_cons {g : DataW H → Option (List AV)} {sz : Nat} {d : DataW H} {ds : List (DataW H)} {l : List AV} (h : avAll g sz (d :: ds) = some l) : ∃ a r, g d = some a ∧ avAll g sz ds = some r ∧ a.length = sz ∧ l = a ++ r := by
  simp only [avAll] at h
  split at h
  · rename_i a r h1 h2
    split at h
    · rename_i e
      simp only [Option.some.injEq] at h
      exact ⟨a, r, h1, h2, Nat.eq_of_beq_eq_true e, h.symm⟩
    · cases h
  · cases h

theorem avF_cons {g : TypeId → DataW H → Option (List AV)} {off : Nat} {f : Field} {fs : List Field} {d : DataW H} {ds : List (DataW H)} {l : List AV} (h : avF P g off (f :: fs) (d :: ds) = some l) :
    ∃ a r, g f.type d = some a ∧ avF P g (off + P.cellsOf f.type) fs ds = some r ∧ f.offset = off ∧ a.length = P.cellsOf f.type ∧ l = a ++ r := by
  simp only [avF] at h
  split at h
  · rename_i a r h1 h2
    split at h
    · rename_i e e2
      simp only [Option.some.injEq] at h
      exact ⟨a, r, h1, h2, Nat.eq_of_beq_eq_true e, Nat.eq_of_beq_eq_true e2, h.symm⟩
    · cases h
  · cases h

variable {enc : TypeId × Value → H} {w : World} {base : Nat} {spare : Nat → Bool} {held : Bool}

/-- A view by which all of memory is known. -/
def seen (w : World) : View := ⟨fun _ => none, fun _ => none, fun b o => w.cell? ⟨b, o, none⟩, fun _ => 0⟩
theorem seen_bare (w : World) : (seen w).bare = seen w := rfl

theorem cells?_get {a : Addr} {n : Nat} {cs : List Value} (h : w.cells? base a n = some cs) : cs.length = n ∧ ∀ j, j < n → w.cell? (a.add j) = cs[j]? := by
  unfold World.cells? at h
  split at h
  · refine ⟨by simpa using mapM_some_length h, fun j hj => ?_⟩
    exact mapM_some_get h j j (by simp [hj])
  · cases h

theorem cell?_spot {a : Addr} {v : Value} (h : w.cell? a = some v) : a.spot = none := by
  unfold World.cell? at h
  split at h
  · split at h
    · cases h
    · rename_i hs; simpa using hs
  · cases h

/-- What is laid one behind the other. -/
def Lies (w : World) (blk o : Nat) (l : List AV) : Prop := ∀ i (hi : i < l.length), ∃ v, w.cell? ⟨blk, o + i, none⟩ = some v ∧ VR (seen w) l[i] v

theorem Lies.append {blk o : Nat} {l r : List AV} (h : Lies w blk o l) (k : Lies w blk (o + l.length) r) : Lies w blk o (l ++ r) := by
  intro i hi
  by_cases hl : i < l.length
  · rw [List.getElem_append_left hl]; exact h i hl
  · have hi' : i - l.length < r.length := by rw [List.length_append] at hi; omega
    rw [List.getElem_append_right (by omega)]
    obtain ⟨v, h1, h2⟩ := k (i - l.length) hi'
    rw [show o + l.length + (i - l.length) = o + i by omega] at h1
    exact ⟨v, h1, h2⟩

theorem Lies.of {blk o : Nat} {l : List AV} {cs : List Value} (h : VRs (seen w) l cs) (hc : ∀ j, j < cs.length → w.cell? ⟨blk, o + j, none⟩ = cs[j]?) : Lies w blk o l := by
  intro i hi
  have hi' : i < cs.length := h.1 ▸ hi
  exact ⟨cs[i], by rw [hc i hi']; simp [hi'], h.2 i hi hi'⟩

theorem Lies.choose {blk o : Nat} {l : List AV} (h : Lies w blk o l) : ∃ f : Nat → Value, (∀ i, i < l.length → (seen w).K blk (o + i) = some (f i)) ∧ ∀ i (hi : i < l.length), VR (seen w).bare l[i] (f i) := by
  refine ⟨fun i => (w.cell? ⟨blk, o + i, none⟩).getD undef, fun i hi => ?_, fun i hi => ?_⟩
  · obtain ⟨v, h1, _⟩ := h i hi
    show w.cell? ⟨blk, o + i, none⟩ = _
    simp [h1]
  · obtain ⟨v, h1, h2⟩ := h i hi
    simp only [h1, Option.getD_some]
    exact h2

theorem spot_add {a : Addr} (hs : a.spot = none) (n : Nat) : a.add n = ⟨a.block, a.off + n, none⟩ := by
  obtain ⟨blk, off, spot⟩ := a
  simp only at hs; subst hs
  unfold Addr.add
  split
  · rename_i h; subst h; rfl
  · rfl
theorem spot_add2 {a : Addr} (hs : a.spot = none) (n m : Nat) : (a.add n).add m = a.add (n + m) := by
  rw [spot_add hs, spot_add rfl, spot_add hs, Nat.add_assoc]

theorem trod_parts {g : TypeId → List Value → Option (DataW H × List MemPlace)} {n : Nat} (ih : ∀ t cs d p l, g t cs = some (d, p) → av P n t d = some l → VRs (seen w) l cs) (cs : List Value) :
    ∀ (fs : List Field) (off : Nat) (xs : List (DataW H × List MemPlace)) (l : List AV), (∀ (i : Nat) (f : Field), fs[i]? = some f → g f.type ((cs.drop f.offset).take (P.cellsOf f.type)) = xs[i]?) → avF P (av P n) off fs (xs.map (·.1)) = some l → VRs (seen w) l ((cs.drop off).take l.length)
  | [], off, xs, l, h, hl => by
    cases xs with
    | nil =>
      simp only [List.map_nil, avF, Option.some.injEq] at hl; subst hl
      simpa using VRs.nil _
    | cons x xs => simp [avF] at hl
  | f :: fs, off, [], l, h, hl => by simp [avF] at hl
  | f :: fs, off, x :: xs, l, h, hl => by
    rw [List.map_cons] at hl
    obtain ⟨a, r, h1, h2, h3, h4, rfl⟩ := avF_cons hl
    have hx := h 0 f rfl
    rw [List.getElem?_cons_zero] at hx
    have e1 := ih _ _ _ x.2 a hx h1
    have e2 := trod_parts ih cs fs _ xs r (fun i f hf => by have := h (i + 1) f (by simpa using hf); simpa using this) h2
    rw [h3] at e1
    rw [List.length_append, h4, List.take_add, List.drop_drop]
    exact e1.append e2

theorem trod_elems {g : List Value → Option (DataW H × List MemPlace)} {n sz : Nat} {e : TypeId} (ih : ∀ cs d p l, g cs = some (d, p) → av P n e d = some l → VRs (seen w) l cs) (cs : List Value) :
    ∀ (i : Nat) (xs : List (DataW H × List MemPlace)) (l : List AV), (∀ j, j < xs.length → g ((cs.drop ((i + j) * sz)).take sz) = xs[j]?) → avAll (av P n e) sz (xs.map (·.1)) = some l → VRs (seen w) l ((cs.drop (i * sz)).take l.length)
  | i, [], l, h, hl => by
    simp only [List.map_nil, avAll, Option.some.injEq] at hl; subst hl
    simpa using VRs.nil _
  | i, x :: xs, l, h, hl => by
    rw [List.map_cons] at hl
    obtain ⟨a, r, h1, h2, h4, rfl⟩ := avAll_cons hl
    have hx := h 0 (by simp)
    rw [List.getElem?_cons_zero] at hx
    have e1 := ih _ _ x.2 a hx h1
    have e2 := trod_elems ih cs (i + 1) xs r (fun j hj => by have := h (j + 1) (by simpa using hj); rw [show i + 1 + j = i + (j + 1) by omega]; simpa using this) h2
    rw [List.length_append, h4, List.take_add, List.drop_drop]
    rw [show i * sz + sz = (i + 1) * sz by rw [Nat.add_mul, Nat.one_mul]]
    exact e1.append e2

theorem trod_lies {g : List Value → Option (DataW H × List MemPlace)} {n sz : Nat} {e : TypeId} (ih : ∀ cs d p l, g cs = some (d, p) → av P n e d = some l → VRs (seen w) l cs) (a : Addr) (hs : a.spot = none) :
    ∀ (i : Nat) (xs : List (DataW H × List MemPlace)) (l : List AV), (∀ j, j < xs.length → (w.cells? base (a.add ((i + j) * sz)) sz).bind g = xs[j]?) → avAll (av P n e) sz (xs.map (·.1)) = some l → Lies w a.block (a.off + i * sz) l
  | i, [], l, h, hl => by
    simp only [List.map_nil, avAll, Option.some.injEq] at hl; subst hl
    intro i hi; simp at hi
  | i, x :: xs, l, h, hl => by
    rw [List.map_cons] at hl
    obtain ⟨b, r, h1, h2, h4, rfl⟩ := avAll_cons hl
    have hx := h 0 (by simp)
    rw [List.getElem?_cons_zero, Option.bind_eq_some_iff] at hx
    obtain ⟨cs, hc, hx⟩ := hx
    have e1 := ih _ _ x.2 b hx h1
    have e2 := trod_lies ih a hs (i + 1) xs r (fun j hj => by have := h (j + 1) (by simpa using hj); rw [show i + 1 + j = i + (j + 1) by omega]; simpa using this) h2
    obtain ⟨c1, c2⟩ := cells?_get hc
    refine Lies.append (Lies.of e1 fun j hj => ?_) ?_
    · rw [← c2 j (c1 ▸ hj), spot_add hs]
      rw [show a.off + i * sz + j = a.off + ((i + 0) * sz + j) by rw [Nat.add_zero]; omega]
      rw [← spot_add hs, ← spot_add2 hs, spot_add hs]
    · rw [h4, show a.off + i * sz + sz = a.off + (i + 1) * sz by rw [Nat.add_mul, Nat.one_mul]; omega]
      exact e2

theorem trod_av (hsp : ∀ b, spare b = true) : ∀ (n m : Nat) (t : TypeId) (cs : List Value) (d : DataW H) (p : List MemPlace) (l : List AV), DataW.trod enc P w base spare held m t cs = some (d, p) → av P n t d = some l → VRs (seen w) l cs
  | 0, m, t, cs, d, p, l, h, hl => by simp [av] at hl
  | n + 1, m, t, cs, d, p, l, h, hl => by
    have ih := fun m t cs d p l (h : DataW.trod enc P w base spare held m t cs = some (d, p)) (hl : av P n t d = some l) => trod_av hsp n m t cs d p l h hl
    rw [av.eq_def] at hl
    simp only at hl
    split at hl
    · rename_i hu
      obtain ⟨b, rfl, hx⟩ := DataW.trod_bool hu h
      cases hx
      cases hl
      exact .cons (.bool _) (.nil _)
    · rename_i hu
      obtain ⟨i, rfl, hx, _⟩ := DataW.trod_int hu h
      cases hx
      cases hl
      exact .cons (.int _ _) (.nil _)
    · rename_i hu
      obtain ⟨s, rfl, hx, _⟩ := DataW.trod_string hu h
      cases hx
      cases hl
      exact .cons (.str _) (.nil _)
    · rename_i e hu
      rcases DataW.trod_pointer hu h with ⟨rfl, hx⟩ | ⟨a, cs', y, k, rfl, rfl, hx, hc, hy⟩
      · cases hx
        cases hl
        exact .cons .nilp (.nil _)
      · cases hx
        simp only at hl
        split at hl
        · rename_i hz
          have hz := Nat.le_of_ble_eq_true hz
          simp only [Option.map_eq_some_iff] at hl
          obtain ⟨l', hl', rfl⟩ := hl
          have e1 := ih _ _ _ _ y.2 _ hy hl'
          obtain ⟨c1, c2⟩ := cells?_get hc
          have hs : a.spot = none := by
            have := c2 0 (by omega)
            rw [List.getElem?_eq_getElem (by omega)] at this
            exact cell?_spot (a := a.add 0) this
          have hL : Lies w a.block a.off l' := Lies.of e1 fun j hj => by rw [← c2 j (c1 ▸ hj), spot_add hs]
          obtain ⟨f, f1, f2⟩ := hL.choose
          refine .cons ?_ (.nil _)
          obtain ⟨blk, off, spot⟩ := a
          simp only at hs; subst hs
          exact .cp l' 0 blk off f f1 f2
        · cases hl
    · rename_i e hu
      rcases DataW.trod_slice hu h with ⟨rfl, hx⟩ | ⟨a, len, cap, els, rest, k, rfl, rfl, hx, hb, hlc, _, hlen, h1, h2, _⟩
      · cases hx
        cases hl
        exact .cons .nils (.nil _)
      · cases hx
        simp only at hl
        split at hl
        · rename_i hz
          have hz := Nat.le_of_ble_eq_true hz
          simp only [Option.map_eq_some_iff] at hl
          obtain ⟨l', hl', rfl⟩ := hl
          obtain ⟨h2l, h2⟩ := h2 (hsp _)
          have hone : cap ≠ 0 → ∃ x, ((w.cells? base (a.add (0 * P.cellsOf e)) (P.cellsOf e)).bind (DataW.trod enc P w base spare held k e)) = some x := by
            intro hc0
            by_cases hl0 : len = 0
            · have := h2 0 (by omega)
              rw [List.getElem?_eq_getElem (by omega)] at this
              subst hl0
              exact ⟨_, by simpa using this⟩
            · have := h1 0 (by omega)
              rw [List.getElem?_eq_getElem (by omega)] at this
              exact ⟨_, this⟩
          have hs : cap = 0 ∨ a.spot = none := by
            by_cases hc0 : cap = 0
            · exact .inl hc0
            · right
              obtain ⟨x, hx⟩ := hone hc0
              rw [Option.bind_eq_some_iff] at hx
              obtain ⟨cs', hc, _⟩ := hx
              obtain ⟨c1, c2⟩ := cells?_get hc
              have := c2 0 (by omega)
              rw [List.getElem?_eq_getElem (by omega)] at this
              have := cell?_spot this
              simpa [Addr.add] using this
          have hL : Lies w a.block a.off l' := by
            rcases hs with hc0 | hs
            · have : els = [] := List.eq_nil_of_length_eq_zero (by omega)
              subst this
              simp only [List.map_nil, avAll, Option.some.injEq] at hl'; subst hl'
              intro i hi; simp at hi
            · have := trod_lies (w := w) (base := base) (g := DataW.trod enc P w base spare held k e) (n := n) (sz := P.cellsOf e) (e := e) (fun cs d p l h hl => ih _ e cs d p l h hl) a hs 0 els l' (fun j hj => by rw [Nat.zero_add]; exact h1 j (by omega)) hl'
              simpa using this
          obtain ⟨f, f1, f2⟩ := hL.choose
          refine .cons ?_ (.nil _)
          rw [show (els.map (·.1)).length = len by rw [List.length_map, hlen]]
          refine .csl l' len a.block a.off cap a f f1 f2 hlc (hs.imp (fun x => x) fun x => ?_)
          obtain ⟨blk, off, spot⟩ := a
          simp only at x; subst x; rfl
        · cases hl
    · rename_i fs hu
      obtain ⟨xs, k, rfl, hx, hlen, _, h1⟩ := DataW.trod_struct hu h
      cases hx
      simp only at hl
      obtain ⟨hl, hn⟩ := full?_inv hl
      have := trod_parts (w := w) (g := DataW.trod enc P w base spare held k) (fun t cs d p l h hl => ih k t cs d p l h hl) cs fs.toList 0 xs l (fun i f hf => h1 i f (by simpa using hf)) hl
      rw [List.drop_zero, hn, ← hlen, List.take_length] at this
      exact this
    · rename_i k e hu
      split at hl
      · rename_i ps
        obtain ⟨xs, k, rfl, hx, hlen, hxl, h1⟩ := DataW.trod_array hu h
        cases hx
        obtain ⟨hl, hn⟩ := full?_inv hl
        have := trod_elems (w := w) (g := DataW.trod enc P w base spare held k e) (n := n) (sz := P.cellsOf e) (e := e) (fun cs d p l h hl => ih k e cs d p l h hl) cs 0 xs l (fun j hj => by rw [Nat.zero_add]; exact h1 j (by omega)) hl
        rw [Nat.zero_mul, List.drop_zero, hn, ← hlen, List.take_length] at this
        exact this
      · cases hl
    · cases hl
end
end Go.Eng

/-
  THE ENGINE, 52: from what the engine answers of a law of no parameters to what its row says.
-/
namespace Go.Eng
open Go

section
variable {P : Program}

/-- What a run that turns nothing of one's own keeps. -/
theorem kept_of_fr {W W' : World} (h : Fr (fun _ => False) W W') (may : MemPlace → Prop) : W.keptBut W' may := by
  refine ⟨h.os, h.output, fun i hi => ?_⟩
  rw [h.block i hi (fun x => x)]
  split
  · rename_i h1 h2
    rw [h1] at h2
    cases h2
    exact ⟨rfl, rfl, rfl, fun _ _ => rfl⟩
  · rename_i h1 h2
    rw [h1] at h2
    cases h2
    exact .inr ⟨rfl, rfl⟩
  · rfl

/-- Does a listed variable hold these cells? -/
noncomputable def glB (P : Program) : List (String × DataW Unit) → Nat → List AV → Bool
  | [], _, _ => false
  | (n, d) :: r, g, l => match (match P.globalNamed n with | some g' => Nat.beq g' g | none => false) with
    | true => match P.globals[g]? with
      | some i => match av P 40 i.type d with
        | some l' => avbeqL l' l
        | none => false
      | none => false
    | false => glB P r g l

theorem glB_spec : ∀ {laid : List (String × DataW Unit)} {g : Nat} {l : List AV}, glB P laid g l = true → ∃ n d i, (n, d) ∈ laid ∧ P.globalNamed n = some g ∧ P.globals[g]? = some i ∧ av P 40 i.type d = some l
  | [], g, l, h => by simp [glB] at h
  | (n, d) :: r, g, l, h => by
    rw [glB] at h
    split at h
    · rename_i e
      split at e
      · rename_i g' hg
        have := Nat.eq_of_beq_eq_true e; subst this
        split at h
        · rename_i i hi
          split at h
          · rename_i l' hl
            have := avbeqL_eq _ _ h; subst this
            exact ⟨n, d, i, List.mem_cons_self, hg, hi, hl⟩
          · cases h
        · cases h
      · cases e
    · obtain ⟨n', d', i, h1, h2⟩ := glB_spec h
      exact ⟨n', d', i, List.mem_cons_of_mem _ h1, h2⟩

/-- What is known of variables, from what is laid. -/
theorem glob_of {E : Env} {laid : List (String × DataW Unit)} {gl : Tr (List AV)} (hE : E.glob = gl.get) (h : allT (glB P laid) gl (fun k => k) = true) {W : World} (hL : laidMet P laid W) : GlobK E (seen W) := by
  intro g l hg
  rw [hE] at hg
  obtain ⟨n, d, i, h1, h2, h3, h4⟩ := glB_spec (allT_spec _ _ h _ _ hg)
  obtain ⟨g', t, cs, fuel, p, k1, k2, k3, k4⟩ := Lib.laidMet.reads hL h1
  obtain rfl := Option.some.inj (h2.symm.trans k1)
  rw [h3] at k2
  simp only [Option.map_some, Option.some.injEq] at k2
  subst k2
  have hv := trod_av (w := W) (fun _ => rfl) _ _ _ _ _ _ _ k4 h4
  refine ⟨fun i => (cs[i]?).getD undef, fun i hi => ?_⟩
  have hi' : i < cs.toList.length := hv.1 ▸ hi
  have hc := World.var?_cell h2 k3 i
  have e : cs[i]? = some cs[i] := by simp [show i < cs.size by simpa using hi']
  refine ⟨?_, ?_⟩
  · show W.cell? ⟨g, i, none⟩ = _
    show _ = some ((cs[i]?).getD undef)
    rw [hc, e]; rfl
  · show VR (seen W) l[i] ((cs[i]?).getD undef)
    rw [e]
    have := hv.2 i hi hi'
    simpa using this

/-- Behind a law of no parameters. -/
theorem post0 {H : Type} {enc : TypeId × Value → H} {f : Func} {s : ChangeSpec} {W W' : World} {t : TypeId} (hp : f.params = #[]) (hr : f.resultTypes = #[t]) (ht : P.underlying t = some .bool) (hv : s.vars = [])
    (hs : s.fn H [] = { results := [.lit (.bool true)], args := [] }) {ds gs : List (DataW H)} {before : List MemPlace} (hW : DataW.Whole enc P f.params.toList s.vars false W [] ds gs before) (h : Fr (fun _ => False) W W') :
    s.post enc P f false true false false W #[] (.bool true) W' := by
  obtain ⟨p, q, h1, h2, h3, h4, h5⟩ := hW
  have h1' := h1
  have h2' := h2
  rw [hp] at h1'
  rw [hv] at h2'
  have e1 : ds = [] := by
    cases ds with
    | nil => rfl
    | cons d ds => exact absurd h1' (fun h => by cases h)
  have e2 : gs = [] := by
    cases gs with
    | nil => rfl
    | cons d ds => exact absurd h2' (fun h => by cases h)
  subst e1; subst e2
  refine ⟨[], [], before, [], [], [], ⟨p, q, h1, h2, h3, h4, h5⟩, ?_, ?_, ?_, kept_of_fr h _, fun h => by cases h⟩
  · rw [List.nil_append, hs, hr]
    exact Go.ChangeShapes.trodAll_mk1 ⟨1, by simp [DataW.trod, Value.cells, ht]⟩
  · rw [List.nil_append, hs, hp]
    rfl
  · rw [List.nil_append, hs, hv]
    rfl

/-- A law of no parameters that the engine finds true. -/
theorem law0 {T : Tabs} {E : Env} (hE : EnvOK P E) (hX : ExtOK P E) (hN : NameOK E) (hmix : P.follows .mixedOrders = true) (hgl : E.glob = T.gl.get) {laid : List (String × DataW Unit)} (hl : allT (glB P laid) T.gl (fun k => k) = true) {n f : Nat} (h : isTrue E n f = true)
    {W : World} (hL : laidMet P laid W) : Calls P f #[] W fun e W' => e = .returned (.bool true) ∧ Fr (fun _ => False) W W' :=
  calls_true hE hX hN hmix h (V := seen W) (fun _ _ _ h => h) (glob_of hgl hl hL)
end
end Go.Eng

/-
  THE ENGINE, 68: data that are read are plain data of a type.
-/
namespace Go.Eng
open Go

mutual
/-- Is a type of the program read as data of this kind? -/
noncomputable def fits (P : Program) : Ty → TypeId → Bool
  | .int k, T => match P.underlying T with
    | some (.int k') => ikb k k'
    | _ => false
  | .bool, T => match P.underlying T with
    | some .bool => true
    | _ => false
  | .str, T => match P.underlying T with
    | some .string => true
    | _ => false
  | .nil, T => match P.underlying T with
    | some (.struct fs) => match fs.toList with
      | [] => Nat.beq 0 (P.cellsOf T)
      | _ => false
    | _ => false
  | .cons a b, T => match P.underlying T with
    | some (.struct fs) => match fs.toList with
      | f :: fs => Nat.beq f.offset 0 && fits P a f.type && Nat.beq a.size (P.cellsOf f.type) && fitsF P b a.size fs && Nat.beq (a.size + b.size) (P.cellsOf T)
      | [] => false
    | _ => false
  | .sl t, T => match P.underlying T with
    | some (.slice e) => fits P t e && Nat.beq t.size (P.cellsOf e) && Nat.ble 1 t.size
    | _ => false
noncomputable def fitsF (P : Program) : Ty → Nat → List Field → Bool
  | .nil, _, fs => match fs with
    | [] => true
    | _ => false
  | .cons a b, off, fs => match fs with
    | f :: fs => Nat.beq f.offset off && fits P a f.type && Nat.beq a.size (P.cellsOf f.type) && fitsF P b (off + a.size) fs
    | [] => false
  | _, _, _ => false
end

section
variable {H : Type} {P : Program} {enc : TypeId × Value → H} {w : World} {base : Nat} {spare : Nat → Bool} {held : Bool}

theorem lies_ty {g : List Value → Option (DataW H × List MemPlace)} {t : Ty} (ih : ∀ cs d p, g cs = some (d, p) → ∃ x : t.den, VRs (seen w) (t.cells x) cs) (a : Addr) (hs : a.spot = none) :
    ∀ (i : Nat) (xs : List (DataW H × List MemPlace)), (∀ j, j < xs.length → (w.cells? base (a.add ((i + j) * t.size)) t.size).bind g = xs[j]?) → ∃ l : List t.den, l.length = xs.length ∧ Lies w a.block (a.off + i * t.size) (flat t l)
  | i, [], h => ⟨[], rfl, fun i hi => by simp [flat] at hi⟩
  | i, x :: xs, h => by
    have hx := h 0 (by simp)
    rw [List.getElem?_cons_zero, Option.bind_eq_some_iff] at hx
    obtain ⟨cs, hc, hx⟩ := hx
    obtain ⟨d, e1⟩ := ih _ x.1 x.2 hx
    obtain ⟨l, hl, e2⟩ := lies_ty ih a hs (i + 1) xs (fun j hj => by have := h (j + 1) (by simpa using hj); rw [show i + 1 + j = i + (j + 1) by omega]; simpa using this)
    obtain ⟨c1, c2⟩ := cells?_get hc
    refine ⟨d :: l, by simp [hl], ?_⟩
    show Lies w a.block (a.off + i * t.size) (t.cells d ++ flat t l)
    refine Lies.append (Lies.of e1 fun j hj => ?_) ?_
    · rw [← c2 j (c1 ▸ hj), spot_add hs]
      rw [show a.off + i * t.size + j = a.off + ((i + 0) * t.size + j) by rw [Nat.add_zero]; omega]
      rw [← spot_add hs, ← spot_add2 hs, spot_add hs]
    · rw [Ty.cells_length, show a.off + i * t.size + t.size = a.off + (i + 1) * t.size by rw [Nat.add_mul, Nat.one_mul]; omega]
      exact e2

mutual
theorem trod_ty (hsp : ∀ b, spare b = true) : ∀ (t : Ty) (T : TypeId) (m : Nat) (cs : List Value) (d : DataW H) (p : List MemPlace), fits P t T = true → DataW.trod enc P w base spare held m T cs = some (d, p) → ∃ x : t.den, VRs (seen w) (t.cells x) cs
  | .int k, T, m, cs, d, p, hf, h => by
    simp only [fits] at hf
    split at hf
    · rename_i k' hu
      obtain ⟨i, rfl, hx, _⟩ := DataW.trod_int hu h
      have := ikb_eq hf; subst this
      exact ⟨i, .cons (.int _ _) (.nil _)⟩
    · cases hf
  | .bool, T, m, cs, d, p, hf, h => by
    simp only [fits] at hf
    split at hf
    · rename_i hu
      obtain ⟨b, rfl, hx⟩ := DataW.trod_bool hu h
      exact ⟨b, .cons (.bool _) (.nil _)⟩
    · cases hf
  | .str, T, m, cs, d, p, hf, h => by
    simp only [fits] at hf
    split at hf
    · rename_i hu
      obtain ⟨s, rfl, hx, _⟩ := DataW.trod_string hu h
      exact ⟨_, .cons (.str _) (.nil _)⟩
    · cases hf
  | .nil, T, m, cs, d, p, hf, h => by
    simp only [fits] at hf
    split at hf
    · rename_i fs hu
      split at hf
      · have hc := Nat.eq_of_beq_eq_true hf
        obtain ⟨xs, k, rfl, hx, hlen, _, h1⟩ := DataW.trod_struct hu h
        have : cs = [] := List.eq_nil_of_length_eq_zero (by rw [hlen]; omega)
        subst this
        exact ⟨(), .nil _⟩
      · cases hf
    · cases hf
  | .cons a b, T, m, cs, d, p, hf, h => by
    simp only [fits] at hf
    split at hf
    · rename_i fs hu
      split at hf
      · rename_i f fs' hfs
        simp only [Bool.and_eq_true] at hf
        obtain ⟨⟨⟨⟨f1, f2⟩, f3⟩, f4⟩, f5⟩ := hf
        have f1 := Nat.eq_of_beq_eq_true f1
        have f3 := Nat.eq_of_beq_eq_true f3
        have f5 := Nat.eq_of_beq_eq_true f5
        obtain ⟨xs, k, rfl, hx, hlen, hxl, h1⟩ := DataW.trod_struct hu h
        have hi0 := h1 0 f (by have : fs[0]? = some f := by rw [← Array.getElem?_toList, hfs]; rfl
                               exact this)
        cases xs with
        | nil =>
          exfalso
          have h0 : fs.toList.length = 0 := by
            have := hxl
            simp at this
            simp [this]
          rw [hfs] at h0; simp at h0
        | cons y ys =>
          rw [List.getElem?_cons_zero] at hi0
          obtain ⟨u, e1⟩ := trod_ty hsp a _ _ _ y.1 y.2 f2 hi0
          have hl2 : fs'.length = ys.length := by
            have h0 : fs.toList.length = fs'.length + 1 := by rw [hfs]; rfl
            have := hxl
            simp at this h0
            omega
          obtain ⟨v, e2⟩ := trod_tyF hsp b k a.size fs' ys cs hl2 (fun i g hg => by
            have := h1 (i + 1) g (by rw [← Array.getElem?_toList, hfs]; simpa using hg)
            simpa using this) f4
          refine ⟨(u, v), ?_⟩
          show VRs (seen w) (a.cells u ++ b.cells v) cs
          rw [f1, ← f3, List.drop_zero] at e1
          have := e1.append e2
          rw [← List.take_add, f5, ← hlen, List.take_length] at this
          exact this
      · cases hf
    · cases hf
  | .sl t, T, m, cs, d, p, hf, h => by
    simp only [fits] at hf
    split at hf
    · rename_i e hu
      simp only [Bool.and_eq_true] at hf
      obtain ⟨⟨f1, f2⟩, f3⟩ := hf
      have f2 := Nat.eq_of_beq_eq_true f2
      have hz := Nat.le_of_ble_eq_true f3
      rcases DataW.trod_slice hu h with ⟨rfl, hx⟩ | ⟨a, len, cap, els, rest, k, rfl, rfl, hx, hb, hlc, _, hlen, h1, h2, _⟩
      · exact ⟨(true, []), .cons (.vsn _) (.nil _)⟩
      · obtain ⟨h2l, h2⟩ := h2 (hsp _)
        have hone : cap ≠ 0 → ∃ x, ((w.cells? base (a.add (0 * P.cellsOf e)) (P.cellsOf e)).bind (DataW.trod enc P w base spare held k e)) = some x := by
          intro hc0
          by_cases hl0 : len = 0
          · have := h2 0 (by omega)
            rw [List.getElem?_eq_getElem (by omega)] at this
            subst hl0
            exact ⟨_, by simpa using this⟩
          · have := h1 0 (by omega)
            rw [List.getElem?_eq_getElem (by omega)] at this
            exact ⟨_, this⟩
        have hs : cap = 0 ∨ a.spot = none := by
          by_cases hc0 : cap = 0
          · exact .inl hc0
          · right
            obtain ⟨x, hx⟩ := hone hc0
            rw [Option.bind_eq_some_iff] at hx
            obtain ⟨cs', hc, _⟩ := hx
            obtain ⟨c1, c2⟩ := cells?_get hc
            have := c2 0 (by omega)
            rw [List.getElem?_eq_getElem (by omega)] at this
            have := cell?_spot this
            simpa [Addr.add] using this
        have hL : ∃ l : List t.den, l.length = len ∧ Lies w a.block a.off (flat t l) := by
          rcases hs with hc0 | hs
          · exact ⟨[], by simp; omega, fun i hi => by simp [flat] at hi⟩
          · obtain ⟨l, g1, g2⟩ := lies_ty (w := w) (base := base) (g := DataW.trod enc P w base spare held k e) (t := t) (fun cs d p h => trod_ty hsp t e k cs d p f1 h) a hs 0 els (fun j hj => by rw [Nat.zero_add, f2]; exact h1 j (by omega))
            exact ⟨l, by rw [g1, hlen], by simpa using g2⟩
        obtain ⟨l, hll, hL⟩ := hL
        obtain ⟨f, g1, g2⟩ := hL.choose
        subst hll
        refine ⟨(false, l), .cons ?_ (.nil _)⟩
        refine .vs t l a.block a.off cap a f g1 g2 hlc (hs.imp (fun x => x) fun x => ?_)
        obtain ⟨blk, off, spot⟩ := a
        simp only at x; subst x; rfl
    · cases hf
theorem trod_tyF (hsp : ∀ b, spare b = true) : ∀ (t : Ty) (m off : Nat) (fs : List Field) (xs : List (DataW H × List MemPlace)) (cs : List Value), fs.length = xs.length → (∀ (i : Nat) (f : Field), fs[i]? = some f → DataW.trod enc P w base spare held m f.type ((cs.drop f.offset).take (P.cellsOf f.type)) = xs[i]?) → fitsF P t off fs = true → ∃ x : t.den, VRs (seen w) (t.cells x) ((cs.drop off).take t.size)
  | .nil, m, off, fs, xs, cs, hn, h, hf => ⟨(), by show VRs _ [] (List.take 0 _); exact .nil _⟩
  | .cons a b, m, off, fs, xs, cs, hn, h, hf => by
    simp only [fitsF] at hf
    split at hf
    · rename_i f fs
      simp only [Bool.and_eq_true] at hf
      obtain ⟨⟨⟨f1, f2⟩, f3⟩, f4⟩ := hf
      have f1 := Nat.eq_of_beq_eq_true f1
      have f3 := Nat.eq_of_beq_eq_true f3
      have hi0 := h 0 f rfl
      cases xs with
      | nil =>
        exfalso
        simp at hn
      | cons y ys =>
        rw [List.getElem?_cons_zero] at hi0
        obtain ⟨u, e1⟩ := trod_ty hsp a _ _ _ y.1 y.2 f2 hi0
        obtain ⟨v, e2⟩ := trod_tyF hsp b m (off + a.size) fs ys cs (by simpa using hn) (fun i g hg => by
          have := h (i + 1) g (by simpa using hg)
          simpa using this) f4
        refine ⟨(u, v), ?_⟩
        show VRs (seen w) (a.cells u ++ b.cells v) (List.take (a.size + b.size) (cs.drop off))
        rw [f1, ← f3] at e1
        rw [List.take_add, List.drop_drop]
        exact e1.append e2
    · cases hf
  | .int _, m, off, fs, xs, cs, hn, h, hf => by simp [fitsF] at hf
  | .bool, m, off, fs, xs, cs, hn, h, hf => by simp [fitsF] at hf
  | .str, m, off, fs, xs, cs, hn, h, hf => by simp [fitsF] at hf
  | .sl _, m, off, fs, xs, cs, hn, h, hf => by simp [fitsF] at hf
end
end
end Go.Eng

/-
  THE ENGINE, 57: the end of a law, with calls said ahead.
-/
namespace Go.Eng
open Go

section
variable {P : Program}

/-- A law of no parameters that the engine finds true. -/
theorem law0T {T : Tabs} {E : Env} (hE : EnvOK P E) (hX : ExtOK P E) (hN : NameOK E) (hmix : P.follows .mixedOrders = true) (hgl : E.glob = T.gl.get) {laid : List (String × DataW Unit)} (hl : allT (glB P laid) T.gl (fun k => k) = true) {n f : Nat} {C : List Ent} (hC : ∀ e ∈ C, EntOK P E e) (h : isTrueT E C n f = true)
    {W : World} (hL : laidMet P laid W) : Calls P f #[] W fun e W' => e = .returned (.bool true) ∧ Fr (fun _ => False) W W' :=
  calls_trueT hE hX hN hmix hC h (V := seen W) (fun _ _ _ h => h) (glob_of hgl hl hL)
end
end Go.Eng

/-
  THE ENGINE, 69: a law of parameters.
-/
namespace Go.Eng
open Go

section
variable {H : Type} {P : Program} {enc : TypeId × Value → H}

theorem below_of_fr {W W' : World} (h : Fr (fun _ => False) W W') : RowKit.Below W.heap.size W W' := ⟨h.os, h.tape, h.output, h.size, fun b hb => h.block b hb (fun x => x)⟩

theorem trodAll_stays (hl : laidOutB P = true) {W W' : World} (hb : RowKit.Below W.heap.size W W') : ∀ {ts : List TypeId} {vs : List Value} {ds : List (DataW H)} {ps : List MemPlace}, ts.all (fun t => P.readableRec t && decide (t < P.types.size)) = true →
    DataW.TrodAll enc P W 0 (fun _ => true) true ts vs ds ps → (∀ x ∈ ps, x.block < W.heap.size) → DataW.TrodAll enc P W' 0 (fun b => decide (b < W.heap.size)) true ts vs ds ps
  | [], vs, ds, ps, _, h, _ => by
    obtain ⟨rfl, rfl, rfl⟩ := ChangeShapes.trodAll_nil h
    exact rfl
  | t :: ts, vs, ds, ps, ht, h, hlt => by
    cases vs with
    | nil => exact absurd h (fun h => by cases ds <;> exact h)
    | cons v vs =>
      cases ds with
      | nil => exact absurd h (fun h => h)
      | cons d ds =>
        obtain ⟨p, q, h1, h2, rfl⟩ := h
        simp only [List.all_cons, Bool.and_eq_true, decide_eq_true_eq] at ht
        exact ⟨p, q, RowKit.Below.trod hl ht.1.1 ht.1.2 h1 hb (fun x hx => hlt x (List.mem_append_left _ hx)), trodAll_stays hl hb ht.2 h2 (fun x hx => hlt x (List.mem_append_right _ hx)), rfl⟩

/-- Behind a law that finds true and turns nothing. -/
theorem post_law {f : Func} {s : ChangeSpec} {W W' : World} {t : TypeId} {args : Array Value} (hl : laidOutB P = true) (hp : f.params.toList.all (fun t => P.readableRec t && decide (t < P.types.size)) = true) (hr : f.resultTypes = #[t]) (ht : P.underlying t = some .bool) (hv : s.vars = [])
    {ds gs : List (DataW H)} {before : List MemPlace} (hs : s.fn H ds = { results := [.lit (.bool true)], args := ds }) (hW : DataW.Whole enc P f.params.toList s.vars false W args.toList ds gs before) (h : Fr (fun _ => False) W W') :
    s.post enc P f false true false false W args (.bool true) W' := by
  have hlt := fun p hp => hW.lt p hp
  obtain ⟨p, q, h1, h2, h3, h4, h5⟩ := hW
  have h2' := h2
  rw [hv] at h2'
  obtain ⟨e2, e3⟩ := ChangeShapes.trodVars_none h2'
  subst e2; subst e3
  rw [List.append_nil] at h3
  subst h3
  refine ⟨ds, [], before, [], before, [], ⟨before, [], h1, h2, by simp, h4, h5⟩, ?_, ?_, ?_, kept_of_fr h _, fun h => by cases h⟩
  · rw [List.append_nil, hs, hr]
    exact Go.ChangeShapes.trodAll_mk1 ⟨1, by simp [DataW.trod, Value.cells, ht]⟩
  · rw [List.append_nil, hs]
    exact trodAll_stays hl (below_of_fr h) hp h1 hlt
  · rw [List.append_nil, hs, hv]
    rfl

/-- An argument, as plain data. -/
theorem arg_ty {t : Ty} {T : TypeId} {W : World} {base : Nat} {v : Value} {d : DataW H} {p : List MemPlace} (hok : Value.okWide P W .any base T v) (hf : fits P t T = true) (h : DataW.Trod enc P W 0 (fun _ => true) true T v d p) : ∃ x : t.den, VR (seen W) (t.av x) v := by
  obtain ⟨fuel, h⟩ := h
  obtain ⟨x, hx⟩ := trod_ty (fun _ => rfl) t T fuel _ d p hf h
  refine ⟨x, ?_⟩
  have one : ∀ {a : AV}, v.cells.toList = [v] → VRs (seen W) [a] v.cells.toList → VR (seen W) a v := by
    intro a e h
    rw [e] at h
    obtain ⟨X, Xs, e, hX, _⟩ := h.cons_inv
    simp only [List.cons.injEq] at e
    rw [e.1]; exact hX
  have row : (∃ fs, P.underlying T = some (.struct fs)) → VR (seen W) (.agg (t.cells x)) v := by
    rintro ⟨fs, hu⟩
    obtain ⟨cs, rfl, _⟩ := WideShapes.okWide_struct hu hok
    exact .agg _ _ hx.1 hx.2
  cases t with
  | int k =>
    simp only [fits] at hf
    split at hf
    · rename_i k' hu
      obtain ⟨n, rfl⟩ := WideShapes.okWide_int hu hok
      exact one rfl hx
    · cases hf
  | bool =>
    simp only [fits] at hf
    split at hf
    · rename_i hu
      obtain ⟨n, rfl⟩ := WideShapes.okWide_bool hu hok
      exact one rfl hx
    · cases hf
  | str =>
    simp only [fits] at hf
    split at hf
    · rename_i hu
      obtain ⟨n, rfl⟩ := WideShapes.okWide_string hu hok
      exact one rfl hx
    · cases hf
  | nil =>
    simp only [fits] at hf
    split at hf
    · rename_i fs hu; exact row ⟨fs, hu⟩
    · cases hf
  | cons a b =>
    simp only [fits] at hf
    split at hf
    · rename_i fs hu; exact row ⟨fs, hu⟩
    · cases hf
  | sl t =>
    simp only [fits] at hf
    split at hf
    · rename_i e hu
      obtain ⟨a, len, cap, rfl⟩ := WideShapes.okWide_slice hu hok
      exact one rfl hx
    · cases hf

variable {E : Env}
/-- The run of a law that the engine finds true. -/
theorem law_run (hE : EnvOK P E) (hX : ExtOK P E) (hN : NameOK E) (hmix : P.follows .mixedOrders = true) {f n : Nat} {args : List AV} {σ : Hp} (hext : E.ext f args = none) (h : callN E (n + 1) f args .empty [] [] = some (.bool true, σ, []))
    {V : View} {A : List Value} {W : World} (ha : VRs V args A) (hcl : args.all (closedA 9) = true) (hK : ∀ b o x, V.K b o = some x → W.cell? ⟨b, o, none⟩ = some x) (hg : GlobK E V) :
    Calls P f A.toArray W fun e W' => e = .returned (.bool true) ∧ Fr (fun _ => False) W W' := by
  have hc := engine_ok hE hX hN hmix n
  refine (calls_of hE hN hmix hc hext (show bodyN E (callN E n) f args .empty [] [] = some (.bool true, σ, []) from h) ha hcl hK hg).mono fun e W' ⟨V', R, he, hv, hf⟩ => ?_
  cases hv
  exact ⟨he, hf⟩

/-- What a call that is told by parts says. -/
theorem XG.part {call : CallF} (hc : CallOK P E call) {f : Nat} {args : List AV} {v : AV} {σ : Hp} (h : call f args .empty [] [] = some (v, σ, [])) (hcl : args.all (closedA 9) = true) (hv : plainA 9 v = true) : XG P E f args v := by
  intro V A W ha hK hg
  obtain ⟨V1, O', W', R, hP, hr, _, _, _, hv', hgo⟩ := hc f args .empty [] [] v σ [] h W.heap.size invT (alone V) A (fun _ => False) W invT_ok (fun lvl h e => by cases e) (HR.alone hK hg _) (Nat.le_refl _) (closedA_list hcl ha) (fun _ h => h) (fun _ _ h => h) (fun i x hx => by simp [Eng.alone] at hx)
  exact ⟨R, W', plainA_spec 9 _ hv hv', hP.fr.weaken (fun b _ hb => hb.elim (no_own b) (fun h => h)), hgo⟩
theorem XG.closedT (hE : EnvOK P E) (hX : ExtOK P E) (hN : NameOK E) (hmix : P.follows .mixedOrders = true) {L : List Ent} (hL : ∀ e ∈ L, EntOK P E e) {n f : Nat} (h : isTrueT E L n f = true) : XG P E f [] (.bool true) := by
  unfold isTrueT at h
  rw [stepF_eq, callTF_eq] at h
  split at h
  · rename_i σ h1 h2
    have hb : CallOK P E (bodyN E (callT E L n)) := body_ok hE hX hN (callT_ok hE hX hN hmix hL n) (code_ok hE hmix _ (callT_ok hE hX hN hmix hL n))
    exact XG.part hb h2 rfl rfl
  · cases h
end
end Go.Eng

/-
  LOOPS, told by their heads.
-/
set_option maxRecDepth 100000
namespace Go.Proofs.YtjcegidfmkfimaaGreatDoor
open Go Go.Eng
theorem vct_start (p : Int) : adv E0 SB 3000 (startC E0 16 [.int .i64 p] 40) = (bif !ile 0 p then some (.done (.tup [(.agg [(.int .i64 (0)), (.int .i64 (0))]), (.int .i64 (7))]) (hpOf 2 [(0, (.cells false [(.int .i64 (0)), (.int .i64 (0))])), (1, (.cells true [(.int .i64 (p))]))]) []) else (bif !ile p 31 then some (.done (.tup [(.agg [(.int .i64 (0)), (.int .i64 (0))]), (.int .i64 (7))]) (hpOf 2 [(0, (.cells false [(.int .i64 (0)), (.int .i64 (0))])), (1, (.cells true [(.int .i64 (p))]))]) []) else none)) := by kernel_rfl
theorem rvct_start (p : Int) : adv E0 SB 3000 (startC E0 17 [.int .i64 p] 40) = (bif ile 0 p then (bif !ile p 31 then some (.done (.tup [(.agg [(.int .i64 (0)), (.int .i64 (0))]), (.int .i64 (7))]) (hpOf 1 [(0, (.cells false [(.int .i64 (0)), (.int .i64 (0))]))]) []) else none) else some (.done (.tup [(.agg [(.int .i64 (0)), (.int .i64 (0))]), (.int .i64 (7))]) (hpOf 1 [(0, (.cells false [(.int .i64 (0)), (.int .i64 (0))]))]) [])) := by kernel_rfl

theorem vec_of {f : Nat} (hx : (E0.ext f [.int .i64 0]).isNone = true) (hxa : ∀ p : Int, (E0.ext f [.int .i64 p]).isNone = true) (hb : hasB E0 f = true) (hin : (List.range 32).all (chkV f) = true)
    (hout : ∀ p, inV p = false → ∃ σ, adv E0 SB 3000 (startC E0 f [.int .i64 p] 40) = some (.done (.tup [.agg [.int .i64 0, .int .i64 0], .int .i64 7]) σ [])) (p : Int) : AnsF E0 f [.int .i64 p] (vecA p) := by
  refine Ans.call (n := 40) (E0ext _ _ (hxa p)) (hasB_spec hb) ?_
  cases e : inV p with
  | false =>
    obtain ⟨σ, h⟩ := hout p e
    have : vecA p = .tup [.agg [.int .i64 0, .int .i64 0], .int .i64 7] := by simp only [vecA, vx, vy, ve, e, cond_false]
    rw [this]
    exact .done SB_ok E0sy h (frzV_vec _ _ _ _)
  | true =>
    have hp : 0 ≤ p ∧ p ≤ 31 := by
      simp only [inV, Bool.and_eq_true, ile_iff, decide_eq_true_eq] at e; exact e
    obtain ⟨k, rfl⟩ := Int.eq_ofNat_of_zero_le hp.1
    have hk : k < 32 := by omega
    have h := List.all_eq_true.1 hin k (List.mem_range.2 hk)
    unfold chkV at h
    split at h
    · rename_i v σ ha
      have := avbeq_eq _ _ h
      subst this
      exact .done (hdOf_ok _) E0sy ha (frzV_vec _ _ _ _)
    · cases h
theorem vct_call (p : Int) : AnsF E0 16 [.int .i64 p] (vecA p) := vec_of (by kernel_rfl) (fun p => by kernel_rfl) (by kernel_rfl) vin16 (fun p hp => by
  have h := vct_start p
  unfold inV at hp
  cases c1 : ile 0 p <;> cases c2 : ile p 31 <;> simp only [c1, c2, Bool.not_true, Bool.not_false, cond_true, cond_false, Bool.and_self, Bool.and_false, Bool.and_true] at h hp <;> first | exact ⟨_, h⟩ | cases hp) p
theorem rvct_call (p : Int) : AnsF E0 17 [.int .i64 p] (vecA p) := vec_of (by kernel_rfl) (fun p => by kernel_rfl) (by kernel_rfl) vin17 (fun p hp => by
  have h := rvct_start p
  unfold inV at hp
  cases c1 : ile 0 p <;> cases c2 : ile p 31 <;> simp only [c1, c2, Bool.not_true, Bool.not_false, cond_true, cond_false, Bool.and_self, Bool.and_false, Bool.and_true] at h hp <;> first | exact ⟨_, h⟩ | cases hp) p

/-! ### All that the law calls, said ahead -/
noncomputable def XV (f : Nat) (args : List AV) : Option (Bool × AV) :=
  match Nat.beq f 16 with
  | true => con1 tI (fun _ => true) (fun p => vecA p) args
  | false => match Nat.beq f 17 with
  | true => con1 tI (fun _ => true) (fun p => vecA p) args
  | false => none
theorem XV_con : Con E0 (under XV) := by
  intro f args v h
  rw [under_iff] at h
  unfold XV at h
  split at h
  · rename_i e; obtain rfl := Nat.eq_of_beq_eq_true e
    exact con1_spec (t := tI) (fun s _ => vct_call s) h
  split at h
  · rename_i e; obtain rfl := Nat.eq_of_beq_eq_true e
    exact con1_spec (t := tI) (fun s _ => rvct_call s) h
  · cases h
noncomputable def XP (f : Nat) (args : List AV) : Option (Bool × AV) :=
  match Nat.beq f 20 with
  | true => con1 tChart (fun _ => true) (fun c => tup3 (chkS c)) args
  | false => none
theorem XP_con : Con E1 (under XP) := by
  intro f args v h
  rw [under_iff] at h
  unfold XP at h
  split at h
  · rename_i e; obtain rfl := Nat.eq_of_beq_eq_true e
    exact con1_spec (t := tChart) (fun s _ => chk_call s) h
  · cases h
noncomputable def XR (f : Nat) (args : List AV) : Option (Bool × AV) :=
  match Nat.beq f 21 with
  | true => con1 tChart (fun _ => true) (fun c => tup3 (chkS c)) args
  | false => none
theorem XR_con : Con E2 (under XR) := by
  intro f args v h
  rw [under_iff] at h
  unfold XR at h
  split at h
  · rename_i e; obtain rfl := Nat.eq_of_beq_eq_true e
    exact con1_spec (t := tChart) (fun s _ => rchk_call s) h
  · cases h
noncomputable def XW (f : Nat) (args : List AV) : Option (Bool × AV) :=
  match Nat.beq f 22 with
  | true => match args with
    | [] => some (true, .bool true)
    | _ => none
  | false => none
noncomputable def X3 (f : Nat) (args : List AV) : Option (Bool × AV) :=
  match XW f args with
  | some r => some r
  | none => match XV f args with
  | some r => some r
  | none => match XP f args with
  | some r => some r
  | none => match XR f args with
  | some r => some r
  | none => none
noncomputable def E3 : Env := { T0.env with sy := true, frz := fun _ => true, ext := fun f args => match under X3 f args with
  | some v => some v
  | none => E2.ext f args }
theorem e3 : EnvOK Tryz.prog E3 := by
  have h := tabs_ok.env
  refine ⟨fun t k ht => ?_, h.zero, h.fn, h.eqok, h.meth⟩
  obtain ⟨h1, h2⟩ := h.ty t k ht
  refine ⟨h1, ?_⟩
  cases k <;> exact h2
theorem n3 : NameOK E3 := tabs_ok.name
theorem xW : XG Tryz.prog EA 22 [] (.bool true) := XG.closedT eA xA nA tabs_ok.mix l3 kn_true
theorem say_at {E : Env} {S : Nat → List AV → Option AV} (h : ExtOK Tryz.prog (E.say S)) {f : Nat} {args : List AV} {v : AV} (hs : S f args = some v) : ∀ V A W, VRs V args A → (∀ b o x, V.K b o = some x → W.cell? ⟨b, o, none⟩ = some x) →
    (∀ g l, E.glob g = some l → ∃ z : Nat → Value, ∀ i (h : i < l.length), V.K g i = some (z i) ∧ VR V.bare l[i] (z i)) →
    ∃ R W' V', KG V V' W W' ∧ VR V' v R ∧ Fr (fun _ => False) W W' ∧ Goes Tryz.prog f A.toArray W R W' :=
  h f args v (by show (match S f args with | some v => some v | none => E.ext f args) = some v; rw [hs])
theorem x3 : ExtOK Tryz.prog E3 := by
  intro f args v h
  have h : (match under X3 f args with | some v => some v | none => E2.ext f args) = some v := h
  split at h
  · rename_i w hw
    simp only [Option.some.injEq] at h; subst h
    rw [under_iff] at hw
    unfold X3 at hw
    split at hw
    · rename_i r hr
      rw [hw] at hr
      unfold XW at hr
      split at hr
      · rename_i e; obtain rfl := Nat.eq_of_beq_eq_true e
        split at hr
        · simp only [Option.some.injEq, Prod.mk.injEq] at hr
          obtain ⟨_, rfl⟩ := hr
          intro V A W ha hK hg
          obtain ⟨R, W', h1, h2, h3⟩ := xW V A W ha hK hg
          exact ⟨R, W', V, .refl _ _ _, h1, h2, h3⟩
        · cases hr
      · cases hr
    split at hw
    · rename_i r hr
      exact say_at (ExtOK.sayG e0 x0 n0 tabs_ok.mix XV_con) (under_iff.2 (hr.trans hw))
    split at hw
    · rename_i r hr
      exact say_at (ExtOK.sayG e1 x1 n1 tabs_ok.mix XP_con) (under_iff.2 (hr.trans hw))
    split at hw
    · rename_i r hr
      exact say_at (ExtOK.sayG e2 x2 n2 tabs_ok.mix XR_con) (under_iff.2 (hr.trans hw))
    · cases hw
  · exact x2 f args v h
theorem E3sy : E3.sy = true := rfl
noncomputable def S3 (l : List Nat) : Sy := ⟨fun f args => match X3 f args with | some r => some r | none => (S2 l).x f args, fun f => l.any (Nat.beq f), true⟩
theorem S3_ok (l : List Nat) : (S3 l).ok E3 := fun f args v h => by
  show (match under X3 f args with | some v => some v | none => E2.ext f args) = some v
  have h0 : (match X3 f args with | some r => some r | none => (S2 l).x f args) = some (true, v) := h
  cases e : X3 f args with
  | some r =>
    rw [e] at h0
    have h' : under X3 f args = some v := under_iff.2 (by rw [e]; exact h0)
    rw [h']
  | none =>
    rw [e] at h0
    have h' : under X3 f args = none := by unfold under; rw [e]
    rw [h']
    exact S2_ok l f args v h0
end Go.Proofs.YtjcegidfmkfimaaGreatDoor

/-
  LOOPS, told by their heads.
-/
set_option maxRecDepth 100000
namespace Go.Proofs.YtjcegidfmkfimaaGreatDoor
open Go Go.Eng
theorem law_start (s : List Nat) (p : Int) (c : tChart.den) : adv E3 (S3 []) 3000 (startC E3 3 [.str s, .int .i64 p, tChart.av c] 6) = (bif !nameS s == nameS s then some (.done (.bool (false)) (hpOf 3 [(0, (.cells false [(.vs (.cons .str (.cons (.cons (.int .i64) (.cons (.int .i64) .nil)) (.cons (.sl (.cons (.int .i64) (.cons (.int .i64) .nil))) .nil))) (c.fst.fst) (c.fst.snd)), (.vs (.cons .str (.cons (.sl (.cons (.int .i64) (.cons (.int .i64) .nil))) (.cons (.cons (.cons (.int .i64) (.cons (.int .i64) .nil)) (.cons (.cons (.int .i64) (.cons (.int .i64) .nil)) .nil)) .nil))) (c.snd.fst.fst) (c.snd.fst.snd))])), (1, (.cells false [(.int .i64 (vx p)), (.int .i64 (vy p))])), (2, (.cells false [(.int .i64 (vx p)), (.int .i64 (vy p))]))]) []) else (bif !(ieq (vx p) (vx p) && (ieq (vy p) (vy p) && true)) then some (.done (.bool (false)) (hpOf 3 [(0, (.cells false [(.vs (.cons .str (.cons (.cons (.int .i64) (.cons (.int .i64) .nil)) (.cons (.sl (.cons (.int .i64) (.cons (.int .i64) .nil))) .nil))) (c.fst.fst) (c.fst.snd)), (.vs (.cons .str (.cons (.sl (.cons (.int .i64) (.cons (.int .i64) .nil))) (.cons (.cons (.cons (.int .i64) (.cons (.int .i64) .nil)) (.cons (.cons (.int .i64) (.cons (.int .i64) .nil)) .nil)) .nil))) (c.snd.fst.fst) (c.snd.fst.snd))])), (1, (.cells false [(.int .i64 (vx p)), (.int .i64 (vy p))])), (2, (.cells false [(.int .i64 (vx p)), (.int .i64 (vy p))]))]) []) else (bif !ieq (ve p) (ve p) then some (.done (.bool (false)) (hpOf 3 [(0, (.cells false [(.vs (.cons .str (.cons (.cons (.int .i64) (.cons (.int .i64) .nil)) (.cons (.sl (.cons (.int .i64) (.cons (.int .i64) .nil))) .nil))) (c.fst.fst) (c.fst.snd)), (.vs (.cons .str (.cons (.sl (.cons (.int .i64) (.cons (.int .i64) .nil))) (.cons (.cons (.cons (.int .i64) (.cons (.int .i64) .nil)) (.cons (.cons (.int .i64) (.cons (.int .i64) .nil)) .nil)) .nil))) (c.snd.fst.fst) (c.snd.fst.snd))])), (1, (.cells false [(.int .i64 (vx p)), (.int .i64 (vy p))])), (2, (.cells false [(.int .i64 (vx p)), (.int .i64 (vy p))]))]) []) else (bif ieq (chkS ((c.fst.fst, c.fst.snd), (c.snd.fst.fst, c.snd.fst.snd), ())).fst (chkS ((c.fst.fst, c.fst.snd), (c.snd.fst.fst, c.snd.fst.snd), ())).fst then (bif ieq (chkS ((c.fst.fst, c.fst.snd), (c.snd.fst.fst, c.snd.fst.snd), ())).snd.fst (chkS ((c.fst.fst, c.fst.snd), (c.snd.fst.fst, c.snd.fst.snd), ())).snd.fst then (bif ieq (chkS ((c.fst.fst, c.fst.snd), (c.snd.fst.fst, c.snd.fst.snd), ())).snd.snd (chkS ((c.fst.fst, c.fst.snd), (c.snd.fst.fst, c.snd.fst.snd), ())).snd.snd then some (.done (.bool (true)) (hpOf 3 [(0, (.cells false [(.vs (.cons .str (.cons (.cons (.int .i64) (.cons (.int .i64) .nil)) (.cons (.sl (.cons (.int .i64) (.cons (.int .i64) .nil))) .nil))) (c.fst.fst) (c.fst.snd)), (.vs (.cons .str (.cons (.sl (.cons (.int .i64) (.cons (.int .i64) .nil))) (.cons (.cons (.cons (.int .i64) (.cons (.int .i64) .nil)) (.cons (.cons (.int .i64) (.cons (.int .i64) .nil)) .nil)) .nil))) (c.snd.fst.fst) (c.snd.fst.snd))])), (1, (.cells false [(.int .i64 (vx p)), (.int .i64 (vy p))])), (2, (.cells false [(.int .i64 (vx p)), (.int .i64 (vy p))]))]) []) else some (.done (.bool (false)) (hpOf 3 [(0, (.cells false [(.vs (.cons .str (.cons (.cons (.int .i64) (.cons (.int .i64) .nil)) (.cons (.sl (.cons (.int .i64) (.cons (.int .i64) .nil))) .nil))) (c.fst.fst) (c.fst.snd)), (.vs (.cons .str (.cons (.sl (.cons (.int .i64) (.cons (.int .i64) .nil))) (.cons (.cons (.cons (.int .i64) (.cons (.int .i64) .nil)) (.cons (.cons (.int .i64) (.cons (.int .i64) .nil)) .nil)) .nil))) (c.snd.fst.fst) (c.snd.fst.snd))])), (1, (.cells false [(.int .i64 (vx p)), (.int .i64 (vy p))])), (2, (.cells false [(.int .i64 (vx p)), (.int .i64 (vy p))]))]) [])) else some (.done (.bool (false)) (hpOf 3 [(0, (.cells false [(.vs (.cons .str (.cons (.cons (.int .i64) (.cons (.int .i64) .nil)) (.cons (.sl (.cons (.int .i64) (.cons (.int .i64) .nil))) .nil))) (c.fst.fst) (c.fst.snd)), (.vs (.cons .str (.cons (.sl (.cons (.int .i64) (.cons (.int .i64) .nil))) (.cons (.cons (.cons (.int .i64) (.cons (.int .i64) .nil)) (.cons (.cons (.int .i64) (.cons (.int .i64) .nil)) .nil)) .nil))) (c.snd.fst.fst) (c.snd.fst.snd))])), (1, (.cells false [(.int .i64 (vx p)), (.int .i64 (vy p))])), (2, (.cells false [(.int .i64 (vx p)), (.int .i64 (vy p))]))]) [])) else some (.done (.bool (false)) (hpOf 3 [(0, (.cells false [(.vs (.cons .str (.cons (.cons (.int .i64) (.cons (.int .i64) .nil)) (.cons (.sl (.cons (.int .i64) (.cons (.int .i64) .nil))) .nil))) (c.fst.fst) (c.fst.snd)), (.vs (.cons .str (.cons (.sl (.cons (.int .i64) (.cons (.int .i64) .nil))) (.cons (.cons (.cons (.int .i64) (.cons (.int .i64) .nil)) (.cons (.cons (.int .i64) (.cons (.int .i64) .nil)) .nil)) .nil))) (c.snd.fst.fst) (c.snd.fst.snd))])), (1, (.cells false [(.int .i64 (vx p)), (.int .i64 (vy p))])), (2, (.cells false [(.int .i64 (vx p)), (.int .i64 (vy p))]))]) []))))) := by kernel_rfl

/-! ### The law finds true -/
theorem E3ext (f : Nat) (args : List AV) (h : (E3.ext f args).isNone = true) : E3.ext f args = none := by
  cases e : E3.ext f args with
  | none => rfl
  | some v => rw [e] at h; cases h
theorem law_true (s : List Nat) (p : Int) (c : tChart.den) : ∃ σ, callN E3 (6 + 1) 3 [.str s, .int .i64 p, tChart.av c] .empty [] [] = some (.bool true, σ, []) := by
  have h := law_start s p c
  simp only [ieq_self, beq_self_eq_true, Bool.not_true, Bool.and_self, cond_true, cond_false] at h
  exact ⟨_, startC_spec (E3ext _ _ (by kernel_rfl)) (hasB_spec (by kernel_rfl)) (adv_spec (S3_ok _) E3sy h)⟩
end Go.Proofs.YtjcegidfmkfimaaGreatDoor


namespace Go.Proofs.YtjcegidfmkfimaaGreatDoor
open Go Go.ChangeShapes Go.WideShapes Go.Eng

theorem kOwn : ownKnob Tryz.prog.godebug = none := by kernel_rfl
theorem kPlain : (Rows.chartChecksRow.laid.all fun x => x.2.handleName?.isNone) = true := by kernel_rfl
theorem kLaid : allT (glB Tryz.prog Rows.chartChecksRow.laid) T0.gl (fun k => k) = true := by kernel_rfl
theorem kParams : Tryz.f3.params = #[9, 3, 25] := by kernel_rfl
theorem kResults : Tryz.f3.resultTypes = #[4] := by kernel_rfl
theorem kLaidOut : laidOutB Tryz.prog = true := by kernel_rfl
theorem kRead : Tryz.f3.params.toList.all (fun t => Tryz.prog.readableRec t && decide (t < Tryz.prog.types.size)) = true := by kernel_rfl
theorem kFitS : fits Tryz.prog .str 9 = true := by kernel_rfl
theorem kFitI : fits Tryz.prog tI 3 = true := by kernel_rfl
theorem kFitC : fits Tryz.prog tChart 25 = true := by kernel_rfl
theorem kGlob : E3.glob = T0.gl.get := rfl
theorem kExt (s : List Nat) (p : Int) (c : tChart.den) : E3.ext 3 [.str s, .int .i64 p, tChart.av c] = none := E3ext _ _ (by kernel_rfl)

set_option maxRecDepth 100000 in
theorem kLifted (os : Os) (started : os.Started) (H : Type) (enc : TypeId × Value → H) :
    ReturnsInHanded {} Tryz.checked os 3 .any (fun w args => (Rows.chartChecksSpec.pre enc Tryz.prog Tryz.f3 [] false w args ∧ laidMetH Tryz.prog Rows.chartChecksRow.laid w) ∧ sizedMet enc Tryz.prog Tryz.f3 (OpenSpec.ofChange Rows.chartChecksSpec) false w args)
      (Rows.chartChecksSpec.post enc Tryz.prog Tryz.f3 false true false false) := by
  refine returnsInHanded_of_change_and (C := Tryz.checked) (X := fun w _ => laidMetH Tryz.prog Rows.chartChecksRow.laid w) (fun _ _ _ hh h => h.of_heap hh) kOwn started (by kernel_rfl) Tryz.func3
    (ChangeSpec.witness_shaped (enc := enc) (C := Tryz.checked) (os := os) (X := fun w _ => laidMetH Tryz.prog Rows.chartChecksRow.laid w) false (World.laidAll Tryz.prog os Rows.chartChecksRow.laid) #[.string ⟨#[]⟩, .int .i64 0, .agg #[.slice none 0 0, .slice none 0 0]] 8 (World.laidAll_os _ _ _)
      (World.shaped_of_ZipB (by kernel_rfl) (by kernel_rfl)) (by kernel_rfl) (by kernel_rfl) (by kernel_rfl)
      (by rw [MakeChecks.laidMetH_plain _ _ _ kPlain]; exact laidMet_laidAll _ (by kernel_rfl) (by kernel_rfl))) ?_
  intro W base args ds gs before hok hW _ _ hL _
  have hL' : laidMet Tryz.prog Rows.chartChecksRow.laid W := by rw [← MakeChecks.laidMetH_plain _ _ _ kPlain]; exact hL
  have hW' := hW
  obtain ⟨p, q, hA, _⟩ := hW
  rw [kParams] at hA
  obtain ⟨v1, v2, v3, d1, d2, d3, p1, p2, p3, e1', e2', hp, t1, t2, t3⟩ := trodAll_three hA
  subst e1'; subst e2'
  rw [kParams] at hok
  obtain ⟨s, hs⟩ := arg_ty (t := .str) (hok 0 9 v1 rfl rfl) kFitS t1
  obtain ⟨n, hn⟩ := arg_ty (t := tI) (hok 1 3 v2 rfl rfl) kFitI t2
  obtain ⟨c, hc⟩ := arg_ty (t := tChart) (hok 2 25 v3 rfl rfl) kFitC t3
  obtain ⟨σ, hrun⟩ := law_true s n c
  refine (law_run (A := [v1, v2, v3]) (V := Go.Eng.seen W) e3 x3 n3 tabs_ok.mix (kExt s n c) hrun (.cons hs (.cons hn (.cons hc (.nil _)))) (by kernel_rfl) (fun _ _ _ h => h) (glob_of kGlob kLaid hL')).mono fun e W' ⟨he, hf⟩ => ?_
  subst he
  exact ⟨_, rfl, post_law kLaidOut kRead kResults Tryz.underlying4 rfl rfl hW' hf⟩

theorem kHolds : Rows.ChartChecksSaid :=
  OpenClaim.holds_of_wide 3 Tryz.f3 rfl rfl rfl rfl rfl rfl rfl ⟨rfl, rfl, rfl, rfl, rfl⟩ rfl rfl rfl rfl rfl (by kernel_rfl) Tryz.func3 (by kernel_rfl)
    (of_decide_eq_true (by kernel_rfl)) (by unfold Func.isWrapper; first | (rw [if_pos (by decide +kernel)]; kernel_rfl) | (rw [if_neg (by decide +kernel)]; exact ⟨rfl, rfl⟩))
    (fun os started H enc _ => kLifted os started H enc)

/-- The tied card. -/
theorem chartChecks_holds : Rows.ChartChecksCardSaid :=
  Claim7.holds_tied_plain_at .later [] Rows.chartChecksCard.laidKinds true Rows.chartChecksCard.stood.harness true
    kHolds (fun _ h => by cases h) (by kernel_rfl) (fun _ h => by cases h) chartChecks_row_tie rfl ⟨rfl, rfl⟩ (by kernel_rfl) rfl
    (fun f fn hf hfn => by
      obtain rfl : f = 3 := Option.some.inj ((show Tryz.prog.funcNamed "nore/norelaw01.ChartChecks" = some 3 by kernel_rfl).symm.trans hf) |>.symm
      obtain rfl : fn = Tryz.f3 := (Option.some.inj (Tryz.func3.symm.trans hfn)).symm
      exact ⟨by kernel_rfl, fun j t ht => by
        rw [kParams] at ht
        rcases j with _ | _ | _ | j <;> simp at ht <;> subst ht <;> kernel_rfl⟩)
    (by kernel_rfl)
#print axioms chartChecks_holds
end Go.Proofs.YtjcegidfmkfimaaGreatDoor

