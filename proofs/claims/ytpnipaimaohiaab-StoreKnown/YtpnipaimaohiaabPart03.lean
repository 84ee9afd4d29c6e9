/-
  THE ENGINE: one more part of it.
-/
import Derived.Test.YtpnipaimaohiaabPart02
import Derived.Lib.BufferWrite
import Derived.Lib.UnsafeStr
import Derived.Laws.MakeOwn
import Derived.Test.YtpnipaimaohiaabChecked
import Derived.ProofKit
set_option linter.unusedSectionVars false
set_option linter.unusedSimpArgs false
set_option linter.unusedVariables false
namespace Go.Eng
open Go
section
variable {P : Program} {ρ : Operand → Value} {W W' : World} {d : Option Nat} {ty : TypeId} {pos : String} {aft : Array Edge} {gd : Option (Nat × Bool)}
theorem x_assign (x : Operand) : (execOp ρ ⟨d, .assign x, ty, pos, aft, gd⟩).run P W = .ok (.value (ρ x)) W := by simp [execOp]
theorem x_move (x : Operand) : (execOp ρ ⟨d, .move x, ty, pos, aft, gd⟩).run P W = .ok (.value (ρ x)) W := by simp [execOp]
theorem x_len_str {x : Operand} {T : TypeId} {s : ByteArray} (h : ρ x = .string s) (hT : P.underlying T = some .string) : (execOp ρ ⟨d, .call ⟨.builtin .len, #[x], #[T]⟩, ty, pos, aft, gd⟩).run P W = .ok (.value (goInt s.size)) W := by
  simp [execOp, resolve, h, invoke, builtin, Builtin.len_, under_run hT]
theorem x_len_sl {x : Operand} {T e : TypeId} {a : Option Addr} {l c : Nat} (h : ρ x = .slice a l c) (hT : P.underlying T = some (.slice e)) : (execOp ρ ⟨d, .call ⟨.builtin .len, #[x], #[T]⟩, ty, pos, aft, gd⟩).run P W = .ok (.value (goInt l)) W := by
  simp [execOp, resolve, h, invoke, builtin, Builtin.len_, under_run hT]
theorem x_eq0 {x : Operand} {T U : TypeId} {n : Int} (h : ρ x = .int .i64 n) (h0 : ρ (.const (.int .i64 0)) = .int .i64 0) (hT : P.underlying T = some (.int .i64)) : (execOp ρ ⟨d, .binOp .eql T x (.const (.int .i64 0)) U, ty, pos, aft, gd⟩).run P W = .ok (.value (.bool (n == 0))) W := by
  obtain ⟨X, h1, h2⟩ := arith_run (P := P) (V := ⟨fun _ => none, fun _ => none, fun _ _ => none, fun _ => 0⟩) (W := W) (op := .eql) (k := .i64) (a := n) (b := 0) (t := T) (x := .bool (ieq n 0)) (by decide) (by decide) rfl
  have h3 := h2.bool_inv
  subst h3
  have hg := eqGuard_plain (P := P) (W := W) .eql T x (.const (.int .i64 0)) (.int .i64 n) (.int .i64 0) (fun e => by cases e) (fun c c' e => by cases e)
  rw [ieq_eq] at h1
  simp [execOp, h, h0, hg, h1]
theorem x_make {x y : Operand} {T : TypeId} {v : Value} (h : (Instr.makeSlice T (ρ x) (ρ y)).run P W = .ok v W') : (execOp ρ ⟨d, .makeSlice T x y, ty, pos, aft, gd⟩).run P W = .ok (.value v) W' := by
  simp [execOp, h]
theorem x_copy {x y : Operand} {T U : TypeId} {v : Value} (h : (Builtin.copy_ #[T, U] ty #[ρ x, ρ y]).run P W = .ok v W') : (execOp ρ ⟨d, .call ⟨.builtin .copy, #[x, y], #[T, U]⟩, ty, pos, aft, gd⟩).run P W = .ok (.value v) W' := by
  simp [execOp, resolve, invoke, builtin, h]
theorem x_ustr {x y : Operand} {T U : TypeId} {v : Value} (h : (Builtin.unsafeString_ #[T, U] ty #[ρ x, ρ y]).run P W = .ok v W') : (execOp ρ ⟨d, .call ⟨.builtin .unsafeString, #[x, y], #[T, U]⟩, ty, pos, aft, gd⟩).run P W = .ok (.value v) W' := by
  simp [execOp, resolve, invoke, builtin, h]
theorem x_idx0 {x : Operand} {T e : TypeId} {g l c : Nat} (h : ρ x = .slice (some ⟨g, 0, none⟩) (l + 1) c) (h0 : ρ (.const (.int .i64 0)) = .int .i64 0) (hT : P.underlying T = some (.slice e)) (hz : (Go.sizeOf e).run P W = .ok 1 W) :
    (execOp ρ ⟨d, .indexAddr T x (.const (.int .i64 0)), ty, pos, aft, gd⟩).run P W = .ok (.value (.pointer (some ⟨g, 0, none⟩))) W := by
  simp [execOp, Instr.indexAt, h, h0, under_run hT, hz, asInt, asIntOf, Addr.add]
end

/-- stringslite.Clone, as it is translated: the numbers of int, bool, string, []byte, *byte. -/
def cloneF (tI tB tS tL tP : Nat) : Func :=
  { name := "internal/stringslite.Clone", origin := "", params := #[tS], resultTypes := #[tS], nfree := 0, ntmps := 18, results := #[.tmp 2],
    body := some ((Code.region 0 #[⟨some 2, .assign (.const (.string { data := #[] })), tS, "strings.go:115", #[], none⟩] false).seq
      (((Code.region 1 #[⟨some 4, .move (.tmp 0), tS, "strings.go:116", #[], none⟩,
          ⟨some 5, .call ⟨.builtin .len, #[.tmp 4], #[tS]⟩, tI, "strings.go:116", #[⟨0, .data⟩], none⟩,
          ⟨some 6, .binOp .eql tI (.tmp 5) (.const (.int .i64 0)) tI, tB, "strings.go:116", #[⟨1, .data⟩], none⟩] false).seq
        (.cond (.tmp 6) ((Code.region 2 #[⟨some 2, .assign (.const (.string { data := #[] })), tS, "strings.go:117", #[], none⟩] false).seq .ret) .skip)).seq
      ((Code.region 3 #[⟨some 7, .move (.tmp 0), tS, "strings.go:119", #[], none⟩,
          ⟨some 8, .call ⟨.builtin .len, #[.tmp 7], #[tS]⟩, tI, "strings.go:119", #[⟨0, .data⟩], none⟩,
          ⟨some 9, .makeSlice tL (.tmp 8) (.tmp 8), tL, "strings.go:119", #[⟨1, .data⟩, ⟨1, .data⟩], none⟩,
          ⟨some 3, .assign (.tmp 9), tL, "strings.go:119", #[⟨2, .data⟩, ⟨0, .phase⟩, ⟨1, .phase⟩, ⟨2, .phase⟩], none⟩] false).seq
      ((Code.region 4 #[⟨some 10, .move (.tmp 3), tL, "strings.go:120", #[], none⟩,
          ⟨some 11, .move (.tmp 0), tS, "strings.go:120", #[], none⟩,
          ⟨some 12, .call ⟨.builtin .copy, #[.tmp 10, .tmp 11], #[tL, tS]⟩, tI, "strings.go:120", #[⟨0, .data⟩, ⟨1, .data⟩], none⟩] false).seq
      ((Code.region 5 #[⟨some 13, .move (.tmp 3), tL, "strings.go:121", #[], none⟩,
          ⟨some 14, .indexAddr tL (.tmp 13) (.const (.int .i64 0)), 0, "strings.go:121", #[⟨0, .data⟩], none⟩,
          ⟨some 15, .move (.tmp 3), tL, "strings.go:121", #[], none⟩,
          ⟨some 16, .call ⟨.builtin .len, #[.tmp 15], #[tL]⟩, tI, "strings.go:121", #[⟨2, .data⟩], none⟩,
          ⟨some 17, .call ⟨.builtin .unsafeString, #[.tmp 14, .tmp 16], #[tP, tI]⟩, tS, "strings.go:121", #[⟨1, .data⟩, ⟨3, .data⟩], none⟩,
          ⟨some 2, .assign (.tmp 17), tS, "strings.go:121", #[⟨4, .data⟩, ⟨0, .phase⟩, ⟨1, .phase⟩, ⟨2, .phase⟩, ⟨3, .phase⟩, ⟨4, .phase⟩], none⟩] false).seq .ret))))),
    norace := false, file := "internal/stringslite/strings.go", endLine := 122,
    tmpNames := #["s", "s", "", "b", "", "", "", "", "", "", "", "", "", "", "", "", "", ""] }

section
variable {P : Program} {b : Frame} {A : Array Value} {DS : List Deferred} {k : List Item} {cs : List Frame} {W W' : World}

theorem st_op {ops : Array Oper} {i : Nat} {rest : List Nat} {o : Oper} {v : Value} (ho : ops[i]? = some o) (hg : o.guard = none) (hnd : ∀ c, o.op ≠ .defer c)
    (hr : (execOp (mkF b A [] []).eval o).run P W = .ok (.value v) W') :
    step P (lone (mkF b A [] (.inRegion ops (i :: rest) :: k)) cs W) = .next (lone (mkF b (putR A o.dst v) [] (.inRegion ops rest :: k)) cs W') :=
  st_value ho (by simp [Region.wanted, hg]) (.inr hnd) hr

theorem tmp_eval (t : Nat) : (mkF b A DS k).eval (.tmp t) = A.getD t undef := rfl
theorem put_size' (d : Nat) (v : Value) : (putR A (some d) v).size = A.size := by simp [putR]
theorem put_same {t : Nat} (v : Value) (h : t < A.size) : (putR A (some t) v).getD t undef = v := by
  simp [putR, Array.getD_eq_getD_getElem?, Array.getElem?_setIfInBounds, h]
theorem put_ne {d t : Nat} (v : Value) (h : d ≠ t) : (putR A (some d) v).getD t undef = A.getD t undef := by
  simp [putR, Array.getD_eq_getD_getElem?, Array.getElem?_setIfInBounds, h]

theorem clone_goes {f tI tB tS tL tP tE : Nat} {iE : TypeInfo} (hf : P.funcs[f]? = some (cloneF tI tB tS tL tP)) (hI : P.underlying tI = some (.int .i64)) (hS : P.underlying tS = some .string) (hL : P.underlying tL = some (.slice tE)) (hP : P.underlying tP = some (.pointer tE))
    (hE : P.info? tE = some iE) (hz : iE.zero = some (.int .u8 0)) (h1 : iE.size = 1) (h2 : iE.bytes = 1) (s : ByteArray) (hs : s.size ≤ 281474976710656) (W : World) :
    ∃ W', Fr (fun _ => False) W W' ∧ Goes P f #[.string s] W (.string s) W' := by
  have hcf : (callFunc f #[.string s]).run P W = .ok (.enter f #[.string s]) W := by
    simp [callFunc, Sem.run_bind, hf, cloneF]
  have hA0 : ∀ kind, Frame.enter P f #[.string s] kind = mkF (Frame.enter P f #[.string s] kind) (#[.string s] ++ Array.replicate 17 undef) [] [.code ((cloneF tI tB tS tL tP).body.getD .skip)] := by
    intro kind
    simp [Frame.enter, mkF, hf, cloneF]
  have hc0 : ∀ (b : Frame) (A : Array Value), (mkF b A [] []).eval (.const (.int .i64 0)) = .int .i64 0 := fun _ _ => rfl
  have hfin : ∀ (kind : CallKind) (caller : Frame) (rest : List Frame) (A1 : Array Value) (k1 : List Item) (W1 : World), (kind = .normal ∨ (kind = .deferred ∧ caller.mode = .returning)) → A1.getD 2 undef = .string s →
      Steps P (lone (mkF (Frame.enter P f #[.string s] kind) A1 [] (.code .ret :: k1)) (caller :: rest) W1) (lone (backTo kind (.string s) caller) rest W1) := by
    intro kind caller rest A1 k1 W1 hk h2
    refine .head (st_ret rfl) (.one ?_)
    exact un_done (b := Frame.enter P f #[.string s] kind) (fn := cloneF tI tB tS tL tP) hf (by
      have : (results (cloneF tI tB tS tL tP) A1).run P W1 = .ok (A1.getD 2 undef) W1 := by
        simp [results, cloneF, Array.getD_eq_getD_getElem?]
      rw [this, h2]) hk
  generalize hAA : (#[Value.string s] ++ Array.replicate 17 undef : Array Value) = A0 at hA0
  have g0 : A0.getD 0 undef = .string s := by rw [← hAA]; simp [Array.getD_eq_getD_getElem?]
  have z0 : A0.size = 18 := by rw [← hAA]; simp
  by_cases h0 : s.size = 0
  · have hse : s = { data := #[] } := by
      apply ByteArray.ext
      exact Array.eq_empty_of_size_eq_zero h0
    refine ⟨W, .refl _ _, .enter W hcf fun kind caller rest hk => ?_⟩
    rw [hA0 kind]
    refine .head st_seq (.head st_region (.head (st_op (o := ⟨some 2, .assign (.const (.string { data := #[] })), tS, "strings.go:115", #[], none⟩) rfl rfl (fun c e => by cases e) (x_assign _)) (.head st_region_end ?_)))
    refine .head st_seq (.head st_seq (.head st_region ?_))
    refine .head (st_op (o := ⟨some 4, .move (.tmp 0), tS, "strings.go:116", #[], none⟩) rfl rfl (fun c e => by cases e) (x_move _)) ?_
    rw [tmp_eval, put_ne _ (by decide), g0]
    refine .head (st_op (o := ⟨some 5, .call ⟨.builtin .len, #[.tmp 4], #[tS]⟩, tI, "strings.go:116", #[⟨0, .data⟩], none⟩) rfl rfl (fun c e => by cases e) (x_len_str (s := s) (by rw [tmp_eval]; exact put_same _ (by simp [put_size', z0])) hS)) ?_
    refine .head (st_op (o := ⟨some 6, .binOp .eql tI (.tmp 5) (.const (.int .i64 0)) tI, tB, "strings.go:116", #[⟨1, .data⟩], none⟩) rfl rfl (fun c e => by cases e) (x_eq0 (n := (s.size : Int)) (by rw [tmp_eval]; exact put_same _ (by simp [put_size', z0])) (hc0 _ _) hI)) ?_
    refine .head st_region_end (.head (st_cond (t := true) (by rw [tmp_eval, put_same _ (by simp [put_size', z0]), h0]; rfl)) ?_)
    refine .head st_seq (.head st_region (.head (st_op (o := ⟨some 2, .assign (.const (.string { data := #[] })), tS, "strings.go:117", #[], none⟩) rfl rfl (fun c e => by cases e) (x_assign _)) (.head st_region_end ?_)))
    refine hfin kind caller rest _ _ W hk ?_
    rw [put_same _ (by simp [put_size', z0]), hse]; rfl
  · have hz1 : ∀ w : World, (Go.sizeOf tE).run P w = .ok 1 w := fun w => by simp [Go.sizeOf, typeInfo, hE, h1]
    have hinfo : (P.info? tE).map (·.size) = some 1 := by rw [hE]; simp [h1]
    have hco : P.cellsOf tE = 1 := by simp [Program.cellsOf, hE, h1]
    obtain ⟨M, hM⟩ : ∃ M, M = madeCells (Value.int .u8 0).cells (((s.size : Nat) : Int).toNat * iE.size) := ⟨_, rfl⟩
    have hMs : M.size = s.size := by rw [hM, size_madeCells, h1]; simp
    let W1 : World := W.alloc (.cells M tE)
    have hmk : (Instr.makeSlice tL (.int .i64 (s.size : Int)) (.int .i64 (s.size : Int))).run P W = .ok (.slice (some ⟨W.heap.size, 0, none⟩) s.size s.size) W1 := by
      have h := run_make (P := P) W tL tE iE (.int .u8 0) hL hE hz .i64 .i64 (s.size : Int) (s.size : Int) (by omega) (by omega) (by rw [h2]; omega) (by omega)
      rw [← hM] at h
      simpa using h
    have hh1 : W1.heap[W.heap.size]? = some (.cells M tE (0, 0)) := heap_alloc_self W _
    have hcp := Lib.run_copy_row_string (P := P) W1 tL tS tI tE W.heap.size 0 s.size s.size s M tE hL hinfo hh1 (Nat.le_refl _) (by omega)
    obtain ⟨Y, hY⟩ : ∃ Y, Y = (M.toList.take 0 ++ Lib.byteCells s.data.toList ++ M.toList.drop (0 + s.size)).toArray := ⟨_, rfl⟩
    rw [← hY] at hcp
    have hYl : Y.toList = Lib.byteCells s.data.toList := by
      rw [hY, List.toList_toArray, List.take_zero, List.nil_append, List.drop_of_length_le (by rw [Array.length_toList]; omega), List.append_nil]
    have hYs : Y.size = s.size := by rw [← Array.length_toList, hYl, Lib.byteCells_length, ← Lib.size_eq]
    let W2 : World := W1.setRow W.heap.size Y
    have hh2 : W2.heap[W.heap.size]? = some (.cells Y tE (0, 0)) := setRow_self_heap W1 W.heap.size M Y tE (0, 0) hh1
    have hne : s.data.toList ≠ [] := fun e => h0 (by rw [Lib.size_eq, e]; rfl)
    have hus := Lib.run_unsafeString_row (P := P) W2 tP tI tS tE hP hco W.heap.size Y.size (by simp only [World.shape?, hh2]) s.data.toList hne (by rw [hYs, ← Lib.size_eq]; exact Nat.le_refl _) (by rw [← Lib.size_eq]; omega)
      (fun j x hx => by
        have e : (⟨W.heap.size, 0, none⟩ : Addr).add j = ⟨W.heap.size, j, none⟩ := by
          unfold Addr.add
          by_cases hj : j = 0
          · rw [if_pos hj, hj]
          · rw [if_neg hj, Nat.zero_add]
        rw [e, cell_of_row _ _ _ _ _ _ hh2, ← Array.getElem?_toList, hYl]
        simp [Lib.byteCells, hx])
    rw [← Lib.size_eq] at hus
    have hse : (⟨s.data.toList.toArray⟩ : ByteArray) = s := by simp
    rw [hse] at hus
    let W3 : World := W2.freeze ⟨W.heap.size, 0, none⟩ s.size
    have hfr : Fr (fun _ => False) W W3 := by
      have e1 : RowKit.Below W.heap.size W W1 := (RowKit.Below.refl _ W).alloc (Nat.le_refl _) _
      have e2 : RowKit.Below W.heap.size W1 W2 := ⟨rfl, rfl, rfl, Nat.le_of_eq (setRow_size _ _ _).symm, fun b hb => setRow_heap _ _ _ _ (by omega)⟩
      have e3 := Lib.below_freeze (e1.trans e2) (p := ⟨W.heap.size, 0, none⟩) (Nat.le_refl _) s.size
      exact ⟨e3.os, e3.tape, e3.output, e3.size, fun b hb _ => e3.block b hb⟩
    refine ⟨W3, hfr, .enter W hcf fun kind caller rest hk => ?_⟩
    have hn0 : ((s.size : Int) == 0) = false := by
      cases e : ((s.size : Int) == 0) with
      | false => rfl
      | true => exact absurd (by simpa using e) h0
    obtain ⟨m, hm⟩ : ∃ m, s.size = m + 1 := ⟨s.size - 1, by omega⟩
    rw [hA0 kind]
    refine .head st_seq (.head st_region (.head (st_op (o := ⟨some 2, .assign (.const (.string { data := #[] })), tS, "strings.go:115", #[], none⟩) rfl rfl (fun c e => by cases e) (x_assign _)) (.head st_region_end ?_)))
    refine .head st_seq (.head st_seq (.head st_region ?_))
    refine .head (st_op (o := ⟨some 4, .move (.tmp 0), tS, "strings.go:116", #[], none⟩) rfl rfl (fun c e => by cases e) (x_move _)) ?_
    rw [tmp_eval, put_ne _ (by decide), g0]
    refine .head (st_op (o := ⟨some 5, .call ⟨.builtin .len, #[.tmp 4], #[tS]⟩, tI, "strings.go:116", #[⟨0, .data⟩], none⟩) rfl rfl (fun c e => by cases e) (x_len_str (s := s) (by rw [tmp_eval]; exact put_same _ (by simp [put_size', z0])) hS)) ?_
    refine .head (st_op (o := ⟨some 6, .binOp .eql tI (.tmp 5) (.const (.int .i64 0)) tI, tB, "strings.go:116", #[⟨1, .data⟩], none⟩) rfl rfl (fun c e => by cases e) (x_eq0 (n := (s.size : Int)) (by rw [tmp_eval]; exact put_same _ (by simp [put_size', z0])) (hc0 _ _) hI)) ?_
    refine .head st_region_end (.head (st_cond (t := false) (by rw [tmp_eval, put_same _ (by simp [put_size', z0]), hn0])) ?_)
    refine .head st_skip (.head st_seq (.head st_region ?_))
    refine .head (st_op (o := ⟨some 7, .move (.tmp 0), tS, "strings.go:119", #[], none⟩) rfl rfl (fun c e => by cases e) (x_move _)) ?_
    rw [tmp_eval, put_ne _ (by decide), put_ne _ (by decide), put_ne _ (by decide), put_ne _ (by decide), g0]
    refine .head (st_op (o := ⟨some 8, .call ⟨.builtin .len, #[.tmp 7], #[tS]⟩, tI, "strings.go:119", #[⟨0, .data⟩], none⟩) rfl rfl (fun c e => by cases e) (x_len_str (s := s) (by rw [tmp_eval]; exact put_same _ (by simp [put_size', z0])) hS)) ?_
    refine .head (st_op (o := ⟨some 9, .makeSlice tL (.tmp 8) (.tmp 8), tL, "strings.go:119", #[⟨1, .data⟩, ⟨1, .data⟩], none⟩) (W' := W1) rfl rfl (fun c e => by cases e) (x_make (by rw [tmp_eval, put_same _ (by simp [put_size', z0])]; exact hmk))) ?_
    refine .head (st_op (o := ⟨some 3, .assign (.tmp 9), tL, "strings.go:119", #[⟨2, .data⟩, ⟨0, .phase⟩, ⟨1, .phase⟩, ⟨2, .phase⟩], none⟩) rfl rfl (fun c e => by cases e) (x_assign _)) ?_
    rw [tmp_eval, put_same _ (by simp [put_size', z0])]
    refine .head st_region_end (.head st_seq (.head st_region ?_))
    refine .head (st_op (o := ⟨some 10, .move (.tmp 3), tL, "strings.go:120", #[], none⟩) rfl rfl (fun c e => by cases e) (x_move _)) ?_
    rw [tmp_eval, put_same _ (by simp [put_size', z0])]
    refine .head (st_op (o := ⟨some 11, .move (.tmp 0), tS, "strings.go:120", #[], none⟩) rfl rfl (fun c e => by cases e) (x_move _)) ?_
    rw [tmp_eval]
    iterate 9 rw [put_ne _ (by decide)]
    rw [g0]
    refine .head (st_op (o := ⟨some 12, .call ⟨.builtin .copy, #[.tmp 10, .tmp 11], #[tL, tS]⟩, tI, "strings.go:120", #[⟨0, .data⟩, ⟨1, .data⟩], none⟩) (W' := W2) rfl rfl (fun c e => by cases e)
      (x_copy (by rw [tmp_eval, tmp_eval, put_same _ (by simp [put_size', z0]), put_ne _ (by decide), put_same _ (by simp [put_size', z0])]; exact hcp))) ?_
    refine .head st_region_end (.head st_seq (.head st_region ?_))
    refine .head (st_op (o := ⟨some 13, .move (.tmp 3), tL, "strings.go:121", #[], none⟩) rfl rfl (fun c e => by cases e) (x_move _)) ?_
    rw [tmp_eval]
    iterate 3 rw [put_ne _ (by decide)]
    rw [put_same _ (by simp [put_size', z0]), hm]
    refine .head (st_op (o := ⟨some 14, .indexAddr tL (.tmp 13) (.const (.int .i64 0)), 0, "strings.go:121", #[⟨0, .data⟩], none⟩) rfl rfl (fun c e => by cases e) (x_idx0 (g := W.heap.size) (l := m) (c := m + 1) (by rw [tmp_eval]; exact put_same _ (by simp [put_size', z0])) (hc0 _ _) hL (hz1 _))) ?_
    refine .head (st_op (o := ⟨some 15, .move (.tmp 3), tL, "strings.go:121", #[], none⟩) rfl rfl (fun c e => by cases e) (x_move _)) ?_
    rw [tmp_eval]
    iterate 5 rw [put_ne _ (by decide)]
    rw [put_same _ (by simp [put_size', z0])]
    refine .head (st_op (o := ⟨some 16, .call ⟨.builtin .len, #[.tmp 15], #[tL]⟩, tI, "strings.go:121", #[⟨2, .data⟩], none⟩) rfl rfl (fun c e => by cases e) (x_len_sl (a := some ⟨W.heap.size, 0, none⟩) (l := m + 1) (c := m + 1) (by rw [tmp_eval]; exact put_same _ (by simp [put_size', z0])) hL)) ?_
    refine .head (st_op (o := ⟨some 17, .call ⟨.builtin .unsafeString, #[.tmp 14, .tmp 16], #[tP, tI]⟩, tS, "strings.go:121", #[⟨1, .data⟩, ⟨3, .data⟩], none⟩) (W' := W3) rfl rfl (fun c e => by cases e)
      (x_ustr (v := .string s) (by rw [tmp_eval, tmp_eval, put_ne _ (by decide), put_ne _ (by decide), put_same _ (by simp [put_size', z0]), put_same _ (by simp [put_size', z0]), ← hm]; exact hus))) ?_
    refine .head (st_op (o := ⟨some 2, .assign (.tmp 17), tS, "strings.go:121", #[⟨4, .data⟩, ⟨0, .phase⟩, ⟨1, .phase⟩, ⟨2, .phase⟩, ⟨3, .phase⟩, ⟨4, .phase⟩], none⟩) rfl rfl (fun c e => by cases e) (x_assign _)) ?_
    rw [tmp_eval, put_same _ (by simp [put_size', z0])]
    refine .head st_region_end ?_
    exact hfin kind caller rest _ _ W3 hk (put_same _ (by simp [put_size', z0]))
end
end Go.Eng

/-
  THE ENGINE, 48: what is said ahead is so; the tables of a program are its own.
-/
namespace Go.Eng
open Go

theorem u8_toNat {c : Nat} (hc : c ≤ 255) : c.toUInt8.toNat = c := by
  show (UInt8.ofNat c).toNat = c
  rw [UInt8.toNat_ofNat']
  omega
theorem u8_beq {b : UInt8} {c : Nat} (hc : c ≤ 255) : Nat.beq b.toNat c = (b == c.toUInt8) := by
  have h := u8_toNat hc
  cases e : (b == c.toUInt8) with
  | true =>
    have : b = c.toUInt8 := by simpa using e
    subst this
    rw [h]; exact Nat.beq_refl c
  | false =>
    cases e2 : Nat.beq b.toNat c with
    | false => rfl
    | true =>
      have h2 := Nat.eq_of_beq_eq_true e2
      have : b = c.toUInt8 := by
        apply UInt8.toNat_inj.1
        rw [h, h2]
      subst this
      simp at e

theorem idxByte_spec {c : Nat} (hc : c ≤ 255) : ∀ (l : List UInt8) (i : Nat) (x : Int), Lib.indexByte l c.toUInt8 = x → idxByte (l.map (·.toNat)) c i = if x = -1 then -1 else x + i
  | [], i, x, hx => by
    have : x = -1 := by rw [← hx]; rfl
    subst this; simp [idxByte]
  | b :: l, i, x, hx => by
    simp only [List.map_cons, idxByte]
    rw [u8_beq hc]
    unfold Lib.indexByte at hx
    have hge := Lib.indexByte_ge l c.toUInt8
    by_cases e : (b == c.toUInt8) = true
    · rw [if_pos e] at hx
      subst hx
      rw [e]; simp
    · have e' : (b == c.toUInt8) = false := by simpa using e
      rw [if_neg e] at hx
      rw [e']
      simp only
      rw [idxByte_spec hc l (i + 1) _ rfl]
      by_cases h : Lib.indexByte l c.toUInt8 = -1
      · have h2 : (Lib.indexByte l c.toUInt8 == -1) = true := by rw [h]; rfl
        rw [if_pos h2] at hx
        subst hx
        rw [if_pos h]; rfl
      · have h2 : ¬ (Lib.indexByte l c.toUInt8 == -1) = true := by simpa using h
        rw [if_neg h2] at hx
        subst hx
        rw [if_neg h, if_neg (by omega)]
        omega

theorem cntByte_spec {c : Nat} (hc : c ≤ 255) : ∀ (l : List UInt8), cntByte (l.map (·.toNat)) c = Lib.countByte l c.toUInt8
  | [] => rfl
  | b :: l => by
    simp only [List.map_cons, cntByte]
    rw [u8_beq hc, cntByte_spec hc l]
    unfold Lib.countByte
    rw [List.count_cons]
    by_cases e : (b == c.toUInt8) = true
    · rw [if_pos e, e]
    · have e' : (b == c.toUInt8) = false := by simpa using e
      rw [if_neg e, e']; simp

section
variable {P : Program}

/-- The three functions of Go's library. -/
structure LibOK (P : Program) (fI fC fK : Nat) : Prop where
  idx : ∃ fn, P.funcs[fI]? = some fn ∧ (fn.name == "runtime.NumGoroutine") = false ∧ fn.body.isNone = true ∧ Extern.findNext fn = none ∧ Extern.find fn = some Extern.BytealgIndexByte.indexByte
  cnt : ∃ fn, P.funcs[fC]? = some fn ∧ (fn.name == "runtime.NumGoroutine") = false ∧ fn.body.isNone = true ∧ Extern.findNext fn = none ∧ Extern.find fn = some Extern.BytealgCount.count
  cln : ∃ tI tB tS tL tP tE iE, P.funcs[fK]? = some (cloneF tI tB tS tL tP) ∧ P.underlying tI = some (.int .i64) ∧ P.underlying tS = some .string ∧ P.underlying tL = some (.slice tE) ∧ P.underlying tP = some (.pointer tE) ∧
    P.info? tE = some iE ∧ iE.zero = some (.int .u8 0) ∧ iE.size = 1 ∧ iE.bytes = 1

theorem one_str_u8 {V : View} {s : List Nat} {c : Nat} {A : List Value} (h : VRs V [.str s, .int .u8 (.ofNat c)] A) : ∃ b : ByteArray, s = b.data.toList.map (·.toNat) ∧ A = [.string b, .int .u8 (.ofNat c)] := by
  obtain ⟨X, Xs, rfl, h1, h2⟩ := h.cons_inv
  obtain ⟨Y, Ys, rfl, h3, h4⟩ := h2.cons_inv
  cases h4.nil_inv
  obtain ⟨b, rfl, rfl⟩ := h1.str_inv
  have := h3.int_inv
  subst this
  exact ⟨b, rfl, rfl⟩

theorem ext_ok {E : Env} {fI fC fK : Nat} (hE : E.ext = extA fI fC fK) (h : LibOK P fI fC fK) : ExtOK P E := by
  suffices key : ∀ f args v, E.ext f args = some v → ∀ V A W, VRs V args A → (∀ b o x, V.K b o = some x → W.cell? ⟨b, o, none⟩ = some x) →
      (∀ g l, E.glob g = some l → ∃ z : Nat → Value, ∀ i (h : i < l.length), V.K g i = some (z i) ∧ VR V.bare l[i] (z i)) → ∃ R W', VR V v R ∧ Fr (fun _ => False) W W' ∧ Goes P f A.toArray W R W' by
    intro f args v hx V A W ha hK hg
    obtain ⟨R, W', h1, h2, h3⟩ := key f args v hx V A W ha hK hg
    exact ⟨R, W', V, .refl _ _ _, h1, h2, h3⟩
  intro f args v hx V A W ha hK hg
  rw [hE] at hx
  unfold extA at hx
  split at hx
  · rename_i e
    have hf := Nat.eq_of_beq_eq_true e
    subst hf
    split at hx
    · rename_i s c
      split at hx
      · rename_i hc
        simp only [Option.some.injEq] at hx; subst hx
        have hc' := Nat.le_of_ble_eq_true hc
        obtain ⟨b, rfl, rfl⟩ := one_str_u8 ha
        obtain ⟨fn, h1, h2, h3, h4, h5⟩ := h.idx
        refine ⟨.int .i64 (Lib.indexByte b.data.toList c.toUInt8), W, ?_, .refl _ _, .value ?_⟩
        · rw [idxByte_spec hc' b.data.toList 0 _ rfl]
          split
          · rename_i e2; rw [e2]; exact .int _ _
          · rw [show Lib.indexByte b.data.toList c.toUInt8 + ((0 : Nat) : Int) = Lib.indexByte b.data.toList c.toUInt8 by omega]; exact .int _ _
        · rw [run_callFunc_extern h1 h2 h3 h4 h5]
          rw [show ([Value.string b, .int .u8 (.ofNat c)] : List Value).toArray = #[.string b, .int .u8 (.ofNat c)] from rfl, Lib.run_indexByteString]
          rfl
      · cases hx
    · cases hx
  · split at hx
    · rename_i _ e
      have hf := Nat.eq_of_beq_eq_true e
      subst hf
      split at hx
      · rename_i s c
        split at hx
        · rename_i hc
          simp only [Option.some.injEq] at hx; subst hx
          have hc' := Nat.le_of_ble_eq_true hc
          obtain ⟨b, rfl, rfl⟩ := one_str_u8 ha
          obtain ⟨fn, h1, h2, h3, h4, h5⟩ := h.cnt
          refine ⟨.int .i64 (Lib.countByte b.data.toList c.toUInt8 : Nat), W, ?_, .refl _ _, .value ?_⟩
          · rw [cntByte_spec hc' b.data.toList]; exact .int _ _
          · rw [run_callFunc_extern h1 h2 h3 h4 h5]
            rw [show ([Value.string b, .int .u8 (.ofNat c)] : List Value).toArray = #[.string b, .int .u8 (.ofNat c)] from rfl, Lib.run_countString]
            rfl
        · cases hx
      · cases hx
    · split at hx
      · rename_i _ _ e
        have hf := Nat.eq_of_beq_eq_true e
        subst hf
        split at hx
        · rename_i s
          split at hx
          · rename_i hc
            simp only [Option.some.injEq] at hx; subst hx
            have hc' := Nat.le_of_ble_eq_true hc
            obtain ⟨X, Xs, rfl, h1, h2⟩ := ha.cons_inv
            cases h2.nil_inv
            obtain ⟨b, rfl, rfl⟩ := h1.str_inv
            obtain ⟨tI, tB, tS, tL, tP, tE, iE, k1, k2, k3, k4, k5, k6, k7, k8, k9⟩ := h.cln
            have hs : b.size ≤ 281474976710656 := by
              have : b.size = (b.data.toList.map (·.toNat)).length := by simp only [List.length_map]; rfl
              omega
            obtain ⟨W', hfr, hgo⟩ := clone_goes k1 k2 k3 k4 k5 k6 k7 k8 k9 b hs W
            exact ⟨.string b, W', .str b, hfr, hgo⟩
          · cases hx
        · cases hx
      · cases hx

/-! ### The tables -/

/-- Is it so of each entry? f: the number of an entry, by its place in the part that is looked at. -/
def allT {α : Type} (p : Nat → α → Bool) : Tr α → (Nat → Nat) → Bool
  | .lf, _ => true
  | .nd l v r, f => (match v with | none => true | some v => p (f 0) v) && (allT p l (fun j => f (2 * j + 1)) && allT p r (fun j => f (2 * j + 2)))

theorem allT_spec {α : Type} {p : Nat → α → Bool} : ∀ (t : Tr α) (f : Nat → Nat), allT p t f = true → ∀ k v, t.get k = some v → p (f k) v = true
  | .lf, f, _, k, v, h => by simp [Tr.get_lf] at h
  | .nd l w r, f, ha, k, v, h => by
    simp only [allT, Bool.and_eq_true] at ha
    obtain ⟨h0, h1, h2⟩ := ha
    rw [Tr.get_nd] at h
    cases k with
    | zero => simp only at h; subst h; exact h0
    | succ k =>
      simp only at h
      cases e : Nat.beq ((k + 1) % 2) 1 with
      | true =>
        rw [e] at h; simp only at h
        have := allT_spec l _ h1 _ _ h
        have hm := Nat.eq_of_beq_eq_true e
        rw [show k + 1 = 2 * ((k + 1) / 2) + 1 by omega]; exact this
      | false =>
        rw [e] at h; simp only at h
        have := allT_spec r _ h2 _ _ h
        have hm : (k + 1) % 2 = 0 := by
          have : (k + 1) % 2 ≠ 1 := fun e' => by rw [e'] at e; exact absurd e (by decide)
          omega
        rw [show k + 1 = 2 * ((k + 1) / 2 - 1) + 2 by omega]; exact this

/-- Is it so of each entry, as a statement? -/
def allP {α : Type} (p : Nat → α → Prop) : Tr α → (Nat → Nat) → Prop
  | .lf, _ => True
  | .nd l v r, f => (match v with | none => True | some v => p (f 0) v) ∧ allP p l (fun j => f (2 * j + 1)) ∧ allP p r (fun j => f (2 * j + 2))
theorem allP_spec {α : Type} {p : Nat → α → Prop} : ∀ (t : Tr α) (f : Nat → Nat), allP p t f → ∀ k v, t.get k = some v → p (f k) v
  | .lf, f, _, k, v, h => by simp [Tr.get_lf] at h
  | .nd l w r, f, ha, k, v, h => by
    obtain ⟨h0, h1, h2⟩ := ha
    rw [Tr.get_nd] at h
    cases k with
    | zero => simp only at h; subst h; exact h0
    | succ k =>
      simp only at h
      cases e : Nat.beq ((k + 1) % 2) 1 with
      | true =>
        rw [e] at h; simp only at h
        have := allP_spec l _ h1 _ _ h
        have hm := Nat.eq_of_beq_eq_true e
        rw [show k + 1 = 2 * ((k + 1) / 2) + 1 by omega]; exact this
      | false =>
        rw [e] at h; simp only at h
        have := allP_spec r _ h2 _ _ h
        have hm : (k + 1) % 2 = 0 := by
          have : (k + 1) % 2 ≠ 1 := fun e' => by rw [e'] at e; exact absurd e (by decide)
          omega
        rw [show k + 1 = 2 * ((k + 1) / 2 - 1) + 2 by omega]; exact this

def hasB (P : Program) (E : Nat → Nat) (t : Nat) : Bool := match P.info? t with
  | some i => Nat.beq (E t) i.size
  | none => false
theorem hasB_spec {E : Env} {t : Nat} (h : hasB P E.size t = true) : Has P E t := by
  unfold hasB at h
  split at h
  · rename_i i hi; exact ⟨i, hi, Nat.eq_of_beq_eq_true h⟩
  · cases h

def fieldsB (P : Program) (E : Nat → Nat) : List KF → List Field → Bool
  | [], [] => true
  | k :: ks, f :: fs => Nat.beq k.off f.offset && (Nat.beq k.type f.type && ((k.named == (f.name != "_")) && (hasB P E f.type && fieldsB P E ks fs)))
  | _, _ => false
theorem fieldsB_spec {E : Env} : ∀ {ks : List KF} {fs : List Field}, fieldsB P E.size ks fs = true → ks = fs.map (fun f => (⟨f.offset, f.type, f.name != "_"⟩ : KF)) ∧ ∀ f ∈ fs, Has P E f.type
  | [], [], _ => ⟨rfl, fun f hf => by cases hf⟩
  | k :: ks, [], h => by simp [fieldsB] at h
  | [], f :: fs, h => by simp [fieldsB] at h
  | k :: ks, f :: fs, h => by
    simp only [fieldsB, Bool.and_eq_true] at h
    obtain ⟨h1, h2, h3, h4, h5⟩ := h
    obtain ⟨g1, g2⟩ := fieldsB_spec h5
    obtain ⟨o, t, n⟩ := k
    have e1 := Nat.eq_of_beq_eq_true h1
    have e2 := Nat.eq_of_beq_eq_true h2
    have e3 : n = (f.name != "_") := by simpa using h3
    simp only at e1 e2
    subst e1; subst e2; subst e3
    exact ⟨by rw [g1]; rfl, fun x hx => by
      rcases List.mem_cons.1 hx with rfl | hx
      · exact hasB_spec h4
      · exact g2 x hx⟩

noncomputable def tyB (P : Program) (sz by_ : Nat → Nat) (t : Nat) (k : KT) : Bool := hasB P sz t && (match k, P.underlying t with
  | .bool, some .bool => true
  | .int k, some (.int k') => ikb k k'
  | .str, some .string => true
  | .ptr, some (.pointer _) => true
  | .slice e, some (.slice e') => Nat.beq e e' && (hasB P sz e && (match P.info? e with | some i => Nat.beq (by_ e) i.bytes | none => false))
  | .arr n e, some (.array n' e') => Nat.beq n n' && (Nat.beq e e' && hasB P sz e)
  | .map k e, some (.map k' e') => Nat.beq k k' && (Nat.beq e e' && hasB P sz e)
  | .fn, some (.func _ _ _) => true
  | .ifc b, some (.interface ms) => b == ms.isEmpty
  | .struct fs, some (.struct F) => fieldsB P sz fs F.toList
  | _, _ => false)

theorem tyB_spec {E : Env} {t : Nat} {k : KT} (h : tyB P E.size E.bytes t k = true) : Has P E t ∧ KOK P E t k := by
  unfold tyB at h
  rw [Bool.and_eq_true] at h
  obtain ⟨h1, h2⟩ := h
  refine ⟨hasB_spec h1, ?_⟩
  split at h2
  · rename_i hu; exact hu
  · rename_i hu; rw [ikb_eq h2]; exact hu
  · rename_i hu; exact hu
  · rename_i hu; exact ⟨_, hu⟩
  · rename_i e e' hu
    simp only [Bool.and_eq_true] at h2
    have := Nat.eq_of_beq_eq_true h2.1; subst this
    refine ⟨hu, hasB_spec h2.2.1, ?_⟩
    have h3 := h2.2.2
    split at h3
    · rename_i i hi; exact ⟨i, hi, Nat.eq_of_beq_eq_true h3⟩
    · cases h3
  · rename_i n e n' e' hu
    simp only [Bool.and_eq_true] at h2
    have e1 := Nat.eq_of_beq_eq_true h2.1; have e2 := Nat.eq_of_beq_eq_true h2.2.1; subst e1; subst e2
    exact ⟨hu, hasB_spec h2.2.2⟩
  · rename_i n e n' e' hu
    simp only [Bool.and_eq_true] at h2
    have e1 := Nat.eq_of_beq_eq_true h2.1; have e2 := Nat.eq_of_beq_eq_true h2.2.1; subst e1; subst e2
    exact ⟨hu, hasB_spec h2.2.2⟩
  · rename_i hu; exact ⟨_, _, _, hu⟩
  · rename_i b ms hu; exact ⟨ms, hu, by simpa using h2⟩
  · rename_i fs F hu
    obtain ⟨g1, g2⟩ := fieldsB_spec h2
    exact ⟨F, hu, g1, g2⟩
  · cases h2

noncomputable def zeB (P : Program) (sz : Nat → Nat) (t : Nat) (z : AV) : Bool := match P.info? t with
  | some i => match i.zero with
    | some v => (match lit 4 v with | some z' => avbeq z' z | none => false) && (Nat.beq v.cells.size i.size && Nat.beq (sz t) i.size)
    | none => false
  | none => false
theorem zeB_spec {sz : Nat → Nat} {t : Nat} {z : AV} (h : zeB P sz t z = true) : ∃ i v, P.info? t = some i ∧ i.zero = some v ∧ Const z v ∧ v.cells.size = i.size ∧ sz t = i.size := by
  unfold zeB at h
  split at h
  · rename_i i hi
    split at h
    · rename_i v hv
      simp only [Bool.and_eq_true] at h
      obtain ⟨h1, h2, h3⟩ := h
      split at h1
      · rename_i z' hz'
        have := avbeq_eq _ _ h1
        subst this
        exact ⟨i, v, hi, hv, fun V => lit_sound 4 v _ hz' V, Nat.eq_of_beq_eq_true h2, Nat.eq_of_beq_eq_true h3⟩
      · cases h1
    · cases h
  · cases h

theorem methOf_mem : ∀ {l : List (String × Nat)} {n : String} {f : Nat}, methOf l n = some f → (n, f) ∈ l
  | [], n, f, h => by cases h
  | (m, g) :: l, n, f, h => by
    simp only [methOf] at h
    split at h
    · rename_i e
      simp only [Option.some.injEq] at h; subst h
      have : m = n := by simpa using e
      subst this
      exact List.mem_cons_self
    · exact List.mem_cons_of_mem _ (methOf_mem h)

/-- Has a type this method, with no way to it? -/
def methB (P : Program) (t : Nat) (n : String) (f : Nat) : Bool := match P.info? t with
  | some i => match i.methods.find? (·.name == n) with
    | some m => m.path.isEmpty && (match m.func with
      | some (g, pr) => Nat.beq g f && (match P.underlying t, pr with
        | some (.pointer _), true => true
        | some (.pointer _), false => false
        | some _, false => true
        | _, _ => false)
      | none => false)
    | none => false
  | none => false

theorem meth_run {t f : Nat} {n : String} (h : methB P t n f = true) (d : Nat) (v : Value) (W : World) : (method (d + 1) t v n).run P W = .ok (f, v) W ∧ (nilAhead (d + 1) t v n).run P W = .ok (some false) W := by
  unfold methB at h
  split at h
  · rename_i i hi
    split at h
    · rename_i m hm
      rw [Bool.and_eq_true] at h
      obtain ⟨h1, h2⟩ := h
      have hp : m.path = #[] := by simpa using h1
      split at h2
      · rename_i g pr hf
        rw [Bool.and_eq_true] at h2
        obtain ⟨h2, h3⟩ := h2
        have := Nat.eq_of_beq_eq_true h2
        subst this
        have hinfo : (typeInfo t).run P W = .ok i W := by simp [typeInfo, Sem.run_bind, hi]
        have hu : ∀ d, P.underlying t = some d → (underlying t).run P W = .ok d W := fun d hd => by simp [underlying, Sem.run_bind, hd]
        split at h3
        · rename_i e hd
          exact ⟨by simp [method, Sem.run_bind, hinfo, hm, hp, hf, follow, receiverAt, hu _ hd, Place.get], by simp [nilAhead, Sem.run_bind, hinfo, hm, hp, hf, followBlind]⟩
        · cases h3
        · rename_i d hne hd
          have e2 : ∀ o, (receiverAt t (.val v) false o).run P W = .ok v W := fun o => by
            simp only [receiverAt, Sem.run_bind, hu _ hd, Result.andThen_ok]
            cases d <;> first | rfl | (exact absurd rfl (hne _))
          refine ⟨by simp [method, Sem.run_bind, hinfo, hm, hp, hf, follow, e2], ?_⟩
          cases d <;> first | (exact absurd rfl (hne _)) | (simp [nilAhead, Sem.run_bind, hinfo, hm, hp, hf, followBlind, hu _ hd]; done)
        · cases h3
      · cases h2
    · cases h
  · cases h

/-- What is asked of the tables of a program. -/
structure TabsOK (P : Program) (T : Tabs) : Prop where
  ty : allT (tyB P T.env.size T.env.bytes) T.ty (fun k => k) = true
  ze : allT (zeB P T.env.size) T.ze (fun k => k) = true
  eq : allT (fun t _ => !P.stoodInHeld t && !P.eqGuardType P.depth t) T.eq (fun k => k) = true
  fn : allP (fun f fn => P.funcs[f]? = some fn) T.fn (fun k => k)
  mt : allT (fun t l => l.all fun x => methB P t x.1 x.2) T.mt (fun k => k) = true
  nm : allT (fun _ fn => fn.name != "runtime.NumGoroutine") T.fn (fun k => k) = true
  lib : T.lb = true → LibOK P T.fI T.fC T.fK
  mix : P.follows .mixedOrders = true

theorem TabsOK.env {T : Tabs} (h : TabsOK P T) : EnvOK P T.env := by
  refine ⟨fun t k ht => tyB_spec (allT_spec _ _ h.ty _ _ ht), fun t z hz => ?_, fun f fn hf => allP_spec _ _ h.fn _ _ hf, fun t ht => ?_, fun t n f ht v W => ?_⟩
  · obtain ⟨i, v, h1, h2, h3, h4, h5⟩ := zeB_spec (allT_spec _ _ h.ze _ _ hz)
    exact ⟨i, v, h1, h2, h3, h4, h5⟩
  · have ht' : (match T.eq.get t with | some _ => true | none => false) = true := ht
    split at ht'
    · rename_i u hu
      have := allT_spec _ _ h.eq _ _ hu
      simpa using this
    · cases ht'
  · have ht' : (match T.mt.get t with | some l => methOf l n | none => none) = some f := ht
    split at ht'
    · rename_i l hl
      have := List.all_eq_true.1 (allT_spec _ _ h.mt _ _ hl) _ (methOf_mem ht')
      exact meth_run this _ v W
    · cases ht'
theorem TabsOK.name {T : Tabs} (h : TabsOK P T) : NameOK T.env := by
  intro f fn hf
  have := allT_spec _ _ h.nm _ _ hf
  simpa using this
theorem TabsOK.ext {T : Tabs} (h : TabsOK P T) : ExtOK P T.env := by
  cases hl : T.lb with
  | true =>
    refine ext_ok (fI := T.fI) (fC := T.fC) (fK := T.fK) ?_ (h.lib hl)
    show (fun f args => match T.lb with | true => extA T.fI T.fC T.fK f args | false => none) = _
    rw [hl]
  | false =>
    intro f args v he
    have e : (match T.lb with | true => extA T.fI T.fC T.fK f args | false => none) = some v := he
    rw [hl] at e
    cases e
end
end Go.Eng

/-
  THE ENGINE, 49: a call of no arguments, whole.
-/
namespace Go.Eng
open Go

section
variable {P : Program} {E : Env}

/-- What the engine answers of a whole call, in the words of contracts. -/
theorem calls_of (hE : EnvOK P E) (hN : NameOK E) (hmix : P.follows .mixedOrders = true) {call : CallF} (ih : CallOK P E call) {f : Nat} {args : List AV} {v : AV} {σ : Hp} (hext : E.ext f args = none) (h : bodyN E call f args .empty [] [] = some (v, σ, []))
    {V : View} {A : List Value} {W : World} (ha : VRs V args A) (hcl : args.all (closedA 9) = true) (hK : ∀ b o x, V.K b o = some x → W.cell? ⟨b, o, none⟩ = some x) (hg : GlobK E V) :
    Calls P f A.toArray W fun e W' => ∃ V' R, e = .returned R ∧ VR V' v R ∧ Fr (fun _ => False) W W' := by
  have hcode := code_ok hE hmix call ih
  simp only [bodyN, hext] at h
  split at h
  · cases h
  · rename_i fn hfn
    split at h
    · cases h
    · rename_i body hbody
      split at h
      · cases h
      · rename_i e st1 hex
        have hf := hE.fn f fn hfn
        have hcf : (callFunc f A.toArray).run P W = .ok (.enter f A.toArray) W := by
          simp [callFunc, Sem.run_bind, hf, hN f fn hfn, hbody]
        have ha' := closedA_list hcl ha
        have hS : SR E W.heap.size invT (alone V) ⟨tmps0 fn.ntmps (.full (dep fn.ntmps)) 0 args, .empty, [], [], args.length + (fn.ntmps - args.length), false⟩ (A.toArray ++ Array.replicate (fn.ntmps - A.length) undef) [] [] (fun _ => False) W := by
          refine ⟨HR.alone hK hg _, Nat.le_refl _, fun t a ht => ?_, by simp [ha'.1], .nil, fun r hr => absurd hr (by simp), fun _ h => h, fun _ _ h => h, fun i x hx => by simp [Eng.alone] at hx⟩
          rcases tmps0_spec _ _ _ _ _ _ ht with ⟨j, rfl, hj⟩ | g
          · obtain ⟨X, h1, h2⟩ := ha'.get hj
            have : j < A.length := (List.getElem?_eq_some_iff.1 h1).1
            have e : (A.toArray ++ Array.replicate (fn.ntmps - A.length) undef).getD (0 + j) undef = X := by
              rw [Array.getD_eq_getD_getElem?, Nat.zero_add, Array.getElem?_append_left (by simpa using this)]
              simp [h1]
            rw [e]; exact h2
          · rw [Tr.get_full] at g; cases g
        have hh : HOK P E W.heap.size invT (alone V) [] := fun lvl h e => by cases e
        obtain ⟨V1, A1, DS1, M1, O1, W1, L1, g1⟩ := hcode W.heap.size [] body invT invT_ok (alone V) _ st1 e _ _ _ _ _ f none (fun _ h => by cases h) hex hS hh
        split at h
        · cases h
        · rename_i hne
          split at h
          · cases h
          · rename_i σ2 Λ2 hrd
            obtain ⟨V2, O2, W2, S2, p2, o2, g2⟩ := unwind_spec invT_ok ih L1.sr.ds (View.le.refl V1) (st := st1) L1.sr (hh.mono L1.pr.le) hrd
            have hP := L1.pr.transM p2 (fun r hr => (L1.mg r hr).elim (fun x => absurd x (by simp)) (fun x => x)) o2
            have hfr : Fr (fun _ => False) W W2 := hP.fr.weaken (fun b _ hb => hb.elim (no_own b) (fun h => h))
            have fin : ∀ vs, resultsA E st1.τ σ2 fn.results.toList = some vs → Calls P f A.toArray W fun e W' => ∃ V' R, e = .returned R ∧ VR V' (packA vs) R ∧ Fr (fun _ => False) W W' := by
              intro vs hvs
              obtain ⟨L, h1, h2⟩ := results_run hE S2 (fn := fn) hvs
              intro cs
              have hent : Frame.enter P f A.toArray .normal = mkF (Frame.enter P f A.toArray .normal) (A.toArray ++ Array.replicate (fn.ntmps - A.length) undef) [] [.code body] := by
                simp [Frame.enter, mkF, hf, hbody]
              have hro : (Frame.enter P f A.toArray .normal).roundOf = none := rfl
              have ha1 := g1 (Frame.enter P f A.toArray .normal) cs [] ⟨⟨rfl, rfl, .inl rfl⟩, rfl⟩
              rw [← hent] at ha1
              obtain ⟨todo, s1⟩ : ∃ todo, Steps P (lone (Frame.enter P f A.toArray .normal) cs W) (lone (retF (Frame.enter P f A.toArray .normal) A1 DS1 todo) cs W1) := by
                cases e with
                | normal => exact ⟨[], Steps.trans ha1 (.one (st_end hro))⟩
                | exit i => exact absurd rfl (hne i)
                | ret => obtain ⟨k', h2⟩ := ha1; exact ⟨_, h2.trans (.one (st_ret hro))⟩
              exact ⟨.returned (pack L), W2, retF (Frame.enter P f A.toArray .normal) A1 [] todo, ⟨V2, pack L, rfl, pack_spec h2, hfr⟩, s1.trans (g2 _ cs todo), rfl, rfl, rfl, rfl, fn, hf, h1⟩
            split at h
            · rename_i v1 hvs
              simp only [Option.some.injEq, Prod.mk.injEq] at h; obtain ⟨rfl, _, _⟩ := h
              exact fin _ hvs
            · rename_i vs hnv hvs
              simp only [Option.some.injEq, Prod.mk.injEq] at h; obtain ⟨rfl, _, _⟩ := h
              have := fin _ hvs
              unfold packA at this
              split at this
              · exact absurd rfl (hnv _)
              · exact this
            · cases h

/-- Is the answer true? -/
noncomputable def isTrue (E : Env) (n f : Nat) : Bool :=
  match E.ext f [], callN E (n + 1) f [] .empty [] [] with
  | none, some (.bool true, _, []) => true
  | _, _ => false

theorem calls_true (hE : EnvOK P E) (hX : ExtOK P E) (hN : NameOK E) (hmix : P.follows .mixedOrders = true) {n f : Nat} (h : isTrue E n f = true) {V : View} {W : World} (hK : ∀ b o x, V.K b o = some x → W.cell? ⟨b, o, none⟩ = some x) (hg : GlobK E V) :
    Calls P f #[] W fun e W' => e = .returned (.bool true) ∧ Fr (fun _ => False) W W' := by
  unfold isTrue at h
  split at h
  · rename_i σ h1 h2
    refine (calls_of hE hN hmix (engine_ok hE hX hN hmix n) h1 h2 (.nil V) rfl hK hg).mono fun e W' ⟨V', R, he, hv, hf⟩ => ?_
    cases hv
    exact ⟨he, hf⟩
  · cases h
end
end Go.Eng

/-
  THE ENGINE, 50: what is said ahead of functions, for whichever arguments.
-/
namespace Go.Eng
open Go

section
variable {P : Program} {E : Env}

/-- What comes out, if nothing is left open. -/
noncomputable def val? (r : Option (AV × Hp × List LF)) : Option AV :=
  match r with
  | some (v, _, []) => some v
  | _ => none

/-- The same, with a function said ahead. -/
noncomputable def Env.say (E : Env) (S : Nat → List AV → Option AV) : Env := { E with ext := fun f args => match S f args with
  | some v => some v
  | none => E.ext f args }

theorem EnvOK.say (h : EnvOK P E) (S : Nat → List AV → Option AV) : EnvOK P (E.say S) := by
  refine ⟨fun t k ht => ?_, h.zero, h.fn, h.eqok, h.meth⟩
  obtain ⟨h1, h2⟩ := h.ty t k ht
  refine ⟨h1, ?_⟩
  cases k <;> exact h2
theorem NameOK.say (h : NameOK E) (S : Nat → List AV → Option AV) : NameOK (E.say S) := h

theorem ExtOK.say (hE : EnvOK P E) (hX : ExtOK P E) (hN : NameOK E) (hmix : P.follows .mixedOrders = true) {S : Nat → List AV → Option AV}
    (hS : ∀ f args v, S f args = some v → (∃ n, val? (callN E n f args .empty [] []) = some v) ∧ args.all (closedA 9) = true ∧ plainA 9 v = true) : ExtOK P (E.say S) := by
  intro f args v h V A W ha hK hg
  have hc := engine_ok hE hX hN hmix
  simp only [Env.say] at h
  split at h
  · rename_i w hw
    simp only [Option.some.injEq] at h; subst h
    obtain ⟨⟨n, hn⟩, hp, hq⟩ := hS f args _ hw
    unfold val? at hn
    split at hn
    · rename_i u σ hcall
      simp only [Option.some.injEq] at hn; subst hn
      obtain ⟨V', R, W', hv, _, hf, hgo⟩ := closed_call hc hcall ha hp hK hg
      exact ⟨R, W', V, .refl _ _ _, plainA_spec 9 _ hq hv, hf, hgo⟩
    · cases hn
  · exact hX f args v h V A W ha hK hg

/-- Each entry comes out so. -/
def AllE (E : Env) (L : Ents) : Prop := ∀ e ∈ L, ∃ n, comes E n e.1 e.2.1 e.2.2 = true
theorem AllE.nil : AllE E [] := fun e he => by cases he
theorem AllE.cons {n f : Nat} {args : List AV} {v : AV} {L : Ents} (h : comes E n f args v = true) (k : AllE E L) : AllE E ((f, args, v) :: L) := fun e he => by
  rcases List.mem_cons.1 he with rfl | he
  · exact ⟨n, h⟩
  · exact k e he

/-- Two pairs of integers. -/
noncomputable def two2 (g : Int → Int → Int → Int → AV) (args : List AV) : Option AV :=
  match args with
  | [.agg [.int .i64 a, .int .i64 b], .agg [.int .i64 c, .int .i64 d]] => some (g a b c d)
  | _ => none
noncomputable def one2 (g : Int → Int → AV) (args : List AV) : Option AV :=
  match args with
  | [.agg [.int .i64 a, .int .i64 b]] => some (g a b)
  | _ => none
theorem two2_inv {g : Int → Int → Int → Int → AV} {args : List AV} {v : AV} (h : two2 g args = some v) : ∃ a b c d, args = [.agg [.int .i64 a, .int .i64 b], .agg [.int .i64 c, .int .i64 d]] ∧ v = g a b c d := by
  unfold two2 at h
  split at h
  · simp only [Option.some.injEq] at h; exact ⟨_, _, _, _, rfl, h.symm⟩
  · cases h
theorem one2_inv {g : Int → Int → AV} {args : List AV} {v : AV} (h : one2 g args = some v) : ∃ a b, args = [.agg [.int .i64 a, .int .i64 b]] ∧ v = g a b := by
  unfold one2 at h
  split at h
  · simp only [Option.some.injEq] at h; exact ⟨_, _, rfl, h.symm⟩
  · cases h
end
end Go.Eng

/-
  THE ENGINE, 53: the same, made for the kernel: small bodies, no state within states.
-/
namespace Go.Eng
open Go

/-! ### Operations -/

noncomputable def litF (v : Value) : Option AV :=
  match v with
  | .int k i => some (.int k i)
  | .bool b => some (.bool b)
  | v => lit 3 v
noncomputable def evF (τ : Tmps) (x : Operand) : Option AV :=
  Operand.rec (motive := fun _ => Option AV) (fun t => τ.get t) (fun v => litF v) (fun g => some (.gp g 0)) (fun f => some (.fn f [] [])) x
theorem evF_eq (τ : Tmps) (x : Operand) : evF τ x = ev τ x := by
  cases x with
  | const v => cases v <;> rfl
  | _ => rfl

noncomputable def p_move (τ : Tmps) (σ : Hp) (x : Operand) : Option Res :=
  (evF τ x).map (.val · σ)
noncomputable def p_pick (τ : Tmps) (σ : Hp) (c : Operand) (a : Operand) (b : Operand) : Option Res :=
  match evF τ c with
    | some (.bool true) => (evF τ a).map (.val · σ)
    | some (.bool false) => (evF τ b).map (.val · σ)
    | _ => none
noncomputable def p_alloc (E : Env) (σ : Hp) (t : TypeId) : Option Res :=
  match E.zero t with
    | some z => some (.val (.ptr σ.n 0) (σ.push (.cells false z.cells)))
    | none => none
noncomputable def p_box (τ : Tmps) (σ : Hp) (x : Operand) : Option Res :=
  match evF τ x with
    | some z => some (.val (.ptr σ.n 0) (σ.push (.cells false z.cells)))
    | none => none
noncomputable def p_build (E : Env) (τ : Tmps) (σ : Hp) (t : TypeId) (ps : Array (Nat × Operand)) : Option Res :=
  match E.zero t, evParts τ ps.toList with
    | some z, some parts => match E.ty t with
      | some (.struct fs) => (fill (fieldPlace E fs) z.cells parts).map fun cs => .val (.agg cs) σ
      | some (.arr _ e) => (fill (fun i => some (i * E.size e, E.size e)) z.cells parts).map fun cs => .val (.agg cs) σ
      | _ => none
    | _, _ => none
noncomputable def p_buildSlice (E : Env) (τ : Tmps) (σ : Hp) (t : TypeId) (len : Nat) (ps : Array (Nat × Operand)) : Option Res :=
  match E.ty t, evParts τ ps.toList with
    | some (.slice e), some parts => match E.zero e, Nat.ble (len * E.size e) 65536 with
      | some z, true => (fill (fun i => some (i * E.size e, E.size e)) (repl len z.cells) parts).map fun cs => .val (.sl σ.n 0 len len (E.size e)) (σ.push (.cells false cs))
      | _, _ => none
    | _, _ => none
noncomputable def p_load (E : Env) (τ : Tmps) (σ : Hp) (t : TypeId) (a : Operand) : Option Res :=
  match evF τ a with
    | some a => (loadV E σ t a).map (.val · σ)
    | none => none
noncomputable def p_store (E : Env) (τ : Tmps) (σ : Hp) (t : TypeId) (a : Operand) (x : Operand) : Option Res :=
  match evF τ a, evF τ x with
    | some a, some x => (storeV E σ t a x).map .skip
    | _, _ => none
noncomputable def p_nilCheck (E : Env) (τ : Tmps) (σ : Hp) (x : Operand) : Option Res :=
  match evF τ x with
    | some (.ptr id off) => some (.val (.ptr id off) σ)
    | some (.gp g off) => some (.val (.gp g off) σ)
    | some (.cp l off) => some (.val (.cp l off) σ)
    | some (.fn f a b) => some (.val (.fn f a b) σ)
    | some (.ifc t v) => some (.val (.ifc t v) σ)
    | some (.mv t v n) => match E.meth t n with
      | some _ => some (.val (.mv t v n) σ)
      | none => none
    | _ => none
noncomputable def p_binOp (E : Env) (τ : Tmps) (σ : Hp) (b : BinOp) (t : TypeId) (x : Operand) (y : Operand) : Option Res :=
  match evF τ x, evF τ y with
    | some v, some w => (binop E b t v w (isConst x || isConst y)).map (.val · σ)
    | _, _ => none
noncomputable def p_unOp (τ : Tmps) (σ : Hp) (u : UnOp) (x : Operand) : Option Res :=
  match evF τ x with
    | some x => (unop u x).map (.val · σ)
    | none => none
noncomputable def p_convert (E : Env) (τ : Tmps) (σ : Hp) (s : TypeId) (d : TypeId) (x : Operand) : Option Res :=
  match evF τ x with
    | some x => (convV E σ s d x).map fun r => .val r.1 r.2
    | none => none
noncomputable def p_makeInterface (E : Env) (τ : Tmps) (σ : Hp) (t : TypeId) (x : Operand) : Option Res :=
  match E.ty t, evF τ x with
    | some (.ifc _), _ => none
    | some _, some x => some (.val (.ifc t x) σ)
    | _, _ => none
noncomputable def p_makeFunc (τ : Tmps) (σ : Hp) (fn : Fn) (first captured : Array Operand) : Option Res :=
  match fn with
  | .func f => match evs τ first.toList, evs τ captured.toList with
    | some a, some b => some (.val (.fn f a b) σ)
    | _, _ => none
  | .method n => match evs τ first.toList, evs τ captured.toList with
    | some [.ifc t v], some [] => some (.val (.mv t v n) σ)
    | _, _ => none
  | _ => none
noncomputable def p_makeMap (E : Env) (σ : Hp) (t : TypeId) (r : Option Operand) : Option Res :=
  match r with
  | none => match E.ty t with
    | some (.map _ _) => some (.val (.mp σ.n) (σ.push (match E.cm with | true => .cmap [] [] 0 | false => .map [])))
    | _ => none
  | _ => none
noncomputable def p_makeSlice (E : Env) (τ : Tmps) (σ : Hp) (t : TypeId) (l : Operand) (c : Operand) : Option Res :=
  match E.ty t, evF τ l, evF τ c with
    | some (.slice e), some (.int .i64 (.ofNat n)), some (.int .i64 (.ofNat m)) => match Nat.ble n m, Nat.ble m 65536 && Nat.ble (E.bytes e) 65536, E.zero e with
      | true, true, some z => some (.val (.sl σ.n 0 n m (E.size e)) (σ.push (.cells false (repl n z.cells))))
      | _, _, _ => none
    | _, _, _ => none
noncomputable def p_slice (E : Env) (τ : Tmps) (σ : Hp) (t : TypeId) (x : Operand) (lo hi mx : Option Operand) : Option Res :=
  match mx with
  | none => match ev τ x, optA τ lo, optA τ hi with
    | some x, some lo, some hi => (sliceV E σ t x lo hi).map (.val · σ)
    | _, _, _ => none
  | some mx => match hi with
    | none => none
    | some hi => match ev τ x, optA τ lo, ev τ hi, ev τ mx with
      | some x, some lo, some hi, some mx => (slice3V E t x lo (some hi) (some mx)).map (.val · σ)
      | _, _, _, _ => none
noncomputable def p_fieldAddr (E : Env) (τ : Tmps) (σ : Hp) (t : TypeId) (x : Operand) (i : Nat) : Option Res :=
  match E.ty t with
    | some (.struct fs) => match fs[i]?, evF τ x with
      | some f, some x => match Nat.beq (E.size f.type) 0, x with
        | false, .ptr id off => some (.val (.ptr id (off + f.off)) σ)
        | false, .gp g off => some (.val (.gp g (off + f.off)) σ)
        | false, .cp l off => some (.val (.cp l (off + f.off)) σ)
        | _, _ => none
      | _, _ => none
    | _ => none
noncomputable def p_field (E : Env) (τ : Tmps) (σ : Hp) (t : TypeId) (x : Operand) (i : Nat) : Option Res :=
  match E.ty t, evF τ x with
    | some (.struct fs), some (.agg cs) => match fs[i]? with
      | some f => (part E f.type cs f.off).map (.val · σ)
      | none => none
    | _, _ => none
noncomputable def p_indexAddr (E : Env) (τ : Tmps) (σ : Hp) (t : TypeId) (x : Operand) (i : Operand) : Option Res :=
  match E.ty t, evF τ x, evF τ i with
    | some (.slice e), some (.sl id off len _ _), some (.int _ j) => (idx j len).map fun j => .val (.ptr id (off + j * E.size e)) σ
    | some (.slice e), some (.csl cells len), some (.int _ j) => (idx j len).map fun j => .val (.cp cells (j * E.size e)) σ
    | some (.slice e), some (.vs t _ l), some (.int _ j) => match inB j l.length, Nat.beq t.size (E.size e) with
      | true, true => some (.val (.cp (t.cells (l.getD j.toNat t.dflt)) 0) σ)
      | _, _ => none
    | some (.arr len e), some (.ptr id off), some (.int _ j) => (idx j len).map fun j => .val (.ptr id (off + j * E.size e)) σ
    | some (.arr len e), some (.gp g off), some (.int _ j) => (idx j len).map fun j => .val (.gp g (off + j * E.size e)) σ
    | _, _, _ => none
noncomputable def p_index (E : Env) (τ : Tmps) (σ : Hp) (t : TypeId) (x : Operand) (i : Operand) : Option Res :=
  match E.ty t, evF τ x, evF τ i with
    | some (.arr len e), some (.agg cs), some (.int _ j) => match idx j len with
      | some j => (part E e cs (j * E.size e)).map (.val · σ)
      | none => none
    | some .str, some (.str s), some (.int _ (.ofNat j)) => (s[j]?).map fun b => .val (.int .u8 (Int.ofNat b)) σ
    | _, _, _ => none
noncomputable def p_lookup (E : Env) (τ : Tmps) (σ : Hp) (t : TypeId) (x : Operand) (k : Operand) (ok : Bool) : Option Res :=
  match E.ty t, evF τ x, evF τ k, keyT E t with
    | some (.map _ e), some m, some k, some kt =>
      match (match m with | .nilm => some [] | .mp id => mapES (σ.get id) | _ => none), E.zero e with
      | some es, some z => match findK E kt k es with
        | some (some (_, y)) => some (.val (match ok with | true => .tup [y, .bool true] | false => y) σ)
        | some none => some (.val (match ok with | true => .tup [z, .bool false] | false => z) σ)
        | none => none
      | _, _ => none
    | _, _, _, _ => none
noncomputable def p_upd (E : Env) (τ : Tmps) (σ : Hp) (t : TypeId) (m : Operand) (k : Operand) (x : Operand) : Option Res :=
  match evF τ m, evF τ k, evF τ x, keyT E t with
    | some (.mp id), some k, some x, some kt => match σ.get id with
      | some (.map es) => (mapSet E kt es k x).map fun es => .skip (σ.set id (.map es))
      | some (.cmap es bs ck) => (mapSetC E kt es bs ck k x).map fun o => .skip (σ.set id o)
      | _ => none
    | _, _, _, _ => none
noncomputable def p_range (E : Env) (τ : Tmps) (σ : Hp) (t : TypeId) (x : Operand) : Option Res :=
  match E.ty t, evF τ x with
    | some .str, some (.str s) => some (.val (.iter σ.n) (σ.push (.siter s 0)))
    | some (.map _ _), some (.mp id) => match σ.get id with
      | some (.cmap _ _ ck) => some (.val (.iter σ.n) (σ.push (.miter id ck [] ck)))
      | _ => none
    | _, _ => none
noncomputable def p_next (τ : Tmps) (σ : Hp) (x : Operand) (s : Bool) : Option Res :=
  match s with
  | true => match ev τ x with
    | some (.iter id) => match σ.get id with
      | some (.siter s pos) => match s[pos]? with
        | some b => match Nat.ble b 127 with
          | true => some (.val (.tup [.bool true, .int .i64 pos, .int .i32 (Int.ofNat b)]) (σ.set id (.siter s (pos + 1))))
          | false => some (.val (.tup [.bool true, .int .i64 pos, .int .i32 (Int.ofNat (decN s pos).1)]) (σ.set id (.siter s (pos + (decN s pos).2))))
        | none => some (.val (.tup [.bool false]) σ)
      | _ => none
    | _ => none
  | false => match ev τ x with
    | some (.iter id) => match σ.get id with
      | some (.miter m since seen last) => match σ.get m with
        | some (.cmap es bs ck) => nextM σ id m since seen last es bs ck
        | _ => none
      | _ => none
    | _ => none
noncomputable def p_entry (τ : Tmps) (σ : Hp) (x : Operand) : Option Res :=
  match evF τ x with
    | some (.iter id) => match σ.get id with
      | some (.miter m _ seen last) => match σ.get m, lastN seen with
        | some (.cmap es bs ck), some st => match Nat.beq ck last with
          | true => match findB st es bs with
            | some e => some (.val (.tup [e.1, e.2]) σ)
            | none => none
          | false => none
        | _, _ => none
      | _ => none
    | _ => none
noncomputable def p_typeAssert (E : Env) (τ : Tmps) (σ : Hp) (x : Operand) (a : TypeId) (ok : Bool) : Option Res :=
  match E.ty a, evF τ x with
    | some (.ifc _), _ => none
    | some _, some .nili => match ok, E.zero a with
      | true, some z => some (.val (.tup [z, .bool false]) σ)
      | _, _ => none
    | some _, some (.ifc t y) => match Nat.beq t a with
      | true => some (.val (match ok with | true => .tup [y, .bool true] | false => y) σ)
      | false => match ok, E.zero a with
        | true, some z => some (.val (.tup [z, .bool false]) σ)
        | _, _ => none
    | _, _ => none
noncomputable def p_extract (τ : Tmps) (σ : Hp) (x : Operand) (i : Nat) : Option Res :=
  match evF τ x with
    | some (.tup l) => (l[i]?).map (.val · σ)
    | _ => none
noncomputable def p_defer (E : Env) (τ : Tmps) (σ : Hp) (c : Call) : Option Res :=
  match isInv c, callV E τ σ c with
    | false, some (.call f args) => some (.dfr f args)
    | _, _ => none
noncomputable def opF (E : Env) (τ : Tmps) (σ : Hp) (o : Op) : Option Res :=
  Op.rec (motive := fun _ => Option Res) (fun x => p_move τ σ x) (fun x => p_move τ σ x) (fun c a b => p_pick τ σ c a b) (fun t => p_alloc E σ t) (fun _ x => p_box τ σ x) (fun t ps => p_build E τ σ t ps) (fun t len ps => p_buildSlice E τ σ t len ps) (fun t m k x => p_upd E τ σ t m k x) (fun t a => p_load E τ σ t a) (fun t a x => p_store E τ σ t a x) (fun _ => none) (fun _ => none) (fun x => p_nilCheck E τ σ x) (fun b t x y _ => p_binOp E τ σ b t x y) (fun u _ x => p_unOp τ σ u x) (fun s d x => p_convert E τ σ s d x) (fun _ _ => none) (fun t x => p_makeInterface E τ σ t x) (fun f a b => p_makeFunc τ σ f a b) (fun t r => p_makeMap E σ t r) (fun _ _ => none) (fun t l c => p_makeSlice E τ σ t l c) (fun t x a b c => p_slice E τ σ t x a b c) (fun t x i => p_fieldAddr E τ σ t x i) (fun t x i => p_field E τ σ t x i) (fun t x i => p_indexAddr E τ σ t x i) (fun t x i => p_index E τ σ t x i) (fun t x k ok => p_lookup E τ σ t x k ok) (fun t m k x => p_upd E τ σ t m k x) (fun _ _ _ => none) (fun _ _ _ _ => none) (fun t x => p_range E τ σ t x) (fun x s => p_next τ σ x s) (fun x => p_entry τ σ x) (fun x _ a ok => p_typeAssert E τ σ x a ok) (fun x i => p_extract τ σ x i) (fun c => callV E τ σ c) (fun _ => none) (fun c => p_defer E τ σ c) (fun _ => none) (fun _ _ => none) (fun _ _ _ => none) (fun _ _ => none) o

theorem opF_eq (E : Env) (τ : Tmps) (σ : Hp) (o : Op) : opF E τ σ o = op E τ σ o := by
  cases o with
  | makeFunc f a b => cases f <;> rfl
  | makeMap t r => cases r <;> rfl
  | slice t x a b c => cases c with
    | none => rfl
    | some y => cases b <;> rfl
  | next x s => cases s <;> simp only [opF, p_next, op, evF_eq] <;> rfl
  | extract x i => simp only [opF, p_extract, op, evF_eq] <;> rfl
  | entry x => simp only [opF, p_entry, op, evF_eq] <;> rfl
  | typeAssert x u a ok => simp only [opF, p_typeAssert, op, evF_eq] <;> rfl
  | range t x => simp only [opF, p_range, op, evF_eq] <;> rfl
  | mapUpdate t m k x => simp only [opF, p_upd, op, evF_eq] <;> rfl
  | insert t m k x => simp only [opF, p_upd, op, evF_eq] <;> rfl
  | lookup t x k ok => simp only [opF, p_lookup, op, evF_eq] <;> rfl
  | index t x i => simp only [opF, p_index, op, evF_eq] <;> rfl
  | indexAddr t x i => simp only [opF, p_indexAddr, op, evF_eq] <;> rfl
  | field t x i => simp only [opF, p_field, op, evF_eq] <;> rfl
  | fieldAddr t x i => simp only [opF, p_fieldAddr, op, evF_eq] <;> rfl
  | makeSlice t l c => simp only [opF, p_makeSlice, op, evF_eq] <;> rfl
  | makeInterface t x => simp only [opF, p_makeInterface, op, evF_eq] <;> rfl
  | convert s d x => simp only [opF, p_convert, op, evF_eq] <;> rfl
  | unOp u t x => simp only [opF, p_unOp, op, evF_eq] <;> rfl
  | binOp b t x y u => simp only [opF, p_binOp, op, evF_eq] <;> rfl
  | nilCheck x => simp only [opF, p_nilCheck, op, evF_eq] <;> rfl
  | store t a x => simp only [opF, p_store, op, evF_eq] <;> rfl
  | load t a => simp only [opF, p_load, op, evF_eq] <;> rfl
  | box t x => simp only [opF, p_box, op, evF_eq] <;> rfl
  | pick c a b => simp only [opF, p_pick, op, evF_eq] <;> rfl
  | move x => simp only [opF, p_move, op, evF_eq] <;> rfl
  | assign x => simp only [opF, p_move, op, evF_eq] <;> rfl
  | _ => rfl

/-! ### Calls -/

/-- Without slices to be frozen. -/
noncomputable def flatL (g : AV → Bool) (l : List AV) : Bool := List.rec true (fun v _ r => Bool.rec false r (g v)) l
noncomputable def flatV (n : Nat) : AV → Bool := Nat.rec (fun _ => false) (fun _ ih v => match v with
  | .sl _ _ _ _ _ => false
  | .agg l => flatL ih l
  | _ => true) n

theorem flatL_cons {g : AV → Bool} {v : AV} {l : List AV} : flatL g (v :: l) = true ↔ g v = true ∧ flatL g l = true := by
  show Bool.rec false (flatL g l) (g v) = true ↔ _
  cases g v <;> simp

theorem flat_both : ∀ n, (∀ v, flatV n v = true → ∀ σ, frzArg v σ = (v, σ)) ∧ (∀ l, flatL (flatV n) l = true → ∀ σ, frzArgs l σ = (l, σ)) := by
  intro n
  induction n with
  | zero =>
    refine ⟨fun v h => absurd h (by intro h; cases h), fun l h => ?_⟩
    cases l with
    | nil => exact fun _ => by simp only [frzArgs]
    | cons v l => have := (flatL_cons.1 h).1; cases this
  | succ n ih =>
    have hv : ∀ v, flatV (n + 1) v = true → ∀ σ, frzArg v σ = (v, σ) := by
      intro v h σ
      cases v with
      | agg l => simp only [frzArg, ih.2 l h]
      | sl => cases h
      | _ => simp only [frzArg]
    refine ⟨hv, fun l => ?_⟩
    induction l with
    | nil => exact fun _ _ => by simp only [frzArgs]
    | cons v l ihl =>
      intro h σ
      obtain ⟨a, b⟩ := flatL_cons.1 h
      simp only [frzArgs, hv v a, ihl b]

noncomputable def doCallF (E : Env) (call : CallF) (hs : Hnds) (f : Nat) (args : List AV) (σ : Hp) (Λ : List LF) : Option (AV × Hp × List LF) :=
  Bool.rec (doCall E call hs f args σ Λ) (call f args σ hs Λ) (flatL (flatV 3) args)

theorem doCallF_eq (E : Env) (call : CallF) (hs : Hnds) (f : Nat) (args : List AV) (σ : Hp) (Λ : List LF) : doCallF E call hs f args σ Λ = doCall E call hs f args σ Λ := by
  unfold doCallF
  cases h : flatL (flatV 3) args with
  | false => rfl
  | true =>
    have h1 := (flat_both 3).2 args h σ
    unfold doCall
    cases E.frz f with
    | true => simp only [h1]
    | false => rfl

/-! ### Regions -/

structure S4 where
  τ : Tmps
  σ : Hp
  ds : List (Nat × List AV)
  Λ : List LF
abbrev K4 (α : Type) := Tmps → Hp → List (Nat × List AV) → List LF → Option α

noncomputable def putF {α : Type} (k : K4 α) (nt : Nat) (τ : Tmps) (σ : Hp) (ds : List (Nat × List AV)) (Λ : List LF) (d : Option Nat) (v : AV) : Option α :=
  Option.rec (motive := fun _ => Option α) (k τ σ ds Λ) (fun t => Bool.rec (motive := fun _ => Option α) none (k (τ.set t v) σ ds Λ) (Nat.ble (Nat.succ t) nt)) d

noncomputable def callR {α : Type} (k : K4 α) (nt : Nat) (τ : Tmps) (ds : List (Nat × List AV)) (d : Option Nat) (r : Option (AV × Hp × List LF)) : Option α :=
  Option.rec (motive := fun _ => Option α) none (fun r => putF k nt τ r.2.1 ds r.2.2 d r.1) r

noncomputable def resF {α : Type} (E : Env) (call : CallF) (hs : Hnds) (nt : Nat) (rnd : Bool) (k : K4 α) (d : Option Nat) (τ : Tmps) (σ : Hp) (ds : List (Nat × List AV)) (Λ : List LF) (r : Option Res) : Option α :=
  Option.rec (motive := fun _ => Option α) none (fun r => Res.rec (motive := fun _ => Option α) (fun v σ' => putF k nt τ σ' ds Λ d v) (fun σ' => putF k nt τ σ' ds Λ d undefA)
    (fun f args => callR k nt τ ds d (doCallF E call hs f args σ Λ)) (fun l args => callR k nt τ ds d (doYield hs l args σ Λ))
    (fun f args => Bool.rec (motive := fun _ => Option α) (putF k nt τ σ ((f, args) :: ds) Λ d undefA) none rnd) (Bool.rec (motive := fun _ => Option α) (putF k nt τ σ ds Λ d .nili) none rnd) r) r

noncomputable def oneF {α : Type} (E : Env) (call : CallF) (hs : Hnds) (ops : Array Oper) (nt : Nat) (rnd : Bool) (o : Oper) (k : K4 α) (τ : Tmps) (σ : Hp) (ds : List (Nat × List AV)) (Λ : List LF) : Option α :=
  Option.rec (motive := fun _ => Option α) (resF E call hs nt rnd k o.dst τ σ ds Λ (opF E τ σ o.op))
    (fun _ => match wantedA ops τ o with
      | none => none
      | some false => putF k nt τ σ ds Λ o.dst undefA
      | some true => resF E call hs nt rnd k o.dst τ σ ds Λ (opF E τ σ o.op)) o.guard

/-- What comes behind an operation. -/
def thenK {α : Type} (k : K4 α) : Option St → Option α
  | none => none
  | some st => k st.τ st.σ st.ds st.Λ

theorem putF_eq {α : Type} (k : K4 α) (st : St) (d : Option Nat) (v : AV) : putF k st.nt st.τ st.σ st.ds st.Λ d v = thenK k (putS st d v) := by
  unfold putS putT
  cases d with
  | none => rfl
  | some t =>
    simp only [putF]
    rw [show Nat.ble (Nat.succ t) st.nt = Nat.ble (t + 1) st.nt from rfl]
    cases Nat.ble (t + 1) st.nt <;> rfl

theorem putS_nt {st st' : St} {d : Option Nat} {v : AV} (h : putS st d v = some st') : st'.nt = st.nt ∧ st'.rnd = st.rnd := by
  unfold putS at h
  split at h
  · simp only [Option.some.injEq] at h; subst h; exact ⟨rfl, rfl⟩
  · cases h

theorem resF_eq {α : Type} (E : Env) (call : CallF) (hs : Hnds) (nt : Nat) (rnd : Bool) (k : K4 α) (d : Option Nat) (τ : Tmps) (σ : Hp) (ds : List (Nat × List AV)) (Λ : List LF) (r : Option Res) :
    resF E call hs nt rnd k d τ σ ds Λ r = thenK k (match r with
    | none => none
    | some (.val v σ') => putS ⟨τ, σ', ds, Λ, nt, rnd⟩ d v
    | some (.skip σ') => putS ⟨τ, σ', ds, Λ, nt, rnd⟩ d undefA
    | some (.call f args) => match doCall E call hs f args σ Λ with
      | some (v, σ, Λ) => putS ⟨τ, σ, ds, Λ, nt, rnd⟩ d v
      | none => none
    | some (.yld l args) => match doYield hs l args σ Λ with
      | some (v, σ, Λ) => putS ⟨τ, σ, ds, Λ, nt, rnd⟩ d v
      | none => none
    | some (.dfr f args) => match rnd with
      | true => none
      | false => putS ⟨τ, σ, (f, args) :: ds, Λ, nt, rnd⟩ d undefA
    | some .recov => match rnd with
      | true => none
      | false => putS ⟨τ, σ, ds, Λ, nt, rnd⟩ d .nili) := by
  cases r with
  | none => rfl
  | some r =>
    cases r with
    | val v σ' => exact putF_eq k ⟨τ, σ', ds, Λ, nt, rnd⟩ d v
    | skip σ' => exact putF_eq k ⟨τ, σ', ds, Λ, nt, rnd⟩ d undefA
    | call f args =>
      simp only [resF, doCallF_eq]
      cases doCall E call hs f args σ Λ with
      | none => rfl
      | some r => obtain ⟨v, σ', Λ'⟩ := r; exact putF_eq k ⟨τ, σ', ds, Λ', nt, rnd⟩ d v
    | yld l args =>
      simp only [resF]
      cases doYield hs l args σ Λ with
      | none => rfl
      | some r => obtain ⟨v, σ', Λ'⟩ := r; exact putF_eq k ⟨τ, σ', ds, Λ', nt, rnd⟩ d v
    | dfr f args =>
      cases rnd with
      | true => rfl
      | false => exact putF_eq k ⟨τ, σ, (f, args) :: ds, Λ, nt, false⟩ d undefA
    | recov =>
      cases rnd with
      | true => rfl
      | false => exact putF_eq k ⟨τ, σ, ds, Λ, nt, false⟩ d .nili

theorem oneF_eq {α : Type} (E : Env) (call : CallF) (hs : Hnds) (ops : Array Oper) (o : Oper) (k : K4 α) (st : St) :
    oneF E call hs ops st.nt st.rnd o k st.τ st.σ st.ds st.Λ = thenK k (oneOp E call hs ops o st) := by
  obtain ⟨τ, σ, ds, Λ, nt, rnd⟩ := st
  have hr : ∀ r, resF E call hs nt rnd k o.dst τ σ ds Λ (opF E τ σ o.op) = thenK k r → oneF E call hs ops nt rnd o k τ σ ds Λ = thenK k (match wantedA ops τ o with
      | none => none
      | some false => putS ⟨τ, σ, ds, Λ, nt, rnd⟩ o.dst undefA
      | some true => r) := by
    intro r h
    unfold oneF
    cases hg : o.guard with
    | none =>
      have : wantedA ops τ o = some true := by unfold wantedA; rw [hg]
      rw [this]; exact h
    | some g =>
      simp only
      cases wantedA ops τ o with
      | none => rfl
      | some b =>
        cases b with
        | true => exact h
        | false => exact putF_eq k ⟨τ, σ, ds, Λ, nt, rnd⟩ o.dst undefA
  rw [hr _ (resF_eq E call hs nt rnd k o.dst τ σ ds Λ (opF E τ σ o.op)), opF_eq]
  unfold oneOp
  rfl

theorem oneOp_nt {E : Env} {call : CallF} {hs : Hnds} {ops : Array Oper} {o : Oper} {st st' : St} (h : oneOp E call hs ops o st = some st') : st'.nt = st.nt ∧ st'.rnd = st.rnd := by
  have key : ∀ {s : St} {d : Option Nat} {v : AV}, putS s d v = some st' → s.nt = st.nt → s.rnd = st.rnd → st'.nt = st.nt ∧ st'.rnd = st.rnd := fun h h1 h2 => by
    obtain ⟨a, b⟩ := putS_nt h
    exact ⟨a.trans h1, b.trans h2⟩
  unfold oneOp at h
  split at h
  · cases h
  · exact key h rfl rfl
  · split at h
    · cases h
    · exact key h rfl rfl
    · exact key h rfl rfl
    · split at h
      · exact key h rfl rfl
      · cases h
    · split at h
      · exact key h rfl rfl
      · cases h
    · split at h
      · cases h
      · exact key h rfl rfl
    · split at h
      · cases h
      · exact key h rfl rfl

noncomputable def runF (E : Env) (call : CallF) (hs : Hnds) (ops : Array Oper) (nt : Nat) (rnd : Bool) (l : List Oper) : K4 S4 :=
  List.rec (motive := fun _ => K4 S4) (fun τ σ ds Λ => some ⟨τ, σ, ds, Λ⟩) (fun o _ ih => oneF E call hs ops nt rnd o ih) l

def s4 (st : St) : S4 := ⟨st.τ, st.σ, st.ds, st.Λ⟩

theorem runF_eq (E : Env) (call : CallF) (hs : Hnds) (ops : Array Oper) : ∀ (l : List Oper) (st : St), runF E call hs ops st.nt st.rnd l st.τ st.σ st.ds st.Λ = (runOps E call hs ops l st).map s4
  | [], st => rfl
  | o :: l, st => by
    show oneF E call hs ops st.nt st.rnd o (runF E call hs ops st.nt st.rnd l) st.τ st.σ st.ds st.Λ = _
    rw [oneF_eq, runOps]
    cases h : oneOp E call hs ops o st with
    | none => rfl
    | some st1 =>
      obtain ⟨h1, h2⟩ := oneOp_nt h
      show runF E call hs ops st.nt st.rnd l st1.τ st1.σ st1.ds st1.Λ = _
      rw [← h1, ← h2, runF_eq E call hs ops l st1]

theorem runOps_nt {E : Env} {call : CallF} {hs : Hnds} {ops : Array Oper} : ∀ {l : List Oper} {st st' : St}, runOps E call hs ops l st = some st' → st'.nt = st.nt ∧ st'.rnd = st.rnd
  | [], st, st', h => by simp only [runOps, Option.some.injEq] at h; subst h; exact ⟨rfl, rfl⟩
  | o :: l, st, st', h => by
    rw [runOps] at h
    split at h
    · rename_i st1 h1
      obtain ⟨a, b⟩ := oneOp_nt h1
      obtain ⟨c, d⟩ := runOps_nt h
      exact ⟨c.trans a, d.trans b⟩
    · cases h

end Go.Eng

/-
  THE ENGINE, 54: regions whose order is drawn, codes and calls, made for the kernel.
-/
namespace Go.Eng
open Go

attribute [local irreducible] upTo

section
variable {E : Env} {call : CallF} {hs : Hnds} {ops : Array Oper}

/-! ### Regions whose order is drawn -/

noncomputable def lookSameF (E : Env) (o : Oper) (τ τ' : Tmps) (σ : Hp) : Bool :=
  match cstL τ o.op with
  | true => true
  | false => match opF E τ σ o.op with
    | some (.val v _) => match o.dst with
      | none => true
      | some d => match τ'.get d with
        | some w => avbeq w v
        | none => true
    | _ => false
theorem lookSameF_eq (E : Env) (o : Oper) (τ τ' : Tmps) (σ : Hp) : lookSameF E o τ τ' σ = lookSame E o τ τ' σ := by
  unfold lookSameF lookSame
  rw [opF_eq]
  rfl
noncomputable def lookOKF (E : Env) (o : Oper) (i a : Nat) (τ τ' : Tmps) : Option Nat → Phs → Bool
  | _, [] => true
  | nx, (σ, am, h) :: ph => match (match nx with | some x => msHas a x | none => false), msHas am i with
    | false, false => match lookSameF E o τ τ' σ with
      | true => lookOKF E o i a τ τ' h ph
      | false => false
    | _, _ => lookOKF E o i a τ τ' h ph
theorem lookOKF_eq (E : Env) (o : Oper) (i a : Nat) (τ τ' : Tmps) : ∀ (ph : Phs) (nx : Option Nat), lookOKF E o i a τ τ' nx ph = lookOK E o i a τ τ' nx ph
  | [], _ => rfl
  | (σ, am, h) :: ph, nx => by
    simp only [lookOKF, lookOK, lookSameF_eq, lookOKF_eq E o i a τ τ' ph]
    rfl
noncomputable def looksOKF (E : Env) (ops : Array Oper) (ph : Phs) : Lks → Bool
  | [] => true
  | (o, i, a, τ, τ') :: lk => match wantedA ops τ o with
    | some false => looksOKF E ops ph lk
    | _ => match lookOKF E o i a τ τ' none ph with
      | true => looksOKF E ops ph lk
      | false => false
theorem looksOKF_eq (E : Env) (ops : Array Oper) (ph : Phs) : ∀ lk : Lks, looksOKF E ops ph lk = looksOK E ops ph lk
  | [] => rfl
  | (o, i, a, τ, τ') :: lk => by
    simp only [looksOKF, looksOK, lookOKF_eq, looksOKF_eq E ops ph lk]
    rfl

abbrev D4 := List Inf → Nat → Phs → Lks → K4 (S4 × Phs × Lks)
noncomputable def behindD (o : Oper) (f : Inf) (fs : List Inf) (i : Nat) (ph : Phs) (lk : Lks) (ih : D4) (τ0 : Tmps) : K4 (S4 × Phs × Lks) := fun τ σ ds Λ =>
  Bool.rec (motive := fun _ => Option (S4 × Phs × Lks)) (Bool.rec (motive := fun _ => Option (S4 × Phs × Lks)) (ih fs (i + 1) ph lk τ σ ds Λ) (ih fs (i + 1) ph ((o, i, f.a, τ0, τ) :: lk) τ σ ds Λ) (Nat.beq f.c 1)) (ih fs (i + 1) ((σ, f.a, some i) :: ph) lk τ σ ds Λ) (Nat.beq f.c 0)
noncomputable def stepD (E : Env) (call : CallF) (hs : Hnds) (ops : Array Oper) (nt : Nat) (rnd : Bool) (n0 : Nat) (o : Oper) (f : Inf) (fs : List Inf) (i : Nat) (ph : Phs) (lk : Lks) (ih : D4) : K4 (S4 × Phs × Lks) := fun τ σ ds Λ =>
  Bool.rec (motive := fun _ => Option (S4 × Phs × Lks)) (oneF E call hs ops nt rnd o (behindD o f fs i ph lk ih τ) τ σ ds Λ) (thenK (behindD o f fs i ph lk ih τ) (oneD E call hs ops n0 f o ⟨τ, σ, ds, Λ, nt, rnd⟩)) (Nat.beq f.c 3)
noncomputable def runDF (E : Env) (call : CallF) (hs : Hnds) (ops : Array Oper) (nt : Nat) (rnd : Bool) (n0 : Nat) (l : List Oper) : D4 :=
  List.rec (motive := fun _ => D4) (fun _ _ ph lk τ σ ds Λ => some (⟨τ, σ, ds, Λ⟩, ph, lk))
    (fun o _ ih fs i ph lk => List.rec (motive := fun _ => K4 (S4 × Phs × Lks)) (fun τ σ ds Λ => some (⟨τ, σ, ds, Λ⟩, ph, lk)) (fun f fs' _ => stepD E call hs ops nt rnd n0 o f fs' i ph lk ih) fs) l

theorem oneD_nt {n0 : Nat} {f : Inf} {o : Oper} {st st' : St} (h : oneD E call hs ops n0 f o st = some st') : st'.nt = st.nt ∧ st'.rnd = st.rnd := by
  have key : ∀ {s : St} {d : Option Nat} {v : AV}, putS s d v = some st' → s.nt = st.nt → s.rnd = st.rnd → st'.nt = st.nt ∧ st'.rnd = st.rnd := fun h h1 h2 => by
    obtain ⟨a, b⟩ := putS_nt h
    exact ⟨a.trans h1, b.trans h2⟩
  unfold oneD at h
  split at h
  · split at h
    · cases h
    · exact key h rfl rfl
    · split at h
      · exact key h rfl rfl
      · cases h
  · exact oneOp_nt h

theorem stepD_eq {nt : Nat} {rnd : Bool} {n0 : Nat} {o : Oper} {f : Inf} {fs : List Inf} {i : Nat} {ph : Phs} {lk : Lks} {ih : D4} (st : St) (h1 : st.nt = nt) (h2 : st.rnd = rnd) :
    stepD E call hs ops nt rnd n0 o f fs i ph lk ih st.τ st.σ st.ds st.Λ = thenK (behindD o f fs i ph lk ih st.τ) (oneD E call hs ops n0 f o st) := by
  subst h1; subst h2
  unfold stepD
  cases h : Nat.beq f.c 3 with
  | true => rfl
  | false =>
    rw [show oneD E call hs ops n0 f o st = oneOp E call hs ops o st by
      unfold oneD
      split
      · rename_i e; rw [e] at h; cases h
      · rfl]
    exact oneF_eq E call hs ops o _ st

theorem runDF_eq {nt : Nat} {rnd : Bool} {n0 : Nat} : ∀ (l : List Oper) (fs : List Inf) (i : Nat) (ph : Phs) (lk : Lks) (st : St), st.nt = nt → st.rnd = rnd →
    runDF E call hs ops nt rnd n0 l fs i ph lk st.τ st.σ st.ds st.Λ = (runD E call hs ops n0 l fs i st ph lk).map fun r => (s4 r.1, r.2.1, r.2.2)
  | [], fs, i, ph, lk, st, h1, h2 => by cases fs <;> rfl
  | o :: l, [], i, ph, lk, st, h1, h2 => rfl
  | o :: l, f :: fs, i, ph, lk, st, h1, h2 => by
    show stepD E call hs ops nt rnd n0 o f fs i ph lk (runDF E call hs ops nt rnd n0 l) st.τ st.σ st.ds st.Λ = _
    rw [stepD_eq st h1 h2, runD]
    cases h : oneD E call hs ops n0 f o st with
    | none => rfl
    | some st1 =>
      obtain ⟨a, b⟩ := oneD_nt h
      have ih := fun ph lk => runDF_eq (nt := nt) (rnd := rnd) (n0 := n0) l fs (i + 1) ph lk st1 (a.trans h1) (b.trans h2)
      simp only [thenK, behindD]
      split
      · rename_i e; rw [e]; exact ih _ _
      · rename_i e; rw [e]; exact ih _ _
      · rename_i e1 e2
        rw [show Nat.beq f.c 0 = false by cases h : Nat.beq f.c 0 with | false => rfl | true => exact absurd (Nat.eq_of_beq_eq_true h) e1,
          show Nat.beq f.c 1 = false by cases h : Nat.beq f.c 1 with | false => rfl | true => exact absurd (Nat.eq_of_beq_eq_true h) e2]
        exact ih _ _

noncomputable def drawG (E : Env) (call : CallF) (hs : Hnds) (ops : Array Oper) (nt : Nat) (rnd : Bool) (fs : List Inf) (na : Nat) : K4 S4 := fun τ σ ds Λ =>
  Option.rec (motive := fun _ => Option S4) none (fun r => Bool.rec (motive := fun _ => Option S4) (Bool.rec (motive := fun _ => Option S4) none (some r.1) (looksOKF E ops r.2.1 r.2.2)) (some r.1) (quietI fs)) (runDF E call hs ops nt rnd σ.n ops.toList fs 0 [(⟨σ.t, σ.n + na⟩, 0, none)] [] τ ⟨σ.t, σ.n + na⟩ ds Λ)
noncomputable def drawF (E : Env) (call : CallF) (hs : Hnds) (ops : Array Oper) (nt : Nat) (rnd : Bool) : K4 S4 := fun τ σ ds Λ =>
  Option.rec (motive := fun _ => Option S4) (Option.rec (motive := fun _ => Option S4) none (fun ops' => Option.rec (motive := fun _ => Option S4) none (fun p => drawG E call hs ops' nt rnd p.1 p.2 τ σ ds Λ) (planOf ops'.toList)) (permOf ops)) (fun p => drawG E call hs ops nt rnd p.1 p.2 τ σ ds Λ) (planOf ops.toList)

theorem drawG_eq {fs : List Inf} {na : Nat} (st : St) : drawG E call hs ops st.nt st.rnd fs na st.τ st.σ st.ds st.Λ = (runDrawQ E call hs ops fs na st).map s4 := by
  unfold runDrawQ
  have e := runDF_eq (E := E) (call := call) (hs := hs) (ops := ops) (nt := st.nt) (rnd := st.rnd) (n0 := st.σ.n) ops.toList fs 0 [(⟨st.σ.t, st.σ.n + na⟩, 0, none)] [] { st with σ := ⟨st.σ.t, st.σ.n + na⟩ } rfl rfl
  simp only [drawG]
  simp only at e
  rw [e]
  cases runD E call hs ops st.σ.n ops.toList fs 0 { st with σ := ⟨st.σ.t, st.σ.n + na⟩ } [(⟨st.σ.t, st.σ.n + na⟩, 0, none)] [] with
  | none => rfl
  | some r =>
    obtain ⟨st', ph, lk⟩ := r
    simp only [Option.map_some, looksOKF_eq]
    cases quietI fs
    · simp only
      cases looksOK E ops ph lk <;> rfl
    · rfl

theorem drawF_eq (st : St) : drawF E call hs ops st.nt st.rnd st.τ st.σ st.ds st.Λ = (runDraw E call hs ops st).map s4 := by
  unfold drawF runDraw
  cases planOf ops.toList with
  | some p => exact drawG_eq st
  | none =>
    simp only
    cases permOf ops with
    | none => rfl
    | some ops' =>
      simp only [runDrawP]
      cases planOf ops'.toList with
      | none => rfl
      | some p => exact drawG_eq st

theorem runD_nt {n0 : Nat} : ∀ {l : List Oper} {fs : List Inf} {i : Nat} {st : St} {ph : Phs} {lk : Lks} {r : St × Phs × Lks}, runD E call hs ops n0 l fs i st ph lk = some r → r.1.nt = st.nt ∧ r.1.rnd = st.rnd
  | [], fs, i, st, ph, lk, r, h => by simp only [runD, Option.some.injEq] at h; subst h; exact ⟨rfl, rfl⟩
  | o :: l, [], i, st, ph, lk, r, h => by simp only [runD, Option.some.injEq] at h; subst h; exact ⟨rfl, rfl⟩
  | o :: l, f :: fs, i, st, ph, lk, r, h => by
    rw [runD] at h
    split at h
    · cases h
    · rename_i st1 h1
      obtain ⟨a, b⟩ := oneD_nt h1
      split at h <;> (obtain ⟨c, d⟩ := runD_nt h; exact ⟨c.trans a, d.trans b⟩)
theorem runDrawQ_nt {fs : List Inf} {na : Nat} {st st' : St} (h : runDrawQ E call hs ops fs na st = some st') : st'.nt = st.nt ∧ st'.rnd = st.rnd := by
  unfold runDrawQ at h
  split at h
  · cases h
  · rename_i hr
    split at h
    · simp only [Option.some.injEq] at h; subst h
      exact runD_nt hr
    · cases h
theorem runDraw_nt {st st' : St} (h : runDraw E call hs ops st = some st') : st'.nt = st.nt ∧ st'.rnd = st.rnd := by
  unfold runDraw at h
  split at h
  · exact runDrawQ_nt h
  · split at h
    · unfold runDrawP at h
      split at h
      · cases h
      · exact runDrawQ_nt h
    · cases h

/-! ### Codes -/

abbrev XF := Hnds → Nat → Bool → K4 (Ex × S4)
noncomputable def xNorm : XF := fun _ _ _ τ σ ds Λ => some (.normal, ⟨τ, σ, ds, Λ⟩)
noncomputable def xReg (E : Env) (call : CallF) (ops : Array Oper) (d : Bool) : XF := fun hs nt rnd τ σ ds Λ =>
  Option.rec (motive := fun _ => Option (Ex × S4)) none (fun s => some (.normal, s)) (Bool.rec (motive := fun _ => Option S4) (runF E call hs ops nt rnd ops.toList τ σ ds Λ) (drawF E call hs ops nt rnd τ σ ds Λ) d)
noncomputable def xSeq (a b : XF) : XF := fun hs nt rnd τ σ ds Λ =>
  Option.rec (motive := fun _ => Option (Ex × S4)) none (fun r => Ex.rec (motive := fun _ => Option (Ex × S4)) (b hs nt rnd r.2.τ r.2.σ r.2.ds r.2.Λ) (fun i => some (.exit i, r.2)) (some (.ret, r.2)) r.1) (a hs nt rnd τ σ ds Λ)
noncomputable def xCond (c : Operand) (a b : XF) : XF := fun hs nt rnd τ σ ds Λ => match evF τ c with
  | some (.bool x) => Bool.rec (motive := fun _ => Option (Ex × S4)) (b hs nt rnd τ σ ds Λ) (a hs nt rnd τ σ ds Λ) x
  | _ => none
noncomputable def xBlock (i : Nat) (b : XF) : XF := fun hs nt rnd τ σ ds Λ =>
  Option.rec (motive := fun _ => Option (Ex × S4)) none (fun r => Ex.rec (motive := fun _ => Option (Ex × S4)) (some (.normal, r.2)) (fun j => some (Bool.rec (.exit j) .normal (Nat.beq j i), r.2)) (some (.ret, r.2)) r.1) (b hs nt rnd τ σ ds Λ)
noncomputable def upToF (body : K4 (Ex × S4)) (k : Nat) : K4 (Option Ex × S4) :=
  Nat.rec (motive := fun _ => K4 (Option Ex × S4)) (fun τ σ ds Λ => Option.rec (motive := fun _ => Option (Option Ex × S4)) none (fun r => Ex.rec (motive := fun _ => Option (Option Ex × S4)) (some (none, r.2)) (fun i => some (some (.exit i), r.2)) (some (some .ret, r.2)) r.1) (body τ σ ds Λ))
    (fun _ ih τ σ ds Λ => Option.rec (motive := fun _ => Option (Option Ex × S4)) none (fun r => Option.rec (motive := fun _ => Option (Option Ex × S4)) (ih r.2.τ r.2.σ r.2.ds r.2.Λ) (fun e => some (some e, r.2)) r.1) (ih τ σ ds Λ)) k
noncomputable def xLoop (E : Env) (call : CallF) (c : Code) (b : XF) : XF := fun hs nt rnd τ σ ds Λ =>
  Bool.rec (motive := fun _ => Option (Ex × S4)) (Option.rec (motive := fun _ => Option (Ex × S4)) none (fun r => Option.rec (motive := fun _ => Option (Ex × S4)) none (fun e => some (e, r.2)) r.1) (upToF (b hs nt rnd) 20 τ σ ds Λ))
    ((exec E call (.loop c) hs ⟨τ, σ, ds, Λ, nt, rnd⟩).map fun r => (r.1, ⟨r.2.τ, r.2.σ, r.2.ds, r.2.Λ⟩)) E.sy

/-- A round of a loop over a function. -/
noncomputable def xHnd (params : Array Nat) (asg body : XF) (hs : Hnds) (nt : Nat) (τ : Tmps) : Hnd := fun az σ Λ => match Λ with
  | [] => none
  | lf :: Λ => match lf.done with
    | true => none
    | false => match setParams nt τ params.toList az with
      | none => none
      | some τ => match asg hs nt true τ σ [] Λ with
        | some (.normal, s1) => match body hs nt true s1.τ s1.σ s1.ds s1.Λ with
          | some (e, s2) => match s2.ds with
            | [] => some (e.isNormal, s2.σ, ⟨!e.isNormal, e⟩ :: s2.Λ)
            | _ => none
          | none => none
        | _ => none
noncomputable def xRange (call : CallF) (f : Operand) (params : Array Nat) (asg body : XF) : XF := fun hs nt _ τ σ ds Λ =>
  match evF τ f with
  | some (.fn g first caps) =>
    match call g (first ++ [.yld σ.n] ++ caps) ⟨σ.t, σ.n + 1⟩ ((σ.n, xHnd params asg body hs nt τ) :: deepen hs) (⟨false, .normal⟩ :: Λ) with
    | some (_, σ, lf :: Λ) => some (lf.pend, ⟨τ, σ, ds, Λ⟩)
    | _ => none
  | _ => none

noncomputable def execF (E : Env) (call : CallF) (c : Code) : XF :=
  Code.rec (motive := fun _ => XF) xNorm (fun _ ops d => xReg E call ops d) (fun _ _ a b => xSeq a b) (fun c _ _ a b => xCond c a b) (fun i _ b => xBlock i b) (fun c b => xLoop E call c b) (fun f p _ _ a b => xRange call f p a b)
    (fun i _ _ _ τ σ ds Λ => some (.exit i, ⟨τ, σ, ds, Λ⟩)) (fun _ b => b) (fun _ => xNorm) (fun _ _ _ _ _ _ _ _ => none) (fun _ _ _ τ σ ds Λ => some (.ret, ⟨τ, σ, ds, Λ⟩)) (fun _ _ _ _ _ _ _ _ => none) c

def e4 (r : Ex × St) : Ex × S4 := (r.1, s4 r.2)

theorem upTo_nt {body : St → Option (Ex × St)} (hb : ∀ {st e st'}, body st = some (e, st') → st'.nt = st.nt ∧ st'.rnd = st.rnd) : ∀ (k : Nat) {st st' : St} {e : Option Ex}, upTo body k st = some (e, st') → st'.nt = st.nt ∧ st'.rnd = st.rnd
  | 0, st, st', e, h => by
    rw [upTo] at h
    split at h
    · rename_i st1 h1
      simp only [Option.some.injEq, Prod.mk.injEq] at h; obtain ⟨_, rfl⟩ := h
      exact hb h1
    · rename_i h1
      simp only [Option.some.injEq, Prod.mk.injEq] at h; obtain ⟨_, rfl⟩ := h
      exact hb h1
    · cases h
  | k + 1, st, st', e, h => by
    rw [upTo] at h
    split at h
    · rename_i st1 h1
      obtain ⟨a, b⟩ := upTo_nt hb k h1
      obtain ⟨c, d⟩ := upTo_nt hb k h
      exact ⟨c.trans a, d.trans b⟩
    · exact upTo_nt hb k h

theorem exec_nt : ∀ (c : Code) {hs : Hnds} {st st' : St} {e : Ex}, exec E call c hs st = some (e, st') → st'.nt = st.nt ∧ st'.rnd = st.rnd := by
  intro c
  induction c with
  | skip => intro hs st st' e h; simp only [exec_skip, Option.some.injEq, Prod.mk.injEq] at h; obtain ⟨_, rfl⟩ := h; exact ⟨rfl, rfl⟩
  | label l => intro hs st st' e h; simp only [exec_label, Option.some.injEq, Prod.mk.injEq] at h; obtain ⟨_, rfl⟩ := h; exact ⟨rfl, rfl⟩
  | exit i => intro hs st st' e h; simp only [exec_exit, Option.some.injEq, Prod.mk.injEq] at h; obtain ⟨_, rfl⟩ := h; exact ⟨rfl, rfl⟩
  | ret => intro hs st st' e h; simp only [exec_ret, Option.some.injEq, Prod.mk.injEq] at h; obtain ⟨_, rfl⟩ := h; exact ⟨rfl, rfl⟩
  | goto l => intro hs st st' e h; simp [exec_goto] at h
  | refuse w => intro hs st st' e h; simp [exec_refuse] at h
  | scope b ih => intro hs st st' e h; rw [exec_scope] at h; exact ih h
  | region id ops d =>
    intro hs st st' e h
    cases d with
    | true =>
      rw [exec_regionD] at h
      split at h
      · rename_i h1
        simp only [Option.some.injEq, Prod.mk.injEq] at h; obtain ⟨_, rfl⟩ := h
        exact runDraw_nt h1
      · cases h
    | false =>
      rw [exec_region] at h
      split at h
      · rename_i h1
        simp only [Option.some.injEq, Prod.mk.injEq] at h; obtain ⟨_, rfl⟩ := h
        exact runOps_nt h1
      · cases h
  | seq a b iha ihb =>
    intro hs st st' e h
    rw [exec_seq] at h
    split at h
    · rename_i st1 h1
      obtain ⟨x, y⟩ := iha h1
      obtain ⟨z, w⟩ := ihb h
      exact ⟨z.trans x, w.trans y⟩
    · exact iha h
  | cond c a b iha ihb =>
    intro hs st st' e h
    rw [exec_cond] at h
    split at h
    · exact iha h
    · exact ihb h
    · cases h
  | block i b ih =>
    intro hs st st' e h
    rw [exec_block] at h
    split at h
    · rename_i h1
      simp only [Option.some.injEq, Prod.mk.injEq] at h; obtain ⟨_, rfl⟩ := h
      exact ih h1
    · exact ih h
  | loop b ih =>
    intro hs st st' e h
    rw [exec_loop] at h
    split at h
    · rename_i h1
      simp only [Option.some.injEq, Prod.mk.injEq] at h; obtain ⟨_, rfl⟩ := h
      split at h1
      · refine upTo_nt (body := fun s => roundC _ _ (exec E call b hs s)) (fun {s e s'} h => ?_) _ h1
        simp only [roundC] at h
        split at h
        · rename_i s1 hx
          simp only [Option.some.injEq, Prod.mk.injEq] at h; obtain ⟨_, rfl⟩ := h
          obtain ⟨a1, a2⟩ := ih hx
          exact ⟨clean_nt.1.trans a1, clean_nt.2.trans a2⟩
        · exact ih h
      · exact upTo_nt (fun h => ih h) _ h1
    · cases h
  | rangeFunc f ps a b iha ihb =>
    intro hs st st' e h
    have this := h
    rw [exec_rangeFunc] at this
    split at this
    · split at this
      · simp only [Option.some.injEq, Prod.mk.injEq] at this; obtain ⟨_, rfl⟩ := this
        exact ⟨rfl, rfl⟩
      · cases this
    · cases this

/-- The same codes. -/
def XOK (E : Env) (call : CallF) (c : Code) : Prop := ∀ (hs : Hnds) (st : St), execF E call c hs st.nt st.rnd st.τ st.σ st.ds st.Λ = (exec E call c hs st).map e4

theorem upToF_eq {body : St → Option (Ex × St)} {bodyF : K4 (Ex × S4)} {nt : Nat} {rnd : Bool} (hb : ∀ st : St, st.nt = nt → st.rnd = rnd → bodyF st.τ st.σ st.ds st.Λ = (body st).map e4) (hn : ∀ {st e st'}, body st = some (e, st') → st'.nt = st.nt ∧ st'.rnd = st.rnd) :
    ∀ (k : Nat) (st : St), st.nt = nt → st.rnd = rnd → upToF bodyF k st.τ st.σ st.ds st.Λ = (upTo body k st).map fun r => (r.1, s4 r.2)
  | 0, st, h1, h2 => by
    rw [upTo]
    show @Option.rec _ (fun _ => Option (Option Ex × S4)) none _ (bodyF st.τ st.σ st.ds st.Λ) = _
    rw [hb st h1 h2]
    cases body st with
    | none => rfl
    | some r => obtain ⟨e, st'⟩ := r; cases e <;> rfl
  | k + 1, st, h1, h2 => by
    rw [upTo]
    show @Option.rec _ (fun _ => Option (Option Ex × S4)) none _ (upToF bodyF k st.τ st.σ st.ds st.Λ) = _
    rw [upToF_eq hb hn k st h1 h2]
    cases h : upTo body k st with
    | none => rfl
    | some r =>
      obtain ⟨e, st'⟩ := r
      cases e with
      | none =>
        obtain ⟨a, b⟩ := upTo_nt hn k h
        exact upToF_eq hb hn k st' (a.trans h1) (b.trans h2)
      | some e => rfl

theorem xHnd_eq {a b : Code} (ha : XOK E call a) (hb : XOK E call b) (ps : Array Nat) (hs : Hnds) (nt : Nat) (τ : Tmps) : xHnd ps (execF E call a) (execF E call b) hs nt τ = rangeH E call hs nt τ ps a b := by
  funext az σ Λ
  cases Λ with
  | nil => rfl
  | cons lf Λ =>
    simp only [xHnd, rangeH]
    cases lf.done with
    | true => rfl
    | false =>
      simp only
      cases setParams nt τ ps.toList az with
      | none => rfl
      | some τ' =>
        have e1 := ha hs ⟨τ', σ, [], Λ, nt, true⟩
        simp only at e1 ⊢
        rw [e1]
        cases h1 : exec E call a hs ⟨τ', σ, [], Λ, nt, true⟩ with
        | none => rfl
        | some r =>
          obtain ⟨e, st1⟩ := r
          cases e with
          | normal =>
            obtain ⟨n1, n2⟩ := exec_nt a h1
            have e2 := hb hs st1
            rw [n1, n2] at e2
            simp only [Option.map_some, e4, s4]
            simp only at e2
            rw [e2]
            cases exec E call b hs st1 with
            | none => rfl
            | some r =>
              obtain ⟨e, st2⟩ := r
              simp only [Option.map_some, e4, s4]
              cases st2.ds <;> rfl
          | exit i => rfl
          | ret => rfl

theorem execF_eq (c : Code) : XOK E call c := by
  induction c with
  | skip => intro hs st; rfl
  | label l => intro hs st; rfl
  | exit i => intro hs st; rfl
  | ret => intro hs st; rfl
  | goto l => intro hs st; rfl
  | refuse w => intro hs st; rfl
  | scope b ih => intro hs st; rw [exec_scope]; exact ih hs st
  | region id ops d =>
    intro hs st
    cases d with
    | true =>
      rw [exec_regionD]
      show @Option.rec _ (fun _ => Option (Ex × S4)) none _ (drawF E call hs ops st.nt st.rnd st.τ st.σ st.ds st.Λ) = _
      rw [drawF_eq]
      cases runDraw E call hs ops st <;> rfl
    | false =>
      rw [exec_region]
      show @Option.rec _ (fun _ => Option (Ex × S4)) none _ (runF E call hs ops st.nt st.rnd ops.toList st.τ st.σ st.ds st.Λ) = _
      rw [runF_eq]
      cases runOps E call hs ops ops.toList st <;> rfl
  | seq a b iha ihb =>
    intro hs st
    rw [exec_seq]
    show @Option.rec _ (fun _ => Option (Ex × S4)) none _ (execF E call a hs st.nt st.rnd st.τ st.σ st.ds st.Λ) = _
    rw [iha hs st]
    cases h : exec E call a hs st with
    | none => rfl
    | some r =>
      obtain ⟨e, st1⟩ := r
      obtain ⟨n1, n2⟩ := exec_nt a h
      cases e with
      | normal =>
        show execF E call b hs st.nt st.rnd st1.τ st1.σ st1.ds st1.Λ = _
        rw [← n1, ← n2]
        exact ihb hs st1
      | exit i => rfl
      | ret => rfl
  | cond c a b iha ihb =>
    intro hs st
    rw [exec_cond]
    show (match evF st.τ c with
      | some (.bool x) => Bool.rec (motive := fun _ => Option (Ex × S4)) (execF E call b hs st.nt st.rnd st.τ st.σ st.ds st.Λ) (execF E call a hs st.nt st.rnd st.τ st.σ st.ds st.Λ) x
      | _ => none) = _
    rw [evF_eq]
    split
    · rename_i x hx
      cases x with
      | true => rw [hx]; exact iha hs st
      | false => rw [hx]; exact ihb hs st
    · rename_i hne
      split
      · rename_i h; exact absurd h (hne true)
      · rename_i h; exact absurd h (hne false)
      · rfl
  | block i b ih =>
    intro hs st
    rw [exec_block]
    show @Option.rec _ (fun _ => Option (Ex × S4)) none _ (execF E call b hs st.nt st.rnd st.τ st.σ st.ds st.Λ) = _
    rw [ih hs st]
    cases exec E call b hs st with
    | none => rfl
    | some r =>
      obtain ⟨e, st1⟩ := r
      cases e with
      | normal => rfl
      | exit j =>
        simp only [Option.map_some, e4]
        cases Nat.beq j i <;> rfl
      | ret => rfl
  | loop b ih =>
    intro hs st
    show xLoop E call b (execF E call b) hs st.nt st.rnd st.τ st.σ st.ds st.Λ = _
    unfold xLoop
    cases hsy : E.sy with
    | true => rfl
    | false =>
      rw [exec_loop, hsy]
      show @Option.rec _ (fun _ => Option (Ex × S4)) none _ (upToF (execF E call b hs st.nt st.rnd) 20 st.τ st.σ st.ds st.Λ) = _
      rw [upToF_eq (body := exec E call b hs) (nt := st.nt) (rnd := st.rnd) (fun st' h1 h2 => by rw [← h1, ← h2]; exact ih hs st') (fun h => exec_nt b h) 20 st rfl rfl]
      simp only
      cases upTo (exec E call b hs) 20 st with
      | none => rfl
      | some r => obtain ⟨e, st1⟩ := r; cases e <;> rfl
  | rangeFunc f ps a b iha ihb =>
    intro hs st
    rw [exec_rangeFunc]
    show xRange call f ps (execF E call a) (execF E call b) hs st.nt st.rnd st.τ st.σ st.ds st.Λ = _
    unfold xRange
    rw [evF_eq, xHnd_eq iha ihb]
    cases ev st.τ f with
    | none => rfl
    | some v =>
      cases v with
      | fn g first caps =>
        simp only
        cases call g (first ++ [.yld st.σ.n] ++ caps) ⟨st.σ.t, st.σ.n + 1⟩ ((st.σ.n, rangeH E call hs st.nt st.τ ps a b) :: deepen hs) (⟨false, .normal⟩ :: st.Λ) with
        | none => rfl
        | some r =>
          obtain ⟨v0, σ2, Λ2⟩ := r
          cases Λ2 with
          | nil => rfl
          | cons lf Λ2 => rfl
      | _ => rfl

/-! ### Calls of functions -/

abbrev RF := Option (AV × Hp × List LF)
noncomputable def packF (σ : Hp) (Λ : List LF) (r : Option (List AV)) : RF :=
  match r with
  | some [v] => some (v, σ, Λ)
  | some vs => some (.tup vs, σ, Λ)
  | none => none
noncomputable def finF (E : Env) (call : CallF) (hs : Hnds) (rs : List ResultVar) (s : S4) : RF :=
  List.rec (motive := fun _ => RF) (packF s.σ s.Λ (resultsA E s.τ s.σ rs)) (fun _ _ _ => match runDefers E call hs s.ds s.σ s.Λ with
    | none => none
    | some (σ, Λ) => packF σ Λ (resultsA E s.τ σ rs)) s.ds
noncomputable def bodyF (E : Env) (call : CallF) (hs : Hnds) (fn : Func) (args : List AV) (σ : Hp) (Λ : List LF) (body : Code) : RF :=
  Option.rec (motive := fun _ => RF) none (fun r => Ex.rec (motive := fun _ => RF) (finF E call hs fn.results.toList r.2) (fun _ => none) (finF E call hs fn.results.toList r.2) r.1)
    (execF E call body hs (args.length + (fn.ntmps - args.length)) false (tmps0 fn.ntmps (.full (dep fn.ntmps)) 0 args) σ [] Λ)
noncomputable def funcF (E : Env) (call : CallF) (hs : Hnds) (args : List AV) (σ : Hp) (Λ : List LF) (fn : Func) : RF :=
  Option.rec (motive := fun _ => RF) none (fun b => bodyF E call hs fn args σ Λ b) fn.body
noncomputable def callF (E : Env) (n : Nat) : CallF :=
  Nat.rec (motive := fun _ => CallF) (fun _ _ _ _ _ => none) (fun _ ih f args σ hs Λ => Option.rec (motive := fun _ => RF) (Option.rec (motive := fun _ => RF) none (fun fn => funcF E ih hs args σ Λ fn) (E.fn f)) (fun v => some (v, σ, Λ)) (E.ext f args)) n

theorem finF_eq (rs : List ResultVar) (st : St) : finF E call hs rs (s4 st) = match runDefers E call hs st.ds st.σ st.Λ with
    | none => none
    | some (σ, Λ) => match resultsA E st.τ σ rs with
      | some [v] => some (v, σ, Λ)
      | some vs => some (.tup vs, σ, Λ)
      | none => none := by
  unfold finF s4
  simp only
  cases h : st.ds with
  | nil =>
    simp only [runDefers]
    rfl
  | cons d ds => rfl

theorem callF_eq (E : Env) : ∀ n, callF E n = callN E n
  | 0 => by funext f args σ hs Λ; rfl
  | n + 1 => by
    have ih := callF_eq E n
    funext f args σ hs Λ
    show @Option.rec _ (fun _ => RF) (@Option.rec _ (fun _ => RF) none (fun fn => funcF E (callF E n) hs args σ Λ fn) (E.fn f)) (fun v => some (v, σ, Λ)) (E.ext f args) = _
    rw [ih, callN]
    cases E.ext f args with
    | some v => rfl
    | none =>
      simp only
      cases E.fn f with
      | none => rfl
      | some fn =>
        simp only [funcF]
        cases fn.body with
        | none => rfl
        | some body =>
          simp only [bodyF]
          have e := execF_eq (E := E) (call := callN E n) body hs ⟨tmps0 fn.ntmps (.full (dep fn.ntmps)) 0 args, σ, [], Λ, args.length + (fn.ntmps - args.length), false⟩
          simp only at e
          rw [e]
          cases exec E (callN E n) body hs ⟨tmps0 fn.ntmps (.full (dep fn.ntmps)) 0 args, σ, [], Λ, args.length + (fn.ntmps - args.length), false⟩ with
          | none => rfl
          | some r =>
            obtain ⟨e, st⟩ := r
            cases e with
            | exit i => rfl
            | normal => exact finF_eq _ _
            | ret => exact finF_eq _ _

/-! ### What is asked of the kernel -/

noncomputable def ansF (v : AV) (r : RF) : Bool :=
  match r with
  | some (w, _, []) => avbeq w v
  | _ => false
noncomputable def comesF (E : Env) (n f : Nat) (args : List AV) (v : AV) : Bool :=
  Bool.rec false (Bool.rec false (plainA 9 v) (args.all (closedA 9))) (ansF v (callF E n f args .empty [] []))
theorem comes_of {E : Env} {n f : Nat} {args : List AV} {v : AV} (h : comesF E n f args v = true) : comes E n f args v = true := by
  unfold comesF at h
  rw [callF_eq] at h
  unfold comes
  cases hc : ansF v (callN E n f args .empty [] []) with
  | false => rw [hc] at h; cases h
  | true =>
    rw [hc] at h
    cases ha : args.all (closedA 9) with
    | false => rw [ha] at h; cases h
    | true =>
      rw [ha] at h
      unfold ansF at hc
      split at hc
      · rename_i w σ e
        rw [e]
        simp only [hc]
        exact h
      · cases hc
noncomputable def isTrueF (E : Env) (n f : Nat) : Bool :=
  match E.ext f [], callF E (n + 1) f [] .empty [] [] with
  | none, some (.bool true, _, []) => true
  | _, _ => false
theorem isTrue_of {E : Env} {n f : Nat} (h : isTrueF E n f = true) : isTrue E n f = true := by
  unfold isTrueF at h
  rw [callF_eq] at h
  exact h
end
end Go.Eng

/-
  THE ENGINE, 55: calls said ahead, with what they need of memory and what they leave there.
-/
namespace Go.Eng
open Go

attribute [local irreducible] upTo

/-! ### Objects, compared -/

noncomputable def espbeq : List (AV × AV) → List (AV × AV) → Bool
  | [], [] => true
  | (a, b) :: l, (c, d) :: m => match avbeq a c with
    | true => match avbeq b d with
      | true => espbeq l m
      | false => false
    | false => false
  | _, _ => false
noncomputable def aobeq : AO → AO → Bool
  | .cells r l, .cells r' l' => match r, r' with
    | true, true => avbeqL l l'
    | false, false => avbeqL l l'
    | _, _ => false
  | .map l, .map l' => espbeq l l'
  | .cmap l bs ck, .cmap l' bs' ck' => match espbeq l l' with
    | true => match lbeq bs bs' with
      | true => Nat.beq ck ck'
      | false => false
    | false => false
  | .miter m a s l, .miter m' a' s' l' => match Nat.beq m m', Nat.beq a a', Nat.beq l l' with
    | true, true, true => lbeq s s'
    | _, _, _ => false
  | .siter s p, .siter s' p' => match Nat.beq p p' with
    | true => lbeq s s'
    | false => false
  | .gone, .gone => true
  | _, _ => false

theorem espbeq_eq : ∀ {a b : List (AV × AV)}, espbeq a b = true → a = b
  | [], [], _ => rfl
  | [], _ :: _, h => by cases h
  | _ :: _, [], h => by cases h
  | (a, b) :: l, (c, d) :: m, h => by
    simp only [espbeq] at h
    split at h
    · rename_i h1
      split at h
      · rename_i h2
        rw [avbeq_eq _ _ h1, avbeq_eq _ _ h2, espbeq_eq h]
      · cases h
    · cases h
theorem aobeq_eq {a b : AO} (h : aobeq a b = true) : a = b := by
  cases a with
  | cells r l => cases b with
    | cells r' l' => cases r <;> cases r' <;> first | (simp [aobeq] at h; done) | (simp only [aobeq] at h; rw [avbeqL_eq _ _ h])
    | _ => simp [aobeq] at h
  | map l => cases b with
    | map l' => simp only [aobeq] at h; rw [espbeq_eq h]
    | _ => simp [aobeq] at h
  | cmap l bs ck => cases b with
    | cmap l' bs' ck' =>
      simp only [aobeq] at h
      split at h
      · rename_i h1
        split at h
        · rename_i h2; rw [espbeq_eq h1, lbeq_eq' h2, Nat.eq_of_beq_eq_true h]
        · cases h
      · cases h
    | _ => simp [aobeq] at h
  | miter m a s l => cases b with
    | miter m' a' s' l' =>
      simp only [aobeq] at h
      split at h
      · rename_i h1 h2 h3; rw [Nat.eq_of_beq_eq_true h1, Nat.eq_of_beq_eq_true h2, Nat.eq_of_beq_eq_true h3, lbeq_eq' h]
      · cases h
    | _ => simp [aobeq] at h
  | siter s p => cases b with
    | siter s' p' =>
      simp only [aobeq] at h
      split at h
      · rename_i h1; rw [Nat.eq_of_beq_eq_true h1, lbeq_eq' h]
      · cases h
    | _ => simp [aobeq] at h
  | gone => cases b with
    | gone => rfl
    | _ => simp [aobeq] at h

/-! ### Calls said ahead -/

abbrev Obs := List (Nat × AO)

/-- Does memory hold these? -/
noncomputable def hasAll (σ : Hp) : Obs → Bool
  | [] => true
  | (i, o) :: l => match σ.get i with
    | some o' => match aobeq o o' with
      | true => hasAll σ l
      | false => false
    | none => false
noncomputable def putObs (σ : Hp) : Obs → Hp
  | [] => σ
  | (i, o) :: l => putObs (σ.set i o) l

theorem hasAll_spec {σ : Hp} : ∀ {l : Obs}, hasAll σ l = true → ∀ i o, (i, o) ∈ l → σ.get i = some o
  | [], _, i, o, hm => by cases hm
  | (j, o') :: l, h, i, o, hm => by
    simp only [hasAll] at h
    split at h
    · rename_i o2 hg
      split at h
      · rename_i e
        rcases List.mem_cons.1 hm with e' | hm
        · simp only [Prod.mk.injEq] at e'; obtain ⟨rfl, rfl⟩ := e'
          rw [hg, aobeq_eq e]
        · exact hasAll_spec h i o hm
      · cases h
    · cases h
theorem putObs_n : ∀ (l : Obs) (σ : Hp), (putObs σ l).n = σ.n
  | [], _ => rfl
  | (i, o) :: l, σ => putObs_n l (σ.set i o)
theorem putObs_get : ∀ {l : Obs} {σ : Hp} {id : Nat} {o : AO}, (putObs σ l).get id = some o → (id, o) ∈ l ∨ ((∀ o', (id, o') ∉ l) ∧ σ.get id = some o)
  | [], σ, id, o, h => .inr ⟨fun _ h => (by cases h), h⟩
  | (i, x) :: l, σ, id, o, h => by
    rcases putObs_get (l := l) h with g | ⟨g1, g2⟩
    · exact .inl (List.mem_cons_of_mem _ g)
    · rcases Hp.get_set g2 with ⟨rfl, rfl⟩ | ⟨hne, g3⟩
      · exact .inl List.mem_cons_self
      · refine .inr ⟨fun o' hm => ?_, g3⟩
        rcases List.mem_cons.1 hm with e | hm
        · simp only [Prod.mk.injEq] at e; exact hne e.1
        · exact g1 o' hm

structure Ent where
  f : Nat
  args : List AV
  n0 : Nat
  need : Obs
  v : AV
  put : Obs
  n1 : Nat

noncomputable def Ent.pre (e : Ent) : Hp := putObs ⟨.full 22, e.n0⟩ e.need

theorem Ent.pre_get {e : Ent} {id : Nat} {o : AO} (h : e.pre.get id = some o) : (id, o) ∈ e.need := by
  rcases putObs_get h with g | ⟨_, g⟩
  · exact g
  · have : (⟨.full 22, e.n0⟩ : Hp).get id = none := Tr.get_full 22 id
    rw [this] at g; cases g
theorem Ent.pre_n (e : Ent) : e.pre.n = e.n0 := putObs_n _ _

/-- The first that speaks of this call. -/
noncomputable def findE (L : List Ent) (f : Nat) (args : List AV) (σ : Hp) : Option Ent :=
  match L with
  | [] => none
  | e :: L => match Nat.beq e.f f, Nat.beq e.n0 σ.n with
    | true, true => match avbeqL e.args args, hasAll σ e.need with
      | true, true => some e
      | _, _ => findE L f args σ
    | _, _ => findE L f args σ

theorem findE_spec : ∀ {L : List Ent} {f : Nat} {args : List AV} {σ : Hp} {e : Ent}, findE L f args σ = some e → e ∈ L ∧ e.f = f ∧ e.args = args ∧ e.n0 = σ.n ∧ ∀ i o, (i, o) ∈ e.need → σ.get i = some o
  | [], f, args, σ, e, h => by cases h
  | e' :: L, f, args, σ, e, h => by
    have rec' : findE L f args σ = some e → _ := fun h => by
      obtain ⟨h1, h2⟩ := findE_spec h
      exact (⟨List.mem_cons_of_mem _ h1, h2⟩ : e ∈ e' :: L ∧ e.f = f ∧ e.args = args ∧ e.n0 = σ.n ∧ ∀ i o, (i, o) ∈ e.need → σ.get i = some o)
    simp only [findE] at h
    split at h
    · rename_i e1 e2
      split at h
      · rename_i e3 e4
        simp only [Option.some.injEq] at h; subst h
        exact ⟨List.mem_cons_self, Nat.eq_of_beq_eq_true e1, avbeqL_eq _ _ e3, Nat.eq_of_beq_eq_true e2, hasAll_spec e4⟩
      · exact rec' h
    · exact rec' h

section
variable {P : Program} {E : Env}

/-- What is said of a call holds. -/
def EntOK (P : Program) (E : Env) (e : Ent) : Prop :=
  ∀ σ, e.n0 = σ.n → (∀ i o, (i, o) ∈ e.need → σ.get i = some o) → ∀ base inv V A O W Λ, CxOK inv → HR E base V σ W → base ≤ W.heap.size → VRs V e.args A → inv Λ V.K O W → (∀ b, Own V σ b → ¬ O b) → LvOK V σ →
    ∃ V' O' W' R, Prg V σ O W V' ⟨(putObs σ e.put).t, e.n1⟩ O' W' ∧ HR E base V' ⟨(putObs σ e.put).t, e.n1⟩ W' ∧ inv Λ V'.K O' W' ∧ (∀ b, Own V' ⟨(putObs σ e.put).t, e.n1⟩ b → ¬ O' b) ∧ LvOK V' ⟨(putObs σ e.put).t, e.n1⟩ ∧ VR V' e.v R ∧ Goes P e.f A.toArray W R W'

/-- Memory that holds less. -/
theorem HR.sub {base : Nat} {V : View} {σ σ0 : Hp} {W : World} (h : HR E base V σ W) (hs : ∀ id o, σ0.get id = some o → σ.get id = some o) (hn : σ0.n = σ.n) : HR E base V σ0 W :=
  ⟨h.cell, h.glob, fun id o hid hne => h.obj id o (hs id o hid) hne, fun id id' b s s' ⟨o, l1, n1⟩ ⟨o', l2, n2⟩ m1 m2 => h.inj id id' b s s' ⟨o, hs _ _ l1, n1⟩ ⟨o', hs _ _ l2, n2⟩ m1 m2, fun id x hx => by rw [hn]; exact h.fresh id x hx, fun id o hid => h.all id o (hs id o hid)⟩

theorem EntOK.gen {e : Ent} (hrun : ∀ base (inv : Inv) V A O W Λ, CxOK inv → HR E base V e.pre W → base ≤ W.heap.size → VRs V e.args A → inv Λ V.K O W → (∀ b, Own V e.pre b → ¬ O b) → LvOK V e.pre →
    ∃ σ1, (∀ i o, (i, o) ∈ e.put → σ1.get i = some o) ∧ (∀ i o, (i, o) ∈ e.need → (∃ o', (i, o') ∈ e.put) ∨ σ1.get i = some o) ∧ σ1.n ≤ e.n1 ∧
      ∃ V' O' W' R, Prg V e.pre O W V' σ1 O' W' ∧ HR E base V' σ1 W' ∧ inv Λ V'.K O' W' ∧ (∀ b, Own V' σ1 b → ¬ O' b) ∧ LvOK V' σ1 ∧ VR V' e.v R ∧ Goes P e.f A.toArray W R W') : EntOK P E e := by
  intro σ hn0 hneed base inv V A O W Λ hcx H hb ha hi hd hlf
  have hsub : ∀ id o, e.pre.get id = some o → σ.get id = some o := fun id o hg => hneed id o (Ent.pre_get hg)
  have hpn : e.pre.n = σ.n := e.pre_n.trans hn0
  have hown0 : ∀ b, Own V e.pre b → Own V σ b := fun b ⟨id, s, ⟨o, l, n⟩, m⟩ => ⟨id, s, ⟨o, hsub _ _ l, n⟩, m⟩
  obtain ⟨σ1, hput, hkeep, hn, V', O', W', R, hP, H1, hi1, hd1, hl1, hv, hg⟩ := hrun base inv V A O W Λ hcx (H.sub hsub hpn) hb ha hi (fun b hb => hd b (hown0 b hb)) (fun i x hx => by rw [hpn]; exact hlf i x hx)
  have hbd := hcx.bound _ _ _ _ hi
  -- what lies behind
  have key : ∀ id o, (⟨(putObs σ e.put).t, e.n1⟩ : Hp).get id = some o → σ1.get id = some o ∨ (e.pre.get id = none ∧ σ.get id = some o) := by
    intro id o hg
    rcases putObs_get (show (putObs σ e.put).get id = some o from hg) with g | ⟨g1, g2⟩
    · exact .inl (hput id o g)
    · cases hp : e.pre.get id with
      | none => exact .inr ⟨rfl, g2⟩
      | some o2 =>
        have h2 := hsub _ _ hp
        rw [g2] at h2
        simp only [Option.some.injEq] at h2; subst h2
        rcases hkeep id o (Ent.pre_get hp) with ⟨o', hm⟩ | hk
        · exact absurd hm (g1 o')
        · exact .inl hk
  -- what was there and was not needed
  have untouched : ∀ id o, e.pre.get id = none → σ.get id = some o → o ≠ .gone → ∃ blk s, V.m id = some (blk, s) ∧ base ≤ blk ∧ blk < W.heap.size ∧ OR V' W' blk s o ∧ ¬ Own V e.pre blk ∧ ¬ O blk := by
    intro id o hp hg hne
    obtain ⟨blk, s, hm, h1, h2, h3⟩ := H.obj id o hg hne
    have hno : ¬ Own V e.pre blk := fun ⟨id', s', ⟨o', l', n'⟩, m'⟩ => by
      have := H.inj id id' blk s s' ⟨o, hg, hne⟩ ⟨o', hsub _ _ l', n'⟩ hm m'
      rw [this, l'] at hp; cases hp
    have hO : ¬ O blk := hd blk ⟨id, s, ⟨o, hg, hne⟩, hm⟩
    refine ⟨blk, s, hm, h1, h2, h3.mono hP.le (hP.le.N _ _ _ hm) (fun i v hk => ?_) (hP.fr.block blk h2 (fun x => x.elim hno hO)), hno, hO⟩
    rcases hP.K blk i v hk with x | (x | x) | x
    · exact x
    · exact absurd x hno
    · exact absurd x hO
    · omega
  have hsz := hP.fr.size
  have hown2 : ∀ b, Own V' ⟨(putObs σ e.put).t, e.n1⟩ b → Own V' σ1 b ∨ (Own V σ b ∧ b < W.heap.size) := by
    rintro b ⟨id, s, ⟨o, hg, hne⟩, hm⟩
    rcases key id o hg with g | ⟨g1, g2⟩
    · exact .inl ⟨id, s, ⟨o, g, hne⟩, hm⟩
    · obtain ⟨blk, s', hm', _, h2, _⟩ := untouched id o g1 g2 hne
      have := hP.le.m _ _ hm'
      rw [hm] at this
      simp only [Option.some.injEq, Prod.mk.injEq] at this
      obtain ⟨rfl, rfl⟩ := this
      exact .inr ⟨⟨id, s, ⟨o, g2, hne⟩, hm'⟩, h2⟩
  have hmix : ∀ id id' b s s' o o', σ1.get id = some o → o ≠ .gone → e.pre.get id' = none → σ.get id' = some o' → o' ≠ .gone → V'.m id = some (b, s) → V'.m id' = some (b, s') → False := by
    intro id id' b s s' o o' g1 n1 g2 g3 n2 m1 m2
    obtain ⟨blk, s2, hm', _, h2, _, hno, _⟩ := untouched id' o' g2 g3 n2
    have := hP.le.m _ _ hm'
    rw [m2] at this
    simp only [Option.some.injEq, Prod.mk.injEq] at this
    obtain ⟨rfl, _⟩ := this
    rcases hP.own b ⟨id, s, ⟨o, g1, n1⟩, m1⟩ with x | x
    · exact hno x
    · omega
  have hnn : σ.n ≤ e.n1 := by have := hP.nn; omega
  refine ⟨V', O', W', R, ⟨hP.le, hP.fr.weaken (fun b _ x => x.imp (hown0 b) (fun y => y)), fun b hb => ?_, hP.out, hP.mb, fun b o v hv => (hP.K b o v hv).imp (fun x => x) (fun x => x.imp (fun y => y.imp (hown0 b) (fun z => z)) (fun y => y)), fun id x hx => by rw [← hpn]; exact hP.nm id x hx, hnn⟩,
    ⟨H1.cell, H1.glob, fun id o hg hne => ?_, fun id id' b s s' ⟨o, g1, n1⟩ ⟨o', g2, n2⟩ m1 m2 => ?_, fun id x hx => ⟨Nat.lt_of_lt_of_le (H1.fresh id x hx).1 hn, (H1.fresh id x hx).2⟩, fun id o hg => ?_⟩, hi1, fun b hb ho => ?_, fun i x hx => Nat.lt_of_lt_of_le (hl1 i x hx) hn, hv, hg⟩
  · rcases hown2 b hb with x | ⟨x, _⟩
    · exact (hP.own b x).imp (hown0 b) (fun y => y)
    · exact .inl x
  · rcases key id o hg with g | ⟨g1, g2⟩
    · exact H1.obj id o g hne
    · obtain ⟨blk, s, hm, h1, h2, h3, _⟩ := untouched id o g1 g2 hne
      exact ⟨blk, s, hP.le.m _ _ hm, h1, by omega, h3⟩
  · rcases key id o g1 with g | ⟨k1, k2⟩ <;> rcases key id' o' g2 with g' | ⟨k3, k4⟩
    · exact H1.inj id id' b s s' ⟨o, g, n1⟩ ⟨o', g', n2⟩ m1 m2
    · exact (hmix id id' b s s' o o' g n1 k3 k4 n2 m1 m2).elim
    · exact (hmix id' id b s' s o' o g' n2 k1 k2 n1 m2 m1).elim
    · obtain ⟨b1, s1, hm1, _⟩ := untouched id o k1 k2 n1
      obtain ⟨b2, s2, hm2, _⟩ := untouched id' o' k3 k4 n2
      have e1 := hP.le.m _ _ hm1
      have e2 := hP.le.m _ _ hm2
      rw [m1] at e1
      rw [m2] at e2
      simp only [Option.some.injEq, Prod.mk.injEq] at e1 e2
      obtain ⟨rfl, rfl⟩ := e1
      obtain ⟨rfl, rfl⟩ := e2
      exact H.inj id id' b s s' ⟨o, k2, n1⟩ ⟨o', k4, n2⟩ hm1 hm2
  · rcases key id o hg with g | ⟨_, g2⟩
    · exact H1.all id o g
    · obtain ⟨x, hx⟩ := H.all id o g2; exact ⟨x, hP.le.m _ _ hx⟩
  · rcases hown2 b hb with x | ⟨x, hlt⟩
    · exact hd1 b x ho
    · rcases hP.out b ho with y | y
      · exact hd b x y
      · omega

theorem EntOK.of {e : Ent} {call : CallF} (hc : CallOK P E call) {σ1 : Hp} (h : call e.f e.args e.pre [] [] = some (e.v, σ1, [])) (hput : ∀ i o, (i, o) ∈ e.put → σ1.get i = some o) (hkeep : ∀ i o, (i, o) ∈ e.need → (∃ o', (i, o') ∈ e.put) ∨ σ1.get i = some o) (hn : σ1.n ≤ e.n1) : EntOK P E e :=
  .gen fun base inv V A O W Λ hcx H hb ha hi hd hlf => ⟨σ1, hput, hkeep, hn, hc e.f e.args e.pre [] [] e.v σ1 [] h base (fun _ K O W => inv Λ K O W) V A O W ⟨fun _ K O W K' W' h => hcx.stable Λ K O W K' W' h, fun _ K O W h => hcx.bound Λ K O W h⟩
    (fun lvl h e => by cases e) H hb ha hi hd hlf⟩

/-- The engine, with calls said ahead. -/
noncomputable def callT (E : Env) (L : List Ent) : Nat → CallF
  | 0 => fun _ _ _ _ _ => none
  | n + 1 => fun f args σ hs Λ => match findE L f args σ with
    | some e => some (e.v, ⟨(putObs σ e.put).t, e.n1⟩, Λ)
    | none => bodyN E (callT E L n) f args σ hs Λ

theorem callT_ok (hE : EnvOK P E) (hX : ExtOK P E) (hN : NameOK E) (hmix : P.follows .mixedOrders = true) {L : List Ent} (hL : ∀ e ∈ L, EntOK P E e) : ∀ n, CallOK P E (callT E L n)
  | 0 => by intro f args σ hs Λ v σ' Λ' h; simp [callT] at h
  | n + 1 => by
    have ih := callT_ok hE hX hN hmix hL n
    intro f args σ hs Λ v σ' Λ' h
    simp only [callT] at h
    split at h
    · rename_i e hf
      simp only [Option.some.injEq, Prod.mk.injEq] at h; obtain ⟨rfl, rfl, rfl⟩ := h
      obtain ⟨h1, rfl, rfl, h4, h5⟩ := findE_spec hf
      intro base inv V A O W hcx hh H hb ha hi hd hlf
      exact hL e h1 σ h4 h5 base inv V A O W Λ hcx H hb ha hi hd hlf
    · exact body_ok hE hX hN ih (code_ok hE hmix _ ih) f args σ hs Λ v σ' Λ' h
end
end Go.Eng

/-
  THE ENGINE, 56: calls said ahead, made for the kernel.
-/
namespace Go.Eng
open Go

attribute [local irreducible] upTo

noncomputable def stepF (E : Env) (call : CallF) : CallF := fun f args σ hs Λ => Option.rec (motive := fun _ => RF) (Option.rec (motive := fun _ => RF) none (fun fn => funcF E call hs args σ Λ fn) (E.fn f)) (fun v => some (v, σ, Λ)) (E.ext f args)

theorem stepF_eq (E : Env) (call : CallF) : stepF E call = bodyN E call := by
  funext f args σ hs Λ
  unfold stepF bodyN
  cases E.ext f args with
  | some v => rfl
  | none =>
    simp only
    cases E.fn f with
    | none => rfl
    | some fn =>
      simp only [funcF]
      cases fn.body with
      | none => rfl
      | some body =>
        simp only [bodyF]
        have e := execF_eq (E := E) (call := call) body hs ⟨tmps0 fn.ntmps (.full (dep fn.ntmps)) 0 args, σ, [], Λ, args.length + (fn.ntmps - args.length), false⟩
        simp only at e
        rw [e]
        cases exec E call body hs ⟨tmps0 fn.ntmps (.full (dep fn.ntmps)) 0 args, σ, [], Λ, args.length + (fn.ntmps - args.length), false⟩ with
        | none => rfl
        | some r =>
          obtain ⟨e, st⟩ := r
          cases e with
          | exit i => rfl
          | normal => exact finF_eq _ _
          | ret => exact finF_eq _ _

noncomputable def findF (L : List Ent) (f : Nat) (args : List AV) (σ : Hp) : Option Ent :=
  List.rec (motive := fun _ => Option Ent) none (fun e _ ih => Bool.rec (motive := fun _ => Option Ent) ih (Bool.rec (motive := fun _ => Option Ent) ih (Bool.rec (motive := fun _ => Option Ent) ih (Bool.rec (motive := fun _ => Option Ent) ih (some e) (hasAll σ e.need)) (avbeqL e.args args)) (Nat.beq e.n0 σ.n)) (Nat.beq e.f f)) L

theorem findF_eq : ∀ (L : List Ent) (f : Nat) (args : List AV) (σ : Hp), findF L f args σ = findE L f args σ
  | [], f, args, σ => rfl
  | e :: L, f, args, σ => by
    have ih := findF_eq L f args σ
    show @Bool.rec (fun _ => Option Ent) (findF L f args σ) (@Bool.rec (fun _ => Option Ent) (findF L f args σ) (@Bool.rec (fun _ => Option Ent) (findF L f args σ) (@Bool.rec (fun _ => Option Ent) (findF L f args σ) (some e) (hasAll σ e.need)) (avbeqL e.args args)) (Nat.beq e.n0 σ.n)) (Nat.beq e.f f) = _
    rw [ih]
    simp only [findE]
    cases Nat.beq e.f f <;> cases Nat.beq e.n0 σ.n <;> cases avbeqL e.args args <;> cases hasAll σ e.need <;> rfl

noncomputable def sayF (Λ : List LF) (e : Ent) (σ : Hp) : RF := some (e.v, ⟨(putObs σ e.put).t, e.n1⟩, Λ)
noncomputable def callTF (E : Env) (L : List Ent) (n : Nat) : CallF :=
  Nat.rec (motive := fun _ => CallF) (fun _ _ _ _ _ => none) (fun _ ih f args σ hs Λ => Option.rec (motive := fun _ => RF) (stepF E ih f args σ hs Λ) (fun e => sayF Λ e σ) (findF L f args σ)) n

theorem callTF_eq (E : Env) (L : List Ent) : ∀ n, callTF E L n = callT E L n
  | 0 => rfl
  | n + 1 => by
    have ih := callTF_eq E L n
    funext f args σ hs Λ
    show @Option.rec _ (fun _ => RF) (stepF E (callTF E L n) f args σ hs Λ) (fun e => sayF Λ e σ) (findF L f args σ) = _
    have e : callT E L (n + 1) f args σ hs Λ = match findE L f args σ with
      | some e => some (e.v, ⟨(putObs σ e.put).t, e.n1⟩, Λ)
      | none => bodyN E (callT E L n) f args σ hs Λ := rfl
    rw [ih, stepF_eq, findF_eq, e]
    cases findE L f args σ <;> rfl

/-! ### What is asked of the kernel -/

noncomputable def hasKey (i : Nat) (l : Obs) : Bool := List.rec (motive := fun _ => Bool) false (fun x _ ih => Bool.rec (motive := fun _ => Bool) ih true (Nat.beq x.1 i)) l
noncomputable def keepAll (σ : Hp) (put : Obs) : Obs → Bool
  | [] => true
  | (i, o) :: l => match hasKey i put with
    | true => keepAll σ put l
    | false => match σ.get i with
      | some o' => match aobeq o o' with
        | true => keepAll σ put l
        | false => false
      | none => false

theorem hasKey_spec {i : Nat} : ∀ {l : Obs}, hasKey i l = true → ∃ o, (i, o) ∈ l
  | [], h => by cases h
  | (j, o) :: l, h => by
    have h' : @Bool.rec (fun _ => Bool) (hasKey i l) true (Nat.beq j i) = true := h
    cases e : Nat.beq j i with
    | true => have := Nat.eq_of_beq_eq_true e; subst this; exact ⟨o, List.mem_cons_self⟩
    | false =>
      rw [e] at h'
      obtain ⟨o', h2⟩ := hasKey_spec (l := l) h'
      exact ⟨o', List.mem_cons_of_mem _ h2⟩
theorem keepAll_spec {σ : Hp} {put : Obs} : ∀ {l : Obs}, keepAll σ put l = true → ∀ i o, (i, o) ∈ l → (∃ o', (i, o') ∈ put) ∨ σ.get i = some o
  | [], _, i, o, hm => by cases hm
  | (j, o') :: l, h, i, o, hm => by
    simp only [keepAll] at h
    split at h
    · rename_i e
      rcases List.mem_cons.1 hm with e' | hm
      · simp only [Prod.mk.injEq] at e'; obtain ⟨rfl, rfl⟩ := e'
        exact .inl (hasKey_spec e)
      · exact keepAll_spec h i o hm
    · split at h
      · rename_i o2 hg
        split at h
        · rename_i e
          rcases List.mem_cons.1 hm with e' | hm
          · simp only [Prod.mk.injEq] at e'; obtain ⟨rfl, rfl⟩ := e'
            exact .inr (by rw [hg, aobeq_eq e])
          · exact keepAll_spec h i o hm
        · cases h
      · cases h

noncomputable def ansE (e : Ent) (r : RF) : Bool :=
  match r with
  | some (w, σ, []) => match avbeq w e.v, hasAll σ e.put, keepAll σ e.put e.need with
    | true, true, true => Nat.ble σ.n e.n1
    | _, _, _ => false
  | _ => false
noncomputable def entF (E : Env) (L : List Ent) (n : Nat) (e : Ent) : Bool := ansE e (callTF E L n e.f e.args e.pre [] [])

section
variable {P : Program} {E : Env}

theorem ent_of (hE : EnvOK P E) (hX : ExtOK P E) (hN : NameOK E) (hmix : P.follows .mixedOrders = true) {L : List Ent} (hL : ∀ e ∈ L, EntOK P E e) {n : Nat} {e : Ent} (h : entF E L n e = true) : EntOK P E e := by
  unfold entF at h
  rw [callTF_eq] at h
  unfold ansE at h
  split at h
  · rename_i w σ hc
    split at h
    · rename_i h1 h2 h3
      have := avbeq_eq _ _ h1; subst this
      exact EntOK.of (callT_ok hE hX hN hmix hL n) hc (hasAll_spec h2) (keepAll_spec h3) (Nat.le_of_ble_eq_true h)
    · cases h
  · cases h

/-- Is the answer of a law of no parameters true, with calls said ahead? -/
noncomputable def isTrueT (E : Env) (L : List Ent) (n f : Nat) : Bool :=
  match E.ext f [], stepF E (callTF E L n) f [] .empty [] [] with
  | none, some (.bool true, _, []) => true
  | _, _ => false

theorem calls_trueT (hE : EnvOK P E) (hX : ExtOK P E) (hN : NameOK E) (hmix : P.follows .mixedOrders = true) {L : List Ent} (hL : ∀ e ∈ L, EntOK P E e) {n f : Nat} (h : isTrueT E L n f = true) {V : View} {W : World} (hK : ∀ b o x, V.K b o = some x → W.cell? ⟨b, o, none⟩ = some x) (hg : GlobK E V) :
    Calls P f #[] W fun e W' => e = .returned (.bool true) ∧ Fr (fun _ => False) W W' := by
  unfold isTrueT at h
  rw [stepF_eq, callTF_eq] at h
  split at h
  · rename_i σ h1 h2
    refine (calls_of hE hN hmix (callT_ok hE hX hN hmix hL n) h1 h2 (.nil V) rfl hK hg).mono fun e W' ⟨V', R, he, hv, hf⟩ => ?_
    cases hv
    exact ⟨he, hf⟩
  · cases h

theorem ents_nil : ∀ e ∈ ([] : List Ent), EntOK P E e := fun e he => by cases he
theorem ents_cons {e : Ent} {L : List Ent} (h : EntOK P E e) (hL : ∀ e ∈ L, EntOK P E e) : ∀ e' ∈ e :: L, EntOK P E e' := fun e' he => by
  rcases List.mem_cons.1 he with rfl | he
  · exact h
  · exact hL e' he
end
end Go.Eng

/-
  THE ENGINE, 57: maps of several entries, gone through in whichever order.
-/
namespace Go.Eng
open Go

attribute [local irreducible] upTo

/-! ### What the next entry can be -/

noncomputable def oldAll (since : Nat) : List ((AV × AV) × Nat) → Bool
  | [] => true
  | z :: l => match Nat.ble since z.2 with
    | true => false
    | false => oldAll since l
noncomputable def nextL (τ : Tmps) (σ : Hp) (x : Operand) : Option (List (AV × Hp)) :=
  match ev τ x with
  | some (.iter id) => match σ.get id with
    | some (.miter m since seen last) => match σ.get m with
      | some (.cmap es bs ck) => match (match seen, es with | [], _ => false | _, [] => false | _, _ => allB last bs) with
        | true => none
        | false => match leftM es bs seen with
          | [] => some [(.tup [.bool false], σ)]
          | y :: l => match oldAll since (y :: l) with
            | true => some ((y :: l).map fun z => (.tup [.bool true, z.1.1, z.1.2], σ.set id (.miter m since (seen ++ [z.2]) ck)))
            | false => none
      | _ => none
    | _ => none
  | _ => none

section
variable {P : Program} {E : Env} {base : Nat} {V : View} {σ : Hp} {W : World} {τ : Tmps} {ρ : Operand → Value}
variable {dst : Option Tmp} {ty : TypeId} {pos : String} {after : Array Edge} {guard : Option (Nat × Bool)}

theorem oldAll_spec {since : Nat} : ∀ {l : List ((AV × AV) × Nat)}, oldAll since l = true → ∀ z ∈ l, z.2 < since
  | [], _, z, hz => by cases hz
  | y :: l, h, z, hz => by
    simp only [oldAll] at h
    split at h
    · cases h
    · rename_i hb
      rcases List.mem_cons.1 hz with rfl | hz
      · have : ¬ since ≤ z.2 := fun e => by rw [Nat.ble_eq_true_of_le e] at hb; cases hb
        omega
      · exact oldAll_spec h z hz

theorem left_all {seen : List Nat} : ∀ {es : List (AV × AV)} {en : List MapEntry}, VRs V (es.map (·.1)) (en.map (·.key)) → VRs V (es.map (·.2)) (en.map (·.val)) →
    (leftM es (en.map (·.born)) seen).length = (en.filter fun e => !seen.contains e.born).length ∧
    ∀ (j : Nat) (e : MapEntry), (en.filter fun e => !seen.contains e.born)[j]? = some e → ∃ k v, (leftM es (en.map (·.born)) seen)[j]? = some ((k, v), e.born) ∧ VR V k e.key ∧ VR V v e.val
  | [], [], _, _ => ⟨rfl, fun j e h => by rw [List.filter_nil] at h; simp at h⟩
  | [], _ :: _, h, _ => absurd h.1 (by simp)
  | _ :: _, [], h, _ => absurd h.1 (by simp)
  | (k, v) :: es, e :: en, h1, h2 => by
    obtain ⟨A, As, ea, hx, h1'⟩ := h1.cons_inv
    obtain ⟨B, Bs, eb, hv, h2'⟩ := h2.cons_inv
    simp only [List.map_cons, List.cons.injEq] at ea eb
    obtain ⟨rfl, rfl⟩ := ea
    obtain ⟨rfl, rfl⟩ := eb
    obtain ⟨i1, i2⟩ := left_all (seen := seen) h1' h2'
    simp only [List.map_cons, leftM, memN_eq]
    cases hc : seen.contains e.born with
    | true =>
      rw [List.filter_cons_of_neg (by simp only [hc]; decide)]
      exact ⟨i1, i2⟩
    | false =>
      rw [List.filter_cons_of_pos (by simp only [hc]; rfl)]
      refine ⟨by simp only [List.length_cons, i1], fun j e' h => ?_⟩
      cases j with
      | zero =>
        simp only [List.getElem?_cons_zero, Option.some.injEq] at h; subst h
        exact ⟨k, v, rfl, hx, hv⟩
      | succ j =>
        rw [List.getElem?_cons_succ] at h
        exact i2 j e' h

theorem run_choose_next {n : Nat} (hn : 0 < n) : ∃ i W1, i < n ∧ (W1 = W ∨ W1 = W.drew) ∧ (choose (.mapNext n)).run P W = .ok i W1 := by
  cases h : (Question.mapNext n).forced with
  | true =>
    refine ⟨0, W, hn, .inl rfl, ?_⟩
    rw [run_choose, if_pos h]
  | false =>
    refine ⟨W.tape W.drawn (.mapNext n) % n, W.drew, Nat.mod_lt _ hn, .inr rfl, ?_⟩
    rw [run_choose, if_neg (by rw [h]; decide)]; rfl

variable (hE : EnvOK P E) (H : HR E base V σ W) (hb : base ≤ W.heap.size) (hρ : EvR V τ ρ)
include hE H hb hρ
theorem s_nextL (x : Operand) {L : List (AV × Hp)} (h : nextL τ σ x = some L) : ∃ r ∈ L, OpOK P E base V σ W ((execOp ρ ⟨dst, .next x false, ty, pos, after, guard⟩).run P W) (.val r.1 r.2) := by
  unfold nextL at h
  split at h
  · rename_i id hx
    split at h
    · rename_i m since seen last hget
      split at h
      · rename_i es bs ck hgm
        obtain ⟨blk, sh, hm, hbase, hlt, rfl, mb, hmb, hobj⟩ := H.obj _ _ hget (by simp)
        obtain ⟨blk2, sh2, hm2, _, hlt2, rfl, en, hobj2, hv1, hv2, rfl⟩ := H.obj _ _ hgm (by simp)
        rw [hmb] at hm2; simp only [Option.some.injEq, Prod.mk.injEq, and_true] at hm2; subst hm2
        have hX : ρ x = .pointer (some ⟨blk, 0, none⟩) := by
          have := hρ x _ hx
          generalize ρ x = X at this
          cases this with
          | iter _ blk' hm' => rw [hm] at hm'; simp only [Option.some.injEq, Prod.mk.injEq, and_true] at hm'; subst hm'; rfl
        have hg := getObj_run (P := P) hE H hb hρ hobj (by intro c t f e; cases e)
        have hg2 := getObj_run (P := P) hE H hb hρ hobj2 (by intro c t f e; cases e)
        split at h
        · cases h
        · rename_i hcond
          have hc : (!seen.toArray.isEmpty && !en.isEmpty && en.all (fun e => decide (e.born ≥ last))) = false := by
            cases seen with
            | nil => rfl
            | cons a seen =>
              cases hes : es with
              | nil =>
                subst hes
                have : en.toList.length = 0 := by have := hv1.1; simpa using this.symm
                have : en = #[] := Array.toList_eq_nil_iff.1 (List.eq_nil_of_length_eq_zero this)
                subst this; simp
              | cons y es' =>
                rw [hes] at hcond
                simp only [allB_eq] at hcond
                have : en.all (fun e => decide (e.born ≥ last)) = false := by
                  rw [← Array.all_toList]
                  rw [List.all_map] at hcond
                  exact hcond
                rw [this, Bool.and_false]
          obtain ⟨hll, hls⟩ := left_all (V := V) (seen := seen) hv1 hv2
          have hfilt : en.filter (fun e => !seen.toArray.contains e.born) = (en.toList.filter fun e => !seen.contains e.born).toArray := by
            apply Array.ext'
            rw [Array.toList_filter]
            simp
          split at h
          · rename_i hl
            simp only [Option.some.injEq] at h; subst h
            rw [hl] at hll
            refine ⟨_, List.mem_cons_self, .same H (v' := .tuple #[.bool false]) ?_ (VR.tup' (A := [.bool false]) (.cons (.bool _) (.nil _)))⟩
            have hf0 : en.filter (fun e => !seen.toArray.contains e.born) = #[] := by rw [hfilt, List.eq_nil_of_length_eq_zero hll.symm]
            simp only [execOp, Instr.next, hX, Sem.run_bind, hg, hg2, Result.andThen_ok, hc, Bool.false_eq_true, if_false, hf0]
            simp [Question.forced]
          · rename_i y l hl
            split at h
            · rename_i hold
              simp only [Option.some.injEq] at h; subst h
              rw [hl] at hll hls
              have hold' := oldAll_spec hold
              -- all entries that are left are old
              have hF : ∀ e ∈ en.toList.filter (fun e => !seen.contains e.born), e.born < since := fun e he => by
                obtain ⟨j, hj, hje⟩ := List.getElem_of_mem he
                obtain ⟨k, v, h1, _, _⟩ := hls j e (by rw [List.getElem?_eq_getElem hj, hje])
                exact hold' _ (List.mem_of_getElem? h1)
              obtain ⟨i, W1, hi, hW1, hch⟩ := run_choose_next (P := P) (W := W) (n := (en.toList.filter fun e => !seen.contains e.born).length) (by rw [← hll]; exact Nat.succ_pos _)
              have he : (en.toList.filter fun e => !seen.contains e.born)[i]? = some ((en.toList.filter fun e => !seen.contains e.born)[i]) := List.getElem?_eq_getElem hi
              obtain ⟨k, v, h1, hk, hv⟩ := hls i _ he
              refine ⟨_, List.mem_map.2 ⟨_, List.mem_of_getElem? h1, rfl⟩, ?_⟩
              generalize hee : (en.toList.filter fun e => !seen.contains e.born)[i] = e at he h1 hk hv
              have H1 : HR E base V σ W1 := by
                rcases hW1 with rfl | rfl
                · exact H
                · exact H.drew
              have hobj1 : W1.heap[blk]? = some (.mapIter (some mb) since seen.toArray last) := by rcases hW1 with rfl | rfl <;> exact hobj
              have hb1 : base ≤ W1.heap.size := by rcases hW1 with rfl | rfl <;> exact hb
              have hlt1 : blk < W1.heap.size := by rcases hW1 with rfl | rfl <;> exact hlt
              have hset := setObj_run (P := P) hE H1 hb1 hρ hobj1 (by intro c t f e; cases e) (o' := .mapIter (some mb) since (seen ++ [e.born]).toArray ck)
              have hup := upd_obj hE H1 hb1 hρ hget (by simp) hm hobj1 (by intro c t f e; cases e) (obj' := .mapIter (some mb) since (seen ++ [e.born]).toArray ck) (o' := .miter m since (seen ++ [e.born]) ck) ⟨rfl, mb, hmb, by simp [hlt1]⟩
              have hstp : Stp E base V σ W V (σ.set id (.miter m since (seen ++ [e.born]) ck)) { W1 with heap := W1.heap.setIfInBounds blk (.mapIter (some mb) since (seen ++ [e.born]).toArray ck) } := by
                rcases hW1 with h1 | h1
                · rw [h1] at hup ⊢; exact hup
                · rw [h1] at hup ⊢; exact hup.of_drew
              refine ⟨V, _, .tuple #[.bool true, e.key, e.val], ?_, hstp, VR.tup' (A := [.bool true, e.key, e.val]) (.cons (.bool _) (.cons hk (.cons hv (.nil _))))⟩
              have hfs : en.filter (fun e => !seen.toArray.contains e.born) = (en.toList.filter fun e => !seen.contains e.born).toArray := hfilt
              generalize hFL : (en.toList.filter fun e => !seen.contains e.born) = F at hfs hF hi hch hee he hll
              have o1 : F.toArray.filter (fun x => decide (x.born < since)) = F.toArray := by
                apply Array.ext'
                rw [Array.toList_filter]
                exact List.filter_eq_self.2 fun e he => decide_eq_true (hF e he)
              have o2 : F.toArray.filter (fun x => decide (x.born ≥ since)) = #[] := by
                apply Array.ext'
                rw [Array.toList_filter]
                exact List.filter_eq_nil_iff.2 fun e he => by have := hF e he; simp; omega
              have hne : F.toArray.isEmpty = false := by
                cases F with
                | nil => simp at hi
                | cons a F => rfl
              simp only [execOp, Instr.next, hX, Sem.run_bind, hg, hg2, Result.andThen_ok, hc, Bool.false_eq_true, if_false, hfs, o1, o2, hne, Array.append_empty, Array.empty_append]
              have e3 : (Array.map some F.toArray).size = F.length := by simp
              have e4 : (Array.map some F.toArray)[i]? = some (some e) := by simp [he]
              simp only [e3, hch, Result.andThen_ok, e4, Sem.run_bind]
              rw [← List.push_toArray] at hset
              simp only [hset, Result.andThen_ok, Sem.run_pure]
              rw [List.push_toArray]
            · cases h
      · cases h
    · cases h
  · cases h
end
end Go.Eng

/-
  THE ENGINE, 58: codes that go through maps of several entries: all that they can come to.
-/
namespace Go.Eng
open Go

attribute [local irreducible] upTo

noncomputable def optL {α : Type} (o : Option α) : Option (List α) :=
  match o with
  | some a => some [a]
  | none => none
/-- All that follows from all that is. -/
noncomputable def bindL {α β : Type} (f : α → Option (List β)) : List α → Option (List β)
  | [] => some []
  | a :: l => match f a with
    | some x => match bindL f l with
      | some y => some (x ++ y)
      | none => none
    | none => none
theorem bindL_mem {α β : Type} {f : α → Option (List β)} : ∀ {l : List α} {r : List β}, bindL f l = some r → ∀ a ∈ l, ∃ x, f a = some x ∧ ∀ b ∈ x, b ∈ r
  | [], r, _, a, ha => by cases ha
  | b :: l, r, h, a, ha => by
    simp only [bindL] at h
    split at h
    · rename_i x hx
      split at h
      · rename_i y hy
        simp only [Option.some.injEq] at h; subst h
        rcases List.mem_cons.1 ha with rfl | ha
        · exact ⟨x, hx, fun b hb => List.mem_append_left _ hb⟩
        · obtain ⟨x', h1, h2⟩ := bindL_mem hy a ha
          exact ⟨x', h1, fun b hb => List.mem_append_right _ (h2 b hb)⟩
      · cases h
    · cases h

/-- Is it the next entry of a map? -/
noncomputable def isNextM : Op → Option Operand
  | .next x false => some x
  | _ => none
theorem isNextM_eq {o : Op} {x : Operand} (h : isNextM o = some x) : o = .next x false := by
  unfold isNextM at h
  split at h
  · simp only [Option.some.injEq] at h; subst h; rfl
  · cases h

noncomputable def oneOpL (E : Env) (call : CallF) (hs : Hnds) (ops : Array Oper) (o : Oper) (st : St) : Option (List St) :=
  match isNextM o.op with
  | some x => match wantedA ops st.τ o with
    | some true => match nextL st.τ st.σ x with
      | some l => bindL (fun r => optL (putS { st with σ := r.2 } o.dst r.1)) l
      | none => none
    | _ => none
  | none => optL (oneOp E call hs ops o st)
noncomputable def runOpsL (E : Env) (call : CallF) (hs : Hnds) (ops : Array Oper) : List Oper → St → Option (List St)
  | [], st => some [st]
  | o :: os, st => match oneOpL E call hs ops o st with
    | some l => bindL (runOpsL E call hs ops os) l
    | none => none

abbrev Outs := List (Ex × St)
noncomputable def thenL (f : St → Option Outs) (r : Ex × St) : Option Outs :=
  match r.1 with
  | .normal => f r.2
  | _ => some [r]
noncomputable def roundsL (f : St → Option Outs) : Nat → St → Option Outs
  | 0, _ => none
  | n + 1, st => match f st with
    | some l => bindL (thenL (roundsL f n)) l
    | none => none
noncomputable def leaveL (i : Nat) (r : Ex × St) : Ex × St :=
  match r.1 with
  | .exit j => ((match Nat.beq j i with | true => .normal | false => .exit j), r.2)
  | _ => r
noncomputable def execL (E : Env) (call : CallF) (hs : Hnds) : Code → St → Option Outs
  | .seq a b, st => match execL E call hs a st with
    | some l => bindL (thenL (execL E call hs b)) l
    | none => none
  | .cond c a b, st => match ev st.τ c with
    | some (.bool true) => execL E call hs a st
    | some (.bool false) => execL E call hs b st
    | _ => none
  | .block i b, st => match execL E call hs b st with
    | some l => some (l.map (leaveL i))
    | none => none
  | .scope b, st => execL E call hs b st
  | .loop b, st => roundsL (execL E call hs b) 24 st
  | .region i ops false, st => match runOpsL E call hs ops ops.toList st with
    | some l => some (l.map fun s => (.normal, s))
    | none => none
  | c, st => optL (exec E call c hs st)

section
variable {P : Program} {E : Env} {call : CallF} {base : Nat} {hs : Hnds}

theorem optL_mem {α : Type} {o : Option α} {l : List α} (h : optL o = some l) : ∃ a, o = some a ∧ a ∈ l := by
  unfold optL at h
  split at h
  · rename_i a
    simp only [Option.some.injEq] at h; subst h
    exact ⟨a, rfl, List.mem_cons_self⟩
  · cases h

theorem oneOpL_spec (hE : EnvOK P E) {inv : Inv} (hcx : CxOK inv) (hcall : CallOK P E call) {V : View} {st : St} {A : Array Value} {DS : List Deferred} {M : List Nat} {O : OO} {W : World} (h : SR E base inv V st A DS M O W) (hh : HOK P E base inv V hs) {ops : Array Oper} {i : Nat} {o : Oper} (ho : ops[i]? = some o)
    {l : List St} (hd : oneOpL E call hs ops o st = some l) :
    ∃ st' ∈ l, ∃ V' A' DS' O' W', SR E base inv V' st' A' DS' M O' W' ∧ Prg V st.σ O W V' st'.σ O' W' ∧ st'.rnd = st.rnd ∧
      ∀ fn b cs k rest, BOK fn st.rnd b cs → Steps P (lone (mkF b A DS (.inRegion ops (i :: rest) :: k)) cs W) (lone (mkF b A' DS' (.inRegion ops rest :: k)) cs W') := by
  unfold oneOpL at hd
  split at hd
  · rename_i x hx
    have hop := isNextM_eq hx
    split at hd
    · rename_i hw
      have hw' := wanted_spec h hw
      split at hd
      · rename_i L hn
        have hnd : ∀ c, o.op ≠ .defer c := by intro c e; rw [hop] at e; cases e
        have key : ∃ r ∈ L, OpOK P E base V st.σ W ((execOp (mkF default A DS []).eval o).run P W) (.val r.1 r.2) := by
          obtain ⟨op, dst, ty, pos, after, guard⟩ := o
          simp only at hop; subst hop
          exact s_nextL hE h.hr h.bs (h.evR default) x hn
        obtain ⟨r, hr, V1, W1, v1, e1, s1, r1⟩ := key
        obtain ⟨a, ha, hm⟩ := bindL_mem hd r hr
        obtain ⟨st', hp, hst'⟩ := optL_mem ha
        have hS := h.stp hcx s1
        obtain ⟨g1, g2, g3⟩ := hS.put r1 hp
        refine ⟨st', hm _ hst', V1, _, DS, O, W1, g1, by rw [g2]; exact .of_stp s1 (hcx.bound _ _ _ _ h.cx), g3, fun fn b cs k rest hb => .one (st_value ho hw' (.inr hnd) ?_)⟩
        have : (mkF b A DS []).eval = (mkF default A DS []).eval := by funext x; rw [mkF_eval, mkF_eval]
        rw [this]; exact e1
      · cases hd
    · cases hd
  · obtain ⟨st', h1, h2⟩ := optL_mem hd
    exact ⟨st', h2, oneOp_spec hE hcx hcall h hh ho h1⟩

theorem runOpsL_spec (hE : EnvOK P E) {inv : Inv} (hcx : CxOK inv) (hcall : CallOK P E call) {ops : Array Oper} {M : List Nat} : ∀ (os : List Oper) (n : Nat) {V : View} {st : St} {l : List St} {A : Array Value} {DS : List Deferred} {O : OO} {W : World},
    ops.toList.drop n = os → SR E base inv V st A DS M O W → HOK P E base inv V hs → runOpsL E call hs ops os st = some l →
    ∃ st' ∈ l, ∃ V' A' DS' O' W', SR E base inv V' st' A' DS' M O' W' ∧ Prg V st.σ O W V' st'.σ O' W' ∧ st'.rnd = st.rnd ∧
      ∀ fn b cs k, BOK fn st.rnd b cs → Steps P (lone (mkF b A DS (.inRegion ops (List.range' n os.length) :: k)) cs W) (lone (mkF b A' DS' k) cs W')
  | [], n, V, st, l, A, DS, O, W, hos, h, hh, hd => by
    simp only [runOpsL, Option.some.injEq] at hd; subst hd
    exact ⟨st, List.mem_cons_self, V, A, DS, O, W, h, .refl _ _ _ _, rfl, fun fn b cs k hb => .one st_region_end⟩
  | o :: os, n, V, st, l, A, DS, O, W, hos, h, hh, hd => by
    simp only [runOpsL] at hd
    split at hd
    · rename_i l1 h1
      have ho : ops[n]? = some o := by
        have : (ops.toList.drop n)[0]? = some o := by rw [hos]; rfl
        rw [List.getElem?_drop] at this
        simpa using this
      have hos' : ops.toList.drop (n + 1) = os := by
        have : (ops.toList.drop n).drop 1 = os := by rw [hos]; rfl
        rw [List.drop_drop] at this; exact this
      obtain ⟨st1, m1, V1, A1, DS1, O1, W1, s1, p1, r1, g1⟩ := oneOpL_spec hE hcx hcall h hh ho h1
      obtain ⟨x, hx, hm⟩ := bindL_mem hd st1 m1
      obtain ⟨st2, m2, V2, A2, DS2, O2, W2, s2, p2, r2, g2⟩ := runOpsL_spec hE hcx hcall os (n + 1) hos' s1 (hh.mono p1.le) hx
      exact ⟨st2, hm _ m2, V2, A2, DS2, O2, W2, s2, p1.trans p2, r2.trans r1, fun fn b cs k hb => (g1 fn b cs k _ hb).trans (g2 fn b cs k (by rw [r1]; exact hb))⟩
    · cases hd

/-- One of these is what the code comes to. -/
def CodeL (P : Program) (E : Env) (base : Nat) (hs : Hnds) (f : St → Option Outs) (c : Code) : Prop :=
  ∀ inv, CxOK inv → ∀ V st l A DS M O W fn rl, RLOK inv rl → f st = some l → SR E base inv V st A DS M O W → HOK P E base inv V hs →
    ∃ r ∈ l, ∃ V' A' DS' M' O' W', Left E base inv V st M O W V' r.2 A' DS' M' O' W' ∧ ∀ b cs k, BOK fn st.rnd b cs ∧ b.roundOf = rl → Arr P (lone (mkF b A DS (.code c :: k)) cs W) b A' DS' k cs W' r.1

theorem CodeL.one {f : St → Option Outs} {c : Code} (h : CodeOK P E call base hs c) (hf : ∀ st, f st = optL (exec E call c hs st)) : CodeL P E base hs f c := by
  intro inv hcx V st l A DS M O W fn rl hrl hl hS hh
  rw [hf] at hl
  obtain ⟨⟨e, st'⟩, h1, h2⟩ := optL_mem hl
  obtain ⟨V1, A1, DS1, M1, O1, W1, L1, g1⟩ := h inv hcx V st st' e A DS M O W fn rl hrl h1 hS hh
  exact ⟨_, h2, V1, A1, DS1, M1, O1, W1, L1, g1⟩

theorem CodeL.seq {f g : St → Option Outs} {x y : Code} (hx : CodeL P E base hs f x) (hy : CodeL P E base hs g y) : CodeL P E base hs (fun st => match f st with | some l => bindL (thenL g) l | none => none) (.seq x y) := by
  intro inv hcx V st l A DS M O W fn rl hrl h hS hh
  simp only at h
  split at h
  · rename_i l1 h1
    obtain ⟨⟨e1, st1⟩, m1, V1, A1, DS1, M1, O1, W1, L1, g1⟩ := hx inv hcx V st l1 A DS M O W fn rl hrl h1 hS hh
    obtain ⟨a, ha, hm⟩ := bindL_mem h _ m1
    cases he : e1 with
    | normal =>
      subst he
      obtain ⟨⟨e2, st2⟩, m2, V2, A2, DS2, M2, O2, W2, L2, g2⟩ := hy inv hcx V1 st1 a A1 DS1 M1 O1 W1 fn rl hrl ha L1.sr (hh.mono L1.pr.le)
      exact ⟨_, hm _ m2, V2, A2, DS2, M2, O2, W2, L1.trans L2, fun b cs k hb => .of_steps (.head st_seq (g1 b cs (.code y :: k) hb)) (g2 b cs k ⟨by rw [L1.rnd]; exact hb.1, hb.2⟩)⟩
    | exit j =>
      subst he
      simp only [thenL, Option.some.injEq] at ha; subst ha
      exact ⟨_, hm _ List.mem_cons_self, V1, A1, DS1, M1, O1, W1, L1, fun b cs k hb => .of_steps (.one st_seq) (Arr.behind (k := .code y :: k) (by simp) (fun i _ => rfl) (g1 b cs (.code y :: k) hb))⟩
    | ret =>
      subst he
      simp only [thenL, Option.some.injEq] at ha; subst ha
      exact ⟨_, hm _ List.mem_cons_self, V1, A1, DS1, M1, O1, W1, L1, fun b cs k hb => .of_steps (.one st_seq) (Arr.behind (k := .code y :: k) (by simp) (fun i _ => rfl) (g1 b cs (.code y :: k) hb))⟩
  · cases h

theorem CodeL.scope {f : St → Option Outs} {x : Code} (hx : CodeL P E base hs f x) : CodeL P E base hs f (.scope x) := by
  intro inv hcx V st l A DS M O W fn rl hrl h hS hh
  obtain ⟨⟨e, st1⟩, m1, V1, A1, DS1, M1, O1, W1, L1, g1⟩ := hx inv hcx V st l A DS M O W fn rl hrl h hS hh
  refine ⟨_, m1, V1, A1, DS1, M1, O1, W1, L1, fun b cs k hb => .of_steps (.one st_scope) ?_⟩
  have := g1 b cs (.inScope x :: k) hb
  cases e with
  | normal => exact this.trans (.one st_inScope)
  | exit i => exact this.behind (by simp) (fun _ _ => rfl)
  | ret => exact this.behind (by simp) (fun _ _ => rfl)

theorem CodeL.block {i : Nat} {f : St → Option Outs} {x : Code} (hx : CodeL P E base hs f x) : CodeL P E base hs (fun st => match f st with | some l => some (l.map (leaveL i)) | none => none) (.block i x) := by
  intro inv hcx V st l A DS M O W fn rl hrl h hS hh
  simp only at h
  split at h
  · rename_i l1 h1
    simp only [Option.some.injEq] at h; subst h
    obtain ⟨⟨e, st1⟩, m1, V1, A1, DS1, M1, O1, W1, L1, g1⟩ := hx inv hcx V st l1 A DS M O W fn rl hrl h1 hS hh
    refine ⟨_, List.mem_map.2 ⟨_, m1, rfl⟩, V1, A1, DS1, M1, O1, W1, ?_, fun b cs k hb => .of_steps (.one st_block) ?_⟩
    · cases e <;> exact L1
    · have hg := g1 b cs (.inBlock i :: k) hb
      cases e with
      | normal => exact Steps.trans hg (.one st_inBlock)
      | ret => exact Arr.behind (e := .ret) (by simp) (fun _ h => by cases h) hg
      | exit j =>
        obtain ⟨k', h2, h3⟩ := hg
        have hex : exitTo j (.inBlock i :: k) = if (i == j) = true then some k else exitTo j k := rfl
        rw [hex] at h2
        simp only [leaveL]
        cases hij : Nat.beq j i with
        | true =>
          have : j = i := Nat.eq_of_beq_eq_true hij
          subst this
          rw [if_pos (by simp)] at h2
          exact h3.trans (.one (st_exit h2))
        | false =>
          have : j ≠ i := Nat.ne_of_beq_eq_false hij
          rw [if_neg (by simp; exact fun e => this e.symm)] at h2
          exact ⟨k', h2, h3⟩
  · cases h

theorem CodeL.cond {c : Operand} {f g : St → Option Outs} {x y : Code} (hx : CodeL P E base hs f x) (hy : CodeL P E base hs g y) : CodeL P E base hs (fun st => match ev st.τ c with | some (.bool true) => f st | some (.bool false) => g st | _ => none) (.cond c x y) := by
  intro inv hcx V st l A DS M O W fn rl hrl h hS hh
  simp only at h
  split at h
  · rename_i hc
    obtain ⟨r, m1, V1, A1, DS1, M1, O1, W1, L1, g1⟩ := hx inv hcx V st l A DS M O W fn rl hrl h hS hh
    exact ⟨r, m1, V1, A1, DS1, M1, O1, W1, L1, fun b cs k hb => .of_steps (.one (st_cond (t := true) ((hS.evR b c _ hc).bool_inv))) (g1 b cs k hb)⟩
  · rename_i hc
    obtain ⟨r, m1, V1, A1, DS1, M1, O1, W1, L1, g1⟩ := hy inv hcx V st l A DS M O W fn rl hrl h hS hh
    exact ⟨r, m1, V1, A1, DS1, M1, O1, W1, L1, fun b cs k hb => .of_steps (.one (st_cond (t := false) ((hS.evR b c _ hc).bool_inv))) (g1 b cs k hb)⟩
  · cases h

theorem roundsL_spec {f : St → Option Outs} {c : Code} (hc : CodeL P E base hs f c) : ∀ n inv, CxOK inv → ∀ V st l A DS M O W fn rl, RLOK inv rl → roundsL f n st = some l → SR E base inv V st A DS M O W → HOK P E base inv V hs →
    ∃ r ∈ l, ∃ V' A' DS' M' O' W', Left E base inv V st M O W V' r.2 A' DS' M' O' W' ∧ ∀ b cs k, BOK fn st.rnd b cs ∧ b.roundOf = rl → Arr P (lone (mkF b A DS (.code c :: .inLoop c :: k)) cs W) b A' DS' k cs W' r.1
  | 0, inv, hcx, V, st, l, A, DS, M, O, W, fn, rl, hrl, h, hS, hh => by cases h
  | n + 1, inv, hcx, V, st, l, A, DS, M, O, W, fn, rl, hrl, h, hS, hh => by
    simp only [roundsL] at h
    split at h
    · rename_i l1 h1
      obtain ⟨⟨e1, st1⟩, m1, V1, A1, DS1, M1, O1, W1, L1, g1⟩ := hc inv hcx V st l1 A DS M O W fn rl hrl h1 hS hh
      obtain ⟨a, ha, hm⟩ := bindL_mem h _ m1
      cases he : e1 with
      | normal =>
        subst he
        obtain ⟨r, m2, V2, A2, DS2, M2, O2, W2, L2, g2⟩ := roundsL_spec hc n inv hcx V1 st1 a A1 DS1 M1 O1 W1 fn rl hrl ha L1.sr (hh.mono L1.pr.le)
        exact ⟨r, hm _ m2, V2, A2, DS2, M2, O2, W2, L1.trans L2, fun b cs k hb => .of_steps (Steps.trans (g1 b cs (.inLoop c :: k) hb) (.one st_inLoop)) (g2 b cs k ⟨by rw [L1.rnd]; exact hb.1, hb.2⟩)⟩
      | exit j =>
        subst he
        simp only [thenL, Option.some.injEq] at ha; subst ha
        exact ⟨_, hm _ List.mem_cons_self, V1, A1, DS1, M1, O1, W1, L1, fun b cs k hb => Arr.behind (k := .inLoop c :: k) (by simp) (fun _ _ => rfl) (g1 b cs (.inLoop c :: k) hb)⟩
      | ret =>
        subst he
        simp only [thenL, Option.some.injEq] at ha; subst ha
        exact ⟨_, hm _ List.mem_cons_self, V1, A1, DS1, M1, O1, W1, L1, fun b cs k hb => Arr.behind (k := .inLoop c :: k) (by simp) (fun _ _ => rfl) (g1 b cs (.inLoop c :: k) hb)⟩
    · cases h

theorem CodeL.loop {f : St → Option Outs} {x : Code} (n : Nat) (hx : CodeL P E base hs f x) : CodeL P E base hs (roundsL f n) (.loop x) := by
  intro inv hcx V st l A DS M O W fn rl hrl h hS hh
  obtain ⟨r, m1, V1, A1, DS1, M1, O1, W1, L1, g1⟩ := roundsL_spec hx n inv hcx V st l A DS M O W fn rl hrl h hS hh
  exact ⟨r, m1, V1, A1, DS1, M1, O1, W1, L1, fun b cs k hb => .of_steps (.one st_loop) (g1 b cs k hb)⟩

theorem CodeL.region (hE : EnvOK P E) (hcall : CallOK P E call) {i : Nat} {ops : Array Oper} : CodeL P E base hs (fun st => match runOpsL E call hs ops ops.toList st with | some l => some (l.map fun s => (.normal, s)) | none => none) (.region i ops false) := by
  intro inv hcx V st l A DS M O W fn rl hrl h hS hh
  simp only at h
  split at h
  · rename_i l1 h1
    simp only [Option.some.injEq] at h; subst h
    obtain ⟨st1, m1, V1, A1, DS1, O1, W1, s1, p1, r1, g1⟩ := runOpsL_spec hE hcx hcall ops.toList 0 (by simp) hS hh h1
    refine ⟨_, List.mem_map.2 ⟨st1, m1, rfl⟩, V1, A1, DS1, M, O1, W1, ⟨s1, p1, r1, fun _ h => .inl h⟩, fun b cs k hb => ?_⟩
    have := g1 fn b cs k hb.1
    rw [Array.length_toList, ← List.range_eq_range'] at this
    exact .head st_region this
  · cases h

theorem codeL_ok (hE : EnvOK P E) (hmix : P.follows .mixedOrders = true) (hcall : CallOK P E call) (c : Code) : CodeL P E base hs (execL E call hs c) c := by
  induction c with
  | seq a b iha ihb => exact .seq iha ihb
  | cond c a b iha ihb => exact .cond iha ihb
  | block i b ih => exact .block ih
  | scope b ih => exact .scope ih
  | loop b ih => exact .loop 24 ih
  | region id ops d =>
    cases d with
    | false => exact .region hE hcall
    | true => exact .one (code_ok hE hmix call hcall base hs _) (fun _ => rfl)
  | skip => exact .one (code_ok hE hmix call hcall base hs _) (fun _ => rfl)
  | rangeFunc f ps a b iha ihb => exact .one (code_ok hE hmix call hcall base hs _) (fun _ => rfl)
  | exit i => exact .one (code_ok hE hmix call hcall base hs _) (fun _ => rfl)
  | label l => exact .one (code_ok hE hmix call hcall base hs _) (fun _ => rfl)
  | goto l => exact .one (code_ok hE hmix call hcall base hs _) (fun _ => rfl)
  | ret => exact .one (code_ok hE hmix call hcall base hs _) (fun _ => rfl)
  | refuse w => exact .one (code_ok hE hmix call hcall base hs _) (fun _ => rfl)
end
end Go.Eng

/-
  THE ENGINE, 59: calls that go through maps of several entries, said ahead where all that they can come to is the same.
-/
namespace Go.Eng
open Go

attribute [local irreducible] upTo

noncomputable def endL (E : Env) (call : CallF) (hs : Hnds) (fn : Func) (r : Ex × St) : Option (AV × Hp × List LF) :=
  match r.1 with
  | .exit _ => none
  | _ => match runDefers E call hs r.2.ds r.2.σ r.2.Λ with
    | none => none
    | some (σ, Λ) => match resultsA E r.2.τ σ fn.results.toList with
      | some [v] => some (v, σ, Λ)
      | some vs => some (.tup vs, σ, Λ)
      | none => none
noncomputable def bodyL (E : Env) (call : CallF) (f : Nat) (args : List AV) (σ : Hp) (hs : Hnds) (Λ : List LF) : Option (List (AV × Hp × List LF)) :=
  match E.fn f with
  | none => none
  | some fn => match fn.body with
    | none => none
    | some body => match execL E call hs body ⟨tmps0 fn.ntmps (.full (dep fn.ntmps)) 0 args, σ, [], Λ, args.length + (fn.ntmps - args.length), false⟩ with
      | none => none
      | some l => bindL (fun r => optL (endL E call hs fn r)) l

section
variable {P : Program} {E : Env}
theorem bodyL_ok (hE : EnvOK P E) (hN : NameOK E) (hmix : P.follows .mixedOrders = true) {call : CallF} (ih : CallOK P E call) {f : Nat} {args : List AV} {σ : Hp} {hs : Hnds} {Λ : List LF} {l : List (AV × Hp × List LF)} (h : bodyL E call f args σ hs Λ = some l)
    {base : Nat} {inv : Inv} {V : View} {A : List Value} {O : OO} {W : World} (hcx : CxOK inv) (hh : HOK P E base inv V hs) (H : HR E base V σ W) (hb : base ≤ W.heap.size) (ha : VRs V args A) (hi : inv Λ V.K O W) (hd : ∀ b, Own V σ b → ¬ O b) (hlf : LvOK V σ) :
    ∃ r ∈ l, ∃ V' O' W' R, Prg V σ O W V' r.2.1 O' W' ∧ HR E base V' r.2.1 W' ∧ inv r.2.2 V'.K O' W' ∧ (∀ b, Own V' r.2.1 b → ¬ O' b) ∧ LvOK V' r.2.1 ∧ VR V' r.1 R ∧ Goes P f A.toArray W R W' := by
  unfold bodyL at h
  split at h
  · cases h
  · rename_i fn hfn
    split at h
    · cases h
    · rename_i body hbody
      split at h
      · cases h
      · rename_i L hex
        have hf := hE.fn f fn hfn
        have hcf : (callFunc f A.toArray).run P W = .ok (.enter f A.toArray) W := by
          simp [callFunc, Sem.run_bind, hf, hN f fn hfn, hbody]
        have hS : SR E base inv V ⟨tmps0 fn.ntmps (.full (dep fn.ntmps)) 0 args, σ, [], Λ, args.length + (fn.ntmps - args.length), false⟩ (A.toArray ++ Array.replicate (fn.ntmps - A.length) undef) [] [] O W := by
          refine ⟨H, hb, fun t a ht => ?_, by simp [ha.1], .nil, fun r hr => absurd hr (by simp), hi, hd, hlf⟩
          rcases tmps0_spec _ _ _ _ _ _ ht with ⟨j, rfl, hj⟩ | g
          · obtain ⟨X, h1, h2⟩ := ha.get hj
            have : j < A.length := (List.getElem?_eq_some_iff.1 h1).1
            have e : (A.toArray ++ Array.replicate (fn.ntmps - A.length) undef).getD (0 + j) undef = X := by
              rw [Array.getD_eq_getD_getElem?, Nat.zero_add, Array.getElem?_append_left (by simpa using this)]
              simp [h1]
            rw [e]; exact h2
          · rw [Tr.get_full] at g; cases g
        obtain ⟨⟨e, st1⟩, m1, V1, A1, DS1, M1, O1, W1, L1, g1⟩ := codeL_ok (base := base) (hs := hs) hE hmix ih body inv hcx V _ L _ _ _ _ _ f none (fun _ h => by cases h) hex hS hh
        obtain ⟨a, ha', hm⟩ := bindL_mem h _ m1
        obtain ⟨⟨v, σ2, Λ2⟩, hend, hr⟩ := optL_mem ha'
        refine ⟨_, hm _ hr, ?_⟩
        unfold endL at hend
        split at hend
        · cases hend
        · rename_i hne
          simp only at hne g1 L1
          have hret : ∀ kind cs, (kind = .normal ∨ (kind = .deferred ∧ ∃ c rest, cs = c :: rest ∧ c.mode = .returning)) →
              ∃ todo, Steps P (lone (Frame.enter P f A.toArray kind) cs W) (lone (retF (Frame.enter P f A.toArray kind) A1 DS1 todo) cs W1) := by
            intro kind cs hk
            have hent : Frame.enter P f A.toArray kind = mkF (Frame.enter P f A.toArray kind) (A.toArray ++ Array.replicate (fn.ntmps - A.length) undef) [] [.code body] := by
              simp [Frame.enter, mkF, hf, hbody]
            have hro : (Frame.enter P f A.toArray kind).roundOf = none := rfl
            have ha1 := g1 (Frame.enter P f A.toArray kind) cs [] ⟨⟨rfl, rfl, hk⟩, rfl⟩
            rw [← hent] at ha1
            cases e with
            | normal => exact ⟨[], Steps.trans ha1 (.one (st_end hro))⟩
            | exit i => exact absurd rfl (hne i)
            | ret => obtain ⟨k', h2⟩ := ha1; exact ⟨_, h2.trans (.one (st_ret hro))⟩
          split at hend
          · cases hend
          · rename_i σ3 Λ3 hrd
            obtain ⟨V2, O2, W2, S2, p2, o2, g2⟩ := unwind_spec hcx ih L1.sr.ds (View.le.refl V1) (st := st1) L1.sr (hh.mono L1.pr.le) hrd
            have hP := L1.pr.transM p2 (fun r hr => (L1.mg r hr).elim (fun x => absurd x (by simp)) (fun x => x)) o2
            have fin : ∀ vs, resultsA E st1.τ σ3 fn.results.toList = some vs → ∃ R, VR V2 (packA vs) R ∧ Goes P f A.toArray W R W2 := by
              intro vs hvs
              obtain ⟨L, h1, h2⟩ := results_run hE S2 (fn := fn) hvs
              refine ⟨pack L, pack_spec h2, .enter W hcf fun kind caller rest hk => ?_⟩
              obtain ⟨todo, s1⟩ := hret kind (caller :: rest) (hk.imp (fun x => x) (fun x => ⟨x.1, caller, rest, rfl, x.2⟩))
              refine s1.trans ((g2 _ _ _).trans (.one ?_))
              exact un_done (b := Frame.enter P f A.toArray kind) (fn := fn) hf h1 hk
            split at hend
            · rename_i v1 hvs
              simp only [Option.some.injEq, Prod.mk.injEq] at hend; obtain ⟨rfl, rfl, rfl⟩ := hend
              obtain ⟨R, hv, hg⟩ := fin _ hvs
              exact ⟨V2, O2, W2, R, hP, S2.hr, S2.cx, S2.dis, S2.lf, hv, hg⟩
            · rename_i vs hnv hvs
              simp only [Option.some.injEq, Prod.mk.injEq] at hend; obtain ⟨rfl, rfl, rfl⟩ := hend
              obtain ⟨R, hv, hg⟩ := fin _ hvs
              refine ⟨V2, O2, W2, R, hP, S2.hr, S2.cx, S2.dis, S2.lf, ?_, hg⟩
              unfold packA at hv
              split at hv
              · exact absurd rfl (hnv _)
              · exact hv
            · cases hend

/-- Its slices frozen, the answer is what was said. -/
noncomputable def ansL (e : Ent) (r : AV × Hp × List LF) : Bool :=
  match r.2.2, frzArg r.1 r.2.1 with
  | [], (w, σ) => match avbeq w e.v, hasAll σ e.put, keepAll σ e.put e.need with
    | true, true, true => Nat.ble σ.n e.n1
    | _, _, _ => false
  | _, _ => false
noncomputable def allL {α : Type} (g : α → Bool) : List α → Bool
  | [] => true
  | a :: l => match g a with
    | true => allL g l
    | false => false
theorem allL_mem {α : Type} {g : α → Bool} : ∀ {l : List α}, allL g l = true → ∀ a ∈ l, g a = true
  | [], _, a, ha => by cases ha
  | b :: l, h, a, ha => by
    simp only [allL] at h
    split at h
    · rename_i hb
      rcases List.mem_cons.1 ha with rfl | ha
      · exact hb
      · exact allL_mem h a ha
    · cases h
/-- Is all that a call can come to what was said? -/
noncomputable def entL (E : Env) (L : List Ent) (n : Nat) (e : Ent) : Bool :=
  match bodyL E (callTF E L n) e.f e.args e.pre [] [] with
  | some l => allL (ansL e) l
  | none => false

theorem entL_of (hE : EnvOK P E) (hX : ExtOK P E) (hN : NameOK E) (hmix : P.follows .mixedOrders = true) {L : List Ent} (hL : ∀ e ∈ L, EntOK P E e) {n : Nat} {e : Ent} (h : entL E L n e = true) : EntOK P E e := by
  unfold entL at h
  rw [callTF_eq] at h
  split at h
  · rename_i l hl
    refine .gen fun base inv V A O W Λ hcx H hb ha hi hd hlf => ?_
    have hcx' : CxOK (fun _ K O W => inv Λ K O W) := ⟨fun _ K O W K' W' h => hcx.stable Λ K O W K' W' h, fun _ K O W h => hcx.bound Λ K O W h⟩
    obtain ⟨⟨v, σ1, Λ1⟩, hr, V1, O1, W1, R, p1, r1, i1, d1, l1, v1, g1⟩ := bodyL_ok hE hN hmix (callT_ok hE hX hN hmix hL n) hl (inv := fun _ K O W => inv Λ K O W) hcx' (fun lvl h e => by cases e) H hb ha hi hd hlf
    have hans := allL_mem h _ hr
    simp only at p1 r1 i1 d1 l1 v1
    unfold ansL at hans
    simp only at hans
    split at hans
    · rename_i w σ2 hfr
      split at hans
      · rename_i h1 h2 h3
        have he := avbeq_eq _ _ h1
        obtain ⟨V2, hz, hv2⟩ := frzArg_spec v r1 v1
        rw [hfr] at hz hv2
        simp only at hz hv2
        rw [he] at hv2
        refine ⟨σ2, hasAll_spec h2, keepAll_spec h3, Nat.le_of_ble_eq_true hans, V2, O1, W1, R, p1.trans (Prg.of_fz hz O1), hz.hr, ?_, fun b hb => d1 b (hz.ownB hb), fun i x hx => by rw [hz.n]; exact l1 i x (by rw [← hz.lv]; exact hx), hv2, g1⟩
        exact hcx.stable _ _ _ _ _ _ i1 hz.le.K (fun b o v hv => (hz.K b o v hv).imp (fun x => x) (fun ho => d1 b ho)) hz.hr.cell (fun _ _ => rfl) (Nat.le_refl _)
      · cases hans
    · cases hans
  · cases h
end
end Go.Eng

set_option maxRecDepth 100000
namespace Go.Proofs.Ytpnipaimaohiaab
open Go Go.Eng
noncomputable def tyT : Tr KT := (.nd (.nd (.nd (.nd (.nd (.nd (.nd .lf (some .fn) .lf) (some (.struct [⟨0, 3, true⟩, ⟨1, 3, true⟩, ⟨2, 3, true⟩])) (.nd (.nd .lf (some (.struct [⟨0, 158, false⟩])) .lf) (some .fn) .lf)) (some .ptr) (.nd (.nd (.nd .lf (some .fn) .lf) (some .fn) .lf) (some .fn) (.nd .lf (some (.int .u64)) .lf))) (some (.struct [⟨0, 2, true⟩, ⟨1, 3, true⟩, ⟨2, 4, true⟩, ⟨3, 6, true⟩])) (.nd (.nd (.nd (.nd .lf (some (.int .u32)) .lf) (some (.struct [⟨0, 3, true⟩, ⟨1, 3, true⟩, ⟨2, 35, true⟩])) .lf) (some .fn) (.nd (.nd .lf (some (.struct [⟨0, 12, true⟩, ⟨1, 12, true⟩, ⟨2, 135, true⟩, ⟨3, 161, true⟩, ⟨4, 5, true⟩, ⟨5, 5, true⟩, ⟨6, 162, true⟩, ⟨7, 163, true⟩, ⟨8, 164, true⟩, ⟨9, 165, true⟩, ⟨10, 166, true⟩])) .lf) (some .fn) .lf)) (some (.slice 49)) (.nd (.nd (.nd .lf (some .fn) .lf) (some (.slice 99)) .lf) (some .fn) (.nd .lf (some (.arr 3 118)) .lf)))) (some (.int .i64)) (.nd (.nd (.nd (.nd (.nd .lf (some .fn) .lf) (some .fn) .lf) (some (.struct [⟨0, 3, true⟩, ⟨1, 3, true⟩])) (.nd (.nd .lf (some .fn) .lf) (some (.struct [⟨0, 72, true⟩, ⟨4, 3, true⟩])) .lf)) (some (.struct [⟨0, 17, true⟩])) (.nd (.nd (.nd .lf (some .fn) .lf) (some .fn) .lf) (some (.struct [⟨0, 3, true⟩, ⟨1, 3, true⟩, ⟨2, 3, true⟩])) (.nd .lf (some .fn) .lf))) (some .str) (.nd (.nd (.nd (.nd .lf (some .fn) .lf) (some .fn) .lf) (some .fn) (.nd .lf (some .fn) .lf)) (some .fn) (.nd (.nd (.nd .lf (some .fn) .lf) (some .fn) .lf) (some (.arr 31 3)) (.nd .lf (some .fn) .lf))))) (some .fn) (.nd (.nd (.nd (.nd (.nd (.nd .lf (some .fn) .lf) (some (.struct [⟨0, 35, true⟩, ⟨2, 4, true⟩])) .lf) (some .fn) (.nd (.nd .lf (some (.int .u8)) .lf) (some .fn) .lf)) (some .ptr) (.nd (.nd (.nd .lf (some .fn) .lf) (some .fn) .lf) (some (.struct [⟨0, 9, true⟩, ⟨1, 35, true⟩, ⟨3, 35, true⟩, ⟨5, 35, true⟩, ⟨7, 3, true⟩, ⟨8, 3, true⟩])) (.nd .lf (some (.arr 8 4)) .lf))) (some .str) (.nd (.nd (.nd (.nd .lf (some (.int .u64)) .lf) (some .fn) .lf) (some .fn) (.nd .lf (some .fn) .lf)) (some (.struct [⟨0, 22, true⟩, ⟨1, 23, true⟩, ⟨2, 24, true⟩])) (.nd (.nd .lf (some (.struct [⟨0, 26, true⟩, ⟨3, 49, true⟩, ⟨12, 86, true⟩, ⟨42, 87, true⟩])) .lf) (some .fn) (.nd .lf (some .fn) .lf)))) (some (.int .u8)) (.nd (.nd (.nd (.nd (.nd .lf (some .fn) .lf) (some .fn) .lf) (some .fn) (.nd (.nd .lf (some (.int .i32)) .lf) (some .fn) .lf)) (some (.int .i32)) (.nd (.nd (.nd .lf (some .fn) .lf) (some .fn) .lf) (some (.slice 32)) (.nd .lf (some .fn) .lf))) (some (.struct [⟨0, 9, true⟩, ⟨1, 12, true⟩])) (.nd (.nd (.nd (.nd .lf (some .fn) .lf) (some .fn) .lf) (some .fn) (.nd .lf (some .fn) .lf)) none (.nd (.nd (.nd .lf (some (.struct [⟨0, 17, true⟩, ⟨1, 17, true⟩, ⟨2, 17, true⟩, ⟨3, 9, true⟩])) .lf) (some .fn) .lf) none (.nd .lf (some .fn) .lf)))))) none (.nd (.nd (.nd (.nd (.nd (.nd (.nd .lf (some .fn) .lf) (some (.struct [⟨0, 35, true⟩, ⟨2, 4, true⟩])) .lf) (some (.struct [⟨0, 3, true⟩, ⟨1, 3, true⟩, ⟨2, 3, true⟩])) (.nd (.nd .lf (some (.struct [⟨0, 158, false⟩])) .lf) (some .fn) .lf)) (some .ptr) (.nd (.nd (.nd .lf (some .fn) .lf) none .lf) (some (.struct [⟨0, 9, true⟩, ⟨1, 35, true⟩, ⟨3, 35, true⟩, ⟨5, 35, true⟩, ⟨7, 3, true⟩, ⟨8, 3, true⟩])) (.nd .lf (some (.map 114 4)) .lf))) (some (.struct [⟨0, 2, true⟩, ⟨1, 3, true⟩, ⟨2, 4, true⟩, ⟨3, 6, true⟩])) (.nd (.nd (.nd (.nd .lf (some .fn) .lf) (some (.struct [⟨0, 3, true⟩, ⟨1, 3, true⟩, ⟨2, 35, true⟩])) .lf) none (.nd (.nd .lf (some (.struct [⟨0, 12, true⟩, ⟨1, 12, true⟩, ⟨2, 135, true⟩, ⟨3, 161, true⟩, ⟨4, 5, true⟩, ⟨5, 5, true⟩, ⟨6, 162, true⟩, ⟨7, 163, true⟩, ⟨8, 164, true⟩, ⟨9, 165, true⟩, ⟨10, 166, true⟩])) .lf) (some .fn) .lf)) (some (.slice 51)) (.nd (.nd (.nd .lf (some .ptr) .lf) (some (.struct [⟨0, 26, true⟩, ⟨3, 49, true⟩, ⟨12, 86, true⟩, ⟨42, 87, true⟩])) .lf) (some .fn) (.nd .lf (some .fn) .lf)))) (some .bool) (.nd (.nd (.nd (.nd .lf (some .fn) .lf) none (.nd (.nd .lf (some .ptr) .lf) (some .fn) .lf)) (some (.ifc true)) (.nd (.nd (.nd .lf (some .fn) .lf) (some .fn) .lf) (some .ptr) (.nd .lf (some .fn) .lf))) (some (.int .u64)) (.nd (.nd (.nd (.nd .lf (some (.map 9 4)) .lf) (some .fn) .lf) (some .fn) .lf) (some (.int .i64)) (.nd (.nd (.nd .lf (some (.struct [⟨0, 17, true⟩, ⟨1, 17, true⟩, ⟨2, 17, true⟩, ⟨3, 9, true⟩])) .lf) (some .fn) .lf) (some (.arr 31 3)) (.nd .lf (some .fn) .lf))))) (some (.int .i64)) (.nd (.nd (.nd (.nd (.nd (.nd .lf (some .fn) .lf) (some .fn) .lf) (some (.struct [⟨0, 3, true⟩, ⟨1, 3, true⟩])) (.nd (.nd .lf (some (.int .u8)) .lf) (some (.struct [⟨0, 72, true⟩, ⟨4, 3, true⟩])) .lf)) (some (.struct [⟨0, 17, true⟩])) (.nd (.nd (.nd .lf (some (.int .u64)) .lf) (some (.slice 47)) .lf) (some (.struct [⟨0, 3, true⟩, ⟨1, 3, true⟩, ⟨2, 3, true⟩])) (.nd .lf (some (.arr 8 4)) .lf))) (some .str) (.nd (.nd (.nd (.nd .lf (some .fn) .lf) (some .fn) .lf) none (.nd .lf (some .fn) .lf)) (some (.struct [⟨0, 22, true⟩, ⟨1, 23, true⟩, ⟨2, 24, true⟩])) (.nd (.nd (.nd .lf (some .fn) .lf) (some .fn) .lf) (some .fn) (.nd .lf (some (.slice 22)) .lf)))) (some (.int .u8)) (.nd (.nd (.nd (.nd (.nd .lf (some .fn) .lf) (some .fn) .lf) (some (.slice 72)) (.nd (.nd .lf (some (.int .i32)) .lf) (some .ptr) .lf)) (some (.slice 3)) (.nd (.nd (.nd .lf (some .ptr) .lf) (some (.arr 30 3)) .lf) none (.nd .lf (some .fn) .lf))) (some (.struct [⟨0, 9, true⟩, ⟨1, 12, true⟩])) (.nd (.nd (.nd (.nd .lf (some .fn) .lf) (some .fn) .lf) (some .fn) (.nd .lf (some .fn) .lf)) (some .fn) (.nd (.nd (.nd .lf (some (.arr 0 16)) .lf) (some .fn) .lf) (some .fn) (.nd .lf (some (.int .i64)) .lf)))))))
noncomputable def szT : Tr Nat := (.nd (.nd (.nd (.nd (.nd (.nd (.nd (.nd .lf (some 1) .lf) (some 1) .lf) (some 3) (.nd (.nd .lf (some 0) .lf) (some 1) .lf)) (some 1) (.nd (.nd (.nd .lf (some 1) .lf) (some 1) .lf) (some 1) (.nd .lf (some 1) .lf))) (some 4) (.nd (.nd (.nd (.nd .lf (some 1) .lf) (some 4) .lf) (some 1) (.nd (.nd .lf (some 11) .lf) (some 1) .lf)) (some 1) (.nd (.nd (.nd .lf (some 1) .lf) (some 1) .lf) (some 1) (.nd .lf (some 3) .lf)))) (some 1) (.nd (.nd (.nd (.nd (.nd .lf (some 1) .lf) (some 1) .lf) (some 2) (.nd (.nd .lf (some 1) .lf) (some 5) .lf)) (some 1) (.nd (.nd (.nd .lf (some 1) .lf) (some 1) .lf) (some 3) (.nd .lf (some 1) .lf))) (some 1) (.nd (.nd (.nd (.nd .lf (some 1) .lf) (some 1) .lf) (some 1) (.nd .lf (some 1) .lf)) (some 1) (.nd (.nd (.nd .lf (some 1) .lf) (some 1) .lf) (some 31) (.nd .lf (some 1) .lf))))) (some 1) (.nd (.nd (.nd (.nd (.nd (.nd .lf (some 1) .lf) (some 3) .lf) (some 1) (.nd (.nd .lf (some 1) .lf) (some 1) .lf)) (some 1) (.nd (.nd (.nd .lf (some 1) .lf) (some 1) .lf) (some 9) (.nd .lf (some 8) .lf))) (some 1) (.nd (.nd (.nd (.nd .lf (some 1) .lf) (some 1) .lf) (some 1) (.nd (.nd .lf (some 1) .lf) (some 1) .lf)) (some 3) (.nd (.nd (.nd .lf (some 1) .lf) (some 43) .lf) (some 1) (.nd .lf (some 1) .lf)))) (some 1) (.nd (.nd (.nd (.nd (.nd .lf (some 1) .lf) (some 1) .lf) (some 1) (.nd (.nd .lf (some 1) .lf) (some 1) .lf)) (some 1) (.nd (.nd (.nd .lf (some 1) .lf) (some 1) .lf) (some 1) (.nd .lf (some 1) .lf))) (some 2) (.nd (.nd (.nd (.nd .lf (some 1) .lf) (some 1) .lf) (some 1) (.nd .lf (some 1) .lf)) (some 1) (.nd (.nd (.nd .lf (some 4) .lf) (some 1) .lf) (some 1) (.nd .lf (some 1) .lf)))))) (some 1) (.nd (.nd (.nd (.nd (.nd (.nd (.nd .lf (some 1) .lf) (some 3) .lf) (some 3) (.nd (.nd .lf (some 0) .lf) (some 1) .lf)) (some 1) (.nd (.nd (.nd .lf (some 1) .lf) (some 1) .lf) (some 9) (.nd .lf (some 1) .lf))) (some 4) (.nd (.nd (.nd (.nd .lf (some 1) .lf) (some 4) .lf) (some 1) (.nd (.nd .lf (some 11) .lf) (some 1) .lf)) (some 1) (.nd (.nd (.nd .lf (some 1) .lf) (some 43) .lf) (some 1) (.nd .lf (some 1) .lf)))) (some 1) (.nd (.nd (.nd (.nd (.nd .lf (some 1) .lf) (some 1) .lf) (some 1) (.nd (.nd .lf (some 1) .lf) (some 1) .lf)) (some 1) (.nd (.nd (.nd .lf (some 1) .lf) (some 1) .lf) (some 1) (.nd .lf (some 1) .lf))) (some 1) (.nd (.nd (.nd (.nd .lf (some 1) .lf) (some 1) .lf) (some 1) (.nd .lf (some 1) .lf)) (some 1) (.nd (.nd (.nd .lf (some 4) .lf) (some 1) .lf) (some 31) (.nd .lf (some 1) .lf))))) (some 1) (.nd (.nd (.nd (.nd (.nd (.nd .lf (some 1) .lf) (some 1) .lf) (some 2) (.nd (.nd .lf (some 1) .lf) (some 5) .lf)) (some 1) (.nd (.nd (.nd .lf (some 1) .lf) (some 1) .lf) (some 3) (.nd .lf (some 8) .lf))) (some 1) (.nd (.nd (.nd (.nd .lf (some 1) .lf) (some 1) .lf) (some 1) (.nd .lf (some 1) .lf)) (some 3) (.nd (.nd (.nd .lf (some 1) .lf) (some 1) .lf) (some 1) (.nd .lf (some 1) .lf)))) (some 1) (.nd (.nd (.nd (.nd (.nd .lf (some 1) .lf) (some 1) .lf) (some 1) (.nd (.nd .lf (some 1) .lf) (some 1) .lf)) (some 1) (.nd (.nd (.nd .lf (some 1) .lf) (some 30) .lf) (some 1) (.nd .lf (some 1) .lf))) (some 2) (.nd (.nd (.nd (.nd .lf (some 1) .lf) (some 1) .lf) (some 1) (.nd .lf (some 1) .lf)) (some 1) (.nd (.nd (.nd .lf (some 0) .lf) (some 1) .lf) (some 1) (.nd .lf (some 1) .lf)))))))
noncomputable def byT : Tr Nat := (.nd (.nd (.nd (.nd (.nd (.nd (.nd (.nd .lf (some 0) .lf) (some 8) .lf) (some 24) (.nd (.nd .lf (some 0) .lf) (some 8) .lf)) (some 8) (.nd (.nd (.nd .lf (some 8) .lf) (some 8) .lf) (some 8) (.nd .lf (some 8) .lf))) (some 24) (.nd (.nd (.nd (.nd .lf (some 4) .lf) (some 32) .lf) (some 8) (.nd (.nd .lf (some 48) .lf) (some 8) .lf)) (some 24) (.nd (.nd (.nd .lf (some 8) .lf) (some 24) .lf) (some 8) (.nd .lf (some 24) .lf)))) (some 8) (.nd (.nd (.nd (.nd (.nd .lf (some 8) .lf) (some 8) .lf) (some 16) (.nd (.nd .lf (some 8) .lf) (some 40) .lf)) (some 8) (.nd (.nd (.nd .lf (some 8) .lf) (some 8) .lf) (some 24) (.nd .lf (some 8) .lf))) (some 16) (.nd (.nd (.nd (.nd .lf (some 8) .lf) (some 8) .lf) (some 8) (.nd .lf (some 8) .lf)) (some 8) (.nd (.nd (.nd .lf (some 8) .lf) (some 8) .lf) (some 248) (.nd .lf (some 8) .lf))))) (some 8) (.nd (.nd (.nd (.nd (.nd (.nd .lf (some 8) .lf) (some 24) .lf) (some 8) (.nd (.nd .lf (some 1) .lf) (some 8) .lf)) (some 8) (.nd (.nd (.nd .lf (some 8) .lf) (some 8) .lf) (some 80) (.nd .lf (some 8) .lf))) (some 16) (.nd (.nd (.nd (.nd .lf (some 8) .lf) (some 8) .lf) (some 8) (.nd (.nd .lf (some 8) .lf) (some 8) .lf)) (some 72) (.nd (.nd (.nd .lf (some 0) .lf) (some 416) .lf) (some 8) (.nd .lf (some 8) .lf)))) (some 1) (.nd (.nd (.nd (.nd (.nd .lf (some 8) .lf) (some 8) .lf) (some 8) (.nd (.nd .lf (some 4) .lf) (some 8) .lf)) (some 4) (.nd (.nd (.nd .lf (some 8) .lf) (some 8) .lf) (some 24) (.nd .lf (some 8) .lf))) (some 24) (.nd (.nd (.nd (.nd .lf (some 8) .lf) (some 8) .lf) (some 8) (.nd .lf (some 8) .lf)) (some 0) (.nd (.nd (.nd .lf (some 40) .lf) (some 8) .lf) (some 0) (.nd .lf (some 8) .lf)))))) (some 0) (.nd (.nd (.nd (.nd (.nd (.nd (.nd .lf (some 8) .lf) (some 24) .lf) (some 24) (.nd (.nd .lf (some 0) .lf) (some 8) .lf)) (some 8) (.nd (.nd (.nd .lf (some 8) .lf) (some 0) .lf) (some 80) (.nd .lf (some 8) .lf))) (some 24) (.nd (.nd (.nd (.nd .lf (some 8) .lf) (some 32) .lf) (some 0) (.nd (.nd .lf (some 48) .lf) (some 8) .lf)) (some 24) (.nd (.nd (.nd .lf (some 8) .lf) (some 416) .lf) (some 8) (.nd .lf (some 8) .lf)))) (some 1) (.nd (.nd (.nd (.nd (.nd .lf (some 0) .lf) (some 8) .lf) (some 0) (.nd (.nd .lf (some 8) .lf) (some 8) .lf)) (some 16) (.nd (.nd (.nd .lf (some 8) .lf) (some 8) .lf) (some 8) (.nd .lf (some 8) .lf))) (some 8) (.nd (.nd (.nd (.nd .lf (some 8) .lf) (some 8) .lf) (some 8) (.nd .lf (some 0) .lf)) (some 8) (.nd (.nd (.nd .lf (some 40) .lf) (some 8) .lf) (some 248) (.nd .lf (some 8) .lf))))) (some 8) (.nd (.nd (.nd (.nd (.nd (.nd .lf (some 8) .lf) (some 8) .lf) (some 16) (.nd (.nd .lf (some 1) .lf) (some 40) .lf)) (some 8) (.nd (.nd (.nd .lf (some 8) .lf) (some 24) .lf) (some 24) (.nd .lf (some 8) .lf))) (some 16) (.nd (.nd (.nd (.nd .lf (some 8) .lf) (some 8) .lf) (some 0) (.nd .lf (some 8) .lf)) (some 72) (.nd (.nd (.nd .lf (some 8) .lf) (some 8) .lf) (some 8) (.nd .lf (some 24) .lf)))) (some 1) (.nd (.nd (.nd (.nd (.nd .lf (some 8) .lf) (some 8) .lf) (some 24) (.nd (.nd .lf (some 4) .lf) (some 8) .lf)) (some 24) (.nd (.nd (.nd .lf (some 8) .lf) (some 240) .lf) (some 0) (.nd .lf (some 8) .lf))) (some 24) (.nd (.nd (.nd (.nd .lf (some 8) .lf) (some 8) .lf) (some 8) (.nd .lf (some 8) .lf)) (some 8) (.nd (.nd (.nd .lf (some 0) .lf) (some 8) .lf) (some 8) (.nd .lf (some 8) .lf)))))))
noncomputable def zeT : Tr AV := (.nd (.nd (.nd (.nd (.nd (.nd (.nd (.nd .lf (some (.tup [(.int .i64 (0)), (.int .i64 (0))])) .lf) (some .nilf) .lf) (some (.agg [(.int .i64 (0)), (.int .i64 (0)), (.int .i64 (0))])) (.nd (.nd .lf (some (.agg [])) .lf) (some .nilf) .lf)) (some .nilp) (.nd (.nd (.nd .lf (some .nilf) .lf) (some .nilf) .lf) (some .nilf) (.nd .lf (some (.int .u64 (0))) .lf))) (some (.agg [(.int .i64 (0)), (.int .i64 (0)), (.bool false), (.int .u8 (0))])) (.nd (.nd (.nd (.nd .lf (some (.int .u32 (0))) .lf) (some (.agg [(.int .i64 (0)), (.int .i64 (0)), (.int .i64 (0)), (.int .i64 (0))])) .lf) (some .nilf) (.nd (.nd .lf (some (.agg [(.int .u64 (0)), (.int .u64 (0)), (.int .u32 (0)), (.int .u8 (0)), (.int .u8 (0)), (.int .u8 (0)), (.int .u8 (0)), .nilf, .nilp, (.int .i32 (0)), (.int .i32 (0))])) .lf) (some .nilf) .lf)) (some .nils) (.nd (.nd (.nd .lf (some .nilf) .lf) (some .nils) .lf) (some .nilf) (.nd .lf (some (.agg [.nilf, .nilf, .nilf])) .lf)))) (some (.int .i64 (0))) (.nd (.nd (.nd (.nd (.nd .lf (some .nilf) .lf) (some .nilf) .lf) (some (.agg [(.int .i64 (0)), (.int .i64 (0))])) (.nd (.nd .lf (some .nilf) .lf) (some (.agg [(.int .i64 (0)), (.int .i64 (0)), (.int .i64 (0)), (.int .i64 (0)), (.int .i64 (0))])) .lf)) (some (.agg [.nilp])) (.nd (.nd (.nd .lf (some .nilf) .lf) (some .nilf) .lf) (some (.agg [(.int .i64 (0)), (.int .i64 (0)), (.int .i64 (0))])) (.nd .lf (some .nilf) .lf))) (some (.str [])) (.nd (.nd (.nd (.nd .lf (some .nilf) .lf) (some .nilf) .lf) (some .nilf) (.nd .lf (some .nilf) .lf)) (some .nilf) (.nd (.nd (.nd .lf (some .nilf) .lf) (some .nilf) .lf) (some (.agg [(.int .i64 (0)), (.int .i64 (0)), (.int .i64 (0)), (.int .i64 (0)), (.int .i64 (0)), (.int .i64 (0)), (.int .i64 (0)), (.int .i64 (0)), (.int .i64 (0)), (.int .i64 (0)), (.int .i64 (0)), (.int .i64 (0)), (.int .i64 (0)), (.int .i64 (0)), (.int .i64 (0)), (.int .i64 (0)), (.int .i64 (0)), (.int .i64 (0)), (.int .i64 (0)), (.int .i64 (0)), (.int .i64 (0)), (.int .i64 (0)), (.int .i64 (0)), (.int .i64 (0)), (.int .i64 (0)), (.int .i64 (0)), (.int .i64 (0)), (.int .i64 (0)), (.int .i64 (0)), (.int .i64 (0)), (.int .i64 (0))])) (.nd .lf (some .nilf) .lf))))) (some .nilf) (.nd (.nd (.nd (.nd (.nd (.nd .lf (some .nilf) .lf) (some (.agg [(.int .i64 (0)), (.int .i64 (0)), (.bool false)])) .lf) (some .nilf) (.nd (.nd .lf (some (.int .u8 (0))) .lf) (some .nilf) .lf)) (some .nilp) (.nd (.nd (.nd .lf (some .nilf) .lf) (some .nilf) .lf) (some (.agg [(.str []), (.int .i64 (0)), (.int .i64 (0)), (.int .i64 (0)), (.int .i64 (0)), (.int .i64 (0)), (.int .i64 (0)), (.int .i64 (0)), (.int .i64 (0))])) (.nd .lf (some (.agg [(.bool false), (.bool false), (.bool false), (.bool false), (.bool false), (.bool false), (.bool false), (.bool false)])) .lf))) (some (.str [])) (.nd (.nd (.nd (.nd .lf (some (.int .u64 (0))) .lf) (some .nilf) .lf) (some .nilf) (.nd (.nd .lf (some .nilp) .lf) (some .nilf) .lf)) (some (.agg [.nils, .nils, .nils])) (.nd (.nd (.nd .lf (some (.tup [(.int .i64 (0)), (.int .i64 (0))])) .lf) (some (.agg [.nils, .nils, .nils, (.str []), (.int .i64 (0)), (.int .i64 (0)), (.int .i64 (0)), (.int .i64 (0)), (.int .i64 (0)), (.int .i64 (0)), (.int .i64 (0)), (.int .i64 (0)), (.int .i64 (0)), (.int .i64 (0)), (.int .i64 (0)), (.int .i64 (0)), (.int .i64 (0)), (.int .i64 (0)), (.int .i64 (0)), (.int .i64 (0)), (.int .i64 (0)), (.int .i64 (0)), (.int .i64 (0)), (.int .i64 (0)), (.int .i64 (0)), (.int .i64 (0)), (.int .i64 (0)), (.int .i64 (0)), (.int .i64 (0)), (.int .i64 (0)), (.int .i64 (0)), (.int .i64 (0)), (.int .i64 (0)), (.int .i64 (0)), (.int .i64 (0)), (.int .i64 (0)), (.int .i64 (0)), (.int .i64 (0)), (.int .i64 (0)), (.int .i64 (0)), (.int .i64 (0)), (.int .i64 (0)), .nils])) .lf) (some .nilf) (.nd .lf (some .nilf) .lf)))) (some (.int .u8 (0))) (.nd (.nd (.nd (.nd (.nd .lf (some .nilf) .lf) (some .nilf) .lf) (some .nilf) (.nd (.nd .lf (some (.int .i32 (0))) .lf) (some .nilf) .lf)) (some (.int .i32 (0))) (.nd (.nd (.nd .lf (some .nilf) .lf) (some .nilf) .lf) (some .nils) (.nd .lf (some .nilf) .lf))) (some (.agg [(.str []), (.int .u64 (0))])) (.nd (.nd (.nd (.nd .lf (some .nilf) .lf) (some .nilf) .lf) (some .nilf) (.nd .lf (some .nilf) .lf)) (some (.tup [.nils, (.int .i64 (0)), (.int .i64 (0))])) (.nd (.nd (.nd .lf (some (.agg [.nilp, .nilp, .nilp, (.str [])])) .lf) (some .nilf) .lf) (some (.tup [(.agg [(.int .i64 (0)), (.int .i64 (0)), (.int .i64 (0)), (.int .i64 (0)), (.int .i64 (0)), (.int .i64 (0)), (.int .i64 (0)), (.int .i64 (0)), (.int .i64 (0)), (.int .i64 (0)), (.int .i64 (0)), (.int .i64 (0)), (.int .i64 (0)), (.int .i64 (0)), (.int .i64 (0)), (.int .i64 (0)), (.int .i64 (0)), (.int .i64 (0)), (.int .i64 (0)), (.int .i64 (0)), (.int .i64 (0)), (.int .i64 (0)), (.int .i64 (0)), (.int .i64 (0)), (.int .i64 (0)), (.int .i64 (0)), (.int .i64 (0)), (.int .i64 (0)), (.int .i64 (0)), (.int .i64 (0)), (.int .i64 (0))]), (.int .i64 (0))])) (.nd .lf (some .nilf) .lf)))))) (some (.tup [])) (.nd (.nd (.nd (.nd (.nd (.nd (.nd .lf (some .nilf) .lf) (some (.agg [(.int .i64 (0)), (.int .i64 (0)), (.bool false)])) .lf) (some (.agg [(.int .i64 (0)), (.int .i64 (0)), (.int .i64 (0))])) (.nd (.nd .lf (some (.agg [])) .lf) (some .nilf) .lf)) (some .nilp) (.nd (.nd (.nd .lf (some .nilf) .lf) (some (.tup [.nils, (.int .i64 (0))])) .lf) (some (.agg [(.str []), (.int .i64 (0)), (.int .i64 (0)), (.int .i64 (0)), (.int .i64 (0)), (.int .i64 (0)), (.int .i64 (0)), (.int .i64 (0)), (.int .i64 (0))])) (.nd .lf (some .nilm) .lf))) (some (.agg [(.int .i64 (0)), (.int .i64 (0)), (.bool false), (.int .u8 (0))])) (.nd (.nd (.nd (.nd .lf (some .nilf) .lf) (some (.agg [(.int .i64 (0)), (.int .i64 (0)), (.int .i64 (0)), (.int .i64 (0))])) .lf) (some (.tup [(.int .i64 (0)), (.int .i64 (0))])) (.nd (.nd .lf (some (.agg [(.int .u64 (0)), (.int .u64 (0)), (.int .u32 (0)), (.int .u8 (0)), (.int .u8 (0)), (.int .u8 (0)), (.int .u8 (0)), .nilf, .nilp, (.int .i32 (0)), (.int .i32 (0))])) .lf) (some .nilf) .lf)) (some .nils) (.nd (.nd (.nd .lf (some .nilp) .lf) (some (.agg [.nils, .nils, .nils, (.str []), (.int .i64 (0)), (.int .i64 (0)), (.int .i64 (0)), (.int .i64 (0)), (.int .i64 (0)), (.int .i64 (0)), (.int .i64 (0)), (.int .i64 (0)), (.int .i64 (0)), (.int .i64 (0)), (.int .i64 (0)), (.int .i64 (0)), (.int .i64 (0)), (.int .i64 (0)), (.int .i64 (0)), (.int .i64 (0)), (.int .i64 (0)), (.int .i64 (0)), (.int .i64 (0)), (.int .i64 (0)), (.int .i64 (0)), (.int .i64 (0)), (.int .i64 (0)), (.int .i64 (0)), (.int .i64 (0)), (.int .i64 (0)), (.int .i64 (0)), (.int .i64 (0)), (.int .i64 (0)), (.int .i64 (0)), (.int .i64 (0)), (.int .i64 (0)), (.int .i64 (0)), (.int .i64 (0)), (.int .i64 (0)), (.int .i64 (0)), (.int .i64 (0)), (.int .i64 (0)), .nils])) .lf) (some .nilf) (.nd .lf (some .nilf) .lf)))) (some (.bool false)) (.nd (.nd (.nd (.nd (.nd .lf (some (.tup [(.int .i64 (0)), (.bool false)])) .lf) (some .nilf) .lf) (some (.tup [(.agg [(.int .i64 (0)), (.int .i64 (0))]), (.int .i64 (0))])) (.nd (.nd .lf (some .nilp) .lf) (some .nilf) .lf)) (some .nili) (.nd (.nd (.nd .lf (some .nilf) .lf) (some .nilf) .lf) (some .nilp) (.nd .lf (some .nilf) .lf))) (some (.int .u64 (0))) (.nd (.nd (.nd (.nd .lf (some .nilm) .lf) (some .nilf) .lf) (some .nilf) (.nd .lf (some (.tup [(.int .i64 (0)), (.int .i64 (0)), (.int .i64 (0))])) .lf)) (some (.int .i64 (0))) (.nd (.nd (.nd .lf (some (.agg [.nilp, .nilp, .nilp, (.str [])])) .lf) (some .nilf) .lf) (some (.agg [(.int .i64 (0)), (.int .i64 (0)), (.int .i64 (0)), (.int .i64 (0)), (.int .i64 (0)), (.int .i64 (0)), (.int .i64 (0)), (.int .i64 (0)), (.int .i64 (0)), (.int .i64 (0)), (.int .i64 (0)), (.int .i64 (0)), (.int .i64 (0)), (.int .i64 (0)), (.int .i64 (0)), (.int .i64 (0)), (.int .i64 (0)), (.int .i64 (0)), (.int .i64 (0)), (.int .i64 (0)), (.int .i64 (0)), (.int .i64 (0)), (.int .i64 (0)), (.int .i64 (0)), (.int .i64 (0)), (.int .i64 (0)), (.int .i64 (0)), (.int .i64 (0)), (.int .i64 (0)), (.int .i64 (0)), (.int .i64 (0))])) (.nd .lf (some .nilf) .lf))))) (some (.int .i64 (0))) (.nd (.nd (.nd (.nd (.nd (.nd .lf (some .nilf) .lf) (some .nilf) .lf) (some (.agg [(.int .i64 (0)), (.int .i64 (0))])) (.nd (.nd .lf (some (.int .u8 (0))) .lf) (some (.agg [(.int .i64 (0)), (.int .i64 (0)), (.int .i64 (0)), (.int .i64 (0)), (.int .i64 (0))])) .lf)) (some (.agg [.nilp])) (.nd (.nd (.nd .lf (some (.int .u64 (0))) .lf) (some .nils) .lf) (some (.agg [(.int .i64 (0)), (.int .i64 (0)), (.int .i64 (0))])) (.nd .lf (some (.agg [(.bool false), (.bool false), (.bool false), (.bool false), (.bool false), (.bool false), (.bool false), (.bool false)])) .lf))) (some (.str [])) (.nd (.nd (.nd (.nd .lf (some .nilf) .lf) (some .nilf) .lf) (some (.tup [(.agg [(.int .i64 (0)), (.int .i64 (0)), (.int .i64 (0))]), (.int .i64 (0)), (.int .i64 (0))])) (.nd .lf (some .nilf) .lf)) (some (.agg [.nils, .nils, .nils])) (.nd (.nd (.nd .lf (some .nilf) .lf) (some .nilf) .lf) (some .nilf) (.nd .lf (some .nils) .lf)))) (some (.int .u8 (0))) (.nd (.nd (.nd (.nd (.nd .lf (some .nilf) .lf) (some .nilf) .lf) (some .nils) (.nd (.nd .lf (some (.int .i32 (0))) .lf) (some .nilp) .lf)) (some .nils) (.nd (.nd (.nd .lf (some .nilp) .lf) (some (.agg [(.int .i64 (0)), (.int .i64 (0)), (.int .i64 (0)), (.int .i64 (0)), (.int .i64 (0)), (.int .i64 (0)), (.int .i64 (0)), (.int .i64 (0)), (.int .i64 (0)), (.int .i64 (0)), (.int .i64 (0)), (.int .i64 (0)), (.int .i64 (0)), (.int .i64 (0)), (.int .i64 (0)), (.int .i64 (0)), (.int .i64 (0)), (.int .i64 (0)), (.int .i64 (0)), (.int .i64 (0)), (.int .i64 (0)), (.int .i64 (0)), (.int .i64 (0)), (.int .i64 (0)), (.int .i64 (0)), (.int .i64 (0)), (.int .i64 (0)), (.int .i64 (0)), (.int .i64 (0)), (.int .i64 (0))])) .lf) (some (.tup [.nilp, .nils, (.int .i64 (0))])) (.nd .lf (some .nilf) .lf))) (some (.agg [(.str []), (.int .u64 (0))])) (.nd (.nd (.nd (.nd .lf (some .nilf) .lf) (some .nilf) .lf) (some .nilf) (.nd .lf (some .nilf) .lf)) (some .nilf) (.nd (.nd (.nd .lf (some (.agg [])) .lf) (some .nilf) .lf) (some .nilf) (.nd .lf (some (.int .i64 (0))) .lf)))))))
noncomputable def eqT : Tr Unit := (.nd (.nd (.nd (.nd (.nd (.nd .lf (some ()) .lf) none .lf) (some ()) (.nd (.nd (.nd .lf (some ()) .lf) none .lf) none (.nd .lf none (.nd .lf (some ()) .lf)))) none (.nd (.nd (.nd .lf (some ()) (.nd .lf (some ()) .lf)) none (.nd .lf (some ()) .lf)) none (.nd .lf none (.nd .lf (some ()) .lf)))) none (.nd (.nd (.nd (.nd (.nd .lf (some ()) .lf) none .lf) none (.nd .lf (some ()) (.nd .lf (some ()) .lf))) none (.nd .lf (some ()) (.nd (.nd .lf (some ()) .lf) none .lf))) none .lf)) none (.nd (.nd (.nd (.nd (.nd (.nd .lf (some ()) .lf) (some ()) .lf) none (.nd .lf (some ()) .lf)) (some ()) (.nd (.nd (.nd .lf (some ()) .lf) none .lf) none (.nd (.nd .lf (some ()) .lf) none .lf))) none (.nd .lf none (.nd .lf none (.nd .lf (some ()) .lf)))) none (.nd (.nd (.nd (.nd .lf (some ()) (.nd .lf (some ()) .lf)) none (.nd .lf (some ()) (.nd .lf (some ()) .lf))) none (.nd .lf (some ()) .lf)) none (.nd (.nd .lf none (.nd (.nd .lf (some ()) .lf) none .lf)) none (.nd .lf none (.nd (.nd (.nd .lf (some ()) .lf) none .lf) none .lf))))))
noncomputable def fnT : Tr Func := (.nd (.nd (.nd (.nd (.nd (.nd (.nd .lf (some Try.f63) .lf) (some Try.f31) (.nd .lf (some Try.f95) .lf)) (some Try.f15) (.nd (.nd .lf (some Try.f79) .lf) (some Try.f47) .lf)) (some Try.f7) (.nd (.nd (.nd .lf (some Try.f71) .lf) (some Try.f39) .lf) (some Try.f23) (.nd (.nd .lf (some Try.f87) .lf) (some Try.f55) .lf))) (some Try.f3) (.nd (.nd (.nd (.nd .lf (some Try.f67) .lf) (some Try.f35) (.nd .lf (some Try.f99) .lf)) (some Try.f19) (.nd (.nd .lf (some Try.f83) .lf) (some Try.f51) .lf)) (some Try.f11) (.nd (.nd (.nd .lf (some Try.f75) .lf) (some Try.f43) .lf) (some Try.f27) (.nd (.nd .lf (some Try.f91) .lf) (some Try.f59) .lf)))) none (.nd (.nd (.nd (.nd (.nd .lf (some Try.f65) .lf) (some Try.f33) (.nd .lf (some Try.f97) .lf)) (some Try.f17) (.nd (.nd .lf (some Try.f81) .lf) (some Try.f49) .lf)) (some Try.f9) (.nd (.nd (.nd .lf (some Try.f73) .lf) (some Try.f41) .lf) (some Try.f25) (.nd (.nd .lf (some Try.f89) .lf) (some Try.f57) .lf))) (some Try.f5) (.nd (.nd (.nd (.nd .lf (some Try.f69) .lf) (some Try.f37) (.nd .lf (some Try.f101) .lf)) (some Try.f21) (.nd (.nd .lf (some Try.f85) .lf) (some Try.f53) .lf)) (some Try.f13) (.nd (.nd (.nd .lf (some Try.f77) .lf) (some Try.f45) .lf) (some Try.f29) (.nd (.nd .lf (some Try.f93) .lf) (some Try.f61) .lf))))) none (.nd (.nd (.nd (.nd (.nd (.nd .lf (some Try.f64) .lf) (some Try.f32) (.nd .lf (some Try.f96) .lf)) (some Try.f16) (.nd (.nd .lf (some Try.f80) .lf) (some Try.f48) .lf)) (some Try.f8) (.nd (.nd (.nd .lf (some Try.f72) .lf) (some Try.f40) .lf) (some Try.f24) (.nd (.nd .lf (some Try.f88) .lf) (some Try.f56) .lf))) (some Try.f4) (.nd (.nd (.nd (.nd .lf (some Try.f68) .lf) (some Try.f36) (.nd .lf (some Try.f100) .lf)) (some Try.f20) (.nd (.nd .lf (some Try.f84) .lf) (some Try.f52) .lf)) (some Try.f12) (.nd (.nd (.nd .lf (some Try.f76) .lf) (some Try.f44) .lf) (some Try.f28) (.nd (.nd .lf (some Try.f92) .lf) (some Try.f60) .lf)))) (some Try.f2) (.nd (.nd (.nd (.nd (.nd .lf (some Try.f66) .lf) (some Try.f34) (.nd .lf (some Try.f98) .lf)) (some Try.f18) (.nd (.nd .lf (some Try.f82) .lf) (some Try.f50) .lf)) (some Try.f10) (.nd (.nd (.nd .lf (some Try.f74) .lf) (some Try.f42) .lf) (some Try.f26) (.nd (.nd .lf (some Try.f90) .lf) (some Try.f58) .lf))) (some Try.f6) (.nd (.nd (.nd (.nd .lf (some Try.f70) .lf) (some Try.f38) .lf) (some Try.f22) (.nd (.nd .lf (some Try.f86) .lf) (some Try.f54) .lf)) (some Try.f14) (.nd (.nd (.nd .lf (some Try.f78) .lf) (some Try.f46) .lf) (some Try.f30) (.nd (.nd .lf (some Try.f94) .lf) (some Try.f62) .lf))))))
noncomputable def glT : Tr (List AV) := .lf
noncomputable def mtT : Tr (List (String × Nat)) := (.nd (.nd (.nd (.nd (.nd .lf (some [("Error", 110), ("RuntimeError", 111)]) .lf) none .lf) none (.nd (.nd .lf (some [("Error", 115), ("RuntimeError", 116)]) .lf) (some [("Error", 106), ("RuntimeError", 107)]) .lf)) none (.nd (.nd (.nd .lf (some [("Align", 114)]) .lf) none .lf) none .lf)) none (.nd (.nd (.nd (.nd .lf (some [("Error", 112), ("RuntimeError", 113)]) .lf) (some [("Error", 102), ("RuntimeError", 103)]) (.nd .lf none (.nd (.nd (.nd .lf (some [("Next", 98)]) .lf) none .lf) none .lf))) none (.nd (.nd .lf none (.nd .lf (some [("nore/store.byUse", 23), ("nore/store.can", 17), ("nore/store.end", 19), ("nore/store.fewestWrong", 55), ("nore/store.lasts", 26), ("nore/store.leastFirst", 44), ("nore/store.leasts", 39), ("nore/store.loaded", 40), ("nore/store.morning", 25), ("nore/store.run", 20), ("nore/store.truths", 63), ("nore/store.use", 41), ("nore/store.uses", 43), ("nore/store.with", 34)]) .lf)) none (.nd .lf none (.nd .lf (some [("nore/store.areAbove", 49), ("nore/store.areBelow", 47)]) .lf)))) none (.nd (.nd (.nd (.nd .lf none (.nd (.nd .lf (some [("String", 117)]) .lf) none .lf)) none (.nd .lf none (.nd .lf (some [("nore/store.indices", 73)]) .lf))) (some [("Error", 104), ("RuntimeError", 105)]) .lf) none (.nd (.nd (.nd .lf none (.nd .lf (some [("nore/store.meet", 24)]) .lf)) none .lf) (some [("Error", 108), ("RuntimeError", 109)]) .lf))))
noncomputable def T0 : Tabs := ⟨tyT, szT, byT, zeT, eqT, fnT, glT, 99999, 99999, 99999, .lf, mtT, false⟩
theorem fnT_ok : allP (fun f fn => Try.prog.funcs[f]? = some fn) fnT (fun k => k) := ⟨trivial, ⟨trivial, ⟨Try.func3, ⟨Try.func7, ⟨Try.func15, ⟨Try.func31, ⟨Try.func63, trivial, trivial⟩, ⟨Try.func95, trivial, trivial⟩⟩, ⟨Try.func47, ⟨Try.func79, trivial, trivial⟩, trivial⟩⟩, ⟨Try.func23, ⟨Try.func39, ⟨Try.func71, trivial, trivial⟩, trivial⟩, ⟨Try.func55, ⟨Try.func87, trivial, trivial⟩, trivial⟩⟩⟩, ⟨Try.func11, ⟨Try.func19, ⟨Try.func35, ⟨Try.func67, trivial, trivial⟩, ⟨Try.func99, trivial, trivial⟩⟩, ⟨Try.func51, ⟨Try.func83, trivial, trivial⟩, trivial⟩⟩, ⟨Try.func27, ⟨Try.func43, ⟨Try.func75, trivial, trivial⟩, trivial⟩, ⟨Try.func59, ⟨Try.func91, trivial, trivial⟩, trivial⟩⟩⟩⟩, ⟨Try.func5, ⟨Try.func9, ⟨Try.func17, ⟨Try.func33, ⟨Try.func65, trivial, trivial⟩, ⟨Try.func97, trivial, trivial⟩⟩, ⟨Try.func49, ⟨Try.func81, trivial, trivial⟩, trivial⟩⟩, ⟨Try.func25, ⟨Try.func41, ⟨Try.func73, trivial, trivial⟩, trivial⟩, ⟨Try.func57, ⟨Try.func89, trivial, trivial⟩, trivial⟩⟩⟩, ⟨Try.func13, ⟨Try.func21, ⟨Try.func37, ⟨Try.func69, trivial, trivial⟩, ⟨Try.func101, trivial, trivial⟩⟩, ⟨Try.func53, ⟨Try.func85, trivial, trivial⟩, trivial⟩⟩, ⟨Try.func29, ⟨Try.func45, ⟨Try.func77, trivial, trivial⟩, trivial⟩, ⟨Try.func61, ⟨Try.func93, trivial, trivial⟩, trivial⟩⟩⟩⟩⟩, ⟨Try.func2, ⟨Try.func4, ⟨Try.func8, ⟨Try.func16, ⟨Try.func32, ⟨Try.func64, trivial, trivial⟩, ⟨Try.func96, trivial, trivial⟩⟩, ⟨Try.func48, ⟨Try.func80, trivial, trivial⟩, trivial⟩⟩, ⟨Try.func24, ⟨Try.func40, ⟨Try.func72, trivial, trivial⟩, trivial⟩, ⟨Try.func56, ⟨Try.func88, trivial, trivial⟩, trivial⟩⟩⟩, ⟨Try.func12, ⟨Try.func20, ⟨Try.func36, ⟨Try.func68, trivial, trivial⟩, ⟨Try.func100, trivial, trivial⟩⟩, ⟨Try.func52, ⟨Try.func84, trivial, trivial⟩, trivial⟩⟩, ⟨Try.func28, ⟨Try.func44, ⟨Try.func76, trivial, trivial⟩, trivial⟩, ⟨Try.func60, ⟨Try.func92, trivial, trivial⟩, trivial⟩⟩⟩⟩, ⟨Try.func6, ⟨Try.func10, ⟨Try.func18, ⟨Try.func34, ⟨Try.func66, trivial, trivial⟩, ⟨Try.func98, trivial, trivial⟩⟩, ⟨Try.func50, ⟨Try.func82, trivial, trivial⟩, trivial⟩⟩, ⟨Try.func26, ⟨Try.func42, ⟨Try.func74, trivial, trivial⟩, trivial⟩, ⟨Try.func58, ⟨Try.func90, trivial, trivial⟩, trivial⟩⟩⟩, ⟨Try.func14, ⟨Try.func22, ⟨Try.func38, ⟨Try.func70, trivial, trivial⟩, trivial⟩, ⟨Try.func54, ⟨Try.func86, trivial, trivial⟩, trivial⟩⟩, ⟨Try.func30, ⟨Try.func46, ⟨Try.func78, trivial, trivial⟩, trivial⟩, ⟨Try.func62, ⟨Try.func94, trivial, trivial⟩, trivial⟩⟩⟩⟩⟩⟩
theorem lib_ok : T0.lb = true → LibOK Try.prog 99999 99999 99999 := fun h => by cases h
theorem tabs_ok : TabsOK Try.prog T0 := ⟨by kernel_rfl, by kernel_rfl, by kernel_rfl, fnT_ok, by kernel_rfl, by kernel_rfl, lib_ok, by kernel_rfl⟩
end Go.Proofs.Ytpnipaimaohiaab

/-
  THE CALLS that are said ahead.
-/
set_option maxRecDepth 100000
namespace Go.Proofs.Ytpnipaimaohiaab
open Go Go.Eng
noncomputable def E1 : Env := { T0.env with cm := true }
theorem e1 : EnvOK Try.prog E1 := by
  have h := tabs_ok.env
  refine ⟨fun t k ht => ?_, h.zero, h.fn, h.eqok, h.meth⟩
  obtain ⟨h1, h2⟩ := h.ty t k ht
  refine ⟨h1, ?_⟩
  cases k <;> exact h2
theorem n1 : NameOK E1 := tabs_ok.name
theorem x1 : ExtOK Try.prog E1 := tabs_ok.ext
noncomputable def c0 : Ent := ⟨39, [(.ptr 52 0)], 54, [(1, (.cells false [(.int .i64 (3)), (.int .i64 (3)), (.int .i64 (2)), (.int .i64 (2)), (.int .i64 (3))])), (6, (.cells false [(.str [111, 105, 108]), (.int .i64 (40)), (.int .i64 (50)), (.int .i64 (0)), (.int .i64 (0)), (.int .i64 (8)), (.int .i64 (10)), (.int .i64 (60)), (.int .i64 (1000)), (.str [119, 97, 116, 101, 114]), (.int .i64 (30)), (.int .i64 (40)), (.int .i64 (2)), (.int .i64 (3)), (.int .i64 (0)), (.int .i64 (0)), (.int .i64 (40)), (.int .i64 (500))])), (7, (.cells false [(.int .i64 (2)), (.int .i64 (1)), (.int .i64 (10))])), (52, (.cells false [(.sl 1 0 5 5 1), (.sl 6 0 2 2 9), (.sl 7 0 1 1 3), (.str [111, 105, 108]), (.int .i64 (40)), (.int .i64 (50)), (.int .i64 (0)), (.int .i64 (0)), (.int .i64 (8)), (.int .i64 (10)), (.int .i64 (60)), (.int .i64 (1000)), (.int .i64 (0)), (.int .i64 (0)), (.int .i64 (0)), (.int .i64 (0)), (.int .i64 (0)), (.int .i64 (0)), (.int .i64 (0)), (.int .i64 (0)), (.int .i64 (0)), (.int .i64 (0)), (.int .i64 (0)), (.int .i64 (0)), (.int .i64 (0)), (.int .i64 (0)), (.int .i64 (0)), (.int .i64 (0)), (.int .i64 (0)), (.int .i64 (0)), (.int .i64 (0)), (.int .i64 (0)), (.int .i64 (0)), (.int .i64 (0)), (.int .i64 (0)), (.int .i64 (0)), (.int .i64 (0)), (.int .i64 (0)), (.int .i64 (0)), (.int .i64 (0)), (.int .i64 (0)), (.int .i64 (0)), .nils]))], (.sl 296 0 3 3 3), [(296, (.cells false [(.int .i64 (40)), (.int .i64 (0)), (.int .i64 (8)), (.int .i64 (40)), (.int .i64 (0)), (.int .i64 (9)), (.int .i64 (40)), (.int .i64 (0)), (.int .i64 (10))]))], 297⟩
noncomputable def c1 : Ent := ⟨39, [(.ptr 357 0)], 359, [(1, (.cells false [(.int .i64 (3)), (.int .i64 (3)), (.int .i64 (2)), (.int .i64 (2)), (.int .i64 (3))])), (6, (.cells false [(.str [111, 105, 108]), (.int .i64 (40)), (.int .i64 (50)), (.int .i64 (0)), (.int .i64 (0)), (.int .i64 (8)), (.int .i64 (10)), (.int .i64 (60)), (.int .i64 (1000)), (.str [119, 97, 116, 101, 114]), (.int .i64 (30)), (.int .i64 (40)), (.int .i64 (2)), (.int .i64 (3)), (.int .i64 (0)), (.int .i64 (0)), (.int .i64 (40)), (.int .i64 (500))])), (7, (.cells false [(.int .i64 (2)), (.int .i64 (1)), (.int .i64 (10))])), (357, (.cells false [(.sl 1 0 5 5 1), (.sl 6 0 2 2 9), (.sl 7 0 1 1 3), (.str [111, 105, 108]), (.int .i64 (40)), (.int .i64 (50)), (.int .i64 (0)), (.int .i64 (0)), (.int .i64 (8)), (.int .i64 (10)), (.int .i64 (60)), (.int .i64 (1000)), (.int .i64 (0)), (.int .i64 (0)), (.int .i64 (0)), (.int .i64 (0)), (.int .i64 (0)), (.int .i64 (0)), (.int .i64 (0)), (.int .i64 (0)), (.int .i64 (0)), (.int .i64 (0)), (.int .i64 (0)), (.int .i64 (0)), (.int .i64 (0)), (.int .i64 (0)), (.int .i64 (0)), (.int .i64 (0)), (.int .i64 (0)), (.int .i64 (0)), (.int .i64 (0)), (.int .i64 (0)), (.int .i64 (0)), (.int .i64 (0)), (.int .i64 (0)), (.int .i64 (0)), (.int .i64 (0)), (.int .i64 (0)), (.int .i64 (0)), (.int .i64 (0)), (.int .i64 (0)), (.int .i64 (0)), .nils]))], (.sl 601 0 3 3 3), [(601, (.cells false [(.int .i64 (40)), (.int .i64 (0)), (.int .i64 (8)), (.int .i64 (40)), (.int .i64 (0)), (.int .i64 (9)), (.int .i64 (40)), (.int .i64 (0)), (.int .i64 (10))]))], 602⟩
noncomputable def c2 : Ent := ⟨7, [(.agg [(.sl 1 0 5 5 1), (.sl 6 0 2 2 9), (.sl 7 0 1 1 3)]), .nils, (.int .i64 (0)), (.int .i64 (2))], 312, [(1, (.cells false [(.int .i64 (3)), (.int .i64 (3)), (.int .i64 (2)), (.int .i64 (2)), (.int .i64 (3))])), (6, (.cells false [(.str [111, 105, 108]), (.int .i64 (40)), (.int .i64 (50)), (.int .i64 (0)), (.int .i64 (0)), (.int .i64 (8)), (.int .i64 (10)), (.int .i64 (60)), (.int .i64 (1000)), (.str [119, 97, 116, 101, 114]), (.int .i64 (30)), (.int .i64 (40)), (.int .i64 (2)), (.int .i64 (3)), (.int .i64 (0)), (.int .i64 (0)), (.int .i64 (40)), (.int .i64 (500))])), (7, (.cells false [(.int .i64 (2)), (.int .i64 (1)), (.int .i64 (10))]))], (.tup [(.agg [(.int .i64 (20)), (.int .i64 (34))]), (.int .i64 (0))]), [], 897⟩
noncomputable def c3 : Ent := ⟨39, [(.ptr 951 0)], 956, [(1, (.cells false [(.int .i64 (3)), (.int .i64 (3)), (.int .i64 (2)), (.int .i64 (2)), (.int .i64 (3))])), (6, (.cells false [(.str [111, 105, 108]), (.int .i64 (40)), (.int .i64 (50)), (.int .i64 (0)), (.int .i64 (0)), (.int .i64 (8)), (.int .i64 (10)), (.int .i64 (60)), (.int .i64 (1000)), (.str [119, 97, 116, 101, 114]), (.int .i64 (30)), (.int .i64 (40)), (.int .i64 (2)), (.int .i64 (3)), (.int .i64 (0)), (.int .i64 (0)), (.int .i64 (40)), (.int .i64 (500))])), (7, (.cells false [(.int .i64 (2)), (.int .i64 (1)), (.int .i64 (10))])), (955, (.cells false [(.int .i64 (2)), (.int .i64 (0)), (.int .i64 (25)), (.int .i64 (28)), (.int .i64 (0))])), (951, (.cells false [(.sl 1 0 5 5 1), (.sl 6 0 2 2 9), (.sl 7 0 1 1 3), (.str [111, 105, 108]), (.int .i64 (40)), (.int .i64 (50)), (.int .i64 (0)), (.int .i64 (0)), (.int .i64 (8)), (.int .i64 (10)), (.int .i64 (60)), (.int .i64 (1000)), (.int .i64 (0)), (.int .i64 (0)), (.int .i64 (0)), (.int .i64 (0)), (.int .i64 (0)), (.int .i64 (0)), (.int .i64 (0)), (.int .i64 (0)), (.int .i64 (0)), (.int .i64 (0)), (.int .i64 (0)), (.int .i64 (0)), (.int .i64 (0)), (.int .i64 (0)), (.int .i64 (0)), (.int .i64 (0)), (.int .i64 (0)), (.int .i64 (0)), (.int .i64 (0)), (.int .i64 (0)), (.int .i64 (0)), (.int .i64 (0)), (.int .i64 (0)), (.int .i64 (0)), (.int .i64 (0)), (.int .i64 (0)), (.int .i64 (0)), (.int .i64 (0)), (.int .i64 (0)), (.int .i64 (0)), (.sl 955 0 1 1 5)]))], (.sl 1251 0 3 3 3), [(1251, (.cells false [(.int .i64 (41)), (.int .i64 (0)), (.int .i64 (8)), (.int .i64 (43)), (.int .i64 (0)), (.int .i64 (9)), (.int .i64 (45)), (.int .i64 (0)), (.int .i64 (10))]))], 1252⟩
noncomputable def c4 : Ent := ⟨7, [(.agg [(.sl 1 0 5 5 1), (.sl 6 0 2 2 9), (.sl 7 0 1 1 3)]), (.sl 900 0 1 1 4), (.int .i64 (0)), (.int .i64 (2))], 901, [(1, (.cells false [(.int .i64 (3)), (.int .i64 (3)), (.int .i64 (2)), (.int .i64 (2)), (.int .i64 (3))])), (6, (.cells false [(.str [111, 105, 108]), (.int .i64 (40)), (.int .i64 (50)), (.int .i64 (0)), (.int .i64 (0)), (.int .i64 (8)), (.int .i64 (10)), (.int .i64 (60)), (.int .i64 (1000)), (.str [119, 97, 116, 101, 114]), (.int .i64 (30)), (.int .i64 (40)), (.int .i64 (2)), (.int .i64 (3)), (.int .i64 (0)), (.int .i64 (0)), (.int .i64 (40)), (.int .i64 (500))])), (7, (.cells false [(.int .i64 (2)), (.int .i64 (1)), (.int .i64 (10))])), (900, (.cells false [(.int .i64 (2)), (.int .i64 (0)), (.int .i64 (25)), (.int .i64 (28))]))], (.tup [(.agg [(.int .i64 (25)), (.int .i64 (28))]), (.int .i64 (0))]), [], 1600⟩
noncomputable def c5 : Ent := ⟨39, [(.ptr 1648 0)], 1653, [(1, (.cells false [(.int .i64 (3)), (.int .i64 (3)), (.int .i64 (2)), (.int .i64 (2)), (.int .i64 (3))])), (6, (.cells false [(.str [111, 105, 108]), (.int .i64 (40)), (.int .i64 (50)), (.int .i64 (0)), (.int .i64 (0)), (.int .i64 (8)), (.int .i64 (10)), (.int .i64 (60)), (.int .i64 (1000)), (.str [119, 97, 116, 101, 114]), (.int .i64 (30)), (.int .i64 (40)), (.int .i64 (2)), (.int .i64 (3)), (.int .i64 (0)), (.int .i64 (0)), (.int .i64 (40)), (.int .i64 (500))])), (7, (.cells false [(.int .i64 (2)), (.int .i64 (1)), (.int .i64 (10))])), (1652, (.cells false [(.int .i64 (2)), (.int .i64 (0)), (.int .i64 (25)), (.int .i64 (28)), (.int .i64 (0))])), (1648, (.cells false [(.sl 1 0 5 5 1), (.sl 6 0 2 2 9), (.sl 7 0 1 1 3), (.str [111, 105, 108]), (.int .i64 (40)), (.int .i64 (50)), (.int .i64 (0)), (.int .i64 (0)), (.int .i64 (8)), (.int .i64 (10)), (.int .i64 (60)), (.int .i64 (1000)), (.int .i64 (0)), (.int .i64 (0)), (.int .i64 (0)), (.int .i64 (0)), (.int .i64 (0)), (.int .i64 (0)), (.int .i64 (0)), (.int .i64 (0)), (.int .i64 (0)), (.int .i64 (0)), (.int .i64 (0)), (.int .i64 (0)), (.int .i64 (0)), (.int .i64 (0)), (.int .i64 (0)), (.int .i64 (0)), (.int .i64 (0)), (.int .i64 (0)), (.int .i64 (0)), (.int .i64 (0)), (.int .i64 (0)), (.int .i64 (0)), (.int .i64 (0)), (.int .i64 (0)), (.int .i64 (0)), (.int .i64 (0)), (.int .i64 (0)), (.int .i64 (0)), (.int .i64 (0)), (.int .i64 (0)), (.sl 1652 0 1 1 5)]))], (.sl 1948 0 3 3 3), [(1948, (.cells false [(.int .i64 (41)), (.int .i64 (0)), (.int .i64 (8)), (.int .i64 (43)), (.int .i64 (0)), (.int .i64 (9)), (.int .i64 (45)), (.int .i64 (0)), (.int .i64 (10))]))], 1949⟩
noncomputable def c6 : Ent := ⟨16, [(.agg [(.sl 1 0 5 5 1), (.sl 6 0 2 2 9), (.sl 7 0 1 1 3)]), .nils, (.int .i64 (1)), .nils], 1977, [(1, (.cells false [(.int .i64 (3)), (.int .i64 (3)), (.int .i64 (2)), (.int .i64 (2)), (.int .i64 (3))])), (6, (.cells false [(.str [111, 105, 108]), (.int .i64 (40)), (.int .i64 (50)), (.int .i64 (0)), (.int .i64 (0)), (.int .i64 (8)), (.int .i64 (10)), (.int .i64 (60)), (.int .i64 (1000)), (.str [119, 97, 116, 101, 114]), (.int .i64 (30)), (.int .i64 (40)), (.int .i64 (2)), (.int .i64 (3)), (.int .i64 (0)), (.int .i64 (0)), (.int .i64 (40)), (.int .i64 (500))])), (7, (.cells false [(.int .i64 (2)), (.int .i64 (1)), (.int .i64 (10))]))], (.tup [(.ptr 2017 0), (.sl 2182 0 2 2 3), (.int .i64 (0))]), [(2017, (.cells false [(.sl 1 0 5 5 1), (.sl 6 0 2 2 9), (.sl 7 0 1 1 3), (.str [119, 97, 116, 101, 114]), (.int .i64 (30)), (.int .i64 (40)), (.int .i64 (2)), (.int .i64 (3)), (.int .i64 (0)), (.int .i64 (0)), (.int .i64 (40)), (.int .i64 (500)), (.int .i64 (0)), (.int .i64 (0)), (.int .i64 (10)), (.int .i64 (0)), (.int .i64 (0)), (.int .i64 (0)), (.int .i64 (0)), (.int .i64 (0)), (.int .i64 (0)), (.int .i64 (0)), (.int .i64 (0)), (.int .i64 (0)), (.int .i64 (0)), (.int .i64 (0)), (.int .i64 (0)), (.int .i64 (0)), (.int .i64 (0)), (.int .i64 (0)), (.int .i64 (0)), (.int .i64 (0)), (.int .i64 (0)), (.int .i64 (0)), (.int .i64 (0)), (.int .i64 (0)), (.int .i64 (0)), (.int .i64 (0)), (.int .i64 (0)), (.int .i64 (0)), (.int .i64 (0)), (.int .i64 (0)), .nils])), (2182, (.cells false [(.int .i64 (30)), (.int .i64 (2)), (.int .i64 (0)), (.int .i64 (30)), (.int .i64 (3)), (.int .i64 (0))]))], 2183⟩
noncomputable def c7 : Ent := ⟨39, [(.ptr 2244 0)], 2246, [(1, (.cells false [(.int .i64 (3)), (.int .i64 (3)), (.int .i64 (2)), (.int .i64 (2)), (.int .i64 (3))])), (6, (.cells false [(.str [111, 105, 108]), (.int .i64 (40)), (.int .i64 (50)), (.int .i64 (0)), (.int .i64 (0)), (.int .i64 (8)), (.int .i64 (10)), (.int .i64 (60)), (.int .i64 (1000)), (.str [119, 97, 116, 101, 114]), (.int .i64 (30)), (.int .i64 (40)), (.int .i64 (2)), (.int .i64 (3)), (.int .i64 (0)), (.int .i64 (0)), (.int .i64 (40)), (.int .i64 (500))])), (7, (.cells false [(.int .i64 (2)), (.int .i64 (1)), (.int .i64 (10))])), (2244, (.cells false [(.sl 1 0 5 5 1), (.sl 6 0 2 2 9), (.sl 7 0 1 1 3), (.str [111, 105, 108]), (.int .i64 (40)), (.int .i64 (50)), (.int .i64 (0)), (.int .i64 (0)), (.int .i64 (8)), (.int .i64 (10)), (.int .i64 (60)), (.int .i64 (1000)), (.int .i64 (0)), (.int .i64 (0)), (.int .i64 (0)), (.int .i64 (0)), (.int .i64 (0)), (.int .i64 (0)), (.int .i64 (0)), (.int .i64 (0)), (.int .i64 (0)), (.int .i64 (0)), (.int .i64 (0)), (.int .i64 (0)), (.int .i64 (0)), (.int .i64 (0)), (.int .i64 (0)), (.int .i64 (0)), (.int .i64 (0)), (.int .i64 (0)), (.int .i64 (0)), (.int .i64 (0)), (.int .i64 (0)), (.int .i64 (0)), (.int .i64 (0)), (.int .i64 (0)), (.int .i64 (0)), (.int .i64 (0)), (.int .i64 (0)), (.int .i64 (0)), (.int .i64 (0)), (.int .i64 (0)), .nils]))], (.sl 2488 0 3 3 3), [(2488, (.cells false [(.int .i64 (40)), (.int .i64 (0)), (.int .i64 (8)), (.int .i64 (40)), (.int .i64 (0)), (.int .i64 (9)), (.int .i64 (40)), (.int .i64 (0)), (.int .i64 (10))]))], 2489⟩
noncomputable def c8 : Ent := ⟨39, [(.ptr 2596 0)], 2598, [(1, (.cells false [(.int .i64 (3)), (.int .i64 (3)), (.int .i64 (2)), (.int .i64 (2)), (.int .i64 (3))])), (6, (.cells false [(.str [111, 105, 108]), (.int .i64 (40)), (.int .i64 (50)), (.int .i64 (0)), (.int .i64 (0)), (.int .i64 (8)), (.int .i64 (10)), (.int .i64 (60)), (.int .i64 (1000)), (.str [119, 97, 116, 101, 114]), (.int .i64 (30)), (.int .i64 (40)), (.int .i64 (2)), (.int .i64 (3)), (.int .i64 (0)), (.int .i64 (0)), (.int .i64 (40)), (.int .i64 (500))])), (7, (.cells false [(.int .i64 (2)), (.int .i64 (1)), (.int .i64 (10))])), (2596, (.cells false [(.sl 1 0 5 5 1), (.sl 6 0 2 2 9), (.sl 7 0 1 1 3), (.str [111, 105, 108]), (.int .i64 (40)), (.int .i64 (50)), (.int .i64 (0)), (.int .i64 (0)), (.int .i64 (8)), (.int .i64 (10)), (.int .i64 (60)), (.int .i64 (1000)), (.int .i64 (0)), (.int .i64 (0)), (.int .i64 (0)), (.int .i64 (0)), (.int .i64 (0)), (.int .i64 (0)), (.int .i64 (0)), (.int .i64 (0)), (.int .i64 (0)), (.int .i64 (0)), (.int .i64 (0)), (.int .i64 (0)), (.int .i64 (0)), (.int .i64 (0)), (.int .i64 (0)), (.int .i64 (0)), (.int .i64 (0)), (.int .i64 (0)), (.int .i64 (0)), (.int .i64 (0)), (.int .i64 (0)), (.int .i64 (0)), (.int .i64 (0)), (.int .i64 (0)), (.int .i64 (0)), (.int .i64 (0)), (.int .i64 (0)), (.int .i64 (0)), (.int .i64 (0)), (.int .i64 (0)), .nils]))], (.sl 2840 0 3 3 3), [(2840, (.cells false [(.int .i64 (40)), (.int .i64 (0)), (.int .i64 (8)), (.int .i64 (40)), (.int .i64 (0)), (.int .i64 (9)), (.int .i64 (40)), (.int .i64 (0)), (.int .i64 (10))]))], 2841⟩
noncomputable def c9 : Ent := ⟨53, [(.int .i64 (301)), (.fn 54 [] [(.ptr 2844 0), (.ptr 2843 0)])], 2845, [(1, (.cells false [(.int .i64 (3)), (.int .i64 (3)), (.int .i64 (2)), (.int .i64 (2)), (.int .i64 (3))])), (6, (.cells false [(.str [111, 105, 108]), (.int .i64 (40)), (.int .i64 (50)), (.int .i64 (0)), (.int .i64 (0)), (.int .i64 (8)), (.int .i64 (10)), (.int .i64 (60)), (.int .i64 (1000)), (.str [119, 97, 116, 101, 114]), (.int .i64 (30)), (.int .i64 (40)), (.int .i64 (2)), (.int .i64 (3)), (.int .i64 (0)), (.int .i64 (0)), (.int .i64 (40)), (.int .i64 (500))])), (7, (.cells false [(.int .i64 (2)), (.int .i64 (1)), (.int .i64 (10))])), (2596, (.cells false [(.sl 1 0 5 5 1), (.sl 6 0 2 2 9), (.sl 7 0 1 1 3), (.str [111, 105, 108]), (.int .i64 (40)), (.int .i64 (50)), (.int .i64 (0)), (.int .i64 (0)), (.int .i64 (8)), (.int .i64 (10)), (.int .i64 (60)), (.int .i64 (1000)), (.int .i64 (0)), (.int .i64 (0)), (.int .i64 (0)), (.int .i64 (0)), (.int .i64 (0)), (.int .i64 (0)), (.int .i64 (0)), (.int .i64 (0)), (.int .i64 (0)), (.int .i64 (0)), (.int .i64 (0)), (.int .i64 (0)), (.int .i64 (0)), (.int .i64 (0)), (.int .i64 (0)), (.int .i64 (0)), (.int .i64 (0)), (.int .i64 (0)), (.int .i64 (0)), (.int .i64 (0)), (.int .i64 (0)), (.int .i64 (0)), (.int .i64 (0)), (.int .i64 (0)), (.int .i64 (0)), (.int .i64 (0)), (.int .i64 (0)), (.int .i64 (0)), (.int .i64 (0)), (.int .i64 (0)), .nils])), (2841, (.cells false [(.ptr 2596 0)])), (2553, (.cells false [(.int .i64 (3))])), (2840, (.cells false [(.int .i64 (40)), (.int .i64 (0)), (.int .i64 (8)), (.int .i64 (40)), (.int .i64 (0)), (.int .i64 (9)), (.int .i64 (40)), (.int .i64 (0)), (.int .i64 (10))])), (2842, (.cells false [(.sl 2840 0 3 3 3)])), (2844, (.cells false [(.fn 33 [] [(.ptr 2841 0), (.ptr 2553 0), (.ptr 2842 0)])])), (2843, (.cells false [(.int .i64 (0))]))], (.int .i64 (10)), [], 3097⟩
noncomputable def c10 : Ent := ⟨16, [(.agg [(.sl 1 0 5 5 1), (.sl 6 0 2 2 9), (.sl 7 0 1 1 3)]), .nils, (.int .i64 (1)), .nils], 3098, [(1, (.cells false [(.int .i64 (3)), (.int .i64 (3)), (.int .i64 (2)), (.int .i64 (2)), (.int .i64 (3))])), (6, (.cells false [(.str [111, 105, 108]), (.int .i64 (40)), (.int .i64 (50)), (.int .i64 (0)), (.int .i64 (0)), (.int .i64 (8)), (.int .i64 (10)), (.int .i64 (60)), (.int .i64 (1000)), (.str [119, 97, 116, 101, 114]), (.int .i64 (30)), (.int .i64 (40)), (.int .i64 (2)), (.int .i64 (3)), (.int .i64 (0)), (.int .i64 (0)), (.int .i64 (40)), (.int .i64 (500))])), (7, (.cells false [(.int .i64 (2)), (.int .i64 (1)), (.int .i64 (10))]))], (.tup [(.ptr 3138 0), (.sl 3303 0 2 2 3), (.int .i64 (0))]), [(3138, (.cells false [(.sl 1 0 5 5 1), (.sl 6 0 2 2 9), (.sl 7 0 1 1 3), (.str [119, 97, 116, 101, 114]), (.int .i64 (30)), (.int .i64 (40)), (.int .i64 (2)), (.int .i64 (3)), (.int .i64 (0)), (.int .i64 (0)), (.int .i64 (40)), (.int .i64 (500)), (.int .i64 (0)), (.int .i64 (0)), (.int .i64 (10)), (.int .i64 (0)), (.int .i64 (0)), (.int .i64 (0)), (.int .i64 (0)), (.int .i64 (0)), (.int .i64 (0)), (.int .i64 (0)), (.int .i64 (0)), (.int .i64 (0)), (.int .i64 (0)), (.int .i64 (0)), (.int .i64 (0)), (.int .i64 (0)), (.int .i64 (0)), (.int .i64 (0)), (.int .i64 (0)), (.int .i64 (0)), (.int .i64 (0)), (.int .i64 (0)), (.int .i64 (0)), (.int .i64 (0)), (.int .i64 (0)), (.int .i64 (0)), (.int .i64 (0)), (.int .i64 (0)), (.int .i64 (0)), (.int .i64 (0)), .nils])), (3303, (.cells false [(.int .i64 (30)), (.int .i64 (2)), (.int .i64 (0)), (.int .i64 (30)), (.int .i64 (3)), (.int .i64 (0))]))], 3304⟩
noncomputable def c11 : Ent := ⟨16, [(.agg [(.sl 3367 0 5 5 1), (.sl 3372 0 2 2 9), (.sl 3373 0 1 1 3)]), .nils, (.int .i64 (1)), .nils], 3378, [(3367, (.cells false [(.int .i64 (3)), (.int .i64 (3)), (.int .i64 (2)), (.int .i64 (2)), (.int .i64 (3))])), (3372, (.cells false [(.str [111, 105, 108]), (.int .i64 (40)), (.int .i64 (50)), (.int .i64 (0)), (.int .i64 (0)), (.int .i64 (8)), (.int .i64 (10)), (.int .i64 (60)), (.int .i64 (1000)), (.str [119, 97, 116, 101, 114]), (.int .i64 (30)), (.int .i64 (40)), (.int .i64 (2)), (.int .i64 (3)), (.int .i64 (0)), (.int .i64 (0)), (.int .i64 (40)), (.int .i64 (500))])), (3373, (.cells false [(.int .i64 (2)), (.int .i64 (1)), (.int .i64 (10))]))], (.tup [(.ptr 3418 0), (.sl 3583 0 2 2 3), (.int .i64 (0))]), [(3418, (.cells false [(.sl 3367 0 5 5 1), (.sl 3372 0 2 2 9), (.sl 3373 0 1 1 3), (.str [119, 97, 116, 101, 114]), (.int .i64 (30)), (.int .i64 (40)), (.int .i64 (2)), (.int .i64 (3)), (.int .i64 (0)), (.int .i64 (0)), (.int .i64 (40)), (.int .i64 (500)), (.int .i64 (0)), (.int .i64 (0)), (.int .i64 (10)), (.int .i64 (0)), (.int .i64 (0)), (.int .i64 (0)), (.int .i64 (0)), (.int .i64 (0)), (.int .i64 (0)), (.int .i64 (0)), (.int .i64 (0)), (.int .i64 (0)), (.int .i64 (0)), (.int .i64 (0)), (.int .i64 (0)), (.int .i64 (0)), (.int .i64 (0)), (.int .i64 (0)), (.int .i64 (0)), (.int .i64 (0)), (.int .i64 (0)), (.int .i64 (0)), (.int .i64 (0)), (.int .i64 (0)), (.int .i64 (0)), (.int .i64 (0)), (.int .i64 (0)), (.int .i64 (0)), (.int .i64 (0)), (.int .i64 (0)), .nils])), (3583, (.cells false [(.int .i64 (30)), (.int .i64 (2)), (.int .i64 (0)), (.int .i64 (30)), (.int .i64 (3)), (.int .i64 (0))]))], 3584⟩
noncomputable def c12 : Ent := ⟨39, [(.ptr 3652 0)], 3657, [(3367, (.cells false [(.int .i64 (3)), (.int .i64 (3)), (.int .i64 (2)), (.int .i64 (2)), (.int .i64 (3))])), (3372, (.cells false [(.str [111, 105, 108]), (.int .i64 (40)), (.int .i64 (50)), (.int .i64 (0)), (.int .i64 (0)), (.int .i64 (8)), (.int .i64 (10)), (.int .i64 (60)), (.int .i64 (1000)), (.str [119, 97, 116, 101, 114]), (.int .i64 (30)), (.int .i64 (40)), (.int .i64 (2)), (.int .i64 (3)), (.int .i64 (0)), (.int .i64 (0)), (.int .i64 (40)), (.int .i64 (500))])), (3373, (.cells false [(.int .i64 (2)), (.int .i64 (1)), (.int .i64 (10))])), (3656, (.cells false [(.int .i64 (2)), (.int .i64 (0)), (.int .i64 (25)), (.int .i64 (28)), (.int .i64 (0))])), (3652, (.cells false [(.sl 3367 0 5 5 1), (.sl 3372 0 2 2 9), (.sl 3373 0 1 1 3), (.str [111, 105, 108]), (.int .i64 (40)), (.int .i64 (50)), (.int .i64 (0)), (.int .i64 (0)), (.int .i64 (8)), (.int .i64 (10)), (.int .i64 (60)), (.int .i64 (1000)), (.int .i64 (0)), (.int .i64 (0)), (.int .i64 (0)), (.int .i64 (0)), (.int .i64 (0)), (.int .i64 (0)), (.int .i64 (0)), (.int .i64 (0)), (.int .i64 (0)), (.int .i64 (0)), (.int .i64 (0)), (.int .i64 (0)), (.int .i64 (0)), (.int .i64 (0)), (.int .i64 (0)), (.int .i64 (0)), (.int .i64 (0)), (.int .i64 (0)), (.int .i64 (0)), (.int .i64 (0)), (.int .i64 (0)), (.int .i64 (0)), (.int .i64 (0)), (.int .i64 (0)), (.int .i64 (0)), (.int .i64 (0)), (.int .i64 (0)), (.int .i64 (0)), (.int .i64 (0)), (.int .i64 (0)), (.sl 3656 0 1 1 5)]))], (.sl 3952 0 3 3 3), [(3952, (.cells false [(.int .i64 (41)), (.int .i64 (0)), (.int .i64 (8)), (.int .i64 (43)), (.int .i64 (0)), (.int .i64 (9)), (.int .i64 (45)), (.int .i64 (0)), (.int .i64 (10))]))], 3953⟩
noncomputable def c13 : Ent := ⟨7, [(.agg [(.sl 3367 0 5 5 1), (.sl 3372 0 2 2 9), (.sl 3373 0 1 1 3)]), (.sl 3601 0 1 1 4), (.int .i64 (0)), (.int .i64 (0))], 3602, [(3367, (.cells false [(.int .i64 (3)), (.int .i64 (3)), (.int .i64 (2)), (.int .i64 (2)), (.int .i64 (3))])), (3372, (.cells false [(.str [111, 105, 108]), (.int .i64 (40)), (.int .i64 (50)), (.int .i64 (0)), (.int .i64 (0)), (.int .i64 (8)), (.int .i64 (10)), (.int .i64 (60)), (.int .i64 (1000)), (.str [119, 97, 116, 101, 114]), (.int .i64 (30)), (.int .i64 (40)), (.int .i64 (2)), (.int .i64 (3)), (.int .i64 (0)), (.int .i64 (0)), (.int .i64 (40)), (.int .i64 (500))])), (3373, (.cells false [(.int .i64 (2)), (.int .i64 (1)), (.int .i64 (10))])), (3601, (.cells false [(.int .i64 (2)), (.int .i64 (0)), (.int .i64 (25)), (.int .i64 (28))]))], (.tup [(.agg [(.int .i64 (41)), (.int .i64 (48))]), (.int .i64 (0))]), [], 4301⟩
noncomputable def c14 : Ent := ⟨39, [(.ptr 4342 0)], 4344, [(3367, (.cells false [(.int .i64 (3)), (.int .i64 (3)), (.int .i64 (2)), (.int .i64 (2)), (.int .i64 (3))])), (3372, (.cells false [(.str [111, 105, 108]), (.int .i64 (40)), (.int .i64 (50)), (.int .i64 (0)), (.int .i64 (0)), (.int .i64 (8)), (.int .i64 (10)), (.int .i64 (60)), (.int .i64 (1000)), (.str [119, 97, 116, 101, 114]), (.int .i64 (30)), (.int .i64 (40)), (.int .i64 (2)), (.int .i64 (3)), (.int .i64 (0)), (.int .i64 (0)), (.int .i64 (40)), (.int .i64 (500))])), (3373, (.cells false [(.int .i64 (2)), (.int .i64 (1)), (.int .i64 (10))])), (4342, (.cells false [(.sl 3367 0 5 5 1), (.sl 3372 0 2 2 9), (.sl 3373 0 1 1 3), (.str [111, 105, 108]), (.int .i64 (40)), (.int .i64 (50)), (.int .i64 (0)), (.int .i64 (0)), (.int .i64 (8)), (.int .i64 (10)), (.int .i64 (60)), (.int .i64 (1000)), (.int .i64 (0)), (.int .i64 (0)), (.int .i64 (0)), (.int .i64 (0)), (.int .i64 (0)), (.int .i64 (0)), (.int .i64 (0)), (.int .i64 (0)), (.int .i64 (0)), (.int .i64 (0)), (.int .i64 (0)), (.int .i64 (0)), (.int .i64 (0)), (.int .i64 (0)), (.int .i64 (0)), (.int .i64 (0)), (.int .i64 (0)), (.int .i64 (0)), (.int .i64 (0)), (.int .i64 (0)), (.int .i64 (0)), (.int .i64 (0)), (.int .i64 (0)), (.int .i64 (0)), (.int .i64 (0)), (.int .i64 (0)), (.int .i64 (0)), (.int .i64 (0)), (.int .i64 (0)), (.int .i64 (0)), .nils]))], (.sl 4586 0 3 3 3), [(4586, (.cells false [(.int .i64 (40)), (.int .i64 (0)), (.int .i64 (8)), (.int .i64 (40)), (.int .i64 (0)), (.int .i64 (9)), (.int .i64 (40)), (.int .i64 (0)), (.int .i64 (10))]))], 4587⟩
noncomputable def c15 : Ent := ⟨39, [(.ptr 4665 0)], 4670, [(3367, (.cells false [(.int .i64 (3)), (.int .i64 (3)), (.int .i64 (2)), (.int .i64 (2)), (.int .i64 (3))])), (3372, (.cells false [(.str [111, 105, 108]), (.int .i64 (40)), (.int .i64 (50)), (.int .i64 (0)), (.int .i64 (0)), (.int .i64 (8)), (.int .i64 (10)), (.int .i64 (60)), (.int .i64 (1000)), (.str [119, 97, 116, 101, 114]), (.int .i64 (30)), (.int .i64 (40)), (.int .i64 (2)), (.int .i64 (3)), (.int .i64 (0)), (.int .i64 (0)), (.int .i64 (40)), (.int .i64 (500))])), (3373, (.cells false [(.int .i64 (2)), (.int .i64 (1)), (.int .i64 (10))])), (4669, (.cells false [(.int .i64 (2)), (.int .i64 (0)), (.int .i64 (25)), (.int .i64 (28)), (.int .i64 (0))])), (4665, (.cells false [(.sl 3367 0 5 5 1), (.sl 3372 0 2 2 9), (.sl 3373 0 1 1 3), (.str [111, 105, 108]), (.int .i64 (40)), (.int .i64 (50)), (.int .i64 (0)), (.int .i64 (0)), (.int .i64 (8)), (.int .i64 (10)), (.int .i64 (60)), (.int .i64 (1000)), (.int .i64 (0)), (.int .i64 (0)), (.int .i64 (0)), (.int .i64 (0)), (.int .i64 (0)), (.int .i64 (0)), (.int .i64 (0)), (.int .i64 (0)), (.int .i64 (0)), (.int .i64 (0)), (.int .i64 (0)), (.int .i64 (0)), (.int .i64 (0)), (.int .i64 (0)), (.int .i64 (0)), (.int .i64 (0)), (.int .i64 (0)), (.int .i64 (0)), (.int .i64 (0)), (.int .i64 (0)), (.int .i64 (0)), (.int .i64 (0)), (.int .i64 (0)), (.int .i64 (0)), (.int .i64 (0)), (.int .i64 (0)), (.int .i64 (0)), (.int .i64 (0)), (.int .i64 (0)), (.int .i64 (0)), (.sl 4669 0 1 1 5)]))], (.sl 4965 0 3 3 3), [(4965, (.cells false [(.int .i64 (41)), (.int .i64 (0)), (.int .i64 (8)), (.int .i64 (43)), (.int .i64 (0)), (.int .i64 (9)), (.int .i64 (45)), (.int .i64 (0)), (.int .i64 (10))]))], 4966⟩
noncomputable def c16 : Ent := ⟨39, [(.ptr 5079 0)], 5084, [(3367, (.cells false [(.int .i64 (3)), (.int .i64 (3)), (.int .i64 (2)), (.int .i64 (2)), (.int .i64 (3))])), (3372, (.cells false [(.str [111, 105, 108]), (.int .i64 (40)), (.int .i64 (50)), (.int .i64 (0)), (.int .i64 (0)), (.int .i64 (8)), (.int .i64 (10)), (.int .i64 (60)), (.int .i64 (1000)), (.str [119, 97, 116, 101, 114]), (.int .i64 (30)), (.int .i64 (40)), (.int .i64 (2)), (.int .i64 (3)), (.int .i64 (0)), (.int .i64 (0)), (.int .i64 (40)), (.int .i64 (500))])), (3373, (.cells false [(.int .i64 (2)), (.int .i64 (1)), (.int .i64 (10))])), (5083, (.cells false [(.int .i64 (2)), (.int .i64 (0)), (.int .i64 (25)), (.int .i64 (28)), (.int .i64 (0))])), (5079, (.cells false [(.sl 3367 0 5 5 1), (.sl 3372 0 2 2 9), (.sl 3373 0 1 1 3), (.str [111, 105, 108]), (.int .i64 (40)), (.int .i64 (50)), (.int .i64 (0)), (.int .i64 (0)), (.int .i64 (8)), (.int .i64 (10)), (.int .i64 (60)), (.int .i64 (1000)), (.int .i64 (0)), (.int .i64 (0)), (.int .i64 (0)), (.int .i64 (0)), (.int .i64 (0)), (.int .i64 (0)), (.int .i64 (0)), (.int .i64 (0)), (.int .i64 (0)), (.int .i64 (0)), (.int .i64 (0)), (.int .i64 (0)), (.int .i64 (0)), (.int .i64 (0)), (.int .i64 (0)), (.int .i64 (0)), (.int .i64 (0)), (.int .i64 (0)), (.int .i64 (0)), (.int .i64 (0)), (.int .i64 (0)), (.int .i64 (0)), (.int .i64 (0)), (.int .i64 (0)), (.int .i64 (0)), (.int .i64 (0)), (.int .i64 (0)), (.int .i64 (0)), (.int .i64 (0)), (.int .i64 (0)), (.sl 5083 0 1 1 5)]))], (.sl 5379 0 3 3 3), [(5379, (.cells false [(.int .i64 (41)), (.int .i64 (0)), (.int .i64 (8)), (.int .i64 (43)), (.int .i64 (0)), (.int .i64 (9)), (.int .i64 (45)), (.int .i64 (0)), (.int .i64 (10))]))], 5380⟩
noncomputable def c17 : Ent := ⟨53, [(.int .i64 (301)), (.fn 54 [] [(.ptr 5383 0), (.ptr 5382 0)])], 5384, [(3367, (.cells false [(.int .i64 (3)), (.int .i64 (3)), (.int .i64 (2)), (.int .i64 (2)), (.int .i64 (3))])), (3372, (.cells false [(.str [111, 105, 108]), (.int .i64 (40)), (.int .i64 (50)), (.int .i64 (0)), (.int .i64 (0)), (.int .i64 (8)), (.int .i64 (10)), (.int .i64 (60)), (.int .i64 (1000)), (.str [119, 97, 116, 101, 114]), (.int .i64 (30)), (.int .i64 (40)), (.int .i64 (2)), (.int .i64 (3)), (.int .i64 (0)), (.int .i64 (0)), (.int .i64 (40)), (.int .i64 (500))])), (3373, (.cells false [(.int .i64 (2)), (.int .i64 (1)), (.int .i64 (10))])), (5083, (.cells false [(.int .i64 (2)), (.int .i64 (0)), (.int .i64 (25)), (.int .i64 (28)), (.int .i64 (0))])), (5079, (.cells false [(.sl 3367 0 5 5 1), (.sl 3372 0 2 2 9), (.sl 3373 0 1 1 3), (.str [111, 105, 108]), (.int .i64 (40)), (.int .i64 (50)), (.int .i64 (0)), (.int .i64 (0)), (.int .i64 (8)), (.int .i64 (10)), (.int .i64 (60)), (.int .i64 (1000)), (.int .i64 (0)), (.int .i64 (0)), (.int .i64 (0)), (.int .i64 (0)), (.int .i64 (0)), (.int .i64 (0)), (.int .i64 (0)), (.int .i64 (0)), (.int .i64 (0)), (.int .i64 (0)), (.int .i64 (0)), (.int .i64 (0)), (.int .i64 (0)), (.int .i64 (0)), (.int .i64 (0)), (.int .i64 (0)), (.int .i64 (0)), (.int .i64 (0)), (.int .i64 (0)), (.int .i64 (0)), (.int .i64 (0)), (.int .i64 (0)), (.int .i64 (0)), (.int .i64 (0)), (.int .i64 (0)), (.int .i64 (0)), (.int .i64 (0)), (.int .i64 (0)), (.int .i64 (0)), (.int .i64 (0)), (.sl 5083 0 1 1 5)])), (5380, (.cells false [(.ptr 5079 0)])), (5031, (.cells false [(.int .i64 (3))])), (5379, (.cells false [(.int .i64 (41)), (.int .i64 (0)), (.int .i64 (8)), (.int .i64 (43)), (.int .i64 (0)), (.int .i64 (9)), (.int .i64 (45)), (.int .i64 (0)), (.int .i64 (10))])), (5381, (.cells false [(.sl 5379 0 3 3 3)])), (5383, (.cells false [(.fn 33 [] [(.ptr 5380 0), (.ptr 5031 0), (.ptr 5381 0)])])), (5382, (.cells false [(.int .i64 (0))]))], (.int .i64 (5)), [], 5636⟩
noncomputable def c18 : Ent := ⟨64, [(.mp 5882)], 6535, [(5882, (.cmap [((.agg [(.bool true), (.bool false), (.bool false), (.bool false), (.bool false), (.bool false), (.bool false), (.bool false)]), (.bool true)), ((.agg [(.bool false), (.bool true), (.bool false), (.bool false), (.bool false), (.bool false), (.bool false), (.bool false)]), (.bool true))] [0, 1] 2))], (.csl [(.int .i64 (0))] 1), [], 6549⟩
noncomputable def c19 : Ent := ⟨55, [(.ptr 5873 0)], 5881, [(3367, (.cells false [(.int .i64 (3)), (.int .i64 (3)), (.int .i64 (2)), (.int .i64 (2)), (.int .i64 (3))])), (3372, (.cells false [(.str [111, 105, 108]), (.int .i64 (40)), (.int .i64 (50)), (.int .i64 (0)), (.int .i64 (0)), (.int .i64 (8)), (.int .i64 (10)), (.int .i64 (60)), (.int .i64 (1000)), (.str [119, 97, 116, 101, 114]), (.int .i64 (30)), (.int .i64 (40)), (.int .i64 (2)), (.int .i64 (3)), (.int .i64 (0)), (.int .i64 (0)), (.int .i64 (40)), (.int .i64 (500))])), (3373, (.cells false [(.int .i64 (2)), (.int .i64 (1)), (.int .i64 (10))])), (5880, (.cells false [(.int .i64 (2)), (.int .i64 (0)), (.int .i64 (25)), (.int .i64 (28)), (.int .i64 (0)), (.int .i64 (2)), (.int .i64 (0)), (.int .i64 (0)), (.int .i64 (24)), (.int .i64 (1))])), (5873, (.cells false [(.sl 3367 0 5 5 1), (.sl 3372 0 2 2 9), (.sl 3373 0 1 1 3), (.str [111, 105, 108]), (.int .i64 (40)), (.int .i64 (50)), (.int .i64 (0)), (.int .i64 (0)), (.int .i64 (8)), (.int .i64 (10)), (.int .i64 (60)), (.int .i64 (1000)), (.int .i64 (0)), (.int .i64 (0)), (.int .i64 (0)), (.int .i64 (0)), (.int .i64 (0)), (.int .i64 (0)), (.int .i64 (0)), (.int .i64 (0)), (.int .i64 (0)), (.int .i64 (0)), (.int .i64 (0)), (.int .i64 (0)), (.int .i64 (0)), (.int .i64 (0)), (.int .i64 (0)), (.int .i64 (0)), (.int .i64 (0)), (.int .i64 (0)), (.int .i64 (0)), (.int .i64 (0)), (.int .i64 (0)), (.int .i64 (0)), (.int .i64 (0)), (.int .i64 (0)), (.int .i64 (0)), (.int .i64 (0)), (.int .i64 (0)), (.int .i64 (0)), (.int .i64 (0)), (.int .i64 (0)), (.sl 5880 0 2 2 5)]))], (.csl [(.int .i64 (0))] 1), [], 6549⟩
noncomputable def c20 : Ent := ⟨64, [(.mp 6556)], 6575, [(6556, (.cmap [((.agg [(.bool false), (.bool false), (.bool false), (.bool false), (.bool false), (.bool false), (.bool false), (.bool false)]), (.bool true))] [0] 1))], .nils, [], 6580⟩
noncomputable def c21 : Ent := ⟨16, [(.agg [(.sl 3367 0 5 5 1), (.sl 3372 0 2 2 9), (.sl 3373 0 1 1 3)]), .nils, (.int .i64 (1)), .nils], 6583, [(3367, (.cells false [(.int .i64 (3)), (.int .i64 (3)), (.int .i64 (2)), (.int .i64 (2)), (.int .i64 (3))])), (3372, (.cells false [(.str [111, 105, 108]), (.int .i64 (40)), (.int .i64 (50)), (.int .i64 (0)), (.int .i64 (0)), (.int .i64 (8)), (.int .i64 (10)), (.int .i64 (60)), (.int .i64 (1000)), (.str [119, 97, 116, 101, 114]), (.int .i64 (30)), (.int .i64 (40)), (.int .i64 (2)), (.int .i64 (3)), (.int .i64 (0)), (.int .i64 (0)), (.int .i64 (40)), (.int .i64 (500))])), (3373, (.cells false [(.int .i64 (2)), (.int .i64 (1)), (.int .i64 (10))]))], (.tup [(.ptr 6623 0), (.sl 6788 0 2 2 3), (.int .i64 (0))]), [(6623, (.cells false [(.sl 3367 0 5 5 1), (.sl 3372 0 2 2 9), (.sl 3373 0 1 1 3), (.str [119, 97, 116, 101, 114]), (.int .i64 (30)), (.int .i64 (40)), (.int .i64 (2)), (.int .i64 (3)), (.int .i64 (0)), (.int .i64 (0)), (.int .i64 (40)), (.int .i64 (500)), (.int .i64 (0)), (.int .i64 (0)), (.int .i64 (10)), (.int .i64 (0)), (.int .i64 (0)), (.int .i64 (0)), (.int .i64 (0)), (.int .i64 (0)), (.int .i64 (0)), (.int .i64 (0)), (.int .i64 (0)), (.int .i64 (0)), (.int .i64 (0)), (.int .i64 (0)), (.int .i64 (0)), (.int .i64 (0)), (.int .i64 (0)), (.int .i64 (0)), (.int .i64 (0)), (.int .i64 (0)), (.int .i64 (0)), (.int .i64 (0)), (.int .i64 (0)), (.int .i64 (0)), (.int .i64 (0)), (.int .i64 (0)), (.int .i64 (0)), (.int .i64 (0)), (.int .i64 (0)), (.int .i64 (0)), .nils])), (6788, (.cells false [(.int .i64 (30)), (.int .i64 (2)), (.int .i64 (0)), (.int .i64 (30)), (.int .i64 (3)), (.int .i64 (0))]))], 6789⟩
noncomputable def c22 : Ent := ⟨15, [], 3366, [], (.bool true), [], 6813⟩
end Go.Proofs.Ytpnipaimaohiaab

