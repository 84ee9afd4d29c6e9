/-
  LOOPS, told by their heads.
-/
import Derived.Test.YtgcgffnamfbcgaaGreatDoorPart03
import Derived.Test.YtgcgffnamfbcgaaGreatDoorPart02
import Derived.DataReads
import Derived.OpenShut
import GoSem.ClaimJoined
import Derived.Lib.LaidU8
import Derived.FnData
import Derived.MakeChecks
import Derived.ProofKit
import Derived.LaidMore
import Derived.Stop.Joined
import Derived.Lay
import Derived.Carry
set_option linter.unusedSectionVars false
set_option linter.unusedSimpArgs false
set_option linter.unusedVariables false
set_option maxRecDepth 100000
namespace Go.Proofs.YtgcgffnamfbcgaaGreatDoor
open Go Go.Eng
theorem vecTo_start (a b : tP.den) : adv E0 (hdOf []) 3000 (startC E0 88 [tP.av a, tP.av b] 3) = some (.done (.agg [(.int .i64 (wr IntKind.i64 (b.fst - a.fst))), (.int .i64 (wr IntKind.i64 (b.snd.fst - a.snd.fst)))])) := by kernel_rfl
noncomputable def nameI0 (s : List Nat) (x2 : Int) (x8 : Nat) (x16 : Nat) : Cfg := ⟨.ex (pcOf E0 106 [0, 0, 1, 0, 1, 1, 1]) ⟨(tmOf 34 [(0, (.str (s))), (2, (.bool (false))), (3, (.int .i32 x2)), (7, (.str (s))), (8, (.int .i64 (Int.ofNat s.length))), (9, (.bool (false))), (10, (.str (s))), (11, (.iter 0))]), (hpOf 1 [(0, (.siter (s) x8))]), [], [], 34, false⟩, ⟨3, []⟩, [(.lop (pcOf E0 106 [0, 0, 1, 0, 1, 1, 1]) 1 (tmOf 34 [(0, (.str (s))), (2, (.bool (false))), (3, (.int .i32 (45))), (7, (.str (s))), (8, (.int .i64 (Int.ofNat s.length))), (9, (.bool (false))), (10, (.str (s))), (11, (.iter 0))]) x16), (.blk 0), (.seq (pcOf E0 106 [1, 1, 1, 1])), (.cal [(.tmp 2)] .top)]⟩
theorem name_start (s : List Nat) : adv E0 (hdOf [106]) 3000 (startC E0 106 [.str s] 3) = (bif !ile (↑s.length) 14 then some (.done (.bool (false))) else some (.stop (nameI0 s (45) (0) (1048575)))) := by kernel_rfl
theorem name_step0 (s : List Nat) (x2 : Int) (x8 : Nat) (x16 : Nat) : adv E0 (hdOf [106]) 3000 (nameI0 s x2 x8 (x16 + 1)) = (bif (x8 + 1).ble s.length then (bif (s.getD x8 0).ble 127 then (bif ile 97 (Int.ofNat (s.getD x8 0)) then (bif !ile (Int.ofNat (s.getD x8 0)) 122 then (bif !ieq (Int.ofNat (s.getD x8 0)) 45 then some (.done (.bool (false))) else (bif ieq x2 45 then some (.done (.bool (false))) else some (.stop (nameI0 s (Int.ofNat (s.getD x8 0)) (x8 + 1) (x16))))) else some (.stop (nameI0 s (Int.ofNat (s.getD x8 0)) (x8 + 1) (x16)))) else (bif !ieq (Int.ofNat (s.getD x8 0)) 45 then some (.done (.bool (false))) else (bif ieq x2 45 then some (.done (.bool (false))) else some (.stop (nameI0 s (Int.ofNat (s.getD x8 0)) (x8 + 1) (x16)))))) else (bif ile 97 (Int.ofNat (decN s x8).fst) then (bif !ile (Int.ofNat (decN s x8).fst) 122 then (bif !ieq (Int.ofNat (decN s x8).fst) 45 then some (.done (.bool (false))) else (bif ieq x2 45 then some (.done (.bool (false))) else some (.stop (nameI0 s (Int.ofNat (decN s x8).fst) (x8 + (decN s x8).snd) (x16))))) else some (.stop (nameI0 s (Int.ofNat (decN s x8).fst) (x8 + (decN s x8).snd) (x16)))) else (bif !ieq (Int.ofNat (decN s x8).fst) 45 then some (.done (.bool (false))) else (bif ieq x2 45 then some (.done (.bool (false))) else some (.stop (nameI0 s (Int.ofNat (decN s x8).fst) (x8 + (decN s x8).snd) (x16))))))) else some (.done (.bool (!ieq x2 45)))) := by kernel_rfl
noncomputable def rnameI0 (s : List Nat) (x2 : Int) (x14 : Nat) : Cfg := ⟨.ex (pcOf E0 89 [0, 0, 1, 0, 1, 1]) ⟨(tmOf 46 [(0, (.str (s))), (2, (.bool (false))), (3, (.int .i64 x2)), (4, (.str (s))), (5, (.int .i64 (Int.ofNat s.length))), (6, (.bool (ile (↑s.length) 14))), (7, (.bool (false)))]), (hpOf 0 []), [], [], 46, false⟩, ⟨3, []⟩, [(.lop (pcOf E0 89 [0, 0, 1, 0, 1, 1]) 0 (tmOf 46 [(0, (.str (s))), (2, (.bool (false))), (3, (.int .i64 (0))), (4, (.str (s))), (5, (.int .i64 (Int.ofNat s.length))), (6, (.bool (ile (↑s.length) 14))), (7, (.bool (false)))]) x14), (.blk 0), (.seq (pcOf E0 89 [1, 1, 1])), (.cal [(.tmp 2)] .top)]⟩
theorem rname_start (s : List Nat) : adv E0 (hdOf [89]) 3000 (startC E0 89 [.str s] 3) = (bif ile 1 ↑s.length then (bif !ile (↑s.length) 14 then some (.done (.bool (false))) else some (.stop (rnameI0 s (0) (1048575)))) else some (.done (.bool (false)))) := by kernel_rfl
theorem rname_step0 (s : List Nat) (x2 : Int) (x14 : Nat) : adv E0 (hdOf [89]) 3000 (rnameI0 s x2 (x14 + 1)) = (bif !ile (↑s.length) x2 then (bif inB x2 s.length then (bif ile 97 (Int.ofNat (s.getD x2.toNat 0)) then (bif inB x2 s.length then (bif ile (Int.ofNat (s.getD x2.toNat 0)) 122 then some (.stop (rnameI0 s (wr IntKind.i64 (x2 + 1)) (x14))) else (bif inB x2 s.length then (bif !ieq (Int.ofNat (s.getD x2.toNat 0)) 45 then some (.done (.bool (false))) else (bif ieq x2 0 then some (.done (.bool (false))) else (bif ieq x2 (wr IntKind.i64 (↑s.length - 1)) then some (.done (.bool (false))) else (bif inB (wr IntKind.i64 (x2 - 1)) s.length then (bif ieq (Int.ofNat (s.getD (wr IntKind.i64 (x2 - 1)).toNat 0)) 45 then some (.done (.bool (false))) else some (.stop (rnameI0 s (wr IntKind.i64 (x2 + 1)) (x14)))) else none)))) else none)) else none) else (bif inB x2 s.length then (bif !ieq (Int.ofNat (s.getD x2.toNat 0)) 45 then some (.done (.bool (false))) else (bif ieq x2 0 then some (.done (.bool (false))) else (bif ieq x2 (wr IntKind.i64 (↑s.length - 1)) then some (.done (.bool (false))) else (bif inB (wr IntKind.i64 (x2 - 1)) s.length then (bif ieq (Int.ofNat (s.getD (wr IntKind.i64 (x2 - 1)).toNat 0)) 45 then some (.done (.bool (false))) else some (.stop (rnameI0 s (wr IntKind.i64 (x2 + 1)) (x14)))) else none)))) else none)) else none) else some (.done (.bool (true)))) := by kernel_rfl
noncomputable def paintsI0 (d : (Ty.sl tP).den) (x3 : Int) (x7 : Int) (x16 : Nat) : Cfg := ⟨.ex (pcOf E0 107 [0, 0, 1, 0, 1, 1]) ⟨(tmOf 31 [(0, (.vs tP (d.fst) (d.snd))), (2, (.int .i64 (0))), (3, (.int .i64 x3)), (6, (.vs tP (d.fst) (d.snd))), (7, (.int .i64 (Int.ofNat d.snd.length))), (8, (.int .i64 x7))]), (hpOf 0 []), [], [], 31, false⟩, ⟨3, []⟩, [(.lop (pcOf E0 107 [0, 0, 1, 0, 1, 1]) 0 (tmOf 31 [(0, (.vs tP (d.fst) (d.snd))), (2, (.int .i64 (0))), (3, (.int .i64 (-1))), (6, (.vs tP (d.fst) (d.snd))), (7, (.int .i64 (Int.ofNat d.snd.length))), (8, (.int .i64 (0)))]) x16), (.blk 0), (.seq (pcOf E0 107 [1, 1, 1])), (.cal [(.tmp 2)] .top)]⟩
theorem paints_start (d : (Ty.sl tP).den) : adv E0 (hdOf [107]) 3000 (startC E0 107 [.vs tP d.1 d.2] 3) = some (.stop (paintsI0 d (-1) (0) (1048575))) := by kernel_rfl
theorem paints_step0 (d : (Ty.sl tP).den) (x3 : Int) (x7 : Int) (x16 : Nat) : adv E0 (hdOf [107]) 3000 (paintsI0 d x3 x7 (x16 + 1)) = (bif !ile (Int.ofNat d.snd.length) x7 then (bif inB x7 d.snd.length then (bif !ile 0 (d.snd.getD x7.toNat tP.dflt).fst then some (.done (.int .i64 (7))) else (bif !ile (d.snd.getD x7.toNat tP.dflt).fst 40000 then some (.done (.int .i64 (7))) else (bif !ile 0 (d.snd.getD x7.toNat tP.dflt).snd.fst then some (.done (.int .i64 (7))) else (bif !ile (d.snd.getD x7.toNat tP.dflt).snd.fst 4 then some (.done (.int .i64 (7))) else (bif ile (d.snd.getD x7.toNat tP.dflt).fst x3 then some (.done (.int .i64 (2))) else some (.stop (paintsI0 d ((d.snd.getD x7.toNat tP.dflt).fst) (wr IntKind.i64 (x7 + 1)) (x16)))))))) else none) else some (.done (.int .i64 (0)))) := by kernel_rfl
noncomputable def rpaintsI0 (d : (Ty.sl tP).den) (x3 : Int) (x18 : Nat) : Cfg := ⟨.ex (pcOf E0 73 [0, 0, 1, 0, 1, 1]) ⟨(tmOf 46 [(0, (.vs tP (d.fst) (d.snd))), (2, (.int .i64 (0))), (3, (.int .i64 x3)), (4, (.vs tP (d.fst) (d.snd))), (5, (.int .i64 (Int.ofNat d.snd.length))), (6, (.bool (ile (↑d.snd.length) 4))), (7, (.bool (false)))]), (hpOf 0 []), [], [], 46, false⟩, ⟨3, []⟩, [(.lop (pcOf E0 73 [0, 0, 1, 0, 1, 1]) 0 (tmOf 46 [(0, (.vs tP (d.fst) (d.snd))), (2, (.int .i64 (0))), (3, (.int .i64 (0))), (4, (.vs tP (d.fst) (d.snd))), (5, (.int .i64 (Int.ofNat d.snd.length))), (6, (.bool (ile (↑d.snd.length) 4))), (7, (.bool (false)))]) x18), (.blk 0), (.seq (pcOf E0 73 [1, 1, 1])), (.cal [(.tmp 2)] .top)]⟩
theorem rpaints_start (d : (Ty.sl tP).den) : adv E0 (hdOf [73]) 3000 (startC E0 73 [.vs tP d.1 d.2] 3) = (bif ile 1 ↑d.snd.length then (bif !ile (↑d.snd.length) 4 then some (.done (.int .i64 (3))) else some (.stop (rpaintsI0 d (0) (1048575)))) else some (.done (.int .i64 (3)))) := by kernel_rfl
theorem rpaints_step0 (d : (Ty.sl tP).den) (x3 : Int) (x18 : Nat) : adv E0 (hdOf [73]) 3000 (rpaintsI0 d x3 (x18 + 1)) = (bif !ile (↑d.snd.length) x3 then (bif inB x3 d.snd.length then (bif ile 0 (d.snd.getD x3.toNat tP.dflt).fst then (bif !ile (d.snd.getD x3.toNat tP.dflt).fst 40000 then some (.done (.int .i64 (7))) else (bif inB x3 d.snd.length then (bif ile 0 (d.snd.getD x3.toNat tP.dflt).snd.fst then (bif !ile (d.snd.getD x3.toNat tP.dflt).snd.fst 4 then some (.done (.int .i64 (7))) else (bif !ile x3 0 then (bif inB x3 d.snd.length then (bif inB (wr IntKind.i64 (x3 - 1)) d.snd.length then (bif ile (d.snd.getD x3.toNat tP.dflt).fst (d.snd.getD (wr IntKind.i64 (x3 - 1)).toNat tP.dflt).fst then some (.done (.int .i64 (2))) else some (.stop (rpaintsI0 d (wr IntKind.i64 (x3 + 1)) (x18)))) else none) else none) else some (.stop (rpaintsI0 d (wr IntKind.i64 (x3 + 1)) (x18))))) else some (.done (.int .i64 (7)))) else none)) else some (.done (.int .i64 (7)))) else none) else some (.done (.int .i64 (0)))) := by kernel_rfl
noncomputable def placeI0 (d : (Ty.sl .str).den) (s : List Nat) (x4 : Int) (x10 : Nat) : Cfg := ⟨.ex (pcOf E0 90 [0, 0, 1, 0, 1]) ⟨(tmOf 19 [(0, (.vs .str (d.fst) (d.snd))), (1, (.str (s))), (4, (.int .i64 (0))), (5, (.int .i64 x4))]), (hpOf 0 []), [], [], 19, false⟩, ⟨3, []⟩, [(.lop (pcOf E0 90 [0, 0, 1, 0, 1]) 0 (tmOf 19 [(0, (.vs .str (d.fst) (d.snd))), (1, (.str (s))), (4, (.int .i64 (0))), (5, (.int .i64 (0)))]) x10), (.blk 0), (.seq (pcOf E0 90 [1, 1])), (.cal [(.tmp 4)] .top)]⟩
theorem place_start (d : (Ty.sl .str).den) (s : List Nat) : adv E0 (hdOf [90]) 3000 (startC E0 90 [.vs .str d.1 d.2, .str s] 3) = some (.stop (placeI0 d s (0) (1048575))) := by kernel_rfl
theorem place_step0 (d : (Ty.sl .str).den) (s : List Nat) (x4 : Int) (x10 : Nat) : adv E0 (hdOf [90]) 3000 (placeI0 d s x4 (x10 + 1)) = (bif !ile (↑d.snd.length) x4 then (bif inB x4 d.snd.length then (bif lbeq (d.snd.getD x4.toNat Ty.str.dflt) s then some (.done (.int .i64 (x4))) else some (.stop (placeI0 d s (wr IntKind.i64 (x4 + 1)) (x10)))) else none) else some (.done (.int .i64 (-1)))) := by kernel_rfl

/-! ### What they come to -/

theorem same_at {α : Type} {l : List α} {j k : Nat} (hk : k < l.length) (hj : j < l.length) (e : k + 1 = j + 1) : l[k] = l[j] := by
  have : k = j := by omega
  subst this; rfl

theorem ile_neg {a : Int} (h : ile 0 a = true) : ile a (-1) = false := by
  rw [ile_iff] at h ⊢
  simp only [decide_eq_true_eq] at h
  exact decide_eq_false (by omega)

/-! #### Place -/
def placeF (s : List Nat) : List (List Nat) → Nat → Int
  | [], _ => -1
  | a :: l, k => if a = s then k else placeF s l (k + 1)
theorem place_ans (d : (Ty.sl .str).den) (s : List Nat) (hl : d.2.length < 1048576) : ∀ (r k m : Nat), k + r = d.2.length → r < m → Ans E0 (placeI0 d s k m) (.int .i64 (placeF s (d.2.drop k) k))
  | 0, k, m + 1, hk, hm => by
    have h := place_step0 d s k m
    simp only [Int.ofNat_eq_natCast, ile_ge (show d.2.length ≤ k by omega), Bool.not_true, cond_false] at h
    rw [List.drop_eq_nil_of_le (by omega)]
    exact .doneI (hdOf_ok _) E0sy h rfl
  | r + 1, k, m + 1, hk, hm => by
    have h := place_step0 d s k m
    have hlt : k < d.2.length := by omega
    simp only [Int.ofNat_eq_natCast, ile_lt hlt, inB_at hlt, getD_at hlt, wr_succ (show k < 1048577 by omega), Bool.not_false, cond_true, lbeq_iff] at h
    rw [List.drop_eq_getElem_cons hlt, placeF]
    by_cases e : d.2[k] = s
    · simp only [e, decide_true, cond_true] at h
      rw [if_pos e]
      exact .doneI (hdOf_ok _) E0sy h rfl
    · simp only [e, decide_false, cond_false] at h
      rw [if_neg e]
      exact .stop (hdOf_ok _) E0sy h (place_ans d s hl r (k + 1) m (by omega) (by omega))
theorem place_call (d : (Ty.sl .str).den) (s : List Nat) (hl : d.2.length < 1048575) : AnsF E0 90 [.vs .str d.1 d.2, .str s] (.int .i64 (placeF s d.2 0)) :=
  Ans.call (n := 3) (E0ext _ _ (by kernel_rfl)) (hasB_spec (by kernel_rfl)) (.stop (hdOf_ok _) E0sy (place_start d s) (place_ans d s (by omega) d.2.length 0 1048575 (by omega) (by omega)))

/-! #### Name -/
noncomputable def isL (c : Nat) : Bool := ile 97 (c : Int) && ile (c : Int) 122
noncomputable def nmF : Int → List Nat → Bool
  | b, [] => !ieq b 45
  | b, c :: l => bif isL c then nmF c l else (bif ieq (c : Int) 45 && !ieq b 45 then nmF c l else false)
noncomputable def nameS (s : List Nat) : Bool := ile (s.length : Int) 14 && nmF 45 s
theorem name_ans (s : List Nat) (hl : s.length < 1048576) : ∀ (r k m : Nat) (b : Int), k + r = s.length → r < m → Ans E0 (nameI0 s b k m) (.bool (nmF b (s.drop k)))
  | 0, k, m + 1, b, hk, hm => by
    have h := name_step0 s b k m
    have e : (k + 1).ble s.length = false := by cases e : (k + 1).ble s.length with | false => rfl | true => exact absurd (Nat.le_of_ble_eq_true e) (by omega)
    simp only [e, cond_false] at h
    rw [List.drop_eq_nil_of_le (by omega), nmF]
    first
      | exact .doneB (hdOf_ok _) E0sy h rfl
      | (cases c1 : ieq b 45 <;> simp only [c1, cond_true, cond_false, Bool.not_true, Bool.not_false] at h <;> exact .doneB (hdOf_ok _) E0sy h rfl)
  | r + 1, k, m + 1, b, hk, hm => by
    have h := name_step0 s b k m
    have hlt : k < s.length := by omega
    have e : (k + 1).ble s.length = true := Nat.ble_eq_true_of_le hlt
    have eg : s.getD k 0 = s[k] := by simp [hlt]
    rw [List.drop_eq_getElem_cons hlt, nmF, isL]
    cases hb : (s[k]).ble 127 with
    | true =>
      simp only [e, cond_true, eg, hb, Int.ofNat_eq_natCast] at h
      have ih := name_ans s hl r (k + 1) m (s[k] : Int) (by omega) (by omega)
      cases c1 : ile 97 (s[k] : Int) <;> cases c2 : ile (s[k] : Int) 122 <;> cases c3 : ieq (s[k] : Int) 45 <;> cases c4 : ieq b 45 <;>
        simp only [c1, c2, c3, c4, cond_true, cond_false, Bool.not_true, Bool.not_false, Bool.and_true, Bool.and_false] at h ⊢ <;>
        first
          | exact .doneB (hdOf_ok _) E0sy h rfl
          | exact .stop (hdOf_ok _) E0sy h ih
    | false =>
      have hbig : 128 ≤ (decN s k).1 := decN_big hlt (by rw [eg]; exact Nat.lt_of_not_le (fun h' => by rw [Nat.ble_eq_true_of_le h'] at hb; cases hb))
      have hc : 127 < s[k] := Nat.lt_of_not_le (fun h' => by rw [Nat.ble_eq_true_of_le h'] at hb; cases hb)
      have d1 : ile 97 ((decN s k).1 : Int) = true := by rw [ile_iff]; simp; omega
      have d2 : ile ((decN s k).1 : Int) 122 = false := by rw [ile_iff]; simp; omega
      have d3 : ieq ((decN s k).1 : Int) 45 = false := by rw [ieq_iff]; simp; omega
      have f2 : ile (s[k] : Int) 122 = false := by rw [ile_iff]; simp; omega
      have f3 : ieq (s[k] : Int) 45 = false := by rw [ieq_iff]; simp; omega
      simp only [e, cond_true, cond_false, eg, hb, Int.ofNat_eq_natCast, d1, d2, d3, Bool.not_false] at h
      simp only [f2, f3, Bool.and_false, Bool.false_and, cond_false]
      exact .doneB (hdOf_ok _) E0sy h rfl
theorem name_call (s : List Nat) : AnsF E0 106 [.str s] (.bool (nameS s)) := by
  refine Ans.call (n := 3) (E0ext _ _ (by kernel_rfl)) (hasB_spec (by kernel_rfl)) ?_
  have h := name_start s
  unfold nameS
  cases c1 : ile (s.length : Int) 14 with
  | false =>
    simp only [c1, Bool.not_false, cond_true] at h
    exact .doneB (hdOf_ok _) E0sy h rfl
  | true =>
    simp only [c1, Bool.not_true, cond_false] at h
    have hl : s.length ≤ 14 := by rw [ile_iff] at c1; simp at c1; omega
    exact .stopE (hdOf_ok _) E0sy h (name_ans s (by omega) s.length 0 1048575 45 (by omega) (by omega)) (by simp)
theorem rname_ans (s : List Nat) (hl : s.length ≤ 14) : ∀ (r k m : Nat) (b : Int), k + r = s.length → r < m → (k = 0 → b = 45 ∧ 0 < s.length) → (∀ j (hj : j < s.length), k = j + 1 → b = (s[j] : Int)) → (k = s.length → ieq b 45 = false) → Ans E0 (rnameI0 s k m) (.bool (nmF b (s.drop k)))
  | 0, k, m + 1, b, hk, hm, h0, hb, he => by
    have h := rname_step0 s k m
    simp only [ile_ge (show s.length ≤ k by omega), Bool.not_true, cond_false] at h
    rw [List.drop_eq_nil_of_le (by omega), nmF, he (by omega)]
    exact .doneB (hdOf_ok _) E0sy h rfl
  | r + 1, k, m + 1, b, hk, hm, h0, hb, he => by
    have h := rname_step0 s k m
    have hlt : k < s.length := by omega
    have w1 : wr .i64 ((s.length : Int) - 1) = (s.length : Int) - 1 := wr_in (by omega) (by omega)
    have w2 : wr .i64 ((k : Int) - 1) = (k : Int) - 1 := wr_in (by omega) (by omega)
    simp only [ile_lt hlt, inB_at hlt, getD_at hlt, wr_succ (show k < 1048577 by omega), Bool.not_false, cond_true, Int.ofNat_eq_natCast, w1, w2] at h
    rw [List.drop_eq_getElem_cons hlt, nmF, isL]
    have ih := fun (hne : k + 1 = s.length → ieq (s[k] : Int) 45 = false) => rname_ans s hl r (k + 1) m (s[k] : Int) (by omega) (by omega) (by omega) (fun j hj e => congrArg (fun n : Nat => (n : Int)) (same_at hlt hj e)) hne
    cases c3 : ieq (s[k] : Int) 45 with
    | false =>
      have ih := ih (fun _ => c3)
      cases c1 : ile 97 (s[k] : Int) <;> cases c2 : ile (s[k] : Int) 122 <;>
        simp only [c1, c2, c3, cond_true, cond_false, Bool.not_true, Bool.not_false, Bool.and_true, Bool.and_false, Bool.false_and] at h ⊢ <;>
        first
          | exact .doneB (hdOf_ok _) E0sy h rfl
          | exact .stop (hdOf_ok _) E0sy h ih
    | true =>
      have hc : (s[k] : Int) = 45 := by rw [ieq_iff] at c3; simpa using c3
      have c1 : ile 97 (s[k] : Int) = false := by rw [ile_iff, hc]; rfl
      simp only [c1, c3, cond_true, cond_false, Bool.not_true, Bool.true_and, Bool.false_and] at h ⊢
      cases k with
      | zero =>
        obtain ⟨rfl, _⟩ := h0 rfl
        have z : ieq ((0 : Nat) : Int) 0 = true := by decide
        simp only [z, cond_true] at h
        rw [show ieq 45 45 = true by rw [ieq_iff]; simp]
        exact .doneB (hdOf_ok _) E0sy h rfl
      | succ j =>
        have z : ieq ((j + 1 : Nat) : Int) 0 = false := by rw [ieq_iff]; simp; omega
        have hj : j < s.length := by omega
        have hbj := hb j hj rfl
        have e2 : ((j + 1 : Nat) : Int) - 1 = (j : Int) := by omega
        simp only [z, cond_false, e2, inB_at hj, getD_at hj, cond_true] at h
        rw [← hbj] at h
        cases c5 : ieq ((j + 1 : Nat) : Int) ((s.length : Int) - 1) with
        | true =>
          have hr : j + 2 = s.length := by rw [ieq_iff] at c5; simp at c5; omega
          simp only [c5, cond_true] at h
          rw [List.drop_eq_nil_of_le (by omega), nmF, hc]
          refine .doneB (hdOf_ok _) E0sy h ?_
          cases ieq b 45 <;> rfl
        | false =>
          have hr : j + 2 ≠ s.length := by intro e; rw [ieq_iff] at c5; simp at c5; omega
          simp only [c5, cond_false] at h
          cases c4 : ieq b 45 with
          | true =>
            simp only [c4, cond_true, Bool.not_true, cond_false] at h ⊢
            exact .doneB (hdOf_ok _) E0sy h rfl
          | false =>
            simp only [c4, cond_true, Bool.not_false, cond_false] at h ⊢
            exact .stop (hdOf_ok _) E0sy h (ih (fun e => absurd e (by omega)))
theorem rname_call (s : List Nat) : AnsF E0 89 [.str s] (.bool (nameS s)) := by
  refine Ans.call (n := 3) (E0ext _ _ (by kernel_rfl)) (hasB_spec (by kernel_rfl)) ?_
  have h := rname_start s
  unfold nameS
  cases c0 : ile 1 (s.length : Int) with
  | false =>
    have : s = [] := by
      rw [ile_iff] at c0
      cases s with
      | nil => rfl
      | cons a l => simp at c0; omega
    subst this
    simp only [c0, cond_false] at h
    refine .doneB (hdOf_ok _) E0sy h ?_
    rw [nmF, show ieq 45 45 = true by rw [ieq_iff]; simp]
    simp
  | true =>
    have h1 : 1 ≤ s.length := by rw [ile_iff] at c0; simp at c0; omega
    cases c1 : ile (s.length : Int) 14 with
    | false =>
      simp only [c0, c1, Bool.not_false, cond_true] at h
      exact .doneB (hdOf_ok _) E0sy h rfl
    | true =>
      simp only [c0, c1, Bool.not_true, cond_false, cond_true] at h
      have hl : s.length ≤ 14 := by rw [ile_iff] at c1; simp at c1; omega
      exact .stopE (hdOf_ok _) E0sy h (rname_ans s hl s.length 0 1048575 45 (by omega) (by omega) (fun _ => ⟨rfl, by omega⟩) (fun j _ e => by omega) (fun e => by omega)) (by simp)

/-! #### Paints -/
noncomputable def paintsF : Int → List tP.den → Int
  | _, [] => 0
  | b, p :: l => bif ile 0 p.1 && ile p.1 40000 && ile 0 p.2.1 && ile p.2.1 4 then (bif ile p.1 b then 2 else paintsF p.1 l) else 7
noncomputable def paintsE (l : List tP.den) : Int := bif ile 1 (l.length : Int) && ile (l.length : Int) 4 then paintsF (-1) l else 3
theorem paints_ans (d : (Ty.sl tP).den) (hl : d.2.length < 1048576) : ∀ (r k m : Nat) (b : Int), k + r = d.2.length → r < m → Ans E0 (paintsI0 d b k m) (.int .i64 (paintsF b (d.2.drop k)))
  | 0, k, m + 1, b, hk, hm => by
    have h := paints_step0 d b k m
    simp only [Int.ofNat_eq_natCast, ile_ge (show d.2.length ≤ k by omega), Bool.not_true, cond_false] at h
    rw [List.drop_eq_nil_of_le (by omega)]
    exact .doneI (hdOf_ok _) E0sy h rfl
  | r + 1, k, m + 1, b, hk, hm => by
    have h := paints_step0 d b k m
    have hlt : k < d.2.length := by omega
    simp only [Int.ofNat_eq_natCast, ile_lt hlt, inB_at hlt, getD_at hlt, wr_succ (show k < 1048577 by omega), Bool.not_false, cond_true, ieq_self] at h
    rw [List.drop_eq_getElem_cons hlt, paintsF]
    have ih := paints_ans d hl r (k + 1) m (d.2[k]).1 (by omega) (by omega)
    cases c1 : ile 0 (d.2[k]).1 <;> cases c2 : ile (d.2[k]).1 40000 <;> cases c3 : ile 0 (d.2[k]).2.1 <;> cases c4 : ile (d.2[k]).2.1 4 <;> cases c5 : ile (d.2[k]).1 b <;>
      simp only [c1, c2, c3, c4, c5, cond_true, cond_false, Bool.not_true, Bool.not_false, Bool.and_true, Bool.and_false, Bool.and_self] at h ⊢ <;>
      first
        | exact .doneI (hdOf_ok _) E0sy h rfl
        | exact .stop (hdOf_ok _) E0sy h ih
theorem paints_call (d : (Ty.sl tP).den) (hl : d.2.length < 1048575) : AnsF E0 107 [.vs tP d.1 d.2] (.int .i64 (paintsF (-1) d.2)) :=
  Ans.call (n := 3) (E0ext _ _ (by kernel_rfl)) (hasB_spec (by kernel_rfl)) (.stop (hdOf_ok _) E0sy (paints_start d) (paints_ans d (by omega) d.2.length 0 1048575 (-1) (by omega) (by omega)))
theorem rpaints_ans (d : (Ty.sl tP).den) (hl : d.2.length ≤ 4) : ∀ (r k m : Nat) (b : Int), k + r = d.2.length → r < m → (k = 0 → b = -1) → (∀ j (hj : j < d.2.length), k = j + 1 → b = (d.2[j]).1) → Ans E0 (rpaintsI0 d k m) (.int .i64 (paintsF b (d.2.drop k)))
  | 0, k, m + 1, b, hk, hm, h0, hb => by
    have h := rpaints_step0 d k m
    simp only [Int.ofNat_eq_natCast, ile_ge (show d.2.length ≤ k by omega), Bool.not_true, cond_false] at h
    rw [List.drop_eq_nil_of_le (by omega)]
    exact .doneI (hdOf_ok _) E0sy h rfl
  | r + 1, k, m + 1, b, hk, hm, h0, hb => by
    have h := rpaints_step0 d k m
    have hlt : k < d.2.length := by omega
    have w2 : wr .i64 ((k : Int) - 1) = (k : Int) - 1 := wr_in (by omega) (by omega)
    simp only [Int.ofNat_eq_natCast, ile_lt hlt, inB_at hlt, getD_at hlt, wr_succ (show k < 1048577 by omega), Bool.not_false, cond_true, ieq_self, w2] at h
    rw [List.drop_eq_getElem_cons hlt, paintsF]
    have ih := rpaints_ans d hl r (k + 1) m (d.2[k]).1 (by omega) (by omega) (by omega) (fun j hj e => congrArg (fun p : tP.den => p.1) (same_at hlt hj e))
    cases k with
    | zero =>
      have hb0 := h0 rfl
      subst hb0
      have z : ile ((0 : Nat) : Int) 0 = true := by decide
      simp only [z, Bool.not_true, cond_false] at h
      cases c1 : ile 0 (d.2[0]).1 <;> cases c2 : ile (d.2[0]).1 40000 <;> cases c3 : ile 0 (d.2[0]).2.1 <;> cases c4 : ile (d.2[0]).2.1 4 <;>
        simp only [c1, c2, c3, c4, cond_true, cond_false, Bool.not_true, Bool.not_false, Bool.and_true, Bool.and_false, Bool.and_self, Bool.false_and] at h ⊢
      all_goals first
        | exact .doneI (hdOf_ok _) E0sy h rfl
        | (have c5 : ile (d.2[0]).1 (-1) = false := ile_neg c1
           simp only [c5, cond_false]
           exact .stop (hdOf_ok _) E0sy h ih)
    | succ j =>
      have z : ile ((j + 1 : Nat) : Int) 0 = false := by rw [ile_iff]; simp <;> omega
      have hj : j < d.2.length := by omega
      have hbj := hb j hj rfl
      have e2 : ((j + 1 : Nat) : Int) - 1 = (j : Int) := by omega
      simp only [z, cond_true, e2, inB_at hj, getD_at hj, Bool.not_false] at h
      rw [← hbj] at h
      cases c1 : ile 0 (d.2[j + 1]).1 <;> cases c2 : ile (d.2[j + 1]).1 40000 <;> cases c3 : ile 0 (d.2[j + 1]).2.1 <;> cases c4 : ile (d.2[j + 1]).2.1 4 <;> cases c5 : ile (d.2[j + 1]).1 b <;>
        simp only [c1, c2, c3, c4, c5, cond_true, cond_false, Bool.not_true, Bool.not_false, Bool.and_true, Bool.and_false, Bool.and_self, Bool.false_and] at h ⊢ <;>
        first
          | exact .doneI (hdOf_ok _) E0sy h rfl
          | exact .stop (hdOf_ok _) E0sy h ih
theorem rpaints_call (d : (Ty.sl tP).den) : AnsF E0 73 [.vs tP d.1 d.2] (.int .i64 (paintsE d.2)) := by
  refine Ans.call (n := 3) (E0ext _ _ (by kernel_rfl)) (hasB_spec (by kernel_rfl)) ?_
  have h := rpaints_start d
  unfold paintsE
  cases c0 : ile 1 (d.2.length : Int) <;> cases c1 : ile (d.2.length : Int) 4 <;> simp only [c0, c1, cond_true, cond_false, Bool.not_true, Bool.not_false, Bool.and_true, Bool.and_false, Bool.and_self] at h ⊢ <;>
    first
      | exact .doneI (hdOf_ok _) E0sy h rfl
      | skip
  have hl : d.2.length ≤ 4 := by rw [ile_iff] at c1; simp at c1; omega
  exact .stopE (hdOf_ok _) E0sy h (rpaints_ans d hl d.2.length 0 1048575 (-1) (by omega) (by omega) (fun _ => rfl) (fun j _ e => by omega)) (by simp)
end Go.Proofs.YtgcgffnamfbcgaaGreatDoor

/-
  LOOPS, told by their heads.
-/
set_option maxRecDepth 100000
namespace Go.Proofs.YtgcgffnamfbcgaaGreatDoor
open Go Go.Eng
noncomputable def bulgesI0 (d : (Ty.sl tP).den) (x3 : Int) (x17 : Nat) : Cfg := ⟨.ex (pcOf E0 110 [0, 0, 1]) ⟨(tmOf 29 [(0, (.yld 3)), (1, (.ptr 2 0)), (6, (.vs tP (d.fst) (d.snd))), (7, (.int .i64 (Int.ofNat d.snd.length))), (8, (.int .i64 x3))]), (hpOf 4 [(0, (.cells false [(.vs tP (d.fst) (d.snd))])), (1, (.cells false [(.bool (false))])), (2, (.cells false [(.vs tP (d.fst) (d.snd))]))]), [], [⟨false, .normal⟩], 29, false⟩, ⟨5, [⟨3, 32, 6, (tmOf 32 [(0, (.vs tP (d.fst) (d.snd))), (1, (.ptr 0 0)), (2, (.ptr 1 0)), (8, (.vs tP (d.fst) (d.snd))), (9, (.fn 110 [] [(.ptr 2 0)]))]), #[10, 11], (pcOf E0 109 [0, 0, 1, 0, 1]), (pcOf E0 109 [1, 0, 1, 0, 1])⟩]⟩, [(.lop (pcOf E0 110 [0, 0, 1]) 4 (tmOf 29 [(0, (.yld 3)), (1, (.ptr 2 0)), (6, (.vs tP (d.fst) (d.snd))), (7, (.int .i64 (Int.ofNat d.snd.length))), (8, (.int .i64 (0)))]) x17), (.blk 0), (.cal [] (.rng (tmOf 32 [(0, (.vs tP (d.fst) (d.snd))), (1, (.ptr 0 0)), (2, (.ptr 1 0)), (8, (.vs tP (d.fst) (d.snd))), (9, (.fn 110 [] [(.ptr 2 0)]))]) [] 32 false ⟨6, []⟩)), (.blk 0), (.seq (pcOf E0 109 [1, 1])), (.cal [(.cell 2 4)] .top)]⟩
noncomputable def bulgesI1 (d : (Ty.sl tP).den) (x2 : Int) (x5 : Int) (x6 : Int) (x7 : Int) (x8 : Int) (x12 : Int) (x20 : Int) (x21 : Int) (x45 : Nat) (x70 : Int) (x84 : Int) (x88 : Int) (x265 : Nat) : Cfg := ⟨.ex (pcOf E0 109 [0, 0, 1, 0, 1, 0, 1, 0, 1, 0, 1]) ⟨(tmOf 32 [(0, (.vs tP (d.fst) (d.snd))), (1, (.ptr 0 0)), (2, (.ptr 1 0)), (3, (.ptr 9 0)), (4, (.ptr 10 0)), (5, (.int .i64 x2)), (8, (.vs tP (d.fst) (d.snd))), (9, (.fn 110 [] [(.ptr 2 0)])), (10, (.agg [(.int .i64 x5), (.int .i64 x6)])), (11, (.agg [(.int .i64 x7), (.int .i64 x8)])), (12, (.vs tP (d.fst) (d.snd))), (13, (.int .i64 (Int.ofNat d.snd.length))), (14, (.int .i64 x12))]), (hpOf 11 [(0, (.cells false [(.vs tP (d.fst) (d.snd))])), (1, (.cells false [(.bool (false))])), (2, (.cells false [(.vs tP (d.fst) (d.snd))])), (4, (.cells false [(.int .i64 x5), (.int .i64 x6)])), (5, (.cells false [(.int .i64 x20), (.int .i64 x21)])), (6, (.cells false [(.int .i64 x5), (.int .i64 x6)])), (7, (.cells false [(.int .i64 x20), (.int .i64 x21)])), (8, (.cells false [(.int .i64 x7), (.int .i64 x8)])), (9, (.cells false [(.int .i64 x5), (.int .i64 x6)])), (10, (.cells false [(.int .i64 x7), (.int .i64 x8)]))]), [], [], 32, true⟩, ⟨6, []⟩, [(.lop (pcOf E0 109 [0, 0, 1, 0, 1, 0, 1, 0, 1, 0, 1]) 11 (tmOf 32 [(0, (.vs tP (d.fst) (d.snd))), (1, (.ptr 0 0)), (2, (.ptr 1 0)), (3, (.ptr 9 0)), (4, (.ptr 10 0)), (5, (.int .i64 (0))), (8, (.vs tP (d.fst) (d.snd))), (9, (.fn 110 [] [(.ptr 2 0)])), (10, (.agg [(.int .i64 x5), (.int .i64 x6)])), (11, (.agg [(.int .i64 x7), (.int .i64 x8)])), (12, (.vs tP (d.fst) (d.snd))), (13, (.int .i64 (Int.ofNat d.snd.length))), (14, (.int .i64 (0)))]) x45), (.blk 2), (.seq (pcOf E0 109 [1, 1, 0, 1, 0, 1, 0, 1])), (.blk 1), (.rnd [] (.dr ⟨(pcOf E0 110 [0, 1, 1, 0, 0, 1, 1, 0, 0, 1]), opsD (pcOf E0 110 [0, 1, 1, 0, 0, 1, 1, 0, 0, 1]).c, 6, (opsD (pcOf E0 110 [0, 1, 1, 0, 0, 1, 1, 0, 0, 1]).c).toList.drop 6, (fsD (pcOf E0 110 [0, 1, 1, 0, 0, 1, 1, 0, 0, 1]).c).drop 6, 5, [((hpOf 9 [(0, (.cells false [(.vs tP (d.fst) (d.snd))])), (1, (.cells false [(.bool (false))])), (2, (.cells false [(.vs tP (d.fst) (d.snd))])), (4, (.cells false [(.int .i64 x5), (.int .i64 x6)])), (5, (.cells false [(.int .i64 x20), (.int .i64 x21)])), (6, (.cells false [(.int .i64 x5), (.int .i64 x6)])), (7, (.cells false [(.int .i64 x20), (.int .i64 x21)])), (8, (.cells false [(.int .i64 x7), (.int .i64 x8)]))]), 12, (some 4)), ((hpOf 6 [(0, (.cells false [(.vs tP (d.fst) (d.snd))])), (1, (.cells false [(.bool (false))])), (2, (.cells false [(.vs tP (d.fst) (d.snd))])), (4, (.cells false [(.int .i64 x5), (.int .i64 x6)])), (5, (.cells false [(.int .i64 x20), (.int .i64 x21)]))]), 0, none)], [((opsD (pcOf E0 110 [0, 1, 1, 0, 0, 1, 1, 0, 0, 1]).c).getD 3 default, 3, 0, (tmOf 29 [(0, (.yld 3)), (1, (.ptr 2 0)), (3, (.int .i64 x70)), (4, (.ptr 4 0)), (5, (.ptr 5 0)), (6, (.vs tP (d.fst) (d.snd))), (7, (.int .i64 (Int.ofNat d.snd.length))), (8, (.int .i64 x70)), (9, (.bool (true))), (10, (.int .i64 x70)), (11, (.cp [(.int .i64 x5), (.int .i64 x6)] 0)), (12, (.agg [(.int .i64 x5), (.int .i64 x6)])), (13, (.vs tP (d.fst) (d.snd))), (14, (.int .i64 x70)), (15, (.int .i64 x84)), (16, (.vs tP (d.fst) (d.snd))), (17, (.int .i64 (Int.ofNat d.snd.length))), (18, (.int .i64 x88)), (19, (.cp [(.int .i64 x20), (.int .i64 x21)] 0)), (20, (.agg [(.int .i64 x20), (.int .i64 x21)])), (21, (.yld 3)), (22, (.agg [(.int .i64 x5), (.int .i64 x6)])), (23, (.agg [(.int .i64 x5), (.int .i64 x6)]))]), (tmOf 29 [(0, (.yld 3)), (1, (.ptr 2 0)), (3, (.int .i64 x70)), (4, (.ptr 4 0)), (5, (.ptr 5 0)), (6, (.vs tP (d.fst) (d.snd))), (7, (.int .i64 (Int.ofNat d.snd.length))), (8, (.int .i64 x70)), (9, (.bool (true))), (10, (.int .i64 x70)), (11, (.cp [(.int .i64 x5), (.int .i64 x6)] 0)), (12, (.agg [(.int .i64 x5), (.int .i64 x6)])), (13, (.vs tP (d.fst) (d.snd))), (14, (.int .i64 x70)), (15, (.int .i64 x84)), (16, (.vs tP (d.fst) (d.snd))), (17, (.int .i64 (Int.ofNat d.snd.length))), (18, (.int .i64 x88)), (19, (.cp [(.int .i64 x20), (.int .i64 x21)] 0)), (20, (.agg [(.int .i64 x20), (.int .i64 x21)])), (21, (.yld 3)), (22, (.agg [(.int .i64 x5), (.int .i64 x6)])), (23, (.agg [(.int .i64 x5), (.int .i64 x6)])), (24, (.agg [(.int .i64 x20), (.int .i64 x21)]))])), ((opsD (pcOf E0 110 [0, 1, 1, 0, 0, 1, 1, 0, 0, 1]).c).getD 2 default, 2, 0, (tmOf 29 [(0, (.yld 3)), (1, (.ptr 2 0)), (3, (.int .i64 x70)), (4, (.ptr 4 0)), (5, (.ptr 5 0)), (6, (.vs tP (d.fst) (d.snd))), (7, (.int .i64 (Int.ofNat d.snd.length))), (8, (.int .i64 x70)), (9, (.bool (true))), (10, (.int .i64 x70)), (11, (.cp [(.int .i64 x5), (.int .i64 x6)] 0)), (12, (.agg [(.int .i64 x5), (.int .i64 x6)])), (13, (.vs tP (d.fst) (d.snd))), (14, (.int .i64 x70)), (15, (.int .i64 x84)), (16, (.vs tP (d.fst) (d.snd))), (17, (.int .i64 (Int.ofNat d.snd.length))), (18, (.int .i64 x88)), (19, (.cp [(.int .i64 x20), (.int .i64 x21)] 0)), (20, (.agg [(.int .i64 x20), (.int .i64 x21)])), (21, (.yld 3)), (22, (.agg [(.int .i64 x5), (.int .i64 x6)]))]), (tmOf 29 [(0, (.yld 3)), (1, (.ptr 2 0)), (3, (.int .i64 x70)), (4, (.ptr 4 0)), (5, (.ptr 5 0)), (6, (.vs tP (d.fst) (d.snd))), (7, (.int .i64 (Int.ofNat d.snd.length))), (8, (.int .i64 x70)), (9, (.bool (true))), (10, (.int .i64 x70)), (11, (.cp [(.int .i64 x5), (.int .i64 x6)] 0)), (12, (.agg [(.int .i64 x5), (.int .i64 x6)])), (13, (.vs tP (d.fst) (d.snd))), (14, (.int .i64 x70)), (15, (.int .i64 x84)), (16, (.vs tP (d.fst) (d.snd))), (17, (.int .i64 (Int.ofNat d.snd.length))), (18, (.int .i64 x88)), (19, (.cp [(.int .i64 x20), (.int .i64 x21)] 0)), (20, (.agg [(.int .i64 x20), (.int .i64 x21)])), (21, (.yld 3)), (22, (.agg [(.int .i64 x5), (.int .i64 x6)])), (23, (.agg [(.int .i64 x5), (.int .i64 x6)]))])), ((opsD (pcOf E0 110 [0, 1, 1, 0, 0, 1, 1, 0, 0, 1]).c).getD 1 default, 1, 0, (tmOf 29 [(0, (.yld 3)), (1, (.ptr 2 0)), (3, (.int .i64 x70)), (4, (.ptr 4 0)), (5, (.ptr 5 0)), (6, (.vs tP (d.fst) (d.snd))), (7, (.int .i64 (Int.ofNat d.snd.length))), (8, (.int .i64 x70)), (9, (.bool (true))), (10, (.int .i64 x70)), (11, (.cp [(.int .i64 x5), (.int .i64 x6)] 0)), (12, (.agg [(.int .i64 x5), (.int .i64 x6)])), (13, (.vs tP (d.fst) (d.snd))), (14, (.int .i64 x70)), (15, (.int .i64 x84)), (16, (.vs tP (d.fst) (d.snd))), (17, (.int .i64 (Int.ofNat d.snd.length))), (18, (.int .i64 x88)), (19, (.cp [(.int .i64 x20), (.int .i64 x21)] 0)), (20, (.agg [(.int .i64 x20), (.int .i64 x21)])), (21, (.yld 3))]), (tmOf 29 [(0, (.yld 3)), (1, (.ptr 2 0)), (3, (.int .i64 x70)), (4, (.ptr 4 0)), (5, (.ptr 5 0)), (6, (.vs tP (d.fst) (d.snd))), (7, (.int .i64 (Int.ofNat d.snd.length))), (8, (.int .i64 x70)), (9, (.bool (true))), (10, (.int .i64 x70)), (11, (.cp [(.int .i64 x5), (.int .i64 x6)] 0)), (12, (.agg [(.int .i64 x5), (.int .i64 x6)])), (13, (.vs tP (d.fst) (d.snd))), (14, (.int .i64 x70)), (15, (.int .i64 x84)), (16, (.vs tP (d.fst) (d.snd))), (17, (.int .i64 (Int.ofNat d.snd.length))), (18, (.int .i64 x88)), (19, (.cp [(.int .i64 x20), (.int .i64 x21)] 0)), (20, (.agg [(.int .i64 x20), (.int .i64 x21)])), (21, (.yld 3)), (22, (.agg [(.int .i64 x5), (.int .i64 x6)]))]))], false⟩ ((opsD (pcOf E0 110 [0, 1, 1, 0, 0, 1, 1, 0, 0, 1]).c).getD 5 default) ((fsD (pcOf E0 110 [0, 1, 1, 0, 0, 1, 1, 0, 0, 1]).c).getD 5 default) (tmOf 29 [(0, (.yld 3)), (1, (.ptr 2 0)), (3, (.int .i64 x70)), (4, (.ptr 4 0)), (5, (.ptr 5 0)), (6, (.vs tP (d.fst) (d.snd))), (7, (.int .i64 (Int.ofNat d.snd.length))), (8, (.int .i64 x70)), (9, (.bool (true))), (10, (.int .i64 x70)), (11, (.cp [(.int .i64 x5), (.int .i64 x6)] 0)), (12, (.agg [(.int .i64 x5), (.int .i64 x6)])), (13, (.vs tP (d.fst) (d.snd))), (14, (.int .i64 x70)), (15, (.int .i64 x84)), (16, (.vs tP (d.fst) (d.snd))), (17, (.int .i64 (Int.ofNat d.snd.length))), (18, (.int .i64 x88)), (19, (.cp [(.int .i64 x20), (.int .i64 x21)] 0)), (20, (.agg [(.int .i64 x20), (.int .i64 x21)])), (21, (.yld 3)), (22, (.agg [(.int .i64 x5), (.int .i64 x6)])), (23, (.agg [(.int .i64 x5), (.int .i64 x6)])), (24, (.agg [(.int .i64 x20), (.int .i64 x21)])), (25, (.agg [(.int .i64 x7), (.int .i64 x8)]))]) [] 29 false ⟨5, [⟨3, 32, 6, (tmOf 32 [(0, (.vs tP (d.fst) (d.snd))), (1, (.ptr 0 0)), (2, (.ptr 1 0)), (8, (.vs tP (d.fst) (d.snd))), (9, (.fn 110 [] [(.ptr 2 0)]))]), #[10, 11], (pcOf E0 109 [0, 0, 1, 0, 1]), (pcOf E0 109 [1, 0, 1, 0, 1])⟩]⟩)), (.seq (pcOf E0 110 [1, 1, 1, 0, 0, 1, 1, 0, 0, 1])), (.blk 1), (.seq (pcOf E0 110 [1, 1, 1, 0, 0, 1])), (.lop (pcOf E0 110 [0, 0, 1]) 4 (tmOf 29 [(0, (.yld 3)), (1, (.ptr 2 0)), (6, (.vs tP (d.fst) (d.snd))), (7, (.int .i64 (Int.ofNat d.snd.length))), (8, (.int .i64 (0)))]) x265), (.blk 0), (.cal [] (.rng (tmOf 32 [(0, (.vs tP (d.fst) (d.snd))), (1, (.ptr 0 0)), (2, (.ptr 1 0)), (8, (.vs tP (d.fst) (d.snd))), (9, (.fn 110 [] [(.ptr 2 0)]))]) [] 32 false ⟨6, []⟩)), (.blk 0), (.seq (pcOf E0 109 [1, 1])), (.cal [(.cell 2 4)] .top)]⟩
theorem bulges_start (d : (Ty.sl tP).den) : adv E0 (hdOf [109, 110]) 3000 (startC E0 109 [.vs tP d.1 d.2] 6) = some (.stop (bulgesI0 d (0) (1048575))) := by kernel_rfl
theorem bulges_step0 (d : (Ty.sl tP).den) (x3 : Int) (x17 : Nat) : adv E0 (hdOf [109, 110]) 3000 (bulgesI0 d x3 (x17 + 1)) = (bif !ile (Int.ofNat d.snd.length) x3 then (bif inB x3 d.snd.length then (bif ieq (↑d.snd.length) 0 then none else (bif inB ((wr IntKind.i64 (x3 + 1)).tmod ↑d.snd.length) d.snd.length then (bif bbeq d.fst d.fst then (bif vsB tP d.snd tP d.snd then (bif bbeq d.fst d.fst then (bif vsB tP d.snd tP d.snd then some (.stop (bulgesI1 d (0) ((d.snd.getD x3.toNat tP.dflt).fst) ((d.snd.getD x3.toNat tP.dflt).snd.fst) (wr IntKind.i64 ((d.snd.getD ((wr IntKind.i64 (x3 + 1)).tmod ↑d.snd.length).toNat tP.dflt).fst - (d.snd.getD x3.toNat tP.dflt).fst)) (wr IntKind.i64 ((d.snd.getD ((wr IntKind.i64 (x3 + 1)).tmod ↑d.snd.length).toNat tP.dflt).snd.fst - (d.snd.getD x3.toNat tP.dflt).snd.fst)) (0) ((d.snd.getD ((wr IntKind.i64 (x3 + 1)).tmod ↑d.snd.length).toNat tP.dflt).fst) ((d.snd.getD ((wr IntKind.i64 (x3 + 1)).tmod ↑d.snd.length).toNat tP.dflt).snd.fst) (1048575) (x3) (wr IntKind.i64 (x3 + 1)) ((wr IntKind.i64 (x3 + 1)).tmod ↑d.snd.length) (x17 + 1))) else none) else none) else none) else none) else none)) else none) else some (.done (.bool (true)))) := by kernel_rfl
theorem bulges_step1 (d : (Ty.sl tP).den) (x2 : Int) (x5 : Int) (x6 : Int) (x7 : Int) (x8 : Int) (x12 : Int) (x20 : Int) (x21 : Int) (x45 : Nat) (x70 : Int) (x84 : Int) (x88 : Int) (x265 : Nat) : adv E0 (hdOf [109, 110]) 3000 (bulgesI1 d x2 x5 x6 x7 x8 x12 x20 x21 (x45 + 1) x70 x84 x88 (x265 + 1)) = (bif !ile (Int.ofNat d.snd.length) x12 then (bif inB x12 d.snd.length then (bif ieq (d.snd.getD x12.toNat tP.dflt).fst (d.snd.getD x12.toNat tP.dflt).fst then (bif ieq (d.snd.getD x12.toNat tP.dflt).snd.fst (d.snd.getD x12.toNat tP.dflt).snd.fst then (bif ieq x5 x5 then (bif ieq x6 x6 then (bif ieq x7 x7 then (bif ieq x8 x8 then (bif ieq x7 x7 then (bif ieq x8 x8 then (bif !ile (wr IntKind.i64 (wr IntKind.i64 (x7 * wr IntKind.i64 ((d.snd.getD x12.toNat tP.dflt).snd.fst - x6)) - wr IntKind.i64 (x8 * wr IntKind.i64 ((d.snd.getD x12.toNat tP.dflt).fst - x5)))) 0 then some (.stop (bulgesI1 d (wr IntKind.i64 (x2 + 1)) (x5) (x6) (x7) (x8) (wr IntKind.i64 (x12 + 1)) (x20) (x21) (x45) (x70) (x84) (x88) (x265 + 1))) else some (.stop (bulgesI1 d (x2) (x5) (x6) (x7) (x8) (wr IntKind.i64 (x12 + 1)) (x20) (x21) (x45) (x70) (x84) (x88) (x265 + 1)))) else none) else none) else none) else none) else none) else none) else none) else none) else none) else (bif !ieq x2 (wr IntKind.i64 (↑d.snd.length - 2)) then (bif ieq x20 x20 then (bif ieq x21 x21 then (bif ieq x5 x5 then (bif ieq x6 x6 then (bif ieq x5 x5 then (bif ieq x6 x6 then (bif ieq x5 x5 then (bif ieq x6 x6 then some (.done (.bool (false))) else none) else none) else none) else none) else none) else none) else none) else none) else (bif ieq x20 x20 then (bif ieq x21 x21 then (bif ieq x5 x5 then (bif ieq x6 x6 then (bif ieq x5 x5 then (bif ieq x6 x6 then (bif ieq x5 x5 then (bif ieq x6 x6 then some (.stop (bulgesI0 d (wr IntKind.i64 (x70 + 1)) (x265))) else none) else none) else none) else none) else none) else none) else none) else none))) := by kernel_rfl
noncomputable def roundI0 (d : (Ty.sl tP).den) (x3 : Int) (x8 : Nat) : Cfg := ⟨.ex (pcOf E0 92 [0, 0, 1, 0, 1]) ⟨(tmOf 53 [(0, (.vs tP (d.fst) (d.snd))), (2, (.bool (false))), (3, (.int .i64 x3))]), (hpOf 0 []), [], [], 53, false⟩, ⟨6, []⟩, [(.lop (pcOf E0 92 [0, 0, 1, 0, 1]) 0 (tmOf 53 [(0, (.vs tP (d.fst) (d.snd))), (2, (.bool (false))), (3, (.int .i64 (0)))]) x8), (.blk 0), (.seq (pcOf E0 92 [1, 1])), (.cal [(.tmp 2)] .top)]⟩
noncomputable def roundI1 (d : (Ty.sl tP).den) (x3 : Int) (x4 : Int) (x5 : Int) (x12 : Int) (x34 : Nat) (x39 : Nat) : Cfg := ⟨.ex (pcOf E0 92 [0, 0, 1, 1, 0, 0, 1, 0, 0, 1, 0, 1]) ⟨(tmOf 53 [(0, (.vs tP (d.fst) (d.snd))), (2, (.bool (false))), (3, (.int .i64 x3)), (4, (.int .i64 x4)), (5, (.int .i64 x5)), (6, (.int .i64 x3)), (7, (.vs tP (d.fst) (d.snd))), (8, (.int .i64 (Int.ofNat d.snd.length))), (9, (.bool (true))), (12, (.int .i64 x3)), (13, (.int .i64 x12)), (14, (.vs tP (d.fst) (d.snd))), (15, (.int .i64 (Int.ofNat d.snd.length))), (16, (.int .i64 x4))]), (hpOf 0 []), [], [], 53, false⟩, ⟨6, []⟩, [(.lop (pcOf E0 92 [0, 0, 1, 1, 0, 0, 1, 0, 0, 1, 0, 1]) 0 (tmOf 53 [(0, (.vs tP (d.fst) (d.snd))), (2, (.bool (false))), (3, (.int .i64 x3)), (4, (.int .i64 x4)), (5, (.int .i64 (0))), (6, (.int .i64 x3)), (7, (.vs tP (d.fst) (d.snd))), (8, (.int .i64 (Int.ofNat d.snd.length))), (9, (.bool (true))), (12, (.int .i64 x3)), (13, (.int .i64 x12)), (14, (.vs tP (d.fst) (d.snd))), (15, (.int .i64 (Int.ofNat d.snd.length))), (16, (.int .i64 x4))]) x34), (.blk 2), (.blk 1), (.seq (pcOf E0 92 [1, 1, 0, 0, 1, 0, 1])), (.lop (pcOf E0 92 [0, 0, 1, 0, 1]) 0 (tmOf 53 [(0, (.vs tP (d.fst) (d.snd))), (2, (.bool (false))), (3, (.int .i64 (0)))]) x39), (.blk 0), (.seq (pcOf E0 92 [1, 1])), (.cal [(.tmp 2)] .top)]⟩
theorem round_start (d : (Ty.sl tP).den) : adv E0 (hdOf [92]) 3000 (startC E0 92 [.vs tP d.1 d.2] 6) = some (.stop (roundI0 d (0) (1048575))) := by kernel_rfl
theorem round_step0 (d : (Ty.sl tP).den) (x3 : Int) (x8 : Nat) : adv E0 (hdOf [92]) 3000 (roundI0 d x3 (x8 + 1)) = (bif !ile (↑d.snd.length) x3 then (bif ieq (↑d.snd.length) 0 then none else some (.stop (roundI1 d (x3) ((wr IntKind.i64 (x3 + 1)).tmod ↑d.snd.length) (0) (wr IntKind.i64 (x3 + 1)) (1048575) (x8 + 1)))) else some (.done (.bool (true)))) := by kernel_rfl
theorem round_step1 (d : (Ty.sl tP).den) (x3 : Int) (x4 : Int) (x5 : Int) (x12 : Int) (x34 : Nat) (x39 : Nat) : adv E0 (hdOf [92]) 3000 (roundI1 d x3 x4 x5 x12 (x34 + 1) (x39 + 1)) = (bif !ile (↑d.snd.length) x5 then (bif !ieq x5 x3 then (bif !ieq x5 x4 then (bif inB x4 d.snd.length then (bif inB x3 d.snd.length then (bif inB x5 d.snd.length then (bif inB x3 d.snd.length then (bif ile (wr IntKind.i64 (wr IntKind.i64 (wr IntKind.i64 ((d.snd.getD x4.toNat tP.dflt).fst - (d.snd.getD x3.toNat tP.dflt).fst) * wr IntKind.i64 ((d.snd.getD x5.toNat tP.dflt).snd.fst - (d.snd.getD x3.toNat tP.dflt).snd.fst)) - wr IntKind.i64 (wr IntKind.i64 ((d.snd.getD x4.toNat tP.dflt).snd.fst - (d.snd.getD x3.toNat tP.dflt).snd.fst) * wr IntKind.i64 ((d.snd.getD x5.toNat tP.dflt).fst - (d.snd.getD x3.toNat tP.dflt).fst)))) 0 then some (.done (.bool (false))) else some (.stop (roundI1 d (x3) (x4) (wr IntKind.i64 (x5 + 1)) (x12) (x34) (x39 + 1)))) else none) else none) else none) else none) else some (.stop (roundI1 d (x3) (x4) (wr IntKind.i64 (x5 + 1)) (x12) (x34) (x39 + 1)))) else some (.stop (roundI1 d (x3) (x4) (wr IntKind.i64 (x5 + 1)) (x12) (x34) (x39 + 1)))) else some (.stop (roundI0 d (wr IntKind.i64 (x3 + 1)) (x39)))) := by kernel_rfl

/-! ### Corners that go round -/

theorem ieq_ne {a b : Int} (h : a ≠ b) : ieq a b = false := by rw [ieq_iff]; exact decide_eq_false h
theorem tmod_nat (a b : Nat) : (a : Int).tmod (b : Int) = ((a % b : Nat) : Int) := rfl
noncomputable def crs (ax ay cx cy : Int) (q : tP.den) : Int := wr IntKind.i64 (wr IntKind.i64 (ax * wr IntKind.i64 (q.2.1 - cy)) - wr IntKind.i64 (ay * wr IntKind.i64 (q.1 - cx)))
noncomputable def at' (l : List tP.den) (j : Nat) : tP.den := l.getD j tP.dflt
theorem at'_eq {l : List tP.den} {j : Nat} (h : j < l.length) : at' l j = l[j] := by simp [at', h]
noncomputable def cN (q : Nat → Bool) : Nat → Nat → Nat
  | _, 0 => 0
  | s, r + 1 => (bif q s then 1 else 0) + cN q (s + 1) r
/-- Is the j-th corner to the left? -/
noncomputable def posC (l : List tP.den) (ax ay cx cy : Int) (j : Nat) : Bool := !ile (crs ax ay cx cy (at' l j)) 0
noncomputable def posI (l : List tP.den) (i k : Nat) (j : Nat) : Bool := posC l (wr IntKind.i64 ((at' l k).1 - (at' l i).1)) (wr IntKind.i64 ((at' l k).2.1 - (at' l i).2.1)) (at' l i).1 (at' l i).2.1 j
noncomputable def rowP (l : List tP.den) (i : Nat) : Bool := ieq (cN (posI l i ((i + 1) % l.length)) 0 l.length : Int) ((l.length : Int) - 2)
noncomputable def cellR (l : List tP.den) (i k n : Nat) : Bool := bif !ieq (n : Int) (i : Int) then (bif !ieq (n : Int) (k : Int) then posI l i k n else true) else true
noncomputable def rowR (l : List tP.den) (i : Nat) : Bool := (List.range' 0 l.length).all (cellR l i ((i + 1) % l.length))
/-- Do corners go round? -/
noncomputable def roundS (l : List tP.den) : Bool := (List.range' 0 l.length).all (rowR l)

theorem bulges_in (d : (Ty.sl tP).den) (hl : d.2.length < 1048576) (cx cy ax ay kx ky : Int) (i M : Nat) (kk : Int) (hi : i < 1048576) (o : Bool) (ho : Ans E0 (bulgesI0 d ((i + 1 : Nat) : Int) M) (.bool o)) :
    ∀ (r j m c : Nat), j + r = d.2.length → r < m → c ≤ j → Ans E0 (bulgesI1 d c cx cy ax ay j kx ky m i ((i + 1 : Nat) : Int) kk (M + 1)) (.bool (ieq ((c + cN (posC d.2 ax ay cx cy) j r : Nat) : Int) ((d.2.length : Int) - 2) && o))
  | 0, j, m + 1, c, hk, hm, hc => by
    have h := bulges_step1 d c cx cy ax ay j kx ky m i ((i + 1 : Nat) : Int) kk M
    have w : wr IntKind.i64 ((d.2.length : Int) - 2) = (d.2.length : Int) - 2 := wr_in (by omega) (by omega)
    simp only [Int.ofNat_eq_natCast, ile_ge (show d.2.length ≤ j by omega), Bool.not_true, cond_false, cond_true, ieq_self, w, wr_succ (show i < 1048577 by omega)] at h
    rw [cN, Nat.add_zero]
    cases c1 : ieq (c : Int) ((d.2.length : Int) - 2) with
    | false =>
      simp only [c1, Bool.not_false, cond_true] at h
      exact .doneB (hdOf_ok _) E0sy h rfl
    | true =>
      simp only [c1, Bool.not_true, cond_false] at h
      exact .stopE (hdOf_ok _) E0sy h ho rfl
  | r + 1, j, m + 1, c, hk, hm, hc => by
    have h := bulges_step1 d c cx cy ax ay j kx ky m i ((i + 1 : Nat) : Int) kk M
    have hlt : j < d.2.length := by omega
    simp only [Int.ofNat_eq_natCast, ile_lt hlt, inB_at hlt, getD_at hlt, wr_succ (show j < 1048577 by omega), wr_succ (show c < 1048577 by omega), Bool.not_false, cond_true, ieq_self] at h
    rw [cN]
    have e : posC d.2 ax ay cx cy j = !ile (crs ax ay cx cy d.2[j]) 0 := by unfold posC; rw [at'_eq hlt]
    rw [e]
    unfold crs
    cases c1 : ile (wr IntKind.i64 (wr IntKind.i64 (ax * wr IntKind.i64 ((d.2[j]).2.1 - cy)) - wr IntKind.i64 (ay * wr IntKind.i64 ((d.2[j]).1 - cx)))) 0 with
    | false =>
      simp only [c1, Bool.not_false, cond_true] at h
      exact .stopE (hdOf_ok _) E0sy h (bulges_in d hl cx cy ax ay kx ky i M kk hi o ho r (j + 1) m (c + 1) (by omega) (by omega) (by omega)) (by simp [Nat.add_assoc])
    | true =>
      simp only [c1, Bool.not_true, cond_false] at h
      exact .stopE (hdOf_ok _) E0sy h (bulges_in d hl cx cy ax ay kx ky i M kk hi o ho r (j + 1) m c (by omega) (by omega) (by omega)) (by simp)
theorem bulges_out (d : (Ty.sl tP).den) (hl : d.2.length < 1048575) : ∀ (r i M : Nat), i + r = d.2.length → r < M → Ans E0 (bulgesI0 d i M) (.bool ((List.range' i r).all (rowP d.2)))
  | 0, i, M + 1, hk, hm => by
    have h := bulges_step0 d i M
    simp only [Int.ofNat_eq_natCast, ile_ge (show d.2.length ≤ i by omega), Bool.not_true, cond_false] at h
    exact .doneB (hdOf_ok _) E0sy h rfl
  | r + 1, i, M + 1, hk, hm => by
    have h := bulges_step0 d i M
    have hlt : i < d.2.length := by omega
    have hk2 : (i + 1) % d.2.length < d.2.length := Nat.mod_lt _ (by omega)
    have z : ieq (d.2.length : Int) 0 = false := ieq_ne (by omega)
    simp only [Int.ofNat_eq_natCast, ile_lt hlt, inB_at hlt, getD_at hlt, wr_succ (show i < 1048577 by omega), tmod_nat, inB_at hk2, getD_at hk2, z, Bool.not_false, cond_true, cond_false, bbeq_self, vsB_self] at h
    have ih := bulges_out d hl r (i + 1) M (by omega) (by omega)
    refine .stopE (hdOf_ok _) E0sy h (bulges_in d (by omega) _ _ _ _ _ _ i M _ (by omega) _ ih d.2.length 0 1048575 0 (by omega) (by omega) (by omega)) ?_
    rw [List.range'_succ, List.all_cons, rowP, Nat.zero_add]
    unfold posI
    rw [at'_eq hlt, at'_eq hk2]
theorem round_in (d : (Ty.sl tP).den) (hl : d.2.length < 1048576) (i k M : Nat) (hi : i < d.2.length) (hk : k < d.2.length) (o : Bool) (ho : Ans E0 (roundI0 d ((i + 1 : Nat) : Int) M) (.bool o)) :
    ∀ (r n m : Nat), n + r = d.2.length → r < m → Ans E0 (roundI1 d i k n ((i + 1 : Nat) : Int) m (M + 1)) (.bool ((List.range' n r).all (cellR d.2 i k) && o))
  | 0, n, m + 1, hk', hm => by
    have h := round_step1 d i k n ((i + 1 : Nat) : Int) m M
    simp only [Int.ofNat_eq_natCast, ile_ge (show d.2.length ≤ n by omega), Bool.not_true, cond_false, wr_succ (show i < 1048577 by omega)] at h
    exact .stopE (hdOf_ok _) E0sy h ho rfl
  | r + 1, n, m + 1, hk', hm => by
    have h := round_step1 d i k n ((i + 1 : Nat) : Int) m M
    have hlt : n < d.2.length := by omega
    simp only [Int.ofNat_eq_natCast, ile_lt hlt, inB_at hlt, getD_at hlt, inB_at hi, getD_at hi, inB_at hk, getD_at hk, wr_succ (show n < 1048577 by omega), Bool.not_false, cond_true, ieq_self] at h
    have ih := round_in d hl i k M hi hk o ho r (n + 1) m (by omega) (by omega)
    rw [List.range'_succ, List.all_cons, cellR]
    have e : posI d.2 i k n = !ile (wr IntKind.i64 (wr IntKind.i64 (wr IntKind.i64 ((d.2[k]).1 - (d.2[i]).1) * wr IntKind.i64 ((d.2[n]).2.1 - (d.2[i]).2.1)) - wr IntKind.i64 (wr IntKind.i64 ((d.2[k]).2.1 - (d.2[i]).2.1) * wr IntKind.i64 ((d.2[n]).1 - (d.2[i]).1)))) 0 := by
      unfold posI posC crs; rw [at'_eq hlt, at'_eq hi, at'_eq hk]
    rw [e]
    cases c1 : ieq (n : Int) (i : Int) <;> cases c2 : ieq (n : Int) (k : Int) <;> cases c3 : ile (wr IntKind.i64 (wr IntKind.i64 (wr IntKind.i64 ((d.2[k]).1 - (d.2[i]).1) * wr IntKind.i64 ((d.2[n]).2.1 - (d.2[i]).2.1)) - wr IntKind.i64 (wr IntKind.i64 ((d.2[k]).2.1 - (d.2[i]).2.1) * wr IntKind.i64 ((d.2[n]).1 - (d.2[i]).1)))) 0 <;>
      simp only [c1, c2, c3, Bool.not_false, Bool.not_true, cond_true, cond_false, Bool.true_and, Bool.false_and] at h ⊢ <;>
      first
        | exact .stop (hdOf_ok _) E0sy h ih
        | exact .doneB (hdOf_ok _) E0sy h rfl
theorem round_out (d : (Ty.sl tP).den) (hl : d.2.length < 1048575) : ∀ (r i M : Nat), i + r = d.2.length → r < M → Ans E0 (roundI0 d i M) (.bool ((List.range' i r).all (rowR d.2)))
  | 0, i, M + 1, hk, hm => by
    have h := round_step0 d i M
    simp only [Int.ofNat_eq_natCast, ile_ge (show d.2.length ≤ i by omega), Bool.not_true, cond_false] at h
    exact .doneB (hdOf_ok _) E0sy h rfl
  | r + 1, i, M + 1, hk, hm => by
    have h := round_step0 d i M
    have hlt : i < d.2.length := by omega
    have hk2 : (i + 1) % d.2.length < d.2.length := Nat.mod_lt _ (by omega)
    have z : ieq (d.2.length : Int) 0 = false := ieq_ne (by omega)
    simp only [Int.ofNat_eq_natCast, ile_lt hlt, wr_succ (show i < 1048577 by omega), tmod_nat, z, Bool.not_false, cond_true, cond_false] at h
    have ih := round_out d hl r (i + 1) M (by omega) (by omega)
    refine .stopE (hdOf_ok _) E0sy h (round_in d (by omega) i _ M hlt hk2 _ ih d.2.length 0 1048575 (by omega) (by omega)) ?_
    rw [List.range'_succ, List.all_cons, rowR]

/-! #### Both are the same -/
theorem cN_congr {q q' : Nat → Bool} : ∀ {r s : Nat}, (∀ j, s ≤ j → j < s + r → q j = q' j) → cN q s r = cN q' s r
  | 0, _, _ => rfl
  | r + 1, s, h => by rw [cN, cN, h s (by omega) (by omega), cN_congr (fun j h1 h2 => h j (by omega) (by omega))]
theorem cN_zero {q : Nat → Bool} : ∀ {r s : Nat}, cN q s r = 0 ↔ ∀ j, s ≤ j → j < s + r → q j = false
  | 0, s => ⟨fun _ j h1 h2 => by omega, fun _ => rfl⟩
  | r + 1, s => by
    rw [cN]
    have ih := cN_zero (q := q) (r := r) (s := s + 1)
    constructor
    · intro h j h1 h2
      cases e : q s with
      | true => rw [e] at h; simp at h
      | false =>
        rw [e] at h
        by_cases hj : j = s
        · subst hj; exact e
        · exact ih.1 (by simpa using h) j (by omega) (by omega)
    · intro h
      rw [h s (by omega) (by omega), ih.2 (fun j h1 h2 => h j (by omega) (by omega))]; rfl
theorem cN_one {q : Nat → Bool} {i : Nat} (hq : q i = true) : ∀ {r s : Nat}, s ≤ i → i < s + r → cN q s r = 1 + cN (fun j => q j && !Nat.beq j i) s r
  | 0, s, h1, h2 => by omega
  | r + 1, s, h1, h2 => by
    rw [cN, cN]
    by_cases e : s = i
    · subst e
      rw [hq, show Nat.beq s s = true from Nat.beq_refl s]
      have : cN (fun j => q j && !Nat.beq j s) (s + 1) r = cN q (s + 1) r := cN_congr (fun j h3 _ => by
        have : Nat.beq j s = false := by cases e : Nat.beq j s with | false => rfl | true => exact absurd (Nat.eq_of_beq_eq_true e) (by omega)
        rw [this]; simp)
      rw [this]; simp
    · have : Nat.beq s i = false := by cases e' : Nat.beq s i with | false => rfl | true => exact absurd (Nat.eq_of_beq_eq_true e') e
      rw [this, cN_one hq (by omega) (by omega)]
      simp; omega
theorem cN_not {q : Nat → Bool} : ∀ {r s : Nat}, cN q s r + cN (fun j => !q j) s r = r
  | 0, _ => rfl
  | r + 1, s => by
    have := cN_not (q := q) (r := r) (s := s + 1)
    rw [cN, cN]
    cases q s <;> simp <;> omega
theorem wr0 : wr IntKind.i64 0 = 0 := rfl
theorem crs_own (ax ay : Int) (q : tP.den) : crs ax ay q.1 q.2.1 q = 0 := by
  unfold crs
  rw [Int.sub_self, Int.sub_self, wr0, Int.mul_zero, Int.mul_zero, wr0]; rfl
theorem crs_to (cx cy : Int) (q : tP.den) : crs (wr IntKind.i64 (q.1 - cx)) (wr IntKind.i64 (q.2.1 - cy)) cx cy q = 0 := by
  unfold crs
  rw [Int.mul_comm, Int.sub_self, wr0]
theorem rowP_eq {l : List tP.den} (h3 : 3 ≤ l.length) {i : Nat} (hi : i < l.length) : rowP l i = rowR l i := by
  have hk : (i + 1) % l.length < l.length := Nat.mod_lt _ (by omega)
  have hne : (i + 1) % l.length ≠ i := by
    by_cases e : i + 1 = l.length
    · rw [e, Nat.mod_self]; omega
    · rw [Nat.mod_eq_of_lt (by omega)]; omega
  generalize hkk : (i + 1) % l.length = k at hk hne
  have pi : posI l i k i = false := by unfold posI posC; rw [crs_own]; rfl
  have pk : posI l i k k = false := by unfold posI posC; rw [crs_to]; rfl
  have n1 := cN_not (q := posI l i k) (r := l.length) (s := 0)
  have n2 := cN_one (q := fun j => !posI l i k j) (i := i) (by simp [pi]) (r := l.length) (s := 0) (by omega) (by omega)
  have n3 := cN_one (q := fun j => !posI l i k j && !Nat.beq j i) (i := k) (by
    have : Nat.beq k i = false := by cases e : Nat.beq k i with | false => rfl | true => exact absurd (Nat.eq_of_beq_eq_true e) hne
    simp [pk, this]) (r := l.length) (s := 0) (by omega) (by omega)
  have n4 := cN_zero (q := fun j => (!posI l i k j && !Nat.beq j i) && !Nat.beq j k) (r := l.length) (s := 0)
  have key : (rowP l i = true) ↔ (rowR l i = true) := by
    rw [rowP, rowR, hkk, ieq_iff, List.all_eq_true]
    simp only [decide_eq_true_eq]
    constructor
    · intro h j hj
      have hj' : j < l.length := by simpa using hj
      have hz := n4.1 (by omega) j (by omega) (by omega)
      unfold cellR
      rw [ieq_iff, ieq_iff]
      by_cases e1 : j = i
      · subst e1; simp
      by_cases e2 : j = k
      · subst e2; simp
      have b1 : Nat.beq j i = false := by cases e : Nat.beq j i with | false => rfl | true => exact absurd (Nat.eq_of_beq_eq_true e) e1
      have b2 : Nat.beq j k = false := by cases e : Nat.beq j k with | false => rfl | true => exact absurd (Nat.eq_of_beq_eq_true e) e2
      rw [b1, b2] at hz
      have d1 : ¬ ((j : Int) = (i : Int)) := by omega
      have d2 : ¬ ((j : Int) = (k : Int)) := by omega
      simp only [d1, d2, decide_false, Bool.not_false, cond_true]
      simpa using hz
    · intro h
      have : cN (fun j => (!posI l i k j && !Nat.beq j i) && !Nat.beq j k) 0 l.length = 0 := n4.2 (fun j _ hj => by
        have hc := h j (by simp; omega)
        unfold cellR at hc
        rw [ieq_iff, ieq_iff] at hc
        by_cases e1 : j = i
        · subst e1; simp [Nat.beq_refl]
        by_cases e2 : j = k
        · subst e2; simp [Nat.beq_refl]
        have d1 : ¬ ((j : Int) = (i : Int)) := by omega
        have d2 : ¬ ((j : Int) = (k : Int)) := by omega
        simp only [d1, d2, decide_false, Bool.not_false, cond_true] at hc
        simp [hc])
      omega
  cases a : rowP l i <;> cases b : rowR l i <;> simp_all
theorem bulges_call (d : (Ty.sl tP).den) (h3 : 3 ≤ d.2.length) (hl : d.2.length < 1048575) : AnsF E0 109 [.vs tP d.1 d.2] (.bool (roundS d.2)) := by
  refine Ans.call (n := 6) (E0ext _ _ (by kernel_rfl)) (hasB_spec (by kernel_rfl)) (.stopE (hdOf_ok _) E0sy (bulges_start d) (bulges_out d hl d.2.length 0 1048575 (by omega) (by omega)) ?_)
  have : (List.range' 0 d.2.length).all (rowP d.2) = (List.range' 0 d.2.length).all (rowR d.2) := by
    have hx : ∀ x ∈ List.range' 0 d.2.length, rowP d.2 x = rowR d.2 x := fun x hx => rowP_eq h3 (by simpa using hx)
    cases a : (List.range' 0 d.2.length).all (rowP d.2) <;> cases b : (List.range' 0 d.2.length).all (rowR d.2) <;> first | rfl | skip
    · rw [List.all_eq_true] at b
      rw [← Bool.not_eq_true, List.all_eq_true] at a
      exact absurd (fun x h => by rw [hx x h]; exact b x h) a
    · rw [List.all_eq_true] at a
      rw [← Bool.not_eq_true, List.all_eq_true] at b
      exact absurd (fun x h => by rw [← hx x h]; exact a x h) b
  rw [this, roundS]
theorem round_call (d : (Ty.sl tP).den) (hl : d.2.length < 1048575) : AnsF E0 92 [.vs tP d.1 d.2] (.bool (roundS d.2)) :=
  Ans.call (n := 6) (E0ext _ _ (by kernel_rfl)) (hasB_spec (by kernel_rfl)) (.stopE (hdOf_ok _) E0sy (round_start d) (round_out d hl d.2.length 0 1048575 (by omega) (by omega)) rfl)
end Go.Proofs.YtgcgffnamfbcgaaGreatDoor

/-
  WHAT IS SAID AHEAD of the small functions of layer 1.
-/
set_option maxRecDepth 100000
namespace Go.Proofs.YtgcgffnamfbcgaaGreatDoor
open Go Go.Eng

noncomputable def isS : AV → Bool
  | .str _ => true
  | _ => false
noncomputable def strOf : AV → List Nat
  | .str s => s
  | _ => []
noncomputable def strs (l : List AV) : List (List Nat) := l.map strOf
theorem strs_flat : ∀ {l : List AV}, l.all isS = true → flat .str (strs l) = l
  | [], _ => rfl
  | a :: l, h => by
    simp only [List.all_cons, Bool.and_eq_true] at h
    have ih := strs_flat h.2
    cases a <;> first | (cases h.1; done) | skip
    rename_i s
    show .str s :: flat .str (strs l) = _
    rw [ih]
noncomputable def placeX (args : List AV) : Option (Bool × AV) :=
  match args with
  | [.csl l n, .str s] => some (l.all isS && Nat.beq n l.length && Nat.ble n 1000, .int .i64 (placeF s (strs l) 0))
  | [a, .str s] => match rdA (.sl .str) a with
    | some (q, d) => some (q && Nat.ble d.2.length 1000, .int .i64 (placeF s d.2 0))
    | none => none
  | _ => none
theorem placeX_spec {args : List AV} {v : AV} (h : placeX args = some (true, v)) : ∃ args', TellsL args args' ∧ args'.all (closedA 9) = true ∧ AnsF E0 90 args' v := by
  unfold placeX at h
  split at h
  · rename_i l n s
    simp only [Option.some.injEq, Prod.mk.injEq, Bool.and_eq_true] at h
    obtain ⟨⟨⟨h1, h2⟩, h3⟩, rfl⟩ := h
    have hn := Nat.eq_of_beq_eq_true h2
    have hf := strs_flat h1
    have hlen : (strs l).length = l.length := by simp [strs]
    have := Nat.le_of_ble_eq_true h3
    refine ⟨[.vs .str false (strs l), .str s], .cons ?_ (.refl _), rfl, place_call (false, strs l) s (by show (strs l).length < _; omega)⟩
    have ht := Tells.csl (t := .str) (l := strs l)
    rw [hf, hlen, ← hn] at ht
    exact ht
  · rename_i a s _
    split at h
    · rename_i q d hd
      simp only [Option.some.injEq, Prod.mk.injEq, Bool.and_eq_true] at h
      obtain ⟨⟨rfl, h3⟩, rfl⟩ := h
      have := Nat.le_of_ble_eq_true h3
      exact ⟨[.vs .str d.1 d.2, .str s], .cons (rdA_spec _ hd) (.refl _), rfl, place_call d s (by omega)⟩
    · cases h
  · cases h

noncomputable def X1 (f : Nat) (args : List AV) : Option (Bool × AV) :=
  match Nat.beq f 106 with
  | true => con1 .str (fun _ => true) (fun s => .bool (nameS s)) args
  | false => match Nat.beq f 89 with
  | true => con1 .str (fun _ => true) (fun s => .bool (nameS s)) args
  | false => match Nat.beq f 107 with
  | true => con1 (.sl tP) (fun d => Nat.ble d.2.length 1000) (fun d => .int .i64 (paintsF (-1) d.2)) args
  | false => match Nat.beq f 73 with
  | true => con1 (.sl tP) (fun _ => true) (fun d => .int .i64 (paintsE d.2)) args
  | false => match Nat.beq f 90 with
  | true => placeX args
  | false => match Nat.beq f 109 with
  | true => con1 (.sl tP) (fun d => Nat.ble 3 d.2.length && Nat.ble d.2.length 1000) (fun d => .bool (roundS d.2)) args
  | false => match Nat.beq f 92 with
  | true => con1 (.sl tP) (fun d => Nat.ble d.2.length 1000) (fun d => .bool (roundS d.2)) args
  | false => none
theorem X1_con : Con E0 (under X1) := by
  intro f args v h
  rw [under_iff] at h
  unfold X1 at h
  split at h
  · rename_i e; obtain rfl := Nat.eq_of_beq_eq_true e
    exact con1_spec (t := .str) (fun s _ => name_call s) h
  split at h
  · rename_i e; obtain rfl := Nat.eq_of_beq_eq_true e
    exact con1_spec (t := .str) (fun s _ => rname_call s) h
  split at h
  · rename_i e; obtain rfl := Nat.eq_of_beq_eq_true e
    exact con1_spec (t := .sl tP) (fun d hd => paints_call d (by have := Nat.le_of_ble_eq_true hd; omega)) h
  split at h
  · rename_i e; obtain rfl := Nat.eq_of_beq_eq_true e
    exact con1_spec (t := .sl tP) (fun d _ => rpaints_call d) h
  split at h
  · rename_i e; obtain rfl := Nat.eq_of_beq_eq_true e
    exact placeX_spec h
  split at h
  · rename_i e; obtain rfl := Nat.eq_of_beq_eq_true e
    exact con1_spec (t := .sl tP) (fun d hd => by
      simp only [Bool.and_eq_true] at hd
      have h1 := Nat.le_of_ble_eq_true hd.1
      have h2 := Nat.le_of_ble_eq_true hd.2
      exact bulges_call d h1 (by omega)) h
  split at h
  · rename_i e; obtain rfl := Nat.eq_of_beq_eq_true e
    exact con1_spec (t := .sl tP) (fun d hd => round_call d (by have := Nat.le_of_ble_eq_true hd; omega)) h
  · cases h
noncomputable def E1 : Env := E0.say (under X1)
theorem e1 : EnvOK Tryz.prog E1 := e0.say _
theorem n1 : NameOK E1 := n0.say _
theorem x1 : ExtOK Tryz.prog E1 := .sayG e0 x0 n0 tabs_ok.mix X1_con
theorem E1sy : E1.sy = true := rfl
noncomputable def S1 (l : List Nat) : Sy := ⟨X1, fun f => l.any (Nat.beq f), true, [], false⟩
theorem S1_ok (l : List Nat) : (S1 l).ok E1 := fun f args v h => by
  show (match under X1 f args with | some v => some v | none => E0.ext f args) = some v
  have h' : under X1 f args = some v := under_iff.2 h
  rw [h']
end Go.Proofs.YtgcgffnamfbcgaaGreatDoor

/-
  LOOPS, told by their heads.
-/
set_option maxRecDepth 100000
namespace Go.Proofs.YtgcgffnamfbcgaaGreatDoor
open Go Go.Eng
noncomputable def sandI0 (s : tSand.den) (x8 : Int) (x35 : Nat) : Cfg := ⟨.ex (pcOf E1 74 [0, 0, 1, 0, 1, 1]) ⟨(tmOf 36 [(0, (.agg [(.str (s.fst)), (.vs tP (s.snd.fst.fst) (s.snd.fst.snd)), (.int .i64 (s.snd.snd.fst.fst.fst)), (.int .i64 (s.snd.snd.fst.fst.snd.fst)), (.int .i64 (s.snd.snd.fst.snd.fst.fst)), (.int .i64 (s.snd.snd.fst.snd.fst.snd.fst))])), (1, (.ptr 0 0)), (2, (.int .i64 (0))), (3, (.int .i64 x8)), (5, (.ptr 0 1)), (6, (.vs tP (s.snd.fst.fst) (s.snd.fst.snd))), (7, (.int .i64 (Int.ofNat s.snd.fst.snd.length))), (8, (.bool (ile (↑s.snd.fst.snd.length) 8))), (9, (.bool (false)))]), (hpOf 1 [(0, (.cells false [(.str (s.fst)), (.vs tP (s.snd.fst.fst) (s.snd.fst.snd)), (.int .i64 (s.snd.snd.fst.fst.fst)), (.int .i64 (s.snd.snd.fst.fst.snd.fst)), (.int .i64 (s.snd.snd.fst.snd.fst.fst)), (.int .i64 (s.snd.snd.fst.snd.fst.snd.fst))]))]), [], [], 36, false⟩, ⟨6, []⟩, [(.lop (pcOf E1 74 [0, 0, 1, 0, 1, 1]) 1 (tmOf 36 [(0, (.agg [(.str (s.fst)), (.vs tP (s.snd.fst.fst) (s.snd.fst.snd)), (.int .i64 (s.snd.snd.fst.fst.fst)), (.int .i64 (s.snd.snd.fst.fst.snd.fst)), (.int .i64 (s.snd.snd.fst.snd.fst.fst)), (.int .i64 (s.snd.snd.fst.snd.fst.snd.fst))])), (1, (.ptr 0 0)), (2, (.int .i64 (0))), (3, (.int .i64 (0))), (5, (.ptr 0 1)), (6, (.vs tP (s.snd.fst.fst) (s.snd.fst.snd))), (7, (.int .i64 (Int.ofNat s.snd.fst.snd.length))), (8, (.bool (ile (↑s.snd.fst.snd.length) 8))), (9, (.bool (false)))]) x35), (.blk 0), (.seq (pcOf E1 74 [1, 1, 1])), (.cal [(.tmp 2)] .top)]⟩
theorem sand_start (s : tSand.den) : adv E1 (S1 [74]) 3000 (startC E1 74 [tSand.av s] 6) = (bif ile 3 ↑s.snd.fst.snd.length then (bif !ile (↑s.snd.fst.snd.length) 8 then some (.done (.int .i64 (3))) else some (.stop (sandI0 s (0) (1048575)))) else some (.done (.int .i64 (3)))) := by kernel_rfl
theorem sand_step0 (s : tSand.den) (x8 : Int) (x35 : Nat) : adv E1 (S1 [74]) 3000 (sandI0 s x8 (x35 + 1)) = (bif !ile (↑s.snd.fst.snd.length) x8 then (bif inB x8 s.snd.fst.snd.length then (bif ile (wr IntKind.i64 (0 - 10000)) (s.snd.fst.snd.getD x8.toNat tP.dflt).fst then (bif ile (s.snd.fst.snd.getD x8.toNat tP.dflt).fst 10000 then (bif ile (wr IntKind.i64 (0 - 10000)) (s.snd.fst.snd.getD x8.toNat tP.dflt).snd.fst then (bif !ile (s.snd.fst.snd.getD x8.toNat tP.dflt).snd.fst 10000 then some (.done (.int .i64 (7))) else some (.stop (sandI0 s (wr IntKind.i64 (x8 + 1)) (x35)))) else some (.done (.int .i64 (7)))) else some (.done (.int .i64 (7)))) else some (.done (.int .i64 (7)))) else none) else (bif ile (-500) s.snd.snd.fst.fst.fst then (bif !ile s.snd.snd.fst.fst.fst 500 then some (.done (.int .i64 (7))) else (bif ile (-500) s.snd.snd.fst.fst.snd.fst then (bif !ile s.snd.snd.fst.fst.snd.fst 500 then some (.done (.int .i64 (7))) else (bif !ile s.snd.snd.fst.fst.fst s.snd.snd.fst.fst.snd.fst then (bif ile (-500) s.snd.snd.fst.snd.fst.fst then (bif !ile s.snd.snd.fst.snd.fst.fst 500 then some (.done (.int .i64 (7))) else (bif ile (-500) s.snd.snd.fst.snd.fst.snd.fst then (bif !ile s.snd.snd.fst.snd.fst.snd.fst 500 then some (.done (.int .i64 (7))) else (bif !ile s.snd.snd.fst.snd.fst.fst s.snd.snd.fst.snd.fst.snd.fst then some (.done (.int .i64 (2))) else some (.done (.int .i64 (2))))) else some (.done (.int .i64 (7))))) else some (.done (.int .i64 (7)))) else (bif ile (-500) s.snd.snd.fst.snd.fst.fst then (bif !ile s.snd.snd.fst.snd.fst.fst 500 then some (.done (.int .i64 (7))) else (bif ile (-500) s.snd.snd.fst.snd.fst.snd.fst then (bif !ile s.snd.snd.fst.snd.fst.snd.fst 500 then some (.done (.int .i64 (7))) else (bif !ile s.snd.snd.fst.snd.fst.fst s.snd.snd.fst.snd.fst.snd.fst then some (.done (.int .i64 (2))) else (bif !ile (wr IntKind.i64 (s.snd.snd.fst.fst.snd.fst - s.snd.snd.fst.fst.fst)) 40 then some (.done (.int .i64 (2))) else (bif !ile (wr IntKind.i64 (s.snd.snd.fst.snd.fst.snd.fst - s.snd.snd.fst.snd.fst.fst)) 40 then some (.done (.int .i64 (2))) else (bif s.snd.fst.snd.length.ble 1000 then (bif !roundS s.snd.fst.snd then some (.done (.int .i64 (9))) else some (.done (.int .i64 (0)))) else none))))) else some (.done (.int .i64 (7))))) else some (.done (.int .i64 (7)))))) else some (.done (.int .i64 (7))))) else some (.done (.int .i64 (7))))) := by kernel_rfl

/-! ### A sand -/
noncomputable def inP (p : tP.den) : Bool := ile (-10000) p.1 && ile p.1 10000 && ile (-10000) p.2.1 && ile p.2.1 10000
noncomputable def inB4 (a b c d : Int) : Bool := ile (-500) a && ile a 500 && ile (-500) b && ile b 500 && ile (-500) c && ile c 500 && ile (-500) d && ile d 500
noncomputable def fit4 (a b c d : Int) : Bool := ile a b && ile c d && ile (b - a) 40 && ile (d - c) 40
noncomputable def sandT (l : List tP.den) (a b c d : Int) : Int := bif inB4 a b c d then (bif fit4 a b c d then (bif roundS l then 0 else 9) else 2) else 7
noncomputable def sandE (s : tSand.den) : Int := bif ile 3 (s.2.1.2.length : Int) && ile (s.2.1.2.length : Int) 8 then (bif s.2.1.2.all inP then sandT s.2.1.2 s.2.2.1.1.1 s.2.2.1.1.2.1 s.2.2.1.2.1.1 s.2.2.1.2.1.2.1 else 7) else 3
theorem wm10000 : wr IntKind.i64 (0 - 10000) = -10000 := rfl
theorem wm500 : wr IntKind.i64 (0 - 500) = -500 := rfl
theorem sub500 {a b : Int} (h1 : ile (-500) a = true) (h2 : ile a 500 = true) (h3 : ile (-500) b = true) (h4 : ile b 500 = true) : wr IntKind.i64 (b - a) = b - a := by
  rw [ile_iff] at h1 h2 h3 h4
  simp only [decide_eq_true_eq] at h1 h2 h3 h4
  exact wr_in (by omega) (by omega)
theorem sand_ans (s : tSand.den) (hl : s.2.1.2.length ≤ 8) : ∀ (r k m : Nat), k + r = s.2.1.2.length → r < m → Ans E1 (sandI0 s k m) (.int .i64 (bif (s.2.1.2.drop k).all inP then sandT s.2.1.2 s.2.2.1.1.1 s.2.2.1.1.2.1 s.2.2.1.2.1.1 s.2.2.1.2.1.2.1 else 7))
  | 0, k, m + 1, hk, hm => by
    have h := sand_step0 s k m
    rw [List.drop_eq_nil_of_le (by omega)]
    simp only [ile_ge (show s.2.1.2.length ≤ k by omega), Bool.not_true, cond_false, List.all_nil, cond_true] at h ⊢
    unfold sandT inB4 fit4
    cases c1 : ile (-500) s.2.2.1.1.1 <;> cases c2 : ile s.2.2.1.1.1 500 <;> cases c3 : ile (-500) s.2.2.1.1.2.1 <;> cases c4 : ile s.2.2.1.1.2.1 500 <;> cases cx : ile s.2.2.1.1.1 s.2.2.1.1.2.1 <;>
      try (simp only [c1, c2, c3, c4, cx, cond_true, cond_false, Bool.not_true, Bool.not_false, Bool.and_true, Bool.and_false, Bool.false_and, Bool.true_and, Bool.and_self] at h ⊢; exact .doneI (S1_ok _) E1sy h rfl)
    all_goals
      have w1 := sub500 c1 c2 c3 c4
      cases c5 : ile (-500) s.2.2.1.2.1.1 <;> cases c6 : ile s.2.2.1.2.1.1 500 <;> cases c7 : ile (-500) s.2.2.1.2.1.2.1 <;> cases c8 : ile s.2.2.1.2.1.2.1 500 <;> cases cy : ile s.2.2.1.2.1.1 s.2.2.1.2.1.2.1 <;>
        try (simp only [c1, c2, c3, c4, cx, c5, c6, c7, c8, cy, cond_true, cond_false, Bool.not_true, Bool.not_false, Bool.and_true, Bool.and_false, Bool.false_and, Bool.true_and, Bool.and_self] at h ⊢; exact .doneI (S1_ok _) E1sy h rfl)
    have w2 := sub500 c5 c6 c7 c8
    have hb : s.2.1.2.length.ble 1000 = true := Nat.ble_eq_true_of_le (by omega)
    cases c9 : ile (s.2.2.1.1.2.1 - s.2.2.1.1.1) 40 <;> cases c10 : ile (s.2.2.1.2.1.2.1 - s.2.2.1.2.1.1) 40 <;> cases c11 : roundS s.2.1.2 <;>
      (simp only [c1, c2, c3, c4, cx, c5, c6, c7, c8, cy, w1, w2, c9, c10, c11, hb, cond_true, cond_false, Bool.not_true, Bool.not_false, Bool.and_true, Bool.and_false, Bool.false_and, Bool.true_and, Bool.and_self] at h ⊢; exact .doneI (S1_ok _) E1sy h rfl)
  | r + 1, k, m + 1, hk, hm => by
    have h := sand_step0 s k m
    have hlt : k < s.2.1.2.length := by omega
    simp only [Int.ofNat_eq_natCast, ile_lt hlt, inB_at hlt, getD_at hlt, wr_succ (show k < 1048577 by omega), wm10000, Bool.not_false, cond_true] at h
    rw [List.drop_eq_getElem_cons hlt, List.all_cons, inP]
    have ih := sand_ans s hl r (k + 1) m (by omega) (by omega)
    cases c1 : ile (-10000) (s.2.1.2[k]).1 <;> cases c2 : ile (s.2.1.2[k]).1 10000 <;> cases c3 : ile (-10000) (s.2.1.2[k]).2.1 <;> cases c4 : ile (s.2.1.2[k]).2.1 10000 <;>
      simp only [c1, c2, c3, c4, cond_true, cond_false, Bool.not_true, Bool.not_false, Bool.and_true, Bool.and_false, Bool.false_and, Bool.true_and, Bool.and_self] at h ⊢ <;>
      first
        | exact .doneI (S1_ok _) E1sy h rfl
        | exact .stop (S1_ok _) E1sy h ih
theorem E1ext (f : Nat) (args : List AV) (h : (E1.ext f args).isNone = true) : E1.ext f args = none := by
  cases e : E1.ext f args with
  | none => rfl
  | some v => rw [e] at h; cases h
theorem sand_call (s : tSand.den) : AnsF E1 74 [tSand.av s] (.int .i64 (sandE s)) := by
  refine Ans.call (n := 6) (E1ext _ _ (by kernel_rfl)) (hasB_spec (by kernel_rfl)) ?_
  have h := sand_start s
  unfold sandE
  cases c0 : ile 3 (s.2.1.2.length : Int) <;> cases c1 : ile (s.2.1.2.length : Int) 8 <;>
    simp only [c0, c1, cond_true, cond_false, Bool.not_true, Bool.not_false, Bool.and_true, Bool.and_false, Bool.and_self] at h ⊢ <;>
    first
      | exact .doneI (S1_ok _) E1sy h rfl
      | skip
  have hl : s.2.1.2.length ≤ 8 := by rw [ile_iff] at c1; simp at c1; omega
  exact .stopE (S1_ok _) E1sy h (sand_ans s hl s.2.1.2.length 0 1048575 (by omega) (by omega)) (by simp)
/-- With what is said of a sand. -/
noncomputable def X2 (f : Nat) (args : List AV) : Option (Bool × AV) :=
  match Nat.beq f 74 with
  | true => con1 tSand (fun _ => true) (fun s => .int .i64 (sandE s)) args
  | false => none
theorem X2_con : Con E1 (under X2) := by
  intro f args v h
  rw [under_iff] at h
  unfold X2 at h
  split at h
  · rename_i e; obtain rfl := Nat.eq_of_beq_eq_true e
    exact con1_spec (t := tSand) (fun s _ => sand_call s) h
  · cases h
noncomputable def E2 : Env := E1.say (under X2)
theorem e2 : EnvOK Tryz.prog E2 := e1.say _
theorem n2 : NameOK E2 := n1.say _
theorem x2 : ExtOK Tryz.prog E2 := .sayG e1 x1 n1 tabs_ok.mix X2_con
theorem E2sy : E2.sy = true := rfl
noncomputable def S2 (l : List Nat) : Sy := ⟨fun f args => match X2 f args with | some r => some r | none => X1 f args, fun f => l.any (Nat.beq f), true, [], false⟩
theorem S2_ok (l : List Nat) : (S2 l).ok E2 := fun f args v h => by
  show (match under X2 f args with | some v => some v | none => E1.ext f args) = some v
  have h0 : (match X2 f args with | some r => some r | none => X1 f args) = some (true, v) := h
  cases e : X2 f args with
  | some r =>
    rw [e] at h0
    have h' : under X2 f args = some v := under_iff.2 (by rw [e]; exact h0)
    rw [h']
  | none =>
    rw [e] at h0
    have h' : under X2 f args = none := by unfold under; rw [e]
    rw [h']
    exact S1_ok l f args v h0
end Go.Proofs.YtgcgffnamfbcgaaGreatDoor

/-
  LOOPS, told by their heads.
-/
set_option maxRecDepth 100000
namespace Go.Proofs.YtgcgffnamfbcgaaGreatDoor
open Go Go.Eng
noncomputable def chkI0 (c : tChart.den) (x11 : Int) (x16 : List (AV × AV)) (x29 : Nat) : Cfg := ⟨.ex (pcOf E1 82 [0, 0, 1, 0, 1, 1]) ⟨(tmOf 30 [(0, (.vs tMark (c.fst.fst) (c.fst.snd))), (1, (.mp 1)), (4, (.int .i64 (0))), (5, (.int .i64 (0))), (9, (.vs tMark (c.fst.fst) (c.fst.snd))), (10, (.int .i64 (Int.ofNat c.fst.snd.length))), (11, (.bool (false))), (12, (.vs tMark (c.fst.fst) (c.fst.snd))), (13, (.int .i64 (Int.ofNat c.fst.snd.length))), (14, (.int .i64 x11))]), (hpOf 2 [(0, (.cells false [(.vs tMark (c.fst.fst) (c.fst.snd)), (.vs tSand (c.snd.fst.fst) (c.snd.fst.snd))])), (1, (.map x16))]), [], [], 30, false⟩, ⟨5, []⟩, [(.lop (pcOf E1 82 [0, 0, 1, 0, 1, 1]) 2 (tmOf 30 [(0, (.vs tMark (c.fst.fst) (c.fst.snd))), (1, (.mp 1)), (4, (.int .i64 (0))), (5, (.int .i64 (0))), (9, (.vs tMark (c.fst.fst) (c.fst.snd))), (10, (.int .i64 (Int.ofNat c.fst.snd.length))), (11, (.bool (false))), (12, (.vs tMark (c.fst.fst) (c.fst.snd))), (13, (.int .i64 (Int.ofNat c.fst.snd.length))), (14, (.int .i64 (0)))]) x29), (.blk 0), (.seq (pcOf E1 82 [1, 1, 1])), (.cal [(.tmp 4), (.tmp 5)] (.op (pcOf E1 68 [0, 0, 1, 1]) 4 (some 11) ((opsOf (pcOf E1 68 [0, 0, 1, 1]).c).toList.drop 4) (tmOf 29 [(0, (.agg [(.vs tMark (c.fst.fst) (c.fst.snd)), (.vs tSand (c.snd.fst.fst) (c.snd.fst.snd))])), (1, (.ptr 0 0)), (2, (.int .i64 (0))), (3, (.int .i64 (0))), (4, (.int .i64 (0))), (5, (.mp 1)), (6, (.mp 1)), (8, (.ptr 0 0)), (9, (.vs tMark (c.fst.fst) (c.fst.snd))), (10, (.mp 1))]) [] 29 false ⟨6, []⟩)), (.seq (pcOf E1 68 [1, 0, 1, 1])), (.seq (pcOf E1 68 [1, 1, 1])), (.cal [(.tmp 2), (.tmp 3), (.tmp 4)] .top)]⟩
noncomputable def chkI1 (c : tChart.den) (x11 : Int) (x16 : List (AV × AV)) (x29 : Nat) : Cfg := ⟨.ex (pcOf E1 83 [0, 0, 1, 0, 1, 1]) ⟨(tmOf 30 [(0, (.vs tSand (c.snd.fst.fst) (c.snd.fst.snd))), (1, (.mp 1)), (4, (.int .i64 (0))), (5, (.int .i64 (0))), (9, (.vs tSand (c.snd.fst.fst) (c.snd.fst.snd))), (10, (.int .i64 (Int.ofNat c.snd.fst.snd.length))), (11, (.bool (false))), (12, (.vs tSand (c.snd.fst.fst) (c.snd.fst.snd))), (13, (.int .i64 (Int.ofNat c.snd.fst.snd.length))), (14, (.int .i64 x11))]), (hpOf 2 [(0, (.cells false [(.vs tMark (c.fst.fst) (c.fst.snd)), (.vs tSand (c.snd.fst.fst) (c.snd.fst.snd))])), (1, (.map x16))]), [], [], 30, false⟩, ⟨5, []⟩, [(.lop (pcOf E1 83 [0, 0, 1, 0, 1, 1]) 2 (tmOf 30 [(0, (.vs tSand (c.snd.fst.fst) (c.snd.fst.snd))), (1, (.mp 1)), (4, (.int .i64 (0))), (5, (.int .i64 (0))), (9, (.vs tSand (c.snd.fst.fst) (c.snd.fst.snd))), (10, (.int .i64 (Int.ofNat c.snd.fst.snd.length))), (11, (.bool (false))), (12, (.vs tSand (c.snd.fst.fst) (c.snd.fst.snd))), (13, (.int .i64 (Int.ofNat c.snd.fst.snd.length))), (14, (.int .i64 (0)))]) x29), (.blk 0), (.seq (pcOf E1 83 [1, 1, 1])), (.cal [(.tmp 4), (.tmp 5)] (.op (pcOf E1 68 [0, 0, 1, 1, 1]) 4 (some 22) ((opsOf (pcOf E1 68 [0, 0, 1, 1, 1]).c).toList.drop 4) (tmOf 29 [(0, (.agg [(.vs tMark (c.fst.fst) (c.fst.snd)), (.vs tSand (c.snd.fst.fst) (c.snd.fst.snd))])), (1, (.ptr 0 0)), (2, (.int .i64 (0))), (3, (.int .i64 (0))), (4, (.int .i64 (0))), (5, (.mp 1)), (6, (.mp 1)), (7, (.tup [(.int .i64 (0)), (.int .i64 (0))])), (8, (.ptr 0 0)), (9, (.vs tMark (c.fst.fst) (c.fst.snd))), (10, (.mp 1)), (11, (.tup [(.int .i64 (0)), (.int .i64 (0))])), (12, (.int .i64 (0))), (13, (.int .i64 (0))), (14, (.int .i64 (0))), (15, (.bool (false))), (19, (.ptr 0 1)), (20, (.vs tSand (c.snd.fst.fst) (c.snd.fst.snd))), (21, (.mp 1))]) [] 29 false ⟨6, []⟩)), (.seq (pcOf E1 68 [1, 0, 1, 1, 1])), (.seq (pcOf E1 68 [1, 1, 1, 1])), (.cal [(.tmp 2), (.tmp 3), (.tmp 4)] .top)]⟩
noncomputable def chkI2 (c : tChart.den) (x16 : List (AV × AV)) (x17 : List Nat) (x18 : Int) (x19 : Int) (x20 : Bool) (x21 : List (Ty.den tP)) (x29 : Int) (x42 : Nat) (x48 : Int) (x49 : Int) : Cfg := ⟨.ex (pcOf E1 83 [0, 0, 1, 0, 1, 1]) ⟨(tmOf 30 [(0, (.vs tSand (c.snd.fst.fst) (c.snd.fst.snd))), (1, (.mp 1)), (4, (.int .i64 (0))), (5, (.int .i64 (0))), (9, (.vs tSand (c.snd.fst.fst) (c.snd.fst.snd))), (10, (.int .i64 (Int.ofNat c.snd.fst.snd.length))), (11, (.bool (false))), (12, (.vs tSand (c.snd.fst.fst) (c.snd.fst.snd))), (13, (.int .i64 (Int.ofNat c.snd.fst.snd.length))), (14, (.int .i64 (0)))]), (hpOf 6 [(0, (.cells false [(.vs tMark (c.fst.fst) (c.fst.snd)), (.vs tSand (c.snd.fst.fst) (c.snd.fst.snd))])), (1, (.map x16)), (2, (.cells false [(.str x17), (.int .i64 x18), (.int .i64 x19), (.vs tP x20 x21)])), (3, (.cells false [(.str x17), (.int .i64 x18), (.int .i64 x19), (.vs tP x20 x21)])), (4, (.cells true [(.int .i64 x18), (.int .i64 x19)])), (5, (.cells true [(.int .i64 x29)]))]), [], [], 30, false⟩, ⟨5, []⟩, [(.lop (pcOf E1 83 [0, 0, 1, 0, 1, 1]) 6 (tmOf 30 [(0, (.vs tSand (c.snd.fst.fst) (c.snd.fst.snd))), (1, (.mp 1)), (4, (.int .i64 (0))), (5, (.int .i64 (0))), (9, (.vs tSand (c.snd.fst.fst) (c.snd.fst.snd))), (10, (.int .i64 (Int.ofNat c.snd.fst.snd.length))), (11, (.bool (false))), (12, (.vs tSand (c.snd.fst.fst) (c.snd.fst.snd))), (13, (.int .i64 (Int.ofNat c.snd.fst.snd.length))), (14, (.int .i64 (0)))]) x42), (.blk 0), (.seq (pcOf E1 83 [1, 1, 1])), (.cal [(.tmp 4), (.tmp 5)] (.op (pcOf E1 68 [0, 0, 1, 1, 1]) 4 (some 22) ((opsOf (pcOf E1 68 [0, 0, 1, 1, 1]).c).toList.drop 4) (tmOf 29 [(0, (.agg [(.vs tMark (c.fst.fst) (c.fst.snd)), (.vs tSand (c.snd.fst.fst) (c.snd.fst.snd))])), (1, (.ptr 0 0)), (2, (.int .i64 (0))), (3, (.int .i64 x48)), (4, (.int .i64 x49)), (5, (.mp 1)), (6, (.mp 1)), (7, (.tup [(.int .i64 x48), (.int .i64 x49)])), (8, (.ptr 0 0)), (9, (.vs tMark (c.fst.fst) (c.fst.snd))), (10, (.mp 1)), (11, (.tup [(.int .i64 x48), (.int .i64 x49)])), (12, (.int .i64 x48)), (13, (.int .i64 x49)), (14, (.int .i64 x49)), (15, (.bool (false))), (19, (.ptr 0 1)), (20, (.vs tSand (c.snd.fst.fst) (c.snd.fst.snd))), (21, (.mp 1))]) [] 29 false ⟨6, []⟩)), (.seq (pcOf E1 68 [1, 0, 1, 1, 1])), (.seq (pcOf E1 68 [1, 1, 1, 1])), (.cal [(.tmp 2), (.tmp 3), (.tmp 4)] .top)]⟩
noncomputable def chkI3 (c : tChart.den) (x0 : List Nat) (x1 : Bool) (x2 : List (Ty.den tP)) (x3 : Int) (x4 : Int) (x5 : Int) (x6 : Int) (x10 : Bool) (x11 : Bool) (x14 : Bool) (x18 : Int) (x26 : Int) (x31 : List (AV × AV)) (x46 : List AV) (x74 : Nat) (x79 : Int) (x123 : Nat) : Cfg := ⟨.ex (pcOf E1 98 [0, 0, 1, 0, 1, 1]) ⟨(tmOf 50 [(0, (.agg [(.str x0), (.vs tP x1 x2), (.int .i64 x3), (.int .i64 x4), (.int .i64 x5), (.int .i64 x6)])), (1, (.mp 1)), (2, (.ptr 3 0)), (4, (.int .i64 (0))), (8, (.bool (false))), (9, (.ptr 3 0)), (10, (.str x0)), (11, (.bool x10)), (12, (.bool x11)), (13, (.bool (false))), (14, (.mp 1)), (15, (.ptr 3 0)), (16, (.str x0)), (17, (.bool x14)), (18, (.bool (false))), (19, (.ptr 3 1)), (20, (.vs tP x1 x2)), (21, (.int .i64 x18)), (22, (.sl 4 0 (1) (1) 1)), (23, (.bool (true))), (24, (.bool (false))), (25, (.ptr 3 1)), (26, (.vs tP x1 x2)), (27, (.int .i64 x18)), (28, (.int .i64 x26))]), (hpOf 5 [(0, (.cells false [(.vs tMark (c.fst.fst) (c.fst.snd)), (.vs tSand (c.snd.fst.fst) (c.snd.fst.snd))])), (1, (.map x31)), (2, (.cells false [(.str x0), (.vs tP x1 x2), (.int .i64 x3), (.int .i64 x4), (.int .i64 x5), (.int .i64 x6)])), (3, (.cells false [(.str x0), (.vs tP x1 x2), (.int .i64 x3), (.int .i64 x4), (.int .i64 x5), (.int .i64 x6)])), (4, (.cells true x46))]), [], [], 50, false⟩, ⟨4, []⟩, [(.lop (pcOf E1 98 [0, 0, 1, 0, 1, 1]) 5 (tmOf 50 [(0, (.agg [(.str x0), (.vs tP x1 x2), (.int .i64 x3), (.int .i64 x4), (.int .i64 x5), (.int .i64 x6)])), (1, (.mp 1)), (2, (.ptr 3 0)), (4, (.int .i64 (0))), (8, (.bool (false))), (9, (.ptr 3 0)), (10, (.str x0)), (11, (.bool x10)), (12, (.bool x11)), (13, (.bool (false))), (14, (.mp 1)), (15, (.ptr 3 0)), (16, (.str x0)), (17, (.bool x14)), (18, (.bool (false))), (19, (.ptr 3 1)), (20, (.vs tP x1 x2)), (21, (.int .i64 x18)), (22, (.sl 4 0 (1) (1) 1)), (23, (.bool (true))), (24, (.bool (false))), (25, (.ptr 3 1)), (26, (.vs tP x1 x2)), (27, (.int .i64 x18)), (28, (.int .i64 (0)))]) x74), (.blk 1), (.seq (pcOf E1 98 [1, 1, 1])), (.cal [(.tmp 4)] (.op (pcOf E1 83 [0, 0, 1, 0, 0, 1, 1, 0, 0, 1, 0, 1, 1]) 3 (some 21) ((opsOf (pcOf E1 83 [0, 0, 1, 0, 0, 1, 1, 0, 0, 1, 0, 1, 1]).c).toList.drop 3) (tmOf 30 [(0, (.vs tSand (c.snd.fst.fst) (c.snd.fst.snd))), (1, (.mp 1)), (4, (.int .i64 (0))), (5, (.int .i64 (0))), (6, (.int .i64 x79)), (7, (.ptr 2 0)), (9, (.vs tSand (c.snd.fst.fst) (c.snd.fst.snd))), (10, (.int .i64 (Int.ofNat c.snd.fst.snd.length))), (11, (.bool (false))), (12, (.vs tSand (c.snd.fst.fst) (c.snd.fst.snd))), (13, (.int .i64 (Int.ofNat c.snd.fst.snd.length))), (14, (.int .i64 x79)), (15, (.bool (true))), (16, (.int .i64 x79)), (17, (.cp [(.str x0), (.vs tP x1 x2), (.int .i64 x3), (.int .i64 x4), (.int .i64 x5), (.int .i64 x6)] 0)), (18, (.agg [(.str x0), (.vs tP x1 x2), (.int .i64 x3), (.int .i64 x4), (.int .i64 x5), (.int .i64 x6)])), (19, (.agg [(.str x0), (.vs tP x1 x2), (.int .i64 x3), (.int .i64 x4), (.int .i64 x5), (.int .i64 x6)])), (20, (.mp 1))]) [] 30 false ⟨5, []⟩)), (.seq (pcOf E1 83 [1, 0, 1, 0, 0, 1, 1, 0, 0, 1, 0, 1, 1])), (.seq (pcOf E1 83 [1, 1, 0, 0, 1, 1, 0, 0, 1, 0, 1, 1])), (.blk 1), (.seq (pcOf E1 83 [1, 1, 1, 0, 0, 1, 0, 1, 1])), (.lop (pcOf E1 83 [0, 0, 1, 0, 1, 1]) 2 (tmOf 30 [(0, (.vs tSand (c.snd.fst.fst) (c.snd.fst.snd))), (1, (.mp 1)), (4, (.int .i64 (0))), (5, (.int .i64 (0))), (9, (.vs tSand (c.snd.fst.fst) (c.snd.fst.snd))), (10, (.int .i64 (Int.ofNat c.snd.fst.snd.length))), (11, (.bool (false))), (12, (.vs tSand (c.snd.fst.fst) (c.snd.fst.snd))), (13, (.int .i64 (Int.ofNat c.snd.fst.snd.length))), (14, (.int .i64 (0)))]) x123), (.blk 0), (.seq (pcOf E1 83 [1, 1, 1])), (.cal [(.tmp 4), (.tmp 5)] (.op (pcOf E1 68 [0, 0, 1, 1, 1]) 4 (some 22) ((opsOf (pcOf E1 68 [0, 0, 1, 1, 1]).c).toList.drop 4) (tmOf 29 [(0, (.agg [(.vs tMark (c.fst.fst) (c.fst.snd)), (.vs tSand (c.snd.fst.fst) (c.snd.fst.snd))])), (1, (.ptr 0 0)), (2, (.int .i64 (0))), (3, (.int .i64 (0))), (4, (.int .i64 (0))), (5, (.mp 1)), (6, (.mp 1)), (7, (.tup [(.int .i64 (0)), (.int .i64 (0))])), (8, (.ptr 0 0)), (9, (.vs tMark (c.fst.fst) (c.fst.snd))), (10, (.mp 1)), (11, (.tup [(.int .i64 (0)), (.int .i64 (0))])), (12, (.int .i64 (0))), (13, (.int .i64 (0))), (14, (.int .i64 (0))), (15, (.bool (false))), (19, (.ptr 0 1)), (20, (.vs tSand (c.snd.fst.fst) (c.snd.fst.snd))), (21, (.mp 1))]) [] 29 false ⟨6, []⟩)), (.seq (pcOf E1 68 [1, 0, 1, 1, 1])), (.seq (pcOf E1 68 [1, 1, 1, 1])), (.cal [(.tmp 2), (.tmp 3), (.tmp 4)] .top)]⟩
theorem chk_start (c : tChart.den) : adv E1 (S1 [82, 83, 98]) 3000 (startC E1 68 [tChart.av c] 6) = (bif !ile (↑c.fst.snd.length) 8 then some (.done (.tup [(.int .i64 (1)), (.int .i64 (0)), (.int .i64 (3))])) else some (.stop (chkI0 c (0) ([]) (1048575)))) := by kernel_rfl
theorem chk_step0 (c : tChart.den) (x11 : Int) (x16 : List (AV × AV)) (x29 : Nat) : adv E1 (S1 [82, 83, 98]) 3000 (chkI0 c x11 x16 (x29 + 1)) = (bif !ile (Int.ofNat c.fst.snd.length) x11 then (bif inB x11 c.fst.snd.length then (bif !nameS (c.fst.snd.getD x11.toNat tMark.dflt).fst then some (.done (.tup [(.int .i64 (1)), (.int .i64 (x11)), (.int .i64 (6))])) else (bif okSB x16 then (bif getSB (c.fst.snd.getD x11.toNat tMark.dflt).fst x16 then some (.done (.tup [(.int .i64 (1)), (.int .i64 (x11)), (.int .i64 (5))])) else (bif !ile (-30000) (c.fst.snd.getD x11.toNat tMark.dflt).snd.fst.fst then some (.done (.tup [(.int .i64 (1)), (.int .i64 (x11)), (.int .i64 (7))])) else (bif !ile (c.fst.snd.getD x11.toNat tMark.dflt).snd.fst.fst 30000 then some (.done (.tup [(.int .i64 (1)), (.int .i64 (x11)), (.int .i64 (7))])) else (bif plO (AO.map x16) then (bif !ile (-30000) (c.fst.snd.getD x11.toNat tMark.dflt).snd.fst.snd.fst then some (.done (.tup [(.int .i64 (1)), (.int .i64 (x11)), (.int .i64 (7))])) else (bif !ile (c.fst.snd.getD x11.toNat tMark.dflt).snd.fst.snd.fst 30000 then some (.done (.tup [(.int .i64 (1)), (.int .i64 (x11)), (.int .i64 (7))])) else (bif plO (AO.map x16) then (bif !ile 1 ↑(c.fst.snd.getD x11.toNat tMark.dflt).snd.snd.fst.snd.length then some (.done (.tup [(.int .i64 (1)), (.int .i64 (x11)), (.int .i64 (3))])) else (bif !ile (↑(c.fst.snd.getD x11.toNat tMark.dflt).snd.snd.fst.snd.length) 4 then some (.done (.tup [(.int .i64 (1)), (.int .i64 (x11)), (.int .i64 (3))])) else (bif plO (AO.map x16) then (bif (c.fst.snd.getD x11.toNat tMark.dflt).snd.snd.fst.snd.length.ble 1000 then (bif !ieq (paintsF (-1) (c.fst.snd.getD x11.toNat tMark.dflt).snd.snd.fst.snd) 0 then (bif !ieq (paintsF (-1) (c.fst.snd.getD x11.toNat tMark.dflt).snd.snd.fst.snd) 0 then some (.done (.tup [(.int .i64 (1)), (.int .i64 (x11)), (.int .i64 (paintsF (-1) (c.fst.snd.getD x11.toNat tMark.dflt).snd.snd.fst.snd))])) else (bif !ile (↑c.snd.fst.snd.length) 4 then some (.done (.tup [(.int .i64 (2)), (.int .i64 (0)), (.int .i64 (3))])) else some (.stop (chkI2 c (x16) ((c.fst.snd.getD x11.toNat tMark.dflt).fst) ((c.fst.snd.getD x11.toNat tMark.dflt).snd.fst.fst) ((c.fst.snd.getD x11.toNat tMark.dflt).snd.fst.snd.fst) ((c.fst.snd.getD x11.toNat tMark.dflt).snd.snd.fst.fst) ((c.fst.snd.getD x11.toNat tMark.dflt).snd.snd.fst.snd) (Int.ofNat (c.fst.snd.getD x11.toNat tMark.dflt).snd.snd.fst.snd.length) (1048575) (x11) (paintsF (-1) (c.fst.snd.getD x11.toNat tMark.dflt).snd.snd.fst.snd))))) else (bif okSB x16 then (bif plO (AO.map (setSB (c.fst.snd.getD x11.toNat tMark.dflt).fst true x16)) then some (.stop (chkI0 c (wr IntKind.i64 (x11 + 1)) (setSB (c.fst.snd.getD x11.toNat tMark.dflt).fst true x16) (x29))) else none) else none)) else none) else none))) else none))) else none)))) else none)) else none) else (bif !ile (↑c.snd.fst.snd.length) 4 then some (.done (.tup [(.int .i64 (2)), (.int .i64 (0)), (.int .i64 (3))])) else some (.stop (chkI1 c (0) (x16) (1048575))))) := by kernel_rfl
theorem chk_step1 (c : tChart.den) (x11 : Int) (x16 : List (AV × AV)) (x29 : Nat) : adv E1 (S1 [82, 83, 98]) 3000 (chkI1 c x11 x16 (x29 + 1)) = (bif !ile (Int.ofNat c.snd.fst.snd.length) x11 then (bif inB x11 c.snd.fst.snd.length then (bif !nameS (c.snd.fst.snd.getD x11.toNat tSand.dflt).fst then some (.done (.tup [(.int .i64 (2)), (.int .i64 (x11)), (.int .i64 (6))])) else (bif okSB x16 then (bif getSB (c.snd.fst.snd.getD x11.toNat tSand.dflt).fst x16 then some (.done (.tup [(.int .i64 (2)), (.int .i64 (x11)), (.int .i64 (5))])) else (bif !ile 3 ↑(c.snd.fst.snd.getD x11.toNat tSand.dflt).snd.fst.snd.length then some (.done (.tup [(.int .i64 (2)), (.int .i64 (x11)), (.int .i64 (3))])) else (bif !ile (↑(c.snd.fst.snd.getD x11.toNat tSand.dflt).snd.fst.snd.length) 8 then some (.done (.tup [(.int .i64 (2)), (.int .i64 (x11)), (.int .i64 (3))])) else (bif plO (AO.map x16) then some (.stop (chkI3 c ((c.snd.fst.snd.getD x11.toNat tSand.dflt).fst) ((c.snd.fst.snd.getD x11.toNat tSand.dflt).snd.fst.fst) ((c.snd.fst.snd.getD x11.toNat tSand.dflt).snd.fst.snd) ((c.snd.fst.snd.getD x11.toNat tSand.dflt).snd.snd.fst.fst.fst) ((c.snd.fst.snd.getD x11.toNat tSand.dflt).snd.snd.fst.fst.snd.fst) ((c.snd.fst.snd.getD x11.toNat tSand.dflt).snd.snd.fst.snd.fst.fst) ((c.snd.fst.snd.getD x11.toNat tSand.dflt).snd.snd.fst.snd.fst.snd.fst) (nameS (c.snd.fst.snd.getD x11.toNat tSand.dflt).fst) (!nameS (c.snd.fst.snd.getD x11.toNat tSand.dflt).fst) (getSB (c.snd.fst.snd.getD x11.toNat tSand.dflt).fst x16) (Int.ofNat (c.snd.fst.snd.getD x11.toNat tSand.dflt).snd.fst.snd.length) (0) (x16) ([AV.int IntKind.i64 ↑(c.snd.fst.snd.getD x11.toNat tSand.dflt).snd.fst.snd.length]) (1048575) (x11) (x29 + 1))) else none)))) else none)) else none) else some (.done (.tup [(.int .i64 (0)), (.int .i64 (0)), (.int .i64 (0))]))) := by kernel_rfl
theorem chk_step3 (c : tChart.den) (x0 : List Nat) (x1 : Bool) (x2 : List (Ty.den tP)) (x3 : Int) (x4 : Int) (x5 : Int) (x6 : Int) (x10 : Bool) (x11 : Bool) (x14 : Bool) (x18 : Int) (x26 : Int) (x31 : List (AV × AV)) (x46 : List AV) (x74 : Nat) (x79 : Int) (x123 : Nat) : adv E1 (S1 [82, 83, 98]) 3000 (chkI3 c x0 x1 x2 x3 x4 x5 x6 x10 x11 x14 x18 x26 x31 x46 (x74 + 1) x79 (x123 + 1)) = (bif !ile x18 x26 then (bif inB x26 x2.length then (bif !ile (-10000) (x2.getD x26.toNat tP.dflt).fst then some (.done (.tup [(.int .i64 (2)), (.int .i64 (x79)), (.int .i64 (7))])) else (bif !ile (x2.getD x26.toNat tP.dflt).fst 10000 then some (.done (.tup [(.int .i64 (2)), (.int .i64 (x79)), (.int .i64 (7))])) else (bif plO (AO.cells true x46) then (bif plO (AO.map x31) then (bif !ile (-10000) (x2.getD x26.toNat tP.dflt).snd.fst then some (.done (.tup [(.int .i64 (2)), (.int .i64 (x79)), (.int .i64 (7))])) else (bif !ile (x2.getD x26.toNat tP.dflt).snd.fst 10000 then some (.done (.tup [(.int .i64 (2)), (.int .i64 (x79)), (.int .i64 (7))])) else (bif plO (AO.cells true x46) then (bif plO (AO.map x31) then (bif plO (AO.cells true x46) then (bif plO (AO.map x31) then some (.stop (chkI3 c (x0) (x1) (x2) (x3) (x4) (x5) (x6) (x10) (x11) (x14) (x18) (wr IntKind.i64 (x26 + 1)) (x31) (x46) (x74) (x79) (x123 + 1))) else none) else none) else none) else none))) else none) else none))) else none) else (bif !ile (wr IntKind.i64 (0 - 500)) x3 then some (.done (.tup [(.int .i64 (2)), (.int .i64 (x79)), (.int .i64 (7))])) else (bif !ile x3 500 then some (.done (.tup [(.int .i64 (2)), (.int .i64 (x79)), (.int .i64 (7))])) else (bif plO (AO.cells true x46) then (bif plO (AO.map x31) then (bif !ile (wr IntKind.i64 (0 - 500)) x4 then some (.done (.tup [(.int .i64 (2)), (.int .i64 (x79)), (.int .i64 (7))])) else (bif !ile x4 500 then some (.done (.tup [(.int .i64 (2)), (.int .i64 (x79)), (.int .i64 (7))])) else (bif plO (AO.cells true x46) then (bif plO (AO.map x31) then (bif !ile (wr IntKind.i64 (0 - 500)) x5 then some (.done (.tup [(.int .i64 (2)), (.int .i64 (x79)), (.int .i64 (7))])) else (bif !ile x5 500 then some (.done (.tup [(.int .i64 (2)), (.int .i64 (x79)), (.int .i64 (7))])) else (bif plO (AO.cells true x46) then (bif plO (AO.map x31) then (bif !ile (wr IntKind.i64 (0 - 500)) x6 then some (.done (.tup [(.int .i64 (2)), (.int .i64 (x79)), (.int .i64 (7))])) else (bif !ile x6 500 then some (.done (.tup [(.int .i64 (2)), (.int .i64 (x79)), (.int .i64 (7))])) else (bif plO (AO.cells true x46) then (bif plO (AO.map x31) then (bif ieq x5 x5 then (bif ieq x6 x6 then (bif ieq x5 x5 then (bif ieq x6 x6 then (bif ieq x3 x3 then (bif ieq x4 x4 then (bif ieq x3 x3 then (bif ieq x4 x4 then (bif ieq x5 x5 then (bif ieq x6 x6 then (bif ieq x3 x3 then (bif ieq x4 x4 then (bif ieq x5 x5 then (bif ieq x6 x6 then (bif ieq x3 x3 then (bif ieq x4 x4 then (bif ieq x5 x5 then (bif ieq x6 x6 then (bif !(ieq x3 x3 && (ieq x4 (bif ile (bif ile x4 x3 then x3 else x4) (wr IntKind.i64 (x3 + 40)) then bif ile x4 x3 then x3 else x4 else wr IntKind.i64 (x3 + 40)) && true) && (ieq x5 x5 && (ieq x6 (bif ile (bif ile x6 x5 then x5 else x6) (wr IntKind.i64 (x5 + 40)) then bif ile x6 x5 then x5 else x6 else wr IntKind.i64 (x5 + 40)) && true) && true)) then some (.done (.tup [(.int .i64 (2)), (.int .i64 (x79)), (.int .i64 (2))])) else (bif Nat.ble 3 x2.length && x2.length.ble 1000 then (bif !roundS x2 then some (.done (.tup [(.int .i64 (2)), (.int .i64 (x79)), (.int .i64 (9))])) else (bif okSB x31 then (bif plO (AO.map (setSB x0 true x31)) then some (.stop (chkI1 c (wr IntKind.i64 (x79 + 1)) (setSB x0 true x31) (x123))) else none) else none)) else none)) else none) else none) else none) else none) else none) else none) else none) else none) else none) else none) else none) else none) else none) else none) else none) else none) else none) else none) else none) else none))) else none) else none))) else none) else none))) else none) else none)))) := by kernel_rfl

/-! ### Check, of the program -/
noncomputable def tup3 (r : Int × Int × Int) : AV := .tup [.int .i64 r.1, .int .i64 r.2.1, .int .i64 r.2.2]
theorem done3 {E : Env} {S : Sy} (hS : S.ok E) (hsy : E.sy = true) {n : Nat} {c : Cfg} {a b d : Int} {r : Int × Int × Int} (h : adv E S n c = some (.done (.tup [.int .i64 a, .int .i64 b, .int .i64 d]))) (e : (a, b, d) = r) : Ans E c (tup3 r) :=
  e ▸ Ans.done hS hsy h rfl

noncomputable def inF (p : tP.den) : Bool := ile (-30000) p.1 && ile p.1 30000 && ile (-30000) p.2.1 && ile p.2.1 30000
noncomputable def markE (mem : List Nat → Bool) (m : tMark.den) : Int := bif nameS m.1 then (bif mem m.1 then 5 else (bif inF m.2.1 then paintsE m.2.2.1.2 else 7)) else 6
noncomputable def addM (mem : List Nat → Bool) (s : List Nat) : List Nat → Bool := fun t => lbeq t s || mem t
noncomputable def marksS (k : (List Nat → Bool) → Int × Int × Int) : (List Nat → Bool) → Nat → List tMark.den → Int × Int × Int
  | mem, _, [] => k mem
  | mem, i, m :: l => bif ieq (markE mem m) 0 then marksS k (addM mem m.1) (i + 1) l else (1, (i : Int), markE mem m)
noncomputable def sandN (mem : List Nat → Bool) (s : tSand.den) : Int := bif nameS s.1 then (bif mem s.1 then 5 else sandE s) else 6
noncomputable def sandsS : (List Nat → Bool) → Nat → List tSand.den → Int × Int × Int
  | _, _, [] => (0, 0, 0)
  | mem, i, s :: l => bif ieq (sandN mem s) 0 then sandsS (addM mem s.1) (i + 1) l else (2, (i : Int), sandN mem s)
noncomputable def sandsK (c : tChart.den) (mem : List Nat → Bool) : Int × Int × Int := bif ile (c.2.1.2.length : Int) 4 then sandsS mem 0 c.2.1.2 else (2, 0, 3)
noncomputable def chkS (c : tChart.den) : Int × Int × Int := bif ile (c.1.2.length : Int) 8 then marksS (sandsK c) (fun _ => false) 0 c.1.2 else (1, 0, 3)

theorem setSB_ok {s : List Nat} {b : Bool} : ∀ {es : List (AV × AV)}, okSB es = true → okSB (setSB s b es) = true
  | [], _ => rfl
  | (k, v) :: es, h => by
    cases k <;> cases v <;> first | (cases h; done) | skip
    simp only [okSB] at h
    simp only [setSB]
    split
    · exact h
    · exact setSB_ok h
theorem lbeq_comm (a b : List Nat) : lbeq a b = lbeq b a := by
  rw [lbeq_iff, lbeq_iff]
  by_cases h : a = b
  · subst h; rfl
  · rw [decide_eq_false h, decide_eq_false (fun e => h e.symm)]
theorem getSB_set {s t : List Nat} : ∀ {es : List (AV × AV)}, okSB es = true → getSB t (setSB s true es) = (lbeq t s || getSB t es)
  | [], _ => by simp only [setSB, getSB]; cases lbeq t s <;> rfl
  | (k, v) :: es, h => by
    cases k <;> cases v <;> first | (cases h; done) | skip
    rename_i u w
    simp only [okSB] at h
    simp only [setSB, getSB]
    cases e : lbeq s u with
    | true =>
      have : s = u := by rw [lbeq_iff] at e; simpa using e
      subst this
      simp only [getSB]
      cases lbeq t s <;> rfl
    | false =>
      simp only [getSB]
      cases e2 : lbeq t u with
      | true =>
        have : t = u := by rw [lbeq_iff] at e2; simpa using e2
        subst this
        rw [lbeq_comm t s, e]; rfl
      | false => exact getSB_set h
theorem fitB {a b : Int} (h1 : ile (-500) a = true) (h2 : ile a 500 = true) : ieq b (bif ile (bif ile b a then a else b) (wr IntKind.i64 (a + 40)) then (bif ile b a then a else b) else wr IntKind.i64 (a + 40)) = (ile a b && ile (b - a) 40) := by
  rw [ile_iff] at h1 h2
  simp only [decide_eq_true_eq] at h1 h2
  rw [wr_in (by omega) (by omega)]
  simp only [ile_iff, ieq_iff]
  by_cases c1 : b ≤ a
  · simp only [c1, decide_true, cond_true, show a ≤ a + 40 by omega]
    by_cases c2 : b = a
    · subst c2; simp
    · have : ¬ a ≤ b := by omega
      simp [c2, this]
  · have c1' : a ≤ b := by omega
    simp only [c1, decide_false, cond_false, c1', decide_true, Bool.true_and]
    by_cases c2 : b ≤ a + 40
    · have : b - a ≤ 40 := by omega
      simp [c2, this]
    · have : ¬ b - a ≤ 40 := by omega
      have c3 : ¬ b = a + 40 := by omega
      simp [c2, this, c3]
theorem wm30000 : wr IntKind.i64 (0 - 30000) = -30000 := rfl
theorem corners_ans (c : tChart.den) (nm : List Nat) (b0 : Bool) (l : List tP.den) (x3 x4 x5 x6 : Int) (x10 x11 x14 : Bool) (es : List (AV × AV)) (n0 : Int) (i M : Nat) (hl3 : 3 ≤ l.length) (hl : l.length ≤ 8) (hes : okSB es = true) (hi : i < 1048576) (O : Int × Int × Int) (ho : Ans E1 (chkI1 c ((i + 1 : Nat) : Int) (setSB nm true es) M) (tup3 O)) :
    ∀ (r j m : Nat), j + r = l.length → r < m → Ans E1 (chkI3 c nm b0 l x3 x4 x5 x6 x10 x11 x14 (l.length : Int) j es [AV.int IntKind.i64 n0] m i (M + 1)) (tup3 (bif (l.drop j).all inP then (bif ieq (sandT l x3 x4 x5 x6) 0 then O else (2, (i : Int), sandT l x3 x4 x5 x6)) else (2, (i : Int), 7)))
  | 0, j, m + 1, hk, hm => by
    have h := chk_step3 c nm b0 l x3 x4 x5 x6 x10 x11 x14 (l.length : Int) j es [AV.int IntKind.i64 n0] m i M
    have p1 : plO (AO.cells true [AV.int IntKind.i64 n0]) = true := rfl
    have p2 : plO (AO.map es) = true := hes
    have p3 : plO (AO.map (setSB nm true es)) = true := setSB_ok hes
    have hb : (Nat.ble 3 l.length && l.length.ble 1000) = true := by rw [Nat.ble_eq_true_of_le hl3, Nat.ble_eq_true_of_le (by omega)]; rfl
    rw [List.drop_eq_nil_of_le (by omega)]
    simp only [ile_ge (show l.length ≤ j by omega), Bool.not_true, cond_false, List.all_nil, cond_true, wm500, p1, p2, p3, hes, hb, ieq_self, wr_succ (show i < 1048577 by omega), Bool.true_and, Bool.and_true] at h ⊢
    unfold sandT inB4 fit4
    cases c1 : ile (-500) x3 <;> cases c2 : ile x3 500 <;> cases c3 : ile (-500) x4 <;> cases c4 : ile x4 500 <;>
      try (simp only [c1, c2, c3, c4, cond_true, cond_false, Bool.not_true, Bool.not_false, Bool.and_true, Bool.and_false, Bool.false_and, Bool.true_and, Bool.and_self] at h ⊢; exact done3 (S1_ok _) E1sy h rfl)
    cases c5 : ile (-500) x5 <;> cases c6 : ile x5 500 <;> cases c7 : ile (-500) x6 <;> cases c8 : ile x6 500 <;>
      try (simp only [c1, c2, c3, c4, c5, c6, c7, c8, cond_true, cond_false, Bool.not_true, Bool.not_false, Bool.and_true, Bool.and_false, Bool.false_and, Bool.true_and, Bool.and_self] at h ⊢; exact done3 (S1_ok _) E1sy h rfl)
    rw [fitB c1 c2, fitB c5 c6] at h
    cases cx : ile x3 x4 <;> cases cy : ile x5 x6 <;> cases c9 : ile (x4 - x3) 40 <;> cases c10 : ile (x6 - x5) 40 <;> cases c11 : roundS l <;>
      (simp only [c1, c2, c3, c4, c5, c6, c7, c8, cx, cy, c9, c10, c11, cond_true, cond_false, Bool.not_true, Bool.not_false, Bool.and_true, Bool.and_false, Bool.false_and, Bool.true_and, Bool.and_self] at h ⊢; first | exact done3 (S1_ok _) E1sy h rfl | exact .stopE (S1_ok _) E1sy h ho rfl)
  | r + 1, j, m + 1, hk, hm => by
    have h := chk_step3 c nm b0 l x3 x4 x5 x6 x10 x11 x14 (l.length : Int) j es [AV.int IntKind.i64 n0] m i M
    have p1 : plO (AO.cells true [AV.int IntKind.i64 n0]) = true := rfl
    have p2 : plO (AO.map es) = true := hes
    have hlt : j < l.length := by omega
    simp only [ile_lt hlt, inB_at hlt, getD_at hlt, wr_succ (show j < 1048577 by omega), p1, p2, Bool.not_false, cond_true] at h
    rw [List.drop_eq_getElem_cons hlt, List.all_cons, inP]
    have ih := corners_ans c nm b0 l x3 x4 x5 x6 x10 x11 x14 es n0 i M hl3 hl hes hi O ho r (j + 1) m (by omega) (by omega)
    cases c1 : ile (-10000) (l[j]).1 <;> cases c2 : ile (l[j]).1 10000 <;> cases c3 : ile (-10000) (l[j]).2.1 <;> cases c4 : ile (l[j]).2.1 10000 <;>
      simp only [c1, c2, c3, c4, cond_true, cond_false, Bool.not_true, Bool.not_false, Bool.and_true, Bool.and_false, Bool.false_and, Bool.true_and, Bool.and_self] at h ⊢ <;>
      first
        | exact done3 (S1_ok _) E1sy h rfl
        | exact .stop (S1_ok _) E1sy h ih
theorem sands_ans (c : tChart.den) (h4 : c.2.1.2.length ≤ 4) : ∀ (r i m : Nat) (es : List (AV × AV)) (mem : List Nat → Bool), i + r = c.2.1.2.length → r < m → okSB es = true → (∀ t, getSB t es = mem t) → Ans E1 (chkI1 c i es m) (tup3 (sandsS mem i (c.2.1.2.drop i)))
  | 0, i, m + 1, es, mem, hk, hm, hes, hM => by
    have h := chk_step1 c i es m
    simp only [Int.ofNat_eq_natCast, ile_ge (show c.2.1.2.length ≤ i by omega), Bool.not_true, cond_false] at h
    rw [List.drop_eq_nil_of_le (by omega)]
    exact done3 (S1_ok _) E1sy h rfl
  | r + 1, i, m + 1, es, mem, hk, hm, hes, hM => by
    have h := chk_step1 c i es m
    have hlt : i < c.2.1.2.length := by omega
    have p2 : plO (AO.map es) = true := hes
    simp only [Int.ofNat_eq_natCast, ile_lt hlt, inB_at hlt, getD_at hlt, hes, p2, Bool.not_false, cond_true] at h
    rw [List.drop_eq_getElem_cons hlt, sandsS, sandN]
    rw [hM] at h
    cases c1 : nameS (c.2.1.2[i]).1 with
    | false =>
      simp only [c1, Bool.not_false, cond_true, cond_false, show ieq 6 0 = false from rfl] at h ⊢
      exact done3 (S1_ok _) E1sy h rfl
    | true =>
      cases c2 : mem (c.2.1.2[i]).1 with
      | true =>
        simp only [c1, c2, Bool.not_true, cond_true, cond_false, show ieq 5 0 = false from rfl] at h ⊢
        exact done3 (S1_ok _) E1sy h rfl
      | false =>
        rw [sandE]
        cases c3 : ile 3 ((c.2.1.2[i]).2.1.2.length : Int) with
        | false =>
          simp only [c1, c2, c3, Bool.not_true, Bool.not_false, cond_true, cond_false, Bool.false_and, show ieq 3 0 = false from rfl] at h ⊢
          exact done3 (S1_ok _) E1sy h rfl
        | true =>
          cases c4 : ile ((c.2.1.2[i]).2.1.2.length : Int) 8 with
          | false =>
            simp only [c1, c2, c3, c4, Bool.not_true, Bool.not_false, cond_true, cond_false, Bool.and_false, show ieq 3 0 = false from rfl] at h ⊢
            exact done3 (S1_ok _) E1sy h rfl
          | true =>
            simp only [c1, c2, c3, c4, Bool.not_true, Bool.not_false, cond_true, cond_false, Bool.and_self] at h ⊢
            have hl3 : 3 ≤ (c.2.1.2[i]).2.1.2.length := by rw [ile_iff] at c3; simp at c3; omega
            have hl8 : (c.2.1.2[i]).2.1.2.length ≤ 8 := by rw [ile_iff] at c4; simp at c4; omega
            have ih := sands_ans c h4 r (i + 1) m (setSB (c.2.1.2[i]).1 true es) (addM mem (c.2.1.2[i]).1) (by omega) (by omega) (setSB_ok hes) (fun t => by rw [getSB_set hes, hM]; rfl)
            refine .stopE (S1_ok _) E1sy h (corners_ans c _ _ _ _ _ _ _ _ _ _ es _ i m hl3 hl8 hes (by omega) _ ih (c.2.1.2[i]).2.1.2.length 0 1048575 (by omega) (by omega)) ?_
            rw [List.drop_zero]
            cases c5 : (c.2.1.2[i]).2.1.2.all inP <;> simp only [cond_true, cond_false, show ieq 7 0 = false from rfl]
theorem marks_ans (c : tChart.den) (h8 : c.1.2.length ≤ 8) : ∀ (r i m : Nat) (es : List (AV × AV)) (mem : List Nat → Bool), i + r = c.1.2.length → r < m → okSB es = true → (∀ t, getSB t es = mem t) → Ans E1 (chkI0 c i es m) (tup3 (marksS (sandsK c) mem i (c.1.2.drop i)))
  | 0, i, m + 1, es, mem, hk, hm, hes, hM => by
    have h := chk_step0 c i es m
    simp only [Int.ofNat_eq_natCast, ile_ge (show c.1.2.length ≤ i by omega), Bool.not_true, cond_false] at h
    rw [List.drop_eq_nil_of_le (by omega), marksS, sandsK]
    cases c1 : ile (c.2.1.2.length : Int) 4 with
    | false =>
      simp only [c1, Bool.not_false, cond_true, cond_false] at h ⊢
      exact done3 (S1_ok _) E1sy h rfl
    | true =>
      simp only [c1, Bool.not_true, cond_true, cond_false] at h ⊢
      have h4 : c.2.1.2.length ≤ 4 := by rw [ile_iff] at c1; simp at c1; omega
      exact .stopE (S1_ok _) E1sy h (sands_ans c h4 c.2.1.2.length 0 1048575 es mem (by omega) (by omega) hes hM) (by simp)
  | r + 1, i, m + 1, es, mem, hk, hm, hes, hM => by
    have h := chk_step0 c i es m
    have hlt : i < c.1.2.length := by omega
    have p2 : plO (AO.map es) = true := hes
    have p3 : ∀ s, plO (AO.map (setSB s true es)) = true := fun s => setSB_ok hes
    simp only [Int.ofNat_eq_natCast, ile_lt hlt, inB_at hlt, getD_at hlt, hes, p2, p3, wr_succ (show i < 1048577 by omega), Bool.not_false, cond_true] at h
    rw [List.drop_eq_getElem_cons hlt, marksS, markE, inF]
    rw [hM] at h
    have ih := marks_ans c h8 r (i + 1) m (setSB (c.1.2[i]).1 true es) (addM mem (c.1.2[i]).1) (by omega) (by omega) (setSB_ok hes) (fun t => by rw [getSB_set hes, hM]; rfl)
    cases c1 : nameS (c.1.2[i]).1 with
    | false =>
      simp only [c1, Bool.not_false, cond_true, cond_false, show ieq 6 0 = false from rfl] at h ⊢
      exact done3 (S1_ok _) E1sy h rfl
    | true =>
      cases c2 : mem (c.1.2[i]).1 with
      | true =>
        simp only [c1, c2, Bool.not_true, cond_true, cond_false, show ieq 5 0 = false from rfl] at h ⊢
        exact done3 (S1_ok _) E1sy h rfl
      | false =>
        cases d1 : ile (-30000) (c.1.2[i]).2.1.1 <;> cases d2 : ile (c.1.2[i]).2.1.1 30000 <;> cases d3 : ile (-30000) (c.1.2[i]).2.1.2.1 <;> cases d4 : ile (c.1.2[i]).2.1.2.1 30000 <;>
          try (simp only [c1, c2, d1, d2, d3, d4, cond_true, cond_false, Bool.not_true, Bool.not_false, Bool.and_true, Bool.and_false, Bool.false_and, Bool.true_and, Bool.and_self, show ieq 7 0 = false from rfl] at h ⊢; exact done3 (S1_ok _) E1sy h rfl)
        rw [paintsE]
        cases e1 : ile 1 ((c.1.2[i]).2.2.1.2.length : Int) <;> cases e2 : ile ((c.1.2[i]).2.2.1.2.length : Int) 4 <;>
          try (simp only [c1, c2, d1, d2, d3, d4, e1, e2, cond_true, cond_false, Bool.not_true, Bool.not_false, Bool.and_true, Bool.and_false, Bool.false_and, Bool.true_and, Bool.and_self, show ieq 3 0 = false from rfl] at h ⊢; exact done3 (S1_ok _) E1sy h rfl)
        have hb : ((c.1.2[i]).2.2.1.2.length).ble 1000 = true := Nat.ble_eq_true_of_le (by rw [ile_iff] at e2; simp at e2; omega)
        cases e3 : ieq (paintsF (-1) (c.1.2[i]).2.2.1.2) 0 with
        | false =>
          simp only [c1, c2, d1, d2, d3, d4, e1, e2, e3, hb, cond_true, cond_false, Bool.not_true, Bool.not_false, Bool.and_self] at h ⊢
          exact done3 (S1_ok _) E1sy h rfl
        | true =>
          simp only [c1, c2, d1, d2, d3, d4, e1, e2, e3, hb, cond_true, cond_false, Bool.not_true, Bool.not_false, Bool.and_self] at h ⊢
          exact .stop (S1_ok _) E1sy h ih
theorem chk_call (c : tChart.den) : AnsF E1 68 [tChart.av c] (tup3 (chkS c)) := by
  refine Ans.call (n := 6) (E1ext _ _ (by kernel_rfl)) (hasB_spec (by kernel_rfl)) ?_
  have h := chk_start c
  unfold chkS
  cases c1 : ile (c.1.2.length : Int) 8 with
  | false =>
    simp only [c1, Bool.not_false, cond_true, cond_false] at h ⊢
    exact done3 (S1_ok _) E1sy h rfl
  | true =>
    simp only [c1, Bool.not_true, cond_true, cond_false] at h ⊢
    have h8 : c.1.2.length ≤ 8 := by rw [ile_iff] at c1; simp at c1; omega
    exact .stopE (S1_ok _) E1sy h (marks_ans c h8 c.1.2.length 0 1048575 [] (fun _ => false) (by omega) (by omega) rfl (fun _ => rfl)) (by simp)
end Go.Proofs.YtgcgffnamfbcgaaGreatDoor

/-
  LOOPS, told by their heads.
-/
set_option maxRecDepth 100000
namespace Go.Proofs.YtgcgffnamfbcgaaGreatDoor
open Go Go.Eng
noncomputable def rchkI0 (c : tChart.den) (x28 : Nat) : Cfg := ⟨.ex (pcOf E2 54 [0, 0, 1, 0, 1, 1, 1]) ⟨(tmOf 93 [(0, (.agg [(.vs tMark (c.fst.fst) (c.fst.snd)), (.vs tSand (c.snd.fst.fst) (c.snd.fst.snd))])), (1, (.ptr 0 0)), (2, (.int .i64 (0))), (3, (.int .i64 (0))), (4, (.int .i64 (0))), (5, .nils), (6, (.int .i64 (0))), (11, (.ptr 0 0)), (12, (.vs tMark (c.fst.fst) (c.fst.snd))), (13, (.int .i64 (Int.ofNat c.fst.snd.length))), (14, (.bool (false)))]), (hpOf 1 [(0, (.cells false [(.vs tMark (c.fst.fst) (c.fst.snd)), (.vs tSand (c.snd.fst.fst) (c.snd.fst.snd))]))]), [], [], 93, false⟩, ⟨6, []⟩, [(.lop (pcOf E2 54 [0, 0, 1, 0, 1, 1, 1]) 1 (tmOf 93 [(0, (.agg [(.vs tMark (c.fst.fst) (c.fst.snd)), (.vs tSand (c.snd.fst.fst) (c.snd.fst.snd))])), (1, (.ptr 0 0)), (2, (.int .i64 (0))), (3, (.int .i64 (0))), (4, (.int .i64 (0))), (5, .nils), (6, (.int .i64 (0))), (11, (.ptr 0 0)), (12, (.vs tMark (c.fst.fst) (c.fst.snd))), (13, (.int .i64 (Int.ofNat c.fst.snd.length))), (14, (.bool (false)))]) x28), (.blk 0), (.seq (pcOf E2 54 [1, 1, 1, 1])), (.cal [(.tmp 2), (.tmp 3), (.tmp 4)] .top)]⟩
noncomputable def rchkI1 (c : tChart.den) (x48 : Nat) : Cfg := ⟨.ex (pcOf E2 54 [0, 0, 1, 0, 1, 1, 1, 1, 1]) ⟨(tmOf 93 [(0, (.agg [(.vs tMark (c.fst.fst) (c.fst.snd)), (.vs tSand (c.snd.fst.fst) (c.snd.fst.snd))])), (1, (.ptr 0 0)), (2, (.int .i64 (0))), (3, (.int .i64 (0))), (4, (.int .i64 (0))), (5, .nils), (6, (.int .i64 (0))), (9, (.int .i64 (0))), (11, (.ptr 0 0)), (12, (.vs tMark (c.fst.fst) (c.fst.snd))), (13, (.int .i64 (Int.ofNat c.fst.snd.length))), (14, (.bool (false))), (15, (.int .i64 (0))), (16, (.ptr 0 0)), (17, (.vs tMark (c.fst.fst) (c.fst.snd))), (18, (.int .i64 (Int.ofNat c.fst.snd.length))), (19, (.bool (false))), (53, (.ptr 0 1)), (54, (.vs tSand (c.snd.fst.fst) (c.snd.fst.snd))), (55, (.int .i64 (Int.ofNat c.snd.fst.snd.length))), (56, (.bool (false)))]), (hpOf 1 [(0, (.cells false [(.vs tMark (c.fst.fst) (c.fst.snd)), (.vs tSand (c.snd.fst.fst) (c.snd.fst.snd))]))]), [], [], 93, false⟩, ⟨6, []⟩, [(.lop (pcOf E2 54 [0, 0, 1, 0, 1, 1, 1, 1, 1]) 1 (tmOf 93 [(0, (.agg [(.vs tMark (c.fst.fst) (c.fst.snd)), (.vs tSand (c.snd.fst.fst) (c.snd.fst.snd))])), (1, (.ptr 0 0)), (2, (.int .i64 (0))), (3, (.int .i64 (0))), (4, (.int .i64 (0))), (5, .nils), (6, (.int .i64 (0))), (9, (.int .i64 (0))), (11, (.ptr 0 0)), (12, (.vs tMark (c.fst.fst) (c.fst.snd))), (13, (.int .i64 (Int.ofNat c.fst.snd.length))), (14, (.bool (false))), (15, (.int .i64 (0))), (16, (.ptr 0 0)), (17, (.vs tMark (c.fst.fst) (c.fst.snd))), (18, (.int .i64 (Int.ofNat c.fst.snd.length))), (19, (.bool (false))), (53, (.ptr 0 1)), (54, (.vs tSand (c.snd.fst.fst) (c.snd.fst.snd))), (55, (.int .i64 (Int.ofNat c.snd.fst.snd.length))), (56, (.bool (false)))]) x48), (.blk 2), (.seq (pcOf E2 54 [1, 1, 1, 1, 1, 1])), (.cal [(.tmp 2), (.tmp 3), (.tmp 4)] .top)]⟩
noncomputable def rchkI2 (c : tChart.den) (x31 : Nat) : Cfg := ⟨.ex (pcOf E2 54 [0, 0, 1, 0, 1, 1, 1]) ⟨(tmOf 93 [(0, (.agg [(.vs tMark (c.fst.fst) (c.fst.snd)), (.vs tSand (c.snd.fst.fst) (c.snd.fst.snd))])), (1, (.ptr 0 0)), (2, (.int .i64 (0))), (3, (.int .i64 (0))), (4, (.int .i64 (0))), (5, (.sl 1 0 (1) (1) 1)), (6, (.int .i64 (1))), (11, (.ptr 0 0)), (12, (.vs tMark (c.fst.fst) (c.fst.snd))), (13, (.int .i64 (Int.ofNat c.fst.snd.length))), (14, (.bool (false)))]), (hpOf 2 [(0, (.cells false [(.vs tMark (c.fst.fst) (c.fst.snd)), (.vs tSand (c.snd.fst.fst) (c.snd.fst.snd))])), (1, (.cells false ([AV.str (c.fst.snd.getD (Int.toNat 0) tMark.dflt).fst])))]), [], [], 93, false⟩, ⟨6, []⟩, [(.lop (pcOf E2 54 [0, 0, 1, 0, 1, 1, 1]) 1 (tmOf 93 [(0, (.agg [(.vs tMark (c.fst.fst) (c.fst.snd)), (.vs tSand (c.snd.fst.fst) (c.snd.fst.snd))])), (1, (.ptr 0 0)), (2, (.int .i64 (0))), (3, (.int .i64 (0))), (4, (.int .i64 (0))), (5, .nils), (6, (.int .i64 (0))), (11, (.ptr 0 0)), (12, (.vs tMark (c.fst.fst) (c.fst.snd))), (13, (.int .i64 (Int.ofNat c.fst.snd.length))), (14, (.bool (false)))]) x31), (.blk 0), (.seq (pcOf E2 54 [1, 1, 1, 1])), (.cal [(.tmp 2), (.tmp 3), (.tmp 4)] .top)]⟩
noncomputable def rchkI3 (c : tChart.den) (x51 : Nat) : Cfg := ⟨.ex (pcOf E2 54 [0, 0, 1, 0, 1, 1, 1, 1, 1]) ⟨(tmOf 93 [(0, (.agg [(.vs tMark (c.fst.fst) (c.fst.snd)), (.vs tSand (c.snd.fst.fst) (c.snd.fst.snd))])), (1, (.ptr 0 0)), (2, (.int .i64 (0))), (3, (.int .i64 (0))), (4, (.int .i64 (0))), (5, (.sl 1 0 (1) (1) 1)), (6, (.int .i64 (0))), (9, (.int .i64 (1))), (11, (.ptr 0 0)), (12, (.vs tMark (c.fst.fst) (c.fst.snd))), (13, (.int .i64 (Int.ofNat c.fst.snd.length))), (14, (.bool (false))), (15, (.int .i64 (0))), (16, (.ptr 0 0)), (17, (.vs tMark (c.fst.fst) (c.fst.snd))), (18, (.int .i64 (Int.ofNat c.fst.snd.length))), (19, (.bool (false))), (53, (.ptr 0 1)), (54, (.vs tSand (c.snd.fst.fst) (c.snd.fst.snd))), (55, (.int .i64 (Int.ofNat c.snd.fst.snd.length))), (56, (.bool (false)))]), (hpOf 2 [(0, (.cells false [(.vs tMark (c.fst.fst) (c.fst.snd)), (.vs tSand (c.snd.fst.fst) (c.snd.fst.snd))])), (1, (.cells false ([AV.str (c.snd.fst.snd.getD (Int.toNat 0) tSand.dflt).fst])))]), [], [], 93, false⟩, ⟨6, []⟩, [(.lop (pcOf E2 54 [0, 0, 1, 0, 1, 1, 1, 1, 1]) 1 (tmOf 93 [(0, (.agg [(.vs tMark (c.fst.fst) (c.fst.snd)), (.vs tSand (c.snd.fst.fst) (c.snd.fst.snd))])), (1, (.ptr 0 0)), (2, (.int .i64 (0))), (3, (.int .i64 (0))), (4, (.int .i64 (0))), (5, .nils), (6, (.int .i64 (0))), (9, (.int .i64 (0))), (11, (.ptr 0 0)), (12, (.vs tMark (c.fst.fst) (c.fst.snd))), (13, (.int .i64 (Int.ofNat c.fst.snd.length))), (14, (.bool (false))), (15, (.int .i64 (0))), (16, (.ptr 0 0)), (17, (.vs tMark (c.fst.fst) (c.fst.snd))), (18, (.int .i64 (Int.ofNat c.fst.snd.length))), (19, (.bool (false))), (53, (.ptr 0 1)), (54, (.vs tSand (c.snd.fst.fst) (c.snd.fst.snd))), (55, (.int .i64 (Int.ofNat c.snd.fst.snd.length))), (56, (.bool (false)))]) x51), (.blk 2), (.seq (pcOf E2 54 [1, 1, 1, 1, 1, 1])), (.cal [(.tmp 2), (.tmp 3), (.tmp 4)] .top)]⟩
noncomputable def rchkI4 (c : tChart.den) (x53 : Nat) : Cfg := ⟨.ex (pcOf E2 54 [0, 0, 1, 0, 1, 1, 1, 1, 1]) ⟨(tmOf 93 [(0, (.agg [(.vs tMark (c.fst.fst) (c.fst.snd)), (.vs tSand (c.snd.fst.fst) (c.snd.fst.snd))])), (1, (.ptr 0 0)), (2, (.int .i64 (0))), (3, (.int .i64 (0))), (4, (.int .i64 (0))), (5, (.sl 1 0 (1) (1) 1)), (6, (.int .i64 (1))), (9, (.int .i64 (0))), (11, (.ptr 0 0)), (12, (.vs tMark (c.fst.fst) (c.fst.snd))), (13, (.int .i64 (Int.ofNat c.fst.snd.length))), (14, (.bool (false))), (15, (.int .i64 (1))), (16, (.ptr 0 0)), (17, (.vs tMark (c.fst.fst) (c.fst.snd))), (18, (.int .i64 (Int.ofNat c.fst.snd.length))), (19, (.bool (false))), (53, (.ptr 0 1)), (54, (.vs tSand (c.snd.fst.fst) (c.snd.fst.snd))), (55, (.int .i64 (Int.ofNat c.snd.fst.snd.length))), (56, (.bool (false)))]), (hpOf 2 [(0, (.cells false [(.vs tMark (c.fst.fst) (c.fst.snd)), (.vs tSand (c.snd.fst.fst) (c.snd.fst.snd))])), (1, (.cells false ([AV.str (c.fst.snd.getD (Int.toNat 0) tMark.dflt).fst])))]), [], [], 93, false⟩, ⟨6, []⟩, [(.lop (pcOf E2 54 [0, 0, 1, 0, 1, 1, 1, 1, 1]) 2 (tmOf 93 [(0, (.agg [(.vs tMark (c.fst.fst) (c.fst.snd)), (.vs tSand (c.snd.fst.fst) (c.snd.fst.snd))])), (1, (.ptr 0 0)), (2, (.int .i64 (0))), (3, (.int .i64 (0))), (4, (.int .i64 (0))), (5, (.sl 1 0 (1) (1) 1)), (6, (.int .i64 (1))), (9, (.int .i64 (0))), (11, (.ptr 0 0)), (12, (.vs tMark (c.fst.fst) (c.fst.snd))), (13, (.int .i64 (Int.ofNat c.fst.snd.length))), (14, (.bool (false))), (15, (.int .i64 (1))), (16, (.ptr 0 0)), (17, (.vs tMark (c.fst.fst) (c.fst.snd))), (18, (.int .i64 (Int.ofNat c.fst.snd.length))), (19, (.bool (false))), (53, (.ptr 0 1)), (54, (.vs tSand (c.snd.fst.fst) (c.snd.fst.snd))), (55, (.int .i64 (Int.ofNat c.snd.fst.snd.length))), (56, (.bool (false)))]) x53), (.blk 2), (.seq (pcOf E2 54 [1, 1, 1, 1, 1, 1])), (.cal [(.tmp 2), (.tmp 3), (.tmp 4)] .top)]⟩
noncomputable def rchkI5 (c : tChart.den) (x7 : Nat) (x9 : Int) (x18 : List AV) (x31 : Nat) : Cfg := ⟨.ex (pcOf E2 54 [0, 0, 1, 0, 1, 1, 1]) ⟨(tmOf 93 [(0, (.agg [(.vs tMark (c.fst.fst) (c.fst.snd)), (.vs tSand (c.snd.fst.fst) (c.snd.fst.snd))])), (1, (.ptr 0 0)), (2, (.int .i64 (0))), (3, (.int .i64 (0))), (4, (.int .i64 (0))), (5, (.sl 1 0 x7 x7 1)), (6, (.int .i64 x9)), (11, (.ptr 0 0)), (12, (.vs tMark (c.fst.fst) (c.fst.snd))), (13, (.int .i64 (Int.ofNat c.fst.snd.length))), (14, (.bool (false)))]), (hpOf 2 [(0, (.cells false [(.vs tMark (c.fst.fst) (c.fst.snd)), (.vs tSand (c.snd.fst.fst) (c.snd.fst.snd))])), (1, (.cells true x18))]), [], [], 93, false⟩, ⟨6, []⟩, [(.lop (pcOf E2 54 [0, 0, 1, 0, 1, 1, 1]) 1 (tmOf 93 [(0, (.agg [(.vs tMark (c.fst.fst) (c.fst.snd)), (.vs tSand (c.snd.fst.fst) (c.snd.fst.snd))])), (1, (.ptr 0 0)), (2, (.int .i64 (0))), (3, (.int .i64 (0))), (4, (.int .i64 (0))), (5, .nils), (6, (.int .i64 (0))), (11, (.ptr 0 0)), (12, (.vs tMark (c.fst.fst) (c.fst.snd))), (13, (.int .i64 (Int.ofNat c.fst.snd.length))), (14, (.bool (false)))]) x31), (.blk 0), (.seq (pcOf E2 54 [1, 1, 1, 1])), (.cal [(.tmp 2), (.tmp 3), (.tmp 4)] .top)]⟩
noncomputable def rchkI6 (c : tChart.den) (x7 : Nat) (x10 : Int) (x28 : List AV) (x51 : Nat) : Cfg := ⟨.ex (pcOf E2 54 [0, 0, 1, 0, 1, 1, 1, 1, 1]) ⟨(tmOf 93 [(0, (.agg [(.vs tMark (c.fst.fst) (c.fst.snd)), (.vs tSand (c.snd.fst.fst) (c.snd.fst.snd))])), (1, (.ptr 0 0)), (2, (.int .i64 (0))), (3, (.int .i64 (0))), (4, (.int .i64 (0))), (5, (.sl 1 0 x7 x7 1)), (6, (.int .i64 (0))), (9, (.int .i64 x10)), (11, (.ptr 0 0)), (12, (.vs tMark (c.fst.fst) (c.fst.snd))), (13, (.int .i64 (Int.ofNat c.fst.snd.length))), (14, (.bool (false))), (15, (.int .i64 (0))), (16, (.ptr 0 0)), (17, (.vs tMark (c.fst.fst) (c.fst.snd))), (18, (.int .i64 (Int.ofNat c.fst.snd.length))), (19, (.bool (false))), (53, (.ptr 0 1)), (54, (.vs tSand (c.snd.fst.fst) (c.snd.fst.snd))), (55, (.int .i64 (Int.ofNat c.snd.fst.snd.length))), (56, (.bool (false)))]), (hpOf 2 [(0, (.cells false [(.vs tMark (c.fst.fst) (c.fst.snd)), (.vs tSand (c.snd.fst.fst) (c.snd.fst.snd))])), (1, (.cells true x28))]), [], [], 93, false⟩, ⟨6, []⟩, [(.lop (pcOf E2 54 [0, 0, 1, 0, 1, 1, 1, 1, 1]) 1 (tmOf 93 [(0, (.agg [(.vs tMark (c.fst.fst) (c.fst.snd)), (.vs tSand (c.snd.fst.fst) (c.snd.fst.snd))])), (1, (.ptr 0 0)), (2, (.int .i64 (0))), (3, (.int .i64 (0))), (4, (.int .i64 (0))), (5, .nils), (6, (.int .i64 (0))), (9, (.int .i64 (0))), (11, (.ptr 0 0)), (12, (.vs tMark (c.fst.fst) (c.fst.snd))), (13, (.int .i64 (Int.ofNat c.fst.snd.length))), (14, (.bool (false))), (15, (.int .i64 (0))), (16, (.ptr 0 0)), (17, (.vs tMark (c.fst.fst) (c.fst.snd))), (18, (.int .i64 (Int.ofNat c.fst.snd.length))), (19, (.bool (false))), (53, (.ptr 0 1)), (54, (.vs tSand (c.snd.fst.fst) (c.snd.fst.snd))), (55, (.int .i64 (Int.ofNat c.snd.fst.snd.length))), (56, (.bool (false)))]) x51), (.blk 2), (.seq (pcOf E2 54 [1, 1, 1, 1, 1, 1])), (.cal [(.tmp 2), (.tmp 3), (.tmp 4)] .top)]⟩
noncomputable def rchkI7 (c : tChart.den) (x7 : Nat) (x9 : Int) (x10 : Int) (x28 : List AV) (x36 : Nat) (x53 : Nat) : Cfg := ⟨.ex (pcOf E2 54 [0, 0, 1, 0, 1, 1, 1, 1, 1]) ⟨(tmOf 93 [(0, (.agg [(.vs tMark (c.fst.fst) (c.fst.snd)), (.vs tSand (c.snd.fst.fst) (c.snd.fst.snd))])), (1, (.ptr 0 0)), (2, (.int .i64 (0))), (3, (.int .i64 (0))), (4, (.int .i64 (0))), (5, (.sl 2 0 x7 x7 1)), (6, (.int .i64 x9)), (9, (.int .i64 x10)), (11, (.ptr 0 0)), (12, (.vs tMark (c.fst.fst) (c.fst.snd))), (13, (.int .i64 (Int.ofNat c.fst.snd.length))), (14, (.bool (false))), (15, (.int .i64 x9)), (16, (.ptr 0 0)), (17, (.vs tMark (c.fst.fst) (c.fst.snd))), (18, (.int .i64 (Int.ofNat c.fst.snd.length))), (19, (.bool (false))), (53, (.ptr 0 1)), (54, (.vs tSand (c.snd.fst.fst) (c.snd.fst.snd))), (55, (.int .i64 (Int.ofNat c.snd.fst.snd.length))), (56, (.bool (false)))]), (hpOf 3 [(0, (.cells false [(.vs tMark (c.fst.fst) (c.fst.snd)), (.vs tSand (c.snd.fst.fst) (c.snd.fst.snd))])), (1, .gone), (2, (.cells true x28))]), [], [], 93, false⟩, ⟨6, []⟩, [(.lop (pcOf E2 54 [0, 0, 1, 0, 1, 1, 1, 1, 1]) 2 (tmOf 93 [(0, (.agg [(.vs tMark (c.fst.fst) (c.fst.snd)), (.vs tSand (c.snd.fst.fst) (c.snd.fst.snd))])), (1, (.ptr 0 0)), (2, (.int .i64 (0))), (3, (.int .i64 (0))), (4, (.int .i64 (0))), (5, (.sl 1 0 x36 x36 1)), (6, (.int .i64 x9)), (9, (.int .i64 (0))), (11, (.ptr 0 0)), (12, (.vs tMark (c.fst.fst) (c.fst.snd))), (13, (.int .i64 (Int.ofNat c.fst.snd.length))), (14, (.bool (false))), (15, (.int .i64 x9)), (16, (.ptr 0 0)), (17, (.vs tMark (c.fst.fst) (c.fst.snd))), (18, (.int .i64 (Int.ofNat c.fst.snd.length))), (19, (.bool (false))), (53, (.ptr 0 1)), (54, (.vs tSand (c.snd.fst.fst) (c.snd.fst.snd))), (55, (.int .i64 (Int.ofNat c.snd.fst.snd.length))), (56, (.bool (false)))]) x53), (.blk 2), (.seq (pcOf E2 54 [1, 1, 1, 1, 1, 1])), (.cal [(.tmp 2), (.tmp 3), (.tmp 4)] .top)]⟩
noncomputable def rchkI8 (c : tChart.den) (x7 : Nat) (x9 : Int) (x28 : List AV) (x53 : Nat) : Cfg := ⟨.ex (pcOf E2 54 [0, 0, 1, 0, 1, 1, 1, 1, 1]) ⟨(tmOf 93 [(0, (.agg [(.vs tMark (c.fst.fst) (c.fst.snd)), (.vs tSand (c.snd.fst.fst) (c.snd.fst.snd))])), (1, (.ptr 0 0)), (2, (.int .i64 (0))), (3, (.int .i64 (0))), (4, (.int .i64 (0))), (5, (.sl 1 0 x7 x7 1)), (6, (.int .i64 x9)), (9, (.int .i64 (0))), (11, (.ptr 0 0)), (12, (.vs tMark (c.fst.fst) (c.fst.snd))), (13, (.int .i64 (Int.ofNat c.fst.snd.length))), (14, (.bool (false))), (15, (.int .i64 x9)), (16, (.ptr 0 0)), (17, (.vs tMark (c.fst.fst) (c.fst.snd))), (18, (.int .i64 (Int.ofNat c.fst.snd.length))), (19, (.bool (false))), (53, (.ptr 0 1)), (54, (.vs tSand (c.snd.fst.fst) (c.snd.fst.snd))), (55, (.int .i64 (Int.ofNat c.snd.fst.snd.length))), (56, (.bool (false)))]), (hpOf 2 [(0, (.cells false [(.vs tMark (c.fst.fst) (c.fst.snd)), (.vs tSand (c.snd.fst.fst) (c.snd.fst.snd))])), (1, (.cells true x28))]), [], [], 93, false⟩, ⟨6, []⟩, [(.lop (pcOf E2 54 [0, 0, 1, 0, 1, 1, 1, 1, 1]) 2 (tmOf 93 [(0, (.agg [(.vs tMark (c.fst.fst) (c.fst.snd)), (.vs tSand (c.snd.fst.fst) (c.snd.fst.snd))])), (1, (.ptr 0 0)), (2, (.int .i64 (0))), (3, (.int .i64 (0))), (4, (.int .i64 (0))), (5, (.sl 1 0 x7 x7 1)), (6, (.int .i64 x9)), (9, (.int .i64 (0))), (11, (.ptr 0 0)), (12, (.vs tMark (c.fst.fst) (c.fst.snd))), (13, (.int .i64 (Int.ofNat c.fst.snd.length))), (14, (.bool (false))), (15, (.int .i64 x9)), (16, (.ptr 0 0)), (17, (.vs tMark (c.fst.fst) (c.fst.snd))), (18, (.int .i64 (Int.ofNat c.fst.snd.length))), (19, (.bool (false))), (53, (.ptr 0 1)), (54, (.vs tSand (c.snd.fst.fst) (c.snd.fst.snd))), (55, (.int .i64 (Int.ofNat c.snd.fst.snd.length))), (56, (.bool (false)))]) x53), (.blk 2), (.seq (pcOf E2 54 [1, 1, 1, 1, 1, 1])), (.cal [(.tmp 2), (.tmp 3), (.tmp 4)] .top)]⟩
theorem rchk_start (c : tChart.den) : adv E2 (S2 [54]) 3000 (startC E2 54 [tChart.av c] 6) = (bif !ile (↑c.fst.snd.length) 8 then some (.done (.tup [(.int .i64 (1)), (.int .i64 (0)), (.int .i64 (3))])) else some (.stop (rchkI0 c (1048575)))) := by kernel_rfl
theorem rchk_step0 (c : tChart.den) (x28 : Nat) : adv E2 (S2 [54]) 3000 (rchkI0 c (x28 + 1)) = (bif !ile (↑c.fst.snd.length) 0 then (bif inB 0 c.fst.snd.length then (bif !nameS (c.fst.snd.getD (Int.toNat 0) tMark.dflt).fst then some (.done (.tup [(.int .i64 (1)), (.int .i64 (0)), (.int .i64 (6))])) else (bif ile (wr IntKind.i64 (0 - 30000)) (c.fst.snd.getD (Int.toNat 0) tMark.dflt).snd.fst.fst then (bif ile (c.fst.snd.getD (Int.toNat 0) tMark.dflt).snd.fst.fst 30000 then (bif ile (wr IntKind.i64 (0 - 30000)) (c.fst.snd.getD (Int.toNat 0) tMark.dflt).snd.fst.snd.fst then (bif !ile (c.fst.snd.getD (Int.toNat 0) tMark.dflt).snd.fst.snd.fst 30000 then some (.done (.tup [(.int .i64 (1)), (.int .i64 (0)), (.int .i64 (7))])) else (bif !ieq (paintsE (c.fst.snd.getD (Int.toNat 0) tMark.dflt).snd.snd.fst.snd) 0 then some (.done (.tup [(.int .i64 (1)), (.int .i64 (0)), (.int .i64 (paintsE (c.fst.snd.getD (Int.toNat 0) tMark.dflt).snd.snd.fst.snd))])) else some (.stop (rchkI2 c (x28))))) else some (.done (.tup [(.int .i64 (1)), (.int .i64 (0)), (.int .i64 (7))]))) else some (.done (.tup [(.int .i64 (1)), (.int .i64 (0)), (.int .i64 (7))]))) else some (.done (.tup [(.int .i64 (1)), (.int .i64 (0)), (.int .i64 (7))])))) else none) else (bif !ile (↑c.snd.fst.snd.length) 4 then some (.done (.tup [(.int .i64 (2)), (.int .i64 (0)), (.int .i64 (3))])) else some (.stop (rchkI1 c (1048575))))) := by kernel_rfl
theorem rchk_step1 (c : tChart.den) (x48 : Nat) : adv E2 (S2 [54]) 3000 (rchkI1 c (x48 + 1)) = (bif !ile (↑c.snd.fst.snd.length) 0 then (bif inB 0 c.snd.fst.snd.length then (bif !nameS (c.snd.fst.snd.getD (Int.toNat 0) tSand.dflt).fst then (bif inB 0 c.snd.fst.snd.length then some (.done (.tup [(.int .i64 (2)), (.int .i64 (0)), (.int .i64 (6))])) else none) else (bif inB 0 c.snd.fst.snd.length then (bif inB 0 c.snd.fst.snd.length then (bif !ieq (sandE (c.snd.fst.snd.getD (Int.toNat 0) tSand.dflt)) 0 then some (.done (.tup [(.int .i64 (2)), (.int .i64 (0)), (.int .i64 (sandE (c.snd.fst.snd.getD (Int.toNat 0) tSand.dflt)))])) else some (.stop (rchkI3 c (x48)))) else none) else none)) else none) else some (.done (.tup [(.int .i64 (0)), (.int .i64 (0)), (.int .i64 (0))]))) := by kernel_rfl
theorem rchk_step2 (c : tChart.den) (x31 : Nat) : adv E2 (S2 [54]) 3000 (rchkI2 c (x31 + 1)) = (bif !ile (↑c.fst.snd.length) 1 then (bif inB 1 c.fst.snd.length then (bif !nameS (c.fst.snd.getD (Int.toNat 1) tMark.dflt).fst then some (.done (.tup [(.int .i64 (1)), (.int .i64 (1)), (.int .i64 (6))])) else (bif ile 0 (placeF (c.fst.snd.getD (Int.toNat 1) tMark.dflt).fst (strs (List.drop 0 [AV.str (c.fst.snd.getD (Int.toNat 0) tMark.dflt).fst])) 0) then some (.done (.tup [(.int .i64 (1)), (.int .i64 (1)), (.int .i64 (5))])) else (bif ile (wr IntKind.i64 (0 - 30000)) (c.fst.snd.getD (Int.toNat 1) tMark.dflt).snd.fst.fst then (bif ile (c.fst.snd.getD (Int.toNat 1) tMark.dflt).snd.fst.fst 30000 then (bif ile (wr IntKind.i64 (0 - 30000)) (c.fst.snd.getD (Int.toNat 1) tMark.dflt).snd.fst.snd.fst then (bif !ile (c.fst.snd.getD (Int.toNat 1) tMark.dflt).snd.fst.snd.fst 30000 then some (.done (.tup [(.int .i64 (1)), (.int .i64 (1)), (.int .i64 (7))])) else (bif !ieq (paintsE (c.fst.snd.getD (Int.toNat 1) tMark.dflt).snd.snd.fst.snd) 0 then some (.done (.tup [(.int .i64 (1)), (.int .i64 (1)), (.int .i64 (paintsE (c.fst.snd.getD (Int.toNat 1) tMark.dflt).snd.snd.fst.snd))])) else some (.stop (rchkI5 c (2) (2) ([AV.str (c.fst.snd.getD (Int.toNat 0) tMark.dflt).fst, AV.str (c.fst.snd.getD (Int.toNat 1) tMark.dflt).fst]) (x31))))) else some (.done (.tup [(.int .i64 (1)), (.int .i64 (1)), (.int .i64 (7))]))) else some (.done (.tup [(.int .i64 (1)), (.int .i64 (1)), (.int .i64 (7))]))) else some (.done (.tup [(.int .i64 (1)), (.int .i64 (1)), (.int .i64 (7))]))))) else none) else (bif !ile (↑c.snd.fst.snd.length) 4 then some (.done (.tup [(.int .i64 (2)), (.int .i64 (0)), (.int .i64 (3))])) else some (.stop (rchkI4 c (1048575))))) := by kernel_rfl
theorem rchk_step3 (c : tChart.den) (x51 : Nat) : adv E2 (S2 [54]) 3000 (rchkI3 c (x51 + 1)) = (bif !ile (↑c.snd.fst.snd.length) 1 then (bif inB 1 c.snd.fst.snd.length then (bif !nameS (c.snd.fst.snd.getD (Int.toNat 1) tSand.dflt).fst then (bif inB 1 c.snd.fst.snd.length then some (.done (.tup [(.int .i64 (2)), (.int .i64 (1)), (.int .i64 (6))])) else none) else (bif ile 0 (placeF (c.snd.fst.snd.getD (Int.toNat 1) tSand.dflt).fst (strs (List.drop 0 [AV.str (c.snd.fst.snd.getD (Int.toNat 0) tSand.dflt).fst])) 0) then (bif inB 1 c.snd.fst.snd.length then some (.done (.tup [(.int .i64 (2)), (.int .i64 (1)), (.int .i64 (5))])) else none) else (bif inB 1 c.snd.fst.snd.length then (bif inB 1 c.snd.fst.snd.length then (bif !ieq (sandE (c.snd.fst.snd.getD (Int.toNat 1) tSand.dflt)) 0 then some (.done (.tup [(.int .i64 (2)), (.int .i64 (1)), (.int .i64 (sandE (c.snd.fst.snd.getD (Int.toNat 1) tSand.dflt)))])) else some (.stop (rchkI6 c (2) (2) ([AV.str (c.snd.fst.snd.getD (Int.toNat 0) tSand.dflt).fst, AV.str (c.snd.fst.snd.getD (Int.toNat 1) tSand.dflt).fst]) (x51)))) else none) else none))) else none) else some (.done (.tup [(.int .i64 (0)), (.int .i64 (0)), (.int .i64 (0))]))) := by kernel_rfl
theorem rchk_step4 (c : tChart.den) (x53 : Nat) : adv E2 (S2 [54]) 3000 (rchkI4 c (x53 + 1)) = (bif !ile (↑c.snd.fst.snd.length) 0 then (bif inB 0 c.snd.fst.snd.length then (bif !nameS (c.snd.fst.snd.getD (Int.toNat 0) tSand.dflt).fst then (bif inB 0 c.snd.fst.snd.length then some (.done (.tup [(.int .i64 (2)), (.int .i64 (0)), (.int .i64 (6))])) else none) else (bif ile 0 (placeF (c.snd.fst.snd.getD (Int.toNat 0) tSand.dflt).fst (strs (List.drop 0 [AV.str (c.fst.snd.getD (Int.toNat 0) tMark.dflt).fst])) 0) then (bif inB 0 c.snd.fst.snd.length then some (.done (.tup [(.int .i64 (2)), (.int .i64 (0)), (.int .i64 (5))])) else none) else (bif inB 0 c.snd.fst.snd.length then (bif inB 0 c.snd.fst.snd.length then (bif !ieq (sandE (c.snd.fst.snd.getD (Int.toNat 0) tSand.dflt)) 0 then some (.done (.tup [(.int .i64 (2)), (.int .i64 (0)), (.int .i64 (sandE (c.snd.fst.snd.getD (Int.toNat 0) tSand.dflt)))])) else some (.stop (rchkI7 c (2) (1) (1) ([AV.str (c.fst.snd.getD (Int.toNat 0) tMark.dflt).fst, AV.str (c.snd.fst.snd.getD (Int.toNat 0) tSand.dflt).fst]) (1) (x53)))) else none) else none))) else none) else some (.done (.tup [(.int .i64 (0)), (.int .i64 (0)), (.int .i64 (0))]))) := by kernel_rfl
theorem rchk_step5 (c : tChart.den) (x7 : Nat) (x9 : Int) (x18 : List AV) (x31 : Nat) : adv E2 (S2 [54]) 3000 (rchkI5 c x7 x9 x18 (x31 + 1)) = (bif !ile (↑c.fst.snd.length) x9 then (bif inB x9 c.fst.snd.length then (bif plainL x18 then (bif !nameS (c.fst.snd.getD x9.toNat tMark.dflt).fst then (bif (0 + x7 * 1).beq x18.length then (bif x7.ble 1048576 then some (.done (.tup [(.int .i64 (1)), (.int .i64 (x9)), (.int .i64 (6))])) else none) else none) else (bif (List.drop 0 x18).all isS && x7.beq (List.drop 0 x18).length && x7.ble 1000 then (bif ile 0 (placeF (c.fst.snd.getD x9.toNat tMark.dflt).fst (strs (List.drop 0 x18)) 0) then (bif (0 + x7 * 1).beq x18.length then (bif x7.ble 1048576 then some (.done (.tup [(.int .i64 (1)), (.int .i64 (x9)), (.int .i64 (5))])) else none) else none) else (bif (0 + x7 * 1).beq x18.length then (bif x7.ble 1048576 then (bif ile (wr IntKind.i64 (0 - 30000)) (c.fst.snd.getD x9.toNat tMark.dflt).snd.fst.fst then (bif ile (c.fst.snd.getD x9.toNat tMark.dflt).snd.fst.fst 30000 then (bif ile (wr IntKind.i64 (0 - 30000)) (c.fst.snd.getD x9.toNat tMark.dflt).snd.fst.snd.fst then (bif !ile (c.fst.snd.getD x9.toNat tMark.dflt).snd.fst.snd.fst 30000 then some (.done (.tup [(.int .i64 (1)), (.int .i64 (x9)), (.int .i64 (7))])) else (bif !ieq (paintsE (c.fst.snd.getD x9.toNat tMark.dflt).snd.snd.fst.snd) 0 then some (.done (.tup [(.int .i64 (1)), (.int .i64 (x9)), (.int .i64 (paintsE (c.fst.snd.getD x9.toNat tMark.dflt).snd.snd.fst.snd))])) else (bif plO (AO.cells true (x18 ++ [AV.str (c.fst.snd.getD x9.toNat tMark.dflt).fst])) then some (.stop (rchkI5 c (x7 + 1) (wr IntKind.i64 (x9 + 1)) (x18 ++ [AV.str (c.fst.snd.getD x9.toNat tMark.dflt).fst]) (x31))) else none))) else some (.done (.tup [(.int .i64 (1)), (.int .i64 (x9)), (.int .i64 (7))]))) else some (.done (.tup [(.int .i64 (1)), (.int .i64 (x9)), (.int .i64 (7))]))) else some (.done (.tup [(.int .i64 (1)), (.int .i64 (x9)), (.int .i64 (7))]))) else none) else none)) else none)) else none) else none) else (bif !ile (↑c.snd.fst.snd.length) 4 then some (.done (.tup [(.int .i64 (2)), (.int .i64 (0)), (.int .i64 (3))])) else some (.stop (rchkI8 c (x7) (x9) (x18) (1048575))))) := by kernel_rfl
theorem rchk_step6 (c : tChart.den) (x7 : Nat) (x10 : Int) (x28 : List AV) (x51 : Nat) : adv E2 (S2 [54]) 3000 (rchkI6 c x7 x10 x28 (x51 + 1)) = (bif !ile (↑c.snd.fst.snd.length) x10 then (bif inB x10 c.snd.fst.snd.length then (bif plainL x28 then (bif !nameS (c.snd.fst.snd.getD x10.toNat tSand.dflt).fst then (bif inB x10 c.snd.fst.snd.length then (bif (0 + x7 * 1).beq x28.length then (bif x7.ble 1048576 then some (.done (.tup [(.int .i64 (2)), (.int .i64 (x10)), (.int .i64 (6))])) else none) else none) else none) else (bif (List.drop 0 x28).all isS && x7.beq (List.drop 0 x28).length && x7.ble 1000 then (bif ile 0 (placeF (c.snd.fst.snd.getD x10.toNat tSand.dflt).fst (strs (List.drop 0 x28)) 0) then (bif inB x10 c.snd.fst.snd.length then (bif (0 + x7 * 1).beq x28.length then (bif x7.ble 1048576 then some (.done (.tup [(.int .i64 (2)), (.int .i64 (x10)), (.int .i64 (5))])) else none) else none) else none) else (bif inB x10 c.snd.fst.snd.length then (bif (0 + x7 * 1).beq x28.length then (bif x7.ble 1048576 then (bif inB x10 c.snd.fst.snd.length then (bif !ieq (sandE (c.snd.fst.snd.getD x10.toNat tSand.dflt)) 0 then some (.done (.tup [(.int .i64 (2)), (.int .i64 (x10)), (.int .i64 (sandE (c.snd.fst.snd.getD x10.toNat tSand.dflt)))])) else (bif plO (AO.cells true (x28 ++ [AV.str (c.snd.fst.snd.getD x10.toNat tSand.dflt).fst])) then some (.stop (rchkI6 c (x7 + 1) (wr IntKind.i64 (x10 + 1)) (x28 ++ [AV.str (c.snd.fst.snd.getD x10.toNat tSand.dflt).fst]) (x51))) else none)) else none) else none) else none) else none)) else none)) else none) else none) else some (.done (.tup [(.int .i64 (0)), (.int .i64 (0)), (.int .i64 (0))]))) := by kernel_rfl
theorem rchk_step7 (c : tChart.den) (x7 : Nat) (x9 : Int) (x10 : Int) (x28 : List AV) (x36 : Nat) (x53 : Nat) : adv E2 (S2 [54]) 3000 (rchkI7 c x7 x9 x10 x28 x36 (x53 + 1)) = (bif !ile (↑c.snd.fst.snd.length) x10 then (bif inB x10 c.snd.fst.snd.length then (bif plainL x28 then (bif !nameS (c.snd.fst.snd.getD x10.toNat tSand.dflt).fst then (bif inB x10 c.snd.fst.snd.length then (bif (0 + x7 * 1).beq x28.length then (bif x7.ble 1048576 then some (.done (.tup [(.int .i64 (2)), (.int .i64 (x10)), (.int .i64 (6))])) else none) else none) else none) else (bif (List.drop 0 x28).all isS && x7.beq (List.drop 0 x28).length && x7.ble 1000 then (bif ile 0 (placeF (c.snd.fst.snd.getD x10.toNat tSand.dflt).fst (strs (List.drop 0 x28)) 0) then (bif inB x10 c.snd.fst.snd.length then (bif (0 + x7 * 1).beq x28.length then (bif x7.ble 1048576 then some (.done (.tup [(.int .i64 (2)), (.int .i64 (x10)), (.int .i64 (5))])) else none) else none) else none) else (bif inB x10 c.snd.fst.snd.length then (bif (0 + x7 * 1).beq x28.length then (bif x7.ble 1048576 then (bif inB x10 c.snd.fst.snd.length then (bif !ieq (sandE (c.snd.fst.snd.getD x10.toNat tSand.dflt)) 0 then some (.done (.tup [(.int .i64 (2)), (.int .i64 (x10)), (.int .i64 (sandE (c.snd.fst.snd.getD x10.toNat tSand.dflt)))])) else (bif plO (AO.cells true (x28 ++ [AV.str (c.snd.fst.snd.getD x10.toNat tSand.dflt).fst])) then some (.stop (rchkI7 c (x7 + 1) (x9) (wr IntKind.i64 (x10 + 1)) (x28 ++ [AV.str (c.snd.fst.snd.getD x10.toNat tSand.dflt).fst]) (x36) (x53))) else none)) else none) else none) else none) else none)) else none)) else none) else none) else some (.done (.tup [(.int .i64 (0)), (.int .i64 (0)), (.int .i64 (0))]))) := by kernel_rfl
theorem rchk_step8 (c : tChart.den) (x7 : Nat) (x9 : Int) (x28 : List AV) (x53 : Nat) : adv E2 (S2 [54]) 3000 (rchkI8 c x7 x9 x28 (x53 + 1)) = (bif !ile (↑c.snd.fst.snd.length) 0 then (bif inB 0 c.snd.fst.snd.length then (bif plainL x28 then (bif !nameS (c.snd.fst.snd.getD (Int.toNat 0) tSand.dflt).fst then (bif inB 0 c.snd.fst.snd.length then (bif (0 + x7 * 1).beq x28.length then (bif x7.ble 1048576 then some (.done (.tup [(.int .i64 (2)), (.int .i64 (0)), (.int .i64 (6))])) else none) else none) else none) else (bif (List.drop 0 x28).all isS && x7.beq (List.drop 0 x28).length && x7.ble 1000 then (bif ile 0 (placeF (c.snd.fst.snd.getD (Int.toNat 0) tSand.dflt).fst (strs (List.drop 0 x28)) 0) then (bif inB 0 c.snd.fst.snd.length then (bif (0 + x7 * 1).beq x28.length then (bif x7.ble 1048576 then some (.done (.tup [(.int .i64 (2)), (.int .i64 (0)), (.int .i64 (5))])) else none) else none) else none) else (bif inB 0 c.snd.fst.snd.length then (bif (0 + x7 * 1).beq x28.length then (bif x7.ble 1048576 then (bif inB 0 c.snd.fst.snd.length then (bif !ieq (sandE (c.snd.fst.snd.getD (Int.toNat 0) tSand.dflt)) 0 then some (.done (.tup [(.int .i64 (2)), (.int .i64 (0)), (.int .i64 (sandE (c.snd.fst.snd.getD (Int.toNat 0) tSand.dflt)))])) else (bif plO (AO.cells true (x28 ++ [AV.str (c.snd.fst.snd.getD (Int.toNat 0) tSand.dflt).fst])) then some (.stop (rchkI7 c (x7 + 1) (x9) (1) (x28 ++ [AV.str (c.snd.fst.snd.getD (Int.toNat 0) tSand.dflt).fst]) (x7) (x53))) else none)) else none) else none) else none) else none)) else none)) else none) else none) else some (.done (.tup [(.int .i64 (0)), (.int .i64 (0)), (.int .i64 (0))]))) := by kernel_rfl

/-! ### Check, of the reference -/
theorem E2ext (f : Nat) (args : List AV) (h : (E2.ext f args).isNone = true) : E2.ext f args = none := by
  cases e : E2.ext f args with
  | none => rfl
  | some v => rw [e] at h; cases h
theorem sz9 : E2.size 9 = 1 := by kernel_rfl
theorem placeF_iff {t : List Nat} : ∀ (L : List (List Nat)) (k : Nat), ile 0 (placeF t L k) = decide (t ∈ L)
  | [], k => by simp only [placeF]; rfl
  | a :: L, k => by
    rw [placeF]
    by_cases h : a = t
    · subst h
      rw [if_pos rfl, ile_iff]; simp
    · rw [if_neg h, placeF_iff L (k + 1)]
      have : ¬ t = a := fun e => h e.symm
      simp [this]
theorem placeF_add {t s : List Nat} (L : List (List Nat)) : ile 0 (placeF t (L ++ [s]) 0) = (lbeq t s || ile 0 (placeF t L 0)) := by
  rw [placeF_iff, placeF_iff, lbeq_iff]
  by_cases h1 : t = s
  · subst h1; simp
  · by_cases h2 : t ∈ L <;> simp [h1, h2]
theorem strs_add (l : List AV) (s : List Nat) : strs (l ++ [.str s]) = strs l ++ [s] := by simp [strs, strOf]
theorem plain_isS : ∀ {l : List AV}, l.all isS = true → plainL l = true
  | [], _ => rfl
  | a :: l, h => by
    simp only [List.all_cons, Bool.and_eq_true] at h
    cases a <;> first | (cases h.1; done) | exact plain_isS (l := l) h.2
theorem isS_add {l : List AV} (h : l.all isS = true) (s : List Nat) : (l ++ [AV.str s]).all isS = true := by
  rw [List.all_append, h]; rfl
theorem app_plain {l : List AV} (h : l.all isS = true) (s : List Nat) : plO (AO.cells true (l ++ [AV.str s])) = true := plain_isS (isS_add h s)
theorem sand_eta (s : tSand.den) : ((s.1, (s.2.1.1, s.2.1.2), ((s.2.2.1.1.1, s.2.2.1.1.2.1, ()), (s.2.2.1.2.1.1, s.2.2.1.2.1.2.1, ()), ()), ()) : tSand.den) = s := rfl
theorem ile_lt0 {n : Nat} (h : 0 < n) : ile (n : Int) 0 = false := ile_lt h
theorem ile_ge0 {n : Nat} (h : n ≤ 0) : ile (n : Int) 0 = true := ile_ge h
theorem ile_lt1 {n : Nat} (h : 1 < n) : ile (n : Int) 1 = false := ile_lt (k := 1) h
theorem ile_ge1 {n : Nat} (h : n ≤ 1) : ile (n : Int) 1 = true := ile_ge (k := 1) h
theorem inB_0 {n : Nat} (h : 0 < n) : inB 0 n = true := inB_at (k := 0) h
theorem inB_1 {n : Nat} (h : 1 < n) : inB 1 n = true := inB_at (k := 1) h
theorem getD_0 {α : Type} {l : List α} {d : α} (h : 0 < l.length) : l.getD (Int.toNat 0) d = l[0] := getD_at (k := 0) h
theorem getD_1 {α : Type} {l : List α} {d : α} (h : 1 < l.length) : l.getD (Int.toNat 1) d = l[1] := getD_at (k := 1) h
theorem rs7 (c : tChart.den) (h4 : c.2.1.2.length ≤ 4) (x9 : Int) (x36 : Nat) : ∀ (r i m n7 : Nat) (l : List AV) (mem : List Nat → Bool), i + r = c.2.1.2.length → r < m → l.length ≤ i + 8 → l.all isS = true → n7 = l.length → (∀ t, ile 0 (placeF t (strs l) 0) = mem t) → Ans E2 (rchkI7 c n7 x9 (i : Int) l x36 m) (tup3 (sandsS mem i (c.2.1.2.drop i)))
  | 0, i, m + 1, n7, l, mem, hk, hm, h8, hS, hn, hM => by
    have h := rchk_step7 c n7 x9 i l x36 m
    simp only [ile_ge (show c.2.1.2.length ≤ i by omega), Bool.not_true, cond_false] at h
    rw [List.drop_eq_nil_of_le (by omega)]
    exact done3 (S2_ok _) E2sy h rfl
  | r + 1, i, m + 1, n7, l, mem, hk, hm, h8, hS, hn, hM => by
    have h := rchk_step7 c n7 x9 i l x36 m
    have hlt : i < c.2.1.2.length := by omega
    have q1 : plainL l = true := plain_isS hS
    have q2 : (0 + n7 * 1).beq l.length = true := by rw [hn]; simp
    have q3 : n7.ble 1048576 = true := Nat.ble_eq_true_of_le (by omega)
    have q4 : (l.all isS && n7.beq l.length && n7.ble 1000) = true := by rw [hS, hn, Nat.ble_eq_true_of_le (show l.length ≤ 1000 by omega)]; simp
    simp only [ile_lt hlt, inB_at hlt, getD_at hlt, List.drop_zero, q1, q2, q3, q4, app_plain hS, sand_eta, wr_succ (show i < 1048577 by omega), hM, Bool.not_false, cond_true] at h
    rw [List.drop_eq_getElem_cons hlt, sandsS, sandN]
    cases c1 : nameS (c.2.1.2[i]).1 with
    | false =>
      simp only [c1, Bool.not_false, cond_true, cond_false, show ieq 6 0 = false from rfl] at h ⊢
      exact done3 (S2_ok _) E2sy h rfl
    | true =>
      cases c2 : mem (c.2.1.2[i]).1 with
      | true =>
        simp only [c1, c2, Bool.not_true, cond_true, cond_false, show ieq 5 0 = false from rfl] at h ⊢
        exact done3 (S2_ok _) E2sy h rfl
      | false =>
        cases c3 : ieq (sandE (c.2.1.2[i])) 0 with
        | false =>
          simp only [c1, c2, c3, Bool.not_true, Bool.not_false, cond_true, cond_false] at h ⊢
          exact done3 (S2_ok _) E2sy h rfl
        | true =>
          simp only [c1, c2, c3, Bool.not_true, Bool.not_false, cond_true, cond_false] at h ⊢
          exact .stopE (S2_ok _) E2sy h (rs7 c h4 x9 x36 r (i + 1) m (n7 + 1) _ (addM mem (c.2.1.2[i]).1) (by omega) (by omega) (by rw [List.length_append]; simp; omega) (isS_add hS _) (by rw [List.length_append, hn]; rfl) (fun t => by rw [strs_add, placeF_add, hM]; rfl)) rfl
theorem rs6 (c : tChart.den) (h4 : c.2.1.2.length ≤ 4) : ∀ (r i m n7 : Nat) (l : List AV) (mem : List Nat → Bool), i + r = c.2.1.2.length → r < m → l.length ≤ i + 8 → l.all isS = true → n7 = l.length → (∀ t, ile 0 (placeF t (strs l) 0) = mem t) → Ans E2 (rchkI6 c n7 (i : Int) l m) (tup3 (sandsS mem i (c.2.1.2.drop i)))
  | 0, i, m + 1, n7, l, mem, hk, hm, h8, hS, hn, hM => by
    have h := rchk_step6 c n7 i l m
    simp only [ile_ge (show c.2.1.2.length ≤ i by omega), Bool.not_true, cond_false] at h
    rw [List.drop_eq_nil_of_le (by omega)]
    exact done3 (S2_ok _) E2sy h rfl
  | r + 1, i, m + 1, n7, l, mem, hk, hm, h8, hS, hn, hM => by
    have h := rchk_step6 c n7 i l m
    have hlt : i < c.2.1.2.length := by omega
    have q1 : plainL l = true := plain_isS hS
    have q2 : (0 + n7 * 1).beq l.length = true := by rw [hn]; simp
    have q3 : n7.ble 1048576 = true := Nat.ble_eq_true_of_le (by omega)
    have q4 : (l.all isS && n7.beq l.length && n7.ble 1000) = true := by rw [hS, hn, Nat.ble_eq_true_of_le (show l.length ≤ 1000 by omega)]; simp
    simp only [ile_lt hlt, inB_at hlt, getD_at hlt, List.drop_zero, q1, q2, q3, q4, app_plain hS, sand_eta, wr_succ (show i < 1048577 by omega), hM, Bool.not_false, cond_true] at h
    rw [List.drop_eq_getElem_cons hlt, sandsS, sandN]
    cases c1 : nameS (c.2.1.2[i]).1 with
    | false =>
      simp only [c1, Bool.not_false, cond_true, cond_false, show ieq 6 0 = false from rfl] at h ⊢
      exact done3 (S2_ok _) E2sy h rfl
    | true =>
      cases c2 : mem (c.2.1.2[i]).1 with
      | true =>
        simp only [c1, c2, Bool.not_true, cond_true, cond_false, show ieq 5 0 = false from rfl] at h ⊢
        exact done3 (S2_ok _) E2sy h rfl
      | false =>
        cases c3 : ieq (sandE (c.2.1.2[i])) 0 with
        | false =>
          simp only [c1, c2, c3, Bool.not_true, Bool.not_false, cond_true, cond_false] at h ⊢
          exact done3 (S2_ok _) E2sy h rfl
        | true =>
          simp only [c1, c2, c3, Bool.not_true, Bool.not_false, cond_true, cond_false] at h ⊢
          exact .stopE (S2_ok _) E2sy h (rs6 c h4 r (i + 1) m (n7 + 1) _ (addM mem (c.2.1.2[i]).1) (by omega) (by omega) (by rw [List.length_append]; simp; omega) (isS_add hS _) (by rw [List.length_append, hn]; rfl) (fun t => by rw [strs_add, placeF_add, hM]; rfl)) rfl
theorem rs8 (c : tChart.den) (h4 : c.2.1.2.length ≤ 4) (n7 : Nat) (x9 : Int) (l : List AV) (mem : List Nat → Bool) (M : Nat) (hM1 : c.2.1.2.length < M) (h8 : l.length ≤ 8) (hS : l.all isS = true) (hn : n7 = l.length) (hM : ∀ t, ile 0 (placeF t (strs l) 0) = mem t) : Ans E2 (rchkI8 c n7 x9 l M) (tup3 (sandsS mem 0 c.2.1.2)) := by
  obtain ⟨m, rfl⟩ : ∃ m, M = m + 1 := ⟨M - 1, by omega⟩
  have h := rchk_step8 c n7 x9 l m
  by_cases hlt : 0 < c.2.1.2.length
  · have q1 : plainL l = true := plain_isS hS
    have q2 : (0 + n7 * 1).beq l.length = true := by rw [hn]; simp
    have q3 : n7.ble 1048576 = true := Nat.ble_eq_true_of_le (by omega)
    have q4 : (l.all isS && n7.beq l.length && n7.ble 1000) = true := by rw [hS, hn, Nat.ble_eq_true_of_le (show l.length ≤ 1000 by omega)]; simp
    simp only [ile_lt0 hlt, inB_0 hlt, getD_0 hlt, List.drop_zero, q1, q2, q3, q4, app_plain hS, sand_eta, hM, Bool.not_false, cond_true] at h
    have e := List.drop_eq_getElem_cons hlt
    rw [List.drop_zero] at e
    rw [e, sandsS, sandN]
    cases c1 : nameS (c.2.1.2[0]).1 with
    | false =>
      simp only [c1, Bool.not_false, cond_true, cond_false, show ieq 6 0 = false from rfl] at h ⊢
      exact done3 (S2_ok _) E2sy h rfl
    | true =>
      cases c2 : mem (c.2.1.2[0]).1 with
      | true =>
        simp only [c1, c2, Bool.not_true, cond_true, cond_false, show ieq 5 0 = false from rfl] at h ⊢
        exact done3 (S2_ok _) E2sy h rfl
      | false =>
        cases c3 : ieq (sandE (c.2.1.2[0])) 0 with
        | false =>
          simp only [c1, c2, c3, Bool.not_true, Bool.not_false, cond_true, cond_false] at h ⊢
          exact done3 (S2_ok _) E2sy h rfl
        | true =>
          simp only [c1, c2, c3, Bool.not_true, Bool.not_false, cond_true, cond_false] at h ⊢
          exact .stopE (S2_ok _) E2sy h (rs7 c h4 x9 n7 (c.2.1.2.length - 1) 1 m (n7 + 1) _ (addM mem (c.2.1.2[0]).1) (by omega) (by omega) (by rw [List.length_append]; simp; omega) (isS_add hS _) (by rw [List.length_append, hn]; rfl) (fun t => by rw [strs_add, placeF_add, hM]; rfl)) rfl
  · have e : c.2.1.2 = [] := List.eq_nil_of_length_eq_zero (by omega)
    simp only [ile_ge0 (show c.2.1.2.length ≤ 0 by omega), Bool.not_true, cond_false] at h
    rw [e]
    exact done3 (S2_ok _) E2sy h rfl
theorem one_mem (m0 : List Nat) : ∀ t, ile 0 (placeF t (strs [AV.str m0]) 0) = addM (fun _ => false) m0 t := fun t => by
  have := placeF_add (t := t) (s := m0) []
  rw [List.nil_append] at this
  exact this
theorem two_mem (m0 m1 : List Nat) : ∀ t, ile 0 (placeF t (strs [AV.str m0, AV.str m1]) 0) = addM (addM (fun _ => false) m0) m1 t := fun t => by
  have := placeF_add (t := t) (s := m1) [m0]
  have h0 := one_mem m0 t
  rw [show strs [AV.str m0] = [m0] from rfl] at h0
  rw [h0] at this
  exact this
theorem rs4 (c : tChart.den) (h4 : c.2.1.2.length ≤ 4) (hm0 : 0 < c.1.2.length) (M : Nat) (hM1 : c.2.1.2.length < M) : Ans E2 (rchkI4 c M) (tup3 (sandsS (addM (fun _ => false) (c.1.2[0]).1) 0 c.2.1.2)) := by
  obtain ⟨m, rfl⟩ : ∃ m, M = m + 1 := ⟨M - 1, by omega⟩
  have h := rchk_step4 c m
  by_cases hlt : 0 < c.2.1.2.length
  · simp only [ile_lt0 hlt, inB_0 hlt, getD_0 hlt, getD_0 hm0, List.drop_zero, sand_eta, one_mem, Bool.not_false, cond_true] at h
    have e := List.drop_eq_getElem_cons hlt
    rw [List.drop_zero] at e
    rw [e, sandsS, sandN]
    cases c1 : nameS (c.2.1.2[0]).1 with
    | false =>
      simp only [c1, Bool.not_false, cond_true, cond_false, show ieq 6 0 = false from rfl] at h ⊢
      exact done3 (S2_ok _) E2sy h rfl
    | true =>
      cases c2 : addM (fun _ => false) (c.1.2[0]).1 (c.2.1.2[0]).1 with
      | true =>
        simp only [c1, c2, Bool.not_true, cond_true, cond_false, show ieq 5 0 = false from rfl] at h ⊢
        exact done3 (S2_ok _) E2sy h rfl
      | false =>
        cases c3 : ieq (sandE (c.2.1.2[0])) 0 with
        | false =>
          simp only [c1, c2, c3, Bool.not_true, Bool.not_false, cond_true, cond_false] at h ⊢
          exact done3 (S2_ok _) E2sy h rfl
        | true =>
          simp only [c1, c2, c3, Bool.not_true, Bool.not_false, cond_true, cond_false] at h ⊢
          exact .stopE (S2_ok _) E2sy h (rs7 c h4 1 1 (c.2.1.2.length - 1) 1 m 2 _ (addM (addM (fun _ => false) (c.1.2[0]).1) (c.2.1.2[0]).1) (by omega) (by omega) (by simp) rfl rfl (two_mem _ _)) rfl
  · have e : c.2.1.2 = [] := List.eq_nil_of_length_eq_zero (by omega)
    simp only [ile_ge0 (show c.2.1.2.length ≤ 0 by omega), Bool.not_true, cond_false] at h
    rw [e]
    exact done3 (S2_ok _) E2sy h rfl
theorem rs3 (c : tChart.den) (h4 : c.2.1.2.length ≤ 4) (h0 : 0 < c.2.1.2.length) (M : Nat) (hM1 : c.2.1.2.length < M + 1) : Ans E2 (rchkI3 c M) (tup3 (sandsS (addM (fun _ => false) (c.2.1.2[0]).1) 1 (c.2.1.2.drop 1))) := by
  obtain ⟨m, rfl⟩ : ∃ m, M = m + 1 := ⟨M - 1, by omega⟩
  have h := rchk_step3 c m
  by_cases hlt : 1 < c.2.1.2.length
  · simp only [ile_lt1 hlt, inB_1 hlt, getD_1 hlt, getD_0 h0, List.drop_zero, sand_eta, one_mem, Bool.not_false, cond_true] at h
    rw [List.drop_eq_getElem_cons hlt, sandsS, sandN]
    cases c1 : nameS (c.2.1.2[1]).1 with
    | false =>
      simp only [c1, Bool.not_false, cond_true, cond_false, show ieq 6 0 = false from rfl] at h ⊢
      exact done3 (S2_ok _) E2sy h rfl
    | true =>
      cases c2 : addM (fun _ => false) (c.2.1.2[0]).1 (c.2.1.2[1]).1 with
      | true =>
        simp only [c1, c2, Bool.not_true, cond_true, cond_false, show ieq 5 0 = false from rfl] at h ⊢
        exact done3 (S2_ok _) E2sy h rfl
      | false =>
        cases c3 : ieq (sandE (c.2.1.2[1])) 0 with
        | false =>
          simp only [c1, c2, c3, Bool.not_true, Bool.not_false, cond_true, cond_false] at h ⊢
          exact done3 (S2_ok _) E2sy h rfl
        | true =>
          simp only [c1, c2, c3, Bool.not_true, Bool.not_false, cond_true, cond_false] at h ⊢
          exact .stopE (S2_ok _) E2sy h (rs6 c h4 (c.2.1.2.length - 2) 2 m 2 _ (addM (addM (fun _ => false) (c.2.1.2[0]).1) (c.2.1.2[1]).1) (by omega) (by omega) (by simp) rfl rfl (two_mem _ _)) rfl
  · simp only [ile_ge1 (show c.2.1.2.length ≤ 1 by omega), Bool.not_true, cond_false] at h
    rw [List.drop_eq_nil_of_le (by omega)]
    exact done3 (S2_ok _) E2sy h rfl
theorem rs1 (c : tChart.den) (h4 : c.2.1.2.length ≤ 4) (M : Nat) (hM1 : c.2.1.2.length < M) : Ans E2 (rchkI1 c M) (tup3 (sandsS (fun _ => false) 0 c.2.1.2)) := by
  obtain ⟨m, rfl⟩ : ∃ m, M = m + 1 := ⟨M - 1, by omega⟩
  have h := rchk_step1 c m
  by_cases hlt : 0 < c.2.1.2.length
  · simp only [ile_lt0 hlt, inB_0 hlt, getD_0 hlt, sand_eta, Bool.not_false, cond_true] at h
    have e := List.drop_eq_getElem_cons hlt
    rw [List.drop_zero] at e
    rw [e, sandsS, sandN]
    simp only [cond_false]
    cases c1 : nameS (c.2.1.2[0]).1 with
    | false =>
      simp only [c1, Bool.not_false, cond_true, cond_false, show ieq 6 0 = false from rfl] at h ⊢
      exact done3 (S2_ok _) E2sy h rfl
    | true =>
      cases c3 : ieq (sandE (c.2.1.2[0])) 0 with
      | false =>
        simp only [c1, c3, Bool.not_true, Bool.not_false, cond_true, cond_false] at h ⊢
        exact done3 (S2_ok _) E2sy h rfl
      | true =>
        simp only [c1, c3, Bool.not_true, Bool.not_false, cond_true, cond_false] at h ⊢
        exact .stopE (S2_ok _) E2sy h (rs3 c h4 hlt m (by omega)) rfl
  · have e : c.2.1.2 = [] := List.eq_nil_of_length_eq_zero (by omega)
    simp only [ile_ge0 (show c.2.1.2.length ≤ 0 by omega), Bool.not_true, cond_false] at h
    rw [e]
    exact done3 (S2_ok _) E2sy h rfl
theorem rm5 (c : tChart.den) (hc8 : c.1.2.length ≤ 8) : ∀ (r i m n7 : Nat) (l : List AV) (mem : List Nat → Bool), i + r = c.1.2.length → r < m → l.length = i → l.all isS = true → n7 = l.length → (∀ t, ile 0 (placeF t (strs l) 0) = mem t) → Ans E2 (rchkI5 c n7 (i : Int) l m) (tup3 (marksS (sandsK c) mem i (c.1.2.drop i)))
  | 0, i, m + 1, n7, l, mem, hk, hm, h8, hS, hn, hM => by
    have h := rchk_step5 c n7 i l m
    simp only [ile_ge (show c.1.2.length ≤ i by omega), Bool.not_true, cond_false] at h
    rw [List.drop_eq_nil_of_le (by omega)]
    rw [marksS, sandsK]
    cases c1 : ile (c.2.1.2.length : Int) 4 with
    | false =>
      simp only [c1, Bool.not_false, cond_true, cond_false] at h ⊢
      exact done3 (S2_ok _) E2sy h rfl
    | true =>
      simp only [c1, Bool.not_true, cond_true, cond_false] at h ⊢
      have h4 : c.2.1.2.length ≤ 4 := by rw [ile_iff] at c1; simp at c1; omega
      exact .stop (S2_ok _) E2sy h (rs8 c h4 n7 i l mem 1048575 (by omega) (by omega) hS hn hM)
  | r + 1, i, m + 1, n7, l, mem, hk, hm, h8, hS, hn, hM => by
    have h := rchk_step5 c n7 i l m
    have hlt : i < c.1.2.length := by omega
    have q1 : plainL l = true := plain_isS hS
    have q2 : (0 + n7 * 1).beq l.length = true := by rw [hn]; simp
    have q3 : n7.ble 1048576 = true := Nat.ble_eq_true_of_le (by omega)
    have q4 : (l.all isS && n7.beq l.length && n7.ble 1000) = true := by rw [hS, hn, Nat.ble_eq_true_of_le (show l.length ≤ 1000 by omega)]; simp
    simp only [ile_lt hlt, inB_at hlt, getD_at hlt, List.drop_zero, q1, q2, q3, q4, app_plain hS, wm30000, wr_succ (show i < 1048577 by omega), hM, Bool.not_false, cond_true] at h
    rw [List.drop_eq_getElem_cons hlt, marksS, markE, inF]
    cases c1 : nameS (c.1.2[i]).1 with
    | false =>
      simp only [c1, Bool.not_false, cond_true, cond_false, show ieq 6 0 = false from rfl] at h ⊢
      exact done3 (S2_ok _) E2sy h rfl
    | true =>
      cases c2 : mem (c.1.2[i]).1 with
      | true =>
        simp only [c1, c2, Bool.not_true, cond_true, cond_false, show ieq 5 0 = false from rfl] at h ⊢
        exact done3 (S2_ok _) E2sy h rfl
      | false =>
        cases d1 : ile (-30000) (c.1.2[i]).2.1.1 <;> cases d2 : ile (c.1.2[i]).2.1.1 30000 <;> cases d3 : ile (-30000) (c.1.2[i]).2.1.2.1 <;> cases d4 : ile (c.1.2[i]).2.1.2.1 30000 <;>
          try (simp only [c1, c2, d1, d2, d3, d4, cond_true, cond_false, Bool.not_true, Bool.not_false, Bool.and_true, Bool.and_false, Bool.false_and, Bool.true_and, Bool.and_self, show ieq 7 0 = false from rfl] at h ⊢; exact done3 (S2_ok _) E2sy h rfl)
        cases e3 : ieq (paintsE (c.1.2[i]).2.2.1.2) 0 with
        | false =>
          simp only [c1, c2, d1, d2, d3, d4, e3, cond_true, cond_false, Bool.not_true, Bool.not_false, Bool.and_self] at h ⊢
          exact done3 (S2_ok _) E2sy h rfl
        | true =>
          simp only [c1, c2, d1, d2, d3, d4, e3, cond_true, cond_false, Bool.not_true, Bool.not_false, Bool.and_self] at h ⊢
          exact .stopE (S2_ok _) E2sy h (rm5 c hc8 r (i + 1) m (n7 + 1) _ (addM mem (c.1.2[i]).1) (by omega) (by omega) (by rw [List.length_append, h8]; rfl) (isS_add hS _) (by rw [List.length_append, hn]; rfl) (fun t => by rw [strs_add, placeF_add, hM]; rfl)) rfl
theorem rm2 (c : tChart.den) (hc8 : c.1.2.length ≤ 8) (h0 : 0 < c.1.2.length) (M : Nat) (hM1 : c.1.2.length < M + 1) : Ans E2 (rchkI2 c M) (tup3 (marksS (sandsK c) (addM (fun _ => false) (c.1.2[0]).1) 1 (c.1.2.drop 1))) := by
  obtain ⟨m, rfl⟩ : ∃ m, M = m + 1 := ⟨M - 1, by omega⟩
  have h := rchk_step2 c m
  by_cases hlt : 1 < c.1.2.length
  · simp only [ile_lt1 hlt, inB_1 hlt, getD_1 hlt, getD_0 h0, List.drop_zero, wm30000, one_mem, Bool.not_false, cond_true] at h
    rw [List.drop_eq_getElem_cons hlt, marksS, markE, inF]
    cases c1 : nameS (c.1.2[1]).1 with
    | false =>
      simp only [c1, Bool.not_false, cond_true, cond_false, show ieq 6 0 = false from rfl] at h ⊢
      exact done3 (S2_ok _) E2sy h rfl
    | true =>
      cases c2 : addM (fun _ => false) (c.1.2[0]).1 (c.1.2[1]).1 with
      | true =>
        simp only [c1, c2, Bool.not_true, cond_true, cond_false, show ieq 5 0 = false from rfl] at h ⊢
        exact done3 (S2_ok _) E2sy h rfl
      | false =>
        cases d1 : ile (-30000) (c.1.2[1]).2.1.1 <;> cases d2 : ile (c.1.2[1]).2.1.1 30000 <;> cases d3 : ile (-30000) (c.1.2[1]).2.1.2.1 <;> cases d4 : ile (c.1.2[1]).2.1.2.1 30000 <;>
          try (simp only [c1, c2, d1, d2, d3, d4, cond_true, cond_false, Bool.not_true, Bool.not_false, Bool.and_true, Bool.and_false, Bool.false_and, Bool.true_and, Bool.and_self, show ieq 7 0 = false from rfl] at h ⊢; exact done3 (S2_ok _) E2sy h rfl)
        cases e3 : ieq (paintsE (c.1.2[1]).2.2.1.2) 0 with
        | false =>
          simp only [c1, c2, d1, d2, d3, d4, e3, cond_true, cond_false, Bool.not_true, Bool.not_false, Bool.and_self] at h ⊢
          exact done3 (S2_ok _) E2sy h rfl
        | true =>
          simp only [c1, c2, d1, d2, d3, d4, e3, cond_true, cond_false, Bool.not_true, Bool.not_false, Bool.and_self] at h ⊢
          exact .stopE (S2_ok _) E2sy h (rm5 c hc8 (c.1.2.length - 2) 2 m 2 _ (addM (addM (fun _ => false) (c.1.2[0]).1) (c.1.2[1]).1) (by omega) (by omega) rfl rfl rfl (two_mem _ _)) rfl
  · simp only [ile_ge1 (show c.1.2.length ≤ 1 by omega), Bool.not_true, cond_false] at h
    rw [List.drop_eq_nil_of_le (by omega)]
    rw [marksS, sandsK]
    cases c1 : ile (c.2.1.2.length : Int) 4 with
    | false =>
      simp only [c1, Bool.not_false, cond_true, cond_false] at h ⊢
      exact done3 (S2_ok _) E2sy h rfl
    | true =>
      simp only [c1, Bool.not_true, cond_true, cond_false] at h ⊢
      have h4 : c.2.1.2.length ≤ 4 := by rw [ile_iff] at c1; simp at c1; omega
      exact .stop (S2_ok _) E2sy h (rs4 c h4 h0 1048575 (by omega))
theorem rm0 (c : tChart.den) (hc8 : c.1.2.length ≤ 8) (M : Nat) (hM1 : c.1.2.length < M) : Ans E2 (rchkI0 c M) (tup3 (marksS (sandsK c) (fun _ => false) 0 c.1.2)) := by
  obtain ⟨m, rfl⟩ : ∃ m, M = m + 1 := ⟨M - 1, by omega⟩
  have h := rchk_step0 c m
  by_cases hlt : 0 < c.1.2.length
  · simp only [ile_lt0 hlt, inB_0 hlt, getD_0 hlt, wm30000, Bool.not_false, cond_true] at h
    have e := List.drop_eq_getElem_cons hlt
    rw [List.drop_zero] at e
    rw [e, marksS, markE, inF]
    simp only [cond_false]
    cases c1 : nameS (c.1.2[0]).1 with
    | false =>
      simp only [c1, Bool.not_false, cond_true, cond_false, show ieq 6 0 = false from rfl] at h ⊢
      exact done3 (S2_ok _) E2sy h rfl
    | true =>
        cases d1 : ile (-30000) (c.1.2[0]).2.1.1 <;> cases d2 : ile (c.1.2[0]).2.1.1 30000 <;> cases d3 : ile (-30000) (c.1.2[0]).2.1.2.1 <;> cases d4 : ile (c.1.2[0]).2.1.2.1 30000 <;>
          try (simp only [c1, d1, d2, d3, d4, cond_true, cond_false, Bool.not_true, Bool.not_false, Bool.and_true, Bool.and_false, Bool.false_and, Bool.true_and, Bool.and_self, show ieq 7 0 = false from rfl] at h ⊢; exact done3 (S2_ok _) E2sy h rfl)
        cases e3 : ieq (paintsE (c.1.2[0]).2.2.1.2) 0 with
        | false =>
          simp only [c1, d1, d2, d3, d4, e3, cond_true, cond_false, Bool.not_true, Bool.not_false, Bool.and_self] at h ⊢
          exact done3 (S2_ok _) E2sy h rfl
        | true =>
          simp only [c1, d1, d2, d3, d4, e3, cond_true, cond_false, Bool.not_true, Bool.not_false, Bool.and_self] at h ⊢
          exact .stopE (S2_ok _) E2sy h (rm2 c hc8 hlt m (by omega)) rfl
  · have e : c.1.2 = [] := List.eq_nil_of_length_eq_zero (by omega)
    simp only [ile_ge0 (show c.1.2.length ≤ 0 by omega), Bool.not_true, cond_false] at h
    rw [e]
    rw [marksS, sandsK]
    cases c1 : ile (c.2.1.2.length : Int) 4 with
    | false =>
      simp only [c1, Bool.not_false, cond_true, cond_false] at h ⊢
      exact done3 (S2_ok _) E2sy h rfl
    | true =>
      simp only [c1, Bool.not_true, cond_true, cond_false] at h ⊢
      have h4 : c.2.1.2.length ≤ 4 := by rw [ile_iff] at c1; simp at c1; omega
      exact .stop (S2_ok _) E2sy h (rs1 c h4 1048575 (by omega))
theorem rchk_call (c : tChart.den) : AnsF E2 54 [tChart.av c] (tup3 (chkS c)) := by
  refine Ans.call (n := 6) (E2ext _ _ (by kernel_rfl)) (hasB_spec (by kernel_rfl)) ?_
  have h := rchk_start c
  unfold chkS
  cases c1 : ile (c.1.2.length : Int) 8 with
  | false =>
    simp only [c1, Bool.not_false, cond_true, cond_false] at h ⊢
    exact done3 (S2_ok _) E2sy h rfl
  | true =>
    simp only [c1, Bool.not_true, cond_true, cond_false] at h ⊢
    have h8 : c.1.2.length ≤ 8 := by rw [ile_iff] at c1; simp at c1; omega
    exact .stop (S2_ok _) E2sy h (rm0 c h8 1048575 (by omega))
end Go.Proofs.YtgcgffnamfbcgaaGreatDoor

/-
  THE POINTS of the compass.
-/
set_option maxRecDepth 100000
namespace Go.Proofs.YtgcgffnamfbcgaaGreatDoor
open Go Go.Eng
noncomputable def vtab : List (Int × Int) := [(0, 1000), (195, 981), (383, 924), (556, 831), (707, 707), (831, 556), (924, 383), (981, 195), (1000, 0), (981, -195), (924, -383), (831, -556), (707, -707), (556, -831), (383, -924), (195, -981), (0, -1000), (-195, -981), (-383, -924), (-556, -831), (-707, -707), (-831, -556), (-924, -383), (-981, -195), (-1000, 0), (-981, 195), (-924, 383), (-831, 556), (-707, 707), (-556, 831), (-383, 924), (-195, 981)]
noncomputable def inV (p : Int) : Bool := ile 0 p && ile p 31
noncomputable def vx (p : Int) : Int := bif inV p then (vtab.getD p.toNat (0, 0)).1 else 0
noncomputable def vy (p : Int) : Int := bif inV p then (vtab.getD p.toNat (0, 0)).2 else 0
noncomputable def ve (p : Int) : Int := bif inV p then 0 else 7
noncomputable def vecA (p : Int) : AV := .tup [.agg [.int .i64 (vx p), .int .i64 (vy p)], .int .i64 (ve p)]
/-- Vectors themselves are left out. -/
noncomputable def SB : Sy := ⟨fun f _ => match Nat.beq f 101 with
  | true => some (false, undefA)
  | false => match Nat.beq f 58 with
    | true => some (false, undefA)
    | false => none, fun _ => false, true, [], false⟩
theorem SB_ok : SB.ok E0 := by
  intro f args v h
  simp only [SB] at h
  split at h
  · simp at h
  · split at h
    · simp at h
    · cases h
noncomputable def chkV (f p : Nat) : Bool := match adv E0 (hdOf []) 3000 (startC E0 f [.int .i64 (Int.ofNat p)] 40) with
  | some (.done v) => avbeq v (vecA (Int.ofNat p))
  | _ => false
end Go.Proofs.YtgcgffnamfbcgaaGreatDoor

/-
  THE ENGINE, 51: data that are read are abstract values.
-/
namespace Go.Eng
open Go

section
variable {H : Type} {P : Program}

/-- Elements of one size, one behind the other. -/
noncomputable def avAll (g : DataW H → Option (List AV)) (sz : Nat) : List (DataW H) → Option (List AV)
  | [] => some []
  | d :: ds => match g d, avAll g sz ds with
    | some l, some r => match Nat.beq l.length sz with
      | true => some (l ++ r)
      | false => none
    | _, _ => none

/-- Fields, one behind the other. -/
noncomputable def avF (P : Program) (g : TypeId → DataW H → Option (List AV)) : Nat → List Field → List (DataW H) → Option (List AV)
  | _, [], [] => some []
  | off, f :: fs, d :: ds => match g f.type d, avF P g (off + P.cellsOf f.type) fs ds with
    | some l, some r => match Nat.beq f.offset off, Nat.beq l.length (P.cellsOf f.type) with
      | true, true => some (l ++ r)
      | _, _ => none
    | _, _ => none
  | _, _, _ => none

/-- All cells of a type. -/
noncomputable def full? (P : Program) (t : TypeId) : Option (List AV) → Option (List AV)
  | some l => match Nat.beq l.length (P.cellsOf t) with
    | true => some l
    | false => none
  | none => none
theorem full?_inv {t : TypeId} {r : Option (List AV)} {l : List AV} (h : full? P t r = some l) : r = some l ∧ l.length = P.cellsOf t := by
  unfold full? at h
  split at h
  · split at h
    · rename_i e
      simp only [Option.some.injEq] at h; subst h
      exact ⟨rfl, Nat.eq_of_beq_eq_true e⟩
    · cases h
  · cases h
/-- The cells of a datum of a type. -/
noncomputable def av (P : Program) : Nat → TypeId → DataW H → Option (List AV)
  | 0, _, _ => none
  | n + 1, t, d => match P.underlying t with
    | some .bool => match d with
      | .lit (.bool b) => some [.bool b]
      | _ => none
    | some (.int _) => match d with
      | .lit (.int k i) => some [.int k i]
      | _ => none
    | some .string => match d with
      | .lit (.string s) => some [.str (s.map (·.toNat))]
      | _ => none
    | some (.pointer e) => match d with
      | .nil => some [.nilp]
      | .ptr d => match Nat.ble 1 (P.cellsOf e) with
        | true => (av P n e d).map fun l => [.cp l 0]
        | false => none
      | _ => none
    | some (.slice e) => match d with
      | .nil => some [.nils]
      | .slice els _ => match Nat.ble 1 (P.cellsOf e) with
        | true => (avAll (av P n e) (P.cellsOf e) els).map fun l => [.csl l els.length]
        | false => none
      | _ => none
    | some (.struct fs) => match d with
      | .agg ps => full? P t (avF P (av P n) 0 fs.toList ps)
      | _ => none
    | some (.array _ e) => match d with
      | .agg ps => full? P t (avAll (av P n e) (P.cellsOf e) ps)
      | _ => none
    | _ => none

theorem avAll_cons {g : DataW H → Option (List AV)} {sz : Nat} {d : DataW H} {ds : List (DataW H)} {l : List AV} (h : avAll g sz (d :: ds) = some l) : ∃ a r, g d = some a ∧ avAll g sz ds = some r ∧ a.length = sz ∧ l = a ++ r := by
  simp only [avAll] at h
  split at h
  · rename_i a r h1 h2
    split at h
    · rename_i e
      simp only [Option.some.injEq] at h
      exact ⟨a, r, h1, h2, Nat.eq_of_beq_eq_true e, h.symm⟩
    · cases h
  · cases h

theorem avF_cons {g : TypeId → DataW H → Option (List AV)} {off : Nat} {f : Field} {fs : List Field} {d : DataW H} {ds : List (DataW H)} {l : List AV} (h : avF P g off (f :: fs) (d :: ds) = some l) :
    ∃ a r, g f.type d = some a ∧ avF P g (off + P.cellsOf f.type) fs ds = some r ∧ f.offset = off ∧ a.length = P.cellsOf f.type ∧ l = a ++ r := by
  simp only [avF] at h
  split at h
  · rename_i a r h1 h2
    split at h
    · rename_i e e2
      simp only [Option.some.injEq] at h
      exact ⟨a, r, h1, h2, Nat.eq_of_beq_eq_true e, Nat.eq_of_beq_eq_true e2, h.symm⟩
    · cases h
  · cases h

variable {enc : TypeId × Value → H} {w : World} {base : Nat} {spare : Nat → Bool} {held : Bool}

/-- A view by which all of memory is known. -/
def seen (w : World) : View := ⟨fun _ => none, fun _ => none, fun b o => w.cell? ⟨b, o, none⟩, fun _ => 0⟩
theorem seen_bare (w : World) : (seen w).bare = seen w := rfl

theorem cells?_get {a : Addr} {n : Nat} {cs : List Value} (h : w.cells? base a n = some cs) : cs.length = n ∧ ∀ j, j < n → w.cell? (a.add j) = cs[j]? := by
  unfold World.cells? at h
  split at h
  · refine ⟨by simpa using mapM_some_length h, fun j hj => ?_⟩
    exact mapM_some_get h j j (by simp [hj])
  · cases h

theorem cell?_spot {a : Addr} {v : Value} (h : w.cell? a = some v) : a.spot = none := by
  unfold World.cell? at h
  split at h
  · split at h
    · cases h
    · rename_i hs; simpa using hs
  · cases h

/-- What is laid one behind the other. -/
def Lies (w : World) (blk o : Nat) (l : List AV) : Prop := ∀ i (hi : i < l.length), ∃ v, w.cell? ⟨blk, o + i, none⟩ = some v ∧ VR (seen w) l[i] v

theorem Lies.append {blk o : Nat} {l r : List AV} (h : Lies w blk o l) (k : Lies w blk (o + l.length) r) : Lies w blk o (l ++ r) := by
  intro i hi
  by_cases hl : i < l.length
  · rw [List.getElem_append_left hl]; exact h i hl
  · have hi' : i - l.length < r.length := by rw [List.length_append] at hi; omega
    rw [List.getElem_append_right (by omega)]
    obtain ⟨v, h1, h2⟩ := k (i - l.length) hi'
    rw [show o + l.length + (i - l.length) = o + i by omega] at h1
    exact ⟨v, h1, h2⟩

theorem Lies.of {blk o : Nat} {l : List AV} {cs : List Value} (h : VRs (seen w) l cs) (hc : ∀ j, j < cs.length → w.cell? ⟨blk, o + j, none⟩ = cs[j]?) : Lies w blk o l := by
  intro i hi
  have hi' : i < cs.length := h.1 ▸ hi
  exact ⟨cs[i], by rw [hc i hi']; simp [hi'], h.2 i hi hi'⟩

theorem Lies.choose {blk o : Nat} {l : List AV} (h : Lies w blk o l) : ∃ f : Nat → Value, (∀ i, i < l.length → (seen w).K blk (o + i) = some (f i)) ∧ ∀ i (hi : i < l.length), VR (seen w).bare l[i] (f i) := by
  refine ⟨fun i => (w.cell? ⟨blk, o + i, none⟩).getD undef, fun i hi => ?_, fun i hi => ?_⟩
  · obtain ⟨v, h1, _⟩ := h i hi
    show w.cell? ⟨blk, o + i, none⟩ = _
    simp [h1]
  · obtain ⟨v, h1, h2⟩ := h i hi
    simp only [h1, Option.getD_some]
    exact h2

theorem spot_add {a : Addr} (hs : a.spot = none) (n : Nat) : a.add n = ⟨a.block, a.off + n, none⟩ := by
  obtain ⟨blk, off, spot⟩ := a
  simp only at hs; subst hs
  unfold Addr.add
  split
  · rename_i h; subst h; rfl
  · rfl
theorem spot_add2 {a : Addr} (hs : a.spot = none) (n m : Nat) : (a.add n).add m = a.add (n + m) := by
  rw [spot_add hs, spot_add rfl, spot_add hs, Nat.add_assoc]

theorem trod_parts {g : TypeId → List Value → Option (DataW H × List MemPlace)} {n : Nat} (ih : ∀ t cs d p l, g t cs = some (d, p) → av P n t d = some l → VRs (seen w) l cs) (cs : List Value) :
    ∀ (fs : List Field) (off : Nat) (xs : List (DataW H × List MemPlace)) (l : List AV), (∀ (i : Nat) (f : Field), fs[i]? = some f → g f.type ((cs.drop f.offset).take (P.cellsOf f.type)) = xs[i]?) → avF P (av P n) off fs (xs.map (·.1)) = some l → VRs (seen w) l ((cs.drop off).take l.length)
  | [], off, xs, l, h, hl => by
    cases xs with
    | nil =>
      simp only [List.map_nil, avF, Option.some.injEq] at hl; subst hl
      simpa using VRs.nil _
    | cons x xs => simp [avF] at hl
  | f :: fs, off, [], l, h, hl => by simp [avF] at hl
  | f :: fs, off, x :: xs, l, h, hl => by
    rw [List.map_cons] at hl
    obtain ⟨a, r, h1, h2, h3, h4, rfl⟩ := avF_cons hl
    have hx := h 0 f rfl
    rw [List.getElem?_cons_zero] at hx
    have e1 := ih _ _ _ x.2 a hx h1
    have e2 := trod_parts ih cs fs _ xs r (fun i f hf => by have := h (i + 1) f (by simpa using hf); simpa using this) h2
    rw [h3] at e1
    rw [List.length_append, h4, List.take_add, List.drop_drop]
    exact e1.append e2

theorem trod_elems {g : List Value → Option (DataW H × List MemPlace)} {n sz : Nat} {e : TypeId} (ih : ∀ cs d p l, g cs = some (d, p) → av P n e d = some l → VRs (seen w) l cs) (cs : List Value) :
    ∀ (i : Nat) (xs : List (DataW H × List MemPlace)) (l : List AV), (∀ j, j < xs.length → g ((cs.drop ((i + j) * sz)).take sz) = xs[j]?) → avAll (av P n e) sz (xs.map (·.1)) = some l → VRs (seen w) l ((cs.drop (i * sz)).take l.length)
  | i, [], l, h, hl => by
    simp only [List.map_nil, avAll, Option.some.injEq] at hl; subst hl
    simpa using VRs.nil _
  | i, x :: xs, l, h, hl => by
    rw [List.map_cons] at hl
    obtain ⟨a, r, h1, h2, h4, rfl⟩ := avAll_cons hl
    have hx := h 0 (by simp)
    rw [List.getElem?_cons_zero] at hx
    have e1 := ih _ _ x.2 a hx h1
    have e2 := trod_elems ih cs (i + 1) xs r (fun j hj => by have := h (j + 1) (by simpa using hj); rw [show i + 1 + j = i + (j + 1) by omega]; simpa using this) h2
    rw [List.length_append, h4, List.take_add, List.drop_drop]
    rw [show i * sz + sz = (i + 1) * sz by rw [Nat.add_mul, Nat.one_mul]]
    exact e1.append e2

theorem trod_lies {g : List Value → Option (DataW H × List MemPlace)} {n sz : Nat} {e : TypeId} (ih : ∀ cs d p l, g cs = some (d, p) → av P n e d = some l → VRs (seen w) l cs) (a : Addr) (hs : a.spot = none) :
    ∀ (i : Nat) (xs : List (DataW H × List MemPlace)) (l : List AV), (∀ j, j < xs.length → (w.cells? base (a.add ((i + j) * sz)) sz).bind g = xs[j]?) → avAll (av P n e) sz (xs.map (·.1)) = some l → Lies w a.block (a.off + i * sz) l
  | i, [], l, h, hl => by
    simp only [List.map_nil, avAll, Option.some.injEq] at hl; subst hl
    intro i hi; simp at hi
  | i, x :: xs, l, h, hl => by
    rw [List.map_cons] at hl
    obtain ⟨b, r, h1, h2, h4, rfl⟩ := avAll_cons hl
    have hx := h 0 (by simp)
    rw [List.getElem?_cons_zero, Option.bind_eq_some_iff] at hx
    obtain ⟨cs, hc, hx⟩ := hx
    have e1 := ih _ _ x.2 b hx h1
    have e2 := trod_lies ih a hs (i + 1) xs r (fun j hj => by have := h (j + 1) (by simpa using hj); rw [show i + 1 + j = i + (j + 1) by omega]; simpa using this) h2
    obtain ⟨c1, c2⟩ := cells?_get hc
    refine Lies.append (Lies.of e1 fun j hj => ?_) ?_
    · rw [← c2 j (c1 ▸ hj), spot_add hs]
      rw [show a.off + i * sz + j = a.off + ((i + 0) * sz + j) by rw [Nat.add_zero]; omega]
      rw [← spot_add hs, ← spot_add2 hs, spot_add hs]
    · rw [h4, show a.off + i * sz + sz = a.off + (i + 1) * sz by rw [Nat.add_mul, Nat.one_mul]; omega]
      exact e2

theorem trod_av (hsp : ∀ b, spare b = true) : ∀ (n m : Nat) (t : TypeId) (cs : List Value) (d : DataW H) (p : List MemPlace) (l : List AV), DataW.trod enc P w base spare held m t cs = some (d, p) → av P n t d = some l → VRs (seen w) l cs
  | 0, m, t, cs, d, p, l, h, hl => by simp [av] at hl
  | n + 1, m, t, cs, d, p, l, h, hl => by
    have ih := fun m t cs d p l (h : DataW.trod enc P w base spare held m t cs = some (d, p)) (hl : av P n t d = some l) => trod_av hsp n m t cs d p l h hl
    rw [av.eq_def] at hl
    simp only at hl
    split at hl
    · rename_i hu
      obtain ⟨b, rfl, hx⟩ := DataW.trod_bool hu h
      cases hx
      cases hl
      exact .cons (.bool _) (.nil _)
    · rename_i hu
      obtain ⟨i, rfl, hx, _⟩ := DataW.trod_int hu h
      cases hx
      cases hl
      exact .cons (.int _ _) (.nil _)
    · rename_i hu
      obtain ⟨s, rfl, hx, _⟩ := DataW.trod_string hu h
      cases hx
      cases hl
      exact .cons (.str _) (.nil _)
    · rename_i e hu
      rcases DataW.trod_pointer hu h with ⟨rfl, hx⟩ | ⟨a, cs', y, k, rfl, rfl, hx, hc, hy⟩
      · cases hx
        cases hl
        exact .cons .nilp (.nil _)
      · cases hx
        simp only at hl
        split at hl
        · rename_i hz
          have hz := Nat.le_of_ble_eq_true hz
          simp only [Option.map_eq_some_iff] at hl
          obtain ⟨l', hl', rfl⟩ := hl
          have e1 := ih _ _ _ _ y.2 _ hy hl'
          obtain ⟨c1, c2⟩ := cells?_get hc
          have hs : a.spot = none := by
            have := c2 0 (by omega)
            rw [List.getElem?_eq_getElem (by omega)] at this
            exact cell?_spot (a := a.add 0) this
          have hL : Lies w a.block a.off l' := Lies.of e1 fun j hj => by rw [← c2 j (c1 ▸ hj), spot_add hs]
          obtain ⟨f, f1, f2⟩ := hL.choose
          refine .cons ?_ (.nil _)
          obtain ⟨blk, off, spot⟩ := a
          simp only at hs; subst hs
          exact .cp l' 0 blk off f f1 f2
        · cases hl
    · rename_i e hu
      rcases DataW.trod_slice hu h with ⟨rfl, hx⟩ | ⟨a, len, cap, els, rest, k, rfl, rfl, hx, hb, hlc, _, hlen, h1, h2, _⟩
      · cases hx
        cases hl
        exact .cons .nils (.nil _)
      · cases hx
        simp only at hl
        split at hl
        · rename_i hz
          have hz := Nat.le_of_ble_eq_true hz
          simp only [Option.map_eq_some_iff] at hl
          obtain ⟨l', hl', rfl⟩ := hl
          obtain ⟨h2l, h2⟩ := h2 (hsp _)
          have hone : cap ≠ 0 → ∃ x, ((w.cells? base (a.add (0 * P.cellsOf e)) (P.cellsOf e)).bind (DataW.trod enc P w base spare held k e)) = some x := by
            intro hc0
            by_cases hl0 : len = 0
            · have := h2 0 (by omega)
              rw [List.getElem?_eq_getElem (by omega)] at this
              subst hl0
              exact ⟨_, by simpa using this⟩
            · have := h1 0 (by omega)
              rw [List.getElem?_eq_getElem (by omega)] at this
              exact ⟨_, this⟩
          have hs : cap = 0 ∨ a.spot = none := by
            by_cases hc0 : cap = 0
            · exact .inl hc0
            · right
              obtain ⟨x, hx⟩ := hone hc0
              rw [Option.bind_eq_some_iff] at hx
              obtain ⟨cs', hc, _⟩ := hx
              obtain ⟨c1, c2⟩ := cells?_get hc
              have := c2 0 (by omega)
              rw [List.getElem?_eq_getElem (by omega)] at this
              have := cell?_spot this
              simpa [Addr.add] using this
          have hL : Lies w a.block a.off l' := by
            rcases hs with hc0 | hs
            · have : els = [] := List.eq_nil_of_length_eq_zero (by omega)
              subst this
              simp only [List.map_nil, avAll, Option.some.injEq] at hl'; subst hl'
              intro i hi; simp at hi
            · have := trod_lies (w := w) (base := base) (g := DataW.trod enc P w base spare held k e) (n := n) (sz := P.cellsOf e) (e := e) (fun cs d p l h hl => ih _ e cs d p l h hl) a hs 0 els l' (fun j hj => by rw [Nat.zero_add]; exact h1 j (by omega)) hl'
              simpa using this
          obtain ⟨f, f1, f2⟩ := hL.choose
          refine .cons ?_ (.nil _)
          rw [show (els.map (·.1)).length = len by rw [List.length_map, hlen]]
          refine .csl l' len a.block a.off cap a f f1 f2 hlc (hs.imp (fun x => x) fun x => ?_)
          obtain ⟨blk, off, spot⟩ := a
          simp only at x; subst x; rfl
        · cases hl
    · rename_i fs hu
      obtain ⟨xs, k, rfl, hx, hlen, _, h1⟩ := DataW.trod_struct hu h
      cases hx
      simp only at hl
      obtain ⟨hl, hn⟩ := full?_inv hl
      have := trod_parts (w := w) (g := DataW.trod enc P w base spare held k) (fun t cs d p l h hl => ih k t cs d p l h hl) cs fs.toList 0 xs l (fun i f hf => h1 i f (by simpa using hf)) hl
      rw [List.drop_zero, hn, ← hlen, List.take_length] at this
      exact this
    · rename_i k e hu
      split at hl
      · rename_i ps
        obtain ⟨xs, k, rfl, hx, hlen, hxl, h1⟩ := DataW.trod_array hu h
        cases hx
        obtain ⟨hl, hn⟩ := full?_inv hl
        have := trod_elems (w := w) (g := DataW.trod enc P w base spare held k e) (n := n) (sz := P.cellsOf e) (e := e) (fun cs d p l h hl => ih k e cs d p l h hl) cs 0 xs l (fun j hj => by rw [Nat.zero_add]; exact h1 j (by omega)) hl
        rw [Nat.zero_mul, List.drop_zero, hn, ← hlen, List.take_length] at this
        exact this
      · cases hl
    · cases hl
end
end Go.Eng

/-
  THE ENGINE, 52: from what the engine answers of a law of no parameters to what its row says.
-/
namespace Go.Eng
open Go

section
variable {P : Program}

/-- What a run that turns nothing of one's own keeps. -/
theorem kept_of_fr {W W' : World} (h : Fr (fun _ => False) W W') (may : MemPlace → Prop) : W.keptBut W' may := by
  refine ⟨h.os, h.output, fun i hi => ?_⟩
  rw [h.block i hi (fun x => x)]
  split
  · rename_i h1 h2
    rw [h1] at h2
    cases h2
    exact ⟨rfl, rfl, rfl, fun _ _ => rfl⟩
  · rename_i h1 h2
    rw [h1] at h2
    cases h2
    exact .inr ⟨rfl, rfl⟩
  · rfl

/-- Does a listed variable hold these cells? -/
noncomputable def glB (P : Program) : List (String × DataW Unit) → Nat → List AV → Bool
  | [], _, _ => false
  | (n, d) :: r, g, l => match (match P.globalNamed n with | some g' => Nat.beq g' g | none => false) with
    | true => match P.globals[g]? with
      | some i => match av P 40 i.type d with
        | some l' => avbeqL l' l
        | none => false
      | none => false
    | false => glB P r g l

theorem glB_spec : ∀ {laid : List (String × DataW Unit)} {g : Nat} {l : List AV}, glB P laid g l = true → ∃ n d i, (n, d) ∈ laid ∧ P.globalNamed n = some g ∧ P.globals[g]? = some i ∧ av P 40 i.type d = some l
  | [], g, l, h => by simp [glB] at h
  | (n, d) :: r, g, l, h => by
    rw [glB] at h
    split at h
    · rename_i e
      split at e
      · rename_i g' hg
        have := Nat.eq_of_beq_eq_true e; subst this
        split at h
        · rename_i i hi
          split at h
          · rename_i l' hl
            have := avbeqL_eq _ _ h; subst this
            exact ⟨n, d, i, List.mem_cons_self, hg, hi, hl⟩
          · cases h
        · cases h
      · cases e
    · obtain ⟨n', d', i, h1, h2⟩ := glB_spec h
      exact ⟨n', d', i, List.mem_cons_of_mem _ h1, h2⟩

/-- What is known of variables, from what is laid. -/
theorem glob_of {E : Env} {laid : List (String × DataW Unit)} {gl : Tr (List AV)} (hE : E.glob = gl.get) (h : allT (glB P laid) gl (fun k => k) = true) {W : World} (hL : laidMet P laid W) : GlobK E (seen W) := by
  intro g l hg
  rw [hE] at hg
  obtain ⟨n, d, i, h1, h2, h3, h4⟩ := glB_spec (allT_spec _ _ h _ _ hg)
  obtain ⟨g', t, cs, fuel, p, k1, k2, k3, k4⟩ := Lib.laidMet.reads hL h1
  obtain rfl := Option.some.inj (h2.symm.trans k1)
  rw [h3] at k2
  simp only [Option.map_some, Option.some.injEq] at k2
  subst k2
  have hv := trod_av (w := W) (fun _ => rfl) _ _ _ _ _ _ _ k4 h4
  refine ⟨fun i => (cs[i]?).getD undef, fun i hi => ?_⟩
  have hi' : i < cs.toList.length := hv.1 ▸ hi
  have hc := World.var?_cell h2 k3 i
  have e : cs[i]? = some cs[i] := by simp [show i < cs.size by simpa using hi']
  refine ⟨?_, ?_⟩
  · show W.cell? ⟨g, i, none⟩ = _
    show _ = some ((cs[i]?).getD undef)
    rw [hc, e]; rfl
  · show VR (seen W) l[i] ((cs[i]?).getD undef)
    rw [e]
    have := hv.2 i hi hi'
    simpa using this

/-- Behind a law of no parameters. -/
theorem post0 {H : Type} {enc : TypeId × Value → H} {f : Func} {s : ChangeSpec} {W W' : World} {t : TypeId} (hp : f.params = #[]) (hr : f.resultTypes = #[t]) (ht : P.underlying t = some .bool) (hv : s.vars = [])
    (hs : s.fn H [] = { results := [.lit (.bool true)], args := [] }) {ds gs : List (DataW H)} {before : List MemPlace} (hW : DataW.Whole enc P f.params.toList s.vars false W [] ds gs before) (h : Fr (fun _ => False) W W') :
    s.post enc P f false true false false W #[] (.bool true) W' := by
  obtain ⟨p, q, h1, h2, h3, h4, h5⟩ := hW
  have h1' := h1
  have h2' := h2
  rw [hp] at h1'
  rw [hv] at h2'
  have e1 : ds = [] := by
    cases ds with
    | nil => rfl
    | cons d ds => exact absurd h1' (fun h => by cases h)
  have e2 : gs = [] := by
    cases gs with
    | nil => rfl
    | cons d ds => exact absurd h2' (fun h => by cases h)
  subst e1; subst e2
  refine ⟨[], [], before, [], [], [], ⟨p, q, h1, h2, h3, h4, h5⟩, ?_, ?_, ?_, kept_of_fr h _, fun h => by cases h⟩
  · rw [List.nil_append, hs, hr]
    exact Go.ChangeShapes.trodAll_mk1 ⟨1, by simp [DataW.trod, Value.cells, ht]⟩
  · rw [List.nil_append, hs, hp]
    rfl
  · rw [List.nil_append, hs, hv]
    rfl

/-- A law of no parameters that the engine finds true. -/
theorem law0 {T : Tabs} {E : Env} (hE : EnvOK P E) (hX : ExtOK P E) (hN : NameOK E) (hmix : P.follows .mixedOrders = true) (hgl : E.glob = T.gl.get) {laid : List (String × DataW Unit)} (hl : allT (glB P laid) T.gl (fun k => k) = true) {n f : Nat} (h : isTrue E n f = true)
    {W : World} (hL : laidMet P laid W) : Calls P f #[] W fun e W' => e = .returned (.bool true) ∧ Fr (fun _ => False) W W' :=
  calls_true hE hX hN hmix h (V := seen W) (fun _ _ _ h => h) (glob_of hgl hl hL)
end
end Go.Eng

/-
  THE ENGINE, 68: data that are read are plain data of a type.
-/
namespace Go.Eng
open Go

mutual
/-- Is a type of the program read as data of this kind? -/
noncomputable def fits (P : Program) : Ty → TypeId → Bool
  | .int k, T => match P.underlying T with
    | some (.int k') => ikb k k'
    | _ => false
  | .bool, T => match P.underlying T with
    | some .bool => true
    | _ => false
  | .str, T => match P.underlying T with
    | some .string => true
    | _ => false
  | .nil, T => match P.underlying T with
    | some (.struct fs) => match fs.toList with
      | [] => Nat.beq 0 (P.cellsOf T)
      | _ => false
    | _ => false
  | .cons a b, T => match P.underlying T with
    | some (.struct fs) => match fs.toList with
      | f :: fs => Nat.beq f.offset 0 && fits P a f.type && Nat.beq a.size (P.cellsOf f.type) && fitsF P b a.size fs && Nat.beq (a.size + b.size) (P.cellsOf T)
      | [] => false
    | some (.array n e) => match n with
      | n + 1 => fits P a e && Nat.beq a.size (P.cellsOf e) && fitsA P b n e && Nat.beq (a.size + b.size) (P.cellsOf T)
      | 0 => false
    | _ => false
  | .sl t, T => match P.underlying T with
    | some (.slice e) => fits P t e && Nat.beq t.size (P.cellsOf e) && Nat.ble 1 t.size
    | _ => false
noncomputable def fitsF (P : Program) : Ty → Nat → List Field → Bool
  | .nil, _, fs => match fs with
    | [] => true
    | _ => false
  | .cons a b, off, fs => match fs with
    | f :: fs => Nat.beq f.offset off && fits P a f.type && Nat.beq a.size (P.cellsOf f.type) && fitsF P b (off + a.size) fs
    | [] => false
  | _, _, _ => false
noncomputable def fitsA (P : Program) : Ty → Nat → TypeId → Bool
  | .nil, n, _ => Nat.beq n 0
  | .cons a b, n, e => match n with
    | n + 1 => fits P a e && Nat.beq a.size (P.cellsOf e) && fitsA P b n e
    | 0 => false
  | _, _, _ => false
end

/-- Numbers are those of their kinds. -/
noncomputable def Ty.wf : (t : Ty) → t.den → Bool
  | .int k, n => decide (k.min ≤ n) && decide (n ≤ k.max)
  | .bool, _ => true
  | .str, _ => true
  | .nil, _ => true
  | .cons t ts, d => t.wf d.1 && ts.wf d.2
  | .sl t, d => d.2.all fun x => t.wf x

section
variable {H : Type} {P : Program} {enc : TypeId × Value → H} {w : World} {base : Nat} {spare : Nat → Bool} {held : Bool}

theorem lies_ty {g : List Value → Option (DataW H × List MemPlace)} {t : Ty} (ih : ∀ cs d p, g cs = some (d, p) → ∃ x : t.den, VRs (seen w) (t.cells x) cs ∧ t.wf x = true) (a : Addr) (hs : a.spot = none) :
    ∀ (i : Nat) (xs : List (DataW H × List MemPlace)), (∀ j, j < xs.length → (w.cells? base (a.add ((i + j) * t.size)) t.size).bind g = xs[j]?) → ∃ l : List t.den, l.length = xs.length ∧ Lies w a.block (a.off + i * t.size) (flat t l) ∧ (l.all fun x => t.wf x) = true
  | i, [], h => ⟨[], rfl, fun i hi => by simp [flat] at hi, rfl⟩
  | i, x :: xs, h => by
    have hx := h 0 (by simp)
    rw [List.getElem?_cons_zero, Option.bind_eq_some_iff] at hx
    obtain ⟨cs, hc, hx⟩ := hx
    obtain ⟨d, e1, w1⟩ := ih _ x.1 x.2 hx
    obtain ⟨l, hl, e2, w2⟩ := lies_ty ih a hs (i + 1) xs (fun j hj => by have := h (j + 1) (by simpa using hj); rw [show i + 1 + j = i + (j + 1) by omega]; simpa using this)
    obtain ⟨c1, c2⟩ := cells?_get hc
    refine ⟨d :: l, by simp [hl], ?_, by rw [List.all_cons, w1, w2]; rfl⟩
    show Lies w a.block (a.off + i * t.size) (t.cells d ++ flat t l)
    refine Lies.append (Lies.of e1 fun j hj => ?_) ?_
    · rw [← c2 j (c1 ▸ hj), spot_add hs]
      rw [show a.off + i * t.size + j = a.off + ((i + 0) * t.size + j) by rw [Nat.add_zero]; omega]
      rw [← spot_add hs, ← spot_add2 hs, spot_add hs]
    · rw [Ty.cells_length, show a.off + i * t.size + t.size = a.off + (i + 1) * t.size by rw [Nat.add_mul, Nat.one_mul]; omega]
      exact e2

mutual
theorem trod_ty (hsp : ∀ b, spare b = true) : ∀ (t : Ty) (T : TypeId) (m : Nat) (cs : List Value) (d : DataW H) (p : List MemPlace), fits P t T = true → DataW.trod enc P w base spare held m T cs = some (d, p) → ∃ x : t.den, VRs (seen w) (t.cells x) cs ∧ t.wf x = true
  | .int k, T, m, cs, d, p, hf, h => by
    simp only [fits] at hf
    split at hf
    · rename_i k' hu
      obtain ⟨i, rfl, hx, hw⟩ := DataW.trod_int hu h
      have := ikb_eq hf; subst this
      exact ⟨i, .cons (.int _ _) (.nil _), hw⟩
    · cases hf
  | .bool, T, m, cs, d, p, hf, h => by
    simp only [fits] at hf
    split at hf
    · rename_i hu
      obtain ⟨b, rfl, hx⟩ := DataW.trod_bool hu h
      exact ⟨b, .cons (.bool _) (.nil _), rfl⟩
    · cases hf
  | .str, T, m, cs, d, p, hf, h => by
    simp only [fits] at hf
    split at hf
    · rename_i hu
      obtain ⟨s, rfl, hx, _⟩ := DataW.trod_string hu h
      exact ⟨_, .cons (.str _) (.nil _), rfl⟩
    · cases hf
  | .nil, T, m, cs, d, p, hf, h => by
    simp only [fits] at hf
    split at hf
    · rename_i fs hu
      split at hf
      · have hc := Nat.eq_of_beq_eq_true hf
        obtain ⟨xs, k, rfl, hx, hlen, _, h1⟩ := DataW.trod_struct hu h
        have : cs = [] := List.eq_nil_of_length_eq_zero (by rw [hlen]; omega)
        subst this
        exact ⟨(), .nil _, rfl⟩
      · cases hf
    · cases hf
  | .cons a b, T, m, cs, d, p, hf, h => by
    simp only [fits] at hf
    split at hf
    · rename_i fs hu
      split at hf
      · rename_i f fs' hfs
        simp only [Bool.and_eq_true] at hf
        obtain ⟨⟨⟨⟨f1, f2⟩, f3⟩, f4⟩, f5⟩ := hf
        have f1 := Nat.eq_of_beq_eq_true f1
        have f3 := Nat.eq_of_beq_eq_true f3
        have f5 := Nat.eq_of_beq_eq_true f5
        obtain ⟨xs, k, rfl, hx, hlen, hxl, h1⟩ := DataW.trod_struct hu h
        have hi0 := h1 0 f (by have : fs[0]? = some f := by rw [← Array.getElem?_toList, hfs]; rfl
                               exact this)
        cases xs with
        | nil =>
          exfalso
          have h0 : fs.toList.length = 0 := by
            have := hxl
            simp at this
            simp [this]
          rw [hfs] at h0; simp at h0
        | cons y ys =>
          rw [List.getElem?_cons_zero] at hi0
          obtain ⟨u, e1, w1⟩ := trod_ty hsp a _ _ _ y.1 y.2 f2 hi0
          have hl2 : fs'.length = ys.length := by
            have h0 : fs.toList.length = fs'.length + 1 := by rw [hfs]; rfl
            have := hxl
            simp at this h0
            omega
          obtain ⟨v, e2, w2⟩ := trod_tyF hsp b k a.size fs' ys cs hl2 (fun i g hg => by
            have := h1 (i + 1) g (by rw [← Array.getElem?_toList, hfs]; simpa using hg)
            simpa using this) f4
          refine ⟨(u, v), ?_, by show (a.wf u && b.wf v) = true; rw [w1, w2]; rfl⟩
          show VRs (seen w) (a.cells u ++ b.cells v) cs
          rw [f1, ← f3, List.drop_zero] at e1
          have := e1.append e2
          rw [← List.take_add, f5, ← hlen, List.take_length] at this
          exact this
      · cases hf
    · rename_i n0 e hu
      split at hf
      · rename_i n
        simp only [Bool.and_eq_true] at hf
        obtain ⟨⟨⟨f1, f2⟩, f3⟩, f4⟩ := hf
        have f2 := Nat.eq_of_beq_eq_true f2
        have f4 := Nat.eq_of_beq_eq_true f4
        obtain ⟨xs, k, rfl, hx, hlen, hxl, h1⟩ := DataW.trod_array hu h
        cases xs with
        | nil => simp at hxl
        | cons y ys =>
          have hi0 := h1 0 (by omega)
          rw [List.getElem?_cons_zero, Nat.zero_mul, List.drop_zero] at hi0
          obtain ⟨u, e1, w1⟩ := trod_ty hsp a _ _ _ y.1 y.2 f1 hi0
          obtain ⟨v, e2, w2⟩ := trod_tyA hsp b k a.size n e ys cs (by simpa using hxl) (fun i hi => by
            have := h1 (i + 1) (by omega)
            rw [List.getElem?_cons_succ] at this
            rw [f2, show P.cellsOf e + i * P.cellsOf e = (i + 1) * P.cellsOf e by rw [Nat.add_mul, Nat.one_mul, Nat.add_comm]]
            exact this) f3
          refine ⟨(u, v), ?_, by show (a.wf u && b.wf v) = true; rw [w1, w2]; rfl⟩
          show VRs (seen w) (a.cells u ++ b.cells v) cs
          rw [← f2] at e1
          have := e1.append e2
          rw [← List.take_add, f4, ← hlen, List.take_length] at this
          exact this
      · cases hf
    · cases hf
  | .sl t, T, m, cs, d, p, hf, h => by
    simp only [fits] at hf
    split at hf
    · rename_i e hu
      simp only [Bool.and_eq_true] at hf
      obtain ⟨⟨f1, f2⟩, f3⟩ := hf
      have f2 := Nat.eq_of_beq_eq_true f2
      have hz := Nat.le_of_ble_eq_true f3
      rcases DataW.trod_slice hu h with ⟨rfl, hx⟩ | ⟨a, len, cap, els, rest, k, rfl, rfl, hx, hb, hlc, _, hlen, h1, h2, _⟩
      · exact ⟨(true, []), .cons (.vsn _) (.nil _), rfl⟩
      · obtain ⟨h2l, h2⟩ := h2 (hsp _)
        have hone : cap ≠ 0 → ∃ x, ((w.cells? base (a.add (0 * P.cellsOf e)) (P.cellsOf e)).bind (DataW.trod enc P w base spare held k e)) = some x := by
          intro hc0
          by_cases hl0 : len = 0
          · have := h2 0 (by omega)
            rw [List.getElem?_eq_getElem (by omega)] at this
            subst hl0
            exact ⟨_, by simpa using this⟩
          · have := h1 0 (by omega)
            rw [List.getElem?_eq_getElem (by omega)] at this
            exact ⟨_, this⟩
        have hs : cap = 0 ∨ a.spot = none := by
          by_cases hc0 : cap = 0
          · exact .inl hc0
          · right
            obtain ⟨x, hx⟩ := hone hc0
            rw [Option.bind_eq_some_iff] at hx
            obtain ⟨cs', hc, _⟩ := hx
            obtain ⟨c1, c2⟩ := cells?_get hc
            have := c2 0 (by omega)
            rw [List.getElem?_eq_getElem (by omega)] at this
            have := cell?_spot this
            simpa [Addr.add] using this
        have hL : ∃ l : List t.den, l.length = len ∧ Lies w a.block a.off (flat t l) ∧ (l.all fun x => t.wf x) = true := by
          rcases hs with hc0 | hs
          · exact ⟨[], by simp; omega, fun i hi => by simp [flat] at hi, rfl⟩
          · obtain ⟨l, g1, g2, g3⟩ := lies_ty (w := w) (base := base) (g := DataW.trod enc P w base spare held k e) (t := t) (fun cs d p h => trod_ty hsp t e k cs d p f1 h) a hs 0 els (fun j hj => by rw [Nat.zero_add, f2]; exact h1 j (by omega))
            exact ⟨l, by rw [g1, hlen], by simpa using g2, g3⟩
        obtain ⟨l, hll, hL, hwf⟩ := hL
        obtain ⟨f, g1, g2⟩ := hL.choose
        subst hll
        refine ⟨(false, l), .cons ?_ (.nil _), hwf⟩
        refine .vs t l a.block a.off cap a f g1 g2 hlc (hs.imp (fun x => x) fun x => ?_)
        obtain ⟨blk, off, spot⟩ := a
        simp only at x; subst x; rfl
    · cases hf
theorem trod_tyF (hsp : ∀ b, spare b = true) : ∀ (t : Ty) (m off : Nat) (fs : List Field) (xs : List (DataW H × List MemPlace)) (cs : List Value), fs.length = xs.length → (∀ (i : Nat) (f : Field), fs[i]? = some f → DataW.trod enc P w base spare held m f.type ((cs.drop f.offset).take (P.cellsOf f.type)) = xs[i]?) → fitsF P t off fs = true → ∃ x : t.den, VRs (seen w) (t.cells x) ((cs.drop off).take t.size) ∧ t.wf x = true
  | .nil, m, off, fs, xs, cs, hn, h, hf => ⟨(), by show VRs _ [] (List.take 0 _); exact .nil _, rfl⟩
  | .cons a b, m, off, fs, xs, cs, hn, h, hf => by
    simp only [fitsF] at hf
    split at hf
    · rename_i f fs
      simp only [Bool.and_eq_true] at hf
      obtain ⟨⟨⟨f1, f2⟩, f3⟩, f4⟩ := hf
      have f1 := Nat.eq_of_beq_eq_true f1
      have f3 := Nat.eq_of_beq_eq_true f3
      have hi0 := h 0 f rfl
      cases xs with
      | nil =>
        exfalso
        simp at hn
      | cons y ys =>
        rw [List.getElem?_cons_zero] at hi0
        obtain ⟨u, e1, w1⟩ := trod_ty hsp a _ _ _ y.1 y.2 f2 hi0
        obtain ⟨v, e2, w2⟩ := trod_tyF hsp b m (off + a.size) fs ys cs (by simpa using hn) (fun i g hg => by
          have := h (i + 1) g (by simpa using hg)
          simpa using this) f4
        refine ⟨(u, v), ?_, by show (a.wf u && b.wf v) = true; rw [w1, w2]; rfl⟩
        show VRs (seen w) (a.cells u ++ b.cells v) (List.take (a.size + b.size) (cs.drop off))
        rw [f1, ← f3] at e1
        rw [List.take_add, List.drop_drop]
        exact e1.append e2
    · cases hf
  | .int _, m, off, fs, xs, cs, hn, h, hf => by simp [fitsF] at hf
  | .bool, m, off, fs, xs, cs, hn, h, hf => by simp [fitsF] at hf
  | .str, m, off, fs, xs, cs, hn, h, hf => by simp [fitsF] at hf
  | .sl _, m, off, fs, xs, cs, hn, h, hf => by simp [fitsF] at hf
theorem trod_tyA (hsp : ∀ b, spare b = true) : ∀ (t : Ty) (m off n : Nat) (e : TypeId) (xs : List (DataW H × List MemPlace)) (cs : List Value), xs.length = n → (∀ i, i < n → DataW.trod enc P w base spare held m e ((cs.drop (off + i * P.cellsOf e)).take (P.cellsOf e)) = xs[i]?) → fitsA P t n e = true → ∃ x : t.den, VRs (seen w) (t.cells x) ((cs.drop off).take t.size) ∧ t.wf x = true
  | .nil, m, off, n, e, xs, cs, hn, h, hf => ⟨(), by show VRs _ [] (List.take 0 _); exact .nil _, rfl⟩
  | .cons a b, m, off, n, e, xs, cs, hn, h, hf => by
    simp only [fitsA] at hf
    split at hf
    · rename_i n
      simp only [Bool.and_eq_true] at hf
      obtain ⟨⟨f1, f2⟩, f3⟩ := hf
      have f2 := Nat.eq_of_beq_eq_true f2
      cases xs with
      | nil => simp at hn
      | cons y ys =>
        have hi0 := h 0 (by omega)
        rw [List.getElem?_cons_zero, Nat.zero_mul, Nat.add_zero] at hi0
        obtain ⟨u, e1, w1⟩ := trod_ty hsp a _ _ _ y.1 y.2 f1 hi0
        obtain ⟨v, e2, w2⟩ := trod_tyA hsp b m (off + a.size) n e ys cs (by simpa using hn) (fun i hi => by
          have := h (i + 1) (by omega)
          rw [List.getElem?_cons_succ] at this
          rw [f2, show off + P.cellsOf e + i * P.cellsOf e = off + (i + 1) * P.cellsOf e by rw [Nat.add_mul, Nat.one_mul]; omega]
          exact this) f3
        refine ⟨(u, v), ?_, by show (a.wf u && b.wf v) = true; rw [w1, w2]; rfl⟩
        show VRs (seen w) (a.cells u ++ b.cells v) (List.take (a.size + b.size) (cs.drop off))
        rw [← f2] at e1
        rw [List.take_add, List.drop_drop]
        exact e1.append e2
    · cases hf
  | .int _, m, off, n, e, xs, cs, hn, h, hf => by simp [fitsA] at hf
  | .bool, m, off, n, e, xs, cs, hn, h, hf => by simp [fitsA] at hf
  | .str, m, off, n, e, xs, cs, hn, h, hf => by simp [fitsA] at hf
  | .sl _, m, off, n, e, xs, cs, hn, h, hf => by simp [fitsA] at hf
end
end
end Go.Eng

/-
  THE ENGINE, 56: calls said ahead, made for the kernel.
-/
namespace Go.Eng
open Go

attribute [local irreducible] upTo

noncomputable def stepF (E : Env) (call : CallF) : CallF := fun f args σ hs Λ => Option.rec (motive := fun _ => RF) (Option.rec (motive := fun _ => RF) none (fun fn => funcF E call hs args σ Λ fn) (E.fn f)) (fun v => some (v, σ, Λ)) (E.ext f args)

theorem stepF_eq (E : Env) (call : CallF) : stepF E call = bodyN E call := by
  funext f args σ hs Λ
  unfold stepF bodyN
  cases E.ext f args with
  | some v => rfl
  | none =>
    simp only
    cases E.fn f with
    | none => rfl
    | some fn =>
      simp only [funcF]
      cases fn.body with
      | none => rfl
      | some body =>
        simp only [bodyF]
        have e := execF_eq (E := E) (call := call) body hs ⟨tmps0 fn.ntmps (.full (dep fn.ntmps)) 0 args, σ, [], Λ, args.length + (fn.ntmps - args.length), false⟩
        simp only at e
        rw [e]
        cases exec E call body hs ⟨tmps0 fn.ntmps (.full (dep fn.ntmps)) 0 args, σ, [], Λ, args.length + (fn.ntmps - args.length), false⟩ with
        | none => rfl
        | some r =>
          obtain ⟨e, st⟩ := r
          cases e with
          | exit i => rfl
          | normal => exact finF_eq _ _
          | ret => exact finF_eq _ _

noncomputable def findF (L : List Ent) (f : Nat) (args : List AV) (σ : Hp) : Option Ent :=
  List.rec (motive := fun _ => Option Ent) none (fun e _ ih => Bool.rec (motive := fun _ => Option Ent) ih (Bool.rec (motive := fun _ => Option Ent) ih (Bool.rec (motive := fun _ => Option Ent) ih (Bool.rec (motive := fun _ => Option Ent) ih (some e) (hasAll σ e.need)) (avbeqL e.args args)) (Nat.beq e.n0 σ.n)) (Nat.beq e.f f)) L

theorem findF_eq : ∀ (L : List Ent) (f : Nat) (args : List AV) (σ : Hp), findF L f args σ = findE L f args σ
  | [], f, args, σ => rfl
  | e :: L, f, args, σ => by
    have ih := findF_eq L f args σ
    show @Bool.rec (fun _ => Option Ent) (findF L f args σ) (@Bool.rec (fun _ => Option Ent) (findF L f args σ) (@Bool.rec (fun _ => Option Ent) (findF L f args σ) (@Bool.rec (fun _ => Option Ent) (findF L f args σ) (some e) (hasAll σ e.need)) (avbeqL e.args args)) (Nat.beq e.n0 σ.n)) (Nat.beq e.f f) = _
    rw [ih]
    simp only [findE]
    cases Nat.beq e.f f <;> cases Nat.beq e.n0 σ.n <;> cases avbeqL e.args args <;> cases hasAll σ e.need <;> rfl

noncomputable def sayF (Λ : List LF) (e : Ent) (σ : Hp) : RF := some (e.v, ⟨(putObs σ e.put).t, e.n1⟩, Λ)
noncomputable def callTF (E : Env) (L : List Ent) (n : Nat) : CallF :=
  Nat.rec (motive := fun _ => CallF) (fun _ _ _ _ _ => none) (fun _ ih f args σ hs Λ => Option.rec (motive := fun _ => RF) (stepF E ih f args σ hs Λ) (fun e => sayF Λ e σ) (findF L f args σ)) n

theorem callTF_eq (E : Env) (L : List Ent) : ∀ n, callTF E L n = callT E L n
  | 0 => rfl
  | n + 1 => by
    have ih := callTF_eq E L n
    funext f args σ hs Λ
    show @Option.rec _ (fun _ => RF) (stepF E (callTF E L n) f args σ hs Λ) (fun e => sayF Λ e σ) (findF L f args σ) = _
    have e : callT E L (n + 1) f args σ hs Λ = match findE L f args σ with
      | some e => some (e.v, ⟨(putObs σ e.put).t, e.n1⟩, Λ)
      | none => bodyN E (callT E L n) f args σ hs Λ := rfl
    rw [ih, stepF_eq, findF_eq, e]
    cases findE L f args σ <;> rfl

/-! ### What is asked of the kernel -/

noncomputable def hasKey (i : Nat) (l : Obs) : Bool := List.rec (motive := fun _ => Bool) false (fun x _ ih => Bool.rec (motive := fun _ => Bool) ih true (Nat.beq x.1 i)) l
noncomputable def keepAll (σ : Hp) (put : Obs) : Obs → Bool
  | [] => true
  | (i, o) :: l => match hasKey i put with
    | true => keepAll σ put l
    | false => match σ.get i with
      | some o' => match aobeq o o' with
        | true => keepAll σ put l
        | false => false
      | none => false

theorem hasKey_spec {i : Nat} : ∀ {l : Obs}, hasKey i l = true → ∃ o, (i, o) ∈ l
  | [], h => by cases h
  | (j, o) :: l, h => by
    have h' : @Bool.rec (fun _ => Bool) (hasKey i l) true (Nat.beq j i) = true := h
    cases e : Nat.beq j i with
    | true => have := Nat.eq_of_beq_eq_true e; subst this; exact ⟨o, List.mem_cons_self⟩
    | false =>
      rw [e] at h'
      obtain ⟨o', h2⟩ := hasKey_spec (l := l) h'
      exact ⟨o', List.mem_cons_of_mem _ h2⟩
theorem keepAll_spec {σ : Hp} {put : Obs} : ∀ {l : Obs}, keepAll σ put l = true → ∀ i o, (i, o) ∈ l → (∃ o', (i, o') ∈ put) ∨ σ.get i = some o
  | [], _, i, o, hm => by cases hm
  | (j, o') :: l, h, i, o, hm => by
    simp only [keepAll] at h
    split at h
    · rename_i e
      rcases List.mem_cons.1 hm with e' | hm
      · simp only [Prod.mk.injEq] at e'; obtain ⟨rfl, rfl⟩ := e'
        exact .inl (hasKey_spec e)
      · exact keepAll_spec h i o hm
    · split at h
      · rename_i o2 hg
        split at h
        · rename_i e
          rcases List.mem_cons.1 hm with e' | hm
          · simp only [Prod.mk.injEq] at e'; obtain ⟨rfl, rfl⟩ := e'
            exact .inr (by rw [hg, aobeq_eq e])
          · exact keepAll_spec h i o hm
        · cases h
      · cases h

noncomputable def ansE (e : Ent) (r : RF) : Bool :=
  match r with
  | some (w, σ, []) => match avbeq w e.v, hasAll σ e.put, keepAll σ e.put e.need with
    | true, true, true => Nat.ble σ.n e.n1
    | _, _, _ => false
  | _ => false
noncomputable def entF (E : Env) (L : List Ent) (n : Nat) (e : Ent) : Bool := ansE e (callTF E L n e.f e.args e.pre [] [])

section
variable {P : Program} {E : Env}

theorem ent_of (hE : EnvOK P E) (hX : ExtOK P E) (hN : NameOK E) (hmix : P.follows .mixedOrders = true) {L : List Ent} (hL : ∀ e ∈ L, EntOK P E e) {n : Nat} {e : Ent} (h : entF E L n e = true) : EntOK P E e := by
  unfold entF at h
  rw [callTF_eq] at h
  unfold ansE at h
  split at h
  · rename_i w σ hc
    split at h
    · rename_i h1 h2 h3
      have := avbeq_eq _ _ h1; subst this
      exact EntOK.of (callT_ok hE hX hN hmix hL n) hc (hasAll_spec h2) (keepAll_spec h3) (Nat.le_of_ble_eq_true h)
    · cases h
  · cases h

/-- Is the answer of a law of no parameters true, with calls said ahead? -/
noncomputable def isTrueT (E : Env) (L : List Ent) (n f : Nat) : Bool :=
  match E.ext f [], stepF E (callTF E L n) f [] .empty [] [] with
  | none, some (.bool true, _, []) => true
  | _, _ => false

theorem calls_trueT (hE : EnvOK P E) (hX : ExtOK P E) (hN : NameOK E) (hmix : P.follows .mixedOrders = true) {L : List Ent} (hL : ∀ e ∈ L, EntOK P E e) {n f : Nat} (h : isTrueT E L n f = true) {V : View} {W : World} (hK : ∀ b o x, V.K b o = some x → W.cell? ⟨b, o, none⟩ = some x) (hg : GlobK E V) :
    Calls P f #[] W fun e W' => e = .returned (.bool true) ∧ Fr (fun _ => False) W W' := by
  unfold isTrueT at h
  rw [stepF_eq, callTF_eq] at h
  split at h
  · rename_i σ h1 h2
    refine (calls_of hE hN hmix (callT_ok hE hX hN hmix hL n) h1 h2 (.nil V) rfl hK hg).mono fun e W' ⟨V', R, he, hv, hf⟩ => ?_
    cases hv
    exact ⟨he, hf⟩
  · cases h

theorem ents_nil : ∀ e ∈ ([] : List Ent), EntOK P E e := fun e he => by cases he
theorem ents_cons {e : Ent} {L : List Ent} (h : EntOK P E e) (hL : ∀ e ∈ L, EntOK P E e) : ∀ e' ∈ e :: L, EntOK P E e' := fun e' he => by
  rcases List.mem_cons.1 he with rfl | he
  · exact h
  · exact hL e' he
end
end Go.Eng

/-
  THE ENGINE, 57: the end of a law, with calls said ahead.
-/
namespace Go.Eng
open Go

section
variable {P : Program}

/-- A law of no parameters that the engine finds true. -/
theorem law0T {T : Tabs} {E : Env} (hE : EnvOK P E) (hX : ExtOK P E) (hN : NameOK E) (hmix : P.follows .mixedOrders = true) (hgl : E.glob = T.gl.get) {laid : List (String × DataW Unit)} (hl : allT (glB P laid) T.gl (fun k => k) = true) {n f : Nat} {C : List Ent} (hC : ∀ e ∈ C, EntOK P E e) (h : isTrueT E C n f = true)
    {W : World} (hL : laidMet P laid W) : Calls P f #[] W fun e W' => e = .returned (.bool true) ∧ Fr (fun _ => False) W W' :=
  calls_trueT hE hX hN hmix hC h (V := seen W) (fun _ _ _ h => h) (glob_of hgl hl hL)
end
end Go.Eng

/-
  THE ENGINE, 69: a law of parameters.
-/
namespace Go.Eng
open Go

section
variable {H : Type} {P : Program} {enc : TypeId × Value → H}

theorem below_of_fr {W W' : World} (h : Fr (fun _ => False) W W') : RowKit.Below W.heap.size W W' := ⟨h.os, h.tape, h.output, h.size, fun b hb => h.block b hb (fun x => x)⟩

theorem trodAll_stays (hl : laidOutB P = true) {W W' : World} (hb : RowKit.Below W.heap.size W W') : ∀ {ts : List TypeId} {vs : List Value} {ds : List (DataW H)} {ps : List MemPlace}, ts.all (fun t => P.readableRec t && decide (t < P.types.size)) = true →
    DataW.TrodAll enc P W 0 (fun _ => true) true ts vs ds ps → (∀ x ∈ ps, x.block < W.heap.size) → DataW.TrodAll enc P W' 0 (fun b => decide (b < W.heap.size)) true ts vs ds ps
  | [], vs, ds, ps, _, h, _ => by
    obtain ⟨rfl, rfl, rfl⟩ := ChangeShapes.trodAll_nil h
    exact rfl
  | t :: ts, vs, ds, ps, ht, h, hlt => by
    cases vs with
    | nil => exact absurd h (fun h => by cases ds <;> exact h)
    | cons v vs =>
      cases ds with
      | nil => exact absurd h (fun h => h)
      | cons d ds =>
        obtain ⟨p, q, h1, h2, rfl⟩ := h
        simp only [List.all_cons, Bool.and_eq_true, decide_eq_true_eq] at ht
        exact ⟨p, q, RowKit.Below.trod hl ht.1.1 ht.1.2 h1 hb (fun x hx => hlt x (List.mem_append_left _ hx)), trodAll_stays hl hb ht.2 h2 (fun x hx => hlt x (List.mem_append_right _ hx)), rfl⟩

/-- Behind a law that finds true and turns nothing. -/
theorem post_law {f : Func} {s : ChangeSpec} {W W' : World} {t : TypeId} {args : Array Value} (hl : laidOutB P = true) (hp : f.params.toList.all (fun t => P.readableRec t && decide (t < P.types.size)) = true) (hr : f.resultTypes = #[t]) (ht : P.underlying t = some .bool) (hv : s.vars = [])
    {ds gs : List (DataW H)} {before : List MemPlace} (hs : s.fn H ds = { results := [.lit (.bool true)], args := ds }) (hW : DataW.Whole enc P f.params.toList s.vars false W args.toList ds gs before) (h : Fr (fun _ => False) W W') :
    s.post enc P f false true false false W args (.bool true) W' := by
  have hlt := fun p hp => hW.lt p hp
  obtain ⟨p, q, h1, h2, h3, h4, h5⟩ := hW
  have h2' := h2
  rw [hv] at h2'
  obtain ⟨e2, e3⟩ := ChangeShapes.trodVars_none h2'
  subst e2; subst e3
  rw [List.append_nil] at h3
  subst h3
  refine ⟨ds, [], before, [], before, [], ⟨before, [], h1, h2, by simp, h4, h5⟩, ?_, ?_, ?_, kept_of_fr h _, fun h => by cases h⟩
  · rw [List.append_nil, hs, hr]
    exact Go.ChangeShapes.trodAll_mk1 ⟨1, by simp [DataW.trod, Value.cells, ht]⟩
  · rw [List.append_nil, hs]
    exact trodAll_stays hl (below_of_fr h) hp h1 hlt
  · rw [List.append_nil, hs, hv]
    rfl

/-- An argument, as plain data. -/
theorem arg_ty {t : Ty} {T : TypeId} {W : World} {base : Nat} {v : Value} {d : DataW H} {p : List MemPlace} (hok : Value.okWide P W .any base T v) (hf : fits P t T = true) (h : DataW.Trod enc P W 0 (fun _ => true) true T v d p) : ∃ x : t.den, VR (seen W) (t.av x) v ∧ t.wf x = true := by
  obtain ⟨fuel, h⟩ := h
  obtain ⟨x, hx, hwf⟩ := trod_ty (fun _ => rfl) t T fuel _ d p hf h
  refine ⟨x, ?_, hwf⟩
  have one : ∀ {a : AV}, v.cells.toList = [v] → VRs (seen W) [a] v.cells.toList → VR (seen W) a v := by
    intro a e h
    rw [e] at h
    obtain ⟨X, Xs, e, hX, _⟩ := h.cons_inv
    simp only [List.cons.injEq] at e
    rw [e.1]; exact hX
  have row : (∃ fs, P.underlying T = some (.struct fs)) → VR (seen W) (.agg (t.cells x)) v := by
    rintro ⟨fs, hu⟩
    obtain ⟨cs, rfl, _⟩ := WideShapes.okWide_struct hu hok
    exact .agg _ _ hx.1 hx.2
  have rowA : (∃ n e, P.underlying T = some (.array n e)) → VR (seen W) (.agg (t.cells x)) v := by
    rintro ⟨n, e, hu⟩
    simp only [Value.okWide, hu] at hok
    obtain ⟨cs, rfl, _⟩ := hok
    exact .agg _ _ hx.1 hx.2
  cases t with
  | int k =>
    simp only [fits] at hf
    split at hf
    · rename_i k' hu
      obtain ⟨n, rfl⟩ := WideShapes.okWide_int hu hok
      exact one rfl hx
    · cases hf
  | bool =>
    simp only [fits] at hf
    split at hf
    · rename_i hu
      obtain ⟨n, rfl⟩ := WideShapes.okWide_bool hu hok
      exact one rfl hx
    · cases hf
  | str =>
    simp only [fits] at hf
    split at hf
    · rename_i hu
      obtain ⟨n, rfl⟩ := WideShapes.okWide_string hu hok
      exact one rfl hx
    · cases hf
  | nil =>
    simp only [fits] at hf
    split at hf
    · rename_i fs hu; exact row ⟨fs, hu⟩
    · cases hf
  | cons a b =>
    simp only [fits] at hf
    split at hf
    · rename_i fs hu; exact row ⟨fs, hu⟩
    · rename_i n e hu; exact rowA ⟨n, e, hu⟩
    · cases hf
  | sl t =>
    simp only [fits] at hf
    split at hf
    · rename_i e hu
      obtain ⟨a, len, cap, rfl⟩ := WideShapes.okWide_slice hu hok
      exact one rfl hx
    · cases hf

variable {E : Env}
/-- The run of a law that the engine finds true. -/
theorem law_run (hE : EnvOK P E) (hX : ExtOK P E) (hN : NameOK E) (hmix : P.follows .mixedOrders = true) {f n : Nat} {args : List AV} {σ : Hp} (hext : E.ext f args = none) (h : callN E (n + 1) f args .empty [] [] = some (.bool true, σ, []))
    {V : View} {A : List Value} {W : World} (ha : VRs V args A) (hcl : args.all (closedA 9) = true) (hK : ∀ b o x, V.K b o = some x → W.cell? ⟨b, o, none⟩ = some x) (hg : GlobK E V) :
    Calls P f A.toArray W fun e W' => e = .returned (.bool true) ∧ Fr (fun _ => False) W W' := by
  have hc := engine_ok hE hX hN hmix n
  refine (calls_of hE hN hmix hc hext (show bodyN E (callN E n) f args .empty [] [] = some (.bool true, σ, []) from h) ha hcl hK hg).mono fun e W' ⟨V', R, he, hv, hf⟩ => ?_
  cases hv
  exact ⟨he, hf⟩

/-- The call of f of these arguments answers v and turns nothing. -/
def XG (P : Program) (E : Env) (f : Nat) (args : List AV) (v : AV) : Prop :=
  ∀ V A W, VRs V args A → (∀ b o x, V.K b o = some x → W.cell? ⟨b, o, none⟩ = some x) → GlobK E V → ∃ R W', VR V v R ∧ Fr (fun _ => False) W W' ∧ Goes P f A.toArray W R W'
/-- What a call that is told by parts says. -/
theorem XG.part {call : CallF} (hc : CallOK P E call) {f : Nat} {args : List AV} {v : AV} {σ : Hp} (h : call f args .empty [] [] = some (v, σ, [])) (hcl : args.all (closedA 9) = true) (hv : plainA 9 v = true) : XG P E f args v := by
  intro V A W ha hK hg
  obtain ⟨V1, O', W', R, hP, hr, _, _, _, hv', hgo⟩ := hc f args .empty [] [] v σ [] h W.heap.size invT (alone V) A (fun _ => False) W invT_ok (fun lvl h e => by cases e) (HR.alone hK hg _) (Nat.le_refl _) (closedA_list hcl ha) (fun _ h => h) (fun _ _ h => h) (fun i x hx => by simp [Eng.alone] at hx)
  exact ⟨R, W', plainA_spec 9 _ hv hv', hP.fr.weaken (fun b _ hb => hb.elim (no_own b) (fun h => h)), hgo⟩
theorem XG.closedT (hE : EnvOK P E) (hX : ExtOK P E) (hN : NameOK E) (hmix : P.follows .mixedOrders = true) {L : List Ent} (hL : ∀ e ∈ L, EntOK P E e) {n f : Nat} (h : isTrueT E L n f = true) : XG P E f [] (.bool true) := by
  unfold isTrueT at h
  rw [stepF_eq, callTF_eq] at h
  split at h
  · rename_i σ h1 h2
    have hb : CallOK P E (bodyN E (callT E L n)) := body_ok hE hX hN (callT_ok hE hX hN hmix hL n) (code_ok hE hmix _ (callT_ok hE hX hN hmix hL n))
    exact XG.part hb h2 rfl rfl
  · cases h
end
end Go.Eng

/-
  THE ENGINE, 70: what is said ahead, by lists.
-/
namespace Go.Eng
open Go

abbrev Said := Nat × (List AV → Option (Bool × AV))
noncomputable def xOf : List Said → Nat → List AV → Option (Bool × AV)
  | [], _, _ => none
  | e :: L, f, args => match Nat.beq f e.1 with
    | true => e.2 args
    | false => xOf L f args

section
variable {P : Program} {E : Env}
def SaidOK (E : Env) (e : Said) : Prop := ∀ args v, e.2 args = some (true, v) → ∃ args', TellsL args args' ∧ args'.all (closedA 9) = true ∧ AnsF E e.1 args' v
/-- What is said is so, wherever it was proved. -/
def SaidG (P : Program) (gl : Nat → Option (List AV)) (e : Said) : Prop :=
  ∀ args v, e.2 args = some (true, v) → ∀ V A W, VRs V args A → (∀ b o x, V.K b o = some x → W.cell? ⟨b, o, none⟩ = some x) →
    (∀ g l, gl g = some l → ∃ z : Nat → Value, ∀ i (h : i < l.length), V.K g i = some (z i) ∧ VR V.bare l[i] (z i)) →
    ∃ R W' V', KG V V' W W' ∧ VR V' v R ∧ Fr (fun _ => False) W W' ∧ Goes P e.1 A.toArray W R W'
theorem SaidOK.g (hE : EnvOK P E) (hX : ExtOK P E) (hN : NameOK E) (hmix : P.follows .mixedOrders = true) {e : Said} (h : SaidOK E e) {gl : Nat → Option (List AV)} (hg : E.glob = gl) : SaidG P gl e := by
  subst hg
  intro args v hv V A W ha hK hgl
  obtain ⟨args', h1, h2, n, v0, σ, v1, h3, h4, h5⟩ := h args v hv
  obtain ⟨R, W', V', k1, k2, k3, k4⟩ := closed_callH (engine_ok hE hX hN hmix) h3 h4 (h1 V A ha) h2 hK hgl
  exact ⟨R, W', V', k1, h5 _ _ k2, k3, k4⟩
/-- A call without arguments. -/
noncomputable def say0 (v : AV) (args : List AV) : Option (Bool × AV) := match args with
  | [] => some (true, v)
  | _ => none
theorem XG.g {f : Nat} {v : AV} (h : XG P E f [] v) {gl : Nat → Option (List AV)} (hg : E.glob = gl) : SaidG P gl (f, say0 v) := by
  subst hg
  intro args w hv V A W ha hK hgl
  simp only [say0] at hv
  split at hv
  · simp only [Option.some.injEq, Prod.mk.injEq] at hv
    obtain ⟨_, rfl⟩ := hv
    obtain ⟨R, W', h1, h2, h3⟩ := h V A W ha hK hgl
    exact ⟨R, W', V, .refl _ _ _, h1, h2, h3⟩
  · cases hv
theorem saids_nil {gl : Nat → Option (List AV)} : ∀ e ∈ ([] : List Said), SaidG P gl e := fun _ h => by cases h
theorem saids_cons {gl : Nat → Option (List AV)} {x : Said} {L : List Said} (h : SaidG P gl x) (k : ∀ e ∈ L, SaidG P gl e) : ∀ e ∈ x :: L, SaidG P gl e := fun e he => by
  rcases List.mem_cons.1 he with rfl | he
  · exact h
  · exact k e he
theorem xOf_some {L : List Said} {f : Nat} {args : List AV} {r : Bool × AV} (h : xOf L f args = some r) : ∃ e ∈ L, e.1 = f ∧ e.2 args = some r := by
  induction L with
  | nil => cases h
  | cons x L ih =>
    simp only [xOf] at h
    split at h
    · rename_i e; exact ⟨x, List.mem_cons_self, (Nat.eq_of_beq_eq_true e).symm, h⟩
    · obtain ⟨e, h1, h2⟩ := ih h; exact ⟨e, List.mem_cons_of_mem _ h1, h2⟩
theorem ExtOK.sayL (hX : ExtOK P E) {L : List Said} (h : ∀ e ∈ L, SaidG P E.glob e) : ExtOK P (E.say (under (xOf L))) := by
  intro f args v hv V A W ha hK hg
  simp only [Env.say] at hv
  split at hv
  · rename_i w hw
    simp only [Option.some.injEq] at hv; subst hv
    rw [under_iff] at hw
    obtain ⟨e, h1, rfl, h3⟩ := xOf_some hw
    exact h e h1 args _ h3 V A W ha hK hg
  · exact hX f args v hv V A W ha hK hg
/-- More is leant on; these loops are told by their heads. -/
noncomputable def Sy.on (S : Sy) (L : List Said) (hd : List Nat) : Sy := ⟨fun f args => match xOf L f args with
  | some r => some r
  | none => S.x f args, fun f => hd.any (Nat.beq f), true, [], false⟩
theorem Sy.on_ok {S : Sy} {L : List Said} {hd : List Nat} (hS : S.ok E) : (S.on L hd).ok (E.say (under (xOf L))) := fun f args v h => by
  show (match under (xOf L) f args with | some v => some v | none => E.ext f args) = some v
  have h0 : (match xOf L f args with | some r => some r | none => S.x f args) = some (true, v) := h
  cases e : xOf L f args with
  | some r =>
    rw [e] at h0
    have h' : under (xOf L) f args = some v := under_iff.2 (by rw [e]; exact h0)
    rw [h']
  | none =>
    rw [e] at h0
    have h' : under (xOf L) f args = none := by unfold under; rw [e]
    rw [h']
    exact hS f args v h0
end
/-- These objects' cells are told by conditions, too. -/
noncomputable def Sy.flat (S : Sy) (l : List Nat) : Sy := { S with fl := l }
noncomputable def Sy.vars (S : Sy) : Sy := { S with vr := true }
theorem Sy.vars_ok {E : Env} {S : Sy} (h : S.ok E) : S.vars.ok E := h
theorem Sy.flat_ok {E : Env} {S : Sy} {l : List Nat} (h : S.ok E) : (S.flat l).ok E := h
theorem ext_none {E : Env} {f : Nat} {args : List AV} (h : (E.ext f args).isNone = true) : E.ext f args = none := by
  cases e : E.ext f args with
  | none => rfl
  | some v => rw [e] at h; cases h

/-- From c comes the truth value b. -/
def AnsB (E : Env) (c : Cfg) (b : Bool) : Prop := ∃ σ, den E c = some (.bool b, σ, [])
section
variable {E : Env} {S : Sy} (hS : S.ok E) (hsy : E.sy = true)
include hS hsy
theorem AnsB.stop {n : Nat} {c c' : Cfg} {b : Bool} (h : adv E S n c = some (.stop c')) (k : AnsB E c' b) : AnsB E c b := by
  obtain ⟨σ, k⟩ := k
  exact ⟨σ, adv_spec hS hsy h _ k⟩
theorem AnsB.doneB {n : Nat} {c : Cfg} {b b' : Bool} (h : adv E S n c = some (.done (.bool b))) (e : b = b') : AnsB E c b' := by
  obtain ⟨v0, σ, h1, h2⟩ := adv_spec hS hsy h
  have := frzV_boolI h2
  subst this; subst e
  exact ⟨σ, h1⟩
end
theorem AnsB.call {E : Env} {f m : Nat} {args : List AV} {b : Bool} (hx : E.ext f args = none) (hf : ∃ fn b, E.fn f = some fn ∧ fn.body = some b) (h : AnsB E (startC E f args m) b) : ∃ σ, callN E (m + 1) f args .empty [] [] = some (.bool b, σ, []) := by
  obtain ⟨σ, h⟩ := h
  exact ⟨σ, startC_spec hx hf h⟩
end Go.Eng

/-
  LOOPS, told by their heads.
-/
set_option maxRecDepth 100000
namespace Go.Proofs.YtgcgffnamfbcgaaGreatDoor
open Go Go.Eng
noncomputable def coloI0 (m : tMark.den) (d : Int) (x7 : Int) (x11 : Int) (x29 : Nat) : Cfg := ⟨.ex (pcOf E2 100 [0, 0, 1, 0, 1, 1]) ⟨(tmOf 23 [(0, (.agg [(.str (m.fst)), (.int .i64 (m.snd.fst.fst)), (.int .i64 (m.snd.fst.snd.fst)), (.vs tP (m.snd.snd.fst.fst) (m.snd.snd.fst.snd))])), (1, (.int .i64 (d))), (2, (.ptr 0 0)), (4, (.int .i64 (0))), (5, (.int .i64 x7)), (8, (.ptr 0 3)), (9, (.vs tP (m.snd.snd.fst.fst) (m.snd.snd.fst.snd))), (10, (.int .i64 (Int.ofNat m.snd.snd.fst.snd.length))), (11, (.int .i64 x11))]), (hpOf 1 [(0, (.cells false [(.str (m.fst)), (.int .i64 (m.snd.fst.fst)), (.int .i64 (m.snd.fst.snd.fst)), (.vs tP (m.snd.snd.fst.fst) (m.snd.snd.fst.snd))]))]), [], [], 23, false⟩, ⟨6, []⟩, [(.lop (pcOf E2 100 [0, 0, 1, 0, 1, 1]) 1 (tmOf 23 [(0, (.agg [(.str (m.fst)), (.int .i64 (m.snd.fst.fst)), (.int .i64 (m.snd.fst.snd.fst)), (.vs tP (m.snd.snd.fst.fst) (m.snd.snd.fst.snd))])), (1, (.int .i64 (d))), (2, (.ptr 0 0)), (4, (.int .i64 (0))), (5, (.int .i64 (0))), (8, (.ptr 0 3)), (9, (.vs tP (m.snd.snd.fst.fst) (m.snd.snd.fst.snd))), (10, (.int .i64 (Int.ofNat m.snd.snd.fst.snd.length))), (11, (.int .i64 (0)))]) x29), (.blk 0), (.seq (pcOf E2 100 [1, 1, 1])), (.cal [(.tmp 4)] .top)]⟩
theorem colo_start (m : tMark.den) (d : Int) : adv E2 (S2 [100]) 3000 (startC E2 100 [tMark.av m, .int .i64 d] 6) = some (.stop (coloI0 m d (0) (0) (1048575))) := by kernel_rfl
theorem colo_step0 (m : tMark.den) (d : Int) (x7 : Int) (x11 : Int) (x29 : Nat) : adv E2 (S2 [100]) 3000 (coloI0 m d x7 x11 (x29 + 1)) = (bif !ile (Int.ofNat m.snd.snd.fst.snd.length) x11 then (bif inB x11 m.snd.snd.fst.snd.length then (bif ile (m.snd.snd.fst.snd.getD x11.toNat tP.dflt).fst d then some (.stop (coloI0 m d ((m.snd.snd.fst.snd.getD x11.toNat tP.dflt).snd.fst) (wr IntKind.i64 (x11 + 1)) (x29))) else some (.stop (coloI0 m d (x7) (wr IntKind.i64 (x11 + 1)) (x29)))) else none) else some (.done (.int .i64 (x7)))) := by kernel_rfl
/-! ### Colours -/
noncomputable def colF (d : Int) : Int → List tP.den → Int
  | x, [] => x
  | x, p :: l => colF d (bif ile p.1 d then p.2.1 else x) l
theorem colo_ans (c : tMark.den) (d : Int) (hl : c.2.2.1.2.length < 1048576) : ∀ (r k m : Nat) (x : Int), k + r = c.2.2.1.2.length → r < m → Ans E2 (coloI0 c d x k m) (.int .i64 (colF d x (c.2.2.1.2.drop k)))
  | 0, k, m + 1, x, hk, hm => by
    have h := colo_step0 c d x k m
    simp only [Int.ofNat_eq_natCast, ile_ge (show c.2.2.1.2.length ≤ k by omega), Bool.not_true, cond_false] at h
    rw [List.drop_eq_nil_of_le (by omega)]
    exact .doneI (S2_ok _) E2sy h rfl
  | r + 1, k, m + 1, x, hk, hm => by
    have h := colo_step0 c d x k m
    have hlt : k < c.2.2.1.2.length := by omega
    simp only [Int.ofNat_eq_natCast, ile_lt hlt, inB_at hlt, getD_at hlt, wr_succ (show k < 1048577 by omega), Bool.not_false, cond_true] at h
    rw [List.drop_eq_getElem_cons hlt, colF]
    cases e : ile (c.2.2.1.2[k]).1 d with
    | true =>
      simp only [e, cond_true] at h ⊢
      exact .stop (S2_ok _) E2sy h (colo_ans c d hl r (k + 1) m _ (by omega) (by omega))
    | false =>
      simp only [e, cond_false] at h ⊢
      exact .stop (S2_ok _) E2sy h (colo_ans c d hl r (k + 1) m _ (by omega) (by omega))
theorem colo_call (c : tMark.den) (d : Int) (hl : c.2.2.1.2.length < 1048575) : AnsF E2 100 [tMark.av c, .int .i64 d] (.int .i64 (colF d 0 c.2.2.1.2)) :=
  Ans.call (n := 6) (ext_none (by kernel_rfl)) (hasB_spec (by kernel_rfl)) (.stop (S2_ok _) E2sy (colo_start c d) (colo_ans c d (by omega) c.2.2.1.2.length 0 1048575 0 (by omega) (by omega)))
/-! ### The vectors of the points -/
noncomputable def vecB (p : Int) : AV := .agg [.int .i64 (vx p), .int .i64 (vy p)]
noncomputable def chkB (f p : Nat) : Bool := match adv E2 (S2 []) 3000 (startC E2 f [.int .i64 (Int.ofNat p)] 40) with
  | some (.done v) => avbeq v (vecB (Int.ofNat p))
  | _ => false
theorem vin59 : (List.range 32).all (chkB 101) = true := by kernel_rfl
theorem vin61 : (List.range 32).all (chkB 58) = true := by kernel_rfl
theorem vecB_of {f : Nat} (hxa : ∀ p : Int, (E2.ext f [.int .i64 p]).isNone = true) (hb : hasB E2 f = true) (hin : (List.range 32).all (chkB f) = true) (p : Int) (e : inV p = true) : AnsF E2 f [.int .i64 p] (vecB p) := by
  refine Ans.call (n := 40) (ext_none (hxa p)) (hasB_spec hb) ?_
  have hp : 0 ≤ p ∧ p ≤ 31 := by
    simp only [inV, Bool.and_eq_true, ile_iff, decide_eq_true_eq] at e; exact e
  obtain ⟨k, rfl⟩ := Int.eq_ofNat_of_zero_le hp.1
  have hk : k < 32 := by omega
  have h := List.all_eq_true.1 hin k (List.mem_range.2 hk)
  unfold chkB at h
  split at h
  · rename_i v ha
    have := avbeq_eq _ _ h
    subst this
    exact .done (S2_ok _) E2sy ha rfl
  · cases h

/-! ### The first level -/
noncomputable def LA : List Said := [(101, con1 tI inV vecB), (58, con1 tI inV vecB), (100, con2 tMark tI (fun m _ => Nat.ble m.2.2.1.2.length 1000) (fun m d => .int .i64 (colF d 0 m.2.2.1.2))),
  (68, con1 tChart (fun _ => true) (fun c => tup3 (chkS c))), (54, con1 tChart (fun _ => true) (fun c => tup3 (chkS c)))]
theorem LA_ok : ∀ e ∈ LA, SaidG Tryz.prog E2.glob e :=
  saids_cons (SaidOK.g e2 x2 n2 tabs_ok.mix (fun _ _ h => con1_spec (t := tI) (fun p hp => vecB_of (fun p => by kernel_rfl) (by kernel_rfl) vin59 p hp) h) rfl)
  (saids_cons (SaidOK.g e2 x2 n2 tabs_ok.mix (fun _ _ h => con1_spec (t := tI) (fun p hp => vecB_of (fun p => by kernel_rfl) (by kernel_rfl) vin61 p hp) h) rfl)
  (saids_cons (SaidOK.g e2 x2 n2 tabs_ok.mix (fun _ _ h => con2_spec (t := tMark) (u := tI) (fun m d hm => colo_call m d (by have := Nat.le_of_ble_eq_true hm; omega)) h) rfl)
  (saids_cons (SaidOK.g e1 x1 n1 tabs_ok.mix (fun _ _ h => con1_spec (t := tChart) (fun c _ => chk_call c) h) rfl)
  (saids_cons (SaidOK.g e2 x2 n2 tabs_ok.mix (fun _ _ h => con1_spec (t := tChart) (fun c _ => rchk_call c) h) rfl) saids_nil))))
noncomputable def F1 : Env := E2.say (under (xOf LA))
theorem f1 : EnvOK Tryz.prog F1 := e2.say _
theorem nf1 : NameOK F1 := n2.say _
theorem xf1 : ExtOK Tryz.prog F1 := x2.sayL LA_ok
theorem F1sy : F1.sy = true := rfl
noncomputable def Z1 (l : List Nat) : Sy := (S2 []).on LA l
theorem Z1_ok (l : List Nat) : (Z1 l).ok F1 := Sy.on_ok (S2_ok _)
end Go.Proofs.YtgcgffnamfbcgaaGreatDoor

/-
  LOOPS, told by their heads.
-/
set_option maxRecDepth 100000
namespace Go.Proofs.YtgcgffnamfbcgaaGreatDoor
open Go Go.Eng
noncomputable def ptOfI0 (v : tP.den) (x3 : Int) (x10 : Nat) : Cfg := ⟨.ex (pcOf F1 87 [0, 0, 1, 0, 1]) ⟨(tmOf 25 [(0, (.agg [(.int .i64 (v.fst)), (.int .i64 (v.snd.fst))])), (1, (.ptr 0 0)), (2, (.int .i64 (0))), (5, (.int .i64 x3))]), (hpOf 1 [(0, (.cells false [(.int .i64 (v.fst)), (.int .i64 (v.snd.fst))]))]), [], [], 25, false⟩, ⟨6, []⟩, [(.lop (pcOf F1 87 [0, 0, 1, 0, 1]) 1 (tmOf 25 [(0, (.agg [(.int .i64 (v.fst)), (.int .i64 (v.snd.fst))])), (1, (.ptr 0 0)), (2, (.int .i64 (0))), (5, (.int .i64 (0)))]) x10), (.blk 0), (.seq (pcOf F1 87 [1, 1])), (.cal [(.tmp 2)] .top)]⟩
theorem ptOf_start (v : tP.den) : adv F1 (Z1 [87]) 3000 (startC F1 87 [tP.av v] 6) = some (.stop (ptOfI0 v (0) (1048575))) := by kernel_rfl
theorem ptOf_step0 (v : tP.den) (x3 : Int) (x10 : Nat) : adv F1 (Z1 [87]) 3000 (ptOfI0 v x3 (x10 + 1)) = (bif !ile 32 x3 then (bif inV ((wr IntKind.i64 (x3 + 1)).tmod 32) then (bif inV x3 then (bif ile (wr IntKind.i64 (wr IntKind.i64 (vx x3 * v.snd.fst) - wr IntKind.i64 (vy x3 * v.fst))) 0 then (bif ieq v.fst v.fst then (bif ieq v.snd.fst v.snd.fst then (bif ieq (vx ((wr IntKind.i64 (x3 + 1)).tmod 32)) (vx ((wr IntKind.i64 (x3 + 1)).tmod 32)) then (bif ieq (vy ((wr IntKind.i64 (x3 + 1)).tmod 32)) (vy ((wr IntKind.i64 (x3 + 1)).tmod 32)) then (bif ieq v.fst v.fst then (bif ieq v.snd.fst v.snd.fst then (bif ieq v.fst v.fst then (bif ieq v.snd.fst v.snd.fst then (bif !ile (wr IntKind.i64 (wr IntKind.i64 (vx ((wr IntKind.i64 (x3 + 1)).tmod 32) * v.snd.fst) - wr IntKind.i64 (vy ((wr IntKind.i64 (x3 + 1)).tmod 32) * v.fst))) 0 then some (.done (.int .i64 (x3))) else some (.stop (ptOfI0 v (wr IntKind.i64 (x3 + 1)) (x10)))) else none) else none) else none) else none) else none) else none) else none) else none) else (bif ieq v.fst v.fst then (bif ieq v.snd.fst v.snd.fst then (bif ieq v.fst v.fst then (bif ieq v.snd.fst v.snd.fst then some (.stop (ptOfI0 v (wr IntKind.i64 (x3 + 1)) (x10))) else none) else none) else none) else none)) else none) else none) else some (.done (.int .i64 (0)))) := by kernel_rfl
noncomputable def towaI0 (v : tP.den) (x3 : Int) (x10 : Nat) : Cfg := ⟨.ex (pcOf F1 37 [0, 0, 0, 1, 1]) ⟨(tmOf 21 [(0, (.agg [(.int .i64 (v.fst)), (.int .i64 (v.snd.fst))])), (1, (.ptr 0 0)), (2, (.int .i64 (0))), (3, (.int .i64 x3))]), (hpOf 1 [(0, (.cells false [(.int .i64 (v.fst)), (.int .i64 (v.snd.fst))]))]), [], [], 21, false⟩, ⟨6, []⟩, [(.lop (pcOf F1 37 [0, 0, 0, 1, 1]) 1 (tmOf 21 [(0, (.agg [(.int .i64 (v.fst)), (.int .i64 (v.snd.fst))])), (1, (.ptr 0 0)), (2, (.int .i64 (0))), (3, (.int .i64 (0)))]) x10), (.blk 0), (.seq (pcOf F1 37 [1, 1, 1])), (.cal [(.tmp 2)] .top)]⟩
theorem towa_start (v : tP.den) : adv F1 (Z1 [37]) 3000 (startC F1 37 [tP.av v] 6) = some (.stop (towaI0 v (0) (1048575))) := by kernel_rfl
theorem towa_step0 (v : tP.den) (x3 : Int) (x10 : Nat) : adv F1 (Z1 [37]) 3000 (towaI0 v x3 (x10 + 1)) = (bif inV x3 then (bif !ile (wr IntKind.i64 (wr IntKind.i64 (vx x3 * v.snd.fst) - wr IntKind.i64 (vy x3 * v.fst))) 0 then (bif ieq v.fst v.fst then (bif ieq v.snd.fst v.snd.fst then (bif ieq v.fst v.fst then (bif ieq v.snd.fst v.snd.fst then some (.stop (towaI0 v (wr IntKind.i64 (x3 + 1)) (x10))) else none) else none) else none) else none) else (bif inV ((wr IntKind.i64 (x3 + 1)).tmod 32) then (bif ieq v.fst v.fst then (bif ieq v.snd.fst v.snd.fst then (bif ieq v.fst v.fst then (bif ieq v.snd.fst v.snd.fst then (bif ieq v.fst v.fst then (bif ieq v.snd.fst v.snd.fst then (bif ieq v.fst v.fst then (bif ieq v.snd.fst v.snd.fst then (bif ile (wr IntKind.i64 (wr IntKind.i64 (vx ((wr IntKind.i64 (x3 + 1)).tmod 32) * v.snd.fst) - wr IntKind.i64 (vy ((wr IntKind.i64 (x3 + 1)).tmod 32) * v.fst))) 0 then some (.stop (towaI0 v (wr IntKind.i64 (x3 + 1)) (x10))) else some (.done (.int .i64 (x3)))) else none) else none) else none) else none) else none) else none) else none) else none) else none)) else none) := by kernel_rfl
/-! ### The point in which a vector leads -/
noncomputable def inW (x y : Int) : Bool := ile (-100000) x && ile x 100000 && ile (-100000) y && ile y 100000
theorem inW_iff {x y : Int} : inW x y = true ↔ (-100000 ≤ x ∧ x ≤ 100000) ∧ -100000 ≤ y ∧ y ≤ 100000 := by
  simp only [inW, Bool.and_eq_true, ile_iff, decide_eq_true_eq, and_assoc]
theorem vtab_b : ∀ x ∈ vtab, (-1000 ≤ x.1 ∧ x.1 ≤ 1000) ∧ -1000 ≤ x.2 ∧ x.2 ≤ 1000 := by unfold vtab; decide
theorem getD_or {α : Type} (l : List α) (k : Nat) (d : α) : l.getD k d ∈ l ∨ l.getD k d = d := by
  by_cases h : k < l.length
  · left; simp [h]
  · right; simp [Nat.le_of_not_lt h]
theorem vx_b (p : Int) : -1000 ≤ vx p ∧ vx p ≤ 1000 := by
  unfold vx
  cases inV p with
  | false => simp only [cond_false]; omega
  | true =>
    simp only [cond_true]
    rcases getD_or vtab p.toNat (0, 0) with h | h
    · exact (vtab_b _ h).1
    · rw [h]; simp
theorem vy_b (p : Int) : -1000 ≤ vy p ∧ vy p ≤ 1000 := by
  unfold vy
  cases inV p with
  | false => simp only [cond_false]; omega
  | true =>
    simp only [cond_true]
    rcases getD_or vtab p.toNat (0, 0) with h | h
    · exact (vtab_b _ h).2
    · rw [h]; simp
theorem mul_b {a b : Int} {m n : Nat} (h1 : -(m : Int) ≤ a) (h2 : a ≤ m) (h3 : -(n : Int) ≤ b) (h4 : b ≤ n) : -((m * n : Nat) : Int) ≤ a * b ∧ a * b ≤ ((m * n : Nat) : Int) := by
  have e := Int.natAbs_mul a b
  have : a.natAbs * b.natAbs ≤ m * n := Nat.mul_le_mul (by omega) (by omega)
  omega
noncomputable def lf (x y p : Int) : Int := vx p * y - vy p * x
theorem lf_wr {x y : Int} (h : inW x y = true) (p : Int) : wr .i64 (wr .i64 (vx p * y) - wr .i64 (vy p * x)) = lf x y p := by
  rw [inW_iff] at h
  have hx := vx_b p
  have hy := vy_b p
  have a := mul_b (a := vx p) (b := y) (m := 1000) (n := 100000) (by omega) (by omega) (by omega) (by omega)
  have b := mul_b (a := vy p) (b := x) (m := 1000) (n := 100000) (by omega) (by omega) (by omega) (by omega)
  rw [wr_in (n := vx p * y) (by omega) (by omega), wr_in (n := vy p * x) (by omega) (by omega), wr_in (by omega) (by omega)]
  rfl
noncomputable def nxt (k : Nat) : Int := ((k + 1 : Nat) : Int).tmod 32
theorem inV_iff {p : Int} : inV p = true ↔ 0 ≤ p ∧ p ≤ 31 := by
  simp only [inV, Bool.and_eq_true, ile_iff, decide_eq_true_eq]
theorem inV_nxt (k : Nat) : inV (nxt k) = true := by
  rw [inV_iff]
  have h1 : 0 ≤ nxt k := Int.tmod_nonneg _ (by omega)
  have h2 : nxt k < 32 := Int.tmod_lt_of_pos _ (by omega)
  omega
theorem nxt_eq (k : Nat) : nxt k = ((k + 1) % 32 : Nat) := by
  unfold nxt
  rw [Int.tmod_eq_emod_of_nonneg (by omega)]; rfl
theorem nxt_fold (k : Nat) : ((k + 1 : Nat) : Int).tmod 32 = nxt k := rfl
noncomputable def goodP (x y : Int) (k : Nat) : Bool := ile (lf x y k) 0 && !ile (lf x y (nxt k)) 0
noncomputable def ptGo (x y : Int) : Nat → Nat → Int
  | _, 0 => 0
  | k, r + 1 => bif goodP x y k then (k : Int) else ptGo x y (k + 1) r
noncomputable def ptF (x y : Int) : Int := ptGo x y 0 32
theorem ptGo_b (x y : Int) : ∀ (r k : Nat), k + r ≤ 32 → inV (ptGo x y k r) = true
  | 0, k, _ => rfl
  | r + 1, k, h => by
    rw [ptGo]
    cases goodP x y k with
    | true => rw [cond_true, inV_iff]; omega
    | false => rw [cond_false]; exact ptGo_b x y r (k + 1) (by omega)
theorem ptF_b (x y : Int) : inV (ptF x y) = true := ptGo_b x y 32 0 (by omega)
theorem ptOf_ans (v : tP.den) (hw : inW v.1 v.2.1 = true) : ∀ (r k m : Nat), k + r = 32 → r < m → Ans F1 (ptOfI0 v k m) (.int .i64 (ptGo v.1 v.2.1 k r))
  | 0, k, m + 1, hk, hm => by
    have h := ptOf_step0 v k m
    have e : k = 32 := by omega
    subst e
    simp only [show ile 32 ((32 : Nat) : Int) = true from rfl, Bool.not_true, cond_false] at h
    exact .doneI (Z1_ok _) F1sy h rfl
  | r + 1, k, m + 1, hk, hm => by
    have h := ptOf_step0 v k m
    have e1 : ile 32 (k : Int) = false := by rw [ile_iff]; simp; omega
    have e2 : inV (k : Int) = true := by rw [inV_iff]; omega
    simp only [e1, e2, inV_nxt, nxt_fold, lf_wr hw, ieq_self, Bool.not_false, cond_true, wr_succ (show k < 1048577 by omega)] at h
    have ih := ptOf_ans v hw r (k + 1) m (by omega) (by omega)
    rw [ptGo, goodP]
    cases c1 : ile (lf v.1 v.2.1 k) 0 <;> cases c2 : ile (lf v.1 v.2.1 (nxt k)) 0 <;>
      simp only [c1, c2, Bool.not_true, Bool.not_false, cond_true, cond_false, Bool.and_self, Bool.and_true, Bool.and_false] at h ⊢ <;>
      first
        | exact .doneI (Z1_ok _) F1sy h rfl
        | exact .stop (Z1_ok _) F1sy h ih
theorem ptOf_call (v : tP.den) (hw : inW v.1 v.2.1 = true) : AnsF F1 87 [tP.av v] (.int .i64 (ptF v.1 v.2.1)) :=
  Ans.call (n := 6) (ext_none (by kernel_rfl)) (hasB_spec (by kernel_rfl)) (.stop (Z1_ok _) F1sy (ptOf_start v) (ptOf_ans v hw 32 0 1048575 (by omega) (by omega)))
theorem good_ex (x y : Int) (h : ¬ (x = 0 ∧ y = 0)) : ∃ j, j < 32 ∧ goodP x y j = true := by
  have main : (∀ j, j < 32 → goodP x y j = false) → False := by
    intro hn
    have step : ∀ j : Nat, j < 32 → lf x y j ≤ 0 → lf x y (((j + 1) % 32 : Nat) : Int) ≤ 0 := by
      intro j hj hl
      have := hn j hj
      simp only [goodP, nxt_eq, ile_iff, hl, decide_true, Bool.true_and, Bool.not_eq_false', decide_eq_true_eq] at this
      exact this
    have chain : ∀ (n k : Nat), k < 32 → lf x y k ≤ 0 → lf x y (((k + n) % 32 : Nat) : Int) ≤ 0 := by
      intro n
      induction n with
      | zero => intro k hk hl; rw [Nat.add_zero, Nat.mod_eq_of_lt hk]; exact hl
      | succ n ih =>
        intro k hk hl
        have := step ((k + n) % 32) (Nat.mod_lt _ (by omega)) (ih k hk hl)
        rwa [show ((k + n) % 32 + 1) % 32 = (k + (n + 1)) % 32 by omega] at this
    have l0 : lf x y 0 = -1000 * x := by show 0 * y - 1000 * x = _; omega
    have l8 : lf x y 8 = 1000 * y := by show 1000 * y - 0 * x = _; omega
    have l16 : lf x y 16 = 1000 * x := by show 0 * y - (-1000) * x = _; omega
    have l24 : lf x y 24 = -1000 * y := by show (-1000) * y - 0 * x = _; omega
    by_cases h0 : lf x y 0 ≤ 0
    · have a := chain 8 0 (by omega) h0
      have b := chain 16 0 (by omega) h0
      have d := chain 24 0 (by omega) h0
      simp only [Nat.zero_add, Nat.reduceMod] at a b d
      have a' : lf x y 8 ≤ 0 := a
      have b' : lf x y 16 ≤ 0 := b
      have d' : lf x y 24 ≤ 0 := d
      omega
    · have b' : lf x y ((16 : Nat) : Int) ≤ 0 := by show lf x y 16 ≤ 0; omega
      have a := chain 16 16 (by omega) b'
      have a' : lf x y 0 ≤ 0 := a
      omega
  apply Classical.byContradiction
  intro hne
  refine main (fun j hj => ?_)
  cases e : goodP x y j with
  | false => rfl
  | true => exact absurd ⟨j, hj, e⟩ hne
theorem towa_ans (v : tP.den) (hw : inW v.1 v.2.1 = true) : ∀ (r k m : Nat), k + r = 32 → r < m → (∃ j, k ≤ j ∧ j < 32 ∧ goodP v.1 v.2.1 j = true) → Ans F1 (towaI0 v k m) (.int .i64 (ptGo v.1 v.2.1 k r))
  | 0, k, m + 1, hk, hm, hj => by obtain ⟨j, h1, h2, _⟩ := hj; omega
  | r + 1, k, m + 1, hk, hm, hj => by
    have h := towa_step0 v k m
    have e2 : inV (k : Int) = true := by rw [inV_iff]; omega
    simp only [e2, inV_nxt, nxt_fold, lf_wr hw, ieq_self, cond_true, wr_succ (show k < 1048577 by omega)] at h
    have ih := fun (hne : goodP v.1 v.2.1 k = false) => towa_ans v hw r (k + 1) m (by omega) (by omega) (by
      obtain ⟨j, h1, h2, h3⟩ := hj
      refine ⟨j, ?_, h2, h3⟩
      rcases Nat.lt_or_ge k j with h4 | h4
      · exact h4
      · have : j = k := by omega
        subst this; rw [hne] at h3; cases h3)
    rw [ptGo]
    unfold goodP at ih ⊢
    cases c1 : ile (lf v.1 v.2.1 k) 0 <;> cases c2 : ile (lf v.1 v.2.1 (nxt k)) 0 <;>
      simp only [c1, c2, Bool.not_true, Bool.not_false, cond_true, cond_false, Bool.and_self, Bool.and_true, Bool.and_false, forall_const] at h ih ⊢ <;>
      first
        | exact .doneI (Z1_ok _) F1sy h rfl
        | exact .stop (Z1_ok _) F1sy h ih
noncomputable def nz (x y : Int) : Bool := !(ieq x 0 && ieq y 0)
theorem towa_call (v : tP.den) (hw : inW v.1 v.2.1 = true) (hz : nz v.1 v.2.1 = true) : AnsF F1 37 [tP.av v] (.int .i64 (ptF v.1 v.2.1)) := by
  refine Ans.call (n := 6) (ext_none (by kernel_rfl)) (hasB_spec (by kernel_rfl)) (.stop (Z1_ok _) F1sy (towa_start v) (towa_ans v hw 32 0 1048575 (by omega) (by omega) ?_))
  obtain ⟨j, h1, h2⟩ := good_ex v.1 v.2.1 (fun e => by rw [nz, e.1, e.2] at hz; cases hz)
  exact ⟨j, Nat.zero_le _, h1, h2⟩
end Go.Proofs.YtgcgffnamfbcgaaGreatDoor

/-
  LOOPS, told by their heads.
-/
set_option maxRecDepth 100000
namespace Go.Proofs.YtgcgffnamfbcgaaGreatDoor
open Go Go.Eng
abbrev tView : Ty := .cons tSand (.cons tP .nil)
/-! ### All places of a box -/
theorem flatP_len (l : List tP.den) : (flat tP l).length = 2 * l.length := by
  induction l with
  | nil => rfl
  | cons a l ih => show (.int .i64 a.1 :: .int .i64 a.2.1 :: flat tP l : List AV).length = _; simp only [List.length_cons, ih]; omega
theorem flatP_plain (l : List tP.den) : plainL (flat tP l) = true := by
  induction l with
  | nil => rfl
  | cons a l ih => exact ih
theorem flatP_add (l : List tP.den) (x y : Int) : flat tP l ++ [.int .i64 x, .int .i64 y] = flat tP (l ++ [(x, y, ())]) := by
  unfold flat; rw [List.flatMap_append]; rfl
end Go.Proofs.YtgcgffnamfbcgaaGreatDoor

