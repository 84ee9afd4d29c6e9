/-
  No cell of these rows narrows 'for every input' (looked for: loops, veiled, ifaces, maps, wideKeys, modest, calm, conditions, laid).
  DERIVED. THE GIVEN ROWS OF THIS SEAT. 4 by the template 'for every input the law returns true; each argument reads behind the call as it read before'; 0 by the template 'total and deterministic' (their statements: YtelibdeanepdjaaGreatTotals.lean).
  GIVEN WITH THE SEED: the statements are not yours to turn. If you find one false, say at which input.
  Laid BY PROGRAM, IN A SANDBOX (cutbox-rows.mjs): the forced cells as the released guide's own fill.sh prints them over the translation dd148a14a3fd82b0… (all of the seat's roots in one cut). By AI agents, Wed Nov 11 2026. No macro, syntax, notation, axiom, sorry.
-/
import Derived.Test.YtelibdeanepdjaaGreatChecked
import GoSem.Claim
import GoSem.ClaimJoined
import GoSem.ClaimMapViews
import Derived.JoinedTies
import Derived.KernelRfl
namespace Go.Proofs.YtelibdeanepdjaaGreat
/- THE CELL 'sum', in the pinned program and in every row, IS THE sha256 OF THE DUMP (.gsa) THAT YtelibdeanepdjaaGreatProg.lean LOADS. Nothing in Lean hashes anything: it is a label: what it is worth is what the hold of that sum in a sandbox is worth. -/
noncomputable def Tryz.pinned : Pinned := { name := "ytelibdeanepdjaagreat", sum := "dd148a14a3fd82b0d08e2d6918b04b894449aa46ca923b2cd010b5c0b724110d", checked := Tryz.checked }
namespace Rows
def none {H : Type} : Left H := { results := [], args := [] }

/-- 'norelaw08.StoreMornings': WHATEVER THE INPUT: true; the input reads as it did. -/
def storeMorningsSpec : ChangeSpec := { name := "storeMornings", fn := fun _ => fun
  | [d1, d2, d3] => { results := [.lit (.bool true)], args := [d1, d2, d3] }
  | _ => none }
def storeMorningsRow : OpenClaim := { program := "ytelibdeanepdjaagreat", sum := "dd148a14a3fd82b0d08e2d6918b04b894449aa46ca923b2cd010b5c0b724110d", func := "nore/norelaw08.StoreMornings", spec := "storeMornings", unfollowed := true, recurses := true, plainKeys := false, apart := false }
def StoreMorningsSaid : Prop := storeMorningsRow.holds Tryz.pinned (OpenSpec.ofChange storeMorningsSpec)

/-- ITS FALSE NEIGHBOUR: 'it returns false'. Refute it at one input. -/
def storeMorningsWrong : ChangeSpec := { name := "storeMornings", fn := fun _ => fun
  | [d1, d2, d3] => { results := [.lit (.bool false)], args := [d1, d2, d3] }
  | _ => none }
def StoreMorningsWrongFalsely : Prop := storeMorningsRow.holds Tryz.pinned (OpenSpec.ofChange storeMorningsWrong)

/-- 'norelaw08.StoreLevels': WHATEVER THE INPUT: true; the input reads as it did. -/
def storeLevelsSpec : ChangeSpec := { name := "storeLevels", fn := fun _ => fun
  | [d1, d2, d3] => { results := [.lit (.bool true)], args := [d1, d2, d3] }
  | _ => none }
def storeLevelsRow : OpenClaim := { program := "ytelibdeanepdjaagreat", sum := "dd148a14a3fd82b0d08e2d6918b04b894449aa46ca923b2cd010b5c0b724110d", func := "nore/norelaw08.StoreLevels", spec := "storeLevels", unfollowed := true, recurses := true, plainKeys := false, apart := false }
def StoreLevelsSaid : Prop := storeLevelsRow.holds Tryz.pinned (OpenSpec.ofChange storeLevelsSpec)

/-- ITS FALSE NEIGHBOUR: 'it returns false'. Refute it at one input. -/
def storeLevelsWrong : ChangeSpec := { name := "storeLevels", fn := fun _ => fun
  | [d1, d2, d3] => { results := [.lit (.bool false)], args := [d1, d2, d3] }
  | _ => none }
def StoreLevelsWrongFalsely : Prop := storeLevelsRow.holds Tryz.pinned (OpenSpec.ofChange storeLevelsWrong)

/-- 'norelaw08.StoreCargos': WHATEVER THE INPUT: true; the input reads as it did. -/
def storeCargosSpec : ChangeSpec := { name := "storeCargos", fn := fun _ => fun
  | [d1, d2, d3] => { results := [.lit (.bool true)], args := [d1, d2, d3] }
  | _ => none }
def storeCargosRow : OpenClaim := { program := "ytelibdeanepdjaagreat", sum := "dd148a14a3fd82b0d08e2d6918b04b894449aa46ca923b2cd010b5c0b724110d", func := "nore/norelaw08.StoreCargos", spec := "storeCargos", unfollowed := true, recurses := true, plainKeys := false, apart := false }
def StoreCargosSaid : Prop := storeCargosRow.holds Tryz.pinned (OpenSpec.ofChange storeCargosSpec)

/-- ITS FALSE NEIGHBOUR: 'it returns false'. Refute it at one input. -/
def storeCargosWrong : ChangeSpec := { name := "storeCargos", fn := fun _ => fun
  | [d1, d2, d3] => { results := [.lit (.bool false)], args := [d1, d2, d3] }
  | _ => none }
def StoreCargosWrongFalsely : Prop := storeCargosRow.holds Tryz.pinned (OpenSpec.ofChange storeCargosWrong)

/-- 'norelaw08.StoreConserved': WHATEVER THE INPUT: true; the input reads as it did. -/
def storeConservedSpec : ChangeSpec := { name := "storeConserved", fn := fun _ => fun
  | [d1, d2, d3] => { results := [.lit (.bool true)], args := [d1, d2, d3] }
  | _ => none }
def storeConservedRow : OpenClaim := { program := "ytelibdeanepdjaagreat", sum := "dd148a14a3fd82b0d08e2d6918b04b894449aa46ca923b2cd010b5c0b724110d", func := "nore/norelaw08.StoreConserved", spec := "storeConserved", unfollowed := true, recurses := true, plainKeys := false, apart := false }
def StoreConservedSaid : Prop := storeConservedRow.holds Tryz.pinned (OpenSpec.ofChange storeConservedSpec)

/-- ITS FALSE NEIGHBOUR: 'it returns false'. Refute it at one input. -/
def storeConservedWrong : ChangeSpec := { name := "storeConserved", fn := fun _ => fun
  | [d1, d2, d3] => { results := [.lit (.bool false)], args := [d1, d2, d3] }
  | _ => none }
def StoreConservedWrongFalsely : Prop := storeConservedRow.holds Tryz.pinned (OpenSpec.ofChange storeConservedWrong)

/- THE SECOND FORM. 'bulk': how many values and letters a reading holds, each counted each time it is reached (what is shared counts as often as it is met; a slice's spare places count too). A statement '..UptoSaid' is the law's where the arguments, and the package variables that the reading takes, are together of bulk at most 1048576: NARROWER than '..Said'. Prove '..Said' where nothing that the law and all that it calls make is longer than what came in: it says more and counts as full. Else prove '..UptoSaid'. A law counts once. -/
mutual
def uptoBulk {H : Type} : DataW H → Nat
  | .lit (.string bytes) => bytes.length + 1
  | .lit _ => 1
  | .nil => 1
  | .ptr d => uptoBulk d + 1
  | .slice elems spare => uptoBulkAll elems + uptoBulkAll spare + 1
  | .agg parts => uptoBulkAll parts + 1
  | .iface _ d => uptoBulk d + 1
  | .map entries => uptoBulkEntries entries + 1
  | .held _ => 1
def uptoBulkAll {H : Type} : List (DataW H) → Nat
  | [] => 0
  | d :: r => uptoBulk d + uptoBulkAll r
def uptoBulkEntries {H : Type} : List (Lit × DataW H) → Nat
  | [] => 0
  | x :: r => uptoBulkEntry x + uptoBulkEntries r
def uptoBulkEntry {H : Type} : Lit × DataW H → Nat
  | (.string bytes, d) => bytes.length + uptoBulk d + 1
  | (_, d) => uptoBulk d + 1
 end
def uptoSmall : (H : Type) → List (DataW H) → Bool := fun _ ds => decide (uptoBulkAll ds ≤ 1048576)
def OpenSpec.upto (s : _root_.Go.ChangeSpec) : _root_.Go.OpenSpec := { _root_.Go.OpenSpec.ofChange s with cond := some uptoSmall }

/-- 'norelaw08.StoreMornings', WHERE WHAT IT READS IS OF BULK AT MOST 1048576: true; the input reads as it did. -/
def storeMorningsUptoRow : OpenClaim := { program := "ytelibdeanepdjaagreat", sum := "dd148a14a3fd82b0d08e2d6918b04b894449aa46ca923b2cd010b5c0b724110d", func := "nore/norelaw08.StoreMornings", spec := "storeMornings", unfollowed := true, recurses := true, plainKeys := false, apart := false, narrowed := true }
def StoreMorningsUptoSaid : Prop := storeMorningsUptoRow.holds Tryz.pinned (OpenSpec.upto storeMorningsSpec)

/-- 'norelaw08.StoreLevels', WHERE WHAT IT READS IS OF BULK AT MOST 1048576: true; the input reads as it did. -/
def storeLevelsUptoRow : OpenClaim := { program := "ytelibdeanepdjaagreat", sum := "dd148a14a3fd82b0d08e2d6918b04b894449aa46ca923b2cd010b5c0b724110d", func := "nore/norelaw08.StoreLevels", spec := "storeLevels", unfollowed := true, recurses := true, plainKeys := false, apart := false, narrowed := true }
def StoreLevelsUptoSaid : Prop := storeLevelsUptoRow.holds Tryz.pinned (OpenSpec.upto storeLevelsSpec)

/-- 'norelaw08.StoreCargos', WHERE WHAT IT READS IS OF BULK AT MOST 1048576: true; the input reads as it did. -/
def storeCargosUptoRow : OpenClaim := { program := "ytelibdeanepdjaagreat", sum := "dd148a14a3fd82b0d08e2d6918b04b894449aa46ca923b2cd010b5c0b724110d", func := "nore/norelaw08.StoreCargos", spec := "storeCargos", unfollowed := true, recurses := true, plainKeys := false, apart := false, narrowed := true }
def StoreCargosUptoSaid : Prop := storeCargosUptoRow.holds Tryz.pinned (OpenSpec.upto storeCargosSpec)

/-- 'norelaw08.StoreConserved', WHERE WHAT IT READS IS OF BULK AT MOST 1048576: true; the input reads as it did. -/
def storeConservedUptoRow : OpenClaim := { program := "ytelibdeanepdjaagreat", sum := "dd148a14a3fd82b0d08e2d6918b04b894449aa46ca923b2cd010b5c0b724110d", func := "nore/norelaw08.StoreConserved", spec := "storeConserved", unfollowed := true, recurses := true, plainKeys := false, apart := false, narrowed := true }
def StoreConservedUptoSaid : Prop := storeConservedUptoRow.holds Tryz.pinned (OpenSpec.upto storeConservedSpec)

end Rows
end Go.Proofs.YtelibdeanepdjaaGreat
