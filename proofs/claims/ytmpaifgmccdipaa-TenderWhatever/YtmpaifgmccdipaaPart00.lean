/-
  THE ENGINE: one more part of it.
-/
import GoSem.Core.Utf8
import GoSem.Core.Program
import GoSem.Core.View
import Derived.WalkKit
import Derived.Laws.Sem
import Derived.Laws.World
import Derived.Laws.Rows
import Derived.Laws.CopyRow
import Derived.Laws.Cells
import Derived.WideLaws
import Derived.IntWalk
import Derived.Laws.StructEq
import Derived.Laws.RangeString
import Derived.Laws.Tables
set_option linter.unusedSectionVars false
set_option linter.unusedSimpArgs false
set_option linter.unusedVariables false
namespace Go.Eng
open Go
inductive Tr (α:Type) where
 |lf
 |nd (l:Tr α) (v:Option α) (r:Tr α)
noncomputable def Tr.get {α:Type} (t:Tr α):Nat→Option α:=
 Tr.rec (motive:=fun _=>Nat→Option α) (fun _=>none) (fun _ v _ gl gr k=>Bool.rec (Bool.rec (gr (Nat.div k 2-1)) (gl (Nat.div k 2)) (Nat.beq (Nat.mod k 2) 1)) v (Nat.beq k 0)) t
noncomputable def Tr.set {α:Type} (t:Tr α):Nat→α→Tr α:=
 Tr.rec (motive:=fun _=>Nat→α→Tr α) (fun _ _=>.lf) (fun l v r sl sr k x=>Bool.rec (Bool.rec (.nd l v (sr (Nat.div k 2-1) x)) (.nd (sl (Nat.div k 2) x) v r) (Nat.beq (Nat.mod k 2) 1)) (.nd l (some x) r) (Nat.beq k 0)) t
noncomputable def Tr.full {α:Type} (d:Nat):Tr α:=Nat.rec .lf (fun _ t=>.nd t none t) d
inductive Ty where
 |int (k:IntKind)|bool|str|nil|cons (t ts:Ty)|sl (t:Ty)
@[reducible] def Ty.den:Ty→Type
 |.int _=>Int
 |.bool=>Bool
 |.str=>List Nat
 |.nil=>Unit
 |.cons t ts=>t.den×ts.den
 |.sl t=>Bool×List t.den
noncomputable def Ty.dflt:(t:Ty)→t.den
 |.int _=>(0:Int)
 |.bool=>false
 |.str=>([]:List Nat)
 |.nil=>()
 |.cons t ts=>(t.dflt,ts.dflt)
 |.sl _=>(true,[])
noncomputable def Ty.size:Ty→Nat
 |.nil=>0
 |.cons t ts=>t.size+ts.size
 |_=>1
inductive AV where
 |bool (b:Bool)|int (k:IntKind) (n:Int)|str (s:List Nat)
 |ptr (id off:Nat)|gp (g off:Nat)|cp (cells:List AV) (off:Nat)|nilp
 |sl (id off len cl sz:Nat)|fsl (id off len sz:Nat)|csl (cells:List AV) (len:Nat)|nils|sle
 |vs (t:Ty) (nl:Bool) (l:List t.den)
 |mp (id:Nat)|nilm|iter (id:Nat)
 |fn (f:Nat) (first caps:List AV)|yld (lvl:Nat)|nilf
 |ifc (t:Nat) (v:AV)|mv (t:Nat) (v:AV) (n:String)|nili
 |agg (l:List AV)|tup (l:List AV)
 deriving Inhabited
noncomputable def Ty.cells:(t:Ty)→t.den→List AV
 |.int k,n=>[.int k n]
 |.bool,b=>[.bool b]
 |.str,s=>[.str s]
 |.nil,_=>[]
 |.cons t ts,d=>t.cells d.1++ts.cells d.2
 |.sl t,d=>[.vs t d.1 d.2]
noncomputable def Ty.av:(t:Ty)→t.den→AV
 |.int k,n=>.int k n
 |.bool,b=>.bool b
 |.str,s=>.str s
 |.nil,_=>.agg []
 |.cons t ts,d=>.agg (t.cells d.1++ts.cells d.2)
 |.sl t,d=>.vs t d.1 d.2
noncomputable def flat (t:Ty) (l:List t.den):List AV:=l.flatMap t.cells
inductive AO where
 |cells (ro:Bool) (l:List AV)
 |map (es:List (AV×AV))
 |cmap (es:List (AV×AV)) (bs:List Nat) (ck:Nat)
 |miter (m since:Nat) (seen:List Nat) (last:Nat)
 |siter (s:List Nat) (pos:Nat)
 |gone
 deriving Inhabited
structure Hp where
 t:Tr AO
 n:Nat
noncomputable def Hp.get (σ:Hp) (id:Nat):Option AO:=σ.t.get id
noncomputable def Hp.set (σ:Hp) (id:Nat) (o:AO):Hp:=⟨σ.t.set id o,σ.n⟩
noncomputable def Hp.push (σ:Hp) (o:AO):Hp:=⟨σ.t.set σ.n o,σ.n+1⟩
noncomputable def Hp.empty:Hp:=⟨.full 22,0⟩
abbrev Tmps:=Tr AV
noncomputable def putT (nt:Nat) (τ:Tmps) (d:Option Nat) (v:AV):Option Tmps:=
 match d with
 |some t=>match Nat.ble (t+1) nt with
  |true=>some (τ.set t v)
  |false=>none
 |none=>some τ
structure KF where
 off:Nat
 type:Nat
 named:Bool
inductive KT where
 |bool|int (k:IntKind)|str|ptr|slice (e:Nat)|arr (n e:Nat)|map (k e:Nat)|fn|ifc (bare:Bool)|struct (fs:List KF)
structure Env where
 ty:Nat→Option KT
 size:Nat→Nat
 bytes:Nat→Nat
 zero:Nat→Option AV
 fn:Nat→Option Func
 glob:Nat→Option (List AV)
 ext:Nat→List AV→Option AV
 frz:Nat→Bool
 eqok:Nat→Bool
 meth:Nat→String→Option Nat
 sy:Bool
 iv:Option Nat:=none
 cm:Bool:=false
 fp:Nat→Bool:=fun _=>false
 tr:Nat→Bool:=fun _=>false
noncomputable def undefA:AV:=.tup []
noncomputable def lit:Nat→Value→Option AV
 |0,_=>none
 |n+1,v=>match v with
  |.bool b=>some (.bool b)
  |.int k i=>some (.int k i)
  |.string s=>some (.str (s.data.toList.map (·.toNat)))
  |.pointer none=>some .nilp
  |.slice none 0 0=>some .nils
  |.map none=>some .nilm
  |.nilFunc=>some .nilf
  |.nilIface=>some .nili
  |.agg cs=>(cs.toList.mapM (lit n)).map .agg
  |.tuple cs=>(cs.toList.mapM (lit n)).map .tup
  |_=>none
noncomputable def AV.cells:AV→List AV
 |.agg l=>l
 |v=>[v]
noncomputable def ev (τ:Tmps):Operand→Option AV
 |.tmp t=>τ.get t
 |.const v=>lit 3 v
 |.global g=>some (.gp g 0)
 |.func f=>some (.fn f [] [])
noncomputable def evs (τ:Tmps):List Operand→Option (List AV)
 |[]=>some []
 | x :: xs => match ev τ x with
  |none=>none
  |some v=>match evs τ xs with
   |none=>none
   |some vs=>some (v::vs)
noncomputable def ikn:IntKind→Nat
 |.i8=>0|.i16=>1|.i32=>2|.i64=>3|.u8=>4|.u16=>5|.u32=>6|.u64=>7
noncomputable def ikb (a b:IntKind):Bool:=Nat.beq (ikn a) (ikn b)
noncomputable def ile:Int→Int→Bool
 |.ofNat a,.ofNat b=>Nat.ble a b
 |.ofNat _,.negSucc _=>false
 |.negSucc _,.ofNat _=>true
 |.negSucc a,.negSucc b=>Nat.ble b a
noncomputable def ieq:Int→Int→Bool
 |.ofNat a,.ofNat b=>Nat.beq a b
 |.negSucc a,.negSucc b=>Nat.beq a b
 |_,_=>false
noncomputable def wr (k:IntKind) (n:Int):Int:=
 match k with
 | .i64 => match n with
  |.ofNat m=>match Nat.ble m 9223372036854775807 with
   |true=>n
   |false=>k.wrap n
  |.negSucc m=>match Nat.ble m 9223372036854775807 with
   |true=>n
   |false=>k.wrap n
 |_=>k.wrap n
noncomputable def idx (j:Int) (len:Nat):Option Nat:=
 match j with
 |.ofNat n=>match Nat.ble (n+1) len with
  |true=>some n
  |false=>none
 |.negSucc _=>none
noncomputable def inB (j:Int) (len:Nat):Bool:=
 match j with
 |.ofNat n=>Nat.ble (n+1) len
 |.negSucc _=>false
noncomputable def lbeq:List Nat→List Nat→Bool
 |[],[]=>true
 |a::x,b::y=>match Nat.beq a b with
  |true=>lbeq x y
  |false=>false
 |_,_=>false
noncomputable def bytesLt:List Nat→List Nat→Bool
 |_,[]=>false
 |[],_::_=>true
 | a :: x, b :: y => match Nat.ble (a + 1) b with
  |true=>true
  |false=>match Nat.beq a b with
   |true=>bytesLt x y
   |false=>false
noncomputable def oneAll:List AV→Bool
 |[]=>true
 |.agg _::_=>false
 |.tup _::_=>false
 |_::l=>oneAll l
noncomputable def isAggT (E:Env) (t:Nat):Option Bool:=
 match E.ty t with
 |some (.struct _)=>some true
 |some (.arr _ _)=>some true
 |some _=>some false
 |none=>none
noncomputable def cut (l:List AV) (off n:Nat):Option (List AV):=
 match Nat.ble (off+n) l.length with
 |true=>some ((l.drop off).take n)
 |false=>none
noncomputable def part (E:Env) (t:Nat) (cs:List AV) (off:Nat):Option AV:=
 match isAggT E t with
 |some true=>(cut cs off (E.size t)).map .agg
 |some false=>cs[off]?
 |none=>none
noncomputable def setAt (cs:List AV):Nat→List AV→List AV
 |_,[]=>cs
 |off,v::vs=>setAt (cs.set off v) (off+1) vs
noncomputable def fill (place:Nat→Option (Nat×Nat)):List AV→List (Nat×AV)→Option (List AV)
 |cs,[]=>some cs
 | cs, (i, v) :: rest => match place i with
  |none=>none
  |some (off,size)=>match Nat.beq v.cells.length size,Nat.ble (off+size) cs.length with
   |true,true=>fill place (setAt cs off v.cells) rest
   |_,_=>none
noncomputable def repl:Nat→List AV→List AV
 |0,_=>[]
 |n+1,z=>z++repl n z
noncomputable def decN (s:List Nat) (i:Nat):Nat×Nat:=
 match s.all (fun c=>Nat.ble c 255) with
 |true=>Utf8.decode ⟨(s.map Nat.toUInt8).toArray⟩ i
 |false=>(128,1)
noncomputable def arith (op:BinOp) (k:IntKind) (a b:Int):Option AV:=
 match op with
 |.add=>some (.int k (wr k (a+b)))
 |.sub=>some (.int k (wr k (a-b)))
 |.mul=>some (.int k (wr k (a * b)))
 |.quo=>match ieq b 0 with
  |true=>none
  |false=>some (.int k (wr k (a.tdiv b)))
 |.rem=>match ieq b 0 with
  |true=>none
  |false=>some (.int k (a.tmod b))
 |.and=>some (.int k (k.wrap (BitVec.ofInt k.bits a &&& BitVec.ofInt k.bits b).toNat))
 |.or=>some (.int k (k.wrap (BitVec.ofInt k.bits a ||| BitVec.ofInt k.bits b).toNat))
 |.xor=>some (.int k (k.wrap (BitVec.ofInt k.bits a ^^^ BitVec.ofInt k.bits b).toNat))
 |.andNot=>some (.int k (k.wrap (BitVec.ofInt k.bits a &&& ~~~ BitVec.ofInt k.bits b).toNat))
 |.eql=>some (.bool (ieq a b))
 |.neq=>some (.bool (!(ieq a b)))
 |.lss=>some (.bool (!(ile b a)))
 |.leq=>some (.bool (ile a b))
 |.gtr=>some (.bool (!(ile a b)))
 |.geq=>some (.bool (ile b a))
 |_=>none
noncomputable def strOp (op:BinOp) (a b:List Nat):Option AV:=
 match op with
 |.add=>match Nat.ble (a.length+b.length) 1099511627776 with
  |true=>some (.str (a++b))
  |false=>none
 |.eql=>some (.bool (lbeq a b))
 |.neq=>some (.bool (!(lbeq a b)))
 |.lss=>some (.bool (bytesLt a b))
 |.leq=>some (.bool (bytesLt a b || lbeq a b))
 |.gtr=>some (.bool (!(bytesLt a b || lbeq a b)))
 |.geq=>some (.bool (!bytesLt a b))
 |_=>none
noncomputable def eqvR (E:Env) (g:AV→AV→Option Bool) (e:Nat) (xs ys:List AV):Nat→Nat→Option Bool
 |0,_=>some true
 | n + 1, i => match part E e xs (i * E.size e), part E e ys (i * E.size e) with
  |some x,some y=>match g x y with
   |some true=>eqvR E g e xs ys n (i+1)
   |r=>r
  |_,_=>none
mutual
noncomputable def eqv (E:Env):Nat→Nat→AV→AV→Option Bool
 |0,_,_,_=>none
 | d + 1, t, x, y =>
  match E.ty t with
  | some .bool => match x with
   |.bool a=>match y with
    |.bool b=>some (a == b)
    |_=>none
   |_=>none
  | some (.int _) => match x with
   | .int k a => match y with
    |.int k' b=>match ikb k k' with
     |true=>some (ieq a b)
     |false=>none
    |_=>none
   |_=>none
  | some .str => match x with
   |.str a=>match y with
    |.str b=>some (lbeq a b)
    |_=>none
   |_=>none
  | some (.struct fs) => match x with
   | .agg xs => match y with
    |.agg ys=>match E.eqok t with
     |true=>eqvF E d fs xs ys
     |false=>none
    |_=>none
   |_=>none
  | some (.arr n e) => match x with
   | .agg xs => match y with
    |.agg ys=>match E.eqok t with
     |true=>eqvR E (eqv E d e) e xs ys n 0
     |false=>none
    |_=>none
   |_=>none
  |some .ptr=>match x,y with
   |.nilp,.nilp=>some true
   |.nilp,.ptr _ _=>some false
   |.ptr _ _,.nilp=>some false
   |.nilp,.gp _ _=>some false
   |.gp _ _,.nilp=>some false
   |.nilp,.cp _ _=>some false
   |.cp _ _,.nilp=>some false
   |_,_=>none
  |some (.ifc _)=>match x,y with
   |.nili,.ifc _ _=>some false
   |.ifc _ _,.nili=>some false
   |_,_=>none
  |some .fn=>match x,y with
   |.nilf,.nilf=>some true
   |.nilf,.fn _ _ _=>some false
   |.fn _ _ _,.nilf=>some false
   |_,_=>none
  |some (.slice _)=>match x,y with
   |.nils,.nils=>some true
   |.nils,.sl _ _ _ _ _=>some false
   |.sl _ _ _ _ _,.nils=>some false
   |.nils,.csl _ _=>some false
   |.csl _ _,.nils=>some false
   |.nils,.sle=>some false
   |.sle,.nils=>some false
   |.nils,.vs _ nl _=>some nl
   |.vs _ nl _,.nils=>some nl
   |_,_=>none
  |some (.map _ _)=>match x,y with
   |.nilm,.nilm=>some true
   |.nilm,.mp _=>some false
   |.mp _,.nilm=>some false
   |_,_=>none
  |_=>none
noncomputable def eqvF (E:Env):Nat→List KF→List AV→List AV→Option Bool
 |_,[],_,_=>some true
 |0,_::_,_,_=>none
 | d + 1, f :: fs, xs, ys => match f.named with
  |false=>eqvF E d fs xs ys
  | true => match part E f.type xs f.off, part E f.type ys f.off with
   |some x,some y=>match eqv E d f.type x y with
    |some true=>eqvF E d fs xs ys
    |r=>r
   |_,_=>none
end
noncomputable def isConst:Operand→Bool
 |.const _=>true
 |_=>false
noncomputable def binop (E:Env) (op:BinOp) (t:Nat) (x y:AV) (c:Bool):Option AV:=
 match x,y with
 |.nili,.nili=>match E.ty t,c,op with
  |some (.ifc _),true,.eql=>some (.bool true)
  |some (.ifc _),true,.neq=>some (.bool false)
  |_,_,_=>none
 | .int k a, .int k' b => match op with
  |.shl=>match ile 0 b with
   |true=>some (.int k (k.wrap (a * 2 ^ (min b.toNat k.bits))))
   |false=>none
  |.shr=>match ile 0 b with
   |true=>some (.int k (a.fdiv (2 ^ (min b.toNat k.bits))))
   |false=>none
  |op=>match ikb k k' with
   |true=>arith op k a b
   |false=>none
 |.str a,.str b=>strOp op a b
 |x,y=>match op with
  |.eql=>(eqv E 40 t x y).map .bool
  |.neq=>(eqv E 40 t x y).map fun b=>.bool (!b)
  |_=>none
noncomputable def unop (op:UnOp) (x:AV):Option AV:=
 match op,x with
 |.neg,.int k n=>some (.int k (wr k (0-n)))
 |.not,.bool b=>some (.bool (!b))
 |.xor,.int k n=>some (.int k (k.wrap (BitVec.ofInt k.bits (if k.signed then -1 else k.max) ^^^ BitVec.ofInt k.bits n).toNat))
 |_,_=>none
noncomputable def loadC (E:Env) (σ:Hp) (a:AV) (n:Nat):Option (List AV):=
 match a with
 |.ptr id off=>match σ.get id with
  |some (.cells _ l)=>cut l off n
  |_=>none
 |.gp g off=>match E.glob g with
  |some l=>cut l off n
  |none=>none
 |.cp l off=>cut l off n
 |_=>none
noncomputable def loadV (E:Env) (σ:Hp) (t:Nat) (a:AV):Option AV:=
 match isAggT E t with
 |some true=>(loadC E σ a (E.size t)).map .agg
 |some false=>match loadC E σ a 1 with
  |some [v]=>some v
  |_=>none
 |none=>none
noncomputable def storeV (E:Env) (σ:Hp) (t:Nat) (a v:AV):Option Hp:=
 match a with
 | .ptr id off => match σ.get id with
  |some (.cells false l)=>match isAggT E t,Nat.beq v.cells.length (E.size t),Nat.ble (off+v.cells.length) l.length,oneAll v.cells with
   |some _,true,true,true=>some (σ.set id (.cells false (setAt l off v.cells)))
   |_,_,_,_=>none
  |_=>none
 |_=>none
noncomputable def elemsOf (σ:Hp) (size:Nat):AV→Option (List AV×Nat)
 |.nils=>some ([],0)
 |.sle=>some ([],0)
 |.vs t _ l=>match Nat.beq t.size size with
  |true=>some (flat t l,l.length)
  |false=>none
 |.sl id off len _ _=>match σ.get id with
  |some (.cells _ l)=>(cut l off (len * size)).map (·,len)
  |_=>none
 |.csl cells len=>(cut cells 0 (len * size)).map (·,len)
 |.str s=>match Nat.beq size 1 with
  |true=>some (s.map fun b=>.int .u8 (Int.ofNat b),s.length)
  |false=>none
 |_=>none
noncomputable def keyEq (kt:KT) (x y:AV):Option Bool:=
 match kt with
 | .int _ => match x, y with
  |.int k a,.int k' b=>match ikb k k' with
   |true=>some (ieq a b)
   |false=>none
  |_,_=>none
 |.str=>match x,y with
  |.str a,.str b=>some (lbeq a b)
  |_,_=>none
 |.bool=>match x,y with
  |.bool a,.bool b=>some (a == b)
  |_,_=>none
 |_=>none
noncomputable def keyEq1 (x y:AV):Option Bool:=
 match x,y with
 |.int k a,.int k' b=>match ikb k k' with
  |true=>some (ieq a b)
  |false=>none
 |.str a,.str b=>some (lbeq a b)
 |.bool a,.bool b=>some (a == b)
 |_,_=>none
noncomputable def keyEqL:List AV→List AV→Option Bool
 |[],[]=>some true
 |x::xs,y::ys=>match keyEq1 x y,keyEqL xs ys with
  |some true,some r=>some r
  |some false,some _=>some false
  |_,_=>none
 |_,_=>none
noncomputable def keyEqA (E:Env) (t:Nat) (x y:AV):Option Bool:=
 match x,y with
 |.agg a,.agg b=>match keyEqL a b,eqv E 40 t x y with
  |some true,some true=>some true
  |some false,some false=>some false
  |_,_=>none
 |_,_=>none
noncomputable def keyEqT (E:Env) (t:Nat) (kt:KT) (x y:AV):Option Bool:=
 match kt with
 |.struct _=>keyEqA E t x y
 |.arr _ _=>keyEqA E t x y
 |kt=>keyEq kt x y
noncomputable def fitF (E:Env) (g:Nat→AV→Bool) (l:List AV):List KF→Bool
 |[]=>true
 | f :: fs => match part E f.type l f.off with
  |some y=>match g f.type y with
   |true=>fitF E g l fs
   |false=>false
  |none=>false
noncomputable def fitR (E:Env) (g:AV→Bool) (e:Nat) (l:List AV):Nat→Nat→Bool
 |0,_=>true
 | n + 1, i => match part E e l (i * E.size e) with
  |some y=>match g y with
   |true=>fitR E g e l n (i+1)
   |false=>false
  |none=>false
noncomputable def keyFit (E:Env):Nat→Nat→AV→Bool
 |0,_,_=>false
 | d + 1, t, x => match E.ty t with
  |some (.int _)=>true
  |some .str=>true
  |some .bool=>true
  |some (.struct fs)=>match x with
   |.agg l=>fitF E (keyFit E d) l fs
   |_=>false
  |some (.arr n e)=>match x with
   |.agg l=>fitR E (keyFit E d e) e l n 0
   |_=>false
  |_=>false
noncomputable def findKey (E:Env) (t:Nat) (kt:KT) (k:AV):List (AV×AV)→Nat→Option (Option (Nat×AV))
 |[],_=>some none
 |(x,v)::es,i=>match keyEqT E t kt k x with
  |some true=>some (some (i,v))
  |some false=>findKey E t kt k es (i+1)
  |none=>none
noncomputable def keyT (E:Env) (t:Nat):Option (Nat×KT):=
 match E.ty t with
 |some (.map k _)=>match E.ty k with
  |some (.int i)=>some (k,.int i)
  |some .str=>some (k,.str)
  |some .bool=>some (k,.bool)
  |some (.struct fs)=>some (k,.struct fs)
  |some (.arr n e)=>some (k,.arr n e)
  |_=>none
 |_=>none
noncomputable def findK (E:Env) (p:Nat×KT) (k:AV) (es:List (AV×AV)):Option (Option (Nat×AV)):=
 match keyFit E 9 p.1 k with
 |true=>findKey E p.1 p.2 k es 0
 |false=>none
noncomputable def mapSet (E:Env) (p:Nat×KT) (es:List (AV×AV)) (k v:AV):Option (List (AV×AV)):=
 match findK E p k es with
 |some (some (i,_))=>some (es.set i (k,v))
 |some none=>some (es++[(k,v)])
 |none=>none
inductive Res where
 |val (v:AV) (σ:Hp)
 |skip (σ:Hp)
 |call (f:Nat) (args:List AV)
 |yld (lvl:Nat) (args:List AV)
 |dfr (f:Nat) (args:List AV)
 |recov
noncomputable def optA (τ:Tmps):Option Operand→Option (Option AV)
 |none=>some none
 |some x=>(ev τ x).map some
noncomputable def bound:Option AV→Nat→Nat→Option Nat
 |none,dflt,_=>some dflt
 |some (.int _ i),_,most=>idx i (most+1)
 |_,_,_=>none
noncomputable def sliceV (E:Env) (σ:Hp) (t:Nat) (x:AV) (lo hi:Option AV):Option AV:=
 match E.ty t,x with
 | some .str, .str s => match bound hi s.length s.length with
  |some h=>match bound lo 0 h with
   |some l=>some (.str ((s.drop l).take (h-l)))
   |none=>none
  |none=>none
 | some (.slice e), .sl id off len cl sz => match bound hi len len with
  | some h => match bound lo 0 h with
   |some l=>match Nat.beq sz (E.size e) with
    |true=>some (.sl id (off+l * E.size e) (h-l) (cl-l) sz)
    |false=>none
   |none=>none
  |none=>none
 | some (.slice e), .csl cells len => match bound hi len len with
  | some h => match bound lo 0 h with
   |some l=>match Nat.ble (len * E.size e) cells.length with
    |true=>some (.csl (cells.drop (l * E.size e)) (h-l))
    |false=>none
   |none=>none
  |none=>none
 | some (.slice _), .nils => match bound hi 0 0 with
  |some h=>match bound lo 0 h with
   |some _=>some .nils
   |none=>none
  |none=>none
 | some (.arr n e), .ptr id off => match bound hi n n with
  | some h => match bound lo 0 h with
   | some l => match σ.get id with
    |some (.cells _ cl)=>match Nat.ble (off+n * E.size e) cl.length with
     |true=>some (.sl id (off+l * E.size e) (h-l) (n-l) (E.size e))
     |false=>none
    |_=>none
   |none=>none
  |none=>none
 |_,_=>none
noncomputable def slice3V (E:Env) (t:Nat) (x:AV) (lo hi mx:Option AV):Option AV:=
 match E.ty t,x with
 | some (.slice e), .sl id off _ cl sz => match bound mx cl cl with
  | some m => match bound hi m m with
   | some h => match bound lo 0 h with
    | some l => match Nat.beq l m, Nat.beq sz (E.size e) with
     |true,true=>some .sle
     |false,true=>match Nat.beq h m with
      |true=>some (.fsl id (off+l * E.size e) (h-l) sz)
      |false=>none
     |_,_=>none
    |none=>none
   |none=>none
  |none=>none
 | some (.slice _), .csl _ len => match bound mx len len with
  | some m => match bound hi m m with
   | some h => match bound lo 0 h with
    |some l=>match Nat.beq l m with
     |true=>some .sle
     |false=>none
    |none=>none
   |none=>none
  |none=>none
 | some (.slice _), .nils => match bound mx 0 0 with
  | some m => match bound hi m m with
   |some h=>match bound lo 0 h with
    |some _=>some .nils
    |none=>none
   |none=>none
  |none=>none
 | some (.slice _), .sle => match bound mx 0 0 with
  | some m => match bound hi m m with
   |some h=>match bound lo 0 h with
    |some _=>some .sle
    |none=>none
   |none=>none
  |none=>none
 |_,_=>none
noncomputable def bytesOf:List AV→Option (List Nat)
 |[]=>some []
 |.int .u8 (.ofNat b)::cs=>match Nat.ble b 255,bytesOf cs with
  |true,some s=>some (b::s)
  |_,_=>none
 |_=>none
noncomputable def minN (a b:Nat):Nat:=match Nat.ble a b with
 |true=>a
 |false=>b
noncomputable def copyW (σ:Hp) (size id off len sz:Nat) (x:AV):Option Res:=
 match elemsOf σ size x with
 | some (new, m) => match σ.get id with
  |some (.cells false l)=>match Nat.beq sz size,Nat.ble (off+len * size) l.length,oneAll new with
   |true,true,true=>some (.val (.int .i64 m) (σ.set id (.cells false (setAt l off new))))
   |_,_,_=>none
  |_=>none
 |none=>none
noncomputable def copyV (σ:Hp) (size:Nat) (s x:AV):Option Res:=
 match s with
 |.sl id off len _ sz=>match x with
  |.sl id2 off2 len2 cl2 sz2=>copyW σ size id off len sz (.sl id2 off2 (minN len2 len) cl2 sz2)
  |.csl cells len2=>copyW σ size id off len sz (.csl cells (minN len2 len))
  |_=>none
 |_=>none
noncomputable def mapES:Option AO→Option (List (AV×AV))
 |some (.map es)=>some es
 |some (.cmap es _ _)=>some es
 |_=>none
noncomputable def mapSetC (E:Env) (p:Nat×KT) (es:List (AV×AV)) (bs:List Nat) (ck:Nat) (k v:AV):Option AO:=
 match findK E p k es with
 |some (some (i,_))=>some (.cmap (es.set i (k,v)) bs ck)
 |some none=>some (.cmap (es++[(k,v)]) (bs++[ck]) (ck+1))
 |none=>none
noncomputable def clearM (σ:Hp) (s:AV):Option Res:=
 match s with
 |.nilm=>some (.val (.tup []) σ)
 |.mp id=>match σ.get id with
  |some (.map _)=>some (.val (.tup []) (σ.set id (.map [])))
  |some (.cmap _ _ ck)=>some (.val (.tup []) (σ.set id (.cmap [] [] ck)))
  |_=>none
 |_=>none
noncomputable def memN (i:Nat):List Nat→Bool
 |[]=>false
 |j::l=>match Nat.beq i j with
  |true=>true
  |false=>memN i l
noncomputable def leftM:List (AV×AV)→List Nat→List Nat→List ((AV×AV)×Nat)
 |e::es,b::bs,seen=>match memN b seen with
  |true=>leftM es bs seen
  |false=>(e,b)::leftM es bs seen
 |_,_,_=>[]
noncomputable def allB (last:Nat):List Nat→Bool
 |[]=>true
 |b::bs=>match Nat.ble last b with
  |true=>allB last bs
  |false=>false
noncomputable def nextM (σ:Hp) (id m since:Nat) (seen:List Nat) (last:Nat) (es:List (AV×AV)) (bs:List Nat) (ck:Nat):Option Res:=
 match (match seen,es with|[],_=>false|_,[]=>false|_,_=>allB last bs) with
 |true=>none
 | false => match leftM es bs seen with
  |[]=>some (.val (.tup [.bool false]) σ)
  |[((k,v),b)]=>match Nat.ble since b with
   |true=>none
   |false=>some (.val (.tup [.bool true,k,v]) (σ.set id (.miter m since (seen++[b]) ck)))
  |_=>none
noncomputable def lastN:List Nat→Option Nat
 |[]=>none
 |[b]=>some b
 |_::l=>lastN l
noncomputable def findB (st:Nat):List (AV×AV)→List Nat→Option (AV×AV)
 |e::es,b::bs=>match Nat.beq b st with
  |true=>some e
  |false=>findB st es bs
 |_,_=>none
noncomputable def clearV (E:Env) (σ:Hp) (e:Nat) (s:AV):Option Res:=
 match s with
 |.nils=>some (.val (.tup []) σ)
 | .sl id off len _ sz => match len with
  |0=>some (.val (.tup []) σ)
  | len + 1 => match σ.get id, E.zero e with
   |some (.cells false l),some z=>match Nat.beq sz (E.size e),Nat.ble (off+(len+1) * E.size e) l.length,oneAll (repl (len+1) z.cells) with
    |true,true,true=>some (.val (.tup []) (σ.set id (.cells false (setAt l off (repl (len+1) z.cells)))))
    |_,_,_=>none
   |_,_=>none
 |_=>none
noncomputable def builtinV (E:Env) (σ:Hp) (b:Builtin) (ats:Array TypeId) (args:List AV):Option Res:=
 match b,args with
 | .len, [x] => match (ats[0]?).bind E.ty, x with
  |some .str,.str s=>some (.val (.int .i64 s.length) σ)
  |some (.slice _),.nils=>some (.val (.int .i64 0) σ)
  |some (.slice _),.sle=>some (.val (.int .i64 0) σ)
  |some (.slice _),.vs _ _ l=>some (.val (.int .i64 l.length) σ)
  |some (.slice _),.sl _ _ n _ _=>some (.val (.int .i64 n) σ)
  |some (.slice _),.csl _ n=>some (.val (.int .i64 n) σ)
  |some (.map _ _),.nilm=>some (.val (.int .i64 0) σ)
  |some (.map _ _),.mp id=>match mapES (σ.get id) with
   |some es=>some (.val (.int .i64 es.length) σ)
   |none=>none
  |some (.arr n _),_=>some (.val (.int .i64 n) σ)
  |_,_=>none
 |.cap,[x]=>match (ats[0]?).bind E.ty,x with
  |some (.slice _),.nils=>some (.val (.int .i64 0) σ)
  |some (.slice _),.sle=>some (.val (.int .i64 0) σ)
  |_,_=>none
 | .append, [s, x] => match (ats[0]?).bind E.ty, (match (ats[1]?).bind E.ty with | some (.slice _) => true | some .str => true | _ => false) with
  | some (.slice e), true => match elemsOf σ (E.size e) x with
   | some (new, n) => match Nat.ble n 1048576 && oneAll new && Nat.ble (E.bytes e) 65536, E.zero e with
    | true, some _ => match s with
     |.nils=>match n with
      |0=>some (.val .nils σ)
      |n=>some (.val (.sl σ.n 0 n n (E.size e)) (σ.push (.cells false new)))
     |.sle=>match n with
      |0=>some (.val .sle σ)
      |n=>some (.val (.sl σ.n 0 n n (E.size e)) (σ.push (.cells false new)))
     |.csl cells len=>match n with
      |0=>some (.val (.csl cells len) σ)
      |_=>none
     | .fsl id off len sz => match σ.get id with
      | some (.cells _ l) => match Nat.beq (off + len * E.size e) l.length, Nat.ble len 1048576 && Nat.beq sz (E.size e) with
       |true,true=>match n with
        |0=>none
        |n=>some (.val (.sl σ.n 0 (len+n) (len+n) (E.size e)) (σ.push (.cells false (l.drop off++new))))
       |_,_=>none
      |_=>none
     | .sl id off len cl sz => match σ.get id with
      | some (.cells ro l) => match Nat.beq (off + len * E.size e) l.length, Nat.ble len 1048576 && Nat.beq sz (E.size e) with
       |true,true=>match n with
        |0=>some (.val (.sl id off len cl sz) σ)
        |n=>some (.val (.sl σ.n 0 (len+n) (len+n) sz) ((σ.set id .gone).push (.cells ro (l.drop off++new))))
       | false, true => match n with
        |0=>some (.val (.sl id off len cl sz) σ)
        |n=>match Nat.ble (off+(len+n) * E.size e) l.length,Nat.ble (len+n) cl,ro with
         |true,true,false=>some (.val (.sl id off (len+n) cl sz) (σ.set id (.cells false (setAt l (off+len * E.size e) new))))
         |_,_,_=>none
       |_,_=>none
      |_=>none
     |_=>none
    |_,_=>none
   |none=>none
  | some (.slice e), false => match (ats[1]?).bind E.ty, s, x with
   |some (.int _),.nils,.int _ (.ofNat n)=>match Nat.ble 1 n&&Nat.ble n 1048576&&Nat.ble (E.bytes e) 65536&&Nat.ble 1 (E.size e),E.zero e with
    |true,some z=>some (.val (.sl σ.n 0 n n (E.size e)) (σ.push (.cells false (repl n z.cells))))
    |_,_=>none
   |_,_,_=>none
  |_,_=>none
 |.max,[.int k a,.int k' b]=>match ikb k k' with
  |true=>some (.val (.int k (match ile b a with|true=>a|false=>b)) σ)
  |false=>none
 |.min,[.int k a,.int k' b]=>match ikb k k' with
  |true=>some (.val (.int k (match ile a b with|true=>a|false=>b)) σ)
  |false=>none
 |.recover,[]=>some .recov
 |.copy,[s,x]=>match (ats[0]?).bind E.ty with
  |some (.slice e)=>copyV σ (E.size e) s x
  |_=>none
 |.clear,[s]=>match (ats[0]?).bind E.ty with
  |some (.slice e)=>clearV E σ e s
  |some (.map _ _)=>clearM σ s
  |_=>none
 |_,_=>none
noncomputable def scalP:List AV→Bool
 |[]=>true
 |v::l=>match v with
  |.int _ _=>scalP l
  |.bool _=>scalP l
  |.str _=>scalP l
  |_=>false
noncomputable def plainL:List AV→Bool
 |[]=>true
 | v :: l => match v with
  |.int _ _=>plainL l
  |.bool _=>plainL l
  |.str _=>plainL l
  |.vs _ _ _=>plainL l
  |.csl _ _=>plainL l
  |.nils=>plainL l
  |.ifc _ w=>match w with
   |.agg xs=>scalP xs&&plainL l
   |_=>false
  |_=>false
mutual
noncomputable def frz:Nat→AV→Hp→Option (AV×Hp)
 |0,_,_=>none
 | n + 1, v, σ => match v with
  | .sl id off len _ _ => match σ.get id with
   | some (.cells _ l) => match plainL (l.drop off) with
    |true=>some (.csl (l.drop off) len,σ.set id (.cells true l))
    |false=>match frzL n (l.drop off) (σ.set id (.cells true l)) with
     |some (cs,σ)=>some (.csl cs len,σ)
     |none=>none
   |_=>none
  |.agg l=>match frzL n l σ with
   |some (cs,σ)=>some (.agg cs,σ)
   |none=>none
  |.ptr _ _=>none|.fsl _ _ _ _=>none|.mp _=>none|.iter _=>none|.fn _ _ _=>none|.yld _=>none|.tup _=>none|.cp _ _=>none|.mv _ _ _=>none
  |.ifc t v=>match frz n v σ with
   |some (v,σ)=>some (.ifc t v,σ)
   |none=>none
  |v=>some (v,σ)
noncomputable def frzL:Nat→List AV→Hp→Option (List AV×Hp)
 |_,[],σ=>some ([],σ)
 |0,_::_,_=>none
 | n + 1, v :: vs, σ => match frz n v σ with
  |some (v,σ)=>match frzL n vs σ with
   |some (vs,σ)=>some (v::vs,σ)
   |none=>none
  |none=>none
end
mutual
noncomputable def frzArg:AV→Hp→AV×Hp
 |.sl id off len cl sz,σ=>match frz 5000 (.sl id off len cl sz) σ with
  |some r=>r
  |none=>(.sl id off len cl sz,σ)
 |.agg l,σ=>match frzArgs l σ with
  |(l,σ)=>(.agg l,σ)
 |v,σ=>(v,σ)
noncomputable def frzArgs:List AV→Hp→List AV×Hp
 |[],σ=>([],σ)
 | v :: vs, σ => match frzArg v σ with
  |(v,σ)=>match frzArgs vs σ with
   |(vs,σ)=>(v::vs,σ)
end
noncomputable def frzP:AV→Hp→AV×Hp
 | .ptr id off, σ => match σ.get id with
  |some (.cells _ l)=>match frzL 5000 l (σ.set id (.cells true l)) with
   |some (cs,σ)=>(.cp cs off,σ)
   |none=>(.ptr id off,σ)
  |_=>(.ptr id off,σ)
 |v,σ=>frzArg v σ
noncomputable def frzPs:List AV→Hp→List AV×Hp
 |[],σ=>([],σ)
 | v :: vs, σ => match frzP v σ with
  |(v,σ)=>match frzPs vs σ with
   |(vs,σ)=>(v::vs,σ)
noncomputable def preX (σ:Hp) (x:AV):Option (AV×Hp):=
 match x with
 | .sl id off len cl sz => match σ.get id with
  |some (.cells _ l)=>match plainL (l.drop off) with
   |true=>none
   |false=>frz 5000 (.sl id off len cl sz) σ
  |_=>none
 |_=>none
noncomputable def builtinW (E:Env) (σ:Hp) (b:Builtin) (ats:Array TypeId) (args:List AV):Option Res:=
 match b with
 | .append => match E.sy with
  | true => match args with
   |[s,x]=>match preX σ x with
    |some r=>builtinV E r.2 .append ats [s,r.1]
    |none=>builtinV E σ .append ats [s,x]
   |_=>none
  |false=>builtinV E σ .append ats args
 |b=>builtinV E σ b ats args
noncomputable def callV (E:Env) (τ:Tmps) (σ:Hp) (c:Call):Option Res:=
 match evs τ c.args.toList with
 |none=>none
 | some args => match c.callee with
  |.builtin b=>builtinW E σ b c.argTypes args
  |.value f=>match ev τ f with
   |some (.fn g first caps)=>some (.call g (first++args++caps))
   |some (.yld l)=>some (.yld l args)
   |_=>none
  | .invoke r name => match ev τ r with
   |some (.ifc t v)=>match E.meth t name with
    |some f=>some (.call f (v::args))
    |none=>none
   |_=>none
noncomputable def isInv (c:Call):Bool:=
 match c.callee with
 |.invoke _ _=>true
 |_=>false
noncomputable def convV (E:Env) (σ:Hp) (src dst:Nat) (x:AV):Option (AV×Hp):=
 match E.ty src,E.ty dst,x with
 |some (.int _),some (.int k),.int _ n=>some (.int k (wr k n),σ)
 |some .str,some .str,.str s=>some (.str s,σ)
 |some .str,some (.slice e),.str s=>match E.ty e with
  |some (.int .u8)=>some (.csl (s.map fun b=>.int .u8 (Int.ofNat b)) s.length,σ)
  |_=>none
 |some (.slice _),some .str,.str _=>none
 | some (.slice e), some .str, x => match E.ty e, elemsOf σ 1 x with
  |some (.int .u8),some (cs,_)=>match bytesOf cs with
   |some s=>some (.str s,σ)
   |none=>none
  |_,_=>none
 |_,_,_=>none
noncomputable def evParts (τ:Tmps):List (Nat×Operand)→Option (List (Nat×AV))
 |[]=>some []
 | (i, x) :: ps => match ev τ x with
  |none=>none
  |some v=>match evParts τ ps with
   |none=>none
   |some vs=>some ((i,v)::vs)
noncomputable def fieldPlace (E:Env) (fs:List KF) (i:Nat):Option (Nat×Nat):=(fs[i]?).map fun f=>(f.off,E.size f.type)
noncomputable def op (E:Env) (τ:Tmps) (σ:Hp) (o:Op):Option Res:=
 match o with
 |.move x|.assign x=>(ev τ x).map (.val · σ)
 |.pick c a b=>match ev τ c with
  |some (.bool true)=>(ev τ a).map (.val · σ)
  |some (.bool false)=>(ev τ b).map (.val · σ)
  |_=>none
 |.alloc t=>match E.zero t with
  |some z=>some (.val (.ptr σ.n 0) (σ.push (.cells false z.cells)))
  |none=>none
 |.box _ x=>match ev τ x with
  |some z=>some (.val (.ptr σ.n 0) (σ.push (.cells false z.cells)))
  |none=>none
 | .build t ps => match E.zero t, evParts τ ps.toList with
  |some z,some parts=>match E.ty t with
   |some (.struct fs)=>(fill (fieldPlace E fs) z.cells parts).map fun cs=>.val (.agg cs) σ
   |some (.arr _ e)=>(fill (fun i=>some (i * E.size e,E.size e)) z.cells parts).map fun cs=>.val (.agg cs) σ
   |_=>none
  |_,_=>none
 | .buildSlice t len ps => match E.ty t, evParts τ ps.toList with
  |some (.slice e),some parts=>match E.zero e,Nat.ble (len * E.size e) 65536 with
   |some z,true=>(fill (fun i=>some (i * E.size e,E.size e)) (repl len z.cells) parts).map fun cs=>.val (.sl σ.n 0 len len (E.size e)) (σ.push (.cells false cs))
   |_,_=>none
  |_,_=>none
 |.load t a=>match ev τ a with
  |some a=>(loadV E σ t a).map (.val · σ)
  |none=>none
 |.store t a x=>match ev τ a,ev τ x with
  |some a,some x=>(storeV E σ t a x).map .skip
  |_,_=>none
 | .nilCheck x => match ev τ x with
  |some (.ptr id off)=>some (.val (.ptr id off) σ)
  |some (.gp g off)=>some (.val (.gp g off) σ)
  |some (.cp l off)=>some (.val (.cp l off) σ)
  |some (.fn f a b)=>some (.val (.fn f a b) σ)
  |some (.ifc t v)=>some (.val (.ifc t v) σ)
  |some (.mv t v n)=>match E.meth t n with
   |some _=>some (.val (.mv t v n) σ)
   |none=>none
  |_=>none
 |.binOp b t x y _=>match ev τ x,ev τ y with
  |some v,some w=>(binop E b t v w (isConst x || isConst y)).map (.val · σ)
  |_,_=>none
 |.unOp u _ x=>match ev τ x with
  |some x=>(unop u x).map (.val · σ)
  |none=>none
 |.convert s d x=>match ev τ x with
  |some x=>(convV E σ s d x).map fun r=>.val r.1 r.2
  |none=>none
 |.makeInterface t x=>match E.ty t,ev τ x with
  |some (.ifc _),_=>none
  |some _,some x=>some (.val (.ifc t x) σ)
  |_,_=>none
 |.makeFunc (.func f) first caps=>match evs τ first.toList,evs τ caps.toList with
  |some a,some b=>some (.val (.fn f a b) σ)
  |_,_=>none
 |.makeFunc (.method n) first caps=>match evs τ first.toList,evs τ caps.toList with
  |some [.ifc t v],some []=>some (.val (.mv t v n) σ)
  |_,_=>none
 |.makeMap t none=>match E.ty t with
  |some (.map _ _)=>some (.val (.mp σ.n) (σ.push (match E.cm with|true=>.cmap [] [] 0|false=>.map [])))
  |_=>none
 | .makeSlice t l c => match E.ty t, ev τ l, ev τ c with
  |some (.slice e),some (.int .i64 (.ofNat n)),some (.int .i64 (.ofNat m))=>match Nat.ble n m,Nat.ble m 65536&&Nat.ble (E.bytes e) 65536,E.zero e with
   |true,true,some z=>some (.val (.sl σ.n 0 n m (E.size e)) (σ.push (.cells false (repl n z.cells))))
   |_,_,_=>none
  |_,_,_=>none
 |.slice t x lo hi none=>match ev τ x,optA τ lo,optA τ hi with
  |some x,some lo,some hi=>(sliceV E σ t x lo hi).map (.val · σ)
  |_,_,_=>none
 |.slice t x lo (some hi) (some mx)=>match ev τ x,optA τ lo,ev τ hi,ev τ mx with
  |some x,some lo,some hi,some mx=>(slice3V E t x lo (some hi) (some mx)).map (.val · σ)
  |_,_,_,_=>none
 | .fieldAddr t x i => match E.ty t with
  | some (.struct fs) => match fs[i]?, ev τ x with
   |some f,some x=>match Nat.beq (E.size f.type) 0,x with
    |false,.ptr id off=>some (.val (.ptr id (off+f.off)) σ)
    |false,.gp g off=>some (.val (.gp g (off+f.off)) σ)
    |false,.cp l off=>some (.val (.cp l (off+f.off)) σ)
    |_,_=>none
   |_,_=>none
  |_=>none
 | .field t x i => match E.ty t, ev τ x with
  |some (.struct fs),some (.agg cs)=>match fs[i]? with
   |some f=>(part E f.type cs f.off).map (.val · σ)
   |none=>none
  |_,_=>none
 | .indexAddr t x i => match E.ty t, ev τ x, ev τ i with
  |some (.slice e),some (.sl id off len _ _),some (.int _ j)=>(idx j len).map fun j=>.val (.ptr id (off+j * E.size e)) σ
  |some (.slice e),some (.csl cells len),some (.int _ j)=>(idx j len).map fun j=>.val (.cp cells (j * E.size e)) σ
  |some (.slice e),some (.vs t _ l),some (.int _ j)=>match inB j l.length,Nat.beq t.size (E.size e) with
   |true,true=>some (.val (.cp (t.cells (l.getD j.toNat t.dflt)) 0) σ)
   |_,_=>none
  |some (.arr len e),some (.ptr id off),some (.int _ j)=>(idx j len).map fun j=>.val (.ptr id (off+j * E.size e)) σ
  |some (.arr len e),some (.gp g off),some (.int _ j)=>(idx j len).map fun j=>.val (.gp g (off+j * E.size e)) σ
  |some (.arr len e),some (.cp l off),some (.int _ j)=>(idx j len).map fun j=>.val (.cp l (off+j * E.size e)) σ
  |_,_,_=>none
 | .index t x i => match E.ty t, ev τ x, ev τ i with
  |some (.arr len e),some (.agg cs),some (.int _ j)=>match idx j len with
   |some j=>(part E e cs (j * E.size e)).map (.val · σ)
   |none=>none
  |some .str,some (.str s),some (.int _ (.ofNat j))=>(s[j]?).map fun b=>.val (.int .u8 (Int.ofNat b)) σ
  |_,_,_=>none
 | .lookup t x k ok => match E.ty t, ev τ x, ev τ k, keyT E t with
  | some (.map _ e), some m, some k, some kt =>
   match (match m with|.nilm=>some []|.mp id=>mapES (σ.get id)|_=>none),E.zero e with
   |some es,some z=>match findK E kt k es with
    |some (some (_,y))=>some (.val (match ok with|true=>.tup [y,.bool true]|false=>y) σ)
    |some none=>some (.val (match ok with|true=>.tup [z,.bool false]|false=>z) σ)
    |none=>none
   |_,_=>none
  |_,_,_,_=>none
 | .mapUpdate t m k x | .insert t m k x => match ev τ m, ev τ k, ev τ x, keyT E t with
  |some (.mp id),some k,some x,some kt=>match σ.get id with
   |some (.map es)=>(mapSet E kt es k x).map fun es=>.skip (σ.set id (.map es))
   |some (.cmap es bs ck)=>(mapSetC E kt es bs ck k x).map fun o=>.skip (σ.set id o)
   |_=>none
  |_,_,_,_=>none
 | .range t x => match E.ty t, ev τ x with
  |some .str,some (.str s)=>some (.val (.iter σ.n) (σ.push (.siter s 0)))
  |some (.map _ _),some (.mp id)=>match σ.get id with
   |some (.cmap _ _ ck)=>some (.val (.iter σ.n) (σ.push (.miter id ck [] ck)))
   |_=>none
  |_,_=>none
 | .next x true => match ev τ x with
  | some (.iter id) => match σ.get id with
   | some (.siter s pos) => match s[pos]? with
    |some b=>match Nat.ble b 127 with
     |true=>some (.val (.tup [.bool true,.int .i64 pos,.int .i32 (Int.ofNat b)]) (σ.set id (.siter s (pos+1))))
     |false=>some (.val (.tup [.bool true,.int .i64 pos,.int .i32 (Int.ofNat (decN s pos).1)]) (σ.set id (.siter s (pos+(decN s pos).2))))
    |none=>some (.val (.tup [.bool false]) σ)
   |_=>none
  |_=>none
 | .next x false => match ev τ x with
  | some (.iter id) => match σ.get id with
   |some (.miter m since seen last)=>match σ.get m with
    |some (.cmap es bs ck)=>nextM σ id m since seen last es bs ck
    |_=>none
   |_=>none
  |_=>none
 | .entry x => match ev τ x with
  | some (.iter id) => match σ.get id with
   | some (.miter m _ seen last) => match σ.get m, lastN seen with
    | some (.cmap es bs ck), some st => match Nat.beq ck last with
     |true=>match findB st es bs with
      |some e=>some (.val (.tup [e.1,e.2]) σ)
      |none=>none
     |false=>none
    |_,_=>none
   |_=>none
  |_=>none
 | .typeAssert x _ a ok => match E.ty a, ev τ x with
  |some (.ifc _),_=>none
  |some _,some .nili=>match ok,E.zero a with
   |true,some z=>some (.val (.tup [z,.bool false]) σ)
   |_,_=>none
  | some _, some (.ifc t y) => match Nat.beq t a with
   |true=>some (.val (match ok with|true=>.tup [y,.bool true]|false=>y) σ)
   |false=>match ok,E.zero a with
    |true,some z=>some (.val (.tup [z,.bool false]) σ)
    |_,_=>none
  |_,_=>none
 |.extract x i=>match ev τ x with
  |some (.tup l)=>(l[i]?).map (.val · σ)
  |_=>none
 |.call c=>callV E τ σ c
 |.defer c=>match isInv c,callV E τ σ c with
  |false,some (.call f args)=>some (.dfr f args)
  |_,_=>none
 |_=>none
inductive Ex where
 |normal|exit (id:Nat)|ret
 deriving Inhabited
noncomputable def Ex.isNormal:Ex→Bool
 |.normal=>true
 |_=>false
structure LF where
 done:Bool
 pend:Ex
structure St where
 τ:Tmps
 σ:Hp
 ds:List (Nat×List AV)
 Λ:List LF
 nt:Nat
 rnd:Bool
abbrev Hnd:=List AV→Hp→List LF→Option (Bool×Hp×List LF)
abbrev Hnds:=List (Nat×Hnd)
abbrev CallF:=Nat→List AV→Hp→Hnds→List LF→Option (AV×Hp×List LF)
noncomputable def wantedA (ops:Array Oper) (τ:Tmps) (o:Oper):Option Bool:=
 match o.guard with
 |none=>some true
 | some (j, want) => match (ops[j]?).bind (·.dst) with
  |some d=>match τ.get d with
   |some (.bool b)=>some (b == want)
   |some (.tup [])=>some false
   |_=>none
  |none=>none
noncomputable def doCall (E:Env) (call:CallF) (hs:Hnds) (f:Nat) (args:List AV) (σ:Hp) (Λ:List LF):Option (AV×Hp×List LF):=
 match E.frz f with
 |true=>match (match E.fp f with|true=>frzPs args σ|false=>frzArgs args σ) with
  |(args,σ)=>call f args σ hs Λ
 |false=>call f args σ hs Λ
noncomputable def hndOf (hs:Hnds) (lvl:Nat):Option Hnd:=
 match hs with
 |[]=>none
 |(i,h)::hs=>match Nat.beq i lvl with
  |true=>some h
  |false=>hndOf hs lvl
noncomputable def doYield (hs:Hnds) (lvl:Nat) (args:List AV) (σ:Hp) (Λ:List LF):Option (AV×Hp×List LF):=
 match hndOf hs lvl with
 |some h=>match h args σ Λ with
  |some (b,σ,Λ)=>some (.bool b,σ,Λ)
  |none=>none
 |none=>none
noncomputable def putS (st:St) (d:Option Nat) (v:AV):Option St:=
 match putT st.nt st.τ d v with
 |some τ=>some { st with τ:=τ }
 |none=>none
noncomputable def oneOp (E:Env) (call:CallF) (hs:Hnds) (ops:Array Oper) (o:Oper) (st:St):Option St:=
 match wantedA ops st.τ o with
 |none=>none
 |some false=>putS st o.dst undefA
 | some true => match op E st.τ st.σ o.op with
  |none=>none
  |some (.val v σ)=>putS { st with σ:=σ } o.dst v
  |some (.skip σ)=>putS { st with σ:=σ } o.dst undefA
  |some (.call f args)=>match doCall E call hs f args st.σ st.Λ with
   |some (v,σ,Λ)=>putS { st with σ:=σ,Λ:=Λ } o.dst v
   |none=>none
  |some (.yld l args)=>match doYield hs l args st.σ st.Λ with
   |some (v,σ,Λ)=>putS { st with σ:=σ,Λ:=Λ } o.dst v
   |none=>none
  |some (.dfr f args)=>match st.rnd with
   |true=>none
   |false=>putS { st with ds:=(f,args)::st.ds } o.dst undefA
  |some .recov=>match st.rnd with
   |true=>none
   |false=>putS st o.dst .nili
noncomputable def runOps (E:Env) (call:CallF) (hs:Hnds) (ops:Array Oper):List Oper→St→Option St
 |[],st=>some st
 |o::os,st=>match oneOp E call hs ops o st with
  |some st=>runOps E call hs ops os st
  |none=>none
noncomputable def msAdd (m i:Nat):Nat:=Nat.lor m (Nat.shiftLeft 1 i)
noncomputable def msHas (m i:Nat):Bool:=Nat.beq (Nat.land (Nat.shiftRight m i) 1) 1
noncomputable def msSub (a b:Nat):Bool:=Nat.beq (Nat.land a b) a
noncomputable def mO:Operand→Nat
 |.tmp t=>Nat.shiftLeft 1 t
 |_=>0
noncomputable def mL:List Operand→Nat
 |[]=>0
 |x::xs=>Nat.lor (mO x) (mL xs)
noncomputable def mP:List (Nat×Operand)→Nat
 |[]=>0
 |(_,x)::xs=>Nat.lor (mO x) (mP xs)
noncomputable def mQ:Option Operand→Nat
 |none=>0
 |some x=>mO x
noncomputable def mC (c:Call):Nat:=
 match c.callee with
 |.value f=>Nat.lor (mO f) (mL c.args.toList)
 |.invoke r _=>Nat.lor (mO r) (mL c.args.toList)
 |_=>mL c.args.toList
noncomputable def uses:Op→Nat
 |.move x|.assign x=>mO x
 |.pick a b c=>Nat.lor (mO a) (Nat.lor (mO b) (mO c))
 |.box _ x=>mO x
 |.build _ ps=>mP ps.toList
 |.buildSlice _ _ ps=>mP ps.toList
 |.load _ a=>mO a
 |.store _ a x=>Nat.lor (mO a) (mO x)
 |.nilCheck x=>mO x
 |.binOp _ _ x y _=>Nat.lor (mO x) (mO y)
 |.unOp _ _ x=>mO x
 |.convert _ _ x=>mO x
 |.makeInterface _ x=>mO x
 |.makeFunc _ first caps=>Nat.lor (mL first.toList) (mL caps.toList)
 |.makeSlice _ l c=>Nat.lor (mO l) (mO c)
 |.slice _ x lo hi mx=>Nat.lor (mO x) (Nat.lor (mQ lo) (Nat.lor (mQ hi) (mQ mx)))
 |.fieldAddr _ x _=>mO x
 |.field _ x _=>mO x
 |.indexAddr _ x i=>Nat.lor (mO x) (mO i)
 |.index _ x i=>Nat.lor (mO x) (mO i)
 |.lookup _ x k _=>Nat.lor (mO x) (mO k)
 |.mapUpdate _ m k x|.insert _ m k x=>Nat.lor (mO m) (Nat.lor (mO k) (mO x))
 |.range _ x=>mO x
 |.next x _=>mO x
 |.entry x=>mO x
 |.typeAssert x _ _ _=>mO x
 |.extract x _=>mO x
 |.call c=>mC c
 |.defer c=>mC c
 |_=>0
noncomputable def cls:Op→Nat
 |.move _|.assign _|.pick ..|.build ..|.nilCheck _|.binOp ..|.unOp ..|.makeInterface ..|.makeFunc ..|.fieldAddr ..|.field ..|.indexAddr ..|.index ..|.typeAssert ..|.extract ..=>2
 |.load ..|.convert ..|.slice ..|.lookup ..=>1
 |.alloc _|.box ..|.buildSlice ..=>3
 |.call c=>match c.callee with
  |.builtin .len=>1
  |.builtin .max=>2
  |.builtin .min=>2
  |_=>0
 |_=>0
noncomputable def bindsA (e:Edge):Bool:=
 match e.ground with
 |.textOnly _=>false
 |.gcOnly _=>false
 |_=>true
noncomputable def ancs (tab:Tr (Nat×Nat)):List Edge→Option (Nat×Nat)
 |[]=>some (0,0)
 | e :: es => match ancs tab es with
  |none=>none
  | some (a, d) => match bindsA e with
   |false=>some (a,d)
   |true=>match tab.get e.on with
    |none=>none
    |some (a',d')=>some (Nat.lor a a',Nat.lor d d')
structure Inf where
 c:Nat
 a:Nat
 k:Nat
 deriving Inhabited
structure PS where
 tab:Tr (Nat×Nat)
 hv:Nat
 als:Nat
 sd:Nat
 rds:List (Nat×Nat)
 na:Nat
noncomputable def readersOK (t a:Nat):List (Nat×Nat)→Bool
 |[]=>true
 | (m, i) :: l => match msHas m t with
  |false=>readersOK t a l
  |true=>match msHas a i with
   |true=>readersOK t a l
   |false=>false
noncomputable def planStep (allD:Nat) (o:Oper) (i:Nat) (s:PS) (a d:Nat):Option (Inf×PS):=
 match (match o.guard with|none=>true|some (j,_)=>msHas a j),msSub (Nat.land (uses o.op) s.sd) d,(match o.dst with|none=>true|some t=>match msHas s.sd t with|true=>false|false=>readersOK t a s.rds),
   (match cls o.op with|0=>(match msSub s.hv a with|true=>msSub s.als a|false=>false)|_=>true) with
 | true, true, true, true => some (⟨cls o.op, a, s.na⟩,
   ⟨s.tab.set i (msAdd a i,match o.dst with|none=>d|some t=>msAdd d t),(match cls o.op with|0=>msAdd s.hv i|_=>s.hv),(match cls o.op with|3=>msAdd s.als i|_=>s.als),(match o.dst with|none=>s.sd|some t=>msAdd s.sd t),
    (match Nat.beq (Nat.land (uses o.op) allD) 0 with|true=>s.rds|false=>(Nat.land (uses o.op) allD,i)::s.rds),(match cls o.op with|3=>s.na+1|_=>s.na)⟩)
 |_,_,_,_=>none
noncomputable def plan (allD:Nat):List Oper→Nat→PS→Option (List Inf×Nat)
 |[],_,s=>some ([],s.na)
 | o :: os, i, s => match ancs s.tab o.after.toList with
  |none=>none
  | some (a, d) => match planStep allD o i s a d with
   |none=>none
   |some (f,s)=>match plan allD os (i+1) s with
    |none=>none
    |some (fs,na)=>some (f::fs,na)
noncomputable def dstsM:List Oper→Nat
 |[]=>0
 |o::os=>match o.dst with
  |none=>dstsM os
  |some t=>msAdd (dstsM os) t
noncomputable def planOf (ops:List Oper):Option (List Inf×Nat):=plan (dstsM ops) ops 0 ⟨.full 9,0,0,0,[],0⟩
noncomputable def newA (E:Env) (τ:Tmps) (o:Op):Option ((Nat→AV)×AO):=
 match o with
 |.alloc t=>match E.zero t with
  |some z=>some (fun r=>.ptr r 0,.cells false z.cells)
  |none=>none
 |.box _ x=>match ev τ x with
  |some z=>some (fun r=>.ptr r 0,.cells false z.cells)
  |none=>none
 | .buildSlice t len ps => match E.ty t, evParts τ ps.toList with
  | some (.slice e), some parts => match E.zero e, Nat.ble (len * E.size e) 65536 with
   |some z,true=>match fill (fun i=>some (i * E.size e,E.size e)) (repl len z.cells) parts with
    |some cs=>some (fun r=>.sl r 0 len len (E.size e),.cells false cs)
    |none=>none
   |_,_=>none
  |_,_=>none
 |_=>none
noncomputable def oneD (E:Env) (call:CallF) (hs:Hnds) (ops:Array Oper) (n0:Nat) (f:Inf) (o:Oper) (st:St):Option St:=
 match f.c with
 | 3 => match wantedA ops st.τ o with
  |none=>none
  |some false=>putS st o.dst undefA
  |some true=>match newA E st.τ o.op with
   |some (v,ao)=>putS { st with σ:=st.σ.set (n0+f.k) ao } o.dst (v (n0+f.k))
   |none=>none
 |_=>oneOp E call hs ops o st
abbrev Phs:=List (Hp×Nat×Option Nat)
abbrev Lks:=List (Oper×Nat×Nat×Tmps×Tmps)
noncomputable def runD (E:Env) (call:CallF) (hs:Hnds) (ops:Array Oper) (n0:Nat):List Oper→List Inf→Nat→St→Phs→Lks→Option (St×Phs×Lks)
 | o :: os, f :: fs, i, st, ph, lk => match oneD E call hs ops n0 f o st with
  |none=>none
  |some st'=>match f.c with
   |0=>runD E call hs ops n0 os fs (i+1) st' ((st'.σ,f.a,some i)::ph) lk
   |1=>runD E call hs ops n0 os fs (i+1) st' ph ((o,i,f.a,st.τ,st'.τ)::lk)
   |_=>runD E call hs ops n0 os fs (i+1) st' ph lk
 |_,_,_,st,ph,lk=>some (st,ph,lk)
noncomputable def Ty.eqb:Ty→Ty→Bool
 |.int k,.int k'=>ikb k k'
 |.bool,.bool=>true
 |.str,.str=>true
 |.nil,.nil=>true
 |.cons a b,.cons c d=>match Ty.eqb a c with
  |true=>Ty.eqb b d
  |false=>false
 |.sl a,.sl b=>Ty.eqb a b
 |_,_=>false
theorem Ty.eqb_eq:∀ {a b:Ty},Ty.eqb a b=true→a=b
 | .int k, b, h => by
  cases b<;>simp only[Ty.eqb] at h
  all_goals first
   |(cases h;done)
   |(rename_i k';cases k<;>cases k'<;>first|rfl|(cases h;done))
 |.bool,b,h=>by cases b<;>simp only[Ty.eqb] at h<;>first|rfl|cases h
 |.str,b,h=>by cases b<;>simp only[Ty.eqb] at h<;>first|rfl|cases h
 |.nil,b,h=>by cases b<;>simp only[Ty.eqb] at h<;>first|rfl|cases h
 | .cons a c, b, h => by
  cases b with
  |cons x y=>
   simp only[Ty.eqb] at h
   split at h
   · rename_i h1;rw[Ty.eqb_eq h1,Ty.eqb_eq h]
   · cases h
  |_=>simp only[Ty.eqb] at h;cases h
 |.sl a,b,h=>by
  cases b with
  |sl x=>simp only[Ty.eqb] at h;rw[Ty.eqb_eq h]
  |_=>simp only[Ty.eqb] at h;cases h
noncomputable def bbeq (a b:Bool):Bool:=
 match a,b with
 |true,true=>true
 |false,false=>true
 |_,_=>false
noncomputable def all2B {α:Type} (g:α→α→Bool):List α→List α→Bool
 |[],[]=>true
 |a::l,b::m=>match g a b with
  |true=>all2B g l m
  |false=>false
 |_,_=>false
noncomputable def denB:(t:Ty)→t.den→t.den→Bool
 |.int _,a,b=>ieq a b
 |.bool,a,b=>bbeq a b
 |.str,a,b=>lbeq a b
 |.nil,_,_=>true
 |.cons t ts,a,b=>match denB t a.1 b.1 with
  |true=>denB ts a.2 b.2
  |false=>false
 |.sl t,a,b=>match bbeq a.1 b.1 with
  |true=>all2B (denB t) a.2 b.2
  |false=>false
noncomputable def vsB (t:Ty) (l:List t.den) (t':Ty) (l':List t'.den):Bool:=if h:Ty.eqb t t'=true then all2B (denB t') (Ty.eqb_eq h▸l) l' else false
mutual
noncomputable def avbeq:AV→AV→Bool
 |.bool a,.bool b=>match a,b with
  |true,true=>true
  |false,false=>true
  |_,_=>false
 |.int k a,.int k' b=>match ikb k k' with
  |true=>ieq a b
  |false=>false
 |.str a,.str b=>lbeq a b
 |.ptr i o,.ptr i' o'=>match Nat.beq i i' with
  |true=>Nat.beq o o'
  |false=>false
 |.gp i o,.gp i' o'=>match Nat.beq i i' with
  |true=>Nat.beq o o'
  |false=>false
 |.cp l o,.cp l' o'=>match Nat.beq o o' with
  |true=>avbeqL l l'
  |false=>false
 |.nilp,.nilp=>true
 |.sl i o l c z,.sl i' o' l' c' z'=>match Nat.beq i i',Nat.beq o o',Nat.beq l l',Nat.beq c c',Nat.beq z z' with
  |true,true,true,true,true=>true
  |_,_,_,_,_=>false
 |.fsl i o l z,.fsl i' o' l' z'=>match Nat.beq i i',Nat.beq o o',Nat.beq l l',Nat.beq z z' with
  |true,true,true,true=>true
  |_,_,_,_=>false
 |.csl l n,.csl l' n'=>match Nat.beq n n' with
  |true=>avbeqL l l'
  |false=>false
 |.nils,.nils=>true
 |.sle,.sle=>true
 |.vs t nl l,.vs t' nl' l'=>match bbeq nl nl' with
  |true=>vsB t l t' l'
  |false=>false
 |.mp i,.mp i'=>Nat.beq i i'
 |.nilm,.nilm=>true
 |.iter i,.iter i'=>Nat.beq i i'
 |.fn f a b,.fn f' a' b'=>match Nat.beq f f',avbeqL a a' with
  |true,true=>avbeqL b b'
  |_,_=>false
 |.yld l,.yld l'=>Nat.beq l l'
 |.nilf,.nilf=>true
 |.ifc t v,.ifc t' v'=>match Nat.beq t t' with
  |true=>avbeq v v'
  |false=>false
 |.nili,.nili=>true
 |.agg l,.agg l'=>avbeqL l l'
 |.tup l,.tup l'=>avbeqL l l'
 |_,_=>false
noncomputable def avbeqL:List AV→List AV→Bool
 |[],[]=>true
 |a::l,b::m=>match avbeq a b with
  |true=>avbeqL l m
  |false=>false
 |_,_=>false
end
noncomputable def cstL (τ:Tmps):Op→Bool
 |.load _ a=>match ev τ a with
  |some (.cp _ _)=>true
  |some (.gp _ _)=>true
  |_=>false
 |.call c=>match c.callee,evs τ c.args.toList with
  |.builtin .len,some [.str _]=>true
  |.builtin .len,some [.vs _ _ _]=>true
  |.builtin .len,some [.csl _ _]=>true
  |.builtin .len,some [.sl _ _ _ _ _]=>true
  |_,_=>false
 |_=>false
noncomputable def lookSame (E:Env) (o:Oper) (τ τ':Tmps) (σ:Hp):Bool:=
 match cstL τ o.op with
 |true=>true
 | false => match op E τ σ o.op with
  | some (.val v _) => match o.dst with
   |none=>true
   |some d=>match τ'.get d with
    |some w=>avbeq w v
    |none=>true
  |_=>false
noncomputable def lookOK (E:Env) (o:Oper) (i a:Nat) (τ τ':Tmps):Option Nat→Phs→Bool
 |_,[]=>true
 | nx, (σ, am, h) :: ph => match (match nx with | some x => msHas a x | none => false), msHas am i with
  |false,false=>match lookSame E o τ τ' σ with
   |true=>lookOK E o i a τ τ' h ph
   |false=>false
  |_,_=>lookOK E o i a τ τ' h ph
noncomputable def looksOK (E:Env) (ops:Array Oper) (ph:Phs):Lks→Bool
 |[]=>true
 | (o, i, a, τ, τ') :: lk => match wantedA ops τ o with
  |some false=>looksOK E ops ph lk
  |_=>match lookOK E o i a τ τ' none ph with
   |true=>looksOK E ops ph lk
   |false=>false
noncomputable def quietI:List Inf→Bool
 |[]=>true
 |f::fs=>match f.c with
  |0=>false
  |3=>false
  |_=>quietI fs
noncomputable def runDrawQ (E:Env) (call:CallF) (hs:Hnds) (ops:Array Oper) (fs:List Inf) (na:Nat) (st:St):Option St:=
 match runD E call hs ops st.σ.n ops.toList fs 0 { st with σ:=⟨st.σ.t,st.σ.n+na⟩ } [(⟨st.σ.t,st.σ.n+na⟩,0,none)] [] with
 |none=>none
 |some (st',ph,lk)=>match (match quietI fs with|true=>true|false=>looksOK E ops ph lk) with
  |true=>some st'
  |false=>none
noncomputable def ancM (t:Tr Nat):List Edge→Option Nat
 |[]=>some 0
 | e :: es => match ancM t es with
  |none=>none
  | some m => match bindsA e with
   |false=>some m
   |true=>match t.get e.on with
    |none=>none
    |some a=>some (msAdd (Nat.lor m a) e.on)
noncomputable def ancT:List Oper→Nat→Tr Nat→Option (Tr Nat)
 |[],_,t=>some t
 |o::os,i,t=>match ancM t o.after.toList with
  |none=>none
  |some a=>ancT os (i+1) (t.set i a)
noncomputable def pickIn (m d:Nat):Nat→Nat→List Nat
 |0,_=>[]
 | n + 1, i => match msHas m i with
  |true=>match msHas d i with
   |true=>pickIn m d n (i+1)
   |false=>i::pickIn m d n (i+1)
  |false=>pickIn m d n (i+1)
noncomputable def allM:Nat→Nat
 |0=>0
 |n+1=>msAdd (allM n) n
noncomputable def ordOf (n:Nat) (t:Tr Nat):List Oper→Nat→Nat→List Nat
 |[],_,d=>pickIn (allM n) d n 0
 | o :: os, i, d => match cls o.op with
  |0=>match t.get i with
   |some a=>pickIn (msAdd a i) d n 0++ordOf n t os (i+1) (Nat.lor d (msAdd a i))
   |none=>[]
  |_=>ordOf n t os (i+1) d
noncomputable def posT:List Nat→Nat→Tr Nat→Tr Nat
 |[],_,t=>t
 |i::is,k,t=>posT is (k+1) (t.set i k)
noncomputable def renE (pos:Tr Nat) (n:Nat):List Edge→Option (List Edge)
 |[]=>some []
 | e :: es => match renE pos n es with
  |none=>none
  | some es => match bindsA e with
   |false=>some es
   |true=>match pos.get e.on,Nat.ble (e.on+1) n with
    |some k,true=>some ({ e with on:=k }::es)
    |_,_=>none
noncomputable def renO (pos:Tr Nat) (n:Nat) (o:Oper):Option Oper:=
 match renE pos n o.after.toList with
 |none=>none
 | some es => match o.guard with
  |none=>some { o with after:=es.toArray }
  |some (j,b)=>match pos.get j,Nat.ble (j+1) n with
   |some k,true=>some { o with after:=es.toArray,guard:=some (k,b) }
   |_,_=>none
noncomputable def permL (pos:Tr Nat) (ops:Array Oper):List Nat→Nat→Option (List Oper)
 |[],_=>some []
 | i :: is, k => match ops[i]?, pos.get i with
  | some o, some k' => match Nat.beq k k' with
   |true=>match renO pos ops.size o,permL pos ops is (k+1) with
    |some o,some os=>some (o::os)
    |_,_=>none
   |false=>none
  |_,_=>none
noncomputable def placed (pos:Tr Nat) (ord:List Nat):Nat→Bool
 |0=>true
 | n + 1 => match pos.get n with
  | some k => match ord[k]? with
   |some i=>match Nat.beq i n with
    |true=>placed pos ord n
    |false=>false
   |none=>false
  |none=>false
noncomputable def permW (ops:Array Oper) (ord:List Nat) (pos:Tr Nat):Option (Array Oper):=
 match placed pos ord ops.size with
 |true=>(permL pos ops ord 0).map List.toArray
 |false=>none
noncomputable def permOf (ops:Array Oper):Option (Array Oper):=
 match ancT ops.toList 0 (.full 9) with
 |none=>none
 |some t=>permW ops (ordOf ops.toList.length t ops.toList 0 0) (posT (ordOf ops.toList.length t ops.toList 0 0) 0 (.full 9))
noncomputable def runDrawP (E:Env) (call:CallF) (hs:Hnds) (ops:Array Oper) (st:St):Option St:=
 match planOf ops.toList with
 |none=>none
 |some (fs,na)=>runDrawQ E call hs ops fs na st
noncomputable def runDraw (E:Env) (call:CallF) (hs:Hnds) (ops:Array Oper) (st:St):Option St:=
 match planOf ops.toList with
 |some (fs,na)=>runDrawQ E call hs ops fs na st
 |none=>match permOf ops with
  |some ops=>runDrawP E call hs ops st
  |none=>none
noncomputable def restr:Tmps→Tmps→Tmps
 |.nd l v r,.nd l' v' r'=>.nd (restr l l') (match v with|some _=>v'|none=>none) (restr r r')
 |_,_=>.lf
mutual
noncomputable def idsA:AV→List Nat
 |.ptr i _=>[i]
 |.sl i _ _ _ _=>[i]
 |.fsl i _ _ _=>[i]
 |.mp i=>[i]
 |.iter i=>[i]
 |.fn _ a b=>idsL a++idsL b
 |.ifc _ v=>idsA v
 |.mv _ v _=>idsA v
 |.agg l=>idsL l
 |.tup l=>idsL l
 |_=>[]
noncomputable def idsL:List AV→List Nat
 |[]=>[]
 |v::vs=>idsA v++idsL vs
end
noncomputable def idsO:Option AO→List Nat
 |some (.cells _ l)=>idsL l
 |some (.map es)=>idsL (es.map (·.1))++idsL (es.map (·.2))
 |some (.cmap es _ _)=>idsL (es.map (·.1))++idsL (es.map (·.2))
 |some (.miter m _ _ _)=>[m]
 |_=>[]
noncomputable def idsT (τ:Tmps):List Nat:=
 Tr.rec (motive:=fun _=>List Nat) [] (fun _ v _ a b=>(match v with|some v=>idsA v|none=>[])++a++b) τ
noncomputable def idsH (σ:Hp):Nat→List Nat
 |0=>[]
 |n+1=>idsH σ n++idsO (σ.get n)
noncomputable def elemN (i:Nat):List Nat→Bool
 |[]=>false
 |j::l=>match Nat.beq i j with
  |true=>true
  |false=>elemN i l
noncomputable def reach (σ:Hp) (n0:Nat):Nat→List Nat→List Nat→List Nat
 |0,_,acc=>acc
 |_,[],acc=>acc
 |k+1,i::todo,acc=>match Nat.ble n0 i,elemN i acc with
  |true,false=>reach σ n0 k (idsO (σ.get i)++todo) (acc++[i])
  |_,_=>reach σ n0 k todo acc
noncomputable def posN (i:Nat):List Nat→Nat→Option Nat
 |[],_=>none
 |j::l,k=>match Nat.beq i j with
  |true=>some k
  |false=>posN i l (k+1)
noncomputable def newN (n0:Nat) (L:List Nat) (i:Nat):Option Nat:=
 match Nat.ble (i+1) n0 with
 |true=>some i
 |false=>posN i L n0
mutual
noncomputable def renA (n0:Nat) (L:List Nat):AV→Option AV
 |.ptr i o=>(newN n0 L i).map fun j=>.ptr j o
 |.sl i o l c z=>(newN n0 L i).map fun j=>.sl j o l c z
 |.fsl i o l z=>(newN n0 L i).map fun j=>.fsl j o l z
 |.mp i=>(newN n0 L i).map fun j=>.mp j
 |.iter i=>(newN n0 L i).map fun j=>.iter j
 |.yld l=>match Nat.ble (l+1) n0 with
  |true=>some (.yld l)
  |false=>none
 |.fn f a b=>match renL n0 L a,renL n0 L b with
  |some a,some b=>some (.fn f a b)
  |_,_=>none
 |.ifc t v=>(renA n0 L v).map fun v=>.ifc t v
 |.mv t v n=>(renA n0 L v).map fun v=>.mv t v n
 |.agg l=>(renL n0 L l).map fun l=>.agg l
 |.tup l=>(renL n0 L l).map fun l=>.tup l
 |.bool b=>some (.bool b)
 |.int k n=>some (.int k n)
 |.str s=>some (.str s)
 |.gp g o=>some (.gp g o)
 |.cp l o=>some (.cp l o)
 |.nilp=>some .nilp
 |.csl l n=>some (.csl l n)
 |.nils=>some .nils
 |.sle=>some .sle
 |.vs t nl l=>some (.vs t nl l)
 |.nilm=>some .nilm
 |.nilf=>some .nilf
 |.nili=>some .nili
noncomputable def renL (n0:Nat) (L:List Nat):List AV→Option (List AV)
 |[]=>some []
 |v::vs=>match renA n0 L v,renL n0 L vs with
  |some v,some vs=>some (v::vs)
  |_,_=>none
end
noncomputable def renES (n0:Nat) (L:List Nat):List (AV×AV)→Option (List (AV×AV))
 |[]=>some []
 |(a,b)::es=>match renA n0 L a,renA n0 L b,renES n0 L es with
  |some a,some b,some es=>some ((a,b)::es)
  |_,_,_=>none
noncomputable def renOb (n0:Nat) (L:List Nat):AO→Option AO
 |.cells ro l=>(renL n0 L l).map fun l=>.cells ro l
 |.map es=>(renES n0 L es).map fun es=>.map es
 |.cmap es bs ck=>(renES n0 L es).map fun es=>.cmap es bs ck
 |.miter m since seen last=>(newN n0 L m).map fun m=>.miter m since seen last
 |.siter s p=>some (.siter s p)
 |.gone=>some .gone
noncomputable def renT (n0:Nat) (L:List Nat) (τ:Tmps):Option Tmps:=
 Tr.rec (motive:=fun _=>Option Tmps) (some .lf) (fun _ v _ a b=>match a,(match v with|some v=>(renA n0 L v).map some|none=>some none),b with
  |some a,some v,some b=>some (.nd a v b)
  |_,_,_=>none) τ
noncomputable def bld (σ:Hp) (n0:Nat) (L:List Nat):List (Nat×Nat)→Tr AO→Option (Tr AO)
 |[],t=>some t
 | (i, j) :: r, t => match σ.get i with
  |none=>bld σ n0 L r t
  |some o=>match renOb n0 L o with
   |some o=>bld σ n0 L r (t.set j o)
   |none=>none
noncomputable def upN:Nat→List (Nat×Nat)
 |0=>[]
 |n+1=>(n,n)::upN n
noncomputable def pairN:List Nat→Nat→List (Nat×Nat)
 |[],_=>[]
 |i::l,k=>(i,k)::pairN l (k+1)
noncomputable def freshL (n0:Nat):List Nat→Bool
 |[]=>true
 |i::l=>match Nat.ble n0 i,elemN i l with
  |true,false=>freshL n0 l
  |_,_=>false
noncomputable def cleanL (n0:Nat) (L:List Nat) (τ:Tmps) (st:St):Option St:=
 match freshL n0 L,st.ds with
 |true,[]=>match renT n0 L τ,bld st.σ n0 L (upN n0++pairN L n0) (.full 22) with
  |some τ,some t=>some { st with τ:=τ,σ:=⟨t,n0+L.length⟩ }
  |_,_=>none
 |_,_=>none
noncomputable def clean (n0:Nat) (τ0:Tmps) (st:St):St:=
 match Nat.ble n0 st.σ.n,cleanL n0 (reach st.σ n0 4096 (idsT (restr τ0 st.τ)++idsH st.σ n0) []) (restr τ0 st.τ) st with
 |true,some st=>st
 |_,_=>st
noncomputable def roundC (n0:Nat) (τ0:Tmps) (r:Option (Ex×St)):Option (Ex×St):=
 match r with
 |some (.normal,st)=>some (.normal,clean n0 τ0 st)
 |r=>r
noncomputable def upTo (body:St→Option (Ex×St)):Nat→St→Option (Option Ex×St)
 |0,st=>match body st with
  |some (.normal,st)=>some (none,st)
  |some (e,st)=>some (some e,st)
  |none=>none
 |k+1,st=>match upTo body k st with
  |some (none,st)=>upTo body k st
  |r=>r
noncomputable def setParams (nt:Nat) (τ:Tmps):List Nat→List AV→Option Tmps
 |[],[]=>some τ
 |p::ps,a::az=>match Nat.ble (p+1) nt with
  |true=>setParams nt (τ.set p a) ps az
  |false=>none
 |_,_=>none
noncomputable def deeper (h:Hnd):Hnd:=fun args σ Λ=>
 match Λ with
 |[]=>none
 |lf::Λ=>match h args σ Λ with
  |some (b,σ,Λ)=>some (b,σ,lf::Λ)
  |none=>none
noncomputable def deepen:Hnds→Hnds
 |[]=>[]
 |(i,h)::hs=>(i,deeper h)::deepen hs
noncomputable def exec (E:Env) (call:CallF):Code→Hnds→St→Option (Ex×St)
 |.skip,_,st=>some (.normal,st)
 |.label _,_,st=>some (.normal,st)
 |.region _ ops d,hs,st=>match (match d with|true=>runDraw E call hs ops st|false=>runOps E call hs ops ops.toList st) with
  |some st=>some (.normal,st)
  |none=>none
 |.seq a b,hs,st=>match exec E call a hs st with
  |some (.normal,st)=>exec E call b hs st
  |r=>r
 |.cond c a b,hs,st=>match ev st.τ c with
  |some (.bool true)=>exec E call a hs st
  |some (.bool false)=>exec E call b hs st
  |_=>none
 |.block i b,hs,st=>match exec E call b hs st with
  |some (.exit j,st)=>some ((match Nat.beq j i with|true=>.normal|false=>.exit j),st)
  |r=>r
 |.loop b,hs,st=>match (match E.sy with|true=>upTo (fun s=>roundC st.σ.n st.τ (exec E call b hs s)) 20 st|false=>upTo (exec E call b hs) 20 st) with
  |some (some e,st)=>some (e,st)
  |_=>none
 |.scope b,hs,st=>exec E call b hs st
 |.exit i,_,st=>some (.exit i,st)
 |.ret,_,st=>some (.ret,st)
 | .rangeFunc f params asg body, hs, st => match ev st.τ f with
  | some (.fn g first caps) =>
   let h : Hnd := fun az σ Λ => match Λ with
    |[]=>none
    | lf :: Λ => match lf.done with
     |true=>none
     | false => match setParams st.nt st.τ params.toList az with
      |none=>none
      | some τ => match exec E call asg hs ⟨τ, σ, [], Λ, st.nt, true⟩ with
       | some (.normal, st1) => match exec E call body hs st1 with
        |some (e,st2)=>match st2.ds with
         |[]=>some (e.isNormal,st2.σ,⟨!e.isNormal,e⟩::st2.Λ)
         |_=>none
        |none=>none
       |_=>none
   match call g (first++[.yld st.σ.n]++caps) ⟨st.σ.t,st.σ.n+1⟩ ((st.σ.n,h)::deepen hs) (⟨false,.normal⟩::st.Λ) with
   |some (_,σ,lf::Λ)=>some (lf.pend,{ st with σ:=σ,Λ:=Λ })
   |_=>none
  |_=>none
 |.goto _,_,_=>none
 |.refuse _,_,_=>none
noncomputable def resultsA (E:Env) (τ:Tmps) (σ:Hp):List ResultVar→Option (List AV)
 |[]=>some []
 |.tmp t::rs=>match τ.get t,resultsA E τ σ rs with
  |some v,some vs=>some (v::vs)
  |_,_=>none
 | .cell a t :: rs => match τ.get a with
  |some p=>match loadV E σ t p,resultsA E τ σ rs with
   |some v,some vs=>some (v::vs)
   |_,_=>none
  |none=>none
noncomputable def runDefers (E:Env) (call:CallF) (hs:Hnds):List (Nat×List AV)→Hp→List LF→Option (Hp×List LF)
 |[],σ,Λ=>some (σ,Λ)
 |(f,args)::ds,σ,Λ=>match doCall E call hs f args σ Λ with
  |some (_,σ,Λ)=>runDefers E call hs ds σ Λ
  |none=>none
noncomputable def dep (n:Nat):Nat:=match Nat.ble n 30 with|true=>5|false=>match Nat.ble n 126 with|true=>7|false=>9
noncomputable def tmps0 (n:Nat) (τ:Tmps) (i:Nat):List AV→Tmps
 |[]=>τ
 |v::vs=>tmps0 n (τ.set i v) (i+1) vs
noncomputable def scal1:AV→Bool
 |.bool _=>true
 |.int _ _=>true
 |_=>false
noncomputable def cln (n0:Nat) (v:AV) (σ:Hp):Hp:=
 match scal1 v with
 |true=>(clean n0 .lf ⟨.lf,σ,[],[],0,false⟩).σ
 |false=>σ
noncomputable def trimR (E:Env) (f n0:Nat) (r:Option (AV×Hp×List LF)):Option (AV×Hp×List LF):=
 match E.tr f with
 |true=>match r with
  |some (v,σ,Λ)=>some (v,cln n0 v σ,Λ)
  |none=>none
 |false=>r
noncomputable def callN (E:Env):Nat→CallF
 |0,_,_,_,_,_=>none
 | n + 1, f, args, σ, hs, Λ =>
  match E.ext f args with
  |some v=>some (v,σ,Λ)
  | none => trimR E f σ.n (match E.fn f with
   |none=>none
   | some fn => match fn.body with
    |none=>none
    | some body => match exec E (callN E n) body hs ⟨tmps0 fn.ntmps (.full (dep fn.ntmps)) 0 args, σ, [], Λ, args.length + (fn.ntmps - args.length), false⟩ with
     |none=>none
     | some (e, st) => match e with
      |.exit _=>none
      | _ => match runDefers E (callN E n) hs st.ds st.σ st.Λ with
       |none=>none
       |some (σ,Λ)=>match resultsA E st.τ σ fn.results.toList with
        |some [v]=>some (v,σ,Λ)
        |some vs=>some (.tup vs,σ,Λ)
        |none=>none)
end Go.Eng


namespace Go.Eng
open Go
theorem Tr.get_nd {α:Type} (l r:Tr α) (v:Option α) (k:Nat) :
  (Tr.nd l v r).get k = match k with
   |0=>v
   |k=>match Nat.beq (k % 2) 1 with
    |true=>l.get (k / 2)
    |false=>r.get (k / 2-1):=by
 cases k with
 |zero=>rfl
 |succ k=>
  have h:(Tr.nd l v r).get (k+1)=@Bool.rec (fun _=>Option α) (r.get (Nat.div (k+1) 2-1)) (l.get (Nat.div (k+1) 2)) (Nat.beq (Nat.mod (k+1) 2) 1):=rfl
  rw[h]
  show _=(match Nat.beq (Nat.mod (k+1) 2) 1 with|true=>l.get (Nat.div (k+1) 2)|false=>r.get (Nat.div (k+1) 2-1))
  cases Nat.beq (Nat.mod (k+1) 2) 1<;>rfl
theorem Tr.set_nd {α:Type} (l r:Tr α) (v:Option α) (k:Nat) (x:α) :
  (Tr.nd l v r).set k x = match k with
   |0=>.nd l (some x) r
   |k=>match Nat.beq (k % 2) 1 with
    |true=>.nd (l.set (k / 2) x) v r
    |false=>.nd l v (r.set (k / 2-1) x):=by
 cases k with
 |zero=>rfl
 |succ k=>
  have h:(Tr.nd l v r).set (k+1) x=@Bool.rec (fun _=>Tr α) (.nd l v (r.set (Nat.div (k+1) 2-1) x)) (.nd (l.set (Nat.div (k+1) 2) x) v r) (Nat.beq (Nat.mod (k+1) 2) 1):=rfl
  rw[h]
  show _=(match Nat.beq (Nat.mod (k+1) 2) 1 with|true=>Tr.nd (l.set (Nat.div (k+1) 2) x) v r|false=>Tr.nd l v (r.set (Nat.div (k+1) 2-1) x))
  cases Nat.beq (Nat.mod (k+1) 2) 1<;>rfl
theorem Tr.get_lf {α:Type} (k:Nat):(Tr.lf:Tr α).get k=none:=rfl
theorem Tr.get_set {α : Type} (t : Tr α) (k j : Nat) (x v : α) (h : (t.set k x).get j = some v) : (j = k ∧ v = x) ∨ (j ≠ k ∧ t.get j = some v) := by
 induction t generalizing k j with
 |lf=>exact absurd h (by simp[show (Tr.lf:Tr α).set k x=.lf from rfl,Tr.get_lf])
 | nd l w r ihl ihr =>
  rw[Tr.set_nd] at h
  cases k with
  |zero=>
   simp only at h
   rw[Tr.get_nd] at h
   cases j with
   |zero=>simp only[Option.some.injEq] at h;exact .inl ⟨rfl,h.symm⟩
   |succ j=>right;refine⟨by omega,?_⟩;rw[Tr.get_nd];exact h
  | succ k =>
   simp only at h
   by_cases hk:(k+1) % 2=1
   · have e : Nat.beq ((k + 1) % 2) 1 = true := by rw [hk]; rfl
     rw[e] at h;simp only at h
     rw[Tr.get_nd] at h
     cases j with
     |zero=>right;refine⟨by omega,?_⟩;rw[Tr.get_nd];exact h
     |succ j=>
      simp only at h
      by_cases hj:(j+1) % 2=1
      · have e' : Nat.beq ((j + 1) % 2) 1 = true := by rw [hj]; rfl
        rw[e'] at h;simp only at h
        rcases ihl _ _ h with ⟨h1,h2⟩|⟨h1,h2⟩
        · left;exact⟨by omega,h2⟩
        · right;refine⟨by intro e;exact h1 (by rw[e]),?_⟩;rw[Tr.get_nd];simp only[e'];exact h2
      · have e' : Nat.beq ((j + 1) % 2) 1 = false := by
         have:(j+1) % 2=0:=by omega
         rw[this];rfl
        rw[e'] at h;simp only at h
        right;refine⟨by intro e;rw[e] at hj;exact hj hk,?_⟩;rw[Tr.get_nd];simp only[e'];exact h
   · have e : Nat.beq ((k + 1) % 2) 1 = false := by
      have:(k+1) % 2=0:=by omega
      rw[this];rfl
     rw[e] at h;simp only at h
     rw[Tr.get_nd] at h
     cases j with
     |zero=>right;refine⟨by omega,?_⟩;rw[Tr.get_nd];exact h
     |succ j=>
      simp only at h
      by_cases hj:(j+1) % 2=1
      · have e' : Nat.beq ((j + 1) % 2) 1 = true := by rw [hj]; rfl
        rw[e'] at h;simp only at h
        right;refine⟨by intro e;rw[e] at hj;exact hk hj,?_⟩;rw[Tr.get_nd];simp only[e'];exact h
      · have e' : Nat.beq ((j + 1) % 2) 1 = false := by
         have:(j+1) % 2=0:=by omega
         rw[this];rfl
        rw[e'] at h;simp only at h
        rcases ihr _ _ h with ⟨h1,h2⟩|⟨h1,h2⟩
        · left;exact⟨by omega,h2⟩
        · right;refine⟨by intro e;exact h1 (by rw[e]),?_⟩;rw[Tr.get_nd];simp only[e'];exact h2
theorem Tr.get_full {α:Type} (d k:Nat):(Tr.full d:Tr α).get k=none:=by
 induction d generalizing k with
 |zero=>rfl
 |succ d ih=>
  show (Tr.nd (Tr.full d) none (Tr.full d):Tr α).get k=none
  rw[Tr.get_nd]
  cases k with
  |zero=>rfl
  |succ k=>simp only;split<;>exact ih _
structure View where
 m:Nat→Option (Nat×Nat)
 lv:Nat→Option Nat
 K:Nat→Nat→Option Value
 N:Nat→Nat
structure View.le (V V':View):Prop where
 m:∀ id x,V.m id=some x→V'.m id=some x
 lv:∀ l x,V.lv l=some x→V'.lv l=some x
 K:∀ b o x,V.K b o=some x→V'.K b o=some x
 N:∀ id blk s,V.m id=some (blk,s)→V'.N blk=V.N blk
theorem View.le.refl (V:View):V.le V:=⟨fun _ _ h=>h,fun _ _ h=>h,fun _ _ _ h=>h,fun _ _ _ _=>rfl⟩
theorem View.le.trans {A B C:View} (h:A.le B) (k:B.le C):A.le C:=⟨fun _ _ x=>k.m _ _ (h.m _ _ x),fun _ _ x=>k.lv _ _ (h.lv _ _ x),fun _ _ _ x=>k.K _ _ _ (h.K _ _ _ x),fun _ _ _ x=>(k.N _ _ _ (h.m _ _ x)).trans (h.N _ _ _ x)⟩
def View.bare (V:View):View:=⟨fun _=>none,fun _=>none,V.K,fun _=>0⟩
theorem View.bare_le (V:View):V.bare.le V:=⟨fun _ _ h=>by simp[View.bare] at h,fun _ _ h=>by simp[View.bare] at h,fun _ _ _ h=>h,fun _ _ _ h=>by simp[View.bare] at h⟩
theorem View.bare_mono {V V':View} (h:∀ b o x,V.K b o=some x→V'.K b o=some x):V.bare.le V'.bare:=⟨fun _ _ h=>by simp[View.bare] at h,fun _ _ h=>by simp[View.bare] at h,h,fun _ _ _ h=>by simp[View.bare] at h⟩
inductive VR:View→AV→Value→Prop where
 |bool {V:View} (b:Bool):VR V (.bool b) (.bool b)
 |int {V:View} (k:IntKind) (n:Int):VR V (.int k n) (.int k n)
 |str {V:View} (b:ByteArray):VR V (.str (b.data.toList.map (·.toNat))) (.string b)
 |ptr {V:View} (id off blk s:Nat) (h:V.m id=some (blk,s)):VR V (.ptr id off) (.pointer (some ⟨blk,s+off,none⟩))
 |gp {V:View} (g off:Nat):VR V (.gp g off) (.pointer (some ⟨g,off,none⟩))
 | cp {V : View} (cells : List AV) (off blk o : Nat) (f : Nat → Value) (hk : ∀ i, i < cells.length → V.K blk (o + i) = some (f i)) (hv : ∀ i (hi : i < cells.length), VR V.bare cells[i] (f i)) :
   VR V (.cp cells off) (.pointer (some ⟨blk,o+off,none⟩))
 |nilp {V:View}:VR V .nilp (.pointer none)
 |sl {V:View} (id off len cl sz blk s cap:Nat) (A:Addr) (h:V.m id=some (blk,s)) (hc:len≤cap∧cl≤cap) (ha:cap=0∨(A=⟨blk,s+off,none⟩∧s+off+cap * sz≤V.N blk)):VR V (.sl id off len cl sz) (.slice (some A) len cap)
 |fsl {V:View} (id off len sz blk s:Nat) (A:Addr) (h:V.m id=some (blk,s)) (ha:len=0∨(A=⟨blk,s+off,none⟩∧s+off+len * sz≤V.N blk)):VR V (.fsl id off len sz) (.slice (some A) len len)
 | csl {V : View} (cells : List AV) (len blk o cap : Nat) (A : Addr) (f : Nat → Value) (hk : ∀ i, i < cells.length → V.K blk (o + i) = some (f i)) (hv : ∀ i (hi : i < cells.length), VR V.bare cells[i] (f i)) (hc : len ≤ cap) (ha : cap = 0 ∨ A = ⟨blk, o, none⟩) :
   VR V (.csl cells len) (.slice (some A) len cap)
 |nils {V:View}:VR V .nils (.slice none 0 0)
 |sle {V:View} (A:Addr):VR V .sle (.slice (some A) 0 0)
 |vsn {V:View} (t:Ty):VR V (.vs t true []) (.slice none 0 0)
 | vs {V : View} (t : Ty) (l : List t.den) (blk o cap : Nat) (A : Addr) (f : Nat → Value) (hk : ∀ i, i < (flat t l).length → V.K blk (o + i) = some (f i)) (hv : ∀ i (hi : i < (flat t l).length), VR V.bare (flat t l)[i] (f i)) (hc : l.length ≤ cap) (ha : cap = 0 ∨ A = ⟨blk, o, none⟩) :
   VR V (.vs t false l) (.slice (some A) l.length cap)
 |mp {V:View} (id blk:Nat) (h:V.m id=some (blk,0)):VR V (.mp id) (.map (some blk))
 |nilm {V:View}:VR V .nilm (.map none)
 |iter {V:View} (id blk:Nat) (h:V.m id=some (blk,0)):VR V (.iter id) (.pointer (some ⟨blk,0,none⟩))
 | fn {V : View} (f : Nat) (a b : List AV) (A B : List Value) (ha : a.length = A.length) (hb : b.length = B.length) (hav : ∀ i (h : i < a.length) (h' : i < A.length), VR V a[i] A[i]) (hbv : ∀ i (h : i < b.length) (h' : i < B.length), VR V b[i] B[i]) :
   VR V (.fn f a b) (.func (.func f) A.toArray B.toArray)
 |yld {V:View} (lvl l:Nat) (h:V.lv lvl=some l):VR V (.yld lvl) (.func (.yield l) #[] #[])
 |nilf {V:View}:VR V .nilf .nilFunc
 |ifc {V:View} (t:Nat) (v:AV) (r:Value) (h:VR V v r):VR V (.ifc t v) (.iface t r)
 |mv {V:View} (t:Nat) (v:AV) (n:String) (r:Value) (h:VR V v r):VR V (.mv t v n) (.func (.method n) #[.iface t r] #[])
 |nili {V:View}:VR V .nili .nilIface
 |agg {V:View} (a:List AV) (A:List Value) (ha:a.length=A.length) (hav:∀ i (h:i<a.length) (h':i<A.length),VR V a[i] A[i]):VR V (.agg a) (.agg A.toArray)
 |tup {V:View} (a:List AV) (A:List Value) (ha:a.length=A.length) (hav:∀ i (h:i<a.length) (h':i<A.length),VR V a[i] A[i]):VR V (.tup a) (.tuple A.toArray)
theorem VR.mono {V V':View} (hV:V.le V') {a:AV} {v:Value} (h:VR V a v):VR V' a v:=by
 induction h generalizing V' with
 |bool b=>exact .bool b
 |int k n=>exact .int k n
 |str b=>exact .str b
 |ptr id off blk s h=>exact .ptr _ _ _ _ (hV.m _ _ h)
 |gp g off=>exact .gp _ _
 |cp cells off blk o f hk hv ih=>exact .cp _ _ _ _ f (fun i hi=>hV.K _ _ _ (hk i hi)) (fun i hi=>ih i hi (View.bare_mono hV.K))
 |nilp=>exact .nilp
 |sl id off len cl sz blk s cap A h hc ha=>exact .sl _ _ _ _ _ _ _ _ A (hV.m _ _ h) hc (ha.imp (fun x=>x) fun x=>⟨x.1,by rw[hV.N _ _ _ h];exact x.2⟩)
 |fsl id off len sz blk s A h ha=>exact .fsl _ _ _ _ _ _ A (hV.m _ _ h) (ha.imp (fun x=>x) fun x=>⟨x.1,by rw[hV.N _ _ _ h];exact x.2⟩)
 |csl cells len blk o cap A f hk hv hc ha ih=>exact .csl _ _ _ _ _ A f (fun i hi=>hV.K _ _ _ (hk i hi)) (fun i hi=>ih i hi (View.bare_mono hV.K)) hc ha
 |nils=>exact .nils
 |sle A=>exact .sle A
 |vsn t=>exact .vsn t
 |vs t l blk o cap A f hk hv hc ha ih=>exact .vs t l _ _ _ A f (fun i hi=>hV.K _ _ _ (hk i hi)) (fun i hi=>ih i hi (View.bare_mono hV.K)) hc ha
 |mp id blk h=>exact .mp _ _ (hV.m _ _ h)
 |nilm=>exact .nilm
 |iter id blk h=>exact .iter _ _ (hV.m _ _ h)
 |fn f a b A B ha hb hav hbv iha ihb=>exact .fn f a b A B ha hb (fun i h h'=>iha i h h' hV) (fun i h h'=>ihb i h h' hV)
 |yld lvl l h=>exact .yld _ _ (hV.lv _ _ h)
 |nilf=>exact .nilf
 |ifc t v r h ih=>exact .ifc _ _ _ (ih hV)
 |mv t v n r h ih=>exact .mv _ _ _ _ (ih hV)
 |nili=>exact .nili
 |agg a A ha hav ih=>exact .agg a A ha (fun i h h'=>ih i h h' hV)
 |tup a A ha hav ih=>exact .tup a A ha (fun i h h'=>ih i h h' hV)
theorem VR.vs_inv {V:View} {t:Ty} {nl:Bool} {l:List t.den} {v:Value} (h:VR V (.vs t nl l) v):(nl=true∧l=[]∧v=.slice none 0 0)∨(nl=false∧VR V (.csl (flat t l) l.length) v):=by
 cases h with
 |vsn=>exact .inl ⟨rfl,rfl,rfl⟩
 |vs _ _ blk o cap A f hk hv hc ha=>exact .inr ⟨rfl,.csl _ _ blk o cap A f hk hv hc ha⟩
theorem Ty.cells_length:∀ (t:Ty) (d:t.den),(t.cells d).length=t.size
 |.int k,n=>rfl
 |.bool,b=>rfl
 |.str,s=>rfl
 |.nil,_=>rfl
 |.cons t ts,d=>by simp only[Ty.cells,Ty.size,List.length_append,Ty.cells_length t,Ty.cells_length ts]
 |.sl t,d=>rfl
theorem flat_cons (t:Ty) (x:t.den) (l:List t.den):flat t (x::l)=t.cells x++flat t l:=by simp[flat]
theorem flat_length (t:Ty) (l:List t.den):(flat t l).length=l.length * t.size:=by
 induction l with
 |nil=>simp[flat]
 |cons x l ih=>rw[flat_cons,List.length_append,Ty.cells_length,ih,List.length_cons,Nat.succ_mul,Nat.add_comm]
theorem flat_append (t:Ty) (l m:List t.den):flat t (l++m)=flat t l++flat t m:=by simp[flat]
theorem flat_get (t:Ty):∀ (l:List t.den) (j i:Nat),j<l.length→i<t.size→(flat t l)[j * t.size+i]?=(t.cells (l.getD j t.dflt))[i]?
 |[],j,i,h,_=>absurd h (Nat.not_lt_zero j)
 |x::l,0,i,_,hi=>by
  rw[flat_cons,Nat.zero_mul,Nat.zero_add,List.getElem?_append_left (by rw[Ty.cells_length];exact hi)];rfl
 |x::l,j+1,i,h,hi=>by
  rw[flat_cons,List.getElem?_append_right (by rw[Ty.cells_length,Nat.succ_mul];omega),Ty.cells_length]
  have e:(j+1) * t.size+i-t.size=j * t.size+i:=by rw[Nat.succ_mul];omega
  rw[e,flat_get t l j i (by simpa using h) hi];rfl
def VRs (V:View) (a:List AV) (A:List Value):Prop:=a.length=A.length∧∀ i (h:i<a.length) (h':i<A.length),VR V a[i] A[i]
theorem VRs.nil (V:View):VRs V [] []:=⟨rfl,fun i h=>absurd h (by simp)⟩
theorem VRs.cons {V:View} {a:AV} {A:Value} {az:List AV} {As:List Value} (h:VR V a A) (hs:VRs V az As):VRs V (a::az) (A::As):=by
 refine⟨by simp[hs.1],fun i h1 h2=>?_⟩
 cases i with
 |zero=>exact h
 |succ i=>exact hs.2 i (by simpa using h1) (by simpa using h2)
theorem VRs.cons_inv {V:View} {a:AV} {az:List AV} {L:List Value} (h:VRs V (a::az) L):∃ A As,L=A::As∧VR V a A∧VRs V az As:=by
 cases L with
 |nil=>exact absurd h.1 (by simp)
 |cons A As=>exact⟨A,As,rfl,h.2 0 (by simp) (by simp),by simpa using h.1,fun i h1 h2=>h.2 (i+1) (by simpa using h1) (by simpa using h2)⟩
theorem VRs.nil_inv {V:View} {L:List Value} (h:VRs V [] L):L=[]:=by
 cases L with
 |nil=>rfl
 |cons A As=>exact absurd h.1 (by simp)
theorem VRs.append {V:View} {a b:List AV} {A B:List Value} (h:VRs V a A) (k:VRs V b B):VRs V (a++b) (A++B):=by
 induction a generalizing A with
 |nil=>cases h.nil_inv;exact k
 |cons x a ih=>obtain⟨X,A',rfl,h1,h2⟩:=h.cons_inv;exact .cons h1 (ih h2)
theorem VRs.mono {V V':View} (hV:V.le V') {a:List AV} {A:List Value} (h:VRs V a A):VRs V' a A:=⟨h.1,fun i h1 h2=>(h.2 i h1 h2).mono hV⟩
theorem VRs.take {V:View} {a:List AV} {A:List Value} (h:VRs V a A) (n:Nat):VRs V (a.take n) (A.take n):=by
 refine⟨by simp[h.1],fun i h1 h2=>?_⟩
 simp only[List.getElem_take];exact h.2 i _ _
theorem VRs.drop {V:View} {a:List AV} {A:List Value} (h:VRs V a A) (n:Nat):VRs V (a.drop n) (A.drop n):=by
 refine⟨by simp[h.1],fun i h1 h2=>?_⟩
 simp only[List.getElem_drop];exact h.2 _ _ _
theorem VRs.get {V:View} {a:List AV} {A:List Value} (h:VRs V a A) {i:Nat} {x:AV} (hx:a[i]?=some x):∃ X,A[i]?=some X∧VR V x X:=by
 obtain⟨hi,rfl⟩:=List.getElem?_eq_some_iff.1 hx
 exact⟨A[i]'(h.1▸hi),by simp[h.1▸hi],h.2 i hi _⟩
theorem VRs.set {V:View} {a:List AV} {A:List Value} (h:VRs V a A) {x:AV} {X:Value} (hx:VR V x X) (i:Nat):VRs V (a.set i x) (A.set i X):=by
 refine⟨by simp[h.1],fun j h1 h2=>?_⟩
 simp only[List.getElem_set]
 by_cases e:i=j
 · simp[e];exact hx
 · simp[e];exact h.2 j _ _
theorem VRs.map_of {V:View} {α:Type} (l:List α) (f:α→AV) (g:α→Value) (h:∀ x∈l,VR V (f x) (g x)):VRs V (l.map f) (l.map g):=by
 induction l with
 |nil=>exact .nil V
 |cons x l ih=>exact .cons (h x (by simp)) (ih fun y hy=>h y (by simp[hy]))
theorem VR.agg' {V:View} {a:List AV} {A:List Value} (h:VRs V a A):VR V (.agg a) (.agg A.toArray):=.agg a A h.1 h.2
theorem VR.tup' {V:View} {a:List AV} {A:List Value} (h:VRs V a A):VR V (.tup a) (.tuple A.toArray):=.tup a A h.1 h.2
theorem VR.agg_inv {V:View} {a:List AV} {v:Value} (h:VR V (.agg a) v):∃ A:List Value,v=.agg A.toArray∧VRs V a A:=by
 cases h with
 |agg _ A ha hav=>exact⟨A,rfl,ha,hav⟩
theorem VR.tup_inv {V:View} {a:List AV} {v:Value} (h:VR V (.tup a) v):∃ A:List Value,v=.tuple A.toArray∧VRs V a A:=by
 cases h with
 |tup _ A ha hav=>exact⟨A,rfl,ha,hav⟩
theorem VR.cells {V:View} {a:AV} {v:Value} (h:VR V a v):VRs V a.cells v.cells.toList:=by
 cases h with
 |agg a A ha hav=>exact⟨ha,hav⟩
 |vs t l blk o cap A f hk hv hc ha=>exact .cons (.vs t l blk o cap A f hk hv hc ha) (.nil V)
 |_=>first
  |exact .cons (by first|exact .bool _|exact .int _ _|exact .str _|exact .gp _ _|exact .nilp|exact .nils|exact .sle _|exact .vsn _|exact .nilm|exact .nilf|exact .nili|(constructor<;>assumption)) (.nil V)
end Go.Eng


namespace Go.Eng
open Go
def Has (P:Program) (E:Env) (t:Nat):Prop:=∃ i,P.info? t=some i∧E.size t=i.size
def KOK (P:Program) (E:Env) (t:Nat):KT→Prop
 |.bool=>P.underlying t=some .bool
 |.int k=>P.underlying t=some (.int k)
 |.str=>P.underlying t=some .string
 |.ptr=>∃ e,P.underlying t=some (.pointer e)
 |.slice e=>P.underlying t=some (.slice e)∧Has P E e∧(∃ i,P.info? e=some i∧E.bytes e=i.bytes)
 |.arr n e=>P.underlying t=some (.array n e)∧Has P E e
 |.map k e=>P.underlying t=some (.map k e)∧Has P E e
 |.fn=>∃ a b c,P.underlying t=some (.func a b c)
 |.ifc b=>∃ ms,P.underlying t=some (.interface ms)∧b=ms.isEmpty
 | .struct fs => ∃ F, P.underlying t = some (.struct F) ∧ fs = F.toList.map (fun f => (⟨f.offset, f.type, f.name != "_"⟩ : KF)) ∧ (∀ f ∈ F.toList, Has P E f.type)
def Const (a:AV) (v:Value):Prop:=∀ V,VR V a v
structure EnvOK (P:Program) (E:Env):Prop where
 ty:∀ t k,E.ty t=some k→Has P E t∧KOK P E t k
 zero:∀ t z,E.zero t=some z→∃ i v,P.info? t=some i∧i.zero=some v∧Const z v∧v.cells.size=i.size∧E.size t=i.size
 fn:∀ f fn,E.fn f=some fn→P.funcs[f]?=some fn
 eqok:∀ t,E.eqok t=true→P.stoodInHeld t=false∧P.eqGuardType P.depth t=false
 meth:∀ t name f,E.meth t name=some f→∀ v W,(method (P.types.size+Made.depth) t v name).run P W=.ok (f,v) W∧(nilAhead (P.types.size+Made.depth) t v name).run P W=.ok (some false) W
def OR (V:View) (W:World) (blk s:Nat):AO→Prop
 | .cells ro l => ∃ cs t, W.heap[blk]? = some (.cells cs t (0, 0)) ∧ (s + l.length ≤ cs.size ∧ cs.size = V.N blk) ∧ (∃ L : List Value, VRs V l L ∧ ∀ i (h : i < L.length), cs[s + i]? = some L[i]) ∧
   ∀ o v,V.K blk o=some v→ro=true∧o<s+l.length
 |.map es=>s=0∧∃ en clock,W.heap[blk]?=some (.map en clock)∧VRs V (es.map (·.1)) (en.toList.map (·.key))∧VRs V (es.map (·.2)) (en.toList.map (·.val))
 |.cmap es bs ck=>s=0∧∃ en:Array MapEntry,W.heap[blk]?=some (.map en ck)∧VRs V (es.map (·.1)) (en.toList.map (·.key))∧VRs V (es.map (·.2)) (en.toList.map (·.val))∧bs=en.toList.map (·.born)
 |.miter m since seen last=>s=0∧∃ mb,V.m m=some (mb,0)∧W.heap[blk]?=some (.mapIter (some mb) since seen.toArray last)
 |.siter str pos=>s=0∧∃ b:ByteArray,W.heap[blk]?=some (.stringIter b pos)∧str=b.data.toList.map (·.toNat)
 |.gone=>True
def live (σ:Hp) (id:Nat):Prop:=∃ o,σ.get id=some o∧o≠.gone
structure HR (E:Env) (base:Nat) (V:View) (σ:Hp) (W:World):Prop where
 cell:∀ b o v,V.K b o=some v→W.cell? ⟨b,o,none⟩=some v
 glob:∀ g l,E.glob g=some l→∃ f:Nat→Value,∀ i (h:i<l.length),V.K g i=some (f i)∧VR V.bare l[i] (f i)
 obj:∀ id o,σ.get id=some o→o≠.gone→∃ blk s,V.m id=some (blk,s)∧base≤blk∧blk<W.heap.size∧OR V W blk s o
 inj:∀ id id' blk s s',live σ id→live σ id'→V.m id=some (blk,s)→V.m id'=some (blk,s')→id=id'
 fresh:∀ id x,V.m id=some x→id<σ.n∧x.1<W.heap.size
 all:∀ id o,σ.get id=some o→∃ x,V.m id=some x
def Own (V:View) (σ:Hp) (b:Nat):Prop:=∃ id s,live σ id∧V.m id=some (b,s)
structure Fr (O:Nat→Prop) (W W':World):Prop where
 os:W'.os=W.os
 tape:W'.tape=W.tape
 output:W'.output=W.output
 size:W.heap.size≤W'.heap.size
 block:∀ b,b<W.heap.size→¬ O b→W'.heap[b]?=W.heap[b]?
theorem Fr.refl (O:Nat→Prop) (W:World):Fr O W W:=⟨rfl,rfl,rfl,Nat.le_refl _,fun _ _ _=>rfl⟩
theorem Fr.trans {O O':Nat→Prop} {A B C:World} (h:Fr O A B) (k:Fr O' B C) (hO:∀ b,b<A.heap.size→O' b→O b):Fr O A C:=
 ⟨k.os.trans h.os,k.tape.trans h.tape,k.output.trans h.output,Nat.le_trans h.size k.size,fun b hb ho=>(k.block b (Nat.lt_of_lt_of_le hb h.size) fun h'=>ho (hO b hb h')).trans (h.block b hb ho)⟩
theorem Fr.weaken {O O':Nat→Prop} {A B:World} (h:Fr O A B) (hO:∀ b,b<A.heap.size→O b→O' b):Fr O' A B:=
 ⟨h.os,h.tape,h.output,h.size,fun b hb ho=>h.block b hb fun h'=>ho (hO b hb h')⟩
theorem Fr.drew (O:Nat→Prop) (W:World):Fr O W W.drew:=⟨rfl,rfl,rfl,Nat.le_refl _,fun _ _ _=>rfl⟩
theorem heap_alloc (W:World) (o:Obj) (b:Nat) (h:b<W.heap.size):(W.alloc o).heap[b]?=W.heap[b]?:=by
 show (W.heap.push o)[b]?=_
 rw[Array.getElem?_push,if_neg (by omega)]
theorem heap_alloc_self (W:World) (o:Obj):(W.alloc o).heap[W.heap.size]?=some o:=by
 show (W.heap.push o)[W.heap.size]?=_
 rw[Array.getElem?_push,if_pos rfl]
theorem Fr.alloc (O:Nat→Prop) (W:World) (o:Obj):Fr O W (W.alloc o):=⟨rfl,rfl,rfl,by simp,fun b hb _=>heap_alloc W o b hb⟩
theorem cell_of_heap {W W':World} {b o:Nat} (h:W'.heap[b]?=W.heap[b]?):W'.cell? ⟨b,o,none⟩=W.cell? ⟨b,o,none⟩:=by
 simp only[World.cell?,h]
theorem block_lt {W:World} {b o:Nat} {v:Value} (h:W.cell? ⟨b,o,none⟩=some v):b<W.heap.size:=by
 have:=block_lt_of_cell h;exact this
theorem OR.mono {V V':View} {W W':World} {blk s:Nat} {o:AO} (hV:V.le V') (hN:V'.N blk=V.N blk) (hK:∀ i v,V'.K blk i=some v→V.K blk i=some v) (hb:W'.heap[blk]?=W.heap[blk]?) (h:OR V W blk s o):OR V' W' blk s o:=by
 cases o with
 |cells ro l=>
  obtain⟨cs,t,h1,h0,⟨L,h2,h3⟩,h4⟩:=h
  exact⟨cs,t,hb.trans h1,⟨h0.1,h0.2.trans hN.symm⟩,⟨L,h2.mono hV,h3⟩,fun o v hk=>h4 o v (hK _ _ hk)⟩
 |map es=>
  obtain⟨h0,en,clock,h1,h2,h3⟩:=h
  exact⟨h0,en,clock,hb.trans h1,h2.mono hV,h3.mono hV⟩
 |cmap es bs ck=>
  obtain⟨h0,en,h1,h2,h3,h4⟩:=h
  exact⟨h0,en,hb.trans h1,h2.mono hV,h3.mono hV,h4⟩
 |miter m since seen last=>
  obtain⟨h0,mb,h1,h2⟩:=h
  exact⟨h0,mb,hV.m _ _ h1,hb.trans h2⟩
 |siter str pos=>
  obtain⟨h0,b,h1,h2⟩:=h
  exact⟨h0,b,hb.trans h1,h2⟩
 |gone=>trivial
def View.push (V:View) (n blk N:Nat):View:={ V with m:=fun id=>if id=n then some (blk,0) else V.m id,N:=fun b=>if b=blk then N else V.N b }
theorem View.push_le {V:View} {n blk N:Nat} (h:V.m n=none) (hb:∀ id b s,V.m id=some (b,s)→b≠blk):V.le (V.push n blk N):=
 ⟨fun id x hx=>by simp only[View.push];rw[if_neg (by intro e;rw[e,h] at hx;cases hx)];exact hx,fun _ _ h=>h,fun _ _ _ h=>h,fun id b s hm=>by simp only[View.push];rw[if_neg (hb id b s hm)]⟩
theorem Hp.get_push {σ:Hp} {o o':AO} {id:Nat} (h:(σ.push o).get id=some o'):(id=σ.n∧o'=o)∨(id≠σ.n∧σ.get id=some o'):=Tr.get_set _ _ _ _ _ h
theorem Hp.get_set {σ:Hp} {o o':AO} {i id:Nat} (h:(σ.set i o).get id=some o'):(id=i∧o'=o)∨(id≠i∧σ.get id=some o'):=Tr.get_set _ _ _ _ _ h
theorem HR.m_none {E:Env} {base:Nat} {V:View} {σ:Hp} {W:World} (h:HR E base V σ W):V.m σ.n=none:=by
 cases e:V.m σ.n with
 |none=>rfl
 |some x=>exact absurd (h.fresh _ _ e).1 (by omega)
theorem HR.push_le {E:Env} {base:Nat} {V:View} {σ:Hp} {W:World} (h:HR E base V σ W) (N:Nat):V.le (V.push σ.n W.heap.size N):=
 View.push_le h.m_none (fun id b s hm=>by have:=(h.fresh _ _ hm).2;simp only at this;omega)
theorem HR.push {E : Env} {base : Nat} {V : View} {σ : Hp} {W : World} (h : HR E base V σ W) (hb : base ≤ W.heap.size) (N : Nat) (o : AO) (obj : Obj)
  (ho:OR (V.push σ.n W.heap.size N) (W.alloc obj) W.heap.size 0 o):HR E base (V.push σ.n W.heap.size N) (σ.push o) (W.alloc obj):=by
 have hle:V.le (V.push σ.n W.heap.size N):=h.push_le N
 refine⟨fun b i v hk=>?_,fun g l hg=>?_,fun id o' hid hne=>?_,fun id id' blk s s' h1 h2 h3 h4=>?_,fun id x hx=>?_,fun id o' hid=>?_⟩
 · have := h.cell b i v hk
   rw[cell_of_heap (heap_alloc W obj b (block_lt this))];exact this
 · obtain ⟨f, hf⟩ := h.glob g l hg
   exact⟨f,fun i hi=>⟨(hf i hi).1,(hf i hi).2.mono (View.bare_mono hle.K)⟩⟩
 · rcases Hp.get_push hid with ⟨rfl, rfl⟩ | ⟨hne', hid'⟩
   · exact⟨W.heap.size,0,by simp[View.push],hb,by simp,ho⟩
   · obtain ⟨blk, s, hm, h1, h2, h3⟩ := h.obj id o' hid' hne
     exact⟨blk,s,hle.m _ _ hm,h1,by simp;omega,h3.mono hle (hle.N _ _ _ hm) (fun _ _ hk=>hk) (heap_alloc W obj blk h2)⟩
 · have key : ∀ id s, live (σ.push o) id → (V.push σ.n W.heap.size N).m id = some (blk, s) → (id = σ.n ∧ blk = W.heap.size) ∨ (live σ id ∧ V.m id = some (blk, s) ∧ blk < W.heap.size) := by
    intro id s ⟨oo,hl,hn⟩ hm
    by_cases e:id=σ.n
    · simp only [View.push, e, if_true, Option.some.injEq, Prod.mk.injEq] at hm
      exact .inl ⟨e,hm.1.symm⟩
    · simp only [View.push, e, if_false] at hm
      rcases Hp.get_push hl with ⟨e',_⟩|⟨_,hl'⟩
      · exact absurd e' e
      · obtain ⟨b', s'', hm', _, hlt, _⟩ := h.obj id oo hl' hn
        rw[hm] at hm';simp only[Option.some.injEq,Prod.mk.injEq] at hm'
        exact .inr ⟨⟨oo,hl',hn⟩,hm,by omega⟩
   rcases key id s h1 h3 with ⟨e1,e2⟩|⟨l1,m1,lt1⟩<;>rcases key id' s' h2 h4 with ⟨e3,e4⟩|⟨l2,m2,lt2⟩
   · rw[e1,e3]
   · omega
   · omega
   · exact h.inj _ _ _ _ _ l1 l2 m1 m2
 · by_cases e : id = σ.n
   · simp only [View.push, e, if_true, Option.some.injEq] at hx
     subst hx
     exact⟨by rw[e];exact Nat.lt_succ_self _,by simp⟩
   · simp only [View.push, e, if_false] at hx
     exact⟨Nat.lt_succ_of_lt (h.fresh _ _ hx).1,by have:=(h.fresh _ _ hx).2;simp;omega⟩
 · rcases Hp.get_push hid with ⟨rfl, _⟩ | ⟨_, hid'⟩
   · exact⟨(W.heap.size,0),by simp[View.push]⟩
   · obtain⟨x,hx⟩:=h.all _ _ hid';exact⟨x,hle.m _ _ hx⟩
theorem HR.upd {E:Env} {base:Nat} {V:View} {σ:Hp} {W W':World} (h:HR E base V σ W) {id:Nat} {o o':AO} {blk s:Nat} (hid:σ.get id=some o) (hne:o≠.gone) (hm:V.m id=some (blk,s))
  (hs:W.heap.size=W'.heap.size) (hother:∀ b,b≠blk→W'.heap[b]?=W.heap[b]?) (hk:∀ i v,V.K blk i=some v→W'.cell? ⟨blk,i,none⟩=some v) (ho:OR V W' blk s o') :
  HR E base V (σ.set id o') W':=by
 have keep:∀ id1 blk1 s1,live σ id1→id1≠id→V.m id1=some (blk1,s1)→blk1≠blk:=by
  intro id1 blk1 s1 hl hne1 hm1 e
  subst e
  exact hne1 (h.inj _ _ _ _ _ hl ⟨o,hid,hne⟩ hm1 hm)
 refine⟨fun b i v hkk=>?_,h.glob,fun id1 o1 h1 hn1=>?_,fun a b c d e h1 h2 h3 h4=>?_,fun id x hx=>⟨(h.fresh id x hx).1,by have:=(h.fresh id x hx).2;omega⟩,fun id1 o1 h1=>?_⟩
 · by_cases e : b = blk
   · subst e;exact hk i v hkk
   · rw[cell_of_heap (hother b e)];exact h.cell b i v hkk
 · rcases Hp.get_set h1 with ⟨rfl, rfl⟩ | ⟨hne1, h1'⟩
   · obtain ⟨b', s', hm', hb, hlt, _⟩ := h.obj _ _ hid hne
     rw[hm] at hm';simp only[Option.some.injEq,Prod.mk.injEq] at hm'
     exact⟨blk,s,hm,by omega,by omega,ho⟩
   · obtain ⟨b', s', hm', hb, hlt, hO⟩ := h.obj _ _ h1' hn1
     exact⟨b',s',hm',hb,by omega,hO.mono (View.le.refl V) rfl (fun _ _ hk=>hk) (hother b' (keep _ _ _ ⟨o1,h1',hn1⟩ hne1 hm'))⟩
 · have lv : ∀ x, live (σ.set id o') x → live σ x := by
    intro x ⟨ox,hx,hnx⟩
    rcases Hp.get_set hx with ⟨rfl,_⟩|⟨_,hx'⟩
    · exact⟨o,hid,hne⟩
    · exact⟨ox,hx',hnx⟩
   exact h.inj _ _ _ _ _ (lv _ h1) (lv _ h2) h3 h4
 · rcases Hp.get_set h1 with ⟨rfl, _⟩ | ⟨_, h1'⟩
   · exact⟨_,hm⟩
   · exact h.all _ _ h1'
theorem HR.drop {E:Env} {base:Nat} {V:View} {σ:Hp} {W:World} (h:HR E base V σ W) (id:Nat) (hx:∃ x,V.m id=some x):HR E base V (σ.set id .gone) W:=by
 have lv:∀ x,live (σ.set id .gone) x→live σ x:=by
  intro x ⟨ox,hx,hnx⟩
  rcases Hp.get_set hx with ⟨_,e⟩|⟨_,hx'⟩
  · exact absurd e hnx
  · exact⟨ox,hx',hnx⟩
 refine⟨h.cell,h.glob,fun id1 o1 h1 hn1=>?_,fun a b c d e h1 h2 h3 h4=>h.inj _ _ _ _ _ (lv _ h1) (lv _ h2) h3 h4,h.fresh,fun id1 o1 h1=>by
  rcases Hp.get_set h1 with ⟨rfl,_⟩|⟨_,h1'⟩
  · exact hx
  · exact h.all _ _ h1'⟩
 rcases Hp.get_set h1 with ⟨_,e⟩|⟨_,h1'⟩
 · exact absurd e hn1
 · exact h.obj _ _ h1' hn1
theorem Own.push {V:View} {σ:Hp} {W:World} {o:AO} {b N:Nat} (h:Own (V.push σ.n W.heap.size N) (σ.push o) b):Own V σ b∨b=W.heap.size:=by
 obtain⟨id,s,⟨oo,hl,hn⟩,hm⟩:=h
 by_cases e:id=σ.n
 · simp only[View.push,e,if_true,Option.some.injEq,Prod.mk.injEq] at hm;exact .inr hm.1.symm
 · simp only [View.push, e, if_false] at hm
   rcases Hp.get_push hl with ⟨e',_⟩|⟨_,hl'⟩
   · exact absurd e' e
   · exact .inl ⟨id,s,⟨oo,hl',hn⟩,hm⟩
theorem push_mb {V:View} {n blk N:Nat}:∀ id b s,(V.push n blk N).m id=some (b,s)→(∃ id' s',V.m id'=some (b,s'))∨blk≤b:=by
 intro id b s h
 simp only[View.push] at h
 split at h
 · simp only[Option.some.injEq,Prod.mk.injEq] at h;exact .inr (by omega)
 · exact .inl ⟨id,s,h⟩
theorem push_nm {V:View} {n blk N:Nat}:∀ id x,(V.push n blk N).m id=some x→V.m id=some x∨n≤id:=by
 intro id x h
 simp only[View.push] at h
 split at h
 · exact .inr (by omega)
 · exact .inl h
end Go.Eng


namespace Go.Eng
open Go
theorem oneAll_spec {V:View}:∀ {l:List AV} {L:List Value},oneAll l=true→VRs V l L→∀ v∈L,v.oneCell'=true
 |[],L,_,h,v,hv=>by cases h.nil_inv;cases hv
 |a::l,L,ho,h,v,hv=>by
  obtain⟨A,As,rfl,h1,h2⟩:=h.cons_inv
  have hl:oneAll l=true:=by cases a<;>simp_all [oneAll]
  rcases List.mem_cons.1 hv with rfl|hv
  · cases h1<;>first|rfl|(simp[oneAll] at ho)
  · exact oneAll_spec hl h2 v hv
theorem addr_add (b o i:Nat):(⟨b,o,none⟩:Addr).add i=⟨b,o+i,none⟩:=by unfold Addr.add;split<;>simp_all
theorem cut_spec {l r:List AV} {off n:Nat} (h:cut l off n=some r):off+n≤l.length∧r=(l.drop off).take n∧r.length=n:=by
 unfold cut at h
 split at h
 · rename_i hb
   have:=Nat.le_of_ble_eq_true hb
   simp only[Option.some.injEq] at h
   subst h
   refine⟨this,rfl,by simp;omega⟩
 · cases h
theorem loadC_spec {E : Env} {base : Nat} {V : View} {σ : Hp} {W : World} (H : HR E base V σ W) {a : AV} {n : Nat} {l : List AV} {v : Value} (hv : VR V a v) (h : loadC E σ a n = some l) :
  ∃ (A:Addr) (L:List Value),v=.pointer (some A)∧A.spot=none∧l.length=n∧VRs V l L∧∀ j x,L[j]?=some x→W.cell? (A.add j)=some x:=by
 cases hv with
 |ptr id off blk s hm=>
  simp only[loadC] at h
  split at h
  · rename_i ro cl hget
    obtain⟨h1,h2,h3⟩:=cut_spec h
    obtain⟨blk',s',hm',_,_,cs,t,hb,_,⟨L,hL,hc⟩,_⟩:=H.obj _ _ hget (by simp)
    rw[hm] at hm';simp only[Option.some.injEq,Prod.mk.injEq] at hm';obtain⟨rfl,rfl⟩:=hm'
    refine⟨_,(L.drop off).take n,rfl,rfl,h3,?_,?_⟩
    · rw[h2];exact (hL.drop off).take n
    · intro j x hx
      rw[List.getElem?_take] at hx
      split at hx
      · rw [List.getElem?_drop] at hx
        obtain⟨hi,rfl⟩:=List.getElem?_eq_some_iff.1 hx
        rw[addr_add,cell_of_row _ _ _ _ _ _ hb]
        have:=hc _ hi
        rw[← this];congr 1;omega
      · cases hx
  · cases h
 | gp g off =>
  simp only[loadC] at h
  split at h
  · rename_i gl hg
    obtain⟨h1,h2,h3⟩:=cut_spec h
    obtain⟨f,hf⟩:=H.glob _ _ hg
    have hL:VRs V gl (List.ofFn fun i:Fin gl.length=>f i.1):=⟨by simp,fun i h1 h2=>by simpa using (hf i h1).2.mono V.bare_le⟩
    refine⟨_,((List.ofFn fun i:Fin gl.length=>f i.1).drop off).take n,rfl,rfl,h3,?_,?_⟩
    · rw[h2];exact (hL.drop off).take n
    · intro j x hx
      rw[List.getElem?_take] at hx
      split at hx
      · rw [List.getElem?_drop] at hx
        obtain⟨hi,rfl⟩:=List.getElem?_eq_some_iff.1 hx
        rw[addr_add]
        simp only[List.length_ofFn] at hi
        have:=H.cell _ _ _ (hf (off+j) hi).1
        simpa using this
      · cases hx
  · cases h
 | cp cells off blk o f hk hvv =>
  simp only[loadC] at h
  obtain⟨h1,h2,h3⟩:=cut_spec h
  have hL:VRs V cells (List.ofFn fun i:Fin cells.length=>f i.1):=⟨by simp,fun i h1 h2=>by simpa using (hvv i h1).mono V.bare_le⟩
  refine⟨_,((List.ofFn fun i:Fin cells.length=>f i.1).drop off).take n,rfl,rfl,h3,?_,?_⟩
  · rw[h2];exact (hL.drop off).take n
  · intro j x hx
    rw[List.getElem?_take] at hx
    split at hx
    · rw [List.getElem?_drop] at hx
      obtain⟨hi,rfl⟩:=List.getElem?_eq_some_iff.1 hx
      rw[addr_add]
      simp only[List.length_ofFn] at hi
      have:=H.cell _ _ _ (hk (off+j) hi)
      rw[show o+off+j=o+(off+j) by omega,this];simp
    · cases hx
 |_=>simp[loadC] at h
theorem under_run {P:Program} {t:Nat} {d:TypeDesc} (h:P.underlying t=some d) (W:World):(underlying t).run P W=.ok d W:=by simp[underlying,h]
def ktDesc (k:KT) (d:TypeDesc):Prop:=
 match k with
 |.bool=>d=.bool|.int k=>d=.int k|.str=>d=.string|.ptr=>∃ e,d=.pointer e|.slice e=>d=.slice e|.arr n e=>d=.array n e|.map k e=>d=.map k e
 | .fn => ∃ a b c, d = .func a b c | .ifc b => ∃ ms, d = .interface ms ∧ b = ms.isEmpty | .struct fs => ∃ F, d = .struct F ∧ fs = F.toList.map (fun f => (⟨f.offset, f.type, f.name != "_"⟩ : KF))
theorem kdesc {P:Program} {E:Env} (hE:EnvOK P E) {t:Nat} {k:KT} (h:E.ty t=some k):∃ d,P.underlying t=some d∧ktDesc k d:=by
 have hK:=(hE.ty t k h).2
 cases k with
 |bool=>exact⟨_,hK,rfl⟩
 |int k=>exact⟨_,hK,rfl⟩
 |str=>exact⟨_,hK,rfl⟩
 |ptr=>obtain⟨e,hK⟩:=hK;exact⟨_,hK,e,rfl⟩
 |slice e=>exact⟨_,hK.1,rfl⟩
 |arr n e=>exact⟨_,hK.1,rfl⟩
 |map k e=>exact⟨_,hK.1,rfl⟩
 |fn=>obtain⟨a,b,c,hK⟩:=hK;exact⟨_,hK,a,b,c,rfl⟩
 |ifc b=>obtain⟨ms,hK,hb⟩:=hK;exact⟨_,hK,ms,rfl,hb⟩
 |struct fs=>obtain⟨F,hK,hF,_⟩:=hK;exact⟨_,hK,F,rfl,hF⟩
theorem isAggT_run {P:Program} {E:Env} (hE:EnvOK P E) {t:Nat} {b:Bool} (h:isAggT E t=some b) (W:World):(isAgg t).run P W=.ok b W:=by
 unfold isAggT at h
 cases hk:E.ty t with
 |none=>simp[hk] at h
 | some k =>
  obtain⟨d,hd,hkd⟩:=kdesc hE hk
  simp only[isAgg,Sem.run_bind,under_run hd,Result.andThen_ok]
  cases k<;>simp only[hk,Option.some.injEq] at h<;>subst h<;>simp only[ktDesc] at hkd
  all_goals first
   |(subst hkd;rfl)
   |(obtain⟨_,rfl⟩:=hkd;rfl)
   |(obtain⟨_,_,_,rfl⟩:=hkd;rfl)
   |(obtain⟨_,rfl,_⟩:=hkd;rfl)
theorem sizeOf_run {P:Program} {E:Env} {t:Nat} (h:Has P E t) (W:World):(sizeOf t).run P W=.ok (E.size t) W:=by
 obtain⟨i,hi,hs⟩:=h
 simp[sizeOf,typeInfo,hi,hs]
theorem has_of_agg {P:Program} {E:Env} (hE:EnvOK P E) {t:Nat} {b:Bool} (h:isAggT E t=some b):Has P E t:=by
 unfold isAggT at h
 cases hk:E.ty t with
 |none=>simp[hk] at h
 |some k=>exact (hE.ty t k hk).1
theorem loadV_run {P:Program} {E:Env} {base:Nat} {V:View} {σ:Hp} {W:World} (hE:EnvOK P E) (H:HR E base V σ W) {t:Nat} {a x:AV} {v:Value} (hv:VR V a v) (h:loadV E σ t a=some x) :
  ∃ A X,v=.pointer (some A)∧(loadVar t A).run P W=.ok X W∧VR V x X:=by
 unfold loadV at h
 split at h
 · rename_i hag
   cases hl:loadC E σ a (E.size t) with
   |none=>simp[hl] at h
   |some l=>
    simp only[hl,Option.map_some,Option.some.injEq] at h
    subst h
    obtain⟨A,L,rfl,_,hlen,hL,hc⟩:=loadC_spec H hv hl
    refine⟨A,.agg L.toArray,rfl,?_,.agg' hL⟩
    have h1:=run_loadCells_list (P:=P) W A L hc
    rw[← hL.1,hlen] at h1
    simp[loadVar,isAggT_run hE hag,sizeOf_run (has_of_agg hE hag),h1]
 · rename_i hag
   split at h
   · rename_i y hl
     simp only[Option.some.injEq] at h
     subst h
     obtain⟨A,L,rfl,_,hlen,hL,hc⟩:=loadC_spec H hv hl
     obtain⟨X,Xs,rfl,hX,hXs⟩:=hL.cons_inv
     cases hXs.nil_inv
     have:=hc 0 X rfl
     have hA:A.add 0=A:=by unfold Addr.add;simp
     rw[hA] at this
     refine⟨A,X,rfl,?_,hX⟩
     simp[loadVar,isAggT_run hE hag,this]
   · cases h
 · cases h
theorem setAt_spec {V:View}:∀ {vs:List AV} {VS:List Value} {l:List AV} {L:List Value} (off:Nat),VRs V vs VS→VRs V l L→off+vs.length≤l.length →
  VRs V (setAt l off vs) (L.take off++VS++L.drop (off+VS.length))∧(setAt l off vs).length=l.length
 |[],VS,l,L,off,h,hl,hle=>by
  cases h.nil_inv
  simp only[setAt,List.append_nil,List.length_nil,Nat.add_zero,List.take_append_drop]
  exact⟨hl,trivial⟩
 | v :: vs, VS, l, L, off, h, hl, hle => by
  obtain⟨X,Xs,rfl,h1,h2⟩:=h.cons_inv
  simp only[List.length_cons] at hle
  have hset:=hl.set h1 off
  obtain⟨r1,r2⟩:=setAt_spec (off+1) h2 hset (by simp;omega)
  refine⟨?_,by simp[setAt,r2]⟩
  have hoff:off<L.length:=by have:=hl.1;omega
  have e:(L.set off X).take (off+1)++Xs++(L.set off X).drop (off+1+Xs.length)=L.take off++(X::Xs)++L.drop (off+(X::Xs).length):=by
   rw[List.take_succ_eq_append_getElem (by simpa using hoff)]
   simp only[List.getElem_set_self,List.take_set_of_le (Nat.le_refl off),List.append_assoc,List.singleton_append,List.length_cons]
   rw[List.drop_set_of_lt (by omega)]
   simp[Nat.add_assoc,Nat.add_comm 1]
  rw[setAt,← e];exact r1
theorem storeCells_run {P:Program} {W:World} {blk o:Nat} {t:Nat} {cs:Array Value} (VS:List Value) (hb:W.heap[blk]?=some (.cells cs t (0,0))) (hle:o+VS.length≤cs.size) (h1:∀ v∈VS,v.oneCell'=true) :
  (storeCells ⟨blk,o,none⟩ VS).run P W=.ok () (W.setRow blk (cs.toList.take o++VS++cs.toList.drop (o+VS.length)).toArray):=by
 have:=run_storeCells_at (P:=P) blk o t VS 0 cs W hb (by simpa using hle) h1
 simpa using this
theorem setRow_heap (W:World) (blk b:Nat) (cs:Array Value) (h:b≠blk):(W.setRow blk cs).heap[b]?=W.heap[b]?:=by
 simp only[World.setRow,Array.getElem?_modify];rw[if_neg (by omega)]
theorem setRow_self_heap (W:World) (blk:Nat) (cs cs':Array Value) (t:Nat) (fz:Nat×Nat) (h:W.heap[blk]?=some (.cells cs t fz)):(W.setRow blk cs').heap[blk]?=some (.cells cs' t fz):=by
 simp[World.setRow,Array.getElem?_modify,h]
theorem setRow_size (W:World) (blk:Nat) (cs:Array Value):(W.setRow blk cs).heap.size=W.heap.size:=by simp[World.setRow]
theorem HR.write {P:Program} {E:Env} {base:Nat} {V:View} {σ:Hp} {W:World} (H:HR E base V σ W) {id off:Nat} {l vs:List AV} {VS:List Value} {blk s:Nat} (hid:σ.get id=some (.cells false l)) (hm:V.m id=some (blk,s))
  (hvs:VRs V vs VS) (hle:off+vs.length≤l.length) (h1:∀ v∈VS,v.oneCell'=true) :
  ∃ W',(storeCells ⟨blk,s+off,none⟩ VS).run P W=.ok () W'∧HR E base V (σ.set id (.cells false (setAt l off vs))) W'∧Fr (Own V σ) W W'∧(∀ b,Own V (σ.set id (.cells false (setAt l off vs))) b→Own V σ b∨W.heap.size≤b):=by
 obtain⟨blk',s',hm',hbase,hlt,cs,t,hb,⟨hsz,hN⟩,⟨L,hL,hc⟩,hK⟩:=H.obj _ _ hid (by simp)
 rw[hm] at hm';simp only[Option.some.injEq,Prod.mk.injEq] at hm';obtain⟨rfl,rfl⟩:=hm'
 have hVS:=hvs.1
 have hrun:=storeCells_run (P:=P) (o:=s+off) VS hb (by omega) h1
 obtain⟨r1,r2⟩:=setAt_spec off hvs hL hle
 have own:∀ b,Own V (σ.set id (.cells false (setAt l off vs))) b→Own V σ b:=by
  rintro b ⟨i,s1,⟨o,ho,hne⟩,hm1⟩
  rcases Hp.get_set ho with ⟨rfl,_⟩|⟨_,ho'⟩
  · exact⟨i,s1,⟨_,hid,by simp⟩,hm1⟩
  · exact⟨i,s1,⟨o,ho',hne⟩,hm1⟩
 have noK:∀ i v,V.K blk i=some v→False:=fun i v hk=>by simpa using (hK i v hk).1
 refine⟨_,hrun,?_,?_,fun b hb=>.inl (own b hb)⟩
 · refine H.upd hid (by simp) hm (setRow_size _ _ _).symm (fun b hb => setRow_heap _ _ _ _ hb) (fun i v hk => (noK i v hk).elim) ?_
   refine⟨_,t,setRow_self_heap _ _ _ _ _ _ hb,⟨?_,?_⟩,⟨_,r1,?_⟩,fun o v hk=>(noK o v hk).elim⟩
   · rw[r2];simp;omega
   · rw[← hN];simp;omega
   · intro i hi
     simp only[List.getElem?_toArray]
     have hLl:=hL.1
     have hcs:cs.toList.length=cs.size:=by simp
     by_cases c1:i<off
     · rw [List.getElem?_append_left (by simp; omega), List.getElem?_append_left (by simp; omega)]
       rw[List.getElem?_take_of_lt (by omega)]
       rw[List.getElem_append_left (by simp;omega),List.getElem_append_left (by simp;omega)]
       have:=hc i (by omega)
       simpa using this
     · by_cases c2 : i < off + VS.length
       · rw [List.getElem?_append_left (by simp; omega), List.getElem?_append_right (by simp; omega)]
         rw[List.getElem_append_left (by simp;omega),List.getElem_append_right (by simp;omega)]
         simp only[List.length_take]
         rw[List.getElem?_eq_getElem (by omega)]
         congr 2
         omega
       · rw [List.getElem?_append_right (by simp; omega), List.getElem?_drop]
         rw[List.getElem_append_right (by simp;omega),List.getElem_drop]
         simp only[List.length_append,List.length_take]
         have:=hc i (by simp at hi;omega)
         simp only[← Array.getElem?_toList] at this
         rw[← List.getElem?_eq_getElem]
         rw[← List.getElem?_eq_getElem] at this
         simp only[List.length_append,List.length_take] at hi⊢
         rw[show s+off+VS.length+(s+i-(min (s+off) cs.toList.length+VS.length))=s+i from by omega,
          show off+VS.length+(i-(min off L.length+VS.length))=i from by omega]
         exact this
 · exact⟨rfl,rfl,rfl,Nat.le_of_eq (setRow_size _ _ _).symm,fun b hb hO=>setRow_heap _ _ _ _ (fun e=>hO ⟨id,s,⟨_,hid,by simp⟩,e▸hm⟩)⟩
end Go.Eng


namespace Go.Eng
open Go
structure Stp (E:Env) (base:Nat) (V:View) (σ:Hp) (W:World) (V':View) (σ':Hp) (W':World):Prop where
 le:V.le V'
 lv:V'.lv=V.lv
 K:∀ b o v,V'.K b o=some v→V.K b o=some v∨W.heap.size≤b∨Own V σ b
 hr:HR E base V' σ' W'
 fr:Fr (Own V σ) W W'
 own:∀ b,Own V' σ' b→Own V σ b∨W.heap.size≤b
 mb:∀ id b s,V'.m id=some (b,s)→(∃ id' s',V.m id'=some (b,s'))∨W.heap.size≤b
 nm:∀ id x,V'.m id=some x→V.m id=some x∨σ.n≤id
 nn:σ.n≤σ'.n
theorem Stp.refl {E:Env} {base:Nat} {V:View} {σ:Hp} {W:World} (H:HR E base V σ W):Stp E base V σ W V σ W:=
 ⟨View.le.refl V,rfl,fun _ _ _ h=>.inl h,H,Fr.refl _ _,fun _ h=>.inl h,fun id _ s h=>.inl ⟨id,s,h⟩,fun _ _ h=>.inl h,Nat.le_refl _⟩
def EvR (V:View) (τ:Tmps) (ρ:Operand→Value):Prop:=∀ x a,ev τ x=some a→VR V a (ρ x)
def OpOK (P:Program) (E:Env) (base:Nat) (V:View) (σ:Hp) (W:World) (r:Result Next):Res→Prop
 |.val v σ'=>∃ V' W' v',r=.ok (.value v') W'∧Stp E base V σ W V' σ' W'∧VR V' v v'
 |.skip σ'=>∃ V' W',r=.ok .skip W'∧Stp E base V σ W V' σ' W'
 |.call f args=>∃ A:List Value,r=(callFunc f A.toArray).run P W∧VRs V args A
 |.yld l args=>∃ (b:Nat) (A:List Value),V.lv l=some b∧r=(Instr.yield b A.toArray).run P W∧VRs V args A
 |.dfr f args=>∃ (caps A:List Value),r=.ok (.defer { target:=.fn (.func f) caps.toArray,args:=A.toArray }) W∧VRs V args (A++caps)
 |.recov=>r=.ok .recover W
section
variable {P:Program} {E:Env} {base:Nat} {V:View} {σ:Hp} {W:World} {τ:Tmps} {ρ:Operand→Value}
theorem OpOK.same (H:HR E base V σ W) {r:Result Next} {v:AV} {v':Value} (h:r=.ok (.value v') W) (hv:VR V v v'):OpOK P E base V σ W r (.val v σ):=⟨V,W,v',h,.refl H,hv⟩
theorem lit_sound:∀ (n:Nat) (v:Value) (a:AV),lit n v=some a→Const a v
 |0,v,a,h=>by simp[lit] at h
 | n + 1, v, a, h => by
  intro V
  have ih:=lit_sound n
  have key:∀ (l:List Value) (r:List AV),l.mapM (lit n)=some r→VRs V r l:=by
   intro l
   induction l with
   |nil=>intro r h;simp at h;subst h;exact .nil V
   |cons x l ihl=>
    intro r h
    simp only[List.mapM_cons,Option.bind_eq_bind,Option.bind_eq_some_iff] at h
    obtain⟨y,hy,ys,hys,e⟩:=h
    simp only[Option.pure_def,Option.some.injEq] at e
    subst e
    exact .cons (ih x y hy V) (ihl ys hys)
  unfold lit at h
  split at h
  all_goals first
   |(simp only[Option.some.injEq] at h;subst h;first|exact .bool _|exact .int _ _|exact .str _|exact .nilp|exact .nils|exact .nilm|exact .nilf|exact .nili)
   | (rename_i cs
      cases hm:cs.toList.mapM (lit n) with
      |none=>simp[hm] at h
      |some r=>
       simp only[hm,Option.map_some,Option.some.injEq] at h
       subst h
       have:=key _ _ hm
       first|exact VR.agg' this|exact VR.tup' this)
   |cases h
theorem evs_spec (hρ:EvR V τ ρ):∀ (l:List Operand) (r:List AV),evs τ l=some r→VRs V r (l.map ρ)
 |[],r,h=>by simp only[evs,Option.some.injEq] at h;subst h;exact .nil V
 |x::l,r,h=>by
  simp only[evs] at h
  split at h
  · cases h
  · rename_i v hv
    split at h
    · cases h
    · rename_i vs hvs
      simp only[Option.some.injEq] at h;subst h
      exact .cons (hρ x v hv) (evs_spec hρ l vs hvs)
theorem part_run (hE:EnvOK P E) {t:Nat} {cs:List AV} {C:List Value} {off:Nat} {x:AV} (hC:VRs V cs C) (h:part E t cs off=some x):∃ X,(Go.part t C.toArray off).run P W=.ok X W∧VR V x X:=by
 unfold part at h
 split at h
 · rename_i ha
   cases hc:cut cs off (E.size t) with
   |none=>simp[hc] at h
   |some r=>
    simp only[hc,Option.map_some,Option.some.injEq] at h;subst h
    obtain⟨h1,h2,h3⟩:=cut_spec hc
    refine⟨.agg ((C.drop off).take (E.size t)).toArray,?_,.agg' (by rw[h2];exact (hC.drop off).take _)⟩
    simp[Go.part,isAggT_run hE ha,sizeOf_run (has_of_agg hE ha)]
 · rename_i ha
   obtain⟨X,hX,hv⟩:=hC.get h
   exact⟨X,by simp[Go.part,isAggT_run hE ha,hX],hv⟩
 · cases h
theorem ikb_eq {k k':IntKind} (h:ikb k k'=true):k=k':=by
 cases k<;>cases k'<;>first|rfl|(exact absurd h (by decide))
theorem ile_eq (a b:Int):ile a b=decide (a≤b):=by
 rw[Bool.eq_iff_iff,decide_eq_true_eq]
 cases a<;>cases b<;>simp only[ile,Nat.ble_eq,Int.ofNat_eq_natCast,Int.negSucc_eq]<;>first|omega|(constructor<;>intro h<;>first|omega|trivial|(cases h;done))
theorem ieq_eq (a b:Int):ieq a b=(a == b):=by
 rw[Bool.eq_iff_iff,beq_iff_eq]
 cases a<;>cases b<;>simp only[ieq,Nat.beq_eq,Int.ofNat_eq_natCast,Int.negSucc_eq]<;>first|omega|(constructor<;>intro h<;>first|omega|trivial|(cases h;done))
theorem wr_eq (k:IntKind) (n:Int):wr k n=k.wrap n:=by
 unfold wr
 split
 · split
   · rename_i m
     split
     · rename_i h
       have:=Nat.le_of_ble_eq_true h
       rw[IntWalk.i64_in]
       simp only[Int.ofNat_eq_natCast];omega
     · rfl
   · rename_i m
     split
     · rename_i h
       have:=Nat.le_of_ble_eq_true h
       rw[IntWalk.i64_in]
       simp only[Int.negSucc_eq];omega
     · rfl
 · rfl
theorem lbeq_eq:∀ (a b:List Nat),lbeq a b=(a == b)
 |[],[]=>rfl
 |[],_::_=>rfl
 |_::_,[]=>rfl
 |a::x,b::y=>by
  simp only[lbeq,List.cons_beq_cons]
  cases h:Nat.beq a b with
  |true=>have:=Nat.eq_of_beq_eq_true h;subst this;simp[lbeq_eq x y]
  |false=>have:¬ a=b:=Nat.ne_of_beq_eq_false h;simp[this]
end
end Go.Eng

namespace Go.Eng
open Go
section
variable {P:Program} {E:Env} {base:Nat} {V:View} {σ:Hp} {W:World} {τ:Tmps} {ρ:Operand→Value}
theorem VR.int_inv {k:IntKind} {n:Int} {v:Value} (h:VR V (.int k n) v):v=.int k n:=by cases h;rfl
theorem VR.bool_inv {b:Bool} {v:Value} (h:VR V (.bool b) v):v=.bool b:=by cases h;rfl
theorem VR.str_inv {s:List Nat} {v:Value} (h:VR V (.str s) v):∃ b:ByteArray,v=.string b∧s=b.data.toList.map (·.toNat):=by cases h;exact⟨_,rfl,rfl⟩
theorem arith_run {op:BinOp} {k:IntKind} {a b:Int} {t:Nat} {x:AV} (hs:op≠.shl) (hs':op≠.shr) (h:arith op k a b=some x):∃ X,(binOp op t (.int k a) (.int k b)).run P W=.ok X W∧VR V x X:=by
 cases op
 case shl=>exact absurd rfl hs
 case shr=>exact absurd rfl hs'
 case quo=>
  simp only[arith,wr_eq,ieq_eq] at h
  split at h
  · cases h
  · rename_i hb
    simp only[Option.some.injEq] at h;subst h
    have hb':¬ b=0:=by simpa using hb
    exact⟨_,by simp[binOp,Op.intDiv,hb'],.int _ _⟩
 case rem=>
  simp only[arith,wr_eq,ieq_eq] at h
  split at h
  · cases h
  · rename_i hb
    simp only[Option.some.injEq] at h;subst h
    have hb':¬ b=0:=by simpa using hb
    exact⟨_,by simp[binOp,Op.intDiv,hb'],.int _ _⟩
 case eql=>simp only[arith,ieq_eq,Option.some.injEq] at h;subst h;exact⟨_,by simp[binOp,Op.intCmp],.bool _⟩
 case neq=>simp only[arith,ieq_eq,Option.some.injEq] at h;subst h;exact⟨.bool (!(a == b)),by simp[binOp,Op.intCmp,bne],.bool _⟩
 case lss=>
  simp only[arith,ile_eq,Option.some.injEq] at h;subst h
  have e:decide (a<b)=!decide (b≤a):=by rw[Bool.eq_iff_iff];simp
  exact⟨.bool (!decide (b≤a)),by simp[binOp,Op.intCmp,e],.bool _⟩
 case leq=>simp only[arith,ile_eq,Option.some.injEq] at h;subst h;exact⟨.bool (decide (a≤b)),by simp[binOp,Op.intCmp],.bool _⟩
 case gtr=>
  simp only[arith,ile_eq,Option.some.injEq] at h;subst h
  have e:decide (b<a)=!decide (a≤b):=by rw[Bool.eq_iff_iff];simp
  exact⟨.bool (!decide (a≤b)),by simp[binOp,Op.intCmp,e],.bool _⟩
 case geq=>simp only[arith,ile_eq,Option.some.injEq] at h;subst h;exact⟨.bool (decide (b≤a)),by simp[binOp,Op.intCmp],.bool _⟩
 all_goals
  simp only[arith,wr_eq,Option.some.injEq] at h;subst h
  refine⟨_,?_,.int _ _⟩
  simp only[binOp,ne_eq,not_true_eq_false,if_false,Op.intArith,Op.intBits]
  rfl
theorem bytesLt_eq:∀ (a b:List UInt8),bytesLt (a.map (·.toNat)) (b.map (·.toNat))=Op.bytesLess a b
 |[],[]=>rfl
 |_::_,[]=>rfl
 |[],_::_=>rfl
 | a :: x, b :: y => by
  simp only[List.map_cons,bytesLt,Op.bytesLess,bytesLt_eq x y]
  cases h1:Nat.ble (a.toNat+1) b.toNat with
  |true=>
   have:a<b:=by rw[UInt8.lt_iff_toNat_lt];have:=Nat.le_of_ble_eq_true h1;omega
   simp[this]
  |false=>
   have:¬ a<b:=by rw[UInt8.lt_iff_toNat_lt];intro h';rw[Nat.ble_eq_true_of_le h'] at h1;cases h1
   cases h2:Nat.beq a.toNat b.toNat with
   |true=>have:=Nat.eq_of_beq_eq_true h2;have e:a=b:=UInt8.toNat_inj.1 this;simp[e]
   |false=>have:=Nat.ne_of_beq_eq_false h2;have e:¬ a=b:=fun e=>this (by rw[e]);simp[e, *]
theorem map_beq (a b:List UInt8):(a.map (·.toNat) == b.map (·.toNat))=(a == b):=by
 rw[Bool.eq_iff_iff,beq_iff_eq,beq_iff_eq]
 constructor
 · intro h;exact (List.map_inj_right (fun x y h=>UInt8.toNat_inj.1 h)).1 h
 · intro h;rw[h]
theorem str_of_map {a:ByteArray} {l:List Nat} (h:l=a.data.toList.map (·.toNat)):VR V (.str l) (.string a):=h▸.str a
theorem strOp_run {op:BinOp} {a b:ByteArray} {t:Nat} {x:AV} (h:strOp op (a.data.toList.map (·.toNat)) (b.data.toList.map (·.toNat))=some x):∃ X,(binOp op t (.string a) (.string b)).run P W=.ok X W∧VR V x X:=by
 have ea:a.toList=a.data.toList:=ByteArray.toList_eq a
 have eb:b.toList=b.data.toList:=ByteArray.toList_eq b
 cases op<;>simp only[strOp,lbeq_eq,map_beq,bytesLt_eq,Option.some.injEq] at h
 case add=>
  split at h
  · rename_i hb
    have:=Nat.le_of_ble_eq_true hb
    simp only[Option.some.injEq] at h;subst h
    have hsz:¬ ((a.size+b.size:Nat):Int) > IntKind.i64.max:=by
     have e1:a.size=a.data.toList.length:=rfl
     have e2:b.size=b.data.toList.length:=rfl
     simp only[List.length_map] at this
     have e3:IntKind.i64.max=9223372036854775807:=by decide
     rw[e3];omega
    refine⟨.string (a++b),?_,str_of_map ?_⟩
    · simp only[binOp,Op.stringOp,Sem.run_ite,if_neg hsz,Sem.run_pure]
    · simp[ByteArray.data_append]
  · cases h
 all_goals first
  |(cases h;done)
  |(subst h;exact⟨_,by simp only[binOp,Op.stringOp,ea,eb,Sem.run_pure],.bool _⟩)
end
end Go.Eng

namespace Go.Eng
open Go
def noArith:Value→Value→Bool
 |.int _ _,.int _ _=>false|.float _ _,.float _ _=>false|.complex _ _ _,.complex _ _ _=>false|.string _,.string _=>false
 |_,_=>true
theorem binOp_eql_of (t:Nat) (A B:Value) (h:noArith A B=true):binOp .eql t A B=(do pure (.bool (← Op.equal t A B))):=by
 cases A<;>cases B<;>first|rfl|(exact (Bool.false_ne_true h).elim)
theorem binOp_neq_of (t:Nat) (A B:Value) (h:noArith A B=true):binOp .neq t A B=(do pure (.bool (!(← Op.equal t A B)))):=by
 cases A<;>cases B<;>first|rfl|(exact (Bool.false_ne_true h).elim)
theorem noArith_of {V:View} {a b:AV} {A B:Value} (ha:VR V a A) (hb:VR V b B) (h1:∀ k n k' n',a=.int k n→b=.int k' n'→False) (h2:∀ s s',a=.str s→b=.str s'→False):noArith A B=true:=by
 cases A<;>cases B<;>first
  |rfl
  |(cases ha;done)
  |(cases ha;cases hb;first|exact (h1 _ _ _ _ rfl rfl).elim|exact (h2 _ _ rfl rfl).elim)
end Go.Eng

namespace Go.Eng
open Go
section
variable {P:Program} {E:Env} {base:Nat} {V:View} {σ:Hp} {W:World} {τ:Tmps} {ρ:Operand→Value}
theorem eqvR_run (hE:EnvOK P E) {e D:Nat} {g:AV→AV→Option Bool} (hg:∀ x y A B r,g x y=some r→VR V x A→VR V y B→(Op.equalIn D e A B).run P W=.ok r W) {xs ys:List AV} {X Y:List Value} (hX:VRs V xs X) (hY:VRs V ys Y) :
  ∀ (n i:Nat) (r:Bool),eqvR E g e xs ys n i=some r →
  (forIn (m := Sem) (List.range' i n) ((none, ()) : Option Bool × Unit) (fun i _ => do
   let a ← Go.part e X.toArray (i * E.size e)
   let b ← Go.part e Y.toArray (i * E.size e)
   let c ← Op.equalIn D e a b
   if (!c)=true then pure (ForInStep.done (some false,())) else pure (ForInStep.yield (none,())))).run P W=.ok (match r with|true=>(none,())|false=>(some false,())) W
 |0,i,r,h=>by
  simp only[eqvR,Option.some.injEq] at h;subst h
  rfl
 | n + 1, i, r, h => by
  simp only[eqvR] at h
  split at h
  · rename_i x y hpx hpy
    obtain⟨x',hx1,hx2⟩:=part_run (P:=P) (W:=W) hE hX hpx
    obtain⟨y',hy1,hy2⟩:=part_run (P:=P) (W:=W) hE hY hpy
    rw[List.range'_succ,List.forIn_cons]
    split at h
    · rename_i he
      have ih:=eqvR_run hE hg hX hY n (i+1) r h
      simp only[Sem.run_bind,hx1,hy1,Result.andThen_ok,hg _ _ _ _ _ he hx2 hy2,Bool.not_true,Bool.false_eq_true,if_false,Sem.run_pure]
      exact ih
    · rename_i hne
      have hr:r=false:=by
       cases r
       · rfl
       · exact absurd h (by intro h;exact hne h)
      subst hr
      simp only[Sem.run_bind,hx1,hy1,Result.andThen_ok,hg _ _ _ _ _ h hx2 hy2,Bool.not_false,if_true,Sem.run_pure]
  · cases h
theorem eqvR_arr (hE:EnvOK P E) {t n e D:Nat} (hk:E.ty t=some (.arr n e)) {g:AV→AV→Option Bool} (hg:∀ x y A B r,g x y=some r→VR V x A→VR V y B→(Op.equalIn D e A B).run P W=.ok r W) {xs ys:List AV} {X Y:List Value} {r:Bool}
  (h:eqvR E g e xs ys n 0=some r) (hX:VRs V xs X) (hY:VRs V ys Y):(Op.equalIn (D+1) t (.agg X.toArray) (.agg Y.toArray)).run P W=.ok r W:=by
 have hK:=(hE.ty t _ hk).2
 have hs:=sizeOf_run hK.2 W
 have hr:=eqvR_run (P:=P) (W:=W) hE hg hX hY n 0 r h
 simp only[Op.equalIn,Sem.run_bind,under_run hK.1,Result.andThen_ok,hs]
 rw[Std.Legacy.Range.forIn_eq_forIn_range']
 simp only[Std.Legacy.Range.size,Nat.sub_zero,Nat.add_sub_cancel,Nat.div_one]
 rw[hr,Result.andThen_ok]
 cases r<;>rfl
set_option maxHeartbeats 1600000 in
theorem eqv_both (hE : EnvOK P E) : ∀ d : Nat,
  (∀ (t:Nat) (a b:AV) (A B:Value) (r:Bool) (D:Nat),d≤D→eqv E d t a b=some r→VR V a A→VR V b B→(Op.equalIn D t A B).run P W=.ok r W) ∧
  (∀ (F : List Field) (xs ys : List AV) (X Y : List Value) (r : Bool) (D : Nat), d ≤ D → eqvF E d (F.map fun f => (⟨f.offset, f.type, f.name != "_"⟩ : KF)) xs ys = some r → VRs V xs X → VRs V ys Y → (Op.eqFields D X.toArray Y.toArray F).run P W = .ok r W)
 |0=>by
  refine⟨fun t a b A B r D _ h=>by simp[eqv] at h,fun F xs ys X Y r D _ h hx hy=>?_⟩
  cases F with
  |nil=>simp[eqvF] at h;subst h;simp[Op.eqFields]
  |cons f F=>simp[eqvF] at h
 | d + 1 => by
  obtain⟨ih1,ih2⟩:=eqv_both hE d
  refine⟨fun t a b A B r D hD h ha hb=>?_,fun F xs ys X Y r D hD h hx hy=>?_⟩
  · obtain ⟨D, rfl⟩ : ∃ D', D = D' + 1 := ⟨D - 1, by omega⟩
    cases hk:E.ty t with
    |none=>simp[eqv,hk] at h
    | some k =>
     obtain⟨dd,hd,hkd⟩:=kdesc hE hk
     have hK:=(hE.ty t k hk).2
     cases k with
     |bool=>
      simp only[eqv,hk] at h
      split at h
      · split at h
        · simp only [Option.some.injEq] at h; subst h
          cases ha;cases hb
          exact run_equalIn_bool' W D t _ _ hK
        · cases h
      · cases h
     |int k=>
      simp only[eqv,hk] at h
      split at h
      · split at h
        · split at h
          · rename_i hkk
            simp only[Option.some.injEq,ieq_eq] at h;subst h
            cases ha;cases hb
            rw[ikb_eq hkk]
            exact run_equalIn_int W D t _ _ _ _ hK
          · cases h
        · cases h
      · cases h
     |str=>
      simp only[eqv,hk] at h
      split at h
      · split at h
        · simp only [Option.some.injEq] at h; subst h
          cases ha;cases hb
          rw[lbeq_eq,map_beq,← ByteArray.toList_eq,← ByteArray.toList_eq]
          exact run_equalIn_string W D t _ _ hK
        · cases h
      · cases h
     |struct fs=>
      simp only[eqv,hk] at h
      obtain⟨F,hu,rfl,_⟩:=hK
      split at h
      · split at h
        · split at h
          case h_2=>cases h
          rename_i hok
          have hst:=(hE.eqok t hok).1
          obtain⟨X,rfl,hX⟩:=ha.agg_inv
          obtain⟨Y,rfl,hY⟩:=hb.agg_inv
          have hF:P.fieldsOf t=F:=by simp[Program.fieldsOf,hu]
          rw[run_equalIn_struct W D t _ _ (by rw[hF];exact hu) hst,hF]
          exact ih2 F.toList _ _ X Y r D (by omega) h hX hY
        · cases h
      · cases h
     | ptr =>
      simp only[eqv,hk] at h
      obtain⟨e,hK⟩:=hK
      split at h
      all_goals first
       |(cases h;done)
       | (simp only [Option.some.injEq] at h; subst h
          cases ha<;>cases hb<;>(simp only[Op.equalIn,Sem.run_bind,under_run hK,Result.andThen_ok,Sem.run_pure];try rfl))
     | ifc b =>
      simp only[eqv,hk] at h
      obtain⟨ms,hK,_⟩:=hK
      split at h
      all_goals first
       |(cases h;done)
       | (simp only [Option.some.injEq] at h; subst h
          cases ha<;>cases hb<;>(simp only[Op.equalIn,Sem.run_bind,under_run hK,Result.andThen_ok,Sem.run_pure]))
     | fn =>
      simp only[eqv,hk] at h
      obtain⟨a1,a2,a3,hK⟩:=hK
      split at h
      all_goals first
       |(cases h;done)
       | (simp only [Option.some.injEq] at h; subst h
          cases ha<;>cases hb<;>(simp only[Op.equalIn,Sem.run_bind,under_run hK,Result.andThen_ok,Sem.run_pure]))
     | slice e =>
      simp only[eqv,hk] at h
      obtain⟨hK,_⟩:=hK
      split at h
      all_goals first
       |(cases h;done)
       | (simp only [Option.some.injEq] at h; subst h
          cases ha<;>cases hb<;>(simp only[Op.equalIn,Sem.run_bind,under_run hK,Result.andThen_ok,Sem.run_pure];try rfl))
     | map k e =>
      simp only[eqv,hk] at h
      obtain⟨hK,_⟩:=hK
      split at h
      all_goals first
       |(cases h;done)
       | (simp only [Option.some.injEq] at h; subst h
          cases ha<;>cases hb<;>(simp only[Op.equalIn,Sem.run_bind,under_run hK,Result.andThen_ok,Sem.run_pure];try rfl))
     |arr n e=>
      simp only[eqv,hk] at h
      split at h
      · split at h
        · split at h
          case h_2=>cases h
          obtain⟨X,rfl,hX⟩:=ha.agg_inv
          obtain⟨Y,rfl,hY⟩:=hb.agg_inv
          exact eqvR_arr hE hk (fun x y A B r hr hx hy=>ih1 e x y A B r D (by omega) hr hx hy) h hX hY
        · cases h
      · cases h
  · cases F with
    |nil=>simp[eqvF] at h;subst h;simp[Op.eqFields]
    | cons f F =>
     simp only[List.map_cons,eqvF] at h
     split at h
     · rename_i hn
       have : f.name = "_" := by simpa using hn
       simp only[Op.eqFields,this,ne_eq,not_true_eq_false,if_false]
       exact ih2 F xs ys X Y r D (by omega) h hx hy
     · rename_i hn
       have hn' : f.name ≠ "_" := by simpa using hn
       split at h
       · rename_i x y hpx hpy
         obtain⟨x',hx1,hx2⟩:=part_run (P:=P) (W:=W) hE hx hpx
         obtain⟨y',hy1,hy2⟩:=part_run (P:=P) (W:=W) hE hy hpy
         simp only[Op.eqFields,ne_eq,hn',not_false_eq_true,if_true,Sem.run_bind,hx1,hy1,Result.andThen_ok]
         split at h
         · rename_i he
           rw[ih1 _ _ _ _ _ _ D (by omega) he hx2 hy2]
           simp only[Result.andThen_ok,Bool.not_true,Bool.false_eq_true,if_false]
           exact ih2 F xs ys X Y r D (by omega) h hx hy
         · rename_i hne
           have hr:r=false:=by
            cases r
            · rfl
            · exact absurd h (by intro h;exact hne h)
           subst hr
           rw[ih1 _ _ _ _ _ _ D (by omega) h hx2 hy2]
           simp
       · cases h
theorem VR.not_nilIface {a:AV} (h:VR V a .nilIface):a=.nili:=by cases h;rfl
theorem eqGuard_plain (op:BinOp) (t:Nat) (x y:Operand) (A B:Value) (h1:A=.nilIface→B=.nilIface→(isConst x || isConst y)=true) (h2:∀ c c',A=.agg c→B=.agg c'→P.eqGuardType P.depth t=false) :
  (eqGuard op t x y A B).run P W=.ok () W:=by
 unfold eqGuard
 cases op
 case eql|neq=>
  simp only[Bool.not_true,Bool.false_eq_true,if_false]
  split
  · have := h1 rfl rfl
    clear h1 h2
    revert this
    cases x<;>cases y<;>intro this<;>first|rfl|exact (Bool.false_ne_true this).elim
  · have := h2 _ _ rfl rfl
    simp[this]
  · rfl
 all_goals rfl
theorem eqGuard_run (_:EnvOK P E) {op:BinOp} {t:Nat} {a b:AV} {A B:Value} (x y:Operand) (ha:VR V a A) (hb:VR V b B)
  (hn:a=.nili→b=.nili→(isConst x || isConst y)=true) (hs:∀ l l',a=.agg l→b=.agg l'→P.eqGuardType P.depth t=false) :
  (eqGuard op t x y A B).run P W=.ok () W:=by
 refine eqGuard_plain op t x y A B (fun e1 e2=>?_) (fun c c' e1 e2=>?_)
 · subst e1;subst e2;exact hn ha.not_nilIface hb.not_nilIface
 · subst e1;subst e2;cases ha;cases hb;exact hs _ _ rfl rfl
theorem eqv_agg_ok (hE:EnvOK P E) {d t:Nat} {l l':List AV} {r:Bool} (h:eqv E d t (.agg l) (.agg l')=some r):P.eqGuardType P.depth t=false:=by
 cases d with
 |zero=>simp[eqv] at h
 | succ d =>
  cases hk:E.ty t with
  |none=>simp[eqv,hk] at h
  | some k =>
   cases k<;>simp only[eqv,hk] at h
   case struct=>
    split at h
    · rename_i hok;exact (hE.eqok t hok).2
    · cases h
   case arr=>
    split at h
    · rename_i hok;exact (hE.eqok t hok).2
    · cases h
   all_goals cases h
theorem binop_run (hE : EnvOK P E) {op : BinOp} {t : Nat} {a b x : AV} {A B : Value} (ox oy : Operand) (ha : VR V a A) (hb : VR V b B) (h : binop E op t a b (isConst ox || isConst oy) = some x) :
  ∃ X,(do eqGuard op t ox oy A B;binOp op t A B:Sem Value).run P W=.ok X W∧VR V x X:=by
 unfold binop at h
 split at h
 · -- nil and nil
   split at h
   all_goals first
    |(cases h;done)
    | (rename_i hk hc
       obtain⟨dd,hd,ms,rfl,_⟩:=kdesc hE hk
       simp only[Option.some.injEq] at h;subst h
       cases ha;cases hb
       have hg:=fun o=>eqGuard_run (op:=o) (t:=t) (W:=W) (V:=V) hE ox oy .nili .nili (fun _ _=>hc) (by intro l l' e;cases e)
       have he:(Op.equal t .nilIface .nilIface).run P W=.ok true W:=by
        have hD:∀ D:Nat,(Op.equalIn (D+1) t .nilIface .nilIface).run P W=.ok true W:=fun D=>by
         simp only[Op.equalIn,Sem.run_bind,under_run hd,Result.andThen_ok,Sem.run_pure]
        exact hD 9999
       refine⟨_,?_,.bool _⟩
       rw[Sem.run_bind,hg,Result.andThen_ok]
       first
        |(rw[binOp_eql_of _ _ _ rfl,Sem.run_bind,he];rfl)
        |(rw[binOp_neq_of _ _ _ rfl,Sem.run_bind,he];rfl))
 · rename_i k n k' n'
   have hg:=eqGuard_run (op:=op) (t:=t) (W:=W) hE ox oy ha hb (by intro e;cases e) (by intro l l' e;cases e)
   cases ha;cases hb
   rw[Sem.run_bind,hg]
   split at h
   · split at h
     · rename_i hb
       rw[ile_eq] at hb
       have hb':¬ n'<0:=by have:=of_decide_eq_true hb;omega
       simp only[Option.some.injEq] at h;subst h
       exact⟨_,by simp[binOp,Op.shift,hb'],.int _ _⟩
     · cases h
   · split at h
     · rename_i hb
       rw[ile_eq] at hb
       have hb':¬ n'<0:=by have:=of_decide_eq_true hb;omega
       simp only[Option.some.injEq] at h;subst h
       exact⟨_,by simp[binOp,Op.shift,hb'],.int _ _⟩
     · cases h
   · rename_i h1 h2
     split at h
     · rename_i hk
       rw[← ikb_eq hk]
       exact arith_run (by intro e;exact h1 e) (by intro e;exact h2 e) h
     · cases h
 · have hg := eqGuard_run (op := op) (t := t) (W := W) hE ox oy ha hb (by intro e; cases e) (by intro l l' e; cases e)
   cases ha;cases hb
   rw[Sem.run_bind,hg]
   exact strOp_run h
 · rename_i h1 h2 h3
   have hg:∀ r,eqv E 40 t a b=some r→(eqGuard op t ox oy A B).run P W=.ok () W:=fun r hr=>
    eqGuard_run hE ox oy ha hb (by intro e1 e2;exact (h1 e1 e2).elim) (by intro l l' e1 e2;subst e1;subst e2;exact eqv_agg_ok hE hr)
   have hne:∀ r,eqv E 40 t a b=some r→(Op.equal t A B).run P W=.ok r W:=fun r hr=>
    (eqv_both (W:=W) (V:=V) hE 40).1 t a b A B r Op.maxDepth (by decide) hr ha hb
   have hbin:∀ r,eqv E 40 t a b=some r→(binOp .eql t A B).run P W=.ok (.bool r) W∧(binOp .neq t A B).run P W=.ok (.bool (!r)) W:=by
    intro r hr
    have:=hne r hr
    have hna:noArith A B=true:=noArith_of ha hb (fun k n k' n' e1 e2=>h2 k n k' n' e1 e2) (fun s s' e1 e2=>h3 s s' e1 e2)
    rw[binOp_eql_of _ _ _ hna,binOp_neq_of _ _ _ hna]
    constructor<;>(rw[Sem.run_bind,this];rfl)
   split at h
   · cases he : eqv E 40 t a b with
     |none=>simp[he] at h
     |some r=>
      simp only[he,Option.map_some,Option.some.injEq] at h;subst h
      exact⟨_,by rw[Sem.run_bind,hg r he];exact (hbin r he).1,.bool _⟩
   · cases he : eqv E 40 t a b with
     |none=>simp[he] at h
     |some r=>
      simp only[he,Option.map_some,Option.some.injEq] at h;subst h
      exact⟨_,by rw[Sem.run_bind,hg r he];exact (hbin r he).2,.bool _⟩
   · cases h
end
end Go.Eng


namespace Go.Eng
open Go
section
variable {P:Program} {E:Env} {base:Nat} {V:View} {σ:Hp} {W:World} {τ:Tmps} {ρ:Operand→Value}
variable {dst:Option Tmp} {ty:TypeId} {pos:String} {after:Array Edge} {guard:Option (Nat×Bool)}
theorem VR.ptr_inv {id off:Nat} {v:Value} (h:VR V (.ptr id off) v):∃ blk s,V.m id=some (blk,s)∧v=.pointer (some ⟨blk,s+off,none⟩):=by
 cases h with
 |ptr _ _ blk s hm=>exact⟨blk,s,hm,rfl⟩
theorem VR.sl_inv {id off len cl sz:Nat} {v:Value} (h:VR V (.sl id off len cl sz) v):∃ blk s cap A,V.m id=some (blk,s)∧(len≤cap∧cl≤cap)∧v=.slice (some A) len cap∧(cap=0∨(A=⟨blk,s+off,none⟩∧s+off+cap * sz≤V.N blk)):=by
 cases h with
 |sl _ _ _ _ _ blk s cap A hm hc ha=>exact⟨blk,s,cap,A,hm,hc,rfl,ha⟩
theorem VR.fsl_inv {id off len sz:Nat} {v:Value} (h:VR V (.fsl id off len sz) v):∃ blk s A,V.m id=some (blk,s)∧v=.slice (some A) len len∧(len=0∨(A=⟨blk,s+off,none⟩∧s+off+len * sz≤V.N blk)):=by
 cases h with
 |fsl _ _ _ _ blk s A hm ha=>exact⟨blk,s,A,hm,rfl,ha⟩
theorem VR.mp_inv {id:Nat} {v:Value} (h:VR V (.mp id) v):∃ blk,V.m id=some (blk,0)∧v=.map (some blk):=by
 cases h with
 |mp _ blk hm=>exact⟨blk,hm,rfl⟩
theorem map_toArray (a:Array Operand) (ρ:Operand→Value):(a.toList.map ρ).toArray=a.map ρ:=by rw[← Array.toList_map]
theorem HR.K_new (H:HR E base V σ W) (o:Nat) (v:Value) (h:V.K W.heap.size o=some v):False:=by
 have:=block_lt (H.cell _ _ _ h);omega
theorem push_cells (H:HR E base V σ W) (hb:base≤W.heap.size) (l:List AV) (C:Array Value) (t:TypeId) (N:Nat) (hN:C.size=N) (h:∃ C1 C2,C.toList=C1++C2∧VRs V l C1) :
  Stp E base V σ W (V.push σ.n W.heap.size N) (σ.push (.cells false l)) (W.alloc (.cells C t)):=by
 obtain⟨C1,C2,e,hl⟩:=h
 have hle:V.le (V.push σ.n W.heap.size N):=H.push_le N
 refine⟨hle,rfl,fun _ _ _ h=>.inl h,H.push hb _ _ _ ⟨C,t,heap_alloc_self _ _,⟨?_,by simp[View.push,hN]⟩,⟨C1,hl.mono hle,fun i hi=>?_⟩,fun o v hk=>(H.K_new o v hk).elim⟩,Fr.alloc _ _ _,fun b hO=>?_,push_mb,push_nm,Nat.le_succ _⟩
 · have : C.size = C1.length + C2.length := by rw [← Array.length_toList, e, List.length_append]
   have:=hl.1;omega
 · rw [← Array.getElem?_toList, e, List.getElem?_append_left (by simpa using hi)]
   simp
 · rcases Own.push hO with h | h
   · exact .inl h
   · exact .inr (by omega)
theorem push_ptr (off N:Nat):VR (V.push σ.n W.heap.size N) (.ptr σ.n off) (.pointer (some ⟨W.heap.size,off,none⟩)):=by
 have:=VR.ptr (V:=V.push σ.n W.heap.size N) σ.n off W.heap.size 0 (by simp[View.push])
 simpa using this
theorem push_sl (len cl cap sz N:Nat) (h:len≤cap∧cl≤cap) (hN:cap * sz≤N):VR (V.push σ.n W.heap.size N) (.sl σ.n 0 len cl sz) (.slice (some ⟨W.heap.size,0,none⟩) len cap):=by
 exact VR.sl (V:=V.push σ.n W.heap.size N) σ.n 0 len cl sz W.heap.size 0 cap _ (by simp[View.push]) h (.inr ⟨rfl,by simpa [View.push] using hN⟩)
variable (hE:EnvOK P E) (H:HR E base V σ W) (hb:base≤W.heap.size) (hρ:EvR V τ ρ)
include hE H hb hρ
theorem s_move (x:Operand) {r:Res} (h:op E τ σ (.move x)=some r):OpOK P E base V σ W ((execOp ρ ⟨dst,.move x,ty,pos,after,guard⟩).run P W) r:=by
 simp only[op,Option.map_eq_some_iff] at h
 obtain⟨a,ha,rfl⟩:=h
 exact .same H rfl (hρ x a ha)
theorem s_assign (x:Operand) {r:Res} (h:op E τ σ (.assign x)=some r):OpOK P E base V σ W ((execOp ρ ⟨dst,.assign x,ty,pos,after,guard⟩).run P W) r:=by
 simp only[op,Option.map_eq_some_iff] at h
 obtain⟨a,ha,rfl⟩:=h
 exact .same H rfl (hρ x a ha)
theorem s_pick (c x y:Operand) {r:Res} (h:op E τ σ (.pick c x y)=some r):OpOK P E base V σ W ((execOp ρ ⟨dst,.pick c x y,ty,pos,after,guard⟩).run P W) r:=by
 simp only[op] at h
 split at h
 · rename_i hc
   have:=(hρ c _ hc).bool_inv
   obtain⟨a,ha,rfl⟩:=Option.map_eq_some_iff.1 h
   exact .same H (by simp[execOp,this,asBool]) (hρ x a ha)
 · rename_i hc
   have:=(hρ c _ hc).bool_inv
   obtain⟨a,ha,rfl⟩:=Option.map_eq_some_iff.1 h
   exact .same H (by simp[execOp,this,asBool]) (hρ y a ha)
 · cases h
theorem s_alloc (t:TypeId) {r:Res} (h:op E τ σ (.alloc t)=some r):OpOK P E base V σ W ((execOp ρ ⟨dst,.alloc t,ty,pos,after,guard⟩).run P W) r:=by
 simp only[op] at h
 split at h
 · rename_i z hz
   simp only[Option.some.injEq] at h;subst h
   obtain⟨i,v,hi,hv,hc,_,_⟩:=hE.zero t z hz
   refine⟨_,_,_,?_,push_cells H hb z.cells v.cells t _ rfl ⟨v.cells.toList,[],by simp,(hc V).cells⟩,push_ptr 0 _⟩
   simp[execOp,Instr.alloc,zeroValue,typeInfo,hi,hv,newVar,newRow]
 · cases h
theorem s_box (t:TypeId) (x:Operand) {r:Res} (h:op E τ σ (.box t x)=some r):OpOK P E base V σ W ((execOp ρ ⟨dst,.box t x,ty,pos,after,guard⟩).run P W) r:=by
 simp only[op] at h
 split at h
 · rename_i z hz
   simp only[Option.some.injEq] at h;subst h
   refine⟨_,_,_,?_,push_cells H hb z.cells (ρ x).cells t _ rfl ⟨(ρ x).cells.toList,[],by simp,(hρ x z hz).cells⟩,push_ptr 0 _⟩
   simp[execOp,Instr.box,newVar,newRow]
 · cases h
theorem s_load (t:TypeId) (x:Operand) {r:Res} (h:op E τ σ (.load t x)=some r):OpOK P E base V σ W ((execOp ρ ⟨dst,.load t x,ty,pos,after,guard⟩).run P W) r:=by
 simp only[op] at h
 split at h
 · rename_i a ha
   obtain⟨y,hy,rfl⟩:=Option.map_eq_some_iff.1 h
   obtain⟨A,X,hA,hrun,hX⟩:=loadV_run hE H (hρ x a ha) hy
   exact .same H (by simp[execOp,Instr.loadAt,Instr.sureAddr,hA,hrun]) hX
 · cases h
theorem s_store (t:TypeId) (x y:Operand) {r:Res} (h:op E τ σ (.store t x y)=some r):OpOK P E base V σ W ((execOp ρ ⟨dst,.store t x y,ty,pos,after,guard⟩).run P W) r:=by
 simp only[op] at h
 split at h
 · rename_i a v ha hv
   obtain⟨σ',hs,rfl⟩:=Option.map_eq_some_iff.1 h
   unfold storeV at hs
   split at hs
   · rename_i id off
     split at hs
     · rename_i l hget
       split at hs
       · rename_i hag h1 h2 h3
         simp only[Option.some.injEq] at hs;subst hs
         have e1:=Nat.eq_of_beq_eq_true h1
         have e2:=Nat.le_of_ble_eq_true h2
         have hvv:=hρ y v hv
         obtain⟨blk,s,hm,_,_,_⟩:=H.obj _ _ hget (by simp)
         have hx:ρ x=.pointer (some ⟨blk,s+off,none⟩):=by
          obtain⟨blk',s',hm',e⟩:=(hρ x _ ha).ptr_inv
          rw[hm] at hm';simp only[Option.some.injEq,Prod.mk.injEq] at hm';obtain⟨rfl,rfl⟩:=hm';exact e
         obtain⟨W',hrun,hH,hF,hO⟩:=H.write (P:=P) hget hm hvv.cells e2 (oneAll_spec h3 hvv.cells)
         refine⟨V,W',?_,View.le.refl V,rfl,fun _ _ _ h=>.inl h,hH,hF,hO,fun id _ s h=>.inl ⟨id,s,h⟩,fun _ _ h=>.inl h,Nat.le_refl _⟩
         have hsz:(ρ y).cells.size=E.size t:=by rw[← e1,hvv.cells.1];simp
         simp[execOp,Instr.storeAt,Instr.sureAddr,hx,storeVar,sizeOf_run (has_of_agg hE hag),hsz,hrun]
       · cases hs
     · cases hs
   · cases hs
 · cases h
theorem s_nilCheck (x:Operand) {r:Res} (h:op E τ σ (.nilCheck x)=some r):OpOK P E base V σ W ((execOp ρ ⟨dst,.nilCheck x,ty,pos,after,guard⟩).run P W) r:=by
 simp only[op] at h
 split at h
 case h_6=>
  rename_i t v n hx
  split at h
  · rename_i f hm
    simp only[Option.some.injEq] at h;subst h
    have hv:=hρ x _ hx
    refine .same H ?_ hv
    generalize hX:ρ x=X at hv
    cases hv with
    |mv _ _ _ r hr=>
     have e:=(hE.meth _ _ _ hm r W).2
     simp[execOp,hX,Sem.run_bind,e]
  · cases h
 all_goals first
  |(cases h;done)
  | (rename_i hx
     simp only[Option.some.injEq] at h;subst h
     have hv:=hρ x _ hx
     generalize hX:ρ x=X at hv
     refine .same H ?_ hv
     cases hv<;>simp[execOp,hX])
theorem s_binOp (b:BinOp) (t:TypeId) (x y:Operand) (t':TypeId) {r:Res} (h:op E τ σ (.binOp b t x y t')=some r):OpOK P E base V σ W ((execOp ρ ⟨dst,.binOp b t x y t',ty,pos,after,guard⟩).run P W) r:=by
 simp only[op] at h
 split at h
 · rename_i v w hv hw
   obtain⟨z,hz,rfl⟩:=Option.map_eq_some_iff.1 h
   obtain⟨X,hX,hr⟩:=binop_run (P:=P) (W:=W) hE x y (hρ x v hv) (hρ y w hw) hz
   refine .same H ?_ hr
   show (do let y ← (do eqGuard b t x y (ρ x) (ρ y);binOp b t (ρ x) (ρ y):Sem Value);pure (Next.value y):Sem Next).run P W=_
   rw[Sem.run_bind,hX];rfl
 · cases h
theorem s_unOp (u:UnOp) (t:TypeId) (x:Operand) {r:Res} (h:op E τ σ (.unOp u t x)=some r):OpOK P E base V σ W ((execOp ρ ⟨dst,.unOp u t x,ty,pos,after,guard⟩).run P W) r:=by
 simp only[op] at h
 split at h
 · rename_i v hv
   obtain⟨z,hz,rfl⟩:=Option.map_eq_some_iff.1 h
   have hX:=hρ x v hv
   unfold unop at hz
   split at hz
   · simp only [Option.some.injEq, wr_eq] at hz; subst hz
     exact .same H (by simp only[execOp,hX.int_inv,Op.unary,Op.intArith];rfl) (.int _ _)
   · simp only [Option.some.injEq] at hz; subst hz
     exact .same H (by simp only[execOp,hX.bool_inv,Op.unary];rfl) (.bool _)
   · simp only [Option.some.injEq] at hz; subst hz
     exact .same H (by simp only[execOp,hX.int_inv,Op.unary,Op.intBits];rfl) (.int _ _)
   · cases hz
 · cases h
theorem s_makeInterface (t:TypeId) (x:Operand) {r:Res} (h:op E τ σ (.makeInterface t x)=some r):OpOK P E base V σ W ((execOp ρ ⟨dst,.makeInterface t x,ty,pos,after,guard⟩).run P W) r:=by
 simp only[op] at h
 split at h
 · cases h
 · rename_i k v hn hk hv
   simp only[Option.some.injEq] at h;subst h
   obtain⟨d,hd,hkd⟩:=kdesc hE hk
   refine .same H ?_ (.ifc _ _ _ (hρ x v hv))
   have hni:∀ ms,d≠.interface ms:=by
    intro ms e;subst e
    cases k<;>simp only[ktDesc] at hkd
    case ifc b=>exact hn b rfl
    all_goals first|(cases hkd;done)|(obtain⟨_,e⟩:=hkd;cases e;done)|(obtain⟨_,_,_,e⟩:=hkd;cases e;done)|(obtain⟨_,e,_⟩:=hkd;cases e;done)
   simp only[execOp,Instr.makeInterface,Sem.run_bind,under_run hd,Result.andThen_ok]
   cases d<;>first|rfl|exact absurd rfl (hni _)
 · cases h
theorem s_makeFunc (f:Nat) (a b:Array Operand) {r:Res} (h:op E τ σ (.makeFunc (.func f) a b)=some r):OpOK P E base V σ W ((execOp ρ ⟨dst,.makeFunc (.func f) a b,ty,pos,after,guard⟩).run P W) r:=by
 simp only[op] at h
 split at h
 · rename_i va vb ha hbb
   simp only[Option.some.injEq] at h;subst h
   have h1:=evs_spec hρ _ _ ha
   have h2:=evs_spec hρ _ _ hbb
   refine .same H (v':=.func (.func f) (a.toList.map ρ).toArray (b.toList.map ρ).toArray) ?_ (.fn f va vb _ _ h1.1 h2.1 h1.2 h2.2)
   rw[map_toArray,map_toArray]
   simp[execOp,Instr.makeFunc]
 · cases h
theorem s_makeMeth (n:String) (a b:Array Operand) {r:Res} (h:op E τ σ (.makeFunc (.method n) a b)=some r):OpOK P E base V σ W ((execOp ρ ⟨dst,.makeFunc (.method n) a b,ty,pos,after,guard⟩).run P W) r:=by
 simp only[op] at h
 split at h
 · rename_i t v ha hbb
   simp only[Option.some.injEq] at h;subst h
   have h1:=evs_spec hρ _ _ ha
   have h2:=evs_spec hρ _ _ hbb
   obtain⟨l1,k1⟩:=h1
   have l2:=h2.1
   obtain⟨x,hx⟩:∃ x,a.toList=[x]:=by
    match a.toList,l1 with
    |[x],_=>exact⟨x,rfl⟩
   have hb0:b.toList=[]:=by
    match b.toList,l2 with
    |[],_=>rfl
   have hr:=k1 0 (by simp) (by simp[hx])
   simp only[hx,List.map_cons,List.getElem_cons_zero] at hr
   generalize hX:ρ x=X at hr
   cases hr with
   |ifc _ _ r hr=>
    refine .same H ?_ (.mv t v n r hr)
    rw[show a=#[x] from Array.ext' (by simp[hx]),show b=#[] from Array.ext' (by simp[hb0])]
    simp[execOp,Instr.makeFunc,hX]
 · cases h
theorem s_extract (x:Operand) (i:Nat) {r:Res} (h:op E τ σ (.extract x i)=some r):OpOK P E base V σ W ((execOp ρ ⟨dst,.extract x i,ty,pos,after,guard⟩).run P W) r:=by
 simp only[op] at h
 split at h
 · rename_i l hl
   obtain⟨z,hz,rfl⟩:=Option.map_eq_some_iff.1 h
   obtain⟨A,hA,hr⟩:=(hρ x _ hl).tup_inv
   obtain⟨X,hX,hv⟩:=hr.get hz
   exact .same H (by simp[execOp,Instr.extract,hA,hX]) hv
 · cases h
theorem s_field (t:TypeId) (x:Operand) (i:Nat) {r:Res} (h:op E τ σ (.field t x i)=some r):OpOK P E base V σ W ((execOp ρ ⟨dst,.field t x i,ty,pos,after,guard⟩).run P W) r:=by
 simp only[op] at h
 split at h
 · rename_i fs cs hk hx
   split at h
   · rename_i f hf
     obtain⟨z,hz,rfl⟩:=Option.map_eq_some_iff.1 h
     obtain⟨A,hA,hr⟩:=(hρ x _ hx).agg_inv
     obtain⟨F,hu,rfl,_⟩:=(hE.ty t _ hk).2
     obtain ⟨f', hf', rfl⟩ : ∃ f', F[i]? = some f' ∧ (⟨f'.offset, f'.type, f'.name != "_"⟩ : KF) = f := by
      simp only[List.getElem?_map,Option.map_eq_some_iff,Array.getElem?_toList] at hf;exact hf
     obtain⟨X,hX,hv⟩:=part_run (P:=P) (W:=W) hE hr hz
     exact .same H (by simp[execOp,Instr.field,under_run hu,hf',hA,asAgg,hX]) hv
   · cases h
 · cases h
end
end Go.Eng


namespace Go.Eng
open Go
section
variable {P:Program} {E:Env} {base:Nat} {V:View} {σ:Hp} {W:World} {τ:Tmps} {ρ:Operand→Value}
variable {dst:Option Tmp} {ty:TypeId} {pos:String} {after:Array Edge} {guard:Option (Nat×Bool)}
theorem idx_spec {j:Int} {len n:Nat} (h:idx j len=some n):j=(n:Int)∧n<len:=by
 unfold idx at h
 split at h
 · split at h
   · rename_i m hb
     simp only[Option.some.injEq] at h;subst h
     have:=Nat.le_of_ble_eq_true hb
     exact⟨rfl,by omega⟩
   · cases h
 · cases h
theorem bytes_get (b:ByteArray) (j n:Nat) (h:(b.data.toList.map (·.toNat))[j]?=some n):∃ hj:j<b.size,(b[j]'hj).toNat=n:=by
 simp only[List.getElem?_map,Option.map_eq_some_iff] at h
 obtain⟨u,hu,rfl⟩:=h
 obtain⟨hj,e⟩:=List.getElem?_eq_some_iff.1 hu
 exact⟨hj,by rw[← e];rfl⟩
theorem VR.csl_inv {cells:List AV} {len:Nat} {v:Value} (h:VR V (.csl cells len) v):∃ blk o cap A,∃ f:Nat→Value,(∀ i,i<cells.length→V.K blk (o+i)=some (f i))∧(∀ i (hi:i<cells.length),VR V.bare cells[i] (f i))∧len≤cap∧v=.slice (some A) len cap∧(cap=0∨A=⟨blk,o,none⟩):=by
 cases h with
 |csl _ _ blk o cap A f hk hv hc ha=>exact⟨blk,o,cap,A,f,hk,hv,hc,rfl,ha⟩
theorem VR.gp_inv {g off:Nat} {v:Value} (h:VR V (.gp g off) v):v=.pointer (some ⟨g,off,none⟩):=by cases h;rfl
theorem VR.cp_inv {cells:List AV} {off:Nat} {v:Value} (h:VR V (.cp cells off) v):∃ blk o,v=.pointer (some ⟨blk,o+off,none⟩)∧∀ off',VR V (.cp cells off') (.pointer (some ⟨blk,o+off',none⟩)):=by
 cases h with
 |cp _ _ blk o f hk hv=>exact⟨blk,o,rfl,fun off'=>.cp _ _ _ _ f hk hv⟩
theorem kf_get {F : Array Field} {i : Nat} {f : KF} (h : (F.toList.map (fun f => (⟨f.offset, f.type, f.name != "_"⟩ : KF)))[i]? = some f) : ∃ f' : Field, F[i]? = some f' ∧ f.off = f'.offset ∧ f.type = f'.type := by
 simp only[List.getElem?_map,Option.map_eq_some_iff,Array.getElem?_toList] at h
 obtain⟨f',h1,rfl⟩:=h
 exact⟨f',h1,rfl,rfl⟩
variable (hE:EnvOK P E) (H:HR E base V σ W) (hb:base≤W.heap.size) (hρ:EvR V τ ρ)
include hE H hb hρ
theorem s_fieldAddr (t:TypeId) (x:Operand) (i:Nat) {r:Res} (h:op E τ σ (.fieldAddr t x i)=some r):OpOK P E base V σ W ((execOp ρ ⟨dst,.fieldAddr t x i,ty,pos,after,guard⟩).run P W) r:=by
 simp only[op] at h
 split at h
 · rename_i fs hk
   split at h
   · rename_i f a hf ha
     obtain⟨F,hu,rfl,hhas⟩:=(hE.ty t _ hk).2
     obtain⟨f',hf',e1,e2⟩:=kf_get hf
     have hsz:(sizeOf f'.type).run P W=.ok (E.size f.type) W:=by
      rw[e2];exact sizeOf_run (hhas f' (by rw[← Array.getElem?_toList] at hf';exact List.mem_of_getElem? hf')) W
     have main:∀ (A:Addr),A.spot=none→Nat.beq (E.size f.type) 0=false→ρ x=.pointer (some A)→(execOp ρ ⟨dst,.fieldAddr t x i,ty,pos,after,guard⟩).run P W=.ok (.value (.pointer (some ⟨A.block,A.off+f.off,none⟩))) W:=by
      intro A hs hz hx
      have hz':¬ E.size f.type=0:=Nat.ne_of_beq_eq_false hz
      obtain⟨ab,ao,az⟩:=A
      simp only at hs;subst hs
      simp[execOp,Instr.fieldAt,under_run hu,hf',Instr.sureAddr,hx,Go.fieldPlace,hsz,hz',addr_add,e1]
     have hv:=hρ x _ ha
     split at h
     · rename_i id off hz
       simp only[Option.some.injEq] at h;subst h
       obtain⟨blk,s,hm,hX⟩:=hv.ptr_inv
       have:=VR.ptr (V:=V) id (off+f.off) _ _ hm
       rw[← Nat.add_assoc] at this
       exact .same H (main _ rfl hz hX) this
     · rename_i g off hz
       simp only[Option.some.injEq] at h;subst h
       exact .same H (main _ rfl hz hv.gp_inv) (.gp _ _)
     · rename_i l off hz
       simp only[Option.some.injEq] at h;subst h
       obtain⟨blk,o,hX,hall⟩:=hv.cp_inv
       have:=hall (off+f.off)
       rw[← Nat.add_assoc] at this
       exact .same H (main _ rfl hz hX) this
     · cases h
   · cases h
 · cases h
omit hE H hb hρ in
theorem inB_spec {j:Int} {n:Nat} (h:inB j n=true):∃ m:Nat,j=(m:Int)∧m<n:=by
 cases j with
 |ofNat m=>exact⟨m,rfl,Nat.le_of_ble_eq_true h⟩
 |negSucc m=>cases h
theorem elem_size {t e:Nat} {k:KT} (hk:E.ty t=some k) (hke:k=.slice e∨∃ n,k=.arr n e):(sizeOf e).run P W=.ok (E.size e) W:=by
 have hK:=(hE.ty t k hk).2
 rcases hke with rfl|⟨n,rfl⟩
 · exact sizeOf_run hK.2.1 W
 · exact sizeOf_run hK.2 W
theorem s_indexAddr (t : TypeId) (x y : Operand) {r : Res} (h : op E τ σ (.indexAddr t x y) = some r) : OpOK P E base V σ W ((execOp ρ ⟨dst, .indexAddr t x y, ty, pos, after, guard⟩).run P W) r := by
 simp only[op] at h
 split at h
 · rename_i e id off len cl sz k j hk hx hy
   obtain⟨n,hn,rfl⟩:=Option.map_eq_some_iff.1 h
   obtain⟨rfl,hlt⟩:=idx_spec hn
   obtain⟨blk,s,cap,A,hm,hc,hX,hA⟩:=(hρ x _ hx).sl_inv
   have hA':A=⟨blk,s+off,none⟩:=(hA.resolve_left (by omega)).1
   subst hA'
   have hu:=(hE.ty t _ hk).2.1
   have hs:=elem_size (W:=W) hE H hb hρ hk (.inl rfl)
   have:=VR.ptr (V:=V) id (off+n * E.size e) _ _ hm
   rw[← Nat.add_assoc] at this
   refine .same H ?_ this
   have hlt':((n:Int))<(len:Int):=by omega
   simp[execOp,Instr.indexAt,asIntOf,(hρ y _ hy).int_inv,under_run hu,hX,hs,addr_add,hlt]
 · rename_i e cells len k j hk hx hy
   obtain⟨n,hn,rfl⟩:=Option.map_eq_some_iff.1 h
   obtain⟨rfl,hlt⟩:=idx_spec hn
   obtain⟨blk,o,cap,A,f,hkk,hvv,hc,hX,hA⟩:=(hρ x _ hx).csl_inv
   have hA':A=⟨blk,o,none⟩:=hA.resolve_left (by omega)
   subst hA'
   have hu:=(hE.ty t _ hk).2.1
   have hs:=elem_size (W:=W) hE H hb hρ hk (.inl rfl)
   refine .same H ?_ (VR.cp cells (n * E.size e) blk o f hkk hvv)
   simp[execOp,Instr.indexAt,asIntOf,(hρ y _ hy).int_inv,under_run hu,hX,hs,addr_add,hlt]
 · rename_i e ty' nl l k j hk hx hy
   split at h
   · rename_i hj hsz
     have hsz':=Nat.eq_of_beq_eq_true hsz
     simp only[Option.some.injEq] at h;subst h
     obtain⟨n,rfl,hlt⟩:=inB_spec hj
     have hvs:=(hρ x _ hx).vs_inv
     rcases hvs with ⟨_,e0,_⟩|⟨_,hcsl⟩
     · subst e0;exact absurd hlt (Nat.not_lt_zero _)
     obtain⟨blk,o,cap,A,f,hkk,hvv,hc,hX,hA⟩:=hcsl.csl_inv
     have hA':A=⟨blk,o,none⟩:=hA.resolve_left (by omega)
     subst hA'
     have hu:=(hE.ty t _ hk).2.1
     have hs:=elem_size (W:=W) hE H hb hρ hk (.inl rfl)
     have hn:((n:Int)).toNat=n:=rfl
     have hfl:=flat_length ty' l
     have hin:∀ i,i<(ty'.cells (l.getD n ty'.dflt)).length→n * ty'.size+i<(flat ty' l).length:=by
      intro i hi
      rw[Ty.cells_length] at hi
      rw[hfl]
      have:=Nat.mul_le_mul_right ty'.size (show n+1≤l.length by omega)
      rw[Nat.succ_mul] at this
      omega
     refine .same H (v:=.cp (ty'.cells (l.getD n ty'.dflt)) 0) ?_ (VR.cp (ty'.cells (l.getD n ty'.dflt)) 0 blk (o+n * E.size e) (fun i=>f (n * ty'.size+i)) (fun i hi=>?_) (fun i hi=>?_))
     · simp[execOp,Instr.indexAt,asIntOf,(hρ y _ hy).int_inv,under_run hu,hX,hs,addr_add,hlt]
     · rw[← hsz',Nat.add_assoc];exact hkk _ (hin i hi)
     · have h1 := hvv _ (hin i hi)
       have h2:=flat_get ty' l n i hlt (by rw[← Ty.cells_length ty' (l.getD n ty'.dflt)];exact hi)
       have h3:(flat ty' l)[n * ty'.size+i]'(hin i hi)=(ty'.cells (l.getD n ty'.dflt))[i]:=by
        rw[List.getElem?_eq_getElem (hin i hi),List.getElem?_eq_getElem hi] at h2
        exact Option.some.inj h2
       rw[h3] at h1
       exact h1
   · cases h
 · rename_i len e id off k j hk hx hy
   obtain⟨n,hn,rfl⟩:=Option.map_eq_some_iff.1 h
   obtain⟨rfl,hlt⟩:=idx_spec hn
   obtain⟨blk,s,hm,hX⟩:=(hρ x _ hx).ptr_inv
   have hu:=(hE.ty t _ hk).2.1
   have hs:=elem_size (W:=W) hE H hb hρ hk (.inr ⟨_,rfl⟩)
   have:=VR.ptr (V:=V) id (off+n * E.size e) _ _ hm
   rw[← Nat.add_assoc] at this
   refine .same H ?_ this
   simp[execOp,Instr.indexAt,asIntOf,(hρ y _ hy).int_inv,under_run hu,hX,Instr.sureAddr,hs,addr_add,hlt]
 · rename_i len e g off k j hk hx hy
   obtain⟨n,hn,rfl⟩:=Option.map_eq_some_iff.1 h
   obtain⟨rfl,hlt⟩:=idx_spec hn
   have hX:=(hρ x _ hx).gp_inv
   have hu:=(hE.ty t _ hk).2.1
   have hs:=elem_size (W:=W) hE H hb hρ hk (.inr ⟨_,rfl⟩)
   refine .same H ?_ (.gp _ _)
   simp[execOp,Instr.indexAt,asIntOf,(hρ y _ hy).int_inv,under_run hu,hX,Instr.sureAddr,hs,addr_add,hlt]
 · rename_i len e l off k j hk hx hy
   obtain⟨n,hn,rfl⟩:=Option.map_eq_some_iff.1 h
   obtain⟨rfl,hlt⟩:=idx_spec hn
   obtain⟨blk,o,hX,hcp⟩:=(hρ x _ hx).cp_inv
   have hu:=(hE.ty t _ hk).2.1
   have hs:=elem_size (W:=W) hE H hb hρ hk (.inr ⟨_,rfl⟩)
   have:=hcp (off+n * E.size e)
   rw[← Nat.add_assoc] at this
   refine .same H ?_ this
   simp[execOp,Instr.indexAt,asIntOf,(hρ y _ hy).int_inv,under_run hu,hX,Instr.sureAddr,hs,addr_add,hlt]
 · cases h
theorem s_index (t:TypeId) (x y:Operand) {r:Res} (h:op E τ σ (.index t x y)=some r):OpOK P E base V σ W ((execOp ρ ⟨dst,.index t x y,ty,pos,after,guard⟩).run P W) r:=by
 simp only[op] at h
 split at h
 · rename_i len e cs k j hk hx hy
   split at h
   · rename_i n hn
     obtain⟨z,hz,rfl⟩:=Option.map_eq_some_iff.1 h
     obtain⟨rfl,hlt⟩:=idx_spec hn
     obtain⟨C,hC,hv⟩:=(hρ x _ hx).agg_inv
     have hu:=(hE.ty t _ hk).2.1
     have hs:=elem_size (W:=W) hE H hb hρ hk (.inr ⟨_,rfl⟩)
     obtain⟨X,hX,hvX⟩:=part_run (P:=P) (W:=W) hE hv hz
     refine .same H ?_ hvX
     simp[execOp,Instr.index,asIntOf,(hρ y _ hy).int_inv,under_run hu,hC,hs,hlt,hX]
   · cases h
 · rename_i s k j hk hx hy
   obtain⟨n,hn,rfl⟩:=Option.map_eq_some_iff.1 h
   obtain⟨b,hB,rfl⟩:=(hρ x _ hx).str_inv
   have hu:P.underlying t=some .string:=(hE.ty t _ hk).2
   obtain⟨hj,e⟩:=bytes_get b j n hn
   refine .same H (v':=.int .u8 (Int.ofNat n)) ?_ (.int _ _)
   have hbj:b[j]?=some b[j]:=getElem?_pos b j hj
   simp[execOp,Instr.index,asIntOf,(hρ y _ hy).int_inv,under_run hu,hB,hbj,e]
 · cases h
end
end Go.Eng


namespace Go.Eng
open Go
section
variable {P:Program} {E:Env} {base:Nat} {V:View} {σ:Hp} {W:World} {τ:Tmps} {ρ:Operand→Value}
variable {dst:Option Tmp} {ty:TypeId} {pos:String} {after:Array Edge} {guard:Option (Nat×Bool)}
theorem optA_spec (hρ:EvR V τ ρ) {o:Option Operand} {r:Option AV} (h:optA τ o=some r):(o=none∧r=none)∨∃ x a,o=some x∧r=some a∧VR V a (ρ x):=by
 cases o with
 |none=>simp only[optA,Option.some.injEq] at h;exact .inl ⟨rfl,h.symm⟩
 |some x=>
  simp only[optA,Option.map_eq_some_iff] at h
  obtain⟨a,ha,rfl⟩:=h
  exact .inr ⟨x,a,rfl,rfl,hρ x a ha⟩
theorem bound_run (hρ:EvR V τ ρ) {o:Option Operand} {r:Option AV} {dflt most most' n:Nat} {code:BoundsCode} (ho:optA τ o=some r) (h:bound r dflt most=some n) (hm:most≤most') :
  ((match o.map ρ with|some v=>Instr.sliceBound v most' code|none=>(pure dflt:Sem Nat)).run P W=.ok n W)∧(r=none∧n=dflt∨n≤most):=by
 rcases optA_spec hρ ho with ⟨rfl,rfl⟩|⟨x,a,rfl,rfl,hv⟩
 · simp only[bound,Option.some.injEq] at h;subst h;exact⟨rfl,.inl ⟨rfl,rfl⟩⟩
 · cases a<;>simp only[bound] at h<;>first
    |(cases h;done)
    | (obtain ⟨rfl, hlt⟩ := idx_spec h
       refine⟨?_,.inr (by omega)⟩
       have hle:((n:Int))≤(most':Int):=by omega
       simp[Instr.sliceBound,asIntOf,hv.int_inv,hle])
theorem sliceBounds_run (hρ:EvR V τ ρ) {lo hi:Option Operand} {rl rh:Option AV} {len cap l h:Nat} (b:Bool) (most:Nat) (hcap:most≤cap) (hlen:len≤most) (e1:optA τ lo=some rl) (e2:optA τ hi=some rh) (hh:bound rh len most=some h) (hl:bound rl 0 h=some l) :
  (Instr.sliceBounds b len cap (lo.map ρ) (hi.map ρ) none).run P W=.ok (l,h,cap) W∧l≤h∧h≤most:=by
 have h1:=bound_run (P:=P) (W:=W) (code:=if b then .sliceAcap else .sliceAlen) hρ e2 hh hcap
 have h2:=bound_run (P:=P) (W:=W) (code:=.sliceB) hρ e1 hl (Nat.le_refl h)
 refine⟨?_,?_,?_⟩
 · have h1' := h1.1
   have h2':=h2.1
   unfold Instr.sliceBounds
   cases lo<;>cases hi<;>simp only[Option.map_none,Option.map_some] at h1' h2'⊢
   · simp only[Sem.run_pure,Result.ok.injEq,and_true] at h1' h2';subst h1';subst h2';rfl
   · simp only [Sem.run_pure, Result.ok.injEq, and_true] at h2'; subst h2'
     simp only[Sem.run_bind,Sem.run_pure,Result.andThen_ok,h1']
   · simp only [Sem.run_pure, Result.ok.injEq, and_true] at h1'; subst h1'
     simp only[Sem.run_bind,Sem.run_pure,Result.andThen_ok,Option.isSome_none,Bool.false_eq_true,if_false,h2']
   · simp only[Sem.run_bind,Sem.run_pure,Result.andThen_ok,Option.isSome_none,Bool.false_eq_true,if_false,h1',h2']
 · rcases h2.2 with ⟨_,rfl⟩|h'<;>omega
 · rcases h1.2 with ⟨_,rfl⟩|h'<;>omega
theorem extract_eq (b:ByteArray) (l h:Nat) (hh:h≤b.size):((b.extract l h).data.toList.map (·.toNat))=((b.data.toList.map (·.toNat)).drop l).take (h-l):=by
 rw[ByteArray.data_extract,Array.toList_extract]
 simp[List.extract,List.map_take,List.map_drop]
theorem VR.nils_inv {v:Value} (h:VR V .nils v):v=.slice none 0 0:=by cases h;rfl
variable (hE:EnvOK P E) (H:HR E base V σ W) (hb:base≤W.heap.size) (hρ:EvR V τ ρ)
include hE H hb hρ
theorem s_slice (t : TypeId) (x : Operand) (lo hi : Option Operand) {r : Res} (h : op E τ σ (.slice t x lo hi none) = some r) : OpOK P E base V σ W ((execOp ρ ⟨dst, .slice t x lo hi none, ty, pos, after, guard⟩).run P W) r := by
 simp only[op] at h
 split at h
 · rename_i a rl rh ha hl hh
   obtain⟨z,hz,rfl⟩:=Option.map_eq_some_iff.1 h
   have hv:=hρ x _ ha
   unfold sliceV at hz
   split at hz
   · rename_i s hk
     have hu:P.underlying t=some .string:=(hE.ty t _ hk).2
     obtain⟨b,hB,rfl⟩:=hv.str_inv
     split at hz
     · rename_i hN hbh
       split at hz
       · rename_i lN hbl
         simp only[Option.some.injEq] at hz;subst hz
         have hlen:(b.data.toList.map (·.toNat)).length=b.size:=by simp only[List.length_map];rfl
         rw[hlen] at hbh
         obtain⟨hrun,h1,h2⟩:=sliceBounds_run (P:=P) (W:=W) hρ false b.size (Nat.le_refl _) (Nat.le_refl _) hl hh hbh hbl
         refine .same H (v':=.string (b.extract lN hN)) ?_ (str_of_map (extract_eq b lN hN h2).symm)
         simp[execOp,Instr.sliceAt,Instr.slice,under_run hu,hB,hrun]
       · cases hz
     · cases hz
   · rename_i e id off len cl sz hk
     have hu:=(hE.ty t _ hk).2.1
     have hs:=elem_size (W:=W) hE H hb hρ hk (.inl rfl)
     obtain⟨blk,s,cap,A,hm,hc,hX,hA⟩:=hv.sl_inv
     split at hz
     · rename_i hN hbh
       split at hz
       · rename_i lN hbl
         split at hz
         · rename_i hsz
           have hsz':=Nat.eq_of_beq_eq_true hsz;subst hsz'
           simp only[Option.some.injEq] at hz;subst hz
           obtain⟨hrun,h1,h2⟩:=sliceBounds_run (P:=P) (W:=W) hρ true len hc.1 (Nat.le_refl _) hl hh hbh hbl
           by_cases hcl:lN=cap
           · subst hcl
             refine .same H (v':=.slice (some A) (hN-lN) (lN-lN)) ?_ (.sl _ _ _ _ _ _ _ _ A hm (by omega) (.inl (by omega)))
             simp[execOp,Instr.sliceAt,Instr.slice,under_run hu,hX,hrun,hs]
           · have hcl' : ¬ cap = lN := fun e => hcl e.symm
             obtain⟨rfl,hNb⟩:=hA.resolve_left (by omega)
             refine .same H (v':=.slice (some ⟨blk,s+off+lN * E.size e,none⟩) (hN-lN) (cap-lN)) ?_ (.sl _ _ _ _ _ _ _ _ _ hm (by omega) (.inr ⟨by rw[Nat.add_assoc],?_⟩))
             · simp[execOp,Instr.sliceAt,Instr.slice,under_run hu,hX,hrun,hs,hcl',addr_add]
             · rw [Nat.sub_mul]
               have:=Nat.mul_le_mul_right (E.size e) (show lN≤cap by omega)
               omega
         · cases hz
       · cases hz
     · cases hz
   · rename_i e cells len hk
     have hu:=(hE.ty t _ hk).2.1
     have hs:=elem_size (W:=W) hE H hb hρ hk (.inl rfl)
     obtain⟨blk,o,cap,A,f,hkk,hvv,hc,hX,hA⟩:=hv.csl_inv
     split at hz
     · rename_i hN hbh
       split at hz
       · rename_i lN hbl
         split at hz
         · rename_i hle
           have hle':=Nat.le_of_ble_eq_true hle
           simp only[Option.some.injEq] at hz;subst hz
           obtain⟨hrun,h1,h2⟩:=sliceBounds_run (P:=P) (W:=W) hρ true len hc (Nat.le_refl _) hl hh hbh hbl
           have new:∀ i,i<(cells.drop (lN * E.size e)).length→V.K blk (o+lN * E.size e+i)=some (f (lN * E.size e+i)):=by
            intro i hi
            rw[List.length_drop] at hi
            rw[Nat.add_assoc];exact hkk _ (by omega)
           have newv:∀ i (hi:i<(cells.drop (lN * E.size e)).length),VR V.bare (cells.drop (lN * E.size e))[i] (f (lN * E.size e+i)):=by
            intro i hi
            rw[List.getElem_drop];exact hvv _ _
           by_cases hcl:lN=cap
           · subst hcl
             refine .same H (v':=.slice (some A) (hN-lN) (lN-lN)) ?_ (.csl _ _ blk _ _ A _ new newv (by omega) (.inl (by omega)))
             simp[execOp,Instr.sliceAt,Instr.slice,under_run hu,hX,hrun,hs]
           · have hcl' : ¬ cap = lN := fun e => hcl e.symm
             have hA':A=⟨blk,o,none⟩:=hA.resolve_left (by omega)
             subst hA'
             refine .same H (v':=.slice (some ⟨blk,o+lN * E.size e,none⟩) (hN-lN) (cap-lN)) ?_ (.csl _ _ blk _ _ _ _ new newv (by omega) (.inr rfl))
             simp[execOp,Instr.sliceAt,Instr.slice,under_run hu,hX,hrun,hs,hcl',addr_add]
         · cases hz
       · cases hz
     · cases hz
   · rename_i e hk
     have hu:=(hE.ty t _ hk).2.1
     have hs:=elem_size (W:=W) hE H hb hρ hk (.inl rfl)
     have hX:ρ x=.slice none 0 0:=hv.nils_inv
     split at hz
     · rename_i hN hbh
       split at hz
       · rename_i lN hbl
         simp only[Option.some.injEq] at hz;subst hz
         obtain⟨hrun,h1,h2⟩:=sliceBounds_run (P:=P) (W:=W) hρ true 0 (Nat.le_refl _) (Nat.le_refl _) hl hh hbh hbl
         have:hN=0:=by omega
         subst this
         have:lN=0:=by omega
         subst this
         refine .same H (v':=.slice none 0 0) ?_ .nils
         simp[execOp,Instr.sliceAt,Instr.slice,under_run hu,hX,hrun,hs]
       · cases hz
     · cases hz
   · rename_i n e id off hk
     have hu:=(hE.ty t _ hk).2.1
     have hs:=elem_size (W:=W) hE H hb hρ hk (.inr ⟨_,rfl⟩)
     obtain⟨blk,s,hm,hX⟩:=hv.ptr_inv
     split at hz
     · rename_i hN hbh
       split at hz
       · rename_i lN hbl
         split at hz
         · rename_i ro cl hget
           split at hz
           · rename_i hble
             have hble':=Nat.le_of_ble_eq_true hble
             simp only[Option.some.injEq] at hz;subst hz
             obtain⟨blk',s',hm',_,_,cs,tt,hbk,⟨hsz,hNs⟩,_,_⟩:=H.obj _ _ hget (by simp)
             rw[hm] at hm';simp only[Option.some.injEq,Prod.mk.injEq] at hm';obtain⟨rfl,rfl⟩:=hm'
             obtain⟨hrun,h1,h2⟩:=sliceBounds_run (P:=P) (W:=W) hρ false n (Nat.le_refl _) (Nat.le_refl _) hl hh hbh hbl
             by_cases hcl:lN=n
             · subst hcl
               refine .same H (v':=.slice (some ⟨blk,s+off,none⟩) (hN-lN) (lN-lN)) ?_ (.sl _ _ _ _ _ _ _ _ _ hm (by omega) (.inl (by omega)))
               simp[execOp,Instr.sliceAt,under_run hu,hX,Instr.sureAddr,hrun,hs]
             · have hcl' : ¬ n = lN := fun e => hcl e.symm
               refine .same H (v':=.slice (some ⟨blk,s+off+lN * E.size e,none⟩) (hN-lN) (n-lN)) ?_ (.sl _ _ _ _ _ _ _ _ _ hm (by omega) (.inr ⟨by rw[Nat.add_assoc],?_⟩))
               · simp[execOp,Instr.sliceAt,under_run hu,hX,Instr.sureAddr,hrun,hs,hcl',addr_add]
               · rw [Nat.sub_mul]
                 have:=Nat.mul_le_mul_right (E.size e) (show lN≤n by omega)
                 omega
           · cases hz
         · cases hz
       · cases hz
     · cases hz
   · cases hz
 · cases h
omit hE H hb in
theorem slice3Bounds_run {lo:Option Operand} {hi mx:Operand} {rl:Option AV} {rh rm:AV} {len cap l h m:Nat} (most:Nat) (hcap:most≤cap) (e1:optA τ lo=some rl) (e2:ev τ hi=some rh) (e3:ev τ mx=some rm) (hm:bound (some rm) most most=some m) (hh:bound (some rh) m m=some h) (hl:bound rl 0 h=some l) :
  (Instr.sliceBounds true len cap (lo.map ρ) (some (ρ hi)) (some (ρ mx))).run P W=.ok (l,h,m) W∧l≤h∧h≤m:=by
 have h0:=bound_run (P:=P) (W:=W) (o:=some mx) (code:=.slice3Acap) hρ (by simp only[optA,e3,Option.map_some]) hm hcap
 have h1:=bound_run (P:=P) (W:=W) (o:=some hi) (code:=.slice3B) hρ (by simp only[optA,e2,Option.map_some]) hh (Nat.le_refl m)
 have h2:=bound_run (P:=P) (W:=W) (code:=.slice3C) hρ e1 hl (Nat.le_refl h)
 refine⟨?_,?_,?_⟩
 · have h0' := h0.1
   have h1':=h1.1
   have h2':=h2.1
   simp only[Option.map_some] at h0' h1'
   unfold Instr.sliceBounds
   cases lo<;>simp only[Option.map_none,Option.map_some] at h2'⊢
   · simp only [Sem.run_pure, Result.ok.injEq, and_true] at h2'; subst h2'
     simp only[Sem.run_bind,Sem.run_pure,Result.andThen_ok,if_true,h0',h1']
   · simp only[Sem.run_bind,Sem.run_pure,Result.andThen_ok,if_true,Option.isSome_some,h0',h1',h2']
 · rcases h2.2 with ⟨_,rfl⟩|h'<;>omega
 · rcases h1.2 with ⟨e, _⟩ | h'
   · cases e
   · exact h'
theorem s_slice3 (t : TypeId) (x : Operand) (lo : Option Operand) (hi mx : Operand) {r : Res} (h : op E τ σ (.slice t x lo (some hi) (some mx)) = some r) : OpOK P E base V σ W ((execOp ρ ⟨dst, .slice t x lo (some hi) (some mx), ty, pos, after, guard⟩).run P W) r := by
 simp only[op] at h
 split at h
 · rename_i a rl rh rm ha hl hh hx
   obtain⟨z,hz,rfl⟩:=Option.map_eq_some_iff.1 h
   have hv:=hρ x _ ha
   unfold slice3V at hz
   split at hz
   · rename_i e id off len cl sz hk
     have hu:=(hE.ty t _ hk).2.1
     have hs:=elem_size (W:=W) hE H hb hρ hk (.inl rfl)
     obtain⟨blk,s,cap,A,hm,hc,hX,hA⟩:=hv.sl_inv
     split at hz
     · rename_i mN hbm
       split at hz
       · rename_i hN hbh
         split at hz
         · rename_i lN hbl
           split at hz
           · rename_i hlm hsz
             have hlm':=Nat.eq_of_beq_eq_true hlm
             simp only[Option.some.injEq] at hz;subst hz
             obtain⟨hrun,h1,h2⟩:=slice3Bounds_run (P:=P) (W:=W) (len:=len) hρ cl hc.2 hl hh hx hbm hbh hbl
             have e1:hN-lN=0:=by omega
             have e2:mN-lN=0:=by omega
             refine .same H (v':=.slice (some A) 0 0) ?_ (.sle A)
             simp[execOp,Instr.sliceAt,Instr.slice,under_run hu,hX,hrun,hs,hlm',e1]
             omega
           · rename_i hlm hsz
             split at hz
             · rename_i hhm
               have hhm':=Nat.eq_of_beq_eq_true hhm
               have hsz':=Nat.eq_of_beq_eq_true hsz
               simp only[Option.some.injEq] at hz;subst hz
               obtain⟨hrun,h1,h2⟩:=slice3Bounds_run (P:=P) (W:=W) (len:=len) hρ cl hc.2 hl hh hx hbm hbh hbl
               have hmc:mN≤cl:=by
                rcases (bound_run (P:=P) (W:=W) (o:=some mx) (code:=.slice3Acap) hρ (by simp only[optA,hx,Option.map_some]) hbm hc.2).2 with ⟨e,_⟩|e
                · cases e
                · exact e
               have hlt:lN≠mN:=fun e=>by subst e;rw[show Nat.beq lN lN=true from by simp] at hlm;cases hlm
               obtain⟨hAe,hNb⟩:=hA.resolve_left (by omega)
               subst hsz'
               subst hAe
               refine .same H (v':=.slice (some ⟨blk,s+off+lN * E.size e,none⟩) (hN-lN) (hN-lN)) ?_ (.fsl _ _ _ _ blk s _ hm (.inr ⟨by rw[Nat.add_assoc],?_⟩))
               · have h3 : ¬ mN - lN = 0 := by omega
                 have h4:¬ mN=lN:=by omega
                 simp[execOp,Instr.sliceAt,Instr.slice,under_run hu,hX,hrun,hs,hhm',h3,h4,addr_add]
               · have := Nat.mul_le_mul_right (E.size e) (show hN - lN + lN ≤ cap by omega)
                 rw[Nat.add_mul] at this
                 omega
             · cases hz
           · cases hz
         · cases hz
       · cases hz
     · cases hz
   · rename_i e cells len hk
     have hu:=(hE.ty t _ hk).2.1
     have hs:=elem_size (W:=W) hE H hb hρ hk (.inl rfl)
     obtain⟨blk,o,cap,A,f,hkk,hvv,hc,hX,hA⟩:=hv.csl_inv
     split at hz
     · rename_i mN hbm
       split at hz
       · rename_i hN hbh
         split at hz
         · rename_i lN hbl
           split at hz
           · rename_i hlm
             have hlm':=Nat.eq_of_beq_eq_true hlm
             simp only[Option.some.injEq] at hz;subst hz
             obtain⟨hrun,h1,h2⟩:=slice3Bounds_run (P:=P) (W:=W) (len:=len) hρ len hc hl hh hx hbm hbh hbl
             refine .same H (v':=.slice (some A) 0 0) ?_ (.sle A)
             simp[execOp,Instr.sliceAt,Instr.slice,under_run hu,hX,hrun,hs,hlm']
             omega
           · cases hz
         · cases hz
       · cases hz
     · cases hz
   · rename_i e hk
     have hu:=(hE.ty t _ hk).2.1
     have hs:=elem_size (W:=W) hE H hb hρ hk (.inl rfl)
     have hX:ρ x=.slice none 0 0:=hv.nils_inv
     split at hz
     · rename_i mN hbm
       split at hz
       · rename_i hN hbh
         split at hz
         · rename_i lN hbl
           simp only[Option.some.injEq] at hz;subst hz
           obtain⟨hrun,h1,h2⟩:=slice3Bounds_run (P:=P) (W:=W) (len:=0) hρ 0 (Nat.le_refl 0) hl hh hx hbm hbh hbl
           have hm0:=(bound_run (P:=P) (W:=W) (o:=some mx) (code:=.slice3Acap) hρ (by simp only[optA,hx,Option.map_some]) hbm (Nat.le_refl 0)).2
           have:mN=0:=by rcases hm0 with ⟨e,_⟩|e;cases e;omega
           subst this
           have:hN=0:=by omega
           subst this
           have:lN=0:=by omega
           subst this
           refine .same H (v':=.slice none 0 0) ?_ .nils
           simp[execOp,Instr.sliceAt,Instr.slice,under_run hu,hX,hrun,hs]
         · cases hz
       · cases hz
     · cases hz
   · rename_i e hk
     have hu:=(hE.ty t _ hk).2.1
     have hs:=elem_size (W:=W) hE H hb hρ hk (.inl rfl)
     obtain⟨A,hX⟩:∃ A,ρ x=.slice (some A) 0 0:=by
      generalize ρ x=X at hv
      cases hv with
      |sle A=>exact⟨A,rfl⟩
     split at hz
     · rename_i mN hbm
       split at hz
       · rename_i hN hbh
         split at hz
         · rename_i lN hbl
           simp only[Option.some.injEq] at hz;subst hz
           obtain⟨hrun,h1,h2⟩:=slice3Bounds_run (P:=P) (W:=W) (len:=0) hρ 0 (Nat.le_refl 0) hl hh hx hbm hbh hbl
           have hm0:=(bound_run (P:=P) (W:=W) (o:=some mx) (code:=.slice3Acap) hρ (by simp only[optA,hx,Option.map_some]) hbm (Nat.le_refl 0)).2
           have:mN=0:=by rcases hm0 with ⟨e,_⟩|e;cases e;omega
           subst this
           have:hN=0:=by omega
           subst this
           have:lN=0:=by omega
           subst this
           refine .same H (v':=.slice (some A) 0 0) ?_ (.sle A)
           simp[execOp,Instr.sliceAt,Instr.slice,under_run hu,hX,hrun,hs]
         · cases hz
       · cases hz
     · cases hz
   · cases hz
 · cases h
end
end Go.Eng


namespace Go.Eng
open Go
section
variable {P:Program} {E:Env} {base:Nat} {V:View} {σ:Hp} {W:World} {τ:Tmps} {ρ:Operand→Value}
variable {dst:Option Tmp} {ty:TypeId} {pos:String} {after:Array Edge} {guard:Option (Nat×Bool)}
theorem evParts_spec (hρ:EvR V τ ρ):∀ (l:List (Nat×Operand)) (r:List (Nat×AV)),evParts τ l=some r→r.map (·.1)=l.map (·.1)∧VRs V (r.map (·.2)) (l.map fun p=>ρ p.2)
 |[],r,h=>by simp only[evParts,Option.some.injEq] at h;subst h;exact⟨rfl,.nil V⟩
 | (i, x) :: l, r, h => by
  simp only[evParts] at h
  split at h
  · cases h
  · rename_i v hv
    split at h
    · cases h
    · rename_i vs hvs
      simp only[Option.some.injEq] at h;subst h
      obtain⟨h1,h2⟩:=evParts_spec hρ l vs hvs
      exact⟨by simp[h1],.cons (hρ x v hv) h2⟩
theorem setAt_list:∀ (vs:List Value) (k off:Nat) (cells:Array Value),off+k+vs.length≤cells.size→((vs.zipIdx k).foldl (fun cs (p:Value×Nat)=>cs.setIfInBounds (off+p.2) p.1) cells).toList=cells.toList.take (off+k)++vs++cells.toList.drop (off+k+vs.length)
 |[],k,off,cells,_=>by simp
 |v::vs,k,off,cells,hle=>by
  simp only[List.length_cons] at hle
  rw[List.zipIdx_cons,List.foldl_cons,setAt_list vs (k+1) off _ (by simp;omega)]
  simp only[Array.toList_setIfInBounds,List.length_cons]
  have hlt':off+k<cells.toList.length:=by simp;omega
  rw[show off+(k+1)=off+k+1 from rfl,List.take_succ_eq_append_getElem (by simpa using hlt')]
  simp only[List.getElem_set_self,List.take_set_of_le (Nat.le_refl _)]
  rw[List.drop_set_of_lt (by omega)]
  simp[Nat.add_assoc,Nat.add_comm 1]
theorem fill_run {place:Nat→Option (Nat×Nat)} {place':Nat→Option (Nat×Nat)} (hp:∀ i x,place i=some x→place' i=some x):∀ (parts:List (Nat×AV)) (parts':List (Nat×Value)) (cs r:List AV) (C:Array Value),parts.map (·.1)=parts'.map (·.1)→VRs V (parts.map (·.2)) (parts'.map (·.2))→VRs V cs C.toList→fill place cs parts=some r →
  ∃ R:Array Value,Instr.fill place' C parts'=some R∧VRs V r R.toList
 |[],parts',cs,r,C,h1,h2,h3,h=>by
  cases parts' with
  |nil=>simp only[fill,Option.some.injEq] at h;subst h;exact⟨C,rfl,h3⟩
  |cons p ps=>simp at h1
 | (i, v) :: parts, parts', cs, r, C, h1, h2, h3, h => by
  cases parts' with
  |nil=>simp at h1
  |cons p ps=>
   obtain⟨j,w⟩:=p
   simp only[List.map_cons,List.cons.injEq] at h1
   obtain⟨rfl,h1⟩:=h1
   obtain⟨A,As,e,hvw,hrest⟩:=h2.cons_inv
   simp only[List.map_cons,List.cons.injEq] at e
   obtain⟨rfl,rfl⟩:=e
   simp only[fill] at h
   split at h
   · cases h
   · rename_i off size hpl
     split at h
     · rename_i hb1 hb2
       have e1:=Nat.eq_of_beq_eq_true hb1
       have e2:=Nat.le_of_ble_eq_true hb2
       have hc:=hvw.cells
       have hsz:w.cells.size=size:=by rw[← e1,hc.1];simp
       have hC:C.size=cs.length:=by rw[h3.1];simp
       have e1':v.cells.length=size:=e1
       obtain⟨r1,r2⟩:=setAt_spec off hc h3 (by rw[e1'];exact e2)
       have hnot:¬ (w.cells.size≠size || off+w.cells.size > C.size)=true:=by simp[hsz];omega
       simp only[Instr.fill,hp _ _ hpl,if_neg hnot]
       refine fill_run hp parts ps _ r _ h1 hrest ?_ h
       rw[← Array.foldl_toList,Array.toList_zipIdx,setAt_list _ _ _ _ (by simp;omega)]
       simpa using r1
     · cases h
theorem places_run {F:List Field} (hh:∀ f∈F,Has P E f.type):F.mapM (fun f=>(P.info? f.type).map fun i=>(f.offset,i.size))=some (F.map fun f=>(f.offset,E.size f.type)):=by
 induction F with
 |nil=>rfl
 |cons f F ih=>
  obtain⟨i,hi,hs⟩:=hh f (by simp)
  simp only[List.mapM_cons,hi,Option.map_some,Option.bind_eq_bind,Option.bind_some,ih (fun g hg=>hh g (by simp[hg])),Option.pure_def,List.map_cons,hs]
variable (hE:EnvOK P E) (H:HR E base V σ W) (hb:base≤W.heap.size) (hρ:EvR V τ ρ)
include hE H hb hρ
theorem s_build (t:TypeId) (ps:Array (Nat×Operand)) {r:Res} (h:op E τ σ (.build t ps)=some r):OpOK P E base V σ W ((execOp ρ ⟨dst,.build t ps,ty,pos,after,guard⟩).run P W) r:=by
 simp only[op] at h
 split at h
 · rename_i z parts hz hp
   obtain⟨i,v,hi,hv,hc,_,_⟩:=hE.zero t z hz
   obtain⟨h1,h2⟩:=evParts_spec hρ _ _ hp
   have hcells:=(hc V).cells
   have hps:(ps.map fun (p:Nat×Operand)=>(p.1,ρ p.2)).toList=ps.toList.map fun p=>(p.1,ρ p.2):=by simp
   have g1:parts.map (·.1)=(ps.toList.map fun p=>(p.1,ρ p.2)).map (·.1):=by rw[h1];simp
   have g2:VRs V (parts.map (·.2)) ((ps.toList.map fun p=>(p.1,ρ p.2)).map (·.2)):=by rw[List.map_map];exact h2
   split at h
   · rename_i fs hk
     obtain⟨cs,hcs,rfl⟩:=Option.map_eq_some_iff.1 h
     obtain⟨F,hu,rfl,hhas⟩:=(hE.ty t _ hk).2
     obtain⟨R,hR,hvR⟩:=fill_run (place':=fun i=>(F.toList.map fun f=>(f.offset,E.size f.type)).toArray[i]?) (by
      intro i x hx
      simp only[fieldPlace,List.getElem?_map,Option.map_map,Option.map_eq_some_iff] at hx
      obtain⟨f',hf',e⟩:=hx
      simp only[Array.getElem?_toList] at hf'
      simp only[List.getElem?_toArray,List.getElem?_map,Array.getElem?_toList,hf',Option.map_some]
      exact congrArg some e) parts _ z.cells cs v.cells g1 g2 hcells hcs
     have hbuilt:P.built t (ps.map fun (p:Nat×Operand)=>(p.1,ρ p.2)).toList=some R:=by
      simp only[Program.built,hi,hu,hv,places_run hhas,hps];exact hR
     have hrun:=run_build W t (ps.map fun (p:Nat×Operand)=>(p.1,ρ p.2)) R hbuilt
     refine .same H (v':=.agg R) ?_ (by have:=VR.agg' hvR;simpa using this)
     show (do let y ← Instr.build t (ps.map fun (p:Nat×Operand)=>(p.1,ρ p.2));pure (Next.value y):Sem Next).run P W=_
     rw[Sem.run_bind,hrun];rfl
   · rename_i n e hk
     obtain⟨cs,hcs,rfl⟩:=Option.map_eq_some_iff.1 h
     obtain⟨hu,ie,hie,hse⟩:=(hE.ty t _ hk).2
     obtain⟨R,hR,hvR⟩:=fill_run (place':=fun i=>some (i * ie.size,ie.size)) (by
      intro i x hx;rw[hse] at hx;exact hx) parts _ z.cells cs v.cells g1 g2 hcells hcs
     have hbuilt:P.built t (ps.map fun (p:Nat×Operand)=>(p.1,ρ p.2)).toList=some R:=by
      simp only[Program.built,hi,hu,hv,hie,hps];exact hR
     have hrun:=run_build W t (ps.map fun (p:Nat×Operand)=>(p.1,ρ p.2)) R hbuilt
     refine .same H (v':=.agg R) ?_ (by have:=VR.agg' hvR;simpa using this)
     show (do let y ← Instr.build t (ps.map fun (p:Nat×Operand)=>(p.1,ρ p.2));pure (Next.value y):Sem Next).run P W=_
     rw[Sem.run_bind,hrun];rfl
   · cases h
 · cases h
end
end Go.Eng


namespace Go.Eng
open Go
section
variable {P:Program} {E:Env} {base:Nat} {V:View} {σ:Hp} {W:World} {τ:Tmps} {ρ:Operand→Value}
variable {dst:Option Tmp} {ty:TypeId} {pos:String} {after:Array Edge} {guard:Option (Nat×Bool)}
theorem repl_spec {z:List AV} {Z:Array Value} (h:VRs V z Z.toList):∀ n:Nat,VRs V (repl n z) ((List.range (n * Z.size)).map fun i=>Z[i % Z.size]!)
 |0=>by simp[repl];exact .nil V
 | n + 1 => by
  have ih:=repl_spec h n
  rw[Nat.succ_mul,Nat.add_comm (n * Z.size) Z.size,List.range_add,List.map_append,List.map_map]
  refine VRs.append ?_ ?_
  · have e : (List.range Z.size).map (fun i => Z[i % Z.size]!) = Z.toList := by
     apply List.ext_getElem (by simp)
     intro i h1 h2
     simp only[List.length_map,List.length_range] at h1
     simp only[List.getElem_map,List.getElem_range,Nat.mod_eq_of_lt h1,Array.getElem_toList]
     exact getElem!_pos Z i h1
    rw[e];exact h
  · have e : ((fun i => Z[i % Z.size]!) ∘ fun x => Z.size + x) = fun i => Z[i % Z.size]! := by
     funext i;simp
    rw[e];exact ih
theorem repl_length (z:List AV):∀ n,(repl n z).length=n * z.length
 |0=>by simp[repl]
 |n+1=>by simp[repl,repl_length z n,Nat.succ_mul,Nat.add_comm]
theorem range_map_toList (N:Nat) (f:Nat→Value):((Array.range N).map f).toList=(List.range N).map f:=by simp
theorem setAt_length:∀ (vs:List AV) (cs:List AV) (off:Nat),(setAt cs off vs).length=cs.length
 |[],_,_=>rfl
 |v::vs,cs,off=>by rw[setAt,setAt_length vs];simp
theorem fill_length {place:Nat→Option (Nat×Nat)}:∀ {parts:List (Nat×AV)} {cs r:List AV},fill place cs parts=some r→r.length=cs.length
 |[],cs,r,h=>by simp only[fill,Option.some.injEq] at h;rw[h]
 | (i, v) :: parts, cs, r, h => by
  simp only[fill] at h
  split at h
  · cases h
  · split at h
    · rw[fill_length h,setAt_length]
    · cases h
variable (hE:EnvOK P E) (H:HR E base V σ W) (hb:base≤W.heap.size) (hρ:EvR V τ ρ)
include hE H hb hρ
theorem s_buildSlice (t : TypeId) (len : Nat) (ps : Array (Nat × Operand)) {r : Res} (h : op E τ σ (.buildSlice t len ps) = some r) : OpOK P E base V σ W ((execOp ρ ⟨dst, .buildSlice t len ps, ty, pos, after, guard⟩).run P W) r := by
 simp only[op] at h
 split at h
 · rename_i e parts hk hp
   split at h
   · rename_i z hz hlen
     have hlen':=Nat.le_of_ble_eq_true hlen
     obtain⟨cs,hcs,rfl⟩:=Option.map_eq_some_iff.1 h
     obtain⟨i,v,hi,hv,hc,hsz,hse⟩:=hE.zero e z hz
     obtain⟨h1,h2⟩:=evParts_spec hρ _ _ hp
     have hu:=(hE.ty t _ hk).2.1
     have hs:=elem_size (W:=W) hE H hb hρ hk (.inl rfl)
     have hcells:=(hc V).cells
     have g1:parts.map (·.1)=(ps.toList.map fun p=>(p.1,ρ p.2)).map (·.1):=by rw[h1];simp
     have g2:VRs V (parts.map (·.2)) ((ps.toList.map fun p=>(p.1,ρ p.2)).map (·.2)):=by rw[List.map_map];exact h2
     have hps:(ps.map fun (p:Nat×Operand)=>(p.1,ρ p.2)).toList=ps.toList.map fun p=>(p.1,ρ p.2):=by simp
     have hrep:=repl_spec hcells len
     rw[hsz,← hse] at hrep
     obtain⟨R,hR,hvR⟩:=fill_run (place':=fun i=>some (i * E.size e,E.size e)) (fun i x hx=>hx) parts _ (repl len z.cells) cs ((Array.range (len * E.size e)).map (fun i=>v.cells[i % v.cells.size]!)) g1 g2 (by
      rw[range_map_toList,hsz,← hse];exact hrep) hcs
     have hcsl:cs.length=R.size:=by rw[hvR.1];simp
     refine⟨_,_,_,?_,push_cells H hb cs R e _ rfl ⟨R.toList,[],by simp,hvR⟩,push_sl len len len _ _ ⟨Nat.le_refl _,Nat.le_refl _⟩ (by rw[← hcsl,fill_length hcs,repl_length,show z.cells.length=E.size e from (by rw[hcells.1,Array.length_toList,hsz,hse])];exact Nat.le_refl _)⟩
     have hbig:¬ len * E.size e > 2 ^ 24:=by omega
     have hR':∀ Z:Array Value,(len * E.size e≠0→Z=v.cells)→Instr.fill (fun i=>some (i * E.size e,E.size e)) ((Array.range (len * E.size e)).map (Z[· % Z.size]!)) (ps.map fun (p:Nat×Operand)=>(p.1,ρ p.2)).toList=some R:=by
      intro Z hZ
      rw[hps,← hR]
      by_cases h0:len * E.size e=0
      · have e0 : ∀ f : Nat → Value, (Array.range 0).map f = #[] := fun f => by simp
        rw[h0,e0,e0]
      · rw[hZ h0]
     show (do let y ← Instr.buildSlice t len (ps.map fun (p:Nat×Operand)=>(p.1,ρ p.2));pure (Next.value y):Sem Next).run P W=_
     have hzv:(zeroValue e).run P W=.ok v W:=by simp[zeroValue,typeInfo,hi,hv]
     have h1:(Instr.buildSlice t len (ps.map fun (p:Nat×Operand)=>(p.1,ρ p.2))).run P W=.ok (.slice (some ⟨W.heap.size,0,none⟩) len len) (W.alloc (.cells R e)):=by
      unfold Instr.buildSlice
      rw[Sem.run_bind,under_run hu,Result.andThen_ok]
      simp only[]
      rw[Sem.run_bind,hs,Result.andThen_ok,if_neg hbig]
      by_cases h0:len * E.size e=0
      · rw [if_pos h0, pure_bind, hR' #[] (fun h => absurd h0 h)]
        rfl
      · rw [if_neg h0, Sem.run_bind, hzv, Result.andThen_ok, pure_bind, hR' v.cells (fun _ => rfl)]
        rfl
     rw[Sem.run_bind,h1];rfl
   · cases h
 · cases h
end
end Go.Eng


namespace Go.Eng
open Go
theorem decN_eq (b:ByteArray) (p:Nat):decN (b.data.toList.map (·.toNat)) p=Utf8.decode b p:=by
 have:(b.data.toList.map (·.toNat)).map Nat.toUInt8=b.data.toList:=by
  rw[List.map_map]
  conv=>rhs;rw[← List.map_id b.data.toList]
  apply List.map_congr_left
  intro x _
  simp[Nat.toUInt8]
 have hall:(b.data.toList.map (·.toNat)).all (fun c=>Nat.ble c 255)=true:=by
  simp only[List.all_eq_true,List.mem_map]
  rintro x ⟨u,_,rfl⟩
  exact Nat.ble_eq_true_of_le (by have:=u.toNat_lt;omega)
 unfold decN
 rw[hall,this]
section
variable {P:Program} {E:Env} {base:Nat} {V:View} {σ:Hp} {W:World} {τ:Tmps} {ρ:Operand→Value}
variable {dst:Option Tmp} {ty:TypeId} {pos:String} {after:Array Edge} {guard:Option (Nat×Bool)}
theorem push_obj (H:HR E base V σ W) (hb:base≤W.heap.size) (o:AO) (obj:Obj) (ho:OR (V.push σ.n W.heap.size 0) (W.alloc obj) W.heap.size 0 o) :
  Stp E base V σ W (V.push σ.n W.heap.size 0) (σ.push o) (W.alloc obj):=
 ⟨H.push_le 0,rfl,fun _ _ _ h=>.inl h,H.push hb _ _ _ ho,Fr.alloc _ _ _,fun b hO=>(Own.push hO).imp id (fun h=>by omega),push_mb,push_nm,Nat.le_succ _⟩
theorem run_forIn_unit {α:Type} {F:List α} {g:α→Sem (ForInStep PUnit)} (h:∀ f∈F,(g f).run P W=.ok (.yield ⟨⟩) W):(forIn F PUnit.unit (fun f _=>g f)).run P W=.ok ⟨⟩ W:=by
 induction F with
 |nil=>simp[List.forIn_nil,Sem.run_pure]
 |cons f F ih=>
  rw[List.forIn_cons]
  simp only[Sem.run_bind,h f List.mem_cons_self,Result.andThen_ok]
  exact ih (fun f hf=>h f (List.mem_cons_of_mem _ hf))
theorem fitF_spec {g:Nat→AV→Bool} {l:List AV}:∀ {fs:List KF},fitF E g l fs=true→∀ f∈fs,∃ y,part E f.type l f.off=some y∧g f.type y=true
 |[],_,f,hf=>by cases hf
 | f0 :: fs, h, f, hf => by
  simp only[fitF] at h
  split at h
  · rename_i y hy
    split at h
    · rename_i hg
      rcases List.mem_cons.1 hf with rfl|hf
      · exact⟨y,hy,hg⟩
      · exact fitF_spec h f hf
    · cases h
  · cases h
theorem fitR_spec {g:AV→Bool} {e:Nat} {l:List AV}:∀ {n i:Nat},fitR E g e l n i=true→∀ j,i≤j→j<i+n→∃ y,part E e l (j * E.size e)=some y∧g y=true
 |0,i,_,j,h1,h2=>by omega
 |n+1,i,h,j,h1,h2=>by
  simp only[fitR] at h
  split at h
  · rename_i y hy
    split at h
    · rename_i hg
      by_cases hj:j=i
      · subst hj;exact⟨y,hy,hg⟩
      · exact fitR_spec h j (by omega) (by omega)
    · cases h
  · cases h
theorem checkKey_run (hE : EnvOK P E) : ∀ (d t : Nat) (x : AV) (X : Value), keyFit E d t x = true → VR V x X → ∀ (b : Bool) (n : Nat), d ≤ n → (Instr.checkKey b n t X).run P W = .ok () W
 |0,t,x,X,h,_,b,n,_=>by simp[keyFit] at h
 | d + 1, t, x, X, h, hX, b, n, hn => by
  obtain⟨n,rfl⟩:∃ m,n=m+1:=⟨n-1,by omega⟩
  rw[keyFit] at h
  split at h
  · rename_i i hk
    have hd:P.underlying t=some (.int i):=(hE.ty t _ hk).2
    simp only[Instr.checkKey,Sem.run_bind,under_run hd,Result.andThen_ok];rfl
  · rename_i hk
    have hd:P.underlying t=some .string:=(hE.ty t _ hk).2
    simp only[Instr.checkKey,Sem.run_bind,under_run hd,Result.andThen_ok];rfl
  · rename_i hk
    have hd:P.underlying t=some .bool:=(hE.ty t _ hk).2
    simp only[Instr.checkKey,Sem.run_bind,under_run hd,Result.andThen_ok];rfl
  · rename_i fs hk
    obtain⟨F,hd,rfl,_⟩:=(hE.ty t _ hk).2
    split at h
    · rename_i l
      obtain⟨C,rfl,hC⟩:=hX.agg_inv
      simp only[Instr.checkKey,Sem.run_bind,under_run hd,Result.andThen_ok]
      have := run_forIn_unit (P := P) (W := W) (F := F.toList) (g := fun f => if f.name ≠ "_" then (do
        let x ← Go.part f.type C.toArray f.offset
        Instr.checkKey b n f.type x
        pure (ForInStep.yield PUnit.unit)) else pure (ForInStep.yield PUnit.unit)) (fun f hf=>by
        obtain⟨y,hy,hg⟩:=fitF_spec h _ (List.mem_map.2 ⟨f,hf,rfl⟩)
        obtain⟨Y,hp,hY⟩:=part_run hE hC hy
        have ih:=checkKey_run hE d f.type y Y hg hY b n (by omega)
        by_cases hne : f.name = "_"
        · simp[hne]
        · have hp' : (Go.part f.type C.toArray f.offset).run P W = .ok Y W := hp
          simp[hne,Sem.run_bind,hp',ih])
      rw[← Array.forIn_toList,this]
      rfl
    · cases h
  · rename_i m e hk
    have hK:=(hE.ty t _ hk).2
    split at h
    · rename_i l
      obtain⟨C,rfl,hC⟩:=hX.agg_inv
      have hs:=sizeOf_run hK.2 W
      simp only[Instr.checkKey,Sem.run_bind,under_run hK.1,Result.andThen_ok]
      rw[Std.Legacy.Range.forIn_eq_forIn_range']
      simp only[Std.Legacy.Range.size,Nat.sub_zero,Nat.add_sub_cancel,Nat.div_one]
      rw[run_forIn_unit (P:=P) (W:=W) (F:=List.range' 0 m) fun j hj=>by
       have hj:=List.mem_range'_1.1 hj
       obtain⟨y,hy,hg⟩:=fitR_spec h j (by omega) (by omega)
       obtain⟨Y,hp,hY⟩:=part_run (P:=P) (W:=W) hE hC hy
       have ih:=checkKey_run hE d e y Y hg hY b n (by omega)
       simp only[Sem.run_bind,hs,Result.andThen_ok,hp,ih,Sem.run_pure]]
      rfl
    · cases h
  · cases h
def basic:KT→Option TypeDesc
 |.int k=>some (.int k)
 |.str=>some .string
 |.bool=>some .bool
 |_=>none
theorem keyEq_run {kt : KT} {a b : AV} {A B : Value} {r : Bool} (h : keyEq kt a b = some r) (ha : VR V a A) (hb : VR V b B) : ∃ d, basic kt = some d ∧ Instr.sameNow d A B = some r ∧ (r = true → Instr.sameBits 10000 B A = true) := by
 have sb:∀ (n:Nat),(∀ (k:IntKind) (x:Int),Instr.sameBits n (.int k x) (.int k x)=true)∧(∀ s:ByteArray,Instr.sameBits n (.string s) (.string s)=true)∧(∀ b:Bool,Instr.sameBits n (.bool b) (.bool b)=true):=by
  intro n
  refine⟨fun k x=>?_,fun s=>?_,fun b=>?_⟩<;>cases n<;>simp[Instr.sameBits,beq_toListBytes]
 unfold keyEq at h
 split at h
 · split at h
   · split at h
     · rename_i hkk
       simp only[Option.some.injEq,ieq_eq] at h;subst h
       cases ha;cases hb
       have:=ikb_eq hkk;subst this
       refine⟨_,rfl,by simp[Instr.sameNow],fun hr=>?_⟩
       have:=eq_of_beq hr;subst this
       exact (sb _).1 _ _
     · cases h
   · cases h
 · split at h
   · simp only [Option.some.injEq, lbeq_eq] at h; subst h
     cases ha;cases hb
     refine⟨_,rfl,?_,fun hr=>?_⟩
     · rw [map_beq]
       simp only[Instr.sameNow,beq_toListBytes,ByteArray.toList_eq]
     · rw [map_beq] at hr
       have:=eq_of_beq hr
       rename_i x y
       have e:x=y:=by
        obtain⟨⟨x⟩⟩:=x;obtain⟨⟨y⟩⟩:=y
        simp only at this;subst this;rfl
       subst e
       exact (sb _).2.1 _
   · cases h
 · split at h
   · simp only [Option.some.injEq] at h; subst h
     cases ha;cases hb
     refine⟨_,rfl,by simp[Instr.sameNow],fun hr=>?_⟩
     have:=eq_of_beq hr;subst this
     exact (sb _).2.2 _
   · cases h
 · cases h
theorem keyEqT_basic {t:Nat} {kt:KT} {d:TypeDesc} (hd:basic kt=some d) (a b:AV):keyEqT E t kt a b=keyEq kt a b:=by
 cases kt<;>first|rfl|(cases hd)
theorem sameBits_eq (n:Nat):(∀ (k:IntKind) (x:Int),Instr.sameBits n (.int k x) (.int k x)=true)∧(∀ s:ByteArray,Instr.sameBits n (.string s) (.string s)=true)∧(∀ b:Bool,Instr.sameBits n (.bool b) (.bool b)=true):=by
 refine⟨fun k x=>?_,fun s=>?_,fun b=>?_⟩<;>cases n<;>simp[Instr.sameBits,beq_toListBytes]
theorem keyEq1_bits {a b:AV} {A B:Value} (h:keyEq1 a b=some true) (ha:VR V a A) (hb:VR V b B) (n:Nat):Instr.sameBits n B A=true:=by
 unfold keyEq1 at h
 split at h
 · split at h
   · rename_i hkk
     simp only[Option.some.injEq,ieq_eq] at h
     cases ha;cases hb
     have:=ikb_eq hkk;subst this
     have:=eq_of_beq h;subst this
     exact (sameBits_eq n).1 _ _
   · cases h
 · simp only [Option.some.injEq, lbeq_eq] at h
   cases ha;cases hb
   rw[map_beq] at h
   have:=eq_of_beq h
   rename_i x y
   have e:x=y:=by
    obtain⟨⟨x⟩⟩:=x;obtain⟨⟨y⟩⟩:=y
    simp only at this;subst this;rfl
   subst e
   exact (sameBits_eq n).2.1 _
 · simp only [Option.some.injEq] at h
   cases ha;cases hb
   have:=eq_of_beq h;subst this
   exact (sameBits_eq n).2.2 _
 · cases h
theorem keyEqL_bits:∀ {a b:List AV} {A B:List Value},keyEqL a b=some true→VRs V a A→VRs V b B→∀ n,B.length=A.length∧((B.zip A).all fun (x,y)=>Instr.sameBits n x y)=true
 |[],[],A,B,_,ha,hb,n=>by cases ha.nil_inv;cases hb.nil_inv;exact⟨rfl,rfl⟩
 |x::xs,y::ys,A,B,h,ha,hb,n=>by
  obtain⟨X,Xs,rfl,hX,hXs⟩:=ha.cons_inv
  obtain⟨Y,Ys,rfl,hY,hYs⟩:=hb.cons_inv
  simp only[keyEqL] at h
  split at h
  · rename_i r h1 h2
    simp only[Option.some.injEq] at h;subst h
    obtain⟨g1,g2⟩:=keyEqL_bits h2 hXs hYs n
    refine⟨by simp[g1],?_⟩
    rw[List.zip_cons_cons,List.all_cons,g2]
    simp[keyEq1_bits h1 hX hY n]
  · cases h
  · cases h
 |[],_::_,_,_,h,_,_,_=>by simp[keyEqL] at h
 |_::_,[],_,_,h,_,_,_=>by simp[keyEqL] at h
def wideK (kt:KT):Prop:=(∃ fs,kt=.struct fs)∨∃ n e,kt=.arr n e
theorem keyEqT_wide {t:Nat} {kt:KT} (hw:wideK kt) (a b:AV):keyEqT E t kt a b=keyEqA E t a b:=by
 rcases hw with ⟨fs,rfl⟩|⟨n,e,rfl⟩<;>rfl
theorem keyEqT_struct (hE:EnvOK P E) {t:Nat} {kt:KT} (hw:wideK kt) {a b:AV} {A B:Value} {r:Bool} (h:keyEqT E t kt a b=some r) (ha:VR V a A) (hb:VR V b B) :
  ∃ X Y:Array Value,A=.agg X∧B=.agg Y∧(Op.equal t A B).run P W=.ok r W∧(r=true→Instr.sameBits 10000 B A=true):=by
 rw[keyEqT_wide hw] at h
 simp only[keyEqA] at h
 split at h
 · rename_i l m
   obtain⟨X,rfl,hX⟩:=ha.agg_inv
   obtain⟨Y,rfl,hY⟩:=hb.agg_inv
   have heq:∀ r,eqv E 40 t (.agg l) (.agg m)=some r→(Op.equal t (.agg X.toArray) (.agg Y.toArray)).run P W=.ok r W:=fun r hr=>
    (eqv_both (W:=W) (V:=V) hE 40).1 t _ _ _ _ r Op.maxDepth (by decide) hr ha hb
   have hbits:∀ n,keyEqL l m=some true→Instr.sameBits (n+1) (.agg Y.toArray) (.agg X.toArray)=true:=fun n hk=>by
    obtain⟨g1,g2⟩:=keyEqL_bits hk hX hY n
    simp only[Instr.sameBits,Bool.and_eq_true]
    exact⟨by simp[g1],g2⟩
   split at h
   · rename_i h1 h2
     simp only[Option.some.injEq] at h;subst h
     exact⟨_,_,rfl,rfl,heq _ h2,fun _=>hbits 9999 h1⟩
   · rename_i h1 h2
     simp only[Option.some.injEq] at h;subst h
     exact⟨_,_,rfl,rfl,heq _ h2,fun e=>by cases e⟩
   · cases h
 · cases h
theorem findKey_run {t:Nat} {kt:KT} {k:AV} {K:Value} (hk:VR V k K):∀ (es:List (AV×AV)) (en:List MapEntry) (i:Nat) (r:Option (Nat×AV)),VRs V (es.map (·.1)) (en.map (·.key))→VRs V (es.map (·.2)) (en.map (·.val))→findKey E t kt k es i=some r→(d:TypeDesc)→basic kt=some d →
  ∃ R,Instr.findNow d K en i=some R∧match r with
   |none=>R=none
   |some (j,v)=>i≤j∧j-i<en.length∧∃ X,R=some (j,X)∧VR V v X∧(es.map (·.2))[j-i]?=some v∧∃ e,en[j-i]?=some e∧Instr.sameBits 10000 e.key K=true
 |[],en,i,r,h1,h2,h,d,hd=>by
  simp only[findKey,Option.some.injEq] at h;subst h
  cases en with
  |nil=>exact⟨none,rfl,rfl⟩
  |cons e en=>exact absurd h1.1 (by simp)
 | (x, v) :: es, en, i, r, h1, h2, h, d, hd => by
  cases en with
  |nil=>exact absurd h1.1 (by simp)
  |cons e en=>
   obtain⟨A,As,ea,hx,h1'⟩:=h1.cons_inv
   obtain⟨B,Bs,eb,hv,h2'⟩:=h2.cons_inv
   simp only[List.map_cons,List.cons.injEq] at ea eb
   obtain⟨rfl,rfl⟩:=ea
   obtain⟨rfl,rfl⟩:=eb
   simp only[findKey,keyEqT_basic hd] at h
   split at h
   · rename_i he
     simp only[Option.some.injEq] at h;subst h
     obtain⟨d',hd',hs,hb⟩:=keyEq_run he hk hx
     rw[hd] at hd';simp only[Option.some.injEq] at hd';subst hd'
     refine⟨some (i,e.val),by simp[Instr.findNow,hs],Nat.le_refl _,by simp,e.val,rfl,hv,by simp,e,by simp,?_⟩
     exact hb rfl
   · rename_i he
     obtain⟨d',hd',hs,hb⟩:=keyEq_run he hk hx
     rw[hd] at hd';simp only[Option.some.injEq] at hd';subst hd'
     obtain⟨R,hR,hr⟩:=findKey_run hk es en (i+1) r h1' h2' h d hd
     refine⟨R,by simp[Instr.findNow,hs,hR],?_⟩
     cases r with
     |none=>exact hr
     |some p=>
      obtain⟨j,v'⟩:=p
      obtain⟨g1,g2,X,g3,g4,g5,e',g6,g7⟩:=hr
      have e1:j-i=(j-(i+1))+1:=by omega
      refine⟨by omega,by simp;omega,X,g3,g4,?_,e',?_,g7⟩
      · rw[e1];simpa using g5
      · rw[e1];simpa using g6
   · cases h
theorem findAsk_run (hE:EnvOK P E) {t:Nat} {kt:KT} (hw:wideK kt) {k:AV} {K:Value} (hk:VR V k K):∀ (es:List (AV×AV)) (en:List MapEntry) (i:Nat) (r:Option (Nat×AV)),VRs V (es.map (·.1)) (en.map (·.key))→VRs V (es.map (·.2)) (en.map (·.val))→findKey E t kt k es i=some r →
  ∃ R,(Instr.findAsking t K en i).run P W=.ok R W∧match r with
   |none=>R=none
   |some (j,v)=>i≤j∧j-i<en.length∧∃ X,R=some (j,X)∧VR V v X∧∃ e,en[j-i]?=some e∧Instr.sameBits 10000 e.key K=true
 |[],en,i,r,h1,h2,h=>by
  simp only[findKey,Option.some.injEq] at h;subst h
  cases en with
  |nil=>exact⟨none,rfl,rfl⟩
  |cons e en=>exact absurd h1.1 (by simp)
 | (x, v) :: es, en, i, r, h1, h2, h => by
  cases en with
  |nil=>exact absurd h1.1 (by simp)
  |cons e en=>
   obtain⟨A,As,ea,hx,h1'⟩:=h1.cons_inv
   obtain⟨B,Bs,eb,hv,h2'⟩:=h2.cons_inv
   simp only[List.map_cons,List.cons.injEq] at ea eb
   obtain⟨rfl,rfl⟩:=ea
   obtain⟨rfl,rfl⟩:=eb
   simp only[findKey] at h
   split at h
   · rename_i he
     simp only[Option.some.injEq] at h;subst h
     obtain⟨X,Y,hA,hB,heq,hb⟩:=keyEqT_struct (W:=W) hE hw he hk hx
     refine⟨some (i,e.val),by simp[Instr.findAsking,Sem.run_bind,heq],Nat.le_refl _,by simp,e.val,rfl,hv,e,by simp,hb rfl⟩
   · rename_i he
     obtain⟨X,Y,hA,hB,heq,hb⟩:=keyEqT_struct (W:=W) hE hw he hk hx
     obtain⟨R,hR,hr⟩:=findAsk_run hE hw hk es en (i+1) r h1' h2' h
     refine⟨R,by simp[Instr.findAsking,Sem.run_bind,heq,hR],?_⟩
     cases r with
     |none=>exact hr
     |some p=>
      obtain⟨j,v'⟩:=p
      obtain⟨g1,g2,X,g3,g4,e',g6,g7⟩:=hr
      have e1:j-i=(j-(i+1))+1:=by omega
      refine⟨by omega,by simp;omega,X,g3,g4,e',?_,g7⟩
      rw[e1];simpa using g6
   · cases h
theorem basic_desc (hE:EnvOK P E) {k:Nat} {kt:KT} {d:TypeDesc} (hk:E.ty k=some kt) (hd:basic kt=some d):P.underlying k=some d∧((∃ i,d=.int i)∨d=.string∨d=.bool):=by
 have:=(hE.ty k kt hk).2
 cases kt<;>simp only[basic,Option.some.injEq] at hd<;>first
  |(cases hd;done)
  |(subst hd;exact⟨this,by first|exact .inl ⟨_,rfl⟩|exact .inr (.inl rfl)|exact .inr (.inr rfl)⟩)
def KeyOut (P : Program) (E : Env) (V : View) (t : Nat) (p : Nat × KT) : Prop := ∃ e, P.underlying t = some (.map p.1 e) ∧ Has P E e ∧ E.ty t = some (.map p.1 e) ∧
  ∀ {k : AV} {K : Value} {es : List (AV × AV)} {en : List MapEntry} {r : Option (Nat × AV)}, VR V k K → VRs V (es.map (·.1)) (en.map (·.key)) → VRs V (es.map (·.2)) (en.map (·.val)) → findK E p k es = some r →
   (∀ b W, (Instr.checkKey b 10000 p.1 K).run P W = .ok () W) ∧ ∀ W, ∃ R, (Instr.findKey p.1 K en).run P W = .ok R W ∧ match r with
    |none=>R=none
    |some (j,v)=>j<en.length∧∃ X,R=some (j,X)∧VR V v X∧∃ e,en[j]?=some e∧Instr.sameBits 10000 e.key K=true
theorem findK_run (hE : EnvOK P E) {t : Nat} {p : Nat × KT} (h : keyT E t = some p) : KeyOut P E V t p := by
 unfold keyT at h
 split at h
 · rename_i k0 e0 hk
   have hm:=(hE.ty t _ hk).2
   have main : ∀ kt, E.ty k0 = some kt → ((∃ d, basic kt = some d) ∨ wideK kt) → p = (k0, kt) → KeyOut P E V t p := fun kt hkk hkt hp => by
    subst hp
    refine⟨e0,hm.1,hm.2,hk,fun {k K es en r} hkv h1 h2 hf=>?_⟩
    unfold findK at hf
    split at hf
    · rename_i hfit
      refine⟨fun b W=>checkKey_run hE 9 k0 k K hfit hkv b 10000 (by decide),fun W=>?_⟩
      rcases hkt with ⟨d,hd⟩|hw
      · obtain ⟨R, hR, hr⟩ := findKey_run hkv es en 0 r h1 h2 hf d hd
        have hu:=(basic_desc hE hkk hd).1
        refine⟨R,by simp only[Instr.findKey,Sem.run_bind,under_run hu,Result.andThen_ok,hR,Sem.run_pure],?_⟩
        cases r with
        |none=>exact hr
        |some p=>
         obtain⟨j,v⟩:=p
         obtain⟨_,g2,X,g3,g4,_,e,g6,g7⟩:=hr
         exact⟨by simpa using g2,X,g3,g4,e,by simpa using g6,g7⟩
      · obtain ⟨R, hR, hr⟩ := findAsk_run (W := W) hE hw hkv es en 0 r h1 h2 hf
        have hd:∃ D,P.underlying k0=some D∧∀ A B,Instr.sameNow D A B=none:=by
         rcases hw with ⟨fs,rfl⟩|⟨n,e,rfl⟩
         · obtain ⟨F, hu, _, _⟩ := (hE.ty k0 _ hkk).2
           exact⟨_,hu,fun A B=>by simp only[Instr.sameNow]⟩
         · exact⟨_,(hE.ty k0 _ hkk).2.1,fun A B=>by simp only[Instr.sameNow]⟩
        obtain⟨D,hu,hD⟩:=hd
        have hrun:(Instr.findKey k0 K en).run P W=.ok R W:=by
         cases en with
         | nil =>
          cases es with
          |nil=>
           simp only[findKey,Option.some.injEq] at hf;subst hf
           simp only at hr;subst hr
           simp only[Instr.findKey,Sem.run_bind,under_run hu,Result.andThen_ok,Instr.findNow,Sem.run_pure]
          |cons x es=>exact absurd h1.1 (by simp)
         | cons e en =>
          have hnow:Instr.findNow D K (e::en) 0=none:=by
           simp only[Instr.findNow]
           rw[hD]
          simp only[Instr.findKey,Sem.run_bind,under_run hu,Result.andThen_ok,hnow,hR]
        refine⟨R,hrun,?_⟩
        cases r with
        |none=>exact hr
        |some p=>
         obtain⟨j,v⟩:=p
         obtain⟨_,g2,X,g3,g4,e,g6,g7⟩:=hr
         exact⟨by simpa using g2,X,g3,g4,e,by simpa using g6,g7⟩
    · cases hf
   split at h
   · rename_i i hkk;exact main _ hkk (.inl ⟨_,rfl⟩) (by simpa using h.symm)
   · rename_i hkk;exact main _ hkk (.inl ⟨_,rfl⟩) (by simpa using h.symm)
   · rename_i hkk;exact main _ hkk (.inl ⟨_,rfl⟩) (by simpa using h.symm)
   · rename_i fs hkk;exact main _ hkk (.inr (.inl ⟨_,rfl⟩)) (by simpa using h.symm)
   · rename_i n e hkk;exact main _ hkk (.inr (.inr ⟨_,_,rfl⟩)) (by simpa using h.symm)
   · cases h
 · cases h
theorem upd_obj0 (H:HR E base V σ W) {id blk:Nat} {o o':AO} {obj obj':Obj} (hid:σ.get id=some o) (hne:o≠.gone) (hm:V.m id=some (blk,0)) (hobj:W.heap[blk]?=some obj) (hnc:∀ c t f,obj≠.cells c t f)
  (ho:OR V { W with heap:=W.heap.setIfInBounds blk obj' } blk 0 o'):Stp E base V σ W V (σ.set id o') { W with heap:=W.heap.setIfInBounds blk obj' }:=by
 have hlt:blk<W.heap.size:=(Array.getElem?_eq_some_iff.1 hobj).1
 have hK:∀ i v,V.K blk i=some v→False:=by
  intro i v hk
  have:=H.cell _ _ _ hk
  simp only[World.cell?,hobj] at this
  cases obj<;>first|(simp at this;done)|exact hnc _ _ _ rfl
 refine⟨View.le.refl V,rfl,fun _ _ _ h=>.inl h,?_,⟨rfl,rfl,rfl,by simp,fun b hb hO=>?_⟩,fun b hO=>.inl ?_,fun id _ s h=>.inl ⟨id,s,h⟩,fun _ _ h=>.inl h,Nat.le_refl _⟩
 · refine H.upd hid hne hm (by simp) (fun b hb => ?_) (fun i v hk => (hK i v hk).elim) ho
   simp only[Array.getElem?_setIfInBounds];rw[if_neg (by omega)]
 · simp only [Array.getElem?_setIfInBounds]
   rw[if_neg (fun (e:blk=b)=>hO ⟨id,0,⟨o,hid,hne⟩,e▸hm⟩)]
 · obtain ⟨i, s1, ⟨oo, hoo, hnn⟩, hm1⟩ := hO
   rcases Hp.get_set hoo with ⟨rfl,_⟩|⟨_,hoo'⟩
   · exact⟨i,s1,⟨o,hid,hne⟩,hm1⟩
   · exact⟨i,s1,⟨oo,hoo',hnn⟩,hm1⟩
theorem map_obj (H:HR E base V σ W) {id:Nat} {es:List (AV×AV)} (h:mapES (σ.get id)=some es):∃ blk,V.m id=some (blk,0)∧blk<W.heap.size∧∃ (en:Array MapEntry) (clock:Nat),W.heap[blk]?=some (.map en clock)∧VRs V (es.map (·.1)) (en.toList.map (·.key))∧VRs V (es.map (·.2)) (en.toList.map (·.val)):=by
 cases hg:σ.get id with
 |none=>rw[hg] at h;cases h
 | some o =>
  rw[hg] at h
  cases o with
  |map es'=>
   simp only[mapES,Option.some.injEq] at h;subst h
   obtain⟨blk,sh,hm,_,hlt,rfl,en,clock,h1,h2,h3⟩:=H.obj _ _ hg (by simp)
   exact⟨blk,hm,hlt,en,clock,h1,h2,h3⟩
  |cmap es' bs ck=>
   simp only[mapES,Option.some.injEq] at h;subst h
   obtain⟨blk,sh,hm,_,hlt,rfl,en,h1,h2,h3,_⟩:=H.obj _ _ hg (by simp)
   exact⟨blk,hm,hlt,en,ck,h1,h2,h3⟩
  |_=>cases h
theorem memN_eq (i:Nat):∀ l:List Nat,memN i l=l.contains i
 |[]=>rfl
 | j :: l => by
  simp only[memN,List.contains_cons]
  split
  · rename_i h;rw[Nat.eq_of_beq_eq_true h];simp
  · rename_i h
    rw[memN_eq i l]
    have:(i == j)=false:=by
     cases e:i == j with
     |false=>rfl
     |true=>have:=eq_of_beq e;subst this;rw[Nat.beq_refl] at h;cases h
    rw[this,Bool.false_or]
theorem allB_eq (last:Nat):∀ l:List Nat,allB last l=l.all fun b=>decide (b ≥ last)
 |[]=>rfl
 |b::l=>by
  simp only[allB,List.all_cons]
  split
  · rename_i h;rw[allB_eq last l,decide_eq_true (Nat.le_of_ble_eq_true h)];rfl
  · rename_i h
    rw[decide_eq_false (fun e=>by rw[Nat.ble_eq_true_of_le e] at h;cases h)];rfl
theorem left_spec {seen:List Nat}:∀ {es:List (AV×AV)} {en:List MapEntry},VRs V (es.map (·.1)) (en.map (·.key))→VRs V (es.map (·.2)) (en.map (·.val)) →
  match leftM es (en.map (·.born)) seen with
  |[]=>en.filter (fun e=>!seen.contains e.born)=[]
  |[((k,v),b)]=>∃ e,en.filter (fun e=>!seen.contains e.born)=[e]∧e.born=b∧VR V k e.key∧VR V v e.val
  |_=>True
 |[],[],_,_=>rfl
 |[],_::_,h,_=>absurd h.1 (by simp)
 |_::_,[],h,_=>absurd h.1 (by simp)
 | (k, v) :: es, e :: en, h1, h2 => by
  obtain⟨A,As,ea,hx,h1'⟩:=h1.cons_inv
  obtain⟨B,Bs,eb,hv,h2'⟩:=h2.cons_inv
  simp only[List.map_cons,List.cons.injEq] at ea eb
  obtain⟨rfl,rfl⟩:=ea
  obtain⟨rfl,rfl⟩:=eb
  have ih:=left_spec (seen:=seen) h1' h2'
  simp only[List.map_cons,leftM,memN_eq]
  cases hc:seen.contains e.born with
  |true=>simp only[hc,List.filter_cons,Bool.not_true,Bool.false_eq_true,if_false];exact ih
  |false=>
   simp only[hc,List.filter_cons,Bool.not_false,if_true]
   split
   · rename_i hh;simp at hh
   · rename_i k' v' b hh
     simp only[List.cons.injEq,Prod.mk.injEq] at hh
     obtain⟨⟨⟨rfl,rfl⟩,rfl⟩,hl⟩:=hh
     rw[hl] at ih
     exact⟨e,by rw[ih],rfl,hx,hv⟩
   · trivial
theorem lastN_eq:∀ l:List Nat,lastN l=l.getLast?
 |[]=>rfl
 |[_]=>rfl
 |_::b::l=>by rw[lastN,lastN_eq (b::l),List.getLast?_cons_cons];simp
theorem findB_spec {st:Nat}:∀ {es:List (AV×AV)} {en:List MapEntry} {e0:AV×AV},VRs V (es.map (·.1)) (en.map (·.key))→VRs V (es.map (·.2)) (en.map (·.val))→findB st es (en.map (·.born))=some e0 →
  ∃ e,en.find? (fun x=>x.born == st)=some e∧VR V e0.1 e.key∧VR V e0.2 e.val
 |[],_,_,_,_,h=>by simp[findB] at h
 |_::_,[],_,h,_,_=>absurd h.1 (by simp)
 | (k, v) :: es, e :: en, e0, h1, h2, h => by
  obtain⟨A,As,ea,hx,h1'⟩:=h1.cons_inv
  obtain⟨B,Bs,eb,hv,h2'⟩:=h2.cons_inv
  simp only[List.map_cons,List.cons.injEq] at ea eb
  obtain⟨rfl,rfl⟩:=ea
  obtain⟨rfl,rfl⟩:=eb
  simp only[List.map_cons,findB] at h
  split at h
  · rename_i hb
    simp only[Option.some.injEq] at h;subst h
    exact⟨e,by rw[List.find?_cons,show (e.born == st)=true by rw[Nat.eq_of_beq_eq_true hb];simp],hx,hv⟩
  · rename_i hb
    obtain⟨e',g1,g2,g3⟩:=findB_spec h1' h2' h
    refine⟨e',?_,g2,g3⟩
    have:(e.born == st)=false:=by
     cases q:e.born == st with
     |false=>rfl
     |true=>have:=eq_of_beq q;subst this;rw[Nat.beq_refl] at hb;cases hb
    rw[List.find?_cons,this];exact g1
variable (hE:EnvOK P E) (H:HR E base V σ W) (hb:base≤W.heap.size) (hρ:EvR V τ ρ)
include hE H hb hρ
theorem s_makeMap (t:TypeId) {r:Res} (h:op E τ σ (.makeMap t none)=some r):OpOK P E base V σ W ((execOp ρ ⟨dst,.makeMap t none,ty,pos,after,guard⟩).run P W) r:=by
 simp only[op] at h
 split at h
 · simp only [Option.some.injEq] at h; subst h
   cases hcm:E.cm with
   |false=>
    refine⟨_,_,_,?_,push_obj H hb (.map []) (.map #[] 0) ⟨rfl,_,_,heap_alloc_self _ _,.nil _,.nil _⟩,.mp σ.n W.heap.size (by simp[View.push])⟩
    simp[execOp,Instr.makeMap]
   |true=>
    refine⟨_,_,_,?_,push_obj H hb (.cmap [] [] 0) (.map #[] 0) ⟨rfl,_,heap_alloc_self _ _,.nil _,.nil _,rfl⟩,.mp σ.n W.heap.size (by simp[View.push])⟩
    simp[execOp,Instr.makeMap]
 · cases h
theorem getObj_run {blk:Nat} {o:Obj} (h:W.heap[blk]?=some o) (hc:∀ c t f,o≠.cells c t f):(getObj blk).run P W=.ok o W:=by
 cases o<;>first|exact absurd rfl (hc _ _ _)|simp only[getObj,Sem.run,h]
theorem s_range (t:TypeId) (x:Operand) {r:Res} (h:op E τ σ (.range t x)=some r):OpOK P E base V σ W ((execOp ρ ⟨dst,.range t x,ty,pos,after,guard⟩).run P W) r:=by
 simp only[op] at h
 split at h
 · rename_i s hk hx
   simp only[Option.some.injEq] at h;subst h
   obtain⟨b,hB,rfl⟩:=(hρ x _ hx).str_inv
   have hu:P.underlying t=some .string:=(hE.ty t _ hk).2
   refine⟨_,_,_,?_,push_obj H hb (.siter _ 0) (.stringIter b 0) ⟨rfl,b,heap_alloc_self _ _,rfl⟩,.iter σ.n W.heap.size (by simp[View.push])⟩
   simp[execOp,Instr.range,under_run hu,hB]
 · rename_i hk hx
   split at h
   · rename_i hget
     simp only[Option.some.injEq] at h;subst h
     obtain⟨blk,sh,hm,hbase,hlt,rfl,en,hobj,_,_,_⟩:=H.obj _ _ hget (by simp)
     obtain⟨blk',hm',hX⟩:=(hρ x _ hx).mp_inv
     rw[hm] at hm';simp only[Option.some.injEq,Prod.mk.injEq,and_true] at hm';subst hm'
     have hg:=getObj_run (P:=P) hE H hb hρ hobj (by intro c t f e;cases e)
     obtain⟨hu,_⟩:=(hE.ty t _ hk).2
     refine⟨_,_,_,?_,push_obj H hb (.miter _ _ [] _) (.mapIter (some blk) _ #[] _) ⟨rfl,blk,(H.push_le 0).m _ _ hm,heap_alloc_self _ _⟩,.iter σ.n W.heap.size (by simp[View.push])⟩
     simp[execOp,Instr.range,under_run hu,hX,hg]
   · cases h
 · cases h
theorem setObj_run {blk:Nat} {o o':Obj} (h:W.heap[blk]?=some o) (hc:∀ c t f,o≠.cells c t f):(setObj blk o').run P W=.ok () { W with heap:=W.heap.setIfInBounds blk o' }:=by
 cases o<;>first|exact absurd rfl (hc _ _ _)|simp only[setObj,Sem.run,h]
theorem upd_obj {id blk:Nat} {o o':AO} {obj obj':Obj} (hid:σ.get id=some o) (hne:o≠.gone) (hm:V.m id=some (blk,0)) (hobj:W.heap[blk]?=some obj) (hnc:∀ c t f,obj≠.cells c t f)
  (ho:OR V { W with heap:=W.heap.setIfInBounds blk obj' } blk 0 o'):Stp E base V σ W V (σ.set id o') { W with heap:=W.heap.setIfInBounds blk obj' }:=by
 have hlt:blk<W.heap.size:=(Array.getElem?_eq_some_iff.1 hobj).1
 have hK:∀ i v,V.K blk i=some v→False:=by
  intro i v hk
  have:=H.cell _ _ _ hk
  simp only[World.cell?,hobj] at this
  cases obj<;>first|(simp at this;done)|exact hnc _ _ _ rfl
 refine⟨View.le.refl V,rfl,fun _ _ _ h=>.inl h,?_,⟨rfl,rfl,rfl,by simp,fun b hb hO=>?_⟩,fun b hO=>.inl ?_,fun id _ s h=>.inl ⟨id,s,h⟩,fun _ _ h=>.inl h,Nat.le_refl _⟩
 · refine H.upd hid hne hm (by simp) (fun b hb => ?_) (fun i v hk => (hK i v hk).elim) ho
   simp only[Array.getElem?_setIfInBounds];rw[if_neg (by omega)]
 · simp only [Array.getElem?_setIfInBounds]
   rw[if_neg (fun (e:blk=b)=>hO ⟨id,0,⟨o,hid,hne⟩,e▸hm⟩)]
 · obtain ⟨i, s1, ⟨oo, hoo, hnn⟩, hm1⟩ := hO
   rcases Hp.get_set hoo with ⟨rfl,_⟩|⟨_,hoo'⟩
   · exact⟨i,s1,⟨o,hid,hne⟩,hm1⟩
   · exact⟨i,s1,⟨oo,hoo',hnn⟩,hm1⟩
theorem s_next (x : Operand) {r : Res} (h : op E τ σ (.next x true) = some r) : OpOK P E base V σ W ((execOp ρ ⟨dst, .next x true, ty, pos, after, guard⟩).run P W) r := by
 simp only[op] at h
 split at h
 · rename_i id hx
   split at h
   · rename_i s p hget
     obtain⟨blk,sh,hm,hbase,hlt,rfl,b,hobj,rfl⟩:=H.obj _ _ hget (by simp)
     have hX:ρ x=.pointer (some ⟨blk,0,none⟩):=by
      have:=hρ x _ hx
      generalize ρ x=X at this
      cases this with
      |iter _ blk' hm'=>rw[hm] at hm';simp only[Option.some.injEq,Prod.mk.injEq,and_true] at hm';subst hm';rfl
     have hg:=getObj_run (P:=P) hE H hb hρ hobj (by intro c t f e;cases e)
     split at h
     · rename_i bt hbt
       obtain⟨hj,hbn⟩:=bytes_get b p bt hbt
       split at h
       · rename_i h127
         have h127':=Nat.le_of_ble_eq_true h127
         simp only[Option.some.injEq] at h;subst h
         have hdec:=decode_ascii b p hj (by omega)
         have hset:=setObj_run (P:=P) hE H hb hρ hobj (by intro c t f e;cases e) (o':=.stringIter b (p+1))
         refine⟨V,_,.tuple #[.bool true,.int .i64 p,.int .i32 (Int.ofNat bt)],?_,upd_obj hE H hb hρ hget (by simp) hm hobj (by intro c t f e;cases e) (obj':=.stringIter b (p+1)) ⟨rfl,b,?_,rfl⟩,?_⟩
         · simp[execOp,Instr.next,hX,hg,hj,hdec,hset,goInt,hbn]
         · simp[hlt]
         · exact VR.tup' (A:=[.bool true,.int .i64 p,.int .i32 (Int.ofNat bt)]) (.cons (.bool _) (.cons (.int _ _) (.cons (.int _ _) (.nil _))))
       · simp only [Option.some.injEq] at h; subst h
         rw[decN_eq]
         have hset:=setObj_run (P:=P) hE H hb hρ hobj (by intro c t f e;cases e) (o':=.stringIter b (p+(Utf8.decode b p).2))
         refine⟨V,_,.tuple #[.bool true,.int .i64 p,.int .i32 (Int.ofNat (Utf8.decode b p).1)],?_,upd_obj hE H hb hρ hget (by simp) hm hobj (by intro c t f e;cases e) (obj':=.stringIter b (p+(Utf8.decode b p).2)) ⟨rfl,b,?_,rfl⟩,?_⟩
         · simp[execOp,Instr.next,hX,hg,hj,hset,goInt]
         · simp[hlt]
         · exact VR.tup' (A:=[.bool true,.int .i64 p,.int .i32 (Int.ofNat (Utf8.decode b p).1)]) (.cons (.bool _) (.cons (.int _ _) (.cons (.int _ _) (.nil _))))
     · rename_i hbt
       simp only[Option.some.injEq] at h;subst h
       have hnj:¬ p<b.size:=by
        intro hj
        have:(b.data.toList.map (·.toNat)).length=b.size:=by simp only[List.length_map];rfl
        rw[List.getElem?_eq_none_iff] at hbt;omega
       refine .same H (v':=.tuple #[.bool false]) ?_ (VR.tup' (A:=[.bool false]) (.cons (.bool _) (.nil _)))
       simp[execOp,Instr.next,hX,hg,hnj]
   · cases h
 · cases h
theorem s_nextM (x : Operand) {r : Res} (h : op E τ σ (.next x false) = some r) : OpOK P E base V σ W ((execOp ρ ⟨dst, .next x false, ty, pos, after, guard⟩).run P W) r := by
 simp only[op] at h
 split at h
 · rename_i id hx
   split at h
   · rename_i m since seen last hget
     split at h
     · rename_i es bs ck hgm
       obtain⟨blk,sh,hm,hbase,hlt,rfl,mb,hmb,hobj⟩:=H.obj _ _ hget (by simp)
       obtain⟨blk2,sh2,hm2,_,hlt2,rfl,en,hobj2,hv1,hv2,rfl⟩:=H.obj _ _ hgm (by simp)
       rw[hmb] at hm2;simp only[Option.some.injEq,Prod.mk.injEq,and_true] at hm2;subst hm2
       have hX:ρ x=.pointer (some ⟨blk,0,none⟩):=by
        have:=hρ x _ hx
        generalize ρ x=X at this
        cases this with
        |iter _ blk' hm'=>rw[hm] at hm';simp only[Option.some.injEq,Prod.mk.injEq,and_true] at hm';subst hm';rfl
       have hg:=getObj_run (P:=P) hE H hb hρ hobj (by intro c t f e;cases e)
       have hg2:=getObj_run (P:=P) hE H hb hρ hobj2 (by intro c t f e;cases e)
       unfold nextM at h
       split at h
       · cases h
       · rename_i hcond
         have hc:(!seen.toArray.isEmpty&&!en.isEmpty&&en.all (fun e=>decide (e.born ≥ last)))=false:=by
          cases seen with
          |nil=>rfl
          | cons a seen =>
           cases hes:es with
           |nil=>
            subst hes
            have:en.toList.length=0:=by have:=hv1.1;simpa using this.symm
            have:en=#[]:=Array.toList_eq_nil_iff.1 (List.eq_nil_of_length_eq_zero this)
            subst this;simp
           | cons y es' =>
            rw[hes] at hcond
            simp only[allB_eq] at hcond
            have:en.all (fun e=>decide (e.born ≥ last))=false:=by
             rw[← Array.all_toList]
             rw[List.all_map] at hcond
             exact hcond
            rw[this,Bool.and_false]
         have hls:=left_spec (V:=V) (seen:=seen) hv1 hv2
         have hfilt:en.filter (fun e=>!seen.toArray.contains e.born)=(en.toList.filter fun e=>!seen.contains e.born).toArray:=by
          apply Array.ext'
          rw[Array.toList_filter]
          simp
         split at h
         · rename_i hl
           simp only[Option.some.injEq] at h;subst h
           rw[hl] at hls
           refine .same H (v':=.tuple #[.bool false]) ?_ (VR.tup' (A:=[.bool false]) (.cons (.bool _) (.nil _)))
           have hf0:en.filter (fun e=>!seen.toArray.contains e.born)=#[]:=by rw[hfilt,hls]
           simp only[execOp,Instr.next,hX,Sem.run_bind,hg,hg2,Result.andThen_ok,hc,Bool.false_eq_true,if_false,hf0]
           simp[run_choose,Question.forced]
         · rename_i k v b hl
           split at h
           · cases h
           · rename_i hbs
             simp only[Option.some.injEq] at h;subst h
             rw[hl] at hls
             obtain⟨e,hfe,rfl,hk,hv⟩:=hls
             have hlt3:e.born<since:=by
              have:¬ since≤e.born:=fun e'=>by rw[Nat.ble_eq_true_of_le e'] at hbs;cases hbs
              omega
             have hf1:en.filter (fun e=>!seen.toArray.contains e.born)=#[e]:=by rw[hfilt,hfe]
             have hset:=setObj_run (P:=P) hE H hb hρ hobj (by intro c t f e;cases e) (o':=.mapIter (some mb) since (seen++[e.born]).toArray ck)
             refine⟨V,_,.tuple #[.bool true,e.key,e.val],?_,upd_obj hE H hb hρ hget (by simp) hm hobj (by intro c t f e;cases e) (obj':=.mapIter (some mb) since (seen++[e.born]).toArray ck) ⟨rfl,mb,hmb,?_⟩,?_⟩
             · have o1 : (#[e] : Array MapEntry).filter (fun x => decide (x.born < since)) = #[e] := by simp [hlt3]
               have o2:(#[e]:Array MapEntry).filter (fun x=>decide (x.born ≥ since))=#[]:=by simp[hlt3]
               simp only[execOp,Instr.next,hX,Sem.run_bind,hg,hg2,Result.andThen_ok,hc,Bool.false_eq_true,if_false,hf1,o1,o2]
               simp[run_choose,Question.forced,hset]
             · simp[hlt]
             · exact VR.tup' (A:=[.bool true,e.key,e.val]) (.cons (.bool _) (.cons hk (.cons hv (.nil _))))
         · cases h
     · cases h
   · cases h
 · cases h
theorem s_entry (x : Operand) {r : Res} (h : op E τ σ (.entry x) = some r) : OpOK P E base V σ W ((execOp ρ ⟨dst, .entry x, ty, pos, after, guard⟩).run P W) r := by
 simp only[op] at h
 split at h
 · rename_i id hx
   split at h
   · rename_i m since seen last hget
     split at h
     · rename_i es bs ck st hgm hst
       obtain⟨blk,sh,hm,hbase,hlt,rfl,mb,hmb,hobj⟩:=H.obj _ _ hget (by simp)
       obtain⟨blk2,sh2,hm2,_,hlt2,rfl,en,hobj2,hv1,hv2,rfl⟩:=H.obj _ _ hgm (by simp)
       rw[hmb] at hm2;simp only[Option.some.injEq,Prod.mk.injEq,and_true] at hm2;subst hm2
       have hX:ρ x=.pointer (some ⟨blk,0,none⟩):=by
        have:=hρ x _ hx
        generalize ρ x=X at this
        cases this with
        |iter _ blk' hm'=>rw[hm] at hm';simp only[Option.some.injEq,Prod.mk.injEq,and_true] at hm';subst hm';rfl
       have hg:=getObj_run (P:=P) hE H hb hρ hobj (by intro c t f e;cases e)
       have hg2:=getObj_run (P:=P) hE H hb hρ hobj2 (by intro c t f e;cases e)
       split at h
       · rename_i hck
         have hck:=Nat.eq_of_beq_eq_true hck
         subst hck
         split at h
         · rename_i e0 hf
           simp only[Option.some.injEq] at h;subst h
           obtain⟨e,he,hk,hv⟩:=findB_spec (V:=V) hv1 hv2 hf
           have hback:seen.toArray.back?=some st:=by rw[List.back?_toArray,← lastN_eq,hst]
           have hfind:en.find? (fun x=>x.born == st)=some e:=by rw[← Array.find?_toList,he]
           refine .same H (v':=.tuple #[e.key,e.val]) ?_ (VR.tup' (A:=[e.key,e.val]) (.cons hk (.cons hv (.nil _))))
           simp[execOp,Instr.entry,hX,hg,hg2,hback,hfind]
         · cases h
       · cases h
     · cases h
   · cases h
 · cases h
end
end Go.Eng


namespace Go.Eng
open Go
section
variable {P:Program} {E:Env} {base:Nat} {V:View} {σ:Hp} {W:World} {τ:Tmps} {ρ:Operand→Value}
variable {dst:Option Tmp} {ty:TypeId} {pos:String} {after:Array Edge} {guard:Option (Nat×Bool)}
theorem zero_run (hE:EnvOK P E) {t:Nat} {z:AV} (h:E.zero t=some z) (W:World):∃ v,(zeroValue t).run P W=.ok v W∧Const z v:=by
 obtain⟨i,v,hi,hv,hc,_,_⟩:=hE.zero t z h
 exact⟨v,by simp[zeroValue,typeInfo,hi,hv],hc⟩
variable (hE:EnvOK P E) (H:HR E base V σ W) (hb:base≤W.heap.size) (hρ:EvR V τ ρ)
include hE H hb hρ
theorem s_lookup (t : TypeId) (x k : Operand) (ok : Bool) {r : Res} (h : op E τ σ (.lookup t x k ok) = some r) : OpOK P E base V σ W ((execOp ρ ⟨dst, .lookup t x k ok, ty, pos, after, guard⟩).run P W) r := by
 simp only[op] at h
 split at h
 · rename_i ke e m kv kt hk hx hkk hkt
   split at h
   · rename_i es z hes hz
     obtain⟨e',hu,_,hk',hfk⟩:=findK_run (V:=V) hE hkt
     rw[hk] at hk';simp only[Option.some.injEq,KT.map.injEq] at hk';obtain⟨rfl,rfl⟩:=hk'
     obtain⟨zv,hzr,hzc⟩:=zero_run hE hz W
     have hkv:=hρ k _ hkk
     have hen:∃ en:Array MapEntry,VRs V (es.map (·.1)) (en.toList.map (·.key))∧VRs V (es.map (·.2)) (en.toList.map (·.val)) ∧
       ((ρ x=.map none∧en=#[])∨∃ blk clock,ρ x=.map (some blk)∧(getObj blk).run P W=.ok (.map en clock) W):=by
      have hm:=hρ x _ hx
      split at hes
      · simp only [Option.some.injEq] at hes; subst hes
        refine⟨#[],.nil V,.nil V,.inl ⟨?_,rfl⟩⟩
        generalize ρ x=X at hm
        cases hm;rfl
      · rename_i id
        obtain⟨blk,hmm,hlt,en,clock,hobj,hv1,hv2⟩:=map_obj H hes
        obtain⟨blk',hm',hX⟩:=hm.mp_inv
        rw[hmm] at hm';simp only[Option.some.injEq,Prod.mk.injEq,and_true] at hm';subst hm'
        exact⟨en,hv1,hv2,.inr ⟨blk,clock,hX,getObj_run (P:=P) hE H hb hρ hobj (by intro c t f e;cases e)⟩⟩
      · cases hes
     obtain⟨en,hv1,hv2,hrun⟩:=hen
     split at h
     · rename_i j y hf
       simp only[Option.some.injEq] at h;subst h
       obtain⟨hck0,hfr⟩:=hfk hkv hv1 hv2 hf
       have hck:=fun b=>hck0 b W
       obtain⟨R,hR,hlt,X,rfl,hvX,_⟩:=hfr W
       cases ok
       · refine .same H (v' := X) ?_ hvX
         rcases hrun with ⟨hX,rfl⟩|⟨blk,clock,hX,hg⟩
         · simp only[execOp,Instr.lookup,Sem.run_bind,under_run hu,Result.andThen_ok,hX,pure_bind,hck,hR,Sem.run_pure];rfl
         · simp only[execOp,Instr.lookup,Sem.run_bind,under_run hu,Result.andThen_ok,hX,hg,pure_bind,hck,hR,Sem.run_pure];rfl
       · refine .same H (v' := .tuple #[X, .bool true]) ?_ (VR.tup' (A := [X, .bool true]) (.cons hvX (.cons (.bool _) (.nil _))))
         rcases hrun with ⟨hX,rfl⟩|⟨blk,clock,hX,hg⟩
         · simp only[execOp,Instr.lookup,Sem.run_bind,under_run hu,Result.andThen_ok,hX,pure_bind,hck,hR,Sem.run_pure];rfl
         · simp only[execOp,Instr.lookup,Sem.run_bind,under_run hu,Result.andThen_ok,hX,hg,pure_bind,hck,hR,Sem.run_pure];rfl
     · rename_i hf
       simp only[Option.some.injEq] at h;subst h
       obtain⟨hck0,hfr⟩:=hfk hkv hv1 hv2 hf
       have hck:=fun b=>hck0 b W
       obtain⟨R,hR,rfl⟩:=hfr W
       cases ok
       · refine .same H (v' := zv) ?_ (hzc V)
         rcases hrun with ⟨hX,rfl⟩|⟨blk,clock,hX,hg⟩
         · simp only[execOp,Instr.lookup,Sem.run_bind,under_run hu,Result.andThen_ok,hX,pure_bind,hck,hR,hzr,Sem.run_pure];rfl
         · simp only[execOp,Instr.lookup,Sem.run_bind,under_run hu,Result.andThen_ok,hX,hg,pure_bind,hck,hR,hzr,Sem.run_pure];rfl
       · refine .same H (v' := .tuple #[zv, .bool false]) ?_ (VR.tup' (A := [zv, .bool false]) (.cons (hzc V) (.cons (.bool _) (.nil _))))
         rcases hrun with ⟨hX,rfl⟩|⟨blk,clock,hX,hg⟩
         · simp only[execOp,Instr.lookup,Sem.run_bind,under_run hu,Result.andThen_ok,hX,pure_bind,hck,hR,hzr,Sem.run_pure];rfl
         · simp only[execOp,Instr.lookup,Sem.run_bind,under_run hu,Result.andThen_ok,hX,hg,pure_bind,hck,hR,hzr,Sem.run_pure];rfl
     · cases h
   · cases h
 · cases h
theorem mapUpdate_run {t:TypeId} {m k x:Operand} {r:Res} (h:op E τ σ (.mapUpdate t m k x)=some r) :
  ∃ σ' W',r=.skip σ'∧(Instr.mapUpdate t (ρ m) (ρ k) (ρ x)).run P W=.ok () W'∧Stp E base V σ W V σ' W':=by
 simp only[op] at h
 split at h
 · rename_i id kv xv kt hm hk hx hkt
   split at h
   · rename_i es hget
     obtain⟨es',hes',rfl⟩:=Option.map_eq_some_iff.1 h
     obtain⟨e',hu,_,hk',hfk⟩:=findK_run (V:=V) hE hkt
     obtain⟨blk,sh,hmm,hbase,hlt,rfl,en,clock,hobj,hv1,hv2⟩:=H.obj _ _ hget (by simp)
     obtain⟨blk',hm',hX⟩:=(hρ m _ hm).mp_inv
     rw[hmm] at hm';simp only[Option.some.injEq,Prod.mk.injEq,and_true] at hm';subst hm'
     have hkv:=hρ k _ hk
     have hxv:=hρ x _ hx
     have hg:=getObj_run (P:=P) hE H hb hρ hobj (by intro c t f e;cases e)
     unfold mapSet at hes'
     split at hes'
     · rename_i j y hf
       simp only[Option.some.injEq] at hes';subst hes'
       obtain⟨hck0,hfr⟩:=hfk hkv hv1 hv2 hf
       have hck:=hck0 false W
       obtain⟨R,hR,hjlt,X,rfl,hvX,e,he,hsb⟩:=hfr W
       have hset:=setObj_run (P:=P) hE H hb hρ hobj (by intro c t f e;cases e) (o':=.map (en.modify j fun e=>{ e with key:=ρ k,val:=ρ x }) clock)
       refine⟨_,_,rfl,?_,upd_obj hE H hb hρ hget (by simp) hmm hobj (by intro c t f e;cases e) (obj':=.map (en.modify j fun e=>{ e with key:=ρ k,val:=ρ x }) clock) ⟨rfl,en.modify j fun e=>{ e with key:=ρ k,val:=ρ x },clock,?_,?_,?_⟩⟩
       · have hkey : (Instr.keyThatStays (((en[j]?).map (·.key)).getD (ρ k)) (ρ k)).run P W = .ok (ρ k) W := by
          rw[← Array.getElem?_toList,he]
          simp only[Option.map_some,Option.getD_some,Instr.keyThatStays,hsb,if_true,Sem.run_pure]
         simp only[Instr.mapUpdate,Sem.run_bind,under_run hu,Result.andThen_ok,hX,hg,hck,hR,hkey,hset]
       · simp[hlt]
       · have := hv1.set hkv j
         rw[show (es.set j (kv,xv)).map (·.1)=(es.map (·.1)).set j kv by simp[List.map_set]]
         rw[show ((en.modify j fun e=>{ e with key:=ρ k,val:=ρ x }).toList.map (·.key))=(en.toList.map (·.key)).set j (ρ k) by
          simp only[Array.toList_modify]
          apply List.ext_getElem? ;intro i
          simp only[List.getElem?_map,List.getElem?_modify,List.getElem?_set,List.length_map]
          by_cases e:j=i
          · subst e;simp only[if_true];cases hh:en.toList[j]?<;>simp_all
          · simp[e]]
         exact this
       · have := hv2.set hxv j
         rw[show (es.set j (kv,xv)).map (·.2)=(es.map (·.2)).set j xv by simp[List.map_set]]
         rw[show ((en.modify j fun e=>{ e with key:=ρ k,val:=ρ x }).toList.map (·.val))=(en.toList.map (·.val)).set j (ρ x) by
          simp only[Array.toList_modify]
          apply List.ext_getElem? ;intro i
          simp only[List.getElem?_map,List.getElem?_modify,List.getElem?_set,List.length_map]
          by_cases e:j=i
          · subst e;simp only[if_true];cases hh:en.toList[j]?<;>simp_all
          · simp[e]]
         exact this
     · rename_i hf
       simp only[Option.some.injEq] at hes';subst hes'
       obtain⟨hck0,hfr⟩:=hfk hkv hv1 hv2 hf
       have hck:=hck0 false W
       obtain⟨R,hR,rfl⟩:=hfr W
       have hset:=setObj_run (P:=P) hE H hb hρ hobj (by intro c t f e;cases e) (o':=.map (en.push { key:=ρ k,val:=ρ x,born:=clock }) (clock+1))
       refine⟨_,_,rfl,?_,upd_obj hE H hb hρ hget (by simp) hmm hobj (by intro c t f e;cases e) (obj':=.map (en.push { key:=ρ k,val:=ρ x,born:=clock }) (clock+1)) ⟨rfl,en.push { key:=ρ k,val:=ρ x,born:=clock },clock+1,?_,?_,?_⟩⟩
       · simp only[Instr.mapUpdate,Sem.run_bind,under_run hu,Result.andThen_ok,hX,hg,hck,hR,hset]
       · simp[hlt]
       · have := hv1.append (.cons hkv (.nil V))
         simpa using this
       · have := hv2.append (.cons hxv (.nil V))
         simpa using this
     · cases hes'
   · rename_i es bs ck hget
     obtain⟨o',hes',rfl⟩:=Option.map_eq_some_iff.1 h
     obtain⟨e',hu,_,hk',hfk⟩:=findK_run (V:=V) hE hkt
     obtain⟨blk,sh,hmm,hbase,hlt,rfl,en,hobj,hv1,hv2,hbs⟩:=H.obj _ _ hget (by simp)
     obtain⟨blk',hm',hX⟩:=(hρ m _ hm).mp_inv
     rw[hmm] at hm';simp only[Option.some.injEq,Prod.mk.injEq,and_true] at hm';subst hm'
     have hkv:=hρ k _ hk
     have hxv:=hρ x _ hx
     have hg:=getObj_run (P:=P) hE H hb hρ hobj (by intro c t f e;cases e)
     unfold mapSetC at hes'
     split at hes'
     · rename_i j y hf
       simp only[Option.some.injEq] at hes';subst hes'
       obtain⟨hck0,hfr⟩:=hfk hkv hv1 hv2 hf
       have hck:=hck0 false W
       obtain⟨R,hR,hjlt,X,rfl,hvX,e,he,hsb⟩:=hfr W
       have hset:=setObj_run (P:=P) hE H hb hρ hobj (by intro c t f e;cases e) (o':=.map (en.modify j fun e=>{ e with key:=ρ k,val:=ρ x }) ck)
       refine⟨_,_,rfl,?_,upd_obj hE H hb hρ hget (by simp) hmm hobj (by intro c t f e;cases e) (obj':=.map (en.modify j fun e=>{ e with key:=ρ k,val:=ρ x }) ck) ⟨rfl,en.modify j fun e=>{ e with key:=ρ k,val:=ρ x },?_,?_,?_,?_⟩⟩
       · have hkey : (Instr.keyThatStays (((en[j]?).map (·.key)).getD (ρ k)) (ρ k)).run P W = .ok (ρ k) W := by
          rw[← Array.getElem?_toList,he]
          simp only[Option.map_some,Option.getD_some,Instr.keyThatStays,hsb,if_true,Sem.run_pure]
         simp only[Instr.mapUpdate,Sem.run_bind,under_run hu,Result.andThen_ok,hX,hg,hck,hR,hkey,hset]
       · simp[hlt]
       · have := hv1.set hkv j
         rw[show (es.set j (kv,xv)).map (·.1)=(es.map (·.1)).set j kv by simp[List.map_set]]
         rw[show ((en.modify j fun e=>{ e with key:=ρ k,val:=ρ x }).toList.map (·.key))=(en.toList.map (·.key)).set j (ρ k) by
          simp only[Array.toList_modify]
          apply List.ext_getElem? ;intro i
          simp only[List.getElem?_map,List.getElem?_modify,List.getElem?_set,List.length_map]
          by_cases e:j=i
          · subst e;simp only[if_true];cases hh:en.toList[j]?<;>simp_all
          · simp[e]]
         exact this
       · have := hv2.set hxv j
         rw[show (es.set j (kv,xv)).map (·.2)=(es.map (·.2)).set j xv by simp[List.map_set]]
         rw[show ((en.modify j fun e=>{ e with key:=ρ k,val:=ρ x }).toList.map (·.val))=(en.toList.map (·.val)).set j (ρ x) by
          simp only[Array.toList_modify]
          apply List.ext_getElem? ;intro i
          simp only[List.getElem?_map,List.getElem?_modify,List.getElem?_set,List.length_map]
          by_cases e:j=i
          · subst e;simp only[if_true];cases hh:en.toList[j]?<;>simp_all
          · simp[e]]
         exact this
       · rw [hbs]
         simp only[Array.toList_modify]
         apply List.ext_getElem?;intro i
         simp only[List.getElem?_map,List.getElem?_modify]
         by_cases e:j=i
         · subst e;cases hh:en.toList[j]?<;>simp_all
         · simp[e]
     · rename_i hf
       simp only[Option.some.injEq] at hes';subst hes'
       obtain⟨hck0,hfr⟩:=hfk hkv hv1 hv2 hf
       have hck:=hck0 false W
       obtain⟨R,hR,rfl⟩:=hfr W
       have hset:=setObj_run (P:=P) hE H hb hρ hobj (by intro c t f e;cases e) (o':=.map (en.push { key:=ρ k,val:=ρ x,born:=ck }) (ck+1))
       refine⟨_,_,rfl,?_,upd_obj hE H hb hρ hget (by simp) hmm hobj (by intro c t f e;cases e) (obj':=.map (en.push { key:=ρ k,val:=ρ x,born:=ck }) (ck+1)) ⟨rfl,en.push { key:=ρ k,val:=ρ x,born:=ck },?_,?_,?_,?_⟩⟩
       · simp only[Instr.mapUpdate,Sem.run_bind,under_run hu,Result.andThen_ok,hX,hg,hck,hR,hset]
       · simp[hlt]
       · have := hv1.append (.cons hkv (.nil V))
         simpa using this
       · have := hv2.append (.cons hxv (.nil V))
         simpa using this
       · rw[hbs];simp
     · cases hes'
   · cases h
 · cases h
theorem s_mapUpdate (t:TypeId) (m k x:Operand) {r:Res} (h:op E τ σ (.mapUpdate t m k x)=some r):OpOK P E base V σ W ((execOp ρ ⟨dst,.mapUpdate t m k x,ty,pos,after,guard⟩).run P W) r:=by
 obtain⟨σ',W',rfl,hrun,hst⟩:=mapUpdate_run hE H hb hρ h
 exact⟨V,W',by simp only[execOp,Sem.run_bind,hrun];rfl,hst⟩
theorem s_insert (t:TypeId) (m k x:Operand) {r:Res} (h:op E τ σ (.insert t m k x)=some r):OpOK P E base V σ W ((execOp ρ ⟨dst,.insert t m k x,ty,pos,after,guard⟩).run P W) r:=by
 obtain⟨σ',W',rfl,hrun,hst⟩:=mapUpdate_run hE H hb hρ (t:=t) (m:=m) (k:=k) (x:=x) h
 exact⟨V,W',by simp only[execOp,Sem.run_bind,hrun];rfl,hst⟩
end
end Go.Eng

