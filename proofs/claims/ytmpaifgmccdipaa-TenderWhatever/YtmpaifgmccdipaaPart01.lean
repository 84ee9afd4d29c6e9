/-
  THE ENGINE: one more part of it.
-/
import Derived.Test.YtmpaifgmccdipaaPart00
import Derived.Laws.BytesString
import Derived.Control
set_option linter.unusedSectionVars false
set_option linter.unusedSimpArgs false
set_option linter.unusedVariables false
namespace Go.Eng
open Go
section
variable {P:Program} {E:Env} {base:Nat} {V:View} {σ:Hp} {W:World} {τ:Tmps} {ρ:Operand→Value}
variable {dst:Option Tmp} {ty:TypeId} {pos:String} {after:Array Edge} {guard:Option (Nat×Bool)}
theorem HR.grow (H:HR E base V σ W) {V':View} {W':World} (hle:V.le V') (hm:V'.m=V.m) (hN:V'.N=V.N) (hK:∀ b o v,V'.K b o=some v→V.K b o=some v∨(W.heap.size≤b∧W'.cell? ⟨b,o,none⟩=some v))
  (hW:∀ b,b<W.heap.size→W'.heap[b]?=W.heap[b]?) (hs:W.heap.size≤W'.heap.size):HR E base V' σ W':=by
 refine⟨fun b o v hk=>?_,fun g l hg=>?_,fun id o hid hne=>?_,fun id id' blk s s' h1 h2 h3 h4=>?_,fun id x hx=>?_,fun id o hid=>by rw[hm];exact H.all _ _ hid⟩
 · rcases hK b o v hk with h | h
   · have := H.cell _ _ _ h
     rw[cell_of_heap (hW b (block_lt this))];exact this
   · exact h.2
 · obtain ⟨f, hf⟩ := H.glob g l hg
   exact⟨f,fun i hi=>⟨hle.K _ _ _ (hf i hi).1,(hf i hi).2.mono (View.bare_mono hle.K)⟩⟩
 · obtain ⟨blk, s, h1, h2, h3, h4⟩ := H.obj id o hid hne
   refine⟨blk,s,by rw[hm];exact h1,h2,by omega,h4.mono hle (by rw[hN]) (fun i v hk=>?_) (hW blk h3)⟩
   rcases hK _ _ _ hk with h|h
   · exact h
   · omega
 · rw[hm] at h3 h4;exact H.inj _ _ _ _ _ h1 h2 h3 h4
 · rw[hm] at hx;have:=H.fresh _ _ hx;exact⟨this.1,by omega⟩
theorem HR.drew (H:HR E base V σ W):HR E base V σ W.drew:=H.grow (View.le.refl V) rfl rfl (fun _ _ _ h=>.inl h) (fun _ _=>rfl) (Nat.le_refl _)
variable (hE:EnvOK P E) (H:HR E base V σ W) (hb:base≤W.heap.size) (hρ:EvR V τ ρ)
include hE H hb hρ
theorem s_typeAssert (x:Operand) (t a:TypeId) (ok:Bool) {r:Res} (h:op E τ σ (.typeAssert x t a ok)=some r):OpOK P E base V σ W ((execOp ρ ⟨dst,.typeAssert x t a ok,ty,pos,after,guard⟩).run P W) r:=by
 simp only[op] at h
 split at h
 · cases h
 · rename_i k hni hk hx
   obtain⟨d,hd,hkd⟩:=kdesc hE hk
   have hnd:∀ ms,d≠.interface ms:=by
    intro ms e;subst e
    cases k<;>simp only[ktDesc] at hkd
    case ifc b=>exact hni b rfl
    all_goals first|(cases hkd;done)|(obtain⟨_,e⟩:=hkd;cases e;done)|(obtain⟨_,_,_,e⟩:=hkd;cases e;done)|(obtain⟨_,e,_⟩:=hkd;cases e;done)
   have hX:ρ x=.nilIface:=by
    have:=hρ x _ hx
    generalize ρ x=X at this
    cases this;rfl
   split at h
   · rename_i z hz
     simp only[Option.some.injEq] at h;subst h
     obtain⟨zv,hzr,hzc⟩:=zero_run hE hz W
     refine .same H (v':=.tuple #[zv,.bool false]) ?_ (VR.tup' (A:=[zv,.bool false]) (.cons (hzc V) (.cons (.bool _) (.nil _))))
     simp only[execOp,Instr.typeAssert,Sem.run_bind,under_run hd,Result.andThen_ok,hX]
     cases d<;>first|exact absurd rfl (hnd _)|(simp only[if_true,Sem.run_bind,hzr,Result.andThen_ok,Sem.run_pure])
   · cases h
 · rename_i k t' y hni hk hx
   obtain⟨d,hd,hkd⟩:=kdesc hE hk
   have hnd:∀ ms,d≠.interface ms:=by
    intro ms e;subst e
    cases k<;>simp only[ktDesc] at hkd
    case ifc b=>exact hni b rfl
    all_goals first|(cases hkd;done)|(obtain⟨_,e⟩:=hkd;cases e;done)|(obtain⟨_,_,_,e⟩:=hkd;cases e;done)|(obtain⟨_,e,_⟩:=hkd;cases e;done)
   obtain⟨Y,hX,hY⟩:∃ Y,ρ x=.iface t' Y∧VR V y Y:=by
    have:=hρ x _ hx
    generalize ρ x=X at this
    cases this with
    |ifc _ _ Y hY=>exact⟨Y,rfl,hY⟩
   split at h
   · rename_i hta
     have hta':=Nat.eq_of_beq_eq_true hta
     simp only[Option.some.injEq] at h;subst h
     cases ok
     · refine .same H (v' := Y) ?_ hY
       simp only[execOp,Instr.typeAssert,Sem.run_bind,under_run hd,Result.andThen_ok,hX]
       cases d<;>first|exact absurd rfl (hnd _)|(simp only[hta',if_true,Sem.run_pure,Result.andThen_ok];rfl)
     · refine .same H (v' := .tuple #[Y, .bool true]) ?_ (VR.tup' (A := [Y, .bool true]) (.cons hY (.cons (.bool _) (.nil _))))
       simp only[execOp,Instr.typeAssert,Sem.run_bind,under_run hd,Result.andThen_ok,hX]
       cases d<;>first|exact absurd rfl (hnd _)|(simp only[hta',if_true,Sem.run_pure,Result.andThen_ok])
   · rename_i hta
     have hta':¬ t'=a:=Nat.ne_of_beq_eq_false hta
     split at h
     · rename_i z hz
       simp only[Option.some.injEq] at h;subst h
       obtain⟨zv,hzr,hzc⟩:=zero_run hE hz W
       refine .same H (v':=.tuple #[zv,.bool false]) ?_ (VR.tup' (A:=[zv,.bool false]) (.cons (hzc V) (.cons (.bool _) (.nil _))))
       simp only[execOp,Instr.typeAssert,Sem.run_bind,under_run hd,Result.andThen_ok,hX]
       cases d<;>first|exact absurd rfl (hnd _)|(simp only[hta',if_false,if_true,Sem.run_bind,hzr,Result.andThen_ok,Sem.run_pure])
     · cases h
 · cases h
theorem s_makeSlice (t : TypeId) (l c : Operand) {r : Res} (h : op E τ σ (.makeSlice t l c) = some r) : OpOK P E base V σ W ((execOp ρ ⟨dst, .makeSlice t l c, ty, pos, after, guard⟩).run P W) r := by
 simp only[op] at h
 split at h
 · rename_i e n m hk hl hc
   split at h
   · rename_i z h1 h2 hz
     have h1':=Nat.le_of_ble_eq_true h1
     simp only[Bool.and_eq_true] at h2
     have h2':=Nat.le_of_ble_eq_true h2.1
     have h3':=Nat.le_of_ble_eq_true h2.2
     simp only[Option.some.injEq] at h;subst h
     obtain⟨i,v,hi,hv,hcn,hsz,hse⟩:=hE.zero e z hz
     obtain⟨hu,_,⟨i',hi',hby⟩⟩:=(hE.ty t _ hk).2
     rw[hi] at hi';simp only[Option.some.injEq] at hi';subst hi'
     have hs:=elem_size (W:=W) hE H hb hρ hk (.inl rfl)
     have hcells:=(hcn V).cells
     have hvs:v.cells.size=E.size e:=by rw[hsz,hse]
     let row:Nat→Array Value:=fun m=>(Array.range (m * E.size e)).map fun i=>v.cells[i % v.cells.size]!
     have hrow:∀ m,(row m).toList=(List.range (m * v.cells.size)).map fun i=>v.cells[i % v.cells.size]!:=by
      intro m;rw[hvs];simp[row,hvs]
     refine⟨_,W.alloc (.cells (row m) e),.slice (some ⟨W.heap.size,0,none⟩) n m,?_,push_cells H hb (repl n z.cells) (row m) e (m * E.size e) (by simp[row]) ⟨(row n).toList,((row m).toList).drop (row n).size,?_,by rw[hrow];exact repl_spec hcells n⟩,push_sl n m m _ _ ⟨h1',Nat.le_refl _⟩ (Nat.le_refl _)⟩
     · have hbm : ¬ (i.bytes : Int) * (m : Int) > 2 ^ 48 := by
        have h4:i.bytes * m≤4294967296:=Nat.le_trans (Nat.mul_le_mul (show i.bytes≤65536 by omega) h2') (by decide)
        have h5:((i.bytes * m:Nat):Int)≤4294967296:=by omega
        rw[Int.natCast_mul] at h5
        omega
       have hroom:¬ m * i.bytes > roomBytes:=by
        have h4:m * i.bytes≤4294967296:=Nat.le_trans (Nat.mul_le_mul h2' (show i.bytes≤65536 by omega)) (by decide)
        unfold roomBytes;omega
       have w1:IntKind.i64.wrap (Int.ofNat n)=(n:Int):=IntWalk.i64_in _ (by simp only[Int.ofNat_eq_natCast];omega)
       have w2:IntKind.i64.wrap (Int.ofNat m)=(m:Int):=IntWalk.i64_in _ (by simp only[Int.ofNat_eq_natCast];omega)
       have hbad:¬ (((decide ((m:Int)<0) || decide ((i.bytes:Int) * (m:Int) > 2 ^ 48)) || decide ((n:Int)<0) || decide ((n:Int) > (m:Int)))=true):=by
        simp only[Bool.or_eq_true,decide_eq_true_eq]
        omega
       have hinfo:(typeInfo e).run P W=.ok i W:=by simp[typeInfo,hi]
       have hzv:(zeroValue e).run P W=.ok v W:=by simp[zeroValue,typeInfo,hi,hv]
       have hrow0:∀ Z:Array Value,(m * E.size e≠0→Z=v.cells)→(Array.range (m * E.size e)).map (Z[· % Z.size]!)=row m:=by
        intro Z hZ
        by_cases h0:m * E.size e=0
        · have e0 : ∀ f : Nat → Value, (Array.range 0).map f = #[] := fun f => by simp
          simp only[row];rw[h0,e0,e0]
        · rw[hZ h0]
       have h1:(Instr.makeSlice t (ρ l) (ρ c)).run P W=.ok (.slice (some ⟨W.heap.size,0,none⟩) n m) (W.alloc (.cells (row m) e)):=by
        rw[(hρ l _ hl).int_inv,(hρ c _ hc).int_inv]
        unfold Instr.makeSlice
        rw[Sem.run_bind,under_run hu,Result.andThen_ok]
        simp only[asInt,asIntOf,pure_bind]
        rw[Sem.run_bind,hinfo,Result.andThen_ok]
        simp only[w1,w2]
        rw[if_neg hbad]
        simp only[Int.toNat_natCast,askRoom,if_neg hroom,pure_bind]
        rw[Sem.run_bind,hs,Result.andThen_ok]
        by_cases h0:m * E.size e=0
        · rw[if_pos h0,hrow0 #[] (fun h=>absurd h0 h)];rfl
        · rw[if_neg h0,Sem.run_bind,hzv,Result.andThen_ok,hrow0 v.cells (fun _=>rfl)];rfl
       show (do let y ← Instr.makeSlice t (ρ l) (ρ c);pure (Next.value y):Sem Next).run P W=_
       rw[Sem.run_bind,h1];rfl
     · have hsplit : (row m).toList.take (row n).size = (row n).toList := by
        rw[hrow,hrow]
        have hsn:(row n).size=n * v.cells.size:=by simp[row,hvs]
        rw[hsn,← List.map_take,List.take_range]
        rw[Nat.min_eq_left (Nat.mul_le_mul_right _ h1')]
       rw[← hsplit]
       have:((row m).toList.take (row n).size).length=(row n).size:=by
        rw[hsplit];simp
       exact (List.take_append_drop _ _).symm
   · cases h
 · cases h
omit hE H hb hρ in
theorem bytesOf_spec:∀ (cs:List AV) (s:List Nat) (C:List Value),Eng.bytesOf cs=some s→VRs V cs C→C=(s.map (fun (b:Nat)=>Int.ofNat b)).map (Value.int .u8)∧∀ b∈s,b<256
 |[],s,C,h,hC=>by simp only[Eng.bytesOf,Option.some.injEq] at h;subst h;cases hC.nil_inv;exact⟨rfl,by simp⟩
 |c::cs,s,C,h,hC=>by
  obtain⟨A,As,rfl,h1,h2⟩:=hC.cons_inv
  unfold Eng.bytesOf at h
  split at h
  · rename_i e;cases e
  · rename_i b cs' e
    simp only[List.cons.injEq] at e
    obtain⟨rfl,rfl⟩:=e
    split at h
    · rename_i s' hb hs'
      simp only[Option.some.injEq] at h;subst h
      obtain⟨g1,g2⟩:=bytesOf_spec cs s' As hs' h2
      have:=Nat.le_of_ble_eq_true hb
      refine⟨by rw[g1,h1.int_inv];rfl,fun x hx=>?_⟩
      rcases List.mem_cons.1 hx with rfl|hx
      · omega
      · exact g2 x hx
    · cases h
  · cases h
omit hE H hb hρ in
theorem fold_bytes:∀ (s:List Nat),(∀ b∈s,b<256)→∀ acc:ByteArray,((s.map (fun (b:Nat)=>Int.ofNat b)).foldl (fun r n=>r.push (UInt8.ofNat n.toNat)) acc).data.toList.map (·.toNat)=acc.data.toList.map (·.toNat)++s
 |[],_,acc=>by simp
 |b::s,hs,acc=>by
  simp only[List.map_cons,List.foldl_cons]
  rw[fold_bytes s (fun x hx=>hs x (by simp[hx]))]
  have hb:=hs b (by simp)
  simp[ByteArray.push]
  omega
omit hE hb hρ in
theorem elemsOf_run {a : AV} {A : Value} {cs : List AV} {n size : Nat} (ha : VR V a A) (h : elemsOf σ size a = some (cs, n)) :
  (Builtin.lenOf A).run P W=.ok n W∧∃ C:List Value,VRs V cs C∧cs.length=n * size∧(Builtin.firstCells size n A).run P W=.ok C.toArray W:=by
 unfold elemsOf at h
 split at h
 · simp only [Option.some.injEq, Prod.mk.injEq] at h; obtain ⟨rfl, rfl⟩ := h
   rw[ha.nils_inv]
   exact⟨rfl,[],.nil V,by simp,rfl⟩
 · simp only [Option.some.injEq, Prod.mk.injEq] at h; obtain ⟨rfl, rfl⟩ := h
   obtain⟨B,rfl⟩:∃ B,A=.slice (some B) 0 0:=by
    cases ha with
    |sle B=>exact⟨B,rfl⟩
   refine⟨rfl,[],.nil V,by simp,?_⟩
   show (loadCells B (0 * size)).run P W=_
   rw[Nat.zero_mul];rfl
 · rename_i ty' nl l
   split at h
   · rename_i h1
     have h1':=Nat.eq_of_beq_eq_true h1;subst h1'
     simp only[Option.some.injEq,Prod.mk.injEq] at h;obtain⟨rfl,rfl⟩:=h
     rcases ha.vs_inv with ⟨_,rfl,rfl⟩|⟨_,hcsl⟩
     · exact⟨rfl,[],.nil V,by simp[flat],rfl⟩
     · obtain ⟨blk, o, cap, A', f, hk, hv, hc, rfl, hA⟩ := hcsl.csl_inv
       have hfl:=flat_length ty' l
       have hl:loadC E σ (.cp (flat ty' l) 0) (l.length * ty'.size)=some (flat ty' l):=by
        simp only[loadC,cut]
        rw[show Nat.ble (0+l.length * ty'.size) (flat ty' l).length=true from Nat.ble_eq_true_of_le (by omega)]
        simp only[List.drop_zero,Option.some.injEq]
        exact List.take_of_length_le (by omega)
       obtain⟨B,L,hB,_,hlen,hL,hcell⟩:=loadC_spec H (VR.cp (flat ty' l) 0 blk o f hk hv) hl
       simp only[Value.pointer.injEq,Option.some.injEq] at hB;subst hB
       refine⟨rfl,L,hL,hfl,?_⟩
       show (loadCells A' (l.length * ty'.size)).run P W=_
       rcases hA with h0|rfl
       · have h00 : l.length * ty'.size = 0 := by have : l.length = 0 := by omega
                                                  simp[this]
         have hL0:L=[]:=List.eq_nil_of_length_eq_zero (by rw[← hL.1,hfl];exact h00)
         rw[h00,hL0];rfl
       · have := run_loadCells_list (P := P) W _ L hcell
         rw[← hL.1,hfl] at this;exact this
   · cases h
 · rename_i id off len cl sz
   split at h
   · rename_i ro l hget
     simp only[Option.map_eq_some_iff,Prod.mk.injEq] at h
     obtain⟨cs',hcut,rfl,rfl⟩:=h
     obtain⟨blk,s,cap,A',hm,hc,rfl,hA⟩:=ha.sl_inv
     obtain⟨h1,h2,h3⟩:=cut_spec hcut
     have hl:loadC E σ (.ptr id off) (len * size)=some cs':=by simp only[loadC,hget];exact hcut
     obtain⟨B,L,hB,_,hlen,hL,hcell⟩:=loadC_spec H (VR.ptr id off blk s hm) hl
     simp only[Value.pointer.injEq,Option.some.injEq] at hB;subst hB
     refine⟨rfl,L,hL,h3,?_⟩
     show (loadCells A' (len * size)).run P W=_
     rcases hA with h0|⟨rfl,_⟩
     · have h00 : len * size = 0 := by have : len = 0 := by omega
                                       simp[this]
       have hL0:L=[]:=List.eq_nil_of_length_eq_zero (by rw[← hL.1,hlen];exact h00)
       rw[h00,hL0];rfl
     · have := run_loadCells_list (P := P) W _ L hcell
       rw[← hL.1,hlen] at this;exact this
   · cases h
 · rename_i cells len
   simp only[Option.map_eq_some_iff,Prod.mk.injEq] at h
   obtain⟨cs',hcut,rfl,rfl⟩:=h
   obtain⟨blk,o,cap,A',f,hk,hv,hc,rfl,hA⟩:=ha.csl_inv
   obtain⟨h1,h2,h3⟩:=cut_spec hcut
   have hl:loadC E σ (.cp cells 0) (len * size)=some cs':=by simp only[loadC];exact hcut
   obtain⟨B,L,hB,_,hlen,hL,hcell⟩:=loadC_spec H (VR.cp cells 0 blk o f hk hv) hl
   simp only[Value.pointer.injEq,Option.some.injEq] at hB;subst hB
   refine⟨rfl,L,hL,h3,?_⟩
   show (loadCells A' (len * size)).run P W=_
   rcases hA with h0|rfl
   · have h00 : len * size = 0 := by have : len = 0 := by omega
                                     simp[this]
     have hL0:L=[]:=List.eq_nil_of_length_eq_zero (by rw[← hL.1,hlen];exact h00)
     rw[h00,hL0];rfl
   · have := run_loadCells_list (P := P) W _ L hcell
     rw[← hL.1,hlen] at this;exact this
 · rename_i s
   split at h
   · rename_i h1
     have h1':=Nat.eq_of_beq_eq_true h1;subst h1'
     simp only[Option.some.injEq,Prod.mk.injEq] at h;obtain⟨rfl,rfl⟩:=h
     obtain⟨b,rfl,rfl⟩:=ha.str_inv
     have hsz:(b.data.toList.map (·.toNat)).length=b.size:=by simp only[List.length_map];rfl
     refine⟨by rw[hsz];rfl,b.data.toList.map fun u=>.int .u8 u.toNat,?_,by simp,?_⟩
     · rw [List.map_map]
       exact VRs.map_of _ _ _ (fun u _=>.int _ _)
     · rw [hsz]
       show (pure ((b.extract 0 b.size).data.map fun u=>Value.int .u8 u.toNat):Sem _).run P W=_
       rw[Sem.run_pure]
       congr 1
       rw[ByteArray.data_extract]
       apply Array.toList_inj.1
       simp
       rw[List.take_of_length_le (by rw[List.length_map];exact Nat.le_refl _)]
   · cases h
 · cases h
theorem s_convert (s d : TypeId) (x : Operand) {r : Res} (h : op E τ σ (.convert s d x) = some r) : OpOK P E base V σ W ((execOp ρ ⟨dst, .convert s d x, ty, pos, after, guard⟩).run P W) r := by
 simp only[op] at h
 split at h
 · rename_i a ha
   obtain⟨⟨y,σ'⟩,hc,rfl⟩:=Option.map_eq_some_iff.1 h
   have hv:=hρ x a ha
   unfold convV at hc
   split at hc
   · rename_i k1 k2 k n hk1 hk2
     simp only[Option.some.injEq,Prod.mk.injEq,wr_eq] at hc;obtain⟨rfl,rfl⟩:=hc
     have hu1:P.underlying s=some (.int k1):=(hE.ty _ _ hk1).2
     have hu2:P.underlying d=some (.int k2):=(hE.ty _ _ hk2).2
     exact .same H (by simp[execOp,convert,under_run hu1,under_run hu2,hv.int_inv,Conv.intToInt]) (.int _ _)
   · rename_i t hk1 hk2
     simp only[Option.some.injEq,Prod.mk.injEq] at hc;obtain⟨rfl,rfl⟩:=hc
     have hu1:P.underlying s=some .string:=(hE.ty _ _ hk1).2
     have hu2:P.underlying d=some .string:=(hE.ty _ _ hk2).2
     obtain⟨b,hB,rfl⟩:=hv.str_inv
     exact .same H (by simp[execOp,convert,under_run hu1,under_run hu2,hB]) (.str _)
   · rename_i e t hk1 hk2
     split at hc
     · rename_i hke
       simp only[Option.some.injEq,Prod.mk.injEq] at hc;obtain⟨rfl,rfl⟩:=hc
       have hu1:P.underlying s=some .string:=(hE.ty _ _ hk1).2
       have hu2:=(hE.ty _ _ hk2).2.1
       have hu3:P.underlying e=some (.int .u8):=(hE.ty _ _ hke).2
       obtain⟨b,hB,rfl⟩:=hv.str_inv
       have hsz:(b.data.toList.map (·.toNat)).length=b.size:=by simp only[List.length_map];rfl
       let cap:=(Question.appendCap b.size 0 e).cut (W.tape W.drawn (.appendCap b.size 0 e))
       have hcap:b.size≤cap:=by simp only[cap,Question.cut];omega
       let row:Array Value:=b.data.map (fun u=>Value.int .u8 u.toNat)++Array.replicate (cap-b.size) (.int .u8 0)
       let W':World:=(W.drew.alloc (.cells row e)).freeze ⟨W.heap.size,row.size,none⟩ 1
       let V':View:={ V with K:=fun bk o=>if bk=W.heap.size then (if o<b.size then row[o]? else none) else V.K bk o }
       have hle:V.le V':=⟨fun _ _ h=>h,fun _ _ h=>h,fun bk o v hk=>by
        have:bk≠W.heap.size:=fun e=>H.K_new o v (e▸hk)
        simp only[V',if_neg this];exact hk,fun _ _ _ _=>rfl⟩
       have hcell:∀ o,W'.cell? ⟨W.heap.size,o,none⟩=row[o]?:=by
        intro o
        have h1:W'.heap[W.heap.size]?=some (.cells row e (row.size,row.size+1)):=by
         have h0:=heap_alloc_self W.drew (.cells row e)
         show ((W.drew.alloc (.cells row e)).freeze ⟨W.heap.size,row.size,none⟩ 1).heap[W.heap.size]?=_
         simp only[World.freeze]
         rw[if_neg (by decide)]
         simp only[Array.getElem?_modify]
         rw[if_pos trivial]
         show Option.map _ ((W.drew.alloc (.cells row e)).heap[W.drew.heap.size]?)=_
         rw[h0];rfl
        rw[cell_of_row _ _ _ _ _ _ h1]
       have hold:∀ bk,bk<W.heap.size→W'.heap[bk]?=W.heap[bk]?:=by
        intro bk hbk
        simp only[W',World.freeze,World.drew]
        rw[if_neg (by decide)]
        simp only[Array.getElem?_modify]
        rw[if_neg (by omega)]
        exact heap_alloc W.drew _ bk hbk
       have hsize:W.heap.size≤W'.heap.size:=by
        simp only[W',World.freeze];rw[if_neg (by decide)];simp
       have hrun:(Conv.stringToBytes e b).run P W=.ok (.slice (some ⟨W.heap.size,0,none⟩) b.size cap) W':=by
        unfold Conv.stringToBytes
        rw[Sem.run_bind,run_choose,if_neg (by simp[Question.forced]),Result.andThen_ok]
        rw[Sem.run_bind]
        show Result.andThen (Result.ok (⟨W.heap.size,0,none⟩:Addr) (W.drew.alloc (.cells row e))) _=_
        rw[Result.andThen_ok,Sem.run_bind]
        have hsh:(W.drew.alloc (.cells row e)).shape? W.heap.size=some (e,row.size):=by
         have h0:=heap_alloc_self W.drew (.cells row e)
         have h0':(W.drew.alloc (.cells row e)).heap[W.heap.size]?=some (.cells row e):=h0
         simp only[World.shape?,h0']
        have hms:(markStringish ⟨W.heap.size,0,none⟩).run P (W.drew.alloc (.cells row e))=.ok () W':=by
         simp only[markStringish,Sem.run_bind,run_shape,Result.andThen_ok,hsh,run_freeze];rfl
        rw[hms];rfl
       refine⟨V',W',.slice (some ⟨W.heap.size,0,none⟩) b.size cap,?_,⟨hle,rfl,fun bk o v hk=>?_,H.grow hle rfl rfl (fun bk o v hk=>?_) hold hsize,⟨?_,?_,?_,hsize,fun bk hbk _=>hold bk hbk⟩,fun bk hO=>.inl hO,fun id _ s h=>.inl ⟨id,s,h⟩,fun _ _ h=>.inl h,Nat.le_refl _⟩,?_⟩
       · simp only[execOp,convert,Sem.run_bind,under_run hu1,under_run hu2,Result.andThen_ok,hB,under_run hu3,hrun];rfl
       · by_cases h : bk = W.heap.size
         · exact .inr (by omega)
         · simp only[V',if_neg h] at hk;exact .inl hk
       · by_cases h : bk = W.heap.size
         · subst h
           simp only[V',if_true] at hk
           split at hk
           · exact .inr ⟨Nat.le_refl _,by rw[hcell];exact hk⟩
           · cases hk
         · simp only[V',if_neg h] at hk;exact .inl hk
       · simp only[W',World.freeze];rw[if_neg (by decide)];rfl
       · simp only[W',World.freeze];rw[if_neg (by decide)];rfl
       · simp only[W',World.freeze];rw[if_neg (by decide)];rfl
       · rw [hsz]
         have hbs:b.data.toList.length=b.size:=rfl
         have hrow:∀ i (hi:i<b.data.toList.length),row[i]?=some (.int .u8 ((b.data.toList[i]).toNat:Int)):=by
          intro i hi
          have e1:row.toList=b.data.toList.map (fun u=>Value.int .u8 (u.toNat:Int))++List.replicate (cap-b.size) (.int .u8 0):=by simp[row]
          rw[← Array.getElem?_toList,e1,List.getElem?_append_left (by simpa using hi),List.getElem?_map,List.getElem?_eq_getElem hi]
          rfl
         refine VR.csl _ b.size W.heap.size 0 cap _ (fun i=>.int .u8 ((b.data.toList.getD i 0).toNat:Int)) (fun i hi=>?_) (fun i hi=>?_) hcap (.inr rfl)
         · simp only [List.length_map] at hi
           simp only[V',if_true,Nat.zero_add]
           rw[if_pos (by omega),hrow i hi]
           show some (Value.int .u8 ((b.data.toList[i]).toNat:Int))=some (Value.int .u8 (((b.data.toList[i]?).getD 0).toNat:Int))
           rw[List.getElem?_eq_getElem hi];rfl
         · simp only [List.length_map] at hi
           simp only[List.getElem_map]
           simp only[List.getD,List.getElem?_eq_getElem hi,Option.getD_some]
           exact .int _ _
     · cases hc
   · cases hc
   · rename_i x' e hk1 hk2 hnstr
     split at hc
     · rename_i cs n hke hel
       split at hc
       · rename_i str hst
         simp only[Option.some.injEq,Prod.mk.injEq] at hc;obtain⟨rfl,rfl⟩:=hc
         have hu1:=(hE.ty _ _ hk1).2.1
         have hu2:P.underlying d=some .string:=(hE.ty _ _ hk2).2
         have hu3:P.underlying e=some (.int .u8):=(hE.ty _ _ hke).2
         obtain⟨hln,C,hC,hlen,hfc⟩:=elemsOf_run (P:=P) H hv hel
         obtain⟨hCs,hlt⟩:=bytesOf_spec _ _ _ hst hC
         have hA:ρ x=.slice none 0 0∨∃ a l c,ρ x=.slice (some a) l c:=by
          unfold elemsOf at hel
          split at hel
          · exact .inl hv.nils_inv
          · generalize ρ x = X at hv
            cases hv with
            |sle A=>exact .inr ⟨_,_,_,rfl⟩
          · rcases hv.vs_inv with ⟨_, _, h⟩ | ⟨_, hcsl⟩
            · exact .inl h
            · obtain⟨_,_,_,A,_,_,_,_,h,_⟩:=hcsl.csl_inv;exact .inr ⟨_,_,_,h⟩
          · obtain⟨_,_,_,A,_,_,h,_⟩:=hv.sl_inv;exact .inr ⟨_,_,_,h⟩
          · obtain⟨_,_,_,A,_,_,_,_,h,_⟩:=hv.csl_inv;exact .inr ⟨_,_,_,h⟩
          · exact (hnstr _ rfl).elim
          · cases hel
         rcases hA with hA|⟨a,l,c,hA⟩
         · rw [hA] at hfc hln
           have hn:n=0:=by
            have:(Builtin.lenOf (.slice none 0 0)).run P W=.ok 0 W:=rfl
            rw[this] at hln;simpa using hln.symm
           subst hn
           have:str=[]:=by
            have h0:C.length=0:=by rw[← hC.1,hlen,Nat.zero_mul]
            rw[hCs] at h0;simpa using h0
           subst this
           refine .same H (v':=.string .empty) ?_ (str_of_map rfl)
           simp only[execOp,convert,Sem.run_bind,under_run hu1,under_run hu2,Result.andThen_ok,hA,under_run hu3];rfl
         · rw [hA] at hfc hln
           have hn:l=n:=by
            have:(Builtin.lenOf (.slice (some a) l c)).run P W=.ok l W:=rfl
            rw[this] at hln;simpa using hln
           subst hn
           have hload:(loadCells a l).run P W=.ok ((str.map (fun (b:Nat)=>Int.ofNat b)).map (Value.int .u8)).toArray W:=by
            rw[← hCs,← hfc];show _=(loadCells a (l * 1)).run P W;rw[Nat.mul_one]
           have hb2s:=run_bytesToString W a l c _ hload
           refine .same H (v':=.string ((str.map (fun (b:Nat)=>Int.ofNat b)).foldl (fun r n=>r.push (UInt8.ofNat n.toNat)) ByteArray.empty)) ?_ (str_of_map ?_)
           · simp only[execOp,convert,Sem.run_bind,under_run hu1,under_run hu2,Result.andThen_ok,hA,under_run hu3,hb2s];rfl
           · rw[fold_bytes str hlt];simp
       · cases hc
     · cases hc
   · cases hc
 · cases h
end
end Go.Eng


namespace Go.Eng
open Go
section
variable {P:Program} {E:Env} {base:Nat} {V:View} {σ:Hp} {W:World} {τ:Tmps} {ρ:Operand→Value}
variable {dst:Option Tmp} {ty:TypeId} {pos:String} {after:Array Edge} {guard:Option (Nat×Bool)}
theorem growBy_le (need:Nat):∀ (k c:Nat),Builtin.growBy need k c≤2 ^ k * (c+768)
 |0,c=>by simp[Builtin.growBy]
 | k + 1, c => by
  unfold Builtin.growBy
  split
  · have : 1 ≤ 2 ^ (k + 1) := Nat.one_le_two_pow
    calc c≤1 * (c+768):=by omega
     _≤2 ^ (k+1) * (c+768):=Nat.mul_le_mul_right _ this
  · refine Nat.le_trans (growBy_le need k _) ?_
    rw[Nat.pow_succ,Nat.mul_assoc]
    exact Nat.mul_le_mul_left _ (by omega)
theorem nextcap_le {need cap:Nat} (h:cap<need) (hn:need≤2097152):Builtin.nextslicecap need cap≤67108864:=by
 unfold Builtin.nextslicecap
 split
 · omega
 · split
   · omega
   · have h4 := growBy_le need 4 cap
     rw[show (2:Nat) ^ 4=16 from rfl] at h4
     have:16 * (cap+768)≤67108864:=by omega
     exact Nat.le_trans h4 this
theorem push_after_drop:True:=trivial
variable (hE:EnvOK P E) (H:HR E base V σ W) (hb:base≤W.heap.size)
include hE H hb
theorem cap_run {ats:Array TypeId} {t:TypeId} {consts:Array Bool} {x:AV} {X:Value} {r:Res} (hv:VR V x X) (h:builtinV E σ .cap ats [x]=some r):OpOK P E base V σ W ((builtin .cap ats t consts #[X]).run P W) r:=by
 unfold builtinV at h
 simp only at h
 have key:∀ n:Nat,(Builtin.cap_ ats t #[X]).run P W=.ok (goInt n) W→OpOK P E base V σ W ((builtin .cap ats t consts #[X]).run P W) (.val (.int .i64 n) σ):=by
  intro n hn
  refine .same H (v':=.int .i64 n) ?_ (.int _ _)
  simp only[builtin,Sem.run_bind,hn];rfl
 split at h
 · rename_i e hk
   obtain⟨a0,ha0,hk⟩:=Option.bind_eq_some_iff.1 hk
   simp only[Option.some.injEq] at h;subst h
   have hu:=(hE.ty _ _ hk).2.1
   have hX:=hv.nils_inv;subst hX
   exact key 0 (by simp[Builtin.cap_,ha0,under_run hu])
 · rename_i e hk
   obtain⟨a0,ha0,hk⟩:=Option.bind_eq_some_iff.1 hk
   simp only[Option.some.injEq] at h;subst h
   have hu:=(hE.ty _ _ hk).2.1
   obtain⟨A,rfl⟩:∃ A,X=.slice (some A) 0 0:=by
    cases hv with
    |sle A=>exact⟨A,rfl⟩
   exact key 0 (by simp[Builtin.cap_,ha0,under_run hu])
 · cases h
theorem len_run {ats:Array TypeId} {t:TypeId} {consts:Array Bool} {x:AV} {X:Value} {r:Res} (hv:VR V x X) (h:builtinV E σ .len ats [x]=some r):OpOK P E base V σ W ((builtin .len ats t consts #[X]).run P W) r:=by
 unfold builtinV at h
 simp only at h
 have key:∀ n:Nat,(Builtin.len_ ats t #[X]).run P W=.ok (goInt n) W→OpOK P E base V σ W ((builtin .len ats t consts #[X]).run P W) (.val (.int .i64 n) σ):=by
  intro n hn
  refine .same H (v':=.int .i64 n) ?_ (.int _ _)
  simp only[builtin,Sem.run_bind,hn];rfl
 split at h
 · rename_i s hk
   obtain⟨a0,ha0,hk⟩:=Option.bind_eq_some_iff.1 hk
   simp only[Option.some.injEq] at h;subst h
   obtain⟨b,rfl,rfl⟩:=hv.str_inv
   have hu:P.underlying a0=some .string:=(hE.ty _ _ hk).2
   refine key _ ?_
   have:(b.data.toList.map (·.toNat)).length=b.size:=by simp only[List.length_map];rfl
   rw[this]
   simp[Builtin.len_,ha0,under_run hu]
 · rename_i e hk
   obtain⟨a0,ha0,hk⟩:=Option.bind_eq_some_iff.1 hk
   simp only[Option.some.injEq] at h;subst h
   have hu:=(hE.ty _ _ hk).2.1
   have hX:=hv.nils_inv;subst hX
   exact key 0 (by simp[Builtin.len_,ha0,under_run hu])
 · rename_i e hk
   obtain⟨a0,ha0,hk⟩:=Option.bind_eq_some_iff.1 hk
   simp only[Option.some.injEq] at h;subst h
   have hu:=(hE.ty _ _ hk).2.1
   obtain⟨A,rfl⟩:∃ A,X=.slice (some A) 0 0:=by
    cases hv with
    |sle A=>exact⟨A,rfl⟩
   exact key 0 (by simp[Builtin.len_,ha0,under_run hu])
 · rename_i e ty' nl l hk
   obtain⟨a0,ha0,hk⟩:=Option.bind_eq_some_iff.1 hk
   simp only[Option.some.injEq] at h;subst h
   have hu:=(hE.ty _ _ hk).2.1
   rcases hv.vs_inv with ⟨_,rfl,rfl⟩|⟨_,hcsl⟩
   · exact key 0 (by simp[Builtin.len_,ha0,under_run hu])
   · obtain ⟨_, _, _, A, _, _, _, _, rfl, _⟩ := hcsl.csl_inv
     exact key l.length (by simp[Builtin.len_,ha0,under_run hu])
 · rename_i e id off n cl sz hk
   obtain⟨a0,ha0,hk⟩:=Option.bind_eq_some_iff.1 hk
   simp only[Option.some.injEq] at h;subst h
   have hu:=(hE.ty _ _ hk).2.1
   obtain⟨_,_,_,A,_,_,rfl,_⟩:=hv.sl_inv
   exact key n (by simp[Builtin.len_,ha0,under_run hu])
 · rename_i e cs n hk
   obtain⟨a0,ha0,hk⟩:=Option.bind_eq_some_iff.1 hk
   simp only[Option.some.injEq] at h;subst h
   have hu:=(hE.ty _ _ hk).2.1
   obtain⟨_,_,_,A,_,_,_,_,rfl,_⟩:=hv.csl_inv
   exact key n (by simp[Builtin.len_,ha0,under_run hu])
 · rename_i k e hk
   obtain⟨a0,ha0,hk⟩:=Option.bind_eq_some_iff.1 hk
   simp only[Option.some.injEq] at h;subst h
   have hu:=(hE.ty _ _ hk).2.1
   cases hv
   exact key 0 (by simp[Builtin.len_,ha0,under_run hu])
 · rename_i k e id hk
   obtain⟨a0,ha0,hk⟩:=Option.bind_eq_some_iff.1 hk
   have hu:=(hE.ty _ _ hk).2.1
   split at h
   · rename_i es hget
     simp only[Option.some.injEq] at h;subst h
     obtain⟨blk,hmm,hlt,en,clock,hobj,hv1,hv2⟩:=map_obj H hget
     obtain⟨blk',hm',rfl⟩:=hv.mp_inv
     rw[hmm] at hm';simp only[Option.some.injEq,Prod.mk.injEq,and_true] at hm';subst hm'
     have hlen:es.length=en.size:=by have:=hv1.1;simpa using this
     rw[hlen] at *
     have hg:(getObj blk).run P W=.ok (.map en clock) W:=by simp only[getObj,Sem.run,hobj]
     exact key en.size (by simp[Builtin.len_,ha0,under_run hu,hg])
   · cases h
 · rename_i hk
   obtain⟨a0,ha0,hk⟩:=Option.bind_eq_some_iff.1 hk
   simp only[Option.some.injEq] at h;subst h
   have hu:=(hE.ty _ _ hk).2.1
   exact key _ (by simp[Builtin.len_,ha0,under_run hu])
 · cases h
theorem max_run {ats:Array TypeId} {t:TypeId} {consts:Array Bool} {k k':IntKind} {a b:Int} {r:Res} (h:builtinV E σ .max ats [.int k a,.int k' b]=some r):OpOK P E base V σ W ((builtin .max ats t consts #[.int k a,.int k' b]).run P W) r:=by
 unfold builtinV at h
 simp only at h
 split at h
 · simp only [Option.some.injEq] at h; subst h
   refine .same H (v':=.int k (if b > a then b else a)) ?_ ?_
   · simp[builtin,Builtin.max_,Builtin.max2]
   · rw [ile_eq]
     by_cases hba:b > a
     · rw[if_pos hba,decide_eq_false (by omega)];exact .int _ _
     · rw[if_neg hba,decide_eq_true (by omega)];exact .int _ _
 · cases h
theorem min_run {ats:Array TypeId} {t:TypeId} {consts:Array Bool} {k k':IntKind} {a b:Int} {r:Res} (h:builtinV E σ .min ats [.int k a,.int k' b]=some r):OpOK P E base V σ W ((builtin .min ats t consts #[.int k a,.int k' b]).run P W) r:=by
 unfold builtinV at h
 simp only at h
 split at h
 · simp only [Option.some.injEq] at h; subst h
   refine .same H (v':=.int k (if b<a then b else a)) ?_ ?_
   · simp[builtin,Builtin.min_,Builtin.min2]
   · rw [ile_eq]
     by_cases hba:b<a
     · rw[if_pos hba,decide_eq_false (by omega)];exact .int _ _
     · rw[if_neg hba,decide_eq_true (by omega)];exact .int _ _
 · cases h
theorem zeros_false {ats:Array TypeId} (h:(match (ats[1]?).bind E.ty with|some (.slice _)=>true|some .str=>true|_=>false)=true) :
  ∃ a1,ats[1]?=some a1∧∃ d,P.underlying a1=some d∧((∃ x,d=.slice x)∨d=.string):=by
 split at h
 · rename_i hk
   obtain⟨a1,ha1,hk⟩:=Option.bind_eq_some_iff.1 hk
   exact⟨a1,ha1,_,(hE.ty _ _ hk).2.1,.inl ⟨_,rfl⟩⟩
 · rename_i hk
   obtain⟨a1,ha1,hk⟩:=Option.bind_eq_some_iff.1 hk
   exact⟨a1,ha1,.string,(hE.ty _ _ hk).2,.inr rfl⟩
 · cases h
omit hE H hb in
theorem append_room {ats:Array TypeId} {t:TypeId} {a0 a1 e:TypeId} {d:TypeDesc} {X:Value} {base':Option Addr} {len cap n size:Nat} {C:List Value} {W':World}
  (ha0:ats[0]?=some a0) (hu:P.underlying a0=some (.slice e)) (ha1:ats[1]?=some a1) (hd:P.underlying a1=some d) (hdi:(∃ x,d=.slice x)∨d=.string) (hs:(sizeOf e).run P W=.ok size W)
  (hln:(Builtin.lenOf X).run P W=.ok n W) (hfc:(Builtin.firstCells size n X).run P W=.ok C.toArray W)
  (hle:len+n≤cap) (hst:(match base' with|some a=>storeCells (a.add (len * size)) C|none=>(pure ():Sem Unit)).run P W=.ok () W') :
  (Builtin.append_ ats t #[.slice base' len cap,X]).run P W=.ok (.slice base' (len+n) cap) W':=by
 rcases hdi with ⟨x,rfl⟩|rfl
 · cases base' <;> simp only at hst <;> simp [Builtin.append_, ha0, ha1, under_run hu, hs, under_run hd, hln, hle, hfc, hst]
   simpa using hst
 · cases base' <;> simp only at hst <;> simp [Builtin.append_, ha0, ha1, under_run hu, hs, under_run hd, hln, hle, hfc, hst]
   simpa using hst
omit hE H hb in
theorem append_grow {ats:Array TypeId} {t:TypeId} {a0 a1 e:TypeId} {d:TypeDesc} {X:Value} {base':Option Addr} {len cap n size:Nat} {i:TypeInfo} {zv:Value} {C old:List Value}
  (ha0:ats[0]?=some a0) (hu:P.underlying a0=some (.slice e)) (ha1:ats[1]?=some a1) (hd:P.underlying a1=some d) (hdi:(∃ x,d=.slice x)∨d=.string) (hs:(sizeOf e).run P W=.ok size W)
  (hi:P.info? e=some i) (hz:i.zero=some zv) (hby:i.bytes≤65536) (hlen:len≤1048576) (hn:n≤1048576) (hln:(Builtin.lenOf X).run P W=.ok n W) (hfc:(Builtin.firstCells size n X).run P W.drew=.ok C.toArray W.drew)
  (hold:(Builtin.firstCells size len (.slice base' len cap)).run P W.drew=.ok old.toArray W.drew) (hgt:cap<len+n) :
  ∃ newCap,len+n≤newCap∧∃ rest:List Value,rest.length=(newCap-(len+n)) * zv.cells.size∧(Builtin.append_ ats t #[.slice base' len cap,X]).run P W=.ok (.slice (some ⟨W.heap.size,0,none⟩) (len+n) newCap) (W.drew.alloc (.cells (old++C++rest).toArray e)):=by
 have hnle:¬ len+n≤cap:=by omega
 have hcapb:=nextcap_le hgt (by omega)
 have hbig:¬ Builtin.nextslicecap (len+n) cap * i.bytes > 2 ^ 48:=by
  have h4:Builtin.nextslicecap (len+n) cap * i.bytes≤4398046511104:=Nat.le_trans (Nat.mul_le_mul hcapb hby) (by decide)
  omega
 have hmax:¬ (((len+n:Nat):Int) > IntKind.i64.max∧(False∨i.bytes=0)):=by
  have e3:IntKind.i64.max=9223372036854775807:=by decide
  rw[e3];omega
 let newCap:=(Question.appendCap (len+n) cap e).cut (W.tape W.drawn (.appendCap (len+n) cap e))
 refine⟨newCap,by simp only[newCap,Question.cut];omega,(Builtin.zeroCells zv.cells (newCap-(len+n))).toList,by simp[Builtin.zeroCells],?_⟩
 have hzr:∀ W':World,(zeroValue e).run P W'=.ok zv W':=fun W'=>by simp[zeroValue,typeInfo,hi,hz]
 have hinf:∀ W':World,(typeInfo e).run P W'=.ok i W':=fun W'=>by simp[typeInfo,hi]
 have hroom:∀ W':World,(askRoom (newCap * i.bytes)).run P W'=.ok () W':=by
  intro W';unfold askRoom;split<;>rfl
 have hch:(choose (.appendCap (len+n) cap e)).run P W=.ok newCap W.drew:=by
  rw[run_choose,if_neg (by simp[Question.forced])];rfl
 have fin:(do
   let old ← Builtin.firstCells size len (.slice base' len cap)
   let new ← Builtin.firstCells size n X
   let rest:=Builtin.zeroCells (← zeroValue e).cells (newCap-(len+n))
   pure (.slice (some (← newRow e (old++new++rest))) (len+n) newCap):Sem Value).run P W.drew=.ok (.slice (some ⟨W.heap.size,0,none⟩) (len+n) newCap) (W.drew.alloc (.cells (old++C++(Builtin.zeroCells zv.cells (newCap-(len+n))).toList).toArray e)):=by
  rw[Sem.run_bind,hold,Result.andThen_ok,Sem.run_bind,hfc,Result.andThen_ok,Sem.run_bind,hzr,Result.andThen_ok]
  show Result.ok _ _=_
  congr 2
  have:old.toArray++C.toArray++Builtin.zeroCells zv.cells (newCap-(len+n))=(old++C++(Builtin.zeroCells zv.cells (newCap-(len+n))).toList).toArray:=by
   apply Array.toList_inj.1;simp
  rw[this]
 simp only[false_or] at hmax
 rcases hdi with ⟨x,rfl⟩|rfl
 all_goals
  unfold Builtin.append_
  simp only[ha0,ha1,List.getElem?_toArray,List.getElem?_cons_zero,List.getElem?_cons_succ]
  rw[Sem.run_bind,under_run hu,Result.andThen_ok]
  simp only[]
  rw[Sem.run_bind,hs,Result.andThen_ok]
  rw[Sem.run_bind,under_run hd,Result.andThen_ok,pure_bind]
  simp only[Bool.false_eq_true,if_false,Bool.not_false,if_true]
  rw[Sem.run_bind,hln,Result.andThen_ok,if_neg hnle,Sem.run_bind,hinf,Result.andThen_ok]
  simp only[false_or]
  rw[if_neg hmax,Sem.run_bind,hinf,Result.andThen_ok,if_neg hbig,Sem.run_bind,hch,Result.andThen_ok,Sem.run_bind,hinf,Result.andThen_ok,Sem.run_bind,hroom,Result.andThen_ok]
  exact fin
omit hE H hb in
theorem append_zeros {ats:Array TypeId} {t:TypeId} {a0 a1 e:TypeId} {k kk:IntKind} {n size:Nat} {i:TypeInfo} {zv:Value}
  (ha0:ats[0]?=some a0) (hu:P.underlying a0=some (.slice e)) (ha1:ats[1]?=some a1) (hd:P.underlying a1=some (.int k)) (hs:(sizeOf e).run P W=.ok size W)
  (hi:P.info? e=some i) (hz:i.zero=some zv) (hby:i.bytes≤65536) (hn:0<n) (hn':n≤1048576) (hsp:0<size) :
  ∃ newCap,n≤newCap∧∃ rest:List Value,rest.length=(newCap-n) * zv.cells.size∧(Builtin.append_ ats t #[.slice none 0 0,.int kk (n:Int)]).run P W=.ok (.slice (some ⟨W.heap.size,0,none⟩) n newCap) (W.drew.alloc (.cells ((Builtin.zeroCells zv.cells n).toList++rest).toArray e)):=by
 have hnle:¬ 0+n≤0:=by omega
 have hcapb:=nextcap_le (show 0<0+n by omega) (by omega)
 have hbig:¬ Builtin.nextslicecap (0+n) 0 * i.bytes > 2 ^ 48:=by
  have h4:Builtin.nextslicecap (0+n) 0 * i.bytes≤4398046511104:=Nat.le_trans (Nat.mul_le_mul hcapb hby) (by decide)
  omega
 have e3:IntKind.i64.max=9223372036854775807:=by decide
 have hmax:¬ (((0+n:Nat):Int) > IntKind.i64.max):=by
  rw[e3];omega
 have hw:IntKind.i64.wrap (n:Int)=(n:Int):=IntWalk.i64_in _ (by omega)
 let newCap:=(Question.appendCap (0+n) 0 e).cut (W.tape W.drawn (.appendCap (0+n) 0 e))
 refine⟨newCap,by simp only[newCap,Question.cut];omega,(Builtin.zeroCells zv.cells (newCap-(0+n))).toList,by simp[Builtin.zeroCells],?_⟩
 have hzr:∀ W':World,(zeroValue e).run P W'=.ok zv W':=fun W'=>by simp[zeroValue,typeInfo,hi,hz]
 have hinf:∀ W':World,(typeInfo e).run P W'=.ok i W':=fun W'=>by simp[typeInfo,hi]
 have hroom:∀ W':World,(askRoom (newCap * i.bytes)).run P W'=.ok () W':=by
  intro W';unfold askRoom;split<;>rfl
 have hch:(choose (.appendCap (0+n) 0 e)).run P W=.ok newCap W.drew:=by
  rw[run_choose,if_neg (by simp[Question.forced])];rfl
 have hl0:¬ ((n:Int)<0):=by omega
 have hlb:¬ ((n:Int) * (i.bytes:Int) > 2 ^ 48):=by
  have h4:n * i.bytes≤1048576 * 65536:=Nat.mul_le_mul hn' hby
  rw[← Int.natCast_mul]
  omega
 have hns:¬ n * size=0:=by
  intro e0
  rcases Nat.mul_eq_zero.1 e0 with e0|e0<;>omega
 unfold Builtin.append_
 simp only[ha0,ha1,List.getElem?_toArray,List.getElem?_cons_zero,List.getElem?_cons_succ]
 rw[Sem.run_bind,under_run hu,Result.andThen_ok]
 simp only[]
 rw[Sem.run_bind,hs,Result.andThen_ok]
 rw[Sem.run_bind,under_run hd,Result.andThen_ok,pure_bind]
 simp only[if_true,Bool.not_true,Bool.false_eq_true,if_false]
 rw[Sem.run_bind,show (asInt (.int kk (n:Int))).run P W=.ok (n:Int) W from rfl,Result.andThen_ok,hw,if_neg hl0]
 rw[Sem.run_bind,hinf,Result.andThen_ok,if_neg hlb,pure_bind,Int.toNat_natCast,if_neg hnle]
 simp only[true_or,and_true]
 rw[if_neg hmax,Sem.run_bind,hinf,Result.andThen_ok,Sem.run_bind,hinf,Result.andThen_ok,if_neg hbig,Sem.run_bind,hch,Result.andThen_ok,Sem.run_bind,hinf,Result.andThen_ok,Sem.run_bind,hroom,Result.andThen_ok]
 rw[Sem.run_bind,show (Builtin.firstCells size 0 (.slice none 0 0)).run P W.drew=.ok #[] W.drew from rfl,Result.andThen_ok,if_neg hns]
 rw[Sem.run_bind,Sem.run_bind,hzr,Result.andThen_ok,Sem.run_pure,Result.andThen_ok,Sem.run_bind,hzr,Result.andThen_ok]
 show Result.ok _ _=_
 have:#[]++Builtin.zeroCells zv.cells n++Builtin.zeroCells zv.cells (newCap-(0+n))=((Builtin.zeroCells zv.cells n).toList++(Builtin.zeroCells zv.cells (newCap-(0+n))).toList).toArray:=by
  apply Array.toList_inj.1;simp
 rw[this]
 simp only[newCap,Nat.zero_add]
 rfl
end
end Go.Eng


namespace Go.Eng
open Go
section
variable {P:Program} {E:Env} {base:Nat} {V:View} {σ:Hp} {W:World} {τ:Tmps} {ρ:Operand→Value}
theorem live_drop {id x:Nat} (h:live (σ.set id .gone) x):live σ x∧x≠id:=by
 obtain⟨o,hx,hn⟩:=h
 rcases Hp.get_set hx with ⟨_,e⟩|⟨hne,hx'⟩
 · exact absurd e hn
 · exact⟨⟨o,hx',hn⟩,hne⟩
theorem Own.drop {id b:Nat} (h:Own V (σ.set id .gone) b):Own V σ b:=by
 obtain⟨i,s,hl,hm⟩:=h
 exact⟨i,s,(live_drop hl).1,hm⟩
theorem push_row (H:HR E base V σ W) (hb:base≤W.heap.size) (ro:Bool) (l:List AV) (C:Array Value) (t:TypeId) (N:Nat) (hN:C.size=N) (h:∃ C1 C2,C.toList=C1++C2∧VRs V l C1) :
  Stp E base V σ W (V.push σ.n W.heap.size N) (σ.push (.cells ro l)) (W.alloc (.cells C t)):=by
 obtain⟨C1,C2,e,hl⟩:=h
 have hle:V.le (V.push σ.n W.heap.size N):=H.push_le N
 refine⟨hle,rfl,fun _ _ _ h=>.inl h,H.push hb _ _ _ ⟨C,t,heap_alloc_self _ _,⟨?_,by simp[View.push,hN]⟩,⟨C1,hl.mono hle,fun i hi=>?_⟩,fun o v hk=>(H.K_new o v hk).elim⟩,Fr.alloc _ _ _,fun b hO=>?_,push_mb,push_nm,Nat.le_succ _⟩
 · have : C.size = C1.length + C2.length := by rw [← Array.length_toList, e, List.length_append]
   have:=hl.1;omega
 · rw [← Array.getElem?_toList, e, List.getElem?_append_left (by simpa using hi)]
   simp
 · rcases Own.push hO with h | h
   · exact .inl h
   · exact .inr (by omega)
theorem HR.extend (H:HR E base V σ W) {id off:Nat} {ro:Bool} {l new:List AV} {NEW:List Value} {blk s:Nat} (hid:σ.get id=some (.cells ro l)) (hm:V.m id=some (blk,s)) (hoff:off≤l.length)
  (hnew:VRs V new NEW) (h1:∀ v∈NEW,v.oneCell'=true) (hroom:s+l.length+NEW.length≤V.N blk) :
  ∃ W',(storeCells ⟨blk,s+l.length,none⟩ NEW).run P W=.ok () W'∧Stp E base V σ W { V with m:=fun i=>if i=σ.n then some (blk,s+off) else V.m i } ((σ.set id .gone).push (.cells ro (l.drop off++new))) W':=by
 obtain⟨blk',s',hm',hbase,hlt,cs,t,hb,⟨hsz,hN⟩,⟨L,hL,hc⟩,hK⟩:=H.obj _ _ hid (by simp)
 rw[hm] at hm';simp only[Option.some.injEq,Prod.mk.injEq] at hm';obtain⟨rfl,rfl⟩:=hm'
 have hLl:=hL.1
 have hrun:=storeCells_run (P:=P) (o:=s+l.length) NEW hb (by omega) h1
 let V':View:={ V with m:=fun i=>if i=σ.n then some (blk,s+off) else V.m i }
 have hle:V.le V':=⟨fun i x hx=>by simp only[V'];rw[if_neg (by intro e;rw[e,H.m_none] at hx;cases hx)];exact hx,fun _ _ h=>h,fun _ _ _ h=>h,fun _ _ _ _=>rfl⟩
 have hother:∀ b,b≠blk→(W.setRow blk (cs.toList.take (s+l.length)++NEW++cs.toList.drop (s+l.length+NEW.length)).toArray).heap[b]?=W.heap[b]?:=fun b hb=>setRow_heap _ _ _ _ hb
 have hself:=setRow_self_heap W blk cs (cs.toList.take (s+l.length)++NEW++cs.toList.drop (s+l.length+NEW.length)).toArray t (0,0) hb
 have hfront:∀ i,i<s+l.length→(cs.toList.take (s+l.length)++NEW++cs.toList.drop (s+l.length+NEW.length))[i]?=cs.toList[i]?:=by
  intro i hi
  have:cs.toList.length=cs.size:=by simp
  rw[List.getElem?_append_left (by simp;omega),List.getElem?_append_left (by simp;omega),List.getElem?_take_of_lt (by omega)]
 have key : ∀ i s1 b, live ((σ.set id .gone).push (.cells ro (l.drop off ++ new))) i → V'.m i = some (b, s1) → (i = σ.n ∧ b = blk) ∨ (i ≠ σ.n ∧ live σ i ∧ i ≠ id ∧ V.m i = some (b, s1) ∧ b ≠ blk) := by
  intro i s1 b hl hmi
  obtain⟨o,hg,hne⟩:=hl
  by_cases e:i=σ.n
  · left;simp only[V',e,if_true,Option.some.injEq,Prod.mk.injEq] at hmi;exact⟨e,hmi.1.symm⟩
  · right
    simp only[V',e,if_false] at hmi
    rcases Hp.get_push hg with ⟨e',_⟩|⟨_,hg'⟩
    · exact absurd e' e
    · obtain ⟨h2, h3⟩ := live_drop ⟨o, hg', hne⟩
      exact⟨e,h2,h3,hmi,fun eb=>h3 (H.inj _ _ _ _ _ h2 ⟨_,hid,by simp⟩ (eb▸hmi) hm)⟩
 refine⟨_,hrun,hle,rfl,fun _ _ _ h=>.inl h,⟨fun b o v hk=>?_,fun g gl hg=>?_,fun i o hi hne=>?_,fun i i' b s1 s2 g1 g2 g3 g4=>?_,fun i x hx=>?_,fun i o hi=>by
  rcases Hp.get_push hi with ⟨rfl,_⟩|⟨_,hi'⟩
  · exact⟨_,if_pos rfl⟩
  · rcases Hp.get_set hi' with ⟨rfl, _⟩ | ⟨_, hi''⟩
    · exact⟨_,hle.m _ _ hm⟩
    · obtain⟨x,hx⟩:=H.all _ _ hi'';exact⟨x,hle.m _ _ hx⟩⟩,⟨rfl,rfl,rfl,Nat.le_of_eq (setRow_size _ _ _).symm,fun b hb hO=>hother b (fun e=>hO ⟨id,s,⟨_,hid,by simp⟩,e▸hm⟩)⟩,fun b hO=>.inl ?_,fun i b s1 hmi=>.inl ?_,fun i x hx=>by
  simp only at hx
  split at hx
  · exact .inr (by omega)
  · exact .inl hx,Nat.le_succ _⟩
 · by_cases e : b = blk
   · subst e
     have hlt':=(hK o v hk).2
     have:=H.cell _ _ _ hk
     rw[cell_of_row _ _ _ _ _ _ hself]
     rw[cell_of_row _ _ _ _ _ _ hb] at this
     simp only[List.getElem?_toArray]
     rw[hfront o hlt',Array.getElem?_toList];exact this
   · rw[cell_of_heap (hother b e)];exact H.cell _ _ _ hk
 · obtain ⟨f, hf⟩ := H.glob g gl hg
   exact⟨f,fun i hi=>⟨(hf i hi).1,(hf i hi).2.mono (View.bare_mono hle.K)⟩⟩
 · rcases Hp.get_push hi with ⟨rfl, rfl⟩ | ⟨hne', hi'⟩
   · refine ⟨blk, s + off, by simp [V', show (σ.set id .gone).n = σ.n from rfl], hbase, by rw [setRow_size]; exact hlt, _, t, hself, ⟨?_, ?_⟩, ⟨L.drop off ++ NEW, ((hL.drop off).append hnew).mono hle, ?_⟩, ?_⟩
     · have:=hnew.1;simp;omega
     · simp only[V'];rw[← hN];simp;omega
     · intro j hj
       simp only[List.getElem?_toArray]
       simp only[List.length_append,List.length_drop] at hj
       by_cases hjl:j<L.length-off
       · rw [show s + off + j = s + (off + j) from by omega, hfront _ (by omega)]
         rw[List.getElem_append_left (by simp;omega),List.getElem_drop]
         rw[Array.getElem?_toList];exact hc (off+j) (by omega)
       · have hct : cs.toList.length = cs.size := by simp
         rw[List.getElem?_append_left (by simp;omega),List.getElem?_append_right (by simp;omega)]
         rw[List.getElem_append_right (by simp;omega)]
         rw[← List.getElem?_eq_getElem]
         congr 1
         simp only[List.length_take,List.length_drop]
         omega
     · intro o v hk
       obtain⟨g1,g2⟩:=hK o v hk
       exact⟨g1,by simp;omega⟩
   · have hl : live ((σ.set id .gone).push (.cells ro (l.drop off ++ new))) i := ⟨o, hi, hne⟩
     rcases Hp.get_set hi' with ⟨_,e⟩|⟨hne'',hi''⟩
     · exact absurd e hne
     · obtain ⟨b, s1, g1, g2, g3, g4⟩ := H.obj i o hi'' hne
       have hbne:b≠blk:=fun eb=>hne'' (H.inj _ _ _ _ _ ⟨o,hi'',hne⟩ ⟨_,hid,by simp⟩ (eb▸g1) hm)
       exact⟨b,s1,hle.m _ _ g1,g2,by rw[setRow_size];exact g3,g4.mono hle rfl (fun _ _ h=>h) (hother b hbne)⟩
 · rcases key i s1 b g1 g3 with ⟨e1, e2⟩ | ⟨e1, l1, n1, m1, b1⟩ <;> rcases key i' s2 b g2 g4 with ⟨e3, e4⟩ | ⟨e3, l2, n2, m2, b2⟩
   · rw[e1,e3]
   · exact absurd e2 b2
   · exact absurd e4 b1
   · exact H.inj _ _ _ _ _ l1 l2 m1 m2
 · by_cases e : i = σ.n
   · simp only [V', e, if_true, Option.some.injEq] at hx; subst hx
     exact⟨by rw[e];exact Nat.lt_succ_self _,by rw[setRow_size];exact hlt⟩
   · simp only [V', e, if_false] at hx
     exact⟨Nat.lt_succ_of_lt (H.fresh _ _ hx).1,by rw[setRow_size];exact (H.fresh _ _ hx).2⟩
 · obtain ⟨i, s1, hl, hmi⟩ := hO
   rcases key i s1 b hl hmi with ⟨_,e⟩|⟨_,l1,_,m1,_⟩
   · exact⟨id,s,⟨_,hid,by simp⟩,e▸hm⟩
   · exact⟨i,s1,l1,m1⟩
 · simp only at hmi
   split at hmi
   · simp only[Option.some.injEq,Prod.mk.injEq] at hmi;exact⟨id,s,hmi.1▸hm⟩
   · exact⟨i,s1,hmi⟩
end
end Go.Eng


namespace Go.Eng
open Go
section
variable {P:Program} {E:Env} {base:Nat} {V:View} {σ:Hp} {W:World} {τ:Tmps} {ρ:Operand→Value}
theorem Stp.of_drew {V':View} {σ':Hp} {W':World} (h:Stp E base V σ W.drew V' σ' W'):Stp E base V σ W V' σ' W':=
 ⟨h.le,h.lv,h.K,h.hr,⟨h.fr.os,h.fr.tape,h.fr.output,h.fr.size,h.fr.block⟩,h.own,h.mb,h.nm,h.nn⟩
theorem Stp.of_drop {id:Nat} {V':View} {σ':Hp} {W':World} (h:Stp E base V (σ.set id .gone) W V' σ' W'):Stp E base V σ W V' σ' W':=
 ⟨h.le,h.lv,fun b o v hv=>(h.K b o v hv).imp (fun y=>y) (fun y=>y.imp (fun y=>y) (fun y=>y.drop)),h.hr,h.fr.weaken (fun _ _ h=>h.drop),fun b hb=>(h.own b hb).imp (fun h=>h.drop) (fun h=>h),h.mb,h.nm,h.nn⟩
theorem append_run (hE : EnvOK P E) (H : HR E base V σ W) (hb : base ≤ W.heap.size) {ats : Array TypeId} {t : TypeId} {consts : Array Bool} {s x : AV} {S X : Value} {r : Res} (hs : VR V s S) (hx : VR V x X)
  (h:builtinV E σ .append ats [s,x]=some r):OpOK P E base V σ W ((builtin .append ats t consts #[S,X]).run P W) r:=by
 unfold builtinV at h
 simp only at h
 have key:∀ (V':View) (σ':Hp) (W':World) (v:AV) (v':Value),(Builtin.append_ ats t #[S,X]).run P W=.ok v' W'→Stp E base V σ W V' σ' W'→VR V' v v'→OpOK P E base V σ W ((builtin .append ats t consts #[S,X]).run P W) (.val v σ'):=by
  intro V' σ' W' v v' h1 h2 h3
  exact⟨V',W',v',by simp only[builtin,Sem.run_bind,h1];rfl,h2,h3⟩
 split at h
 · rename_i e hk hz1
   obtain⟨a0,ha0,hk⟩:=Option.bind_eq_some_iff.1 hk
   obtain⟨a1,ha1,d,hd,hdi⟩:=zeros_false hE H hb hz1
   obtain⟨hu,hhas,i,hi,hby⟩:=(hE.ty _ _ hk).2
   have hszr:(sizeOf e).run P W=.ok (E.size e) W:=sizeOf_run hhas W
   split at h
   · rename_i new n hel
     obtain⟨hln,C,hC,hClen,hfc⟩:=elemsOf_run (P:=P) (W:=W) H hx hel
     obtain⟨_,C',hC',hClen',hfc'⟩:=elemsOf_run (P:=P) (W:=W.drew) H.drew hx hel
     split at h
     · rename_i z hcond hz
       obtain⟨i',zv,hi',hzv,hzc,hzs,hze⟩:=hE.zero e z hz
       rw[hi] at hi';simp only[Option.some.injEq] at hi';subst hi'
       simp only[Bool.and_eq_true] at hcond
       obtain⟨⟨hn,hone⟩,hbyt⟩:=hcond
       have hn':=Nat.le_of_ble_eq_true hn
       have hby':i.bytes≤65536:=by have:=Nat.le_of_ble_eq_true hbyt;omega
       have hbd:base≤W.drew.heap.size:=hb
       have grown:∀ (base':Option Addr) (len cap:Nat) (old:List AV) (OLD:List Value) (ro:Bool),len≤1048576→S=.slice base' len cap→VRs V old OLD→old.length=len * E.size e→(Builtin.firstCells (E.size e) len (.slice base' len cap)).run P W.drew=.ok OLD.toArray W.drew→cap<len+n →
         ∀ (σ0:Hp),HR E base V σ0 W→(∀ V' σ' W',Stp E base V σ0 W V' σ' W'→Stp E base V σ W V' σ' W')→OpOK P E base V σ W ((builtin .append ats t consts #[S,X]).run P W) (.val (.sl σ0.n 0 (len+n) (len+n) (E.size e)) (σ0.push (.cells ro (old++new)))):=by
        intro base' len cap old OLD ro hlen hS hOLD holdl hfo hgt σ0 H0 hback
        obtain⟨newCap,hge,rest,hrest,hrun⟩:=append_grow (P:=P) (W:=W) (t:=t) ha0 hu ha1 hd hdi hszr hi hzv hby' hlen hn' hln hfc' hfo hgt
        have hzs':zv.cells.size=E.size e:=by rw[hzs,hze]
        have hsize:(OLD++C'++rest).toArray.size=newCap * E.size e:=by
         have h1:=hOLD.1
         simp only[List.size_toArray,List.length_append,hrest,hzs',← h1,holdl,← hC'.1,hClen']
         rw[← Nat.add_mul,← Nat.add_mul];congr 1;omega
        have hst:=push_row H0.drew hbd ro (old++new) (OLD++C'++rest).toArray e (newCap * E.size e) hsize ⟨OLD++C',rest,rfl,hOLD.append hC'⟩
        subst hS
        exact key _ _ _ _ _ hrun (hback _ _ _ hst.of_drew) (push_sl (W:=W.drew) (len+n) (len+n) newCap (E.size e) (newCap * E.size e) ⟨hge,hge⟩ (Nat.le_refl _))
       split at h
       · -- onto nil
         have hS:=hs.nils_inv
         split at h
         · simp only [Option.some.injEq] at h; subst h
           have hC0:C=[]:=List.eq_nil_of_length_eq_zero (by rw[← hC.1,hClen];simp)
           subst hC0
           have:=append_room (P:=P) (W:=W) (t:=t) (base':=none) (len:=0) (cap:=0) ha0 hu ha1 hd hdi hszr hln hfc (Nat.le_refl _) (W':=W) rfl
           rw[← hS] at this
           exact key V σ W .nils S (by rw[this,hS]) (.refl H) hs
         · rename_i hn0
           have hnp:0<n:=Nat.pos_of_ne_zero hn0
           simp only[Option.some.injEq] at h;subst h
           have:=grown none 0 0 [] [] false (by omega) hS (.nil V) (by simp) rfl (by omega) σ H (fun _ _ _ h=>h)
           simpa using this
       · -- onto one that is not nil, where there is no room
         obtain⟨B,hS⟩:∃ B,S=.slice (some B) 0 0:=by
          cases hs with
          |sle B=>exact⟨B,rfl⟩
         split at h
         · simp only [Option.some.injEq] at h; subst h
           have hC0:C=[]:=List.eq_nil_of_length_eq_zero (by rw[← hC.1,hClen];simp)
           subst hC0
           have:=append_room (P:=P) (W:=W) (t:=t) (base':=some B) (len:=0) (cap:=0) ha0 hu ha1 hd hdi hszr hln hfc (Nat.le_refl _) (W':=W) rfl
           rw[← hS] at this
           exact key V σ W .sle S (by rw[this,hS]) (.refl H) hs
         · rename_i hn0
           have hnp:0<n:=Nat.pos_of_ne_zero hn0
           simp only[Option.some.injEq] at h;subst h
           have:=grown (some B) 0 0 [] [] false (by omega) hS (.nil V) (by simp) (by show (loadCells B (0 * E.size e)).run P W.drew=_;rw[Nat.zero_mul];rfl) (by omega) σ H (fun _ _ _ h=>h)
           simpa using this
       · -- nothing onto a row that is not written
         rename_i cells len
         obtain⟨B,cap,hcap,hS⟩:∃ B cap,len≤cap∧S=.slice (some B) len cap:=by
          cases hs with
          |csl _ _ blk o cap A f hk hv hc ha=>exact⟨A,cap,hc,rfl⟩
         split at h
         · simp only [Option.some.injEq] at h; subst h
           have hC0:C=[]:=List.eq_nil_of_length_eq_zero (by rw[← hC.1,hClen];simp)
           subst hC0
           have:=append_room (P:=P) (W:=W) (t:=t) (base':=some B) (len:=len) (cap:=cap) ha0 hu ha1 hd hdi hszr hln hfc (by omega) (W':=W) rfl
           rw[← hS] at this
           exact key V σ W _ S (by rw[this,hS];rfl) (.refl H) hs
         · cases h
       · -- onto one that has no room
         rename_i id off len sz
         obtain⟨blk,sh,A,hm,hS,hA⟩:=hs.fsl_inv
         split at h
         · rename_i ro l hget
           split at h
           · rename_i hend hlc
             have hend':=Nat.eq_of_beq_eq_true hend
             simp only[Bool.and_eq_true] at hlc
             have hlen':=Nat.le_of_ble_eq_true hlc.1
             have hsz':=Nat.eq_of_beq_eq_true hlc.2
             subst hsz'
             split at h
             · cases h
             · rename_i hn0
               have hnp:0<n:=Nat.pos_of_ne_zero hn0
               simp only[Option.some.injEq] at h;subst h
               have hold:loadC E σ (.ptr id off) (len * E.size e)=some (l.drop off):=by
                simp only[loadC,hget,cut]
                rw[show Nat.ble (off+len * E.size e) l.length=true from Nat.ble_eq_true_of_le (by omega)]
                simp only[Option.some.injEq]
                exact List.take_of_length_le (by simp;omega)
               obtain⟨B,L,hB,_,hLlen,hL,hcell⟩:=loadC_spec H (VR.ptr id off blk sh hm) hold
               simp only[Value.pointer.injEq,Option.some.injEq] at hB;subst hB
               have hfo:(Builtin.firstCells (E.size e) len (.slice (some A) len len)).run P W.drew=.ok L.toArray W.drew:=by
                show (loadCells A (len * E.size e)).run P W.drew=_
                rcases hA with h0|⟨rfl,_⟩
                · have h00 : len * E.size e = 0 := by simp [h0]
                  have hL0:L=[]:=List.eq_nil_of_length_eq_zero (by rw[← hL.1,hLlen];exact h00)
                  rw[h00,hL0];rfl
                · have := run_loadCells_list (P := P) W.drew _ L hcell
                  rw[← hL.1,hLlen] at this;exact this
               exact grown (some A) len len (l.drop off) L false hlen' hS hL hLlen hfo (by omega) σ H (fun _ _ _ h=>h)
           · cases h
         · cases h
       · -- onto a row of one's own
         rename_i id off len cl sz
         obtain⟨blk,sh,cap,A,hm,hcap,hS,hA⟩:=hs.sl_inv
         split at h
         · rename_i ro l hget
           split at h
           · rename_i hend hlc
             have hend':=Nat.eq_of_beq_eq_true hend
             simp only[Bool.and_eq_true] at hlc
             have hlen':=Nat.le_of_ble_eq_true hlc.1
             have hsz':=Nat.eq_of_beq_eq_true hlc.2
             subst hsz'
             split at h
             · simp only [Option.some.injEq] at h; subst h
               have hC0:C=[]:=List.eq_nil_of_length_eq_zero (by rw[← hC.1,hClen];simp)
               subst hC0
               have:=append_room (P:=P) (W:=W) (t:=t) (base':=some A) (len:=len) (cap:=cap) ha0 hu ha1 hd hdi hszr hln hfc (by omega) (W':=W) rfl
               rw[← hS] at this
               exact key V σ W _ S (by rw[this,hS];rfl) (.refl H) hs
             · rename_i hn0
               have hnp:0<n:=Nat.pos_of_ne_zero hn0
               simp only[Option.some.injEq] at h;subst h
               by_cases hroom:len+n≤cap
               · obtain ⟨hAe, hNb⟩ := hA.resolve_left (by omega)
                 have hCl:C.length=n * E.size e:=by rw[← hC.1,hClen]
                 have hfit:sh+l.length+C.length≤V.N blk:=by
                  rw[hCl,← hend']
                  have:=Nat.mul_le_mul_right (E.size e) hroom
                  rw[Nat.add_mul] at this
                  omega
                 obtain⟨W',hst,hstp⟩:=H.extend (P:=P) (off:=off) hget hm (by omega) hC (oneAll_spec hone hC) hfit
                 have haddr:A.add (len * E.size e)=⟨blk,sh+l.length,none⟩:=by
                  rw[hAe,addr_add];congr 1;omega
                 have:=append_room (P:=P) (W:=W) (t:=t) (base':=some A) (len:=len) (cap:=cap) ha0 hu ha1 hd hdi hszr hln hfc hroom (W':=W') (by show (storeCells (A.add (len * E.size e)) C).run P W=_;rw[haddr];exact hst)
                 rw[← hS] at this
                 refine key _ _ _ _ _ this hstp (.sl _ _ _ _ _ blk (sh+off) cap A ?_ ⟨hroom,hroom⟩ (.inr ⟨by rw[hAe];rfl,by omega⟩))
                 simp
               · have hold : loadC E σ (.ptr id off) (len * E.size e) = some (l.drop off) := by
                  simp only[loadC,hget,cut]
                  rw[show Nat.ble (off+len * E.size e) l.length=true from Nat.ble_eq_true_of_le (by omega)]
                  simp only[Option.some.injEq]
                  exact List.take_of_length_le (by simp;omega)
                 obtain⟨B,L,hB,_,hLlen,hL,hcell⟩:=loadC_spec H (VR.ptr id off blk sh hm) hold
                 simp only[Value.pointer.injEq,Option.some.injEq] at hB;subst hB
                 have hfo : (Builtin.firstCells (E.size e) len (.slice (some A) len cap)).run P W.drew = .ok L.toArray W.drew := by
                  show (loadCells A (len * E.size e)).run P W.drew=_
                  rcases hA with h0|⟨rfl,_⟩
                  · have h00 : len * E.size e = 0 := by have : len = 0 := by omega
                                                        simp[this]
                    have hL0:L=[]:=List.eq_nil_of_length_eq_zero (by rw[← hL.1,hLlen];exact h00)
                    rw[h00,hL0];rfl
                  · have := run_loadCells_list (P := P) W.drew _ L hcell
                    rw[← hL.1,hLlen] at this;exact this
                 exact grown (some A) len cap (l.drop off) L ro hlen' hS hL hLlen hfo (by omega) (σ.set id .gone) (H.drop id (H.all _ _ (by assumption))) (fun _ _ _ h=>h.of_drop)
           · rename_i hend hlc
             simp only[Bool.and_eq_true] at hlc
             have hsz':=Nat.eq_of_beq_eq_true hlc.2
             subst hsz'
             split at h
             · simp only [Option.some.injEq] at h; subst h
               have hC0:C=[]:=List.eq_nil_of_length_eq_zero (by rw[← hC.1,hClen];simp)
               subst hC0
               have:=append_room (P:=P) (W:=W) (t:=t) (base':=some A) (len:=len) (cap:=cap) ha0 hu ha1 hd hdi hszr hln hfc (by omega) (W':=W) rfl
               rw[← hS] at this
               exact key V σ W _ S (by rw[this,hS];rfl) (.refl H) hs
             · rename_i hn0
               have hnp:0<n:=Nat.pos_of_ne_zero hn0
               split at h
               · rename_i hin hcl
                 have hin':=Nat.le_of_ble_eq_true hin
                 have hcl':=Nat.le_of_ble_eq_true hcl
                 simp only[Option.some.injEq] at h;subst h
                 have hroom:len+n≤cap:=by omega
                 have hCl:C.length=n * E.size e:=by rw[← hC.1,hClen]
                 obtain⟨hAe,hNb⟩:=hA.resolve_left (by omega)
                 obtain⟨W',hst,hH',hfr,hown⟩:=H.write (P:=P) (off:=off+len * E.size e) hget hm hC (by rw[hClen];rw[Nat.add_mul] at hin';omega) (oneAll_spec hone hC)
                 have haddr:A.add (len * E.size e)=⟨blk,sh+(off+len * E.size e),none⟩:=by
                  rw[hAe,addr_add];congr 1;omega
                 have:=append_room (P:=P) (W:=W) (t:=t) (base':=some A) (len:=len) (cap:=cap) ha0 hu ha1 hd hdi hszr hln hfc hroom (W':=W') (by show (storeCells (A.add (len * E.size e)) C).run P W=_;rw[haddr];exact hst)
                 rw[← hS] at this
                 exact key V _ W' _ _ this ⟨View.le.refl V,rfl,fun _ _ _ h=>.inl h,hH',hfr,hown,fun i b s h=>.inl ⟨i,s,h⟩,fun _ _ h=>.inl h,Nat.le_refl _⟩ (.sl _ _ _ _ _ blk sh cap A hm ⟨hroom,by omega⟩ hA)
               · cases h
           · cases h
         · cases h
       · cases h
     · cases h
   · cases h
 · -- zeros onto nil
   rename_i e hk hz1
   obtain⟨a0,ha0,hk⟩:=Option.bind_eq_some_iff.1 hk
   obtain⟨hu,hhas,i,hi,hby⟩:=(hE.ty _ _ hk).2
   have hszr:(sizeOf e).run P W=.ok (E.size e) W:=sizeOf_run hhas W
   split at h
   · rename_i kd k' n hk1
     obtain⟨a1,ha1,hk1⟩:=Option.bind_eq_some_iff.1 hk1
     have hu1:P.underlying a1=some (.int kd):=(hE.ty _ _ hk1).2
     split at h
     · rename_i z hcond hz
       obtain⟨i',zv,hi',hzv,hzc,hzs,hze⟩:=hE.zero e z hz
       rw[hi] at hi';simp only[Option.some.injEq] at hi';subst hi'
       simp only[Bool.and_eq_true] at hcond
       obtain⟨⟨⟨h1,h2⟩,h3⟩,h4⟩:=hcond
       have h1:=Nat.le_of_ble_eq_true h1
       have h2:=Nat.le_of_ble_eq_true h2
       have h3:=Nat.le_of_ble_eq_true h3
       have h4:=Nat.le_of_ble_eq_true h4
       simp only[Option.some.injEq] at h;subst h
       have hS:=hs.nils_inv
       have hX:=hx.int_inv
       subst hS
       subst hX
       have hbd:base≤W.drew.heap.size:=hb
       obtain⟨newCap,hge,rest,hrest,hrun⟩:=append_zeros (P:=P) (W:=W) (t:=t) (kk:=k') (n:=n) (size:=E.size e) ha0 hu ha1 hu1 hszr hi hzv (by omega) (by omega) h2 (by omega)
       have hzs':zv.cells.size=E.size e:=by rw[hzs,hze]
       have hrow:(Builtin.zeroCells zv.cells n).toList=(List.range (n * zv.cells.size)).map fun j=>zv.cells[j % zv.cells.size]!:=range_map_toList _ _
       have hsize:((Builtin.zeroCells zv.cells n).toList++rest).toArray.size=newCap * E.size e:=by
        simp only[List.size_toArray,List.length_append,hrest,hrow,List.length_map,List.length_range,hzs']
        rw[← Nat.add_mul];congr 1;omega
       have hst:=push_row H.drew hbd false (repl n z.cells) ((Builtin.zeroCells zv.cells n).toList++rest).toArray e (newCap * E.size e) hsize ⟨(Builtin.zeroCells zv.cells n).toList,rest,rfl,by rw[hrow];exact repl_spec (hzc V).cells n⟩
       exact key _ _ _ _ _ hrun hst.of_drew (push_sl (W:=W.drew) n n newCap (E.size e) (newCap * E.size e) ⟨hge,hge⟩ (Nat.le_refl _))
     · cases h
   · cases h
 · cases h
theorem minN_le (a b:Nat):minN a b≤a∧minN a b≤b∧minN a b=Nat.min a b:=by
 unfold minN
 split
 · rename_i h;have:=Nat.le_of_ble_eq_true h;exact⟨Nat.le_refl _,this,(Nat.min_eq_left this).symm⟩
 · rename_i h
   have:¬ a≤b:=fun e=>by rw[Nat.ble_eq_true_of_le e] at h;cases h
   exact⟨by omega,Nat.le_refl _,(Nat.min_eq_right (by omega)).symm⟩
theorem copyW_run (hE : EnvOK P E) (H : HR E base V σ W) {ats : Array TypeId} {t e : TypeId} {consts : Array Bool} {x : AV} {X S : Value} {id off len cl sz : Nat} {r : Res} (hk : (ats[0]?).bind E.ty = some (.slice e)) (hs : VR V (.sl id off len cl sz) S) (hx : VR V x X)
  (h:copyW σ (E.size e) id off len sz x=some r) (m:Nat) (Y:Value) (hm:∀ n,(Builtin.lenOf X).run P W=.ok n W→n=m∧m≤len) (hl:∀ n,(Builtin.lenOf X).run P W=.ok n W→∃ n',(Builtin.lenOf Y).run P W=.ok n' W∧Nat.min n' len=m) (hf:∀ C,(Builtin.firstCells (E.size e) m X).run P W=.ok C W→(Builtin.firstCells (E.size e) m Y).run P W=.ok C W) :
  OpOK P E base V σ W ((builtin .copy ats t consts #[S,Y]).run P W) r:=by
 obtain⟨a0,ha0,hk⟩:=Option.bind_eq_some_iff.1 hk
 obtain⟨hu,hhas,i,hi,hby⟩:=(hE.ty _ _ hk).2
 have hszr:(sizeOf e).run P W=.ok (E.size e) W:=sizeOf_run hhas W
 unfold copyW at h
 split at h
 · rename_i new n hel
   obtain⟨hln,C,hC,hClen,hfc⟩:=elemsOf_run (P:=P) (W:=W) H hx hel
   obtain⟨rfl,hmle⟩:=hm n hln
   obtain⟨n',hn',hmin⟩:=hl n hln
   have hfc':=hf _ hfc
   split at h
   · rename_i l hget
     split at h
     · rename_i g1 g2 g3
       have g1':=Nat.eq_of_beq_eq_true g1;subst g1'
       have g2':=Nat.le_of_ble_eq_true g2
       simp only[Option.some.injEq] at h;subst h
       obtain⟨blk,sh,cap,A,hmm,hcap,rfl,hA⟩:=hs.sl_inv
       have hfit:off+new.length≤l.length:=by
        rw[hClen]
        have:=Nat.mul_le_mul_right (E.size e) hmle
        omega
       obtain⟨W',hst,hH',hfr,hown⟩:=H.write (P:=P) (off:=off) hget hmm hC hfit (oneAll_spec g3 hC)
       have hst':(storeCells A C).run P W=.ok () W':=by
        rcases hA with h0|⟨rfl,_⟩
        · have hC0 : C = [] := List.eq_nil_of_length_eq_zero (by
           rw[← hC.1,hClen]
           have:n=0:=by omega
           rw[this];simp)
          subst hC0
          exact hst
        · exact hst
       refine⟨V,W',goInt n,?_,⟨View.le.refl V,rfl,fun _ _ _ h=>.inl h,hH',hfr,hown,fun i b s h=>.inl ⟨i,s,h⟩,fun _ _ h=>.inl h,Nat.le_refl _⟩,.int _ _⟩
       have:(Builtin.copy_ ats t #[.slice (some A) len cap,Y]).run P W=.ok (goInt n) W':=by
        unfold Builtin.copy_
        simp only[ha0]
        simp only[List.getElem?_toArray,List.getElem?_cons_zero,List.getElem?_cons_succ,Sem.run_bind,under_run hu,Result.andThen_ok,hn',hmin,hszr,hfc',List.toList_toArray,hst',Sem.run_pure]
       simp only[builtin,Sem.run_bind,this];rfl
     · cases h
   · cases h
 · cases h
theorem copy_run (hE:EnvOK P E) (H:HR E base V σ W) {ats:Array TypeId} {t:TypeId} {consts:Array Bool} {s x:AV} {S X:Value} {r:Res} (hs:VR V s S) (hx:VR V x X)
  (h:builtinV E σ .copy ats [s,x]=some r):OpOK P E base V σ W ((builtin .copy ats t consts #[S,X]).run P W) r:=by
 unfold builtinV at h
 simp only at h
 split at h
 · rename_i e hk
   unfold copyV at h
   split at h
   · rename_i id off len cl sz
     split at h
     · rename_i id2 off2 len2 cl2 sz2
       obtain⟨h1,h2,h3⟩:=minN_le len2 len
       obtain⟨blk,sh,cap,A,hmm,hcap,rfl,hA⟩:=hx.sl_inv
       exact copyW_run hE H hk hs (X:=.slice (some A) (minN len2 len) cap) (.sl _ _ _ _ _ blk sh cap A hmm ⟨by omega,hcap.2⟩ hA) h (minN len2 len) _ (fun n hn=>by cases hn;exact⟨rfl,h2⟩) (fun n hn=>⟨len2,rfl,h3.symm⟩) (fun C hC=>hC)
     · rename_i cells len2
       obtain⟨h1,h2,h3⟩:=minN_le len2 len
       obtain⟨blk,o,cap,A,f,hkk,hvv,hc,rfl,hA⟩:=hx.csl_inv
       exact copyW_run hE H hk hs (X:=.slice (some A) (minN len2 len) cap) (.csl _ _ blk o cap A f hkk hvv (by omega) hA) h (minN len2 len) _ (fun n hn=>by cases hn;exact⟨rfl,h2⟩) (fun n hn=>⟨len2,rfl,h3.symm⟩) (fun C hC=>hC)
     · cases h
   · cases h
 · cases h
theorem clear_run (hE:EnvOK P E) (H:HR E base V σ W) {ats:Array TypeId} {t:TypeId} {consts:Array Bool} {s:AV} {S:Value} {r:Res} (hs:VR V s S)
  (h:builtinV E σ .clear ats [s]=some r):OpOK P E base V σ W ((builtin .clear ats t consts #[S]).run P W) r:=by
 unfold builtinV at h
 simp only at h
 split at h
 · rename_i e hk
   obtain⟨a0,ha0,hk⟩:=Option.bind_eq_some_iff.1 hk
   obtain⟨hu,hhas,i,hi,hby⟩:=(hE.ty _ _ hk).2
   unfold clearV at h
   have tup0:∀ V,VR V (.tup []) (.tuple #[]):=fun V=>VR.tup' (A:=[]) (.nil _)
   have fin:∀ W',(Builtin.clear_ ats t #[S]).run P W=.ok (.tuple #[]) W'→(builtin .clear ats t consts #[S]).run P W=.ok (.value (.tuple #[])) W':=fun W' h=>by
    simp only[builtin,Sem.run_bind,h];rfl
   split at h
   · simp only [Option.some.injEq] at h; subst h
     refine .same H (v':=.tuple #[]) (fin _ ?_) (tup0 V)
     cases hs
     unfold Builtin.clear_
     simp only[ha0,List.getElem?_toArray,List.getElem?_cons_zero,Sem.run_bind,under_run hu,Result.andThen_ok,Sem.run_pure]
   · rename_i id off len cl sz
     obtain⟨blk,sh,cap,A,hmm,hcap,rfl,hA⟩:=hs.sl_inv
     split at h
     · simp only [Option.some.injEq] at h; subst h
       refine .same H (v':=.tuple #[]) (fin _ ?_) (tup0 V)
       unfold Builtin.clear_
       simp only[ha0,List.getElem?_toArray,List.getElem?_cons_zero,Sem.run_bind,under_run hu,Result.andThen_ok,Sem.run_pure]
     · rename_i len
       split at h
       · rename_i l z hget hz
         split at h
         · rename_i g1 g2 g3
           have g1':=Nat.eq_of_beq_eq_true g1;subst g1'
           have g2':=Nat.le_of_ble_eq_true g2
           simp only[Option.some.injEq] at h;subst h
           obtain⟨i2,v,hi2,hv,hcn,hsz,hse⟩:=hE.zero e z hz
           rw[hi] at hi2;simp only[Option.some.injEq] at hi2;subst hi2
           have hC:=repl_spec (V:=V) (hcn V).cells (len+1)
           have hzl:(repl (len+1) z.cells).length=(len+1) * E.size e:=by
            rw[hC.1];simp[hsz,hse]
           obtain⟨W',hst,hH',hfr,hown⟩:=H.write (P:=P) (off:=off) hget hmm hC (by rw[hzl];exact g2') (oneAll_spec g3 hC)
           have hzv:(zeroValue e).run P W=.ok v W:=by simp[zeroValue,typeInfo,hi,hv]
           have hAe:=(hA.resolve_left (by omega)).1
           subst hAe
           have hzc:(Builtin.zeroCells v.cells (len+1)).toList=(List.range ((len+1) * v.cells.size)).map fun i=>v.cells[i % v.cells.size]!:=by simp[Builtin.zeroCells]
           refine⟨V,W',.tuple #[],fin _ ?_,⟨View.le.refl V,rfl,fun _ _ _ h=>.inl h,hH',hfr,hown,fun i b s h=>.inl ⟨i,s,h⟩,fun _ _ h=>.inl h,Nat.le_refl _⟩,tup0 V⟩
           unfold Builtin.clear_
           simp only[ha0,List.getElem?_toArray,List.getElem?_cons_zero,Sem.run_bind,under_run hu,Result.andThen_ok,hzv,hzc,hst,Sem.run_pure]
         · cases h
       · cases h
   · cases h
 · rename_i ke e hk
   obtain⟨a0,ha0,hk⟩:=Option.bind_eq_some_iff.1 hk
   obtain⟨hu,_⟩:=(hE.ty _ _ hk).2
   have tup0:∀ V,VR V (.tup []) (.tuple #[]):=fun V=>VR.tup' (A:=[]) (.nil _)
   have fin:∀ W',(Builtin.clear_ ats t #[S]).run P W=.ok (.tuple #[]) W'→(builtin .clear ats t consts #[S]).run P W=.ok (.value (.tuple #[])) W':=fun W' h=>by
    simp only[builtin,Sem.run_bind,h];rfl
   unfold clearM at h
   split at h
   · simp only [Option.some.injEq] at h; subst h
     refine .same H (v':=.tuple #[]) (fin _ ?_) (tup0 V)
     cases hs
     unfold Builtin.clear_
     simp only[ha0,List.getElem?_toArray,List.getElem?_cons_zero,Sem.run_bind,under_run hu,Result.andThen_ok,Sem.run_pure]
   · rename_i id
     split at h
     · rename_i hget
       simp only[Option.some.injEq] at h;subst h
       obtain⟨blk,sh,hmm,_,hlt,rfl,en,clock,hobj,_,_⟩:=H.obj _ _ hget (by simp)
       obtain⟨blk',hm',rfl⟩:=hs.mp_inv
       rw[hmm] at hm';simp only[Option.some.injEq,Prod.mk.injEq,and_true] at hm';subst hm'
       have hg:(getObj blk).run P W=.ok (.map en clock) W:=by simp only[getObj,Sem.run,hobj]
       have hset:(setObj blk (.map #[] clock)).run P W=.ok () { W with heap:=W.heap.setIfInBounds blk (.map #[] clock) }:=by simp only[setObj,Sem.run,hobj]
       refine⟨V,_,.tuple #[],fin _ ?_,upd_obj0 H hget (by simp) hmm hobj (by intro c t f e;cases e) (obj':=.map #[] clock) ⟨rfl,#[],clock,by simp[hlt],.nil _,.nil _⟩,tup0 V⟩
       unfold Builtin.clear_
       simp only[ha0,List.getElem?_toArray,List.getElem?_cons_zero,Sem.run_bind,under_run hu,Result.andThen_ok,hg,hset,Sem.run_pure]
     · rename_i es bs ck hget
       simp only[Option.some.injEq] at h;subst h
       obtain⟨blk,sh,hmm,_,hlt,rfl,en,hobj,_,_,_⟩:=H.obj _ _ hget (by simp)
       obtain⟨blk',hm',rfl⟩:=hs.mp_inv
       rw[hmm] at hm';simp only[Option.some.injEq,Prod.mk.injEq,and_true] at hm';subst hm'
       have hg:(getObj blk).run P W=.ok (.map en ck) W:=by simp only[getObj,Sem.run,hobj]
       have hset:(setObj blk (.map #[] ck)).run P W=.ok () { W with heap:=W.heap.setIfInBounds blk (.map #[] ck) }:=by simp only[setObj,Sem.run,hobj]
       refine⟨V,_,.tuple #[],fin _ ?_,upd_obj0 H hget (by simp) hmm hobj (by intro c t f e;cases e) (obj':=.map #[] ck) ⟨rfl,#[],by simp[hlt],.nil _,.nil _,rfl⟩,tup0 V⟩
       unfold Builtin.clear_
       simp only[ha0,List.getElem?_toArray,List.getElem?_cons_zero,Sem.run_bind,under_run hu,Result.andThen_ok,hg,hset,Sem.run_pure]
     · cases h
   · cases h
 · cases h
end
end Go.Eng


namespace Go.Eng
open Go
theorem Tr.get_set_ne {α : Type} (t : Tr α) (k j : Nat) (x : α) (h : j ≠ k) : (t.set k x).get j = t.get j := by
 induction t generalizing k j with
 |lf=>rfl
 | nd l w r ihl ihr =>
  rw[Tr.set_nd]
  cases k with
  |zero=>
   simp only
   cases j with
   |zero=>exact absurd rfl h
   |succ j=>rw[Tr.get_nd,Tr.get_nd];rfl
  | succ k =>
   simp only
   by_cases hk:(k+1) % 2=1
   · have e : Nat.beq ((k + 1) % 2) 1 = true := by rw [hk]; rfl
     rw[e];simp only
     cases j with
     |zero=>rw[Tr.get_nd,Tr.get_nd];rfl
     |succ j=>
      rw[Tr.get_nd,Tr.get_nd];simp only
      by_cases hj:(j+1) % 2=1
      · have e' : Nat.beq ((j + 1) % 2) 1 = true := by rw [hj]; rfl
        rw[e'];simp only
        exact ihl _ _ (by omega)
      · have e' : Nat.beq ((j + 1) % 2) 1 = false := by
         have:(j+1) % 2=0:=by omega
         rw[this];rfl
        rw[e']
   · have e : Nat.beq ((k + 1) % 2) 1 = false := by
      have:(k+1) % 2=0:=by omega
      rw[this];rfl
     rw[e];simp only
     cases j with
     |zero=>rw[Tr.get_nd,Tr.get_nd];rfl
     |succ j=>
      rw[Tr.get_nd,Tr.get_nd];simp only
      by_cases hj:(j+1) % 2=1
      · have e' : Nat.beq ((j + 1) % 2) 1 = true := by rw [hj]; rfl
        rw[e']
      · have e' : Nat.beq ((j + 1) % 2) 1 = false := by
         have:(j+1) % 2=0:=by omega
         rw[this];rfl
        rw[e'];simp only
        exact ihr _ _ (by omega)
theorem Hp.get_set_ne (σ:Hp) (k j:Nat) (o:AO) (h:j≠k):(σ.set k o).get j=σ.get j:=Tr.get_set_ne _ _ _ _ h
theorem Hp.get_empty (j:Nat):Hp.empty.get j=none:=Tr.get_full 22 j
section
variable {P:Program} {E:Env} {base:Nat} {V:View} {σ:Hp} {W:World}
structure Fz (E:Env) (base:Nat) (V:View) (σ:Hp) (W:World) (V':View) (σ':Hp):Prop where
 le:V.le V'
 m:V'.m=V.m
 lv:V'.lv=V.lv
 N:V'.N=V.N
 n:σ'.n=σ.n
 hr:HR E base V' σ' W
 K:∀ b o v,V'.K b o=some v→V.K b o=some v∨Own V σ b
 own:∀ id,live σ' id→live σ id
theorem Fz.refl (H:HR E base V σ W):Fz E base V σ W V σ:=⟨View.le.refl V,rfl,rfl,rfl,rfl,H,fun _ _ _ h=>.inl h,fun _ h=>h⟩
theorem Fz.ownB {V':View} {σ':Hp} (h:Fz E base V σ W V' σ') {b:Nat} (hb:Own V' σ' b):Own V σ b:=by
 obtain⟨id,s,hl,hm⟩:=hb
 exact⟨id,s,h.own id hl,by rw[← h.m];exact hm⟩
theorem Fz.trans {V' V'':View} {σ' σ'':Hp} (h:Fz E base V σ W V' σ') (k:Fz E base V' σ' W V'' σ''):Fz E base V σ W V'' σ'':=
 ⟨h.le.trans k.le,k.m.trans h.m,k.lv.trans h.lv,k.N.trans h.N,k.n.trans h.n,k.hr,fun b o v hv=>by
  rcases k.K b o v hv with h'|h'
  · exact h.K b o v h'
  · exact .inr (h.ownB h'),fun id hl=>h.own id (k.own id hl)⟩
open Classical in
theorem frz_one (H:HR E base V σ W) {id:Nat} {ro:Bool} {l:List AV} {blk s:Nat} (hid:σ.get id=some (.cells ro l)) (hm:V.m id=some (blk,s)) :
  ∃ V',Fz E base V σ W V' (σ.set id (.cells true l))∧∃ L:List Value,VRs V l L∧∀ i (h:i<L.length),V'.K blk (s+i)=some L[i]:=by
 obtain⟨blk',s',hm',hbase,hlt,cs,t,hb,⟨hsz,hN⟩,⟨L,hL,hc⟩,hK⟩:=H.obj _ _ hid (by simp)
 rw[hm] at hm';simp only[Option.some.injEq,Prod.mk.injEq] at hm';obtain⟨rfl,rfl⟩:=hm'
 let V':View:={ V with K:=fun b o=>if b=blk∧s≤o∧o<s+l.length then W.cell? ⟨b,o,none⟩ else V.K b o }
 have hcell:∀ i (h:i<L.length),W.cell? ⟨blk,s+i,none⟩=some L[i]:=fun i hi=>by rw[cell_of_row _ _ _ _ _ _ hb];exact hc i hi
 have hle:V.le V':=⟨fun _ _ h=>h,fun _ _ h=>h,fun b o v hk=>by
  simp only[V']
  split
  · exact H.cell _ _ _ hk
  · exact hk,fun _ _ _ _=>rfl⟩
 have lvl:∀ x,live (σ.set id (.cells true l)) x→live σ x:=by
  intro x ⟨o,hx,hn⟩
  rcases Hp.get_set hx with ⟨rfl,_⟩|⟨_,hx'⟩
  · exact⟨_,hid,by simp⟩
  · exact⟨o,hx',hn⟩
 refine⟨V',⟨hle,rfl,rfl,rfl,rfl,⟨fun b o v hk=>?_,fun g gl hg=>?_,fun x o hx hn=>?_,fun a b c d e h1 h2 h3 h4=>H.inj _ _ _ _ _ (lvl _ h1) (lvl _ h2) h3 h4,H.fresh,fun x o hx=>by
  rcases Hp.get_set hx with ⟨rfl,_⟩|⟨_,hx'⟩
  · exact⟨_,hm⟩
  · exact H.all _ _ hx'⟩,fun b o v hk=>?_,lvl⟩,L,hL,fun i hi=>?_⟩
 · simp only [V'] at hk
   split at hk
   · exact hk
   · exact H.cell _ _ _ hk
 · obtain ⟨f, hf⟩ := H.glob g gl hg
   exact⟨f,fun i hi=>⟨hle.K _ _ _ (hf i hi).1,(hf i hi).2.mono (View.bare_mono hle.K)⟩⟩
 · rcases Hp.get_set hx with ⟨rfl, rfl⟩ | ⟨hne, hx'⟩
   · refine ⟨blk, s, hm, hbase, hlt, cs, t, hb, ⟨hsz, hN⟩, ⟨L, hL.mono hle, hc⟩, fun o v hk => ⟨rfl, ?_⟩⟩
     simp only[V'] at hk
     split at hk
     · rename_i h;exact h.2.2
     · exact (hK o v hk).2
   · obtain ⟨b, s1, g1, g2, g3, g4⟩ := H.obj x o hx' hn
     have hbne:b≠blk:=fun eb=>hne (H.inj _ _ _ _ _ ⟨o,hx',hn⟩ ⟨_,hid,by simp⟩ (eb▸g1) hm)
     refine⟨b,s1,g1,g2,g3,g4.mono hle rfl (fun i v hk=>?_) rfl⟩
     simp only[V'] at hk
     rw[if_neg (fun h=>hbne h.1)] at hk;exact hk
 · simp only [V'] at hk
   split at hk
   · rename_i h;exact .inr ⟨id,s,⟨_,hid,by simp⟩,h.1▸hm⟩
   · exact .inl hk
 · have hi' : i < l.length := by rw [hL.1]; exact hi
   simp only[V']
   rw[if_pos ⟨trivial,by omega,by omega⟩]
   exact hcell i hi
theorem scalP_spec {V:View}:∀ {l:List AV} {L:List Value},scalP l=true→VRs V l L→VRs V.bare l L
 |[],L,_,h=>by cases h.nil_inv;exact .nil _
 |v::l,L,hp,h=>by
  obtain⟨X,Xs,rfl,hX,hXs⟩:=h.cons_inv
  cases v with
  |int k n=>exact .cons (by cases hX;exact .int _ _) (scalP_spec hp hXs)
  |bool b=>exact .cons (by cases hX;exact .bool _) (scalP_spec hp hXs)
  |str b=>exact .cons (by cases hX;exact .str _) (scalP_spec hp hXs)
  |_=>cases hp
theorem plainL_spec {V:View}:∀ {l:List AV} {L:List Value},plainL l=true→VRs V l L→VRs V.bare l L
 |[],L,_,h=>by cases h.nil_inv;exact .nil _
 | v :: l, L, hp, h => by
  obtain⟨X,Xs,rfl,hX,hXs⟩:=h.cons_inv
  cases v with
  |int k n=>exact .cons (by cases hX;exact .int _ _) (plainL_spec hp hXs)
  |bool b=>exact .cons (by cases hX;exact .bool _) (plainL_spec hp hXs)
  |str b=>exact .cons (by cases hX;exact .str _) (plainL_spec hp hXs)
  |nils=>exact .cons (by cases hX;constructor) (plainL_spec hp hXs)
  | ifc t w =>
   cases w with
   | agg xs =>
    simp only[plainL,Bool.and_eq_true] at hp
    refine .cons ?_ (plainL_spec hp.2 hXs)
    cases hX with
    | ifc _ _ r hr =>
     cases hr with
     |agg _ A hA hAv=>
      have:=scalP_spec hp.1 (⟨hA,hAv⟩:VRs V xs A)
      exact .ifc _ _ _ (.agg _ A this.1 this.2)
   |_=>cases hp
  | csl cells n => exact .cons (by
    obtain⟨blk,o,cap,A,f,hk,hvv,hc,rfl,hA⟩:=hX.csl_inv
    exact .csl _ _ blk o cap A f hk hvv hc hA) (plainL_spec hp hXs)
  | vs t nl l' => exact .cons (by
    cases hX with
    |vsn=>exact .vsn _
    |vs _ _ blk o cap A f hk hvv hc hA=>exact .vs _ _ blk o cap A f hk hvv hc hA) (plainL_spec hp hXs)
  |_=>cases hp
theorem frz_both : ∀ n : Nat,
  (∀ (v v':AV) (V:View) (σ σ':Hp) (R:Value),HR E base V σ W→VR V v R→frz n v σ=some (v',σ')→∃ V',Fz E base V σ W V' σ'∧VR V'.bare v' R) ∧
  (∀ (l l':List AV) (V:View) (σ σ':Hp) (L:List Value),HR E base V σ W→VRs V l L→frzL n l σ=some (l',σ')→∃ V',Fz E base V σ W V' σ'∧VRs V'.bare l' L)
 |0=>by
  refine⟨fun v v' V σ σ' R H hv h=>by simp[frz] at h,fun l l' V σ σ' L H hl h=>?_⟩
  cases l with
  |nil=>simp only[frzL,Option.some.injEq,Prod.mk.injEq] at h;obtain⟨rfl,rfl⟩:=h;cases hl.nil_inv;exact⟨V,.refl H,.nil _⟩
  |cons v vs=>simp[frzL] at h
 | n + 1 => by
  obtain⟨ih1,ih2⟩:=frz_both n
  refine⟨fun v v' V σ σ' R H hv h=>?_,fun l l' V σ σ' L H hl h=>?_⟩
  · cases v <;> simp only [frz] at h
    case sl id off len cl sz =>
     split at h
     · rename_i ro l hget
       split at h
       · rename_i hp
         simp only[Option.some.injEq,Prod.mk.injEq] at h;obtain⟨rfl,rfl⟩:=h
         obtain⟨blk,s,cap,A,hm,hc,rfl,hA⟩:=hv.sl_inv
         obtain⟨V1,hf1,L,hL,hK⟩:=frz_one H hget hm
         have hp2:=plainL_spec hp ((hL.mono hf1.le).drop off)
         refine⟨V1,hf1,.csl (l.drop off) len blk (s+off) cap A (fun i=>(L.drop off).getD i undef) (fun i hi=>?_) (fun i hi=>?_) hc.1 (hA.imp (fun x=>x) (fun x=>x.1))⟩
         · show V1.K blk (s + off + i) = _
           have hi':i<(L.drop off).length:=by rw[← hp2.1];exact hi
           have hi2:off+i<L.length:=by rw[List.length_drop] at hi';omega
           have:=hK (off+i) hi2
           rw[Nat.add_assoc,this]
           simp[List.getD,hi2]
         · have hi' : i < (L.drop off).length := by rw [← hp2.1]; exact hi
           have:=hp2.2 i hi hi'
           simp only[List.getD,List.getElem?_eq_getElem hi',Option.getD_some]
           exact this
       split at h
       · rename_i cs σ1 hcs
         simp only[Option.some.injEq,Prod.mk.injEq] at h;obtain⟨rfl,rfl⟩:=h
         obtain⟨blk,s,cap,A,hm,hc,rfl,hA⟩:=hv.sl_inv
         obtain⟨V1,hf1,L,hL,hK⟩:=frz_one H hget hm
         obtain⟨V2,hf2,hcs2⟩:=ih2 _ _ V1 _ _ (L.drop off) hf1.hr ((hL.mono hf1.le).drop off) hcs
         refine⟨V2,hf1.trans hf2,.csl cs len blk (s+off) cap A (fun i=>(L.drop off).getD i undef) (fun i hi=>?_) (fun i hi=>?_) hc.1 (hA.imp (fun x=>x) (fun x=>x.1))⟩
         · show V2.K blk (s + off + i) = _
           have hi':i<(L.drop off).length:=by rw[← hcs2.1];exact hi
           have hi2:off+i<L.length:=by rw[List.length_drop] at hi';omega
           have:=hf2.le.K _ _ _ (hK (off+i) hi2)
           rw[Nat.add_assoc,this]
           simp[List.getD,hi2]
         · have hi' : i < (L.drop off).length := by rw [← hcs2.1]; exact hi
           have:=hcs2.2 i hi hi'
           simp only[List.getD,List.getElem?_eq_getElem hi',Option.getD_some]
           exact this
       · cases h
     · cases h
    case agg l=>
     split at h
     · rename_i cs σ1 hcs
       simp only[Option.some.injEq,Prod.mk.injEq] at h;obtain⟨rfl,rfl⟩:=h
       obtain⟨L,rfl,hL⟩:=hv.agg_inv
       obtain⟨V2,hf2,hcs2⟩:=ih2 _ _ V _ _ L H hL hcs
       exact⟨V2,hf2,.agg' hcs2⟩
     · cases h
    case ifc t x=>
     split at h
     · rename_i y σ1 hy
       simp only[Option.some.injEq,Prod.mk.injEq] at h;obtain⟨rfl,rfl⟩:=h
       cases hv with
       |ifc _ _ Y hY=>
        obtain⟨V2,hf2,hy2⟩:=ih1 _ _ V _ _ Y H hY hy
        exact⟨V2,hf2,.ifc _ _ _ hy2⟩
     · cases h
    case csl cells len=>
     simp only[Option.some.injEq,Prod.mk.injEq] at h;obtain⟨rfl,rfl⟩:=h
     obtain⟨blk,o,cap,A,f,hk,hvv,hc,rfl,hA⟩:=hv.csl_inv
     exact⟨V,.refl H,.csl _ _ blk o cap A f hk hvv hc hA⟩
    case vs t nl l=>
     simp only[Option.some.injEq,Prod.mk.injEq] at h;obtain⟨rfl,rfl⟩:=h
     cases hv with
     |vsn=>exact⟨V,.refl H,.vsn _⟩
     |vs _ _ blk o cap A f hk hvv hc hA=>exact⟨V,.refl H,.vs _ _ blk o cap A f hk hvv hc hA⟩
    all_goals first
     |(cases h;done)
     |(simp only[Option.some.injEq,Prod.mk.injEq] at h;obtain⟨rfl,rfl⟩:=h;exact⟨V,.refl H,by cases hv;constructor⟩)
     |(simp only[Option.some.injEq,Prod.mk.injEq] at h;obtain⟨rfl,rfl⟩:=h;exact⟨V,.refl H,by cases hv;constructor<;>assumption⟩)
  · cases l with
    |nil=>simp only[frzL,Option.some.injEq,Prod.mk.injEq] at h;obtain⟨rfl,rfl⟩:=h;cases hl.nil_inv;exact⟨V,.refl H,.nil _⟩
    |cons v vs=>
     obtain⟨X,Xs,rfl,hX,hXs⟩:=hl.cons_inv
     simp only[frzL] at h
     split at h
     · rename_i v1 σ1 hv1
       split at h
       · rename_i vs1 σ2 hvs1
         simp only[Option.some.injEq,Prod.mk.injEq] at h;obtain⟨rfl,rfl⟩:=h
         obtain⟨V1,hf1,hx1⟩:=ih1 _ _ V _ _ X H hX hv1
         obtain⟨V2,hf2,hx2⟩:=ih2 _ _ V1 _ _ Xs hf1.hr (hXs.mono hf1.le) hvs1
         exact⟨V2,hf1.trans hf2,.cons (hx1.mono (View.bare_mono hf2.le.K)) hx2⟩
       · cases h
     · cases h
theorem Stp.of_fz {V1 V':View} {σ1 σ':Hp} {W':World} (hf:Fz E base V σ W V1 σ1) (hs:Stp E base V1 σ1 W V' σ' W'):Stp E base V σ W V' σ' W':=
 ⟨hf.le.trans hs.le,hs.lv.trans hf.lv,fun b o v hv=>by
  rcases hs.K b o v hv with h|h|h
  · exact (hf.K b o v h).imp (fun y=>y) .inr
  · exact .inr (.inl h)
  · exact .inr (.inr (hf.ownB h)),hs.hr,hs.fr.weaken (fun _ _ h=>hf.ownB h),fun b hb=>(hs.own b hb).imp (fun y=>hf.ownB y) (fun y=>y),
  fun id b s hm=>by have:=hs.mb id b s hm;rw[hf.m] at this;exact this,fun id x hx=>by have:=hs.nm id x hx;rw[hf.m,hf.n] at this;exact this,by have:=hs.nn;rw[hf.n] at this;exact this⟩
end
end Go.Eng


namespace Go.Eng
open Go
section
variable {P:Program} {E:Env} {base:Nat} {V:View} {σ:Hp} {W:World} {τ:Tmps} {ρ:Operand→Value}
theorem builtin_run (hE:EnvOK P E) (H:HR E base V σ W) (hb:base≤W.heap.size) {b:Builtin} {ats:Array TypeId} {t:TypeId} {consts:Array Bool} {args:List AV} {ARGS:List Value} {r:Res} (ha:VRs V args ARGS)
  (h:builtinV E σ b ats args=some r):OpOK P E base V σ W ((builtin b ats t consts ARGS.toArray).run P W) r:=by
 have h0:=h
 unfold builtinV at h
 split at h
 · obtain ⟨X, Xs, rfl, hx, hxs⟩ := ha.cons_inv
   cases hxs.nil_inv
   exact len_run hE H hb hx h0
 · obtain ⟨X, Xs, rfl, hx, hxs⟩ := ha.cons_inv
   cases hxs.nil_inv
   exact cap_run hE H hb hx h0
 · obtain ⟨S, Ss, rfl, hs, hss⟩ := ha.cons_inv
   obtain⟨X,Xs,rfl,hx,hxs⟩:=hss.cons_inv
   cases hxs.nil_inv
   exact append_run hE H hb hs hx h0
 · obtain ⟨S, Ss, rfl, hs, hss⟩ := ha.cons_inv
   obtain⟨X,Xs,rfl,hx,hxs⟩:=hss.cons_inv
   cases hxs.nil_inv
   rw[hs.int_inv,hx.int_inv]
   exact max_run hE H hb h0
 · obtain ⟨S, Ss, rfl, hs, hss⟩ := ha.cons_inv
   obtain⟨X,Xs,rfl,hx,hxs⟩:=hss.cons_inv
   cases hxs.nil_inv
   rw[hs.int_inv,hx.int_inv]
   exact min_run hE H hb h0
 · cases ha.nil_inv
   simp only[Option.some.injEq] at h;subst h
   rfl
 · obtain ⟨S, Ss, rfl, hs, hss⟩ := ha.cons_inv
   obtain⟨X,Xs,rfl,hx,hxs⟩:=hss.cons_inv
   cases hxs.nil_inv
   exact copy_run hE H hs hx h0
 · obtain ⟨S, Ss, rfl, hs, hss⟩ := ha.cons_inv
   cases hss.nil_inv
   exact clear_run hE H hs h0
 · cases h
theorem append_val {ats:Array TypeId} {s x:AV} {r:Res} (h:builtinV E σ .append ats [s,x]=some r):∃ w σ',r=.val w σ':=by
 simp only[builtinV] at h
 repeat' split at h
 all_goals first
  |(cases h;done)
  |(simp only[Option.some.injEq] at h;subst h;exact⟨_,_,rfl⟩)
theorem builtinW_run (hE:EnvOK P E) (H:HR E base V σ W) (hb:base≤W.heap.size) {b:Builtin} {ats:Array TypeId} {t:TypeId} {consts:Array Bool} {args:List AV} {ARGS:List Value} {r:Res} (ha:VRs V args ARGS)
  (h:builtinW E σ b ats args=some r):OpOK P E base V σ W ((builtin b ats t consts ARGS.toArray).run P W) r:=by
 unfold builtinW at h
 split at h
 · split at h
   · split at h
     · rename_i s x
       split at h
       · rename_i v hv
         obtain⟨S,Ss,rfl,hs,hss⟩:=ha.cons_inv
         obtain⟨X,Xs,rfl,hx,hxs⟩:=hss.cons_inv
         cases hxs.nil_inv
         have hz : frz 5000 x σ = some (v.1, v.2) := by
          unfold preX at hv
          split at hv
          · split at hv
            · split at hv
              · cases hv
              · exact hv
            · cases hv
          · cases hv
         obtain⟨V1,hf,h1⟩:=(frz_both 5000).1 _ _ V _ _ X H hx hz
         have hx1:VR V1 v.1 X:=h1.mono V1.bare_le
         have key:=builtin_run (t:=t) (consts:=consts) hE hf.hr hb (.cons (hs.mono hf.le) (.cons hx1 (.nil _))) h
         obtain⟨w,σ',rfl⟩:=append_val h
         obtain⟨V',W',v',e,hst,hr⟩:=key
         exact⟨V',W',v',e,hst.of_fz hf,hr⟩
       · exact builtin_run hE H hb ha h
     · cases h
   · exact builtin_run hE H hb ha h
 · exact builtin_run hE H hb ha h
theorem copyV_val {size:Nat} {s x:AV} {r:Res} (h:copyV σ size s x=some r):∃ v σ',r=.val v σ':=by
 have hw : ∀ {id off len sz : Nat} {x : AV}, copyW σ size id off len sz x = some r → ∃ v σ', r = .val v σ' := fun h => by
  unfold copyW at h
  split at h
  · split at h
    · split at h
      · simp only[Option.some.injEq] at h;exact⟨_,_,h.symm⟩
      · cases h
    · cases h
  · cases h
 unfold copyV at h
 split at h
 · split at h
   · exact hw h
   · exact hw h
   · cases h
 · cases h
theorem clearV_val {e:Nat} {s:AV} {r:Res} (h:clearV E σ e s=some r):∃ v σ',r=.val v σ':=by
 unfold clearV at h
 repeat' split at h
 all_goals first
  |(cases h;done)
  |(simp only[Option.some.injEq] at h;exact⟨_,_,h.symm⟩)
theorem clearM_val {s:AV} {r:Res} (h:clearM σ s=some r):∃ v σ',r=.val v σ':=by
 unfold clearM at h
 repeat' split at h
 all_goals first
  |(cases h;done)
  |(simp only[Option.some.injEq] at h;exact⟨_,_,h.symm⟩)
theorem builtinV_nocall {b:Builtin} {ats:Array TypeId} {args:List AV} {f:Nat} {l:List AV} (h:builtinV E σ b ats args=some (.call f l)):False:=by
 unfold builtinV at h
 repeat' split at h
 all_goals first
  |(cases h;done)
  |(obtain⟨v,σ',e⟩:=copyV_val h;cases e)
  |(obtain⟨v,σ',e⟩:=clearV_val h;cases e)
  |(obtain⟨v,σ',e⟩:=clearM_val h;cases e)
theorem VR.fn_inv {f:Nat} {a b:List AV} {v:Value} (h:VR V (.fn f a b) v):∃ A B:List Value,v=.func (.func f) A.toArray B.toArray∧VRs V a A∧VRs V b B:=by
 cases h with
 |fn _ _ _ A B ha hb hav hbv=>exact⟨A,B,rfl,⟨ha,hav⟩,⟨hb,hbv⟩⟩
theorem VR.ifcInv {t:Nat} {a:AV} {v:Value} (h:VR V (.ifc t a) v):∃ R,v=.iface t R∧VR V a R:=by
 cases h with
 |ifc _ _ R hR=>exact⟨R,rfl,hR⟩
theorem VR.yld_inv {l:Nat} {v:Value} (h:VR V (.yld l) v):∃ b,v=.func (.yield b) #[] #[]∧V.lv l=some b:=by
 cases h with
 |yld _ b hb=>exact⟨b,rfl,hb⟩
variable {dst:Option Tmp} {ty:TypeId} {pos:String} {after:Array Edge} {guard:Option (Nat×Bool)}
variable (hE:EnvOK P E) (H:HR E base V σ W) (hb:base≤W.heap.size) (hρ:EvR V τ ρ)
include hE H hb hρ
theorem s_call (c:Call) {r:Res} (h:op E τ σ (.call c)=some r):OpOK P E base V σ W ((execOp ρ ⟨dst,.call c,ty,pos,after,guard⟩).run P W) r:=by
 simp only[op,callV] at h
 split at h
 · cases h
 · rename_i args hargs
   have ha:=evs_spec hρ _ _ hargs
   have harr:c.args.map ρ=(c.args.toList.map ρ).toArray:=(map_toArray c.args ρ).symm
   split at h
   · rename_i b hc
     have:=builtinW_run (t:=ty) (consts:=(c.args.map fun|.const _=>true|_=>false)) hE H hb ha h
     simp only[execOp,resolve,hc,pure_bind,invoke,harr]
     exact this
   · rename_i f hc
     split at h
     · rename_i g first caps hf
       simp only[Option.some.injEq] at h;subst h
       obtain⟨A,B,hF,hA,hB⟩:=(hρ f _ hf).fn_inv
       refine⟨A++c.args.toList.map ρ++B,?_,(hA.append ha).append hB⟩
       simp only[execOp,resolve,hc,hF,Deferred.ofValue,pure_bind,invoke,harr]
       congr 2
       simp
     · rename_i l hf
       simp only[Option.some.injEq] at h;subst h
       obtain⟨b,hF,hl⟩:=(hρ f _ hf).yld_inv
       refine⟨b,c.args.toList.map ρ,hl,?_,ha⟩
       simp only[execOp,resolve,hc,hF,Deferred.ofValue,pure_bind,invoke,harr]
       congr 2
       simp
     · cases h
   · rename_i r0 name hc
     split at h
     · rename_i t v hf
       split at h
       · rename_i g hm
         simp only[Option.some.injEq] at h;subst h
         obtain⟨R,hF,hR⟩:=(hρ r0 _ hf).ifcInv
         refine⟨R::c.args.toList.map ρ,?_,.cons hR ha⟩
         have e1:(#[Value.iface t R]++(c.args.toList.map ρ).toArray)[0]?=some (.iface t R):=by simp
         have e2:(#[Value.iface t R]++(c.args.toList.map ρ).toArray).extract 1 (#[Value.iface t R]++(c.args.toList.map ρ).toArray).size=(c.args.toList.map ρ).toArray:=by
          apply Array.ext'
          rw[Array.toList_extract]
          simp[List.extract,List.take_of_length_le]
         simp only[execOp,resolve,hc,hF,pure_bind,invoke,harr,e1,e2,callMethod]
         have e3:=(hE.meth _ _ _ hm R W).1
         simp only[Sem.run_bind,run_program,Result.andThen_ok,e3]
         congr 2
         simp
       · cases h
     · cases h
theorem s_defer (c : Call) {r : Res} (h : op E τ σ (.defer c) = some r) : OpOK P E base V σ W ((execOp ρ ⟨dst, .defer c, ty, pos, after, guard⟩).run P W) r := by
 simp only[op] at h
 split at h
 · rename_i f args hinv hcall
   simp only[Option.some.injEq] at h;subst h
   simp only[callV] at hcall
   split at hcall
   · cases hcall
   · rename_i args' hargs
     have ha:=evs_spec hρ _ _ hargs
     have harr:c.args.map ρ=(c.args.toList.map ρ).toArray:=(map_toArray c.args ρ).symm
     split at hcall
     · rename_i b hc
       exfalso
       unfold builtinW at hcall
       repeat' split at hcall
       all_goals first
        |(cases hcall;done)
        |exact builtinV_nocall hcall
     · rename_i f' hc
       split at hcall
       · rename_i g first caps hf
         simp only[Option.some.injEq,Res.call.injEq] at hcall;obtain⟨rfl,rfl⟩:=hcall
         obtain⟨A,B,hF,hA,hB⟩:=(hρ f' _ hf).fn_inv
         refine⟨B,A++c.args.toList.map ρ,?_,by have:=(hA.append ha).append hB;simpa using this⟩
         simp only[execOp,resolve,hc,hF,Deferred.ofValue,pure_bind,harr]
         show Result.ok _ _=_
         simp
       · cases hcall
       · cases hcall
     · rename_i hc
       simp only[isInv,hc] at hinv
       cases hinv
 · cases h
theorem op_sound (o:Oper) {r:Res} (h:op E τ σ o.op=some r):OpOK P E base V σ W ((execOp ρ o).run P W) r:=by
 obtain⟨dst,o,ty,pos,after,guard⟩:=o
 simp only at h
 cases o
 case move x=>exact s_move hE H hb hρ x h
 case assign x=>exact s_assign hE H hb hρ x h
 case pick a b c=>exact s_pick hE H hb hρ a b c h
 case alloc t=>exact s_alloc hE H hb hρ t h
 case box t x=>exact s_box hE H hb hρ t x h
 case build t ps=>exact s_build hE H hb hρ t ps h
 case buildSlice t n ps=>exact s_buildSlice hE H hb hρ t n ps h
 case insert t m k x=>exact s_insert hE H hb hρ t m k x h
 case load t x=>exact s_load hE H hb hρ t x h
 case store t x y=>exact s_store hE H hb hρ t x y h
 case nilCheck x=>exact s_nilCheck hE H hb hρ x h
 case binOp b t x y t'=>exact s_binOp hE H hb hρ b t x y t' h
 case unOp u t x=>exact s_unOp hE H hb hρ u t x h
 case convert s d x=>exact s_convert hE H hb hρ s d x h
 case makeInterface t x=>exact s_makeInterface hE H hb hρ t x h
 case makeFunc f a b=>
  cases f
  case func f=>exact s_makeFunc hE H hb hρ f a b h
  case method n=>exact s_makeMeth hE H hb hρ n a b h
  all_goals (simp[op] at h)
 case makeMap t r'=>
  cases r'
  case none=>exact s_makeMap hE H hb hρ t h
  case some x=>simp[op] at h
 case makeSlice t l c=>exact s_makeSlice hE H hb hρ t l c h
 case slice t x lo hi mx=>
  cases mx
  case none=>exact s_slice hE H hb hρ t x lo hi h
  case some y=>
   cases hi
   case none=>simp[op] at h
   case some z=>exact s_slice3 hE H hb hρ t x lo z y h
 case fieldAddr t x i=>exact s_fieldAddr hE H hb hρ t x i h
 case field t x i=>exact s_field hE H hb hρ t x i h
 case indexAddr t x y=>exact s_indexAddr hE H hb hρ t x y h
 case index t x y=>exact s_index hE H hb hρ t x y h
 case lookup t x k ok=>exact s_lookup hE H hb hρ t x k ok h
 case mapUpdate t m k x=>exact s_mapUpdate hE H hb hρ t m k x h
 case range t x=>exact s_range hE H hb hρ t x h
 case next x b=>
  cases b
  case true=>exact s_next hE H hb hρ x h
  case false=>exact s_nextM hE H hb hρ x h
 case entry x=>exact s_entry hE H hb hρ x h
 case typeAssert x t a ok=>exact s_typeAssert hE H hb hρ x t a ok h
 case extract x i=>exact s_extract hE H hb hρ x i h
 case call c=>exact s_call hE H hb hρ c h
 case defer c=>exact s_defer hE H hb hρ c h
 all_goals (simp[op] at h)
end
end Go.Eng


namespace Go.Eng
open Go
def mkF (b:Frame) (A:Array Value) (DS:List Deferred) (todo:List Item):Frame:=
 { fn:=b.fn,tmps:=A,todo,defers:=DS,mode:=.run,kind:=b.kind,roundOf:=b.roundOf }
section
variable {P:Program} {b:Frame} {A:Array Value} {DS:List Deferred} {k:List Item} {cs:List Frame} {W:World}
theorem st_skip:step P (lone (mkF b A DS (.code .skip::k)) cs W)=.next (lone (mkF b A DS k) cs W):=step_lone_go (by simp[stepG,stepG.exec,mkF])
theorem st_label {l:Nat}:step P (lone (mkF b A DS (.code (.label l)::k)) cs W)=.next (lone (mkF b A DS k) cs W):=step_lone_go (by simp[stepG,stepG.exec,mkF])
theorem st_inBlock {i:Nat}:step P (lone (mkF b A DS (.inBlock i::k)) cs W)=.next (lone (mkF b A DS k) cs W):=step_lone_go (by simp[stepG,stepG.exec,mkF])
theorem st_inScope {c:Code}:step P (lone (mkF b A DS (.inScope c::k)) cs W)=.next (lone (mkF b A DS k) cs W):=step_lone_go (by simp[stepG,stepG.exec,mkF])
theorem st_seq {x y:Code}:step P (lone (mkF b A DS (.code (.seq x y)::k)) cs W)=.next (lone (mkF b A DS (.code x::.code y::k)) cs W):=step_lone_go (by simp[stepG,stepG.exec,mkF])
theorem mkF_eval (x:Operand):(mkF b A DS k).eval x=(match x with|.tmp t=>A.getD t undef|.const v=>v|.global g=>.pointer (some ⟨g,0,none⟩)|.func f=>.func (.func f) #[] #[]):=by
 cases x<;>rfl
theorem st_cond {c:Operand} {x y:Code} {t:Bool} (h:(mkF b A DS []).eval c=.bool t) :
  step P (lone (mkF b A DS (.code (.cond c x y)::k)) cs W)=.next (lone (mkF b A DS (.code (if t then x else y)::k)) cs W):=
 step_lone_go (by
  have h':(mkF b A DS (.code (.cond c x y)::k)).eval c=.bool t:=by rw[mkF_eval];rw[mkF_eval] at h;exact h
  simp only[mkF] at h'⊢
  simp[stepG,stepG.exec,h'])
theorem st_block {i:Nat} {c:Code}:step P (lone (mkF b A DS (.code (.block i c)::k)) cs W)=.next (lone (mkF b A DS (.code c::.inBlock i::k)) cs W):=step_lone_go (by simp[stepG,stepG.exec,mkF])
theorem st_loop {c:Code}:step P (lone (mkF b A DS (.code (.loop c)::k)) cs W)=.next (lone (mkF b A DS (.code c::.inLoop c::k)) cs W):=step_lone_go (by simp[stepG,stepG.exec,mkF])
theorem st_inLoop {c:Code}:step P (lone (mkF b A DS (.inLoop c::k)) cs W)=.next (lone (mkF b A DS (.code c::.inLoop c::k)) cs W):=step_lone_go (by simp[stepG,stepG.exec,mkF])
theorem st_scope {c:Code}:step P (lone (mkF b A DS (.code (.scope c)::k)) cs W)=.next (lone (mkF b A DS (.code c::.inScope c::k)) cs W):=step_lone_go (by simp[stepG,stepG.exec,mkF])
theorem st_exit {i:Nat} {k':List Item} (h:exitTo i k=some k'):step P (lone (mkF b A DS (.code (.exit i)::k)) cs W)=.next (lone (mkF b A DS k') cs W):=step_lone_go (by simp[stepG,stepG.exec,mkF,h])
theorem st_region {i:Nat} {ops:Array Oper}:step P (lone (mkF b A DS (.code (.region i ops false)::k)) cs W)=.next (lone (mkF b A DS (.inRegion ops (List.range ops.size)::k)) cs W):=step_lone_go (by simp[stepG,stepG.exec,mkF])
theorem st_region_draw {i:Nat} {ops:Array Oper}:step P (lone (mkF b A DS (.code (.region i ops true)::k)) cs W) =
  .next (lone (mkF b A DS (.inRegion ops (Region.schedule (P.follows .mixedOrders) ops (W.tape W.drawn (.order b.fn i)))::k)) cs W.drew):=
 step_lone_go (by simp[stepG,stepG.exec,mkF,choose,Sem.run,Question.forced,Question.cut])
theorem st_region_end {ops:Array Oper}:step P (lone (mkF b A DS (.inRegion ops []::k)) cs W)=.next (lone (mkF b A DS k) cs W):=step_lone_go (by simp[stepG,stepG.exec,mkF])
def putR (A:Array Value) (d:Option Tmp) (v:Value):Array Value:=
 match d with
 |some t=>A.setIfInBounds t v
 |none=>A
theorem mkF_finish {ops:Array Oper} {i:Nat} {rest:List Nat} {o:Oper} (ho:ops[i]?=some o) (v:Value) :
  (mkF b A DS (.inRegion ops (i::rest)::k)).finish v=mkF b (putR A o.dst v) DS (.inRegion ops rest::k):=by
 simp only[mkF,Frame.finish,ho,Option.bind_some,putR]
 cases o.dst<;>rfl
theorem st_unwanted {ops:Array Oper} {i:Nat} {rest:List Nat} {o:Oper} (ho:ops[i]?=some o) (hw:Region.wanted o (yielded ops A)=false) :
  step P (lone (mkF b A DS (.inRegion ops (i::rest)::k)) cs W)=.next (lone (mkF b (putR A o.dst undef) DS (.inRegion ops rest::k)) cs W):=by
 rw[← mkF_finish ho]
 exact step_lone_go (by simp[stepG,stepG.exec,mkF,ho,hw])
theorem stG_op {ops:Array Oper} {i:Nat} {rest:List Nat} {o:Oper} (ho:ops[i]?=some o) (hw:Region.wanted o (yielded ops A)=true) (hnd:b.roundOf=none∨∀ c,o.op≠.defer c) :
  stepG P true { frame:=mkF b A DS (.inRegion ops (i::rest)::k),callers:=cs,status:=.running,dying:=none } W =
   stepG.apply P true (mkF b A DS (.inRegion ops (i::rest)::k)) cs none (execOp (mkF b A DS []).eval o) W:=by
 have he:(mkF b A DS (.inRegion ops (i::rest)::k)).eval=(mkF b A DS []).eval:=by funext x;rw[mkF_eval,mkF_eval]
 simp only[mkF] at he⊢
 simp only[stepG,stepG.exec,ho,Option.map_some,Option.getD_some,hw,if_true,stepG.oper,Frame.oper?,he]
 split
 · rename_i l c h1 h2
   rcases hnd with h|h
   · rw[h] at h1;cases h1
   · exact absurd h2 (h c)
 · rfl
theorem st_value {ops:Array Oper} {i:Nat} {rest:List Nat} {o:Oper} {v:Value} {W':World} (ho:ops[i]?=some o) (hw:Region.wanted o (yielded ops A)=true) (hnd:b.roundOf=none∨∀ c,o.op≠.defer c)
  (hr:(execOp (mkF b A DS []).eval o).run P W=.ok (.value v) W') :
  step P (lone (mkF b A DS (.inRegion ops (i::rest)::k)) cs W)=.next (lone (mkF b (putR A o.dst v) DS (.inRegion ops rest::k)) cs W'):=by
 rw[← mkF_finish ho]
 refine step_lone_go ?_
 rw[stG_op ho hw hnd]
 simp[stepG.apply,hr]
theorem st_nothing {ops:Array Oper} {i:Nat} {rest:List Nat} {o:Oper} {W':World} (ho:ops[i]?=some o) (hw:Region.wanted o (yielded ops A)=true) (hnd:b.roundOf=none∨∀ c,o.op≠.defer c)
  (hr:(execOp (mkF b A DS []).eval o).run P W=.ok .skip W') :
  step P (lone (mkF b A DS (.inRegion ops (i::rest)::k)) cs W)=.next (lone (mkF b (putR A o.dst undef) DS (.inRegion ops rest::k)) cs W'):=by
 rw[← mkF_finish ho]
 refine step_lone_go ?_
 rw[stG_op ho hw hnd]
 simp[stepG.apply,hr]
theorem st_defer {ops:Array Oper} {i:Nat} {rest:List Nat} {o:Oper} {d:Deferred} {W':World} (ho:ops[i]?=some o) (hw:Region.wanted o (yielded ops A)=true) (hnd:b.roundOf=none)
  (hr:(execOp (mkF b A DS []).eval o).run P W=.ok (.defer d) W') :
  step P (lone (mkF b A DS (.inRegion ops (i::rest)::k)) cs W)=.next (lone (mkF b (putR A o.dst undef) (d::DS) (.inRegion ops rest::k)) cs W'):=by
 have:mkF b (putR A o.dst undef) (d::DS) (.inRegion ops rest::k)=({ mkF b A DS (.inRegion ops (i::rest)::k) with defers:=d::DS }:Frame).finish undef:=by
  simp only[mkF,Frame.finish,ho,Option.bind_some,putR]
  cases o.dst<;>rfl
 rw[this]
 refine step_lone_go ?_
 rw[stG_op ho hw (.inl hnd)]
 simp[stepG.apply,hr]
 rfl
theorem st_enter {ops:Array Oper} {i:Nat} {rest:List Nat} {o:Oper} {f:FuncId} {args:Array Value} {W':World} (ho:ops[i]?=some o) (hw:Region.wanted o (yielded ops A)=true) (hnd:b.roundOf=none∨∀ c,o.op≠.defer c)
  (hr:(execOp (mkF b A DS []).eval o).run P W=.ok (.enter f args) W') :
  step P (lone (mkF b A DS (.inRegion ops (i::rest)::k)) cs W)=.next (lone (Frame.enter P f args .normal) (mkF b A DS (.inRegion ops (i::rest)::k)::cs) W'):=by
 refine step_lone_go ?_
 rw[stG_op ho hw hnd]
 have ht:(mkF b A DS (.inRegion ops (i::rest)::k)).todo=.inRegion ops (i::rest)::k:=rfl
 simp[stepG.apply,hr,ht]
theorem st_round {ops:Array Oper} {i:Nat} {rest:List Nat} {o:Oper} {l f:Nat} {tmps:Array Value} {asg body:Code} {W':World} (ho:ops[i]?=some o) (hw:Region.wanted o (yielded ops A)=true) (hnd:b.roundOf=none∨∀ c,o.op≠.defer c)
  (hr:(execOp (mkF b A DS []).eval o).run P W=.ok (.round l f tmps asg body) W') :
  step P (lone (mkF b A DS (.inRegion ops (i::rest)::k)) cs W)=.next (lone (Frame.round l f tmps asg body .normal) (mkF b A DS (.inRegion ops (i::rest)::k)::cs) W'):=by
 refine step_lone_go ?_
 rw[stG_op ho hw hnd]
 have ht:(mkF b A DS (.inRegion ops (i::rest)::k)).todo=.inRegion ops (i::rest)::k:=rfl
 simp[stepG.apply,hr,ht]
theorem st_recover {ops:Array Oper} {i:Nat} {rest:List Nat} {o:Oper} {W':World} (ho:ops[i]?=some o) (hw:Region.wanted o (yielded ops A)=true) (hnd:b.roundOf=none)
  (hq:b.kind=.normal∨(b.kind=.deferred∧∃ c rest',cs=c::rest'∧c.mode=.returning))
  (hr:(execOp (mkF b A DS []).eval o).run P W=.ok .recover W') :
  step P (lone (mkF b A DS (.inRegion ops (i::rest)::k)) cs W)=.next (lone (mkF b (putR A o.dst .nilIface) DS (.inRegion ops rest::k)) cs W'):=by
 rw[← mkF_finish ho]
 refine step_lone_go ?_
 rw[stG_op ho hw (.inl hnd)]
 have ht:tryRecover (mkF b A DS (.inRegion ops (i::rest)::k)) cs=none:=by
  rcases hq with h|⟨h,c,rest',rfl,hm⟩
  · unfold tryRecover;simp[mkF,h]
  · unfold tryRecover;simp[mkF,h,hm]
 have hro:(mkF b A DS (.inRegion ops (i::rest)::k)).roundOf=none:=hnd
 simp[stepG.apply,hr,hro,ht]
end
end Go.Eng


namespace Go.Eng
open Go
abbrev KK:=Nat→Nat→Option Value
abbrev OO:=Nat→Prop
abbrev Inv:=List LF→KK→OO→World→Prop
structure CxOK (inv:Inv):Prop where
 stable:∀ Λ K O W K' W',inv Λ K O W→(∀ b o v,K b o=some v→K' b o=some v)→(∀ b o v,K' b o=some v→K b o=some v∨¬ O b)→(∀ b o v,K' b o=some v→W'.cell? ⟨b,o,none⟩=some v) →
  (∀ b,O b→W'.heap[b]?=W.heap[b]?)→W.heap.size≤W'.heap.size→inv Λ K' O W'
 bound:∀ Λ K O W,inv Λ K O W→∀ b,O b→b<W.heap.size
inductive DsR (V:View):List Nat→List (Nat×List AV)→List Deferred→Prop where
 |nil:DsR V [] [] []
 |cons (M:List Nat) (f:Nat) (args:List AV) (caps A:List Value) (ds:List (Nat×List AV)) (DS:List Deferred) (h:VRs V args (A++caps)) (t:DsR V M ds DS):DsR V M ((f,args)::ds) ({ target:=.fn (.func f) caps.toArray,args:=A.toArray }::DS)
 |mark (M:List Nat) (r:Nat) (ds:List (Nat×List AV)) (DS:List Deferred) (h:r ∉ M) (t:DsR V M ds DS):DsR V (r::M) ds ({ target:=.collected r,args:=#[] }::DS)
theorem DsR.mono {V V':View} {M:List Nat} (hV:V.le V') {ds:List (Nat×List AV)} {DS:List Deferred} (h:DsR V M ds DS):DsR V' M ds DS:=by
 induction h with
 |nil=>exact .nil
 |cons M f args caps A ds DS h t ih=>exact .cons M f args caps A ds DS (h.mono hV) ih
 |mark M r ds DS h t ih=>exact .mark M r ds DS h ih
def LvOK (V:View) (σ:Hp):Prop:=∀ i x,V.lv i=some x→i<σ.n
structure SR (E:Env) (base:Nat) (inv:Inv) (V:View) (st:St) (A:Array Value) (DS:List Deferred) (M:List Nat) (O:OO) (W:World):Prop where
 hr:HR E base V st.σ W
 bs:base≤W.heap.size
 tm:∀ t a,st.τ.get t=some a→VR V a (A.getD t undef)
 sz:A.size=st.nt
 ds:DsR V M st.ds DS
 mks:∀ r∈M,W.heap[r]?=some (.deferred (some []))∧¬ O r
 cx:inv st.Λ V.K O W
 dis:∀ b,Own V st.σ b→¬ O b
 lf:LvOK V st.σ
structure Prg (V:View) (σ:Hp) (O:OO) (W:World) (V':View) (σ':Hp) (O':OO) (W':World):Prop where
 le:V.le V'
 fr:Fr (fun b=>Own V σ b∨O b) W W'
 own:∀ b,Own V' σ' b→Own V σ b∨W.heap.size≤b
 out:∀ b,O' b→O b∨W.heap.size≤b
 mb:∀ id b s,V'.m id=some (b,s)→(∃ id' s',V.m id'=some (b,s'))∨(W.heap.size≤b∧b<W'.heap.size∧¬ O' b)
 K:∀ b o v,V'.K b o=some v→V.K b o=some v∨(Own V σ b∨O b)∨W.heap.size≤b
 nm:∀ id x,V'.m id=some x→V.m id=some x∨σ.n≤id
 nn:σ.n≤σ'.n
theorem Prg.refl (V:View) (σ:Hp) (O:OO) (W:World):Prg V σ O W V σ O W:=⟨View.le.refl V,Fr.refl _ _,fun _ h=>.inl h,fun _ h=>.inl h,fun id _ s h=>.inl ⟨id,s,h⟩,fun _ _ _ h=>.inl h,fun _ _ h=>.inl h,Nat.le_refl _⟩
theorem Prg.trans {V V' V'':View} {σ σ' σ'':Hp} {O O' O'':OO} {W W' W'':World} (h:Prg V σ O W V' σ' O' W') (k:Prg V' σ' O' W' V'' σ'' O'' W''):Prg V σ O W V'' σ'' O'' W'':=by
 have hs:=h.fr.size
 have both:∀ b,Own V' σ' b∨O' b→(Own V σ b∨O b)∨W.heap.size≤b:=fun b hb=>hb.elim (fun x=>(h.own b x).imp .inl (fun x=>x)) (fun x=>(h.out b x).imp .inr (fun x=>x))
 refine⟨h.le.trans k.le,h.fr.trans k.fr (fun b hb hO=>?_),fun b hb=>?_,fun b hb=>?_,fun id b s hm=>?_,fun b o v hv=>?_,fun id x hx=>(k.nm id x hx).elim (h.nm id x) (fun y=>.inr (Nat.le_trans h.nn y)),Nat.le_trans h.nn k.nn⟩
 · rcases both b hO with h' | h'
   · exact h'
   · omega
 · rcases k.own b hb with h' | h'
   · exact h.own b h'
   · exact .inr (by omega)
 · rcases k.out b hb with h' | h'
   · exact h.out b h'
   · exact .inr (by omega)
 · rcases k.mb id b s hm with ⟨id', s', h'⟩ | ⟨h1, h2, h3⟩
   · rcases h.mb id' b s' h' with g | ⟨g1, g2, g3⟩
     · exact .inl g
     · have := k.fr.size
       exact .inr ⟨g1,by omega,fun ho=>(k.out b ho).elim g3 (fun x=>by omega)⟩
   · exact .inr ⟨by omega,h2,h3⟩
 · rcases k.K b o v hv with h' | h' | h'
   · exact h.K b o v h'
   · exact .inr (both b h')
   · exact .inr (.inr (by omega))
theorem Prg.of_stp {E:Env} {base:Nat} {V V':View} {σ σ':Hp} {W W':World} {O:OO} (h:Stp E base V σ W V' σ' W') (hO:∀ b,O b→b<W.heap.size):Prg V σ O W V' σ' O W':=
 ⟨h.le,h.fr.weaken (fun _ _ h=>.inl h),h.own,fun b hb=>.inl hb,fun id b s hm=>(h.mb id b s hm).imp (fun x=>x) (fun x=>⟨x,(h.hr.fresh _ _ hm).2,fun ho=>by have:=hO b ho;omega⟩),fun b o v hv=>(h.K b o v hv).imp (fun x=>x) (fun x=>x.elim .inr (fun y=>.inl (.inl y))),h.nm,h.nn⟩
theorem Own.kind {E:Env} {base:Nat} {V:View} {σ:Hp} {W:World} (H:HR E base V σ W) {b:Nat} (h:Own V σ b):b<W.heap.size∧W.heap[b]?≠some (.deferred (some [])):=by
 obtain⟨id,s,⟨o,hg,hn⟩,hm⟩:=h
 obtain⟨blk,s',hm',_,hlt,ho⟩:=H.obj _ _ hg hn
 rw[hm] at hm';simp only[Option.some.injEq,Prod.mk.injEq] at hm';obtain⟨rfl,rfl⟩:=hm'
 refine⟨hlt,fun e=>?_⟩
 cases o with
 |cells ro l=>obtain⟨cs,t,h1,_⟩:=ho;rw[e] at h1;cases h1
 |map es=>obtain⟨_,en,cl,h1,_⟩:=ho;rw[e] at h1;cases h1
 |cmap es bs ck=>obtain⟨_,en,h1,_⟩:=ho;rw[e] at h1;cases h1
 |miter m a s l=>obtain⟨_,mb,_,h1⟩:=ho;rw[e] at h1;cases h1
 |siter s p=>obtain⟨_,bb,h1,_⟩:=ho;rw[e] at h1;cases h1
 |gone=>exact hn rfl
section
variable {P:Program} {E:Env} {base:Nat} {inv:Inv} {V V':View} {st:St} {A:Array Value} {DS:List Deferred} {M:List Nat} {O:OO} {W W':World}
theorem SR.stp (hcx:CxOK inv) (h:SR E base inv V st A DS M O W) {σ':Hp} (hs:Stp E base V st.σ W V' σ' W'):SR E base inv V' { st with σ:=σ' } A DS M O W':=by
 have hb:=hcx.bound _ _ _ _ h.cx
 refine⟨hs.hr,Nat.le_trans h.bs hs.fr.size,fun t a ht=>(h.tm t a ht).mono hs.le,h.sz,h.ds.mono hs.le,fun r hr=>⟨?_,(h.mks r hr).2⟩,?_,fun b hO=>?_,?_⟩
 · have := (h.mks r hr).1
   rw[hs.fr.block r (Array.getElem?_eq_some_iff.1 this).1 (fun ho=>(ho.kind h.hr).2 this)];exact this
 · refine hcx.stable _ _ _ _ _ _ h.cx hs.le.K (fun b o v hv => ?_) hs.hr.cell (fun b hO => ?_) hs.fr.size
   · rcases hs.K b o v hv with h' | h' | h'
     · exact .inl h'
     · exact .inr (fun hO=>by have:=hb b hO;omega)
     · exact .inr (h.dis b h')
   · exact hs.fr.block b (hb b hO) (fun ho=>h.dis b ho hO)
 · rcases hs.own b hO with h' | h'
   · exact h.dis b h'
   · intro ho;have:=hb b ho;omega
 · intro i x hx
   rw[hs.lv] at hx
   exact Nat.lt_of_lt_of_le (h.lf i x hx) hs.nn
theorem SR.evR (h:SR E base inv V st A DS M O W) (b:Frame):EvR V st.τ (mkF b A DS []).eval:=by
 intro x a hx
 rw[mkF_eval]
 cases x with
 |tmp t=>exact h.tm t a hx
 |const v=>exact lit_sound 3 v a hx V
 |global g=>simp only[ev,Option.some.injEq] at hx;subst hx;exact .gp g 0
 |func f=>simp only[ev,Option.some.injEq] at hx;subst hx;exact .fn f [] [] [] [] rfl rfl (by intro i h;simp at h) (by intro i h;simp at h)
theorem SR.put (h : SR E base inv V st A DS M O W) {st' : St} {d : Option Tmp} {a : AV} {v : Value} (hv : VR V a v) (hp : putS st d a = some st') : SR E base inv V st' (putR A d v) DS M O W ∧ st'.σ = st.σ ∧ st'.rnd = st.rnd := by
 unfold putS putT at hp
 cases d with
 |none=>simp only[Option.some.injEq] at hp;subst hp;exact⟨h,rfl,rfl⟩
 | some t =>
  simp only at hp
  split at hp
  · rename_i τ hτ
    split at hτ
    · rename_i hb
      have hb':=Nat.le_of_ble_eq_true hb
      simp only[Option.some.injEq] at hτ hp;subst hτ;subst hp
      refine⟨⟨h.hr,h.bs,fun t' a' ht'=>?_,by simp[putR,h.sz],h.ds,h.mks,h.cx,h.dis,h.lf⟩,rfl,rfl⟩
      rcases Tr.get_set _ _ _ _ _ ht' with ⟨rfl,rfl⟩|⟨hne,ht''⟩
      · have : t' < A.size := by rw [h.sz]; omega
        simp only[putR,Array.getD_eq_getD_getElem?,Array.getElem?_setIfInBounds,this,if_true,Option.getD_some]
        exact hv
      · have := h.tm t' a' ht''
        simp only[putR,Array.getD_eq_getD_getElem?,Array.getElem?_setIfInBounds] at this⊢
        rw[if_neg (fun e=>hne e.symm)];exact this
    · cases hτ
  · cases hp
theorem undef_VR (V:View):VR V undefA undef:=VR.tup' (.nil V)
theorem wanted_spec (h : SR E base inv V st A DS M O W) {ops : Array Oper} {o : Oper} {b : Bool} (hw : wantedA ops st.τ o = some b) : Region.wanted o (yielded ops A) = b := by
 unfold wantedA at hw
 unfold Region.wanted
 split at hw
 · rename_i hg;rw[hg];simp only[Option.some.injEq] at hw;subst hw;rfl
 · rename_i j want hg
   rw[hg]
   simp only
   split at hw
   · rename_i d hd
     split at hw
     · rename_i x hx
       simp only[Option.some.injEq] at hw;subst hw
       have hv:=(h.tm d _ hx).bool_inv
       have:A[d]?=some (.bool x):=by
        rw[Array.getD_eq_getD_getElem?] at hv
        cases hA:A[d]? with
        |none=>rw[hA] at hv;simp[undef] at hv
        |some y=>rw[hA] at hv;simpa using hv
       simp only[yielded,hd,Option.bind_some,this]
       cases x<;>cases want<;>rfl
     · rename_i hx
       simp only[Option.some.injEq] at hw;subst hw
       obtain⟨L,hv,hL⟩:=(h.tm d _ hx).tup_inv
       cases hL.nil_inv
       have:yielded ops A j=none:=by
        simp only[yielded,hd,Option.bind_some]
        rw[Array.getD_eq_getD_getElem?] at hv
        cases hA:A[d]? with
        |none=>rfl
        |some y=>rw[hA] at hv;simp only[Option.getD_some] at hv;subst hv;rfl
       rw[this];rfl
     · cases hw
   · cases hw
end
end Go.Eng


namespace Go.Eng
open Go
section
variable {P:Program} {E:Env} {base:Nat} {V:View} {σ:Hp} {W:World}
mutual
theorem frzArg_spec (v:AV) {V:View} {σ:Hp} {R:Value} (H:HR E base V σ W) (hv:VR V v R):∃ V',Fz E base V σ W V' (frzArg v σ).2∧VR V' (frzArg v σ).1 R:=by
 cases v with
 |sl id off len cl sz=>
  simp only[frzArg]
  split
  · rename_i r hr
    obtain⟨V',h1,h2⟩:=(frz_both 5000).1 (.sl id off len cl sz) r.1 V σ r.2 R H hv hr
    exact⟨V',h1,h2.mono V'.bare_le⟩
  · exact⟨V,.refl H,hv⟩
 |agg l=>
  obtain⟨L,rfl,hL⟩:=hv.agg_inv
  obtain⟨V',h1,h2⟩:=frzArgs_spec l H hL
  exact⟨V',h1,.agg' h2⟩
 |_=>exact⟨V,.refl H,hv⟩
theorem frzArgs_spec (l:List AV) {V:View} {σ:Hp} {L:List Value} (H:HR E base V σ W) (hv:VRs V l L):∃ V',Fz E base V σ W V' (frzArgs l σ).2∧VRs V' (frzArgs l σ).1 L:=by
 cases l with
 |nil=>cases hv.nil_inv;exact⟨V,.refl H,.nil V⟩
 |cons v vs=>
  obtain⟨X,Xs,rfl,hX,hXs⟩:=hv.cons_inv
  obtain⟨V1,h1,h2⟩:=frzArg_spec v H hX
  obtain⟨V2,h3,h4⟩:=frzArgs_spec vs h1.hr (hXs.mono h1.le)
  exact⟨V2,h1.trans h3,.cons (h2.mono h3.le) h4⟩
end
end
section
variable {P:Program} {E:Env} {base:Nat} {V:View} {σ:Hp} {W:World}
theorem frzP_spec (v:AV) {V:View} {σ:Hp} {R:Value} (H:HR E base V σ W) (hv:VR V v R):∃ V',Fz E base V σ W V' (frzP v σ).2∧VR V' (frzP v σ).1 R:=by
 cases v with
 | ptr id off =>
  simp only[frzP]
  split
  · rename_i ro l hget
    split
    · rename_i cs σ1 hcs
      cases hv with
      |ptr _ _ blk s hm=>
       obtain⟨V1,hf1,L,hL,hK⟩:=frz_one H hget hm
       obtain⟨V2,hf2,hcs2⟩:=(frz_both 5000).2 _ _ V1 _ _ L hf1.hr (hL.mono hf1.le) hcs
       refine⟨V2,hf1.trans hf2,.cp cs off blk s (fun i=>L.getD i undef) (fun i hi=>?_) (fun i hi=>?_)⟩
       · have hi' : i < L.length := by rw [← hcs2.1]; exact hi
         show V2.K blk (s+i)=_
         rw[hf2.le.K _ _ _ (hK i hi')]
         simp[List.getD,hi']
       · have hi' : i < L.length := by rw [← hcs2.1]; exact hi
         have:=hcs2.2 i hi hi'
         simp only[List.getD,List.getElem?_eq_getElem hi',Option.getD_some]
         exact this
    · exact⟨V,.refl H,hv⟩
  · exact⟨V,.refl H,hv⟩
 |_=>exact frzArg_spec _ H hv
theorem frzPs_spec (l:List AV) {V:View} {σ:Hp} {L:List Value} (H:HR E base V σ W) (hv:VRs V l L):∃ V',Fz E base V σ W V' (frzPs l σ).2∧VRs V' (frzPs l σ).1 L:=by
 induction l generalizing V σ L with
 |nil=>cases hv.nil_inv;exact⟨V,.refl H,.nil V⟩
 |cons v vs ih=>
  obtain⟨X,Xs,rfl,hX,hXs⟩:=hv.cons_inv
  obtain⟨V1,h1,h2⟩:=frzP_spec v H hX
  obtain⟨V2,h3,h4⟩:=ih h1.hr (hXs.mono h1.le)
  exact⟨V2,h1.trans h3,.cons (h2.mono h3.le) h4⟩
end
section
variable {P:Program} {E:Env} {base:Nat} {inv:Inv} {V V':View} {st:St} {A:Array Value} {DS:List Deferred} {M:List Nat} {O:OO} {W W':World}
theorem SR.fz (hcx:CxOK inv) (h:SR E base inv V st A DS M O W) {σ':Hp} (hf:Fz E base V st.σ W V' σ'):SR E base inv V' { st with σ:=σ' } A DS M O W:=by
 refine⟨hf.hr,h.bs,fun t a ht=>(h.tm t a ht).mono hf.le,h.sz,h.ds.mono hf.le,h.mks,?_,fun b hb=>h.dis b (hf.ownB hb),fun i x hx=>by rw[hf.n];exact h.lf i x (by rw[← hf.lv];exact hx)⟩
 exact hcx.stable _ _ _ _ _ _ h.cx hf.le.K (fun b o v hv=>(hf.K b o v hv).imp (fun x=>x) (fun ho=>h.dis b ho)) hf.hr.cell (fun _ _=>rfl) (Nat.le_refl _)
theorem Prg.of_fz {σ σ':Hp} (hf:Fz E base V σ W V' σ') (O:OO):Prg V σ O W V' σ' O W:=
 ⟨hf.le,Fr.refl _ _,fun b hb=>.inl (hf.ownB hb),fun b hb=>.inl hb,fun id b s hm=>.inl ⟨id,s,by rw[← hf.m];exact hm⟩,fun b o v hv=>(hf.K b o v hv).imp (fun x=>x) (fun x=>.inl (.inl x)),fun id x hx=>.inl (by rw[← hf.m];exact hx),Nat.le_of_eq hf.n.symm⟩
theorem SR.others (hcx:CxOK inv) {K':KK} (h:SR E base inv V st A DS M O W) (hK:∀ b o v,V.K b o=some v→K' b o=some v)
  (hK':∀ b o v,K' b o=some v→V.K b o=some v∨¬ (O b∨Own V st.σ b∨b∈M)) (hc:∀ b o v,K' b o=some v→W'.cell? ⟨b,o,none⟩=some v)
  (hW:∀ b,(O b∨Own V st.σ b∨b∈M)→W'.heap[b]?=W.heap[b]?) (hs:W.heap.size≤W'.heap.size):SR E base inv { V with K:=K' } st A DS M O W':=by
 have hle:V.le { V with K:=K' }:=⟨fun _ _ h=>h,fun _ _ h=>h,hK,fun _ _ _ _=>rfl⟩
 have H:=h.hr
 refine⟨⟨hc,fun g l hg=>?_,fun id o hid hne=>?_,H.inj,fun id x hx=>⟨(H.fresh id x hx).1,Nat.lt_of_lt_of_le (H.fresh id x hx).2 hs⟩,H.all⟩,Nat.le_trans h.bs hs,fun t a ht=>(h.tm t a ht).mono hle,h.sz,h.ds.mono hle,fun r hr=>⟨?_,(h.mks r hr).2⟩,?_,h.dis,h.lf⟩
 · obtain ⟨f, hf⟩ := H.glob g l hg
   exact⟨f,fun i hi=>⟨hK _ _ _ (hf i hi).1,(hf i hi).2.mono (View.bare_mono hK)⟩⟩
 · obtain ⟨blk, s, h1, h2, h3, h4⟩ := H.obj id o hid hne
   have hown:Own V st.σ blk:=⟨id,s,⟨o,hid,hne⟩,h1⟩
   refine⟨blk,s,h1,h2,Nat.lt_of_lt_of_le h3 hs,h4.mono hle rfl (fun i v hk=>?_) (hW blk (.inr (.inl hown)))⟩
   rcases hK' _ _ _ hk with h'|h'
   · exact h'
   · exact absurd (.inr (.inl hown)) h'
 · rw[hW r (.inr (.inr hr))];exact (h.mks r hr).1
 · exact hcx.stable _ _ _ _ _ _ h.cx hK (fun b o v hv=>(hK' b o v hv).imp (fun x=>x) (fun hn ho=>hn (.inl ho))) hc (fun b hb=>hW b (.inl hb)) hs
end
end Go.Eng


namespace Go.Eng
open Go
def backTo (kind:CallKind) (R:Value) (caller:Frame):Frame:=
 match kind with
 |.deferred=>caller
 |_=>caller.finish R
inductive Goes (P:Program) (f:Nat) (A:Array Value) (W:World) (R:Value) (W':World):Prop where
 |value (h:(callFunc f A).run P W=.ok (.value R) W')
 | enter (W1 : World) (h : (callFunc f A).run P W = .ok (.enter f A) W1)
   (hs:∀ kind caller rest,(kind=.normal∨(kind=.deferred∧caller.mode=.returning))→Steps P (lone (Frame.enter P f A kind) (caller::rest) W1) (lone (backTo kind R caller) rest W'))
def GoesY (P:Program) (l:Nat) (A:Array Value) (W:World) (b:Bool) (W':World):Prop:=
 ∃ W1 f tmps asg body,(Instr.yield l A).run P W=.ok (.round l f tmps asg body) W1∧∀ caller rest,Steps P (lone (Frame.round l f tmps asg body .normal) (caller::rest) W1) (lone (caller.finish (.bool b)) rest W')
def kview (K:KK):View:=⟨fun _=>none,fun _=>none,K,fun _=>0⟩
def YOK (P:Program) (E:Env) (base:Nat) (inv:Inv) (V0:View) (h:Hnd) (l:Nat):Prop:=
 ∀ Λ O W V σ args A b σ' Λ',V0.le V→HR E base V σ W→base≤W.heap.size→inv Λ V.K O W→(∀ b,Own V σ b→¬ O b)→LvOK V σ→VRs V args A→h args σ Λ=some (b,σ',Λ') →
  ∃ V' O' W',Prg V σ O W V' σ' O' W'∧HR E base V' σ' W'∧inv Λ' V'.K O' W'∧(∀ b,Own V' σ' b→¬ O' b)∧LvOK V' σ'∧GoesY P l A.toArray W b W'
def HOK (P:Program) (E:Env) (base:Nat) (inv:Inv) (V:View) (hs:Hnds):Prop:=∀ lvl h,hndOf hs lvl=some h→∃ l,V.lv lvl=some l∧YOK P E base inv V h l
theorem YOK.mono {P:Program} {E:Env} {base:Nat} {inv:Inv} {V V':View} {h:Hnd} {l:Nat} (hy:YOK P E base inv V h l) (hle:V.le V'):YOK P E base inv V' h l:=
 fun Λ O W V1 σ args A b σ' Λ' h1=>hy Λ O W V1 σ args A b σ' Λ' (hle.trans h1)
theorem HOK.mono {P:Program} {E:Env} {base:Nat} {inv:Inv} {V V':View} {hs:Hnds} (hh:HOK P E base inv V hs) (hle:V.le V'):HOK P E base inv V' hs:=fun lvl h e=>
 let ⟨l,h1,h2⟩:=hh lvl h e
 ⟨l,hle.lv _ _ h1,h2.mono hle⟩
def CallOK (P:Program) (E:Env) (call:CallF):Prop:=
 ∀ f args σ hs Λ v σ' Λ', call f args σ hs Λ = some (v, σ', Λ') →
  ∀ base inv V A O W,CxOK inv→HOK P E base inv V hs→HR E base V σ W→base≤W.heap.size→VRs V args A→inv Λ V.K O W→(∀ b,Own V σ b→¬ O b)→LvOK V σ →
   ∃ V' O' W' R,Prg V σ O W V' σ' O' W'∧HR E base V' σ' W'∧inv Λ' V'.K O' W'∧(∀ b,Own V' σ' b→¬ O' b)∧LvOK V' σ'∧VR V' v R∧Goes P f A.toArray W R W'
section
variable {P:Program} {E:Env} {base:Nat} {inv:Inv} {V V':View} {st:St} {A:Array Value} {DS:List Deferred} {M:List Nat} {O O':OO} {W W':World}
theorem cell_mark {W:World} {r o:Nat} {v:Value} (h:W.heap[r]?=some (.deferred (some []))) (hc:W.cell? ⟨r,o,none⟩=some v):False:=by
 simp[World.cell?,h] at hc
theorem SR.prg (h:SR E base inv V st A DS M O W) {σ':Hp} {Λ':List LF} (hP:Prg V st.σ O W V' σ' O' W') (hr:HR E base V' σ' W') (hi:inv Λ' V'.K O' W') (hd:∀ b,Own V' σ' b→¬ O' b) (hl:LvOK V' σ') :
  SR E base inv V' { st with σ:=σ',Λ:=Λ' } A DS M O' W':=by
 have hmlt:∀ r∈M,r<W.heap.size:=fun r hr=>(Array.getElem?_eq_some_iff.1 (h.mks r hr).1).1
 refine⟨hr,Nat.le_trans h.bs hP.fr.size,fun t a ht=>(h.tm t a ht).mono hP.le,h.sz,h.ds.mono hP.le,fun r hm=>⟨?_,fun ho=>?_⟩,hi,hd,hl⟩
 · rw [hP.fr.block r (hmlt r hm) (fun ho => ho.elim (fun x => (Own.kind h.hr x).2 (h.mks r hm).1) (h.mks r hm).2)]
   exact (h.mks r hm).1
 · rcases hP.out r ho with x | x
   · exact (h.mks r hm).2 x
   · have:=hmlt r hm;omega
theorem doCall_spec (hcx:CxOK inv) {call:CallF} (hcall:CallOK P E call) (h:SR E base inv V st A DS M O W) {hs:Hnds} (hh:HOK P E base inv V hs) {args:List AV} {AA:List Value} (ha:VRs V args AA)
  {σ3:Hp} {f:Nat} {v':AV} {Λ':List LF} (hd:doCall E call hs f args st.σ st.Λ=some (v',σ3,Λ')) :
  ∃ V3 O3 W' R,SR E base inv V3 { st with σ:=σ3,Λ:=Λ' } A DS M O3 W'∧Prg V st.σ O W V3 σ3 O3 W'∧VR V3 v' R∧Goes P f AA.toArray W R W':=by
 have key:∀ (V1:View) (σ1:Hp) (args1:List AV),Fz E base V st.σ W V1 σ1→VRs V1 args1 AA→call f args1 σ1 hs st.Λ=some (v',σ3,Λ') →
   ∃ V3 O3 W' R,SR E base inv V3 { st with σ:=σ3,Λ:=Λ' } A DS M O3 W'∧Prg V st.σ O W V3 σ3 O3 W'∧VR V3 v' R∧Goes P f AA.toArray W R W':=by
  intro V1 σ1 args1 hf ha1 hm
  have h1:=h.fz hcx hf
  obtain⟨V3,O3,W',R,p1,r1,i1,d1,l1,v1,g1⟩:=hcall _ _ _ _ _ _ _ _ hm base inv V1 AA O W hcx (hh.mono hf.le) h1.hr h1.bs ha1 h1.cx h1.dis h1.lf
  exact⟨V3,O3,W',R,h1.prg p1 r1 i1 d1 l1,(Prg.of_fz hf O).trans p1,v1,g1⟩
 unfold doCall at hd
 split at hd
 · split at hd
   rename_i args1 σ1 hf
   split at hf
   · obtain ⟨V1, h1, h2⟩ := frzPs_spec args h.hr ha
     rw[hf] at h1 h2
     exact key V1 _ _ h1 h2 hd
   · obtain ⟨V1, h1, h2⟩ := frzArgs_spec args h.hr ha
     rw[hf] at h1 h2
     exact key V1 _ _ h1 h2 hd
 · exact key V st.σ args (.refl h.hr) ha hd
end
end Go.Eng


namespace Go.Eng
open Go
def alone (V:View):View:={ V with m:=fun _=>none,lv:=fun _=>none }
def closedA:Nat→AV→Bool
 |0,_=>false
 |n+1,v=>match v with
  |.bool _=>true|.int _ _=>true|.str _=>true|.gp _ _=>true|.cp _ _=>true|.nilp=>true|.csl _ _=>true|.vs _ _ _=>true|.nils=>true|.nilm=>true|.nilf=>true|.nili=>true
  |.fn _ a b=>a.all (closedA n)&&b.all (closedA n)
  |.ifc _ v=>closedA n v
  |.agg l=>l.all (closedA n)
  |.tup l=>l.all (closedA n)
  |_=>false
theorem closedA_spec:∀ (n:Nat) (a:AV) {V:View} {v:Value},closedA n a=true→VR V a v→VR (alone V) a v
 |0,a,V,v,h,_=>by simp[closedA] at h
 | n + 1, a, V, v, h, hv => by
  cases hv with
  |bool b=>exact .bool b
  |int k i=>exact .int k i
  |str b=>exact .str b
  |ptr _ _ _ _ _=>simp[closedA] at h
  |gp g off=>exact .gp g off
  |cp cells off blk o f hk hv=>exact .cp cells off blk o f hk hv
  |nilp=>exact .nilp
  |sl _ _ _ _ _ _ _ _ _ _ _ _=>simp[closedA] at h
  |fsl _ _ _ _ _ _ _ _ _=>simp[closedA] at h
  |csl cells len blk o cap A f hk hv hc ha=>exact .csl cells len blk o cap A f hk hv hc ha
  |nils=>exact .nils
  |sle A=>exact .sle A
  |vsn t=>exact .vsn t
  |vs t l blk o cap A f hk hv hc ha=>exact .vs t l blk o cap A f hk hv hc ha
  |mp _ _ _=>simp[closedA] at h
  |nilm=>exact .nilm
  |iter _ _ _=>simp[closedA] at h
  |fn f a b A B ha hb hav hbv=>
   simp only[closedA,Bool.and_eq_true,List.all_eq_true] at h
   exact .fn f a b A B ha hb (fun i h1 h2=>closedA_spec n _ (h.1 _ (List.getElem_mem h1)) (hav i h1 h2)) (fun i h1 h2=>closedA_spec n _ (h.2 _ (List.getElem_mem h1)) (hbv i h1 h2))
  |yld _ _ _=>simp[closedA] at h
  |nilf=>exact .nilf
  |ifc t v r hv=>simp only[closedA] at h;exact .ifc t v r (closedA_spec n _ h hv)
  |mv _ _ _ _ _=>simp[closedA] at h
  |nili=>exact .nili
  |agg a A ha hav=>
   simp only[closedA,List.all_eq_true] at h
   exact .agg a A ha (fun i h1 h2=>closedA_spec n _ (h _ (List.getElem_mem h1)) (hav i h1 h2))
  |tup a A ha hav=>
   simp only[closedA,List.all_eq_true] at h
   exact .tup a A ha (fun i h1 h2=>closedA_spec n _ (h _ (List.getElem_mem h1)) (hav i h1 h2))
theorem closedA_list {n:Nat} {l:List AV} (h:l.all (closedA n)=true) {V:View} {A:List Value} (hv:VRs V l A):VRs (alone V) l A:=
 ⟨hv.1,fun i h1 h2=>closedA_spec n _ (List.all_eq_true.1 h _ (List.getElem_mem h1)) (hv.2 i h1 h2)⟩
end Go.Eng


namespace Go.Eng
open Go
inductive Ren (p:Nat→Option Nat) (k:Nat→Bool):AV→AV→Prop where
 |same (n:Nat) (a:AV) (h:closedA n a=true):Ren p k a a
 |sle:Ren p k .sle .sle
 |ptr (i' i off:Nat) (h:p i'=some i):Ren p k (.ptr i' off) (.ptr i off)
 |sl (i' i off len cl sz:Nat) (h:p i'=some i):Ren p k (.sl i' off len cl sz) (.sl i off len cl sz)
 |fsl (i' i off len sz:Nat) (h:p i'=some i):Ren p k (.fsl i' off len sz) (.fsl i off len sz)
 |mp (i' i:Nat) (h:p i'=some i):Ren p k (.mp i') (.mp i)
 |iter (i' i:Nat) (h:p i'=some i):Ren p k (.iter i') (.iter i)
 |yld (l:Nat) (h:k l=true):Ren p k (.yld l) (.yld l)
 |fn (f:Nat) (a' a b' b:List AV) (ha:a'.length=a.length) (hb:b'.length=b.length) (hav:∀ i (h:i<a'.length) (h':i<a.length),Ren p k a'[i] a[i]) (hbv:∀ i (h:i<b'.length) (h':i<b.length),Ren p k b'[i] b[i]):Ren p k (.fn f a' b') (.fn f a b)
 |ifc (t:Nat) (v' v:AV) (h:Ren p k v' v):Ren p k (.ifc t v') (.ifc t v)
 |mv (t:Nat) (v' v:AV) (n:String) (h:Ren p k v' v):Ren p k (.mv t v' n) (.mv t v n)
 |agg (a' a:List AV) (ha:a'.length=a.length) (hav:∀ i (h:i<a'.length) (h':i<a.length),Ren p k a'[i] a[i]):Ren p k (.agg a') (.agg a)
 |tup (a' a:List AV) (ha:a'.length=a.length) (hav:∀ i (h:i<a'.length) (h':i<a.length),Ren p k a'[i] a[i]):Ren p k (.tup a') (.tup a)
def View.ren (V:View) (p:Nat→Option Nat) (k:Nat→Bool):View:={ V with m:=fun i=>(p i).bind V.m,lv:=fun l=>if k l then V.lv l else none }
theorem Ren.spec {p:Nat→Option Nat} {k:Nat→Bool} {V:View} {a' a:AV} (h:Ren p k a' a):∀ {v:Value},VR V a v→VR (V.ren p k) a' v:=by
 induction h with
 |same n a h=>
  intro v hv
  have hle:View.le (alone V) (V.ren p k):=⟨fun id x hx=>by simp[alone] at hx,fun l x hx=>by simp[alone] at hx,fun _ _ _ h=>h,fun id b s hx=>by simp[alone] at hx⟩
  exact (closedA_spec n a h hv).mono hle
 |sle=>
  intro v hv
  cases hv with
  |sle A=>exact .sle A
 |ptr i' i off h=>
  intro v hv
  cases hv with
  |ptr _ _ blk s hm=>exact .ptr _ _ _ _ (by simp only[View.ren,h];exact hm)
 |sl i' i off len cl sz h=>
  intro v hv
  cases hv with
  |sl _ _ _ _ _ blk s cap A hm hc ha=>exact .sl _ _ _ _ _ _ _ _ A (by simp only[View.ren,h];exact hm) hc ha
 |fsl i' i off len sz h=>
  intro v hv
  cases hv with
  |fsl _ _ _ _ blk s A hm ha=>exact .fsl _ _ _ _ _ _ A (by simp only[View.ren,h];exact hm) ha
 |mp i' i h=>
  intro v hv
  cases hv with
  |mp _ blk hm=>exact .mp _ _ (by simp only[View.ren,h];exact hm)
 |iter i' i h=>
  intro v hv
  cases hv with
  |iter _ blk hm=>exact .iter _ _ (by simp only[View.ren,h];exact hm)
 |yld l h=>
  intro v hv
  cases hv with
  |yld _ r hm=>exact .yld _ _ (by simp only[View.ren,h,if_true];exact hm)
 |fn f a' a b' b ha hb hav hbv iha ihb=>
  intro v hv
  cases hv with
  |fn _ _ _ A B hA hB hAv hBv=>exact .fn f _ _ A B (ha.trans hA) (hb.trans hB) (fun i h h'=>iha i h (ha▸h) (hAv i (ha▸h) h')) (fun i h h'=>ihb i h (hb▸h) (hBv i (hb▸h) h'))
 |ifc t v' v h ih=>
  intro v hv
  cases hv with
  |ifc _ _ r hr=>exact .ifc _ _ _ (ih hr)
 |mv t v' v n h ih=>
  intro v hv
  cases hv with
  |mv _ _ _ r hr=>exact .mv _ _ _ _ (ih hr)
 |agg a' a ha hav ih=>
  intro v hv
  cases hv with
  |agg _ A hA hAv=>exact .agg _ A (ha.trans hA) (fun i h h'=>ih i h (ha▸h) (hAv i (ha▸h) h'))
 |tup a' a ha hav ih=>
  intro v hv
  cases hv with
  |tup _ A hA hAv=>exact .tup _ A (ha.trans hA) (fun i h h'=>ih i h (ha▸h) (hAv i (ha▸h) h'))
def RenL (p:Nat→Option Nat) (k:Nat→Bool) (l' l:List AV):Prop:=l'.length=l.length∧∀ i (h:i<l'.length) (h':i<l.length),Ren p k l'[i] l[i]
theorem RenL.spec {p:Nat→Option Nat} {k:Nat→Bool} {V:View} {l' l:List AV} (h:RenL p k l' l) {A:List Value} (hv:VRs V l A):VRs (V.ren p k) l' A:=
 ⟨h.1.trans hv.1,fun i h1 h2=>(h.2 i h1 (h.1▸h1)).spec (hv.2 i (h.1▸h1) h2)⟩
def RenO (p:Nat→Option Nat) (k:Nat→Bool):AO→AO→Prop
 |.cells r l',.cells r' l=>r=r'∧RenL p k l' l
 |.map es',.map es=>RenL p k (es'.map (·.1)) (es.map (·.1))∧RenL p k (es'.map (·.2)) (es.map (·.2))
 |.cmap es' bs' ck',.cmap es bs ck=>(RenL p k (es'.map (·.1)) (es.map (·.1))∧RenL p k (es'.map (·.2)) (es.map (·.2)))∧bs'=bs∧ck'=ck
 |.miter m' a' s' l',.miter m a s l=>p m'=some m∧a'=a∧s'=s∧l'=l
 |.siter s pos,.siter s' pos'=>s=s'∧pos=pos'
 |.gone,_=>True
 |_,_=>False
theorem RenO.spec {p:Nat→Option Nat} {k:Nat→Bool} {V:View} {W:World} {blk s:Nat} {o' o:AO} (h:RenO p k o' o) (hv:OR V W blk s o):OR (V.ren p k) W blk s o':=by
 cases o' with
 | cells r l' => cases o with
  |cells r' l=>
   obtain⟨rfl,hl⟩:=h
   obtain⟨cs,t,h1,h0,⟨L,h2,h3⟩,h4⟩:=hv
   exact⟨cs,t,h1,⟨by rw[hl.1];exact h0.1,h0.2⟩,⟨L,hl.spec h2,h3⟩,fun o v hk=>by rw[hl.1];exact h4 o v hk⟩
  |_=>exact h.elim
 | map es' => cases o with
  |map es=>
   obtain⟨h0,en,clock,h1,h2,h3⟩:=hv
   exact⟨h0,en,clock,h1,h.1.spec h2,h.2.spec h3⟩
  |_=>exact h.elim
 | cmap es' bs' ck' => cases o with
  |cmap es bs ck=>
   obtain⟨h,rfl,rfl⟩:=h
   obtain⟨h0,en,h1,h2,h3,h4⟩:=hv
   exact⟨h0,en,h1,h.1.spec h2,h.2.spec h3,h4⟩
  |_=>exact h.elim
 | miter m' a' s' l' => cases o with
  |miter m a s l=>
   obtain⟨hm,rfl,rfl,rfl⟩:=h
   obtain⟨h0,mb,h1,h2⟩:=hv
   exact⟨h0,mb,by simp only[View.ren,hm];exact h1,h2⟩
  |_=>exact h.elim
 | siter s' pos => cases o with
  |siter s2 pos2=>
   obtain⟨rfl,rfl⟩:=h
   exact hv
  |_=>exact h.elim
 |gone=>trivial
structure Reset (n0:Nat) (st st':St):Prop where
 ex:∃ (p:Nat→Option Nat) (k:Nat→Bool),(∀ i,i<n0→p i=some i)∧(∀ i,k i=true↔i<n0)∧(∀ i j x,p i=some x→p j=some x→i=j)∧(∀ i x,p i=some x→i<st'.σ.n) ∧
  (∀ i o',st'.σ.get i=some o'→∃ x o,p i=some x∧st.σ.get x=some o∧RenO p k o' o∧(o'≠.gone→o≠.gone))∧(∀ t a',st'.τ.get t=some a'→∃ a,st.τ.get t=some a∧Ren p k a' a)
 n0:n0≤st'.σ.n
 ds:st.ds=[]
 ds':st'.ds=[]
 lam:st'.Λ=st.Λ
 nt:st'.nt=st.nt
 rnd:st'.rnd=st.rnd
section
variable {P:Program} {E:Env} {base:Nat} {inv:Inv} {V0 V:View} {st st':St} {A:Array Value} {DS:List Deferred} {M:List Nat} {O0 O:OO} {W0 W:World} {σ0:Hp}
theorem Reset.spec (hR:Reset σ0.n st st') (hf:∀ id x,V0.m id=some x→id<σ0.n) (hl:∀ l x,V0.lv l=some x→l<σ0.n) (h:SR E base inv V st A DS M O W) (hP:Prg V0 σ0 O0 W0 V st.σ O W) :
  ∃ V',SR E base inv V' st' A DS M O W∧Prg V0 σ0 O0 W0 V' st'.σ O W:=by
 obtain⟨⟨p,k,h1,h2,h3,h4,h5,h6⟩,hn0,hds,hds',hlam,hnt,hrnd⟩:=hR
 have hm:∀ i x,(V.ren p k).m i=some x→∃ j,p i=some j∧V.m j=some x:=fun i x hx=>by
  simp only[View.ren] at hx
  cases hp:p i with
  |none=>rw[hp] at hx;cases hx
  |some j=>rw[hp] at hx;exact⟨j,rfl,hx⟩
 have hown:∀ b,Own (V.ren p k) st'.σ b→Own V st.σ b:=by
  rintro b ⟨i,s,⟨o',hg,hne⟩,hx⟩
  obtain⟨x,o,e1,e2,_,e4⟩:=h5 i o' hg
  obtain⟨j,e5,e6⟩:=hm _ _ hx
  rw[e1] at e5;simp only[Option.some.injEq] at e5;subst e5
  exact⟨x,s,⟨o,e2,e4 hne⟩,e6⟩
 refine⟨V.ren p k,⟨⟨h.hr.cell,fun g l hg=>?_,fun i o' hg hne=>?_,fun i j b s s' ⟨o1,g1,n1⟩ ⟨o2,g2,n2⟩ m1 m2=>?_,fun i x hx=>?_,fun i o' hg=>?_⟩,h.bs,fun t a' ht=>?_,by rw[hnt];exact h.sz,?_,h.mks,by rw[hlam];exact h.cx,fun b hb=>h.dis b (hown b hb),fun i x hx=>?_⟩,
  ⟨⟨fun i x hx=>?_,fun l x hx=>?_,hP.le.K,fun i b s hx=>hP.le.N i b s hx⟩,hP.fr,fun b hb=>hP.own b (hown b hb),hP.out,fun i b s hx=>?_,hP.K,fun i x hx=>?_,hn0⟩⟩
 · obtain ⟨f, hf⟩ := h.hr.glob g l hg
   exact⟨f,fun i hi=>⟨(hf i hi).1,(hf i hi).2.mono (View.bare_mono fun _ _ _ h=>h)⟩⟩
 · obtain ⟨x, o, e1, e2, e3, e4⟩ := h5 i o' hg
   obtain⟨blk,s,g1,g2,g3,g4⟩:=h.hr.obj x o e2 (e4 hne)
   exact⟨blk,s,by simp only[View.ren,e1];exact g1,g2,g3,e3.spec g4⟩
 · obtain ⟨x, ox, e1, e2, _, e4⟩ := h5 i o1 g1
   obtain⟨y,oy,k1,k2,_,k4⟩:=h5 j o2 g2
   obtain⟨x',q1,q2⟩:=hm _ _ m1
   obtain⟨y',q3,q4⟩:=hm _ _ m2
   rw[e1] at q1;simp only[Option.some.injEq] at q1;subst q1
   rw[k1] at q3;simp only[Option.some.injEq] at q3;subst q3
   have:=h.hr.inj x y b s s' ⟨ox,e2,e4 n1⟩ ⟨oy,k2,k4 n2⟩ q2 q4
   subst this
   exact h3 i j x e1 k1
 · obtain ⟨j, e1, e2⟩ := hm _ _ hx
   exact⟨h4 i j e1,(h.hr.fresh j x e2).2⟩
 · obtain ⟨x, o, e1, e2, _⟩ := h5 i o' hg
   obtain⟨y,hy⟩:=h.hr.all x o e2
   exact⟨y,by simp only[View.ren,e1];exact hy⟩
 · obtain ⟨a, e1, e2⟩ := h6 t a' ht
   exact e2.spec (h.tm t a e1)
 · rw [hds']
   have:=h.ds
   rw[hds] at this
   clear hP h
   generalize hz:([]:List (Nat×List AV))=z at this
   induction this with
   |nil=>exact .nil
   |cons M f args caps A ds DS hh t ih=>cases hz
   |mark M r ds DS hh t ih=>exact .mark M r _ DS hh (ih hz)
 · simp only [View.ren] at hx
   split at hx
   · rename_i e
     have:=(h2 i).1 e
     omega
   · cases hx
 · have hi := hf i x hx
   simp only[View.ren,h1 i hi]
   exact hP.le.m i x hx
 · have hi := hl l x hx
   simp only[View.ren,(h2 l).2 hi,if_true]
   exact hP.le.lv l x hx
 · obtain ⟨j, _, e2⟩ := hm _ _ hx
   exact hP.mb j b s e2
 · by_cases hi : i < σ0.n
   · obtain ⟨j, e1, e2⟩ := hm _ _ hx
     rw[h1 i hi] at e1;simp only[Option.some.injEq] at e1;subst e1
     exact hP.nm i x e2
   · exact .inr (by omega)
end
end Go.Eng


namespace Go.Eng
open Go
theorem elemN_mem {i:Nat}:∀ {l:List Nat},elemN i l=true↔i∈l
 |[]=>by simp[elemN]
 |j::l=>by
  simp only[elemN]
  split
  · rename_i h;have:=Nat.eq_of_beq_eq_true h;simp[this]
  · rename_i h
    have:i≠j:=Nat.ne_of_beq_eq_false h
    rw[elemN_mem];simp[this]
theorem freshL_spec {n0:Nat}:∀ {L:List Nat},freshL n0 L=true→L.Nodup∧∀ i∈L,n0≤i
 |[],_=>⟨.nil,fun i h=>by cases h⟩
 |i::l,h=>by
  simp only[freshL] at h
  split at h
  · rename_i h1 h2
    obtain⟨a,b⟩:=freshL_spec h
    have h1':=Nat.le_of_ble_eq_true h1
    refine⟨List.nodup_cons.2 ⟨fun hm=>(by rw[elemN_mem.2 hm] at h2;cases h2),a⟩,fun j hj=>?_⟩
    rcases List.mem_cons.1 hj with rfl|hj
    · exact h1'
    · exact b j hj
  · cases h
theorem posN_spec {i:Nat}:∀ {l:List Nat} {k j:Nat},posN i l k=some j→k≤j∧l[j-k]?=some i
 |[],k,j,h=>by cases h
 |x::l,k,j,h=>by
  simp only[posN] at h
  split at h
  · rename_i e
    simp only[Option.some.injEq] at h;subst h
    have:=Nat.eq_of_beq_eq_true e
    exact⟨Nat.le_refl _,by simp[this]⟩
  · obtain ⟨h1, h2⟩ := posN_spec h
    refine⟨by omega,?_⟩
    rw[show j-k=(j-(k+1))+1 by omega]
    exact h2
def oldN (n0:Nat) (L:List Nat) (j:Nat):Option Nat:=if j<n0 then some j else L[j-n0]?
theorem newN_spec {n0:Nat} {L:List Nat} {i j:Nat} (h:newN n0 L i=some j):oldN n0 L j=some i:=by
 unfold newN at h
 split at h
 · rename_i e
   have:=Nat.le_of_ble_eq_true e
   simp only[Option.some.injEq] at h;subst h
   unfold oldN;rw[if_pos (by omega)]
 · obtain ⟨h1, h2⟩ := posN_spec h
   unfold oldN;rw[if_neg (by omega)];exact h2
def oldK (n0:Nat) (l:Nat):Bool:=decide (l<n0)
mutual
theorem renA_spec {n0:Nat} {L:List Nat} (a:AV) {a':AV} (h:renA n0 L a=some a'):Ren (oldN n0 L) (oldK n0) a' a:=by
 cases a with
 |ptr i o=>simp only[renA,Option.map_eq_some_iff] at h;obtain⟨j,h1,rfl⟩:=h;exact .ptr _ _ _ (newN_spec h1)
 |sl i o l c z=>simp only[renA,Option.map_eq_some_iff] at h;obtain⟨j,h1,rfl⟩:=h;exact .sl _ _ _ _ _ _ (newN_spec h1)
 |fsl i o l z=>simp only[renA,Option.map_eq_some_iff] at h;obtain⟨j,h1,rfl⟩:=h;exact .fsl _ _ _ _ _ (newN_spec h1)
 |mp i=>simp only[renA,Option.map_eq_some_iff] at h;obtain⟨j,h1,rfl⟩:=h;exact .mp _ _ (newN_spec h1)
 |iter i=>simp only[renA,Option.map_eq_some_iff] at h;obtain⟨j,h1,rfl⟩:=h;exact .iter _ _ (newN_spec h1)
 |yld l=>
  simp only[renA] at h
  split at h
  · rename_i e
    have:=Nat.le_of_ble_eq_true e
    simp only[Option.some.injEq] at h;subst h
    exact .yld _ (by simp[oldK];omega)
  · cases h
 |fn f x y=>
  simp only[renA] at h
  split at h
  · rename_i x' y' h1 h2
    simp only[Option.some.injEq] at h;subst h
    obtain⟨a1,a2⟩:=renL_spec x h1
    obtain⟨b1,b2⟩:=renL_spec y h2
    exact .fn f _ _ _ _ a1 b1 a2 b2
  · cases h
 |ifc t v=>simp only[renA,Option.map_eq_some_iff] at h;obtain⟨j,h1,rfl⟩:=h;exact .ifc _ _ _ (renA_spec v h1)
 |mv t v n=>simp only[renA,Option.map_eq_some_iff] at h;obtain⟨j,h1,rfl⟩:=h;exact .mv _ _ _ _ (renA_spec v h1)
 |agg l=>simp only[renA,Option.map_eq_some_iff] at h;obtain⟨j,h1,rfl⟩:=h;obtain⟨a1,a2⟩:=renL_spec l h1;exact .agg _ _ a1 a2
 |tup l=>simp only[renA,Option.map_eq_some_iff] at h;obtain⟨j,h1,rfl⟩:=h;obtain⟨a1,a2⟩:=renL_spec l h1;exact .tup _ _ a1 a2
 |bool b=>simp only[renA,Option.some.injEq] at h;subst h;exact .same 1 _ rfl
 |int k n=>simp only[renA,Option.some.injEq] at h;subst h;exact .same 1 _ rfl
 |str s=>simp only[renA,Option.some.injEq] at h;subst h;exact .same 1 _ rfl
 |gp g o=>simp only[renA,Option.some.injEq] at h;subst h;exact .same 1 _ rfl
 |cp l o=>simp only[renA,Option.some.injEq] at h;subst h;exact .same 1 _ rfl
 |nilp=>simp only[renA,Option.some.injEq] at h;subst h;exact .same 1 _ rfl
 |csl l n=>simp only[renA,Option.some.injEq] at h;subst h;exact .same 1 _ rfl
 |nils=>simp only[renA,Option.some.injEq] at h;subst h;exact .same 1 _ rfl
 |sle=>simp only[renA,Option.some.injEq] at h;subst h;exact .sle
 |vs t nl l=>simp only[renA,Option.some.injEq] at h;subst h;exact .same 1 _ rfl
 |nilm=>simp only[renA,Option.some.injEq] at h;subst h;exact .same 1 _ rfl
 |nilf=>simp only[renA,Option.some.injEq] at h;subst h;exact .same 1 _ rfl
 |nili=>simp only[renA,Option.some.injEq] at h;subst h;exact .same 1 _ rfl
theorem renL_spec {n0:Nat} {L:List Nat} (l:List AV) {l':List AV} (h:renL n0 L l=some l'):RenL (oldN n0 L) (oldK n0) l' l:=by
 cases l with
 |nil=>simp only[renL,Option.some.injEq] at h;subst h;exact⟨rfl,fun i h=>absurd h (Nat.not_lt_zero i)⟩
 |cons v vs=>
  simp only[renL] at h
  split at h
  · rename_i v' vs' h1 h2
    simp only[Option.some.injEq] at h;subst h
    have a:=renA_spec v h1
    obtain⟨b1,b2⟩:=renL_spec vs h2
    refine⟨by simp[b1],fun i hi hi'=>?_⟩
    cases i with
    |zero=>exact a
    |succ i=>exact b2 i (by simpa using hi) (by simpa using hi')
  · cases h
end
theorem renES_spec {n0:Nat} {L:List Nat}:∀ (es:List (AV×AV)) {es':List (AV×AV)},renES n0 L es=some es'→RenL (oldN n0 L) (oldK n0) (es'.map (·.1)) (es.map (·.1))∧RenL (oldN n0 L) (oldK n0) (es'.map (·.2)) (es.map (·.2))
 |[],es',h=>by
  simp only[renES,Option.some.injEq] at h;subst h
  exact⟨⟨rfl,fun i h=>absurd h (Nat.not_lt_zero i)⟩,⟨rfl,fun i h=>absurd h (Nat.not_lt_zero i)⟩⟩
 | (a, b) :: es, es', h => by
  simp only[renES] at h
  split at h
  · rename_i a' b' es1 h1 h2 h3
    simp only[Option.some.injEq] at h;subst h
    obtain⟨⟨x1,x2⟩,⟨y1,y2⟩⟩:=renES_spec es h3
    have ha:=renA_spec a h1
    have hb:=renA_spec b h2
    refine⟨⟨by simpa using x1,fun i hi hi'=>?_⟩,⟨by simpa using y1,fun i hi hi'=>?_⟩⟩
    · cases i with
      |zero=>exact ha
      |succ i=>simp only[List.map_cons,List.getElem_cons_succ];exact x2 i (by simpa using hi) (by simpa using hi')
    · cases i with
      |zero=>exact hb
      |succ i=>simp only[List.map_cons,List.getElem_cons_succ];exact y2 i (by simpa using hi) (by simpa using hi')
  · cases h
theorem renOb_spec {n0:Nat} {L:List Nat} {o o':AO} (h:renOb n0 L o=some o'):RenO (oldN n0 L) (oldK n0) o' o∧(o'≠.gone→o≠.gone):=by
 cases o with
 |cells ro l=>simp only[renOb,Option.map_eq_some_iff] at h;obtain⟨l',h1,rfl⟩:=h;exact⟨⟨rfl,renL_spec l h1⟩,fun _=>by simp⟩
 |map es=>simp only[renOb,Option.map_eq_some_iff] at h;obtain⟨l',h1,rfl⟩:=h;exact⟨renES_spec es h1,fun _=>by simp⟩
 |cmap es bs ck=>simp only[renOb,Option.map_eq_some_iff] at h;obtain⟨l',h1,rfl⟩:=h;exact⟨⟨renES_spec es h1,rfl,rfl⟩,fun _=>by simp⟩
 |miter m a s l=>simp only[renOb,Option.map_eq_some_iff] at h;obtain⟨m',h1,rfl⟩:=h;exact⟨⟨newN_spec h1,rfl,rfl,rfl⟩,fun _=>by simp⟩
 |siter s p=>simp only[renOb,Option.some.injEq] at h;subst h;exact⟨⟨rfl,rfl⟩,fun _=>by simp⟩
 |gone=>simp only[renOb,Option.some.injEq] at h;subst h;exact⟨trivial,fun h=>absurd rfl h⟩
theorem renT_spec {n0:Nat} {L:List Nat}:∀ (τ:Tmps) {τ':Tmps},renT n0 L τ=some τ'→∀ t a',τ'.get t=some a'→∃ a,τ.get t=some a∧renA n0 L a=some a'
 |.lf,τ',h,t,a',ht=>by
  have:(some .lf:Option Tmps)=some τ':=h
  simp only[Option.some.injEq] at this;subst this
  rw[Tr.get_lf] at ht;cases ht
 | .nd l v r, τ', h, t, a', ht => by
  have h':(match renT n0 L l,(match v with|some v=>(renA n0 L v).map some|none=>some none),renT n0 L r with
   |some a,some v,some b=>some (.nd a v b)
   |_,_,_=>none)=some τ':=h
  split at h'
  · rename_i a v' b h1 h2 h3
    simp only[Option.some.injEq] at h';subst h'
    rw[Tr.get_nd] at ht⊢
    cases t with
    | zero =>
     simp only at ht⊢
     subst ht
     cases v with
     |none=>simp at h2
     |some v=>
      simp only[Option.map_eq_some_iff] at h2
      obtain⟨x,h4,h5⟩:=h2
      simp only[Option.some.injEq] at h5;subst h5
      exact⟨v,rfl,h4⟩
    |succ t=>
     simp only at ht⊢
     split at ht
     · exact renT_spec l h1 _ _ ht
     · exact renT_spec r h3 _ _ ht
  · cases h'
theorem restr_spec:∀ (τ0 τ:Tmps) {t:Nat} {a:AV},(restr τ0 τ).get t=some a→τ.get t=some a
 |.lf,τ,t,a,h=>by cases τ<;>(simp only[restr] at h;rw[Tr.get_lf] at h;cases h)
 |.nd l v r,.lf,t,a,h=>by simp only[restr] at h;rw[Tr.get_lf] at h;cases h
 | .nd l v r, .nd l' v' r', t, a, h => by
  simp only[restr] at h
  rw[Tr.get_nd] at h⊢
  cases t with
  |zero=>
   simp only at h⊢
   cases v with
   |none=>simp at h
   |some v=>exact h
  |succ t=>
   simp only at h⊢
   split at h
   · exact restr_spec l l' h
   · exact restr_spec r r' h
theorem bld_spec {σ : Hp} {n0 : Nat} {L : List Nat} : ∀ (r : List (Nat × Nat)) {t t' : Tr AO}, (∀ x ∈ r, oldN n0 L x.2 = some x.1) → bld σ n0 L r t = some t' → ∀ j o', t'.get j = some o' → t.get j = some o' ∨ ∃ i o, oldN n0 L j = some i ∧ σ.get i = some o ∧ renOb n0 L o = some o'
 |[],t,t',_,h,j,o',hj=>by simp only[bld,Option.some.injEq] at h;subst h;exact .inl hj
 | (i, k) :: r, t, t', hr, h, j, o', hj => by
  simp only[bld] at h
  split at h
  · exact bld_spec r (fun x hx=>hr x (List.mem_cons_of_mem _ hx)) h j o' hj
  · rename_i o ho
    split at h
    · rename_i o1 h1
      rcases bld_spec r (fun x hx=>hr x (List.mem_cons_of_mem _ hx)) h j o' hj with e|e
      · rcases Tr.get_set _ _ _ _ _ e with ⟨rfl, rfl⟩ | ⟨_, e⟩
        · exact .inr ⟨i,o,hr (i,j) List.mem_cons_self,ho,h1⟩
        · exact .inl e
      · exact .inr e
    · cases h
theorem upN_spec {n0:Nat} {L:List Nat}:∀ {n:Nat},n≤n0→∀ x∈upN n,oldN n0 L x.2=some x.1
 |0,_,x,hx=>by cases hx
 |n+1,hn,x,hx=>by
  rcases List.mem_cons.1 hx with rfl|hx
  · unfold oldN;rw[if_pos (by omega)]
  · exact upN_spec (by omega) x hx
theorem pairN_spec:∀ {l:List Nat} {k:Nat} {x:Nat×Nat},x∈pairN l k→k≤x.2∧l[x.2-k]?=some x.1
 |[],k,x,h=>by cases h
 |i::l,k,x,h=>by
  rcases List.mem_cons.1 h with rfl|h
  · exact⟨Nat.le_refl _,by simp⟩
  · obtain ⟨h1, h2⟩ := pairN_spec h
    refine⟨by omega,?_⟩
    rw[show x.2-k=(x.2-(k+1))+1 by omega]
    exact h2
theorem cleanL_spec {n0 : Nat} {L : List Nat} {τ : Tmps} {st st' : St} (hτ : ∀ t a, τ.get t = some a → st.τ.get t = some a) (h : cleanL n0 L τ st = some st') : Reset n0 st st' := by
 unfold cleanL at h
 split at h
 · rename_i hf hds
   obtain⟨hnd,hge⟩:=freshL_spec hf
   split at h
   · rename_i τ' t h1 h2
     simp only[Option.some.injEq] at h;subst h
     refine⟨⟨oldN n0 L,oldK n0,fun i hi=>by unfold oldN;rw[if_pos hi],fun i=>by simp[oldK],fun i j x hi hj=>?_,fun i x hi=>?_,fun i o' hi=>?_,fun k a' ht=>?_⟩,Nat.le_add_right _ _,hds,hds,rfl,rfl,rfl⟩
     · unfold oldN at hi hj
       split at hi
       · rename_i a
         simp only[Option.some.injEq] at hi;subst hi
         split at hj
         · simp only[Option.some.injEq] at hj;exact hj.symm
         · have:=hge i (List.mem_of_getElem? hj);omega
       · rename_i a
         split at hj
         · rename_i b
           simp only[Option.some.injEq] at hj;subst hj
           have:=hge j (List.mem_of_getElem? hi);omega
         · rename_i b
           have e:=(List.getElem?_inj (List.getElem?_eq_some_iff.1 hi).1 hnd).1 (hi.trans hj.symm)
           omega
     · unfold oldN at hi
       show i<n0+L.length
       split at hi
       · omega
       · have:=(List.getElem?_eq_some_iff.1 hi).1;omega
     · have hp : ∀ x ∈ upN n0 ++ pairN L n0, oldN n0 L x.2 = some x.1 := by
        intro x hx
        rcases List.mem_append.1 hx with hx|hx
        · exact upN_spec (Nat.le_refl _) x hx
        · obtain ⟨a, b⟩ := pairN_spec hx
          unfold oldN;rw[if_neg (by omega)];exact b
       rcases bld_spec _ hp h2 i o' hi with e|⟨x,o,e1,e2,e3⟩
       · rw[Tr.get_full] at e;cases e
       · obtain ⟨a, b⟩ := renOb_spec e3
         exact⟨x,o,e1,e2,a,b⟩
     · obtain ⟨a, e1, e2⟩ := renT_spec τ h1 k a' ht
       exact⟨a,hτ k a e1,renA_spec a e2⟩
   · cases h
 · cases h
theorem clean_spec {n0:Nat} {τ0:Tmps} {st:St}:clean n0 τ0 st=st∨Reset n0 st (clean n0 τ0 st):=by
 unfold clean
 split
 · rename_i st' h1 h2
   exact .inr (cleanL_spec (fun t a ht=>restr_spec _ _ ht) h2)
 · exact .inl rfl
theorem clean_nt {n0:Nat} {τ0:Tmps} {st:St}:(clean n0 τ0 st).nt=st.nt∧(clean n0 τ0 st).rnd=st.rnd:=by
 rcases clean_spec (n0:=n0) (τ0:=τ0) (st:=st) with h|h
 · rw[h];exact⟨rfl,rfl⟩
 · exact⟨h.nt,h.rnd⟩
end Go.Eng


namespace Go.Eng
open Go
structure BOK (fn:Nat) (rnd:Bool) (b:Frame) (cs:List Frame):Prop where
 fn:b.fn=fn
 rnd:b.roundOf.isSome=rnd
 kind:b.kind=.normal∨(b.kind=.deferred∧∃ c rest,cs=c::rest∧c.mode=.returning)
section
variable {P:Program} {E:Env} {base:Nat} {inv:Inv} {V V':View} {st:St} {A:Array Value} {DS:List Deferred} {M:List Nat} {O:OO} {W W':World}
theorem doYield_spec (h:SR E base inv V st A DS M O W) {hs:Hnds} (hh:HOK P E base inv V hs) {args:List AV} {AA:List Value} (ha:VRs V args AA) {lvl lp:Nat} (hlv:V.lv lvl=some lp)
  {σ3:Hp} {v':AV} {Λ':List LF} (hd:doYield hs lvl args st.σ st.Λ=some (v',σ3,Λ')) :
  ∃ V3 O3 W' b,SR E base inv V3 { st with σ:=σ3,Λ:=Λ' } A DS M O3 W'∧Prg V st.σ O W V3 σ3 O3 W'∧v'=.bool b∧GoesY P lp AA.toArray W b W':=by
 unfold doYield at hd
 split at hd
 · rename_i hnd hget
   split at hd
   · rename_i b σ1 Λ1 hb
     simp only[Option.some.injEq,Prod.mk.injEq] at hd;obtain⟨rfl,rfl,rfl⟩:=hd
     obtain⟨l,hl,hy⟩:=hh lvl hnd hget
     rw[hlv] at hl
     simp only[Option.some.injEq] at hl;subst hl
     obtain⟨V',O',W',p1,r1,i1,d1,l1,g1⟩:=hy _ _ _ V st.σ _ _ _ _ _ (View.le.refl V) h.hr h.bs h.cx h.dis h.lf ha hb
     exact⟨V',O',W',b,h.prg p1 r1 i1 d1 l1,p1,rfl,g1⟩
   · cases hd
 · cases hd
theorem op_defer {τ:Tmps} {σ:Hp} {c:Call} {r:Res} (h:op E τ σ (.defer c)=some r):∃ f args,r=.dfr f args:=by
 simp only[op] at h
 split at h
 · simp only[Option.some.injEq] at h;exact⟨_,_,h.symm⟩
 · cases h
theorem oneOp_spec (hE : EnvOK P E) (hcx : CxOK inv) {call : CallF} (hcall : CallOK P E call) (h : SR E base inv V st A DS M O W) {hs : Hnds} (hh : HOK P E base inv V hs) {ops : Array Oper} {i : Nat} {o : Oper} (ho : ops[i]? = some o)
  {st':St} (hd:oneOp E call hs ops o st=some st') :
  ∃ V' A' DS' O' W',SR E base inv V' st' A' DS' M O' W'∧Prg V st.σ O W V' st'.σ O' W'∧st'.rnd=st.rnd ∧
   ∀ fn b cs k rest,BOK fn st.rnd b cs→Steps P (lone (mkF b A DS (.inRegion ops (i::rest)::k)) cs W) (lone (mkF b A' DS' (.inRegion ops rest::k)) cs W'):=by
 unfold oneOp at hd
 split at hd
 · cases hd
 · rename_i hw
   obtain⟨g1,g2,g3⟩:=h.put (undef_VR V) hd
   exact⟨V,_,DS,O,W,g1,by rw[g2];exact .refl _ _ _ _,g3,fun fn b cs k rest hb=>.one (st_unwanted ho (wanted_spec h hw))⟩
 · rename_i hw
   have hw':=wanted_spec h hw
   split at hd
   · cases hd
   · rename_i v σ hop
     have hnd:∀ c,o.op≠.defer c:=by intro c e;rw[e] at hop;obtain⟨_,_,h'⟩:=op_defer hop;cases h'
     have key:∀ b:Frame,OpOK P E base V st.σ W ((execOp (mkF b A DS []).eval o).run P W) (.val v σ):=fun b=>op_sound hE h.hr h.bs (h.evR b) o hop
     obtain⟨V1,W1,v1,e1,s1,r1⟩:=key default
     have hS:=h.stp hcx s1
     obtain⟨g1,g2,g3⟩:=hS.put r1 hd
     refine⟨V1,_,DS,O,W1,g1,by rw[g2];exact .of_stp s1 (hcx.bound _ _ _ _ h.cx),g3,fun fn b cs k rest hb=>.one (st_value ho hw' (.inr hnd) ?_)⟩
     have:(mkF b A DS []).eval=(mkF default A DS []).eval:=by funext x;rw[mkF_eval,mkF_eval]
     rw[this];exact e1
   · rename_i σ hop
     have hnd:∀ c,o.op≠.defer c:=by intro c e;rw[e] at hop;obtain⟨_,_,h'⟩:=op_defer hop;cases h'
     have key:OpOK P E base V st.σ W ((execOp (mkF default A DS []).eval o).run P W) (.skip σ):=op_sound hE h.hr h.bs (h.evR default) o hop
     obtain⟨V1,W1,e1,s1⟩:=key
     have hS:=h.stp hcx s1
     obtain⟨g1,g2,g3⟩:=hS.put (undef_VR V1) hd
     refine⟨V1,_,DS,O,W1,g1,by rw[g2];exact .of_stp s1 (hcx.bound _ _ _ _ h.cx),g3,fun fn b cs k rest hb=>.one (st_nothing ho hw' (.inr hnd) ?_)⟩
     have:(mkF b A DS []).eval=(mkF default A DS []).eval:=by funext x;rw[mkF_eval,mkF_eval]
     rw[this];exact e1
   · rename_i f args hop
     have hnd:∀ c,o.op≠.defer c:=by intro c e;rw[e] at hop;obtain⟨_,_,h'⟩:=op_defer hop;cases h'
     have key:OpOK P E base V st.σ W ((execOp (mkF default A DS []).eval o).run P W) (.call f args):=op_sound hE h.hr h.bs (h.evR default) o hop
     obtain⟨AA,e1,r1⟩:=key
     split at hd
     · rename_i v σ Λ hdc
       obtain⟨V1,O1,W1,R,s1,p1,vr,hg⟩:=doCall_spec hcx hcall h hh r1 hdc
       obtain⟨g1,g2,g3⟩:=s1.put vr hd
       refine⟨V1,_,DS,O1,W1,g1,by rw[g2];exact p1,g3,fun fn b cs k rest hb=>?_⟩
       have hev:(mkF b A DS []).eval=(mkF default A DS []).eval:=by funext x;rw[mkF_eval,mkF_eval]
       cases hg with
       |value hv=>exact .one (st_value ho hw' (.inr hnd) (by rw[hev,e1];exact hv))
       |enter Wm hv hst=>
        refine .head (st_enter ho hw' (.inr hnd) (by rw[hev,e1];exact hv)) ?_
        have:=hst .normal (mkF b A DS (.inRegion ops (i::rest)::k)) cs (.inl rfl)
        rw[show backTo .normal R (mkF b A DS (.inRegion ops (i::rest)::k))=mkF b (putR A o.dst R) DS (.inRegion ops rest::k) from mkF_finish ho R] at this
        exact this
     · cases hd
   · rename_i l args hop
     have hnd:∀ c,o.op≠.defer c:=by intro c e;rw[e] at hop;obtain⟨_,_,h'⟩:=op_defer hop;cases h'
     have key:OpOK P E base V st.σ W ((execOp (mkF default A DS []).eval o).run P W) (.yld l args):=op_sound hE h.hr h.bs (h.evR default) o hop
     obtain⟨lp,AA,hlv,e1,r1⟩:=key
     split at hd
     · rename_i v σ Λ hdy
       obtain⟨V1,O1,W1,bb,s1,p1,rfl,hg⟩:=doYield_spec h hh r1 hlv hdy
       obtain⟨g1,g2,g3⟩:=s1.put (.bool bb) hd
       refine⟨V1,_,DS,O1,W1,g1,by rw[g2];exact p1,g3,fun fn b cs k rest hb=>?_⟩
       have hev:(mkF b A DS []).eval=(mkF default A DS []).eval:=by funext x;rw[mkF_eval,mkF_eval]
       obtain⟨Wm,f,tmps,asg,body,hv,hst⟩:=hg
       refine .head (st_round ho hw' (.inr hnd) (by rw[hev,e1];exact hv)) ?_
       have:=hst (mkF b A DS (.inRegion ops (i::rest)::k)) cs
       rw[mkF_finish ho] at this
       exact this
     · cases hd
   · rename_i f args hop
     have key:OpOK P E base V st.σ W ((execOp (mkF default A DS []).eval o).run P W) (.dfr f args):=op_sound hE h.hr h.bs (h.evR default) o hop
     obtain⟨caps,AA,e1,r1⟩:=key
     split at hd
     · cases hd
     · rename_i hr
       have hS:SR E base inv V { st with ds:=(f,args)::st.ds } A ({ target:=.fn (.func f) caps.toArray,args:=AA.toArray }::DS) M O W:=⟨h.hr,h.bs,h.tm,h.sz,.cons M f args caps AA st.ds DS r1 h.ds,h.mks,h.cx,h.dis,h.lf⟩
       obtain⟨g1,g2,g3⟩:=hS.put (undef_VR V) hd
       refine⟨V,_,_,O,W,g1,by rw[g2];exact .refl _ _ _ _,g3,fun fn b cs k rest hb=>?_⟩
       have hev:(mkF b A DS []).eval=(mkF default A DS []).eval:=by funext x;rw[mkF_eval,mkF_eval]
       have hro:b.roundOf=none:=by
        have:=hb.rnd
        rw[hr] at this
        cases e:b.roundOf with
        |none=>rfl
        |some x=>rw[e] at this;cases this
       exact .one (st_defer ho hw' hro (by rw[hev];exact e1))
   · rename_i hop
     have key:OpOK P E base V st.σ W ((execOp (mkF default A DS []).eval o).run P W) .recov:=op_sound hE h.hr h.bs (h.evR default) o hop
     split at hd
     · cases hd
     · rename_i hr
       obtain⟨g1,g2,g3⟩:=h.put (v:=.nilIface) .nili hd
       refine⟨V,_,DS,O,W,g1,by rw[g2];exact .refl _ _ _ _,g3,fun fn b cs k rest hb=>?_⟩
       have hev:(mkF b A DS []).eval=(mkF default A DS []).eval:=by funext x;rw[mkF_eval,mkF_eval]
       have hro:b.roundOf=none:=by
        have:=hb.rnd
        rw[hr] at this
        cases e:b.roundOf with
        |none=>rfl
        |some x=>rw[e] at this;cases this
       exact .one (st_recover ho hw' hro hb.kind (by rw[hev];exact key))
theorem runOps_spec (hE:EnvOK P E) (hcx:CxOK inv) {call:CallF} (hcall:CallOK P E call) {hs:Hnds} {ops:Array Oper}:∀ (os:List Oper) (n:Nat) {V:View} {st st':St} {A:Array Value} {DS:List Deferred} {O:OO} {W:World},
  ops.toList.drop n=os→SR E base inv V st A DS M O W→HOK P E base inv V hs→runOps E call hs ops os st=some st' →
  ∃ V' A' DS' O' W',SR E base inv V' st' A' DS' M O' W'∧Prg V st.σ O W V' st'.σ O' W'∧st'.rnd=st.rnd ∧
   ∀ fn b cs k,BOK fn st.rnd b cs→Steps P (lone (mkF b A DS (.inRegion ops (List.range' n os.length)::k)) cs W) (lone (mkF b A' DS' k) cs W')
 |[],n,V,st,st',A,DS,O,W,hos,h,hh,hd=>by
  simp only[runOps,Option.some.injEq] at hd;subst hd
  exact⟨V,A,DS,O,W,h,.refl _ _ _ _,rfl,fun fn b cs k hb=>.one st_region_end⟩
 | o :: os, n, V, st, st', A, DS, O, W, hos, h, hh, hd => by
  simp only[runOps] at hd
  split at hd
  · rename_i st1 h1
    have ho:ops[n]?=some o:=by
     have:(ops.toList.drop n)[0]?=some o:=by rw[hos];rfl
     rw[List.getElem?_drop] at this
     simpa using this
    have hos':ops.toList.drop (n+1)=os:=by
     have:(ops.toList.drop n).drop 1=os:=by rw[hos];rfl
     rw[List.drop_drop] at this;exact this
    obtain⟨V1,A1,DS1,O1,W1,s1,p1,r1,g1⟩:=oneOp_spec hE hcx hcall h hh ho h1
    obtain⟨V2,A2,DS2,O2,W2,s2,p2,r2,g2⟩:=runOps_spec hE hcx hcall os (n+1) hos' s1 (hh.mono p1.le) hd
    exact⟨V2,A2,DS2,O2,W2,s2,p1.trans p2,r2.trans r1,fun fn b cs k hb=>(g1 fn b cs k _ hb).trans (g2 fn b cs k (by rw[r1];exact hb))⟩
  · cases hd
end
end Go.Eng


namespace Go.Eng
open Go
attribute [local irreducible] upTo
section
variable {E:Env} {call:CallF} {hs:Hnds} {st:St}
theorem exec_skip:exec E call .skip hs st=some (.normal,st):=rfl
theorem exec_label {l:Nat}:exec E call (.label l) hs st=some (.normal,st):=rfl
theorem exec_exit {i:Nat}:exec E call (.exit i) hs st=some (.exit i,st):=rfl
theorem exec_ret:exec E call .ret hs st=some (.ret,st):=rfl
theorem exec_goto {i:Nat}:exec E call (.goto i) hs st=none:=rfl
theorem exec_refuse {s:String}:exec E call (.refuse s) hs st=none:=rfl
theorem exec_seq {a b:Code}:exec E call (.seq a b) hs st=match exec E call a hs st with
  |some (.normal,st)=>exec E call b hs st
  |r=>r:=rfl
theorem exec_cond {c:Operand} {a b:Code}:exec E call (.cond c a b) hs st=match ev st.τ c with
  |some (.bool true)=>exec E call a hs st
  |some (.bool false)=>exec E call b hs st
  |_=>none:=rfl
theorem exec_block {i:Nat} {b:Code}:exec E call (.block i b) hs st=match exec E call b hs st with
  |some (.exit j,st)=>some ((match Nat.beq j i with|true=>.normal|false=>.exit j),st)
  |r=>r:=rfl
theorem exec_loop {b:Code}:exec E call (.loop b) hs st=match (match E.sy with|true=>upTo (fun s=>roundC st.σ.n st.τ (exec E call b hs s)) 20 st|false=>upTo (exec E call b hs) 20 st) with
  |some (some e,st)=>some (e,st)
  |_=>none:=rfl
theorem exec_scope {b:Code}:exec E call (.scope b) hs st=exec E call b hs st:=rfl
theorem exec_region {i:Nat} {ops:Array Oper}:exec E call (.region i ops false) hs st=match runOps E call hs ops ops.toList st with
  |some st=>some (.normal,st)
  |none=>none:=rfl
theorem exec_regionD {i:Nat} {ops:Array Oper}:exec E call (.region i ops true) hs st=match runDraw E call hs ops st with
  |some st=>some (.normal,st)
  |none=>none:=rfl
end
def Arr (P:Program) (m:Machine) (b:Frame) (A:Array Value) (DS:List Deferred) (k:List Item) (cs:List Frame) (W:World):Ex→Prop
 |.normal=>Steps P m (lone (mkF b A DS k) cs W)
 |.exit i=>∃ k',exitTo i k'=exitTo i k∧Steps P m (lone (mkF b A DS (.code (.exit i)::k')) cs W)
 |.ret=>∃ k',Steps P m (lone (mkF b A DS (.code .ret::k')) cs W)
theorem Arr.of_steps {P:Program} {m m1:Machine} {b:Frame} {A:Array Value} {DS:List Deferred} {k:List Item} {cs:List Frame} {W:World} {e:Ex} (h:Steps P m m1) (k':Arr P m1 b A DS k cs W e):Arr P m b A DS k cs W e:=by
 cases e with
 |normal=>exact h.trans k'
 |exit i=>obtain⟨x,h1,h2⟩:=k';exact⟨x,h1,h.trans h2⟩
 |ret=>obtain⟨x,h2⟩:=k';exact⟨x,h.trans h2⟩
theorem Arr.behind {P:Program} {m:Machine} {b:Frame} {A:Array Value} {DS:List Deferred} {k k':List Item} {cs:List Frame} {W:World} {e:Ex} (hne:e≠.normal) (hk:∀ i,e=.exit i→exitTo i k=exitTo i k') (h:Arr P m b A DS k cs W e):Arr P m b A DS k' cs W e:=by
 cases e with
 |normal=>exact absurd rfl hne
 |exit i=>obtain⟨x,h1,h2⟩:=h;exact⟨x,h1.trans (hk i rfl),h2⟩
 |ret=>exact h
structure Left (E:Env) (base:Nat) (inv:Inv) (V:View) (st:St) (M:List Nat) (O:OO) (W:World) (V':View) (st':St) (A':Array Value) (DS':List Deferred) (M':List Nat) (O':OO) (W':World):Prop where
 sr:SR E base inv V' st' A' DS' M' O' W'
 pr:Prg V st.σ O W V' st'.σ O' W'
 rnd:st'.rnd=st.rnd
 mg:∀ r∈M',r∈M∨W.heap.size≤r
theorem Left.refl {E:Env} {base:Nat} {inv:Inv} {V:View} {st:St} {A:Array Value} {DS:List Deferred} {M:List Nat} {O:OO} {W:World} (h:SR E base inv V st A DS M O W):Left E base inv V st M O W V st A DS M O W:=
 ⟨h,.refl _ _ _ _,rfl,fun _ h=>.inl h⟩
theorem Left.trans {E:Env} {base:Nat} {inv:Inv} {V V' V'':View} {st st' st'':St} {A' A'':Array Value} {DS' DS'':List Deferred} {M M' M'':List Nat} {O O' O'':OO} {W W' W'':World}
  (h:Left E base inv V st M O W V' st' A' DS' M' O' W') (k:Left E base inv V' st' M' O' W' V'' st'' A'' DS'' M'' O'' W''):Left E base inv V st M O W V'' st'' A'' DS'' M'' O'' W'':=
 ⟨k.sr,h.pr.trans k.pr,k.rnd.trans h.rnd,fun r hr=>by
  rcases k.mg r hr with h'|h'
  · exact h.mg r h'
  · have:=h.pr.fr.size;exact .inr (by omega)⟩
def RLOK (inv:Inv) (rl:Option Nat):Prop:=∀ l,rl=some l→∀ Λ K O W,inv Λ K O W→∃ r,W.heap[l]?=some (.loop r)
def CodeOK (P:Program) (E:Env) (call:CallF) (base:Nat) (hs:Hnds) (c:Code):Prop:=
 ∀ inv,CxOK inv→∀ V st st' e A DS M O W fn rl,RLOK inv rl→exec E call c hs st=some (e,st')→SR E base inv V st A DS M O W→HOK P E base inv V hs →
  ∃ V' A' DS' M' O' W',Left E base inv V st M O W V' st' A' DS' M' O' W'∧∀ b cs k,BOK fn st.rnd b cs∧b.roundOf=rl→Arr P (lone (mkF b A DS (.code c::k)) cs W) b A' DS' k cs W' e
section
variable {P:Program} {E:Env} {call:CallF} {base:Nat} {hs:Hnds}
theorem CodeOK.skip:CodeOK P E call base hs .skip:=by
 intro inv hcx V st st' e A DS M O W fn rl hrl h hS hh
 simp only[exec_skip,Option.some.injEq,Prod.mk.injEq] at h;obtain⟨rfl,rfl⟩:=h
 exact⟨V,A,DS,M,O,W,.refl hS,fun b cs k hb=>.one st_skip⟩
theorem CodeOK.label {l:Nat}:CodeOK P E call base hs (.label l):=by
 intro inv hcx V st st' e A DS M O W fn rl hrl h hS hh
 simp only[exec_label,Option.some.injEq,Prod.mk.injEq] at h;obtain⟨rfl,rfl⟩:=h
 exact⟨V,A,DS,M,O,W,.refl hS,fun b cs k hb=>.one st_label⟩
theorem CodeOK.exit {i:Nat}:CodeOK P E call base hs (.exit i):=by
 intro inv hcx V st st' e A DS M O W fn rl hrl h hS hh
 simp only[exec_exit,Option.some.injEq,Prod.mk.injEq] at h;obtain⟨rfl,rfl⟩:=h
 exact⟨V,A,DS,M,O,W,.refl hS,fun b cs k hb=>⟨k,rfl,.refl _ _⟩⟩
theorem CodeOK.ret:CodeOK P E call base hs .ret:=by
 intro inv hcx V st st' e A DS M O W fn rl hrl h hS hh
 simp only[exec_ret,Option.some.injEq,Prod.mk.injEq] at h;obtain⟨rfl,rfl⟩:=h
 exact⟨V,A,DS,M,O,W,.refl hS,fun b cs k hb=>⟨k,.refl _ _⟩⟩
theorem CodeOK.goto {i:Nat}:CodeOK P E call base hs (.goto i):=by
 intro inv hcx V st st' e A DS M O W fn rl hrl h hS hh
 simp[exec_goto] at h
theorem CodeOK.refuse {s:String}:CodeOK P E call base hs (.refuse s):=by
 intro inv hcx V st st' e A DS M O W fn rl hrl h hS hh
 simp[exec_refuse] at h
theorem CodeOK.seq {x y:Code} (hx:CodeOK P E call base hs x) (hy:CodeOK P E call base hs y):CodeOK P E call base hs (.seq x y):=by
 intro inv hcx V st st' e A DS M O W fn rl hrl h hS hh
 simp only[exec_seq] at h
 split at h
 · rename_i st1 h1
   obtain⟨V1,A1,DS1,M1,O1,W1,L1,g1⟩:=hx inv hcx V st st1 _ A DS M O W fn rl hrl h1 hS hh
   obtain⟨V2,A2,DS2,M2,O2,W2,L2,g2⟩:=hy inv hcx V1 st1 st' e A1 DS1 M1 O1 W1 fn rl hrl h L1.sr (hh.mono L1.pr.le)
   exact⟨V2,A2,DS2,M2,O2,W2,L1.trans L2,fun b cs k hb=>.of_steps (.head st_seq (g1 b cs (.code y::k) hb)) (g2 b cs k ⟨by rw[L1.rnd];exact hb.1,hb.2⟩)⟩
 · rename_i hne
   obtain⟨V1,A1,DS1,M1,O1,W1,L1,g1⟩:=hx inv hcx V st st' e A DS M O W fn rl hrl h hS hh
   refine⟨V1,A1,DS1,M1,O1,W1,L1,fun b cs k hb=>.of_steps (.one st_seq) (Arr.behind (k:=.code y::k) (fun e'=>?_) (fun i _=>rfl) (g1 b cs (.code y::k) hb))⟩
   subst e';exact hne st' h
theorem CodeOK.scope {x:Code} (hx:CodeOK P E call base hs x):CodeOK P E call base hs (.scope x):=by
 intro inv hcx V st st' e A DS M O W fn rl hrl h hS hh
 simp only[exec_scope] at h
 obtain⟨V1,A1,DS1,M1,O1,W1,L1,g1⟩:=hx inv hcx V st st' e A DS M O W fn rl hrl h hS hh
 refine⟨V1,A1,DS1,M1,O1,W1,L1,fun b cs k hb=>.of_steps (.one st_scope) ?_⟩
 have:=g1 b cs (.inScope x::k) hb
 cases e with
 |normal=>exact this.trans (.one st_inScope)
 |exit i=>exact this.behind (by simp) (fun _ _=>rfl)
 |ret=>exact this.behind (by simp) (fun _ _=>rfl)
theorem CodeOK.block {i:Nat} {x:Code} (hx:CodeOK P E call base hs x):CodeOK P E call base hs (.block i x):=by
 intro inv hcx V st st' e A DS M O W fn rl hrl h hS hh
 simp only[exec_block] at h
 split at h
 · rename_i j st1 h1
   simp only[Option.some.injEq,Prod.mk.injEq] at h;obtain⟨h,rfl⟩:=h
   obtain⟨V1,A1,DS1,M1,O1,W1,L1,g1⟩:=hx inv hcx V st st1 _ A DS M O W fn rl hrl h1 hS hh
   refine⟨V1,A1,DS1,M1,O1,W1,L1,fun b cs k hb=>.of_steps (.one st_block) ?_⟩
   obtain⟨k',h2,h3⟩:=g1 b cs (.inBlock i::k) hb
   have hex:exitTo j (.inBlock i::k)=if (i == j)=true then some k else exitTo j k:=rfl
   rw[hex] at h2
   cases hij:Nat.beq j i with
   |true=>
    rw[hij] at h;simp only at h;subst h
    have:j=i:=Nat.eq_of_beq_eq_true hij
    subst this
    rw[if_pos (by simp)] at h2
    exact h3.trans (.one (st_exit h2))
   |false=>
    rw[hij] at h;simp only at h;subst h
    have:j≠i:=Nat.ne_of_beq_eq_false hij
    rw[if_neg (by simp;exact fun e=>this e.symm)] at h2
    exact⟨k',h2,h3⟩
 · rename_i hne
   obtain⟨V1,A1,DS1,M1,O1,W1,L1,g1⟩:=hx inv hcx V st st' e A DS M O W fn rl hrl h hS hh
   refine⟨V1,A1,DS1,M1,O1,W1,L1,fun b cs k hb=>.of_steps (.one st_block) ?_⟩
   have:=g1 b cs (.inBlock i::k) hb
   cases e with
   |normal=>exact this.trans (.one st_inBlock)
   |exit j=>exact absurd h (hne j st')
   |ret=>exact this.behind (by simp) (fun _ h=>by cases h)
theorem CodeOK.cond {c:Operand} {x y:Code} (hx:CodeOK P E call base hs x) (hy:CodeOK P E call base hs y):CodeOK P E call base hs (.cond c x y):=by
 intro inv hcx V st st' e A DS M O W fn rl hrl h hS hh
 simp only[exec_cond] at h
 split at h
 · rename_i hc
   obtain⟨V1,A1,DS1,M1,O1,W1,L1,g1⟩:=hx inv hcx V st st' e A DS M O W fn rl hrl h hS hh
   exact⟨V1,A1,DS1,M1,O1,W1,L1,fun b cs k hb=>.of_steps (.one (st_cond (t:=true) ((hS.evR b c _ hc).bool_inv))) (g1 b cs k hb)⟩
 · rename_i hc
   obtain⟨V1,A1,DS1,M1,O1,W1,L1,g1⟩:=hy inv hcx V st st' e A DS M O W fn rl hrl h hS hh
   exact⟨V1,A1,DS1,M1,O1,W1,L1,fun b cs k hb=>.of_steps (.one (st_cond (t:=false) ((hS.evR b c _ hc).bool_inv))) (g1 b cs k hb)⟩
 · cases h
theorem upTo_spec {c:Code} (hc:CodeOK P E call base hs c):∀ n inv,CxOK inv→∀ V st st' r A DS M O W fn rl,RLOK inv rl→upTo (exec E call c hs) n st=some (r,st')→SR E base inv V st A DS M O W→HOK P E base inv V hs →
  ∃ V' A' DS' M' O' W',Left E base inv V st M O W V' st' A' DS' M' O' W'∧∀ b cs k,BOK fn st.rnd b cs∧b.roundOf=rl→match r with
   |none=>Steps P (lone (mkF b A DS (.code c::.inLoop c::k)) cs W) (lone (mkF b A' DS' (.inLoop c::k)) cs W')
   |some e=>e≠.normal∧Arr P (lone (mkF b A DS (.code c::.inLoop c::k)) cs W) b A' DS' k cs W' e
 |0,inv,hcx,V,st,st',r,A,DS,M,O,W,fn,rl,hrl,h,hS,hh=>by
  simp only[upTo] at h
  split at h
  · rename_i st1 h1
    simp only[Option.some.injEq,Prod.mk.injEq] at h;obtain⟨rfl,rfl⟩:=h
    obtain⟨V1,A1,DS1,M1,O1,W1,L1,g1⟩:=hc inv hcx V st st1 _ A DS M O W fn rl hrl h1 hS hh
    exact⟨V1,A1,DS1,M1,O1,W1,L1,fun b cs k hb=>g1 b cs _ hb⟩
  · rename_i e st1 hne h1
    simp only[Option.some.injEq,Prod.mk.injEq] at h;obtain⟨rfl,rfl⟩:=h
    obtain⟨V1,A1,DS1,M1,O1,W1,L1,g1⟩:=hc inv hcx V st st1 _ A DS M O W fn rl hrl h1 hS hh
    have hn:e≠.normal:=by intro e';subst e';exact hne rfl
    exact⟨V1,A1,DS1,M1,O1,W1,L1,fun b cs k hb=>⟨hn,Arr.behind (k:=.inLoop c::k) hn (fun _ _=>rfl) (g1 b cs (.inLoop c::k) hb)⟩⟩
  · cases h
 |n+1,inv,hcx,V,st,st',r,A,DS,M,O,W,fn,rl,hrl,h,hS,hh=>by
  simp only[upTo] at h
  split at h
  · rename_i st1 h1
    obtain⟨V1,A1,DS1,M1,O1,W1,L1,g1⟩:=upTo_spec hc n inv hcx V st st1 none A DS M O W fn rl hrl h1 hS hh
    obtain⟨V2,A2,DS2,M2,O2,W2,L2,g2⟩:=upTo_spec hc n inv hcx V1 st1 st' r A1 DS1 M1 O1 W1 fn rl hrl h L1.sr (hh.mono L1.pr.le)
    refine⟨V2,A2,DS2,M2,O2,W2,L1.trans L2,fun b cs k hb=>?_⟩
    have s1:=(g1 b cs k hb).trans (.one st_inLoop)
    have s2:=g2 b cs k ⟨by rw[L1.rnd];exact hb.1,hb.2⟩
    cases r with
    |none=>exact s1.trans s2
    |some e=>exact⟨s2.1,.of_steps s1 s2.2⟩
  · exact upTo_spec hc n inv hcx V st st' r A DS M O W fn rl hrl h hS hh
theorem upToC_spec {c:Code} (hc:CodeOK P E call base hs c) {inv:Inv} (hcx:CxOK inv) {V0:View} {st0:St} {A0:Array Value} {DS0:List Deferred} {M0:List Nat} {O0:OO} {W0:World} {fn:Nat} {rl:Option Nat} (hrl:RLOK inv rl)
  (hS0:SR E base inv V0 st0 A0 DS0 M0 O0 W0) (hh0:HOK P E base inv V0 hs):∀ n V st st' r A DS M O W,Left E base inv V0 st0 M0 O0 W0 V st A DS M O W→upTo (fun s=>roundC st0.σ.n st0.τ (exec E call c hs s)) n st=some (r,st') →
  ∃ V' A' DS' M' O' W',Left E base inv V0 st0 M0 O0 W0 V' st' A' DS' M' O' W'∧∀ b cs k,BOK fn st0.rnd b cs∧b.roundOf=rl→match r with
   |none=>Steps P (lone (mkF b A DS (.code c::.inLoop c::k)) cs W) (lone (mkF b A' DS' (.inLoop c::k)) cs W')
   |some e=>e≠.normal∧Arr P (lone (mkF b A DS (.code c::.inLoop c::k)) cs W) b A' DS' k cs W' e:=by
 have round : ∀ V st st' e A DS M O W, Left E base inv V0 st0 M0 O0 W0 V st A DS M O W → roundC st0.σ.n st0.τ (exec E call c hs st) = some (e, st') →
   ∃ V' A' DS' M' O' W',Left E base inv V0 st0 M0 O0 W0 V' st' A' DS' M' O' W'∧∀ b cs k,BOK fn st0.rnd b cs∧b.roundOf=rl→Arr P (lone (mkF b A DS (.code c::k)) cs W) b A' DS' k cs W' e:=by
  intro V st st' e A DS M O W L h
  unfold roundC at h
  split at h
  · rename_i s hx
    simp only[Option.some.injEq,Prod.mk.injEq] at h;obtain⟨rfl,rfl⟩:=h
    obtain⟨V1,A1,DS1,M1,O1,W1,L1,g1⟩:=hc inv hcx V st s _ A DS M O W fn rl hrl hx L.sr (hh0.mono L.pr.le)
    have L2:=L.trans L1
    have g2:∀ b cs k,BOK fn st0.rnd b cs∧b.roundOf=rl→Arr P (lone (mkF b A DS (.code c::k)) cs W) b A1 DS1 k cs W1 .normal:=fun b cs k hb=>g1 b cs k ⟨by rw[L.rnd];exact hb.1,hb.2⟩
    rcases clean_spec (n0:=st0.σ.n) (τ0:=st0.τ) (st:=s) with e|e
    · rw[e];exact⟨V1,A1,DS1,M1,O1,W1,L2,g2⟩
    · obtain ⟨V3, S3, p3⟩ := e.spec (σ0 := st0.σ) (fun id x hx => (hS0.hr.fresh id x hx).1) hS0.lf L2.sr L2.pr
      exact⟨V3,A1,DS1,M1,O1,W1,⟨S3,p3,e.rnd.trans L2.rnd,L2.mg⟩,g2⟩
  · rename_i hne
    obtain⟨V1,A1,DS1,M1,O1,W1,L1,g1⟩:=hc inv hcx V st st' e A DS M O W fn rl hrl h L.sr (hh0.mono L.pr.le)
    exact⟨V1,A1,DS1,M1,O1,W1,L.trans L1,fun b cs k hb=>g1 b cs k ⟨by rw[L.rnd];exact hb.1,hb.2⟩⟩
 intro n
 induction n with
 |zero=>
  intro V st st' r A DS M O W L h
  simp only[upTo] at h
  split at h
  · rename_i st1 h1
    simp only[Option.some.injEq,Prod.mk.injEq] at h;obtain⟨rfl,rfl⟩:=h
    obtain⟨V1,A1,DS1,M1,O1,W1,L1,g1⟩:=round V st _ _ A DS M O W L h1
    exact⟨V1,A1,DS1,M1,O1,W1,L1,fun b cs k hb=>g1 b cs _ hb⟩
  · rename_i e st1 hne h1
    simp only[Option.some.injEq,Prod.mk.injEq] at h;obtain⟨rfl,rfl⟩:=h
    obtain⟨V1,A1,DS1,M1,O1,W1,L1,g1⟩:=round V st _ _ A DS M O W L h1
    have hn:e≠.normal:=by intro e';subst e';exact hne rfl
    exact⟨V1,A1,DS1,M1,O1,W1,L1,fun b cs k hb=>⟨hn,Arr.behind (k:=.inLoop c::k) hn (fun _ _=>rfl) (g1 b cs (.inLoop c::k) hb)⟩⟩
  · cases h
 |succ n ih=>
  intro V st st' r A DS M O W L h
  simp only[upTo] at h
  split at h
  · rename_i st1 h1
    obtain⟨V1,A1,DS1,M1,O1,W1,L1,g1⟩:=ih V st st1 none A DS M O W L h1
    obtain⟨V2,A2,DS2,M2,O2,W2,L2,g2⟩:=ih V1 st1 st' r A1 DS1 M1 O1 W1 L1 h
    refine⟨V2,A2,DS2,M2,O2,W2,L2,fun b cs k hb=>?_⟩
    have s1:=(g1 b cs k hb).trans (.one st_inLoop)
    have s2:=g2 b cs k hb
    cases r with
    |none=>exact s1.trans s2
    |some e=>exact⟨s2.1,.of_steps s1 s2.2⟩
  · exact ih V st st' r A DS M O W L h
theorem CodeOK.loop {x:Code} (hx:CodeOK P E call base hs x):CodeOK P E call base hs (.loop x):=by
 intro inv hcx V st st' e A DS M O W fn rl hrl h hS hh
 simp only[exec_loop] at h
 split at h
 · rename_i e1 st1 h1
   simp only[Option.some.injEq,Prod.mk.injEq] at h;obtain⟨rfl,rfl⟩:=h
   split at h1
   · obtain ⟨V1, A1, DS1, M1, O1, W1, L1, g1⟩ := upToC_spec hx hcx hrl hS hh 20 V st st1 _ A DS M O W (.refl hS) h1
     exact⟨V1,A1,DS1,M1,O1,W1,L1,fun b cs k hb=>.of_steps (.one st_loop) (g1 b cs k hb).2⟩
   · obtain ⟨V1, A1, DS1, M1, O1, W1, L1, g1⟩ := upTo_spec hx 20 inv hcx V st st1 _ A DS M O W fn rl hrl h1 hS hh
     exact⟨V1,A1,DS1,M1,O1,W1,L1,fun b cs k hb=>.of_steps (.one st_loop) (g1 b cs k hb).2⟩
 · cases h
theorem CodeOK.region (hE:EnvOK P E) (hcall:CallOK P E call) {i:Nat} {ops:Array Oper}:CodeOK P E call base hs (.region i ops false):=by
 intro inv hcx V st st' e A DS M O W fn rl hrl h hS hh
 simp only[exec_region] at h
 split at h
 · rename_i st1 h1
   simp only[Option.some.injEq,Prod.mk.injEq] at h;obtain⟨rfl,rfl⟩:=h
   obtain⟨V1,A1,DS1,O1,W1,s1,p1,r1,g1⟩:=runOps_spec hE hcx hcall ops.toList 0 (by simp) hS hh h1
   refine⟨V1,A1,DS1,M,O1,W1,⟨s1,p1,r1,fun _ h=>.inl h⟩,fun b cs k hb=>?_⟩
   have:=g1 fn b cs k hb.1
   rw[Array.length_toList,← List.range_eq_range'] at this
   exact .head st_region this
 · cases h
end
end Go.Eng


namespace Go.Eng
open Go
def retF (b:Frame) (A:Array Value) (DS:List Deferred) (todo:List Item):Frame:={ mkF b A DS todo with mode:=.returning }
section
variable {P:Program} {b:Frame} {A:Array Value} {DS:List Deferred} {k:List Item} {cs:List Frame} {W W':World}
theorem st_ret (h:b.roundOf=none):step P (lone (mkF b A DS (.code .ret::k)) cs W)=.next (lone (retF b A DS (.code .ret::k)) cs W):=
 step_lone_go (by simp[stepG,stepG.exec,mkF,retF,h])
theorem st_end (h:b.roundOf=none):step P (lone (mkF b A DS []) cs W)=.next (lone (retF b A DS []) cs W):=
 step_lone_go (by simp[stepG,stepG.exec,mkF,retF,h])
theorem un_done {fn:Func} {v:Value} (hf:P.funcs[b.fn]?=some fn) (hr:(results fn A).run P W=.ok v W) {c:Frame} (hk:b.kind=.normal∨(b.kind=.deferred∧c.mode=.returning)) :
  step P (lone (retF b A [] k) (c::cs) W)=.next (lone (backTo b.kind v c) cs W):=by
 refine step_lone_go ?_
 rcases hk with h|⟨h,hm⟩
 · simp[stepG,unwind,doReturn,retF,mkF,hf,Sem.runT_eq,hr,h,backTo]
 · simp[stepG,unwind,doReturn,retF,mkF,hf,Sem.runT_eq,hr,h,backTo,hm]
theorem un_value {f:Nat} {caps args:Array Value} {v:Value} (hi:(callFunc f (args++caps)).run P W=.ok (.value v) W') :
  step P (lone (retF b A ({ target:=.fn (.func f) caps,args }::DS) k) cs W)=.next (lone (retF b A DS k) cs W'):=by
 refine step_lone_go ?_
 simp[stepG,unwind,callDeferred,retF,mkF,invoke,Sem.runT_eq,hi]
theorem un_enter {f:Nat} {caps args args':Array Value} (hi:(callFunc f (args++caps)).run P W=.ok (.enter f args') W') :
  step P (lone (retF b A ({ target:=.fn (.func f) caps,args }::DS) k) cs W)=.next (lone (Frame.enter P f args' .deferred) (retF b A DS k::cs) W'):=by
 refine step_lone_go ?_
 simp[stepG,unwind,callDeferred,retF,mkF,invoke,Sem.runT_eq,hi]
theorem un_mark {r:Nat} (h:W.heap[r]?=some (.deferred (some []))) :
  step P (lone (retF b A ({ target:=.collected r,args:=#[] }::DS) k) cs W)=.next (lone (retF b A DS k) cs { W with heap:=W.heap.setIfInBounds r (.deferred none) }):=by
 refine step_lone_go ?_
 have hr:(Instr.takeDeferred r).run P W=.ok [] { W with heap:=W.heap.setIfInBounds r (.deferred none) }:=by
  simp[Instr.takeDeferred,getObj,setObj,Sem.run,h]
 simp[stepG,unwind,retF,mkF,Sem.runT_eq,hr]
end
end Go.Eng


namespace Go.Eng
open Go
structure KG (V V':View) (W W':World):Prop where
 m:V'.m=V.m
 lv:V'.lv=V.lv
 N:V'.N=V.N
 le:∀ b o x,V.K b o=some x→V'.K b o=some x
 new:∀ b o x,V'.K b o=some x→V.K b o=some x∨(W.heap.size≤b∧W'.cell? ⟨b,o,none⟩=some x)
theorem KG.refl (V:View) (W W':World):KG V V W W':=⟨rfl,rfl,rfl,fun _ _ _ h=>h,fun _ _ _ h=>.inl h⟩
theorem KG.vle {V V':View} {W W':World} (h:KG V V' W W'):V.le V':=⟨fun _ _ x=>by rw[h.m];exact x,fun _ _ x=>by rw[h.lv];exact x,h.le,fun _ _ _ _=>by rw[h.N]⟩
def ExtOK (P:Program) (E:Env):Prop:=
 ∀ f args v,E.ext f args=some v→∀ V A W,VRs V args A→(∀ b o x,V.K b o=some x→W.cell? ⟨b,o,none⟩=some x) →
  (∀ g l,E.glob g=some l→∃ z:Nat→Value,∀ i (h:i<l.length),V.K g i=some (z i)∧VR V.bare l[i] (z i)) →
  ∃ R W' V',KG V V' W W'∧VR V' v R∧Fr (fun _=>False) W W'∧Goes P f A.toArray W R W'
def NameOK (E : Env) : Prop := ∀ f fn, E.fn f = some fn → fn.name ≠ "runtime.NumGoroutine"
def pack (L:List Value):Value:=if h:L.toArray.size=1 then L.toArray[0] else .tuple L.toArray
def oneR (A:Array Value) (r:ResultVar):Sem Value:=
 match r with
 |.tmp t=>pure (A.getD t undef)
 |.cell a t=>do loadVar t (← asAddr (A.getD a undef))
section
variable {P:Program} {E:Env} {base:Nat} {inv:Inv} {V V':View} {st:St} {A:Array Value} {DS:List Deferred} {M:List Nat} {O:OO} {W W':World}
theorem results_list (hE:EnvOK P E) (h:SR E base inv V st A DS M O W):∀ {rs:List ResultVar} {vs:List AV},resultsA E st.τ st.σ rs=some vs →
  ∃ L,(rs.mapM (oneR A)).run P W=.ok L W∧VRs V vs L
 |[],vs,hr=>by
  simp only[resultsA,Option.some.injEq] at hr;subst hr
  exact⟨[],by simp,.nil V⟩
 |.tmp t::rs,vs,hr=>by
  simp only[resultsA] at hr
  split at hr
  · rename_i v vs' hv hvs
    simp only[Option.some.injEq] at hr;subst hr
    obtain⟨L,h1,h2⟩:=results_list hE h hvs
    exact⟨_::L,by simp[List.mapM_cons,Sem.run_bind,h1,oneR],.cons (h.tm t v hv) h2⟩
  · cases hr
 |.cell a t::rs,vs,hr=>by
  simp only[resultsA] at hr
  split at hr
  · rename_i p hp
    split at hr
    · rename_i v vs' hv hvs
      simp only[Option.some.injEq] at hr;subst hr
      obtain⟨L,h1,h2⟩:=results_list hE h hvs
      obtain⟨B,X,hB,hrun,hX⟩:=loadV_run hE h.hr (h.tm a p hp) hv
      exact⟨X::L,by simp[List.mapM_cons,Sem.run_bind,h1,oneR,hB,asAddr,hrun],.cons hX h2⟩
    · cases hr
  · cases hr
theorem results_run (hE:EnvOK P E) (h:SR E base inv V st A DS M O W) {fn:Func} {vs:List AV} (hr:resultsA E st.τ st.σ fn.results.toList=some vs):∃ L,(results fn A).run P W=.ok (pack L) W∧VRs V vs L:=by
 obtain⟨L,h1,h2⟩:=results_list hE h hr
 refine⟨L,?_,h2⟩
 have e:results fn A=(do
   let vs ← fn.results.mapM (oneR A)
   pure (if h:vs.size=1 then vs[0] else .tuple vs)):=by
  unfold results
  congr 1
 rw[e,Array.mapM_eq_mapM_toList]
 simp only[Sem.run_bind,Sem.run_map,h1,Result.andThen_ok,Sem.run_pure,pack]
theorem Prg.weaken {σ σ':Hp} {O':OO} (h:Prg V σ O W V' σ' O' W') (Q:OO) (hQ:∀ b,Q b→b<W.heap.size):Prg V σ (fun b=>O b∨Q b) W V' σ' (fun b=>O' b∨Q b) W':=
 ⟨h.le,h.fr.weaken (fun b _ hb=>hb.elim .inl (fun x=>.inr (.inl x))),h.own,fun b hb=>hb.elim (fun x=>(h.out b x).imp .inl (fun y=>y)) (fun x=>.inl (.inr x)),fun id b s hm=>(h.mb id b s hm).imp (fun x=>x) (fun x=>⟨x.1,x.2.1,fun ho=>ho.elim x.2.2 (fun y=>by have:=hQ b y;have:=x.1;omega)⟩),fun b o v hv=>(h.K b o v hv).imp (fun x=>x) (fun x=>x.imp (fun y=>y.imp (fun z=>z) .inl) (fun y=>y)),h.nm,h.nn⟩
theorem SR.fewer (h:SR E base inv V st A DS M O W) {DS':List Deferred} {M':List Nat} {ds':List (Nat×List AV)} (hds:DsR V M' ds' DS') (hM:∀ r∈M',r∈M):SR E base inv V { st with ds:=ds' } A DS' M' O W:=
 ⟨h.hr,h.bs,h.tm,h.sz,hds,fun r hr=>h.mks r (hM r hr),h.cx,h.dis,h.lf⟩
theorem unwind_spec (hcx:CxOK inv) {call:CallF} (hcall:CallOK P E call) {hs:Hnds} {V0:View} {M:List Nat} {ds:List (Nat×List AV)} {DS:List Deferred} (hds:DsR V0 M ds DS) :
  ∀ {V:View} {st:St} {O:OO} {W:World} {σ':Hp} {Λ':List LF},V0.le V→SR E base inv V { st with ds:=ds } A DS M O W→HOK P E base inv V hs→runDefers E call hs ds st.σ st.Λ=some (σ',Λ') →
  ∃ V' O' W',SR E base inv V' { st with σ:=σ',Λ:=Λ',ds:=[] } A [] [] O' W'∧Prg V st.σ (fun b=>O b∨b∈M) W V' σ' (fun b=>O' b∨b∈M) W'∧(∀ b,O' b→O b∨W.heap.size≤b) ∧
   ∀ b cs k,Steps P (lone (retF b A DS k) cs W) (lone (retF b A [] k) cs W'):=by
 induction hds with
 |nil=>
  intro V st O W σ' Λ' hle h hh hr
  simp only[runDefers,Option.some.injEq,Prod.mk.injEq] at hr;obtain⟨rfl,rfl⟩:=hr
  exact⟨V,O,W,h,.refl _ _ _ _,fun _ h=>.inl h,fun _ _ _=>.refl _ _⟩
 |cons M f args caps AA ds DS hargs t ih=>
  intro V st O W σ' Λ' hle h hh hr
  simp only[runDefers] at hr
  split at hr
  · rename_i v σ1 Λ1 hdc
    obtain⟨V1,O1,W1,R,s1,p1,_,hg⟩:=doCall_spec hcx hcall h hh (hargs.mono hle) hdc
    have s2:=s1.fewer (t.mono (hle.trans p1.le)) (fun _ h=>h)
    obtain⟨V2,O2,W2,s3,p3,o3,g3⟩:=ih (st:={ st with σ:=σ1,Λ:=Λ1 }) (hle.trans p1.le) s2 (hh.mono p1.le) hr
    refine⟨V2,O2,W2,s3,(p1.weaken (fun b=>b∈M) (fun r hr=>(Array.getElem?_eq_some_iff.1 (h.mks r hr).1).1)).trans p3,fun b hb=>(o3 b hb).elim (fun x=>p1.out b x) (fun x=>.inr (by have:=p1.fr.size;omega)),fun b cs k=>?_⟩
    have harr:AA.toArray++caps.toArray=(AA++caps).toArray:=by simp
    cases hg with
    |value hv=>exact .head (un_value (by rw[harr];exact hv)) (g3 b cs k)
    |enter Wm hv hst=>
     refine .head (un_enter (by rw[harr];exact hv)) ?_
     have:=hst .deferred (retF b A DS k) cs (.inr ⟨rfl,rfl⟩)
     exact this.trans (g3 b cs k)
  · cases hr
 | mark M r ds DS hrM t ih =>
  intro V st O W σ' Λ' hle h hh hr
  have hm:=h.mks r (by simp)
  have hlt:=(Array.getElem?_eq_some_iff.1 hm.1).1
  let W1:World:={ W with heap:=W.heap.setIfInBounds r (.deferred none) }
  have hother:∀ b,b≠r→W1.heap[b]?=W.heap[b]?:=fun b hb=>by
   simp only[W1,Array.getElem?_setIfInBounds]
   rw[if_neg (fun e=>hb e.symm)]
  have hsz:W1.heap.size=W.heap.size:=by simp[W1]
  have h1:SR E base inv V { st with ds:=ds } A DS M O W:=h.fewer (t.mono hle) (fun r' h=>by simp[h])
  have hne:∀ b,(O b∨Own V st.σ b∨b∈M)→b≠r:=by
   intro b hb e;subst e
   rcases hb with hb|hb|hb
   · exact hm.2 hb
   · exact (Own.kind h.hr hb).2 hm.1
   · exact hrM hb
  have h2:SR E base inv V { st with ds:=ds } A DS M O W1:=by
   have:=SR.others (K':=V.K) (W':=W1) hcx h1 (fun _ _ _ h=>h) (fun _ _ _ h=>.inl h) (fun b o v hv=>?_) (fun b hb=>hother b (hne b hb)) (Nat.le_of_eq hsz.symm)
   · exact this
   · have hc := h.hr.cell b o v hv
     rw[cell_of_heap (hother b (fun e=>by subst e;exact cell_mark hm.1 hc))];exact hc
  obtain⟨V2,O2,W2,s3,p3,o3,g3⟩:=ih hle h2 hh hr
  refine⟨V2,O2,W2,s3,?_,fun b hb=>(o3 b hb).imp (fun x=>x) (fun x=>by rw[← hsz];exact x),fun b cs k=>.head (un_mark hm.1) (g3 b cs k)⟩
  refine⟨p3.le,⟨p3.fr.os,p3.fr.tape,p3.fr.output,by rw[← hsz];exact p3.fr.size,fun b hb hno=>?_⟩,fun b hb=>(p3.own b hb).imp (fun x=>x) (fun x=>by rw[← hsz];exact x),fun b hb=>?_,fun id b s hm'=>(p3.mb id b s hm').imp (fun x=>x) (fun x=>⟨by rw[← hsz];exact x.1,x.2.1,fun ho=>x.2.2 (ho.imp (fun y=>y) (fun y=>(List.mem_cons.1 y).elim (fun e=>by have:=x.1;rw[hsz] at this;omega) (fun z=>z)))⟩),fun b o v hv=>?_,p3.nm,p3.nn⟩
  · have hbr : b ≠ r := fun e => hno (.inr (.inr (by simp [e])))
    rw[p3.fr.block b (by rw[hsz];exact hb) (fun ho=>hno (ho.imp (fun x=>x) (fun x=>x.imp (fun y=>y) (fun y=>by simp[y])))),hother b hbr]
  · rcases hb with hb | hb
    · rcases p3.out b (.inl hb) with (h' | h') | h'
      · exact .inl (.inl h')
      · exact .inl (.inr (by simp[h']))
      · exact .inr (by rw[← hsz];exact h')
    · exact .inl (.inr hb)
  · rcases p3.K b o v hv with h' | (h' | h' | h') | h'
    · exact .inl h'
    · exact .inr (.inl (.inl h'))
    · exact .inr (.inl (.inr (.inl h')))
    · exact .inr (.inl (.inr (.inr (by simp[h']))))
    · exact .inr (.inr (by rw[← hsz];exact h'))
end
end Go.Eng


namespace Go.Eng
open Go
theorem tmps0_spec (n:Nat):∀ (args:List AV) (τ:Tmps) (i t:Nat) (a:AV),(tmps0 n τ i args).get t=some a→(∃ j,t=i+j∧args[j]?=some a)∨τ.get t=some a
 |[],τ,i,t,a,h=>.inr h
 |v::vs,τ,i,t,a,h=>by
  rcases tmps0_spec n vs (τ.set i v) (i+1) t a h with ⟨j,e,g⟩|g
  · exact .inl ⟨j+1,by omega,by simpa using g⟩
  · rcases Tr.get_set _ _ _ _ _ g with ⟨rfl, rfl⟩ | ⟨_, g'⟩
    · exact .inl ⟨0,rfl,rfl⟩
    · exact .inr g'
theorem Prg.transM {V V' V'':View} {σ σ' σ'':Hp} {O O' O'':OO} {W W' W'':World} {M:List Nat} (h:Prg V σ O W V' σ' O' W') (k:Prg V' σ' (fun b=>O' b∨b∈M) W' V'' σ'' (fun b=>O'' b∨b∈M) W'') (hM:∀ r∈M,W.heap.size≤r) (ho:∀ b,O'' b→O' b∨W'.heap.size≤b):Prg V σ O W V'' σ'' O'' W'':=by
 have hs:=h.fr.size
 have both:∀ b,Own V' σ' b∨(O' b∨b∈M)→(Own V σ b∨O b)∨W.heap.size≤b:=fun b hb=>by
  rcases hb with x|x|x
  · exact (h.own b x).imp .inl (fun x=>x)
  · exact (h.out b x).imp .inr (fun x=>x)
  · exact .inr (hM b x)
 refine⟨h.le.trans k.le,h.fr.trans k.fr (fun b hb hO=>?_),fun b hb=>?_,fun b hb=>?_,fun id b s hm=>?_,fun b o v hv=>?_,fun id x hx=>(k.nm id x hx).elim (h.nm id x) (fun y=>.inr (Nat.le_trans h.nn y)),Nat.le_trans h.nn k.nn⟩
 · rcases both b hO with h' | h'
   · exact h'
   · omega
 · rcases k.own b hb with h' | h'
   · exact h.own b h'
   · exact .inr (by omega)
 · rcases k.out b (.inl hb) with (h' | h') | h'
   · exact h.out b h'
   · exact .inr (hM b h')
   · exact .inr (by omega)
 · rcases k.mb id b s hm with ⟨id', s', h'⟩ | ⟨h1, h2, h3⟩
   · rcases h.mb id' b s' h' with g | ⟨g1, g2, g3⟩
     · exact .inl g
     · have := k.fr.size
       exact .inr ⟨g1,by omega,fun hb=>(ho b hb).elim g3 (fun x=>by omega)⟩
   · exact .inr ⟨by omega,h2,fun hb=>h3 (.inl hb)⟩
 · rcases k.K b o v hv with h' | h' | h'
   · exact h.K b o v h'
   · exact .inr (both b h')
   · exact .inr (.inr (by omega))
def packA (vs:List AV):AV:=
 match vs with
 |[v]=>v
 |vs=>.tup vs
theorem pack_spec {V:View} {vs:List AV} {L:List Value} (h:VRs V vs L):VR V (packA vs) (pack L):=by
 match vs,h with
 |[],h=>cases h.nil_inv;exact VR.tup' (.nil V)
 |[v],h=>
  obtain⟨X,Xs,rfl,hX,hXs⟩:=h.cons_inv
  cases hXs.nil_inv
  exact hX
 |v::w::vs,h=>
  have hl:=h.1
  unfold pack
  rw[dif_neg (by simp only[List.size_toArray,← hl,List.length_cons];omega)]
  exact VR.tup' h
section
variable {P:Program} {E:Env}
noncomputable def bodyN (E:Env) (call:CallF):CallF:=fun f args σ hs Λ=>
 match E.ext f args with
 |some v=>some (v,σ,Λ)
 | none => match E.fn f with
  |none=>none
  | some fn => match fn.body with
   |none=>none
   | some body => match exec E call body hs ⟨tmps0 fn.ntmps (.full (dep fn.ntmps)) 0 args, σ, [], Λ, args.length + (fn.ntmps - args.length), false⟩ with
    |none=>none
    | some (e, st) => match e with
     |.exit _=>none
     | _ => match runDefers E call hs st.ds st.σ st.Λ with
      |none=>none
      |some (σ,Λ)=>match resultsA E st.τ σ fn.results.toList with
       |some [v]=>some (v,σ,Λ)
       |some vs=>some (.tup vs,σ,Λ)
       |none=>none
noncomputable def trimN (E:Env) (call:CallF):CallF:=fun f args σ hs Λ=>
 match E.ext f args with
 |some _=>call f args σ hs Λ
 |none=>trimR E f σ.n (call f args σ hs Λ)
theorem callN_succ (E:Env) (n:Nat):callN E (n+1)=trimN E (bodyN E (callN E n)):=by
 funext f args σ hs Λ
 unfold trimN bodyN
 simp only[callN]
 cases E.ext f args<;>rfl
theorem trimR_some {E:Env} {f n0:Nat} {r:Option (AV×Hp×List LF)} {v:AV} {σ:Hp} {Λ:List LF} (h:trimR E f n0 r=some (v,σ,Λ)):∃ σ0,r=some (v,σ0,Λ)∧(σ=σ0∨(scal1 v=true∧σ=(clean n0 .lf ⟨.lf,σ0,[],[],0,false⟩).σ)):=by
 unfold trimR at h
 split at h
 · split at h
   · rename_i v0 σ0 Λ0
     simp only[Option.some.injEq,Prod.mk.injEq] at h
     obtain⟨rfl,h1,rfl⟩:=h
     refine⟨_,rfl,?_⟩
     unfold cln at h1
     split at h1
     · rename_i hs;exact .inr ⟨hs,h1.symm⟩
     · exact .inl h1.symm
   · cases h
 · exact⟨σ,h,.inl rfl⟩
theorem callN_body {E:Env} {n f:Nat} {args:List AV} {σ0 σ:Hp} {hs:Hnds} {Λ Λ':List LF} {v:AV} (hx:E.ext f args=none) (h:callN E (n+1) f args σ0 hs Λ=some (v,σ,Λ')):∃ σ1,bodyN E (callN E n) f args σ0 hs Λ=some (v,σ1,Λ'):=by
 rw[callN_succ] at h
 simp only[trimN,hx] at h
 obtain⟨σ1,h1,_⟩:=trimR_some h
 exact⟨σ1,h1⟩
theorem scal1_VR {V V':View} {v:AV} {R:Value} (h:scal1 v=true) (hv:VR V v R):VR V' v R:=by
 cases v with
 |bool b=>cases hv;constructor
 |int k n=>cases hv;constructor
 |_=>cases h
theorem trim_ok {call : CallF} (ih : CallOK P E call) : CallOK P E (trimN E call) := by
 intro f args σ hs Λ v σ' Λ' h base inv V A O W hcx hh H hb ha hi hd hlf
 simp only[trimN] at h
 split at h
 · exact ih f args σ hs Λ v σ' Λ' h base inv V A O W hcx hh H hb ha hi hd hlf
 · obtain ⟨σ0, h1, h2⟩ := trimR_some h
   obtain⟨V',O',W',R,p,H',i',d',l',hv,hg⟩:=ih f args σ hs Λ v σ0 Λ' h1 base inv V A O W hcx hh H hb ha hi hd hlf
   rcases h2 with rfl|⟨hs1,rfl⟩
   · exact⟨V',O',W',R,p,H',i',d',l',hv,hg⟩
   · have S : SR E base inv V' ⟨.lf, σ0, [], Λ', 0, false⟩ #[] [] [] O' W' := by
      refine⟨H',Nat.le_trans hb p.fr.size,fun t a ht=>?_,rfl,.nil,fun r hr=>absurd hr (by simp),i',d',l'⟩
      have ht':(Tr.lf:Tmps).get t=some a:=ht
      rw[Tr.get_lf] at ht';cases ht'
     have hc:clean σ.n .lf (⟨.lf,σ0,[],[],0,false⟩:St)=(⟨.lf,σ0,[],[],0,false⟩:St)∨Reset σ.n ⟨.lf,σ0,[],[],0,false⟩ (clean σ.n .lf ⟨.lf,σ0,[],[],0,false⟩):=clean_spec
     rcases hc with hc|hR
     · rw[hc];exact⟨V',O',W',R,p,H',i',d',l',hv,hg⟩
     · have hR' : Reset σ.n ⟨.lf, σ0, [], Λ', 0, false⟩ { clean σ.n .lf ⟨.lf, σ0, [], [], 0, false⟩ with Λ := Λ' } :=
        ⟨hR.ex,hR.n0,rfl,hR.ds',rfl,hR.nt,hR.rnd⟩
       obtain⟨V2,S2,p2⟩:=hR'.spec (fun id x hx=>(H.fresh id x hx).1) (fun l x hx=>hlf l x hx) S p
       exact⟨V2,O',W',R,p2,S2.hr,S2.cx,S2.dis,S2.lf,scal1_VR hs1 hv,hg⟩
theorem body_ok (hE : EnvOK P E) (hX : ExtOK P E) (hN : NameOK E) {call : CallF} (ih : CallOK P E call) (hcode : ∀ base hs c, CodeOK P E call base hs c) : CallOK P E (bodyN E call) := by
  intro f args σ hs Λ v σ' Λ' h base inv V A O W hcx hh H hb ha hi hd hlf
  simp only[bodyN] at h
  split at h
  · rename_i v0 hext
    simp only[Option.some.injEq,Prod.mk.injEq] at h;obtain⟨rfl,rfl,rfl⟩:=h
    obtain⟨R,W',V',hk,hv,hfr,hg⟩:=hX f args _ hext V A W ha H.cell H.glob
    have hH:=H.grow hk.vle hk.m hk.N hk.new (fun b hb=>hfr.block b hb (fun h=>h)) hfr.size
    have hown:∀ b,Own V' σ b→Own V σ b:=by
     rintro b ⟨id,s,hl,hm⟩
     exact⟨id,s,hl,by rw[← hk.m];exact hm⟩
    exact⟨V',O,W',R,⟨hk.vle,hfr.weaken (fun _ _ h=>h.elim),fun b h=>.inl (hown b h),fun _ h=>.inl h,fun id _ s h=>.inl ⟨id,s,by rw[← hk.m];exact h⟩,fun b o x h=>(hk.new b o x h).elim .inl (fun h=>.inr (.inr h.1)),fun id x h=>.inl (by rw[← hk.m];exact h),Nat.le_refl _⟩,hH,
     hcx.stable _ _ _ _ _ _ hi hk.le (fun b o x h=>(hk.new b o x h).elim .inl (fun h=>.inr (fun ho=>by have:=hcx.bound _ _ _ _ hi b ho;omega))) hH.cell (fun b hb=>hfr.block b (hcx.bound _ _ _ _ hi b hb) (fun h=>h)) hfr.size,fun b hb=>hd b (hown b hb),fun i x hx=>hlf i x (by rw[← hk.lv];exact hx),hv,hg⟩
  · split at h
    · cases h
    · rename_i fn hfn
      split at h
      · cases h
      · rename_i body hbody
        split at h
        · cases h
        · rename_i e st1 hex
          have hf:=hE.fn f fn hfn
          have hcf:(callFunc f A.toArray).run P W=.ok (.enter f A.toArray) W:=by
           simp[callFunc,Sem.run_bind,hf,hN f fn hfn,hbody]
          have hS:SR E base inv V ⟨tmps0 fn.ntmps (.full (dep fn.ntmps)) 0 args,σ,[],Λ,args.length+(fn.ntmps-args.length),false⟩ (A.toArray++Array.replicate (fn.ntmps-A.length) undef) [] [] O W:=by
           refine⟨H,hb,fun t a ht=>?_,by simp[ha.1],.nil,fun r hr=>absurd hr (by simp),hi,hd,hlf⟩
           rcases tmps0_spec _ _ _ _ _ _ ht with ⟨j,rfl,hj⟩|g
           · obtain ⟨X, h1, h2⟩ := ha.get hj
             have:j<A.length:=(List.getElem?_eq_some_iff.1 h1).1
             have e:(A.toArray++Array.replicate (fn.ntmps-A.length) undef).getD (0+j) undef=X:=by
              rw[Array.getD_eq_getD_getElem?,Nat.zero_add,Array.getElem?_append_left (by simpa using this)]
              simp[h1]
             rw[e];exact h2
           · rw[Tr.get_full] at g;cases g
          obtain⟨V1,A1,DS1,M1,O1,W1,L1,g1⟩:=hcode base hs body inv hcx V _ st1 e _ _ _ _ _ f none (fun _ h=>by cases h) hex hS hh
          have hret:e≠.exit 0→(∀ i,e≠.exit i)→∀ kind cs,(kind=.normal∨(kind=.deferred∧∃ c rest,cs=c::rest∧c.mode=.returning)) →
            ∃ todo,Steps P (lone (Frame.enter P f A.toArray kind) cs W) (lone (retF (Frame.enter P f A.toArray kind) A1 DS1 todo) cs W1):=by
           intro _ hne kind cs hk
           have hent:Frame.enter P f A.toArray kind=mkF (Frame.enter P f A.toArray kind) (A.toArray++Array.replicate (fn.ntmps-A.length) undef) [] [.code body]:=by
            simp[Frame.enter,mkF,hf,hbody]
           have hro:(Frame.enter P f A.toArray kind).roundOf=none:=rfl
           have ha1:=g1 (Frame.enter P f A.toArray kind) cs [] ⟨⟨rfl,rfl,hk⟩,rfl⟩
           rw[← hent] at ha1
           cases e with
           |normal=>exact⟨[],Steps.trans ha1 (.one (st_end hro))⟩
           |exit i=>exact absurd rfl (hne i)
           |ret=>obtain⟨k',h2⟩:=ha1;exact⟨_,h2.trans (.one (st_ret hro))⟩
          split at h
          · cases h
          · rename_i hne
            split at h
            · cases h
            · rename_i σ2 Λ2 hrd
              obtain⟨V2,O2,W2,S2,p2,o2,g2⟩:=unwind_spec hcx ih L1.sr.ds (View.le.refl V1) (st:=st1) L1.sr (hh.mono L1.pr.le) hrd
              have hP:=L1.pr.transM p2 (fun r hr=>(L1.mg r hr).elim (fun x=>absurd x (by simp)) (fun x=>x)) o2
              have fin:∀ vs,resultsA E st1.τ σ2 fn.results.toList=some vs→∃ R,VR V2 (packA vs) R∧Goes P f A.toArray W R W2:=by
               intro vs hvs
               obtain⟨L,h1,h2⟩:=results_run hE S2 (fn:=fn) hvs
               refine⟨pack L,pack_spec h2,.enter W hcf fun kind caller rest hk=>?_⟩
               obtain⟨todo,s1⟩:=hret (hne 0) hne kind (caller::rest) (hk.imp (fun x=>x) (fun x=>⟨x.1,caller,rest,rfl,x.2⟩))
               refine s1.trans ((g2 _ _ _).trans (.one ?_))
               exact un_done (b:=Frame.enter P f A.toArray kind) (fn:=fn) hf h1 hk
              split at h
              · rename_i v1 hvs
                simp only[Option.some.injEq,Prod.mk.injEq] at h;obtain⟨rfl,rfl,rfl⟩:=h
                obtain⟨R,hv,hg⟩:=fin _ hvs
                exact⟨V2,O2,W2,R,hP,S2.hr,S2.cx,S2.dis,S2.lf,hv,hg⟩
              · rename_i vs hnv hvs
                simp only[Option.some.injEq,Prod.mk.injEq] at h;obtain⟨rfl,rfl,rfl⟩:=h
                obtain⟨R,hv,hg⟩:=fin _ hvs
                refine⟨V2,O2,W2,R,hP,S2.hr,S2.cx,S2.dis,S2.lf,?_,hg⟩
                unfold packA at hv
                split at hv
                · exact absurd rfl (hnv _)
                · exact hv
              · cases h
theorem callN_ok (hE:EnvOK P E) (hX:ExtOK P E) (hN:NameOK E) (hcode:∀ call,CallOK P E call→∀ base hs c,CodeOK P E call base hs c):∀ n,CallOK P E (callN E n)
 |0=>by intro f args σ hs Λ v σ' Λ' h;simp[callN] at h
 |n+1=>by
  rw[callN_succ]
  exact trim_ok (body_ok hE hX hN (callN_ok hE hX hN hcode n) (hcode _ (callN_ok hE hX hN hcode n)))
end
end Go.Eng


namespace Go.Eng
open Go
section
variable {E:Env} {τ τ':Tmps} {σ:Hp}
theorem evs_congr:∀ {l:List Operand},(∀ x∈l,ev τ x=ev τ' x)→evs τ l=evs τ' l
 |[],_=>rfl
 |x::xs,h=>by
  simp only[evs]
  rw[h x (by simp),evs_congr (fun y hy=>h y (by simp[hy]))]
theorem evParts_congr:∀ {l:List (Nat×Operand)},(∀ x∈l.map (·.2),ev τ x=ev τ' x)→evParts τ l=evParts τ' l
 |[],_=>rfl
 |(i,x)::xs,h=>by
  simp only[evParts]
  rw[h x (by simp),evParts_congr (fun y hy=>h y (by simp only[List.map_cons,List.mem_cons];exact .inr hy))]
end
end Go.Eng


namespace Go
def World.put (W:World) (l:Nat) (o:Obj):World:={ W with heap:=W.heap.setIfInBounds l o }
end Go
namespace Go.Eng
open Go
section
variable {P:Program} {b:Frame} {A:Array Value} {DS:List Deferred} {k:List Item} {cs:List Frame} {W W':World}
def newLoop (b:Frame) (A:Array Value) (params:Array Tmp) (asg body:Code) (defers:Nat):Loop:=
 { state:=.ready,pending:=none,fn:=b.fn,tmps:=A,params,assign:=asg,body,defers }
theorem st_rangeFunc {f:Operand} {params:Array Tmp} {asg body:Code} {g:Nat} {F C args:Array Value} (hro:b.roundOf=none) (hf:(mkF b A DS []).eval f=.func (.func g) F C)
  (hc:(callFunc g (F.push (.func (.yield (W.heap.size+1)) #[] #[])++C)).run P ((W.alloc (.deferred (some []))).alloc (.loop (newLoop b A params asg body W.heap.size)))=.ok (.enter g args) W') :
  step P (lone (mkF b A DS (.code (.rangeFunc f params asg body)::k)) cs W) =
   .next (lone (Frame.enter P g args .normal) (mkF b A ({ target:=.collected W.heap.size,args:=#[] }::DS) (.inRangeFunc (W.heap.size+1)::k)::cs) W'):=by
 have h1:(Instr.enterLoop b.fn A params asg body none).run P W=.ok (W.heap.size+1,[{ target:=.collected W.heap.size,args:=#[] }]) ((W.alloc (.deferred (some []))).alloc (.loop (newLoop b A params asg body W.heap.size))):=by
  simp[Instr.enterLoop,newObj,Sem.run,newLoop]
 refine step_lone_go ?_
 have hf':(mkF b A ({ target:=.collected W.heap.size,args:=#[] }::DS) (.inRangeFunc (W.heap.size+1)::k)).eval f=.func (.func g) F C:=by
  rw[mkF_eval];rw[mkF_eval] at hf;exact hf
 have hy:(mkF b A ({ target:=.collected W.heap.size,args:=#[] }::DS) (.inRangeFunc (W.heap.size+1)::k)).eval (.const (.func (.yield (W.heap.size+1)) #[] #[]))=.func (.yield (W.heap.size+1)) #[] #[]:=rfl
 simp only[mkF,hro] at hf' hy⊢
 simp[stepG,stepG.exec,Sem.runT_eq,hro,h1,stepG.apply,resolve,hf',hy,Deferred.ofValue,invoke,hc]
theorem st_rangeFunc_in {f:Operand} {params:Array Tmp} {asg body:Code} {g l0:Nat} {r0:Loop} {F C args:Array Value} (hro:b.roundOf=some l0) (hl:W.heap[l0]?=some (.loop r0)) (hf:(mkF b A DS []).eval f=.func (.func g) F C)
  (hc:(callFunc g (F.push (.func (.yield W.heap.size) #[] #[])++C)).run P (W.alloc (.loop (newLoop b A params asg body r0.defers)))=.ok (.enter g args) W') :
  step P (lone (mkF b A DS (.code (.rangeFunc f params asg body)::k)) cs W) =
   .next (lone (Frame.enter P g args .normal) (mkF b A DS (.inRangeFunc W.heap.size::k)::cs) W'):=by
 have h1:(Instr.enterLoop b.fn A params asg body (some l0)).run P W=.ok (W.heap.size,[]) (W.alloc (.loop (newLoop b A params asg body r0.defers))):=by
  simp[Instr.enterLoop,Instr.getLoop,getObj,newObj,Sem.run,newLoop,hl]
 refine step_lone_go ?_
 have hf':(mkF b A DS (.inRangeFunc W.heap.size::k)).eval f=.func (.func g) F C:=by
  rw[mkF_eval];rw[mkF_eval] at hf;exact hf
 have hy:(mkF b A DS (.inRangeFunc W.heap.size::k)).eval (.const (.func (.yield W.heap.size) #[] #[]))=.func (.yield W.heap.size) #[] #[]:=rfl
 simp only[mkF,hro] at hf' hy⊢
 simp[stepG,stepG.exec,Sem.runT_eq,h1,stepG.apply,resolve,hf',hy,Deferred.ofValue,invoke,hc]
theorem st_beginRound {l:Nat} {r:Loop} (hro:b.roundOf=some l) (hl:W.heap[l]?=some (.loop r)) (hs:r.state=.ready) :
  step P (lone (mkF b A DS (.beginRound::k)) cs W)=.next (lone (mkF b A DS k) cs (W.put l (.loop { r with state:=.busy }))):=by
 have h1:(Instr.beginRound l).run P W=.ok () (W.put l (.loop { r with state:=.busy })):=by
  simp[Instr.beginRound,Instr.getLoop,getObj,setObj,Sem.run,hl,hs,World.put]
 refine step_lone_go ?_
 simp only[mkF,hro]
 simp[stepG,stepG.exec,stepG.apply,Sem.runT_eq,h1,Frame.finish]
theorem endRound_run {l:Nat} {r:Loop} (hl:W.heap[l]?=some (.loop r)) (jump:Option Code) :
  (Instr.endRound l jump).run P W=.ok (.bool jump.isNone) (W.put l (.loop { r with state:=if jump.isNone then .ready else .done,pending:=jump })):=by
 simp[Instr.endRound,Instr.getLoop,getObj,setObj,Sem.run,hl,World.put]
theorem st_roundEnd {l:Nat} {r:Loop} {c:Frame} (hro:b.roundOf=some l) (hk:b.kind=.normal) (hl:W.heap[l]?=some (.loop r)) :
  step P (lone (mkF b A DS []) (c::cs) W)=.next (lone (c.finish (.bool true)) cs (W.put l (.loop { r with state:=.ready,pending:=none }))):=by
 have h1:=endRound_run (P:=P) hl none
 refine step_lone_go ?_
 simp only[mkF,hro,hk]
 simp[stepG,stepG.exec,doReturn,Sem.runT_eq,h1]
theorem st_roundRet {l:Nat} {r:Loop} {c:Frame} (hro:b.roundOf=some l) (hk:b.kind=.normal) (hl:W.heap[l]?=some (.loop r)) :
  step P (lone (mkF b A DS (.code .ret::k)) (c::cs) W)=.next (lone (c.finish (.bool false)) cs (W.put l (.loop { r with state:=.done,pending:=some .ret }))):=by
 have h1:=endRound_run (P:=P) hl (some .ret)
 refine step_lone_go ?_
 simp only[mkF,hro,hk]
 simp[stepG,stepG.exec,doReturn,Sem.runT_eq,h1]
theorem st_roundExit {l i:Nat} {r:Loop} {c:Frame} (hro:b.roundOf=some l) (hk:b.kind=.normal) (hl:W.heap[l]?=some (.loop r)) (he:exitTo i k=none) :
  step P (lone (mkF b A DS (.code (.exit i)::k)) (c::cs) W)=.next (lone (c.finish (.bool false)) cs (W.put l (.loop { r with state:=.done,pending:=some (.exit i) }))):=by
 have h1:=endRound_run (P:=P) hl (some (.exit i))
 refine step_lone_go ?_
 simp only[mkF,hro,hk]
 simp[stepG,stepG.exec,doReturn,Sem.runT_eq,h1,he]
theorem st_endRangeFunc {l:Nat} {r:Loop} (hl:W.heap[l]?=some (.loop r)) (hs:r.state≠.busy) :
  step P (lone (mkF b A DS (.endRangeFunc l::k)) cs W)=.next (lone (mkF b A DS ((r.pending.map Item.code).toList++k)) cs (W.put l (.loop { r with state:=.exhausted }))):=by
 have h1:(Instr.endLoop l).run P W=.ok r.pending (W.put l (.loop { r with state:=.exhausted })):=by
  simp[Instr.endLoop,Instr.getLoop,getObj,setObj,Sem.run,hl,World.put]
  exact fun e=>absurd e hs
 refine step_lone_go ?_
 simp only[mkF]
 simp[stepG,stepG.exec,Sem.runT_eq,h1]
end
end Go.Eng


namespace Go.Eng
open Go
def jumpOf:Ex→Option Code
 |.normal=>none
 |.exit i=>some (.exit i)
 |.ret=>some .ret
def lpOf (lp:Loop) (lf:LF):Loop:={ lp with state:=if lf.done then .done else .ready,pending:=jumpOf lf.pend }
def bodyInv (inv:Inv) (l:Nat) (lp:Loop):Inv:=fun Λ K O W=>
 ∃ O0,(∀ b,O b↔O0 b∨b=l)∧inv Λ K O0 W∧W.heap[l]?=some (.loop lp)∧¬ O0 l
def loopInv (inv:Inv) (l:Nat) (lp:Loop):Inv:=fun Λ K O W=>
 ∃ lf Λ0 O0,Λ=lf::Λ0∧(∀ b,O b↔O0 b∨b=l)∧inv Λ0 K O0 W∧W.heap[l]?=some (.loop (lpOf lp lf))∧¬ O0 l
section
variable {P:Program} {E:Env} {base:Nat} {inv:Inv} {V V':View} {st:St} {A:Array Value} {DS:List Deferred} {M:List Nat} {O O':OO} {W W':World}
theorem lt_of_heap {W:World} {b:Nat} {o:Obj} (h:W.heap[b]?=some o):b<W.heap.size:=(Array.getElem?_eq_some_iff.1 h).1
theorem bodyInv_ok (hcx:CxOK inv) (l:Nat) (lp:Loop):CxOK (bodyInv inv l lp):=by
 refine⟨fun Λ K O W K' W' h hK hK' hc hW hs=>?_,fun Λ K O W h b hb=>?_⟩
 · obtain ⟨O0, hO, hi, hl, hn⟩ := h
   refine⟨O0,hO,hcx.stable _ _ _ _ _ _ hi hK (fun b o v hv=>(hK' b o v hv).imp (fun x=>x) (fun hno ho=>hno ((hO b).2 (.inl ho)))) hc (fun b hb=>hW b ((hO b).2 (.inl hb))) hs,?_,hn⟩
   rw[hW l ((hO l).2 (.inr rfl))];exact hl
 · obtain ⟨O0, hO, hi, hl, hn⟩ := h
   rcases (hO b).1 hb with h'|h'
   · exact hcx.bound _ _ _ _ hi b h'
   · subst h';exact lt_of_heap hl
theorem bodyInv_rl (l:Nat) (lp:Loop):RLOK (bodyInv inv l lp) (some l):=by
 intro l' he Λ K O W h
 simp only[Option.some.injEq] at he;subst he
 obtain⟨O0,_,_,hl,_⟩:=h
 exact⟨lp,hl⟩
theorem loopInv_ok (hcx:CxOK inv) (l:Nat) (lp:Loop):CxOK (loopInv inv l lp):=by
 refine⟨fun Λ K O W K' W' h hK hK' hc hW hs=>?_,fun Λ K O W h b hb=>?_⟩
 · obtain ⟨lf, Λ0, O0, rfl, hO, hi, hl, hn⟩ := h
   refine⟨lf,Λ0,O0,rfl,hO,hcx.stable _ _ _ _ _ _ hi hK (fun b o v hv=>(hK' b o v hv).imp (fun x=>x) (fun hno ho=>hno ((hO b).2 (.inl ho)))) hc (fun b hb=>hW b ((hO b).2 (.inl hb))) hs,?_,hn⟩
   rw[hW l ((hO l).2 (.inr rfl))];exact hl
 · obtain ⟨lf, Λ0, O0, rfl, hO, hi, hl, hn⟩ := h
   rcases (hO b).1 hb with h'|h'
   · exact hcx.bound _ _ _ _ hi b h'
   · subst h';exact lt_of_heap hl
theorem Prg.congrO {σ σ':Hp} {Q Q':OO} (h:Prg V σ O W V' σ' O' W') (h1:∀ b,Q b↔O b) (h2:∀ b,Q' b↔O' b):Prg V σ Q W V' σ' Q' W':=
 ⟨h.le,h.fr.weaken (fun b _ hb=>hb.imp (fun x=>x) (h1 b).2),h.own,fun b hb=>(h.out b ((h2 b).1 hb)).imp (h1 b).2 (fun x=>x),fun id b s hm=>(h.mb id b s hm).imp (fun x=>x) (fun x=>⟨x.1,x.2.1,fun ho=>x.2.2 ((h2 b).1 ho)⟩),
  fun b o v hv=>(h.K b o v hv).imp (fun x=>x) (fun x=>x.imp (fun y=>y.imp (fun z=>z) (h1 b).2) (fun y=>y)),h.nm,h.nn⟩
theorem held {σ σ':Hp} {l:Nat} {o:Obj} (h:Prg V σ O W V' σ' O' W') (hl:W.heap[l]?=some o) (hn:¬ O l) (hd:¬ Own V σ l):W'.heap[l]?=some o∧¬ O' l∧¬ Own V' σ' l:=by
 have hlt:=lt_of_heap hl
 refine⟨by rw[h.fr.block l hlt (fun x=>x.elim hd hn)];exact hl,fun x=>(h.out l x).elim hn (fun y=>by omega),fun x=>(h.own l x).elim hd (fun y=>by omega)⟩
theorem YOK.body {h:Hnd} {lb:Nat} (l:Nat) (lp:Loop) (hy:YOK P E base inv V h lb):YOK P E base (bodyInv inv l lp) V h lb:=by
 intro Λ O W V1 σ args AA b σ' Λ' hle H hb hi hd hlf hargs hh
 obtain⟨O0,hO,hi0,hl,hn⟩:=hi
 have hdl:¬ Own V1 σ l:=fun x=>hd l x ((hO l).2 (.inr rfl))
 obtain⟨V',O',W',p1,r1,i1,d1,l1,g1⟩:=hy Λ O0 W V1 σ args AA b σ' Λ' hle H hb hi0 (fun b hb ho=>hd b hb ((hO b).2 (.inl ho))) hlf hargs hh
 obtain⟨k1,k2,k3⟩:=held p1 hl hn hdl
 exact⟨V',fun b=>O' b∨b=l,W',(p1.weaken (fun b=>b=l) (fun b hb=>by subst hb;exact lt_of_heap hl)).congrO hO (fun _=>Iff.rfl),r1,⟨O',fun _=>Iff.rfl,i1,k1,k2⟩,fun b hb ho=>ho.elim (d1 b hb) (fun e=>by subst e;exact k3 hb),l1,g1⟩
theorem HOK.body {hs:Hnds} (l:Nat) (lp:Loop) (h:HOK P E base inv V hs):HOK P E base (bodyInv inv l lp) V hs:=fun lvl hd e=>
 let ⟨lb,h1,h2⟩:=h lvl hd e
 ⟨lb,h1,h2.body l lp⟩
theorem YOK.deeper {h:Hnd} {lb:Nat} (l:Nat) (lp:Loop) (hy:YOK P E base inv V h lb):YOK P E base (loopInv inv l lp) V (deeper h) lb:=by
 intro Λ O W V1 σ args AA b σ' Λ' hle H hb hi hd hlf hargs hh
 obtain⟨lf,Λ0,O0,rfl,hO,hi0,hl,hn⟩:=hi
 simp only[Eng.deeper] at hh
 split at hh
 · rename_i b1 σ1 Λ1 hb1
   simp only[Option.some.injEq,Prod.mk.injEq] at hh;obtain⟨rfl,rfl,rfl⟩:=hh
   have hdl:¬ Own V1 σ l:=fun x=>hd l x ((hO l).2 (.inr rfl))
   obtain⟨V',O',W',p1,r1,i1,d1,l1,g1⟩:=hy Λ0 O0 W V1 σ args AA b1 σ1 Λ1 hle H hb hi0 (fun b hb ho=>hd b hb ((hO b).2 (.inl ho))) hlf hargs hb1
   obtain⟨k1,k2,k3⟩:=held p1 hl hn hdl
   exact⟨V',fun b=>O' b∨b=l,W',(p1.weaken (fun b=>b=l) (fun b hb=>by subst hb;exact lt_of_heap hl)).congrO hO (fun _=>Iff.rfl),r1,⟨lf,Λ1,O',rfl,fun _=>Iff.rfl,i1,k1,k2⟩,fun b hb ho=>ho.elim (d1 b hb) (fun e=>by subst e;exact k3 hb),l1,g1⟩
 · cases hh
theorem hndOf_deepen:∀ {hs:Hnds} {lvl:Nat} {h:Hnd},hndOf (deepen hs) lvl=some h→∃ h0,hndOf hs lvl=some h0∧h=Eng.deeper h0
 |[],lvl,h,e=>by simp[deepen,hndOf] at e
 | (i, h1) :: hs, lvl, h, e => by
  simp only[deepen,hndOf] at e⊢
  split at e
  · rename_i hb
    simp only[Option.some.injEq] at e
    exact⟨h1,rfl,e.symm⟩
  · rename_i hb
    obtain⟨h0,e0,e1⟩:=hndOf_deepen e
    exact⟨h0,e0,e1⟩
end
end Go.Eng


namespace Go.Eng
open Go
def putAll (A:Array Value) (ps:List Tmp) (AA:List Value):Array Value:=(ps.zip AA).foldl (fun tmps x=>tmps.setIfInBounds x.1 x.2) A
theorem setParams_spec {V:View} {nt:Nat}:∀ {ps:List Nat} {args:List AV} {τ τ':Tmps} {A:Array Value} {AA:List Value},setParams nt τ ps args=some τ'→(∀ t a,τ.get t=some a→VR V a (A.getD t undef))→A.size=nt→VRs V args AA →
  (∀ t a,τ'.get t=some a→VR V a ((putAll A ps AA).getD t undef))∧(putAll A ps AA).size=nt∧ps.length=AA.length
 |[],[],τ,τ',A,AA,h,ht,hs,ha=>by
  simp only[setParams,Option.some.injEq] at h;subst h
  cases ha.nil_inv
  exact⟨ht,hs,rfl⟩
 | p :: ps, a :: az, τ, τ', A, AA, h, ht, hs, ha => by
  obtain⟨X,Xs,rfl,hX,hXs⟩:=ha.cons_inv
  simp only[setParams] at h
  split at h
  · rename_i hb
    have hlt:=Nat.le_of_ble_eq_true hb
    have:=setParams_spec (V:=V) (A:=A.setIfInBounds p X) h (fun t b hg=>by
     rcases Tr.get_set _ _ _ _ _ hg with ⟨rfl,rfl⟩|⟨hne,hg'⟩
     · have : t < A.size := by omega
       simp only[Array.getD_eq_getD_getElem?,Array.getElem?_setIfInBounds,this,if_true,Option.getD_some]
       exact hX
     · have := ht t b hg'
       simp only[Array.getD_eq_getD_getElem?,Array.getElem?_setIfInBounds] at this⊢
       rw[if_neg (fun e=>hne e.symm)];exact this) (by simpa using hs) hXs
    obtain⟨h1,h2,h3⟩:=this
    exact⟨h1,h2,by simp[h3]⟩
  · cases h
 |[],_::_,τ,τ',A,AA,h,ht,hs,ha=>by simp[setParams] at h
 |_::_,[],τ,τ',A,AA,h,ht,hs,ha=>by simp[setParams] at h
theorem yield_run {P:Program} {W:World} {l:Nat} {lp:Loop} (hl:W.heap[l]?=some (.loop lp)) {AA:List Value} (hs:lp.params.toList.length=AA.length) :
  (Instr.yield l AA.toArray).run P W=.ok (.round l lp.fn (putAll lp.tmps lp.params.toList AA) lp.assign lp.body) W:=by
 have e:(lp.params.zip AA.toArray).foldl (fun tmps (x:Tmp×Value)=>tmps.setIfInBounds x.1 x.2) lp.tmps=putAll lp.tmps lp.params.toList AA:=by
  rw[← Array.foldl_toList,Array.toList_zip];rfl
 have hs':AA.length=lp.params.size:=by simpa using hs.symm
 simp[Instr.yield,Instr.getLoop,getObj,Sem.run,hl,hs',← e]
section
variable {P:Program} {E:Env} {base:Nat} {inv:Inv} {V V':View} {st:St} {A:Array Value} {DS:List Deferred} {M:List Nat} {O O':OO} {W W':World}
theorem Own.not_loop {σ:Hp} (H:HR E base V σ W) {b:Nat} (h:Own V σ b) (lp:Loop):W.heap[b]?≠some (.loop lp):=by
 obtain⟨id,s,⟨o,hg,hn⟩,hm⟩:=h
 obtain⟨blk,s',hm',_,hlt,ho⟩:=H.obj _ _ hg hn
 rw[hm] at hm';simp only[Option.some.injEq,Prod.mk.injEq] at hm';obtain⟨rfl,rfl⟩:=hm'
 intro e
 cases o with
 |cells ro l=>obtain⟨cs,t,h1,_⟩:=ho;rw[e] at h1;cases h1
 |map es=>obtain⟨_,en,cl,h1,_⟩:=ho;rw[e] at h1;cases h1
 |cmap es bs ck=>obtain⟨_,en,h1,_⟩:=ho;rw[e] at h1;cases h1
 |miter m a s l=>obtain⟨_,mb,_,h1⟩:=ho;rw[e] at h1;cases h1
 |siter s p=>obtain⟨_,bb,h1,_⟩:=ho;rw[e] at h1;cases h1
 |gone=>exact hn rfl
theorem cell_loop {W:World} {l o:Nat} {v:Value} {lp:Loop} (h:W.heap[l]?=some (.loop lp)) (hc:W.cell? ⟨l,o,none⟩=some v):False:=by
 simp[World.cell?,h] at hc
theorem put_other (W:World) (l:Nat) (o:Obj) {b:Nat} (h:b≠l):(W.put l o).heap[b]?=W.heap[b]?:=by
 simp only[World.put,Array.getElem?_setIfInBounds]
 rw[if_neg (fun e=>h e.symm)]
theorem put_self {W:World} {l:Nat} (o:Obj) (h:l<W.heap.size):(W.put l o).heap[l]?=some o:=by
 simp[World.put,Array.getElem?_setIfInBounds,h]
theorem put_size (W:World) (l:Nat) (o:Obj):(W.put l o).heap.size=W.heap.size:=by simp[World.put]
theorem HR.reloop {σ:Hp} (H:HR E base V σ W) {l:Nat} {lp lp':Loop} (hl:W.heap[l]?=some (.loop lp)):HR E base V σ (W.put l (.loop lp')):=by
 have hne:∀ b,Own V σ b→b≠l:=fun b hb e=>by subst e;exact hb.not_loop H lp hl
 refine⟨fun b o v hk=>?_,H.glob,fun id o hid hno=>?_,H.inj,fun id x hx=>by rw[put_size];exact H.fresh id x hx,H.all⟩
 · have hc := H.cell _ _ _ hk
   rw[cell_of_heap (put_other W l _ (fun e=>by subst e;exact cell_loop hl hc))];exact hc
 · obtain ⟨blk, s, h1, h2, h3, h4⟩ := H.obj id o hid hno
   exact⟨blk,s,h1,h2,by rw[put_size];exact h3,h4.mono (View.le.refl V) rfl (fun _ _ h=>h) (put_other W l _ (hne blk ⟨id,s,⟨o,hid,hno⟩,h1⟩))⟩
theorem inv_reloop (hcx:CxOK inv) {Λ:List LF} {K:KK} {l:Nat} {lp lp':Loop} (h:inv Λ K O W) (hc:∀ b o v,K b o=some v→W.cell? ⟨b,o,none⟩=some v) (hl:W.heap[l]?=some (.loop lp)) (hn:¬ O l):inv Λ K O (W.put l (.loop lp')):=by
 refine hcx.stable _ _ _ _ _ _ h (fun _ _ _ h=>h) (fun _ _ _ h=>.inl h) (fun b o v hk=>?_) (fun b hb=>put_other W l _ (fun e=>by subst e;exact hn hb)) (by rw[put_size];exact Nat.le_refl _)
 have:=hc b o v hk
 rw[cell_of_heap (put_other W l _ (fun e=>by subst e;exact cell_loop hl this))];exact this
theorem SR.reloop (hcx:CxOK inv) {l:Nat} {lp lp':Loop} {M':List Nat} (h:SR E base (bodyInv inv l lp) V st A DS M' O W):SR E base (bodyInv inv l lp') V st A DS M' O (W.put l (.loop lp')):=by
 obtain⟨O0,hO,hi,hl,hn⟩:=h.cx
 have hOl:O l:=(hO l).2 (.inr rfl)
 refine⟨h.hr.reloop hl,by rw[put_size];exact h.bs,h.tm,h.sz,h.ds,fun r hr=>⟨?_,(h.mks r hr).2⟩,⟨O0,hO,inv_reloop hcx hi h.hr.cell hl hn,put_self _ (lt_of_heap hl),hn⟩,h.dis,h.lf⟩
 rw[put_other W l _ (fun e=>by subst e;exact (h.mks r hr).2 hOl)];exact (h.mks r hr).1
theorem Prg.put {σ σ':Hp} (h:Prg V σ O W V' σ' O' W') {l:Nat} (hl:O l) (o:Obj):Prg V σ O W V' σ' O' (W'.put l o):=
 ⟨h.le,⟨h.fr.os,h.fr.tape,h.fr.output,by rw[put_size];exact h.fr.size,fun b hb hno=>by rw[put_other W' l o (fun e=>by subst e;exact hno (.inr hl))];exact h.fr.block b hb hno⟩,h.own,h.out,fun id b s hm=>(h.mb id b s hm).imp (fun x=>x) (fun x=>⟨x.1,by rw[put_size];exact x.2.1,x.2.2⟩),h.K,h.nm,h.nn⟩
end
end Go.Eng


namespace Go.Eng
open Go
noncomputable def rangeH (E:Env) (call:CallF) (hs:Hnds) (nt:Nat) (τ:Tmps) (params:Array Tmp) (asg body:Code):Hnd:=fun az σ Λ=>match Λ with
 |[]=>none
 | lf :: Λ => match lf.done with
  |true=>none
  | false => match setParams nt τ params.toList az with
   |none=>none
   | some τ => match exec E call asg hs ⟨τ, σ, [], Λ, nt, true⟩ with
    | some (.normal, st1) => match exec E call body hs st1 with
     |some (e,st2)=>match st2.ds with
      |[]=>some (e.isNormal,st2.σ,⟨!e.isNormal,e⟩::st2.Λ)
      |_=>none
     |none=>none
    |_=>none
section
variable {P:Program} {E:Env} {call:CallF} {base:Nat} {inv:Inv} {V0:View} {hs:Hnds} {nt:Nat} {τ:Tmps} {A:Array Value}
theorem round_ok (hcx:CxOK inv) {asg body:Code} (hasg:CodeOK P E call base hs asg) (hbody:CodeOK P E call base hs body) (hh:HOK P E base inv V0 hs) (htm:∀ t a,τ.get t=some a→VR V0 a (A.getD t undef)) (hsz:A.size=nt)
  {l:Nat} {lp:Loop} (h1:lp.tmps=A) (h2:lp.assign=asg) (h3:lp.body=body) :
  YOK P E base (loopInv inv l lp) V0 (rangeH E call hs nt τ lp.params asg body) l:=by
 intro Λ O W V σ args AA b σ' Λ' hle H hb hi hd hlf hargs hr
 obtain⟨lf,Λ0,O0,rfl,hO,hi0,hl,hn⟩:=hi
 simp only[rangeH] at hr
 split at hr
 · cases hr
 · rename_i hdone
   split at hr
   · cases hr
   · rename_i τ1 hset
     split at hr
     · rename_i st1 hex1
       split at hr
       · rename_i e st2 hex2
         split at hr
         · rename_i hds
           simp only[Option.some.injEq,Prod.mk.injEq] at hr;obtain⟨rfl,rfl,rfl⟩:=hr
           obtain⟨t1,t2,t3⟩:=setParams_spec hset (fun t a ht=>(htm t a ht).mono hle) hsz hargs
           have hy:=yield_run (P:=P) hl (AA:=AA) t3
           have hOl:O l:=(hO l).2 (.inr rfl)
           have hS0:SR E base (bodyInv inv l (lpOf lp lf)) V ⟨τ1,σ,[],Λ0,nt,true⟩ (putAll A lp.params.toList AA) [] [] O W:=
            ⟨H,hb,t1,t2,.nil,fun r hr=>absurd hr (by simp),⟨O0,hO,hi0,hl,hn⟩,hd,hlf⟩
           have hhb:∀ lp',HOK P E base (bodyInv inv l lp') V hs:=fun lp'=>(hh.mono hle).body l lp'
           obtain⟨V1,A1,DS1,M1,O1,W1,L1,g1⟩:=hasg _ (bodyInv_ok hcx l _) V _ st1 _ _ _ _ _ _ lp.fn (some l) (bodyInv_rl l _) hex1 hS0 (hhb _)
           obtain⟨O1',hO1,hi1,hl1,hn1⟩:=L1.sr.cx
           have hO1l:O1 l:=(hO1 l).2 (.inr rfl)
           let lpB:Loop:={ lpOf lp lf with state:=.busy }
           have hS1:SR E base (bodyInv inv l lpB) V1 st1 A1 DS1 M1 O1 (W1.put l (.loop lpB)):=SR.reloop hcx L1.sr
           obtain⟨V2,A2,DS2,M2,O2,W2,L2,g2⟩:=hbody _ (bodyInv_ok hcx l _) V1 st1 st2 e A1 DS1 M1 O1 _ lp.fn (some l) (bodyInv_rl l _) hex2 hS1 ((hhb _).mono L1.pr.le)
           obtain⟨O2',hO2,hi2,hl2,hn2⟩:=L2.sr.cx
           let lf':LF:=⟨!e.isNormal,e⟩
           have hP:Prg V σ O W V2 st2.σ O2 (W2.put l (.loop (lpOf lp lf'))):=((L1.pr.put hOl (.loop lpB)).trans L2.pr).put hOl _
           refine⟨V2,O2,W2.put l (.loop (lpOf lp lf')),hP,L2.sr.hr.reloop hl2,⟨lf',st2.Λ,O2',rfl,hO2,inv_reloop hcx hi2 L2.sr.hr.cell hl2 hn2,put_self _ (lt_of_heap hl2),hn2⟩,L2.sr.dis,L2.sr.lf,?_⟩
           refine⟨W,lp.fn,_,asg,body,by have hy':=hy;simp only[lpOf,h1,h2,h3] at hy';exact hy',fun caller rest=>?_⟩
           have hb0:BOK lp.fn true (Frame.round l lp.fn (putAll A lp.params.toList AA) asg body .normal) (caller::rest):=⟨rfl,rfl,.inl rfl⟩
           have s1:=g1 _ (caller::rest) [.beginRound,.code body] ⟨hb0,rfl⟩
           have s2:=g2 (Frame.round l lp.fn (putAll A lp.params.toList AA) asg body .normal) (caller::rest) [] ⟨by rw[L1.rnd];exact hb0,rfl⟩
           have s12:Steps P (lone (Frame.round l lp.fn (putAll A lp.params.toList AA) asg body .normal) (caller::rest) W) (lone (mkF (Frame.round l lp.fn (putAll A lp.params.toList AA) asg body .normal) A1 DS1 [.code body]) (caller::rest) (W1.put l (.loop lpB))):=by
            refine Steps.trans s1 (.one ?_)
            exact st_beginRound (l:=l) rfl hl1 (by simp[lpOf,hdone])
           cases e with
           |normal=>exact s12.trans (Steps.trans s2 (.one (st_roundEnd (l:=l) (r:=lpB) rfl rfl hl2)))
           |exit i=>
            obtain⟨k',q1,q2⟩:=s2
            exact s12.trans (q2.trans (.one (st_roundExit (l:=l) (r:=lpB) rfl rfl hl2 (by rw[q1];rfl))))
           |ret=>
            obtain⟨k',q2⟩:=s2
            exact s12.trans (q2.trans (.one (st_roundRet (l:=l) (r:=lpB) rfl rfl hl2)))
         · cases hr
       · cases hr
     · cases hr
end
end Go.Eng


namespace Go.Eng
open Go
attribute [local irreducible] upTo
section
variable {P:Program} {b:Frame} {A:Array Value} {DS:List Deferred} {k:List Item} {cs:List Frame} {W W':World}
theorem st_rangeFunc_val {f:Operand} {params:Array Tmp} {asg body:Code} {g:Nat} {F C:Array Value} {R:Value} (hro:b.roundOf=none) (hf:(mkF b A DS []).eval f=.func (.func g) F C)
  (hc:(callFunc g (F.push (.func (.yield (W.heap.size+1)) #[] #[])++C)).run P ((W.alloc (.deferred (some []))).alloc (.loop (newLoop b A params asg body W.heap.size)))=.ok (.value R) W') :
  step P (lone (mkF b A DS (.code (.rangeFunc f params asg body)::k)) cs W) =
   .next (lone (mkF b A ({ target:=.collected W.heap.size,args:=#[] }::DS) (.endRangeFunc (W.heap.size+1)::k)) cs W'):=by
 have h1:(Instr.enterLoop b.fn A params asg body none).run P W=.ok (W.heap.size+1,[{ target:=.collected W.heap.size,args:=#[] }]) ((W.alloc (.deferred (some []))).alloc (.loop (newLoop b A params asg body W.heap.size))):=by
  simp[Instr.enterLoop,newObj,Sem.run,newLoop]
 refine step_lone_go ?_
 have hf':(mkF b A ({ target:=.collected W.heap.size,args:=#[] }::DS) (.inRangeFunc (W.heap.size+1)::k)).eval f=.func (.func g) F C:=by
  rw[mkF_eval];rw[mkF_eval] at hf;exact hf
 have hy:(mkF b A ({ target:=.collected W.heap.size,args:=#[] }::DS) (.inRangeFunc (W.heap.size+1)::k)).eval (.const (.func (.yield (W.heap.size+1)) #[] #[]))=.func (.yield (W.heap.size+1)) #[] #[]:=rfl
 simp only[mkF,hro] at hf' hy⊢
 simp[stepG,stepG.exec,Sem.runT_eq,hro,h1,stepG.apply,resolve,hf',hy,Deferred.ofValue,invoke,hc,Frame.finish]
theorem st_rangeFunc_in_val {f:Operand} {params:Array Tmp} {asg body:Code} {g l0:Nat} {r0:Loop} {F C:Array Value} {R:Value} (hro:b.roundOf=some l0) (hl:W.heap[l0]?=some (.loop r0)) (hf:(mkF b A DS []).eval f=.func (.func g) F C)
  (hc:(callFunc g (F.push (.func (.yield W.heap.size) #[] #[])++C)).run P (W.alloc (.loop (newLoop b A params asg body r0.defers)))=.ok (.value R) W') :
  step P (lone (mkF b A DS (.code (.rangeFunc f params asg body)::k)) cs W) =
   .next (lone (mkF b A DS (.endRangeFunc W.heap.size::k)) cs W'):=by
 have h1:(Instr.enterLoop b.fn A params asg body (some l0)).run P W=.ok (W.heap.size,[]) (W.alloc (.loop (newLoop b A params asg body r0.defers))):=by
  simp[Instr.enterLoop,Instr.getLoop,getObj,newObj,Sem.run,newLoop,hl]
 refine step_lone_go ?_
 have hf':(mkF b A DS (.inRangeFunc W.heap.size::k)).eval f=.func (.func g) F C:=by
  rw[mkF_eval];rw[mkF_eval] at hf;exact hf
 have hy:(mkF b A DS (.inRangeFunc W.heap.size::k)).eval (.const (.func (.yield W.heap.size) #[] #[]))=.func (.yield W.heap.size) #[] #[]:=rfl
 simp only[mkF,hro] at hf' hy⊢
 simp[stepG,stepG.exec,Sem.runT_eq,h1,stepG.apply,resolve,hf',hy,Deferred.ofValue,invoke,hc,Frame.finish]
end
theorem exec_rangeFunc {E:Env} {call:CallF} {hs:Hnds} {st:St} {f:Operand} {params:Array Tmp} {asg body:Code}:exec E call (.rangeFunc f params asg body) hs st=match ev st.τ f with
  |some (.fn g first caps)=>
   match call g (first++[.yld st.σ.n]++caps) ⟨st.σ.t,st.σ.n+1⟩ ((st.σ.n,rangeH E call hs st.nt st.τ params asg body)::deepen hs) (⟨false,.normal⟩::st.Λ) with
   |some (_,σ,lf::Λ)=>some (lf.pend,{ st with σ:=σ,Λ:=Λ })
   |_=>none
  |_=>none:=rfl
section
variable {P:Program} {E:Env} {call:CallF} {base:Nat} {inv:Inv} {V V':View} {st:St} {A:Array Value} {DS:List Deferred} {M:List Nat} {O:OO} {W W':World} {hs:Hnds}
theorem HR.bump {σ:Hp} (h:HR E base V σ W) (n:Nat):HR E base V ⟨σ.t,σ.n+n⟩ W:=
 ⟨h.cell,h.glob,h.obj,h.inj,fun id x hx=>⟨Nat.lt_of_lt_of_le (h.fresh id x hx).1 (Nat.le_add_right _ _),(h.fresh id x hx).2⟩,h.all⟩
theorem HR.relv {σ:Hp} (H:HR E base V σ W) {lv':Nat→Option Nat} (h:∀ l x,V.lv l=some x→lv' l=some x):HR E base { V with lv:=lv' } σ W:=
 ⟨H.cell,H.glob,fun id o hid hne=>by
  obtain⟨blk,s,h1,h2,h3,h4⟩:=H.obj id o hid hne
  have hle:V.le { V with lv:=lv' }:=⟨fun _ _ h=>h,h,fun _ _ _ h=>h,fun _ _ _ _=>rfl⟩
  exact⟨blk,s,h1,h2,h3,h4.mono hle rfl (fun _ _ h=>h) rfl⟩,H.inj,H.fresh,H.all⟩
theorem SR.grown (hcx:CxOK inv) (h:SR E base inv V st A DS M O W) (hf:Fr (fun _=>False) W W'):SR E base inv V st A DS M O W':=by
 have hlt:∀ b,(O b∨Own V st.σ b∨b∈M)→b<W.heap.size:=fun b hb=>by
  rcases hb with hb|hb|hb
  · exact hcx.bound _ _ _ _ h.cx b hb
  · exact (Own.kind h.hr hb).1
  · exact lt_of_heap (h.mks b hb).1
 exact SR.others (V:=V) (K':=V.K) hcx h (fun _ _ _ h=>h) (fun _ _ _ h=>.inl h) (fun b o v hv=>by
  have hc:=h.hr.cell b o v hv
  rw[cell_of_heap (hf.block b (block_lt hc) (fun h=>h))];exact hc) (fun b hb=>hf.block b (hlt b hb) (fun h=>h)) hf.size
theorem enterLoop_ok (hcx:CxOK inv) (h:SR E base inv V st A DS M O W) (fn:Nat) {rl:Option Nat} (hrl:RLOK inv rl) (f:Operand) (params:Array Tmp) (asg body:Code) :
  ∃ W1 lb lp DS1 M1, SR E base inv V st A DS1 M1 O W1 ∧ Fr (fun _ => False) W W1 ∧ W1.heap[lb]? = some (.loop lp) ∧ ¬ O lb ∧ W.heap.size ≤ lb ∧ (∀ r ∈ M1, r ∈ M ∨ W.heap.size ≤ r) ∧
   lp.state=.ready∧lp.pending=none∧lp.tmps=A∧lp.params=params∧lp.assign=asg∧lp.body=body ∧
   ∀ b cs k g F C,b.fn=fn→b.roundOf=rl→(mkF b A DS []).eval f=.func (.func g) F C →
    (∀ args W',(callFunc g (F.push (.func (.yield lb) #[] #[])++C)).run P W1=.ok (.enter g args) W'→step P (lone (mkF b A DS (.code (.rangeFunc f params asg body)::k)) cs W)=.next (lone (Frame.enter P g args .normal) (mkF b A DS1 (.inRangeFunc lb::k)::cs) W')) ∧
    (∀ R W',(callFunc g (F.push (.func (.yield lb) #[] #[])++C)).run P W1=.ok (.value R) W'→step P (lone (mkF b A DS (.code (.rangeFunc f params asg body)::k)) cs W)=.next (lone (mkF b A DS1 (.endRangeFunc lb::k)) cs W')):=by
 have hbd:=hcx.bound _ _ _ _ h.cx
 cases rl with
 | none =>
  let lp:Loop:={ state:=.ready,pending:=none,fn:=fn,tmps:=A,params,assign:=asg,body,defers:=W.heap.size }
  let W1:=(W.alloc (.deferred (some []))).alloc (.loop lp)
  have hfr:Fr (fun _=>False) W W1:=(Fr.alloc _ W _).trans (Fr.alloc (fun _=>False) _ _) (fun _ _ h=>h)
  have h1:=h.grown hcx hfr
  have hs1:(W.alloc (.deferred (some []))).heap.size=W.heap.size+1:=by simp
  have hmk:W1.heap[W.heap.size]?=some (.deferred (some [])):=by
   rw[heap_alloc _ _ _ (by rw[hs1];omega)];exact heap_alloc_self W _
  have hlb:W1.heap[W.heap.size+1]?=some (.loop lp):=by rw[← hs1];exact heap_alloc_self _ _
  have hnO:∀ n,W.heap.size≤n→¬ O n:=fun n hn ho=>by have:=hbd n ho;omega
  have hnM:W.heap.size ∉ M:=fun hm=>by have:=lt_of_heap (h.mks _ hm).1;omega
  refine⟨W1,W.heap.size+1,lp,{ target:=.collected W.heap.size,args:=#[] }::DS,W.heap.size::M,
   ⟨h1.hr,h1.bs,h1.tm,h1.sz,.mark M _ _ _ hnM h1.ds,fun r hr=>?_,h1.cx,h1.dis,h1.lf⟩,hfr,hlb,hnO _ (by omega),by omega,fun r hr=>?_,rfl,rfl,rfl,rfl,rfl,rfl,fun b cs k g F C hb hro hf=>⟨fun args W' hc=>?_,fun R W' hc=>?_⟩⟩
  · rcases List.mem_cons.1 hr with rfl | hr
    · exact⟨hmk,hnO _ (Nat.le_refl _)⟩
    · exact h1.mks r hr
  · rcases List.mem_cons.1 hr with rfl | hr
    · exact .inr (Nat.le_refl _)
    · exact .inl hr
  · subst hb;exact st_rangeFunc hro hf hc
  · subst hb;exact st_rangeFunc_val hro hf hc
 |some l0=>
  obtain⟨r0,hr0⟩:=hrl l0 rfl _ _ _ _ h.cx
  let lp:Loop:={ state:=.ready,pending:=none,fn:=fn,tmps:=A,params,assign:=asg,body,defers:=r0.defers }
  let W1:=W.alloc (.loop lp)
  have hfr:Fr (fun _=>False) W W1:=Fr.alloc _ W _
  have h1:=h.grown hcx hfr
  have hlb:W1.heap[W.heap.size]?=some (.loop lp):=heap_alloc_self _ _
  refine⟨W1,W.heap.size,lp,DS,M,h1,hfr,hlb,fun ho=>by have:=hbd _ ho;omega,Nat.le_refl _,fun r hr=>.inl hr,rfl,rfl,rfl,rfl,rfl,rfl,fun b cs k g F C hb hro hf=>⟨fun args W' hc=>?_,fun R W' hc=>?_⟩⟩
  · subst hb;exact st_rangeFunc_in hro hr0 hf hc
  · subst hb;exact st_rangeFunc_in_val hro hr0 hf hc
theorem CodeOK.rangeFunc (hcall : CallOK P E call) {f : Operand} {params : Array Tmp} {asg body : Code} (hasg : CodeOK P E call base hs asg) (hbody : CodeOK P E call base hs body) : CodeOK P E call base hs (.rangeFunc f params asg body) := by
 intro inv hcx V st st' e A DS M O W fn rl hrl h hS hh
 rw[exec_rangeFunc] at h
 split at h
 · rename_i g first caps hev
   split at h
   · rename_i v0 σ2 lf Λ2 hcl
     simp only[Option.some.injEq,Prod.mk.injEq] at h;obtain⟨rfl,rfl⟩:=h
     obtain⟨W1,lb,lp,DS1,M1,S1,f1,hlb,hnO,hlbs,hM1,p1,p2,p3,p4,p5,p6,hstep⟩:=enterLoop_ok hcx hS fn hrl f params asg body
     subst p4
     have hbd:=hcx.bound _ _ _ _ hS.cx
     let lv':Nat→Option Nat:=fun i=>if i=st.σ.n then some lb else V.lv i
     have hlvle:∀ i x,V.lv i=some x→lv' i=some x:=by
      intro i x hx
      have:=hS.lf i x hx
      simp only[lv']
      rw[if_neg (by omega)];exact hx
     let V1:View:={ V with lv:=lv' }
     let σ1:Hp:=⟨st.σ.t,st.σ.n+1⟩
     have hVle:V.le V1:=⟨fun _ _ h=>h,hlvle,fun _ _ _ h=>h,fun _ _ _ _=>rfl⟩
     have hH1:HR E base V1 σ1 W1:=(S1.hr.relv hlvle).bump 1
     have hown:∀ b,Own V1 σ1 b→Own V st.σ b:=fun b hb=>hb
     obtain⟨F,C,hfv,hF,hC⟩:∃ F C:List Value,(mkF default A DS []).eval f=.func (.func g) F.toArray C.toArray∧VRs V first F∧VRs V caps C:=by
      have hv:=hS.evR default f _ hev
      generalize (mkF default A DS []).eval f=x at hv
      cases hv with
      |fn _ _ _ F C ha hb hav hbv=>exact⟨F,C,rfl,⟨ha,hav⟩,⟨hb,hbv⟩⟩
     have hargs:VRs V1 (first++[.yld st.σ.n]++caps) (F++[.func (.yield lb) #[] #[]]++C):=
      ((hF.mono hVle).append (.cons (.yld _ _ (by simp[V1,lv'])) (.nil _))).append (hC.mono hVle)
     have hlp:lpOf lp ⟨false,.normal⟩=lp:=by
      cases lp;simp only at p1 p2;subst p1;subst p2;rfl
     have hdl:¬ Own V st.σ lb:=fun x=>Own.not_loop S1.hr x lp hlb
     have hci:loopInv inv lb lp (⟨false,.normal⟩::st.Λ) V1.K (fun b=>O b∨b=lb) W1:=⟨⟨false,.normal⟩,st.Λ,O,rfl,fun _=>Iff.rfl,S1.cx,by rw[hlp];exact hlb,hnO⟩
     have hhk:HOK P E base (loopInv inv lb lp) V1 ((st.σ.n,rangeH E call hs st.nt st.τ lp.params asg body)::deepen hs):=by
      intro lvl h he
      simp only[hndOf] at he
      split at he
      · rename_i hb
        have:=Nat.eq_of_beq_eq_true hb;subst this
        simp only[Option.some.injEq] at he;subst he
        exact⟨lb,by simp[V1,lv'],round_ok hcx hasg hbody (hh.mono hVle) (fun t a ht=>(S1.tm t a ht).mono hVle) S1.sz p3 p5 p6⟩
      · obtain ⟨h0, e0, rfl⟩ := hndOf_deepen he
        obtain⟨l,h1,h2⟩:=hh lvl h0 e0
        exact⟨l,hVle.lv _ _ h1,(h2.mono hVle).deeper lb lp⟩
     obtain⟨V2,O2,W2,R,P2,H2,hi2,hd2,hl2,hv2,hg⟩:=hcall _ _ _ _ _ _ _ _ hcl base (loopInv inv lb lp) V1 _ _ W1 (loopInv_ok hcx lb lp) hhk hH1 S1.bs hargs hci
      (fun b hb ho=>ho.elim (S1.dis b (hown b hb)) (fun e=>by subst e;exact hdl (hown _ hb)))
      (fun i x hx => by
       simp only[V1,lv'] at hx
       split at hx
       · rename_i e;show i<st.σ.n+1;omega
       · have:=S1.lf i x hx;show i<st.σ.n+1;omega)
     obtain⟨lf',Λ0,O3,heq,hO2,hi3,hlb2,hn3⟩:=hi2
     simp only[List.cons.injEq] at heq;obtain⟨rfl,rfl⟩:=heq
     have hle:V.le V2:=hVle.trans P2.le
     let lpE:Loop:={ lpOf lp lf with state:=.exhausted }
     have hsz1:=f1.size
     have hsz2:=P2.fr.size
     have hml:∀ r∈M1,r≠lb:=fun r hr e=>by subst e;rw[(S1.mks r hr).1] at hlb;cases hlb
     have hmk:∀ r∈M1,W2.heap[r]?=some (.deferred (some [])):=fun r hr=>by
      rw[P2.fr.block r (lt_of_heap (S1.mks r hr).1) (fun ho=>?_)]
      · exact (S1.mks r hr).1
      · rcases ho with x | x | x
        · exact (Own.kind S1.hr (hown r x)).2 (S1.mks r hr).1
        · exact (S1.mks r hr).2 x
        · exact hml r hr x
     have hS3:SR E base inv V2 { st with σ:=σ2,Λ:=Λ2 } A DS1 M1 O3 (W2.put lb (.loop lpE)):=by
      refine⟨H2.reloop hlb2,by rw[put_size];exact Nat.le_trans S1.bs hsz2,fun t a ht=>(hS.tm t a ht).mono hle,hS.sz,S1.ds.mono hle,fun r hr=>⟨by rw[put_other W2 lb _ (hml r hr)];exact hmk r hr,fun ho=>?_⟩,inv_reloop hcx hi3 H2.cell hlb2 hn3,fun b hb ho=>hd2 b hb ((hO2 b).2 (.inl ho)),hl2⟩
      rcases P2.out r ((hO2 r).2 (.inl ho)) with (x|x)|x
      · exact (S1.mks r hr).2 x
      · exact hml r hr x
      · have:=lt_of_heap (S1.mks r hr).1;omega
     have hP3 : Prg V st.σ O W V2 σ2 O3 (W2.put lb (.loop lpE)) := by
      refine⟨hle,⟨P2.fr.os.trans f1.os,P2.fr.tape.trans f1.tape,P2.fr.output.trans f1.output,by rw[put_size];omega,fun b hb hno=>?_⟩,fun b hb=>?_,fun b hb=>?_,fun id b s hm=>?_,fun b o v hv=>?_,fun id x hx=>?_,Nat.le_trans (Nat.le_succ _) P2.nn⟩
      · rw [put_other W2 lb _ (by omega), P2.fr.block b (by omega) (fun ho => ?_)]
        · exact f1.block b hb (fun h=>h)
        · rcases ho with x | x | x
          · exact hno (.inl (hown b x))
          · exact hno (.inr x)
          · omega
      · exact (P2.own b hb).imp (hown b) (fun x=>by omega)
      · rcases P2.out b ((hO2 b).2 (.inl hb)) with (x | x) | x
        · exact .inl x
        · exact .inr (by omega)
        · exact .inr (by omega)
      · rcases P2.mb id b s hm with x | ⟨y1, y2, y3⟩
        · exact .inl x
        · exact .inr ⟨by omega,by rw[put_size];exact y2,fun ho=>y3 ((hO2 b).2 (.inl ho))⟩
      · rcases P2.K b o v hv with x | (x | x | x) | x
        · exact .inl x
        · exact .inr (.inl (.inl (hown b x)))
        · exact .inr (.inl (.inr x))
        · subst x;exact (cell_loop hlb2 (H2.cell _ _ _ hv)).elim
        · exact .inr (.inr (by omega))
      · rcases P2.nm id x hx with y | y
        · exact .inl y
        · exact .inr (Nat.le_trans (Nat.le_succ _) y)
     refine⟨V2,A,DS1,M1,O3,W2.put lb (.loop lpE),⟨hS3,hP3,rfl,hM1⟩,fun b cs k hb=>?_⟩
     have hev':(mkF b A DS []).eval f=.func (.func g) F.toArray C.toArray:=by
      rw[mkF_eval];rw[mkF_eval] at hfv;exact hfv
     have harr:(F.toArray.push (.func (.yield lb) #[] #[])++C.toArray)=(F++[Value.func (.yield lb) #[] #[]]++C).toArray:=by simp
     obtain⟨s1,s2⟩:=hstep b cs k g F.toArray C.toArray hb.1.fn hb.2 hev'
     rw[harr] at s1 s2
     have hto:Steps P (lone (mkF b A DS (.code (.rangeFunc f lp.params asg body)::k)) cs W) (lone (mkF b A DS1 (.endRangeFunc lb::k)) cs W2):=by
      cases hg with
      |value hv=>exact .one (s2 _ _ hv)
      |enter Wm hv hst=>
       refine .head (s1 _ _ hv) ?_
       exact hst .normal (mkF b A DS1 (.inRangeFunc lb::k)) cs (.inl rfl)
     have hend:=st_endRangeFunc (P:=P) (b:=b) (A:=A) (DS:=DS1) (k:=k) (cs:=cs) hlb2 (by simp only[lpOf];split<;>simp)
     refine .of_steps (hto.trans (.one hend)) ?_
     cases hp:lf.pend with
     |normal=>
      have e:((lpOf lp lf).pending.map Item.code).toList=[]:=by simp only[lpOf,hp,jumpOf];rfl
      rw[e];exact Steps.refl P _
     |exit i=>
      have e:((lpOf lp lf).pending.map Item.code).toList=[.code (.exit i)]:=by simp only[lpOf,hp,jumpOf];rfl
      rw[e];exact⟨k,rfl,Steps.refl P _⟩
     |ret=>
      have e:((lpOf lp lf).pending.map Item.code).toList=[.code .ret]:=by simp only[lpOf,hp,jumpOf];rfl
      rw[e];exact⟨k,Steps.refl P _⟩
   · cases h
 · cases h
end
end Go.Eng

