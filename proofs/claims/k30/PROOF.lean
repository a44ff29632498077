import PyProof.Rows.All
import Wide.All
import OpenK.AllK
import Wide.FinOn
import Lean
import PyProof.EqAt
import PyProof.EqKinds
import PyProof.TupleCall
import PyProof.ZipIter
import PyProof.ExcArgsOwn
import PyProof.ExcAttrAll.ValueError
import KE.KSortTup
import PyProof.AutoSeq1
import PySem.SetTable
import PyProof.SetNew
import PyProof.TupleKey
import PyProof.DictRoadsH
import PyProof.DictKinds
import PyProof.IsRules
import PyProof.Rows.SetFrom
import PyProof.WalksMore
import KE.KDictSum
import KE.KDictOf
import PyProof.AttrMissHeap
import PySem.Challenge.RW_leastlays_k30_beyond_not_shown
set_option compiler.extract_closed false
set_option bootstrap.genMatcherCode false
set_option genSizeOf false
set_option Elab.async false
set_option linter.all false
set_option maxRecDepth 100000
set_option maxHeartbeats 4000000
def aa:=@PySem.wpAny_bind
def ae:=@PySem.wpAny_pure
def ag:=@List.length_append
def ai:=@List.length_map
def aj:=@PySem.Heap.get?_push_of_some
def ak:=@List.getElem?_eq_getElem
def ao:=@List.mem_append
def aq:=@Nat.le_refl
def ar:=@if_neg
def au:=@List.mem_singleton
def av:=@List.getD_eq_getElem?_getD
def ax:=@List.mem_cons_of_mem
def ay:=@Array.length_toList
def az:=@if_pos
def aA:=@List.mem_cons_self
def aB:=@Array.getElem?_toList
def aC:=@PyProof.Rows.wpS_bind
def aD:=@List.size_toArray
def aE:=@List.mem_of_getElem?
def aF:=@List.mem_cons
def aG:=@PySem.Heap.get?_push_size
def aH:=@List.mem_append_right
def aI:=@List.all_eq_true
def aJ:=@PySem.Heap.lt_size
def aK:=@List.append_assoc
def aL:=@List.getElem?_eq_some_iff
def aM:=@Bool.and_eq_true
def aN:=@List.mem_map
def aO:=@List.mem_append_left
def aP:=@PyProof.Rows.wpS_pure
def aQ:=@List.mem_filter
def aR:=@Nat.lt_of_lt_of_le
def aS:=@List.length_take
def aT:=@PySem.sizeLine_eq
def aU:=@congrArg
def aV:=@List.map_cons
def aW:=@Nat.ne_of_lt
def aX:=@List.length_cons
def aY:=@List.mem_range
def aZ:=@List.getElem?_map
def a_:=@Nat.le_trans
def ba:=@List.getElem?_append_right
def bf:=@Bool.false_ne_true
def bg:=@List.take_add_one
def bh:=@List.take_length
def bj:=@beq_iff_eq
def bo:=@List.sum_cons
def bp:=@of_decide_eq_true
def bq:=@List.zipWith_cons_cons
def br:=@decide_eq_true_eq
def bt:=@List.take_append_drop
def bu:=@Nat.zero_le
def bw:=@List.length_replicate
def bx:=@List.length_drop
def bz:=@decide_eq_true
def bA:=@List.getElem?_append_left
def bB:=@PySem.Heap.size_push
def bC:=@List.map_append
def bD:=@List.length_filter_le
def bE:=@Int.toNat_natCast
def bF:=@List.length_take_le
def bG:=@decide_eq_false
def bH:=@Option.some.inj
def bI:=@List.pairwise_append
def bJ:=@List.mem_of_mem_take
def bK:=@PySem.wpAny_newObj_type
def bL:=@List.pairwise_map
def bM:=@List.any_eq_true
def bN:=@PyProof.Rows.slot_tuple_getitem
def bO:=@PySem.wpAny_callSpecial?_slot
def bP:=@Array.getElem?_eq_getElem
def bQ:=@PySem.wpAny_call_entry
def bR:=@List.mem_of_mem_drop
def bS:=@List.not_mem_nil
def bT:=@List.mem_singleton_self
def bU:=@Array.getD_eq_getD_getElem?
def bV:=@PyProof.Rows.KeyOrd.kle_trans
def bW:=@PyProof.Rows.KeyOrd.kle_of_klt
def bX:=@Nat.lt_irrefl
def bY:=@Array.toList_append
def bZ:=@Classical.byContradiction
def b_:=@List.lookup_cons
def cc:=@List.getElem_mem
def cf:=@PySem.wpAny_holding
def cg:=@Nat.lt_succ_of_lt
def cj:=@List.take_of_length_le
def ck:=@List.mem_filterMap
def cm:=@List.getElem?_eq_none
def cn:=@Nat.lt_succ_self
def cp:=@Nat.le_add_right
def cq:=@List.mem_iff_getElem
def cu:=@PySem.wpAny_field
def cv:=@List.nodup_cons
def cx:=@PyProof.Rows.wpS_forRange
def cy:=@List.replicate_succ
def cz:=@List.Perm.append_left
def cA:=@List.mem_iff_getElem?
def cB:=@PySem.wpAny_setState_of
def cC:=@List.all_cons
def cD:=@Bool.eq_iff_iff
def cE:=@PyProof.Rows.KeyOrd.kle_refl
def cF:=@List.drop_eq_nil_of_le
def cG:=@List.drop_eq_getElem_cons
def cH:=@PySem.Heap.SameBut.update
def cI:=@PyProof.Rows.wpS_mono
def cJ:=@List.perm_append_comm
def cK:=@List.map_map
def cL:=@Nat.le_of_lt
def cM:=@PySem.wpAny_seqItems
def cN:=@beq_eq_false_iff_ne
def cO:=@List.nil_append
def cP:=@PySem.Heap.get?_update_self
def cQ:=@PySem.Obj.data_mapFields
def cR:=@List.pairwise_cons
def cS:=@eq_of_heq
def cT:=@Nat.mod_eq_of_lt
def cU:=@List.drop_zero
def cW:=@List.flatten_cons
def cX:=@Array.toList_push
def cY:=@List.append_nil
def cZ:=@List.length_zipWith
def c_:=@Array.getElem?_eq_some_iff
def de:=@or_false
def df:=@Bool.and_false
def dg:=@List.getElem?_take_of_lt
def dh:=@Nat.min_eq_left
def di:=@Nat.pow_succ
def dj:=@List.getElem?_append
def dk:=@PySem.wpAny_truthy_bool
def dm:=@Nat.lt_trichotomy
def dn:=@Bool.false_or
def dq:=@List.drop_append_of_le_length
def dr:=@PySem.wpAny_typeNameOfWhole_keyiter
def dt:=@List.length_pos_iff
def du:=@PySem.wpAny_mono
def dv:=@Array.getElem?_eq_none
def dw:=@Nat.ne_of_gt
def dy:=@PySem.codeAny_mono
def dz:=@PySem.wpAny_setField_rec
def dC:=@Nat.zero_add
def dD:=@Int.emod_lt_of_pos
def dE:=@PyProof.Rows.F.plain_set_update_loop
def dF:=@Ne.symm
def dG:=@PySem.wpAny_passesOwn
def dH:=@List.foldl_cons
def dI:=@PySem.codeAny_builtin
def dJ:=@PySem.F.slot_tuple_iterator_next
def dM:=@Array.perm_iff_toList_perm
def dN:=@List.any_eq_false
def dO:=@List.nodup_append
def dP:=@List.pairwise_iff_getElem
def dQ:=@PySem.Around.under_plainId
def dR:=@List.mem_or_eq_of_mem_set
def dS:=@List.getLast?_eq_some_iff
def dU:=@ite_congr
def dV:=@PySem.wpAny_setField
def dW:=@PySem.isSubtype_type
def dX:=@PySem.wpAny_typeOf
def dY:=@PySem.wpAny_typeNameOf_keyiter
def dZ:=@List.append_cancel_right
def d_:=@List.eq_of_mem_replicate
def ed:=@List.filterMap_cons
def eh:=@PySem.wpAny_attempt
def ei:=@Nat.add_assoc
def ek:=@PySem.wpAny_execs_nil
def el:=@PySem.wpAny_Call_Name_kw
def ez:=@List.length_set
def eB:=@List.find?_cons
def eC:=@List.length_nil
def eD:=@Int.emod_nonneg
def eE:=@Nat.le_succ
def eF:=@List.take_append_of_le_length
def eG:=@List.reverse_cons
def eH:=@Nat.le_of_lt_succ
def eI:=@List.ext_getElem?
def eJ:=@List.length_range
def eM:=@Bool.not_eq_true'
def eN:=@List.all_eq_false
def eO:=@Bool.false_and
def eQ:=@List.length_singleton
def eR:=@PySem.Obj.isFreed_of_fields
def eS:=@PyProof.Rows.callWith_type1
def eT:=@Array.mem_toList_iff
def eU:=@PySem.call_meets
def eV:=@beq_self_eq_true
def eW:=@List.ext_getElem
def eX:=@Array.toList_extract
def eY:=@PySem.wpAny_askSetting
def eZ:=@List.nodup_iff_pairwise_ne
def e_:=@if_true
def fb:=@PySem.Calls.call_function_entry
def fc:=@List.getElem?_drop
def fe:=@PyProof.Rows.KeyOrd.klt_of_kle_of_klt
def ff:=@Nat.add_sub_cancel
def fg:=@Array.size_setIfInBounds
def fh:=@Nat.lt_of_le_of_lt
def fi:=@Nat.succ_pos
def fj:=@Nat.succ.inj
def fk:=@List.all_map
def fm:=@List.nodup_nil
def fo:=@PyProof.Rows.wpS_get
def fq:=@Nat.mod_lt
def ft:=@List.getElem?_replicate
def fu:=@List.length_eq_zero_iff
def fv:=@PySem.wpAny_pyIter_list
def fz:=@PySem.Obj.cls_mapFields
def fA:=@List.getElem_take
def fB:=@List.getElem_drop
def fC:=@PySem.wpAny_dictEntries
def fD:=@List.getElem?_set
def fE:=@PySem.Heap.get?_update_other
def fF:=@List.length_pos_of_mem
def fG:=@Option.map_eq_some_iff
def fH:=@Nat.succ_le_succ
def fJ:=@PySem.wpAny_isInstance
def fK:=@PySem.F.slot_tuple_mul
def fL:=@List.cons_append
def fM:=@List.nodup_range
def fN:=@PySem.builtinLookup_eq_fast
def fO:=@PySem.pushCells_keeps
def fP:=@PySem.wpAny_rule
def fQ:=@PySem.wpAny_updateSeq_pair
def fR:=@PySem.F.slot_zip_next
def fS:=@List.sum_append
def fT:=@Nat.lt_trans
def fU:=@Array.toList_reverse
def fV:=@Nat.mul_comm
def fW:=@Nat.sub_self
def fX:=@List.getElem_zipWith
def fY:=@List.dropLast_concat
def fZ:=@List.getElem?_of_mem
abbrev LLI:=List (List Int)
abbrev qA:=@List
abbrev qB:=@PySem.Value
abbrev qC:=@PySem.Shared
abbrev qD:=@Option
abbrev qE:=@PySem.Addr
abbrev qF:=@PySem.W.Frag
abbrev qG:=@PySem.Program
abbrev qH:=PySem.Value->PySem.Shared->Prop
abbrev qI:=List Int
abbrev qJ:=Option Nat
noncomputable section
def L2.nd(l:qA PySem.Str)(h:l.Nodup:=by decide +kernel):l.Nodup:=h
namespace L2
open PySem PySem.Spec PyProof.Rows
variable {A:Around}{C a b dx:qE}{E Q:qH}{K:qF}{M:Model}{P:qG}{base h h':Heap}{body:qA Stmt}{c e l tg:Expr}{ch fp:qA qE}{es:qA Expr}{f:qB->qB->Sem qB}{fd:FuncData}{i k n t':Nat}{mA mg:Str->qD qB}{qK:qA (qE×Obj)}{pl:Sem Bool}{pos:Pos}{ps:qA Str}{s:qC}{u:qB}{us:qA qB}{w:World}{x:Str}
abbrev Key:=Sum Int Str
def a4J:Key->qB->Bool
 |.inl k,v=>Value.isInt k v
 |.inr x,v=>Value.isStrOf x v
def b9z(w:World):Key->Int
 |.inl k=>hashInt k
 |.inr x=>hashStr w x
def D7:∀{k:Key}{v:qB},a4J k v=true->(∃i t,k=Sum.inl i/\v=Value.int i t)∨(∃x t,k=Sum.inr x/\v=Value.str x t)
 |.inl i,v,h=>by
  obtain⟨t,e⟩:=Value.isInt_shape (k:=i) (v:=v) h;exact .inl ⟨i,t,rfl,e⟩
 |.inr x,v,h=>by
  obtain⟨t,e⟩:=Value.isStrOf_shape (x:=x) (v:=v) h;exact .inr ⟨x,t,rfl,e⟩
def b0L(i:Int)(t:Tok):a4J (.inl i) (.int i t)=true:=by simp[a4J,Value.isInt]
def b0K(x:Str)(t:Tok):a4J (.inr x) (.str x t)=true:=by simp[a4J,Value.isStrOf]
def b7O(a b:Int):decide ((Sum.inl a:Key)=Sum.inl b)=(a==b):=by
 by_cases e:a=b
 .subst e;simp
 .have h:¬(Sum.inl a:Key)=Sum.inl b:=λq=>e (Sum.inl.inj q);rw[bG h];exact(cN.mpr e).symm
def b7L(a b:Str):decide ((Sum.inr a:Key)=Sum.inr b)=decide (a=b):=by
 by_cases e:a=b
 .subst e;simp
 .have h:¬(Sum.inr a:Key)=Sum.inr b:=λq=>e (Sum.inr.inj q);rw[bG h,bG e]
def b7N(a:Int)(b:Str):decide ((Sum.inl a:Key)=Sum.inr b)=false:=bG (λq=>nomatch q)
def b7M(a:Str)(b:Int):decide ((Sum.inr a:Key)=Sum.inl b)=false:=bG (λq=>nomatch q)
def C4(prog:qG)(w:World):PySem.KeyKind prog w Key where
 is:=a4J
 hash:=b9z w
 inj:=λv a b ha hb=>by
  rcases D7 ha with⟨i,t,rfl,rfl⟩|⟨x,t,rfl,rfl⟩
  .rcases D7 hb with⟨j,u,rfl,e⟩|⟨y,u,rfl,e⟩
   .injection e with e1 _;rw[e1]
   .exact nomatch e
  .rcases D7 hb with⟨j,u,rfl,e⟩|⟨y,u,rfl,e⟩
   .exact nomatch e
   .injection e with e1 _;rw[e1]
 byValue:=λk v h=>by
  rcases D7 h with⟨i,t,rfl,rfl⟩|⟨x,t,rfl,rfl⟩<;>rfl
 pyHash:=λhv h=>by
  rcases D7 hv with⟨i,t,rfl,rfl⟩|⟨x,t,rfl,rfl⟩
  .exact wpAny_pyHash_int h
  .exact wpAny_pyHash_str h
 eqBool:=λhu hv h=>by
  rcases D7 hu with⟨i,t,rfl,rfl⟩|⟨x,t,rfl,rfl⟩
  .rcases D7 hv with⟨j,u,rfl,rfl⟩|⟨y,u,rfl,rfl⟩
   .rw[b7O]at h;exact wpAny_eqBool_int h
   .rw[b7N]at h;exact SeqAt.EqAt.int_str i t y u _ _ _ _ h
  .rcases D7 hv with⟨j,u,rfl,rfl⟩|⟨y,u,rfl,rfl⟩
   .rw[b7M]at h;exact SeqAt.EqAt.str_int x t j u _ _ _ _ h
   .rw[b7L]at h;exact wpAny_eqBool_str h
 «strs»:=λk x t v h=>by
  rcases D7 h with⟨i,u,rfl,e⟩|⟨y,u,rfl,e⟩
  .exact nomatch e
  .injection e with e1 _
   subst e1;cases v<;>rfl
def a7a(prog:qG)(w:World)(i:Int)(t:Tok):(C4 prog w).is (.inl i) (.int i t)=true:=b0L i t
def a6Z(prog:qG)(w:World)(x:Str)(t:Tok):(C4 prog w).is (.inr x) (.str x t)=true:=b0K x t
inductive V where
 |non|bl (b:Bool)|int (i:Int)|str (x:Str)|byt (b:Array UInt8)|flt (b:UInt64)|ref (a:qE)|ty (n:String)
 deriving DecidableEq
variable {v:V}{vs xs:qA V}
def RelV:V->qB->Prop
 |.non,u=>u=Value.none
 |.bl b,u=>u=Value.bool b
 |.int i,u=>∃t,u=Value.int i t
 |.str x,u=>∃t,u=Value.str x t
 |.byt b,u=>∃t,u=Value.bytes b t
 |.flt b,u=>∃t,u=Value.float b t
 |.ref a,u=>u=Value.ref a
 |.ty n,u=>u=Value.type n
abbrev Vals:qA V->qA qB->Prop:=Paired RelV
def Vals.length{xs:qA V}{us:qA qB}(r:Vals xs us):xs.length=us.length:=Paired.length r
def Vals.get:∀{xs:qA V}{us:qA qB}{i:Nat}{x:V},Vals xs us->xs[i]?=some x->∃u,us[i]?=some u/\RelV x u
 |_,_,_,_,.nil,e=>by simp at e
 |_,_,0,_,.cons r _,e=>by simp at e;subst e;exact⟨_,rfl,r⟩
 |_,_,i+1,x,.cons _ t,e=>by
  obtain⟨u,h1,h2⟩:=Vals.get (i:=i) (x:=x) t (by simpa using e);exact⟨u,by simpa using h1,h2⟩
def Vals.set{x:V}{u:qB}(r:RelV x u):∀{xs:qA V}{us:qA qB}(i:Nat),Vals xs us->Vals (xs.set i x) (us.set i u)
 |_,_,_,.nil=>.nil
 |_,_,0,.cons _ t=>.cons r t
 |_,_,i+1,.cons q t=>.cons q (Vals.set r i t)
def Vals.append:∀{xs ys:qA V}{us a:qA qB},Vals xs us->Vals ys a->Vals (xs++ys) (us++a)
 |_,_,_,_,.nil,s=>s
 |_,_,_,_,.cons r t,s=>.cons r (Vals.append t s)
def Vals.take:∀{xs:qA V}{us:qA qB}(n:Nat),Vals xs us->Vals (xs.take n) (us.take n)
 |_,_,0,_=>.nil
 |_,_,_+1,.nil=>.nil
 |_,_,n+1,.cons r t=>.cons r (Vals.take n t)
def Vals.drop:∀{xs:qA V}{us:qA qB}(n:Nat),Vals xs us->Vals (xs.drop n) (us.drop n)
 |_,_,0,r=>r
 |_,_,_+1,.nil=>.nil
 |_,_,n+1,.cons _ t=>Vals.drop n t
def RelO:qD V->qD qB->Prop
 |some v,some u=>RelV v u
 |none,none=>True
 |_,_=>False
def KV{κ:Type}:qA (κ×V)->qA (κ×qB)->Prop:=Paired λ(p:κ×V) (q:κ×qB)=>p.1=q.1/\RelV p.2 q.2
def kV:Key->V
 |.inl i=>.int i
 |.inr x=>.str x
inductive HO where
 |lst (xs:qA V)
 |tup (xs:qA V)
 |dK (qL:qA (Key×V))|dT (qL:qA (qA Key×V))
 |set (S:Int->Bool) (n:Nat)
 |ins (C dx:qE) (fs:qA (Str×V))
 |own (x:qE)
 |xd (fs:qA (Str×V))
 |met (f x:qE)
 |rng (lo hi:Int)
 |frz (o:Obj) (u:HO)
 |tbl (ps:Array qB)
 |ext (φ:Heap->Prop)
variable {o:HO}
abbrev Hp:=qE->qD HO
variable {H H':Hp}
def upd(H:Hp)(a:qE)(o:HO):Hp:=λb=>if b=a then some o else H b
def A0:upd H a o a=some o:=by unfold upd;rw[az rfl]
def A3(h:b≠a):upd H a o b=H b:=by unfold upd;rw[ar h]
def a5i{u:HO}:upd (upd H a o) a u=upd H a u:=by
 funext b;unfold upd;split<;>rfl
def J8{u:HO}(h:H a=some o)(h':H b=some u)(d:o≠u):a≠b:=by
 intro e;subst e;rw[h]at h';exact d (bH h')
def A8(h:H a=some o)(h':H b=none):a≠b:=by
 intro e;subst e;rw[h]at h';cases h'
section
variable (P:qG)(w:World)
def ObjOk(H:Hp)(h:Heap)(a:qE):HO->Prop
 |.lst xs=>xs.length<=sizeLine/\∃(its:qA qB) (n:Nat),Vals xs its/\h.get? a=some {cls:=.type "list",data:=.seq its.toArray n}
 |.tup xs=>xs.length<=sizeLine/\∃its:qA qB,Vals xs its/\IsTup h a its.toArray
 |.dK qL=>qL.length<=sizeLine/\(a==sysModules)=false/\∃vs,KV qL vs/\h.DictOf (C4 P w) a vs
 |.dT qL=>qL.length<=sizeLine/\(a==sysModules)=false/\∃xs:qA (qA Key×qE×qB),
   Paired (λ(p:qA Key×V) (q:qA Key×qE×qB)=>p.1=q.1/\H q.2.1=some (.tup (p.1.map kV))/\RelV p.2 q.2.2) qL xs /\
   ∃o es ep,h.get? a=some o/\o.ExactDict/\o.data=.dict es ep/\es.toList=xs.map (entryOfKey (tupleKind (C4 P w)))/\(xs.map (·.1)).Nodup
 |.set S n=>h.SetOf (intKind P w) a S n
 |.ins C dx fs=>H dx=some (.own a)/\fs.length<=1000/\dx≠a/\h.get? a=some (PySem.W.instObj C dx) /\
   ∃mA,h.Ns1 dx mA/\(∀f,RelO (fs.lookup f) (mA f))/\PySem.Within mA (fs.map (·.1))
 |.own _=>∃o,h.get? a=some o
 |.xd fs=>∃mA,h.Ns1 a mA/\∀f,RelO (fs.lookup f) (mA f)
 |.rng lo hi=>∃t u v,h.get? a=some {cls:=.type "range",data:=.fields #[.int lo t,.int hi u,.int 1 v]}
 |.frz o u=>h.get? a=some o/\ObjOk H h a u
 |.tbl ps=>h.get? a=some {cls:=.none,data:=.fields ps}
 |.met f x=>h.get? a=some (PySem.W.methodObj (.ref f) (.ref x))
 |.ext φ=>φ h/\(∃o,h.get? a=some o)/\∀h1 h2:Heap,φ h1->(∀o,h1.get? a=some o->h2.get? a=some o)->φ h2
def HOk(H:Hp)(h:Heap):Prop:=∀a o,H a=some o->ObjOk P w H h a o
end
def ObjOk.lt(x:ObjOk P w H h a o):a<h.objs.size:=by
 cases o with
 |lst xs=>obtain⟨_,_,_,_,e⟩:=x;exact aJ e
 |tup xs=>obtain⟨_,_,_,p⟩:=x;exact p.lt
 |dK qL=>obtain⟨_,_,_,_,o,_,_,e,_⟩:=x;exact aJ e
 |dT qL=>obtain⟨_,_,_,_,o,_,_,e,_⟩:=x;exact aJ e
 |set S n=>obtain⟨o,_,_,_,e,_⟩:=x;exact aJ e
 |ins C dx fs=>obtain⟨_,_,_,e,_⟩:=x;exact aJ e
 |own y=>obtain⟨_,e⟩:=x;exact aJ e
 |xd fs=>obtain⟨_,⟨_,_,_,e,_⟩,_⟩:=x;exact aJ e
 |rng lo hi=>obtain⟨_,_,_,e⟩:=x;exact aJ e
 |frz ob u=>obtain⟨e,_⟩:=x;exact aJ e
 |tbl ps=>exact aJ (show h.get? a=some _ from x)
 |met f y=>exact aJ (show h.get? a=some _ from x)
 |ext φ=>obtain⟨_,⟨_,e⟩,_⟩:=x;exact aJ e
def Paired.mapP{α β:Type}{F G:α->β->Prop}:∀{l₁:qA α}{l₂:qA β},Paired F l₁ l₂->(∀a b,F a b->G a b)->Paired G l₁ l₂
 |_,_,.nil,_=>.nil
 |_,_,.cons r t,f=>.cons (f _ _ r) (Paired.mapP t f)
def Paired.imp'{α β:Type}{F G:α->β->Prop}(f:∀a b,F a b->G a b){l₁:qA α}{l₂:qA β}(r:Paired F l₁ l₂):Paired G l₁ l₂:=Paired.mapP r f
def ObjOk.stay(x:ObjOk P w H h a o)(k:∀b u,(b=a∨H b=some (.own a))->h.get? b=some u->h'.get? b=some u)
  (j:∀b,H b=some (.own a)->H' b=some (.own a)) (l:∀b xs,H b=some (.tup xs)->H' b=some (.tup xs)):ObjOk P w H' h' a o:=by
 induction o with
 |lst xs=>obtain⟨z,its,n,r,e⟩:=x;exact⟨z,its,n,r,k _ _ (.inl rfl) e⟩
 |tup xs=>obtain⟨z,its,r,g,e,c⟩:=x;exact⟨z,its,r,g,k _ _ (.inl rfl) e,c⟩
 |dK qL=>obtain⟨z,y,s,r,g,es,ep,e,c⟩:=x;exact⟨z,y,s,r,g,es,ep,k _ _ (.inl rfl) e,c⟩
 |dT qL =>
  obtain⟨z,y,xs,r,g,es,ep,e,c⟩:=x;exact⟨z,y,xs,Paired.mapP r λp q z=>⟨z.1,l _ _ z.2.1,z.2.2⟩,g,es,ep,k _ _ (.inl rfl) e,c⟩
 |set S n=>obtain⟨g,es,ep,t,e,c⟩:=x;exact⟨g,es,ep,t,k _ _ (.inl rfl) e,c⟩
 |ins C dx fs =>
  obtain⟨d,z,ne,e,mA,⟨od,es,ep,i,c⟩,r⟩:=x;exact⟨j _ d,z,ne,k _ _ (.inl rfl) e,mA,⟨od,es,ep,k _ _ (.inr d) i,c⟩,r⟩
 |own y=>obtain⟨g,e⟩:=x;exact⟨g,k _ _ (.inl rfl) e⟩
 |xd fs=>obtain⟨mA,⟨od,es,ep,e,c⟩,r⟩:=x;exact⟨mA,⟨od,es,ep,k _ _ (.inl rfl) e,c⟩,r⟩
 |rng lo hi=>obtain⟨t,u,v,e⟩:=x;exact⟨t,u,v,k _ _ (.inl rfl) e⟩
 |frz g u m=>obtain⟨e,q⟩:=x;exact⟨k _ _ (.inl rfl) e,m q⟩
 |tbl ps =>
  have e:h.get? a=some {cls:=.none,data:=.fields ps}:=x;show h'.get? a=some {cls:=.none,data:=.fields ps};exact k a _ (.inl rfl) e
 |met f y =>
  have e:h.get? a=some (PySem.W.methodObj (.ref f) (.ref y)):=x;show h'.get? a=some (PySem.W.methodObj (.ref f) (.ref y));exact k a _ (.inl rfl) e
 |ext φ=>obtain⟨p,⟨o,e⟩,st⟩:=x;exact⟨st _ _ p λo q=>k _ _ (.inl rfl) q,⟨o,k _ _ (.inl rfl) e⟩,st⟩
def HOk.lt(x:HOk P w H h)(e:H a=some o):a<h.objs.size:=(x a o e).lt
def HOk.fresh(x:HOk P w H h)(e:h.objs.size<=a):H a=none:=by
 cases q:H a with
 |none=>rfl
 |some u=>exact absurd (aR (x.lt q) e) (bX _)
def HOk.kept(x:HOk P w H h)(k:∀b u,h.get? b=some u->h'.get? b=some u):HOk P w H h':=λa o e =>
 (x a o e).stay (λb u _ q=>k b u q) (λ_ q=>q) λ_ _ q=>q
def HOk.laid(x:HOk P w H h)(k:∀b u,h.get? b=some u->h'.get? b=some u)(hp:h.objs.size<=a)(new:ObjOk P w (upd H a o) h' a o):HOk P w (upd H a o) h':=λb u e=>by
 have f:=x.fresh hp;by_cases d:b=a
 .subst d;rw[A0]at e;cases e;exact new
 .rw[A3 d]at e;exact(x b u e).stay (λc v _ q=>k c v q) (λc q=>by rw[A3 (A8 q f)];exact q) λc xs q=>by rw[A3 (A8 q f)];exact q
def Rd(H:Hp)(a:qE)(u:HO):Prop:=H a=some u∨∃o,H a=some (.frz o u)
def Rd.ok{u:HO}(r:Rd H a u)(x:HOk P w H h):ObjOk P w H h a u:=by
 rcases r with r|⟨o,r⟩
 .exact x a u r
 .obtain⟨_,q⟩:=x a _ r;exact q
def Mut:qD HO->Prop
 |some (.lst _)=>True
 |some (.dK _)=>True
 |some (.dT _)=>True
 |some (.set _ _)=>True
 |some (.ins _ _ _)=>True
 |some (.ext _)=>True
 |_=>False
section
variable {x e:qE}{o':HO}
def HOk.write(ok:HOk P w H h)(j:Mut (H x))(m:e=x∨H e=some (.own x))(k:∀b u,b≠e->h.get? b=some u->h'.get? b=some u)(l:∃u,h'.get? e=some u)
  (new:ObjOk P w (upd H x o') h' x o'):HOk P w (upd H x o') h':=λb u q=>by
 have d:∀c y,H c=some (.own y)->c≠x:=λc y r z=>by subst z;rw[r]at j;exact j
 have f:∀c xs,H c=some (.tup xs)->c≠x:=λc xs r z=>by subst z;rw[r]at j;exact j
 by_cases g:b=x
 .subst g;rw[A0]at q;cases q;exact new
 .rw[A3 g]at q;by_cases a:b=e
  .have q':H b=some (.own x):=by
    rcases m with z|z
    .exact absurd (a.trans z) g
    .rw[a];exact z
   rw[q]at q';cases q';obtain⟨v,n⟩:=l;exact⟨v,by rw[a];exact n⟩
  .refine(ok b u q).stay (λc v i r=>k c v ?_ r) (λc r=>by rw[A3 (d c b r)];exact r) λc xs r=>by rw[A3 (f c xs r)];exact r
   rcases i with rfl|i
   .exact a
   .rintro rfl;rcases m with z|z
    .exact d c b i z
    .rw[i]at z;cases z;exact g rfl
end
structure Un(fs ex:qA qE)(H H':Hp)(h h':Heap):Prop where
 keep:∀b o,h.get? b=some o->H b=none->b∉fs->b∉ex->h'.get? b=some o
 slot:∀b o,h.get? b=some o->H b=none->b∈fs->b∉ex->∃sl,h'.get? b=some {o with slots:=sl}
 free:∀b o,h.get? b=some o->H b=none->b∉ex->H' b=none
 there:∀b o,h.get? b=some o->b∉ex->∃o',h'.get? b=some o'
 tups:∀b xs,H b=some (.tup xs)->H' b=some (.tup xs)
 frzs:∀b o u,H b=some (.frz o u)->H' b=some (.frz o u)
 tbls:∀b ps,H b=some (.tbl ps)->∃more,H' b=some (.tbl (ps++more))
section
variable {fs fs' ex ex':qA qE}{H1 H2:Hp}{h1 h2:Heap}{x e:qE}
def Un.any(u:Un fs ex H H1 h h1){a:Obj}(q:h.get? b=some a)(n:H b=none)(d:b∉ex):∃sl,h1.get? b=some {a with slots:=sl}:=by
 by_cases c:b∈fs
 .exact u.slot b a q n c d
 .exact⟨a.slots,u.keep b a q n c d⟩
def Un.kept(k:∀b u,h.get? b=some u->h'.get? b=some u):Un fs ex H H h h' :=
 ⟨λb a q _ _ _=>k b a q,λb a q _ _ _=>⟨a.slots,k b a q⟩,λ_ _ _ n _=>n,λb a q _=>⟨a,k b a q⟩,λ_ _ q=>q,λ_ _ _ q=>q,λ_ ps q=>⟨#[],by rw[q];simp⟩⟩
def Un.refl:Un fs ex H H h h:=Un.kept λ_ _ q=>q
def Un.laid(k:∀b u,h.get? b=some u->h'.get? b=some u)(hp:h.objs.size<=a)(c:H a=none):Un fs ex H (upd H a o) h h' where
 keep:=λb u q _ _ _=>k b u q
 slot:=λb u q _ _ _=>⟨u.slots,k b u q⟩
 free:=λb u q n _=>by rw[A3 (aW (aR (aJ q) hp))];exact n
 there:=λb u q _=>⟨u,k b u q⟩
 tups:=λb xs q=>by rw[A3 (A8 q c)];exact q
 frzs:=λb u xs q=>by rw[A3 (A8 q c)];exact q
 tbls:=λb ps q=>⟨#[],by rw[A3 (A8 q c),q];simp⟩
def Un.write(c:Mut (H x))(j:e=x∨H e=some (.own x))(k:∀b u,b≠e->h.get? b=some u->h'.get? b=some u)(d:∃u,h'.get? e=some u):Un fs ex H (upd H x o) h h':=by
 have i:∀b,H b=none->b≠x:=λb n z=>by subst z;rw[n]at c;exact c
 have g:∀b,H b=none->b≠e:=λb n z=>by
  subst z;rcases j with r|r
  .exact i b n r
  .rw[n]at r;cases r
 have f:∀b u,H b=some u->¬Mut (some u)->b≠x:=λb u q nm z=>by subst z;rw[q]at c;exact nm c
 refine⟨λb u q n _ _=>k b u (g b n) q,λb u q n _ _=>⟨u.slots,k b u (g b n) q⟩,λb u q n _=>by rw[A3 (i b n)];exact n,λb u q _=>?_,
  λb xs q=>by rw[A3 (f b _ q λz=>z)];exact q,λb u xs q=>by rw[A3 (f b _ q λz=>z)];exact q,λb ps q=>⟨#[],by rw[A3 (f b _ q λz=>z),q];simp⟩⟩
 by_cases a:b=e
 .subst a;exact d
 .exact⟨u,k b u a q⟩
end
def trk(h:Heap)(H:Hp):qA qE:=(List.range h.objs.size).filter λa=>(H a).isSome
def a5V(h:Heap)(H:Hp):Heap:=PySem.W.hideAll h (trk h H)
def b0P(h:Heap)(H:Hp):(a5V h H).objs.size=h.objs.size:=PySem.W.hideAll_size _ _
def b3t{o:Obj}(e:h.get? b=some o)(n:H b=none):(a5V h H).get? b=some o :=
 PySem.W.hideAll_get _ e λa=>by
  have q:(H b).isSome=true:=(aQ.mp a).2;rw[n]at q;simp at q
def b5p{o:Obj}(e:(a5V h H).get? b=some o):h.get? b=some o/\H b=none:=by
 have a:h.get? b=some o:=PySem.W.of_hideAll (trk h H) e;refine⟨a,?_⟩;cases q:H b with
 |none=>rfl
 |some x =>
  have c:b∈trk h H:=aQ.mpr ⟨aY.mpr (aJ a),by simp[q]⟩;have z:(a5V h H).get? b=none:=PySem.W.hideAll_none (trk h H) c;rw[z]at e;cases e
def b5Y(g h:Heap)(L:qE):qA (qE×Obj):=(List.range h.objs.size).filterMap λa=>if a=L∨(g.get? a).isSome=true then none else(h.get? a).map λo=>(a,o)
def rest(g h:Heap)(L d:qE):qA (qE×Obj):=(b5Y g h L).filter λp=>decide (p.1≠d)
structure Mod(K:qF)(mg:Str->qD qB)(base:Heap):Prop where
 kin:K.In base
 glob:base.Ns mainGlobals mg
 blt:∃mb,base.Ns builtinsNs mb/\∀x:Str,x≠"__name__"->mb x=bootBuiltins x
 nolimit:base.NoLimit
structure Cx where
 prog:qG
 w:World
 K:qF
 mg:Str->qD qB
 base:Heap
 A:Around
 N:qA Str
 s₀:qC
 H₀:Hp
 env:Env
 outer:qA Env
 stack:qA Env
 ex:qA qE
 fn:Str->Bool
 calm:Bool
 pn:qA (qE×Obj)
 xe:qH
variable {X:Cx}
def frs(l:qA Env):qA qE:=l.filterMap (·.frame)
abbrev Cx.fs(X:Cx):qA qE:=frs X.outer
def Vis(sc:Scope)(x:Str):Prop:=sc.names.lookup x=some .local∨sc.names.lookup x=some .cell∨sc.names.lookup x=some .free
def Loc(sc:Scope)(x:Str):Prop:=sc.names.lookup x=some .local∨sc.names.lookup x=some .cell
def b9F(env:Env)(h:Heap)(m:Str->qD qB)(x:Str)(u:qB):Prop :=
 (env.kindOf x=some .local/\m x=some u)∨((env.kindOf x=some .cell∨env.kindOf x=some .free)/\∃c,env.cells.lookup x=some c/\h.IsCell c (some u))
structure Cx.Ok(X:Cx):Prop where
 mod:Mod X.K X.mg X.base
 kind:X.env.scope.kind=.function
 glob:X.env.globals=mainGlobals
 blt:X.env.builtins=builtinsNs
 above:X.s₀.heap.objs.size<=X.env.locals
 inj:∀x y c,X.env.cells.lookup x=some c->X.env.cells.lookup y=some c->x=y
 has:∀x,(X.env.kindOf x=some .cell∨X.env.kindOf x=some .free)->∃c,X.env.cells.lookup x=some c
 cab:∀x c,X.fn x=true->X.env.cells.lookup x=some c->X.s₀.heap.objs.size<=c
 hd:X.calm=true->X.A.handled=none
 frames:X.A.frames=some X.stack
 stk:X.stack=X.outer∨(X.stack=X.env::X.outer/\X.env.frame=some X.env.locals)
 exf:∀b∈X.ex,b≠X.env.locals/\∀x c,X.env.cells.lookup x=some c->c≠b
 bs:∀b o,X.base.get? b=some o->X.s₀.heap.get? b=some o/\X.H₀ b=none
 bsz:X.base.objs.size<=X.s₀.heap.objs.size
 noex:∀b o,X.base.get? b=some o->b∉X.ex
 exfs:∀b∈X.ex,b∉X.fs
 funs:X.s₀.heap.FunFrames X.base X.outer
 frf:∀b∈X.fs,X.H₀ b=none
structure Inv(X:Cx)(qK:qA (qE×Obj))(σ:qA (qD V))(H:Hp)(s:qC):Prop where
 ok:X.Ok
 os:s.os=X.s₀.os
 bare:AllBare s.gens
 base:Un X.fs X.ex X.H₀ H X.s₀.heap s.heap
 loc:∃m,s.heap.Ns X.env.locals m/\∀(i:Nat) (x:Str) (v:V),X.N[i]?=some x->σ[i]?=some (some v)->Vis X.env.scope x->∃u,RelV v u/\b9F X.env s.heap m x u
 cell:∀x c,X.env.cells.lookup x=some c->∃v,s.heap.IsCell c v
 free:H X.env.locals=none
 freeC:∀x c,X.env.cells.lookup x=some c->H c=none
 pin:∀p∈X.pn++qK,s.heap.get? p.1=some p.2/\H p.1=none/\p.1≠X.env.locals/\p.1∉X.fs/\∀v,p.2.data≠.cell v
 hok:HOk X.prog X.w H s.heap
 len:σ.length=X.N.length
section
variable {σ:qA (qD V)}
def Cx.Ok.nofr(ok:X.Ok){o:Obj}(e:X.base.get? b=some o):b∉X.fs:=λa=>by
 have:=(ok.funs.mem a).1;rw[e]at this;cases this
def Inv.bs(I:Inv X qK σ H s):∀b o,X.base.get? b=some o->s.heap.get? b=some o/\H b=none:=λb o e =>
 ⟨I.base.keep b o (I.ok.bs b o e).1 (I.ok.bs b o e).2 (I.ok.nofr e) (I.ok.noex b o e),I.base.free b o (I.ok.bs b o e).1 (I.ok.bs b o e).2 (I.ok.noex b o e)⟩
def Inv.bk(I:Inv X qK σ H s):∀b o,X.base.get? b=some o->s.heap.get? b=some o:=λb o e=>(I.bs b o e).1
def Inv.mod(I:Inv X qK σ H s):Mod X.K X.mg X.base:=I.ok.mod
def Inv.kIn(I:Inv X qK σ H s):X.K.In s.heap:=I.ok.mod.kin.keeps I.bk
def Inv.lt(I:Inv X qK σ H s):X.env.locals<s.heap.objs.size:=let ⟨_,hn,_⟩:=I.loc;hn.lt
def Inv.sz(I:Inv X qK σ H s):X.s₀.heap.objs.size<=s.heap.objs.size:=a_ I.ok.above (cL I.lt)
def Inv.nofs(I:Inv X qK σ H s)(h:s.heap.objs.size<=a):a∉X.fs:=λb=>by
 obtain⟨_,o,c,_⟩:=I.ok.funs.mem b;exact absurd (aR (aJ c) (a_ I.sz h)) (bX _)
def Inv.cne(I:Inv X qK σ H s):∀x c,X.env.cells.lookup x=some c->c≠X.env.locals:=λx c e z=>by
 obtain⟨v,o,d,hd⟩:=I.cell x c e;obtain⟨m,⟨o',es,ep,b,a,_⟩,_⟩:=I.loc;rw[z,b]at d;cases d;rw[a]at hd;cases hd
def Inv.funs(I:Inv X qK σ H s):s.heap.FunFrames X.base X.outer:=by
 have all:∀(l:qA Env),(∀b∈frs l,b∈X.fs)->X.s₀.heap.FunFrames X.base l->s.heap.FunFrames X.base l:=by
  intro l;induction l with
  |nil=>intro _ _;trivial
  |cons env r k =>
   intro hs g;obtain⟨f,⟨L,o,d,h,i,hd⟩,j⟩:=g;have a:L∈X.fs:=hs L (by unfold frs;rw[ed,d];exact aA);obtain⟨sl,e⟩:=I.base.slot L o i (I.ok.frf L a) a λz=>I.ok.exfs L z a;exact⟨f,⟨L,_,d,h,e,hd⟩,k (λb c=>hs b (by unfold frs;rw[ed,d];exact ax _ c)) j⟩
 exact all X.outer (λ_ c=>c) I.ok.funs
def Inv.stack(I:Inv X qK σ H s):s.heap.FunFrames X.base X.stack:=by
 rcases I.ok.stk with e|⟨e,a⟩
 .rw[e];exact I.funs
 .rw[e];obtain⟨m,b,_⟩:=I.loc;refine .cons (by rw[I.ok.kind];decide) a b ?_ I.funs;exact Heap.get?_none_of_le (a_ I.ok.bsz I.ok.above)
def Inv.stkSub(I:Inv X qK σ H s):∀b∈frs X.stack,b∈X.env.locals::X.fs:=λb a=>by
 rcases I.ok.stk with e|⟨e,c⟩
 .rw[e]at a;exact ax _ a
 .rw[e]at a;unfold frs at a;rw[ed,c]at a;exact a
def Inv.stkFree(I:Inv X qK σ H s):∀b∈frs X.stack,H b=none:=λb a=>by
 rcases aF.mp (I.stkSub b a)with e|a
 .rw[e];exact I.free
 .obtain⟨_,o,ho,_⟩:=I.ok.funs.mem a;exact I.base.free b o ho (I.ok.frf b a) λz=>I.ok.exfs b z a
def Inv.step{g':Array GenState}{d':Drawn}(I:Inv X qK σ H s)
  (g:∀b∈ch,(b∈X.ex∨X.s₀.heap.objs.size<=b)/\b≠X.env.locals/\(∀x c,X.env.cells.lookup x=some c->c≠b)/\∀p∈X.pn++qK,p.1≠b)
  (keep:∀b o,b≠X.env.locals->b∉X.fs->b∉ch->s.heap.get? b=some o->H b=none->h'.get? b=some o)
  (w:∀b o,b≠X.env.locals->b∈X.fs->b∉ch->s.heap.get? b=some o->H b=none->∃sl,h'.get? b=some {o with slots:=sl}) (free:∀b o,b∉ch->s.heap.get? b=some o->H b=none->H' b=none)
  (there:∀b o,b∉ch->s.heap.get? b=some o->∃o',h'.get? b=some o')
  (F:∀b xs,H b=some (.tup xs)->H' b=some (.tup xs)) (C:∀b o u,H b=some (.frz o u)->H' b=some (.frz o u)) (E:∀b ps,H b=some (.tbl ps)->∃more,H' b=some (.tbl (ps++more)))
  (P:∀m,s.heap.Ns X.env.locals m->h'.Ns X.env.locals m) (G:HOk X.prog X.w H' h') (N:AllBare g') :
  Inv X qK σ H' {s with heap:=h',gens:=g',drawn:=d',toks:=t'}:=by
 have D:∀b o,X.s₀.heap.get? b=some o->b≠X.env.locals:=λb o e=>aW (aR (aJ e) I.ok.above);have t:∀b o,X.s₀.heap.get? b=some o->b∉X.ex->b∉ch:=λb o e a y=>by
  rcases(g b y).1 with z|z
  .exact a z
  .exact absurd (aR (aJ e) z) (bX _)
 have f:∀x c,X.env.cells.lookup x=some c->∀v,s.heap.IsCell c v->h'.IsCell c v:=λx c e v ⟨o,A,hd⟩=>by
  have h:c∉ch:=λz=>(g c z).2.2.1 x c e rfl;by_cases K:c∈X.fs
  .obtain⟨sl,q⟩:=w c o (I.cne x c e) K h A (I.freeC x c e);exact⟨_,q,hd⟩
  .exact⟨o,keep c o (I.cne x c e) K h A (I.freeC x c e),hd⟩
 refine⟨I.ok,I.os,N,⟨λb o e n y a=>?_,λb o e n y a=>?_,λb o e n a=>?_,λb o e a=>?_,λb xs e=>F b xs (I.base.tups b xs e),λb o xs e=>C b o xs (I.base.frzs b o xs e),λb ps e=>?_⟩,?_,λx c e=>?_,?_,λx c e=>?_,λp L=>?_,G,I.len⟩
 .exact keep b o (D b o e) y (t b o e a) (I.base.keep b o e n y a) (I.base.free b o e n a)
 .obtain⟨sl,j⟩:=I.base.slot b o e n y a;obtain⟨J,B⟩:=w b _ (D b o e) y (t b o e a) j (I.base.free b o e n a);exact⟨J,B⟩
 .obtain⟨o',j⟩:=I.base.there b o e a;exact free b o' (t b o e a) j (I.base.free b o e n a)
 .obtain⟨o',j⟩:=I.base.there b o e a;exact there b o' (t b o e a) j
 .obtain⟨m1,j⟩:=I.base.tbls b ps e;obtain⟨O,B⟩:=E b _ j;exact⟨m1++O,by rw[B,Array.append_assoc]⟩
 .obtain⟨m,hn,hl⟩:=I.loc;refine⟨m,P m hn,λi x v j B M=>?_⟩;obtain⟨u,r,l⟩:=hl i x v j B M;refine⟨u,r,?_⟩;rcases l with l|⟨k,c,e,z⟩
  .exact .inl l
  .exact .inr ⟨k,c,e,f x c e _ z⟩
 .obtain⟨v,z⟩:=I.cell x c e;exact⟨v,f x c e v z⟩
 .obtain⟨m,⟨o,_,_,A,_⟩,_⟩:=I.loc;exact free _ o (λz=>(g _ z).2.1 rfl) A I.free
 .obtain⟨v,o,A,hd⟩:=I.cell x c e;exact free c o (λz=>(g c z).2.2.1 x c e rfl) A (I.freeC x c e)
 .obtain⟨e,n,ne,nf,d⟩:=I.pin p L;have h:p.1∉ch:=λz=>(g p.1 z).2.2.2 p L rfl;exact⟨keep p.1 p.2 ne nf h e n,free p.1 p.2 h e n,ne,nf,d⟩
def Inv.un(I:Inv X qK σ H s)(u:Un X.fs [] H H' s.heap h')(g:HOk X.prog X.w H' h'):Inv X qK σ H' {s with heap:=h',toks:=t'}:=by
 obtain⟨m,⟨o,es,ep,h,r⟩,_⟩:=id I.loc;obtain⟨sl,i⟩:=u.any h I.free (by simp);exact I.step (g':=s.gens) (d':=s.drawn) (ch:=[]) (λ_ z=>nomatch z) (λb o _ f _ e n=>u.keep b o e n f (by simp)) (λb o _ f _ e n=>u.slot b o e n f (by simp)) (λb o _ e n=>u.free b o e n (by simp)) (λb o _ e=>u.there b o e (by simp)) u.tups u.frzs u.tbls (λl j=>by
  obtain⟨o',d,c,a,k⟩:=j;rw[h]at a;cases a;exact⟨_,d,c,i,k⟩) g I.bare
def Inv.call{g':Array GenState}{d':Drawn}(I:Inv X qK σ H s)(u:Un (frs X.stack) ch H H' s.heap h')(j:HOk X.prog X.w H' h')(q:AllBare g')
  (d:∀b∈ch,(b∈X.ex∨X.s₀.heap.objs.size<=b)/\b≠X.env.locals/\(∀x c,X.env.cells.lookup x=some c->c≠b)/\∀p∈X.pn++qK,p.1≠b) :
  Inv X qK σ H' {s with heap:=h',gens:=g',drawn:=d',toks:=t'}:=by
 obtain⟨m,⟨o,es,ep,k,r⟩,_⟩:=id I.loc;obtain⟨sl,i⟩:=u.any k I.free λz=>(d _ z).2.1 rfl;exact I.step (ch:=ch) d (λb o i l a e n=>u.keep b o e n (λz=>(aF.mp (I.stkSub b z)).elim i l) a) (λb o _ _ a e n=>u.any e n a) (λb o a e n=>u.free b o e n a) (λb o a e=>u.there b o e a) u.tups u.frzs u.tbls (λw t=>by
  obtain⟨o',h,g,f,v⟩:=t;rw[k]at f;cases f;exact⟨_,h,g,i,v⟩) j q
def Inv.turned{it:qE}(I:Inv X qK σ H s)(k:∀b o,b≠it->s.heap.get? b=some o->h'.get? b=some o)(j:H it=none)(f:it≠X.env.locals)
  (h1:it∈X.ex∨X.s₀.heap.objs.size<=it) (h2:∀x c,X.env.cells.lookup x=some c->c≠it) (g:∀p∈X.pn++qK,p.1≠it):Inv X qK σ H {s with heap:=h',toks:=t'}:=by
 have d:∀b u,H b=some u->b≠it:=λb u e z=>by rw[z,j]at e;cases e
 refine I.step (g':=s.gens) (d':=s.drawn) (ch:=[it]) (λb h=>?_) (λb o _ _ a e _=>k b o (λz=>a (by simp[z])) e) (λb o _ _ a e _=>⟨o.slots,k b o (λz=>a (by simp[z])) e⟩) (λ_ _ _ _ n=>n)
  (λb o a e=>⟨o,k b o (λz=>a (by simp[z])) e⟩) (λ_ _ e=>e) (λ_ _ _ e=>e) (λb ps e=>⟨#[],by rw[e];simp⟩) (λm i=>?_) (λb u e=>?_) I.bare
 .have e:b=it:=by simpa using h
  subst e;exact⟨h1,f,h2,g⟩
 .obtain⟨o,es,ep,ho,r⟩:=i;exact⟨o,es,ep,k _ o (dF f) ho,r⟩
 .refine(I.hok b u e).stay (λc v a q=>k c v ?_ q) (λ_ q=>q) λ_ _ q=>q;rcases a with z|z
  .rw[z];exact d b u e
  .exact d c _ z
def Inv.tok(I:Inv X qK σ H s)(t:Nat):Inv X qK σ H {s with toks:=t}:=I.un (h':=s.heap) (t':=t) Un.refl I.hok
def Inv.kept{t':Nat}(I:Inv X qK σ H s)(k:∀b u,s.heap.get? b=some u->h'.get? b=some u):Inv X qK σ H {s with heap:=h',toks:=t'}:=I.un (Un.kept k) (I.hok.kept k)
def Inv.laid{a:qE}{o:HO}{t':Nat}(I:Inv X qK σ H s)(k:∀b u,s.heap.get? b=some u->h'.get? b=some u)(hp:s.heap.objs.size<=a)(new:ObjOk X.prog X.w (upd H a o) h' a o) :
  Inv X qK σ (upd H a o) {s with heap:=h',toks:=t'}:=I.un (Un.laid k hp (I.hok.fresh hp)) (I.hok.laid k hp new)
def Inv.write{x e:qE}{o:HO}{t':Nat}(I:Inv X qK σ H s)(d:Mut (H x))(c:e=x∨H e=some (.own x))(k:∀b u,b≠e->s.heap.get? b=some u->h'.get? b=some u)(a:∃u,h'.get? e=some u)
  (new:ObjOk X.prog X.w (upd H x o) h' x o):Inv X qK σ (upd H x o) {s with heap:=h',toks:=t'}:=I.un (Un.write d c k a) (I.hok.write d c k a new)
def Inv.weak{σ':qA (qD V)}(I:Inv X qK σ H s)(d:σ'.length=σ.length)(w:∀(i:Nat) v,σ'[i]?=some (some v)->σ[i]?=some (some v)):Inv X qK σ' H s :=
 ⟨I.ok,I.os,I.bare,I.base,let ⟨m,hn,hl'⟩:=I.loc;⟨m,hn,λi x v a b c=>hl' i x v a (w i v b) c⟩,I.cell,I.free,I.freeC,I.pin,I.hok,d.trans I.len⟩
def Inv.pins_of{pins':qA (qE×Obj)}(I:Inv X qK σ H s)(h:∀p∈pins',s.heap.get? p.1=some p.2/\H p.1=none/\p.1≠X.env.locals/\p.1∉X.fs/\∀v,p.2.data≠.cell v):Inv X pins' σ H s :=
 ⟨I.ok,I.os,I.bare,I.base,I.loc,I.cell,I.free,I.freeC,λp a=>(ao.mp a).elim (λz=>I.pin p (aO _ z)) (h p),I.hok,I.len⟩
def a6W{N:qA Str}(e:N.Nodup){j:Nat}(a:N[i]?=some x)(b:N[j]?=some x):i=j:=by
 obtain⟨h1,c⟩:=aL.mp a;obtain⟨h2,d⟩:=aL.mp b;exact(List.getElem_inj e).mp (c.trans d.symm)
def a4w{Q:Unit->qC->Prop}(I:Inv X qK σ H s)(Y:X.N.Nodup)(hi:X.N[i]?=some x)(t:Loc X.env.scope x)(r:RelV v u)
  (h:∀s',Inv X qK (σ.set i (some v)) H s'->(∃a,Heap.SameBut a s.heap s'.heap/\(a=X.env.locals∨X.env.cells.lookup x=some a))->Q () s') (hf:X.fn x=true∨X.env.scope.names.lookup x=some .local:=by first|exact .inl rfl|exact .inr rfl|assumption):wpAny M A (storeName X.env x u) Q E s:=by
 obtain⟨m,O,Z⟩:=id I.loc;have G:(X.env.scope.kind==.class || (X.env.scope.kind==.module && X.env.locals != X.env.globals))=false:=by rw[I.ok.kind];rfl
 have hiσ:i<σ.length:=by rw[I.len];exact(aL.mp hi).1
 have cne:=I.cne;have g:∀{a:qE}{h':Heap},(∃o,s.heap.get? a=some o/\H a=none)->Heap.SameBut a s.heap h'->HOk X.prog X.w H h':=λ{a h'} ha hs b ob e=>by
  obtain⟨_,_,w⟩:=ha;refine(I.hok b ob e).stay (λc L l q=>(hs.2 c ?_).trans q) (λ_ q=>q) λ_ _ q=>q;rintro rfl;rcases l with rfl|l
  .rw[w]at e;cases e
  .rw[w]at l;cases l
 rcases t with C|C
 .refine wpAny_storeName_local C O (λh' P hs=>?_) G;obtain⟨oL,_,_,R,_⟩:=id O;refine h _ ⟨I.ok,I.os,I.bare,⟨λb o e n D t=>?_,λb o e n D t=>?_,I.base.free,λb o e t=>?_,I.base.tups,I.base.frzs,I.base.tbls⟩,⟨_,P,λj y W f B N=>?_⟩,λy c e=>?_,I.free,I.freeC,λp S=>?_,g ⟨oL,R,I.free⟩ hs,by simpa using I.len⟩ ⟨_,hs,.inl rfl⟩
  .exact(hs.2 b (aW (aR (aJ e) I.ok.above))).trans (I.base.keep b o e n D t)
  .obtain⟨sl,f⟩:=I.base.slot b o e n D t;exact⟨sl,(hs.2 b (aW (aR (aJ e) I.ok.above))).trans f⟩
  .obtain⟨o',f⟩:=I.base.there b o e t;exact⟨o',(hs.2 b (aW (aR (aJ e) I.ok.above))).trans f⟩
  .by_cases hj:j=i
   .subst hj;rw[hi]at f;cases f;rw[List.getElem?_set_self hiσ]at B;cases B;exact⟨u,r,.inl ⟨C,by simp⟩⟩
   .rw[List.getElem?_set_ne (dF hj)]at B;obtain⟨U,T,q⟩:=Z j y W f B N;refine⟨U,T,?_⟩;rcases q with⟨k,e⟩|⟨k,c,e,z⟩
    .refine .inl ⟨k,?_⟩;have:y≠x:=λe=>hj (a6W Y f (e ▸ hi));simp[this,e]
    .exact .inr ⟨k,c,e,z.sameBut hs (cne y c e)⟩
  .obtain⟨L,z⟩:=I.cell y c e;exact⟨L,z.sameBut hs (cne y c e)⟩
  .obtain⟨e,n,ne,nf,d⟩:=I.pin p S;exact⟨(hs.2 p.1 ne).trans e,n,ne,nf,d⟩
 .have hfn:X.fn x=true:=by
   rcases hf with z|z
   .exact z
   .rw[z]at C;cases C
  obtain⟨c,l⟩:=I.ok.has x (.inl C);obtain⟨L,z⟩:=I.cell x c l;refine wpAny_storeName_cell I.ok.kind C l z (λh' F hs=>?_);obtain⟨oc,J,K⟩:=id z;refine h {s with heap:=h'} ⟨I.ok,I.os,I.bare,⟨λb o e n D t=>?_,λb o e n D t=>?_,I.base.free,λb o e t=>?_,I.base.tups,I.base.frzs,I.base.tbls⟩,⟨m,O.sameBut hs (dF (cne x c l)),λj y W f B N=>?_⟩,λy c' e=>?_,I.free,I.freeC,λp S=>?_,g ⟨oc,J,I.freeC x c l⟩ hs,by simpa using I.len⟩ ⟨c,hs,.inr l⟩
  .exact(hs.2 b (aW (aR (aJ e) (I.ok.cab x c hfn l)))).trans (I.base.keep b o e n D t)
  .obtain⟨sl,f⟩:=I.base.slot b o e n D t;exact⟨sl,(hs.2 b (aW (aR (aJ e) (I.ok.cab x c hfn l)))).trans f⟩
  .obtain⟨o',f⟩:=I.base.there b o e t;exact⟨o',(hs.2 b (aW (aR (aJ e) (I.ok.cab x c hfn l)))).trans f⟩
  .by_cases hj:j=i
   .subst hj;rw[hi]at f;cases f;rw[List.getElem?_set_self hiσ]at B;cases B;exact⟨u,r,.inr ⟨.inl C,c,l,F⟩⟩
   .rw[List.getElem?_set_ne (dF hj)]at B;obtain⟨U,T,q⟩:=Z j y W f B N;refine⟨U,T,?_⟩;rcases q with q|⟨k,c',e,z'⟩
    .exact .inl q
    .refine .inr ⟨k,c',e,z'.sameBut hs ?_⟩;rintro rfl;exact hj (a6W Y f (I.ok.inj _ _ _ e l ▸ hi))
  .by_cases hcc:c'=c
   .subst hcc;exact⟨_,F⟩
   .obtain⟨w2,z2⟩:=I.cell y c' e;exact⟨w2,z2.sameBut hs hcc⟩
  .obtain⟨e,n,ne,nf,d⟩:=I.pin p S;refine⟨(hs.2 p.1 ?_).trans e,n,ne,nf,d⟩;intro q;rw[q,J]at e;have q':oc=p.2:=bH e;exact d L (by rw[<-q'];exact K)
def a3a{Q:Unit->qC->Prop}(I:Inv X qK σ H s)(b:X.N.Nodup)(hi:X.N[i]?=some x)(d:Loc X.env.scope x)(r:RelV v u)
  (h:∀s',Inv X qK (σ.set i (some v)) H s'->Q () s') (c:X.fn x=true∨X.env.scope.names.lookup x=some .local:=by first|exact .inl rfl|exact .inr rfl|assumption):wpAny M A (storeName X.env x u) Q E s :=
 a4w I b hi d r (λs' a _=>h s' a) c
def Inv.call'{s':qC}(I:Inv X qK σ H s)(i:s'.os=s.os)(u:Un (frs X.stack) ch H H' s.heap s'.heap)(d:HOk X.prog X.w H' s'.heap)(h:AllBare s'.gens)
  (a:∀b∈ch,(b∈X.ex∨X.s₀.heap.objs.size<=b)/\b≠X.env.locals/\(∀x c,X.env.cells.lookup x=some c->c≠b)/\∀p∈X.pn++qK,p.1≠b):Inv X qK σ H' s':=by
 obtain⟨h',g,f,t',o'⟩:=s';have e:o'=s.os:=i;subst e;exact I.call (g':=g) (t':=t') (d':=f) u d h a
end
abbrev XK:=qB->qD qE->Hp->Prop
abbrev St:=qA (qD V)
variable {σ:St}
abbrev VK:=V->Hp->Prop
abbrev TE:=St->Hp->VK->Prop
variable {ta te:TE}
abbrev TT:=St->Hp->(Bool->Hp->Prop)->Prop
abbrev TA:=St->Hp->(qA V->Hp->Prop)->Prop
variable {t:TA}
structure Ends where
 nx:St->Hp->Prop
 rt:VK
 bk:St->Hp->Prop:=λ_ _=>False
 ct:St->Hp->Prop:=λ_ _=>False
variable {D:Ends}
abbrev TS:=Ends->St->Hp->Prop
variable {tb:TS}
def EP(X:Cx)(qK:qA (qE×Obj))(σ:St)(Q:VK)(u:qB)(s':qC):Prop:=∃v H',Inv X qK σ H' s'/\RelV v u/\Q v H'
def TP(X:Cx)(qK:qA (qE×Obj))(σ:St)(Q:Bool->Hp->Prop)(b:Bool)(s':qC):Prop:=∃H',Inv X qK σ H' s'/\Q b H'
def AP(X:Cx)(qK:qA (qE×Obj))(σ:St)(Q:qA V->Hp->Prop)(us:qA qB)(s':qC):Prop:=∃vs H',Inv X qK σ H' s'/\Vals vs us/\Q vs H'
def SP(X:Cx)(qK:qA (qE×Obj))(D:Ends)(f:Flow)(s':qC):Prop :=
 match f with
 |.next=>∃σ' H',Inv X qK σ' H' s'/\D.nx σ' H'
 |.brk=>∃σ' H',Inv X qK σ' H' s'/\D.bk σ' H'
 |.cont=>∃σ' H',Inv X qK σ' H' s'/\D.ct σ' H'
 |.ret u=>∃v σ' H',Inv X qK σ' H' s'/\RelV v u/\D.rt v H'
def PE(X:Cx)(e:Expr)(t:TE):Prop :=
 ∀(qK:qA (qE×Obj)) (s:qC) (σ:St) (H:Hp) (Q:VK),Inv X qK σ H s->t σ H Q->wpAny (model X.prog X.w) X.A (eval e X.env) (EP X qK σ Q) X.xe s
def PT(X:Cx)(e:Expr)(t:TT):Prop :=
 ∀(qK:qA (qE×Obj)) (s:qC) (σ:St) (H:Hp) (Q:Bool->Hp->Prop),Inv X qK σ H s->t σ H Q->wpAny (model X.prog X.w) X.A (isTrue e X.env (eval e X.env)) (TP X qK σ Q) X.xe s
def PW(X:Cx)(e:Expr)(t:TT):Prop :=
 ∀(whole:Sem qB) (qK:qA (qE×Obj)) (s:qC) (σ:St) (H:Hp) (Q:Bool->Hp->Prop),Inv X qK σ H s->t σ H Q->wpAny (model X.prog X.w) X.A (isTrue e X.env whole) (TP X qK σ Q) X.xe s
def PW.pt{t:TT}(h:PW X e t):PT X e t:=h _
def PA(X:Cx)(es:qA Expr)(t:TA):Prop :=
 ∀(pos:Pos) (qK:qA (qE×Obj)) (s:qC) (σ:St) (H:Hp) (Q:qA V->Hp->Prop),Inv X qK σ H s->t σ H Q->wpAny (model X.prog X.w) X.A (spliced (backTo pos (starEach es X.env))) (AP X qK σ Q) X.xe s
def PS(X:Cx)(st:Stmt)(t:TS):Prop :=
 ∀(qK:qA (qE×Obj)) (s:qC) (σ:St) (H:Hp) (D:Ends),Inv X qK σ H s->t D σ H->wpAny (model X.prog X.w) X.A (exec st X.env) (SP X qK D) X.xe s
def PSs(X:Cx)(st:qA Stmt)(t:TS):Prop :=
 ∀(qK:qA (qE×Obj)) (s:qC) (σ:St) (H:Hp) (D:Ends),Inv X qK σ H s->t D σ H->wpAny (model X.prog X.w) X.A (execs st X.env) (SP X qK D) X.xe s
def thn{α:Type}{t:Sem α}{Q b:α->qC->Prop}(h:wpAny M A t Q E s)(c:∀a s,Q a s->b a s):wpAny M A t b E s:=du h c λ_ _ x=>x
section
def L4(i:Nat):TE:=λσ H Q=>∃v,σ[i]?=some (some v)/\Q v H
def tC(v:V):TE:=λ_ H Q=>Q v H
def b2D(g:X.N[i]?=some x)(o:Vis X.env.scope x)(hd:(x==("__debug__" : Str))=false:=by decide)(d:(x==("__classdict__" : Str))=false:=by decide):PE X (.Name x pos) (L4 i):=by
 intro qK s σ H Q I h;obtain⟨v,e,h⟩:=h;obtain⟨m,n,j⟩:=I.loc;obtain⟨u,r,l⟩:=j i x v g e o;have fin:EP X qK σ Q u s:=⟨v,H,I,r,h⟩;rcases l with⟨b,k⟩|⟨b,c,f,a⟩
 .exact wpAny_Name (wpAny_loadName_local I.ok.kind b n k fin) hd
 .rcases b with b|b
  .exact wpAny_Name (wpAny_loadName_cell I.ok.kind b f a fin) hd
  .exact wpAny_Name (wpAny_loadName_free I.ok.kind b f a fin d) hd
def b7p{i j pos}:PE X (.Constant (.int i) j pos) (tC (.int i)):=λ_ _ _ H _ I h=>wpAny_Constant_int ⟨.int i,H,I.tok _,⟨_,rfl⟩,h⟩
def b9d{b j pos}:PE X (.Constant (.bool b) j pos) (tC (.bl b)):=λ_ _ _ H _ I h=>Constant_bool ⟨.bl b,H,I,rfl,h⟩
def b7n{j pos}:PE X (.Constant .none j pos) (tC .non):=λ_ _ _ H _ I h=>Constant_none ⟨.non,H,I,rfl,h⟩
def b7k{x j pos}:PE X (.Constant (.str x) j pos) (tC (.str x)):=λ_ _ _ H _ I h=>Calls.Constant_str ⟨.str x,H,I.tok _,⟨_,rfl⟩,h⟩
def Gl(X:Cx)(x:Str):Prop:=X.env.kindOf x=some .globalImplicit
def a1m(I:Inv X qK σ H s)(a:Gl X x)(b:X.mg x=some u)(h:Q u s)
  (hd:(x==("__debug__" : Str))=false:=by decide):wpAny (model X.prog X.w) X.A (eval (.Name x pos) X.env) Q E s :=
 Calls.Name_function_global I.ok.kind a (Calls.loadGlobal_global (by rw[I.ok.glob];exact I.mod.glob.keeps I.bk) b h) hd
def a3A(I:Inv X qK σ H s)(a:Gl X x)(b:X.mg x=none)(d:bootBuiltins x=some u)(h:Q u s)
  (c:x≠"__name__":=by decide) (hd:(x==("__debug__" : Str))=false:=by decide):wpAny (model X.prog X.w) X.A (eval (.Name x pos) X.env) Q E s:=by
 obtain⟨e,h1,h2⟩:=I.mod.blt;exact Calls.Name_function_global I.ok.kind a (Calls.loadGlobal_builtin (by rw[I.ok.glob];exact I.mod.glob.keeps I.bk) b (by rw[I.ok.blt];exact h1.keeps I.bk) ((h2 x c).trans d) h) hd
def b5a(a:Gl X x)(b:X.mg x=none)(d:bootBuiltins x=some u)(r:RelV v u)(c:x≠"__name__":=by decide)(hd:(x==("__debug__" : Str))=false:=by decide):PE X (.Name x pos) (tC v) :=
 λ_ _ _ H _ I h=>a3A I a b d ⟨v,H,I,r,h⟩ c hd
variable {a b:Expr}{tb:TE}
def PC(X:Cx)(op:CmpOp)(a b:Expr)(t:TE):Prop :=
 ∀(qK:qA (qE×Obj)) (s:qC) (σ:St) (H:Hp) (Q:VK),Inv X qK σ H s->t σ H Q ->
  wpAny (model X.prog X.w) X.A (eval a X.env) (λv s₁=>wpAny (model X.prog X.w) X.A (eval b X.env) (λu s₂=>wpAny (model X.prog X.w) X.A (compareOp op v u) (EP X qK σ Q) X.xe s₂) X.xe s₁) X.xe s
def tB(t:TE):TT:=λσ H Q=>t σ H λx H1=>∃c,x=.bl c/\Q c H1
def b7r{c:CmpOp}{t:TE}(h:PC X c a b t)(h1:behindInMarks c b=false:=by first|exact nobehind _ (by decide) (by decide)|rfl):PE X (.Compare a [c] [b] pos) t:=λqK s σ H Q I hw=>wpAny_Compare1 (h qK s σ H Q I hw) h1
def b6Z{e:CmpOp}{t:TE}(h:PC X e a b t)(h1:behindInMarks e b=false:=by first|exact nobehind _ (by decide) (by decide)|rfl):PT X (.Compare a [e] [b] pos) (tB t):=by
 intro qK s σ H Q I hw;refine wpAny_isTrue_Compare1 (thn (h qK s σ H _ I hw) λv s1 h1=>thn h1 λu s2 h2=>thn h2 λc j ⟨x,H1,f,i,g⟩=>?_) h1;obtain⟨d,rfl,q⟩:=g;cases i;exact dk ⟨H1,f,q⟩
variable {tA tB':TT}{rest:qA Expr}
def b8P(t u:TT):TT:=λσ H Q=>t σ H λc H1=>if c=true then u σ H1 Q else Q false H1
def tOr(t u:TT):TT:=λσ H Q=>t σ H λc H1=>if c=true then Q true H1 else u σ H1 Q
def b8K(t:TT):TT:=λσ H Q=>t σ H λc H1=>Q (!c) H1
def pw_and1(b:PT X a tA):PW X (.BoolOp .And [a] pos) tA:=by
 intro d qK s σ H Q I h;refine isTrue_and (thn (b qK s σ H Q I h) λc s1 e=>?_);cases c with
 |true=>exact isTrue_and_nil e
 |false=>exact e
def pw_or1(b:PT X a tA):PW X (.BoolOp .Or [a] pos) tA:=by
 intro d qK s σ H Q I h;refine isTrue_or (thn (b qK s σ H Q I h) λc s1 e=>?_);cases c with
 |false=>exact isTrue_or_nil e
 |true=>exact e
def pw_and(f:PT X a tA)(g:PW X (.BoolOp .And (b::rest) pos) tB'):PW X (.BoolOp .And (a::b::rest) pos) (b8P tA tB'):=by
 intro i qK s σ H Q I h;refine isTrue_and (thn (f qK s σ H _ I h) λc s1 ⟨H1,d,e⟩=>?_);cases c with
 |true=>exact g i qK s1 σ H1 Q d e
 |false=>exact⟨H1,d,e⟩
def pw_or(f:PT X a tA)(g:PW X (.BoolOp .Or (b::rest) pos) tB'):PW X (.BoolOp .Or (a::b::rest) pos) (tOr tA tB'):=by
 intro i qK s σ H Q I h;refine isTrue_or (thn (f qK s σ H _ I h) λc s1 ⟨H1,d,e⟩=>?_);cases c with
 |true=>exact⟨H1,d,e⟩
 |false=>exact g i qK s1 σ H1 Q d e
def b6Y(b:PT X a tA):PT X (.UnaryOp .Not a pos) (b8K tA):=by
 intro qK s σ H Q I h;exact isTrue_not (b qK s σ H (λc H1=>Q (!c) H1) I h)
def b6h(ta tb:TE):TE:=λσ H Q=>ta σ H λx H1=>∃c,x=.bl c/\if c=true then tb σ H1 Q else Q (.bl false) H1
def b8J(ta tb:TE):TE:=λσ H Q=>ta σ H λx H1=>∃c,x=.bl c/\if c=true then Q (.bl true) H1 else tb σ H1 Q
def b6d(ta:TE):TE:=λσ H Q=>ta σ H λx H1=>∃c,x=.bl c/\Q (.bl (!c)) H1
def b7l{op}{t:TE}(h:PE X a t):PE X (.BoolOp op [a] pos) t:=λqK s σ H Q I hw=>BoolOp_one (h qK s σ H Q I hw)
def b7s(f:PE X a ta)(g:PE X (.BoolOp .And (b::rest) pos) tb):PE X (.BoolOp .And (a::b::rest) pos) (b6h ta tb):=by
 intro qK s σ H Q I h;refine BoolOp_and (thn (f qK s σ H _ I h) λv s1 ⟨x,H1,e,i,d⟩=>?_);obtain⟨c,rfl,d⟩:=d;cases i;refine dk ?_;cases c with
 |true=>exact g qK s1 σ H1 Q e d
 |false=>exact⟨.bl false,H1,e,rfl,d⟩
def b9b(f:PE X a ta)(g:PE X (.BoolOp .Or (b::rest) pos) tb):PE X (.BoolOp .Or (a::b::rest) pos) (b8J ta tb):=by
 intro qK s σ H Q I h;refine BoolOp_or (thn (f qK s σ H _ I h) λv s1 ⟨x,H1,e,i,d⟩=>?_);obtain⟨c,rfl,d⟩:=d;cases i;refine dk ?_;cases c with
 |false=>exact g qK s1 σ H1 Q e d
 |true=>exact⟨.bl true,H1,e,rfl,d⟩
def b7m(e:PE X a ta):PE X (.UnaryOp .Not a pos) (b6d ta):=by
 intro qK s σ H Q I h;refine UnaryOp_ (thn (e qK s σ H _ I h) λv s1 ⟨x,H1,d,f,b⟩=>?_);obtain⟨c,rfl,b⟩:=b;cases f;exact not_of (dk ⟨.bl (!c),H1,d,rfl,b⟩)
def tIf(t:TT)(ta tb:TE):TE:=λσ H Q=>t σ H λc H1=>if c=true then ta σ H1 Q else tb σ H1 Q
def b2F(j:PT X c tA)(g:PE X a ta)(i:PE X b tb):PE X (.IfExp c a b pos) (tIf tA ta tb):=by
 intro qK s σ H Q I h;refine wpAny_IfExp (thn (j qK s σ H _ I h) λd s1 ⟨H1,e,f⟩=>?_);cases d with
 |true=>exact g qK s1 σ H1 Q e f
 |false=>exact i qK s1 σ H1 Q e f
end
def SqL(K:qF)(H:Hp)(a:qE)(xs:qA V):Prop :=
 Rd H a (.lst xs) ∨
  ∃(o:Obj) (its:Array qB) (n:Nat),K.lookup a=some o/\o.cls=.type "list"/\o.dict=none/\o.data=.seq its n/\its.size<=sizeLine/\Vals xs its.toList
def SqT(K:qF)(H:Hp)(a:qE)(xs:qA V):Prop :=
 Rd H a (.tup xs) ∨
  ∃(o:Obj) (its:Array qB) (n:Nat),K.lookup a=some o/\o.cls=.type "tuple"/\o.data=.seq its n/\its.size<=sizeLine/\Vals xs its.toList
def b9D:qB->qD V
 |.none=>some .non
 |.bool b=>some (.bl b)
 |.int i _=>some (.int i)
 |.str x _=>some (.str x)
 |.bytes b _=>some (.byt b)
 |.float b _=>some (.flt b)
 |.ref a=>some (.ref a)
 |.type n=>some (.ty n)
 |_=>none
def RelV.abs{x:V}(r:RelV x u):b9D u=some x:=by
 cases x with
 |non=>cases r;rfl
 |bl _=>cases r;rfl
 |int _=>obtain⟨t,rfl⟩:=r;rfl
 |str _=>obtain⟨t,rfl⟩:=r;rfl
 |byt _=>obtain⟨t,rfl⟩:=r;rfl
 |flt _=>obtain⟨t,rfl⟩:=r;rfl
 |ref _=>cases r;rfl
 |ty _=>cases r;rfl
def RelV.inj{x y:V}(r:RelV x u)(q:RelV y u):x=y:=bH (r.abs.symm.trans q.abs)
def Vals.inj:∀{xs ys:qA V}{us:qA qB},Vals xs us->Vals ys us->xs=ys
 |_,_,_,.nil,.nil=>rfl
 |_,_,_,.cons r t,.cons r' t'=>by rw[r.inj r',Vals.inj t t']
section
variable {ys:qA V}
def SqL.of(h:H a=some (.lst xs)):SqL K H a xs:=.inl (.inl h)
def SqT.of(h:H a=some (.tup xs)):SqT K H a xs:=.inl (.inl h)
def Inv.list(I:Inv X qK σ H s)(h:SqL X.K H a xs):∃its:qA qB,Vals xs its/\PlainL s.heap a its.toArray/\xs.length<=sizeLine:=by
 rcases h with h|⟨o,its,n,c,b,hd,hs,d,r⟩
 .obtain⟨z,its,n,r,e⟩:=h.ok I.hok;exact⟨its,r,⟨_,n,e,rfl,rfl,rfl⟩,z⟩
 .refine⟨its.toList,r,⟨o,n,I.kIn a o c,b,hd,by simpa using hs⟩,?_⟩;have e:=r.length;simp only[ay]at e;omega
def Inv.tuple(I:Inv X qK σ H s)(h:SqT X.K H a xs):∃its:qA qB,Vals xs its/\IsTup s.heap a its.toArray/\xs.length<=sizeLine:=by
 rcases h with h|⟨o,its,n,c,b,hs,d,r⟩
 .obtain⟨z,its,r,p⟩:=h.ok I.hok;exact⟨its,r,p,z⟩
 .refine⟨its.toList,r,⟨o,I.kIn a o c,b,n,by simpa using hs⟩,?_⟩;have e:=r.length;simp only[ay]at e;omega
def Inv.list_inj(I:Inv X qK σ H s)(h:SqL X.K H a xs)(h':SqL X.K H a ys):xs=ys:=by
 obtain⟨its,r,⟨o,n,e,_,_,d⟩,_⟩:=I.list h;obtain⟨b,g,⟨o',i,f,_,_,c⟩,_⟩:=I.list h';rw[e]at f;cases f;rw[d]at c;injection c with d1 _
 have:its=b:=by simpa using aU Array.toList d1
 subst this;exact r.inj g
def Inv.tuple_inj(I:Inv X qK σ H s)(h:SqT X.K H a xs)(h':SqT X.K H a ys):xs=ys:=by
 obtain⟨its,r,⟨o,e,_,n,d⟩,_⟩:=I.tuple h;obtain⟨b,g,⟨o',f,_,i,c⟩,_⟩:=I.tuple h';rw[e]at f;cases f;rw[d]at c;injection c with d1 _
 have:its=b:=by simpa using aU Array.toList d1
 subst this;exact r.inj g
end
abbrev Cx.wish(X:Cx)(E:qH):Cx:={X with xe:=E}
abbrev Cx.nox(X:Cx):Cx:=X.wish λ_ _=>False
def Cx.Ok.wish(ok:X.Ok)(E:qH):(X.wish E).Ok :=
 ⟨ok.mod,ok.kind,ok.glob,ok.blt,ok.above,ok.inj,ok.has,ok.cab,ok.hd,ok.frames,ok.stk,ok.exf,ok.bs,ok.bsz,ok.noex,ok.exfs,ok.funs,ok.frf⟩
def Cx.Ok.unwish(ok:(X.wish E).Ok):X.Ok :=
 ⟨ok.mod,ok.kind,ok.glob,ok.blt,ok.above,ok.inj,ok.has,ok.cab,ok.hd,ok.frames,ok.stk,ok.exf,ok.bs,ok.bsz,ok.noex,ok.exfs,ok.funs,ok.frf⟩
def Inv.wish(I:Inv X qK σ H s)(E:qH):Inv (X.wish E) qK σ H s:=⟨I.ok.wish E,I.os,I.bare,I.base,I.loc,I.cell,I.free,I.freeC,I.pin,I.hok,I.len⟩
def Inv.unwish(I:Inv (X.wish E) qK σ H s):Inv X qK σ H s:=⟨I.ok.unwish,I.os,I.bare,I.base,I.loc,I.cell,I.free,I.freeC,I.pin,I.hok,I.len⟩
def SP.unwish{D:Ends}{f:Flow}{s':qC}(h:SP (X.wish E) qK D f s'):SP X qK D f s':=by
 cases f with
 |next=>obtain⟨σ',H',I,q⟩:=h;exact⟨σ',H',I.unwish,q⟩
 |brk=>obtain⟨σ',H',I,q⟩:=h;exact⟨σ',H',I.unwish,q⟩
 |cont=>obtain⟨σ',H',I,q⟩:=h;exact⟨σ',H',I.unwish,q⟩
 |ret u=>obtain⟨v,σ',H',I,r,q⟩:=h;exact⟨v,σ',H',I.unwish,r,q⟩
def PSs.nox{st:qA Stmt}{t:TS}(h:PSs X.nox st t):PSs X st t:=λqK s σ H D I hw =>
 du (h qK s σ H D (I.wish _) hw) (λ_ _ q=>q.unwish) λ_ _ z=>False.elim z
section
variable {st:Stmt}{rest:qA Stmt}{t u:TS}
def b6e:TS:=λD σ H=>D.nx σ H
def b4g(t u:TS):TS:=λD σ H=>t {D with nx:=u D} σ H
def b4H:PSs X [] b6e:=λ_ _ σ H _ I h=>ek ⟨σ,H,I,h⟩
def b2t(h1:PS X st t)(h2:PSs X rest u):PSs X (st::rest) (b4g t u):=by
 intro qK s σ H D I h;refine wpAny_execs_cons (thn (h1 qK s σ H {D with nx:=u D} I h) λf s1 q=>?_);cases f with
 |next =>
  obtain⟨σ',H',a,q⟩:=q;exact h2 qK s1 σ' H' D a q
 |ret v=>exact q
 |brk=>exact q
 |cont=>exact q
def b4G(h1:PS X st t):PSs X [st] t:=by
 intro qK s σ H D I h;refine wpAny_execs_cons (thn (h1 qK s σ H D I h) λf s1 q=>?_);cases f with
 |next=>exact ek q
 |ret v=>exact q
 |brk=>exact q
 |cont=>exact q
def b1L:TS:=λD σ H=>D.bk σ H
def b2x:PS X (.Break pos) b1L:=λ_ _ σ H _ I h=>wpAny_Break ⟨σ,H,I,h⟩
def Inv.quiet(I:Inv X qK σ H s):interactive X.env=false:=by simp[interactive,I.ok.kind]
def b6g(te:TE):TS:=λD σ H=>te σ H λ_ H1=>D.nx σ H1
def b4J(b:PE X e te)(hs:swapsWith e none pos.line X.env=pure false:=by rfl):PS X (.Expr e pos) (b6g te):=by
 intro qK s σ H D I h;exact wpAny_Expr_any (thn (b qK s σ H _ I h) λv s1 ⟨x,H1,a,d,c⟩=>⟨σ,H1,a,c⟩) I.quiet hs
def b6O(te:TE):TS:=λD σ H=>te σ H D.rt
def b7b(b:PE X e te):PS X (.Return (some e) pos) (b6O te):=by
 intro qK s σ H D I h;exact wpAny_Return_some (thn (b qK s σ H _ I h) λv s1 ⟨x,H1,a,d,c⟩=>⟨x,σ,H1,a,d,c⟩)
def b9G:TS:=λD _ H=>D.rt .non H
def b8L(c:TT)(t u:TS):TS:=λD σ H=>c σ H λb H1=>if b=true then t D σ H1 else u D σ H1
def b8Z{a b:qA Stmt}{tc:TT}(j:PT X c tc)(g:PSs X a t)(i:PSs X b u):PS X (.If c a b pos) (b8L tc t u):=by
 intro qK s σ H D I h;refine wpAny_If (thn (j qK s σ H _ I h) λd s1 ⟨H1,e,f⟩=>?_);cases d with
 |true=>exact g qK s1 σ H1 D e f
 |false=>exact i qK s1 σ H1 D e f
end
abbrev TG:=V->St->Hp->(St->Hp->Prop)->Prop
abbrev TGs:=qA V->St->Hp->(St->Hp->Prop)->Prop
def PG(X:Cx)(target:Expr)(t:TG):Prop :=
 ∀(qK:qA (qE×Obj)) (s:qC) (σ:St) (H:Hp) (v:V) (u:qB) (Q:St->Hp->Prop),Inv X qK σ H s->RelV v u->t v σ H Q ->
  wpAny (model X.prog X.w) X.A (assign target X.env u) (λ_ s'=>∃σ' H',Inv X qK σ' H' s'/\Q σ' H') X.xe s
def PGs(X:Cx)(ts:qA Expr)(t:TGs):Prop :=
 ∀(qK:qA (qE×Obj)) (s:qC) (σ:St) (H:Hp) (vs:qA V) (us:qA qB) (Q:St->Hp->Prop),Inv X qK σ H s->Vals vs us->t vs σ H Q ->
  wpAny (model X.prog X.w) X.A (assignInOrder ((assignEach ts X.env).map (·.2)) us) (λ_ s'=>∃σ' H',Inv X qK σ' H' s'/\Q σ' H') X.xe s
abbrev b8A:=V->V->V->Hp->(Hp->Prop)->Prop
def b9t(X:Cx)(t:b8A):Prop :=
 ∀(qK:qA (qE×Obj)) (s:qC) (σ:St) (H:Hp) (o i v:V) (ov iv u:qB) (Q:Hp->Prop),Inv X qK σ H s->RelV o ov->RelV i iv->RelV v u->t o i v H Q ->
  wpAny (model X.prog X.w) X.A (setItem ov iv u) (λ_ s'=>∃H',Inv X qK σ H' s'/\Q H') X.xe s
abbrev TIp:=V->V->Hp->VK->Prop
def B0(i:Nat):TG:=λv σ H Q=>Q (σ.set i (some v)) H
def b4W(b:X.N.Nodup)(hi:X.N[i]?=some x)(d:Loc X.env.scope x)(c:X.fn x=true∨X.env.scope.names.lookup x=some .local:=by first|exact .inl rfl|exact .inr rfl|assumption):PG X (.Name x pos) (B0 i):=by
 intro qK s σ H v u Q I r h;exact wpAny_assign_Name (a3a I b hi d r (λs' a=>⟨_,H,a,h⟩) c)
def a8v:TGs:=λvs σ H Q=>vs=[]/\Q σ H
def Y6(t:TG)(u:TGs):TGs:=λvs σ H Q=>∃v r,vs=v::r/\t v σ H λσ' H'=>u r σ' H' Q
def b4U:PGs X [] a8v:=by
 intro qK s σ H b a Q I r h;obtain⟨e,h⟩:=h;subst e;cases r;exact assignInOrder_nil ⟨σ,H,I,h⟩
def b2C{t:TG}{u:TGs}(h1:PG X e t)(h2:PGs X es u)
  (hs:(assignEach (e::es) X.env).map (·.2)=assign e X.env::(assignEach es X.env).map (·.2):=by rfl):PGs X (e::es) (Y6 t u):=by
 intro qK s σ H g d Q I r h;obtain⟨v,f,b,h⟩:=h;subst b;cases r with
 |cons r rr =>
  rw[hs];refine assignInOrder_cons (thn (h1 qK s σ H _ _ _ I r h) λ_ s1 ⟨σ1,H1,a,c⟩=>?_);exact h2 qK s1 σ1 H1 _ _ Q a rr c
def a7p(K:qF)(n:Nat)(t:TGs):TG:=λv σ H Q=>∃a xs,v=.ref a/\SqT K H a xs/\xs.length=n/\t xs σ H Q
def b7h{t:TGs}(i:X.calm=true)(h:PGs X es t)
  (l:(assignEach es X.env).length=n:=by rfl) (c:(assignEach es X.env).findIdx? (·.1)=none:=by rfl):PG X (.Tuple es k pos) (a7p X.K n t):=by
 intro qK s σ H v u Q I r hw;obtain⟨a,xs,g,m,j,hw⟩:=hw;subst g;cases r;obtain⟨its,d,p,w⟩:=I.tuple m;refine assign_Tuple_tuple (I.ok.hd i) p (by simp[l,<-j,d.length]) c λh' q=>?_;have f:Inv X qK σ H {s with heap:=h'}:=I.kept (t':=s.toks) λb o e=>q b o (aW (aJ e)) e;exact h qK _ σ H xs _ Q f (by simpa using d) hw
def b9q(to ti:TE)(t:b8A):TG:=λv σ H Q=>to σ H λo H1=>ti σ H1 λi H2=>t o i v H2 λH3=>Q σ H3
def b7i{o i:Expr}{to c:TE}{t:b8A}(k:PE X o to)(hi:PE X i c)(hs:b9t X t)
  (j:∀v,assign (.Subscript o i pos) X.env v=(do
   let a <-holding [v] (eval o X.env)
   let b <-holding [v,a] (eval i X.env)
   standAt pos
   holding [v,a,b] (setItem a b v)
   release [v,a,b] []):=by intro _;rfl):PG X (.Subscript o i pos) (b9q to c t):=by
 intro qK s σ H v u Q I r h;rw[j];refine aa (cf (thn (k qK s σ H _ I h) λa s1 ⟨x,H1,e,p,l⟩=>?_));refine aa (cf (thn (hi qK s1 σ H1 _ e l) λb s2 ⟨y,H2,f,q,m⟩=>?_));refine aa (wpAny_standAt (aa (cf (thn (hs qK s2 σ H2 x y v a b u _ f p q r m) λ_ w ⟨d,g,n⟩=>?_))));exact wpAny_release ⟨σ,d,g,n⟩
def a7N(te:TE)(g:TG):TS:=λD σ H=>te σ H λx H1=>g x σ H1 D.nx
def b7e{g:TG}(b:PE X e te)(c:PG X tg g)(hs:swapsWithSole [tg] e pos.line X.env=pure false:=by rfl)(hw:swappedStores [tg] e X.env=pure none:=by rfl)
  (h1:(assignEach [tg] X.env).map (·.2)=[assign tg X.env]:=by rfl):PS X (.Assign [tg] e pos) (a7N te g):=by
 intro qK s σ H D I h;refine wpAny_Assign_stores (thn (b qK s σ H _ I h) λv s1 ⟨x,H1,a,f,d⟩=>?_) hs hw;rw[h1];exact thn (c qK s1 σ H1 x v _ a f d) λ_ s2 q=>q
def b7a{pos':Pos}(c:X.N.Nodup)(hi:X.N[i]?=some x)(g:Loc X.env.scope x)(d:PE X e te)(hs:swapsWith e (some (.Name x pos')) pos.line X.env=pure false:=by rfl)(f:X.fn x=true∨X.env.scope.names.lookup x=some .local:=by first|exact .inl rfl|exact .inr rfl|assumption) :
  PS X (.Assign [.Name x pos'] e pos) (a7N te (B0 i)):=by
 intro qK s σ H D I h;refine wpAny_Assign_Name (thn (d qK s σ H _ I h) λv s1 ⟨y,H1,a,k,j⟩=>?_) hs;exact a3a a c hi g k (λs2 b=>⟨_,H1,b,j⟩) f
def ipI(f:Int->Int->Int):TIp:=λx y H Q=>∃i j,x=.int i/\y=.int j/\Q (.int (f i j)) H
def b1G(c:TT)(tb:TS):TS:=λD σ H=>∃W:Nat->St->Hp->Prop,(∃m,W m σ H)/\∀m σ H,W m σ H ->
 c σ H λb H1=>if b=true then ∃N:St->Hp->Prop,(∀σ' H',N σ' H'->∃m',m'<m/\W m' σ' H')/\tb {D with nx:=N,ct:=N,bk:=D.nx} σ H1 else D.nx σ H1
def b2u{tc:TT}(hp:PassesOwn (model X.prog X.w) X.A X.env X.xe)(t:PT X c tc)(r:PSs X body tb):PS X (.While c body [] pos) (b1G tc tb):=by
 intro qK s σ H D I h;obtain⟨W,⟨u,w⟩,d⟩:=h;refine wpAny_While (codeAny_whileLoop (λn s'=>∃σ' H',Inv X qK σ' H' s'/\W n σ' H') ?_ u ⟨σ,H,I,w⟩);rintro n s1 ⟨σ1,H1,q,w1⟩;refine dG hp (thn (t qK s1 σ1 H1 _ q (d n σ1 H1 w1)) λb s2 ⟨H2,o,e⟩=>?_);cases b with
 |true =>
  obtain⟨N,p,e⟩:=e;rw[az rfl];refine dG hp (thn (r qK s2 σ1 H2 _ o e) λf x g=>?_);cases f with
  |next =>
   obtain⟨σ3,a,i,l⟩:=g;obtain⟨k,j,m⟩:=p σ3 a l;exact⟨k,j,σ3,a,i,m⟩
  |cont =>
   obtain⟨σ3,a,i,l⟩:=g;obtain⟨k,j,m⟩:=p σ3 a l;exact⟨k,j,σ3,a,i,m⟩
  |brk=>exact g
  |ret v=>exact g
 |false =>
  rw[ar bf];exact ek ⟨σ1,H2,o,e⟩
structure It where
 go:Nat->Hp->Prop
 yld:Nat->Hp->V->Hp->Prop
 stop:Nat->Hp->Prop
def a2d(X:Cx)(qK:qA (qE×Obj))(H:Hp)(b:qE):Prop :=
 H b=none/\b≠X.env.locals/\b∉X.fs/\(b∈X.ex∨X.s₀.heap.objs.size<=b)/\(∀x c,X.env.cells.lookup x=some c->c≠b)/\∀p∈X.pn++qK,p.1≠b
def Inv.fpOk(I:Inv X qK σ H s)(a:s.heap.objs.size<=b)(d:H' b=none):a2d X qK H' b:=by
 refine⟨d,dw (aR I.lt a),I.nofs a,.inr (a_ I.sz a),λx c e z=>?_,λp f z=>?_⟩
 .obtain⟨v,q⟩:=I.cell x c e;exact absurd (aR q.lt (by rw[z];exact a)) (bX _)
 .exact absurd (aR (aJ (I.pin p f).1) (by rw[z];exact a)) (bX _)
structure Turn(P:qG)(w:World)(K:qF)(tg:Expr)(J:It)(fp:qA qE)(it:qE)(tn:Nat->Heap->Prop):Prop where
 mem:it∈fp
 obj:∀i h,tn i h->∀b∈fp,∃o,h.get? b=some o/\∀v,o.data≠.cell v
 keep:∀i h h',tn i h->(∀b∈fp,∀o,h.get? b=some o->h'.get? b=some o)->tn i h'
 item:∀(X:Cx),X.prog=P->X.w=w->X.K=K->X.calm=true->∀(i:Nat) (qK:qA (qE×Obj)) (s:qC) (σ:St) (H:Hp) (E:qH),Inv X qK σ H s->(∀b∈fp,a2d X qK H b)->tn i s.heap->J.go i H ->
  wpAny (model P w) X.A (pyNext (.ref it)) (λr s1=>∃u,r=some u /\
   wpAny (model P w) X.A (letOwnedTupleGo tg (.ref it) u) (λ_ s2=>∃x H',Inv X qK σ H' s2/\RelV x u/\J.yld i H x H'/\tn (i+1) s2.heap/\∀b∈fp,H' b=none) E s1) E s
 done:∀(X:Cx),X.prog=P->X.w=w->X.K=K->X.calm=true->∀(i:Nat) (qK:qA (qE×Obj)) (s:qC) (σ:St) (H:Hp) (E:qH),Inv X qK σ H s->(∀b∈fp,a2d X qK H b)->tn i s.heap->J.stop i H ->
  wpAny (model P w) X.A (pyNext (.ref it)) (λr s1=>r=none/\Inv X qK σ H s1) E s
 self:∀(A:Around) (i:Nat) (s:qC) (Q:qH) (E:qH),tn i s.heap->Q (.ref it) s->wpAny (model P w) A (pyIter (.ref it)) Q E s
abbrev TI:=St->Hp->(It->Hp->Prop)->Prop
def PIE(X:Cx)(qK:qA (qE×Obj))(σ:St)(tg:Expr)(R:It->Hp->Prop)(itv:qB)(s2:qC):Prop :=
 ∃(it:qE) (fp:qA qE) (tn:Nat->Heap->Prop) (J:It) (H':Hp),itv=.ref it/\Inv X qK σ H' s2/\Turn X.prog X.w X.K tg J fp it tn/\tn 0 s2.heap/\(∀b∈fp,a2d X qK H' b)/\R J H'
def PI(X:Cx)(tg iter:Expr)(wi:TI):Prop :=
 ∀(qK:qA (qE×Obj)) (s:qC) (σ:St) (H:Hp) (R:It->Hp->Prop),Inv X qK σ H s->wi σ H R ->
  wpAny (model X.prog X.w) X.A (eval iter X.env) (λv s1=>wpAny (model X.prog X.w) X.A (pyIter v) (PIE X qK σ tg R) X.xe s1) X.xe s
def a9G{it:qE}{o:Obj}{n:String}{vs:Array qB}{Q:Unit->qC->Prop}(d:s.heap.get? it=some o)(b:o.cls=.type n)(hd:o.data=.fields vs)
  (c:["enumerate","zip","dict_itemiterator","dict_reverseitemiterator","odict_iterator","itertools.zip_longest","itertools.pairwise"].contains n=false) (a:Q () s):wpAny M A (letOwnedTupleGo tg (.ref it) u) Q E s:=by
 unfold letOwnedTupleGo;cases tg<;>first
  |exact ae a
  | (cases u <;> first
    |exact ae a
    | (refine aa (wpAny_load d ?_)
       rw[b,hd];show wpAny M A (if (["enumerate","zip","dict_itemiterator","dict_reverseitemiterator","odict_iterator","itertools.zip_longest","itertools.pairwise"].contains n && vs[0]? == some (rawInt _))=true then _ else _) Q E s;rw[ar (by intro h;rw[c,eO]at h;cases h)];exact ae a))
def Itl(K:qF)(a:qE):It :=
 ⟨λi H=>∃xs x,SqL K H a xs/\xs[i]?=some x,λi H x H'=>H'=H/\∀xs,SqL K H a xs->xs[i]?=some x,λi H=>∃xs,SqL K H a xs/\xs.length<=i⟩
def Itt(K:qF)(a:qE):It :=
 ⟨λi H=>∃xs x,SqT K H a xs/\xs[i]?=some x,λi H x H'=>H'=H/\∀xs,SqT K H a xs->xs[i]?=some x,λi H=>∃xs,SqT K H a xs/\xs.length<=i⟩
def Itr(lo:Int)(n:Nat):It:=⟨λi _=>i<n,λi H x H'=>H'=H/\x=.int (lo+i),λi _=>n<=i⟩
def a9X(a it:qE):Turn P w K tg (Itl K a) [it] it (λi h=>h.IsListIter it a i) where
 mem:=by simp
 obj:=λi h st b f=>by
  have e:b=it:=by simpa using f
  subst e;obtain⟨o,e,c,d⟩:=st;exact⟨o,e,λv z=>by rw[d]at z;cases z⟩
 keep:=λi h h' st k=>st.at λo e=>k it (by simp) o e
 item:=by
  intro X t hw r C i qK s σ H E I g st y;subst t hw r;obtain⟨xs,x,j,A⟩:=y;obtain⟨its,B,p,L⟩:=I.list j;obtain⟨u,G,M⟩:=B.get A;obtain⟨l,f1,f2,m,n,q⟩:=g it (by simp);refine wpAny_pyNext_list_item st p.isList (x:=u) (by simpa using G) λh' st' N=>?_;have D:Inv X qK σ H {s with heap:=h'}:=I.turned (t':=s.toks) (λb o f e=>(N.2 b f).trans e) l f1 m n q;obtain⟨o,e,c,d⟩:=id st';exact⟨u,rfl,a9G (s:={s with heap:=h'}) e c d (by decide) ⟨x,H,D,M,⟨rfl,λys J=>by rw[I.list_inj J j];exact A⟩,st',λb f=>(g b f).1⟩⟩
 done:=by
  intro X t hw r C i qK s σ H E I g st y;subst t hw r;obtain⟨xs,j,A⟩:=y;obtain⟨its,B,p,L⟩:=I.list j;obtain⟨l,f1,f2,m,n,q⟩:=g it (by simp);have O:=B.length;exact wpAny_pyNext_list_end (I.ok.hd C) st p.isList (by simp;omega) λh' F=>⟨rfl,I.turned (t':=s.toks) (λb o f e=>F b o f e) l f1 m n q⟩
 self:=λ_ _ _ _ _ st h=>wpAny_pyIter_listiter st h
def a7I(a it:qE):Turn P w K tg (Itt K a) [it] it (λi h=>h.IsTupleIter it a i) where
 mem:=by simp
 obj:=λi h st b f=>by
  have e:b=it:=by simpa using f
  subst e;obtain⟨o,e,c,d⟩:=st;exact⟨o,e,λv z=>by rw[d]at z;cases z⟩
 keep:=λi h h' st k=>st.at λo e=>k it (by simp) o e
 item:=by
  intro X t hw r C i qK s σ H E I g st y;subst t hw r;obtain⟨xs,x,j,A⟩:=y;obtain⟨its,B,p,L⟩:=I.tuple j;obtain⟨u,G,M⟩:=B.get A;obtain⟨l,f1,f2,m,n,q⟩:=g it (by simp);refine wpAny_pyNext_tuple_item st (show s.heap.IsTuple a its.toArray from p) (x:=u) (by simpa using G) λh' st' N=>?_;have D:Inv X qK σ H {s with heap:=h'}:=I.turned (t':=s.toks) (λb o f e=>(N.2 b f).trans e) l f1 m n q;obtain⟨o,e,c,d⟩:=id st';exact⟨u,rfl,a9G (s:={s with heap:=h'}) e c d (by decide) ⟨x,H,D,M,⟨rfl,λys J=>by rw[I.tuple_inj J j];exact A⟩,st',λb f=>(g b f).1⟩⟩
 done:=by
  intro X t hw r C i qK s σ H E I g st y;subst t hw r;obtain⟨xs,j,A⟩:=y;obtain⟨its,B,p,L⟩:=I.tuple j;obtain⟨l,f1,f2,m,n,q⟩:=g it (by simp);have O:=B.length;exact wpAny_pyNext_tuple_end (I.ok.hd C) st (show s.heap.IsTuple a its.toArray from p) (by simp;omega) λh' F=>⟨rfl,I.turned (t':=s.toks) (λb o f e=>F b o f e) l f1 m n q⟩
 self:=λ_ _ _ _ _ st h=>wpAny_pyIter_tupleiter st h
def a7J(it:qE)(lo:Int)(n:Nat):Turn P w K tg (Itr lo n) [it] it (λi h=>IsRangeIter h it (lo+(i:Nat)*1) ((n:Int)-(i:Nat)) 1) where
 mem:=by simp
 obj:=λi h st b a=>by
  have e:b=it:=by simpa using a
  subst e;exact⟨_,st,λv z=>by
   have y:Data.fields _=Data.cell v:=z;cases y⟩
 keep:=λi h h' st k=>k it (by simp) _ st
 item:=by
  intro X m hw l p i qK s σ H E I c st q;subst m hw l;obtain⟨d,f1,f2,f,g,j⟩:=c it (by simp);have W:=Walks.range (prog:=X.prog) (w:=X.w) (I.ok.hd p) it lo 1 n;refine W.item i s _ _ q st λv h' tk x st' kk=>?_;obtain⟨t,rfl⟩:=x;have r:Inv X qK σ H {s with heap:=h',toks:=tk}:=I.turned (λb o a e=>kk b o (by simpa using a) e) d f1 f g j;refine⟨_,rfl,a9G (s:={s with heap:=h',toks:=tk}) (n:="range_iterator") st' rfl rfl (by decide) ⟨.int (lo+i),H,r,⟨t,?_⟩,⟨rfl,rfl⟩,st',λb a=>(c b a).1⟩⟩;rw[Int.mul_one]
 done:=by
  intro X m hw l p i qK s σ H E I c st q;subst m hw l;obtain⟨d,f1,f2,f,g,j⟩:=c it (by simp);exact wpAny_pyNext_range_end (I.ok.hd p) st (by have:n<=i:=q;omega) λh' u=>⟨rfl,I.turned (t':=s.toks) (λb o a e=>u b o a e) d f1 f g j⟩
 self:=λ_ _ _ _ _ st h=>wpAny_pyIter_rangeiter st h
def b3r(K:qF)(tl:TE):TI:=λσ H R=>tl σ H λx H1=>∃a,x=.ref a/\(∃xs,SqL K H1 a xs)/\R (Itl K a) H1
def b8e(K:qF)(tl:TE):TI:=λσ H R=>tl σ H λx H1=>∃a,x=.ref a/\(∃xs,SqT K H1 a xs)/\R (Itt K a) H1
def b4S{tl:TE}(f:PE X l tl):PI X tg l (b3r X.K tl):=by
 intro qK s σ H R I h;refine thn (f qK s σ H _ I h) λv s1 ⟨x,H1,c,j,i⟩=>?_;obtain⟨a,e,⟨xs,g⟩,q⟩:=i;subst e;cases j;obtain⟨its,m,p,k⟩:=c.list g;refine fv p.isList ?_;refine⟨s1.heap.objs.size,[s1.heap.objs.size],_,_,H1,rfl,c.kept (t':=s1.toks) λb o e=>aj _ e,a9X a _,⟨_,aG _ rfl,rfl,rfl⟩,λb d=>?_,q⟩;have e:b=s1.heap.objs.size:=by simpa using d
 subst e;exact c.fpOk (aq _) (c.hok.fresh (aq _))
def b7g{tl:TE}(f:PE X l tl):PI X tg l (b8e X.K tl):=by
 intro qK s σ H R I h;refine thn (f qK s σ H _ I h) λv s1 ⟨x,H1,c,j,i⟩=>?_;obtain⟨a,e,⟨xs,g⟩,q⟩:=i;subst e;cases j;obtain⟨its,m,p,k⟩:=c.tuple g;refine wpAny_pyIter_tuple (show s1.heap.IsTuple a its.toArray from p) ?_;refine⟨s1.heap.objs.size,[s1.heap.objs.size],_,_,H1,rfl,c.kept (t':=s1.toks) λb o e=>aj _ e,a7I a _,⟨_,aG _ rfl,rfl,rfl⟩,λb d=>?_,q⟩;have e:b=s1.heap.objs.size:=by simpa using d
 subst e;exact c.fpOk (aq _) (c.hok.fresh (aq _))
def b2m{R:It->Hp->Prop}{lo hi:Int}{t u v:Tok}{tk:Nat}(I:Inv X qK σ H s)(h1 : -(2 ^ 62)<=lo)(h2:lo<2 ^ 62)(d : -(2 ^ 62)<=hi)(f:hi<2 ^ 62)
  (q:R (Itr lo (hi-lo).toNat) H):wpAny (model X.prog X.w) X.A (pyIter (.ref s.heap.objs.size)) (PIE X qK σ tg R) E {s with heap:=s.heap.push {cls:=.type "range",data:=.fields #[.int lo t,.int hi u,.int 1 v]},toks:=tk}:=by
 refine wpAny_pyIter_range (IsRange.new ..) (small_one h1 h2 d f) ?_;have a:Inv X qK σ H {s with heap:=s.heap.push {cls:=.type "range",data:=.fields #[.int lo t,.int hi u,.int 1 v]},toks:=tk}:=I.kept λb o e=>aj _ e;refine⟨(s.heap.push {cls:=.type "range",data:=.fields #[.int lo t,.int hi u,.int 1 v]}).objs.size,[(s.heap.push {cls:=.type "range",data:=.fields #[.int lo t,.int hi u,.int 1 v]}).objs.size],_,_,H,rfl,
  a.kept (t':=tk) λb o e=>aj _ e,a7J _ lo (hi-lo).toNat,?_,λb g=>?_,q⟩
 .have e1:lo+((0:Nat):Int)*1=lo:=by simp
  have c:(((hi-lo).toNat:Nat):Int)-((0:Nat):Int)=Builtin.Range.rangeSize lo hi 1:=by rw[rangeSize_one];split<;>omega
  show IsRangeIter _ _ (lo+((0:Nat):Int)*1) ((((hi-lo).toNat:Nat):Int)-((0:Nat):Int)) 1;rw[e1,c];exact aG _ rfl
 .have e:b=(s.heap.push {cls:=.type "range",data:=.fields #[.int lo t,.int hi u,.int 1 v]}).objs.size:=by simpa using g
  subst e;exact a.fpOk (aq _) (a.hok.fresh (aq _))
def b6C(ta:TA):TI:=λσ H R=>ta σ H λvs H1=>∃j:Int,vs=[.int j] /\ -(2 ^ 62)<=j/\j<2 ^ 62/\R (Itr 0 j.toNat) H1
def b0r{a:Expr}{ta:TA}{p:Pos}(f:Gl X "range")(g:X.mg "range"=none)(d:PA X [a] ta)(hs:starEach [a] X.env=[(false,eval a X.env)]:=by rfl):PI X tg (.Call (.Name "range" p) [a] [] pos) (b6C ta):=by
 intro qK s σ H R I h;refine Call_ (a3A I f g boot_range (eS (thn (d pos qK s σ H _ I h) λl s1 ⟨m,H1,c,k,b⟩=>?_) hs rfl));obtain⟨j,e,b,i,q⟩:=b;subst e;cases k with
 |cons r rr =>
  cases rr;obtain⟨t,rfl⟩:=r;exact call_range_1 (b2m c (by omega) (by omega) b i (by simpa using q))
def b8M(wi:TI)(g:TG)(tb:TS):TS:=λD σ H=>wi σ H λJ H1=>∃W:Nat->Nat->St->Hp->Prop,(∃m,W 0 m σ H1)/\∀i m σ H,W i m σ H ->
 (J.stop i H/\D.nx σ H)∨(J.go i H/\∃N:St->Hp->Prop,(∀σ' H',N σ' H'->∃m',m'<m/\W (i+1) m' σ' H')/\∀x H',J.yld i H x H'->g x σ H' λσ2 H2=>tb {D with nx:=N,ct:=N,bk:=D.nx} σ2 H2)
def a3o(fp:qA qE)(h:Heap):qA (qE×Obj):=fp.filterMap λb=>(h.get? b).map λo=>(b,o)
def X2{o:Obj}(a:b∈fp)(e:h.get? b=some o):(b,o)∈a3o fp h:=ck.mpr ⟨b,a,by rw[e];rfl⟩
def b0F{p:qE×Obj}(hp:p∈a3o fp h):p.1∈fp/\h.get? p.1=some p.2:=by
 obtain⟨b,c,e⟩:=ck.mp hp;cases q:h.get? b with
 |none=>rw[q]at e;cases e
 |some o =>
  rw[q]at e;have a:(b,o)=p:=bH e;subst a;exact⟨c,q⟩
def Inv.pinned(I:Inv X qK σ H s)(g:∀b∈fp,a2d X qK H b)(h:∀b∈fp,∃o,s.heap.get? b=some o/\∀v,o.data≠.cell v):Inv X (qK++a3o fp s.heap) σ H s :=
 I.pins_of λp i=>(ao.mp i).elim (λz=>I.pin p (aH _ z)) λz=>by
  obtain⟨c,e⟩:=b0F z;obtain⟨f,f1,f2,_⟩:=g p.1 c;obtain⟨o,a,d⟩:=h p.1 c;rw[e]at a;cases a;exact⟨e,f,f1,f2,d⟩
def Inv.unpinned{pl:qA (qE×Obj)}(I:Inv X (qK++pl) σ H s):Inv X qK σ H s:=I.pins_of λp a=>I.pin p (aH _ (aO _ a))
def b7c{U:TI}{g:TG}(hp:PassesOwn (model X.prog X.w) X.A X.env X.xe)(P:X.calm=true)(hi:PI X tg l U)(hg:PG X tg g)(k:PSs X body tb)
  (hs:∀x,foldedSetIterable l X.env x=pure x:=by intro _;rfl):PS X (.For tg l body [] pos) (b8M U g tb):=by
 intro qK s σ H D I h;refine wpAny_For (thn (hi qK s σ H _ I h) λv s1 h1=>thn h1 λa0 s2 h2=>?_) hs;obtain⟨it,fp,S,J,H2,e,Y,T,L,f2,W,⟨m0,w0⟩,B⟩:=h2;subst e;have p:∀{H':Hp},(∀b∈fp,H' b=none)->∀b∈fp,a2d X qK H' b:=λhn b k=>⟨hn b k,(f2 b k).2⟩;refine codeAny_forLoop_any (λn s'=>∃i σ' H',Inv X qK σ' H' s'/\S i s'.heap/\(∀b∈fp,H' b=none)/\W i n σ' H') ?_ m0 ⟨0,σ,H2,Y,L,λb k=>(f2 b k).1,w0⟩;rintro n Q ⟨i,σ3,C,O,z,w,w3⟩;rcases B i n σ3 C w3 with⟨A,qn⟩|⟨go,N,hN,step⟩
 .refine dG hp (thn (T.done X rfl rfl rfl P i qK Q σ3 C X.xe O (p w) z A) λr s4 ⟨G,Z⟩=>?_);subst G;exact ek ⟨σ3,C,Z,qn⟩
 .refine dG hp (thn (T.item X rfl rfl rfl P i qK Q σ3 C X.xe O (p w) z go) λr s4 ⟨u,G,h4⟩=>?_);subst G;refine dG hp (thn h4 λ_ R ⟨x,M,I5,r5,y5,t,F⟩=>?_);have E:=I5.pinned (p F) (T.obj _ _ t);refine dG hp (thn (hg _ R σ3 M x u _ E r5 (step x M y5)) λ_ s6 ⟨σ6,V,I6,q6⟩=>?_);refine dG hp (thn (k _ s6 σ6 V _ I6 q6) λf K q=>?_);have j:∀{σ7:St}{a:Hp},Inv X (qK++a3o fp R.heap) σ7 a K->N σ7 a->∃m,m<n/\∃i σ' H',Inv X qK σ' H' K/\S i K.heap/\(∀b∈fp,H' b=none)/\W i m σ' H':=λ{σ7 a} c y=>by
   obtain⟨m',hm,w7⟩:=hN σ7 a y;refine⟨m',hm,i+1,σ7,a,c.unpinned,T.keep _ _ _ t λb k o e=>(c.pin (b,o) (aH _ (aH _ (X2 k e)))).1,λb k=>?_,w7⟩;obtain⟨o,e,d⟩:=T.obj _ _ t b k;exact(c.pin (b,o) (aH _ (aH _ (X2 k e)))).2.1
  cases f with
  |next=>obtain⟨σ7,a,c,y⟩:=q;exact j c y
  |cont=>obtain⟨σ7,a,c,y⟩:=q;exact j c y
  |brk=>obtain⟨σ7,a,c,q⟩:=q;exact⟨σ7,a,c.unpinned,q⟩
  |ret v=>obtain⟨x7,σ7,a,c,r7,q⟩:=q;exact⟨x7,σ7,a,c.unpinned,r7,q⟩
def N7{g:TG}(b:Nat->St->Hp->Prop)(h0:b 0 σ H)(f:∀i σ H,i<=xs.length->b i σ H->SqL K H a xs)
  (hs:∀i x σ H,xs[i]?=some x->b i σ H->g x σ H λσ2 H2=>tb {D with nx:=b (i+1),ct:=b (i+1),bk:=D.nx} σ2 H2) (hd:∀σ H,b xs.length σ H->D.nx σ H) :
  ∃W:Nat->Nat->St->Hp->Prop,(∃m,W 0 m σ H)/\∀i m σ H,W i m σ H ->
   ((Itl K a).stop i H/\D.nx σ H)∨((Itl K a).go i H/\∃N:St->Hp->Prop,(∀σ' H',N σ' H'->∃d,d<m/\W (i+1) d σ' H')/\∀x H',(Itl K a).yld i H x H'->g x σ H' λσ2 H2=>tb {D with nx:=N,ct:=N,bk:=D.nx} σ2 H2):=by
 refine⟨λi m σ H=>m=xs.length-i/\i<=xs.length/\b i σ H,⟨xs.length,by simp,bu _,h0⟩,?_⟩;rintro i m σ H ⟨rfl,hi,p⟩;have q:=f i σ H hi p;by_cases c:i<xs.length
 .refine .inr ⟨⟨xs,xs[i],q,by simp[c]⟩,b (i+1),λσ' H' h=>⟨xs.length-(i+1),by omega,rfl,c,h⟩,λx H' y=>?_⟩;obtain⟨e,y⟩:=y;subst e;exact hs i x σ _ (y xs q) p
 .have e:i=xs.length:=by omega
  subst e;exact .inl ⟨⟨xs,q,aq _⟩,hd σ H p⟩
def a9K{g:TG}(b:Nat->St->Hp->Prop)(h0:b 0 σ H)(f:∀i σ H,i<=xs.length->b i σ H->SqT K H a xs)
  (hs:∀i x σ H,xs[i]?=some x->b i σ H->g x σ H λσ2 H2=>tb {D with nx:=b (i+1),ct:=b (i+1),bk:=D.nx} σ2 H2) (hd:∀σ H,b xs.length σ H->D.nx σ H) :
  ∃W:Nat->Nat->St->Hp->Prop,(∃m,W 0 m σ H)/\∀i m σ H,W i m σ H ->
   ((Itt K a).stop i H/\D.nx σ H)∨((Itt K a).go i H/\∃N:St->Hp->Prop,(∀σ' H',N σ' H'->∃d,d<m/\W (i+1) d σ' H')/\∀x H',(Itt K a).yld i H x H'->g x σ H' λσ2 H2=>tb {D with nx:=N,ct:=N,bk:=D.nx} σ2 H2):=by
 refine⟨λi m σ H=>m=xs.length-i/\i<=xs.length/\b i σ H,⟨xs.length,by simp,bu _,h0⟩,?_⟩;rintro i m σ H ⟨rfl,hi,p⟩;have q:=f i σ H hi p;by_cases c:i<xs.length
 .refine .inr ⟨⟨xs,xs[i],q,by simp[c]⟩,b (i+1),λσ' H' h=>⟨xs.length-(i+1),by omega,rfl,c,h⟩,λx H' y=>?_⟩;obtain⟨e,y⟩:=y;subst e;exact hs i x σ _ (y xs q) p
 .have e:i=xs.length:=by omega
  subst e;exact .inl ⟨⟨xs,q,aq _⟩,hd σ H p⟩
def a4P{lo:Int}{g:TG}(a:Nat->St->Hp->Prop)(h0:a 0 σ H)
  (hs:∀i σ H,i<n->a i σ H->g (.int (lo+i)) σ H λσ2 H2=>tb {D with nx:=a (i+1),ct:=a (i+1),bk:=D.nx} σ2 H2) (hd:∀σ H,a n σ H->D.nx σ H) :
  ∃W:Nat->Nat->St->Hp->Prop,(∃m,W 0 m σ H)/\∀i m σ H,W i m σ H ->
   ((Itr lo n).stop i H/\D.nx σ H)∨((Itr lo n).go i H/\∃N:St->Hp->Prop,(∀σ' H',N σ' H'->∃c,c<m/\W (i+1) c σ' H')/\∀x H',(Itr lo n).yld i H x H'->g x σ H' λσ2 H2=>tb {D with nx:=N,ct:=N,bk:=D.nx} σ2 H2):=by
 refine⟨λi m σ H=>m=n-i/\i<=n/\a i σ H,⟨n,by simp,bu _,h0⟩,?_⟩;rintro i m σ H ⟨rfl,hi,p⟩;by_cases b:i<n
 .refine .inr ⟨b,a (i+1),λσ' H' d=>⟨n-(i+1),by omega,rfl,b,d⟩,λx H' y=>?_⟩;obtain⟨e,y⟩:=y;subst e y;exact hs i σ _ b p
 .have e:i=n:=by omega
  subst e;exact .inl ⟨aq _,hd σ H p⟩
abbrev R2:=V->V->Hp->VK->Prop
def OpR(X:Cx)(f:qB->qB->Sem qB)(r:R2):Prop :=
 ∀(qK:qA (qE×Obj)) (s:qC) (σ:St) (H:Hp) (x y:V) (v u:qB) (Q:VK),Inv X qK σ H s->RelV x v->RelV y u->r x y H Q ->
  wpAny (model X.prog X.w) X.A (f v u) (EP X qK σ Q) X.xe s
def UnR(X:Cx)(f:qB->Sem qB)(r:V->Hp->VK->Prop):Prop :=
 ∀(qK:qA (qE×Obj)) (s:qC) (σ:St) (H:Hp) (x:V) (v:qB) (Q:VK),Inv X qK σ H s->RelV x v->r x H Q ->
  wpAny (model X.prog X.w) X.A (f v) (EP X qK σ Q) X.xe s
def D9(X:Cx)(f:qB)(r:qA V->Hp->VK->Prop):Prop :=
 ∀(qK:qA (qE×Obj)) (s:qC) (σ:St) (H:Hp) (xs:qA V) (us:qA qB) (Q:VK),Inv X qK σ H s->Vals xs us->r xs H Q ->
  wpAny (model X.prog X.w) X.A (call f us) (EP X qK σ Q) X.xe s
def b9E(X:Cx)(r:V->Hp->(Bool->Hp->Prop)->Prop):Prop :=
 ∀(qK:qA (qE×Obj)) (s:qC) (σ:St) (H:Hp) (x:V) (v:qB) (Q:Bool->Hp->Prop),Inv X qK σ H s->RelV x v->r x H Q ->
  wpAny (model X.prog X.w) X.A (truthy v) (TP X qK σ Q) X.xe s
def tOp(r:R2)(ta tb:TE):TE:=λσ H Q=>ta σ H λx H1=>tb σ H1 λy H2=>r x y H2 Q
def tUn(r:V->Hp->VK->Prop)(ta:TE):TE:=λσ H Q=>ta σ H λx H1=>r x H1 Q
def rI(C:Int->Int->Prop)(g:Int->Int->V):R2:=λx y H Q=>∃i j,x=.int i/\y=.int j/\C i j/\Q (g i j) H
def rI0(g:Int->Int->V):R2:=λx y H Q=>∃i j,x=.int i/\y=.int j/\Q (g i j) H
def rU(g:Int->V):V->Hp->VK->Prop:=λx H Q=>∃i,x=.int i/\Q (g i) H
section
variable {a b:Expr}{tb tc:TE}
def b8n(e:PE X a ta)(g:PE X b tb){R:V->V->Hp->Prop}(I:Inv X qK σ H s)
  (h:ta σ H λx H1=>tb σ H1 λy H2=>R x y H2)
  (i:∀v u s2 x y H2,Inv X qK σ H2 s2->RelV x v->RelV y u->R x y H2->wpAny (model X.prog X.w) X.A (f v u) Q X.xe s2) :
  wpAny (model X.prog X.w) X.A (eval a X.env) (λv s₁=>wpAny (model X.prog X.w) X.A (eval b X.env) (λu s₂=>wpAny (model X.prog X.w) X.A (f v u) Q X.xe s₂) X.xe s₁) X.xe s:=by
 refine thn (e qK s σ H _ I h) λv s1 ⟨x,H1,c,l,j⟩=>?_;refine thn (g qK s1 σ H1 _ c j) λu s2 ⟨y,H2,d,m,k⟩=>?_;exact i v u s2 x y H2 d l m k
def a0M{c:Operator}{r:R2}(g:OpR X (binaryOp c) r)(e:PE X a ta)(f:PE X b tb):PE X (.BinOp a c b pos) (tOp r ta tb):=by
 intro qK s σ H Q I h;exact wpAny_BinOp (b8n e f I h λv u s2 x y H2 d i j q=>g qK s2 σ H2 x y v u Q d i j q)
def b9a{b:UnaryOp}{r:V->Hp->VK->Prop}(e:UnR X (unaryOp b) r)(d:PE X a ta):PE X (.UnaryOp b a pos) (tUn r ta):=by
 intro qK s σ H Q I h;exact UnaryOp_ (thn (d qK s σ H _ I h) λv s1 ⟨x,H1,c,g,f⟩=>e qK s1 σ H1 x v Q c g f)
def opI{C:Int->Int->Prop}{g:Int->Int->Int}
  (a:∀(i j:Int) (t u:Tok) (s:qC) (Q:qH) (E:qH),C i j->Q (.int (g i j) s.toks) {s with toks:=s.toks+1}->wpAny (model X.prog X.w) X.A (f (.int i t) (.int j u)) Q E s) :
  OpR X f (rI C λi j=>.int (g i j)):=by
 intro qK s σ H x y v u Q I c d h;obtain⟨i,j,rfl,rfl,b,q⟩:=h;obtain⟨t,rfl⟩:=c;obtain⟨t',rfl⟩:=d;exact a i j t t' s _ _ b ⟨.int (g i j),H,I.tok _,⟨_,rfl⟩,q⟩
def b9i{g:Int->Int->Int}
  (a:∀(i j:Int) (t u:Tok) (s:qC) (Q:qH) (E:qH),Q (.int (g i j) s.toks) {s with toks:=s.toks+1}->wpAny (model X.prog X.w) X.A (f (.int i t) (.int j u)) Q E s) :
  OpR X f (rI0 λi j=>.int (g i j)):=by
 intro qK s σ H x y v u Q I b c h;obtain⟨i,j,rfl,rfl,q⟩:=h;obtain⟨t,rfl⟩:=b;obtain⟨t',rfl⟩:=c;exact a i j t t' s _ _ ⟨.int (g i j),H,I.tok _,⟨_,rfl⟩,q⟩
def b5g{g:Int->Int->Bool}
  (a:∀(i j:Int) (t u:Tok) (s:qC) (Q:qH) (E:qH),Q (.bool (g i j)) s->wpAny (model X.prog X.w) X.A (f (.int i t) (.int j u)) Q E s) :
  OpR X f (rI0 λi j=>.bl (g i j)):=by
 intro qK s σ H x y v u Q I b c h;obtain⟨i,j,rfl,rfl,q⟩:=h;obtain⟨t,rfl⟩:=b;obtain⟨t',rfl⟩:=c;exact a i j t t' s _ _ ⟨.bl (g i j),H,I,rfl,q⟩
def b9v(i j:Int):Prop:=0<j/\j<1073741824
def b9u(i j:Int):Prop:=0<=j/\j<=1000000/\i.natAbs<2 ^ 64
def CMul(i j:Int):Prop:=(-(2 ^ 64)<i/\i<2 ^ 64)∨(-(2 ^ 64)<j/\j<2 ^ 64)
def CMul.ok{i j:Int}(h:CMul i j):IntMulOk i j:=by
 rcases h with⟨h1,h2⟩|⟨h1,h2⟩
 .exact .of_left (intBits_le_64 h1 h2)
 .exact .of_right (intBits_le_64 h1 h2)
def b7F:OpR X (binaryOp .Add) (rI0 λi j=>.int (i+j)):=b9i λ_ _ _ _ _ _ _ q=>add_int q
def b7w:OpR X (binaryOp .Sub) (rI0 λi j=>.int (i-j)):=b9i λ_ _ _ _ _ _ _ q=>sub_int q
def b7A:OpR X (binaryOp .Mult) (rI CMul λi j=>.int (i*j)):=opI λ_ _ _ _ _ _ _ a q=>mul_int q a.ok
def b5e:OpR X (binaryOp .FloorDiv) (rI b9v λi j=>.int (i / j)):=opI λi j _ _ _ _ _ a q=>by
 have h1:(0:Int)<j:=a.1;have h2:j<1073741824:=a.2;exact floordiv_int (by omega) (by rw[Int.fdiv_eq_ediv_of_nonneg i (by omega)];exact q) (.inl (PyProof.noPylong_small (by omega)))
def b7B:OpR X (binaryOp .Mod) (rI (λ_ j=>0<j) λi j=>.int (i % j)):=opI λi j _ _ _ _ _ a q=>by
 have h1:(0:Int)<j:=a;exact mod_int' (by omega) (by rw[Int.fmod_eq_emod_of_nonneg i (by omega)];exact q)
def b7x:OpR X (binaryOp .Pow) (rI b9u λi j=>.int (i ^ j.toNat)):=opI λ_ _ _ _ _ _ _ a q=>pow_int_small a.1 a.2.1 a.2.2 q
def unI{f:qB->Sem qB}{g:Int->Int}
  (a:∀(i:Int) (t:Tok) (s:qC) (Q:qH) (E:qH),Q (.int (g i) s.toks) {s with toks:=s.toks+1}->wpAny (model X.prog X.w) X.A (f (.int i t)) Q E s) :
  UnR X f (rU λi=>.int (g i)):=by
 intro qK s σ H x v Q I b h;obtain⟨i,rfl,q⟩:=h;obtain⟨t,rfl⟩:=b;exact a i t s _ _ ⟨.int (g i),H,I.tok _,⟨_,rfl⟩,q⟩
def b6J:UnR X (unaryOp .USub) (rU λi=>.int (-i)):=unI λ_ _ _ _ _ q=>neg_int q
end
def b8Q:V->V->Bool
 |.non,.non=>true | .non,.int _=>true | .int _,.non=>true | .non,.bl _=>true | .bl _,.non=>true | .non,.str _=>true | .str _,.non=>true
 |.int _,.int _=>true | .bl _,.bl _=>true | .str _,.str _=>true | .byt _,.byt _=>true
 |.int _,.str _=>true | .str _,.int _=>true | .bl _,.str _=>true | .str _,.bl _=>true
 |_,_=>false
def rEq:R2:=λx y H Q=>b8Q x y=true/\Q (.bl (decide (x=y))) H
def rNe:R2:=λx y H Q=>b8Q x y=true/\Q (.bl (!decide (x=y))) H
def b5I{i j:Int}:decide (V.int i=V.int j)=(i==j):=by
 rw[cD];simp
def b8k{i j:Bool}:decide (V.bl i=V.bl j)=(i==j):=by
 rw[cD];simp
def b5H{i j:Str}:decide (V.str i=V.str j)=(i==j):=by
 rw[cD];simp
def b5J{i j:Array UInt8}:decide (V.byt i=V.byt j)=(i.toList==j.toList):=by
 rw[cD];cases i;cases j;simp
section
variable {a b:Expr}{tb tc:TE}
def G9{Q:VK}{k a:Bool}(I:Inv X qK σ H s)(q:Q (.bl k) H)(e:k=a):EP X qK σ Q (.bool a) s:=by
 subst e;exact⟨.bl k,H,I,rfl,q⟩
def b6w:OpR X (compareOp .Eq) rEq:=by
 intro qK s σ H x y v u Q I b a h;obtain⟨hs,q⟩:=h;cases x with
 |non =>
  cases b;cases y with
  |non=>cases a;exact PySem.EqNone.eq_none_none (G9 I q (by simp))
  |bl j=>cases a;exact PySem.EqNone.eq_none_bool (G9 I q (by simp))
  |int j=>obtain⟨t',rfl⟩:=a;exact PySem.EqNone.eq_none_int (G9 I q (by simp))
  |str j=>obtain⟨t',rfl⟩:=a;exact PySem.EqNone.eq_none_str (G9 I q (by simp))
  |_=>exact absurd (show false=true from hs) bf
 |bl i =>
  cases b;cases y with
  |non=>cases a;exact PySem.EqNone.eq_bool_none (G9 I q (by simp))
  |bl j=>cases a;exact eq_bool (G9 I q b8k)
  |str j=>obtain⟨t',rfl⟩:=a;exact PySem.EqMixed.eq_bool_str (G9 I q (by simp))
  |_=>exact absurd (show false=true from hs) bf
 |int i =>
  obtain⟨t,rfl⟩:=b;cases y with
  |non=>cases a;exact PySem.EqNone.eq_int_none (G9 I q (by simp))
  |int j=>obtain⟨t',rfl⟩:=a;exact eq_int (G9 I q b5I)
  |str j=>obtain⟨t',rfl⟩:=a;exact PySem.EqMixed.eq_int_str (G9 I q (by simp))
  |_=>exact absurd (show false=true from hs) bf
 |str i =>
  obtain⟨t,rfl⟩:=b;cases y with
  |non=>cases a;exact PySem.EqNone.eq_str_none (G9 I q (by simp))
  |bl j=>cases a;exact PySem.EqMixed.eq_str_bool (G9 I q (by simp))
  |int j=>obtain⟨t',rfl⟩:=a;exact PySem.EqMixed.eq_str_int (G9 I q (by simp))
  |str j=>obtain⟨t',rfl⟩:=a;exact eq_str (G9 I q b5H)
  |_=>exact absurd (show false=true from hs) bf
 |byt i =>
  obtain⟨t,rfl⟩:=b;cases y with
  |byt j=>obtain⟨t',rfl⟩:=a;exact PySem.W.eq_bytes (G9 I q b5J)
  |_=>exact absurd (show false=true from hs) bf
 |_=>cases y<;>exact absurd (show false=true from hs) bf
def b9f:OpR X (compareOp .Lt) (rI0 λi j=>.bl (decide (i<j))):=b5g λ_ _ _ _ _ _ _ q=>lt_int q
def b9g:OpR X (compareOp .LtE) (rI0 λi j=>.bl (decide (i<=j))):=b5g λ_ _ _ _ _ _ _ q=>le_int q
def b9h:OpR X (compareOp .Gt) (rI0 λi j=>.bl (decide (j<i))):=b5g λ_ _ _ _ _ _ _ q=>gt_int q
def b6v:OpR X (compareOp .GtE) (rI0 λi j=>.bl (decide (j<=i))):=b5g λ_ _ _ _ _ _ _ q=>ge_int q
def b2K:OpR X (compareOp .Is) (λx y H Q=>y=.non/\Q (.bl (decide (x=.non))) H):=by
 intro qK s σ H x y v u Q I a b h;obtain⟨rfl,q⟩:=h;cases b;refine is_none_gen (G9 I q ?_);cases x<;>first
  |(cases a;rfl)
  |(obtain⟨t,rfl⟩:=a;rfl)
def b5d:OpR X (compareOp .IsNot) (λx y H Q=>y=.non/\Q (.bl (!decide (x=.non))) H):=by
 intro qK s σ H x y v u Q I a b h;obtain⟨rfl,q⟩:=h;cases b;refine isnot_none_gen (G9 I q ?_);cases x<;>first
  |(cases a;rfl)
  |(obtain⟨t,rfl⟩:=a;rfl)
def L5(b:Expr){a:CmpOp}(h:a≠.In:=by decide)(h2:a≠.NotIn:=by decide):behindInMarks a b=false:=by
 have c:(a==CmpOp.In)=false:=by cases a<;>first|rfl|exact absurd rfl h
 have d:(a==CmpOp.NotIn)=false:=by cases a<;>first|rfl|exact absurd rfl h2
 cases b with
 |Set elts k p=>show(k==0 && (a==CmpOp.In || a==CmpOp.NotIn) && elts.all (constantsAlone 8))=false;rw[c,d,Bool.or_false,df,eO]
 |_=>rfl
def a1l{c:CmpOp}{r:R2}(i:OpR X (compareOp c) r)(e:PE X a ta)(f:PE X b tb)(g:behindInMarks c b=false):PE X (.Compare a [c] [b] pos) (tOp r ta tb):=by
 intro qK s σ H Q I h;exact wpAny_Compare1 (b8n e f I h λv u s2 x y H2 d j k q=>i qK s2 σ H2 x y v u Q d j k q) g
def a0J(t:TE):TT:=λσ H Q=>t σ H λx H'=>∃k,x=.bl k/\Q k H'
def U5{d:CmpOp}{r:R2}(o:OpR X (compareOp d) r)(l:PE X a ta)(m:PE X b tb)(n:behindInMarks d b=false):PT X (.Compare a [d] [b] pos) (a0J (tOp r ta tb)):=by
 intro qK s σ H Q I h;refine wpAny_isTrue_Compare1 (thn (l qK s σ H _ I h) λv s1 ⟨x,H1,g,w,p⟩=>thn (m qK s1 σ H1 _ g p) λu s2 ⟨y,H2,i,A,q⟩ =>
  thn (o qK s2 σ H2 x y v u _ i w A q) λc C ⟨z,f,j,B,k,e,t⟩=>?_) n
 subst e;cases B;exact dk ⟨f,j,t⟩
def b8z(K:qF)(x:V)(H:Hp)(k:Bool):Prop :=
 match x with
 |.non=>k=false
 |.bl b=>k=b
 |.int i=>k=(i != 0)
 |.str y=>y.length<=sizeLine/\k=((y.length:Int) != 0)
 |.byt y=>y.size<=sizeLine/\k=((y.size:Int) != 0)
 |.ref p=>(∃xs,SqL K H p xs/\k=!xs.isEmpty)∨(∃xs,SqT K H p xs/\k=!xs.isEmpty)∨∃qL,H p=some (.dK qL)/\k=!qL.isEmpty
 |_=>False
def a8r{κ:Type}{qL:qA (κ×V)}{vs:qA (κ×qB)}(r:KV qL vs):(!vs.isEmpty)=!qL.isEmpty:=by
 cases r<;>rfl
def a3N{its:qA qB}(r:Vals xs its):(!its.toArray.isEmpty)=!xs.isEmpty:=by
 cases r<;>simp
def a3z:(sizeLine:Nat)<2 ^ 63:=by rw[aT];decide
def b6L:b9E X (λx H Q=>∃k,b8z X.K x H k/\Q k H):=by
 intro qK s σ H x v Q I d h;obtain⟨k,e,q⟩:=h;have u:=a3z;have hs:sizeLine=16777216:=aT;cases x with
 |non =>
  cases d;have a:k=false:=e;subst a;exact truthy_none ⟨H,I,q⟩
 |bl b =>
  cases d;have a:k=b:=e;subst a;exact dk ⟨H,I,q⟩
 |int i =>
  obtain⟨t,rfl⟩:=d;have a:k=(i != 0):=e;subst a;exact PySem.P.truthy_int ⟨H,I,q⟩
 |str y =>
  obtain⟨t,rfl⟩:=d;obtain⟨o,a⟩:y.length<=sizeLine/\k=((y.length:Int) != 0):=e;subst a;exact PySem.P.truthy_str (by omega) ⟨H,I.tok _,q⟩
 |byt y =>
  obtain⟨t,rfl⟩:=d;obtain⟨o,a⟩:y.size<=sizeLine/\k=((y.size:Int) != 0):=e;subst a;exact PySem.W.truthy_bytes (by omega) ⟨H,I.tok _,q⟩
 |ref p =>
  cases d;have a:(∃xs,SqL X.K H p xs/\k=!xs.isEmpty)∨(∃xs,SqT X.K H p xs/\k=!xs.isEmpty)∨∃qL,H p=some (.dK qL)/\k=!qL.isEmpty:=e;rcases a with⟨xs,f,a⟩|⟨xs,f,a⟩|⟨qL,f,a⟩
  .subst a;obtain⟨its,r,j,l⟩:=I.list f;have c:=r.length;exact wpAny_truthy_list j.isList (by simp only[aD];omega) ⟨H,I.tok _,by rw[a3N r];exact q⟩
  .subst a;obtain⟨its,r,j,l⟩:=I.tuple f;have c:=r.length;exact truthy_tuple j (by simp only[aD];omega) ⟨H,I.tok _,by rw[a3N r];exact q⟩
  .subst a;obtain⟨l,n,g,r,m⟩:qL.length<=sizeLine/\(p==sysModules)=false/\∃g,KV qL g/\s.heap.DictOf (C4 X.prog X.w) p g:=I.hok p _ f;have c:qL.length=g.length:=Paired.length r;exact wpAny_truthy_dict n m (by omega) ⟨H,I.tok _,by rw[a8r r];exact q⟩
 |_=>exact(show False from e).elim
def b2s(d:PE X a ta)(e:∀b,isTrue a X.env b=(do let v <-b;standAt a.pos;holding [v] (truthy v))) :
  PT X a (λσ H Q=>ta σ H λx H'=>∃k,b8z X.K x H' k/\Q k H'):=by
 intro qK s σ H Q I h;exact isTrue_plain (thn (d qK s σ H _ I h) λv s1 ⟨x,H1,c,g,f⟩=>b6L qK s1 σ H1 x v Q c g f) (e _)
def a6n{x:V}(r:Vals [x] us):∃u,us=[u]/\RelV x u:=by
 cases r with
 |cons r1 r2=>cases r2;exact⟨_,rfl,r1⟩
def b6a{x y:V}(r:Vals [x,y] us):∃u a,us=[u,a]/\RelV x u/\RelV y a:=by
 cases r with
 |cons r1 r2 =>
  cases r2 with
  |cons r3 r4=>cases r4;exact⟨_,_,rfl,r1,r3⟩
def b1h(b:X.calm=true):D9 X (.builtin "max") (λxs H Q=>∃i j,xs=[.int i,.int j]/\Q (.int (if j > i then j else i)) H):=by
 intro qK s σ H xs c Q I r h;obtain⟨i,j,rfl,q⟩:=h;obtain⟨u,d,rfl,⟨t,rfl⟩,⟨t',rfl⟩⟩:=b6a r;refine max_two_ints (I.ok.hd b) λh' tk k=>⟨_,H,I.kept k,?_,q⟩;by_cases a:j > i
 .rw[az a,az a];exact⟨_,rfl⟩
 .rw[ar a,ar a];exact⟨_,rfl⟩
def b1f(b:X.calm=true):D9 X (.builtin "min") (λxs H Q=>∃i j,xs=[.int i,.int j]/\Q (.int (if j<i then j else i)) H):=by
 intro qK s σ H xs c Q I r h;obtain⟨i,j,rfl,q⟩:=h;obtain⟨u,d,rfl,⟨t,rfl⟩,⟨t',rfl⟩⟩:=b6a r;refine min_two_ints (I.ok.hd b) λh' tk k=>⟨_,H,I.kept k,?_,q⟩;by_cases a:j<i
 .rw[az a,az a];exact⟨_,rfl⟩
 .rw[ar a,ar a];exact⟨_,rfl⟩
def b1m:D9 X (.type "int") (λxs H Q=>(∃i,xs=[.int i]/\Q (.int i) H)∨∃k,xs=[.bl k]/\Q (.int (if k then 1 else 0)) H):=by
 intro qK s σ H xs a Q I r h;rcases h with⟨i,rfl,q⟩|⟨k,rfl,q⟩
 .obtain⟨u,rfl,t,rfl⟩:=a6n r;exact call_int_int ⟨.int i,H,I,⟨_,rfl⟩,q⟩
 .obtain⟨u,rfl,r1⟩:=a6n r;cases r1;exact call_int_bool ⟨.int (if k then 1 else 0),H,I.tok _,⟨_,rfl⟩,q⟩
end
structure ObjM(h:Heap)(x dx C:qE)(mA:Str->qD qB):Prop where
 obj:h.get? x=some (PySem.W.instObj C dx)
 ns:h.Ns1 dx mA
 ne:dx≠x
def b0J(n:h.Ns1 dx mA):∃od,h.get? dx=some od/\∀name,PySem.W.lookIn name od=some (mA name):=by
 obtain⟨o,es,ep,g,hd,d,_,f⟩:=n;refine⟨o,g,λname=>?_⟩;have e:=f name;unfold nsFind findBy at e;rw[<-Array.find?_toList]at e;unfold PySem.W.lookIn;rw[hd];dsimp only;split
 .rename_i y q;rw[q]at e;exact aU some e
 .rename_i q;rw[q]at e;have a:es.toList.any (·.refKey)=false:=by
   rw[dN];intro y i;obtain⟨z,t,b⟩:=d y (eT.mp i);simp[DictEntry.refKey,b]
  have c:¬es.toList.any (·.refKey)=true:=by rw[a];exact bf
  rw[ar c];exact aU some e
def ObjM.look{x:qE}(I:ObjM h x dx C mA):∃od,PySem.W.InstAt h x (PySem.W.instObj C dx) C (some od)/\∀name,PySem.W.lookIn name od=some (mA name) :=
 let ⟨od,ho,hl⟩:=b0J I.ns
 ⟨od,⟨I.obj,rfl,rfl,ho⟩,hl⟩
section
variable {prog:qG}{x f:qE}{name:Str}{v:qB}
def b5F{a:Bool}(X:K.In s.heap)(I:ObjM s.heap x dx C mA)(d:PySem.W.plainGet K C name=true)(e:PySem.W.hasDictIn K C=true)
  (c:PySem.W.findIn K (.ref C) name=some none) (g:mA name=some v) (b:PySem.W.handedIn v=true) (h:Q v {s with toks:=s.toks+1}) :
  wpAny (model prog w) A (getAttr (.ref x) name a) Q E s:=by
 obtain⟨od,J,f⟩:=I.look;exact PySem.W.get_value X J (PySem.W.plainGet_of d).1 (PySem.W.findObj_own e c rfl (by rw[f,g])) b h
def b3v{Q:qB×qA qB->qC->Prop}(X:K.In s.heap)(I:ObjM s.heap x dx C mA)(a:PySem.W.plainGet K C name=true)
  (b:PySem.W.findIn K (.ref C) name=some (some (.ref f))) (d:PySem.W.isFn K (.ref f)=true) (e:mA name=none) (h:Q (.ref f,[.ref x]) s) :
  wpAny (model prog w) A (getMethod (.ref x) name pl) Q E s:=by
 obtain⟨od,J,c⟩:=I.look;exact PySem.W.method_fn X J (PySem.W.plainGet_of a).1 (PySem.W.plainGet_of a).2 b (bj.mp d) (by show(PySem.W.lookIn name od).map (·.isSome)=some false;rw[c,e];rfl) h
def b4s{ns:qA Str}{Q:Unit->qC->Prop}(X:K.In s.heap)(I:ObjM s.heap x dx C mA)
  (hs:PySem.W.findIn K (.ref C) "__setattr__"=some (some (.builtin "object.__setattr__"))) (hp:PySem.W.plainOver K C=true) (n:PySem.W.takerIn K C name=some none) (m:PySem.W.hasDictIn K C=true)
  (hw:PySem.Within mA ns) (hsz:ns.length<=sizeLine)
  (h:∀h',ObjM h' x dx C (λy=>if y=name then some v else mA y)->Heap.SameBut dx s.heap h'->Q () {s with heap:=h',toks:=s.toks+2}) :
  wpAny (model prog w) A (setAttr (.ref x) name v) Q E s:=by
 obtain⟨od,J,p⟩:=I.look;refine PySem.W.set_plain X J hs (PySem.W.osa_open (s:={s with toks:=s.toks+1}) (r:=none) X J hp n λb=>?_);obtain⟨cd,l,f⟩:=PySem.W.any_some m;have o:s.heap.get? x=some ⟨.ref C,some dx,.plain,#[]⟩:=I.obj;refine aa (ae (aa (aa (wpAny_loadPart o (aa (PySem.W.Looks.here (s:={s with toks:=s.toks+1}) (PySem.W.looks_clsIn X l) ?_))))));rw[f];refine ae (a:=some dx) (aa (ae (aa ?_)));refine wpAny_nsSet1 (s:={s with toks:=s.toks+1}) I.ns λh' c d=>?_;obtain⟨q,k,j,i,g,e⟩:=c.count (PySem.Within.cons name v hw);refine aa (wpAny_lookBehind i (by rw[g];exact pastItsLine_dict (a_ e (by rw[aX];omega))) ?_);exact ae (h _ ⟨(d.2 _ (dF I.ne)).trans I.obj,c,I.ne⟩ d)
def b3a{R:Result->qC->Prop}{vs:qA qB}{a:qA (Str×qB)}(X:K.In s.heap)(c:PySem.W.makesIn K C=true)
  (hi:PySem.W.findIn K (.ref C) "__init__"=some (some (.ref f))) (b:PySem.W.typeIn K (.ref f)=some (.type "function"))
  (h:codeAny (model prog w) (A.under (.builtin "type.__call__" ⟨.ref C::vs,a⟩)) (.call (.ref f) ⟨.ref (s.heap.objs.size+1)::vs,a⟩) (PySem.W.InitBack (s.heap.objs.size+1) R)
   {s with heap:=(s.heap.push PySem.W.emptyDict).push (PySem.W.instObj C s.heap.objs.size)}) :
  codeAny (model prog w) A (.call (.ref C) ⟨vs,a⟩) R s:=by
 obtain⟨e,g,d,t,os⟩:=s;exact PySem.W.make_core (PySem.W.makes_of X c) (PySem.W.looks_findIn X hi) (λself=>PySem.W.bind_fn X self b) (.inl rfl) h
end
def K3(f:Str)(v:V):qA (Str×V)->qA (Str×V)
 |[]=>[(f,v)]
 |(g,x)::r=>if g=f then(g,v)::r else(g,x)::K3 f v r
def a2l(f g:Str)(v:V):∀fs:qA (Str×V),(K3 f v fs).lookup g=if g=f then some v else fs.lookup g
 |[]=>by
  show List.lookup g [(f,v)]=_;by_cases h:g=f
  .have hb:(g==f)=true:=bj.mpr h;simp only[List.lookup,hb,az h]
  .have hb:(g==f)=false:=cN.mpr h;simp only[List.lookup,hb,ar h]
 |(k,x)::r=>by
  have b:=a2l f g v r;rw[show K3 f v ((k,x)::r)=(if k=f then(k,v)::r else(k,x)::K3 f v r)from rfl];by_cases a:k=f
  .rw[az a];by_cases h:g=k
   .have hb:(g==k)=true:=bj.mpr h;simp only[List.lookup,hb,az (h.trans a)]
   .have hb:(g==k)=false:=cN.mpr h;simp only[List.lookup,hb,ar (λe:g=f=>h (e.trans a.symm))]
  .rw[ar a];by_cases h:g=k
   .have hb:(g==k)=true:=bj.mpr h;simp only[List.lookup,hb,ar (λe:g=f=>a (h.symm.trans e))]
   .have hb:(g==k)=false:=cN.mpr h;simp only[List.lookup,hb];exact b
def a1O(f:Str)(v:V):∀fs:qA (Str×V),f∈(K3 f v fs).map (·.1)/\∀g,g∈fs.map (·.1)->g∈(K3 f v fs).map (·.1)
 |[]=>⟨by simp[K3],λg h=>by simp at h⟩
 |(k,x)::r=>by
  obtain⟨b,c⟩:=a1O f v r;rw[show K3 f v ((k,x)::r)=(if k=f then(k,v)::r else(k,x)::K3 f v r)from rfl];by_cases a:k=f
  .rw[az a];subst a;exact⟨by simp,λg h=>by simpa using h⟩
  .rw[ar a];refine⟨?_,λg h=>?_⟩
   .rw[aV];exact ax _ b
   .rw[aV]at h⊢;rcases aF.mp h with e|e
    .exact aF.mpr (.inl e)
    .exact ax _ (c g e)
def a2n(f:Str)(v:V):∀fs:qA (Str×V),(K3 f v fs).length<=fs.length+1
 |[]=>by simp[K3]
 |(k,x)::r=>by
  have b:=a2n f v r;rw[show K3 f v ((k,x)::r)=(if k=f then(k,v)::r else(k,x)::K3 f v r)from rfl];by_cases a:k=f
  .rw[az a,aX,aX];omega
  .rw[ar a,aX,aX];omega
def RelO.some_of{o:qD qB}(r:RelO (some v) o):∃u,o=some u/\RelV v u:=by
 cases o with
 |none=>exact(show False from r).elim
 |some u=>exact⟨u,rfl,r⟩
def RelO.none_of{o:qD qB}(r:RelO none o):o=none:=by
 cases o with
 |none=>rfl
 |some u=>exact(show False from r).elim
def b0Q(r:RelV v u):PySem.W.handedIn u=true:=by
 cases v with
 |non=>cases(show u=Value.none from r);rfl
 |bl b=>cases(show u=Value.bool b from r);rfl
 |int i=>obtain⟨t,e⟩:=(show ∃t,u=Value.int i t from r);cases e;rfl
 |str x=>obtain⟨t,e⟩:=(show ∃t,u=Value.str x t from r);cases e;rfl
 |byt b=>obtain⟨t,e⟩:=(show ∃t,u=Value.bytes b t from r);cases e;rfl
 |flt b=>obtain⟨t,e⟩:=(show ∃t,u=Value.float b t from r);cases e;rfl
 |ref a=>cases(show u=Value.ref a from r);rfl
 |ty n=>cases(show u=Value.type n from r);rfl
section
variable {fs fs':qA (Str×V)}
def a2Q(b:HOk P w H h)(e:H a=some (.ins C dx fs)):∃mA,ObjM h a dx C mA/\(∀f,RelO (fs.lookup f) (mA f))/\PySem.Within mA (fs.map (·.1))/\fs.length<=1000/\H dx=some (.own a):=by
 obtain⟨d,z,ne,c,mA,n,r,q⟩:=(show ObjOk P w H h a (.ins C dx fs)from b a _ e);exact⟨mA,⟨c,n,ne⟩,r,q,z,d⟩
end
structure Cls(K:qF)(C:qE):Prop where
 pg:PySem.W.plainGet K C Str.empty=true
 hd:PySem.W.hasDictIn K C=true
 po:PySem.W.plainOver K C=true
 sa:PySem.W.findIn K (.ref C) "__setattr__"=some (some (.builtin "object.__setattr__"))
def Cls.get(c:Cls K C)(f:Str):PySem.W.plainGet K C f=true:=c.pg
def NoAttr(K:qF)(C:qE)(f:Str):Prop:=PySem.W.findIn K (.ref C) f=some none
def NoAttr.taker{f:Str}(n:NoAttr K C f):PySem.W.takerIn K C f=some none:=by
 unfold PySem.W.takerIn;rw[show PySem.W.findIn K (.ref C) f=some none from n];rfl
structure Meth(K:qF)(C:qE)(m:Str)(f:qE):Prop where
 at_:PySem.W.findIn K (.ref C) m=some (some (.ref f))
 fn:PySem.W.isFn K (.ref f)=true
 kp:PySem.W.keepIn K (.ref f)=true
section
variable {fs:qA (Str×V)}{f:Str}
def a8t{b:Bool}(I:Inv X qK σ H s)(e:H a=some (.ins C dx fs))(c:Cls X.K C)(n:NoAttr X.K C f)(l:fs.lookup f=some v)
  (h:∀u s',Inv X qK σ H s'->RelV v u->Q u s'):wpAny (model X.prog X.w) A (getAttr (.ref a) f b) Q E s:=by
 obtain⟨mA,O,r,_,_,_⟩:=a2Q I.hok e;obtain⟨u,g,d⟩:=RelO.some_of (v:=v) (o:=mA f) (by rw[<-l];exact r f);exact b5F I.kIn O (c.get f) c.hd n g (b0Q d) (h u _ (I.tok _) d)
def a3O{m:Str}{g:qE}{Q:qB×qA qB->qC->Prop}(I:Inv X qK σ H s)(e:H a=some (.ins C dx fs))(c:Cls X.K C)(k:Meth X.K C m g)(l:fs.lookup m=none)
  (h:Q (.ref g,[.ref a]) s):wpAny (model X.prog X.w) A (getMethod (.ref a) m pl) Q E s:=by
 obtain⟨mA,O,r,_,_,_⟩:=a2Q I.hok e;have b:mA m=none:=RelO.none_of (by rw[<-l];exact r m);exact b3v I.kIn O (c.get m) k.at_ k.fn b h
def a7R{y:V}{Q:Unit->qC->Prop}(I:Inv X qK σ H s)(e:H a=some (.ins C dx fs))(c:Cls X.K C)(n:NoAttr X.K C f)(v:fs.length<1000)(p:RelV y u)
  (h:∀s',Inv X qK σ (upd H a (.ins C dx (K3 f y fs))) s'->Q () s'):wpAny (model X.prog X.w) A (setAttr (.ref a) f u) Q E s:=by
 obtain⟨mA,O,r,j,_,i⟩:=a2Q I.hok e;have m:(fs.map (·.1)).length<=sizeLine:=by rw[ai,aT];omega
 refine b4s I.kIn O c.sa c.po n.taker c.hd j m λh' d t=>h _ ?_;have hd:∃o,h'.get? dx=some o:=let ⟨o,_,_,e',_⟩:=d.ns;⟨o,e'⟩
 refine I.write (x:=a) (e:=dx) (by rw[e];exact True.intro) (.inr i) (λb q k z=>(t.2 b k).trans z) hd ?_;refine⟨by rw[A3 O.ne];exact i,?_,O.ne,d.obj,_,d.ns,λg=>?_,λg l=>?_⟩
 .have:=a2n f y fs;omega
 .show RelO ((K3 f y fs).lookup g) (if g=f then some u else mA g);rw[a2l];by_cases q:g=f
  .rw[az q,az q];exact p
  .rw[ar q,ar q];exact r g
 .by_cases q:g=f
  .rw[q];exact(a1O f y fs).1
  .refine(a1O f y fs).2 g (j g λz=>l ?_);show(if g=f then some u else mA g)=none;rw[ar q];exact z
def Inv.made(I:Inv X qK σ H s):Inv X qK σ (upd (upd H s.heap.objs.size (.own (s.heap.objs.size+1))) (s.heap.objs.size+1) (.ins C s.heap.objs.size []))
  {s with heap:=(s.heap.push PySem.W.emptyDict).push (PySem.W.instObj C s.heap.objs.size)}:=by
 have c:(s.heap.push PySem.W.emptyDict).get? s.heap.objs.size=some PySem.W.emptyDict:=aG s.heap rfl;have f:((s.heap.push PySem.W.emptyDict).push (PySem.W.instObj C s.heap.objs.size)).get? (s.heap.objs.size+1)=some (PySem.W.instObj C s.heap.objs.size):=by
  have:=aG (s.heap.push PySem.W.emptyDict) (o:=PySem.W.instObj C s.heap.objs.size) rfl;rwa[bB]at this
 have g:(s.heap.push PySem.W.emptyDict).Ns s.heap.objs.size (λ_=>none):=⟨PySem.W.emptyDict,#[],_,c,rfl,(λe h=>absurd h (by simp)),λ_=>rfl⟩;have d:=I.laid (a:=s.heap.objs.size) (o:=.own (s.heap.objs.size+1)) (h':=s.heap.push PySem.W.emptyDict) (t':=s.toks) (λb u q=>aj _ q) (aq _) ⟨_,c⟩;refine d.laid (a:=s.heap.objs.size+1) (o:=.ins C s.heap.objs.size []) (t':=s.toks) (λb u q=>aj _ q) (Nat.le_of_eq (bB _ _)) ?_;have ne:s.heap.objs.size≠s.heap.objs.size+1:=aW (cn _);refine⟨by rw[A3 ne,A0],bu _,ne,f,λ_=>none,(Heap.Ns1.of_empty g).at λo q=>aj _ q,λ_=>True.intro,λy i=>absurd rfl i⟩
def b5U{prog:qG}{env:Env}{f:Str}(a:attributeBase e f env (eval e env)=eval e env)
  (h:wpAny (model prog w) A (eval e env) (λo s₁=>wpAny (model prog w) A (getAttr o f true) Q E s₁) E s):wpAny (model prog w) A (eval (.Attribute e f pos) env) Q E s :=
 Attribute_any_ h (by rw[arm_eval_Attribute,a])
end
def b8N(K:qF)(ta:TE)(f:Str):TE:=λσ H Q=>ta σ H λx H1=>∃a C dx fs v,x=.ref a/\H1 a=some (.ins C dx fs)/\Cls K C/\NoAttr K C f/\fs.lookup f=some v/\Q v H1
def b8R(K:qF)(ta tv:TE)(f:Str):TS:=λD σ H=>tv σ H λy H1=>ta σ H1 λx H2=>∃a C dx fs,x=.ref a/\H2 a=some (.ins C dx fs)/\Cls K C/\NoAttr K C f/\fs.length<1000 /\
 D.nx σ (upd H2 a (.ins C dx (K3 f y fs)))
section
variable {o value:Expr}{f:Str}{pos' tpos:Pos}{tv:TE}
def b7q(j:PE X e ta)(i:attributeBase e f X.env (eval e X.env)=eval e X.env):PE X (.Attribute e f pos) (b8N X.K ta f):=by
 intro qK s σ H Q I h;refine b5U i (thn (j qK s σ H _ I h) λu s1 ⟨x,H1,b,m,a,C,dx,fs,v,ex,g,c,n,l,q⟩=>?_);subst ex;obtain rfl:u=Value.ref a:=m;exact a8t b g c n l λo s2 d k=>⟨v,H1,d,k,q⟩
def b7d(i:PE X o ta)(j:PE X value tv)(hs:swapsWith value (some (.Attribute o f pos')) pos.line X.env=pure false):PS X (.Assign [.Attribute o f pos'] value pos) (b8R X.K ta tv f):=by
 intro qK s σ H D I h;refine plainObj_wpAny_Assign_Attribute (thn (j qK s σ H _ I h) λu s1 ⟨y,H1,b,r,q⟩=>thn (i qK s1 σ H1 _ b q) λk s2 ⟨x,H2,d,p,a,C,dx,fs,ex,g,c,n,l,m⟩=>?_) hs;subst ex;obtain rfl:k=Value.ref a:=p;exact a7R d g c n l r λt e=>⟨σ,_,e,m⟩
end
section
variable {c:qB}{b:Bool}
inductive TyOf(K:qF)(H:Hp):V->qB->Prop where
 |non:TyOf K H .non (.type "NoneType")
 |bl (x:Bool):TyOf K H (.bl x) (.type "bool")
 |int (i:Int):TyOf K H (.int i) (.type "int")
 |str (x:Str):TyOf K H (.str x) (.type "str")
 |flt (x:UInt64):TyOf K H (.flt x) (.type "float")
 |lst {a:qE}{xs:qA V}(e:H a=some (.lst xs)):TyOf K H (.ref a) (.type "list")
 |frz {a:qE}{o:Obj}{xs:qA V}(e:H a=some (.frz o (.lst xs))):TyOf K H (.ref a) (.type "list")
 |tup {a:qE}{xs:qA V}(e:H a=some (.tup xs)):TyOf K H (.ref a) (.type "tuple")
 |dK {a:qE}{qL:qA (Key×V)}(e:H a=some (.dK qL)):TyOf K H (.ref a) (.type "dict")
 |dT {a:qE}{qL:qA (qA Key×V)}(e:H a=some (.dT qL)):TyOf K H (.ref a) (.type "dict")
 |ins {a C dx:qE}{fs:qA (Str×V)}(e:H a=some (.ins C dx fs)) (cl:Cls K C) (ha:PySem.W.findIn K (.ref C) "__class__"=some (some (.builtin "object.__class__")))
   (hn:PySem.W.specialIn K (.builtin "object.__class__") "__get__"=some (some (.builtin "getset_descriptor.__get__"))) (htk:PySem.W.takesIn K (.builtin "object.__class__")=some true)
   (hm:PySem.W.mroIn K C (.type "object")=some true):TyOf K H (.ref a) (.ref C)
def b0N{x:V}{t:qB}(I:Inv X qK σ H s)(d:RelV x u)(ty:TyOf X.K H x t)(e:PySem.W.kitOne X.K t c=some b)(h:∀tk,Q (.bool b) {s with toks:=tk}) :
  wpAny (model X.prog X.w) A (call (.builtin "isinstance") [u,c]) Q E s:=by
 cases ty with
 |non=>cases(show u=Value.none from d);exact PySem.W.kia_one PySem.W.kitx_none I.kIn True.intro e (λz=>nomatch z) h
 |bl y=>cases(show u=Value.bool y from d);exact PySem.W.kia_one PySem.W.kitx_bool I.kIn True.intro e (λz=>nomatch z) h
 |int i=>obtain⟨t,q⟩:=(show ∃t,u=Value.int i t from d);cases q;exact PySem.W.kia_one PySem.W.kitx_int I.kIn True.intro e (λz=>nomatch z) h
 |str y=>obtain⟨t,q⟩:=(show ∃t,u=Value.str y t from d);cases q;exact PySem.W.kia_one PySem.W.kitx_str I.kIn True.intro e (λz=>nomatch z) h
 |flt y=>obtain⟨t,q⟩:=(show ∃t,u=Value.float y t from d);cases q;exact PySem.W.kia_one PySem.W.kitx_float I.kIn True.intro e (λz=>nomatch z) h
 |@lst a xs ea =>
  cases(show u=Value.ref a from d);obtain⟨_,_,n,_,h1⟩:=(show ObjOk X.prog X.w H s.heap a (.lst xs)from I.hok a _ ea);exact PySem.W.kia_one PySem.W.kitx_list I.kIn ⟨_,h1,rfl⟩ e (λz=>nomatch z) h
 |@frz a ob xs ea =>
  cases(show u=Value.ref a from d);obtain⟨_,_,_,n,_,h1⟩:=(show ObjOk X.prog X.w H s.heap a (.frz ob (.lst xs))from I.hok a _ ea);exact PySem.W.kia_one PySem.W.kitx_list I.kIn ⟨_,h1,rfl⟩ e (λz=>nomatch z) h
 |@tup a xs ea =>
  cases(show u=Value.ref a from d);obtain⟨_,_,_,p⟩:=(show ObjOk X.prog X.w H s.heap a (.tup xs)from I.hok a _ ea);obtain⟨o,h1,h2,_⟩:=p;exact PySem.W.kia_one PySem.W.kitx_tuple I.kIn ⟨o,h1,h2⟩ e (λz=>nomatch z) h
 |@dK a qL ea =>
  cases(show u=Value.ref a from d);obtain⟨_,_,l,_,p⟩:=(show ObjOk X.prog X.w H s.heap a (.dK qL)from I.hok a _ ea);obtain⟨o,es,ep,h1,h2,_⟩:=p;exact PySem.W.kia_one PySem.W.kitx_dict I.kIn ⟨o,h1,h2.1⟩ e (λz=>nomatch z) h
 |@dT a qL ea =>
  cases(show u=Value.ref a from d);obtain⟨_,_,xs,_,o,es,ep,h1,h2,_⟩:=(show ObjOk X.prog X.w H s.heap a (.dT qL)from I.hok a _ ea);exact PySem.W.kia_one PySem.W.kitx_dict I.kIn ⟨o,h1,h2.1⟩ e (λz=>nomatch z) h
 |@ins a C dx fs ea cl g k f j =>
  cases(show u=Value.ref a from d);obtain⟨mA,O,_⟩:=a2Q I.hok ea;obtain⟨od,J,_⟩:=O.look;exact PySem.W.kia_one (PySem.W.kitx_own (cl.get _) cl.hd g k f j) I.kIn J e (λz=>nomatch z) h
end
structure Room(k:Nat)(A:Around):Prop where
 hd:A.handled=none
 dp:A.depth+3*k+5<recursionLimit
 un:A.units+16*k+200<cLine
def Room.mono{j:Nat}(r:Room k A)(h:j<=k):Room j A:=⟨r.hd,by have:=r.dp;omega,by have:=r.un;omega⟩
def Room.deeper(r:Room (k+1) A)(env:Env):Room k (A.deeper env) :=
 ⟨r.hd,by have:=r.dp;show A.depth+1+3*k+5<_;omega,by have:=r.un;show A.units+3+16*k+200<_;omega⟩
def a8m{a:qA (Str×qB)}:(A.under (.builtin "type.__call__" ⟨.ref C::us,a⟩)).depth=A.depth+1:=by
 first|rfl|simp[Around.under,Code.weight,Code.isCreation,Code.isGuard,Code.isCaller,Code.frames,Code.isFrame,guardIds]
def a8l{a:qA (Str×qB)}:(A.under (.builtin "type.__call__" ⟨.ref C::us,a⟩)).units=A.units+1:=by
 first|rfl|simp[Around.under,Code.cUnits,Code.frames,Code.isFrame]
def Room.make(r:Room (k+1) A)(C:qE)(us:qA qB)(a:qA (Str×qB)):Room k (A.under (.builtin "type.__call__" ⟨.ref C::us,a⟩)) :=
 ⟨r.hd,by have:=r.dp;rw[a8m];omega,by have:=r.un;rw[a8l];omega⟩
def Room.depth(r:Room k A):A.depth<recursionLimit:=by have:=r.dp;omega
def R5:TA:=λ_ H Q=>Q [] H
def K8(ta:TE)(tr:TA):TA:=λσ H Q=>ta σ H λx H1=>tr σ H1 λxs H2=>Q (x::xs) H2
def b7u:PA X [] R5:=λ_ _ _ _ H Q I h=>Calls.spliced_nil ⟨[],H,I,.nil,h⟩
def b5b(c:PE X e te)(d:PA X es t)(hs:starEach (e::es) X.env=(false,eval e X.env)::starEach es X.env:=by rfl):PA X (e::es) (K8 te t):=by
 intro pos qK s σ H Q I h;rw[hs];show wpAny _ _ (spliced ((false,eval e X.env)::backTo pos (starEach es X.env))) _ _ s;refine Calls.spliced_cons (thn (c qK s σ H _ I h) λu s1 ⟨x,H1,a,i,f⟩=>?_);exact thn (d pos qK s1 σ H1 _ a f) λk s2 ⟨xs,H2,b,j,g⟩=>⟨x::xs,H2,b,.cons i j,g⟩
def a5j(t:TA):TE:=λσ H Q=>t σ H λxs H1=>xs.length<=sizeLine/\∀p,H1 p=none->Q (.ref p) (upd H1 p (.tup xs))
def b1J(t:TA):TE:=λσ H Q=>t σ H λxs H1=>xs.length<=sizeLine/\∀p,H1 p=none->Q (.ref p) (upd H1 p (.lst xs))
def b7j{x1}(h:PA X es t):PE X (.Tuple es x1 pos) (a5j t):=by
 intro qK s σ H Q I d;refine wpAny_Tuple_spliced (thn (h pos qK s σ H _ I d) λf s1 ⟨xs,H1,a,r,z,q⟩=>⟨by rw[<-r.length];exact z,?_⟩);have c:H1 s1.heap.objs.size=none:=a.hok.fresh (aq _);refine⟨.ref s1.heap.objs.size,upd H1 s1.heap.objs.size (.tup xs),a.laid (t':=s1.toks) (λb u e=>aj _ e) (aq _) ?_,rfl,q _ c⟩;exact⟨z,f,r,⟨_,aG _ rfl,rfl,_,rfl⟩⟩
def b7o(h:PA X es t):PE X (.List es pos) (b1J t):=by
 intro qK s σ H Q I d;refine wpAny_List_spliced (thn (h pos qK s σ H _ I d) λf s1 ⟨xs,H1,a,r,z,q⟩=>⟨by rw[<-r.length];exact z,?_⟩);have c:H1 s1.heap.objs.size=none:=a.hok.fresh (aq _);refine⟨.ref s1.heap.objs.size,upd H1 s1.heap.objs.size (.lst xs),a.laid (t':=s1.toks) (λb u e=>aj _ e) (aq _) ?_,rfl,q _ c⟩;exact⟨z,f,0,r,aG _ rfl⟩
abbrev Sp:=qA V->Hp->VK->XK->Prop
variable {sp:Sp}
abbrev CXT:=qA Env->Hp->qC->XK->qH
variable {CX:CXT}
structure Env0(P:qG)(w:World)(K:qF)(mg:Str->qD qB)(base:Heap)(A:Around)(outer:qA Env)(s:qC)(H:Hp):Prop where
 frames:A.frames=some outer
 mod:Mod K mg base
 bs:∀b o,base.get? b=some o->s.heap.get? b=some o/\H b=none
 bsz:base.objs.size<=s.heap.objs.size
 funs:s.heap.FunFrames base outer
 frf:∀b∈frs outer,H b=none
 hok:HOk P w H s.heap
 bare:AllBare s.gens
def CE(outer:qA Env)(P:qG)(w:World)(H:Hp)(s:qC)(Q:VK)(u:qB)(s':qC):Prop :=
 ∃v H',s'.os=s.os/\AllBare s'.gens/\Un (frs outer) [] H H' s.heap s'.heap/\HOk P w H' s'.heap/\RelV v u/\Q v H'
def CR(CX:CXT)(outer:qA Env)(P:qG)(w:World)(H:Hp)(s:qC)(Q:VK)(E:XK)(r:Result)(s':qC):Prop :=
 match r with
 |.ok (.ret u)=>CE outer P w H s Q u s'
 |.ok _=>False
 |.error e=>CX outer H s E e s'
structure FnOk(P:qG)(w:World)(K:qF)(mg:Str->qD qB)(base:Heap)(CX:CXT)(k:Nat)(f:qE)(fd:FuncData)(ps:qA Str)(sp:Sp):Prop where
 len:∀vs H Q E,sp vs H Q E->vs.length=ps.length
 run:∀(A:Around) (outer:qA Env) (s:qC) (H:Hp) (args:Args) (us:qA qB) (vs:qA V) (Q:VK) (E:XK),Room k A->Env0 P w K mg base A outer s H->BindsTo s fd args (ps.zip us)->Vals vs us->sp vs H Q E ->
  codeAny (model P w) A (.call (.ref f) args) (CR CX outer P w H s Q E) s
def FnOk.imp{f:qE}{sp':Sp}(F:FnOk P w K mg base CX k f fd ps sp)
  (h:∀vs H Q E,sp' vs H Q E->sp vs H Q E):FnOk P w K mg base CX k f fd ps sp' :=
 ⟨λvs H Q E q=>F.len vs H Q E (h _ _ _ _ q),λA a s H b i vs Q E e d c g hs=>F.run A a s H b i vs Q E e d c g (h _ _ _ _ hs)⟩
def Env0.make{outer:qA Env}(e:Env0 P w K mg base A outer s H)(C:qE)(us:qA qB)(a:qA (Str×qB)) :
  Env0 P w K mg base (A.under (.builtin "type.__call__" ⟨.ref C::us,a⟩)) outer s H:=⟨by first|exact e.frames | (simpa[Around.under,Code.envs,Code.isFrame,pushEnvs]using e.frames),e.mod,e.bs,e.bsz,e.funs,e.frf,e.hok,e.bare⟩
section
variable {s':qC}
def Inv.env0(I:Inv X qK σ H s):Env0 X.prog X.w X.K X.mg X.base X.A X.stack s H :=
 ⟨I.ok.frames,I.ok.mod,I.bs,a_ I.ok.bsz I.sz,I.stack,I.stkFree,I.hok,I.bare⟩
def Inv.after{Q:VK}(I:Inv X qK σ H s)(h:CE X.stack X.prog X.w H s Q u s'):EP X qK σ Q u s':=by
 obtain⟨v,H',os,a,un,c,r,q⟩:=h;obtain⟨f,g,d,t,e⟩:=s';obtain rfl:e=s.os:=os;exact⟨v,H',I.call (h':=f) (g':=g) (d':=d) (t':=t) (ch:=[]) un c a (λb z=>absurd z (by simp)),r,q⟩
end
def a8U(sp:Sp)(dvs:qA V)(E:XK)(t:TA):TE:=λσ H Q=>t σ H λvs H1=>sp (vs++dvs) H1 Q E
def a2i(C:qE)(m:Str)(sp:Sp)(dvs:qA V)(E:XK)(ta:TE)(t:TA):TE:=λσ H Q=>ta σ H λx H1=>∃a dx fs,x=.ref a/\H1 a=some (.ins C dx fs)/\fs.lookup m=none /\
 t σ H1 λvs H2=>sp (x::(vs++dvs)) H2 Q E
def b6f(C:qE)(sp:Sp)(dvs:qA V)(E:XK)(t:TA):TE:=λσ H Q=>t σ H λvs H1=>∀x dx,H1 x=none->H1 dx=none->dx≠x ->
 sp (.ref x::(vs++dvs)) (upd (upd H1 dx (.own x)) x (.ins C dx [])) (λv H2=>v=.non/\Q (.ref x) H2) E
def Binds(K:qF)(fd:FuncData)(ps:qA Str)(ds:qA qB):Prop :=
 ∀(s:qC) (us:qA qB),K.In s.heap->(us++ds).length=ps.length->BindsTo s fd ⟨us,[]⟩ (ps.zip (us++ds))
def Binds.all(h:∀us:qA qB,us.length=ps.length->bindArgs fd ⟨us,[]⟩=pure (ps.zip us)):Binds K fd ps []:=λs us _ a=>by
 rw[cY]at a⊢;exact .of_eq (h us a)
def a0m(CX:CXT)(X:Cx)(E:XK):Prop:=∀(qK:qA (qE×Obj)) (σ:St) (H:Hp) (s:qC) (e:qB) (s':qC),Inv X qK σ H s->CX X.stack H s E e s'->X.xe e s'
section
variable {f:qE}{dvs:qA V}{ds:qA qB}{E:XK}{m:Str}{p qP:Pos}{o:Expr}
def a7X{Q:VK}(F:FnOk X.prog X.w X.K X.mg X.base CX k f fd ps sp)(g:Room k X.A)(c:Binds X.K fd ps ds)(hd:Vals dvs ds)(i:a0m CX X E)
  (I:Inv X qK σ H s) (r:Vals vs us) (h:sp (vs++dvs) H Q E):wpAny (model X.prog X.w) X.A (call (.ref f) us) (EP X qK σ Q) X.xe s:=by
 have b:Vals (vs++dvs) (us++ds):=r.append hd;have d:(us++ds).length=ps.length:=by rw[<-b.length];exact F.len _ _ _ _ h
 refine wpAny_call (dy (F.run X.A X.stack s H ⟨us,[]⟩ (us++ds) (vs++dvs) Q E g I.env0 (c s us I.kIn d) b h) λr s' a=>?_);cases r with
 |error e=>exact i qK σ H s e s' I a
 |ok fl =>
  cases fl with
  |ret u=>exact I.after a
  |next=>exact False.elim a
  |brk=>exact False.elim a
  |cont=>exact False.elim a
def a9q(F:FnOk X.prog X.w X.K X.mg X.base CX k f fd ps sp)(n:Room k X.A)(j:Gl X x)(m:X.mg x=some (.ref f))(l:PySem.W.keepIn X.K (.ref f)=true)(g:Binds X.K fd ps ds)(hd:Vals dvs ds)(o:a0m CX X E)
  (d:PA X (e::es) t) (a:(x==("__debug__" : Str))=false:=by decide) (i:starEach (e::es) X.env=(false,eval e X.env)::starEach es X.env:=by rfl) (b:(backTo pos (starEach es X.env)).any (·.1)=false:=by rfl) :
  PE X (.Call (.Name x p) (e::es) [] pos) (a8U sp dvs E t):=by
 intro qK s σ H Q I h;refine el (a1m I j m ?_ a);refine PySem.W.callWith_K (h₀:=X.base) I.ok.mod.kin l (thn (d pos qK s σ H _ I h) λu s1 ⟨v,H1,c,r,q⟩=>⟨c.kIn,?_⟩) i b;exact a7X F n g hd o c r q
def b4X(w:PE X o ta)(c:Cls X.K C)(j:Meth X.K C m f)(F:FnOk X.prog X.w X.K X.mg X.base CX k f fd ps sp)(y:Room k X.A)(v:Binds X.K fd ps ds)(hd:Vals dvs ds)(A:a0m CX X E)(p:PA X (e::es) t)
  (d:starEach (e::es) X.env=(false,eval e X.env)::starEach es X.env:=by rfl) (b:(backTo pos (starEach es X.env)).any (·.1)=false:=by rfl)
  (z:eval (.Call (.Attribute o m qP) (e::es) [] pos) X.env=(do
   let ov <-eval o X.env
   standAt qP.atName
   let (f,first) <-holding [ov] (getMethod ov m pl)
   callWith pos f first (backTo pos (starEach (e::es) X.env)) (backToKw pos (keywordEach [] X.env))):=by rfl) :
  PE X (.Call (.Attribute o m qP) (e::es) [] pos) (a2i C m sp dvs E ta t):=by
 intro qK s σ H Q I h;refine PySem.W.methodCall_KW (pl:=pl) (thn (w qK s σ H _ I h) λu s1 ⟨x,H1,g,D,a,dx,fs,ex,n,l,q⟩=>?_) z;subst ex;obtain rfl:u=Value.ref a:=D;refine a3O g n c j l ?_;refine PySem.W.callWith_K (first:=[.ref a]) (h₀:=X.base) I.ok.mod.kin j.kp (thn (p pos qK s1 σ H1 _ g q) λG s2 ⟨J,H2,i,r,B⟩=>⟨i.kIn,?_⟩) d b;exact a7X (us:=.ref a::G) (vs:=.ref a::J) F y v hd A i (.cons rfl r) B
def b2E(i:PE X o ta)(c:Cls X.K C)(d:Meth X.K C m f)(F:FnOk X.prog X.w X.K X.mg X.base CX k f fd ps sp)(j:Room k X.A)(g:Binds X.K fd ps ds)(hd:Vals dvs ds)(p:a0m CX X E)
  (n:eval (.Call (.Attribute o m qP) [] [] pos) X.env=(do
   let ov <-eval o X.env
   standAt qP.atName
   let (f,first) <-holding [ov] (getMethod ov m pl)
   callWith pos f first (backTo pos (starEach [] X.env)) (backToKw pos (keywordEach [] X.env))):=by rfl) :
  PE X (.Call (.Attribute o m qP) [] [] pos) (a2i C m sp dvs E ta R5):=by
 intro qK s σ H Q I h;refine PySem.W.methodCall_KW (pl:=pl) (thn (i qK s σ H _ I h) λu s1 ⟨x,H1,b,r,a,dx,fs,ex,e,l,q⟩=>?_) n;subst ex;obtain rfl:u=Value.ref a:=r;refine a3O b e c d l ?_;exact PySem.W.callWith_K0 (first:=[.ref a]) b.kIn d.kp (a7X (us:=[.ref a]) (vs:=[.ref a]) F j g hd p b (.cons rfl .nil) q)
structure Mk(K:qF)(C f:qE):Prop where
 makes:PySem.W.makesIn K C=true
 init:PySem.W.findIn K (.ref C) "__init__"=some (some (.ref f))
 fn:PySem.W.isFn K (.ref f)=true
 kp:PySem.W.keepIn K (.ref C)=true
def b2g{Q:VK}(M:Mk X.K C f)(F:FnOk X.prog X.w X.K X.mg X.base CX k f fd ps sp)(m:Room (k+1) X.A)(j:Binds X.K fd ps ds)(hd:Vals dvs ds)
  (n:a0m CX X E) (I:Inv X qK σ H s) (r:Vals vs us)
  (h:∀x dx,H x=none->H dx=none->dx≠x->sp (.ref x::(vs++dvs)) (upd (upd H dx (.own x)) x (.ins C dx [])) (λv H2=>v=.non/\Q (.ref x) H2) E) :
  wpAny (model X.prog X.w) X.A (call (.ref C) us) (EP X qK σ Q) X.xe s:=by
 have c:=h (s.heap.objs.size+1) s.heap.objs.size (I.hok.fresh (eE _)) (I.hok.fresh (aq _)) (aW (cn _));have b:=Inv.made (C:=C) I;have d:Vals (V.ref (s.heap.objs.size+1)::(vs++dvs)) (Value.ref (s.heap.objs.size+1)::(us++ds)):=.cons rfl (r.append hd);have l:(Value.ref (s.heap.objs.size+1)::us++ds).length=ps.length:=by
  have e:=d.length;rw[F.len _ _ _ _ c]at e;exact e.symm
 refine wpAny_call (b3a (f:=f) I.kIn M.makes M.init (bj.mp M.fn) (dy (F.run _ X.stack _ _ ⟨Value.ref (s.heap.objs.size+1)::us,[]⟩ (Value.ref (s.heap.objs.size+1)::(us++ds)) _ _ E (m.make C us [])
  (b.env0.make C us []) (j _ (Value.ref (s.heap.objs.size+1)::us) b.kIn l) d c) λr s' a=>?_))
 cases r with
 |error e=>exact n qK σ _ _ e s' b a
 |ok fl =>
  cases fl with
  |ret u =>
   obtain⟨v,H',g,p,i,o⟩:=b.after a;subst i;exact⟨p,⟨V.ref (s.heap.objs.size+1),H',g,rfl,o⟩⟩
  |next=>exact False.elim a
  |brk=>exact False.elim a
  |cont=>exact False.elim a
def b4Y(M:Mk X.K C f)(F:FnOk X.prog X.w X.K X.mg X.base CX k f fd ps sp)(m:Room (k+1) X.A)(j:Gl X x)(l:X.mg x=some (.ref C))(g:Binds X.K fd ps ds)(hd:Vals dvs ds)(n:a0m CX X E)
  (d:PA X (e::es) t) (a:(x==("__debug__" : Str))=false:=by decide) (i:starEach (e::es) X.env=(false,eval e X.env)::starEach es X.env:=by rfl) (b:(backTo pos (starEach es X.env)).any (·.1)=false:=by rfl) :
  PE X (.Call (.Name x p) (e::es) [] pos) (b6f C sp dvs E t):=by
 intro qK s σ H Q I h;refine el (a1m I j l ?_ a);refine PySem.W.callWith_K (h₀:=X.base) I.ok.mod.kin M.kp (thn (d pos qK s σ H _ I h) λo s1 ⟨u,H1,c,r,q⟩=>⟨c.kIn,?_⟩) i b;exact b2g M F m g hd n c r q
end
section
variable {f:qE}{ks:qA Str}{E:XK}{m:Str}{p qP kpos:Pos}{o:Expr}{kws:qA Keyword}{tk:TA}{nm:qD Str}
variable {g:qA qB->qA qB->qA qB}{gV:qA V->qA V->qA V}
end
structure FnScope(N P:qA Str)(sc:Scope):Prop where
 kind:sc.kind=.function:=by rfl
 co:sc.isCoroutine=false:=by rfl
 gen:sc.isGenerator=false:=by rfl
 nd:N.Nodup:=by decide +kernel
 pre:N.take P.length=P:=by rfl
 par:∀x∈P,sc.names.lookup x=some .local∨sc.names.lookup x=some .cell:=by decide +kernel
 nofree:∀y∈sc.names,y.2≠.free:=by decide +kernel
def a4Y{kindOf:Str->qD NameKind}{x:Str}:∀{binds:qA (Str×qB)}{m:Str->qD qB},(∀v,(x,v)∉binds)->bindL kindOf binds m x=m x
 |[],_,_=>rfl
 |(n,v)::r,m,h=>by
  unfold bindL;rw[a4Y λw hw=>h w (ax _ hw)];split
  .have:x≠n:=by rintro rfl;exact h v aA
   simp[this]
  .rfl
def a5a{kindOf:Str->qD NameKind}{x:Str}:∀{binds:qA (Str×qB)}{m:Str->qD qB},(∀v,(x,v)∉binds)->bindC kindOf binds m x=m x
 |[],_,_=>rfl
 |(n,v)::r,m,h=>by
  unfold bindC;rw[a5a λw hw=>h w (ax _ hw)];split
  .rfl
  .have:x≠n:=by rintro rfl;exact h v aA
   simp[this]
def a4Z{kindOf:Str->qD NameKind}{x:Str}{v:qB}:∀{P:qA Str}{vs:qA qB}{i:Nat}{m:Str->qD qB},P.Nodup->P[i]?=some x->vs[i]?=some v->kindOf x=some .local ->
  bindL kindOf (P.zip vs) m x=some v
 |[],_,_,_,_,h,_,_=>by simp at h
 |_::_,[],_,_,_,_,h,_=>by simp at h
 |p::P,w::vs,0,m,nd,h1,h2,a=>by
  simp at h1 h2;subst h1;subst h2;show bindL kindOf ((p,w)::P.zip vs) m p=_;unfold bindL;rw[a4Y λv b=>(cv.mp nd).1 (List.of_mem_zip b).1,az a];simp
 |p::P,w::vs,i+1,m,nd,h1,h2,a=>by
  show bindL kindOf ((p,w)::P.zip vs) m x=_;unfold bindL;exact a4Z (i:=i) (cv.mp nd).2 (by simpa using h1) (by simpa using h2) a
def a5b{kindOf:Str->qD NameKind}{x:Str}{v:qB}:∀{P:qA Str}{vs:qA qB}{i:Nat}{m:Str->qD qB},P.Nodup->P[i]?=some x->vs[i]?=some v->kindOf x≠some .local ->
  bindC kindOf (P.zip vs) m x=some v
 |[],_,_,_,_,h,_,_=>by simp at h
 |_::_,[],_,_,_,_,h,_=>by simp at h
 |p::P,w::vs,0,m,nd,h1,h2,a=>by
  simp at h1 h2;subst h1;subst h2;show bindC kindOf ((p,w)::P.zip vs) m p=_;unfold bindC;rw[a5a λv b=>(cv.mp nd).1 (List.of_mem_zip b).1,ar a];simp
 |p::P,w::vs,i+1,m,nd,h1,h2,a=>by
  show bindC kindOf ((p,w)::P.zip vs) m x=_;unfold bindC;exact a5b (i:=i) (cv.mp nd).2 (by simpa using h1) (by simpa using h2) a
def start(N:qA Str)(vs:qA V):St:=vs.map some++List.replicate (N.length-vs.length) none
def L9(CX:CXT)(P:qG)(w:World)(K:qF)(mg:Str->qD qB)(base:Heap)(N:qA Str)(qual:Str)(scope:Scope)(f:qE)(cd:qB)(A:Around)(outer:qA Env)(s:qC)(H:Hp)(E:XK):Cx where
 prog:=P
 w:=w
 K:=K
 mg:=mg
 base:=base
 A:=A.deeper (envOfC qual scope s.heap.objs.size f cd)
 N:=N
 s₀:=s
 H₀:=H
 env:=envOfC qual scope s.heap.objs.size f cd
 outer:=outer
 stack:=envOfC qual scope s.heap.objs.size f cd::outer
 ex:=[]
 calm:=true
 fn:=λ_=>true
 pn:=[]
 xe:=λe s'=>wpAny (model P w) (A.deeper (envOfC qual scope s.heap.objs.size f cd)) (leaving (envOfC qual scope s.heap.objs.size f cd) e) (λ_ s''=>CX outer H s E e s'') (λe' s''=>CX outer H s E e' s'') s'
def a7z{a:Scope}(h:a.names.lookup x=some .cell):∃c,(cellsFrom n a.names []).lookup x=some c:=by
 have q:=PySem.W.cellsFrom_some a.names n [] (.inl h);exact Option.isSome_iff_exists.mp q
def b0O{N:qA Str}{qual:Str}{scope:Scope}{f:qE}{cd:qB}{outer:qA Env}{s1:qC}{E:XK}
  (S:FnScope N ps scope) (hd:A.handled=none) (d:Env0 P w K mg base A outer s H) (G:vs.length=ps.length) (r:Vals vs us)
  (x:InCallC s s.heap.objs.size (bindL (envOfC qual scope s.heap.objs.size f cd).kindOf (ps.zip us) λ_=>none) (cellsFrom (s.heap.objs.size+1) scope.names []) (bindC (envOfC qual scope s.heap.objs.size f cd).kindOf (ps.zip us) λ_=>none) s1) :
  Inv (L9 CX P w K mg base N qual scope f cd A outer s H E) [] (start N vs) H s1:=by
 have C:ps.length<=N.length:=by have:=aU List.length S.pre;rw[aS]at this;omega
 obtain⟨h1,tk,rfl,o⟩:=x.done;have j:∀b:qE,b∉(L9 CX P w K mg base N qual scope f cd A outer s H E).ex:=λb z=>absurd (show b∈([]:qA qE)from z) (by simp);refine⟨⟨d.mod,S.kind,rfl,rfl,aq _,λy z c h1 h2=>?_,λy g=>?_,λy c _ h=>?_,λ_=>hd,Around.frames_deeper d.frames,.inr ⟨rfl,rfl⟩,λb z=>absurd z (j b),d.bs,d.bsz,λb _ _=>j b,λb z=>absurd z (j b),d.funs,d.frf⟩,
  rfl,d.bare,Un.kept o,⟨_,x.toInCall.ns,λi y v h1 h2 F=>?_⟩,λy c h=>⟨_,x.cell y c h⟩,d.hok.fresh (aq _),λy c h=>?_,λp l=>absurd (show p∈([]:qA (qE×Obj))from l) (by simp),d.hok.kept o,?_⟩
 .exact name_of_addr x.apart (PySem.mem_of_lookup h1) (PySem.mem_of_lookup h2)
 .have g:scope.names.lookup y=some .cell∨scope.names.lookup y=some .free:=g;rcases g with g|g
  .exact a7z g
  .exact absurd rfl (S.nofree _ (PySem.mem_of_lookup g))
 .exact cL (x.above y c (PySem.mem_of_lookup h))
 .have hi:i<vs.length:=by
   unfold start at h2;by_cases hi:i<vs.length
   .exact hi
   .rw[ba (by simpa using hi)]at h2;rw[ft]at h2;split at h2<;>cases h2
  have B:vs[i]?=some v:=by
   unfold start at h2;rw[bA (by simpa using hi),aZ]at h2;cases e:vs[i]? with
   |none=>rw[e]at h2;cases h2
   |some a=>rw[e]at h2;cases h2;rfl
  obtain⟨u,t,D⟩:=r.get B;have l:ps[i]?=some y:=by
   rw[<-S.pre,dg (by omega)];exact h1
  have m:ps.Nodup:=by rw[<-S.pre];exact S.nd.sublist (List.take_sublist _ _)
  refine⟨u,D,?_⟩;rcases S.par y (aE l)with k|k
  .exact .inl ⟨k,a4Z m l t k⟩
  .obtain⟨c,e⟩:=a7z (n:=s.heap.objs.size+1) k;refine .inr ⟨.inl k,c,e,?_⟩;have q:=x.cell y c e;rw[a5b m l t (by show scope.names.lookup y≠_;rw[k];decide)]at q;exact q
 .exact d.hok.fresh (cL (x.above y c (PySem.mem_of_lookup h)))
 .unfold start;show _=N.length;rw[ag,ai,bw];omega
def b6F{f:qE}{name qual:Str}{c:Arguments}{scope:Scope}{G kV h pm a ct oc:qB}{an od:qD qE}
  {B:Array (qD qB)}{N:qA Str}(X:K.lookup f=some ⟨oc,od,.func (PySem.W.fnOf name qual c body scope G kV h pm an a ct),B⟩) (m:PySem.W.codeIn K a qual=true) (S:FnScope N ps scope)
  (l:∀vs H Q E,sp vs H Q E->vs.length=ps.length)
  (d:∀(A:Around) (outer:qA Env) (s:qC) (H:Hp) (vs:qA V) (Q:VK) (E:XK),Room k (A.deeper (envOfC qual scope s.heap.objs.size f a))->sp vs H Q E ->
   ∃t,PSs (L9 CX P w K mg base N qual scope f a A outer s H E) body t/\t {nx:=λ_ H'=>Q .non H',rt:=Q} (start N vs) H) :
  FnOk P w K mg base CX (k+1) f (PySem.W.fnOf name qual c body scope G kV h pm an a ct) ps sp:=by
 refine⟨l,λA outer s H F Y vs Q E p i M r j=>?_⟩;have R:=l _ _ _ _ j;have D:K.In s.heap:=i.mod.kin.keeps λb o e=>(i.bs b o e).1;have z:s.heap.NoLimit:=i.mod.nolimit.keeps λb o e=>(i.bs b o e).1;have g:∀y∈ps.zip Y,scope.names.lookup y.1=some .local∨(scope.names.lookup y.1=some .cell/\((cellsFrom (s.heap.objs.size+1) scope.names []).lookup y.1).isSome=true):=λ⟨n,v⟩ W=>by
  rcases S.par n (List.of_mem_zip W).1 with q|q
  .exact .inl q
  .exact .inr ⟨q,PySem.W.cellsFrom_some _ _ _ (.inl q)⟩
 refine codeAny_call_function p.depth (D _ _ X) rfl S.co S.gen rfl (PySem.W.codeRec_of D m) (M _ _ _ _ ?_);refine wpAny_newFunctionEnv_cells S.kind g λL O s1 x=>?_;subst O;refine⟨z.keeps x.toInCall.keep,codeAny_func ?_⟩;obtain⟨t,U,T⟩:=d A outer s H vs Q E (p.deeper _) j;have I:Inv (L9 CX P w K mg base N qual scope f a A outer s H E) [] (start N vs) H s1:=b0O S p.hd i R r x;refine du (U [] s1 (start N vs) H _ I T) (λfl s' hs=>?_) λe s' hs=>hs;have fin:∀{σ':St}{H':Hp}{v:V}{u:qB},Inv (L9 CX P w K mg base N qual scope f a A outer s H E) [] σ' H' s'->RelV v u->Q v H'->CE outer P w H s Q u s' :=
  λ{σ' H' v u} J C q=>⟨v,H',J.os,J.bare,J.base,J.hok,C,q⟩
 cases fl with
 |ret u =>
  obtain⟨v,σ',H',J,C,q⟩:=hs;exact fin J C q
 |next =>
  obtain⟨σ',H',J,q⟩:=hs;exact fin (v:=V.non) (u:=Value.none) J rfl q
 |brk =>
  obtain⟨_,_,_,q⟩:=hs;exact False.elim q
 |cont =>
  obtain⟨_,_,_,q⟩:=hs;exact False.elim q
section
variable {p:Pos}{id T:String}{r:qA V->Hp->VK->Prop}
def tCB(r:qA V->Hp->VK->Prop)(t:TA):TE:=λσ H Q=>t σ H λvs H1=>r vs H1 Q
def F0(f:D9 X (.builtin id) r)(i:Gl X x)(j:X.mg x=none)(l:bootBuiltins x=some (.builtin id))(d:PA X (e::es) t)(k:x≠"__name__":=by decide)(a:(x==("__debug__" : Str))=false:=by decide)
  (g:starEach (e::es) X.env=(false,eval e X.env)::starEach es X.env:=by rfl) (b:(backTo pos (starEach es X.env)).any (·.1)=false:=by rfl):PE X (.Call (.Name x p) (e::es) [] pos) (tCB r t):=by
 intro qK s σ H Q I h;refine el (a3A I i j l ?_ k a);exact PyProof.Rows.callWith_builtin1 (thn (d pos qK s σ H _ I h) λo s1 ⟨q,H1,c,n,m⟩=>f qK s1 σ H1 q o Q c n m) g b
def V9(f:D9 X (.type T) r)(i:Gl X x)(j:X.mg x=none)(l:bootBuiltins x=some (.type T))(d:PA X (e::es) t)(k:x≠"__name__":=by decide)(a:(x==("__debug__" : Str))=false:=by decide)
  (g:starEach (e::es) X.env=(false,eval e X.env)::starEach es X.env:=by rfl) (b:(backTo pos (starEach es X.env)).any (·.1)=false:=by rfl):PE X (.Call (.Name x p) (e::es) [] pos) (tCB r t):=by
 intro qK s σ H Q I h;refine el (a3A I i j l ?_ k a);exact eS (thn (d pos qK s σ H _ I h) λo s1 ⟨q,H1,c,n,m⟩=>f qK s1 σ H1 q o Q c n m) g b
end
end L2
namespace HT
open PySem PyProof.Rows
def lexLt:qI->qI->Bool
 |[],[]=>false
 |[],_::_=>true
 |_::_,[]=>false
 |x::xs,y::ys=>if x=y then lexLt xs ys else decide (x<y)
def lexLt_cons(x y:Int)(xs ys:qI):lexLt (x::xs) (y::ys)=if x=y then lexLt xs ys else decide (x<y):=rfl
section
open PySem.SeqAt
open PySem.AutoSeq1 (wpAny_loadPart')
open PySem.MeetsSeq PySem.MeetsSeq2 PySem.MeetsSeq3
end
section
variable {prog:qG}{w:World}{A:Around}{E:qH}{s:qC}
def cat_tup{t b:qE}{vs a:qA qB}{Q:qH}(r:IsTup s.heap t vs.toArray)(q:IsTup s.heap b a.toArray)(o:vs≠[])
  (h1:a=[]->Q (.ref t) s) (h2:a≠[]->Q (.ref s.heap.objs.size) {s with heap:=s.heap.push {cls:=.type "tuple",data:=.seq (vs++a).toArray}})
  (k:vs.length+a.length<=sizeLine):wpAny (model prog w) A (binaryOp .Add (.ref t) (.ref b)) Q E s:=by
 obtain⟨⟨cls,dd,data,sl⟩,i,m,n,hd⟩:=id r;obtain⟨⟨l,d,j,h⟩,c,f,p,g⟩:=id q;simp only at m hd f g;subst m hd f g;have e:vs.toArray++a.toArray=(vs++a).toArray:=by simp
 by_cases hw:a=[]
 .exact concat_meets ⟨_,i,rfl⟩ ⟨_,c,rfl⟩ noFill_tuple_add seq_tuple_add PySem.F.slot_tuple_add PySem.F.entry_tuple_add (PySem.F.args_tuple_add_2 _ _)
   (tuple_addW1 t b vs.toArray a.toArray n p dd d sl h (by simpa using o) (by simp[hw])) ⟨i,c,h1 hw⟩
 .refine concat_meets ⟨_,i,rfl⟩ ⟨_,c,rfl⟩ noFill_tuple_add seq_tuple_add PySem.F.slot_tuple_add PySem.F.entry_tuple_add (PySem.F.args_tuple_add_2 _ _)
   (tuple_addW2 t b vs.toArray a.toArray n p dd d sl h (by simpa using o) (by simpa using hw) (by rw[aD,aD];exact k)) ⟨i,c,?_⟩
  rw[e];exact h2 hw
def sIx(n d:Nat):qD Int->Nat
 |none=>d
 |some v=>if v<0 then(v+(n:Int)).toNat else min v.toNat n
def sIx_none(n d:Nat):sIx n d none=d:=rfl
def sIx_nat(n d k:Nat):sIx n d (some (k:Int))=min k n:=by
 show(if (k:Int)<0 then((k:Int)+(n:Int)).toNat else min (k:Int).toNat n)=min k n;rw[ar (by omega),bE]
def b6R(n d:Nat)(hd:d<=n)(o:qD Int):sIx n d o<=n:=by
 cases o with
 |none=>exact hd
 |some v =>
  show(if v<0 then(v+(n:Int)).toNat else min v.toNat n)<=n;by_cases a:v<0
  .rw[az a];omega
  .rw[ar a];exact Nat.min_le_right _ _
def a9P(v:Int)(n d:Nat):(if v<0 then max (v+(n:Int)) 0 else min v (n:Int))=((sIx n d (some v):Nat):Int):=by
 show(if v<0 then max (v+(n:Int)) 0 else min v (n:Int))=(((if v<0 then(v+(n:Int)).toNat else min v.toNat n):Nat):Int);by_cases a:v<0
 .simp only[az a];omega
 .simp only[ar a];omega
def a8G(lo hi:qD Int)(n:Nat):Builtin.Slice.sliceAdjust lo hi 1 (n:Int)=(((sIx n 0 lo:Nat):Int),((sIx n n hi:Nat):Int)):=by
 have h1:¬((1:Int)<0):=by omega
 unfold Builtin.Slice.sliceAdjust;simp only[h1,if_false];refine Prod.ext ?_ ?_
 .cases lo with
  |none=>rfl
  |some v=>exact a9P v n 0
 .cases hi with
  |none=>rfl
  |some v=>exact a9P v n n
def a8c(i j:Nat):Builtin.Slice.slicePlaces (i:Int) (j:Int) 1=j-i:=by
 unfold Builtin.Slice.slicePlaces;have h1:(1:Int) > 0:=by omega
 simp only[h1,e_,Int.ediv_one];split<;>omega
def a3f{v:qB}{o:qD Int}{Q:qD Int->qC->Prop}(p:IsPart v o)(h:Q o s):wpAny (model prog w) A (Builtin.Slice.slicePartIndex v) Q E s:=by
 cases p with
 |none=>exact slicePart_none h
 |int i t=>exact slicePart_int h
def V8{sl:qE}{c d:qB}{lo hi:qD Int}{n:Nat}{Q:Int×Int×Nat->qC->Prop}(hs:s.heap.IsSliceOf sl c d .none)(pl:IsPart c lo)(f:IsPart d hi)
  (h:Q (((sIx n 0 lo:Nat):Int),1,sIx n n hi-sIx n 0 lo) s):wpAny (model prog w) A (Builtin.Slice.sliceApplied (.ref sl) (pure (n:Int))) Q E s:=by
 obtain⟨os,b,e,a⟩:=id hs;unfold Builtin.Slice.sliceApplied Builtin.Slice.sliceFields;refine aa (aa (cu b a (x:=c) rfl (aa (cu b a (x:=d) rfl (aa (cu b a (x:=.none) rfl (ae ?_)))))));refine aa (slicePart_none ?_);show wpAny _ _ (if ((1:Int)==0)=true then _ else _) _ _ s;rw[ar (by decide)];refine aa (a3f pl (aa (a3f f (aa (ae ?_)))));show wpAny _ _ (match Builtin.Slice.sliceAdjust lo hi 1 (n:Int)with | (lo,hi)=>pure (lo,(1:Int),Builtin.Slice.slicePlaces lo hi 1)) _ _ s;rw[a8G lo hi n];show wpAny _ _ (pure (((sIx n 0 lo:Nat):Int),(1:Int),Builtin.Slice.slicePlaces ((sIx n 0 lo:Nat):Int) ((sIx n n hi:Nat):Int) 1)) _ _ s;rw[a8c];exact ae h
def b2A(xs:Array qB)(i k:Nat):((List.range k).filterMap λ(m:Nat)=>xs[((i:Int)+(m:Int)*1).toNat]?).toArray=((xs.toList.drop i).take k).toArray:=by
 have e:(λ(m:Nat)=>xs[((i:Int)+(m:Int)*1).toNat]?)=λm=>xs[i+m]?:=by
  funext m;have:((i:Int)+(m:Int)*1).toNat=i+m:=by omega
  rw[this]
 rw[e];have:=pick_run xs i k;rw[List.filterMap_map]at this;have a:((λx=>xs[x]?) ∘ λx=>i+x)=λm=>xs[i+m]?:=rfl;rw[a]at this;rw[this]
def getItem_tuple_cut{t sl:qE}{items:Array qB}{g i:qB}{lo hi:qD Int}{Q:qH}(b:IsTup s.heap t items)(hs:s.heap.IsSliceOf sl g i .none)(pl:IsPart g lo)(l:IsPart i hi)
  (hw:¬(sIx items.size 0 lo=0/\sIx items.size items.size hi=items.size))
  (h:Q (.ref s.heap.objs.size) {s with heap:=s.heap.push {cls:=.type "tuple",data:=.seq ((items.toList.drop (sIx items.size 0 lo)).take (sIx items.size items.size hi-sIx items.size 0 lo)).toArray}})
  (k:items.size<=sizeLine):wpAny (model prog w) A (getItem (.ref t) (.ref sl)) Q E s:=by
 have a:sizeOk (.seq ((items.toList.drop (sIx items.size 0 lo)).take (sIx items.size items.size hi-sIx items.size 0 lo)).toArray):=by
  show((items.toList.drop (sIx items.size 0 lo)).take (sIx items.size items.size hi-sIx items.size 0 lo)).toArray.size<=sizeLine;rw[aD,aS,bx,ay];omega
 have n:sIx items.size items.size hi<=items.size:=b6R _ _ (aq _) hi;obtain⟨os,f,d,j⟩:=id hs;have c:s.TypeIs (.ref sl) "slice":=⟨os,f,d⟩;unfold getItem
 try with_reducible refine cf ?_
 first|refine aa (ae ?_)|skip
 refine aa (wpAny_sequenceKey b.typeIs (by decide) ?_);refine aa (bO (name:=Str.ofString "__getitem__") b.typeIs bN
  (bQ bN b.typeIs entry_tuple_getitem ?_ (args_tuple_getitem _ _)))
 show wpAny _ _ (Builtin.Tuple.tupleItemsOf (.ref t)>>=_) _ _ s;refine aa (tupleItemsOf_ b ?_);refine aa (dX c ?_);rw[az (by decide)];refine aa (V8 hs pl l ?_);have e:¬((((sIx items.size 0 lo:Nat):Int)==0 && (1:Int)==1 && (sIx items.size items.size hi-sIx items.size 0 lo)==items.size)=true):=by
  intro q;rw[aM,aM]at q;have o:((sIx items.size 0 lo:Nat):Int)=0:=eq_of_beq q.1.1;have p:sIx items.size items.size hi-sIx items.size 0 lo=items.size:=eq_of_beq q.2;exact hw ⟨by omega,by omega⟩
 show wpAny _ _ (if (((sIx items.size 0 lo:Nat):Int)==0 && (1:Int)==1 && (sIx items.size items.size hi-sIx items.size 0 lo)==items.size)=true then _ else _) _ _ s;rw[ar e,b2A]
 first
  |exact aa (m:=Builtin.Tuple.tupleExact _) (bK (ae ⟨_,rfl,ae h⟩) a)
  |exact aa (m:=Builtin.Tuple.tupleExact _) (bK (aa (ae (ae ⟨_,rfl,ae h⟩))) a)
  |exact aa (aa (m:=Builtin.Tuple.tupleExact _) (bK (ae (ae ⟨_,rfl,ae h⟩)) a))
  |exact aa (aa (m:=Builtin.Tuple.tupleExact _) (bK (ae ⟨_,rfl,ae h⟩) a))
end
end HT
namespace L2
open PySem PySem.Spec PyProof.Rows
variable {H:Hp}{X:Cx}{n:Nat}{qK:qA (qE×Obj)}{s:qC}{us:qA qB}{x:V}{xs:qA V}{α:Type}{σ:St}
abbrev TO:=St->Hp->(qD Int->Hp->Prop)->Prop
def PO(X:Cx)(e:qD Expr)(t:TO):Prop :=
 ∀(qK:qA (qE×Obj)) (s:qC) (σ:St) (H:Hp) (Q:qD Int->Hp->Prop),Inv X qK σ H s->t σ H Q ->
  wpAny (model X.prog X.w) X.A (evalPart e X.env) (λu s'=>∃o H',Inv X qK σ H' s'/\IsPart u o/\Q o H') X.xe s
def M1:TO:=λ_ H Q=>Q none H
def a2h(t:TE):TO:=λσ H Q=>t σ H λx H1=>∃i,x=.int i/\Q (some i) H1
def a8s{ns:qI}:∀{us:qA qB},Vals (ns.map V.int) us->IntsAre us ns:=by
 induction ns with
 |nil=>intro us r;rw[List.map_nil]at r;cases r;exact .nil
 |cons n ns a =>
  intro us r;rw[aV]at r;cases r with
  |cons r1 r2 =>
   obtain⟨t,e⟩:=r1;subst e;exact .cons n t (a r2)
section
variable {e:Expr}{te:TE}{lo hi:qD Expr}{tl th:TO}{pos p2:Pos}
def b4N:PO X none M1:=by
 intro qK s σ H Q I h;rw[evalPart_none];exact ae ⟨none,H,I,.none,h⟩
def b4M(h:PE X e te):PO X (some e) (a2h te):=by
 intro qK s σ H Q I hw;rw[evalPart_some];refine thn (h qK s σ H _ I hw) λu s1 ⟨x,H1,a,c,b⟩=>?_;obtain⟨i,rfl,q⟩:=b;obtain⟨t,rfl⟩:=c;exact⟨some i,H1,a,.int i t,q⟩
def SlR(X:Cx)(r:V->qD Int->qD Int->Hp->VK->Prop):Prop :=
 ∀(qK:qA (qE×Obj)) (s:qC) (σ:St) (H:Hp) (x:V) (v vl vu:qB) (lo hi:qD Int) (sl:qE) (Q:VK),Inv X qK σ H s->RelV x v->s.heap.IsSliceOf sl vl vu .none->IsPart vl lo->IsPart vu hi->r x lo hi H Q ->
  ∃T id,typeLookup (.type T) "__getitem__"=pure (some (.builtin id))/\s.TypeIs v T/\wpAny (model X.prog X.w) X.A (getItem v (.ref sl)) (EP X qK σ Q) X.xe s
def tSl(r:V->qD Int->qD Int->Hp->VK->Prop)(te:TE)(tl th:TO):TE:=λσ H Q=>te σ H λx H1=>tl σ H1 λl H2=>th σ H2 λu H3=>r x l u H3 Q
def a3p{r:V->qD Int->qD Int->Hp->VK->Prop}(p:SlR X r)(m:PE X e te)(o:PO X lo tl)(w:PO X hi th):PE X (.Subscript e (.Slice lo hi none p2) pos) (tSl r te tl th):=by
 intro qK s σ H Q I h;refine Subscript_ (thn (m qK s σ H _ I h) λv s1 ⟨x,H1,f,D,A⟩=>?_);refine wpAny_Slice (thn (o qK s1 σ H1 _ f A) λc s2 ⟨l,H2,g,y,B⟩=>thn (w qK s2 σ H2 _ g B) λvu a ⟨u,d,i,z,C⟩=>?_);rw[evalPart_none];refine ae ?_;have j:Inv X qK σ d {a with heap:=a.heap.push {cls:=.type "slice",data:=.fields #[c,vu,.none]}}:=i.kept (t':=a.toks) λb E q=>aj _ q;obtain⟨T,id,k,t,n⟩:=p qK {a with heap:=a.heap.push {cls:=.type "slice",data:=.fields #[c,vu,.none]}} σ d x v c vu l u a.heap.objs.size Q j D (Heap.IsSliceOf.new ..) y z C;show wpAny (model X.prog X.w) X.A (subscriptTail e (.Slice lo hi none p2) v (.ref a.heap.objs.size)) (EP X qK σ Q) X.xe {a with heap:=a.heap.push {cls:=.type "slice",data:=.fields #[c,vu,.none]}};exact tail_any (ops:=[.ref a.heap.objs.size,v]) t k n (by with_unfolding_all rfl)
def M0(xs:qA V)(lo hi:qD Int):qA V:=(xs.drop (HT.sIx xs.length 0 lo)).take (HT.sIx xs.length xs.length hi-HT.sIx xs.length 0 lo)
def a0i(xs:qA V)(lo hi:qD Int):(M0 xs lo hi).length<=xs.length:=by
 unfold M0;rw[aS,bx];omega
def a6O(K:qF):V->qD Int->qD Int->Hp->VK->Prop:=λx lo hi H Q=>∃a xs,x=.ref a/\SqT K H a xs /\
 ¬(HT.sIx xs.length 0 lo=0/\HT.sIx xs.length xs.length hi=xs.length)/\∀p,H p=none->Q (.ref p) (upd H p (.tup (M0 xs lo hi)))
def b1V:SlR X (a6O X.K):=by
 intro qK s σ H x v l m lo hi sl Q I j hs g i h;obtain⟨a,xs,rfl,f,hw,q⟩:=h;cases j;obtain⟨its,r,d,e⟩:=I.tuple f;have c:its.toArray.size=xs.length:=by rw[aD];exact r.length.symm
 refine⟨"tuple",_,bN.lookup,d.typeIs,?_⟩;refine HT.getItem_tuple_cut d hs g i (by rw[c];exact hw) ?_ (by rw[c];exact e);rw[c];refine⟨.ref s.heap.objs.size,_,I.laid (t':=s.toks) (o:=.tup (M0 xs lo hi)) (λb k q=>aj _ q) (aq _) ?_,rfl,q _ (I.hok.fresh (aq _))⟩;exact⟨a_ (a0i xs lo hi) e,_,(r.drop (HT.sIx xs.length 0 lo)).take (HT.sIx xs.length xs.length hi-HT.sIx xs.length 0 lo),IsTup.new _ _⟩
def b8W(K:qF):R2:=λx y H Q=>∃a b xs ys,x=.ref a/\y=.ref b/\SqT K H a xs/\SqT K H b ys/\xs≠[]/\xs.length+ys.length<=sizeLine /\
 (ys=[]->Q (.ref a) H)/\(ys≠[]->∀p,H p=none->Q (.ref p) (upd H p (.tup (xs++ys))))
def Vals.nil_iff(r:Vals xs us):us=[]↔xs=[]:=by
 cases r with
 |nil=>simp
 |cons _ _=>simp
def b5f:OpR X (binaryOp .Add) (b8W X.K):=by
 intro qK s σ H x y v u Q I m n h;obtain⟨a,b,xs,ys,rfl,rfl,g,i,j,e,k,l⟩:=h;cases m;cases n;obtain⟨its,d,p1,_⟩:=I.tuple g;obtain⟨f,c,p2,_⟩:=I.tuple i;refine HT.cat_tup p1 p2 (λz=>j (d.nil_iff.mp z)) (λz=>⟨.ref a,H,I,rfl,k (c.nil_iff.mp z)⟩) (λz=>?_) (by rw[<-d.length,<-c.length];exact e);refine⟨.ref s.heap.objs.size,_,I.laid (t':=s.toks) (o:=.tup (xs++ys)) (λb p q=>aj _ q) (aq _) ?_,rfl,l (λw=>z (c.nil_iff.mpr w)) _ (I.hok.fresh (aq _))⟩;exact⟨by rw[ag];exact e,_,d.append c,IsTup.new _ _⟩
end
def ixN(n:Nat)(i:Int):qJ:=if 0<=i then(if i<n then some i.toNat else none)else if -(n:Int)<=i then some (i+n).toNat else none
def atI{α:Type}(xs:qA α)(i:Int):qD α:=(ixN xs.length i).bind λj=>xs[j]?
def a9E{i:Int}{j:Nat}(h:ixN n i=some j):seqIndex? i n=some j/\j<n /\ -(n:Int)<=i/\i<n:=by
 unfold ixN at h;by_cases a:0<=i
 .rw[az a]at h;by_cases h1:i<n
  .rw[az h1]at h;have e:i.toNat=j:=bH h;exact⟨by rw[seqIndex_of a h1,e],by omega,by omega,h1⟩
  .rw[ar h1]at h;cases h
 .rw[ar a]at h;by_cases h1 : -(n:Int)<=i
  .rw[az h1]at h;have e:(i+n).toNat=j:=bH h;exact⟨by rw[seqIndex_neg (by omega) h1,e],by omega,h1,by omega⟩
  .rw[ar h1]at h;cases h
def a9R{xs:qA α}{i:Int}{v:α}(h:atI xs i=some v):∃j,seqIndex? i xs.length=some j/\xs[j]?=some v/\j<xs.length /\ -(xs.length:Int)<=i/\i<xs.length:=by
 unfold atI at h;cases e:ixN xs.length i with
 |none=>rw[e]at h;cases h
 |some j =>
  rw[e]at h;obtain⟨h1,h2,a,b⟩:=a9E e;exact⟨j,h1,h,h2,a,b⟩
def P7{xs:qA α}{j:Nat}{v:α}(h:xs[j]?=some v):atI xs (j:Int)=some v:=by
 have a:j<xs.length:=(aL.mp h).1;have e:ixN xs.length (j:Int)=some j:=by
  unfold ixN;rw[az (by omega),az (by omega)];simp
 unfold atI;rw[e];exact h
def a6e(b:Expr):Prop:=∀o i,subscripted b false o i=operate [o,i] (getItem o i)
def IxR(X:Cx)(r:R2):Prop :=
 ∀(value slice:Expr) (qK:qA (qE×Obj)) (s:qC) (σ:St) (H:Hp) (x y:V) (v u:qB) (Q:VK),Inv X qK σ H s->RelV x v->RelV y u->r x y H Q ->
  subscripted slice false v u=operate [v,u] (getItem v u)->wpAny (model X.prog X.w) X.A (subscriptTail value slice v u) (EP X qK σ Q) X.xe s
def MtR(X:Cx)(id:String)(r:V->qA V->Hp->VK->Prop):Prop :=
 ∀(qK:qA (qE×Obj)) (s:qC) (σ:St) (H:Hp) (x:V) (xs:qA V) (v:qB) (us:qA qB) (Q:VK),Inv X qK σ H s->RelV x v->Vals xs us->r x xs H Q ->
  wpAny (model X.prog X.w) X.A (call (.builtin id) (v::us)) (EP X qK σ Q) X.xe s
section
variable {a b:Expr}{ta tb:TE}{pos:Pos}
def b6u{r:R2}(f:IxR X r)(d:PE X a ta)(e:PE X b tb)(hs:a6e b):PE X (.Subscript a b pos) (tOp r ta tb):=by
 intro qK s σ H Q I h;exact Subscript_ (b8n d e I h λv u s2 x y H2 c g i q=>f a b qK s2 σ H2 x y v u Q c g i q (hs _ _))
def b4E(K:qF):R2:=λx y H Q=>∃p xs i v,x=.ref p/\y=.int i/\SqL K H p xs/\atI xs i=some v/\Q v H
def b6U(K:qF):R2:=λx y H Q=>∃p xs i v,x=.ref p/\y=.int i/\SqT K H p xs/\atI xs i=some v/\Q v H
def b5C:IxR X (b4E X.K):=by
 intro value c qK s σ H x y v u Q I n o h hs;obtain⟨p,xs,i,z,rfl,rfl,m,k,q⟩:=h;cases n;obtain⟨t,rfl⟩:=o;obtain⟨its,r,a,C⟩:=I.list m;obtain⟨j,h1,h2,A,f,g⟩:=a9R k;obtain⟨w,d,b⟩:=r.get h2;have l:=r.length;have B:=a3z;have fin:EP X qK σ Q w s:=⟨z,H,I,b,q⟩;by_cases e:0<=i
 .have hj:i.toNat=j:=by
   rw[seqIndex_of e g]at h1;exact bH h1
  exact item_listR a.isList e (by omega) (by rw[hj];simpa using d) fin hs
 .have hj:(i+(its.toArray.size:Int)).toNat=j:=by
   rw[seqIndex_neg (by omega) f]at h1;rw[aD,<-l];exact bH h1
  exact subscriptTail_builtinR (x:=w) a.isList.typeIs slot_list_getitem.lookup
   (wpAny_getItem_list_neg (Q:=λr s'=>r=w/\EP X qK σ Q r s') a.isList (by omega) (by rw[aD]<;>omega) (by omega) (by rw[hj];simpa using d) ⟨rfl,fin⟩) hs
def b8a:IxR X (b6U X.K):=by
 intro value b qK s σ H x y v u Q I k l h hs;obtain⟨p,xs,i,z,rfl,rfl,g,e,q⟩:=h;cases k;obtain⟨t,rfl⟩:=l;obtain⟨its,r,c,B⟩:=I.tuple g;obtain⟨j,h1,h2,m,n,o⟩:=a9R e;obtain⟨w,d,a⟩:=r.get h2;have f:=r.length;have A:=a3z;have fin:EP X qK σ Q w s:=⟨z,H,I,a,q⟩;exact subscriptTail_builtinR (x:=w) c.typeIs slot_tuple_getitem.lookup
  (getItem_tuple (j:=j) (Q:=λr s'=>r=w/\EP X qK σ Q r s') c (by omega) (by omega) (by rw[aD,<-f];exact h1) (by simpa using d) ⟨rfl,fin⟩) hs
def a8k(its:qA qB)(n j:Nat)(u:qB):Obj.mapSeq (·.setIfInBounds j u) {cls:=.type "list",data:=.seq its.toArray n}={cls:=.type "list",data:=.seq (its.set j u).toArray n}:=by
 simp[Obj.mapSeq]
def Inv.lst{p:qE}(I:Inv X qK σ H s)(h:H p=some (.lst xs)) :
  ∃(its:qA qB) (n:Nat),Vals xs its/\s.heap.get? p=some {cls:=.type "list",data:=.seq its.toArray n}/\xs.length<=sizeLine:=by
 obtain⟨z,its,n,r,e⟩:=I.hok p _ h;exact⟨its,n,r,e,z⟩
def Inv.lstUpd{p:qE}{ys:qA V}{its its':qA qB}{a:Nat}{f:Obj->Obj}(I:Inv X qK σ H s)(h:H p=some (.lst xs))
  (g:s.heap.get? p=some {cls:=.type "list",data:=.seq its.toArray n}) (c:f {cls:=.type "list",data:=.seq its.toArray n}={cls:=.type "list",data:=.seq its'.toArray a}) (r:Vals ys its') (i:ys.length<=sizeLine) (t:Nat) :
  Inv X qK σ (upd H p (.lst ys)) {s with heap:=s.heap.update p f,toks:=t}:=by
 have e:(s.heap.update p f).get? p=some {cls:=.type "list",data:=.seq its'.toArray a}:=by
  rw[cP f g (by rw[c]<;>rfl),c]
 refine I.write (x:=p) (e:=p) (by rw[h];trivial) (.inl rfl) (λb u d q=>(fE _ _ (dF d)).trans q) ⟨_,e⟩ ?_;exact⟨i,its',a,r,e⟩
def b6q:V->V->V->Hp->(Hp->Prop)->Prop:=λo i v H Q=>∃p xs k j,o=.ref p/\i=.int k/\H p=some (.lst xs)/\ixN xs.length k=some j/\Q (upd H p (.lst (xs.set j v)))
def b2a:b9t X b6q:=by
 intro qK s σ H o i v B A u Q I x w y h;obtain⟨p,xs,k,j,rfl,rfl,g,l,q⟩:=h;cases x;obtain⟨t,rfl⟩:=w;obtain⟨its,n,r,b,m⟩:=I.lst g;obtain⟨h1,h2,e,f⟩:=a9E l;have a:=r.length;have z:=a3z;have c:Inv X qK σ (upd H p (.lst (xs.set j v))) {s with heap:=s.heap.update p (Obj.mapSeq (·.setIfInBounds j u))} :=
  I.lstUpd g b (a8k its n j u) (r.set y j) (by rw[ez];exact m) s.toks
 by_cases d:0<=k
 .have hk:k.toNat=j:=by
   rw[seqIndex_of d f]at h1;exact bH h1
  exact PySem.W.ki_setAt b d (by omega) (by rw[aD,<-a];exact f) (by rw[hk];exact⟨_,c,q⟩)
 .have hk:(k+(its.toArray.size:Int)).toNat=j:=by
   rw[seqIndex_neg (by omega) e]at h1;rw[aD,<-a];exact bH h1
  exact PySem.W.ki_setBack b (by omega) (by rw[aD,<-a];exact e) (by omega) (by rw[hk];exact⟨_,c,q⟩)
def a5t(lo hi:qD Int)(n:Nat):(sliceBounds lo hi none n).1=((HT.sIx n 0 lo:Nat):Int)/\(sliceBounds lo hi none n).2.1=((HT.sIx n n hi:Nat):Int)/\(sliceBounds lo hi none n).2.2=1:=by
 refine⟨?_,?_,rfl⟩
 .cases lo with
  |none=>simp[sliceBounds,HT.sIx]
  |some i =>
   simp only[sliceBounds,HT.sIx,Option.getD_none,show(1:Int) > 0 by decide,e_];by_cases h:i<0
   .simp only[h,e_]<;>omega
   .simp only[h,if_false]<;>omega
 .cases hi with
  |none=>simp[sliceBounds,HT.sIx]
  |some i =>
   simp only[sliceBounds,HT.sIx,Option.getD_none,show(1:Int) > 0 by decide,e_];by_cases h:i<0
   .simp only[h,e_]<;>omega
   .simp only[h,if_false]<;>omega
def a4i(its:qA qB)(lo hi:qD Int):slicePick its.toArray lo hi none=((its.drop (HT.sIx its.length 0 lo)).take (HT.sIx its.length its.length hi-HT.sIx its.length 0 lo)).toArray:=by
 obtain⟨h1,h2,a⟩:=a5t lo hi its.toArray.size;unfold slicePick;rw[h1,h2,a];simp only[sliceRange_one,pick_run,aD]<;>rfl
def b6T(K:qF):V->qD Int->qD Int->Hp->VK->Prop:=λx lo hi H Q=>∃a xs,x=.ref a/\SqL K H a xs/\∀p,H p=none->Q (.ref p) (upd H p (.lst (M0 xs lo hi)))
def b4o:SlR X (b6T X.K):=by
 intro qK s σ H x v l m lo hi sl Q I j hs g i h;obtain⟨a,xs,rfl,e,q⟩:=h;cases j;obtain⟨its,r,d,f⟩:=I.list e;have c:=r.length;refine⟨"list",_,slot_list_getitem.lookup,d.isList.typeIs,?_⟩;refine wpAny_getItem_list_slice d.isList hs g i .none (by simp) ?_ (by rw[aD]<;>omega);rw[a4i,<-c];refine⟨.ref s.heap.objs.size,_,I.laid (t':=s.toks) (o:=.lst (M0 xs lo hi)) (λb k q=>aj _ q) (aq _) ?_,rfl,q _ (I.hok.fresh (aq _))⟩;exact⟨a_ (a0i xs lo hi) f,_,0,(r.drop (HT.sIx xs.length 0 lo)).take (HT.sIx xs.length xs.length hi-HT.sIx xs.length 0 lo),aG _ rfl⟩
def a7r:V->Bool
 |.non=>true
 |.bl _=>true
 |.int _=>true
 |.str _=>true
 |_=>false
def eqV:V->V->Bool
 |.non,.non=>true
 |.bl a,.bl b=>a==b
 |.bl a,.int b=>(if a then 1 else 0)==b
 |.int a,.bl b=>a==(if b then 1 else 0)
 |.int a,.int b=>a==b
 |.str a,.str b=>a==b
 |_,_=>false
def b8i{A:Around}{y:V}{u v:qB}(d:RelV y u)(c:RelV x v)(fy:a7r y=true)(fx:a7r x=true):SeqAt.EqAt A s u v (eqV y x):=by
 cases y with
 |non =>
  cases d;cases x with
  |non=>cases c;exact SeqAt.EqAt.same _
  |bl b=>cases c;exact SeqAt.EqAt.none_bool b
  |int b=>obtain⟨t,rfl⟩:=c;exact SeqAt.EqAt.none_int b t
  |str b=>obtain⟨t,rfl⟩:=c;exact SeqAt.EqAt.none_str b t
  |_=>exact absurd (show false=true from fx) bf
 |bl a =>
  cases d;cases x with
  |non=>cases c;exact SeqAt.EqAt.bool_none a
  |bl b=>cases c;exact SeqAt.EqAt.bool_bool a b
  |int b=>obtain⟨t,rfl⟩:=c;exact SeqAt.EqAt.bool_int a b t
  |str b=>obtain⟨t,rfl⟩:=c;exact SeqAt.EqAt.bool_str a b t
  |_=>exact absurd (show false=true from fx) bf
 |int a =>
  obtain⟨t',rfl⟩:=d;cases x with
  |non=>cases c;exact SeqAt.EqAt.int_none a t'
  |bl b=>cases c;exact SeqAt.EqAt.int_bool a t' b
  |int b=>obtain⟨t,rfl⟩:=c;exact SeqAt.EqAt.int_int a t' b t
  |str b=>obtain⟨t,rfl⟩:=c;exact SeqAt.EqAt.int_str a t' b t
  |_=>exact absurd (show false=true from fx) bf
 |str a =>
  obtain⟨t',rfl⟩:=d;cases x with
  |non=>cases c;exact SeqAt.EqAt.str_none a t'
  |bl b=>cases c;exact SeqAt.EqAt.str_bool a t' b
  |int b=>obtain⟨t,rfl⟩:=c;exact SeqAt.EqAt.str_int a t' b t
  |str b=>obtain⟨t,rfl⟩:=c;exact SeqAt.EqAt.str_str a t' b t
  |_=>exact absurd (show false=true from fx) bf
 |_=>exact absurd (show false=true from fy) bf
def a6c:D9 X (.builtin "len") (λxs H Q=>∃p ys,xs=[.ref p]/\(SqL X.K H p ys∨SqT X.K H p ys)/\Q (.int ys.length) H):=by
 intro qK s σ H xs e Q I r h;obtain⟨p,ys,rfl,b,q⟩:=h;obtain⟨u,rfl,c⟩:=a6n r;cases c;have d:=a3z;rcases b with b|b
 .obtain⟨its,r',pl,hz⟩:=I.list b;have a:=r'.length;exact Calls.call_len_list pl.isList (by simp only[aD]<;>omega) ⟨.int ys.length,H,I.tok _,⟨s.toks+1,by rw[aD,a]⟩,q⟩
 .obtain⟨its,r',pl,hz⟩:=I.tuple b;have a:=r'.length;exact len_tuple pl (by simp only[aD]<;>omega) ⟨.int ys.length,H,I.tok _,⟨s.toks+1,by rw[aD,a]⟩,q⟩
def a6b:D9 X (.type "list") (λxs H Q=>∃p ys,xs=[.ref p]/\(SqL X.K H p ys∨SqT X.K H p ys)/\∀l,H l=none->Q (.ref l) (upd H l (.lst ys))):=by
 intro qK s σ H xs m Q I r h;obtain⟨p,ys,rfl,d,q⟩:=h;obtain⟨u,rfl,k⟩:=a6n r;cases k;have fin:∀(its:qA qB),Vals ys its->ys.length<=sizeLine->∀(h':Heap) (c':Nat),(∀b o',s.heap.get? b=some o'->h'.get? b=some o') ->
   h'.get? s.heap.objs.size=some {cls:=.type "list",dict:=none,data:=.seq its.toArray c',slots:=#[]}->EP X qK σ Q (.ref s.heap.objs.size) {s with heap:=h'}:=λits a f h' c' g e =>
  ⟨.ref s.heap.objs.size,_,I.laid (t':=s.toks) g (aq _) (show ObjOk X.prog X.w _ h' _ (.lst ys)from⟨f,its,c',a,e⟩),rfl,q _ (I.hok.fresh (aq _))⟩
 rcases d with d|d
 .obtain⟨its,a,pl,f⟩:=I.list d;have c:=a.length;obtain⟨o,j,i,n,hd⟩:=pl.isList;exact call_list_seq p (.inl rfl) j i hd (λh' c' g e=>fin its a f h' c' g e) (by simp only[aD]<;>omega)
 .obtain⟨its,a,pl,f⟩:=I.tuple d;have c:=a.length;obtain⟨o,j,i,n,hd⟩:=pl;exact call_list_seq p (.inr rfl) j i hd (λh' c' g e=>fin its a f h' c' g e) (by simp only[aD]<;>omega)
def a4q:D9 X (.type "tuple") (λxs H Q=>∃p ys,xs=[.ref p]/\((SqL X.K H p ys/\∀l,H l=none->Q (.ref l) (upd H l (.tup ys)))∨(SqT X.K H p ys/\Q (.ref p) H))):=by
 intro qK s σ H xs j Q I r h;obtain⟨p,ys,rfl,h⟩:=h;obtain⟨u,rfl,i⟩:=a6n r;cases i;rcases h with⟨a,q⟩|⟨a,q⟩
 .obtain⟨its,r',pl,hz⟩:=I.list a;have d:=r'.length;refine call_tuple_list pl.isList (λh' g=>?_) (by simp only[aD]<;>omega);have c:Inv X qK σ H {s with heap:=h'}:=I.kept (t':=s.toks) g;have f:Inv X qK σ (upd H h'.objs.size (.tup ys)) {s with heap:=h'.push {cls:=.type "tuple",data:=.seq its.toArray}} :=
   c.laid (t':=s.toks) (λb o e=>aj _ e) (aq _) (show ObjOk X.prog X.w _ _ _ (.tup ys)from⟨hz,its,r',IsTup.new _ _⟩)
  exact⟨.ref h'.objs.size,_,f,rfl,q _ (c.hok.fresh (aq _))⟩
 .obtain⟨its,r',pl,hz⟩:=I.tuple a;exact call_tuple_same pl ⟨.ref p,H,I,rfl,q⟩
def tyV(K:qF)(T:String)(x:V)(H:Hp):Prop:=match x with
 |.str _=>T="str"
 |.int _=>T="int"
 |.ref p=>(T="list" /\ ∃xs,SqL K H p xs)∨(T="tuple" /\ ∃o,K.lookup p=some o/\o.cls=.type "tuple"/\o.dict=none) ∨
   (T="dict"/\((∃qL,H p=some (.dK qL))∨∃qL,H p=some (.dT qL)))∨(T="set" /\ ∃S n,H p=some (.set S n))
 |_=>False
def b6K{T:String}{v:qB}(I:Inv X qK σ H s)(r:RelV x v)(ty:tyV X.K T x H) :
  s.TypeIs v T/\∀a,v=.ref a->∃f,s.heap.get? a=some f/\f.dict=none:=by
 cases x with
 |str z =>
  obtain⟨t,rfl⟩:=r;cases(show T="str" from ty);exact⟨typeIs_str s z t,λ_ e=>nomatch e⟩
 |int i =>
  obtain⟨t,rfl⟩:=r;cases(show T="int" from ty);exact⟨typeIs_int s i t,λ_ e=>nomatch e⟩
 |ref p =>
  cases r;rcases ty with⟨rfl,xs,h⟩|⟨rfl,o,b,g,hd⟩|⟨rfl,b⟩|⟨rfl,S,n,b⟩
  .obtain⟨its,_,pl,_⟩:=I.list h;refine⟨pl.isList.typeIs,λa e=>?_⟩;cases e;obtain⟨o,n,e,c,hd,_⟩:=pl;exact⟨o,e,hd⟩
  .refine⟨⟨o,I.kIn p o b,g⟩,λa e=>?_⟩;cases e;exact⟨o,I.kIn _ o b,hd⟩
  .have z:∃o,s.heap.get? p=some o/\o.ExactDict:=by
    rcases b with⟨qL,b⟩|⟨qL,b⟩
    .obtain⟨_,_,_,_,o,_,_,e,ex,_⟩:=I.hok p _ b;exact⟨o,e,ex⟩
    .obtain⟨_,_,_,_,o,_,_,e,ex,_⟩:=I.hok p _ b;exact⟨o,e,ex⟩
   obtain⟨o,e,ex⟩:=z;refine⟨⟨o,e,ex.1⟩,λa d=>?_⟩;cases d;exact⟨o,e,ex.2.1⟩
  .obtain⟨o,_,_,_,e,ex,_⟩:=I.hok p _ b;refine⟨⟨o,e,ex.1⟩,λa d=>?_⟩;cases d;exact⟨o,e,ex.2.1⟩
 |_=>exact False.elim ty
def tBM(K:qF)(T:String)(r:V->qA V->Hp->VK->Prop)(to:TE)(t:TA):TE:=λσ H Q=>to σ H λx H1=>tyV K T x H1/\t σ H1 λxs H2=>r x xs H2 Q
variable {o e:Expr}{es:qA Expr}{to:TE}{t:TA}{name:Str}{qP qM:Pos}{T id:String}{r:V->qA V->Hp->VK->Prop}
def b9c(q:PlainAttrs T)(f:Slot T name id)(g:typeOf (.builtin id)=pure (.type "method_descriptor"))(n:MtR X id r)(p:PE X o to)(m:PA X (e::es) t)
  (b:attributeBase o name X.env (eval o X.env)=eval o X.env:=by rfl)
  (d:((backTo qM (starEach (e::es) X.env)).all (λx=>!x.1) && (backToKw qM (keywordEach [] X.env)).all (λx=>x.1.isSome)
   && decide ((e::es).length+([]:qA Keyword).length+(if ([]:qA Keyword).isEmpty then 0 else 1)<30))=true:=by rfl)
  (c:(qP.endLine==qM.line)=true:=by rfl) (hs:starEach (e::es) X.env=(false,eval e X.env)::starEach es X.env:=by rfl) (a:(backTo qM (starEach es X.env)).any (·.1)=false:=by rfl) :
  PE X (.Call (.Attribute o name qP) (e::es) [] qM) (tBM X.K T r to t):=by
 intro qK s σ H Q I h;refine wpAny_Call_method_late b d c rfl (thn (p qK s σ H _ I h) λv s1 ⟨x,H1,i,k,ty,u⟩=>?_);obtain⟨h1,h2⟩:=b6K i k ty;refine⟨T,id,q,f,g,h1,h2,?_⟩;have j:=m qM qK s1 σ H1 _ i u;rw[hs]at j⊢;refine Calls.callWith_builtin (by show(false || (backTo qM (starEach es X.env)).any (·.1))=false;rw[a]<;>rfl) (Calls.evalArgs_plain ?_);exact thn j λz s2 ⟨A,H2,l,y,w⟩=>n qK s2 σ H2 x A v z Q l k y w
end
def MtM(X:Cx)(id:String)(r:V->qA V->Hp->VK->Prop):Prop :=
 ∀(qK:qA (qE×Obj)) (s:qC) (σ:St) (H:Hp) (x:V) (xs:qA V) (v:qB) (us:qA qB) (Q:VK),Inv X qK σ H s->RelV x v->Vals xs us->r x xs H Q ->
  wpAny (model X.prog X.w) X.A (call (.builtin id) (v::us)) (EP X qK σ Q) X.xe s
def Vals.one(h:Vals [x] us):∃u,us=[u]/\RelV x u:=by
 cases h with
 |cons r q=>cases q;exact⟨_,rfl,r⟩
def Vals.two{y:V}(h:Vals [x,y] us):∃u v,us=[u,v]/\RelV x u/\RelV y v:=by
 cases h with
 |cons r h=>obtain⟨v,rfl,q⟩:=Vals.one (x:=y) h;exact⟨_,_,rfl,r,q⟩
def Vals.eraseIdx:∀{xs:qA V}{us:qA qB}(i:Nat),Vals xs us->Vals (xs.eraseIdx i) (us.eraseIdx i)
 |_,_,_,.nil=>.nil
 |_,_,0,.cons _ t=>t
 |_,_,i+1,.cons r t=>.cons r (Vals.eraseIdx i t)
def Vals.reverse(h:Vals xs us):Vals xs.reverse us.reverse:=by
 induction h with
 |nil=>exact .nil
 |cons r t a=>rw[eG,eG];exact Vals.append a (.cons r .nil)
def Vals.rep{xs:qA V}{us:qA qB}(h:Vals xs us):∀k:Nat,Vals (List.replicate k xs).flatten (List.replicate k us).flatten
 |0=>.nil
 |k+1=>by
  rw[cy,cy,cW,cW];exact Vals.append h (Vals.rep h k)
def a4I{α:Type}:∀(l:qA α) (i:Nat),(l.eraseIdx i).length<=l.length
 |[],_=>aq _
 |_::_,0=>eE _
 |_::r,i+1=>fH (a4I r i)
section
variable {l b:qE}{ys zs:qA V}
def Inv.lset{its its':qA qB}{f:Array qB->Array qB}{t':Nat}(I:Inv X qK σ H s)(a:H l=some (.lst xs))
  (e:s.heap.get? l=some {cls:=.type "list",data:=.seq its.toArray n}) (c:f its.toArray=its'.toArray) (g:Vals ys its') (h:ys.length<=sizeLine) :
  Inv X qK σ (upd H l (.lst ys)) {s with heap:=s.heap.update l (Obj.mapSeq f),toks:=t'}:=by
 have q:=PySem.IsL.update e f;rw[c]at q;refine I.write (x:=l) (e:=l) (by rw[a];exact trivial) (.inl rfl) (λb' u b d=>(fE s.heap (Obj.mapSeq f) (dF b)).trans d) ⟨_,q⟩ ?_;exact⟨h,its',_,g,q⟩
def Inv.lnew{its:qA qB}{t':Nat}(I:Inv X qK σ H s)(a:Vals ys its)(b:ys.length<=sizeLine) :
  Inv X qK σ (upd H s.heap.objs.size (.lst ys)) {s with heap:=s.heap.push {cls:=.type "list",data:=.seq its.toArray},toks:=t'} :=
 I.laid (λ_ _ q=>aj _ q) (aq _) ⟨b,its,0,a,aG _ rfl⟩
def Inv.fresh(I:Inv X qK σ H s):H s.heap.objs.size=none:=I.hok.fresh (aq _)
def Inv.lstM(I:Inv X qK σ H s)(a:H l=some (.lst xs)):xs.length<=sizeLine/\∃(its:qA qB) (n:Nat),Vals xs its/\xs.length=its.length/\s.heap.get? l=some {cls:=.type "list",data:=.seq its.toArray n}:=by
 obtain⟨z,its,n,r,e⟩:=I.hok l _ a;exact⟨z,its,n,r,r.length,e⟩
def b2Y(h:n<=sizeLine):Builtin.List.listTooLong n=false:=by
 unfold Builtin.List.listTooLong;exact bG (by omega)
end
def a9n:V->qA V->Hp->VK->Prop:=λx vs H Q=>∃l xs y,x=.ref l/\vs=[y]/\H l=some (.lst xs)/\xs.length<sizeLine/\Q .non (upd H l (.lst (xs++[y])))
def b0H:MtM X "list.append" a9n:=by
 intro qK s σ H x j v i Q I d c h;obtain⟨l,xs,y,rfl,rfl,a,g,q⟩:=h;cases d;obtain⟨u,rfl,b⟩:=c.one;obtain⟨z,its,n,r,f,e⟩:=I.lstM a;refine eU F.slot_list_append ⟨_,e,rfl⟩ F.entry_list_append (F.args_list_append_2 _ _) (PySem.list_append l its.toArray n u (by rw[aD];omega)) ⟨e,?_⟩;refine⟨.non,_,I.lset (its':=its++[u]) a e (by simp) (r.append (.cons b .nil)) ?_,rfl,q⟩;rw[ag,eQ];omega
def a9m:V->qA V->Hp->VK->Prop:=λx vs H Q=>∃l b xs zs,x=.ref l/\vs=[.ref b]/\H l=some (.lst xs)/\H b=some (.lst zs)/\xs.length+zs.length<=sizeLine/\Q .non (upd H l (.lst (xs++zs)))
def b0G:MtM X "list.extend" a9m:=by
 intro qK s σ H x B v A Q I t p h;obtain⟨l,b,xs,zs,rfl,rfl,f,i,y,q⟩:=h;cases t;obtain⟨u,rfl,o⟩:=p.one;cases o;obtain⟨z,its,n,r,w,e⟩:=I.lstM f;obtain⟨C,a,k,m,j,g⟩:=I.lstM i;have d:its.toArray.size+a.toArray.size<=sizeLine:=by rw[aD,aD];omega
 have c:¬(!its.toArray.isEmpty && Builtin.List.listTooLong (its.toArray.size+a.toArray.size))=true:=by
  rw[b2Y d,df];exact bf
 refine eU F.slot_list_extend ⟨_,e,rfl⟩ F.entry_list_extend (F.args_list_extend_2 _ _)
  (AutoSeq1.list_extend_list_list_0 l its.toArray n b a.toArray k c (by rw[aD];omega) (by omega)) ⟨e,g,?_⟩
 refine⟨.non,_,I.lset (its':=its++a) f e (by simp) (r.append m) ?_,rfl,q⟩;rw[ag];omega
def b2p:V->qA V->Hp->VK->Prop:=λx vs H Q=>∃l xs i k y,x=.ref l/\vs=[.int i]/\H l=some (.lst xs) /\ -(2 ^ 63)<=i/\i<2 ^ 63/\seqIndex? i xs.length=some k/\xs[k]?=some y/\Q y (upd H l (.lst (xs.eraseIdx k)))
def b2Z:MtM X "list.pop" b2p:=by
 intro qK s σ H x p v o Q I m j h;obtain⟨l,xs,i,k,y,rfl,rfl,b,h1,h2,c,f,q⟩:=h;cases m;obtain⟨u,rfl,g⟩:=j.one;obtain⟨t,rfl⟩:=g;obtain⟨z,its,n,r,d,e⟩:=I.lstM b;obtain⟨w,hw,a⟩:=r.get f;refine eU F.slot_list_pop ⟨_,e,rfl⟩ F.entry_list_pop (F.args_list_pop_2 _ _)
  (MeetsSeq.list_pop_at l its.toArray n i t k w (fitsIndex_both h1 h2) (by rw[aD,<-d];exact c) (by rw[<-aB];exact hw) (by rw[aD];omega)) ⟨e,?_⟩
 refine⟨y,_,I.lset (its':=its.eraseIdx k) b e ?_ (r.eraseIdx k) ?_,a,q⟩
 .show its.toArray.eraseIdxIfInBounds k=(its.eraseIdx k).toArray;rw[List.eraseIdxIfInBounds_toArray]
 .have:=a4I xs k;omega
def b8X:R2:=λx y H Q=>∃l b xs zs,x=.ref l/\y=.ref b/\H l=some (.lst xs)/\H b=some (.lst zs)/\xs.length+zs.length<=sizeLine/\∀p,H p=none->Q (.ref p) (upd H p (.lst (xs++zs)))
def b7E:OpR X (binaryOp .Add) b8X:=by
 intro qK s σ H x y v u Q I k m h;obtain⟨l,b,xs,zs,rfl,rfl,g,f,p,q⟩:=h;cases k;cases m;obtain⟨z,its,n,r,o,e⟩:=I.lstM g;obtain⟨w,a,t,j,i,c⟩:=I.lstM f;refine PySem.P.add_list e c ?_ (by rw[aD,aD];omega);have d:its.toArray++a.toArray=(its++a).toArray:=by simp
 rw[d];exact⟨.ref _,_,I.lnew (t':=s.toks) (r.append j) (by rw[ag];omega),rfl,q _ I.fresh⟩
def a9v(xs:qA α)(k:Nat):(List.replicate k xs).flatten.length=k*xs.length:=by
 induction k with
 |zero=>simp
 |succ k a=>rw[cy,cW,ag,a,Nat.succ_mul,Nat.add_comm]
section
variable {prog:qG}{w:World}{A:Around}{E:qH}
end
end L2
namespace Att
open PySem PySem.W PySem.Calls PyProof.Rows
def a2y{P:Params}{h:Heap}:∀(ns:qI) (vs:qA qB),WellAll P h vs (ns.map WData.int)->IntsAre vs ns:=by
 intro ns;induction ns with
 |nil =>
  intro vs w;rw[List.map_nil]at w;cases w;exact .nil
 |cons n ns c =>
  intro vs w;rw[aV]at w;cases w with
  |cons a b =>
   cases a;exact .cons _ _ (c _ b)
def b0e{l:OpenLaw}{n:Nat}(o:l.most=some n){P:Params}{h:Heap}{args:qA WData}{c:qA qB}
  (b:l.row.toRowW.claim.pre args=true) (j:WellAll P h c args) :
  ∃a vs ns,c=[Value.ref a]/\args=[WData.list (ns.map WData.int)]/\h.get? a=some {cls:=.type "list",data:=.seq vs.toArray}/\IntsAre vs ns/\ns.length<=n:=by
 have hsh:WShape.hasAll [] args [.list .int]=true:=(pre_splitW b).1;have k:l.pre.holds [] {args:=args}=true:=(pre_splitW b).2;obtain⟨d,r,rfl,h1,h2⟩:=hasAllW_cons hsh;obtain rfl:=hasAllW_nil h2;obtain⟨xs,rfl,m⟩:=hasW_list h1;obtain⟨ns,rfl⟩:=items_int m;have f:ns.length<=n:=by
  unfold OpenLaw.pre at k;have g:(WTm.not (.lt (.lit (.int (n:Int))) (.len (.arg 0)))).holds [] {args:=[.list (ns.map .int)]}=true:=by
   have g:=(holds_andW k).1;rw[o]at g;exact g
  have i:=condW_of g (w_not (w_lt w_lit (w_len_list (w_arg rfl))));rw[ai]at i;refine Nat.le_of_not_lt λq=>?_;have s:(n:Int)<((ns.length:Nat):Int):=by omega
  first
   |(rw[bz s]at i;exact absurd i (by decide))
   |(simp at i;omega)
 cases j with
 |cons w1 w2 =>
  cases w2;cases w1 with
  |list p e=>exact⟨_,_,ns,rfl,rfl,p,a2y ns _ e,f⟩
def b0p(l:OpenLaw)(args:qA WData):l.row.toRowW.claim.post args (.bool true) args=true :=
 postW_of (r:=l.row.toRowW) (X:=(true==true))
  (show WShape.has [] (.bool true) .bool=true by first|rfl|decide|simp[WShape.has,WShape.arms,WShape.armsAll])
  (show(WTm.eq .res (.lit (.bool true))).value [] {args:=args,res:=some (.bool true),after:=args}=some (.bool (true==true))from w_eq_bool (w_res rfl) w_lit) rfl
def attach_call{l:OpenLaw}{n:Nat}{q:qG}{b:qA Str}{XP:(Str->qD qB)->Heap->Prop}{u:World->Heap->Prop}{d:DefRec}
  (H:l.most=some n) (m:d.params.defaults=[])
  (call:∀(w:World) (s₀ s₁:qC) (mg t:Str->qD qB) (g:qE) (o:Obj) (pm cd c:qB) (a:qE) (vs:qA qB) (ns:qI),
   Ground q b [] XP w s₀ mg t s₁.heap->u w s₁.heap ->
   s₁.heap.get? g=some o->o.data=.func (docDef d.name d.params d.body d.scope pm cd c)->s₁.heap.CodeRec cd d.name->mg d.name=some (.ref g) ->
   s₁.heap.get? a=some {cls:=.type "list",data:=.seq vs.toArray}->IntsAre vs ns->ns.length<=n->s₁.gens=#[] ->
   codeAny (model l.prog w) callerA (.call (.ref g) ⟨[.ref a],[]⟩) (λr s'=>r=.ok (.ret (.bool true))/\OldK s₁.heap s'.heap/\s'.os=s₁.os/\AllBare s'.gens) s₁) :
  WalkO q b XP u l.row.toRowW d [] (λf vs=>PySem.call f vs):=by
 intro w s₀ s₁ mg t G Y g o pm cd c A kV I hd k x p D v z L j y K s E;obtain rfl:A=.none:=Dflts.none x m;obtain rfl:kV=.none:=Dflts.noKw x;obtain⟨a,vs,ns,rfl,rfl,i,e,h⟩:=b0e H j s;refine enter_call (dy (call w s₀ s₁ mg t g o pm cd c a vs ns G Y I (fd_plain hd) k p i e h D) λr s' J=>?_);obtain⟨rfl,h2,B,C⟩:=J;exact⟨.inl ⟨.bool true,.bool true,[],rfl,λ_=>rfl,.bool true,b0p l _,λ_=>⟨List.Pairwise.nil,λ_ F=>(nomatch F)⟩⟩,h2,B,C⟩
section
variable {prog:qG}{w:World}{A:Around}{E:qH}{s:qC}{K:Frag}
end
end Att
namespace L2
open PySem PySem.Spec PyProof.Rows
def a4u:∀{vs:qA qB}{ns:qI},IntsAre vs ns->Vals (ns.map V.int) vs
 |_,_,.nil=>.nil
 |_,_,.cons n t h=>.cons ⟨t,rfl⟩ (a4u h)
def b8C(H:Hp):Prop:=∀b,H b=none∨∃o xs,H b=some (.frz o (.lst xs))
def b3d{P:qG}{w:World}{K:qF}{mg O:Str->qD qB}{CX:CXT}{k:Nat}{I a:qE}{fd:FuncData}{x:Str}{sp:Sp}{s₁:qC}{vs:qA qB}{ns:qI}
  (R:K.In s₁.heap) (y:s₁.heap.Ns mainGlobals mg) (f:s₁.heap.Ns builtinsNs O) (L:∀x:Str,x≠"__name__"->O x=bootBuiltins x) (t:s₁.heap.NoLimit) (hg:s₁.gens=#[])
  (E:s₁.heap.get? a=some {cls:=.type "list",data:=.seq vs.toArray}) (hi:IntsAre vs ns) (W:ns.length<=sizeLine) (hr:Room k callerA)
  (F:∀base:Heap,K.In base->base.Ns mainGlobals mg->FnOk P w K mg base CX k I fd [x] sp) (j:∀(s:qC) (u:qB),BindsTo s fd ⟨[u],[]⟩ [(x,u)])
  (N:∀H:Hp,b8C H->SqL K H a (ns.map V.int)->sp [.ref a] H (λv _=>v=.bl true) λ_ _ _=>False)
  (J:∀H e s',CX [] H s₁ (λ_ _ _=>False) e s'->False) :
  codeAny (model P w) callerA (.call (.ref I) ⟨[.ref a],[]⟩) (λr s'=>r=.ok (.ret (.bool true))/\OldK s₁.heap s'.heap/\s'.os=s₁.os/\AllBare s'.gens) s₁:=by
 have X:=a4u hi;have C:=hi.length;have i:∀H:Hp,b8C H->SqL K H a (ns.map V.int)->HOk P w H s₁.heap->(∀b,H b≠none->b=a)->(H a≠none->K.lookup a=none) ->
   codeAny (model P w) callerA (.call (.ref I) ⟨[.ref a],[]⟩) (λr s'=>r=.ok (.ret (.bool true))/\OldK s₁.heap s'.heap/\s'.os=s₁.os/\AllBare s'.gens) s₁:=by
  intro H U hS A T hK;have c:∀{b:qE}{o:Obj},s₁.heap.get? b=some o->H b=none->(a5V s₁.heap H).get? b=some o:=λe n=>b3t e n;have Q:∀{b:qE}{o:Obj}{es:Array DictEntry}{ep:Nat},s₁.heap.get? b=some o->o.data=.dict es ep->H b=none:=λ{b o es ep} e d=>by
   cases q:H b with
   |none=>rfl
   |some u =>
    have G:b=a:=T b (by rw[q];simp);subst G;rw[E]at e;cases e;have Y:Data.seq vs.toArray _=Data.dict es ep:=d;cases Y
  have g:∀{b:qE}{m:Str->qD qB},s₁.heap.Ns b m->(a5V s₁.heap H).Ns b m:=λ{b m} ⟨o,es,ep,e,d,r⟩=>⟨o,es,ep,c e (Q e d),d,r⟩;have p:K.In (a5V s₁.heap H):=λb o e=>c (R b o e) (by
   cases q:H b with
   |none=>rfl
   |some u =>
    have G:b=a:=T b (by rw[q];simp);subst G;rw[hK (by rw[q];simp)]at e;cases e)
  have hM:Mod K mg (a5V s₁.heap H):=⟨p,g y,⟨O,g f,L⟩,let ⟨mc,h1,h2⟩:=t;⟨mc,g h1,h2⟩⟩;have Z:Env0 P w K mg (a5V s₁.heap H) callerA [] s₁ H:=⟨rfl,hM,λb o e=>b5p e,Nat.le_of_eq (b0P _ _),trivial,λb f=>absurd (show b∈([]:qA qE)from f) (by simp),A,.of_eq hg⟩;refine dy ((F _ p (g y)).run callerA [] s₁ H ⟨[.ref a],[]⟩ [.ref a] [.ref a] _ _ hr Z (j s₁ (.ref a)) (.cons rfl .nil) (N H U hS)) λr s' h=>?_;cases r with
  |error e=>exact(J H e s' h).elim
  |ok fl =>
   cases fl with
   |next=>exact False.elim h
   |brk=>exact False.elim h
   |cont=>exact False.elim h
   |ret u =>
    obtain⟨v,H',os,l,un,B,r',q⟩:=h;have q':v=.bl true:=q;subst q';obtain rfl:u=Value.bool true:=r';refine⟨rfl,OldK.of_keep λb o e=>?_,os,l⟩;cases q:H b with
    |none=>exact un.keep b o e q (by intro z;exact absurd (show b∈([]:qA qE)from z) (by simp)) (by simp)
    |some u =>
     rcases U b with z|⟨ob,xs,z⟩
     .rw[q]at z;cases z
     .have z2:=un.frzs b ob _ z;obtain⟨S,_⟩:=A b _ z;obtain⟨e2,_⟩:=B b _ z2;rw[e]at S;cases S;exact e2
 cases M:K.lookup a with
 |some o =>
  have e:=R a o M;rw[E]at e;cases e;refine i (λ_=>none) (λ_=>.inl rfl) (.inr ⟨_,vs.toArray,_,M,rfl,rfl,rfl,by rw[aD,C];exact W,by simpa using X⟩) (λb u z=>by have D:(none:qD HO)=some u:=z;cases D) (λb z=>absurd rfl z) λz=>absurd rfl z
 |none =>
  refine i (λb=>if b=a then some (.frz {cls:=.type "list",data:=.seq vs.toArray} (.lst (ns.map V.int)))else none) (λb=>?_) (.inl (.inr ⟨{cls:=.type "list",data:=.seq vs.toArray},az rfl⟩)) (λb u z=>?_) (λb z=>?_) λ_=>M
  .by_cases f:b=a
   .exact .inr ⟨_,_,az f⟩
   .exact .inl (ar f)
  .by_cases f:b=a
   .have D:=(az f).symm.trans z;cases D;subst f;exact⟨E,by rw[ai];exact W,vs,_,X,E⟩
   .have D:=(ar f).symm.trans z;cases D
  .by_cases f:b=a
   .exact f
   .exact absurd (ar f) z
def walk_of{l:PySem.W.OpenLaw}{n k:Nat}{q:qG}{g:qA Str}{XP:(Str->qD qB)->Heap->Prop}{A:World->Heap->Prop}{d:DefRec}{K:Params->qF}{CX:World->CXT}{sp:World->Sp}{x:Str}
  (N:l.most=some n) (t:n<=sizeLine) (p:d.params.defaults=[]) (O:Room k callerA)
  (I:∀(w:World) (h:Heap),A w h->(K w.params).In h)
  (F:∀(w:World) (mg:Str->qD qB) (j:qE) (h:Heap),(K w.params).In h->h.Ns mainGlobals mg->mg d.name=some (.ref j) ->
   ∃fd:FuncData,(∀(s:qC) (u:qB),BindsTo s fd ⟨[u],[]⟩ [(x,u)]) /\
    ∀base:Heap,(K w.params).In base->base.Ns mainGlobals mg->FnOk l.prog w (K w.params) mg base (CX w) k j fd [x] (sp w))
  (y:∀(w:World) (H:Hp) (a:qE) (ns:qI),ns.length<=n->b8C H->SqL (K w.params) H a (ns.map V.int)->sp w [.ref a] H (λv _=>v=.bl true) λ_ _ _=>False)
  (m:∀(w:World) (H:Hp) (s:qC) (e:qB) (s':qC),CX w [] H s (λ_ _ _=>False) e s'->False) :
  PySem.W.WalkO q g XP A l.row.toRowW d [] (λf vs=>PySem.call f vs):=by
 refine Att.attach_call N p λw s₀ s₁ mg Q j o pm cd B a vs ns G Y P hd L r i c b M=>?_;have z:=I w _ Y;obtain⟨fd,J,C⟩:=F w mg j _ z G.T.g r;exact b3d z G.T.g G.T.b G.T.builtins G.T.nolimit M i c (a_ b t) O C J (λH D E=>y w H a ns b D E) λH e s'=>m w H s₁ e s'
end L2
namespace L2
open PySem PySem.Spec PyProof.Rows
variable {A:Around}{E Q:qH}{H H1:Hp}{K:qF}{M:Model}{N ps:qA Str}{P prog:qG}{X:Cx}{a b f it l:qE}{env:Env}{es:qA Expr}{g:TG}{h h':Heap}{i n:Nat}{items:Array qB}{k:Bool}{qK:qA (qE×Obj)}{pos:Pos}{qual x:Str}{s:qC}{scope:Scope}{src:qA (qJ)}{st:Stmt}{te:TE}{w:World}{xs:qA V}{α:Type}{σ:St}
def X6(s:Stmt)(j:Nat):Stmt:=match s with
 |.ClassDef _ _ _ body _ _ _ _ _ _ _=>body.getD j (.Pass ⟨0,0,0,0⟩)
 |_=>.Pass ⟨0,0,0,0⟩
def U9(s:Stmt):Arguments:=match s with
 |.FunctionDef _ a _ _ _ _ _ _ _ _=>a
 |_=>{posonlyargs:=[],args:=[],vararg:=none,kwonlyargs:=[],kw_defaults:=[],kwarg:=none,defaults:=[]}
def G5(s:Stmt):qA Stmt:=match s with
 |.FunctionDef _ _ b _ _ _ _ _ _ _=>b
 |_=>[]
def A2(s:Stmt):Scope:=match s with
 |.FunctionDef _ _ _ _ _ _ sc _ _ _=>sc
 |_=>{kind:=.function,names:=[],isGenerator:=false,isCoroutine:=false}
abbrev CX0:CXT:=λ_ _ _ _ _ _=>False
abbrev E0:XK:=λ_ _ _=>False
def a9r:a0m CX0 X E0:=λ_ _ _ _ _ _ _ h=>h.elim
structure Fun(K:qF)(x qual:Str)(st:Stmt)(f:qE)(fd:FuncData):Prop where
 ex:∃(oc:qB) (od:qD qE) (kV doc pm:qB) (an:qD qE) (cdv ct:qB) (osl:Array (qD qB)),
  fd=PySem.W.fnOf x qual (U9 st) (G5 st) (A2 st) .none kV doc pm an cdv ct/\K.lookup f=some ⟨oc,od,.func fd,osl⟩/\PySem.W.codeIn K cdv qual=true
 kp:PySem.W.keepIn K (.ref f)=true
section
variable {mg:Str->qD qB}{base:Heap}
def Fun.ok{fd:FuncData}{k:Nat}{sp:Sp}(F:Fun K x qual st f fd)(S:FnScope N ps (A2 st))(e:∀vs H Q E,sp vs H Q E->vs.length=ps.length)
  (b:∀(a:qB) (A:Around) (outer:qA Env) (s:qC) (H:Hp) (vs:qA V) (Q:VK) (E:XK),Room k (A.deeper (envOfC qual (A2 st) s.heap.objs.size f a))->sp vs H Q E ->
   ∃t,PSs (L9 CX0 P w K mg base N qual (A2 st) f a A outer s H E).nox (G5 st) t/\t {nx:=λ_ H'=>Q .non H',rt:=Q} (start N vs) H):FnOk P w K mg base CX0 (k+1) f fd ps sp:=by
 obtain⟨oc,od,kV,g,pm,an,a,ct,l,rfl,j,c⟩:=F.ex;refine b6F j c S e λA outer s H vs Q E i d=>?_;obtain⟨t,h,q⟩:=b a A outer s H vs Q E i d;exact⟨t,h.nox,q⟩
def Fun.binds{fd:FuncData}(F:Fun K x qual st f fd)
  (h:∀(kV b pm:qB) (an:qD qE) (a ct:qB) (us:qA qB),us.length=ps.length->bindArgs (PySem.W.fnOf x qual (U9 st) (G5 st) (A2 st) .none kV b pm an a ct) ⟨us,[]⟩=pure (ps.zip us)):Binds K fd ps []:=by
 obtain⟨oc,od,kV,b,pm,an,a,ct,d,rfl,e,c⟩:=F.ex;exact .all (h kV b pm an a ct)
def a3P{oc:qB}{od an:qD qE}{d:Array (qD qB)}{kV b pm a ct:qB}(l:K.lookup f=some ⟨oc,od,.func (PySem.W.fnOf x qual (U9 st) (G5 st) (A2 st) .none kV b pm an a ct),d⟩)
  (c:PySem.W.codeIn K a qual=true) (k:PySem.W.keepIn K (.ref f)=true):Fun K x qual st f (PySem.W.fnOf x qual (U9 st) (G5 st) (A2 st) .none kV b pm an a ct):=⟨⟨oc,od,kV,b,pm,an,a,ct,d,rfl,l,c⟩,k⟩
end
def pv(i:Nat)(b:X.N[i]?=some x:=by rfl)(c:Vis X.env.scope x:=by first|exact Or.inl rfl|exact Or.inr (Or.inl rfl)|exact Or.inr (Or.inr rfl))(hd:(x==("__debug__" : Str))=false:=by decide)
  (a:(x==("__classdict__" : Str))=false:=by decide):PE X (.Name x pos) (L4 i):=b2D b c hd a
def E1{A B:Prop}(h:B):if false=true then A else B:=by
 rw[ar bf];exact h
def G8{A B:Prop}(h:A):if true=true then A else B:=by
 rw[az rfl];exact h
def Z0{c A B:Prop}[Decidable c](h1:c->A)(h2:¬c->B):if c then A else B:=by
 by_cases h:c
 .rw[az h];exact h1 h
 .rw[ar h];exact h2 h
def Same(H H':Hp):Prop:=∀b o,H b=some o->H' b=some o
def Same.refl(H:Hp):Same H H:=λ_ _ h=>h
def Same.trans{H2:Hp}(a:Same H H1)(b:Same H1 H2):Same H H2:=λc o h=>b c o (a c o h)
def Same.free{H':Hp}(e:Same H H')(h:H' l=Option.none):H l=Option.none:=by
 cases q:H l with
 |none=>rfl
 |some o =>
  rw[e l o q]at h;cases h
def Same.seq{H':Hp}(e:Same H H')(h:SqL K H a xs):SqL K H' a xs:=by
 rcases h with(h|⟨o,h⟩)|h
 .exact .inl (.inl (e _ _ h))
 .exact .inl (.inr ⟨o,e _ _ h⟩)
 .exact .inr h
def J5(env:Env)(cs:qA (Str×qE))(x:Str×NameKind):qA (Str×qE) :=
 if x.2==.free then(match env.cells.lookup x.1 with|some a=>(x.1,a)::cs|none=>cs)else cs
def a2C(scope:Scope)(env:Env):qA (Str×qE):=scope.names.foldl (J5 env) []
def a4a{env:Env}(f:Str×NameKind->qA (Str×qE)->Sem (ForInStep (qA (Str×qE))))
  (c:∀n k r,f (n,k) r=if (k==NameKind.free)=true then(do let a <-cellOf env n;pure (ForInStep.yield ((n,a)::r)))else pure (ForInStep.yield r)) :
  ∀(names:qA (Str×NameKind)) (cs:qA (Str×qE)),(∀x∈names,x.2=.free->∃a,env.cells.lookup x.1=some a)->forIn names cs f=pure (names.foldl (J5 env) cs)
 |[],cs,_=>rfl
 |(n,k)::r,cs,h=>by
  rw[List.forIn_cons,dH,c];have g:=λy j=>h y (ax _ j);by_cases e:k=.free
  .subst e;obtain⟨a,d⟩:=h (n,NameKind.free) aA rfl;have i:cellOf env n=pure a:=by unfold cellOf;rw[d]
   have b:J5 env cs (n,NameKind.free)=(n,a)::cs:=by unfold J5;rw[d];rfl
   rw[b,<-a4a f c r _ g,i];rfl
  .have hb:(k==NameKind.free)=false:=by simpa using e
   have b:J5 env cs (n,k)=cs:=by unfold J5;rw[hb];rfl
   rw[b,<-a4a f c r _ g,hb];rfl
def b3I(h:∀x∈scope.names,x.2=.free->∃a,env.cells.lookup x.1=some a):closureFor scope env=pure (a2C scope env):=by
 simp only[closureFor];rw[a4a (env:=env) _ (λn k r=>by cases b:k==NameKind.free<;>simp[b]) scope.names [] h];rfl
def a4V{env:Env}{x:Str}{c:qE}:∀(names:qA (Str×NameKind)) (cs:qA (Str×qE)),(names.foldl (J5 env) cs).lookup x=some c->env.cells.lookup x=some c∨cs.lookup x=some c
 |[],cs,h=>.inr h
 |y::r,cs,h=>by
  rw[dH]at h;rcases a4V r _ h with z|z
  .exact .inl z
  .unfold J5 at z;split at z
   .split at z
    .rename_i a ha;rw[b_]at z;cases b:x==y.1 with
     |true =>
      rw[b]at z;rw[bj.mp b];exact .inl (ha.trans z)
     |false =>
      rw[b]at z;exact .inr z
    .exact .inr z
   .exact .inr z
def a0E{c:qE}(h:(a2C scope env).lookup x=some c):env.cells.lookup x=some c :=
 (a4V scope.names [] h).elim id λz=>by cases z
def a0Z{env:Env}{x:Str}{a:qE}(d:env.cells.lookup x=some a):∀(names:qA (Str×NameKind)) (cs:qA (Str×qE)),((x,NameKind.free)∈names∨cs.lookup x=some a)->(∀c,cs.lookup x=some c->c=a)->(names.foldl (J5 env) cs).lookup x=some a
 |[],cs,h,_=>h.elim (λz=>by cases z) id
 |y::r,cs,h,i=>by
  rw[dH];by_cases b:y.2=.free/\y.1=x
  .have e2:J5 env cs y=(x,a)::cs:=by unfold J5;rw[b.2,d,b.1];rfl
   rw[e2];have f:((x,a)::cs).lookup x=some a:=by rw[b_];simp
   exact a0Z d r _ (.inr f) λc z=>by rw[f]at z;exact(bH z).symm
  .have same:(J5 env cs y).lookup x=cs.lookup x:=by
    unfold J5;split
    .rename_i hk;split
     .have hne:(x==y.1)=false:=by
       cases g:x==y.1 with
       |false=>rfl
       |true=>exact absurd ⟨by simpa using hk,(bj.mp g).symm⟩ b
      rw[b_,hne]
     .rfl
    .rfl
   refine a0Z d r _ ?_ (by rw[same];exact i);rw[same];rcases h with z|z
   .rcases aF.mp z with e|z
    .exact absurd ⟨by rw[<-e],by rw[<-e]⟩ b
    .exact .inl z
   .exact .inr z
def a7y(b:env.cells.lookup x=some a)(d:(x,NameKind.free)∈scope.names):(a2C scope env).lookup x=some a :=
 a0Z b _ _ (.inl d) λc z=>by cases z
def W3{x:Str}{c:qE}:∀(names:qA (Str×NameKind)) (n:Nat) (a:qA (Str×qE)),(cellsFrom n names a).lookup x=some c->(n<=c/\(x,NameKind.cell)∈names)∨a.lookup x=some c
 |[],_,_,h=>.inr h
 |(y,k)::r,n,a,h=>by
  unfold cellsFrom at h;split at h
  .rename_i hk;have d:k=.cell:=by simpa using hk
   rcases W3 r _ _ h with⟨f,e⟩|z
   .exact .inl ⟨by omega,ax _ e⟩
   .rw[b_]at z;cases b:x==y with
    |true =>
     rw[b]at z;cases z;exact .inl ⟨aq _,by rw[d,bj.mp b];exact aA⟩
    |false =>
     rw[b]at z;exact .inr z
  .rcases W3 r _ _ h with⟨f,e⟩|z
   .exact .inl ⟨f,ax _ e⟩
   .exact .inr z
def a8y:∀(names:qA (Str×NameKind)) (n:Nat) (a:qA (Str×qE)),(∀x c,a.lookup x=some c->c<n)->(∀x y c,a.lookup x=some c->a.lookup y=some c->x=y) ->
  ∀x y c,(cellsFrom n names a).lookup x=some c->(cellsFrom n names a).lookup y=some c->x=y
 |[],_,_,_,h2=>h2
 |(z,k)::r,n,a,h1,h2=>by
  unfold cellsFrom;split
  .have lk:∀x c,List.lookup x ((z,n)::a)=some c->(x=z/\c=n)∨a.lookup x=some c:=λx c e=>by
    rw[b_]at e;cases b:x==z with
    |true=>rw[b]at e;cases e;exact .inl ⟨bj.mp b,rfl⟩
    |false=>rw[b]at e;exact .inr e
   refine a8y r (n+1) _ (λx c e=>?_) λx y c e d=>?_
   .rcases lk x c e with⟨_,q⟩|q
    .rw[q];exact cn _
    .exact cg (h1 x c q)
   .rcases lk x c e with⟨q1,q2⟩|q<;>rcases lk y c d with⟨p1,p2⟩|p
    .rw[q1,p1]
    .exact absurd (h1 y c p) (by rw[q2];exact bX _)
    .exact absurd (h1 x c q) (by rw[p2];exact bX _)
    .exact h2 x y c q p
  .exact a8y r n a h1 h2
def a6a{x:Str}:∀(names:qA (Str×NameKind)) (n:Nat) (a:qA (Str×qE)),((x,NameKind.cell)∈names∨∃c,a.lookup x=some c)->∃c,(cellsFrom n names a).lookup x=some c
 |[],_,_,h=>h.elim (λz=>by cases z) id
 |(y,k)::r,n,a,h=>by
  unfold cellsFrom;split
  .rename_i hk;refine a6a r _ _ ?_;by_cases b:x=y
   .exact .inr ⟨n,by rw[b_,b];simp⟩
   .have hb:(x==y)=false:=cN.mpr b;rcases h with z|⟨c,z⟩
    .rcases aF.mp z with e|z
     .exact absurd (Prod.mk.inj e).1 b
     .exact .inl z
    .exact .inr ⟨c,by rw[b_,hb];exact z⟩
  .rename_i hk;refine a6a r _ _ ?_;rcases h with z|z
   .rcases aF.mp z with e|z
    .exact absurd (by rw[<-(Prod.mk.inj e).2];rfl) hk
    .exact .inl z
   .exact .inr z
def a5I{x:Str}{c:qE}:∀(names:qA (Str×NameKind)) (h:Heap) (a:qA (Str×qE)),(∀x c,a.lookup x=some c->∃v,h.IsCell c v)->(cellsFrom h.objs.size names a).lookup x=some c->∃v,(pushCells h names).IsCell c v
 |[],h,a,f,e=>f x c e
 |(y,k)::r,h,a,f,e=>by
  unfold cellsFrom at e;unfold pushCells;split at e
  .rename_i hk;rw[az hk];rw[show h.objs.size+1=(h.push {cls:=.type "cell",data:=.cell none}).objs.size from(bB ..).symm]at e;refine a5I r _ _ (λi c' d=>?_) e;rw[b_]at d;cases g:i==y with
   |true=>rw[g]at d;cases d;exact⟨_,_,aG _ rfl,rfl⟩
   |false =>
    rw[g]at d;obtain⟨v,z⟩:=f i c' d;exact⟨v,z.keeps λb o q=>aj _ q⟩
  .rename_i hk;rw[ar hk];exact a5I r _ _ f e
def a7D{a:qA (Str×qE)}{outer:Env}{Q:Env->qC->Prop}
  (f:Q (newEnv scope s.heap.objs.size b (cellsFrom (s.heap.objs.size+1) scope.names a) qual none .none (some outer) builtinsNs) {s with heap:=pushCells (s.heap.push {cls:=.type "dict",data:=.dict #[]}) scope.names}) :
  wpAny M A (newFunctionEnv scope b a [] qual none .none (some outer)) Q E s:=by
 simp only[newFunctionEnv,Option.isSome_some,e_];refine aa (wpAny_alloc ?_);refine aa (wpAny_layCells _ (λname c d=>by cases e:c==NameKind.cell<;>simp[e]) _ _ _ _ ?_);rw[show({s with heap:=s.heap.push {cls:=.type "dict",data:=.dict #[]}}:qC).heap.objs.size=s.heap.objs.size+1 from bB ..];exact aa (ae (ae f))
abbrev NoX:qH:=λ_ _=>False
def toE{t:Sem α}{Q b:α->qC->Prop}(h:wpAny M A t Q NoX s)(c:∀a s,Q a s->b a s):wpAny M A t b E s :=
 du h c λ_ _ z=>z.elim
def a5Z{e a b:Expr}{f:qA Expr}{it d:qB}{R:Result->qC->Prop}(I:Nat->qC->Prop)
  (g:∀n s,I n s->wpAny (model prog w) A (pyNext it) (λr s₁=>match r with
   |none=>R (.ok .next) s₁
   |some v=>wpAny (model prog w) A (letOwnedTupleGo a it v) (λ_ s₂=>wpAny (model prog w) A (assign a env v) (λ_ s₃ =>
     wpAny (model prog w) A (forIn f true λc r=>if r=true then do let ok <-isTrue c env (eval c env);pure (ForInStep.yield ok)else pure (ForInStep.yield r)) (λok s₄ =>
      if ok=true then wpAny (model prog w) A (eval e env) (λx s₅=>wpAny (model prog w) A (call (.builtin "list.append") [d,x]) (λ_ s₆=>∃m,m<n/\I m s₆) NoX s₅) NoX s₄
      else ∃m,m<n/\I m s₄) NoX s₃) NoX s₂) NoX s₁) NoX s)
  (n:Nat) (h:I n s):codeAny (model prog w) A (.compLoop (.ListComp e [⟨a,b,f,0⟩] scope pos) 0 it d env) R s:=by
 refine codeAny_loop rfl I (λn s i=>?_) n h;show wpAny _ A ((compTurn (.ListComp e [⟨a,b,f,0⟩] scope pos) 0 it d env).onRaise (λx=>do noteFrame x env;theTreesLotGoes x)) _ _ s;refine wpAny_noted ?_;rw[compTurn_list];refine aa (wpAny_standAt (aa (toE (g n s i) λr s₁ h₁=>?_)));cases r with
 |none=>exact ae h₁
 |some v =>
  refine aa (toE h₁ λ_ s₂ h₂=>aa (toE h₂ λ_ s₃ h₃=>aa (toE h₃ λok s₄ h₄=>?_)));cases ok with
  |false=>exact ae ⟨rfl,h₄⟩
  |true=>exact aa (aa (toE h₄ λx s₅ h₅=>aa (toE h₅ λ_ s₆ h₆=>ae (ae ⟨rfl,h₆⟩))))
def Cx.blk(X:Cx)(N:qA Str)(scope:Scope)(cells:qA (Str×qE))(C:qE)(s:qC)(H:Hp)(ex:qA qE):Cx :=
 {X with N:=N,s₀:=s,H₀:=H,env:=compEnvC scope cells C X.env,outer:=X.stack,stack:=X.stack,ex:=ex,fn:=λx=>scope.names.any λy=>y.1==x && y.2==.cell,pn:=[],xe:=NoX}
def B4(src:qA (qJ))(σ:St):St:=src.map λo=>o.bind λj=>(σ[j]?).join
def B6(sc out:Scope):Bool:=sc.names.all λx=>x.2 != .free || (out.names.lookup x.1==some .cell || out.names.lookup x.1==some .free)
def O2:qA Str->qA (qJ)->qA Str->Scope->Bool
 |[],[],_,_=>true
 |x::N,o::src,M,sc=>(match o with|none=>true|some j=>M[j]? == some x && sc.names.lookup x==some .free) && O2 N src M sc
 |_,_,_,_=>false
def a5A(sc:Scope):Bool:=sc.kind==.function && sc.names.all λx=>sc.names.lookup x.1==some x.2
def a4W:∀{N:qA Str}{src:qA (qJ)}{M:qA Str}{a:Scope},O2 N src M a=true->src.length=N.length
 |[],[],_,_,_=>rfl
 |_::N,_::src,M,a,h=>by
  unfold O2 at h;rw[aM]at h;rw[aX,aX,a4W h.2]
 |[],_::_,_,_,h=>by simp[O2]at h
 |_::_,[],_,_,h=>by simp[O2]at h
def a4X:∀{N:qA Str}{src:qA (qJ)}{M:qA Str}{a:Scope}{i:Nat}{x:Str}{j:Nat},O2 N src M a=true->N[i]?=some x->src[i]?=some (some j)->M[j]?=some x/\a.names.lookup x=some .free
 |[],[],_,_,_,_,_,_,h,_=>by simp at h
 |y::N,o::src,M,a,0,x,j,h,h1,h2=>by
  unfold O2 at h;rw[aM]at h;simp at h1 h2;subst h1 h2;have q:=h.1;rw[aM]at q;exact⟨bj.mp q.1,bj.mp q.2⟩
 |y::N,o::src,M,a,i+1,x,j,h,h1,h2=>by
  unfold O2 at h;rw[aM]at h;exact a4X h.2 (by simpa using h1) (by simpa using h2)
 |[],_::_,_,_,_,_,_,h,_,_=>by simp[O2]at h
 |_::_,[],_,_,_,_,_,h,_,_=>by simp[O2]at h
def b1q{v:V}(h:(B4 src σ)[i]?=some (some v)):∃j,src[i]?=some (some j)/\σ[j]?=some (some v):=by
 unfold B4 at h;rw[aZ]at h;cases e:src[i]? with
 |none=>rw[e]at h;cases h
 |some o =>
  rw[e]at h;cases o with
  |none=>cases h
  |some j =>
   refine⟨j,rfl,?_⟩;have h':(σ[j]?).join=some v:=bH h;cases q:σ[j]? with
   |none=>rw[q]at h';cases h'
   |some z=>rw[q]at h';rw[show z=some v from h']
def a0c{env:Env}:∀{names:qA (Str×NameKind)}{x:Str}{k:NameKind},
  (names.map λ(n,k)=>if (k==NameKind.free && env.scope.kind==.function && env.kindOf n==some .cell)then(n,NameKind.cell)else(n,k)).lookup x=some k ->
  ∃b,names.lookup x=some b/\(k=b∨(b=.free/\k=.cell))
 |[],_,_,h=>by cases h
 |(n,k0)::r,x,k,h=>by
  rw[aV,b_]at h;rw[b_];dsimp only at h;split at h
  .rename_i h0;have a:x==n:=by
    split at h0<;>exact h0
   rw[a];refine⟨k0,rfl,?_⟩;split at h
   .rename_i hc;cases h;simp only[aM]at hc;exact .inr ⟨by simpa using hc.1.1,rfl⟩
   .cases h;exact .inl rfl
  .rename_i h0;have a:(x==n)=false:=by
    split at h0<;>exact h0
   rw[a];exact a0c h
def K4{env:Env}:∀{names:qA (Str×NameKind)}{x:Str}{c:NameKind},names.lookup x=some c ->
  ∃k,(names.map λ(n,k)=>if (k==NameKind.free && env.scope.kind==.function && env.kindOf n==some .cell)then(n,NameKind.cell)else(n,k)).lookup x=some k/\(k=c∨(c=.free/\k=.cell))
 |[],_,_,h=>by cases h
 |(n,k0)::r,x,c,h=>by
  rw[b_]at h;rw[aV];by_cases b:(k0==NameKind.free && env.scope.kind==.function && env.kindOf n==some .cell)=true
  .simp only[b,e_];rw[b_];cases a:x==n with
   |true =>
    rw[a]at h;cases h;simp only[aM]at b;exact⟨_,rfl,.inr ⟨by simpa using b.1.1,rfl⟩⟩
   |false=>rw[a]at h;exact K4 h
  .simp only[ar b];rw[b_];cases a:x==n with
   |true=>rw[a]at h;cases h;exact⟨_,rfl,.inl rfl⟩
   |false=>rw[a]at h;exact K4 h
def PIf(X:Cx)(ifs:qA Expr)(t:TT):Prop :=
 ∀(qK:qA (qE×Obj)) (s:qC) (σ:St) (H:Hp) (Q:Bool->Hp->Prop),Inv X qK σ H s->t σ H Q ->
  wpAny (model X.prog X.w) X.A (forIn ifs true λc r=>if r=true then do let ok <-isTrue c X.env (eval c X.env);pure (ForInStep.yield ok)else pure (ForInStep.yield r)) (TP X qK σ Q) X.xe s
def O0:TT:=λ_ H Q=>Q true H
def b4P:PIf X [] O0:=λqK s σ H Q I h=>wpAny_tests_nil ⟨H,I,h⟩
def b4O{c:Expr}{t:TT}(h:PT X c t):PIf X [c] t:=λqK s σ H Q I q=>wpAny_tests_one (h qK s σ H Q I q)
def Sub(σ σ':St):Prop:=σ.length=σ'.length/\∀(i:Nat) (v:V),σ[i]?=some (some v)->σ'[i]?=some (some v)
def G0(src:qA (qJ))(g:TG)(tt:TT)(te:TE)(σ:St)(Q:VK)(J:It)(H1:Hp):Prop :=
 ∃W:Nat->Nat->qA V->Hp->Prop,(∃m,W 0 m [] H1)/\∀i m ys H,W i m ys H ->
  (J.stop i H/\ys.length<=sizeLine/\∀p,H p=none->Q (.ref p) (upd H p (.lst ys))) ∨
  (J.go i H/\ys.length<sizeLine/\∃N:qA V->Hp->Prop,(∀zs H',N zs H'->∃m',m'<m/\W (i+1) m' zs H')/\∀x H',J.yld i H x H'->g x (B4 src σ) H' λσ2 H2=>Sub (B4 src σ) σ2/\tt σ2 H2 λb H3 =>
   if b=true then te σ2 H3 λv H4=>N (ys++[v]) H4 else N ys H3)
def a6s(src:qA (qJ))(wi:TI)(g:TG)(tt:TT)(te:TE):TE:=λσ H Q=>wi σ H (G0 src g tt te σ Q)
def Inv.block{fp:qA qE}(I:Inv X qK σ H s)(P:∀b∈fp,a2d X qK H b)(Y:∀b∈fp,∃o,s.heap.get? b=some o)
  (J:B6 scope X.env.scope=true) (D:O2 N src X.N scope=true) (C:a5A scope=true) {lo:Obj} :
  Inv (X.blk N scope (cellsFrom (s.heap.objs.size+2) scope.names (a2C scope X.env)) (s.heap.objs.size+1) s H fp) [] (B4 src σ) H
   {s with heap:=pushCells ((s.heap.push lo).push {cls:=.type "dict",data:=.dict #[]}) scope.names}:=by
 unfold a5A at C;rw[aM]at C;have E:scope.kind=.function:=by simpa using C.1
 have F:∀x∈scope.names,scope.names.lookup x.1=some x.2:=λx A=>by simpa using aI.mp C.2 x A
 have t:∀x∈scope.names,x.2=.free->X.env.kindOf x.1=some .cell∨X.env.kindOf x.1=some .free:=λx A f=>by
  have q:=aI.mp J x A;rw[f]at q;have U:(X.env.scope.names.lookup x.1==some .cell || X.env.scope.names.lookup x.1==some .free)=true:=by simpa using q
  rw[Bool.or_eq_true]at U;exact U.imp (λz=>bj.mp z) λz=>bj.mp z
 have keep:∀b o,s.heap.get? b=some o->(pushCells ((s.heap.push lo).push {cls:=.type "dict",data:=.dict #[]}) scope.names).get? b=some o:=λb o e =>
  fO _ _ _ _ (aj _ (aj _ e))
 have Q:∀x c,(a2C scope X.env).lookup x=some c->c<s.heap.objs.size:=λx c e=>by
  obtain⟨v,z⟩:=I.cell x c (a0E e);exact z.lt
 have d:∀x c,(cellsFrom (s.heap.objs.size+2) scope.names (a2C scope X.env)).lookup x=some c->(s.heap.objs.size+2<=c/\(x,NameKind.cell)∈scope.names)∨X.env.cells.lookup x=some c:=λx c e =>
  (W3 _ _ _ e).imp id a0E
 have K:∀x k,(compEnvC scope (cellsFrom (s.heap.objs.size+2) scope.names (a2C scope X.env)) (s.heap.objs.size+1) X.env).kindOf x=some k->∃g,scope.names.lookup x=some g/\(k=g∨(g=.free/\k=.cell)):=λx k e =>
  a0c (env:=X.env) e
 have mem:∀{x k},scope.names.lookup x=some k->(x,k)∈scope.names:=λe=>mem_of_lookup e;refine⟨⟨I.ok.mod,?_,I.ok.glob,I.ok.blt,?_,?_,?_,?_,I.ok.hd,I.ok.frames,.inl rfl,?_,I.bs,a_ I.ok.bsz I.sz,?_,?_,I.stack,I.stkFree⟩,rfl,I.bare,Un.kept keep,?_,?_,?_,?_,?_,I.hok.kept keep,?_⟩
 .exact E
 .exact eE _
 .-- inj
  refine a8y _ _ _ (λx c e=>?_) λx y c e R=>I.ok.inj x y c (a0E e) (a0E R);exact aR (Q x c e) (cp _ 2)
 .-- has
  intro x A;refine a6a _ _ _ ?_;have f:∃g,scope.names.lookup x=some g/\(g=.cell∨g=.free):=by
   rcases A with A|A
   .obtain⟨g,e,z⟩:=K x _ A;exact⟨g,e,z.elim (λz=>.inl z.symm) λz=>.inr z.1⟩
   .obtain⟨g,e,z⟩:=K x _ A;exact⟨g,e,z.elim (λz=>.inr z.symm) λz=>by cases z.2⟩
  obtain⟨g,e,rfl|rfl⟩:=f
  .exact .inl (mem e)
  .obtain⟨a,ha⟩:=I.ok.has x (t _ (mem e) rfl);exact .inr ⟨a,a7y ha (mem e)⟩
 .-- cab
  intro x c A e;rcases d x c e with z|z
  .exact a_ (cp _ 2) z.1
  .-- x is the block's own cell, so it is not in the closure's part
   exfalso;obtain⟨y,hy,G⟩:=bM.mp A;rw[aM]at G;have S:y.1=x:=bj.mp G.1;have T:y.2=.cell:=by simpa using G.2
   have l1:scope.names.lookup x=some .cell:=by rw[<-S,<-T];exact F y hy
   rcases W3 _ _ _ e with q|q
   .obtain⟨v,z'⟩:=I.cell x c z;exact absurd (aR z'.lt (a_ (cp _ 2) q.1)) (bX _)
   .-- the closure holds free names alone
    have fr:∀(names:qA (Str×NameKind)) (L:qA (Str×qE)),(names.foldl (J5 X.env) L).lookup x=some c->(x,NameKind.free)∈names∨L.lookup x=some c:=by
     intro names;induction names with
     |nil=>intro L h;exact .inr h
     |cons n r ih =>
      intro L h;rw[dH]at h;rcases ih _ h with w|w
      .exact .inl (ax _ w)
      .unfold J5 at w;split at w
       .rename_i f;split at w
        .rw[b_]at w;cases B:x==n.1 with
         |true =>
          have:n=(x,NameKind.free):=Prod.ext (bj.mp B).symm (by simpa using f);exact .inl (by rw[this];exact aA)
         |false=>rw[B]at w;exact .inr w
        .exact .inr w
       .exact .inr w
    rcases fr _ _ q with w|w
    .have:=F _ w;rw[l1]at this;cases this
    .cases w
 .-- exf
  intro b B;obtain⟨o,e⟩:=Y b B;have lt:=aJ e;refine⟨aW (cg lt),λx c O=>?_⟩;rcases d x c O with z|z
  .exact dw (aR lt (a_ (cp _ 2) z.1))
  .exact(P b B).2.2.2.2.1 x c z
 .-- noex
  intro b o e B;rcases(P b B).2.2.2.1 with z|z
  .exact I.ok.noex b o e z
  .exact absurd (aR (aJ (I.ok.bs b o e).1) z) (bX _)
 .-- exfs
  intro b B z;rcases aF.mp (I.stkSub b z)with q|q
  .exact(P b B).2.1 q
  .exact(P b B).2.2.1 q
 .-- loc
  refine⟨λ_=>none,?_,λi x v S T e3=>?_⟩
  .have:=(Heap.Ns.new (s.heap.push lo) (.type "dict")).keeps (fO scope.names _);rw[bB]at this;exact this
  .obtain⟨j,e4,e5⟩:=b1q T;obtain⟨V,M⟩:=a4X D S e4;obtain⟨m,_,W⟩:=I.loc;have f:=t _ (mem M) rfl;have Z:Vis X.env.scope x:=.inr (f.imp id id);obtain⟨u,r,l⟩:=W j x v V e5 Z;refine⟨u,r,.inr ⟨?_,?_⟩⟩
   .obtain⟨k,q,z⟩:=K4 (env:=X.env) M;rcases z with z|z
    .exact .inr (by rw[<-z];exact q)
    .exact .inl (by rw[<-z.2];exact q)
   .rcases l with l|⟨_,c,O,z⟩
    .exfalso;rcases f with f|f<;>rw[l.1]at f<;>cases f
    .refine⟨c,?_,z.keeps keep⟩;have own:¬(x,NameKind.cell)∈scope.names:=λw=>by
      have:=F _ w;rw[M]at this;cases this
     obtain⟨c',q⟩:=a6a (x:=x) scope.names (s.heap.objs.size+2) (a2C scope X.env) (.inr ⟨c,a7y O (mem M)⟩);rcases d x c' q with w|w
     .exact absurd w.2 own
     .rw[O]at w;cases w;exact q
 .-- cell
  intro x c e;have R:(cellsFrom ((s.heap.push lo).push {cls:=.type "dict",data:=.dict #[]}).objs.size scope.names (a2C scope X.env)).lookup x=some c:=by
   rw[bB,bB];exact e
  refine a5I _ _ _ (λx' c' q=>?_) R;obtain⟨v,z⟩:=I.cell x' c' (a0E q);exact⟨v,z.keeps λb o q=>aj _ (aj _ q)⟩
 .exact I.hok.fresh (eE _)
 .intro x c e;rcases d x c e with z|z
  .exact I.hok.fresh (a_ (cp _ 2) z.1)
  .exact I.freeC x c z
 .intro p hp;cases hp
 .show(B4 src σ).length=N.length;unfold B4;rw[ai];exact a4W D
def Inv.unblock{d:qA (Str×qE)}{C:qE}{fp:qA qE}{pins':qA (qE×Obj)}{σ':St}{H':Hp}{s':qC}{ys:qA V}{us:qA qB}
  (I:Inv X qK σ H s) (A:∀b∈fp,a2d X qK H b) (y:s.heap.objs.size<=C) (w:s.heap.objs.size<=a) (p:a≠C) (J:Inv (X.blk N scope d C s H fp) pins' σ' H' s')
  (x:H' a=none) (B:s'.heap.get? a=some {cls:=.type "list",data:=.seq us.toArray n}) (D:Vals ys us) (E:ys.length<=sizeLine) (m:Heap.SameBut C s'.heap h') :
  Inv X qK σ (upd H' a (.lst ys)) {s' with heap:=h'}:=by
 have base:Un (frs X.stack) fp H H' s.heap s'.heap:=J.base;have k:∀b o,b≠C->s'.heap.get? b=some o->h'.get? b=some o:=λb o q e=>m.extBut b o q e;have old:∀b o,s.heap.get? b=some o->b≠C/\b≠a:=λb o e=>by
  have:=aJ e;exact⟨aW (aR this y),aW (aR this w)⟩
 have g:H' C=none:=J.free;have h:H a=none:=I.hok.fresh w;have j:HOk X.prog X.w H' s'.heap:=J.hok;have v:HOk X.prog X.w (upd H' a (.lst ys)) h':=by
  intro b o e;by_cases i:b=a
  .subst i;rw[A0]at e;cases e;exact⟨E,us,n,D,k _ _ p B⟩
  .rw[A3 i]at e;refine(j b o e).stay (λc u l q=>k c u ?_ q) (λc q=>?_) λc xs q=>?_
   .rintro rfl;rcases l with rfl|l
    .rw[g]at e;cases e
    .rw[g]at l;cases l
   .rw[A3 (by rintro rfl;rw[x]at q;cases q)];exact q
   .rw[A3 (by rintro rfl;rw[x]at q;cases q)];exact q
 have f:∀b u,H b=some u->b≠a:=λb u e=>by rintro rfl;rw[h]at e;cases e
 refine I.call' (s':={s' with heap:=h'}) (ch:=fp) (J.os) ⟨λb o e q r t=>?_,λb o e q r t=>?_,λb o e q t=>?_,λb o e t=>?_,λb xs e=>?_,λb o u e=>?_,λb ps e=>?_⟩ v J.bare λb m=>?_
 .exact k b o (old b o e).1 (base.keep b o e q r t)
 .obtain⟨sl,z⟩:=base.slot b o e q r t;exact⟨sl,k b _ (old b o e).1 z⟩
 .rw[A3 (old b o e).2];exact base.free b o e q t
 .obtain⟨o',z⟩:=base.there b o e t;exact⟨o',k b _ (old b o e).1 z⟩
 .rw[A3 (f b _ e)];exact base.tups b xs e
 .rw[A3 (f b _ e)];exact base.frzs b o u e
 .rw[A3 (f b _ e)];exact base.tbls b ps e
 .obtain⟨_,h1,_,h3,h4,h5⟩:=A b m;exact⟨h3,h1,h4,h5⟩
set_option maxHeartbeats 4000000 in
def a4U{tg t E:Expr}{K:qA Expr}{wi:TI}{tt:TT}{Q:VK}{RR:qB->qE->Result->qC->Prop}(hc:X.calm=true)(hi:PI X tg t wi)
  (b9:B6 scope X.env.scope=true) (b8:O2 N src X.N scope=true) (d6:a5A scope=true)
  (hg:∀a C s H ex,PG (X.blk N scope a C s H ex) tg g) (ht:∀a C s H ex,PIf (X.blk N scope a C s H ex) K tt) (he:∀a C s H ex,PE (X.blk N scope a C s H ex) E te)
  (I:Inv X qK σ H s) (h:a6s src wi g tt te σ H Q)
  (c0:∀(s2 s4:qC) (H2 H4:Hp) (fp:qA qE) (a:qA (Str×qE)) (pl:qA (qE×Obj)) (σ4:St) (ys:qA V) (us:qA qB) (k:Nat),Inv X qK σ H2 s2->(∀b∈fp,a2d X qK H2 b) ->
   Inv (X.blk N scope a (s2.heap.objs.size+1) s2 H2 fp) pl σ4 H4 s4->H4 s2.heap.objs.size=none->s4.heap.get? s2.heap.objs.size=some {cls:=.type "list",data:=.seq us.toArray k}->Vals ys us->ys.length<=sizeLine ->
   Q (.ref s2.heap.objs.size) (upd H4 s2.heap.objs.size (.lst ys))->RR (.ref s2.heap.objs.size) (s2.heap.objs.size+1) (.ok .next) s4) :
  wpAny (model X.prog X.w) X.A (eval t X.env) (λx s₁=>wpAny (model X.prog X.w) X.A (pyIter x) (λit s₂=>wpAny (model X.prog X.w) X.A (newList []) (λb0 s₃ =>
   wpAny (model X.prog X.w) X.A (newFunctionEnv scope X.env.globals (a2C scope X.env) [] X.env.qual none .none (some X.env)) (λP s₄ =>
    codeAny (model X.prog X.w) X.A (.compStart (.ListComp E [⟨tg,t,K,0⟩] scope pos) 0 it b0 {P with scope:=relabel scope X.env}) (RR b0 P.locals) s₄) X.xe s₃) X.xe s₂) X.xe s₁) X.xe s:=by
 refine thn (hi qK s σ H _ I h) λv s1 h1=>thn h1 λd8 s2 h2=>?_;obtain⟨it,fp,tn,J,H2,e,Z,T,c5,f2,W,⟨m0,w0⟩,c7⟩:=h2;subst e;have c1:∀b∈fp,∃o,s2.heap.get? b=some o:=λb l=>(T.obj _ _ c5 b l).imp λ_ q=>q.1;refine bK (a7D ?_);have hB:=Z.block (lo:={cls:=.type "list",dict:=none,data:=.seq ([]:qA qB).toArray}) f2 c1 b9 b8 d6;rw[show({s2 with heap:=s2.heap.push {cls:=.type "list",dict:=none,data:=.seq ([]:qA qB).toArray}}:qC).heap.objs.size=s2.heap.objs.size+1 from bB ..];generalize G:cellsFrom (s2.heap.objs.size+1+1) scope.names (a2C scope X.env)=a at hB⊢;generalize B:pushCells ((s2.heap.push {cls:=.type "list",dict:=none,data:=.seq ([]:qA qB).toArray}).push {cls:=.type "dict",data:=.dict #[]}) scope.names=h4 at hB⊢;have a6:∀b o,s2.heap.get? b=some o->h4.get? b=some o:=λb o q=>by
  rw[<-B];exact fO _ _ _ _ (aj _ (aj _ q))
 have b6:h4.get? s2.heap.objs.size=some {cls:=.type "list",data:=.seq ([]:qA qB).toArray 0}:=by
  rw[<-B];exact fO _ _ _ _ (aj _ (aG _ rfl))
 have c6:tn 0 h4:=T.keep _ _ _ c5 λb _ o q=>a6 b o q;generalize f:X.blk N scope a (s2.heap.objs.size+1) s2 H2 fp=j at hB;have eA:j.A=X.A:=by rw[<-f];rfl
 have eP:j.prog=X.prog:=by rw[<-f];rfl
 have ew:j.w=X.w:=by rw[<-f];rfl
 have eK:j.K=X.K:=by rw[<-f];rfl
 have ec:j.calm=true:=by rw[<-f];exact hc
 have ee:j.env=compEnvC scope a (s2.heap.objs.size+1) X.env:=by rw[<-f];rfl
 have ex:j.ex=fp:=by rw[<-f];rfl
 have b7:j.pn=[]:=by rw[<-f];rfl
 have d1:j.s₀=s2:=by rw[<-f];rfl
 have a4:j.xe=NoX:=by rw[<-f];rfl
 have eL:j.env.locals=s2.heap.objs.size+1:=by rw[ee];rfl
 have d0:j.fs=frs X.stack:=by rw[<-f];rfl
 have c4:=hB.ok;have cne:∀x c,j.env.cells.lookup x=some c->c≠s2.heap.objs.size:=λx c q=>by
  rw[ee]at q;have q':a.lookup x=some c:=q;rw[<-G]at q';rcases W3 _ _ _ q' with z|z
  .exact dw (aR (cn _) (a_ (eE _) z.1))
  .obtain⟨v,z'⟩:=Z.cell x c (a0E z);exact aW z'.lt
 have R:∀b∈fp,b≠s2.heap.objs.size:=λb l=>by
  obtain⟨o,q⟩:=c1 b l;exact aW (aJ q)
 have A:s2.heap.objs.size∉j.fs:=by
  rw[d0];intro z;rcases aF.mp (Z.stkSub _ z)with q|q
  .exact absurd Z.lt (by rw[<-q];exact bX _)
  .exact Z.nofs (aq _) q
 have w:∀{H':Hp}{pl:qA (qE×Obj)},(∀b∈fp,H' b=none)->(∀p∈pl,p.1=s2.heap.objs.size)->∀b∈fp,a2d j pl H' b:=λ{H' pl} hn D b l=>by
  obtain⟨x1,x2⟩:=c4.exf b (by rw[ex];exact l);refine⟨hn b l,x1,c4.exfs b (by rw[ex];exact l),.inl (by rw[ex];exact l),x2,λp c2=>?_⟩;rw[b7,cO]at c2;rw[D p c2];exact(R b l).symm
 have c3:∀s5:qC,s5={s2 with heap:=h4}->codeAny (model X.prog X.w) X.A (.compLoop (.ListComp E [⟨tg,t,K,0⟩] scope pos) 0 (.ref it) (.ref s2.heap.objs.size) j.env)
   (RR (.ref s2.heap.objs.size) (s2.heap.objs.size+1)) s5:=by
  rintro s5 rfl;refine a5Z (λn s'=>∃i H' ys us k,Inv j [] (B4 src σ) H' s'/\tn i s'.heap/\(∀b∈fp,H' b=none)/\H' s2.heap.objs.size=none /\
   s'.heap.get? s2.heap.objs.size=some {cls:=.type "list",data:=.seq (us:qA qB).toArray k}/\Vals ys us/\W i n ys H') ?_ m0
   ⟨0,H2,[],[],0,hB,c6,λb l=>(f2 b l).1,Z.hok.fresh (aq _),b6,.nil,w0⟩
  rintro n s3 ⟨i,U,ys,us,k,I3,a7,a5,L,a9,r3,w3⟩;rcases c7 i n ys U w3 with⟨S,hz,qn⟩|⟨go,hz,Nn,hN,step⟩
  .have d:=T.done j eP ew eK ec i [] s3 (B4 src σ) U NoX I3 (w a5 (λ_ z=>by cases z)) a7 S;rw[eA]at d;have a0:Inv j [(s2.heap.objs.size,{cls:=.type "list",data:=.seq us.toArray k})] (B4 src σ) U s3:=I3.pins_of λp D=>by
    rw[au.mp D];exact⟨a9,L,by rw[eL];exact aW (cn _),A,λv z=>by cases z⟩
   have d:=T.done j eP ew eK ec i _ s3 (B4 src σ) U NoX a0 (w a5 (λp z=>by rw[au.mp z])) a7 S;rw[eA]at d;refine thn d λr s4 ⟨hr,I4⟩=>?_;subst hr;have c9:=(I4.pin (s2.heap.objs.size,{cls:=.type "list",data:=.seq us.toArray k}) (aH _ aA)).1;rw[<-f]at I4;exact c0 s2 s4 H2 U fp a _ _ ys us k Z f2 I4 L c9 r3 hz (qn _ L)
  .have a0:Inv j [(s2.heap.objs.size,{cls:=.type "list",data:=.seq us.toArray k})] (B4 src σ) U s3:=I3.pins_of λp D=>by
    rw[au.mp D];exact⟨a9,L,by rw[eL];exact aW (cn _),A,λv z=>by cases z⟩
   have d:=T.item j eP ew eK ec i _ s3 (B4 src σ) U NoX a0 (w a5 (λp z=>by rw[au.mp z])) a7 go;rw[eA]at d;refine thn d λr s4 ⟨u,hr,d3⟩=>?_;subst hr;refine thn d3 λ_ s5 ⟨x,H5,I5,r5,y5,a8,d2⟩=>?_;have c8:=I5.pinned (w d2 (λp z=>by rw[au.mp z])) (T.obj _ _ a8);have d5:PG j tg g:=by rw[<-f];exact hg _ _ _ _ _
   have d7:PIf j K tt:=by rw[<-f];exact ht _ _ _ _ _
   have d4:PE j E te:=by rw[<-f];exact he _ _ _ _ _
   have a1:=d5 _ s5 _ H5 x u _ c8 r5 (step x H5 y5);rw[eP,ew,eA,a4]at a1;refine thn a1 λ_ s6 ⟨σ6,H6,I6,sb,q6⟩=>?_;have a2:=d7 _ s6 σ6 H6 _ I6 q6;rw[eP,ew,eA,a4]at a2;refine thn a2 λok s7 ⟨H7,I7,q7⟩=>?_;have O:∀{Y:Hp}{M:qC}{pl:qA (qE×Obj)},Inv j ([(s2.heap.objs.size,{cls:=.type "list",data:=.seq us.toArray k})]++a3o fp s5.heap) σ6 Y M ->
     Inv j [] (B4 src σ) Y M/\tn (i+1) M.heap/\(∀b∈fp,Y b=none)/\Y s2.heap.objs.size=none/\M.heap.get? s2.heap.objs.size=some {cls:=.type "list",data:=.seq us.toArray k}:=λ{Y M pl} I8=>by
    have p0:=I8.pin (s2.heap.objs.size,{cls:=.type "list",data:=.seq us.toArray k}) (aH _ (aO _ aA));refine⟨(I8.pins_of (pins':=[]) λp D=>by cases D).weak sb.1 sb.2,T.keep _ _ _ a8 λb l o e=>(I8.pin (b,o) (aH _ (aH _ (X2 l e)))).1,λb l=>?_,p0.2.1,p0.1⟩;obtain⟨o,e,_⟩:=T.obj _ _ a8 b l;exact(I8.pin (b,o) (aH _ (aH _ (X2 l e)))).2.1
   cases ok with
   |false =>
    obtain⟨m',hm,w7⟩:=hN _ _ q7;obtain⟨b1,b2,b3,b4,b5⟩:=O (pl:=[]) I7;exact⟨m',hm,i+1,H7,ys,us,k,b1,b2,b3,b4,b5,r3,w7⟩
   |true =>
    have a3:=d4 _ s7 σ6 H7 _ I7 q7;rw[eP,ew,eA,a4]at a3;refine thn a3 λy M ⟨vy,Y,I8,ry,n8⟩=>?_;obtain⟨m',hm,w8⟩:=hN _ _ n8;obtain⟨b1,b2,b3,b4,b5⟩:=O (pl:=[]) I8;refine eU F.slot_list_append ⟨_,b5,rfl⟩ F.entry_list_append (F.args_list_append_2 _ _) (PySem.list_append s2.heap.objs.size us.toArray k y (by rw[aD,<-r3.length];omega)) ⟨b5,?_⟩;have q:=PySem.IsL.update b5 (λxs=>xs.push y);rw[show us.toArray.push y=(us++[y]).toArray by simp]at q;have nb:∀b o,b≠s2.heap.objs.size->M.heap.get? b=some o->(M.heap.update s2.heap.objs.size (Obj.mapSeq λxs=>xs.push y)).get? b=some o:=λb o l e =>
     (fE M.heap _ (dF l)).trans e
    refine⟨m',hm,i+1,Y,ys++[vy],us++[y],_,?_,?_,b3,b4,q,r3.append (.cons ry .nil),w8⟩
    .exact b1.turned nb b4 (by rw[eL];exact aW (cn _)) (.inr (by rw[d1];exact aq _)) cne λp D=>by rw[b7]at D;cases D
    .exact T.keep _ _ _ b2 λb l o e=>nb b o (R b l) e
 have m:=c3 _ rfl;rw[ee]at m;exact codeAny_compStart_list m (T.self _ 0 _ _ _ c6 m)
def a4B(a:a5A scope=true):scope.kind=.function/\∀x∈scope.names,scope.names.lookup x.1=some x.2:=by
 unfold a5A at a;rw[aM]at a;exact⟨by simpa using a.1,λx b=>by simpa using aI.mp a.2 x b⟩
def Inv.clos(I:Inv X qK σ H s)(a:B6 scope X.env.scope=true):closureFor scope X.env=pure (a2C scope X.env):=b3I λx d c=>by
 have q:=aI.mp a x d;rw[c]at q;have b:(X.env.scope.names.lookup x.1==some .cell || X.env.scope.names.lookup x.1==some .free)=true:=by simpa using q
 rw[Bool.or_eq_true]at b;exact I.ok.has x.1 (b.imp (λz=>bj.mp z) λz=>bj.mp z)
def b4Z{tg b e:Expr}{j:qA Expr}{u:TI}{t:TT}(y:X.calm=true)(hi:PI X tg b u)
  (c:B6 scope X.env.scope=true) (f:O2 N src X.N scope=true) (i:a5A scope=true)
  (A:∀a C s H ex,PG (X.blk N scope a C s H ex) tg g) (D:∀a C s H ex,PIf (X.blk N scope a C s H ex) j t) (z:∀a C s H ex,PE (X.blk N scope a C s H ex) e te)
  (hs:∀x,foldedSetIterable b X.env x=pure x:=by intro _;rfl):PE X (.ListComp e [⟨tg,b,j,0⟩] scope pos) (a6s src u g t te):=by
 intro qK s σ H Q I h;obtain⟨d,n⟩:=a4B i;rw[eval_ListComp];refine wpAny_comprehension_free (use:=none) rfl hs (I.clos c) d (λx E B=>by rw[<-B];exact n x E) (a4U (RR:=compPost (model X.prog X.w) X.A X.xe none (EP X qK σ Q)) y hi c f i A D z I h ?_);intro s2 L H2 J fp a K σ4 ys M k v f2 r p l G F q;obtain⟨m,o,_⟩:=r.loc;exact⟨m,o,λh' w=>⟨.ref s2.heap.objs.size,_,Inv.unblock v f2 (eE _) (aq _) (aW (cn _)) r p l G F w,rfl,q⟩⟩
def b4I{y:Str}{u r:Pos}{tg f j:Expr}{l:qA Expr}{wi:TI}{tt:TT}
  (hN:X.N.Nodup) (hy:X.N[i]?=some y) (Y:Loc X.env.scope y)
  (hc:X.calm=true) (hi:PI X tg f wi) (n:B6 scope X.env.scope=true) (B:O2 N src X.N scope=true) (F:a5A scope=true)
  (hg:∀d C s H ex,PG (X.blk N scope d C s H ex) tg g) (ht:∀d C s H ex,PIf (X.blk N scope d C s H ex) l tt) (S:∀d C s H ex,PE (X.blk N scope d C s H ex) j te)
  (W:swapsWith (.ListComp j [⟨tg,f,l,0⟩] scope pos) (some (.Name y u)) r.line X.env=pure true:=by rfl) (hs:∀x,foldedSetIterable f X.env x=pure x:=by intro _;rfl)
  (hf:X.fn y=true∨X.env.scope.names.lookup y=some .local:=by first|exact .inl rfl|exact .inr rfl|assumption) :
  PS X (.Assign [.Name y u] (.ListComp j [⟨tg,f,l,0⟩] scope pos) r) (a7N (a6s src wi g tt te) (B0 i)):=by
 intro qK s σ H D I h;obtain⟨t,T⟩:=a4B F;rw[exec_Assign_Name_used _ _ _ _ W];refine aa (wpAny_standAt (aa ?_));show wpAny _ X.A (do let _ <-comprehension (.ListComp j [⟨tg,f,l,0⟩] scope pos) scope X.env _ (newList []) false (eval f X.env) (some (assign (.Name y u) X.env))) _ _ s;refine aa (du (wpAny_comprehension_free (use:=some (assign (.Name y u) X.env)) (Q:=λ_ s'=>SP X qK D .next s') rfl hs (I.clos n) t (λx Y hk=>by rw[<-hk];exact T x Y)
  (a4U (RR:=compPost (model X.prog X.w) X.A X.xe (some (assign (.Name y u) X.env)) (λ_ s'=>SP X qK D .next s')) hc hi n B F hg ht S I h ?_)) (λ_ s' hq=>ae (ae hq)) λ_ _ e=>e)
 intro s2 s4 H2 H4 fp d pl σ4 ys us k w f2 L Z M r4 hz q;obtain⟨m,V,_⟩:=L.loc;have E:s4.heap.Ns (s2.heap.objs.size+1) m:=V;have O:H4 (s2.heap.objs.size+1)=none:=L.free;have J:=Inv.unblock w f2 (eE _) (aq _) (aW (cn _)) L Z M r4 hz (Heap.SameBut.refl _ _);have K:s2.heap.objs.size+1≠X.env.locals:=dw (cg w.lt);have G:∀x c,X.env.cells.lookup x=some c->c≠s2.heap.objs.size+1:=λx c e=>by
  obtain⟨v,z⟩:=w.cell x c e;exact aW (cg z.lt)
 show wpAny _ X.A (assign (.Name y u) X.env (.ref s2.heap.objs.size)) _ _ s4;refine wpAny_assign_Name (a4w (v:=.ref s2.heap.objs.size) J hN hy Y rfl (λs' I' hb=>?_) hf);obtain⟨a,sb,P⟩:=hb;have A:s2.heap.objs.size+1≠a:=by
  rcases P with rfl|P
  .exact K
  .exact(G _ _ P).symm
 refine⟨m,E.sameBut sb A,λh' R=>⟨_,_,I'.turned (t':=s'.toks) (it:=s2.heap.objs.size+1) (λb o U e=>R.extBut b o U e) ?_ K (.inr (a_ w.sz (eE _))) G λp hp=>?_,q⟩⟩
 .rw[A3 (dw (cn _))];exact O
 .exact aW (cg (aJ (w.pin p hp).1))
def SqAt(k:Bool)(h:Heap)(l:qE)(xs:Array qB):Prop:=match k with|true=>h.IsTuple l xs|false=>h.IsList l xs
def ItAt(k:Bool)(h:Heap)(i l:qE)(n:Nat):Prop:=match k with|true=>h.IsTupleIter i l n|false=>h.IsListIter i l n
def b8b:Bool->String|true => "tuple_iterator" | false => "list_iterator"
def a2q(k:Bool)(l:qE):Obj:={cls:=.type (b8b k),data:=.fields #[.ref l,.int 0 0]}
def ItAt.extBut{k:Bool}{h h':Heap}{i l b:qE}{n:Nat}(x:ItAt k h i l n)(hs:Heap.ExtBut b h h')(a:i≠b):ItAt k h' i l n:=by
 cases k
 .exact Heap.IsListIter.extBut x hs a
 .exact Heap.IsTupleIter.extBut x hs a
def ItAt.at{k:Bool}{h h':Heap}{i l:qE}{n:Nat}(x:ItAt k h i l n)(e:∀o,h.get? i=some o->h'.get? i=some o):ItAt k h' i l n:=by
 cases k
 .exact Heap.IsListIter.at x e
 .exact Heap.IsTupleIter.at x e
def ItAt.get{i:qE}(x:ItAt k h i l n):∃o,h.get? i=some o/\o.data=.fields #[.ref l,.int n 0]:=by
 cases k<;>obtain⟨o,e,c,d⟩:=x<;>exact⟨o,e,d⟩
def SqAt.extBut{k:Bool}{h h':Heap}{l b:qE}{xs:Array qB}(x:SqAt k h l xs)(hs:Heap.ExtBut b h h')(a:l≠b):SqAt k h' l xs:=by
 cases k
 .exact Heap.IsList.extBut x hs a
 .exact Heap.IsTuple.extBut x hs a
def SqAt.at{xs:Array qB}(x:SqAt k h l xs)(e:∀o,h.get? l=some o->h'.get? l=some o):SqAt k h' l xs:=by
 cases k<;>obtain⟨o,q,r⟩:=x<;>exact⟨o,e o q,r⟩
def SqAt.get{xs:Array qB}(x:SqAt k h l xs):∃o,h.get? l=some o:=by
 cases k<;>obtain⟨o,q,r⟩:=x<;>exact⟨o,q⟩
def a2v{t:qE}{x:qB}(a:s.heap.IsTupleIter it t i)(g:s.heap.IsTuple t items)(h:items[i]?=some x)
  (e:∀h',h'.IsTupleIter it t (i+1)->Heap.SameBut it s.heap h'->Q x {s with heap:=h'}):wpAny (model prog w) A (Builtin.SmallTypes.nextOf (.ref it)) Q E s:=by
 obtain⟨o,b,f,hd⟩:=id a;obtain⟨k,d,_,j,c⟩:=g;unfold Builtin.SmallTypes.nextOf;refine aa (bO (name:=Str.ofString "__next__") a.typeIs dJ
  (bQ dJ a.typeIs F.entry_tuple_iterator_next ?_ (F.args_tuple_iterator_next_1 _)))
 show wpAny _ _ (field (.ref it) 0>>=_) _ _ s;refine aa (cu b hd (x:=.ref t) rfl ?_);show wpAny _ _ (if (Value.ref t==Value.none)=true then _ else _) _ _ s;rw[ar (show ¬((Value.ref t==Value.none)=true)from bf)];show wpAny _ _ (field (.ref it) 1>>=_) _ _ s;refine aa (cu b hd (x:=.int i 0) rfl ?_);show wpAny _ _ (seqItems? (.ref t)>>=_) _ _ s;refine aa (cM d c ?_);simp only[bE,h];refine aa (dV b hd (by simp) (ae ⟨x,rfl,ae (e _ ?_ (cH ..))⟩));exact⟨_,cP _ b (eR (cQ hd _)),(fz ..).trans f,by
  rw[cQ hd];simp[rawInt]⟩
def a3t{t:qE}(g:A.handled=none)(b:s.heap.IsTupleIter it t i)(j:s.heap.IsTuple t items)(k:items[i]?=none)
  (h:∀h' e,Heap.ExtBut it s.heap h'->(∃o,h'.get? e=some o/\o.cls=.type "StopIteration")->E (.ref e) {s with heap:=h'}) :
  wpAny (model prog w) A (Builtin.SmallTypes.nextOf (.ref it)) Q E s:=by
 obtain⟨o,d,l,hd⟩:=id b;obtain⟨p,f,_,n,c⟩:=j;unfold Builtin.SmallTypes.nextOf;refine aa (bO (name:=Str.ofString "__next__") b.typeIs dJ
  (bQ dJ b.typeIs F.entry_tuple_iterator_next ?_ (F.args_tuple_iterator_next_1 _)))
 show wpAny _ _ (field (.ref it) 0>>=_) _ _ s;refine aa (cu d hd (x:=.ref t) rfl ?_);show wpAny _ _ (if (Value.ref t==Value.none)=true then _ else _) _ _ s;rw[ar (show ¬((Value.ref t==Value.none)=true)from bf)];show wpAny _ _ (field (.ref it) 1>>=_) _ _ s;refine aa (cu d hd (x:=.int i 0) rfl ?_);show wpAny _ _ (seqItems? (.ref t)>>=_) _ _ s;refine aa (cM f c ?_);simp only[bE,k];refine aa (fP (aa (dV d hd (by simp) ?_)));show wpAny _ _ (newExc (.type "StopIteration") []>>=_) _ _ _;refine aa ?_;simp only[newExc,newTuple];refine aa (bK ?_ (by size_fits));refine aa (m:=firstArgMember _ _) (wpAny_of_eq (a:=Value.none) (by first|rfl | (simp only[firstArgMember];rfl)) ?_);refine bK ?_ (by size_fits);simp only[raiseNew];refine aa (wpAny_handled ?_)
 first|rw[show A.in1.handled=none from g]|rw[g]
 refine aa (ae (wpAny_throw ?_));exact h _ _ (((cH ..).extBut.push _).push _) ⟨_,aG _ rfl,rfl⟩
def a3b{x:qB}(a:ItAt k s.heap it l i)(c:SqAt k s.heap l items)(d:items[i]?=some x)
  (b:∀h',ItAt k h' it l (i+1)->Heap.SameBut it s.heap h'->Q x {s with heap:=h'}):wpAny (model prog w) A (Builtin.SmallTypes.nextOf (.ref it)) Q E s:=by
 cases k
 .exact wpAny_nextOf_list_item a c d b
 .exact a2v a c d b
def a8X(c:A.handled=none)(a:ItAt k s.heap it l i)(d:SqAt k s.heap l items)(f:items[i]?=none)
  (b:∀h' e,Heap.ExtBut it s.heap h'->(∃o,h'.get? e=some o/\o.cls=.type "StopIteration")->E (.ref e) {s with heap:=h'}) :
  wpAny (model prog w) A (Builtin.SmallTypes.nextOf (.ref it)) Q E s:=by
 cases k
 .exact wpAny_nextOf_list_end c a d f b
 .exact a3t c a d f b
def Z3(b:SqAt k s.heap l items)(a:Q (.ref s.heap.objs.size) {s with heap:=s.heap.push (a2q k l)}):wpAny (model prog w) A (pyIter (.ref l)) Q E s:=by
 cases k
 .exact fv b a
 .exact wpAny_pyIter_tuple b a
section
variable {k1 k2:Bool}
def b1u{z TI TO g m:qE}{p q:Nat}{xs ys:Array qB}{x y a b:qB}(D:ZipApart z TI TO f g l m)
  (j:IsZip s.heap z TI TO .none) (B:IsPair s.heap TI (.ref f) (.ref g)) (C:IsPair s.heap TO a b)
  (h1:ItAt k1 s.heap f l p) (h2:ItAt k2 s.heap g m q) (F:SqAt k1 s.heap l xs) (G:SqAt k2 s.heap m ys) (I:xs[p]?=some x) (J:ys[q]?=some y)
  (H:∀h',IsZip h' z TI TO (rawInt s.heap.objs.size)->IsPair h' TO x y->ItAt k1 h' f l (p+1)->ItAt k2 h' g m (q+1)->IsPair h' s.heap.objs.size x y->h'.objs.size=s.heap.objs.size+1 ->
   (∀c o,c≠z->c≠TO->c≠f->c≠g->s.heap.get? c=some o->h'.get? c=some o)->Q (.ref s.heap.objs.size) {s with heap:=h'}) :
  wpAny (model prog w) A (Builtin.«zip.__next__» ⟨[.ref z],[]⟩) (λfin s'=>∃v,fin=.done (.ret v)/\Q v s') E s:=by
 show wpAny _ _ (field (.ref z) 2>>=_) _ _ _;refine aa (cu j rfl (x:=.bool false) rfl ?_);show wpAny _ _ (field (.ref z) 3>>=_) _ _ _;refine aa (cu j rfl (x:=.ref TI) rfl ?_);refine aa (cM B rfl ?_);show wpAny _ _ (Builtin.SmallTypes.ownedTupleIsFree (.ref z)>>=_) _ _ _;refine aa ?_;unfold Builtin.SmallTypes.ownedTupleIsFree;refine aa (cu j rfl (x:=.none) rfl (ae ?_));simp only[e_];refine aa (fP ?_);refine aa (cu j rfl (x:=.ref TO) rfl ?_);refine aa (dz j (by simp) λh₁ hz₁ hs₁=>?_);replace hz₁:IsZip h₁ z TI TO .ellipsis:=hz₁;refine aa ?_;simp only[List.zipIdx_cons,List.zipIdx_nil,List.forIn_cons,List.forIn_nil];refine aa (aa (wpAny_onRaise ?_));show wpAny _ _ (Builtin.SmallTypes.nextOf (.ref f)>>=_) _ _ _;refine aa (a3b (h1.extBut hs₁.extBut D.i1z) (F.extBut hs₁.extBut D.l1z) I λh₂ h1₂ hs₂=>ae ?_);have hTO₂:IsPair h₂ TO a b:=hs₂.extBut _ _ D.TOi1 (hs₁.extBut _ _ D.TOz C);refine aa (cM hTO₂ rfl ?_);refine aa (fQ hTO₂ λh₃ hTO₃ hs₃=>?_);replace hTO₃:IsPair h₃ TO x b:=hTO₃;refine aa (wpAny_letGo (ae ?_));refine aa (aa (wpAny_onRaise ?_));show wpAny _ _ (Builtin.SmallTypes.nextOf (.ref g)>>=_) _ _ _;refine aa (a3b (((h2.extBut hs₁.extBut D.i2z).extBut hs₂.extBut D.i12.symm).extBut hs₃.extBut D.TOi2.symm)
  (((G.extBut hs₁.extBut D.l2z).extBut hs₂.extBut D.l2i1).extBut hs₃.extBut D.l2TO) J λh₄ h2₄ hs₄=>ae ?_)
 have hTO₄:IsPair h₄ TO x b:=hs₄.extBut _ _ D.TOi2 hTO₃;refine aa (cM hTO₄ rfl ?_);refine aa (fQ hTO₄ λh₅ hTO₅ hs₅=>?_);replace hTO₅:IsPair h₅ TO x y:=hTO₅;refine aa (wpAny_letGo (ae (ae ?_)));refine aa (cM hTO₅ rfl ?_);refine aa (wpAny_newTuple ?_);have i:h₅.objs.size=s.heap.objs.size:=by rw[hs₅.1,hs₄.1,hs₃.1,hs₂.1,hs₁.1]
 have hz₅:IsZip h₅ z TI TO .ellipsis:=hs₅.extBut _ _ D.TOz.symm (hs₄.extBut _ _ D.i2z.symm (hs₃.extBut _ _ D.TOz.symm (hs₂.extBut _ _ D.i1z.symm hz₁)));have hk₅:∀c o,c≠z->c≠TO->c≠f->c≠g->s.heap.get? c=some o->h₅.get? c=some o:=λc o h n t u e =>
  hs₅.extBut _ _ n (hs₄.extBut _ _ u (hs₃.extBut _ _ n (hs₂.extBut _ _ t (hs₁.extBut _ _ h e))))
 have h1₅:ItAt k1 h₅ f l (p+1):=((h1₂.extBut hs₃.extBut D.TOi1.symm).extBut hs₄.extBut D.i12).extBut hs₅.extBut D.TOi1.symm;have h2₅:ItAt k2 h₅ g m (q+1):=h2₄.extBut hs₅.extBut D.TOi2.symm;have d:z<h₅.objs.size:=aJ hz₅;show wpAny _ _ (Builtin.SmallTypes.ownedTupleHandOut (.ref z) (.ref h₅.objs.size)>>=_) _ _ _;refine aa ?_;unfold Builtin.SmallTypes.ownedTupleHandOut;have hz₆:IsZip (h₅.push {cls:=.type "tuple",data:=.seq #[x,y]}) z TI TO .ellipsis:=aj _ hz₅;refine aa (dz hz₆ (by simp) λh₇ hz₇ hs₇=>?_);replace hz₇:IsZip h₇ z TI TO (rawInt h₅.objs.size):=hz₇;refine dz hz₇ (by simp) λh₈ hz₈ hs₈=>?_;replace hz₈:IsZip h₈ z TI TO (rawInt h₅.objs.size):=hz₈;have r:∀c o,c≠z->h₅.get? c=some o->h₈.get? c=some o:=λc o h e=>hs₈.extBut _ _ h (hs₇.extBut _ _ h (aj _ e));have hT₈:IsPair h₈ h₅.objs.size x y:=hs₈.extBut _ _ (dw d) (hs₇.extBut _ _ (dw d) (aG _ rfl));have k:h₈.objs.size=h₅.objs.size+1:=by rw[hs₈.1,hs₇.1,bB]
 rw[i]at hz₈ hT₈ k;refine ae ⟨_,rfl,?_⟩;show Q (.ref h₅.objs.size) _;rw[i];exact H h₈ hz₈ (r _ _ D.TOz hTO₅) (h1₅.at λo e=>r _ o D.i1z e) (h2₅.at λo e=>r _ o D.i2z e) hT₈ k λc o h n t u e=>r c o h (hk₅ c o h n t u e)
def b3Z{z TI TO m n y B:qE}{C F:Nat}{xs ys:Array qB}{a b:qB}{Q:Fin->qC->Prop}(I:A.handled=none)(D:ZipApart z TI TO m n y B)
  (l:IsZip s.heap z TI TO .none) (q:IsPair s.heap TI (.ref m) (.ref n)) (r:IsPair s.heap TO a b)
  (h1:ItAt k1 s.heap m y C) (h2:ItAt k2 s.heap n B F) (k:SqAt k1 s.heap y xs) (u:SqAt k2 s.heap B ys) (j:xs[C]?=none∨ys[F]?=none)
  (H:∀h' e,(∀c o,c≠z->c≠TO->c≠m->c≠n->s.heap.get? c=some o->h'.get? c=some o)->(∃o,h'.get? e=some o/\o.cls=.type "StopIteration")->E (.ref e) {s with heap:=h'}) :
  wpAny (model prog w) A (Builtin.«zip.__next__» ⟨[.ref z],[]⟩) Q E s:=by
 show wpAny _ _ (field (.ref z) 2>>=_) _ _ _;refine aa (cu l rfl (x:=.bool false) rfl ?_);show wpAny _ _ (field (.ref z) 3>>=_) _ _ _;refine aa (cu l rfl (x:=.ref TI) rfl ?_);refine aa (cM q rfl ?_);show wpAny _ _ (Builtin.SmallTypes.ownedTupleIsFree (.ref z)>>=_) _ _ _;refine aa ?_;unfold Builtin.SmallTypes.ownedTupleIsFree;refine aa (cu l rfl (x:=.none) rfl (ae ?_));simp only[e_];refine aa (fP ?_);refine aa (cu l rfl (x:=.ref TO) rfl ?_);refine aa (dz l (by simp) λh₁ hz₁ hs₁=>?_);replace hz₁:IsZip h₁ z TI TO .ellipsis:=hz₁;refine aa ?_;simp only[List.zipIdx_cons,List.zipIdx_nil,List.forIn_cons,List.forIn_nil];refine aa (aa (wpAny_onRaise ?_));show wpAny _ _ (Builtin.SmallTypes.nextOf (.ref m)>>=_) _ _ _;cases v:xs[C]? with
 |none =>
  refine aa (a8X I (h1.extBut hs₁.extBut D.i1z) (k.extBut hs₁.extBut D.l1z) v λh₂ e hs₂ t=>?_);obtain⟨G,d,f⟩:=t;have hz₂:IsZip h₂ z TI TO .ellipsis:=hs₂ _ _ D.i1z.symm hz₁;have g:e≠z:=λx=>by subst x;rw[hz₂]at d;cases d;simp at f
  refine dz hz₂ (by simp) λh₃ _ hs₃=>H h₃ e (λc o i _ p _ x=>hs₃.extBut _ _ i (hs₂ _ _ p (hs₁.extBut _ _ i x))) ⟨G,hs₃.extBut _ _ g d,f⟩
 |some x =>
  have L:ys[F]?=none:=by rcases j with h|h;rw[v]at h;cases h;exact h
  refine aa (a3b (h1.extBut hs₁.extBut D.i1z) (k.extBut hs₁.extBut D.l1z) v λh₂ h1₂ hs₂=>ae ?_);have hTO₂:IsPair h₂ TO a b:=hs₂.extBut _ _ D.TOi1 (hs₁.extBut _ _ D.TOz r);refine aa (cM hTO₂ rfl ?_);refine aa (fQ hTO₂ λh₃ hTO₃ hs₃=>?_);refine aa (wpAny_letGo (ae ?_));refine aa (aa (wpAny_onRaise ?_));show wpAny _ _ (Builtin.SmallTypes.nextOf (.ref n)>>=_) _ _ _;refine aa (a8X I (((h2.extBut hs₁.extBut D.i2z).extBut hs₂.extBut D.i12.symm).extBut hs₃.extBut D.TOi2.symm)
   (((u.extBut hs₁.extBut D.l2z).extBut hs₂.extBut D.l2i1).extBut hs₃.extBut D.l2TO) L λh₄ e hs₄ t=>?_)
  obtain⟨G,d,f⟩:=t;have hz₄:IsZip h₄ z TI TO .ellipsis:=hs₄ _ _ D.i2z.symm (hs₃.extBut _ _ D.TOz.symm (hs₂.extBut _ _ D.i1z.symm hz₁));have g:e≠z:=λx=>by subst x;rw[hz₄]at d;cases d;simp at f
  refine dz hz₄ (by simp) λh₅ _ hs₅=>H h₅ e (λc o i J p K x=>hs₅.extBut _ _ i (hs₄ _ _ K (hs₃.extBut _ _ J (hs₂.extBut _ _ p (hs₁.extBut _ _ i x))))) ⟨G,hs₅.extBut _ _ g d,f⟩
abbrev zH1(k1:Bool)(h:Heap)(l1:qE):Heap:=h.push (a2q k1 l1)
abbrev zH2(k1 k2:Bool)(h:Heap)(l1 l2:qE):Heap:=(zH1 k1 h l1).push (a2q k2 l2)
abbrev zH3(k1 k2:Bool)(h:Heap)(l1 l2:qE):Heap:=(zH2 k1 k2 h l1 l2).push {cls:=.type "tuple",data:=.seq #[.ref h.objs.size,.ref (zH1 k1 h l1).objs.size]}
abbrev zH4(k1 k2:Bool)(h:Heap)(l1 l2:qE):Heap:=(zH3 k1 k2 h l1 l2).push {cls:=.type "tuple",data:=.seq #[.none,.none]}
abbrev zH5(k1 k2:Bool)(h:Heap)(l1 l2:qE):Heap:=(zH4 k1 k2 h l1 l2).push {cls:=.type "zip",data:=.fields #[.none,.bool false,.bool false,.ref (zH2 k1 k2 h l1 l2).objs.size,.ref (zH3 k1 k2 h l1 l2).objs.size]}
def b3X(a b:qE)(xs ys:Array qB) :
  Meets (Builtin.«zip.__new__» ⟨[.type "zip",.ref a,.ref b],[]⟩) (λ_ R s=>SqAt k1 s.heap a xs/\SqAt k2 s.heap b ys /\
   R (.ok (.ret (.ref (zH4 k1 k2 s.heap a b).objs.size))) {s with heap:=zH5 k1 k2 s.heap a b}) :=
 .of_wp λprog w A R s h=>by
  obtain⟨k,g,d,tk,os⟩:=s;obtain⟨i,j,h⟩:=h;have l:=sub_zip;have c:SqAt k1 (Shared.heap ⟨k,g,d,tk,os⟩) a xs:=i;have f:SqAt k2 (Shared.heap ⟨k.push (a2q k1 a),g,d,tk,os⟩) b ys:=j.at λo e=>aj _ e
  wp_walk using Z3 c,Z3 f
  exact⟨_,rfl,h⟩
def b1w{xs ys:Array qB}(e:SqAt k1 s.heap a xs)(f:SqAt k2 s.heap b ys)
  (h:∀h',IsZip h' (s.heap.objs.size+4) (s.heap.objs.size+2) (s.heap.objs.size+3) .none->IsPair h' (s.heap.objs.size+2) (.ref s.heap.objs.size) (.ref (s.heap.objs.size+1)) ->
   IsPair h' (s.heap.objs.size+3) .none .none->ItAt k1 h' s.heap.objs.size a 0->ItAt k2 h' (s.heap.objs.size+1) b 0->h'.objs.size=s.heap.objs.size+5 ->
   (∀c o,s.heap.get? c=some o->h'.get? c=some o)->Q (.ref (s.heap.objs.size+4)) {s with heap:=h'}) :
  wpAny (model prog w) A (call (.type "zip") [.ref a,.ref b]) Q E s:=by
 refine callType_new F.called_zip (by decide) (F.typeCall_zip_2 _ _) (F.newCall_zip_2 _ _) (λobj=>F.args_object_init_3 obj _ _) F.entry_zip_new
  (b3X (k1:=k1) (k2:=k2) a b xs ys) ⟨e,f,?_⟩
 have g:(zH1 k1 s.heap a).objs.size=s.heap.objs.size+1:=bB ..;have i:(zH2 k1 k2 s.heap a b).objs.size=s.heap.objs.size+2:=by rw[bB,g]
 have j:(zH3 k1 k2 s.heap a b).objs.size=s.heap.objs.size+3:=by rw[bB,i]
 have k:(zH4 k1 k2 s.heap a b).objs.size=s.heap.objs.size+4:=by rw[bB,j]
 have q:(zH5 k1 k2 s.heap a b).objs.size=s.heap.objs.size+5:=by rw[bB,k]
 have d:(zH5 k1 k2 s.heap a b).get? (zH4 k1 k2 s.heap a b).objs.size=some _:=aG _ rfl;have n:(zH5 k1 k2 s.heap a b).get? (zH3 k1 k2 s.heap a b).objs.size=some _:=aj _ (aG _ rfl);have m:(zH5 k1 k2 s.heap a b).get? (zH2 k1 k2 s.heap a b).objs.size=some _:=aj _ (aj _ (aG _ rfl));have l:(zH5 k1 k2 s.heap a b).get? (zH1 k1 s.heap a).objs.size=some (a2q k2 b):=aj _ (aj _ (aj _ (aG _ rfl)));have p:(zH5 k1 k2 s.heap a b).get? s.heap.objs.size=some (a2q k1 a):=aj _ (aj _ (aj _ (aj _ (aG _ rfl))));show _/\_;rw[i,j,k]at d;rw[g,i]at m;rw[j]at n;rw[g]at l;rw[k];refine⟨⟨_,d,rfl⟩,h _ d m n ?_ ?_ q λc o x =>
  aj _ (aj _ (aj _ (aj _ (aj _ x))))⟩
 .cases k1<;>exact⟨_,p,rfl,rfl⟩
 .cases k2<;>exact⟨_,l,rfl,rfl⟩
end
def SqK(k:Bool)(K:qF)(H:Hp)(a:qE)(xs:qA V):Prop:=match k with|true=>SqT K H a xs|false=>SqL K H a xs
def Inv.sqk(I:Inv X qK σ H s)(h:SqK k X.K H a xs):∃its:qA qB,Vals xs its/\SqAt k s.heap a its.toArray/\xs.length<=sizeLine:=by
 cases k
 .obtain⟨its,r,p,z⟩:=I.list h;exact⟨its,r,p.isList,z⟩
 .obtain⟨its,r,p,z⟩:=I.tuple h;exact⟨its,r,p,z⟩
def Inv.sqk_inj{ys:qA V}(I:Inv X qK σ H s)(h:SqK k X.K H a xs)(h':SqK k X.K H a ys):xs=ys:=by
 cases k
 .exact I.list_inj h h'
 .exact I.tuple_inj h h'
def Itz(K:qF)(k1 k2:Bool)(a b:qE):It :=
 ⟨λi H=>∃xs ys x y,SqK k1 K H a xs/\SqK k2 K H b ys/\xs[i]?=some x/\ys[i]?=some y,
  λi H v H'=>∃p x y,v=.ref p/\H p=none/\H'=upd H p (.tup [x,y])/\(∀xs,SqK k1 K H a xs->xs[i]?=some x)/\∀ys,SqK k2 K H b ys->ys[i]?=some y,
  λi H=>∃xs ys,SqK k1 K H a xs/\SqK k2 K H b ys/\(xs.length<=i∨ys.length<=i)⟩
structure ZTurn(k1 k2:Bool)(z TI TO i1 i2 a b:qE)(i:Nat)(f0:qB)(h:Heap):Prop where
 zz:IsZip h z TI TO f0
 ti:IsPair h TI (.ref i1) (.ref i2)
 to:∃u v,IsPair h TO u v
 t1:ItAt k1 h i1 a i
 t2:ItAt k2 h i2 b i
structure ZNe(z TI TO i1 i2:qE):Prop where
 TIz:TI≠z
 TOz:TO≠z
 i1z:i1≠z
 i2z:i2≠z
 TITO:TI≠TO
 TIi1:TI≠i1
 TIi2:TI≠i2
 TOi1:TO≠i1
 TOi2:TO≠i2
 i12:i1≠i2
def Inv.turnedT{ch:qA qE}{p:qE}{o:HO}(I:Inv X qK σ H s)(h:∀b∈ch,a2d X qK H b)(hp:s.heap.objs.size=p)(k:∀b o,b∉ch->s.heap.get? b=some o->h'.get? b=some o)
  (new:ObjOk X.prog X.w (upd H p o) h' p o):Inv X qK σ (upd H p o) {s with heap:=h'}:=by
 have l:H p=none:=I.hok.fresh (Nat.le_of_eq hp);have f:∀b u,H b=some u->b∉ch:=λb u e z=>by rw[(h b z).1]at e;cases e
 have a:∀b u,H b=some u->b≠p:=λb u e z=>by rw[z,l]at e;cases e
 have i:∀b u,s.heap.get? b=some u->b≠p:=λb u e=>by
  rw[<-hp];exact aW (aJ e)
 refine I.step (g':=s.gens) (d':=s.drawn) (t':=s.toks) (ch:=ch) (λb g=>?_) (λb o _ _ d e _=>k b o d e) (λb o _ _ d e _=>⟨o.slots,k b o d e⟩) (λb u _ e n=>by rw[A3 (i b u e)];exact n)
  (λb o d e=>⟨o,k b o d e⟩) (λb xs e=>by rw[A3 (a b _ e)];exact e) (λb u v e=>by rw[A3 (a b _ e)];exact e) (λb ps e=>⟨#[],by rw[A3 (a b _ e),e];simp⟩) (λm j=>?_) (λb u e=>?_) I.bare
 .obtain⟨_,h1,_,h3,h4,h5⟩:=h b g;exact⟨h3,h1,h4,h5⟩
 .obtain⟨o,es,ep,ho,r⟩:=j;exact⟨o,es,ep,k _ o (λz=>(h _ z).2.1 rfl) ho,r⟩
 .by_cases g:b=p
  .subst g;rw[A0]at e;cases e;exact new
  .rw[A3 g]at e;refine(I.hok b u e).stay (λc v d q=>k c v ?_ q) (λc q=>by rw[A3 (a c _ q)];exact q) λc xs q=>by rw[A3 (a c _ q)];exact q
   rcases d with z|z
   .rw[z];exact f b u e
   .exact f c _ z
def Inv.turnedL{ch:qA qE}(I:Inv X qK σ H s)(f:∀b∈ch,a2d X qK H b)(k:∀b o,b∉ch->s.heap.get? b=some o->h'.get? b=some o):Inv X qK σ H {s with heap:=h'}:=by
 have d:∀b u,H b=some u->b∉ch:=λb u e z=>by rw[(f b z).1]at e;cases e
 refine I.step (g':=s.gens) (d':=s.drawn) (t':=s.toks) (ch:=ch) (λb g=>?_) (λb o _ _ a e _=>k b o a e) (λb o _ _ a e _=>⟨o.slots,k b o a e⟩) (λb u _ e n=>n)
  (λb o a e=>⟨o,k b o a e⟩) (λb xs e=>e) (λb u v e=>e) (λb ps e=>⟨#[],by rw[e];simp⟩) (λm h=>?_) (λb u e=>?_) I.bare
 .obtain⟨_,h1,_,h3,h4,h5⟩:=f b g;exact⟨h3,h1,h4,h5⟩
 .obtain⟨o,es,ep,ho,r⟩:=h;exact⟨o,es,ep,k _ o (λz=>(f _ z).2.1 rfl) ho,r⟩
 .refine(I.hok b u e).stay (λc v a q=>k c v ?_ q) (λc q=>q) λc xs q=>q;rcases a with z|z
  .rw[z];exact d b u e
  .exact d c _ z
def Inv.apart{o:Obj}(I:Inv X qK σ H s)(hs:SqK k X.K H a xs)(h:a2d X qK H b):a≠b:=by
 rintro rfl;have c:∀{u:HO},Rd H a u->False:=λr=>by
  rcases r with r|⟨o,r⟩<;>rw[h.1]at r<;>cases r
 have d:∀{f:Obj},X.K.lookup a=some f->False:=λe=>by
  have g:=I.mod.kin a _ e;rcases h.2.2.2.1 with z|z
  .exact I.ok.noex _ _ g z
  .exact absurd (aR (aJ (I.ok.bs _ _ g).1) z) (bX _)
 cases k
 .rcases hs with r|⟨f,_,_,e,_⟩
  .exact c r
  .exact d e
 .rcases hs with r|⟨f,_,_,e,_⟩
  .exact c r
  .exact d e
def b1D{kt:Nat}{tp:Pos}{k1 k2:Bool}{z TI TO j:qE}(D:ZNe z TI TO j l) :
  Turn P w K (.Tuple es kt tp) (Itz K k1 k2 a b) [z,TI,TO,j,l] z (λi h=>ZTurn k1 k2 z TI TO j l a b i .none h) where
 mem:=by simp
 obj:=λi h st c f=>by
  simp only[aF,bS,de]at f;rcases f with rfl|rfl|rfl|rfl|rfl
  .exact⟨_,st.zz,λv z=>by cases z⟩
  .exact⟨_,st.ti,λv z=>by cases z⟩
  .obtain⟨u,v,q⟩:=st.to;exact⟨_,q,λv z=>by cases z⟩
  .obtain⟨o,e,d⟩:=st.t1.get;exact⟨o,e,λv z=>by rw[d]at z;cases z⟩
  .obtain⟨o,e,d⟩:=st.t2.get;exact⟨o,e,λv z=>by rw[d]at z;cases z⟩
 keep:=λi h h' st k=>⟨k z (by simp) _ st.zz,k TI (by simp) _ st.ti,let ⟨u,v,q⟩:=st.to;⟨u,v,k TO (by simp) _ q⟩,st.t1.at λo e=>k j (by simp) o e,st.t2.at λo e=>k l (by simp) o e⟩
 item:=by
  intro X N hw M f i qK s σ H E I t st O;subst N hw M;obtain⟨xs,ys,x,y,n,p,hx,hy⟩:=O;obtain⟨us,Y,V,zu⟩:=I.sqk n;obtain⟨ws,C,W,zw⟩:=I.sqk p;obtain⟨u,hu,Z⟩:=Y.get hx;obtain⟨v,hv,a0⟩:=C.get hy;have g:∀c∈[z,TI,TO,j,l],a≠c/\b≠c:=λc f=>⟨I.apart (o:=default) n (t c f),I.apart (o:=default) p (t c f)⟩;have L:ZipApart z TI TO j l a b:=⟨D.TIz,D.TOz,D.i1z,D.i2z,D.TITO,D.TIi1,D.TIi2,D.TOi1,D.TOi2,D.i12,(g z (by simp)).1,(g TO (by simp)).1,(g j (by simp)).1,(g l (by simp)).1,(g z (by simp)).2,(g TO (by simp)).2,(g j (by simp)).2,(g l (by simp)).2⟩;obtain⟨ua,ub,r⟩:=st.to;have G:s.TypeIs (.ref z) "zip":=⟨_,st.zz,rfl⟩;unfold pyNext;refine aa (eh (bO (name:=Str.ofString "__next__") G fR
   (bQ fR G F.entry_zip_next
    (b1u L st.zz st.ti r st.t1 st.t2 V W (x:=u) (y:=v) (by simpa using hu) (by simpa using hv) λh' a1 a2 a3 a4 a5 a6 a7=>ae ?_) (F.args_zip_next_1 _))))
  refine⟨_,rfl,?_⟩;refine wpAny_letOwnedTupleGo_zip (s:={s with heap:=h'}) a1 λh2 S m=>?_;have ne:∀c∈[z,TI,TO,j,l],c≠s.heap.objs.size:=λc f e=>by
   have:∃o,s.heap.get? c=some o:=by
    simp only[aF,bS,de]at f;rcases f with rfl|rfl|rfl|rfl|rfl
    .exact⟨_,st.zz⟩
    .exact⟨_,st.ti⟩
    .exact⟨_,r⟩
    .obtain⟨o,e,d⟩:=st.t1.get;exact⟨o,e⟩
    .obtain⟨o,e,d⟩:=st.t2.get;exact⟨o,e⟩
   obtain⟨o,q⟩:=this;exact absurd (aJ q) (by rw[e];exact bX _)
  have B:H s.heap.objs.size=none:=I.hok.fresh (aq _);have U:IsPair h2 s.heap.objs.size u v:=m.extBut _ _ (ne z (by simp)).symm a5;have kk:∀c o,c∉[z,TI,TO,j,l]->s.heap.get? c=some o->h2.get? c=some o:=λc o f e=>by
   simp only[aF,bS,de,not_or]at f;exact m.extBut _ _ f.1 (a7 c o f.1 f.2.2.1 f.2.2.2.1 f.2.2.2.2 e)
  have I2:Inv X qK σ (upd H s.heap.objs.size (.tup [x,y])) {s with heap:=h2} :=
   I.turnedT (ch:=[z,TI,TO,j,l]) t rfl kk ⟨by show 2<=sizeLine;decide,[u,v],.cons Z (.cons a0 .nil),⟨_,U,rfl,0,rfl⟩⟩
  refine⟨.ref s.heap.objs.size,_,I2,rfl,⟨_,x,y,rfl,B,rfl,λzs R=>?_,λzs R=>?_⟩,⟨S,m.extBut _ _ D.TIz (a7 _ _ D.TIz D.TITO D.TIi1 D.TIi2 st.ti),⟨u,v,m.extBut _ _ D.TOz a2⟩,a3.extBut m.extBut D.i1z,a4.extBut m.extBut D.i2z⟩,λc f=>?_⟩
  .rw[I.sqk_inj R n];exact hx
  .rw[I.sqk_inj R p];exact hy
  .rw[A3 (ne c f)];exact(t c f).1
 done:=by
  intro X N hw M f i qK s σ H E I t st O;subst N hw M;obtain⟨xs,ys,n,p,J⟩:=O;obtain⟨us,Y,V,zu⟩:=I.sqk n;obtain⟨ws,C,W,zw⟩:=I.sqk p;have l1:=Y.length;have l2:=C.length;have g:∀c∈[z,TI,TO,j,l],a≠c/\b≠c:=λc f=>⟨I.apart (o:=default) n (t c f),I.apart (o:=default) p (t c f)⟩;have L:ZipApart z TI TO j l a b:=⟨D.TIz,D.TOz,D.i1z,D.i2z,D.TITO,D.TIi1,D.TIi2,D.TOi1,D.TOi2,D.i12,(g z (by simp)).1,(g TO (by simp)).1,(g j (by simp)).1,(g l (by simp)).1,(g z (by simp)).2,(g TO (by simp)).2,(g j (by simp)).2,(g l (by simp)).2⟩;obtain⟨ua,ub,r⟩:=st.to;have G:s.TypeIs (.ref z) "zip":=⟨_,st.zz,rfl⟩;unfold pyNext;refine aa (eh (bO (name:=Str.ofString "__next__") G fR
   (bQ fR G F.entry_zip_next (b3Z (I.ok.hd f) L st.zz st.ti r st.t1 st.t2 V W ?_ λh' e hk he=>?_) (F.args_zip_next_1 _))))
  .rcases J with q|q
   .exact .inl (by simp;omega)
   .exact .inr (by simp;omega)
  .obtain⟨o,ho,f⟩:=he;refine aa (fJ (T:="StopIteration") (b:=true) ⟨o,ho,f⟩ isSubtype_stop ?_);refine ae ⟨rfl,I.turnedL (ch:=[z,TI,TO,j,l]) t λc o f e=>?_⟩;simp only[aF,bS,de,not_or]at f;exact hk c o f.1 f.2.2.1 f.2.2.2.1 f.2.2.2.2 e
 self:=λA i s Q E st h=>wpAny_pyIter_zip st.zz h
def nne{a b:Nat}(h:a≠b):@Ne qE a b:=h
def zne(n:Nat):ZNe (n+4) (n+2) (n+3) n (n+1) :=
 ⟨nne (by omega),nne (by omega),nne (by omega),nne (by omega),nne (by omega),nne (by omega),nne (by omega),nne (by omega),nne (by omega),nne (by omega)⟩
def b8d(K:qF)(ta:TA):TI:=λσ H R=>ta σ H λvs H1=>∃k1 k2 a b,vs=[.ref a,.ref b]/\(∃xs,SqK k1 K H1 a xs)/\(∃ys,SqK k2 K H1 b ys)/\R (Itz K k1 k2 a b) H1
def b7f{u:Nat}{A:Pos}{a b:Expr}{ta:TA}{p:Pos}(m:Gl X "zip")(n:X.mg "zip"=none)(l:PA X [a,b] ta)(i:bootBuiltins "zip"=some (.type "zip"))
  (hs:starEach [a,b] X.env=[(false,eval a X.env),(false,eval b X.env)]:=by rfl) (g:starEach [b] X.env=[(false,eval b X.env)]:=by rfl) :
  PI X (.Tuple es u A) (.Call (.Name "zip" p) [a,b] [] pos) (b8d X.K ta):=by
 intro qK s σ H R I h;refine Call_ (a3A I m n i (eS (thn (l pos qK s σ H _ I h) λB s1 ⟨M,H1,d,y,x⟩=>?_) (by rw[hs,g]) (by rw[g];rfl)));obtain⟨k1,k2,J,K,e,⟨xs,o⟩,⟨ys,t⟩,q⟩:=x;subst e;cases y with
 |cons r rr =>
  cases rr with
  |cons r' rr =>
   cases rr;cases r;cases r';obtain⟨B,L,v,P⟩:=d.sqk o;obtain⟨N,z,w,Q⟩:=d.sqk t;refine b1w v w λh' k C D E F O G=>?_;refine wpAny_pyIter_zip (s:={s1 with heap:=h'}) k ?_;refine⟨s1.heap.objs.size+4,[s1.heap.objs.size+4,s1.heap.objs.size+2,s1.heap.objs.size+3,s1.heap.objs.size,s1.heap.objs.size+1],_,_,H1,rfl,d.kept (t':=s1.toks) G,b1D (zne _),
    ⟨k,C,⟨_,_,D⟩,E,F⟩,λc j=>?_,q⟩
   have f:s1.heap.objs.size<=c:=by
    simp only[aF,bS,de]at j;rcases j with rfl|rfl|rfl|rfl|rfl
    .exact cp _ _
    .exact cp _ _
    .exact cp _ _
    .exact aq _
    .exact cp _ _
   exact d.fpOk f (d.hok.fresh f)
def a2T{I:qE}(b:A.handled=none)(a:l≠I) :
  Walks prog w A I [I,l] [I] items.size (λi v=>items[i]?=some v) (λi h=>ItAt k h I l i/\SqAt k h l items):=by
 cases k
 .exact Walks.list b I l a items
 .exact Walks.tuple b I l a items
def trV:V->Bool
 |.bl b=>b
 |.int i=>i != 0
 |.non=>false
 |_=>true
def a7s:V->Bool
 |.bl _=>true
 |.int _=>true
 |.non=>true
 |_=>false
def a2g{x:V}{v:qB}{Q:Bool->qC->Prop}(r:RelV x v)(f:a7s x=true)(h:Q (trV x) s):wpAny (model prog w) A (truthy v) Q E s:=by
 cases x with
 |non=>cases r;exact truthy_none h
 |bl b=>cases r;exact dk h
 |int i=>obtain⟨t,rfl⟩:=r;exact PySem.P.truthy_int h
 |_=>cases f
def a4F(xs:qA α)(p:α->Bool)(d:α):(List.range xs.length).all (λi=>p (xs.getD i d))=xs.all p:=by
 rw[cD,aI,aI];constructor
 .intro h x hx;obtain⟨i,hi,rfl⟩:=cq.mp hx;have:=h i (aY.mpr hi);simpa[av,hi]using this
 .intro h i hi;have a:=aY.mp hi;simpa[av,a]using h xs[i] (cc a)
def b0l(xs:qA α)(p:α->Bool)(d:α):(List.range xs.length).any (λi=>p (xs.getD i d))=xs.any p:=by
 have:=a4F xs (λx=>!p x) d;rw[<-List.not_any_eq_all_not,<-List.not_any_eq_all_not]at this;simpa using this
def a9o(xs:qI):∀n,n<=xs.length->preSum (λi=>xs.getD i 0) n=(xs.take n).sum
 |0,_=>by simp[preSum]
 |n+1,h=>by
  have this:xs[n]?=some xs[n]:=ak (by omega);have e:xs.take (n+1)=xs.take n++[xs[n]]:=by rw[bg,this];rfl
  rw[preSum,a9o xs n (by omega),e,fS];simp[av,this]
abbrev RL:=qA V->Hp->VK->Prop
def b6X(K:qF):RL:=λxs H Q=>∃(k:Bool) (p:qE) (ys:qA V),xs=[.ref p]/\SqK k K H p ys/\ys.all a7s=true/\Q (.bl (ys.all trV)) H
def b6W(K:qF):RL:=λxs H Q=>∃(k:Bool) (p:qE) (ys:qA V),xs=[.ref p]/\SqK k K H p ys/\ys.all a7s=true/\Q (.bl (ys.any trV)) H
def b6S(K:qF):RL:=λxs H Q=>∃(k:Bool) (p:qE) (ns:qI),xs=[.ref p]/\SqK k K H p (ns.map V.int)/\Q (.int ns.sum) H
def a8q(h:SqAt k s.heap l items):ItAt k (s.heap.push (a2q k l)) s.heap.objs.size l 0/\SqAt k (s.heap.push (a2q k l)) l items:=by
 refine⟨?_,h.at λo e=>aj _ e⟩;cases k<;>exact⟨_,aG _ rfl,rfl,rfl⟩
def a3B(h:SqAt k s.heap l items):l≠s.heap.objs.size:=by
 obtain⟨o,e⟩:=h.get;exact aW (aJ e)
def a3E{c:Obj}(a:∀b o,b∉[s.heap.objs.size]->(s.heap.push c).get? b=some o->h'.get? b=some o):∀b o,s.heap.get? b=some o->h'.get? b=some o:=λb o e =>
 a b o (λz=>by have:=aJ e;rw[au.mp z]at this;exact bX _ this) (aj _ e)
def b3N(m:X.calm=true):D9 X (.builtin "all") (b6X X.K):=by
 intro qK s σ H xs y Q I w h;obtain⟨k,p,ys,rfl,hs,n,q⟩:=h;obtain⟨u,rfl,t⟩:=w.one;cases t;obtain⟨its,c,d,x⟩:=I.sqk hs;have o:X.A.in1.handled=none:=I.ok.hd m;refine call_all_walk (Z3 d ?_);refine⟨s.heap.objs.size,_,_,_,_,_,λi=>trV (ys.getD i .non),rfl,a2T (k:=k) (l:=p) (items:=its.toArray) o (a3B d),a8q d,?_,λh' tk r=>?_⟩
 .intro i v s' Q' E' hv hq;have b:its[i]?=some v:=by simpa using hv
  obtain⟨hi,_⟩:=aL.mp b;have a:i<ys.length:=by rw[c.length];exact hi
  have g:ys[i]?=some ys[i]:=ak a;obtain⟨z,f,j⟩:=c.get g;rw[b]at f;cases f;refine a2g j (aI.mp n _ (cc a)) ?_;simpa[av,g]using hq
 .have e:(List.range its.toArray.size).all (λi=>trV (ys.getD i .non))=ys.all trV:=by
   rw[aD,<-c.length];exact a4F ys trV .non
  rw[e];exact⟨.bl _,H,I.kept (a3E r),rfl,q⟩
def b3M(m:X.calm=true):D9 X (.builtin "any") (b6W X.K):=by
 intro qK s σ H xs y Q I w h;obtain⟨k,p,ys,rfl,hs,n,q⟩:=h;obtain⟨u,rfl,t⟩:=w.one;cases t;obtain⟨its,c,d,x⟩:=I.sqk hs;have o:X.A.in1.handled=none:=I.ok.hd m;refine call_any_walk (Z3 d ?_);refine⟨s.heap.objs.size,_,_,_,_,_,λi=>trV (ys.getD i .non),rfl,a2T (k:=k) (l:=p) (items:=its.toArray) o (a3B d),a8q d,?_,λh' tk r=>?_⟩
 .intro i v s' Q' E' hv hq;have b:its[i]?=some v:=by simpa using hv
  obtain⟨hi,_⟩:=aL.mp b;have a:i<ys.length:=by rw[c.length];exact hi
  have g:ys[i]?=some ys[i]:=ak a;obtain⟨z,f,j⟩:=c.get g;rw[b]at f;cases f;refine a2g j (aI.mp n _ (cc a)) ?_;simpa[av,g]using hq
 .have e:(List.range its.toArray.size).any (λi=>trV (ys.getD i .non))=ys.any trV:=by
   rw[aD,<-c.length];exact b0l ys trV .non
  rw[e];exact⟨.bl _,H,I.kept (a3E r),rfl,q⟩
def b3K(w:X.calm=true):D9 X (.builtin "sum") (b6S X.K):=by
 intro qK s σ H xs D Q I B h;obtain⟨k,p,a,rfl,hs,q⟩:=h;obtain⟨u,rfl,A⟩:=B.one;cases A;obtain⟨its,n,d,C⟩:=I.sqk hs;have m:=n.length;rw[ai]at m;have x:X.A.in1.handled=none:=I.ok.hd w;refine call_sum_walkG (Z3 d ?_);refine⟨s.heap.objs.size,_,_,_,_,_,λi=>a.getD i 0,rfl,a2T (k:=k) (l:=p) (items:=its.toArray) x (a3B d),a8q d,λb j=>?_,?_,λh' tk t' y=>?_⟩
 .rw[bB];obtain⟨o,e⟩:=d.get;have f:=aJ e;simp only[aF,bS,de]at j;rcases j with rfl|rfl
  .exact cn _
  .exact cg f
 .intro i v hv;have c:its[i]?=some v:=by simpa using hv
  obtain⟨hi,_⟩:=aL.mp c;have z:(a.map V.int)[i]?=some (.int a[i]):=by rw[aZ,ak (by omega)];rfl
  obtain⟨E,g,t,r⟩:=n.get z;rw[c]at g;cases g;exact⟨t,by rw[r];show _=Value.int (a.getD i 0) t;rw[av,ak (by omega)];rfl⟩
 .have e:preSum (λi=>a.getD i 0) its.toArray.size=a.sum:=by
   rw[aD,<-m,a9o a _ (aq _),bh]
  rw[e];exact⟨.int a.sum,H,I.kept (a3E y),⟨t',rfl⟩,q⟩
def b6V(K:qF):RL:=λxs H Q=>∃x n t b,xs=[x,.ty n]/\TyOf K H x t/\PySem.W.kitOne K t (.type n)=some b/\Q (.bl b) H
def b3L:D9 X (.builtin "isinstance") (b6V X.K):=by
 intro qK s σ H xs f Q I d h;obtain⟨x,n,t,b,rfl,ty,e,q⟩:=h;obtain⟨u,v,rfl,c,a⟩:=d.two;cases a;exact b0N I c ty e λtk=>⟨.bl b,H,I.tok tk,rfl,q⟩
def a9i(x:V)(b:Bool):Bool:=decide (x=.bl b)
def a7o{x:V}{v:qB}{b:Bool}{Q:Bool->qC->Prop}(r:RelV x v)(h:Q (a9i x b) s):wpAny M A (isSame v (.bool b)) Q E s:=by
 unfold isSame;cases x with
 |non=>cases r;exact ae h
 |bl c=>cases r;exact ae (by
   have e:a9i (.bl c) b=(Value.bool c==Value.bool b):=by cases c<;>cases b<;>rfl
   rw[e]at h;exact h)
 |int i=>obtain⟨t,rfl⟩:=r;exact ae h
 |str y=>obtain⟨t,rfl⟩:=r;exact ae h
 |byt y=>obtain⟨t,rfl⟩:=r;exact ae h
 |flt y=>obtain⟨t,rfl⟩:=r;exact ae h
 |ref p=>cases r;exact ae h
 |ty n=>cases r;exact ae h
def b0u{b:Bool}:OpR X (compareOp .IsNot) (λx y H Q=>y=.bl b/\Q (.bl (!a9i x b)) H):=by
 intro qK s σ H x y v u Q I a c h;obtain⟨rfl,q⟩:=h;cases c;unfold compareOp;exact aa (a7o a (ae ⟨.bl _,H,I,rfl,q⟩))
def b3R:bootBuiltins "len"=some (.builtin "len"):=boot_len
def b8o:bootBuiltins "zip"=some (.type "zip"):=by kernel_rfl
def b8u:bootBuiltins "all"=some (.builtin "all"):=by kernel_rfl
def b8t:bootBuiltins "any"=some (.builtin "any"):=by kernel_rfl
def b8p:bootBuiltins "sum"=some (.builtin "sum"):=by kernel_rfl
def b8r:bootBuiltins "min"=some (.builtin "min"):=by kernel_rfl
def b8s:bootBuiltins "max"=some (.builtin "max"):=by kernel_rfl
def b8v:bootBuiltins "abs"=some (.builtin "abs"):=by kernel_rfl
def a4s:bootBuiltins "isinstance"=some (.builtin "isinstance"):=by kernel_rfl
def a2b:bootBuiltins "sorted"=some (.builtin "sorted"):=by kernel_rfl
def a4e:bootBuiltins "tuple"=some (.type "tuple"):=by kernel_rfl
def b5R:bootBuiltins "list"=some (.type "list"):=by kernel_rfl
def b3S:bootBuiltins "int"=some (.type "int"):=by kernel_rfl
def b5T:bootBuiltins "bool"=some (.type "bool"):=by kernel_rfl
def b8q:bootBuiltins "set"=some (.type "set"):=by kernel_rfl
def b5S:bootBuiltins "dict"=some (.type "dict"):=by kernel_rfl
def a1w{f:TT}{Q:VK}{J:It}(n:Nat)(a:Nat->qA V->Hp->Prop)(h0:a 0 [] H1)
  (hs:∀i ys H,i<n->a i ys H->J.go i H/\ys.length<sizeLine/\∀x H',J.yld i H x H'->g x (B4 src σ) H' λσ2 H2=>Sub (B4 src σ) σ2/\f σ2 H2 λb d=>if b=true then te σ2 d λv h=>a (i+1) (ys++[v]) h else a (i+1) ys d)
  (hd:∀ys H,a n ys H->J.stop n H/\ys.length<=sizeLine/\∀p,H p=none->Q (.ref p) (upd H p (.lst ys))):G0 src g f te σ Q J H1:=by
 refine⟨λi m ys H=>m=n-i/\i<=n/\a i ys H,⟨n,by omega,bu _,h0⟩,?_⟩;rintro i m ys H ⟨rfl,hi,p⟩;by_cases c:i<n
 .obtain⟨q1,q2,q3⟩:=hs i ys H c p;exact .inr ⟨q1,q2,a (i+1),λzs H' j=>⟨n-(i+1),by omega,rfl,c,j⟩,q3⟩
 .have e:i=n:=by omega
  subst e;exact .inl (hd ys H p)
def a8x{f:TT}{Q:VK}{lo:Int}(j:n<=sizeLine)(a:Nat->qA V->Hp->Prop)(h0:a 0 [] H1)
  (d:∀i ys H,a i ys H->ys.length<=i)
  (hs:∀i ys H,i<n->a i ys H->g (.int (lo+i)) (B4 src σ) H λσ2 H2=>Sub (B4 src σ) σ2/\f σ2 H2 λb c=>if b=true then te σ2 c λv h=>a (i+1) (ys++[v]) h else a (i+1) ys c)
  (hd:∀ys H,a n ys H->∀p,H p=none->Q (.ref p) (upd H p (.lst ys))):G0 src g f te σ Q (Itr lo n) H1 :=
 a1w n a h0 (λi ys H hi p=>⟨hi,by have:=d i ys H p;omega,λx H' y=>by obtain⟨e,y⟩:=y;subst e y;exact hs i ys _ hi p⟩)
  λys H p=>⟨aq _,a_ (d n ys H p) j,hd ys H p⟩
def W2{j:TT}{Q:VK}(m:xs.length<=sizeLine)(c:Nat->qA V->Hp->Prop)(h0:c 0 [] H1)
  (h:∀i ys H,i<=xs.length->c i ys H->SqL K H a xs/\ys.length<=i)
  (hs:∀i x ys H,xs[i]?=some x->c i ys H->g x (B4 src σ) H λσ2 H2=>Sub (B4 src σ) σ2/\j σ2 H2 λb f=>if b=true then te σ2 f λv k=>c (i+1) (ys++[v]) k else c (i+1) ys f)
  (hd:∀ys H,c xs.length ys H->∀p,H p=none->Q (.ref p) (upd H p (.lst ys))):G0 src g j te σ Q (Itl K a) H1 :=
 a1w xs.length c h0 (λi ys H hi p=>by
   obtain⟨d,l⟩:=h i ys H (cL hi) p;refine⟨⟨xs,xs[i],d,ak hi⟩,by omega,λx H' y=>?_⟩;obtain⟨e,y⟩:=y;subst e;exact hs i x ys _ (y xs d) p)
  λys H p=>by
   obtain⟨d,l⟩:=h _ ys H (aq _) p;exact⟨⟨xs,d,aq _⟩,by omega,hd ys H p⟩
def K6{j:TT}{Q:VK}(m:xs.length<=sizeLine)(c:Nat->qA V->Hp->Prop)(h0:c 0 [] H1)
  (h:∀i ys H,i<=xs.length->c i ys H->SqT K H a xs/\ys.length<=i)
  (hs:∀i x ys H,xs[i]?=some x->c i ys H->g x (B4 src σ) H λσ2 H2=>Sub (B4 src σ) σ2/\j σ2 H2 λb f=>if b=true then te σ2 f λv k=>c (i+1) (ys++[v]) k else c (i+1) ys f)
  (hd:∀ys H,c xs.length ys H->∀p,H p=none->Q (.ref p) (upd H p (.lst ys))):G0 src g j te σ Q (Itt K a) H1 :=
 a1w xs.length c h0 (λi ys H hi p=>by
   obtain⟨d,l⟩:=h i ys H (cL hi) p;refine⟨⟨xs,xs[i],d,ak hi⟩,by omega,λx H' y=>?_⟩;obtain⟨e,y⟩:=y;subst e;exact hs i x ys _ (y xs d) p)
  λys H p=>by
   obtain⟨d,l⟩:=h _ ys H (aq _) p;exact⟨⟨xs,d,aq _⟩,by omega,hd ys H p⟩
def a0j{m:TT}{Q:VK}{k1 k2:Bool}{zs:qA V}(B:xs.length<=sizeLine)(c:Nat->qA V->Hp->Prop)(h0:c 0 [] H1)
  (l:∀i ys H,i<=xs.length->i<=zs.length->c i ys H->SqK k1 K H a xs/\SqK k2 K H b zs/\ys.length<=i)
  (hs:∀i x z ys H p,xs[i]?=some x->zs[i]?=some z->c i ys H->H p=none->g (.ref p) (B4 src σ) (upd H p (.tup [x,z])) λσ2 H2=>Sub (B4 src σ) σ2/\m σ2 H2 λb k=>if b=true then te σ2 k λv n=>c (i+1) (ys++[v]) n else c (i+1) ys k)
  (hd:∀ys H,c (min xs.length zs.length) ys H->∀p,H p=none->Q (.ref p) (upd H p (.lst ys))):G0 src g m te σ Q (Itz K k1 k2 a b) H1 :=
 a1w (min xs.length zs.length) c h0 (λi ys H hi p=>by
   have h:i<xs.length:=by omega
   have j:i<zs.length:=by omega
   obtain⟨d,f,s⟩:=l i ys H (by omega) (by omega) p;refine⟨⟨xs,zs,xs[i],zs[i],d,f,ak h,ak j⟩,by omega,λx H' y=>?_⟩;obtain⟨r,t,A,e,o,q,u,w⟩:=y;subst e q;exact hs i t A ys _ r (u xs d) (w zs f) p o)
  λys H p=>by
   obtain⟨d,f,s⟩:=l _ ys H (by omega) (by omega) p;exact⟨⟨xs,zs,d,f,by omega⟩,by omega,hd ys H p⟩
structure Ok(P:qG)(w:World)(K:qF)(mg:Str->qD qB)(base:Heap)(x:Str)(k:Nat)(ps:qA Str)(sp:Sp):Prop where
 ex:∃f fd,mg x=some (.ref f)/\PySem.W.keepIn K (.ref f)=true/\Binds K fd ps []/\FnOk P w K mg base CX0 k f fd ps sp
structure FunAt(K:qF)(mg:Str->qD qB)(x:Str)(st:Stmt)(ps:qA Str):Prop where
 ex:∃f fd,mg x=some (.ref f)/\Fun K x x st f fd/\Binds K fd ps []
section
variable {mg:Str->qD qB}{base:Heap}
def Ok.imp{x:Str}{k:Nat}{ps:qA Str}{sp sp':Sp}(O:Ok P w K mg base x k ps sp)(h:∀vs H Q E,sp' vs H Q E->sp vs H Q E):Ok P w K mg base x k ps sp':=by
 obtain⟨f,fd,h1,h2,a,b⟩:=O.ex;exact⟨f,fd,h1,h2,a,b.imp h⟩
def FunAt.ok{x:Str}{st:Stmt}{N ps:qA Str}{k:Nat}{sp:Sp}(F:FunAt K mg x st ps)(S:FnScope N ps (A2 st))(c:∀vs H Q E,sp vs H Q E->vs.length=ps.length)
  (b:∀(a:qB) (f:qE) (A:Around) (outer:qA Env) (s:qC) (H:Hp) (vs:qA V) (Q:VK) (E:XK),Room k (A.deeper (envOfC x (A2 st) s.heap.objs.size f a))->sp vs H Q E ->
   ∃t,PSs (L9 CX0 P w K mg base N x (A2 st) f a A outer s H E).nox (G5 st) t/\t {nx:=λ_ H'=>Q .non H',rt:=Q} (start N vs) H):Ok P w K mg base x (k+1) ps sp:=by
 obtain⟨f,fd,h1,h2,d⟩:=F.ex;exact⟨f,fd,h1,h2.kp,d,h2.ok S c λa=>b a f⟩
end
section
variable {k:Nat}{sp:Sp}{p:Pos}{e:Expr}{t:TA}
def b2H(O:Ok X.prog X.w X.K X.mg X.base x k ps sp)(j:Room k X.A)(i:Gl X x)(g:PA X (e::es) t)(a:(x==("__debug__" : Str))=false:=by decide)
  (h:starEach (e::es) X.env=(false,eval e X.env)::starEach es X.env:=by rfl) (b:(backTo pos (starEach es X.env)).any (·.1)=false:=by rfl):PE X (.Call (.Name x p) (e::es) [] pos) (a8U sp [] E0 t):=by
 obtain⟨f,fd,h1,h2,c,d⟩:=O.ex;exact a9q d j i h1 h2 c .nil a9r g a h b
end
inductive EqV(K:qF)(H:Hp):Nat->V->V->Bool->Prop
 |flat {n:Nat}{x y:V}(fx:a7r x=true) (fy:a7r y=true):EqV K H n x y (eqV x y)
 |tup {n:Nat}{a b:qE}{xs ys:qA V}(e:Nat->Bool) (ha:SqT K H a xs) (hb:SqT K H b ys) (he:∀j x y,xs[j]?=some x->ys[j]?=some y->EqV K H n x y (e j)) :
   EqV K H (n+1) (.ref a) (.ref b) ((List.range (min xs.length ys.length)).all e && xs.length==ys.length)
 |lst {n:Nat}{a b:qE}{xs ys:qA V}(e:Nat->Bool) (ha:SqL K H a xs) (hb:SqL K H b ys) (he:∀j x y,xs[j]?=some x->ys[j]?=some y->EqV K H n x y (e j)) :
   EqV K H (n+1) (.ref a) (.ref b) ((List.range (min xs.length ys.length)).all e && xs.length==ys.length)
def b3C:∀{x:V},a7r x=true->eqV x x=true
 |.non,_=>rfl
 |.bl b,_=>eV b
 |.int i,_=>eV i
 |.str y,_=>eV y
 |.byt _,h=>by cases h
 |.flt _,h=>by cases h
 |.ref _,h=>by cases h
 |.ty _,h=>by cases h
def EqV.same{x y:V}{b:Bool}(I:Inv X qK σ H s)(h:EqV X.K H n x y b):x=y->b=true:=by
 induction h with
 |flat fx fy=>rintro rfl;exact b3C fx
 |tup e c d g f =>
  intro z;cases z;have q:=I.tuple_inj c d;subst q;simp only[Nat.min_self,aM,eV,and_true,aI,aY];intro j a;exact f j _ _ (ak a) (ak a) rfl
 |lst e c d g f =>
  intro z;cases z;have q:=I.list_inj c d;subst q;simp only[Nat.min_self,aM,eV,and_true,aI,aY];intro j a;exact f j _ _ (ak a) (ak a) rfl
def E8{us:qA qB}{j:Nat}{u:qB}(r:Vals xs us)(h:us[j]?=some u):∃x,xs[j]?=some x/\RelV x u:=by
 obtain⟨c,_⟩:=aL.mp h;have a:j<xs.length:=by rw[r.length];exact c
 have b:xs[j]?=some xs[j]:=ak a;obtain⟨d,e,q⟩:=r.get b;rw[h]at e;cases e;exact⟨_,b,q⟩
def EqV.at{n:Nat}{x y:V}{b:Bool}(I:Inv X qK σ H s)(h:EqV X.K H n x y b):∀{A:Around}{u v:qB},A.units+n<cLine->RelV x u->RelV y v->SeqAt.EqAt A s u v b:=by
 induction h with
 |flat fx fy=>intro A u v _ l m;exact b8i l m fx fy
 |@tup n a b xs ys e g i q r =>
  intro A u v B l m;cases l;cases m;by_cases c:a=b
  .have:=(EqV.tup e g i q).same I (by rw[c]);rw[this,c];exact SeqAt.EqAt.same _
  .obtain⟨us,r1,p1,_⟩:=I.tuple g;obtain⟨d,k,p2,_⟩:=I.tuple i;rw[r1.length,k.length];refine SeqAt.EqAt.of_refs c ?_;have:=SeqAt.RcAt.tuples (A:=A) (s:=s) (e:=e) (show s.heap.IsTuple a us.toArray from p1) (show s.heap.IsTuple b d.toArray from p2) (by omega) (λj h1 h2=>?_)
   .simpa using this
   .have h1':us[j]?=some us.toArray[j]:=by simp at h1⊢
    have f:d[j]?=some d.toArray[j]:=by simp at h2⊢
    obtain⟨x,ex,t⟩:=E8 r1 h1';obtain⟨y,p,w⟩:=E8 k f;exact r j x y ex p (by show A.units+1+n<cLine;omega) t w
 |@lst n a b xs ys e g i q r =>
  intro A u v B l m;cases l;cases m;by_cases c:a=b
  .have:=(EqV.lst e g i q).same I (by rw[c]);rw[this,c];exact SeqAt.EqAt.same _
  .obtain⟨us,r1,p1,_⟩:=I.list g;obtain⟨d,k,p2,_⟩:=I.list i;rw[r1.length,k.length];refine SeqAt.EqAt.of_refs c ?_;by_cases o:us.length=d.length
   .have:=SeqAt.RcAt.lists (A:=A) (s:=s) (e:=e) p1.isList p2.isList (by simpa using o) (by omega) (λj h1 h2=>?_)
    .simpa[o]using this
    .have h1':us[j]?=some us.toArray[j]:=by simp at h1⊢
     have f:d[j]?=some d.toArray[j]:=by simp at h2⊢
     obtain⟨x,ex,t⟩:=E8 r1 h1';obtain⟨y,p,w⟩:=E8 k f;exact r j x y ex p (by show A.units+1+n<cLine;omega) t w
   .have:=SeqAt.RcAt.lists_lengths (A:=A) (s:=s) p1.isList p2.isList (by simpa using o) (by omega);have z:(us.length==d.length)=false:=by simpa using o
    rw[z,df];exact this
def a6P(K:qF)(neg:Bool):R2:=λx y H Q=>∃n b,n<=50/\EqV K H n x y b/\(∃a c,x=.ref a/\y=.ref c)/\Q (.bl (if neg then !b else b)) H
def b7D(C:X.A.units+60<cLine):OpR X (compareOp .Eq) (a6P X.K false):=by
 intro qK s σ H x y v u Q I m o h;obtain⟨n,b,B,i,⟨a,c,rfl,rfl⟩,q⟩:=h;cases m;cases o;show wpAny _ _ (richCompare .Eq (.ref a) (.ref c)) _ _ s;have key:SeqAt.RcAt X.A s (.ref a) (.ref c) b:=by
  cases i with
  |flat fx fy=>cases fx
  |@tup n _ _ xs ys e t w i =>
   obtain⟨d,k,p1,_⟩:=I.tuple t;obtain⟨f,l,p2,_⟩:=I.tuple w;rw[k.length,l.length];have:=SeqAt.RcAt.tuples (A:=X.A) (s:=s) (e:=e) (show s.heap.IsTuple a d.toArray from p1) (show s.heap.IsTuple c f.toArray from p2) (by omega) (λj h1 h2=>?_)
   .simpa using this
   .have h1':d[j]?=some d.toArray[j]:=by simp at h1⊢
    have g:f[j]?=some f.toArray[j]:=by simp at h2⊢
    obtain⟨x,ex,m⟩:=E8 k h1';obtain⟨y,r,o⟩:=E8 l g;exact(i j x y ex r).at I (by show X.A.units+1+n<cLine;omega) m o
  |@lst n _ _ xs ys e t w i =>
   obtain⟨d,k,p1,_⟩:=I.list t;obtain⟨f,l,p2,_⟩:=I.list w;rw[k.length,l.length];by_cases p:d.length=f.length
   .have:=SeqAt.RcAt.lists (A:=X.A) (s:=s) (e:=e) p1.isList p2.isList (by simpa using p) (by omega) (λj h1 h2=>?_)
    .simpa[p]using this
    .have h1':d[j]?=some d.toArray[j]:=by simp at h1⊢
     have g:f[j]?=some f.toArray[j]:=by simp at h2⊢
     obtain⟨x,ex,m⟩:=E8 k h1';obtain⟨y,r,o⟩:=E8 l g;exact(i j x y ex r).at I (by show X.A.units+1+n<cLine;omega) m o
   .have:=SeqAt.RcAt.lists_lengths (A:=X.A) (s:=s) p1.isList p2.isList (by simpa using p) (by omega);have z:(d.length==f.length)=false:=by simpa using p
    rw[z,df];exact this
 exact key _ _ _ _ ⟨.bl _,H,I,rfl,q⟩
def b7z(C:X.A.units+60<cLine):OpR X (compareOp .NotEq) (a6P X.K true):=by
 intro qK s σ H x y v u Q I m o h;obtain⟨n,b,B,i,⟨a,c,rfl,rfl⟩,q⟩:=h;cases m;cases o;show wpAny _ _ (richCompare .NotEq (.ref a) (.ref c)) _ _ s;have key:SeqAt.RcNeAt X.A s (.ref a) (.ref c) (!b):=by
  cases i with
  |flat fx fy=>cases fx
  |@tup n _ _ xs ys e t w i =>
   obtain⟨d,k,p1,_⟩:=I.tuple t;obtain⟨f,l,p2,_⟩:=I.tuple w;rw[k.length,l.length];have:=SeqAt.RcNeAt.tuples (A:=X.A) (s:=s) (e:=e) (show s.heap.IsTuple a d.toArray from p1) (show s.heap.IsTuple c f.toArray from p2) (by omega) (λj h1 h2=>?_)
   .simpa using this
   .have h1':d[j]?=some d.toArray[j]:=by simp at h1⊢
    have g:f[j]?=some f.toArray[j]:=by simp at h2⊢
    obtain⟨x,ex,m⟩:=E8 k h1';obtain⟨y,r,o⟩:=E8 l g;exact(i j x y ex r).at I (by show X.A.units+1+n<cLine;omega) m o
  |@lst n _ _ xs ys e t w i =>
   obtain⟨d,k,p1,_⟩:=I.list t;obtain⟨f,l,p2,_⟩:=I.list w;rw[k.length,l.length];by_cases p:d.length=f.length
   .have:=SeqAt.RcNeAt.lists (A:=X.A) (s:=s) (e:=e) p1.isList p2.isList (by simpa using p) (by omega) (λj h1 h2=>?_)
    .simpa[p]using this
    .have h1':d[j]?=some d.toArray[j]:=by simp at h1⊢
     have g:f[j]?=some f.toArray[j]:=by simp at h2⊢
     obtain⟨x,ex,m⟩:=E8 k h1';obtain⟨y,r,o⟩:=E8 l g;exact(i j x y ex r).at I (by show X.A.units+1+n<cLine;omega) m o
   .have:=SeqAt.RcNeAt.lists_lengths (A:=X.A) (s:=s) p1.isList p2.isList (by simpa using p) (by omega);have z:(d.length==f.length)=false:=by simpa using p
    rw[z,df];exact this
 exact key _ _ _ _ ⟨.bl _,H,I,rfl,q⟩
def b5X{ns ms:qI}:((List.range (min ns.length ms.length)).all (λj=>decide (ns.getD j 0=ms.getD j 0)) && ns.length==ms.length)=decide (ns=ms):=by
 rw[cD];simp only[aM,aI,aY,br,bj];constructor
 .rintro⟨h1,h2⟩;refine eW h2 λi a b=>?_;have:=h1 i (by omega);simpa[av,a,b]using this
 .rintro rfl;exact⟨λ_ _=>rfl,rfl⟩
def b3p{ns:qI}{j:Nat}{x:V}(h:(ns.map V.int)[j]?=some x):x=.int (ns.getD j 0)/\j<ns.length:=by
 rw[aZ]at h;cases e:ns[j]? with
 |none=>rw[e]at h;cases h
 |some z =>
  rw[e]at h;obtain⟨a,_⟩:=aL.mp e;exact⟨by rw[av,e];exact(bH h).symm,a⟩
def EqV.ints{ns ms:qI}(c:SqK k K H a (ns.map V.int))(d:SqK k K H b (ms.map V.int)):EqV K H 1 (.ref a) (.ref b) (decide (ns=ms)):=by
 have step:∀j x y,(ns.map V.int)[j]?=some x->(ms.map V.int)[j]?=some y->EqV K H 0 x y (decide (ns.getD j 0=ms.getD j 0)):=λj x y e f=>by
  obtain⟨rfl,_⟩:=b3p e;obtain⟨rfl,_⟩:=b3p f;have:=EqV.flat (K:=K) (H:=H) (n:=0) (x:=.int (ns.getD j 0)) (y:=.int (ms.getD j 0)) rfl rfl;rw[show eqV (.int (ns.getD j 0)) (.int (ms.getD j 0))=decide (ns.getD j 0=ms.getD j 0)from rfl]at this;exact this
 rw[<-b5X];cases k
 .have:=EqV.lst (λj=>decide (ns.getD j 0=ms.getD j 0)) c d step;simpa using this
 .have:=EqV.tup (λj=>decide (ns.getD j 0=ms.getD j 0)) c d step;simpa using this
def a1I:R2:=λx y H Q=>∃a b xs ys,x=.ref a/\y=.ref b/\H a=some (.tup xs)/\H b=some (.tup ys)/\xs.length+ys.length<=sizeLine/\∀p H',Same H H'->H' p=some (.tup (xs++ys))->Q (.ref p) H'
def b2J:OpR X (binaryOp .Add) a1I:=by
 intro qK s σ H x y v u Q I B C h;obtain⟨a,b,xs,ys,rfl,rfl,k,l,E,q⟩:=h;by_cases z:xs=[]
 .subst z;cases B;cases C;obtain⟨its,G,p1,_⟩:=I.tuple (.inl (.inl k));obtain⟨A,J,p2,_⟩:=I.tuple (.inl (.inl l));cases G;obtain⟨⟨cls,dd,data,sl⟩,w,t,n,hd⟩:=id p1;obtain⟨⟨r,j,i,m⟩,g,d,F,f⟩:=id p2;simp only at t hd d f;subst t hd d f;exact concat_meets ⟨_,w,rfl⟩ ⟨_,g,rfl⟩ noFill_tuple_add seq_tuple_add PySem.F.slot_tuple_add PySem.F.entry_tuple_add (PySem.F.args_tuple_add_2 _ _)
   (tuple_addW0 a b _ _ n F dd j sl m (by simp)) ⟨w,g,⟨.ref b,H,I,rfl,q b H (Same.refl H) l⟩⟩
 .refine b5f qK s σ H _ _ v u Q I B C ⟨a,b,xs,ys,rfl,rfl,.inl (.inl k),.inl (.inl l),z,E,λe=>?_,λ_ p D=>?_⟩
  .subst e;exact q a H (Same.refl H) (by rw[cY];exact k)
  .exact q p _ (λc o e=>by rw[A3 (A8 e D)];exact e) A0
open PySem.AutoSeq1 (wpAny_loadPart')
def a1K:fillsNumberSlot (.type "tuple") "mul"=pure false :=
 PySem.fillsNumberSlot_seq (id:="tuple.__mul__") (r:=some (.builtin "tuple.__rmul__")) fK.lookup (by decide +kernel) F.slot_tuple_rmul.lookup (by decide +kernel)
def a5E:seqRepeat? (.type "tuple")=pure (some (.builtin "tuple.__mul__")):=by
 unfold seqRepeat?;rw[PySem.seqSlot_of (T:="tuple") (name:="__mul__") (id:="tuple.__mul__") fK.lookup (by decide +kernel),PySem.seqSlot_of (T:="tuple") (name:="__rmul__") (id:="tuple.__rmul__") F.slot_tuple_rmul.lookup (by decide +kernel)];rfl
def a7Y(a:Int)(t:Tok)(l:qE)(items:Array qB)(n:Nat)(dd:qD qE)(sl:Array (qD qB)) :
  Meets (Builtin.«int.__rmul__» ⟨[.int a t,.ref l],[]⟩) (λ_ R s=>s.heap.get? l=some {cls:=.type "tuple",dict:=dd,data:=.seq items n,slots:=sl}/\R (.ok (.ret Value.notImplemented)) s) :=
 .of_wp λprog w A R s h=>by obtain⟨c,g,d,tk,os⟩:=s;obtain⟨b,h⟩:=h;wp_walk;exact⟨_,rfl,h⟩
def a7M(l:qE)(items:Array qB)(n:Nat)(dd:qD qE)(sl:Array (qD qB))(u:Tok) :
  Meets (Builtin.«tuple.__mul__» ⟨[.ref l,.int 1 u],[]⟩) (λ_ R s=>s.heap.get? l=some {cls:=.type "tuple",dict:=dd,data:=.seq items n,slots:=sl}/\R (.ok (.ret (.ref l))) s) :=
 .of_wp λprog w A R s h=>by
  obtain⟨b,g,d,tk,os⟩:=s;obtain⟨a,h⟩:=h;have f1:=AutoSeq1.idx_int
  wp_walk using wpAny_loadPart' a
  exact⟨_,rfl,h⟩
def a7L(l:qE)(items:Array qB)(n:Nat)(dd:qD qE)(sl:Array (qD qB))(x:Int)(u:Tok)(e:items.isEmpty=false)(h1:1<x)(h2:¬(decide (x < -(2 ^ 63)) || decide (x ≥ 2 ^ 63))=true)
  (j:¬((items.size:Int)*x > (2 ^ 63-1) / 8)) (k:¬Builtin.Tuple.tupleTooMany ((items.size:Int)*x)=true) (hsz:(List.foldl (λb c=>b++c) #[] (List.replicate x.toNat items)).size<=sizeLine) :
  Meets (Builtin.«tuple.__mul__» ⟨[.ref l,.int x u],[]⟩) (λ_ R s=>s.heap.get? l=some {cls:=.type "tuple",dict:=dd,data:=.seq items n,slots:=sl} /\
   R (.ok (.ret (.ref s.heap.objs.size))) {s with heap:=s.heap.push {cls:=.type "tuple",data:=.seq (List.foldl (λb c=>b++c) #[] (List.replicate x.toNat items))}}) :=
 .of_wp λprog w A R s h=>by
  obtain⟨p,g,d,tk,os⟩:=s;obtain⟨a,h⟩:=h;have f1:=AutoSeq1.idx_int;have f:(x==1)=false:=by simp;omega
  have i:decide (x<=0)=false:=by simp;omega
  have m:¬((items.isEmpty || x==1)=true):=by rw[e,f];decide
  have o:¬((decide (x<=0) || items.isEmpty)=true):=by rw[e,i];decide
  wp_walk using wpAny_loadPart' a
  rw[ar h2]
  wp_walk using wpAny_loadPart' a
  rw[ar j]
  wp_walk using wpAny_loadPart' a
  first
   |exact⟨_,rfl,h⟩
   |(rw[ar k];wp_walk using wpAny_loadPart' a;exact⟨_,rfl,h⟩)
def a3Q{α:Type}(its:qA α):∀(k:Nat) (a:qA α),List.foldl (λb c=>b++c) a.toArray (List.replicate k its.toArray)=(a++(List.replicate k its).flatten).toArray
 |0,a=>by simp
 |k+1,a=>by
  have e:a.toArray++its.toArray=(a++its).toArray:=by simp
  rw[cy,dH,e,a3Q its k,cy,cW,aK]
def a9l:R2:=λx y H Q=>∃a xs n,x=.ref a/\y=.int n/\H a=some (.tup xs)/\xs≠[]/\1<=n/\(xs.length:Int)*n<=(sizeLine:Int)/\∀p H',Same H H'->H' p=some (.tup (List.replicate n.toNat xs).flatten)->Q (.ref p) H'
def b5c:OpR X (binaryOp .Mult) a9l:=by
 intro qK s σ H x y v u Q I J K h;obtain⟨a,xs,n,rfl,rfl,l,i,M,N,q⟩:=h;cases J;obtain⟨t,rfl⟩:=K;obtain⟨its,r,p1,G⟩:=I.tuple (.inl (.inl l));obtain⟨⟨cls,dd,data,sl⟩,g,w,m,hd⟩:=id p1;simp only at w hd;subst w hd;have d:=r.length;have f:0<its.length:=by rw[<-d];exact dt.mpr i
 refine wpAny_binaryOp_repeat_ref (T:="tuple") (U:="int") (by decide) ⟨_,g,rfl⟩ (λs'=>typeIs_int s' n t) a1K F.fills_int_mul F.slot_int_rmul a5E F.slot_int_index.lookup
  (eU F.slot_int_rmul (typeIs_int s n t) F.entry_int_rmul (F.args_int_rmul_2 _ _) (a7Y n t a its.toArray m dd sl) ⟨g,rfl,⟨_,g,rfl⟩,?_⟩)
 by_cases h1:n=1
 .subst h1;refine eU fK ⟨_,g,rfl⟩ F.entry_tuple_mul (F.args_tuple_mul_2 _ _) (a7M a its.toArray m dd sl t) ⟨g,.ref a,H,I,rfl,q a H (Same.refl H) ?_⟩;rw[l];simp
 .have e0:=a3Q its n.toNat [];rw[cO]at e0;have C:((List.replicate n.toNat its).flatten).length=n.toNat*its.length:=a9v its n.toNat;have p:n.toNat*its.length<=sizeLine:=by
   have L:((n.toNat*its.length:Nat):Int)=(xs.length:Int)*n:=by
    rw[d];push_cast;rw[Int.toNat_of_nonneg (by omega),Int.mul_comm]
   omega
  have hs:sizeLine=16777216:=aT;have E:(its.toArray.size:Int)*n<=16777216:=by rw[aD,<-d];omega
  have D:n<=(its.toArray.size:Int)*n:=by
   have A:(1:Int)<=(its.toArray.size:Int):=by rw[aD];omega
   have:=Int.mul_le_mul_of_nonneg_right A (show(0:Int)<=n by omega);omega
  refine eU fK ⟨_,g,rfl⟩ F.entry_tuple_mul (F.args_tuple_mul_2 _ _) (a7L a its.toArray m dd sl n t (by simp;intro z;rw[z]at f;exact bX _ f) (by omega) ?_ ?_ ?_ ?_) ⟨g,?_⟩
  .simp only[Bool.or_eq_true,br,not_or];omega
  .omega
  .simp only[Builtin.Tuple.tupleTooMany,br];omega
  .have e0':List.foldl (λj k=>j++k) #[] (List.replicate n.toNat its.toArray)=(List.replicate n.toNat its).flatten.toArray:=e0;rw[e0',aD,C];exact p
  .have e0':List.foldl (λj k=>j++k) #[] (List.replicate n.toNat its.toArray)=(List.replicate n.toNat its).flatten.toArray:=e0;rw[e0'];have B:H s.heap.objs.size=none:=I.hok.fresh (aq _);refine⟨.ref s.heap.objs.size,_,I.laid (t':=s.toks) (o:=.tup (List.replicate n.toNat xs).flatten) (λb O q=>aj _ q) (aq _) ?_,rfl,q _ _ (λc o e=>by rw[A3 (A8 e B)];exact e) A0⟩;exact⟨by rw[a9v,d];exact p,_,r.rep n.toNat,IsTup.new _ _⟩
end L2
namespace L2
open PySem PySem.Spec PyProof.Rows
variable {B:qA Stmt}{H H':Hp}{K:qF}{N:qA Str}{Q:VK}{a b p:qE}{caps σ:St}{es:qA Expr}{g:TG}{i k n:Nat}{l:qA qE}{o:HO}{rss:LLI}{sp:Sp}{src:qA (qJ)}{st:Stmt}{te tl:TE}{tg:Expr}{v:V}{vs:qA V}{x:Str}{xs:qI}
section
variable {X:Cx}{pos:Pos}
def b4V(K:qF){t:TGs}(c:X.calm=true)(h:PGs X es t)(b:X.K=K:=by rfl)
  (d:(assignEach es X.env).length=n:=by rfl) (a:(assignEach es X.env).findIdx? (·.1)=none:=by rfl):PG X (.Tuple es k pos) (a7p K n t):=by
 subst b;exact b7h c h d a
def b2B(K:qF){l:Expr}(b:PE X l tl)(a:X.K=K:=by rfl):PI X tg l (b3r K tl):=by subst a;exact b4S b
def b4R(K:qF){l:Expr}(b:PE X l tl)(a:X.K=K:=by rfl):PI X tg l (b8e K tl):=by subst a;exact b7g b
def b4Q(K:qF){h:Nat}{i:Pos}{a b:Expr}{ta:TA}{p pos:Pos}(f:Gl X "zip")(g:X.mg "zip"=none)(e:PA X [a,b] ta)(d:X.K=K:=by rfl)
  (hs:starEach [a,b] X.env=[(false,eval a X.env),(false,eval b X.env)]:=by rfl) (c:starEach [b] X.env=[(false,eval b X.env)]:=by rfl) :
  PI X (.Tuple es h i) (.Call (.Name "zip" p) [a,b] [] pos) (b8d K ta):=by subst d;exact b7f f g e b8o hs c
def b8H(K:qF)(ta:TE):TT:=λσ H Q=>ta σ H λx H'=>∃k,b8z K x H' k/\Q k H'
def b0o(K:qF){a:Expr}{ta:TE}(d:PE X a ta)(e:∀b,isTrue a X.env b=(do let v <-b;standAt a.pos;holding [v] (truthy v)))(c:X.K=K:=by rfl):PT X a (b8H K ta):=by
 subst c;exact b2s d e
def b3o(K:qF)(a:X.K=K:=by rfl):IxR X (b4E K):=by subst a;exact b5C
def b5B(K:qF)(a:X.K=K:=by rfl):IxR X (b6U K):=by subst a;exact b8a
def b1W(K:qF)(a:X.K=K:=by rfl):SlR X (b6T K):=by subst a;exact b4o
def b4n(K:qF)(a:X.K=K:=by rfl):SlR X (a6O K):=by subst a;exact b1V
def b7C(K:qF)(b:X.A.units+60<cLine)(a:X.K=K:=by rfl):OpR X (compareOp .Eq) (a6P K false):=by subst a;exact b7D b
def b7y(K:qF)(b:X.A.units+60<cLine)(a:X.K=K:=by rfl):OpR X (compareOp .NotEq) (a6P K true):=by subst a;exact b7z b
def b1o(K:qF)(b:X.calm=true)(a:X.K=K:=by rfl):D9 X (.builtin "all") (b6X K):=by subst a;exact b3N b
def b1n(K:qF)(b:X.calm=true)(a:X.K=K:=by rfl):D9 X (.builtin "any") (b6W K):=by subst a;exact b3M b
def b1c(K:qF)(b:X.calm=true)(a:X.K=K:=by rfl):D9 X (.builtin "sum") (b6S K):=by subst a;exact b3K b
def b1k(K:qF)(a:X.K=K:=by rfl):D9 X (.builtin "isinstance") (b6V K):=by subst a;exact b3L
def b8U(K:qF):RL:=λxs H Q=>∃p ys,xs=[.ref p]/\(SqL K H p ys∨SqT K H p ys)/\Q (.int ys.length) H
def b6r(K:qF):RL:=λxs H Q=>∃p ys,xs=[.ref p]/\(SqL K H p ys∨SqT K H p ys)/\∀l,H l=none->Q (.ref l) (upd H l (.lst ys))
def a5F(K:qF):RL:=λxs H Q=>∃p ys,xs=[.ref p]/\((SqL K H p ys/\∀l,H l=none->Q (.ref l) (upd H l (.tup ys)))∨(SqT K H p ys/\Q (.ref p) H))
def b1j(K:qF)(a:X.K=K:=by rfl):D9 X (.builtin "len") (b8U K):=by subst a;exact a6c
def a8C(K:qF)(a:X.K=K:=by rfl):D9 X (.type "list") (b6r K):=by subst a;exact a6b
def a7B(K:qF)(a:X.K=K:=by rfl):D9 X (.type "tuple") (a5F K):=by subst a;exact a4q
def b8S:RL:=λxs H Q=>∃i j,xs=[.int i,.int j]/\Q (.int (if j<i then j else i)) H
def b8T:RL:=λxs H Q=>∃i j,xs=[.int i,.int j]/\Q (.int (if j > i then j else i)) H
def b8V:RL:=λxs H Q=>(∃i,xs=[.int i]/\Q (.int i) H)∨∃k,xs=[.bl k]/\Q (.int (if k then 1 else 0)) H
def b1e(a:X.calm=true):D9 X (.builtin "min") b8S:=b1f a
def b1g(a:X.calm=true):D9 X (.builtin "max") b8T:=b1h a
def b1l:D9 X (.type "int") b8V:=b1m
variable {o e:Expr}{to:TE}{t:TA}{name:Str}{qP qM:Pos}{T id:String}{r:V->qA V->Hp->VK->Prop}
def a8e(K:qF)(l:PlainAttrs T)(f:Slot T name id)(g:typeOf (.builtin id)=pure (.type "method_descriptor"))(j:MtR X id r)(k:PE X o to)(i:PA X (e::es) t)(h:X.K=K:=by rfl)
  (b:attributeBase o name X.env (eval o X.env)=eval o X.env:=by rfl)
  (d:((backTo qM (starEach (e::es) X.env)).all (λx=>!x.1) && (backToKw qM (keywordEach [] X.env)).all (λx=>x.1.isSome)
   && decide ((e::es).length+([]:qA Keyword).length+(if ([]:qA Keyword).isEmpty then 0 else 1)<30))=true:=by rfl)
  (c:(qP.endLine==qM.line)=true:=by rfl) (hs:starEach (e::es) X.env=(false,eval e X.env)::starEach es X.env:=by rfl) (a:(backTo qM (starEach es X.env)).any (·.1)=false:=by rfl) :
  PE X (.Call (.Attribute o name qP) (e::es) [] qM) (tBM K T r to t):=by subst h;exact b9c l f g j k i b d c hs a
end
def IT(H:Hp)(v:V)(ns:qI):Prop:=∃a,v=.ref a/\H a=some (.tup (ns.map V.int))
def IT.same{ns:qI}(h:IT H v ns)(s:Same H H')   : IT H' v ns:=let ⟨a,e,q⟩:=h;⟨a,e,s a _ q⟩
def Same.upd(s:Same H H')(hp:H' p=none):Same H (upd H' p o):=λb u e=>by
 rw[A3 (A8 (s b u e) hp)];exact s b u e
def E9{u:HO}(a:H b=some u)(hp:H p=none):upd H p o b=some u:=by rw[A3 (A8 a hp)];exact a
def Off(l:qA qE)(H H':Hp):Prop:=∀b o,b∉l->H b=some o->H' b=some o
def Off.refl(l:qA qE)(H:Hp):Off l H H:=λ_ _ _ e=>e
def Off.trans{H1 H2:Hp}(a:Off l H H1)(b:Off l H1 H2):Off l H H2:=λc o d e=>b c o d (a c o d e)
def Same.off(s:Same H H'):Off l H H':=λb o _ e=>s b o e
def Off.upd(s:Off l H H')(hp:H' p=none):Off l H (upd H' p o):=λb u a e=>by
 rw[A3 (A8 (s b u a e) hp)];exact s b u a e
def Off.set(s:Off l H H')(hp:p∈l):Off l H (L2.upd H' p o):=λb u a e=>by
 rw[A3 (by rintro rfl;exact a hp)];exact s b u a e
def N0(ns:qI):(ns.map V.int).length=ns.length:=ai _
def U7{ns:qI}{x:V}(h:(ns.map V.int)[i]?=some x):∃z,ns[i]?=some z/\x=.int z:=by
 rw[aZ]at h;cases e:ns[i]? with
 |none=>rw[e]at h;cases h
 |some z=>rw[e]at h;exact⟨z,rfl,(bH h).symm⟩
def O3{α β γ:Type}(f:α->β->γ){xs:qA α}{ys:qA β}{x:α}{y:β}(a:xs[i]?=some x)(b:ys[i]?=some y):(List.zipWith f xs ys).take (i+1)=(List.zipWith f xs ys).take i++[f x y]:=by
 have:(List.zipWith f xs ys)[i]?=some (f x y):=by rw[List.getElem?_zipWith,a,b]
 rw[bg,this];rfl
def b1v{k1 k2:Bool}{ys:qI}(f:Int->Int->V)(t:SqK k1 K H a (xs.map V.int))(u:SqK k2 K H b (ys.map V.int))(w:xs.length<=1000)
  (c:∀H',Same H H'->SqK k1 K H' a (xs.map V.int)/\SqK k2 K H' b (ys.map V.int))
  (g:B4 src σ=none::none::caps) (l:∀x y H1 o,Same H H1->o (f x y) H1->te (some (.int x)::some (.int y)::caps) H1 o)
  (hd:∀H1 p,Same H H1->H1 p=none->Q (.ref p) (upd H1 p (.lst (List.zipWith f xs ys)))) :
  G0 src (a7p K 2 (Y6 (B0 0) (Y6 (B0 1) a8v))) O0 te σ Q (Itz K k1 k2 a b) H:=by
 have A:(1000:Nat)<=sizeLine:=by rw[aT];decide
 refine a0j (xs:=xs.map V.int) (zs:=ys.map V.int) (by rw[N0];omega) (λi zs H'=>Same H H'/\zs=(List.zipWith f xs ys).take i) ⟨Same.refl H,by simp⟩ (λi zs H' _ _ h=>⟨(c H' h.1).1,(c H' h.1).2,by rw[h.2];exact bF _ _⟩) ?_ ?_
 .rintro i x z zs H' p hx hy ⟨s,rfl⟩ hp;obtain⟨k,m,q⟩:=U7 hx;obtain⟨d,n,r⟩:=U7 hy;subst q r;clear hx hy;have s':Same H (upd H' p (.tup [.int k,.int d])):=s.upd hp;refine⟨p,[.int k,.int d],rfl,SqT.of A0,rfl,.int k,[.int d],rfl,.int d,[],rfl,rfl,?_⟩;rw[g];show Sub _ (some (.int k)::some (.int d)::caps)/\_;refine⟨⟨rfl,λj v e=>?_⟩,?_⟩
  .match j,e with
   |0,e=>cases e
   |1,e=>cases e
   |j+2,e=>exact e
  .exact l k d _ _ s' ⟨s',(O3 f m n).symm⟩
 .rintro zs H' ⟨s,rfl⟩ p hp;have e:(List.zipWith f xs ys).take (min (xs.map V.int).length (ys.map V.int).length)=List.zipWith f xs ys:=by
   rw[N0,N0,cj];rw[cZ];exact aq _
  rw[e];exact hd H' p s hp
def Sub.one:Sub (none::caps) (some v::caps):=⟨rfl,λj u e=>by
 match j,e with
 |0,e=>cases e
 |j+1,e=>exact e⟩
def a1j{e:TT}(h:n<=1000)(c:B4 src σ=none::caps)(a:Nat->qA V->Hp->Prop)(h0:a 0 [] H)(g:∀i ys H,a i ys H->ys.length<=i)
  (hs:∀i ys H,i<n->a i ys H->e (some (.int i)::caps) H λb d=>if b=true then te (some (.int i)::caps) d λv f=>a (i+1) (ys++[v]) f else a (i+1) ys d)
  (hd:∀ys H,a n ys H->∀p,H p=none->Q (.ref p) (upd H p (.lst ys))):G0 src (B0 0) e te σ Q (Itr 0 n) H:=by
 have j:(1000:Nat)<=sizeLine:=by rw[aT];decide
 refine a8x (by omega) a h0 g (λi ys H hi p=>?_) hd;show Sub _ ((B4 src σ).set 0 (some (.int (0+(i:Int)))))/\_;rw[c,Int.zero_add];exact⟨Sub.one,hs i ys H hi p⟩
def a6r(f:Int->V)(j:xs.length<=1000)(b:∀H',Same H H'->SqT K H' a (xs.map V.int))(c:B4 src σ=none::caps)
  (e:∀x H1 g,x∈xs->Same H H1->g (f x) H1->te (some (.int x)::caps) H1 g) (hd:∀H1 p,Same H H1->H1 p=none->Q (.ref p) (upd H1 p (.lst (xs.map f)))):G0 src (B0 0) O0 te σ Q (Itt K a) H:=by
 have k:(1000:Nat)<=sizeLine:=by rw[aT];decide
 refine K6 (xs:=xs.map V.int) (by rw[N0];omega) (λi ys H'=>Same H H'/\ys=(xs.take i).map f) ⟨Same.refl H,by simp⟩ (λi ys H' _ h=>⟨b H' h.1,by rw[h.2,ai];exact bF _ _⟩) ?_ ?_
 .rintro i x ys H' hx ⟨s,rfl⟩;obtain⟨z,d,rfl⟩:=U7 hx;show Sub _ ((B4 src σ).set 0 (some (.int z)))/\_;rw[c];refine⟨Sub.one,e z H' _ (aE d) s ⟨s,?_⟩⟩;rw[bg,d];simp
 .rintro ys H' ⟨s,rfl⟩ p hp;rw[N0,bh];exact hd H' p s hp
def a0V(f:Nat->V)(c:n<=1000)(a:B4 src σ=none::caps)(b:∀(i:Nat) H1 Q1,i<n->Same H H1->Q1 (f i) H1->te (some (.int i)::caps) H1 Q1)
  (hd:∀H1 p,Same H H1->H1 p=none->Q (.ref p) (upd H1 p (.lst ((List.range n).map f)))):G0 src (B0 0) O0 te σ Q (Itr 0 n) H:=by
 refine a1j c a (λi ys H'=>Same H H'/\ys=(List.range i).map f) ⟨Same.refl H,rfl⟩ (λi ys H' h=>by rw[h.2];simp) ?_ ?_
 .rintro i ys H' hi ⟨s,rfl⟩;refine b i H' _ hi s ⟨s,?_⟩;rw[List.range_succ,bC];rfl
 .rintro ys H' ⟨s,rfl⟩ p hp;exact hd H' p s hp
def Room.u60{A:Around}(r:Room k A):A.units+60<cLine:=by have:=r.un;omega
def R8{t u:TS}{D:Ends}(a:St->Hp->Prop)(fin:∀σ H,a σ H->u D σ H)(h:(∀σ H,a σ H->u D σ H)->t {D with nx:=u D} σ H):b4g t u D σ H:=h fin
def b8F{a:Bool}{cs:qI}(c:∀d:VK,d (.ref b) H->te σ H d)(f:H b=some (.lst (cs.map V.int)))
  (q:∀p,H p=none->Q (.bl (if a then !decide (cs=[])else decide (cs=[]))) (upd H p (.lst []))):tOp (a6P K a) te (b1J R5) σ H Q :=
 c _ ⟨bu _,λp e=>⟨1,_,by decide,EqV.ints (k:=false) (ms:=[]) (SqL.of (E9 f e)) (SqL.of A0),⟨_,_,rfl,rfl⟩,q p e⟩⟩
def b8G{a:Bool}{Q:Bool->Hp->Prop}{cs:qI}(c:∀d:VK,d (.ref b) H->te σ H d)(e:H b=some (.lst (cs.map V.int)))
  (q:∀p,H p=none->Q (if a then !decide (cs=[])else decide (cs=[])) (upd H p (.lst []))):a0J (tOp (a6P K a) te (b1J R5)) σ H Q :=
 b8F c e λp f=>⟨_,rfl,q p f⟩
def ixL{ta tb:TE}{xs:qA V}{i:Int}(b:∀a:VK,a (.ref p) H->ta σ H a)(c:∀a:VK,a (.int i) H->tb σ H a)(hp:H p=some (.lst xs))(e:atI xs i=some v)(q:Q v H):tOp (b4E K) ta tb σ H Q :=
 b _ (c _ ⟨p,xs,i,v,rfl,rfl,SqL.of hp,e,q⟩)
def b8l(xs:qI)(k:Nat)(a:k<=xs.length):M0 (xs.map V.int) none (some (k:Int))=(xs.take k).map V.int:=by
 unfold M0;rw[HT.sIx_none,HT.sIx_nat,ai,dh a,cU,Nat.sub_zero,List.map_take]
def b8m(xs:qI)(k:Nat)(a:k<=xs.length):M0 (xs.map V.int) (some (k:Int)) none=(xs.drop k).map V.int:=by
 unfold M0;rw[HT.sIx_none,HT.sIx_nat,ai,dh a,cj (by simp),List.map_drop]
def b0d(xs:qI)(k:Nat)(z:Int)(a:k<xs.length):xs.take k++[z]++xs.drop (k+1)=xs.set k z:=by
 rw[List.set_eq_take_append_cons_drop,az a,aK];rfl
def b2r{j:Nat}{tx:TE}{z:Int}(hi:σ[i]?=some (some (.ref a)))(l:σ[j]?=some (some (.int k)))(h:H a=some (.tup (xs.map V.int)))(s:k<xs.length)(B:xs.length<=1000)
  (e:∀H' (N:VK),Same H H'->N (.int z) H'->tx σ H' N) (q:∀v H',Same H H'->IT H' v (xs.set k z)->Q v H') :
  tOp a1I (tOp a1I (tSl (a6O K) (L4 i) M1 (a2h (L4 j))) (a5j (K8 tx R5))) (tSl (a6O K) (L4 i) (a2h (tOp (rI0 λi j=>.int (i+j)) (L4 j) (tC (.int 1)))) M1) σ H Q:=by
 have C:(3000:Nat)<=sizeLine:=by rw[aT];decide
 refine⟨_,hi,_,l,k,rfl,a,_,rfl,SqT.of h,?_,λp t=>?_⟩
 .rw[HT.sIx_none,HT.sIx_nat,ai];omega
 .rw[b8l xs k (by omega)];have s1:Same H (upd H p (.tup ((xs.take k).map V.int))):=(Same.refl H).upd t;have f:upd H p (.tup ((xs.take k).map V.int)) p=some (.tup ((xs.take k).map V.int)):=A0;generalize upd H p (.tup ((xs.take k).map V.int))=H1 at s1 f;refine e H1 _ s1 ⟨by show 1<=sizeLine;omega,λp2 c=>?_⟩;have s2:Same H1 (upd H1 p2 (.tup [.int z])):=(Same.refl H1).upd c;have g:upd H1 p2 (.tup [.int z]) p2=some (.tup [.int z]):=A0;generalize upd H1 p2 (.tup [.int z])=H2 at s2 g;refine⟨p,p2,_,_,rfl,rfl,s2 _ _ f,g,?_,λu b x o=>?_⟩
  .rw[ai,aS];show min k xs.length+1<=_;omega
  .have s13:Same H b:=(s1.trans s2).trans x;refine⟨_,hi,_,l,_,_,rfl,rfl,_,rfl,a,_,rfl,SqT.of (s13 _ _ h),?_,λm d=>?_⟩
   .rw[show((k:Int)+1)=((k+1:Nat):Int) by push_cast;rfl,HT.sIx_nat,ai];omega
   .rw[show((k:Int)+1)=((k+1:Nat):Int) by push_cast;rfl,b8m xs (k+1) (by omega)];have n:Same b (upd b m (.tup ((xs.drop (k+1)).map V.int))):=(Same.refl b).upd d;refine⟨u,m,_,_,rfl,rfl,n _ _ o,A0,?_,λw A y r=>?_⟩
    .rw[ag,ai,aS,ai,bx];show min k xs.length+1+_<=_;omega
    .refine q _ _ ((s13.trans n).trans y) ⟨w,rfl,?_⟩;rw[r,<-b0d xs k z s];simp
def var(e:σ[i]?=some (some v)):∀Q:VK,Q v H->L4 i σ H Q:=λQ q=>⟨v,e,q⟩
def con:∀Q:VK,Q v H->tC v σ H Q:=λQ q=>q
structure JE(X:Cx)(e:Expr)(t:TE):Prop where
 h:PE X e t
structure JT(X:Cx)(e:Expr)(t:TT):Prop where
 h:PT X e t
structure JW(X:Cx)(e:Expr)(t:TT):Prop where
 h:PW X e t
structure JA(X:Cx)(es:qA Expr)(t:TA):Prop where
 h:PA X es t
structure JS(X:Cx)(st:Stmt)(t:TS):Prop where
 h:PS X st t
structure JB(X:Cx)(st:qA Stmt)(t:TS):Prop where
 h:PSs X st t
structure JG(X:Cx)(tg:Expr)(t:TG):Prop where
 h:PG X tg t
structure JGs(X:Cx)(ts:qA Expr)(t:TGs):Prop where
 h:PGs X ts t
structure JI(X:Cx)(tg iter:Expr)(t:TI):Prop where
 h:PI X tg iter t
structure JF(X:Cx)(ifs:qA Expr)(t:TT):Prop where
 h:PIf X ifs t
structure JO(X:Cx)(e:qD Expr)(t:TO):Prop where
 h:PO X e t
section
variable {X:Cx}{a b c e o:Expr}{rest:qA Expr}{ta tb tc to:TE}{tA tB:TT}{t:TA}{pos p qP qM p2:Pos}
def jv(i:Nat)(b:X.N[i]?=some x:=by rfl)(c:Vis X.env.scope x:=by first|exact Or.inl rfl|exact Or.inr (Or.inl rfl)|exact Or.inr (Or.inr rfl))(hd:(x==("__debug__" : Str))=false:=by decide)
  (a:(x==("__classdict__" : Str))=false:=by decide):JE X (.Name x pos) (L4 i):=⟨b2D b c hd a⟩
def A4{i j}:JE X (.Constant (.int i) j pos) (tC (.int i)):=⟨b7p⟩
def K5{i j}:JE X (.Constant (.bool i) j pos) (tC (.bl i)):=⟨b9d⟩
def W1{j}:JE X (.Constant .none j pos) (tC .non):=⟨b7n⟩
def a9D{x j}:JE X (.Constant (.str x) j pos) (tC (.str x)):=⟨b7k⟩
def a5T{u:qB}(a:Gl X x)(b:X.mg x=none)(d:bootBuiltins x=some u)(r:RelV v u)(c:x≠"__name__":=by decide)(hd:(x==("__debug__" : Str))=false:=by decide):JE X (.Name x pos) (tC v):=⟨b5a a b d r c hd⟩
def G7(c:JE X a ta)(d:JE X b tb):JE X (.BinOp a .Add b pos) (tOp (rI0 λi j=>.int (i+j)) ta tb):=⟨a0M b7F c.h d.h⟩
def a3H(c:JE X a ta)(d:JE X b tb):JE X (.BinOp a .Sub b pos) (tOp (rI0 λi j=>.int (i-j)) ta tb):=⟨a0M b7w c.h d.h⟩
def a0O(c:JE X a ta)(d:JE X b tb):JE X (.BinOp a .Mult b pos) (tOp (rI CMul λi j=>.int (i*j)) ta tb):=⟨a0M b7A c.h d.h⟩
def a3K(c:JE X a ta)(d:JE X b tb):JE X (.BinOp a .Mod b pos) (tOp (rI (λ_ j=>0<j) λi j=>.int (i % j)) ta tb):=⟨a0M b7B c.h d.h⟩
def b3n(c:JE X a ta)(d:JE X b tb):JE X (.BinOp a .FloorDiv b pos) (tOp (rI b9v λi j=>.int (i / j)) ta tb):=⟨a0M b5e c.h d.h⟩
def a3I(c:JE X a ta)(d:JE X b tb):JE X (.BinOp a .Pow b pos) (tOp (rI b9u λi j=>.int (i ^ j.toNat)) ta tb):=⟨a0M b7x c.h d.h⟩
def B1(c:JE X a ta)(d:JE X b tb):JE X (.BinOp a .Add b pos) (tOp (a1I) ta tb):=⟨a0M b2J c.h d.h⟩
def a1o(c:JE X a ta)(d:JE X b tb):JE X (.BinOp a .Add b pos) (tOp (b8X) ta tb):=⟨a0M b7E c.h d.h⟩
def a0X(c:JE X a ta)(d:JE X b tb):JE X (.BinOp a .Mult b pos) (tOp (a9l) ta tb):=⟨a0M b5c c.h d.h⟩
def a3J(b:JE X a ta):JE X (.UnaryOp .USub a pos) (tUn (rU λi=>.int (-i)) ta):=⟨b9a b6J b.h⟩
def b9m(b:JE X a ta):JE X (.UnaryOp .Not a pos) (b6d ta):=⟨b7m b.h⟩
def a1n{op}(h:JE X a ta):JE X (.BoolOp op [a] pos) ta:=⟨b7l h.h⟩
def a1p(c:JE X a ta)(d:JE X (.BoolOp .And (b::rest) pos) tb):JE X (.BoolOp .And (a::b::rest) pos) (b6h ta tb):=⟨b7s c.h d.h⟩
def b9l(c:JE X a ta)(d:JE X (.BoolOp .Or (b::rest) pos) tb):JE X (.BoolOp .Or (a::b::rest) pos) (b8J ta tb):=⟨b9b c.h d.h⟩
def b9n(f:JT X c tA)(d:JE X a ta)(e:JE X b tb):JE X (.IfExp c a b pos) (tIf tA ta tb):=⟨b2F f.h d.h e.h⟩
def a9x(c:JE X a ta)(d:JE X b tb):JE X (.Compare a [.Eq] [b] pos) (tOp (rEq) ta tb):=⟨a1l b6w c.h d.h (L5 _)⟩
def a2p(c:JE X a ta)(d:JE X b tb):JT X (.Compare a [.Eq] [b] pos) (a0J (tOp (rEq) ta tb)):=⟨U5 b6w c.h d.h (L5 _)⟩
def b3f(c:JE X a ta)(d:JE X b tb):JT X (.Compare a [.Lt] [b] pos) (a0J (tOp (rI0 λi j=>.bl (decide (i<j))) ta tb)):=⟨U5 b9f c.h d.h (L5 _)⟩
def b6z(c:JE X a ta)(d:JE X b tb):JE X (.Compare a [.LtE] [b] pos) (tOp (rI0 λi j=>.bl (decide (i<=j))) ta tb):=⟨a1l b9g c.h d.h (L5 _)⟩
def a9z(c:JE X a ta)(d:JE X b tb):JT X (.Compare a [.Gt] [b] pos) (a0J (tOp (rI0 λi j=>.bl (decide (j<i))) ta tb)):=⟨U5 b9h c.h d.h (L5 _)⟩
def b9j(c:JE X a ta)(d:JE X b tb):JE X (.Compare a [.GtE] [b] pos) (tOp (rI0 λi j=>.bl (decide (j<=i))) ta tb):=⟨a1l b6v c.h d.h (L5 _)⟩
def b9k(c:JE X a ta)(d:JE X b tb):JT X (.Compare a [.GtE] [b] pos) (a0J (tOp (rI0 λi j=>.bl (decide (j<=i))) ta tb)):=⟨U5 b6v c.h d.h (L5 _)⟩
def b3e(K:qF)(f:X.A.units+60<cLine)(d:JE X a ta)(e:JE X b tb)(c:X.K=K:=by rfl):JE X (.Compare a [.Eq] [b] pos) (tOp (a6P K false) ta tb):=⟨a1l (b7C K f c) d.h e.h (L5 _)⟩
def a1S(K:qF)(f:X.A.units+60<cLine)(d:JE X a ta)(e:JE X b tb)(c:X.K=K:=by rfl):JT X (.Compare a [.NotEq] [b] pos) (a0J (tOp (a6P K true) ta tb)):=⟨U5 (b7y K f c) d.h e.h (L5 _)⟩
def b7Q(c:JE X a ta)(d:JE X b tb):JE X (.Compare a [.Is] [b] pos) (tOp (λx y H Q=>y=.non/\Q (.bl (decide (x=.non))) H) ta tb):=⟨a1l b2K c.h d.h (L5 _)⟩
def b7S(c:JE X a ta)(d:JE X b tb):JT X (.Compare a [.Is] [b] pos) (a0J (tOp (λx y H Q=>y=.non/\Q (.bl (decide (x=.non))) H) ta tb)):=⟨U5 b2K c.h d.h (L5 _)⟩
def a9y(c:JE X a ta)(d:JE X b tb):JT X (.Compare a [.IsNot] [b] pos) (a0J (tOp (λx y H Q=>y=.non/\Q (.bl (!decide (x=.non))) H) ta tb)):=⟨U5 b5d c.h d.h (L5 _)⟩
def a1T(k:Bool)(c:JE X a ta)(d:JE X b tb):JT X (.Compare a [.IsNot] [b] pos) (a0J (tOp (λx y H Q=>y=.bl k/\Q (.bl (!a9i x k)) H) ta tb)):=⟨U5 (b0u (b:=k)) c.h d.h (L5 _)⟩
def a2x(h:JW X e tA):JT X e tA:=⟨h.h.pt⟩
def a0x(b:JT X a tA):JW X (.BoolOp .And [a] pos) tA:=⟨pw_and1 b.h⟩
def a1Q(b:JT X a tA):JW X (.BoolOp .Or [a] pos) tA:=⟨pw_or1 b.h⟩
def a1R(c:JT X a tA)(d:JW X (.BoolOp .And (b::rest) pos) tB):JW X (.BoolOp .And (a::b::rest) pos) (b8P tA tB):=⟨pw_and c.h d.h⟩
def a4K(c:JT X a tA)(d:JW X (.BoolOp .Or (b::rest) pos) tB):JW X (.BoolOp .Or (a::b::rest) pos) (tOr tA tB):=⟨pw_or c.h d.h⟩
def J4(b:JT X a tA):JT X (.UnaryOp .Not a pos) (b8K tA):=⟨b6Y b.h⟩
def D0(K:qF)(d:JE X a ta)(e:∀b,isTrue a X.env b=(do let v <-b;standAt a.pos;holding [v] (truthy v)):=by intro _;rfl)(c:X.K=K:=by rfl):JT X a (b8H K ta):=⟨b0o K d.h e c⟩
def jaN:JA X [] R5:=⟨b7u⟩
def jaC(a:JE X e te)(b:JA X es t)(hs:starEach (e::es) X.env=(false,eval e X.env)::starEach es X.env:=by rfl):JA X (e::es) (K8 te t):=⟨b5b a.h b.h hs⟩
def B3{x1}(h:JA X es t):JE X (.Tuple es x1 pos) (a5j t):=⟨b7j h.h⟩
def L0(h:JA X es t):JE X (.List es pos) (b1J t):=⟨b7o h.h⟩
def Y5(K:qF)(d:JE X a ta)(e:JE X b tb)(hs:a6e b:=by intro _ _;rfl)(c:X.K=K:=by rfl):JE X (.Subscript a b pos) (tOp (b4E K) ta tb):=⟨b6u (b3o K c) d.h e.h hs⟩
def D5(K:qF)(d:JE X a ta)(e:JE X b tb)(hs:a6e b:=by intro _ _;rfl)(c:X.K=K:=by rfl):JE X (.Subscript a b pos) (tOp (b6U K) ta tb):=⟨b6u (b5B K c) d.h e.h hs⟩
def C6:JO X none M1:=⟨b4N⟩
def C5(h:JE X e te):JO X (some e) (a2h te):=⟨b4M h.h⟩
def b6B(K:qF){lo hi:qD Expr}{tl th:TO}(b:JE X e te)(c:JO X lo tl)(d:JO X hi th)(a:X.K=K:=by rfl):JE X (.Subscript e (.Slice lo hi none p2) pos) (tSl (b6T K) te tl th):=⟨a3p (b1W K a) b.h c.h d.h⟩
def K9(K:qF){lo hi:qD Expr}{tl th:TO}(b:JE X e te)(c:JO X lo tl)(d:JO X hi th)(a:X.K=K:=by rfl):JE X (.Subscript e (.Slice lo hi none p2) pos) (tSl (a6O K) te tl th):=⟨a3p (b4n K a) b.h c.h d.h⟩
def A6{ps:qA Str}(O:Ok X.prog X.w X.K X.mg X.base x k ps sp)(g:Room k X.A)(f:Gl X x)(c:JA X (e::es) t)(a:(x==("__debug__" : Str))=false:=by decide)
  (d:starEach (e::es) X.env=(false,eval e X.env)::starEach es X.env:=by rfl) (b:(backTo pos (starEach es X.env)).any (·.1)=false:=by rfl):JE X (.Call (.Name x p) (e::es) [] pos) (a8U sp [] E0 t):=⟨b2H O g f c.h a d b⟩
def G6(K:qF)(f:Gl X "len")(g:X.mg "len"=none)(c:JA X (e::es) t)(b:X.K=K:=by rfl)(d:starEach (e::es) X.env=(false,eval e X.env)::starEach es X.env:=by rfl)(a:(backTo pos (starEach es X.env)).any (·.1)=false:=by rfl):JE X (.Call (.Name "len" p) (e::es) [] pos) (tCB (b8U K) t):=⟨F0 (b1j K b) f g b3R c.h (by decide) (by decide) d a⟩
def a8p(K:qF)(g:Gl X "sum")(h:X.mg "sum"=none)(c:JA X (e::es) t)(d:X.calm=true:=by rfl)(b:X.K=K:=by rfl)(f:starEach (e::es) X.env=(false,eval e X.env)::starEach es X.env:=by rfl)(a:(backTo pos (starEach es X.env)).any (·.1)=false:=by rfl):JE X (.Call (.Name "sum" p) (e::es) [] pos) (tCB (b6S K) t):=⟨F0 (b1c K d b) g h b8p c.h (by decide) (by decide) f a⟩
def N9(K:qF)(g:Gl X "all")(h:X.mg "all"=none)(c:JA X (e::es) t)(d:X.calm=true:=by rfl)(b:X.K=K:=by rfl)(f:starEach (e::es) X.env=(false,eval e X.env)::starEach es X.env:=by rfl)(a:(backTo pos (starEach es X.env)).any (·.1)=false:=by rfl):JE X (.Call (.Name "all" p) (e::es) [] pos) (tCB (b6X K) t):=⟨F0 (b1o K d b) g h b8u c.h (by decide) (by decide) f a⟩
def b7W(K:qF)(g:Gl X "any")(h:X.mg "any"=none)(c:JA X (e::es) t)(d:X.calm=true:=by rfl)(b:X.K=K:=by rfl)(f:starEach (e::es) X.env=(false,eval e X.env)::starEach es X.env:=by rfl)(a:(backTo pos (starEach es X.env)).any (·.1)=false:=by rfl):JE X (.Call (.Name "any" p) (e::es) [] pos) (tCB (b6W K) t):=⟨F0 (b1n K d b) g h b8t c.h (by decide) (by decide) f a⟩
def N2(K:qF)(f:Gl X "isinstance")(g:X.mg "isinstance"=none)(c:JA X (e::es) t)(b:X.K=K:=by rfl)(d:starEach (e::es) X.env=(false,eval e X.env)::starEach es X.env:=by rfl)(a:(backTo pos (starEach es X.env)).any (·.1)=false:=by rfl):JE X (.Call (.Name "isinstance" p) (e::es) [] pos) (tCB (b6V K) t):=⟨F0 (b1k K b) f g a4s c.h (by decide) (by decide) d a⟩
def b7T(f:Gl X "min")(g:X.mg "min"=none)(b:JA X (e::es) t)(c:X.calm=true:=by rfl)(d:starEach (e::es) X.env=(false,eval e X.env)::starEach es X.env:=by rfl)(a:(backTo pos (starEach es X.env)).any (·.1)=false:=by rfl):JE X (.Call (.Name "min" p) (e::es) [] pos) (tCB (b8S) t):=⟨F0 (b1e c) f g b8r b.h (by decide) (by decide) d a⟩
def b7U(f:Gl X "max")(g:X.mg "max"=none)(b:JA X (e::es) t)(c:X.calm=true:=by rfl)(d:starEach (e::es) X.env=(false,eval e X.env)::starEach es X.env:=by rfl)(a:(backTo pos (starEach es X.env)).any (·.1)=false:=by rfl):JE X (.Call (.Name "max" p) (e::es) [] pos) (tCB (b8T) t):=⟨F0 (b1g c) f g b8s b.h (by decide) (by decide) d a⟩
def C1(K:qF)(f:Gl X "tuple")(g:X.mg "tuple"=none)(c:JA X (e::es) t)(b:X.K=K:=by rfl)(d:starEach (e::es) X.env=(false,eval e X.env)::starEach es X.env:=by rfl)(a:(backTo pos (starEach es X.env)).any (·.1)=false:=by rfl):JE X (.Call (.Name "tuple" p) (e::es) [] pos) (tCB (a5F K) t):=⟨V9 (a7B K b) f g a4e c.h (by decide) (by decide) d a⟩
def a0y(K:qF)(f:Gl X "list")(g:X.mg "list"=none)(c:JA X (e::es) t)(b:X.K=K:=by rfl)(d:starEach (e::es) X.env=(false,eval e X.env)::starEach es X.env:=by rfl)(a:(backTo pos (starEach es X.env)).any (·.1)=false:=by rfl):JE X (.Call (.Name "list" p) (e::es) [] pos) (tCB (b6r K) t):=⟨V9 (a8C K b) f g b5R c.h (by decide) (by decide) d a⟩
def b7V(d:Gl X "int")(f:X.mg "int"=none)(b:JA X (e::es) t)(c:starEach (e::es) X.env=(false,eval e X.env)::starEach es X.env:=by rfl)(a:(backTo pos (starEach es X.env)).any (·.1)=false:=by rfl):JE X (.Call (.Name "int" p) (e::es) [] pos) (tCB (b8V) t):=⟨V9 b1l d f b3S b.h (by decide) (by decide) c a⟩
def E6(K:qF)(h:JE X o to)(g:JA X (e::es) t)(f:X.K=K:=by rfl)(b:attributeBase o "append" X.env (eval o X.env)=eval o X.env:=by rfl)
  (d:((backTo qM (starEach (e::es) X.env)).all (λx=>!x.1) && (backToKw qM (keywordEach [] X.env)).all (λx=>x.1.isSome) && decide ((e::es).length+([]:qA Keyword).length+(if ([]:qA Keyword).isEmpty then 0 else 1)<30))=true:=by rfl)
  (c:(qP.endLine==qM.line)=true:=by rfl) (hs:starEach (e::es) X.env=(false,eval e X.env)::starEach es X.env:=by rfl) (a:(backTo qM (starEach es X.env)).any (·.1)=false:=by rfl) :
  JE X (.Call (.Attribute o "append" qP) (e::es) [] qM) (tBM K "list" a9n to t):=⟨a8e K PySem.F.plainAttrs_list PySem.F.slot_list_append PySem.F.type_list_append b0H h.h g.h f b d c hs a⟩
def b3k(K:qF)(h:JE X o to)(g:JA X (e::es) t)(f:X.K=K:=by rfl)(b:attributeBase o "pop" X.env (eval o X.env)=eval o X.env:=by rfl)
  (d:((backTo qM (starEach (e::es) X.env)).all (λx=>!x.1) && (backToKw qM (keywordEach [] X.env)).all (λx=>x.1.isSome) && decide ((e::es).length+([]:qA Keyword).length+(if ([]:qA Keyword).isEmpty then 0 else 1)<30))=true:=by rfl)
  (c:(qP.endLine==qM.line)=true:=by rfl) (hs:starEach (e::es) X.env=(false,eval e X.env)::starEach es X.env:=by rfl) (a:(backTo qM (starEach es X.env)).any (·.1)=false:=by rfl) :
  JE X (.Call (.Attribute o "pop" qP) (e::es) [] qM) (tBM K "list" b2p to t):=⟨a8e K PySem.F.plainAttrs_list PySem.F.slot_list_pop PySem.F.type_list_pop b2Z h.h g.h f b d c hs a⟩
def a4L(K:qF)(h:JE X o to)(g:JA X (e::es) t)(f:X.K=K:=by rfl)(b:attributeBase o "extend" X.env (eval o X.env)=eval o X.env:=by rfl)
  (d:((backTo qM (starEach (e::es) X.env)).all (λx=>!x.1) && (backToKw qM (keywordEach [] X.env)).all (λx=>x.1.isSome) && decide ((e::es).length+([]:qA Keyword).length+(if ([]:qA Keyword).isEmpty then 0 else 1)<30))=true:=by rfl)
  (c:(qP.endLine==qM.line)=true:=by rfl) (hs:starEach (e::es) X.env=(false,eval e X.env)::starEach es X.env:=by rfl) (a:(backTo qM (starEach es X.env)).any (·.1)=false:=by rfl) :
  JE X (.Call (.Attribute o "extend" qP) (e::es) [] qM) (tBM K "list" a9m to t):=⟨a8e K PySem.F.plainAttrs_list PySem.F.slot_list_extend PySem.F.type_list_extend b0G h.h g.h f b d c hs a⟩
def A7(a:X.N.Nodup)(hi:X.N[i]?=some x)(c:Loc X.env.scope x)(b:X.fn x=true∨X.env.scope.names.lookup x=some .local:=by first|exact .inl rfl|exact .inr rfl|assumption):JG X (.Name x pos) (B0 i):=⟨b4W a hi c b⟩
def N1:JGs X [] a8v:=⟨b4U⟩
def C0{u:TGs}(h1:JG X e g)(h2:JGs X es u)(hs:(assignEach (e::es) X.env).map (·.2)=assign e X.env::(assignEach es X.env).map (·.2):=by rfl):JGs X (e::es) (Y6 g u):=⟨b2C h1.h h2.h hs⟩
def V1(K:qF)(n:Nat){u:TGs}(h:JGs X es u)(c:X.calm=true:=by rfl)(b:X.K=K:=by rfl)(d:(assignEach es X.env).length=n:=by rfl)(a:(assignEach es X.env).findIdx? (·.1)=none:=by rfl):JG X (.Tuple es k pos) (a7p K n u):=⟨b4V K c h.h b d a⟩
def a8o{i:Expr}{a:TE}(c:JE X o to)(hi:JE X i a)
  (b:∀v,assign (.Subscript o i pos) X.env v=(do
   let ov <-holding [v] (eval o X.env)
   let iv <-holding [v,ov] (eval i X.env)
   standAt pos
   holding [v,ov,iv] (setItem ov iv v)
   release [v,ov,iv] []):=by intro _;rfl):JG X (.Subscript o i pos) (b9q to a b6q):=⟨b7i c.h hi.h b2a b⟩
def E3(K:qF){l:Expr}(b:JE X l tl)(a:X.K=K:=by rfl):JI X tg l (b3r K tl):=⟨b2B K b.h a⟩
def E7(K:qF){l:Expr}(b:JE X l tl)(a:X.K=K:=by rfl):JI X tg l (b8e K tl):=⟨b4R K b.h a⟩
def a3G(K:qF){h:Nat}{i:Pos}(f:Gl X "zip")(g:X.mg "zip"=none)(e:JA X [a,b] t)(d:X.K=K:=by rfl)(hs:starEach [a,b] X.env=[(false,eval a X.env),(false,eval b X.env)]:=by rfl)(c:starEach [b] X.env=[(false,eval b X.env)]:=by rfl) :
  JI X (.Tuple es h i) (.Call (.Name "zip" p) [a,b] [] pos) (b8d K t):=⟨b4Q K f g e.h d hs c⟩
def J0(c:Gl X "range")(d:X.mg "range"=none)(b:JA X [a] t)(hs:starEach [a] X.env=[(false,eval a X.env)]:=by rfl):JI X tg (.Call (.Name "range" p) [a] [] pos) (b6C t):=⟨b0r c d b.h hs⟩
def B8:JF X [] O0:=⟨b4P⟩
def a1U(h:JT X c tA):JF X [c] tA:=⟨b4O h.h⟩
def B5{b c:Expr}{f:qA Expr}{scope:Scope}{j:TI}{i:TT}(hi:JI X tg b j)(e:B6 scope X.env.scope=true)(d:O2 N src X.N scope=true)(h:a5A scope=true)
  (m:∀a C s H ex,JG (X.blk N scope a C s H ex) tg g) (n:∀a C s H ex,JF (X.blk N scope a C s H ex) f i) (l:∀a C s H ex,JE (X.blk N scope a C s H ex) c te)
  (k:X.calm=true:=by rfl) (hs:∀x,foldedSetIterable b X.env x=pure x:=by intro _;rfl):JE X (.ListComp c [⟨tg,b,f,0⟩] scope pos) (a6s src j g i te) :=
 ⟨b4Z k hi.h e d h (λ_ _ _ _ _=>(m _ _ _ _ _).h) (λ_ _ _ _ _=>(n _ _ _ _ _).h) (λ_ _ _ _ _=>(l _ _ _ _ _).h) hs⟩
variable {sts:qA Stmt}{u v:TS}
def C2:JB X [] b6e:=⟨b4H⟩
def A1(h1:JS X st u)(h2:JB X sts v):JB X (st::sts) (b4g u v):=⟨b2t h1.h h2.h⟩
def A5(h1:JS X st u):JB X [st] u:=⟨b4G h1.h⟩
def b3j:JS X (.Break pos) b1L:=⟨b2x⟩
def A9(a:JE X e te):JS X (.Return (some e) pos) (b6O te):=⟨b7b a.h⟩
def G4(a:JE X e te)(hs:swapsWith e none pos.line X.env=pure false:=by rfl):JS X (.Expr e pos) (b6g te):=⟨b4J a.h hs⟩
def C9{A:qA Stmt}(d:JT X c tA)(a:JB X A u)(b:JB X B v):JS X (.If c A B pos) (b8L tA u v):=⟨b8Z d.h a.h b.h⟩
def b3g(b:JT X c tA)(a:JB X B v)(hp:PassesOwn (model X.prog X.w) X.A X.env X.xe:=by exact PassesOwn.never):JS X (.While c B [] pos) (b1G tA v):=⟨b2u hp b.h a.h⟩
def N8{a:Expr}{b:TI}(hi:JI X tg a b)(e:JG X tg g)(c:JB X B v)(hp:PassesOwn (model X.prog X.w) X.A X.env X.xe:=by exact PassesOwn.never)(d:X.calm=true:=by rfl)
  (hs:∀x,foldedSetIterable a X.env x=pure x:=by intro _;rfl):JS X (.For tg a B [] pos) (b8M b g v):=⟨b7c hp d hi.h e.h c.h hs⟩
def B2{pos':Pos}(a:X.N.Nodup)(hi:X.N[i]?=some x)(d:Loc X.env.scope x)(b:JE X e te)(hs:swapsWith e (some (.Name x pos')) pos.line X.env=pure false:=by rfl)
  (c:X.fn x=true∨X.env.scope.names.lookup x=some .local:=by first|exact .inl rfl|exact .inr rfl|assumption):JS X (.Assign [.Name x pos'] e pos) (a7N te (B0 i)):=⟨b7a a hi d b.h hs c⟩
def a5Q{y:Str}{m c:Pos}{b d:Expr}{e:qA Expr}{scope:Scope}{o:TI}{n:TT}
  (p:X.N.Nodup) (w:X.N[i]?=some y) (v:Loc X.env.scope y) (hi:JI X tg b o) (h:B6 scope X.env.scope=true) (f:O2 N src X.N scope=true) (k:a5A scope=true)
  (t:∀a C s H ex,JG (X.blk N scope a C s H ex) tg g) (u:∀a C s H ex,JF (X.blk N scope a C s H ex) e n) (j:∀a C s H ex,JE (X.blk N scope a C s H ex) d te)
  (q:X.calm=true:=by rfl) (l:swapsWith (.ListComp d [⟨tg,b,e,0⟩] scope pos) (some (.Name y m)) c.line X.env=pure true:=by rfl) (hs:∀x,foldedSetIterable b X.env x=pure x:=by intro _;rfl)
  (r:X.fn y=true∨X.env.scope.names.lookup y=some .local:=by first|exact .inl rfl|exact .inr rfl|assumption) :
  JS X (.Assign [.Name y m] (.ListComp d [⟨tg,b,e,0⟩] scope pos) c) (a7N (a6s src o g n te) (B0 i)) :=
 ⟨b4I p w v q hi.h h f k (λ_ _ _ _ _=>(t _ _ _ _ _).h) (λ_ _ _ _ _=>(u _ _ _ _ _).h) (λ_ _ _ _ _=>(j _ _ _ _ _).h) l hs r⟩
def a3F(a:JE X e te)(b:JG X tg g)(hs:swapsWithSole [tg] e pos.line X.env=pure false:=by rfl)(hw:swappedStores [tg] e X.env=pure none:=by rfl)
  (h1:(assignEach [tg] X.env).map (·.2)=[assign tg X.env]:=by rfl):JS X (.Assign [tg] e pos) (a7N te g):=⟨b7e a.h b.h hs hw h1⟩
end
section
variable {P:qG}{w:World}{mg:Str->qD qB}{base:Heap}
def FunAt.okJ{ps:qA Str}(F:FunAt K mg x st ps)(S:FnScope N ps (A2 st))(c:∀vs H Q E,sp vs H Q E->vs.length=ps.length)
  (b:∀(a:qB) (f:qE) (A:Around) (outer:qA Env) (s:qC) (H:Hp) (vs:qA V) (Q:VK) (E:XK),Room k (A.deeper (envOfC x (A2 st) s.heap.objs.size f a))->sp vs H Q E ->
   ∃t,JB (L9 CX0 P w K mg base N x (A2 st) f a A outer s H E).nox (G5 st) t/\t {nx:=λ_ H'=>Q .non H',rt:=Q} (start N vs) H):Ok P w K mg base x (k+1) ps sp :=
 F.ok S c λa f A outer s H vs Q E e h=>let ⟨t,d,r⟩:=b a f A outer s H vs Q E e h;⟨t,d.h,r⟩
def Fun.okJ{qual:Str}{f:qE}{fd:FuncData}{ps:qA Str}(F:Fun K x qual st f fd)(S:FnScope N ps (A2 st))(c:∀vs H Q E,sp vs H Q E->vs.length=ps.length)
  (b:∀(a:qB) (A:Around) (outer:qA Env) (s:qC) (H:Hp) (vs:qA V) (Q:VK) (E:XK),Room k (A.deeper (envOfC qual (A2 st) s.heap.objs.size f a))->sp vs H Q E ->
   ∃t,JB (L9 CX0 P w K mg base N qual (A2 st) f a A outer s H E).nox (G5 st) t/\t {nx:=λ_ H'=>Q .non H',rt:=Q} (start N vs) H):FnOk P w K mg base CX0 (k+1) f fd ps sp :=
 F.ok S c λa A outer s H vs Q E e h=>let ⟨t,d,r⟩:=b a A outer s H vs Q E e h;⟨t,d.h,r⟩
end
def a9c(K:qF):Sp:=λvs H Q _=>∃(a:qE) (ns:qI),vs=[.ref a]/\SqL K H a (ns.map V.int)/\ns.length<=63/\∀H',Q (.bl true) H'
def law_walk{l:PySem.W.OpenLaw}{q:qG}{b:qA Str}{XP:(Str->qD qB)->Heap->Prop}{e:World->Heap->Prop}{d:DefRec}{K:Params->qF}(k:Nat)(o:l.most=some 63)(c:d.params.defaults=[])(p:Room k callerA)
  (j:∀(w:World) (h:Heap),e w h->(K w.params).In h)
  (F:∀(w:World) (mg:Str->qD qB) (g:qE) (h:Heap),(K w.params).In h->h.Ns mainGlobals mg->mg d.name=some (.ref g) ->
   ∃fd:FuncData,(∀(s:qC) (u:qB),BindsTo s fd ⟨[u],[]⟩ [("_law_script",u)])/\∀base:Heap,(K w.params).In base->base.Ns mainGlobals mg->FnOk l.prog w (K w.params) mg base CX0 k g fd ["_law_script"] (a9c (K w.params))) :
  PySem.W.WalkO q b XP e l.row.toRowW d [] (λf vs=>PySem.call f vs) :=
 L2.walk_of (n:=63) (k:=k) (x:="_law_script") (CX:=λ_=>CX0) (sp:=λw=>a9c (K w.params)) o (by decide) c p j F (λ_ _ a r m _ i=>⟨a,r,rfl,i,m,λ_=>rfl⟩) λ_ _ _ _ _ z=>z
def Its(H:Hp)(vs:qA V)(rss:LLI):Prop:=vs.length=rss.length/\∀(i:Nat) (v:V),vs[i]?=some v->∃r,rss[i]?=some r/\IT H v r
def Its.same{H H':Hp}{vs:qA V}{rss:LLI}(h:Its H vs rss)(s:Same H H'):Its H' vs rss:=⟨h.1,λi v e=>let ⟨r,e1,e2⟩:=h.2 i v e;⟨r,e1,e2.same s⟩⟩
def Its.nil:Its H [] []:=⟨rfl,λi v e=>by simp at e⟩
def Its.snoc{r:qI}(h:Its H vs rss)(d:IT H v r):Its H (vs++[v]) (rss++[r]):=by
 refine⟨by simp[h.1],λi u e=>?_⟩;by_cases hi:i<vs.length
 .rw[bA hi]at e;obtain⟨q,b,c⟩:=h.2 i u e;exact⟨q,by rw[bA (by rw[<-h.1];exact hi)];exact b,c⟩
 .rw[ba (by omega)]at e;have a:i-vs.length=0:=by
   have:=(aL.mp e).1;simp at this;omega
  rw[a]at e;simp at e;subst e;refine⟨r,?_,d⟩;rw[ba (by rw[<-h.1];omega),<-h.1,a];rfl
def Its.mem(h:Its H vs rss)(e:vs[i]?=some v):∃r,r∈rss/\rss[i]?=some r/\IT H v r :=
 let ⟨r,e1,e2⟩:=h.2 i v e
 ⟨r,aE e1,e1,e2⟩
def a9U{k1 k2:Bool}{ys:qI}(f:Int->Int->V)(t:xs.length<=1000)
  (c:∀H',Same H H'->SqK k1 K H' a (xs.map V.int)/\SqK k2 K H' b (ys.map V.int))
  (g:B4 src σ=none::none::caps) (n:∀x y H1 o,x∈xs->y∈ys->Same H H1->o (f x y) H1->te (some (.int x)::some (.int y)::caps) H1 o)
  (hd:∀H1 p,Same H H1->H1 p=none->Q (.ref p) (upd H1 p (.lst (List.zipWith f xs ys)))) :
  G0 src (a7p K 2 (Y6 (B0 0) (Y6 (B0 1) a8v))) O0 te σ Q (Itz K k1 k2 a b) H:=by
 have u:(1000:Nat)<=sizeLine:=by rw[aT];decide
 refine a0j (xs:=xs.map V.int) (zs:=ys.map V.int) (by rw[N0];omega) (λi zs H'=>Same H H'/\zs=(List.zipWith f xs ys).take i) ⟨Same.refl H,by simp⟩ (λi zs H' _ _ h=>⟨(c H' h.1).1,(c H' h.1).2,by rw[h.2];exact bF _ _⟩) ?_ ?_
 .rintro i x z zs H' p hx hy ⟨s,rfl⟩ hp;obtain⟨m,k,q⟩:=U7 hx;obtain⟨d,l,r⟩:=U7 hy;subst q r;clear hx hy;have s':Same H (upd H' p (.tup [.int m,.int d])):=s.upd hp;refine⟨p,[.int m,.int d],rfl,SqT.of A0,rfl,.int m,[.int d],rfl,.int d,[],rfl,rfl,?_⟩;rw[g];show Sub _ (some (.int m)::some (.int d)::caps)/\_;refine⟨⟨rfl,λj v e=>?_⟩,?_⟩
  .match j,e with
   |0,e=>cases e
   |1,e=>cases e
   |j+2,e=>exact e
  .exact n m d _ _ (aE k) (aE l) s' ⟨s',(O3 f k l).symm⟩
 .rintro zs H' ⟨s,rfl⟩ p hp;have e:(List.zipWith f xs ys).take (min (xs.map V.int).length (ys.map V.int).length)=List.zipWith f xs ys:=by
   rw[N0,N0,cj];rw[cZ];exact aq _
  rw[e];exact hd H' p s hp
def a8R(f:qI->V)(m:vs.length<=1000)(b:∀H',Same H H'->SqT K H' a vs)(k:Its H vs rss)(c:B4 src σ=none::caps)
  (g:∀v r H1 j,r∈rss->IT H1 v r->Same H H1->(∀H2,Same H1 H2->j (f r) H2)->te (some v::caps) H1 j) (hd:∀H1 p,Same H H1->H1 p=none->Q (.ref p) (upd H1 p (.lst (rss.map f)))):G0 src (B0 0) O0 te σ Q (Itt K a) H:=by
 have n:(1000:Nat)<=sizeLine:=by rw[aT];decide
 refine K6 (xs:=vs) (by omega) (λi ys H'=>Same H H'/\ys=(rss.take i).map f) ⟨Same.refl H,by simp⟩ (λi ys H' _ h=>⟨b H' h.1,by rw[h.2,ai];exact bF _ _⟩) ?_ ?_
 .rintro i x ys H' hx ⟨s,rfl⟩;obtain⟨r,l,d,e⟩:=k.mem hx;show Sub _ ((B4 src σ).set 0 (some x))/\_;rw[c];refine⟨Sub.one,g x r H' _ l (e.same s) s λH2 s2=>⟨s.trans s2,?_⟩⟩;rw[bg,d];simp
 .rintro ys H' ⟨s,rfl⟩ p hp;rw[k.1,bh];exact hd H' p s hp
def b1t{k1 k2:Bool}{us:qA V}(f:Int->qI->V)(w:xs.length<=1000)
  (c:∀H',Same H H'->SqK k1 K H' a (xs.map V.int)/\SqK k2 K H' b us) (q:Its H us rss)
  (d:B4 src σ=none::none::caps) (n:∀x v r H1 o,x∈xs->r∈rss->IT H1 v r->Same H H1->o (f x r) H1->te (some (.int x)::some v::caps) H1 o)
  (hd:∀H1 p,Same H H1->H1 p=none->Q (.ref p) (upd H1 p (.lst (List.zipWith f xs rss)))) :
  G0 src (a7p K 2 (Y6 (B0 0) (Y6 (B0 1) a8v))) O0 te σ Q (Itz K k1 k2 a b) H:=by
 have y:(1000:Nat)<=sizeLine:=by rw[aT];decide
 refine a0j (xs:=xs.map V.int) (zs:=us) (by rw[N0];omega) (λi zs H'=>Same H H'/\zs=(List.zipWith f xs rss).take i) ⟨Same.refl H,by simp⟩ (λi zs H' _ _ h=>⟨(c H' h.1).1,(c H' h.1).2,by rw[h.2];exact bF _ _⟩) ?_ ?_
 .rintro i x z zs H' p hx hy ⟨s,rfl⟩ hp;obtain⟨k,g,t⟩:=U7 hx;subst t;obtain⟨r,u,l,m⟩:=q.mem hy;have s':Same H (upd H' p (.tup [.int k,z])):=s.upd hp;refine⟨p,[.int k,z],rfl,SqT.of A0,rfl,.int k,[z],rfl,z,[],rfl,rfl,?_⟩;rw[d];show Sub _ (some (.int k)::some z::caps)/\_;refine⟨⟨rfl,λj v e=>?_⟩,?_⟩
  .match j,e with
   |0,e=>cases e
   |1,e=>cases e
   |j+2,e=>exact e
  .exact n k z r _ _ (aE g) u (m.same s') s' ⟨s',(O3 f g l).symm⟩
 .rintro zs H' ⟨s,rfl⟩ p hp;have e:(List.zipWith f xs rss).take (min (xs.map V.int).length us.length)=List.zipWith f xs rss:=by
   rw[N0,q.1,cj];rw[cZ];exact aq _
  rw[e];exact hd H' p s hp
def a7Z{d:TT}(t:Nat->Bool)(f:n<=1000)(a:B4 src σ=none::caps)(b:∀(i:Nat) H1 (c:Bool->Hp->Prop),i<n->Same H H1->(∀H2,Same H1 H2->c (t i) H2)->d (some (.int i)::caps) H1 c)
  (hd:∀H1 p,Same H H1->H1 p=none->Q (.ref p) (upd H1 p (.lst ((((List.range n).filter t).map λ(i:Nat)=>(i:Int)).map V.int)))):G0 src (B0 0) d (L4 0) σ Q (Itr 0 n) H:=by
 refine a1j f a (λi ys H'=>Same H H'/\ys=(((List.range i).filter t).map λ(i:Nat)=>(i:Int)).map V.int) ⟨Same.refl H,rfl⟩ (λi ys H' h=>by rw[h.2,ai,ai];exact a_ (bD _ _) (by simp)) ?_ ?_
 .rintro i ys H' hi ⟨s,rfl⟩;refine b i H' _ hi s λH2 s2=>?_;rw[List.range_succ,List.filter_append];cases e:t i with
  |true=>exact⟨_,rfl,s.trans s2,by simp[e]⟩
  |false=>exact⟨s.trans s2,by simp[e]⟩
 .rintro ys H' ⟨s,rfl⟩ p hp;exact hd H' p s hp
end L2
namespace L2
open PySem PySem.Spec PyProof.Rows PySem.W
variable {A:Around}{C:qE}{H:Hp}{K:qF}{N ps:qA Str}{P:qG}{X:Cx}{base:Heap}{qM:Pos}{e:Expr}{es:qA Expr}{k:Nat}{mg:Str->qD qB}{sp:Sp}{t:TA}{w:World}{x:Str}
def b3B(p C:qE):HO:=.ext λh=>∃o,h.get? p=some o/\o.cls=.ref C
def ObjOk.there{h:Heap}{a:qE}{o:HO}(x:ObjOk P w H h a o):∃u,h.get? a=some u:=by
 induction o with
 |lst xs=>obtain⟨_,_,_,_,e⟩:=x;exact⟨_,e⟩
 |tup xs=>obtain⟨_,_,_,b,e,_⟩:=x;exact⟨_,e⟩
 |dK qL=>obtain⟨_,_,_,_,o,_,_,e,_⟩:=x;exact⟨_,e⟩
 |dT qL=>obtain⟨_,_,_,_,o,_,_,e,_⟩:=x;exact⟨_,e⟩
 |set S n=>obtain⟨o,_,_,_,e,_⟩:=x;exact⟨_,e⟩
 |ins C dx fs=>obtain⟨_,_,_,e,_⟩:=x;exact⟨_,e⟩
 |own y=>obtain⟨_,e⟩:=x;exact⟨_,e⟩
 |xd fs=>obtain⟨_,⟨_,_,_,e,_⟩,_⟩:=x;exact⟨_,e⟩
 |rng lo hi=>obtain⟨_,_,_,e⟩:=x;exact⟨_,e⟩
 |frz b u c=>obtain⟨e,_⟩:=x;exact⟨_,e⟩
 |tbl ps=>exact⟨_,x⟩
 |met f y=>exact⟨_,x⟩
 |ext φ=>exact x.2.1
def Cov(l:qA Env)(H:Hp)(h0 h B:Heap):Prop:=∀b o,h.get? b=some o->b∉frs l->(H b≠none∨∃o',h0.get? b=some o')->B.get? b=some o
def a1t{l:qA Env}{H':Hp}{h0 h1 h2 B:Heap}(f:Un (frs l) [] H H' h0 h1)(j:HOk P w H' h1)(d:Cov l H' h0 h1 B)(st:B.StaysIn h2)(t:h1.UpToSlots h2)(r:h1.FunFrames base l)(v:∀b∈frs l,H' b=none) :
  Un (frs l) [] H H' h0 h2/\HOk P w H' h2/\Cov l H' h0 h2 B:=by
 have A:∀b,H' b≠none->b∉frs l:=λb n c=>n (v b c);refine⟨⟨?_,?_,f.free,?_,f.tups,f.frzs,f.tbls⟩,?_,?_⟩
 .intro b o e n c hx;exact st b o (d b o (f.keep b o e n c hx) c (.inr ⟨o,e⟩))
 .intro b o e n c hx;obtain⟨sl,q⟩:=f.slot b o e n c hx;obtain⟨_,x,i,p⟩:=r.mem c;rw[q]at i;cases i;obtain⟨k,h⟩:=t b _ q p;exact⟨k,h⟩
 .intro b o e hx;obtain⟨g,q⟩:=f.there b o e hx;by_cases c:b∈frs l
  .obtain⟨_,x,i,p⟩:=r.mem c;rw[q]at i;cases i;obtain⟨k,h⟩:=t b _ q p;exact⟨_,h⟩
  .exact⟨g,st b g (d b g q c (.inr ⟨o,e⟩))⟩
 .intro a o e;refine(j a o e).stay (λb u c q=>?_) (λ_ q=>q) λ_ _ q=>q;have m:H' b≠none:=by
   rcases c with rfl|c
   .rw[e];intro z;cases z
   .rw[c];intro z;cases z
  exact st b u (d b u q (A b m) (.inl m))
 .intro b o e c ho;have ex:∃g,h1.get? b=some g:=by
   rcases ho with m|⟨o',q⟩
   .cases eq:H' b with
    |none=>exact absurd eq m
    |some u=>exact(j b u eq).there
   .exact f.there b o' q (by simp)
  obtain⟨g,y⟩:=ex;have h:=d b g y c ho;have s:=st b g h;rw[e]at s;cases s;exact h
def CXE(P:qG)(w:World):CXT:=λouter H s E e s' =>
 ∃(p C:qE) (H':Hp) (B:Heap) (a0:qB),e=.ref p/\s'.os=s.os/\AllBare s'.gens/\Un (frs outer) [] H H' s.heap s'.heap/\HOk P w H' s'.heap /\
  H' p=none/\Heap.FlyingW B outer p (.ref C) a0 s'.heap/\Cov outer H' s.heap s'.heap B/\E (.ref C) none H'
def b1I(C:qE)(E:XK)(t:TA):TS:=λ_ σ H=>t σ H λvs H1=>vs.length<=sizeLine/\E (.ref C) none H1
def b2w{qual:Str}{scope:Scope}{f:qE}{cd:qB}{outer:qA Env}{s0:qC}{i:Hp}{E:XK}{bmB F:qA qB}{B Y newId V g U:String}{np pos:Pos}
  (O:OwnCls x C bmB newId mg base) (Fn:ExcBaseFacts Y newId U F) (J:bmB.contains (.type Y)=true) (Z:ExcBaseFacts B V g bmB)
  (hg:Gl (L9 (CXE P w) P w K mg base N qual scope f cd A outer s0 i E) x)
  (ha:PA (L9 (CXE P w) P w K mg base N qual scope f cd A outer s0 i E) (e::es) t) (hd:(x==("__debug__" : Str))=false:=by decide)
  (y:starEach (e::es) (envOfC qual scope s0.heap.objs.size f cd)=(false,eval e (envOfC qual scope s0.heap.objs.size f cd))::starEach es (envOfC qual scope s0.heap.objs.size f cd):=by rfl)
  (S:(backTo qM (starEach es (envOfC qual scope s0.heap.objs.size f cd))).any (·.1)=false:=by rfl) :
  PS (L9 (CXE P w) P w K mg base N qual scope f cd A outer s0 i E) (.Raise (some (.Call (.Name x np) (e::es) [] qM)) none pos) (b1I C E t):=by
 intro qK s σ H D I h;obtain⟨tl,NC,nm,q,bs,m,sn,sub,ab,col,dd,k0,k1,k2,k3,k5,mN,hC,hN,R,T⟩:=O.obj;refine wpAny_Raise_call_subU (C:=C) (nm:=nm) (q:=q) (N:=NC) (bs:=bs) (bm:=tl) (hdct:=m) (sn:=sn) (sub:=sub) (ab:=ab) (col:=col) (dd:=dd) (k0:=k0) (k1:=k1) (k2:=k2) (k3:=k3) (k5:=k5)
  Fn J Z (mN:=mN) (T.hasType Z.hasBase) (I.ok.hd rfl) (by show(backTo qM (starEach (e::es) (envOfC qual scope s0.heap.objs.size f cd))).any _=false;rw[y];show(false || (backTo qM (starEach es (envOfC qual scope s0.heap.objs.size f cd))).any (·.1))=false;rw[S];rfl) R (a1m I hg O.bound ⟨rfl,?_⟩ hd)
 have k:=ha qM qK s σ H _ I h;have L:starEach (e::es) (L9 (CXE P w) P w K mg base N qual scope f cd A outer s0 i E).env=_:=y;rw[L]at k⊢;refine Calls.evalArgs_plain (du k (λus s2 ⟨vs,H1,c,r,hl,q⟩=>⟨rfl,by rw[<-r.length];exact hl,c.bk _ _ hC,hN.keeps c.bk,T.keeps c.bk,λh' p Q=>?_⟩) λ_ _ z=>z);have M:∀a∈(envOfC qual scope s0.heap.objs.size f cd::outer),∀b,a.frame=some b->b∈frs (envOfC qual scope s0.heap.objs.size f cd::outer):=λa y b d=>ck.mpr ⟨a,y,d⟩;refine wpAny_leaves_madeW (base:=hideAll s2.heap (frs (envOfC qual scope s0.heap.objs.size f cd::outer))) (h:=s2.heap) c.ok.frames rfl (λb o q=>of_hideAll _ q) (funFrames_hide c.stack M) Q λh2 t x1 x2 x3 x4=>?_;have v:∀b∈frs outer,b∈frs (envOfC qual scope s0.heap.objs.size f cd::outer):=λb d=>by
  obtain⟨a,h1,h2⟩:=ck.mp d;exact ck.mpr ⟨a,ax _ h1,h2⟩
 have n:∀b,b∉frs outer->b≠s0.heap.objs.size->b∉frs (envOfC qual scope s0.heap.objs.size f cd::outer):=λb h1 h2 h3=>by
  obtain⟨a,X,q2⟩:=ck.mp h3;rcases aF.mp X with rfl|X
  .exact h2 (bH q2).symm
  .exact h1 (ck.mpr ⟨a,X,q2⟩)
 have G:Cov outer H1 s0.heap s2.heap (hideAll s2.heap (frs (envOfC qual scope s0.heap.objs.size f cd::outer))):=λb o eb nb d=>by
  refine hideAll_get _ eb (n b nb λz=>?_);subst z;rcases d with d|⟨o',d⟩
  .exact d c.free
  .exact absurd (aJ d) (bX _)
 have hp:H1 p=none:=by
  cases eq:H1 p with
  |none=>rfl
  |some u =>
   obtain⟨o,eo⟩:=(c.hok p u eq).there;rw[Q.new]at eo;cases eo
 obtain⟨U2,W,j⟩:=a1t (P:=P) (w:=w) (l:=outer) (H:=i) (H':=H1) (h0:=s0.heap) (h1:=s2.heap) (h2:=h2) c.base c.hok G x1.1 ((Heap.UpToSlots.of_keeps Q.keeps).trans x4) c.funs λb d=>c.stkFree b (v b d);exact⟨p,C,H1,_,.ref t,rfl,c.os,c.bare,U2,W,hp,x1,j,q⟩
def XP(X:Cx)(qK:qA (qE×Obj))(R:St->qE->Hp->Prop)(e:qB)(s':qC):Prop :=
 ∃(σ1:St) (H1:Hp) (s1:qC) (p C:qE) (H':Hp) (B:Heap) (a0:qB),e=.ref p/\Inv X qK σ1 H1 s1/\s'.os=s1.os/\AllBare s'.gens/\Un (frs X.stack) [] H1 H' s1.heap s'.heap/\HOk X.prog X.w H' s'.heap /\
  H' p=none/\Heap.FlyingW B X.stack p (.ref C) a0 s'.heap/\Cov X.stack H' s1.heap s'.heap B/\R σ1 C H'
abbrev TX:=Ends->(St->qE->Hp->Prop)->St->Hp->Prop
def PSx(X:Cx)(sts:qA Stmt)(t:TX):Prop :=
 ∀(qK:qA (qE×Obj)) (s:qC) (σ:St) (H:Hp) (D:Ends) (R:St->qE->Hp->Prop),Inv X qK σ H s->t D R σ H->wpAny (model X.prog X.w) X.A (execs sts X.env) (SP X qK D) (XP X qK R) s
structure OkE(P:qG)(w:World)(K:qF)(mg:Str->qD qB)(base:Heap)(x:Str)(k:Nat)(ps:qA Str)(sp:Sp):Prop where
 ex:∃f fd,mg x=some (.ref f)/\PySem.W.keepIn K (.ref f)=true/\Binds K fd ps []/\FnOk P w K mg base (CXE P w) k f fd ps sp
def FunAt.okE{st:Stmt}(F:FunAt K mg x st ps)(S:FnScope N ps (A2 st))(e:∀vs H Q E,sp vs H Q E->vs.length=ps.length)
  (b:∀(a:qB) (f:qE) (A:Around) (outer:qA Env) (s:qC) (H:Hp) (vs:qA V) (Q:VK) (E:XK),Room k (A.deeper (envOfC x (A2 st) s.heap.objs.size f a))->sp vs H Q E ->
   ∃t,JB (L9 (CXE P w) P w K mg base N x (A2 st) f a A outer s H E) (G5 st) t/\t {nx:=λ_ H'=>Q .non H',rt:=Q} (start N vs) H):OkE P w K mg base x (k+1) ps sp:=by
 obtain⟨f,fd,h1,h2,i⟩:=F.ex;refine⟨f,fd,h1,h2.kp,i,?_⟩;obtain⟨oc,od,kV,g,pm,an,a,ct,m,rfl,l,c⟩:=h2.ex;refine b6F l c S e λA outer s H vs Q E j d=>?_;obtain⟨t,h,q⟩:=b a f A outer s H vs Q E j d;exact⟨t,h.h,q⟩
def b6b(i:Nat)(sp:Sp)(t:TA):TX:=λD R σ H=>t σ H λvs H1=>sp vs H1 (λv H2=>D.nx (σ.set i (some v)) H2) λc _ H'=>∃C,c=.ref C/\R σ C H'
def b4F{y:Str}{p pos pos':Pos}{i:Nat}(m:∀e s,¬X.xe e s)(O:OkE X.prog X.w X.K X.mg X.base x k ps sp)(Y:Room k X.A)(T:Gl X x)
  (M:X.N.Nodup) (hi:X.N[i]?=some y) (Z:Loc X.env.scope y) (N:PA X (e::es) t) (j:(x==("__debug__" : Str))=false:=by decide)
  (Q:starEach (e::es) X.env=(false,eval e X.env)::starEach es X.env:=by rfl) (l:(backTo qM (starEach es X.env)).any (·.1)=false:=by rfl)
  (hs:swapsWith (.Call (.Name x p) (e::es) [] qM) (some (.Name y pos')) pos.line X.env=pure false:=by rfl) (S:X.fn y=true∨X.env.scope.names.lookup y=some .local:=by first|exact .inl rfl|exact .inr rfl|assumption) :
  PSx X [.Assign [.Name y pos'] (.Call (.Name x p) (e::es) [] qM) pos] (b6b i sp t):=by
 intro qK s σ H D R I h;obtain⟨f,fd,W,U,P,F⟩:=O.ex;refine wpAny_execs_cons (wpAny_Assign_Name ?_ hs);refine el (a1m I T W ?_ j);refine PySem.W.callWith_K (h₀:=X.base) I.ok.mod.kin U (du (N qM qK s σ H _ I h) (λd s1 ⟨vs,H1,a,r,q⟩=>⟨a.kIn,?_⟩) λe s z=>absurd z (m e s)) Q l;have V:d.length=ps.length:=by rw[<-r.length];exact F.len _ _ _ _ q
 have b:=P s1 d a.kIn (by rw[cY];exact V);rw[cY]at b;refine wpAny_call (dy (F.run X.A X.stack s1 H1 ⟨d,[]⟩ d vs _ _ Y a.env0 b r q) λr s' c=>?_);cases r with
 |error e =>
  obtain⟨p,C,H',B,a0,h1,h2,w,A,E,G,J,K,C',L,g⟩:=c;cases L;exact⟨σ,H1,s1,p,C,H',B,a0,h1,a,h2,w,A,E,G,J,K,g⟩
 |ok fl =>
  cases fl with
  |ret u =>
   obtain⟨v,H2,n,rv,q2⟩:=a.after c;exact a3a n M hi Z rv (λs2 o=>ek ⟨_,H2,o,q2⟩) S
  |next=>exact False.elim c
  |brk=>exact False.elim c
  |cont=>exact False.elim c
section
variable {M:Model}{E:qH}
structure ClsX(K:qF)(C:qE)(above:qA qB):Prop where
 ex:∃nm q N bs bm hdct sn sub ab col dd k0 k1 k2 k3 k5 newId,K.lookup C=some (excClassObj nm q C N bs bm hdct sn sub ab col dd k0 k1 k2 k3 k5 newId)/\bm.contains (.type "BaseException")=true/\∀v∈above,bm.contains v=true
end
section
variable {qK:qA (qE×Obj)}{σ:St}{H1 H':Hp}{s1 s':qC}{p:qE}{B:Heap}{a0:qB}{h2:Heap}
def Inv.land(a:Inv X qK σ H1 s1)(e:s'.os=s1.os)(k:AllBare s'.gens)(g:Un (frs X.stack) [] H1 H' s1.heap s'.heap)(d:HOk X.prog X.w H' s'.heap)(i:s'.heap.FunFrames B X.stack)(c:Cov X.stack H' s1.heap s'.heap B)(st:B.StaysIn h2)(m:s'.heap.UpToSlots h2) :
  Inv X qK σ H' {s' with heap:=h2}:=by
 have j:∀b∈frs X.stack,H' b=none:=λb h=>by
  obtain⟨_,o,l,_⟩:=a.stack.mem h;exact g.free b o l (a.stkFree b h) (by simp)
 obtain⟨U2,f,_⟩:=a1t g d c st m i j;exact a.call' (ch:=[]) e U2 f k (λb z=>absurd z (by simp))
def Inv.landX(i:Inv X qK σ H1 s1)(t:s'.os=s1.os)(H:AllBare s'.gens)(A:Un (frs X.stack) [] H1 H' s1.heap s'.heap)(s:HOk X.prog X.w H' s'.heap)(hp:H' p=none)(F:s'.heap.FunFrames B X.stack)(j:Cov X.stack H' s1.heap s'.heap B)(c:Heap.FlyingW B X.stack p (.ref C) a0 h2)(N:s'.heap.UpToSlots h2) :
  Inv X qK σ (upd H' p (b3B p C)) {s' with heap:=h2}:=by
 have G:∀b∈frs X.stack,H' b=none:=λb h=>by
  obtain⟨_,o,r,_⟩:=i.stack.mem h;exact A.free b o r (i.stkFree b h) (by simp)
 obtain⟨U2,x,f⟩:=a1t A s j c.1 N F G;obtain⟨w,d,hcl⟩:=c.there;have v:p∉frs X.stack:=λh=>by
  obtain⟨_,o,r,J⟩:=c.2.2.1.mem h;obtain⟨K,O,_,_,_,g,_,l,_⟩:=c.2.2.2;rw[r]at g;cases g;exact J O l
 have m:∀o,s1.heap.get? p≠some o:=λo e=>by
  have:=f p w d v (.inr ⟨o,e⟩);rw[c.2.1]at this;cases this
 have E:Un (frs X.stack) [] H1 (upd H' p (b3B p C)) s1.heap h2:=by
  refine⟨U2.keep,U2.slot,λb o e n I=>?_,U2.there,λb xs e=>?_,λb o u e=>?_,λb ps e=>?_⟩
  .rw[A3 (by rintro rfl;exact m o e)];exact U2.free b o e n I
  .have q:=U2.tups b xs e;rw[A3 (by rintro rfl;rw[hp]at q;cases q)];exact q
  .have q:=U2.frzs b o u e;rw[A3 (by rintro rfl;rw[hp]at q;cases q)];exact q
  .obtain⟨more,q⟩:=U2.tbls b ps e;exact⟨more,by rw[A3 (by rintro rfl;rw[hp]at q;cases q)];exact q⟩
 have y:HOk X.prog X.w (upd H' p (b3B p C)) h2:=λa o e=>by
  by_cases D:a=p
  .subst D;rw[A0]at e;cases e;exact⟨⟨w,d,hcl⟩,⟨w,d⟩,λP Q ⟨o,L,M⟩ k=>⟨o,k o L,M⟩⟩
  .rw[A3 D]at e;refine(x a o e).stay (λb u _ q=>q) (λb q=>?_) λb xs q=>?_
   .rw[A3 (by rintro rfl;rw[hp]at q;cases q)];exact q
   .rw[A3 (by rintro rfl;rw[hp]at q;cases q)];exact q
 exact i.call' (ch:=[]) t E y H (λb z=>absurd z (by simp))
end
section
variable {qK:qA (qE×Obj)}{σ:St}{s:qC}
abbrev Cx.held(X:Cx)(p:qE):Cx:={X with A:=X.A.mark (some (.ref p)),calm:=false,xe:=λ_ _=>False}
def Inv.held(I:Inv X qK σ H s)(p:qE):Inv (X.held p) qK σ H s :=
 ⟨⟨I.ok.mod,I.ok.kind,I.ok.glob,I.ok.blt,I.ok.above,I.ok.inj,I.ok.has,I.ok.cab,(λz=>by cases z),I.ok.frames,I.ok.stk,I.ok.exf,I.ok.bs,I.ok.bsz,I.ok.noex,I.ok.exfs,I.ok.funs,I.ok.frf⟩,I.os,I.bare,I.base,I.loc,I.cell,I.free,I.freeC,I.pin,I.hok,I.len⟩
def Inv.unheld{p:qE}(J:X.Ok)(I:Inv (X.held p) qK σ H s):Inv X qK σ H s :=
 ⟨J,I.os,I.bare,I.base,I.loc,I.cell,I.free,I.freeC,I.pin,I.hok,I.len⟩
end
structure JX(X:Cx)(sts:qA Stmt)(t:TX):Prop where
 h:PSx X sts t
section
variable {y:Str}{p pos pos':Pos}{i:Nat}
def b7P(O:OkE X.prog X.w X.K X.mg X.base x k ps sp)(l:Room k X.A)(j:Gl X x)(d:X.N.Nodup)(hi:X.N[i]?=some y)(m:Loc X.env.scope y)(f:JA X (e::es) t)(c:∀e s,¬X.xe e s:=by exact λ_ _ z=>z)(a:(x==("__debug__" : Str))=false:=by decide)
  (g:starEach (e::es) X.env=(false,eval e X.env)::starEach es X.env:=by rfl) (b:(backTo qM (starEach es X.env)).any (·.1)=false:=by rfl)
  (hs:swapsWith (.Call (.Name x p) (e::es) [] qM) (some (.Name y pos')) pos.line X.env=pure false:=by rfl) (h:X.fn y=true∨X.env.scope.names.lookup y=some .local:=by first|exact .inl rfl|exact .inr rfl|assumption) :
  JX X [.Assign [.Name y pos'] (.Call (.Name x p) (e::es) [] qM) pos] (b6b i sp t):=⟨b4F c O l j d hi m f.h a g b hs h⟩
end
def b3i{qual:Str}{scope:Scope}{f:qE}{cd:qB}{outer:qA Env}{s0:qC}{b:Hp}{E:XK}{bmB c:qA qB}{B j newId i a h:String}{p pos:Pos}
  (O:OwnCls x C bmB newId mg base) (l:ExcBaseFacts j newId h c) (d:bmB.contains (.type j)=true) (k:ExcBaseFacts B i a bmB)
  (o:Gl (L9 (CXE P w) P w K mg base N qual scope f cd A outer s0 b E) x)
  (m:JA (L9 (CXE P w) P w K mg base N qual scope f cd A outer s0 b E) (e::es) t) (hd:(x==("__debug__" : Str))=false:=by decide)
  (n:starEach (e::es) (envOfC qual scope s0.heap.objs.size f cd)=(false,eval e (envOfC qual scope s0.heap.objs.size f cd))::starEach es (envOfC qual scope s0.heap.objs.size f cd):=by rfl)
  (g:(backTo qM (starEach es (envOfC qual scope s0.heap.objs.size f cd))).any (·.1)=false:=by rfl) :
  JS (L9 (CXE P w) P w K mg base N qual scope f cd A outer s0 b E) (.Raise (some (.Call (.Name x p) (e::es) [] qM)) none pos) (b1I C E t):=⟨b2w O l d k o m.h hd n g⟩
end L2
namespace L2
open PySem PySem.Spec PyProof.Rows PySem.W Builtin Builtin.ObjectAttr Builtin.Getset_descriptor
section
variable {K:qF}{prog:qG}{w:World}{A:Around}{E:qH}{h:Heap}{g:Array GenState}{d:Drawn}{t:Nat}{os:OsState}{a:qE}{o:Obj}{nm q:Str}{C N:qE}{bs bm:qA qB}{hdct:Bool}{sn:qA Str}{sub:qA qB}{ab:Bool}{col:qD Bool}{dd:qD qE}{k0 k1 k2 k3 k5:qD qB}{newId:String}
end
section
variable {X:Cx}{es:qA Expr}{e:Expr}{t:TA}{pos p:Pos}
end
end L2
namespace L2
open PySem PySem.Spec PyProof.Rows
variable {A:Around}{H:Hp}{K:qF}{a:qE}{caps σ:St}{rss:LLI}{src:qA (qJ)}{te:TE}{vs:qA V}{w:World}{α:Type}
def a1q{ca:α->V}{xs:qA α}{i:Nat}{x:V}(h:(xs.map ca)[i]?=some x):∃z,xs[i]?=some z/\x=ca z:=by
 rw[aZ]at h;cases e:xs[i]? with
 |none=>rw[e]at h;cases h
 |some z=>rw[e]at h;exact⟨z,rfl,(bH h).symm⟩
def b3Y{β:Type}{Q:VK}{k1 k2:Bool}{b:qE}(ca:α->V)(d:β->V){xs:qA α}{ys:qA β}(f:α->β->V)(u:xs.length<=1000)
  (c:∀H',Same H H'->SqK k1 K H' a (xs.map ca)/\SqK k2 K H' b (ys.map d))
  (k:B4 src σ=none::none::caps) (o:∀x y H1 q,x∈xs->y∈ys->Same H H1->(∀H2,Same H1 H2->q (f x y) H2)->te (some (ca x)::some (d y)::caps) H1 q)
  (hd:∀H1 p,Same H H1->H1 p=none->Q (.ref p) (upd H1 p (.lst (List.zipWith f xs ys)))) :
  G0 src (a7p K 2 (Y6 (B0 0) (Y6 (B0 1) a8v))) O0 te σ Q (Itz K k1 k2 a b) H:=by
 have w:(1000:Nat)<=sizeLine:=by rw[aT];decide
 refine a0j (xs:=xs.map ca) (zs:=ys.map d) (by rw[ai];omega) (λi zs H'=>Same H H'/\zs=(List.zipWith f xs ys).take i) ⟨Same.refl H,by simp⟩ (λi zs H' _ _ h=>⟨(c H' h.1).1,(c H' h.1).2,by rw[h.2];exact bF _ _⟩) ?_ ?_
 .rintro i x z zs H' p hx hy ⟨s,rfl⟩ hp;obtain⟨n,l,r⟩:=a1q hx;obtain⟨g,m,t⟩:=a1q hy;subst r t;clear hx hy;have s':Same H (upd H' p (.tup [ca n,d g])):=s.upd hp;refine⟨p,[ca n,d g],rfl,SqT.of A0,rfl,ca n,[d g],rfl,d g,[],rfl,rfl,?_⟩;rw[k];show Sub _ (some (ca n)::some (d g)::caps)/\_;refine⟨⟨rfl,λj v e=>?_⟩,?_⟩
  .match j,e with
   |0,e=>cases e
   |1,e=>cases e
   |j+2,e=>exact e
  .exact o n g _ _ (aE l) (aE m) s' λH2 s2=>⟨s'.trans s2,(O3 f l m).symm⟩
 .rintro zs H' ⟨s,rfl⟩ p hp;have e:(List.zipWith f xs ys).take (min (xs.map ca).length (ys.map d).length)=List.zipWith f xs ys:=by
   rw[ai,ai,cj];rw[cZ];exact aq _
  rw[e];exact hd H' p s hp
def a8S{Q:VK}(ca:α->V){xs:qA α}(f:α->V)(j:xs.length<=1000)(b:∀H',Same H H'->SqT K H' a (xs.map ca))(c:B4 src σ=none::caps)
  (e:∀x H1 g,x∈xs->Same H H1->(∀H2,Same H1 H2->g (f x) H2)->te (some (ca x)::caps) H1 g) (hd:∀H1 p,Same H H1->H1 p=none->Q (.ref p) (upd H1 p (.lst (xs.map f)))):G0 src (B0 0) O0 te σ Q (Itt K a) H:=by
 have k:(1000:Nat)<=sizeLine:=by rw[aT];decide
 refine K6 (xs:=xs.map ca) (by rw[ai];omega) (λi ys H'=>Same H H'/\ys=(xs.take i).map f) ⟨Same.refl H,by simp⟩ (λi ys H' _ h=>⟨b H' h.1,by rw[h.2,ai];exact bF _ _⟩) ?_ ?_
 .rintro i x ys H' hx ⟨s,rfl⟩;obtain⟨z,d,rfl⟩:=a1q hx;show Sub _ ((B4 src σ).set 0 (some (ca z)))/\_;rw[c];refine⟨Sub.one,e z H' _ (aE d) s λH2 s2=>⟨s.trans s2,?_⟩⟩;rw[bg,d];simp
 .rintro ys H' ⟨s,rfl⟩ p hp;rw[ai,bh];exact hd H' p s hp
def a9Z{Q:VK}(ca:α->V){xs:qA α}{j:TT}(t:α->Bool)(k:xs.length<=1000)(b:∀H',Same H H'->SqT K H' a (xs.map ca))(c:B4 src σ=none::caps)
  (f:∀x H1 (g:Bool->Hp->Prop),x∈xs->Same H H1->(∀H2,Same H1 H2->g (t x) H2)->j (some (ca x)::caps) H1 g) (hd:∀H1 p,Same H H1->H1 p=none->Q (.ref p) (upd H1 p (.lst ((xs.filter t).map ca)))):G0 src (B0 0) j (L4 0) σ Q (Itt K a) H:=by
 have l:(1000:Nat)<=sizeLine:=by rw[aT];decide
 refine K6 (xs:=xs.map ca) (by rw[ai];omega) (λi ys H'=>Same H H'/\ys=((xs.take i).filter t).map ca) ⟨Same.refl H,by simp⟩ (λi ys H' _ h=>⟨b H' h.1,by rw[h.2,ai];exact a_ (bD _ _) (bF _ _)⟩) ?_ ?_
 .rintro i x ys H' hx ⟨s,rfl⟩;obtain⟨z,d,rfl⟩:=a1q hx;show Sub _ ((B4 src σ).set 0 (some (ca z)))/\_;rw[c];refine⟨Sub.one,f z H' _ (aE d) s λH2 s2=>?_⟩;rw[bg,d];cases e:t z with
  |true=>exact⟨_,rfl,s.trans s2,by simp[e]⟩
  |false=>exact⟨s.trans s2,by simp[e]⟩
 .rintro ys H' ⟨s,rfl⟩ p hp;rw[ai,bh];exact hd H' p s hp
def b9e{P:qG}{mg:Str->qD qB}{base:Heap}{N:qA Str}{qual:Str}{scope:Scope}{f:qE}{cd:qB}{outer:qA Env}{s0:qC}{v:Hp}{E:XK} :
  a0m (CXE P w) (L9 (CXE P w) P w K mg base N qual scope f cd A outer s0 v E) E:=by
 intro qK σ H1 s1 e s' I h;obtain⟨p,C,H',B,a0,rfl,s,x,J,n,L,d,i,q⟩:=h;have g:=I.land s x J n d.2.2.1 i d.1 (λb o e _=>⟨o.slots,e⟩);refine wpAny_leaves_onW (base:=B) I.ok.frames rfl d λh' D M=>?_;have r:∀b∈frs outer,b∈frs (envOfC qual scope s0.heap.objs.size f cd::outer):=λb a=>by
  obtain⟨c,h1,h2⟩:=ck.mp a;exact ck.mpr ⟨c,ax _ h1,h2⟩
 have m:∀b,b∉frs outer->b≠s0.heap.objs.size->b∉frs (envOfC qual scope s0.heap.objs.size f cd::outer):=λb h1 h2 G=>by
  obtain⟨c,u,y⟩:=ck.mp G;rcases aF.mp u with rfl|u
  .exact h2 (bH y).symm
  .exact h1 (ck.mpr ⟨c,u,y⟩)
 have j:Cov outer H' s0.heap s'.heap B:=λb o F nb a=>by
  refine i b o F (m b nb λz=>?_) ?_
  .subst z;rcases a with a|⟨o',a⟩
   .exact a g.free
   .exact absurd (aJ a) (bX _)
  .rcases a with a|⟨o',a⟩
   .exact .inl a
   .exact .inr (I.base.there b o' a (λz=>nomatch z))
 obtain⟨U2,t,k⟩:=a1t (P:=P) (w:=w) (l:=outer) (H:=v) (H':=H') (h0:=s0.heap) (h1:=s'.heap) (h2:=h') g.base n j D.1 M g.funs λb a=>g.stkFree b (r b a);exact⟨p,C,H',B,a0,rfl,g.os,x,U2,t,L,D,k,q⟩
def b5A{P:qG}{mg:Str->qD qB}{base:Heap}{N:qA Str}{qual:Str}{scope:Scope}{f:qE}{cd:qB}{outer:qA Env}{s0:qC}{a:Hp}{E:XK}
  {k:Nat}{ps:qA Str}{sp:Sp}{x:Str}{e:Expr}{es:qA Expr}{t:TA}{p pos:Pos}(O:OkE P w K mg base x k ps sp) (l:Room k (L9 (CXE P w) P w K mg base N qual scope f cd A outer s0 a E).A) (j:Gl (L9 (CXE P w) P w K mg base N qual scope f cd A outer s0 a E) x)
  (h:JA (L9 (CXE P w) P w K mg base N qual scope f cd A outer s0 a E) (e::es) t) (b:(x==("__debug__" : Str))=false:=by decide)
  (i:starEach (e::es) (L9 (CXE P w) P w K mg base N qual scope f cd A outer s0 a E).env=(false,eval e (L9 (CXE P w) P w K mg base N qual scope f cd A outer s0 a E).env)::starEach es (L9 (CXE P w) P w K mg base N qual scope f cd A outer s0 a E).env:=by rfl)
  (c:(backTo pos (starEach es (L9 (CXE P w) P w K mg base N qual scope f cd A outer s0 a E).env)).any (·.1)=false:=by rfl) :
  JE (L9 (CXE P w) P w K mg base N qual scope f cd A outer s0 a E) (.Call (.Name x p) (e::es) [] pos) (a8U sp [] E t):=by
 obtain⟨m,fd,h1,h2,d,g⟩:=O.ex;exact⟨a9q g l j h1 h2 d .nil b9e h.h b i c⟩
def b5W{c:LLI}:((List.range (min rss.length c.length)).all (λj=>decide (rss.getD j []=c.getD j [])) && rss.length==c.length)=decide (rss=c):=by
 rw[cD];simp only[aM,aI,aY,br,bj];constructor
 .rintro⟨h1,h2⟩;refine eW h2 λi a b=>?_;have:=h1 i (by omega);simpa[av,a,b]using this
 .rintro rfl;exact⟨λ_ _=>rfl,rfl⟩
def EqV.its{k:Bool}{b:qE}{d:qA V}{c:LLI}(e:SqK k K H a vs)(f:SqK k K H b d)(h1:Its H vs rss)(h2:Its H d c):EqV K H 2 (.ref a) (.ref b) (decide (rss=c)):=by
 have step:∀j x y,vs[j]?=some x->d[j]?=some y->EqV K H 1 x y (decide (rss.getD j []=c.getD j [])):=λj x y l m=>by
  obtain⟨r,g,ra,rfl,i⟩:=h1.2 j x l;obtain⟨q,eq,n,rfl,h⟩:=h2.2 j y m;rw[av,av,g,eq];exact EqV.ints (k:=true) (SqT.of i) (SqT.of h)
 rw[<-b5W,<-h1.1,<-h2.1];cases k
 .exact EqV.lst (λj=>decide (rss.getD j []=c.getD j [])) e f step
 .exact EqV.tup (λj=>decide (rss.getD j []=c.getD j [])) e f step
def a2Y{Q:VK}(f:qI->V)(m:vs.length<=sizeLine)(b:∀H',Same H H'->SqT K H' a vs)(k:Its H vs rss)(c:B4 src σ=none::caps)
  (g:∀v r H1 j,r∈rss->IT H1 v r->Same H H1->(∀H2,Same H1 H2->j (f r) H2)->te (some v::caps) H1 j) (hd:∀H1 p,Same H H1->H1 p=none->Q (.ref p) (upd H1 p (.lst (rss.map f)))):G0 src (B0 0) O0 te σ Q (Itt K a) H:=by
 refine K6 (xs:=vs) (by omega) (λi ys H'=>Same H H'/\ys=(rss.take i).map f) ⟨Same.refl H,by simp⟩ (λi ys H' _ h=>⟨b H' h.1,by rw[h.2,ai];exact bF _ _⟩) ?_ ?_
 .rintro i x ys H' hx ⟨s,rfl⟩;obtain⟨r,l,d,e⟩:=k.mem hx;show Sub _ ((B4 src σ).set 0 (some x))/\_;rw[c];refine⟨Sub.one,g x r H' _ l (e.same s) s λH2 s2=>⟨s.trans s2,?_⟩⟩;rw[bg,d];simp
 .rintro ys H' ⟨s,rfl⟩ p hp;rw[k.1,bh];exact hd H' p s hp
def Its.put{c:qE}{xs:qA V}{o:HO}(h:Its H vs rss)(b:H c=some (.lst xs)):Its (upd H c o) vs rss:=⟨h.1,λi v e=>let ⟨r,e1,a,e2,q⟩:=h.2 i v e;⟨r,e1,a,e2,by rw[A3 (J8 q b (by intro z;cases z))];exact q⟩⟩
open _root_.HT
section
variable {prog:qG}{E:qH}{s:qC}
def a8F(n:Nat):Builtin.Slice.sliceAdjust none none (-1) (n:Int)=((n:Int)-1,-1):=by
 unfold Builtin.Slice.sliceAdjust;have h1:((-1:Int)<0):=by omega
 simp only[h1,e_]
def a8b(n:Nat):Builtin.Slice.slicePlaces ((n:Int)-1) (-1) (-1)=n:=by
 unfold Builtin.Slice.slicePlaces;have h1:¬((-1:Int) > 0):=by omega
 simp only[h1,if_false,Int.neg_neg,Int.ediv_one];split<;>omega
def a1F{sl:qE}{t:Tok}{n:Nat}{Q:Int×Int×Nat->qC->Prop}(hs:s.heap.IsSliceOf sl .none .none (.int (-1) t))
  (h:Q ((n:Int)-1,-1,n) s):wpAny (model prog w) A (Builtin.Slice.sliceApplied (.ref sl) (pure (n:Int))) Q E s:=by
 obtain⟨os,b,c,a⟩:=id hs;unfold Builtin.Slice.sliceApplied Builtin.Slice.sliceFields;refine aa (aa (cu b a (x:=.none) rfl (aa (cu b a (x:=.none) rfl (aa (cu b a (x:=.int (-1) t) rfl (ae ?_)))))));refine aa (slicePart_int ?_);show wpAny _ _ (if ((-1:Int)==0)=true then _ else _) _ _ s;rw[ar (by decide)];refine aa (slicePart_none (aa (slicePart_none (aa (ae ?_)))));show wpAny _ _ (match Builtin.Slice.sliceAdjust none none (-1) (n:Int)with | (lo,hi)=>pure (lo,(-1:Int),Builtin.Slice.slicePlaces lo hi (-1))) _ _ s;rw[a8F n];show wpAny _ _ (pure ((n:Int)-1,(-1:Int),Builtin.Slice.slicePlaces ((n:Int)-1) (-1) (-1))) _ _ s;rw[a8b];exact ae h
def a7q{α β:Type}{f g:α->qD β}:∀(l:qA α),(∀m∈l,f m=g m)->l.filterMap f=l.filterMap g
 |[],_=>rfl
 |a::l,h=>by
  rw[ed,ed,h a (aA ..),a7q l λm b=>h m (ax _ b)]
def b2z(xs:Array qB):((List.range xs.size).filterMap λ(m:Nat)=>xs[(((xs.size:Int)-1)+(m:Int)*(-1)).toNat]?).toArray=xs.toList.reverse.toArray:=by
 congr 1;have e:∀m∈List.range xs.size,xs[(((xs.size:Int)-1)+(m:Int)*(-1)).toNat]?=some (xs.toList.reverse.getD m .none):=λm c=>by
  have a:m<xs.size:=aY.mp c;have b:(((xs.size:Int)-1)+(m:Int)*(-1)).toNat=xs.size-1-m:=by omega
  rw[b,av,List.getElem?_reverse (by simpa using a),ay,aB,bP (by omega)];rfl
 rw[a7q _ e];rw[show(List.range xs.size).filterMap (λm=>some (xs.toList.reverse.getD m .none))=(List.range xs.size).map (λm=>xs.toList.reverse.getD m .none)from congrFun (List.filterMap_eq_map (f:=λm=>xs.toList.reverse.getD m .none)) _];refine eW (by simp) λi h1 h2=>?_;simp only[List.getElem_map,List.getElem_range];rw[av,ak h2];rfl
def a1s{t sl:qE}{items:Array qB}{tk:Tok}{Q:qH}(b:IsTup s.heap t items)(hs:s.heap.IsSliceOf sl .none .none (.int (-1) tk))
  (h:Q (.ref s.heap.objs.size) {s with heap:=s.heap.push {cls:=.type "tuple",data:=.seq items.toList.reverse.toArray}})
  (g:items.size<=sizeLine):wpAny (model prog w) A (getItem (.ref t) (.ref sl)) Q E s:=by
 have a:sizeOk (.seq items.toList.reverse.toArray):=by
  show items.toList.reverse.toArray.size<=sizeLine;rw[aD,List.length_reverse,ay];exact g
 obtain⟨os,f,d,i⟩:=id hs;have c:s.TypeIs (.ref sl) "slice":=⟨os,f,d⟩;unfold getItem
 try with_reducible refine cf ?_
 first|refine aa (ae ?_)|skip
 refine aa (wpAny_sequenceKey b.typeIs (by decide) ?_);refine aa (bO (name:=Str.ofString "__getitem__") b.typeIs bN
  (bQ bN b.typeIs entry_tuple_getitem ?_ (args_tuple_getitem _ _)))
 show wpAny _ _ (Builtin.Tuple.tupleItemsOf (.ref t)>>=_) _ _ s;refine aa (tupleItemsOf_ b ?_);refine aa (dX c ?_);rw[az (by decide)];refine aa (a1F hs ?_);have e:¬((((items.size:Int)-1)==0 && (-1:Int)==1 && items.size==items.size)=true):=by
  intro q;rw[aM,aM]at q;exact absurd q.1.2 (by decide)
 show wpAny _ _ (if ((((items.size:Int)-1)==0 && (-1:Int)==1 && items.size==items.size))=true then _ else _) _ _ s;rw[ar e,b2z]
 first
  |exact aa (m:=Builtin.Tuple.tupleExact _) (bK (ae ⟨_,rfl,ae h⟩) a)
  |exact aa (m:=Builtin.Tuple.tupleExact _) (bK (aa (ae (ae ⟨_,rfl,ae h⟩))) a)
  |exact aa (aa (m:=Builtin.Tuple.tupleExact _) (bK (ae (ae ⟨_,rfl,ae h⟩)) a))
  |exact aa (aa (m:=Builtin.Tuple.tupleExact _) (bK (ae ⟨_,rfl,ae h⟩) a))
def a0I{t sl:qE}{items:Array qB}{e f:qB}{lo hi:qD Int}{Q:qH}(a:IsTup s.heap t items)(hs:s.heap.IsSliceOf sl e f .none)(pl:IsPart e lo)(i:IsPart f hi)
  (hw:sIx items.size 0 lo=0/\sIx items.size items.size hi=items.size) (h:Q (.ref t) s):wpAny (model prog w) A (getItem (.ref t) (.ref sl)) Q E s:=by
 obtain⟨os,d,c,g⟩:=id hs;have b:s.TypeIs (.ref sl) "slice":=⟨os,d,c⟩;unfold getItem
 try with_reducible refine cf ?_
 first|refine aa (ae ?_)|skip
 refine aa (wpAny_sequenceKey a.typeIs (by decide) ?_);refine aa (bO (name:=Str.ofString "__getitem__") a.typeIs bN
  (bQ bN a.typeIs entry_tuple_getitem ?_ (args_tuple_getitem _ _)))
 show wpAny _ _ (Builtin.Tuple.tupleItemsOf (.ref t)>>=_) _ _ s;refine aa (tupleItemsOf_ a ?_);refine aa (dX b ?_);rw[az (by decide)];refine aa (V8 hs pl i ?_);rw[hw.1,hw.2];show wpAny _ _ (if ((((0:Nat):Int)==0 && (1:Int)==1 && (items.size-0)==items.size))=true then _ else _) _ _ s;rw[az (by simp)];refine aa (aa (dX a.typeIs (ae ?_)));rw[az (by decide)];exact aa (fP (ae ⟨_,rfl,ae h⟩))
end
section
variable {X:Cx}{e:Expr}{lo hi:qD Expr}{tl th:TO}{pos p2:Pos}
def b4D(K:qF):V->qD Int->qD Int->Hp->VK->Prop:=λx lo hi H Q=>∃a xs,x=.ref a/\SqT K H a xs /\
 ((HT.sIx xs.length 0 lo=0/\HT.sIx xs.length xs.length hi=xs.length)->Q (.ref a) H)/\(¬(HT.sIx xs.length 0 lo=0/\HT.sIx xs.length xs.length hi=xs.length)->∀p,H p=none->Q (.ref p) (upd H p (.tup (M0 xs lo hi))))
def b4m(K:qF)(i:X.K=K):SlR X (b4D K):=by
 subst i;intro qK s σ H x v l m lo hi sl Q I g hs e f h;obtain⟨a,xs,rfl,d,j,k⟩:=h;by_cases hw:HT.sIx xs.length 0 lo=0/\HT.sIx xs.length xs.length hi=xs.length
 .cases g;obtain⟨its,r,c,n⟩:=I.tuple d;have b:its.toArray.size=xs.length:=by rw[aD];exact r.length.symm
  refine⟨"tuple",_,bN.lookup,c.typeIs,?_⟩;exact a0I c hs e f (by rw[b];exact hw) ⟨.ref a,H,I,rfl,j hw⟩
 .exact b1V qK s σ H (.ref a) v l m lo hi sl Q I g hs e f ⟨a,xs,rfl,d,hw,k hw⟩
def b6A(K:qF)(b:JE X e te)(c:JO X lo tl)(d:JO X hi th)(a:X.K=K:=by rfl):JE X (.Subscript e (.Slice lo hi none p2) pos) (tSl (b4D K) te tl th):=⟨a3p (b4m K a) b.h c.h d.h⟩
def b8I(K:qF)(te ts:TE):TE:=λσ H Q=>te σ H λx H1=>ts σ H1 λy H2=>y=.int (-1)/\∃a xs,x=.ref a/\SqT K H2 a xs/\∀p,H2 p=none->Q (.ref p) (upd H2 p (.tup xs.reverse))
def b7X(K:qF){st:Expr}{j:TE}(p:JE X e te)(hs:JE X st j)(n:X.K=K:=by rfl):JE X (.Subscript e (.Slice none none (some st) p2) pos) (b8I K te j):=by
 subst n;refine⟨λqK s σ H Q I h=>?_⟩;refine Subscript_ (thn (p.h qK s σ H _ I h) λv s1 ⟨x,H1,l,B,z⟩=>?_);refine wpAny_Slice ?_;rw[evalPart_none];refine ae ?_;refine ae ?_;rw[evalPart_some];refine thn (hs.h qK s1 σ H1 _ l z) λu c ⟨y,k,m,C,A⟩=>?_;obtain⟨rfl,a,xs,rfl,t,q⟩:=A;obtain⟨tk,rfl⟩:=C;cases B;have f:Inv X qK σ k {c with heap:=c.heap.push {cls:=.type "slice",data:=.fields #[.none,.none,.int (-1) tk]}}:=m.kept (t':=c.toks) λb w q=>aj _ q;obtain⟨its,r,g,i⟩:=f.tuple t;have d:its.toArray.size=xs.length:=by rw[aD];exact r.length.symm
 show wpAny (model X.prog X.w) X.A (subscriptTail e (.Slice none none (some st) p2) (.ref a) (.ref c.heap.objs.size)) (EP X qK σ Q) X.xe {c with heap:=c.heap.push {cls:=.type "slice",data:=.fields #[.none,.none,.int (-1) tk]}};refine tail_any (ops:=[.ref a,.ref c.heap.objs.size]) g.typeIs bN.lookup ?_ (by with_unfolding_all rfl);refine a1s g (Heap.IsSliceOf.new ..) ?_ (by rw[d];exact i);refine⟨.ref _,_,f.laid (t':=c.toks) (o:=.tup xs.reverse) (λb w q=>aj _ q) (aq _) ?_,rfl,q _ (f.hok.fresh (aq _))⟩;exact⟨by rw[List.length_reverse];exact i,_,r.reverse,IsTup.new _ _⟩
def map_int_inj{a b:qI}:a.map V.int=b.map V.int↔a=b:=by
 constructor
 .intro h;induction a generalizing b with
  |nil=>cases b with
   |nil=>rfl
   |cons _ _=>cases h
  |cons x a c=>cases b with
   |nil=>cases h
   |cons y b =>
    rw[aV,aV]at h;injection h with h1 h2
    injection h1 with h1
    rw[h1,c h2]
 .rintro rfl;rfl
end
end L2
namespace L2
open PySem PySem.Spec PyProof.Rows
variable {A:Around}{C a:qE}{E Q:qH}{H H':Hp}{P:qG}{X:Cx}{e:Expr}{es:qA Expr}{h h':Heap}{qL:qA (qA Key×V)}{o:qD V}{p pos:Pos}{qK:qA (qE×Obj)}{ps:qA Str}{s:qC}{sp:Sp}{ta te:TE}{u:qB}{v y:V}{w:World}{x:Str}{xs:qA (qA Key×qE×qB)}{σ:St}
def b8Y:RL:=λxs H Q=>∃i:Int,xs=[.int i]/\Q (.int (if i<0 then -i else i)) H
def b1p:D9 X (.builtin "abs") b8Y:=by
 intro qK s σ H xs c Q I b h;obtain⟨i,rfl,q⟩:=h;obtain⟨u,rfl,a⟩:=b.one;obtain⟨t,rfl⟩:=a;exact call_abs_int λu tk=>⟨.int _,H,I.tok tk,⟨u,rfl⟩,q⟩
def b3m{t:TA}(d:Gl X "abs")(f:X.mg "abs"=none)(b:JA X (e::es) t)(c:starEach (e::es) X.env=(false,eval e X.env)::starEach es X.env:=by rfl)(a:(backTo pos (starEach es X.env)).any (·.1)=false:=by rfl):JE X (.Call (.Name "abs" p) (e::es) [] pos) (tCB b8Y t):=⟨F0 b1p d f b8v b.h (by decide) (by decide) c a⟩
section
variable {prog:qG}{k:Bool}
end
section
variable {M:Model}
def a2A{nm q:Str}{N:qE}{bs bm:qA qB}{hdct:Bool}{sn:qA Str}{sub:qA qB}{ab:Bool}{col:qD Bool}{dd:qD qE}{k0 k1 k2 k3 k5:qD qB}{newId:String}{g:Array GenState}{d:Drawn}{t:Nat}{os:OsState}{e:qE}{k:Obj}{Q:Bool->qC->Prop}
  (j:h.get? C=some (excClassObj nm q C N bs bm hdct sn sub ab col dd k0 k1 k2 k3 k5 newId)) (l:h.get? e=some k) (b:k.cls=.ref C)
  (a:bm.contains (.type "BaseException")=true) (m:Q true ⟨h,g,d,t,os⟩):wpAny M A (excMatches (.ref e) (.ref C)) Q E ⟨h,g,d,t,os⟩:=by
 have c:(Value.ref C::bm).contains (.type "BaseException")=true:=by rw[List.contains_cons,a,Bool.or_true]
 have i:(Value.ref C::bm).contains (.ref C)=true:=by rw[List.contains_cons];simp
 have f:=tc_notTuple;unfold excMatches
 repeat (first | (with_reducible refine wpAny_loadPart_at l ?_;rw[b])|with_reducible refine wpAny_loadPart_at j ?_ | (with_reducible refine wpAny_isSubtype_exc j ?_;first|rw[c]|rw[i])|wp_step)
 exact m
end
def b1H(K:qF)(D:qE)(tx:TX)(ts:TS):TS:=λDe σ H=>tx De (λσ1 C H'=>C=D/\∀p,H' p=none->ts De σ1 (upd H' p (b3B p C))) σ H
def b2v{body:qA Stmt}{tx:TX}{P:TS}{n:Str}{np m:Pos}{K:Stmt}{b:qA Stmt}{D:qE}(j:X.stack=X.env::X.outer)(w:X.env.frame=some X.env.locals)(hx:PSx X body tx)
  (hg:Gl X n) (hm:X.mg n=some (.ref D)) (Z:ClsX X.K D [])
  (y:∀p,PSs (X.held p) (K::b) P) (hd:(n==("__debug__" : Str))=false:=by decide) :
  PS X (.Try body [.ExceptHandler (some (.Name n np)) none (K::b) m] [] [] pos) (b1H X.K D tx P):=by
 intro qK s σ H G I h;refine wpAny_Try_except (du (hx qK s σ H G _ I h) (λf s1 q=>?_) λe s' q=>?_)
 .cases f with
  |next=>exact ek q
  |brk=>exact q
  |cont=>exact q
  |ret v=>exact q
 .obtain⟨σ1,H1,s1,p,C,H',B,a0,rfl,I1,hos,hbare,hU,hok,hp,fl,cov,hC,k⟩:=q;subst hC;have N:=fl.2.2.1;have l:=fl;rw[j]at l;refine wpAny_looks_onW (L:=X.env.locals) (by rw[<-j];exact I1.ok.frames) w l λh4 i E=>?_;refine wpAny_landsW i λW c d=>?_;rw[<-j]at c;have d:=E.trans d;have J:Inv X qK σ1 H' {s' with heap:=W}:=I1.land hos hbare hU hok N cov c.1 d;refine wpAny_handleBy_cons (codeAny_handlers_test ?_) (by intro q;cases q);refine a1m (X:=X.held p) (J.held p) hg hm ?_ hd;obtain⟨oe,x,hcl⟩:=c.there;obtain⟨a1,q',R,U,T,u,a2,O,S,M,V,j0,j1,j2,j3,j5,o,A,t,_⟩:=Z.ex;refine a2A (J.kIn _ _ A) x hcl t ?_;refine codeAny_handlers_suite ?_;refine lands_againW c λY r F=>?_;have Q:Inv X qK σ1 (upd H' p (b3B p C)) {s' with heap:=Y}:=I1.landX hos hbare hU hok hp N cov r (d.trans F);refine du (y p qK _ _ _ G (Q.held p) (k p hp)) (λf s8 a=>?_) λ_ _ z=>False.elim z;cases f with
  |next=>obtain⟨σ2,H2,g,a⟩:=a;exact⟨σ2,H2,g.unheld I.ok,a⟩
  |brk=>obtain⟨σ2,H2,g,a⟩:=a;exact⟨σ2,H2,g.unheld I.ok,a⟩
  |cont=>obtain⟨σ2,H2,g,a⟩:=a;exact⟨σ2,H2,g.unheld I.ok,a⟩
  |ret v=>obtain⟨v',σ2,H2,g,rv,a⟩:=a;exact⟨v',σ2,H2,g.unheld I.ok,rv,a⟩
section
variable {k:Nat}{qM:Pos}{t:TA}
def b3h(K:qF){body:qA Stmt}{tx:TX}{h:TS}{c:Str}{n b:Pos}{g:Stmt}{a:qA Stmt}{D:qE}(m:JX X body tx)(k:Gl X c)(l:X.mg c=some (.ref D))(i:ClsX K D [])
  (f:∀p,JB (X.held p) (g::a) h) (j:X.K=K:=by rfl) (e:X.stack=X.env::X.outer:=by rfl) (d:X.env.frame=some X.env.locals:=by rfl) (hd:(c==("__debug__" : Str))=false:=by decide) :
  JS X (.Try body [.ExceptHandler (some (.Name c n)) none (g::a) b] [] [] pos) (b1H K D tx h):=by
 subst j;exact⟨b2v e d m.h k l i (λp=>(f p).h) hd⟩
end
section
variable (P:qG)(w:World)
end
section
variable {o:HO}
end
section
variable {x e:qE}{o':HO}
end
section
variable {fs fs' ex ex':qA qE}{H1 H2:Hp}{h1 h2:Heap}{x e:qE}{o:HO}
end
section
variable {σ:qA (qD V)}
end
section
variable {a b:Expr}{tb:TE}
variable {tA tB':TT}{rest:qA Expr}
end
section
variable {xs ys:qA V}
end
section
variable {st:Stmt}{rest:qA Stmt}{t u:TS}
end
section
variable {tg:Expr}
end
section
variable {a b c:Expr}{tb tc:TE}
end
section
variable {prog:qG}{K:qF}{x dx f:qE}{mA:Str->qD qB}{name:Str}{v:qB}
end
section
variable {dx:qE}{fs fs':qA (Str×V)}
end
section
variable {dx:qE}{fs:qA (Str×V)}{f:Str}
end
section
variable {o value:Expr}{f:Str}{pos' tpos:Pos}{tv:TE}
end
section
variable {c:qB}{b:Bool}
end
section
variable {t:TA}
end
section
variable {s':qC}
end
section
variable {CX:CXT}{k:Nat}{f:qE}{fd:FuncData}{dvs:qA V}{ds:qA qB}{E:XK}{m:Str}{qP:Pos}{o:Expr}{t:TA}
end
section
variable {CX:CXT}{k:Nat}{f:qE}{fd:FuncData}{ks:qA Str}{E:XK}{m:Str}{qP kpos:Pos}{o:Expr}{kws:qA Keyword}{t tk:TA}{nm:qD Str}
variable {g:qA qB->qA qB->qA qB}{gV:qA V->qA V->qA V}
end
section
variable {t:TA}{id T:String}{r:qA V->Hp->VK->Prop}
end
section
variable {κ:Type}[DecidableEq κ]
def V6(qL:qA (κ×V))(k:κ):qD V:=(qL.find? λkv=>decide (kv.1=k)).map (·.2)
def a0H(qL:qA (κ×V))(k:κ)(v:V):qA (κ×V) :=
 if (qL.any λkv=>decide (kv.1=k))=true then qL.map (λkv=>if kv.1=k then(kv.1,v)else kv)else qL++[(k,v)]
def a2W{p:κ×V}{r:qA (κ×V)}{k:κ}(e:p.1=k):V6 (p::r) k=some p.2:=by simp[V6,eB,e]
def a2X{p:κ×V}{r:qA (κ×V)}{k:κ}(e:¬p.1=k):V6 (p::r) k=V6 r k:=by simp[V6,eB,e]
def V5(k:κ):∀qL:qA (κ×V),(qL.any λa=>decide (a.1=k))=(V6 qL k).isSome
 |[]=>rfl
 |p::r=>by
  rw[List.any_cons];by_cases e:p.1=k
  .simp only[a2W e,bz e,Bool.true_or,Option.isSome_some]
  .rw[a2X e,bG e,dn];exact V5 k r
def a2m(qL:qA (κ×V))(k:κ)(v:V):(a0H qL k v).length<=qL.length+1:=by
 unfold a0H;split
 .rw[ai];omega
 .rw[ag,aX,eC];omega
def a6S{qL:qA (κ×V)}{k:κ}(v:V)(h:V6 qL k=none):a0H qL k v=qL++[(k,v)]:=by
 unfold a0H;rw[V5,h];exact ar (by decide)
def RelO.isSome_eq{u:qD qB}(r:RelO o u):o.isSome=u.isSome:=by
 cases o with
 |none=>cases u with
  |none=>rfl
  |some _=>exact(show False from r).elim
 |some _=>cases u with
  |none=>exact(show False from r).elim
  |some _=>rfl
def KV.val{qL:qA (κ×V)}{vs:qA (κ×qB)}(r:KV qL vs)(k:κ):RelO (V6 qL k) (valueAt vs k):=by
 unfold KV at r;induction r with
 |nil=>exact True.intro
 |@cons p q ps qs h t a =>
  obtain⟨h1,h2⟩:=h;by_cases e:p.1=k
  .have e':q.1=k:=h1.symm.trans e;have b:valueAt (q::qs) k=some q.2:=by simp[valueAt,eB,e']
   rw[a2W e,b];exact h2
  .have e':¬q.1=k:=λz=>e (h1.trans z);have b:valueAt (q::qs) k=valueAt qs k:=by simp[valueAt,eB,e']
   rw[a2X e,b];exact a
def KV.any{qL:qA (κ×V)}{vs:qA (κ×qB)}(r:KV qL vs)(k:κ):(qL.any λa=>decide (a.1=k))=vs.any λa=>decide (a.1=k):=by
 unfold KV at r;induction r with
 |nil=>rfl
 |cons h t b=>rw[List.any_cons,List.any_cons,b,h.1]
def KV.repl{qL:qA (κ×V)}{vs:qA (κ×qB)}(r:KV qL vs)(k:κ)(c:RelV y u) :
  KV (qL.map λa=>if a.1=k then(a.1,y)else a) (vs.map λa=>if a.1=k then(a.1,u)else a):=by
 unfold KV at r⊢;induction r with
 |nil=>exact .nil
 |@cons p q ps qs h t b =>
  rw[aV,aV];refine .cons ?_ b;obtain⟨h1,h2⟩:=h;by_cases e:p.1=k
  .rw[az e,az (h1.symm.trans e)];exact⟨h1,c⟩
  .rw[ar e,ar (λz=>e (h1.trans z))];exact⟨h1,h2⟩
def KV.put{qL:qA (κ×V)}{vs:qA (κ×qB)}(r:KV qL vs)(k:κ)(a:RelV y u):KV (a0H qL k y) (stored vs k u):=by
 unfold a0H stored;rw[r.any k];by_cases e:(vs.any λb=>decide (b.1=k))=true
 .rw[az e,az e];exact r.repl k a
 .rw[ar e,ar e];exact Paired.snoc r ⟨rfl,a⟩
def KV.length{qL:qA (κ×V)}{vs:qA (κ×qB)}(r:KV qL vs):qL.length=vs.length:=Paired.length r
end
def a9w{k:Key}(r:RelV (kV k) u):(C4 P w).is k u=true:=by
 cases k with
 |inl i=>obtain⟨t,e⟩:=(show ∃t,u=Value.int i t from r);subst e;exact a7a P w i t
 |inr x=>obtain⟨t,e⟩:=(show ∃t,u=Value.str x t from r);subst e;exact a6Z P w x t
def a4M{P:qG}{w:World}:∀{ks:qA Key}{us:qA qB},Vals (ks.map kV) us->ItemsAre (C4 P w) ks us
 |[],_,r=>by rw[List.map_nil]at r;cases r;exact .nil
 |k::ks,_,r=>by
  rw[aV]at r;cases r with
  |cons h t=>exact .cons (a9w h) (a4M t)
abbrev KT(H:Hp):qA (qA Key×V)->qA (qA Key×qE×qB)->Prop:=Paired λp q=>p.1=q.1/\H q.2.1=some (.tup (p.1.map kV))/\RelV p.2 q.2.2
def KT.val(r:KT H qL xs)(k:qA Key):RelO (V6 qL k) ((atKey xs k).map (·.2)):=by
 induction r with
 |nil=>exact True.intro
 |@cons p q ps qs h t a =>
  obtain⟨h1,_,h2⟩:=h;by_cases e:p.1=k
  .have e':q.1=k:=h1.symm.trans e;have b:atKey (q::qs) k=some q.2:=by simp[atKey,eB,e']
   rw[a2W e,b];exact h2
  .have e':¬q.1=k:=λz=>e (h1.trans z);have b:atKey (q::qs) k=atKey qs k:=by simp[atKey,eB,e']
   rw[a2X e,b];exact a
def KT.repl(r:KT H qL xs)(k:qA Key)(d:RelV y u) :
  KT H (qL.map λa=>if a.1=k then(a.1,y)else a) (xs.map (putAt k u)):=by
 induction r with
 |nil=>exact .nil
 |@cons p q ps qs h t c =>
  rw[aV,aV];refine .cons ?_ c;obtain⟨h1,h2,b⟩:=h;unfold putAt;by_cases e:p.1=k
  .rw[az e,az (h1.symm.trans e)];exact⟨h1,h2,d⟩
  .rw[ar e,ar (λz=>e (h1.trans z))];exact⟨h1,h2,b⟩
def KT.put(r:KT H qL xs)(k:qA Key){b:qE}(c:H b=some (.tup (k.map kV)))(a:RelV y u) :
  KT H (a0H qL k y) (storedH xs k b u):=by
 have e:(qL.any λd=>decide (d.1=k))=(atKey xs k).isSome:=by
  rw[V5,(r.val k).isSome_eq,Option.isSome_map]
 unfold a0H storedH;rw[e];by_cases q:(atKey xs k).isSome=true
 .rw[az q,az q];exact r.repl k a
 .rw[ar q,ar q];exact Paired.snoc r ⟨rfl,c,a⟩
def KT.keeps(r:KT H qL xs)(a:∀b ys,H b=some (.tup ys)->H' b=some (.tup ys)):KT H' qL xs :=
 Paired.mapP r λ_ _ z=>⟨z.1,a _ _ z.2.1,z.2.2⟩
def b6o{u:HO}(ok:HOk P w H h)(e:Rd H a u):ObjOk P w H h a u:=e.ok ok
def b3G{qL:qA (Key×V)}(ok:HOk P w H h)(e:Rd H a (.dK qL)):qL.length<=sizeLine/\(a==sysModules)=false/\∃vs,KV qL vs/\h.DictOf (C4 P w) a vs :=
 show ObjOk P w H h a (.dK qL)from b6o ok e
def b9s{qL:qA (Key×V)}(ok:HOk P w H h)(e:H a=some (.dK qL)):qL.length<=sizeLine/\(a==sysModules)=false/\∃vs,KV qL vs/\h.DictOf (C4 P w) a vs:=b3G ok (.inl e)
def a1P{ks:qA Key}(ok:HOk P w H h)(e:H a=some (.tup (ks.map kV))):(tupleKind (C4 P w)).is h ks a:=by
 obtain⟨_,its,r,o,h1,h2,n,b⟩:=(show ObjOk P w H h a (.tup (ks.map kV))from ok a _ e);exact⟨o,its.toArray,n,h1,h2,b,by simpa using a4M r⟩
def b3E(ok:HOk P w H h)(e:Rd H a (.dT qL)):qL.length<=sizeLine/\(a==sysModules)=false /\
  ∃xs,KT H qL xs/\h.DictOfH (tupleKind (C4 P w)) a xs:=by
 obtain⟨z,y,xs,r,o,es,ep,h1,h2,d,f,g⟩:=(show ObjOk P w H h a (.dT qL)from b6o ok e);refine⟨z,y,xs,r,o,es,ep,h1,h2,d,f,λx b=>?_,g⟩;have all:∀{l:qA (qA Key×V)}{m:qA (qA Key×qE×qB)},KT H l m->∀x∈m,(tupleKind (C4 P w)).is h x.1 x.2.1:=by
  intro l m q;induction q with
  |nil=>intro x b;exact nomatch b
  |@cons p q ps qs c t i =>
   intro x b;rcases aF.mp b with e|b
   .subst e;exact a1P ok (by rw[<-c.1];exact c.2.1)
   .exact i x b
 exact all r x b
def b9r(ok:HOk P w H h)(e:H a=some (.dT qL)):qL.length<=sizeLine/\(a==sysModules)=false /\
  ∃xs,KT H qL xs/\h.DictOfH (tupleKind (C4 P w)) a xs:=b3E ok (.inl e)
def DGet(H:Hp)(a:qE)(y:V)(r:qD V):Prop :=
 (∃qL k,Rd H a (.dK qL)/\y=kV k/\r=V6 qL k)∨∃qL k b,Rd H a (.dT qL)/\y=.ref b/\H b=some (.tup (k.map kV))/\r=V6 qL k
def DPut(H:Hp)(a:qE)(y v:V)(H':Hp):Prop :=
 (∃qL k,H a=some (.dK qL)/\y=kV k/\qL.length<sizeLine/\H'=upd H a (.dK (a0H qL k v))) ∨
 ∃qL k b,H a=some (.dT qL)/\y=.ref b/\H b=some (.tup (k.map kV))/\qL.length<sizeLine/\H'=upd H a (.dT (a0H qL k v))
def DGet.t{b:qE}{k:qA Key}(e:H a=some (.dT qL))(c:H b=some (.tup (k.map kV))):DGet H a (.ref b) (V6 qL k):=.inr ⟨qL,k,b,.inl e,rfl,c,rfl⟩
def DPut.t{b:qE}{k:qA Key}(e:H a=some (.dT qL))(c:H b=some (.tup (k.map kV)))(d:qL.length<sizeLine) :
  DPut H a (.ref b) v (upd H a (.dT (a0H qL k v))):=.inr ⟨qL,k,b,e,rfl,c,d,rfl⟩
section
variable {r:qB}
def Inv.big(I:Inv X qK σ H s):sysModules<s.heap.objs.size:=by
 have h:mainGlobals<s.heap.objs.size:=(I.mod.glob.keeps I.bk).lt;exact fT (by decide) h
def b9B(j:A.units+1<cLine)(I:Inv X qK σ H s)(g:DGet H a y o)(f:RelV y u)(h:∀s',Inv X qK σ H s'->Q (.bool o.isSome) s') :
  wpAny (model X.prog X.w) A (compareOp .In u (.ref a)) Q E s:=by
 rcases g with⟨qL,k,e,d,l⟩|⟨qL,k,b,e,d,i,l⟩
 .subst d;obtain⟨z,hd,m,c,dd⟩:=b3G I.hok e;refine wpAny_in_of (a9w f) hd dd.mapOf ?_;rw[<-(c.val k).isSome_eq,<-l];exact h _ (I.tok _)
 .subst d;cases(show u=Value.ref b from f);obtain⟨z,hd,xs,c,dd⟩:=b3E I.hok e;refine wpAny_in_heap (tupleKind_room_in1 j) (a1P I.hok i) hd dd ?_;have q:=(c.val k).isSome_eq;rw[Option.isSome_map]at q;rw[<-q,<-l];exact h _ (I.tok _)
def b5K(j:A.units+1<cLine)(I:Inv X qK σ H s)(g:DGet H a y o)(f:RelV y u)(h:∀s',Inv X qK σ H s'->Q (.bool (!o.isSome)) s') :
  wpAny (model X.prog X.w) A (compareOp .NotIn u (.ref a)) Q E s:=by
 rcases g with⟨qL,k,e,d,l⟩|⟨qL,k,b,e,d,i,l⟩
 .subst d;obtain⟨z,hd,m,c,dd⟩:=b3G I.hok e;refine wpAny_notIn_of (a9w f) hd dd.mapOf ?_;rw[<-(c.val k).isSome_eq,<-l];exact h _ (I.tok _)
 .subst d;cases(show u=Value.ref b from f);obtain⟨z,hd,xs,c,dd⟩:=b3E I.hok e;refine wpAny_notIn_heap (tupleKind_room_in1 j) (a1P I.hok i) hd dd ?_;have q:=(c.val k).isSome_eq;rw[Option.isSome_map]at q;rw[<-q,<-l];exact h _ (I.tok _)
def a9N{t':Nat}{c:HO}(I:Inv X qK σ H s)(g:Mut (H a))(hs:Heap.SameBut a s.heap h')(f:∃q,h'.get? a=some q)(new:ObjOk X.prog X.w (upd H a c) h' a c) :
  Inv X qK σ (upd H a c) {s with heap:=h',toks:=t'} :=
 I.write (x:=a) (e:=a) g (.inl rfl) (λb q d z=>(hs.2 b d).trans z) f new
def b8j{qL:qA (Key×V)}{vs:qA (Key×qB)}(z:qL.length<=sizeLine)(hd:(a==sysModules)=false)(b:KV qL vs)(dd:h'.DictOf (C4 P w) a vs) :
  ObjOk P w H' h' a (.dK qL):=⟨z,hd,vs,b,dd⟩
def b0X{Q:Unit->qC->Prop}(G:A.units+1<cLine)(I:Inv X qK σ H s)(g:DPut H a y v H')(x:RelV y u)(w:RelV v r)(h:∀s',Inv X qK σ H' s'->Q () s') :
  wpAny (model X.prog X.w) A (setItem (.ref a) u r) Q E s:=by
 rcases g with⟨qL,k,e,m,l,j⟩|⟨qL,k,b,e,m,p,l,j⟩
 .subst m j;obtain⟨z,hd,J,d,dd⟩:=b9s I.hok e;have o:J.length<=sizeLine:=by rw[<-d.length];exact z
  have n:(a0H qL k v).length<=sizeLine:=by have:=a2m qL k v;omega
  refine wpAny_setItem_pairs (hsz:=o) (a9w x) dd λh' f hs=>h _ ?_;have F:∃q,h'.get? a=some q:=let ⟨q,_,_,i,_⟩:=f;⟨q,i⟩
  exact a9N I (by rw[e];exact True.intro) hs F (b8j n hd (d.put k w) f)
 .subst m j;cases(show u=Value.ref b from x);obtain⟨z,hd,xs,d,dd⟩:=b9r I.hok e;have o:xs.length<=sizeLine:=by rw[<-Paired.length d];exact z
  have n:(a0H qL k v).length<=sizeLine:=by have:=a2m qL k v;omega
  refine wpAny_setItem_heap (hsz:=o) (tupleKind_room_in1 G) (a1P I.hok p) dd λh' f hs=>h _ ?_;obtain⟨q,es,ep,i,h2,B,C,_,D⟩:=f;refine a9N I (by rw[e];exact True.intro) hs ⟨q,i⟩ ⟨n,hd,_,(d.put k p w).keeps λc ys t=>?_,q,es,ep,i,h2,B,C,D⟩;rw[A3 (J8 t e (λz=>nomatch z))];exact t
end
section
variable {qL:qA (Key×V)}{k:Key}
end
def b8O(ty td:TE):TE:=λσ H Q=>ty σ H λy H1=>td σ H1 λx H2=>∃a o,x=.ref a/\DGet H2 a y o/\Q (.bl o.isSome) H2
def a8T(ty td:TE):TE:=λσ H Q=>ty σ H λy H1=>td σ H1 λx H2=>∃a o,x=.ref a/\DGet H2 a y o/\Q (.bl (!o.isSome)) H2
def b6n(td ty tv:TE):TS:=λD σ H=>tv σ H λv H1=>td σ H1 λx H2=>ty σ H2 λy H3=>∃a H4,x=.ref a/\DPut H3 a y v H4/\D.nx σ H4
section
variable {o i value:Expr}{pos' tpos:Pos}{td ty tv:TE}
def b7t(f:X.A.units+1<cLine)(hi:PE X i ty)(e:PE X o td):PC X .In i o (b8O ty td):=by
 intro qK s σ H Q I h;refine thn (hi qK s σ H _ I h) λp s1 ⟨y,H1,b,n,k⟩=>thn (e qK s1 σ H1 _ b k) λu s2 ⟨x,H2,c,m,a,j,ex,g,l⟩=>?_;subst ex;obtain rfl:u=Value.ref a:=m;exact b9B f c g n λq d=>⟨.bl j.isSome,H2,d,rfl,l⟩
def b0s(f:X.A.units+1<cLine)(hi:PE X i ty)(e:PE X o td):PC X .NotIn i o (a8T ty td):=by
 intro qK s σ H Q I h;refine thn (hi qK s σ H _ I h) λp s1 ⟨y,H1,b,n,k⟩=>thn (e qK s1 σ H1 _ b k) λu s2 ⟨x,H2,c,m,a,j,ex,g,l⟩=>?_;subst ex;obtain rfl:u=Value.ref a:=m;exact b5K f c g n λq d=>⟨.bl (!j.isSome),H2,d,rfl,l⟩
def b4K(k:X.A.units+1<cLine)(j:PE X o td)(hi:PE X i ty)(l:PE X value tv)(hs:swapsWith value (some (.Subscript o i pos')) pos.line X.env=pure false) :
  PS X (.Assign [.Subscript o i pos'] value pos) (b6n td ty tv):=by
 intro qK s σ H D I h;refine wpAny_Assign_Subscript (thn (l qK s σ H _ I h) λr s1 ⟨v,H1,c,q,m⟩=>thn (j qK s1 σ H1 _ c m) λu s2 ⟨x,H2,d,t,n⟩=>thn (hi qK s2 σ H2 _ d n) λA B ⟨y,z,e,w,a,b,ex,g,p⟩=>?_) hs;subst ex;obtain rfl:u=Value.ref a:=t;exact b0X k e g w q λC f=>⟨σ,b,f,p⟩
end
def b3F(h:Heap)(a:sysModules<h.objs.size):ObjOk P w H (h.push {cls:=.type "dict",data:=.dict #[]}) h.objs.size (.dT []) :=
 ⟨bu _,cN.mpr (dF (aW a)),[],.nil,_,#[],0,aG _ rfl,⟨rfl,rfl,rfl⟩,rfl,rfl,fm⟩
def b1K:TE:=λ_ H Q=>∀p,H p=none->Q (.ref p) (upd H p (.dT []))
def b2G:PE X (.Dict [] [] pos) b1K:=λqK s σ H Q I h =>
 wpAny_Dict_empty ⟨.ref s.heap.objs.size,_,I.laid (a:=s.heap.objs.size) (o:=.dT []) (t':=s.toks) (λ_ _ q=>aj _ q) (aq _) (b3F s.heap I.big),rfl,h _ (I.hok.fresh (aq _))⟩
section
variable {d:V}{r:qB}
end
section
variable {o f:Expr}{qP qM:Pos}{td ty tx:TE}
end
section
variable {qL:qA (Key×V)}
end
end L2
namespace Att
open PySem PySem.W PySem.Calls PyProof.Rows
section
variable {prog:qG}{w:World}{A:Around}{E:qH}{s:qC}{K:Frag}
end
end Att
namespace L2
open PySem PySem.Spec PyProof.Rows
end L2
namespace L2
open PySem PySem.Spec PyProof.Rows
section
variable {P:qG}{w:World}{K:qF}{mg:Str->qD qB}{base:Heap}
end
section
variable {X:Cx}
end
section
variable {κ:Type}[DecidableEq κ]
def b1C{qL:qA (κ×V)}{k:κ}(h:V6 qL k=none):¬k∈qL.map (·.1):=by
 intro m;obtain⟨p,a,e⟩:=aN.mp m;have q:(qL.any λb=>decide (b.1=k))=true:=bM.mpr ⟨p,a,bz e⟩;rw[V5,h]at q;exact absurd q (by simp)
def b4e{qL:qA (κ×V)}{k:κ}{v:V}(h:V6 qL k=some v):k∈qL.map (·.1):=by
 have q:(qL.any λb=>decide (b.1=k))=true:=by
  rw[V5,h]
  all_goals rfl
 obtain⟨p,a,e⟩:=bM.mp q;exact aN.mpr ⟨p,a,bp e⟩
def a9t:∀{l:qA κ}{k:κ},l.Nodup->¬k∈l->(l++[k]).Nodup
 |[],k,_,_=>by simp
 |a::r,k,h,b=>by
  obtain⟨h1,h2⟩:=cv.mp h;show(a::(r++[k])).Nodup;refine cv.mpr ⟨λm=>?_,a9t h2 λm=>b (aF.mpr (Or.inr m))⟩;rcases ao.mp m with q|q
  .exact h1 q
  .exact b (aF.mpr (Or.inl (au.mp q).symm))
end
end L2
namespace L2
open PySem PySem.Spec PyProof.Rows PySem.W
variable {A:Around}{D:Keyed->Prop}{E:qH}{O:KeyOrd}{Q:qJ->SortSt->Prop}{X:Cx}{a ep i j k lo n:Nat}{a0 qN:Array Keyed}{d:qE}{es:Array DictEntry}{h:Heap}{key x:Keyed}{l rest:qA Keyed}{left:Bool}{prog:qG}{rss:LLI}{runs:qA (qA Keyed)}{s:qC}{st st':SortSt}{vs:qA qB}{w:World}{α:Type}{κ:SortKind}
section
variable {key:Nat->O.α}{N:Nat}{p:Array Nat}
def kk(key:Nat->O.α)(p:Array Nat)(i:Nat):O.α:=key (p[i]?.getD 0)
end
def J3:∀a:qI,HT.lexLt a a=false
 |[]=>rfl
 |x::xs=>by rw[HT.lexLt_cons,az rfl];exact J3 xs
def a1L:∀a b c:qI,HT.lexLt a b=true->HT.lexLt b c=true->HT.lexLt a c=true
 |[],[],_,h,_=>by cases h
 |_::_,[],_,h,_=>by cases h
 |_,_::_,[],_,h=>by cases h
 |[],_::_,_::_,_,_=>rfl
 |x::xs,y::ys,z::zs,h1,h2=>by
  rw[HT.lexLt_cons]at h1 h2⊢;by_cases e:x=y
  .rw[az e]at h1;by_cases d:y=z
   .rw[az d]at h2;rw[az (e.trans d)];exact a1L xs ys zs h1 h2
   .rw[ar d]at h2;rw[ar (by rw[e];exact d),e];exact h2
  .rw[ar e]at h1;have h1:=bp h1;by_cases d:y=z
   .rw[ar (by rw[<-d];exact e),<-d];exact bz h1
   .rw[ar d]at h2;have h2:=bp h2;rw[ar (by omega)];exact bz (by omega)
def P9:∀a b:qI,HT.lexLt a b=false->HT.lexLt b a=false->a=b
 |[],[],_,_=>rfl
 |[],_::_,h,_=>by cases h
 |_::_,[],_,h=>by cases h
 |x::xs,y::ys,h1,h2=>by
  rw[HT.lexLt_cons]at h1 h2;by_cases e:x=y
  .subst e;rw[az rfl]at h1 h2;rw[P9 xs ys h1 h2]
  .rw[ar e]at h1;rw[ar (dF e)]at h2;have h1:=of_decide_eq_false h1;have h2:=of_decide_eq_false h2;omega
def b5r(a b c:qI)(h:HT.lexLt a c=true):HT.lexLt a b=true∨HT.lexLt b c=true:=by
 cases h1:HT.lexLt a b with
 |true=>exact .inl rfl
 |false =>
  refine .inr ?_;cases h2:HT.lexLt b a with
  |true=>exact a1L b a c h2 h
  |false=>rw[<-P9 a b h1 h2];exact h
def OL:KeyOrd:=⟨qI,HT.lexLt,J3,a1L,b5r,P9⟩
def C7(tss:LLI):Prop:=tss.Pairwise λa b=>HT.lexLt b a=false
def b5s(fin:Bool):qI->qI->Bool
 |[],_=>fin
 |_::_,[]=>fin
 |x::xs,y::ys=>if x=y then b5s fin xs ys else decide (x<y)
def a7g:∀(xs ys:qI),b5s (decide (xs.length<ys.length)) xs ys=HT.lexLt xs ys
 |[],[]=>rfl
 |[],y::ys=>by
  show decide (0<ys.length+1)=true;exact bz (by omega)
 |x::xs,[]=>by
  show decide (xs.length+1<0)=false;exact bG (by omega)
 |x::xs,y::ys=>by
  rw[HT.lexLt_cons];show(if x=y then _ else _)=_;split
  .rw[<-a7g xs ys];congr 1;simp only[aX];exact decide_eq_decide.mpr (by omega)
  .rfl
def b0v{c:Bool}{a b:Int}{t u:Tok}{Q:Bool->qC->Prop}(h:Q (decide (a<b)) s):wpAny (model prog w) A (oneLt' c (.int a t) (.int b u)) Q E s:=by
 cases c with
 |true=>exact oneLt_int h
 |false=>exact kat_one _ _ (lt_int h)
def a2o{b fin:Bool}{Q:Bool->qC->Prop}:∀{vs a:qA qB}{ns ms:qI}(i:Nat),IntsAre vs ns->IntsAre a ms->Q (b5s fin ns ms) s->KatLex prog w A b fin Q (vs.zip a) i s
 |_,_,_,_,i,.nil,_,h=>h
 |_,_,_,_,i,.cons _ _ _,.nil,h=>h
 |_,_,_,_,i,.cons x t c,.cons y u d,h=>by
  rw[List.zip_cons_cons];refine kat_cons (wpAny_eqBool_int ?_);have h:Q (if x=y then b5s fin _ _ else decide (x<y)) s:=h;by_cases e:x=y
  .rw[az e]at h;rw[show(x==y)=true from bj.mpr e];exact kat_yes (a2o (i+1) c d h)
  .rw[ar e]at h;rw[show(x==y)=false from cN.mpr e];exact kat_no (b0v h)
def TupsAre(h:Heap)(vs:qA qB)(rss:LLI):Prop:=vs.length=rss.length/\∀(i:Nat) (v:qB),vs[i]?=some v->∃(r:qI) (b:qE) (its:Array qB),rss[i]?=some r/\v=Value.ref b/\IsTup h b its/\IntsAre its.toList r
def TupsAre.keeps{h':Heap}(t:TupsAre h vs rss)(k:∀b its,IsTup h b its->IsTup h' b its):TupsAre h' vs rss :=
 ⟨t.1,λi v e=>let ⟨r,b,its,e1,e2,e3,e4⟩:=t.2 i v e;⟨r,b,its,e1,e2,k _ _ e3,e4⟩⟩
def a6p{h:Heap}:∀{vs:qA qB}{rss:LLI},TupsAre h vs rss->(∀r∈rss,0<r.length)->∃fs,KatTups h vs fs/\fs.length=vs.length/\∀f∈fs,∃n t,f=Value.int n t
 |[],_,_,_=>⟨[],trivial,rfl,λ_ z=>nomatch z⟩
 |v::vs,[],T,_=>by cases T.1
 |v::vs,r::rss,T,hw=>by
  obtain⟨fs,h1,h2,p⟩:=a6p (vs:=vs) (rss:=rss) ⟨by have:=T.1;simpa using this,λi u e=>T.2 (i+1) u e⟩ λr c=>hw r (ax _ c);obtain⟨y,b,its,j,k,⟨o,q,s,n,w⟩,d⟩:=T.2 0 v rfl;cases j;have c:=hw r aA;obtain⟨x,t,g,m⟩:∃x t g,its.toList=Value.int x t::g:=by
   generalize its.toList=l at d;cases d with
   |nil=>simp at c
   |cons x t h=>exact⟨x,t,_,rfl⟩
  refine⟨.int x t::fs,⟨⟨b,o,its,n,k,q,s,w,?_⟩,h1⟩,by simp[h2],λf a=>?_⟩
  .rw[<-aB,m];rfl
  .rcases aF.mp a with rfl|a
   .exact⟨x,t,rfl⟩
   .exact p f a
def a9Y{Q:SortKind->qC->Prop}(T:TupsAre s.heap vs rss)(hw:∀r∈rss,0<r.length)(a:0<vs.length)(h:Q (tuples' true) s):wpAny (model prog w) A (keyKind' vs.toArray) Q E s:=by
 obtain⟨fs,h1,h2,b⟩:=a6p T hw;refine kat_kind (T:=.type "int") h1 (by omega) (λv a=>?_) rfl ?_
 .obtain⟨n,t,rfl⟩:=b v a;exact .now
 .rw[show(Value.type "int" != Value.type "tuple")=true from rfl];exact h
def Y0{a:qE}{out:Array qB}:∀b o,b≠a->h.get? b=some o->(sortedHeap h a vs out).get? b=some o:=λb o c e=>by
 unfold sortedHeap;rw[Heap.get?_update_ne _ _ _ _ c];exact aj _ (aj _ (by rw[Heap.get?_update_ne _ _ _ _ c];exact e))
def a0K{a:qE}{out:Array qB}(f:h.get? a=some (seqObj "list" vs.toArray n)):∃c,(sortedHeap h a vs out).get? a=some (seqObj "list" out c):=by
 unfold sortedHeap;have g:a<h.objs.size:=aJ f;obtain⟨b,d⟩:∃b,(h.update a (Obj.mapSeq λ_=>#[])).get? a=some (seqObj "list" #[] b):=⟨_,get?_update_seq f (λ_=>#[])⟩;have e:(((h.update a (Obj.mapSeq λ_=>#[])).push (seqObj "tuple" vs.toArray 0)).push (seqObj "list" #[] 0)).get? a=some (seqObj "list" #[] b):=aj _ (aj _ d);exact⟨_,get?_update_seq e (λ_=>out)⟩
def a3L{qK:qA (qE×Obj)}{σ:St}{H:Hp}(I:Inv X qK σ H s){ys:qA V}{us:qA qB}(h:Its H ys rss)(r:Vals ys us):TupsAre s.heap us rss:=by
 refine⟨by rw[<-r.length];exact h.1,λi v e=>?_⟩;have hi:i<ys.length:=by rw[r.length];exact(aL.mp e).1
 obtain⟨u,c,d⟩:=r.get (ak hi);rw[e]at c;cases c;obtain⟨b,f,a,g,j⟩:=h.2 i _ (ak hi);rw[g]at d;cases d;obtain⟨its,k,l,_⟩:=I.tuple (SqT.of (K:=X.K) j);exact⟨b,a,its.toArray,f,rfl,l,by simpa using a8s k⟩
def U8:Bool->Keyed->Array Keyed->Nat->Nat->Nat->StateT SortSt Sem (qJ):=sortPriv% PySem.Builtin.gallop
def V0(left:Bool)(key:Keyed)(qN:Array Keyed)(base:Nat)(i:Nat):StateT SortSt Sem (qD Bool):=do
 let x <-elem' qN (base+i)
 if left then lt' x key else return (<-lt' key x).map (!·)
def b5Q(left:Bool)(key:Keyed)(qN:Array Keyed)(base n lo₀ hi₀:Nat):StateT SortSt Sem (qJ):=do
 let mut lo:=lo₀
 let mut hi:=hi₀
 for _ in [0:n] do
  if lo ≥ hi then break
  let m:=lo+(hi-lo) / 2
  let some more <-V0 left key qN base m|return none
  if more then lo:=m+1 else hi:=m
 return some hi
def a8u(left:Bool)(key:Keyed)(qN:Array Keyed)(base n a:Nat):U8 left key qN base n a=(V0 left key qN base a>>=λr=>match r with
 |some right=>(if right=true then
   (forIn [:n] ((none,0,1):qD (qJ)×Nat×Nat) (λ_ c=>if c.2.2 ≥ n-a then pure (.done (none,c.2.1,c.2.2))else V0 left key qN base (a+c.2.2)>>=λr=>match r with
     |some more=>(if (!more)=true then pure (.done (none,c.2.1,c.2.2))else pure (.yield (none,c.2.2,2*c.2.2+1)))
     |_=>pure (.done (some none,c.2.1,c.2.2)))>>=λc=>match c.1 with
    |some r=>pure r
    |none=>b5Q left key qN base n (a+c.2.1+1) (a+min c.2.2 (n-a)))
  else
   (forIn [:n] ((none,0,1):qD (qJ)×Nat×Nat) (λ_ c=>if c.2.2 ≥ a+1 then pure (.done (none,c.2.1,c.2.2))else V0 left key qN base (a-c.2.2)>>=λr=>match r with
     |some found=>(if found=true then pure (.done (none,c.2.1,c.2.2))else pure (.yield (none,c.2.2,2*c.2.2+1)))
     |_=>pure (.done (some none,c.2.1,c.2.2)))>>=λc=>match c.1 with
    |some r=>pure r
    |none=>b5Q left key qN base n (a+1-min c.2.2 (a+1)) (a-c.2.1)))
 |_=>pure none):=by
 show(_>>=_)=(_>>=_);refine aU _ (funext λr=>?_);cases r with
 |none=>rfl
 |some right =>
  dsimp only;refine dU rfl (λ_=>?_) (λ_=>?_)
  .refine congr (aU _ (aU _ (funext λ_=>funext λc=>?_))) (funext λc=>?_)
   .rfl
   .rcases c with⟨_|q,c⟩<;>rfl
  .refine congr (aU _ (aU _ (funext λ_=>funext λc=>?_))) (funext λc=>?_)
   .rfl
   .rcases c with⟨_|q,c⟩<;>rfl
section
def Cmp(prog:qG)(w:World)(A:Around)(s:qC)(κ:SortKind)(D:Keyed->Prop)(lt:Keyed->Keyed->Bool):Prop :=
 ∀x y (C:Bool->qC->Prop),D x->D y->C (lt x y) s->wpAny (model prog w) A (keyLt' κ x.1 y.1) C (λ_ _=>False) s
variable {lt:Keyed->Keyed->Bool}
def a1b{y:Keyed}{Q:qD Bool->SortSt->Prop}(d:Cmp prog w A s κ D lt)(e:kindOf st=κ)(f:D x)(g:D y)(h:Q (some (lt x y)) st):wpS (model prog w) A E s (lt' x y) Q st:=by
 rw[lt'_eq];refine aC (fo ?_);rw[e];refine aC (wpS_lift (eh (du (d x y (λb s'=>s'=s/\b=lt x y) f g ⟨rfl,rfl⟩) (λb s' ⟨a,c⟩=>?_) λ_ _ z=>z.elim)));rw[a,c];exact⟨rfl,aP h⟩
def b3W(lt:Keyed->Keyed->Bool)(left:Bool)(key x:Keyed):Bool:=if left then lt x key else !(lt key x)
def a7F{base:Nat}{Q:qD Bool->SortSt->Prop}(b:Cmp prog w A s κ D lt)(c:kindOf st=κ)(a:D key)(d:D x)(e:qN[base+i]?=some x)(h:Q (some (b3W lt left key x)) st) :
  wpS (model prog w) A E s (V0 left key qN base i) Q st:=by
 unfold V0;rw[elem'_eq,e];refine aC (aP ?_);unfold b3W at h;cases left with
 |true=>exact a1b b c d a h
 |false=>exact aC (a1b b c a d (aP h))
def a8P{base hi:Nat}(a:Nat->Bool)
  (m:∀i,i<n->∀{R:qD Bool->SortSt->Prop},R (some (a i)) st->wpS (model prog w) A E s (V0 left key qN base i) R st) (mono:∀i j,i<=j->j<n->a j=true->a i=true) (o:∀i j,i<=j->j<n->a i=false->a j=false)
  (h1:lo<=hi) (h2:hi<=n) (u:∀i,i<lo->a i=true) (v:∀i,hi<=i->i<n->a i=false)
  (h:∀k,k<=n->(∀i,i<k->a i=true)->(∀i,k<=i->i<n->a i=false)->Q (some k) st):wpS (model prog w) A E s (b5Q left key qN base n lo hi) Q st:=by
 unfold b5Q;dsimp only;refine aC (cI (cx (I:=λx c st'=>st'=st/\∃l r,c=(none,l,r)/\l<=r/\r<=n/\r-l<=n-x/\(∀i,i<l->a i=true)/\(∀i,r<=i->i<n->a i=false))
  (Q:=λc st'=>st'=st/\∃l,c=(none,l,l)/\l<=n/\(∀i,i<l->a i=true)/\(∀i,l<=i->i<n->a i=false)) ?step ?fin ⟨rfl,lo,hi,rfl,h1,h2,by omega,u,v⟩) ?post)
 case fin =>
  rintro c st' ⟨rfl,l,r,rfl,a1,b,t,d,f⟩;have e:l=r:=by omega
  subst e;exact⟨rfl,l,rfl,b,d,f⟩
 case step =>
  rintro x c st' _ y ⟨rfl,l,r,rfl,a1,b,t,d,f⟩;dsimp only;by_cases g:l ≥ r
  .rw[az g];have e:l=r:=by omega
   subst e;exact aP ⟨rfl,l,rfl,b,d,f⟩
  .rw[ar g];have q:l+(r-l) / 2<n:=by omega
   refine aC (m _ q ?_);dsimp only;cases p:a (l+(r-l) / 2)with
   |true =>
    rw[az rfl];exact aP ⟨rfl,_,r,rfl,by omega,b,by omega,λi hi=>mono i _ (by omega) q p,f⟩
   |false =>
    rw[ar (by simp)];exact aP ⟨rfl,l,_,rfl,by omega,by omega,by omega,d,λi h1 h2=>o _ i h1 h2 p⟩
 case post =>
  rintro c st' ⟨rfl,l,rfl,b,d,f⟩;exact aP (h l b d f)
def L1{base:Nat}(F:Cmp prog w A s κ D lt)(J:kindOf st=κ)(u:D key)(b:Nat->Bool)
  (r:∀i,i<n->∃x,qN[base+i]?=some x/\D x/\b3W lt left key x=b i) (mono:∀i j,i<=j->j<n->b j=true->b i=true) (G:a<n)
  (h:∀k,k<=n->(∀i,i<k->b i=true)->(∀i,k<=i->i<n->b i=false)->Q (some k) st):wpS (model prog w) A E s (U8 left key qN base n a) Q st:=by
 have m:∀i,i<n->∀{R:qD Bool->SortSt->Prop},R (some (b i)) st->wpS (model prog w) A E s (V0 left key qN base i) R st:=λi hi R hR=>by
  obtain⟨x,B,y,C⟩:=r i hi;exact a7F F J u y B (by rw[C];exact hR)
 have q:∀i j,i<=j->j<n->b i=false->b j=false:=λi j z H e=>by
  cases y:b j with
  |false=>rfl
  |true=>rw[mono i j z H y]at e;cases e
 rw[a8u];refine aC (m a G ?_);dsimp only;cases t:b a with
 |true =>
  rw[az rfl];refine aC (cI (cx (I:=λx c st'=>st'=st/\∃l o,c=(none,l,o)/\l<o/\x+1<=o/\a+l<n/\b (a+l)=true)
   (Q:=λc st'=>st'=st/\∃l o,c=(none,l,o)/\l<o/\a+l<n/\b (a+l)=true/\(o ≥ n-a∨b (a+o)=false)) ?step ?fin ⟨rfl,0,1,rfl,by omega,by omega,by omega,t⟩) ?post)
  case fin =>
   rintro c st' ⟨rfl,l,o,rfl,a1,v,g,f⟩;exact⟨rfl,l,o,rfl,a1,g,f,.inl (by omega)⟩
  case step =>
   rintro x c st' _ K ⟨rfl,l,o,rfl,a1,v,g,f⟩;dsimp only;by_cases d:o ≥ n-a
   .rw[az d];exact aP ⟨rfl,l,o,rfl,a1,g,f,.inl d⟩
   .rw[ar d];refine aC (m _ (by omega) ?_);dsimp only;cases r:b (a+o)with
    |true =>
     rw[ar (by simp)];exact aP ⟨rfl,o,2*o+1,rfl,by omega,by omega,by omega,r⟩
    |false =>
     rw[az (by rfl)];exact aP ⟨rfl,l,o,rfl,a1,g,f,.inr r⟩
  case post =>
   rintro c st' ⟨rfl,l,o,rfl,a1,g,f,p⟩;dsimp only;refine a8P (lo:=a+l+1) (hi:=a+min o (n-a)) b m mono q (by omega) (by omega) (λi hi=>mono i (a+l) (by omega) g f) (λi h1 h2=>?_) h;rcases p with p|p
   .omega
   .exact q (a+o) i (by omega) h2 p
 |false =>
  rw[ar (by simp)];refine aC (cI (cx (I:=λx c st'=>st'=st/\∃l o,c=(none,l,o)/\l<o/\x+1<=o/\l<=a/\b (a-l)=false)
   (Q:=λc st'=>st'=st/\∃l o,c=(none,l,o)/\l<o/\l<=a/\b (a-l)=false/\(o ≥ a+1∨b (a-o)=true)) ?step ?fin ⟨rfl,0,1,rfl,by omega,by omega,by omega,t⟩) ?post)
  case fin =>
   rintro c st' ⟨rfl,l,o,rfl,a1,v,g,f⟩;exact⟨rfl,l,o,rfl,a1,g,f,.inl (by omega)⟩
  case step =>
   rintro x c st' _ K ⟨rfl,l,o,rfl,a1,v,g,f⟩;dsimp only;by_cases d:o ≥ a+1
   .rw[az d];exact aP ⟨rfl,l,o,rfl,a1,g,f,.inl d⟩
   .rw[ar d];refine aC (m _ (by omega) ?_);dsimp only;cases r:b (a-o)with
    |true =>
     rw[az rfl];exact aP ⟨rfl,l,o,rfl,a1,g,f,.inr r⟩
    |false =>
     rw[ar (by simp)];exact aP ⟨rfl,o,2*o+1,rfl,by omega,by omega,by omega,r⟩
  case post =>
   rintro c st' ⟨rfl,l,o,rfl,a1,g,f,p⟩;dsimp only;refine a8P (lo:=a+1-min o (a+1)) (hi:=a-l) b m mono q (by omega) (by omega) (λi hi=>?_) (λi h1 h2=>q (a-l) i h1 h2 f) h;rcases p with p|p
   .omega
   .exact mono i (a-o) (by omega) (by omega) p
end
section
variable {kf:Keyed->O.α}{la lb o:qA Keyed}{ia ib:Nat}
def leK(kf:Keyed->O.α)(x y:Keyed):Prop:=O.kle (kf x) (kf y)
def ltK(kf:Keyed->O.α)(x y:Keyed):Bool:=O.blt (kf x) (kf y)
structure MS(kf:Keyed->O.α)(la lb o:qA Keyed)(ia ib:Nat):Prop where
 perm:o.Perm (la.take ia++lb.take ib)
 sorted:o.Pairwise (leK kf)
 ra:∀x∈o,∀y∈la.drop ia,leK kf x y
 rb:∀x∈o,∀y∈lb.drop ib,leK kf x y
def a0B{l:qA α}{x:α}(h:l[i]?=some x):l.drop i=x::l.drop (i+1):=by
 obtain⟨hi,e⟩:=aL.mp h;rw[cG hi,e]
def Z5(hs:l.Pairwise (leK kf))(h:l[i]?=some x):∀y∈l.drop (i+1),leK kf x y:=by
 have:=hs.drop (i:=i);rw[a0B h]at this;exact(cR.mp this).1
def W5{l:qA α}{x:α}(h:l[i]?=some x):l.take (i+1)=l.take i++[x]:=by
 rw[bg,h];rfl
def MS.stepA(h:MS kf la lb o ia ib)(hs:la.Pairwise (leK kf))(e:la[ia]?=some x)(c:∀y∈lb.drop ib,leK kf x y):MS kf la lb (o++[x]) (ia+1) ib:=by
 have d:x∈la.drop ia:=by rw[a0B e];exact aA
 refine⟨?_,?_,λz b y a=>?_,λz b y a=>?_⟩
 .rw[W5 e];have:=h.perm.append_right [x];refine this.trans ?_;rw[aK,aK];exact cz _ cJ
 .rw[bI];exact⟨h.sorted,List.pairwise_singleton _ _,λz b y a=>by rw[au.mp a];exact h.ra z b x d⟩
 .have hy':y∈la.drop ia:=by rw[a0B e];exact ax _ a
  rcases ao.mp b with q|q
  .exact h.ra z q y hy'
  .rw[au.mp q];exact Z5 hs e y a
 .rcases ao.mp b with q|q
  .exact h.rb z q y a
  .rw[au.mp q];exact c y a
def MS.swap(h:MS kf la lb o ia ib):MS kf lb la o ib ia:=⟨h.perm.trans cJ,h.sorted,h.rb,h.ra⟩
def MS.stepB(h:MS kf la lb o ia ib)(hs:lb.Pairwise (leK kf))(e:lb[ib]?=some x)(a:∀y∈la.drop ia,leK kf x y):MS kf la lb (o++[x]) ia (ib+1) :=
 (h.swap.stepA hs e a).swap
def MS.bulkA(hs:la.Pairwise (leK kf)):∀(k:Nat) {o:qA Keyed}{ia:Nat},MS kf la lb o ia ib->ia+k<=la.length->(∀i x,i<k->la[ia+i]?=some x->∀y∈lb.drop ib,leK kf x y)->MS kf la lb (o++(la.drop ia).take k) (ia+k) ib
 |0,o,ia,h,_,_=>by rw[List.take_zero,cY];exact h
 |k+1,o,ia,h,c,b=>by
  obtain⟨x,a⟩:∃x,la[ia]?=some x:=⟨_,ak (by omega)⟩;have h1:=h.stepA hs a (b 0 x (by omega) a);have h2:=MS.bulkA hs k h1 (by omega) λi y hi e=>b (i+1) y (by omega) (by rw[<-e];congr 1;omega);rw[a0B a,List.take_succ_cons];rw[aK]at h2;rw[show ia+(k+1)=ia+1+k by omega];exact h2
def MS.bulkB(hs:lb.Pairwise (leK kf))(h:MS kf la lb o ia ib)(b:ib+k<=lb.length)(a:∀i x,i<k->lb[ib+i]?=some x->∀y∈la.drop ia,leK kf x y):MS kf la lb (o++(lb.drop ib).take k) ia (ib+k) :=
 (MS.bulkA hs k h.swap b a).swap
def a2c(kf:Keyed->O.α)(la lb o:qA Keyed):Prop:=o.Perm (la++lb)/\o.Pairwise (leK kf)
def MS.done(h:MS kf la lb o ia ib)(hs:la.Pairwise (leK kf))(b:ib=lb.length):a2c kf la lb (o++la.drop ia++lb.drop ib):=by
 subst b;rw[List.drop_length,cY];have a:=h.perm;rw[bh]at a;refine⟨?_,?_⟩
 .refine(a.append_right _).trans ?_;rw[aK];refine(cz _ cJ).trans ?_;rw[<-aK,bt]
 .rw[bI];exact⟨h.sorted,hs.drop,h.ra⟩
def MS.lastA(h:MS kf la lb o ia ib)(hsa:la.Pairwise (leK kf))(hs:lb.Pairwise (leK kf))(b:∀y∈lb.drop ib,∀x∈la.drop ia,leK kf y x):a2c kf la lb (o++lb.drop ib++la.drop ia):=by
 refine⟨?_,?_⟩
 .have hp:=(h.perm.append_right (lb.drop ib)).append_right (la.drop ia);refine hp.trans ?_;rw[aK (la.take ia),bt,aK];refine(cz _ cJ).trans ?_;rw[<-aK,bt]
 .rw[bI];refine⟨?_,hsa.drop,λx c y a=>?_⟩
  .rw[bI];exact⟨h.sorted,hs.drop,h.rb⟩
  .rcases ao.mp c with q|q
   .exact h.ra x q y a
   .exact b x q y a
end
def a3v:Array Keyed->Array Keyed->StateT SortSt Sem (Array Keyed):=sortPriv% PySem.Builtin.mergeLo
def a0p(g:Nat):StateT SortSt Sem Unit:=modify λs=>SortSt.mk' (kindOf s) (arrOf s) (pendingOf s) g (failedOf s)
def Q9(a b out:Array Keyed)(ia ib:Nat):Array Keyed:=out++a.extract ia a.size++b.extract ib b.size
def a0W(a b out:Array Keyed)(ia ib:Nat):Array Keyed:=out++b.extract ib b.size++a.extract ia a.size
abbrev T1:Type:=qD (Array Keyed)×Array Keyed×Nat×Nat×Nat×Nat
abbrev T2:Type:=qD (Array Keyed)×Array Keyed×Nat×Nat×Nat×Nat×Nat
def loD(a b out:Array Keyed)(ia ib mg k k1:Nat):StateT SortSt Sem (ForInStep T2) :=
 elem' a ia>>=λx =>
 if (ia+1+1==a.size)=true then pure (.done (some (a0W a b (out.push x) (ia+1) ib),out.push x,ia+1,ib,mg,k,k1))
 else if (decide (k<7) && decide (k1<7))=true then pure (.done (none,out.push x,ia+1,ib,mg,k,k1))
 else pure (.yield (none,out.push x,ia+1,ib,mg,k,k1))
def loC(a b out:Array Keyed)(ia ib mg k bc:Nat):StateT SortSt Sem (ForInStep T2) :=
 elem' b ib>>=λy =>
 if (ib+1==b.size)=true then pure (.done (some (Q9 a b (out.push y) ia (ib+1)),out.push y,ia,ib+1,mg,k,bc))
 else elem' a ia>>=λx=>U8 true x b (ib+1) (b.size-(ib+1)) 0>>=λr =>
  match r with
  |some k1=>(if k1 > 0 then
    (if (ib+1+k1==b.size)=true then pure (.done (some (Q9 a b (out.push y++b.extract (ib+1) (ib+1+k1)) ia (ib+1+k1)),out.push y++b.extract (ib+1) (ib+1+k1),ia,ib+1+k1,mg,k,k1))
    else loD a b (out.push y++b.extract (ib+1) (ib+1+k1)) ia (ib+1+k1) mg k k1)
   else loD a b (out.push y) ia (ib+1) mg k k1)
  |_=>pure (.done (some (Q9 a b (out.push y) ia (ib+1)),out.push y,ia,ib+1,mg,k,bc))
def loB(a b out:Array Keyed)(ia ib mg ac bc:Nat):StateT SortSt Sem (ForInStep T2) :=
 a0p mg>>=λ_=>elem' b ib>>=λy=>U8 false y a ia (a.size-ia) 0>>=λr =>
 match r with
 |some k=>(if k > 0 then
   (if (ia+k+1==a.size)=true then pure (.done (some (a0W a b (out++a.extract ia (ia+k)) (ia+k) ib),out++a.extract ia (ia+k),ia+k,ib,mg,k,bc))
   else if (ia+k==a.size)=true then pure (.done (some (Q9 a b (out++a.extract ia (ia+k)) (ia+k) ib),out++a.extract ia (ia+k),ia+k,ib,mg,k,bc))
   else loC a b (out++a.extract ia (ia+k)) (ia+k) ib mg k bc)
  else loC a b out ia ib mg k bc)
 |_=>pure (.done (some (Q9 a b out ia ib),out,ia,ib,mg,ac,bc))
def loA(a b out:Array Keyed)(ia ib ac bc mg:Nat):StateT SortSt Sem (ForInStep T1) :=
 elem' b ib>>=λy=>elem' a ia>>=λx=>lt' y x>>=λr =>
 match r with
 |some bWins=>(if bWins=true then elem' b ib>>=λy =>
   (if (ib+1==b.size)=true then pure (.done (some (Q9 a b (out.push y) ia (ib+1)),out.push y,ia,ib+1,0,bc+1))
   else if bc+1 ≥ mg then pure (.done (none,out.push y,ia,ib+1,0,bc+1))
   else pure (.yield (none,out.push y,ia,ib+1,0,bc+1)))
  else elem' a ia>>=λx =>
   (if (ia+1+1==a.size)=true then pure (.done (some (a0W a b (out.push x) (ia+1) ib),out.push x,ia+1,ib,ac+1,0))
   else if ac+1 ≥ mg then pure (.done (none,out.push x,ia+1,ib,ac+1,0))
   else pure (.yield (none,out.push x,ia+1,ib,ac+1,0))))
 |_=>pure (.done (some (Q9 a b out ia ib),out,ia,ib,ac,bc))
def a7b(a b:Array Keyed):a3v a b=(do
 rule "list.sort.merge-lo"
 let y <-elem' b 0
 if (1==b.size)=true then pure (Q9 a b #[y] 0 1)
 else if (0+1==a.size)=true then pure (a0W a b #[y] 0 1)
 else do
  let g <-get
  let r <-forIn [:a.size+b.size] ((none,#[y],0,1,gallopOf g):qD (Array Keyed)×Array Keyed×Nat×Nat×Nat) λ_ c=>do
   let r <-forIn [:a.size+b.size] ((none,c.2.1,c.2.2.1,c.2.2.2.1,0,0):T1) λ_ d=>loA a b d.2.1 d.2.2.1 d.2.2.2.1 d.2.2.2.2.1 d.2.2.2.2.2 c.2.2.2.2
   match r.1 with
   |some q=>pure (ForInStep.done (some q,r.2.1,r.2.2.1,r.2.2.2.1,c.2.2.2.2))
   |none=>do
    rule "list.sort.gallop"
    let t <-forIn [:a.size+b.size] ((none,r.2.1,r.2.2.1,r.2.2.2.1,c.2.2.2.2+1,r.2.2.2.2.1,r.2.2.2.2.2):T2) λ_ d =>
     if d.2.2.2.2.1 > 1 then loB a b d.2.1 d.2.2.1 d.2.2.2.1 (d.2.2.2.2.1-1) d.2.2.2.2.2.1 d.2.2.2.2.2.2 else loB a b d.2.1 d.2.2.1 d.2.2.2.1 d.2.2.2.2.1 d.2.2.2.2.2.1 d.2.2.2.2.2.2
    match t.1 with
    |some q=>pure (ForInStep.done (some q,t.2.1,t.2.2.1,t.2.2.2.1,t.2.2.2.2.1))
    |none=>do
     a0p (t.2.2.2.2.1+1)
     pure (ForInStep.yield (none,t.2.1,t.2.2.1,t.2.2.2.1,t.2.2.2.2.1+1))
  match r.1 with
  |some q=>pure q
  |none=>unsupported "internal:list.sort.merge-bound"):=by
 show(_>>=_)=(_>>=_);refine aU _ (funext λ_=>?_);dsimp only;refine aU _ (funext λy=>?_);refine dU rfl (λ_=>rfl) (λ_=>dU rfl (λ_=>rfl) λ_=>?_);refine aU _ (funext λg=>?_);refine congr (aU _ (aU _ (funext λ_=>funext λc=>?_))) (funext λr=>?_)
 .refine congr (aU _ (aU _ (funext λ_=>funext λd=>?_))) (funext λr=>?_)
  .rfl
  .rcases r with⟨_|q,r⟩
   .dsimp only;refine aU _ (funext λ_=>?_);refine congr (aU _ (aU _ (funext λ_=>funext λd=>?_))) (funext λr=>?_)
    .rfl
    .rcases r with⟨_|q,r⟩<;>rfl
   .rfl
 .rcases r with⟨_|q,r⟩
  .dsimp only
  .rfl
def a2R(a:Array α)(i:Nat):(a.extract i a.size).toList=a.toList.drop i:=by
 rw[eX];simp[List.extract_eq_drop_take'];rw[<-ay,bh]
def a3T(a:Array α)(i k:Nat):(a.extract i (i+k)).toList=(a.toList.drop i).take k:=by
 rw[eX];simp[List.extract_eq_drop_take]
def a7w(a b out:Array Keyed)(ia ib:Nat):(Q9 a b out ia ib).toList=out.toList++a.toList.drop ia++b.toList.drop ib:=by
 unfold Q9;rw[bY,bY,a2R,a2R]
def a7j(a b out:Array Keyed)(ia ib:Nat):(a0W a b out ia ib).toList=out.toList++b.toList.drop ib++a.toList.drop ia:=by
 unfold a0W;rw[bY,bY,a2R,a2R]
section
variable {kf:Keyed->O.α}{a b out:Array Keyed}{ia ib:Nat}
def Good(st st':SortSt):Prop:=kindOf st'=kindOf st/\arrOf st'=arrOf st/\pendingOf st'=pendingOf st/\failedOf st'=failedOf st
structure Two(D:Keyed->Prop)(kf:Keyed->O.α)(a b:Array Keyed):Prop where
 da:∀(i:Nat) x,a[i]?=some x->D x
 db:∀(i:Nat) x,b[i]?=some x->D x
 sa:a.toList.Pairwise (leK kf)
 sb:b.toList.Pairwise (leK kf)
 last:∀y∈b.toList,∀x,a[a.size-1]?=some x->ltK kf y x=true
def X7{z:Keyed}(hs:l.Pairwise (leK kf))(e:l[i]?=some x)(h:leK kf z x):∀y∈l.drop i,leK kf z y:=λy a=>by
 rw[a0B e]at a;rcases aF.mp a with rfl|a
 .exact h
 .exact bV h (Z5 hs e y a)
def MI(kf:Keyed->O.α)(a b out:Array Keyed)(ia ib:Nat):Prop:=MS kf a.toList b.toList out.toList ia ib/\ia+1<a.size/\ib<b.size
def D8(kf:Keyed->O.α)(a b r:Array Keyed):Prop:=a2c kf a.toList b.toList r.toList
def a0w(T:Two D kf a b)(h:MS kf a.toList b.toList out.toList ia ib)(hi:ia+1=a.size):D8 kf a b (a0W a b out ia ib):=by
 unfold D8;rw[a7j];refine h.lastA T.sa T.sb λy e x d=>?_;have c:ia<a.toList.length:=by rw[ay];omega
 rw[cG c,cF (by rw[ay];omega),au]at d;refine bW (T.last y (bR e) x ?_);rw[d,show a.size-1=ia by omega,<-aB,ak c]
def a0C(T:Two D kf a b)(h:MS kf a.toList b.toList out.toList ia ib)(hi:ib=b.size):D8 kf a b (Q9 a b out ia ib):=by
 unfold D8;rw[a7w];exact h.done T.sa (by rw[ay];exact hi)
def B7(hi:i<qN.size){Q:Keyed->SortSt->Prop}(h:∀x,qN[i]?=some x->qN.toList[i]?=some x->Q x st):wpS (model prog w) A E s (elem' qN i) Q st:=by
 rw[elem'_eq];have e:qN[i]?=some qN[i]:=getElem?_pos qN i hi;rw[e];exact aP (h _ e (by rw[aB];exact e))
def P2(kf:Keyed->O.α)(st:SortSt)(a b:Array Keyed)(c0:Nat)(c:T2)(st':SortSt):Prop:=Good st st'/\((∃r,c.1=some r/\D8 kf a b r)∨(c.1=none/\MI kf a b c.2.1 c.2.2.1 c.2.2.2.1/\c0<=c.2.2.1+c.2.2.2.1))
def Y2(kf:Keyed->O.α)(st:SortSt)(a b:Array Keyed)(c0:Nat)(c:T2)(st':SortSt):Prop:=Good st st'/\c.1=none/\MI kf a b c.2.1 c.2.2.1 c.2.2.2.1/\c0<=c.2.2.1+c.2.2.2.1
def R2'(kf:Keyed->O.α)(st:SortSt)(a b:Array Keyed)(c0:Nat)(r:ForInStep T2)(st':SortSt):Prop:=match r with | .done c'=>P2 kf st a b c0 c' st' | .yield c'=>Y2 kf st a b c0 c' st'
variable {c0 mg k1 bc ac:Nat}
def a8I(T:Two D kf a b)(g:Good st st')(h:MI kf a b out ia ib)(j:∀x,a.toList[ia]?=some x->∀y∈b.toList.drop ib,leK kf x y)(i:c0<=ia+ib):wpS (model prog w) A E s (loD a b out ia ib mg k k1) (R2' kf st a b c0) st':=by
 unfold loD;refine aC (B7 (by have:=h.2.1;omega) λx l d=>?_);have c:=h.1.stepA T.sa d (j x d);rw[<-cX]at c;split
 .rename_i e;exact aP ⟨g,.inl ⟨_,rfl,a0w T c (eq_of_beq e)⟩⟩
 .rename_i e;have e:¬ia+1+1=a.size:=λz=>e (bj.mpr z);have f:MI kf a b (out.push x) (ia+1) ib:=⟨c,by have:=h.2.1;omega,h.2.2⟩;split
  .exact aP ⟨g,.inr ⟨rfl,f,by show c0<=ia+1+ib;omega⟩⟩
  .exact aP ⟨g,rfl,f,by show c0<=ia+1+ib;omega⟩
def gdK(a:Array Keyed)(hi:i<a.size):a[i]?=some (a.getD i (Value.none,Value.none)):=by
 rw[bU,getElem?_pos a i hi];rfl
def a0v(hs:l.Pairwise (leK kf)){y:Keyed}(b:i<=j)(ex:l[i]?=some x)(a:l[j]?=some y):leK kf x y:=by
 by_cases e:i=j
 .subst e;rw[ex]at a;cases a;exact cE _
 .refine Z5 hs ex y ?_;have:(l.drop (i+1))[j-(i+1)]?=some y:=by rw[fc,<-a];congr 1;omega
  exact aE this
def a8J(T:Two D kf a b)(p:Cmp prog w A s κ D (ltK kf))(G:kindOf st=κ)(g:Good st st')(h:MI kf a b out ia ib)(H:∀y,b.toList[ib]?=some y->∀x∈a.toList.drop ia,leK kf y x)(C:c0<=ia+ib):wpS (model prog w) A E s (loC a b out ia ib mg k bc) (R2' kf st a b c0) st':=by
 unfold loC;obtain⟨r,f,q⟩:=h;refine aC (B7 q λy u l=>?_);have n:=r.stepB T.sb l (H y l);rw[<-cX]at n;split
 .rename_i e;exact aP ⟨g,.inl ⟨_,rfl,a0C T n (eq_of_beq e)⟩⟩
 .rename_i e;have e:¬ib+1=b.size:=λz=>e (bj.mpr z);refine aC (B7 (by omega) λx f1 f2=>?_);refine aC (L1 p (g.1.trans G) (T.da _ _ f1) (λi=>ltK kf (b.getD (ib+1+i) (Value.none,Value.none)) x) (λi hi=>⟨_,gdK b (by omega),T.db _ _ (gdK b (by omega)),rfl⟩) (λi j F K B=>?_) (by omega) λk1 L I J=>?_)
  .refine fe (a0v T.sb (i:=ib+1+i) (j:=ib+1+j) (by omega) ?_ ?_) B
   .rw[aB];exact gdK b (by omega)
   .rw[aB];exact gdK b (by omega)
  .dsimp only;have d:∀(c:Nat),c=ib+1+k1->c<b.size->∀t,a.toList[ia]?=some t->∀y∈b.toList.drop c,leK kf t y:=λc u l t ex'=>by
    rw[f2]at ex';cases ex';have o:b.toList[c]?=some (b.getD c (Value.none,Value.none)):=by rw[aB];exact gdK b l
    refine X7 T.sb o ?_;have:=J k1 (aq _) (by omega);rw[<-u]at this;exact this
   split
   .have hbk:=MS.bulkB T.sb (k:=k1) n (by rw[ay];omega) λi z hi v=>by
     refine X7 T.sa f2 ?_;have:=I i hi;rw[aB,gdK b (by omega)]at v;cases v;exact bW this
    rw[<-a3T,<-bY]at hbk;split
    .rename_i m;exact aP ⟨g,.inl ⟨_,rfl,a0C T hbk (eq_of_beq m)⟩⟩
    .rename_i m;have m:¬ib+1+k1=b.size:=λz=>m (bj.mpr z);exact a8I T g ⟨hbk,f,by omega⟩ (d _ rfl (by omega)) (by omega)
   .exact a8I T g ⟨n,f,by omega⟩ (d _ (by omega) (by omega)) (by omega)
def W4{Q:Unit->SortSt->Prop}(h:∀a,Good st' a->Q () a):wpS (model prog w) A E s (a0p mg) Q st':=by
 unfold a0p;exact wpS_modify (h _ ⟨rfl,rfl,rfl,rfl⟩)
def Good.trans{st st' a:SortSt}(h:Good st st')(h2:Good st' a):Good st a:=⟨h2.1.trans h.1,h2.2.1.trans h.2.1,h2.2.2.1.trans h.2.2.1,h2.2.2.2.trans h.2.2.2⟩
def a8K(T:Two D kf a b)(f:Cmp prog w A s κ D (ltK kf))(u:kindOf st=κ)(g:Good st st')(h:MI kf a b out ia ib)(r:c0<=ia+ib):wpS (model prog w) A E s (loB a b out ia ib mg ac bc) (R2' kf st a b c0) st':=by
 unfold loB;obtain⟨n,t,l⟩:=h;refine aC (W4 λO J=>?_);have g:=g.trans J;refine aC (B7 l λy I p=>?_);refine aC (L1 f (g.1.trans u) (T.db _ _ I) (λi=>!(ltK kf y (a.getD (ia+i) (Value.none,Value.none)))) (λi hi=>⟨_,gdK a (by omega),T.da _ _ (gdK a (by omega)),rfl⟩) (λi j L P G=>?_) (by omega) λk Q H N=>?_)
 .have hle:leK kf (a.getD (ia+j) (Value.none,Value.none)) y:=by
   unfold leK KeyOrd.kle;unfold ltK at G;simpa using G
  have:=bV (a0v T.sa (i:=ia+i) (j:=ia+j) (by omega) (by rw[aB];exact gdK a (by omega)) (by rw[aB];exact gdK a (by omega))) hle;unfold KeyOrd.kle at this;unfold ltK;rw[this];rfl
 .dsimp only;have m:ltK kf y (a.getD (a.size-1) (Value.none,Value.none))=true:=T.last y (aE p) _ (gdK a (by omega));have M:ia+k<a.size:=by
   refine Nat.lt_of_not_le λK=>?_;have:=H (a.size-1-ia) (by omega);rw[show ia+(a.size-1-ia)=a.size-1 by omega,m]at this;cases this
  have c:∀d,d=ia+k->∀v,b.toList[ib]?=some v->∀x∈a.toList.drop d,leK kf v x:=λd e v C=>by
   rw[p]at C;cases C;have q:a.toList[d]?=some (a.getD d (Value.none,Value.none)):=by rw[aB];exact gdK a (by omega)
   refine X7 T.sa q ?_;have:=N k (aq _) (by omega);rw[<-e]at this;refine bW ?_;unfold KeyOrd.klt;unfold ltK at this;simpa using this
  split
  .have hbk:=MS.bulkA T.sa k n (by rw[ay];omega) λi z hi F=>by
    refine X7 T.sb p ?_;have:=H i hi;rw[aB,gdK a (by omega)]at F;cases F;unfold leK KeyOrd.kle;unfold ltK at this;simpa using this
   rw[<-a3T,<-bY]at hbk;split
   .rename_i o;exact aP ⟨g,.inl ⟨_,rfl,a0w T hbk (eq_of_beq o)⟩⟩
   .rename_i o;have o:¬ia+k+1=a.size:=λz=>o (bj.mpr z);split
    .rename_i B;have B:=eq_of_beq B;omega
    .exact a8J T f u g ⟨hbk,by omega,l⟩ (c _ rfl) (by omega)
  .exact a8J T f u g ⟨n,t,l⟩ (c _ (by omega)) r
def P1(kf:Keyed->O.α)(st:SortSt)(a b:Array Keyed)(c0:Nat)(c:T1)(st':SortSt):Prop:=Good st st'/\((∃r,c.1=some r/\D8 kf a b r)∨(c.1=none/\MI kf a b c.2.1 c.2.2.1 c.2.2.2.1/\c0<=c.2.2.1+c.2.2.2.1))
def Y1(kf:Keyed->O.α)(st:SortSt)(a b:Array Keyed)(c0:Nat)(c:T1)(st':SortSt):Prop:=Good st st'/\c.1=none/\MI kf a b c.2.1 c.2.2.1 c.2.2.2.1/\c0<=c.2.2.1+c.2.2.2.1
def R1'(kf:Keyed->O.α)(st:SortSt)(a b:Array Keyed)(c0:Nat)(r:ForInStep T1)(st':SortSt):Prop:=match r with | .done c'=>P1 kf st a b c0 c' st' | .yield c'=>Y1 kf st a b c0 c' st'
def b4b(T:Two D kf a b)(m:Cmp prog w A s κ D (ltK kf))(r:kindOf st=κ)(g:Good st st')(h:MI kf a b out ia ib)(q:c0<=ia+ib):wpS (model prog w) A E s (loA a b out ia ib ac bc mg) (R1' kf st a b (c0+1)) st':=by
 unfold loA;obtain⟨i,n,d⟩:=h;refine aC (B7 d λy p l=>?_);refine aC (B7 (by omega) λx f1 f2=>?_);refine aC (a1b m (g.1.trans r) (T.db _ _ p) (T.da _ _ f1) ?_);dsimp only;cases o:ltK kf y x with
 |true =>
  rw[az rfl];refine aC (B7 d λu k c=>?_);rw[l]at c;cases c;have f:=i.stepB T.sb l (X7 T.sa f2 (bW o));rw[<-cX]at f;split
  .rename_i e;exact aP ⟨g,.inl ⟨_,rfl,a0C T f (eq_of_beq e)⟩⟩
  .rename_i e;have e:¬ib+1=b.size:=λz=>e (bj.mpr z);have j:MI kf a b (out.push y) ia (ib+1):=⟨f,n,by omega⟩;split
   .exact aP ⟨g,.inr ⟨rfl,j,by show c0+1<=ia+(ib+1);omega⟩⟩
   .exact aP ⟨g,rfl,j,by show c0+1<=ia+(ib+1);omega⟩
 |false =>
  rw[ar (by simp)];refine aC (B7 (by omega) λt k c=>?_);rw[f2]at c;cases c;have f:=i.stepA T.sa f2 (X7 T.sb l o);rw[<-cX]at f;split
  .rename_i e;exact aP ⟨g,.inl ⟨_,rfl,a0w T f (eq_of_beq e)⟩⟩
  .rename_i e;have e:¬ia+1+1=a.size:=λz=>e (bj.mpr z);have j:MI kf a b (out.push x) (ia+1) ib:=⟨f,by omega,d⟩;split
   .exact aP ⟨g,.inr ⟨rfl,j,by show c0+1<=ia+1+ib;omega⟩⟩
   .exact aP ⟨g,rfl,j,by show c0+1<=ia+1+ib;omega⟩
def V3{n:String}{Q:Unit->SortSt->Prop}(h:Q () st):wpS (model prog w) A E s (liftM (rule n):StateT SortSt Sem Unit) Q st:=wpS_lift (fP ⟨rfl,h⟩)
def a6i(T:Two D kf a b)(k:Cmp prog w A s κ D (ltK kf))(t:kindOf st=κ)(O:0<a.size)(F:0<b.size)(h0:∀y,b.toList[0]?=some y->∀x∈a.toList,leK kf y x){Q:Array Keyed->SortSt->Prop}
  (q:∀r st',D8 kf a b r->Good st st'->Q r st'):wpS (model prog w) A E s (a3v a b) Q st:=by
 rw[a7b];refine aC (V3 ?_);refine aC (B7 F λy f j=>?_);have l:MS kf a.toList b.toList (#[y]:Array Keyed).toList 0 1:=by
  have z:MS kf a.toList b.toList [] 0 0:=⟨.nil,.nil,(λ_ h=>nomatch h),λ_ h=>nomatch h⟩;exact z.stepB T.sb j (λx u=>h0 y j x u)
 have o:Good st st:=⟨rfl,rfl,rfl,rfl⟩;split
 .rename_i e;exact aP (q _ _ (a0C T l (eq_of_beq e)) o)
 .rename_i e;have e:¬1=b.size:=λz=>e (bj.mpr z);split
  .rename_i n;exact aP (q _ _ (a0w T l (eq_of_beq n)) o)
  .rename_i n;have n:¬0+1=a.size:=λz=>n (bj.mpr z);refine aC (fo ?_);refine aC (cI (cx (I:=λx c st'=>Good st st'/\c.1=none/\MI kf a b c.2.1 c.2.2.1 c.2.2.2.1/\x+1<=c.2.2.1+c.2.2.2.1)
    (Q:=λc st'=>Good st st'/\∃r,c.1=some r/\D8 kf a b r) ?step ?fin ⟨o,rfl,⟨l,by show 0+1<a.size;omega,by show 1<b.size;omega⟩,aq _⟩) ?post)
   case post =>
    rintro c st' ⟨g,r,f,j⟩;obtain⟨L,M⟩:=c;dsimp only at f;subst f;exact aP (q _ _ j g)
   case fin =>
    rintro c st' ⟨g,f,⟨_,h1,h2⟩,N⟩;exfalso;omega
   case step =>
    rintro x c J _ u ⟨g,f,p,G⟩;refine aC (cI (cx (I:=λz d st'=>Y1 kf st a b (x+1+min z 1) d st') (Q:=λd st'=>P1 kf st a b (x+2) d st') ?s1 ?f1 ⟨g,rfl,p,by show x+1+min 0 1<=c.2.2.1+c.2.2.2.1;omega⟩) ?p1)
    case f1 =>
     rintro d st' ⟨g,f,h1,h2⟩;exact⟨g,.inr ⟨f,h1,by omega⟩⟩
    case s1 =>
     rintro z d st' _ H ⟨g,f,h1,h2⟩;refine cI (b4b T k t g h1 (c0:=x+1) (by omega)) λr m i=>?_;cases r with
     |done c'=>exact i
     | «yield» c'=>exact⟨i.1,i.2.1,i.2.2.1,by have:=i.2.2.2;omega⟩
    case p1 =>
     rintro d st' ⟨g,hd⟩;obtain⟨v,B⟩:=d;rcases hd with⟨r,f,j⟩|⟨f,h1,h2⟩
     .dsimp only at f;subst f;exact aP ⟨g,r,rfl,j⟩
     .dsimp only at f;subst f;refine aC (V3 ?_);refine aC (cI (cx (I:=λz d st'=>Y2 kf st a b (x+2) d st') (Q:=λd st'=>P2 kf st a b (x+2) d st') ?s2 ?f2 ⟨g,rfl,h1,h2⟩) ?p2)
      case f2 =>
       rintro d st' ⟨g,f,h1,h2⟩;exact⟨g,.inr ⟨f,h1,h2⟩⟩
      case s2 =>
       rintro z d st' _ H ⟨g,f,h1,h2⟩;split
       .refine cI (a8K T k t g h1 h2) λr m i=>?_;cases r<;>exact i
       .refine cI (a8K T k t g h1 h2) λr m i=>?_;cases r<;>exact i
      case p2 =>
       rintro d st' ⟨g,hd⟩;obtain⟨v,B⟩:=d;rcases hd with⟨r,f,j⟩|⟨f,h1,h2⟩
       .dsimp only at f;subst f;exact aP ⟨g,r,rfl,j⟩
       .dsimp only at f;subst f;refine aC (W4 λK C=>?_);exact aP ⟨g.trans C,rfl,h1,h2⟩
end
section
variable {kf:Keyed->O.α}{la lb o:qA Keyed}{na nb:Nat}
structure MH(kf:Keyed->O.α)(la lb o:qA Keyed)(na nb:Nat):Prop where
 perm:o.Perm (la.drop na++lb.drop nb)
 sorted:o.Pairwise (leK kf)
 ra:∀x∈la.take na,∀y∈o,leK kf x y
 rb:∀x∈lb.take nb,∀y∈o,leK kf x y
def a2j(hs:l.Pairwise (leK kf))(h:l[i]?=some x):∀y∈l.take i,leK kf y x:=λy a=>by
 have:=hs.take (i:=i+1);rw[W5 h,bI]at this;exact this.2.2 y a x (au.mpr rfl)
def MH.stepA(h:MH kf la lb o (na+1) nb)(hs:la.Pairwise (leK kf))(e:la[na]?=some x)(c:∀y∈lb.take nb,leK kf y x):MH kf la lb (x::o) na nb:=by
 have d:x∈la.take (na+1):=by rw[W5 e];exact aH _ (au.mpr rfl)
 refine⟨?_,?_,λz b y a=>?_,λz b y a=>?_⟩
 .rw[a0B e,fL];exact h.perm.cons x
 .rw[cR];exact⟨λy a=>h.ra x d y a,h.sorted⟩
 .rcases aF.mp a with rfl|a
  .exact a2j hs e z b
  .exact h.ra z (by rw[W5 e];exact aO _ b) y a
 .rcases aF.mp a with rfl|a
  .exact c z b
  .exact h.rb z b y a
def MH.swap(h:MH kf la lb o na nb):MH kf lb la o nb na:=⟨h.perm.trans cJ,h.sorted,h.rb,h.ra⟩
def MH.stepB(h:MH kf la lb o na (nb+1))(hs:lb.Pairwise (leK kf))(e:lb[nb]?=some x)(a:∀y∈la.take na,leK kf y x):MH kf la lb (x::o) na nb:=(h.swap.stepA hs e a).swap
def MH.bulkA(hs:la.Pairwise (leK kf)){a:Nat}:∀(k:Nat) {o:qA Keyed},MH kf la lb o (a+k) nb->a+k<=la.length->(∀i x,a<=i->i<a+k->la[i]?=some x->∀y∈lb.take nb,leK kf y x)->MH kf la lb ((la.take (a+k)).drop a++o) a nb
 |0,o,h,d,_=>by
  rw[Nat.add_zero,cF (by rw[aS];omega),cO];exact h
 |k+1,o,h,d,c=>by
  obtain⟨x,b⟩:∃x,la[a+k]?=some x:=⟨_,ak (by omega)⟩;have h1:=MH.stepA (na:=a+k) h hs b (c _ x (by omega) (by omega) b);have h2:=MH.bulkA hs k h1 (by omega) λi y h1 h2 e=>c i y h1 (by omega) e;rw[show a+(k+1)=a+k+1 by omega,W5 b,dq (by rw[aS];omega),aK];exact h2
def MH.bulkB(hs:lb.Pairwise (leK kf))(h:MH kf la lb o na (a+k))(c:a+k<=lb.length)(b:∀i x,a<=i->i<a+k->lb[i]?=some x->∀y∈la.take na,leK kf y x):MH kf la lb ((lb.take (a+k)).drop a++o) na a :=
 (MH.bulkA hs k h.swap c b).swap
def MH.done(h:MH kf la lb o 0 nb)(hs:lb.Pairwise (leK kf)):a2c kf la lb (la.take 0++lb.take nb++o):=by
 rw[List.take_zero,cO];have a:=h.perm;rw[cU]at a;refine⟨?_,?_⟩
 .refine(cz _ a).trans ?_;rw[<-aK];refine(List.Perm.append_right _ cJ).trans ?_;rw[aK,bt]
 .rw[bI];exact⟨hs.take,h.sorted,h.rb⟩
def MH.firstB(h:MH kf la lb o na nb)(hsa:la.Pairwise (leK kf))(hs:lb.Pairwise (leK kf))(b:∀y∈lb.take nb,∀x∈la.take na,leK kf y x):a2c kf la lb (lb.take nb++la.take na++o):=by
 refine⟨?_,?_⟩
 .refine(cz _ h.perm).trans ?_;rw[aK,<-aK (la.take na),bt];refine cJ.trans ?_;rw[aK];refine cz _ (cJ.trans ?_);rw[bt]
 .rw[bI];refine⟨?_,h.sorted,λx c y a=>?_⟩
  .rw[bI];exact⟨hs.take,hsa.take,b⟩
  .rcases ao.mp c with q|q
   .exact h.rb x q y a
   .exact h.ra x q y a
end
def a3w:Array Keyed->Array Keyed->StateT SortSt Sem (Array Keyed):=sortPriv% PySem.Builtin.mergeHi
def R0(a b out:Array Keyed)(na nb:Nat):Array Keyed:=a.extract 0 na++b.extract 0 nb++out.reverse
def X9(a b out:Array Keyed)(na nb:Nat):Array Keyed:=b.extract 0 nb++a.extract 0 na++out.reverse
abbrev U1:Type:=qD (Array Keyed)×Nat×Nat×Array Keyed×Nat×Nat
abbrev U2:Type:=qD (Array Keyed)×Nat×Nat×Array Keyed×Nat×Nat×Nat
def hiD(a b:Array Keyed)(na nb:Nat)(out:Array Keyed)(mg k k1:Nat):StateT SortSt Sem (ForInStep U2) :=
 elem' a (na-1)>>=λx =>
 if (na-1==0)=true then pure (.done (some (R0 a b (out.push x) (na-1) nb),na-1,nb,out.push x,mg,k,k1))
 else if (decide (k<7) && decide (k1<7))=true then pure (.done (none,na-1,nb,out.push x,mg,k,k1))
 else pure (.yield (none,na-1,nb,out.push x,mg,k,k1))
def hiC(a b:Array Keyed)(na nb:Nat)(out:Array Keyed)(mg k bc:Nat):StateT SortSt Sem (ForInStep U2) :=
 elem' b (nb-1)>>=λy =>
 if (nb-1==1)=true then pure (.done (some (X9 a b (out.push y) na (nb-1)),na,nb-1,out.push y,mg,k,bc))
 else elem' a (na-1)>>=λx=>U8 true x b 0 (nb-1) (nb-1-1)>>=λr =>
  match r with
  |some at_=>(if nb-1-at_ > 0 then
    (if (at_==1)=true then pure (.done (some (X9 a b (out.push y++(b.extract at_ (nb-1)).reverse) na at_),na,at_,out.push y++(b.extract at_ (nb-1)).reverse,mg,k,nb-1-at_))
    else if (at_==0)=true then pure (.done (some (R0 a b (out.push y++(b.extract at_ (nb-1)).reverse) na at_),na,at_,out.push y++(b.extract at_ (nb-1)).reverse,mg,k,nb-1-at_))
    else hiD a b na at_ (out.push y++(b.extract at_ (nb-1)).reverse) mg k (nb-1-at_))
   else hiD a b na (nb-1) (out.push y) mg k (nb-1-at_))
  |_=>pure (.done (some (R0 a b (out.push y) na (nb-1)),na,nb-1,out.push y,mg,k,bc))
def hiB(a b:Array Keyed)(na nb:Nat)(out:Array Keyed)(mg ac bc:Nat):StateT SortSt Sem (ForInStep U2) :=
 a0p mg>>=λ_=>elem' b (nb-1)>>=λy=>U8 false y a 0 na (na-1)>>=λr =>
 match r with
 |some at_=>(if na-at_ > 0 then
   (if (at_==0)=true then pure (.done (some (R0 a b (out++(a.extract at_ na).reverse) at_ nb),at_,nb,out++(a.extract at_ na).reverse,mg,na-at_,bc))
   else hiC a b at_ nb (out++(a.extract at_ na).reverse) mg (na-at_) bc)
  else hiC a b na nb out mg (na-at_) bc)
 |_=>pure (.done (some (R0 a b out na nb),na,nb,out,mg,ac,bc))
def hiA(a b:Array Keyed)(na nb:Nat)(out:Array Keyed)(ac bc mg:Nat):StateT SortSt Sem (ForInStep U1) :=
 elem' b (nb-1)>>=λy=>elem' a (na-1)>>=λx=>lt' y x>>=λr =>
 match r with
 |some aWins=>(if aWins=true then elem' a (na-1)>>=λx =>
   (if (na-1==0)=true then pure (.done (some (R0 a b (out.push x) (na-1) nb),na-1,nb,out.push x,ac+1,0))
   else if ac+1 ≥ mg then pure (.done (none,na-1,nb,out.push x,ac+1,0))
   else pure (.yield (none,na-1,nb,out.push x,ac+1,0)))
  else elem' b (nb-1)>>=λy =>
   (if (nb-1==1)=true then pure (.done (some (X9 a b (out.push y) na (nb-1)),na,nb-1,out.push y,0,bc+1))
   else if bc+1 ≥ mg then pure (.done (none,na,nb-1,out.push y,0,bc+1))
   else pure (.yield (none,na,nb-1,out.push y,0,bc+1))))
 |_=>pure (.done (some (R0 a b out na nb),na,nb,out,ac,bc))
def a7c(a b:Array Keyed):a3w a b=(do
 rule "list.sort.merge-hi"
 let y <-elem' a (a.size-1)
 if (a.size-1==0)=true then pure (R0 a b #[y] (a.size-1) b.size)
 else if (b.size==1)=true then pure (X9 a b #[y] (a.size-1) b.size)
 else do
  let g <-get
  let r <-forIn [:a.size+b.size] ((none,a.size-1,b.size,#[y],gallopOf g):qD (Array Keyed)×Nat×Nat×Array Keyed×Nat) λ_ c=>do
   let r <-forIn [:a.size+b.size] ((none,c.2.1,c.2.2.1,c.2.2.2.1,0,0):U1) λ_ d=>hiA a b d.2.1 d.2.2.1 d.2.2.2.1 d.2.2.2.2.1 d.2.2.2.2.2 c.2.2.2.2
   match r.1 with
   |some q=>pure (ForInStep.done (some q,r.2.1,r.2.2.1,r.2.2.2.1,c.2.2.2.2))
   |none=>do
    rule "list.sort.gallop"
    let t <-forIn [:a.size+b.size] ((none,r.2.1,r.2.2.1,r.2.2.2.1,c.2.2.2.2+1,r.2.2.2.2.1,r.2.2.2.2.2):U2) λ_ d =>
     if d.2.2.2.2.1 > 1 then hiB a b d.2.1 d.2.2.1 d.2.2.2.1 (d.2.2.2.2.1-1) d.2.2.2.2.2.1 d.2.2.2.2.2.2 else hiB a b d.2.1 d.2.2.1 d.2.2.2.1 d.2.2.2.2.1 d.2.2.2.2.2.1 d.2.2.2.2.2.2
    match t.1 with
    |some q=>pure (ForInStep.done (some q,t.2.1,t.2.2.1,t.2.2.2.1,t.2.2.2.2.1))
    |none=>do
     a0p (t.2.2.2.2.1+1)
     pure (ForInStep.yield (none,t.2.1,t.2.2.1,t.2.2.2.1,t.2.2.2.2.1+1))
  match r.1 with
  |some q=>pure q
  |none=>unsupported "internal:list.sort.merge-bound"):=by
 show(_>>=_)=(_>>=_);refine aU _ (funext λ_=>?_);dsimp only;refine aU _ (funext λy=>?_);refine dU rfl (λ_=>rfl) (λ_=>dU rfl (λ_=>rfl) λ_=>?_);refine aU _ (funext λg=>?_);refine congr (aU _ (aU _ (funext λ_=>funext λc=>?_))) (funext λr=>?_)
 .refine congr (aU _ (aU _ (funext λ_=>funext λd=>?_))) (funext λr=>?_)
  .rfl
  .rcases r with⟨_|q,r⟩
   .dsimp only;refine aU _ (funext λ_=>?_);refine congr (aU _ (aU _ (funext λ_=>funext λd=>?_))) (funext λr=>?_)
    .rfl
    .rcases r with⟨_|q,r⟩<;>rfl
   .rfl
 .rcases r with⟨_|q,r⟩
  .dsimp only
  .rfl
def a1Y(a:Array α)(i n:Nat):(a.extract i n).toList=(a.toList.take n).drop i:=by
 rw[eX];simp[List.extract_eq_drop_take']
def a7x(a b out:Array Keyed)(na nb:Nat):(R0 a b out na nb).toList=a.toList.take na++b.toList.take nb++out.toList.reverse:=by
 unfold R0;rw[bY,bY,a1Y,a1Y,fU,cU,cU]
def a5X(a b out:Array Keyed)(na nb:Nat):(X9 a b out na nb).toList=b.toList.take nb++a.toList.take na++out.toList.reverse:=by
 unfold X9;rw[bY,bY,a1Y,a1Y,fU,cU,cU]
def a1k(out:Array Keyed)(x:Keyed):(out.push x).toList.reverse=x::out.toList.reverse:=by
 rw[cX,List.reverse_append];rfl
def a9S(out a:Array Keyed)(i n:Nat):(out++(a.extract i n).reverse).toList.reverse=(a.toList.take n).drop i++out.toList.reverse:=by
 rw[bY,List.reverse_append,fU,List.reverse_reverse,a1Y]
section
variable {kf:Keyed->O.α}{a b out:Array Keyed}{na nb:Nat}
def a5c(kf:Keyed->O.α)(a b:Array Keyed):Prop:=∀y,b.toList[0]?=some y->∀x∈a.toList,ltK kf y x=true
def X4{z:Keyed}(hs:l.Pairwise (leK kf))(e:l[i]?=some x)(h:leK kf x z):∀y∈l.take (i+1),leK kf y z:=λy a=>by
 rw[W5 e]at a;rcases ao.mp a with a|a
 .exact bV (a2j hs e y a) h
 .rw[au.mp a];exact h
def MJ(kf:Keyed->O.α)(a b out:Array Keyed)(na nb:Nat):Prop:=MH kf a.toList b.toList out.toList.reverse na nb/\1<=na/\2<=nb/\na<=a.size/\nb<=b.size
def a0D(T:Two D kf a b)(h:MH kf a.toList b.toList out.toList.reverse na nb)(hi:na=0):D8 kf a b (R0 a b out na nb):=by
 subst hi;unfold D8;rw[a7x];exact h.done T.sb
def X8(T:Two D kf a b)(F:a5c kf a b)(h:MH kf a.toList b.toList out.toList.reverse na nb)(hi:nb=1)(d:0<b.size):D8 kf a b (X9 a b out na nb):=by
 subst hi;unfold D8;rw[a5X];refine h.firstB T.sa T.sb λy c x f=>?_;have e:b.toList[0]?=some (b.getD 0 (Value.none,Value.none)):=by rw[aB];exact gdK b d
 rw[W5 e,List.take_zero,cO,au]at c;rw[c];exact bW (F _ e x (bJ f))
def P4(kf:Keyed->O.α)(st:SortSt)(a b:Array Keyed)(c0:Nat)(c:U2)(st':SortSt):Prop:=Good st st'/\((∃r,c.1=some r/\D8 kf a b r)∨(c.1=none/\MJ kf a b c.2.2.2.1 c.2.1 c.2.2.1/\c.2.1+c.2.2.1+c0<=a.size+b.size))
def Y4(kf:Keyed->O.α)(st:SortSt)(a b:Array Keyed)(c0:Nat)(c:U2)(st':SortSt):Prop:=Good st st'/\c.1=none/\MJ kf a b c.2.2.2.1 c.2.1 c.2.2.1/\c.2.1+c.2.2.1+c0<=a.size+b.size
def R4(kf:Keyed->O.α)(st:SortSt)(a b:Array Keyed)(c0:Nat)(r:ForInStep U2)(st':SortSt):Prop:=match r with | .done c'=>P4 kf st a b c0 c' st' | .yield c'=>Y4 kf st a b c0 c' st'
variable {c0 mg k1 bc ac:Nat}
def a8L(T:Two D kf a b)(g:Good st st')(h:MJ kf a b out na nb)(j:∀x,a.toList[na-1]?=some x->∀y∈b.toList.take nb,leK kf y x)(o:na+nb+c0<=a.size+b.size):wpS (model prog w) A E s (hiD a b na nb out mg k k1) (R4 kf st a b c0) st':=by
 unfold hiD;obtain⟨f,h1,h2,p,m⟩:=h;refine aC (B7 (by omega) λx l c=>?_);obtain⟨n,rfl⟩:∃n,na=n+1:=⟨na-1,by omega⟩;rw[ff]at l c j⊢;have d:=f.stepA T.sa c (j x c);rw[<-a1k]at d;split
 .rename_i e;exact aP ⟨g,.inl ⟨_,rfl,a0D T d (eq_of_beq e)⟩⟩
 .rename_i e;have e:¬n=0:=λz=>e (bj.mpr z);have i:MJ kf a b (out.push x) n nb:=⟨d,by omega,h2,by omega,m⟩;split
  .exact aP ⟨g,.inr ⟨rfl,i,by show n+nb+c0<=_;omega⟩⟩
  .exact aP ⟨g,rfl,i,by show n+nb+c0<=_;omega⟩
def a8M(T:Two D kf a b)(F:a5c kf a b)(u:Cmp prog w A s κ D (ltK kf))(R:kindOf st=κ)(g:Good st st')(h:MJ kf a b out na nb)(J:∀y,b.toList[nb-1]?=some y->∀x∈a.toList.take na,leK kf x y)(P:na+nb+c0<=a.size+b.size):wpS (model prog w) A E s (hiC a b na nb out mg k bc) (R4 kf st a b c0) st':=by
 unfold hiC;obtain⟨C,h1,h2,I,X⟩:=h;refine aC (B7 (by omega) λy L r=>?_);obtain⟨m,rfl⟩:∃m,nb=m+1:=⟨nb-1,by omega⟩;rw[ff]at L r J⊢;have p:=C.stepB T.sb r (J y r);rw[<-a1k]at p;split
 .rename_i e;exact aP ⟨g,.inl ⟨_,rfl,X8 T F p (eq_of_beq e) (by omega)⟩⟩
 .rename_i e;have e:¬m=1:=λz=>e (bj.mpr z);refine aC (B7 (by omega) λx f1 f2=>?_);refine aC (L1 u (g.1.trans R) (T.da _ _ f1) (λi=>ltK kf (b.getD (0+i) (Value.none,Value.none)) x) (λi hi=>⟨_,gdK b (by omega),T.db _ _ (gdK b (by omega)),rfl⟩) (λi j Q v O=>?_) (by omega) λc Z V K=>?_)
  .refine fe (a0v T.sb (i:=0+i) (j:=0+j) (by omega) ?_ ?_) O
   .rw[aB];exact gdK b (by omega)
   .rw[aB];exact gdK b (by omega)
  .dsimp only;have N:1<=c:=by
    refine Nat.pos_of_ne_zero λz=>?_;have:=K 0 (by omega) (by omega);have M:=F (b.getD 0 (Value.none,Value.none)) (by rw[aB];exact gdK b (by omega)) x (aE f2);rw[dC]at this;rw[M]at this;cases this
   have d:∀o,a.toList[na-1]?=some o->∀f,f=c->∀y∈b.toList.take f,leK kf y o:=λo ex' f W=>by
    rw[f2]at ex';cases ex';obtain⟨n,S⟩:∃n,f=n+1:=⟨f-1,by omega⟩;rw[S];have t:b.toList[n]?=some (b.getD n (Value.none,Value.none)):=by rw[aB];exact gdK b (by omega)
    refine X4 T.sb t (bW ?_);have:=V n (by omega);rw[dC]at this;exact this
   split
   .obtain⟨j,v⟩:∃j,m=c+j:=⟨m-c,by omega⟩;have l:MH kf a.toList b.toList ((b.toList.take (c+j)).drop c++(out.push y).toList.reverse) na c:=by
     rw[v]at p;refine MH.bulkB T.sb p (by rw[ay];omega) λi z U Y H=>?_;have:=K i U (by omega);rw[dC]at this;rw[aB,gdK b (by omega)]at H;cases H;have B:leK kf x (b.getD i (Value.none,Value.none)):=this;have:=X4 T.sa f2 B;rwa[show na-1+1=na by omega]at this
    rw[<-v,<-a9S]at l;split
    .rename_i q;exact aP ⟨g,.inl ⟨_,rfl,X8 T F l (eq_of_beq q) (by omega)⟩⟩
    .rename_i q;have q:¬c=1:=λz=>q (bj.mpr z);split
     .rename_i G;have G:=eq_of_beq G;omega
     .exact a8L T g ⟨l,h1,by omega,I,by omega⟩ (λo ex'=>d o ex' _ rfl) (by omega)
   .exact a8L T g ⟨p,h1,by omega,I,by omega⟩ (λo ex'=>d o ex' _ (by omega)) (by omega)
def a8N(T:Two D kf a b)(F:a5c kf a b)(l:Cmp prog w A s κ D (ltK kf))(t:kindOf st=κ)(g:Good st st')(h:MJ kf a b out na nb)(q:na+nb+c0<=a.size+b.size):wpS (model prog w) A E s (hiB a b na nb out mg ac bc) (R4 kf st a b c0) st':=by
 unfold hiB;obtain⟨m,h1,h2,L,H⟩:=h;refine aC (W4 λS K=>?_);have g:=g.trans K;refine aC (B7 (by omega) λy J B=>?_);refine aC (L1 l (g.1.trans t) (T.db _ _ J) (λi=>!(ltK kf y (a.getD (0+i) (Value.none,Value.none)))) (λi hi=>⟨_,gdK a (by omega),T.da _ _ (gdK a (by omega)),rfl⟩) (λi j M r I=>?_) (by omega) λc V Q R=>?_)
 .have hle:leK kf (a.getD (0+j) (Value.none,Value.none)) y:=by
   unfold leK KeyOrd.kle;unfold ltK at I;simpa using I
  have:=bV (a0v T.sa (i:=0+i) (j:=0+j) (by omega) (by rw[aB];exact gdK a (by omega)) (by rw[aB];exact gdK a (by omega))) hle;unfold KeyOrd.kle at this;unfold ltK;rw[this];rfl
 .dsimp only;have f:∀d,d=c->∀v,b.toList[nb-1]?=some v->∀x∈a.toList.take d,leK kf x v:=λd e v C=>by
   rw[B]at C;cases C;subst e;by_cases N:d=0
   .rw[N,List.take_zero];exact λ_ z=>nomatch z
   obtain⟨n,rfl⟩:∃n,d=n+1:=⟨d-1,by omega⟩;have p:a.toList[n]?=some (a.getD n (Value.none,Value.none)):=by rw[aB];exact gdK a (by omega)
   refine X4 T.sa p ?_;have:=Q n (by omega);rw[dC]at this;unfold leK KeyOrd.kle;unfold ltK at this;simpa using this
  split
  .obtain⟨j,r⟩:∃j,na=c+j:=⟨na-c,by omega⟩;have k:MH kf a.toList b.toList ((a.toList.take (c+j)).drop c++out.toList.reverse) c nb:=by
    rw[r]at m;refine MH.bulkA T.sa j m (by rw[ay];omega) λi z P U G=>?_;have:=R i P (by omega);rw[dC]at this;rw[aB,gdK a (by omega)]at G;cases G;have u:O.klt (kf y) (kf (a.getD i (Value.none,Value.none))):=by
     unfold KeyOrd.klt;unfold ltK at this;simpa using this
    have:=X4 T.sb B (bW u);rwa[show nb-1+1=nb by omega]at this
   rw[<-r,<-a9S]at k;split
   .rename_i o;exact aP ⟨g,.inl ⟨_,rfl,a0D T k (eq_of_beq o)⟩⟩
   .rename_i o;have o:¬c=0:=λz=>o (bj.mpr z);exact a8M T F l t g ⟨k,by omega,h2,by omega,H⟩ (f _ rfl) (by omega)
  .exact a8M T F l t g ⟨m,h1,h2,L,H⟩ (f _ (by omega)) q
def P3(kf:Keyed->O.α)(st:SortSt)(a b:Array Keyed)(c0:Nat)(c:U1)(st':SortSt):Prop:=Good st st'/\((∃r,c.1=some r/\D8 kf a b r)∨(c.1=none/\MJ kf a b c.2.2.2.1 c.2.1 c.2.2.1/\c.2.1+c.2.2.1+c0<=a.size+b.size))
def Y3(kf:Keyed->O.α)(st:SortSt)(a b:Array Keyed)(c0:Nat)(c:U1)(st':SortSt):Prop:=Good st st'/\c.1=none/\MJ kf a b c.2.2.2.1 c.2.1 c.2.2.1/\c.2.1+c.2.2.1+c0<=a.size+b.size
def R3(kf:Keyed->O.α)(st:SortSt)(a b:Array Keyed)(c0:Nat)(r:ForInStep U1)(st':SortSt):Prop:=match r with | .done c'=>P3 kf st a b c0 c' st' | .yield c'=>Y3 kf st a b c0 c' st'
def b4c(T:Two D kf a b)(F:a5c kf a b)(l:Cmp prog w A s κ D (ltK kf))(u:kindOf st=κ)(g:Good st st')(h:MJ kf a b out na nb)(t:na+nb+c0<=a.size+b.size):wpS (model prog w) A E s (hiA a b na nb out ac bc mg) (R3 kf st a b (c0+1)) st':=by
 unfold hiA;obtain⟨f,h1,h2,q,r⟩:=h;refine aC (B7 (by omega) λy o j=>?_);refine aC (B7 (by omega) λx f1 f2=>?_);refine aC (a1b l (g.1.trans u) (T.db _ _ o) (T.da _ _ f1) ?_);dsimp only;obtain⟨n,rfl⟩:∃n,na=n+1:=⟨na-1,by omega⟩;obtain⟨m,rfl⟩:∃m,nb=m+1:=⟨nb-1,by omega⟩;rw[ff]at o j f1 f2⊢;rw[ff];cases p:ltK kf y x with
 |true =>
  rw[az rfl];refine aC (B7 (by omega) λv k c=>?_);rw[f2]at c;cases c;have d:=f.stepA T.sa f2 (X4 T.sb j (bW p));rw[<-a1k]at d;split
  .rename_i e;exact aP ⟨g,.inl ⟨_,rfl,a0D T d (eq_of_beq e)⟩⟩
  .rename_i e;have e:¬n=0:=λz=>e (bj.mpr z);have i:MJ kf a b (out.push x) n (m+1):=⟨d,by omega,h2,by omega,r⟩;split
   .exact aP ⟨g,.inr ⟨rfl,i,by show n+(m+1)+(c0+1)<=_;omega⟩⟩
   .exact aP ⟨g,rfl,i,by show n+(m+1)+(c0+1)<=_;omega⟩
 |false =>
  rw[ar (by simp)];refine aC (B7 (by omega) λB k c=>?_);rw[j]at c;cases c;have d:=f.stepB T.sb j (X4 T.sa f2 p);rw[<-a1k]at d;split
  .rename_i e;exact aP ⟨g,.inl ⟨_,rfl,X8 T F d (eq_of_beq e) (by omega)⟩⟩
  .rename_i e;have e:¬m=1:=λz=>e (bj.mpr z);have i:MJ kf a b (out.push y) (n+1) m:=⟨d,h1,by omega,q,by omega⟩;split
   .exact aP ⟨g,.inr ⟨rfl,i,by show n+1+m+(c0+1)<=_;omega⟩⟩
   .exact aP ⟨g,rfl,i,by show n+1+m+(c0+1)<=_;omega⟩
def a6j(T:Two D kf a b)(F:a5c kf a b)(k:Cmp prog w A s κ D (ltK kf))(t:kindOf st=κ)(P:0<a.size)(G:0<b.size){Q:Array Keyed->SortSt->Prop}
  (q:∀r st',D8 kf a b r->Good st st'->Q r st'):wpS (model prog w) A E s (a3w a b) Q st:=by
 rw[a7c];refine aC (V3 ?_);refine aC (B7 (by omega) λy f j=>?_);have l:MH kf a.toList b.toList (#[y]:Array Keyed).toList.reverse (a.size-1) b.size:=by
  have z:MH kf a.toList b.toList [] (a.size-1+1) b.size:=by
   refine⟨?_,.nil,(λ_ _ _ h=>nomatch h),λ_ _ _ h=>nomatch h⟩;rw[cF (by rw[ay];omega),cF (by rw[ay];omega)];exact .nil
  exact z.stepA T.sa j (λx u=>bW (T.last x (bJ u) y f))
 have o:Good st st:=⟨rfl,rfl,rfl,rfl⟩;split
 .rename_i e;exact aP (q _ _ (a0D T l (eq_of_beq e)) o)
 .rename_i e;have e:¬a.size-1=0:=λz=>e (bj.mpr z);split
  .rename_i n;exact aP (q _ _ (X8 T F l (eq_of_beq n) G) o)
  .rename_i n;have n:¬b.size=1:=λz=>n (bj.mpr z);refine aC (fo ?_);refine aC (cI (cx (I:=λx c st'=>Good st st'/\c.1=none/\MJ kf a b c.2.2.2.1 c.2.1 c.2.2.1/\c.2.1+c.2.2.1+(x+1)<=a.size+b.size)
    (Q:=λc st'=>Good st st'/\∃r,c.1=some r/\D8 kf a b r) ?step ?fin ⟨o,rfl,⟨l,by show 1<=a.size-1;omega,by show 2<=b.size;omega,by show a.size-1<=a.size;omega,aq _⟩,by show a.size-1+b.size+(0+1)<=_;omega⟩) ?post)
   case post =>
    rintro c st' ⟨g,r,f,j⟩;obtain⟨M,N⟩:=c;dsimp only at f;subst f;exact aP (q _ _ j g)
   case fin =>
    rintro c st' ⟨g,f,⟨_,h1,h2,_⟩,O⟩;exfalso;omega
   case step =>
    rintro x c K _ u ⟨g,f,p,H⟩;refine aC (cI (cx (I:=λz d st'=>Y3 kf st a b (x+1+min z 1) d st') (Q:=λd st'=>P3 kf st a b (x+2) d st') ?s1 ?f1 ⟨g,rfl,p,by show c.2.1+c.2.2.1+(x+1+min 0 1)<=_;omega⟩) ?p1)
    case f1 =>
     rintro d st' ⟨g,f,h1,h2⟩;exact⟨g,.inr ⟨f,h1,by omega⟩⟩
    case s1 =>
     rintro z d st' _ J ⟨g,f,h1,h2⟩;refine cI (b4c T F k t g h1 (c0:=x+1) (by omega)) λr m i=>?_;cases r with
     |done c'=>exact i
     | «yield» c'=>exact⟨i.1,i.2.1,i.2.2.1,by have:=i.2.2.2;omega⟩
    case p1 =>
     rintro d st' ⟨g,hd⟩;obtain⟨v,B⟩:=d;rcases hd with⟨r,f,j⟩|⟨f,h1,h2⟩
     .dsimp only at f;subst f;exact aP ⟨g,r,rfl,j⟩
     .dsimp only at f;subst f;refine aC (V3 ?_);refine aC (cI (cx (I:=λz d st'=>Y4 kf st a b (x+2) d st') (Q:=λd st'=>P4 kf st a b (x+2) d st') ?s2 ?f2 ⟨g,rfl,h1,h2⟩) ?p2)
      case f2 =>
       rintro d st' ⟨g,f,h1,h2⟩;exact⟨g,.inr ⟨f,h1,h2⟩⟩
      case s2 =>
       rintro z d st' _ J ⟨g,f,h1,h2⟩;split
       .refine cI (a8N T F k t g h1 h2) λr m i=>?_;cases r<;>exact i
       .refine cI (a8N T F k t g h1 h2) λr m i=>?_;cases r<;>exact i
      case p2 =>
       rintro d st' ⟨g,hd⟩;obtain⟨v,B⟩:=d;rcases hd with⟨r,f,j⟩|⟨f,h1,h2⟩
       .dsimp only at f;subst f;exact aP ⟨g,r,rfl,j⟩
       .dsimp only at f;subst f;refine aC (W4 λL C=>?_);exact aP ⟨g.trans C,rfl,h1,h2⟩
end
def a7S(qN merged:Array Keyed)(sa:Nat):Array Keyed:=merged.toList.zipIdx.foldl (λa (p,j)=>a.setIfInBounds (sa+j) p) qN
def mgC(sa:Nat)(merged:Array Keyed):StateT SortSt Sem Bool :=
 (modify λs=>SortSt.mk' (kindOf s) (a7S (arrOf s) merged sa) (pendingOf s) (gallopOf s) (failedOf s))>>=λ_=>get>>=λs=>pure (failedOf s).isNone
def mgB(s:SortSt)(sa na sb nb:Nat):StateT SortSt Sem Bool :=
 elem' (arrOf s) (sa+na-1)>>=λx=>U8 true x (arrOf s) sb nb (nb-1)>>=λr=>match r with
 |some n=>(if (n==0)=true then pure true
  else if na<=n then a3v ((arrOf s).extract sa sb) ((arrOf s).extract sb (sb+n))>>=mgC sa
  else a3w ((arrOf s).extract sa sb) ((arrOf s).extract sb (sb+n))>>=mgC sa)
 |_=>pure false
def mgA(s:SortSt)(sa na sb nb:Nat):StateT SortSt Sem Bool :=
 elem' (arrOf s) sb>>=λy=>U8 false y (arrOf s) sa na 0>>=λr=>match r with
 |some k=>(if (na-k==0)=true then pure true else mgB s (sa+k) (na-k) sb nb)
 |_=>pure false
def a7d(i:Nat):mergeAt' i=(get>>=λs=>match ((pendingOf s)[i]?,(pendingOf s)[i+1]?)with
 |(some (sa,na,pw),some (sb,nb,_))=>set (SortSt.mk' (kindOf s) (arrOf s) (((pendingOf s).setIfInBounds i (sa,na+nb,pw)).eraseIdxIfInBounds (i+1)) (gallopOf s) (failedOf s))>>=λ_=>mgA s sa na sb nb
 |_=>liftM (unsupported "internal:list.sort.pending" : Sem Bool)):=by
 show(_>>=_)=(_>>=_);refine aU _ (funext λs=>?_);dsimp only;rcases(pendingOf s)[i]? with _|⟨sa,na,pw⟩
 .rfl
 rcases(pendingOf s)[i+1]? with _|⟨sb,nb,pw2⟩
 .rfl
 dsimp only;refine aU _ (funext λ_=>?_);unfold mgA;refine aU _ (funext λy=>?_);refine aU _ (funext λr=>?_);rcases r with _|k
 .rfl
 dsimp only;refine dU rfl (λ_=>rfl) λ_=>?_;unfold mgB;refine aU _ (funext λx=>?_);refine aU _ (funext λr=>?_);rcases r with _|n
 .rfl
 rfl
def a4Q:∀(l:qA Keyed) (qN:Array Keyed) (sa j:Nat),sa+j+l.length<=qN.size ->
  ((l.zipIdx j).foldl (λa (p:Keyed×Nat)=>a.setIfInBounds (sa+p.2) p.1) qN).toList=qN.toList.take (sa+j)++l++qN.toList.drop (sa+j+l.length)
 |[],qN,sa,j,h=>by simp
 |x::l,qN,sa,j,h=>by
  rw[aX]at h;rw[List.zipIdx_cons,dH,a4Q l _ sa (j+1) (by rw[fg];omega)];rw[Array.toList_setIfInBounds];have b:sa+j<qN.toList.length:=by rw[ay];omega
  rw[aX,show sa+(j+1)=sa+j+1 by omega];rw[List.take_set,List.drop_set_of_lt (by omega)];rw[List.take_succ_eq_append_getElem b,List.set_append_right _ _ (by rw[aS];omega)];rw[aS,show sa+j-min (sa+j) qN.toList.length=0 by omega];simp[aK];congr 1;omega
def a6I(qN a:Array Keyed)(sa:Nat)(h:sa+a.size<=qN.size):(a7S qN a sa).toList=qN.toList.take sa++a.toList++qN.toList.drop (sa+a.size):=by
 have:=a4Q a.toList qN sa 0 (by rw[ay];omega);rw[Nat.add_zero,ay]at this;exact this
def b4a{M:Model}{σ:Type}{st a:σ}{Q:PUnit->σ->Prop}(h:Q ⟨⟩ a):wpS M A E s (set a:StateT σ Sem PUnit) Q st:=by
 unfold wpS;rw[StateT.run_set];exact ae ⟨rfl,h⟩
section
variable {kf:Keyed->O.α}
structure Runs2(kf:Keyed->O.α)(D:Keyed->Prop)(qN:Array Keyed)(P LA LB R:qA Keyed):Prop where
 eq:qN.toList=P++LA++LB++R
 d:∀x∈qN.toList,D x
 sa:LA.Pairwise (leK kf)
 sb:LB.Pairwise (leK kf)
 na:0<LA.length
 nb:0<LB.length
variable {P LA LB R:qA Keyed}
def Runs2.atA(h:Runs2 kf D qN P LA LB R)(hi:i<LA.length):qN[P.length+i]?=LA[i]?:=by
 rw[<-aB,h.eq,aK,aK,ba (by omega),bA (by omega)];congr 1;omega
def Runs2.atB(h:Runs2 kf D qN P LA LB R)(hi:i<LB.length):qN[P.length+LA.length+i]?=LB[i]?:=by
 rw[<-aB,h.eq,aK,ba (by rw[ag];omega),bA (by rw[ag];omega)];congr 1;rw[ag];omega
def Runs2.dA(h:Runs2 kf D qN P LA LB R):∀x∈LA,D x:=λx a=>h.d x (by rw[h.eq];simp[a])
def Runs2.dB(h:Runs2 kf D qN P LA LB R):∀x∈LB,D x:=λx a=>h.d x (by rw[h.eq];simp[a])
def Runs2.size(h:Runs2 kf D qN P LA LB R):qN.size=P.length+LA.length+LB.length+R.length:=by
 rw[<-ay,h.eq];simp[ei]
def Runs2.extA(h:Runs2 kf D qN P LA LB R)(k:Nat):(qN.extract (P.length+k) (P.length+LA.length)).toList=LA.drop k:=by
 rw[a1Y,h.eq,aK (P++LA),eF (by simp)];rw[cj (by simp),List.drop_append,cF (by omega),cO];congr 1;omega
def Runs2.extB(h:Runs2 kf D qN P LA LB R)(a:k<=LB.length):(qN.extract (P.length+LA.length) (P.length+LA.length+k)).toList=LB.take k:=by
 rw[a3T,h.eq,aK,dq (by simp),cF (by simp),cO,eF a]
def a6k{pw a9:Nat}{Q:Bool->SortSt->Prop}(G:Cmp prog w A s κ D (ltK kf))(hk:kindOf st=κ)(h:Runs2 kf D (arrOf st) P LA LB R)(hp:(pendingOf st)[i]?=some (P.length,LA.length,pw))(a7:(pendingOf st)[i+1]?=some (P.length+LA.length,LB.length,a9))(hf:failedOf st=none)
  (q:∀(st':SortSt) (M:qA Keyed),kindOf st'=κ->failedOf st'=none->pendingOf st'=((pendingOf st).setIfInBounds i (P.length,LA.length+LB.length,pw)).eraseIdxIfInBounds (i+1)->a2c kf LA LB M->(arrOf st').toList=P++M++R->Q true st'):wpS (model prog w) A E s (mergeAt' i) Q st:=by
 rw[a7d];refine aC (fo ?_);rw[hp,a7];dsimp only;refine aC (b4a ?_);unfold mgA;have m:=heq_of_eq h.size;have a0:=h.na;have S:=h.nb;generalize f:SortSt.mk' (kindOf st) (arrOf st) (((pendingOf st).setIfInBounds i (P.length,LA.length+LB.length,pw)).eraseIdxIfInBounds (i+1)) (gallopOf st) (failedOf st)=d;have k2:kindOf d=κ:=by rw[<-f];exact hk
 have a2:arrOf d=arrOf st:=by rw[<-f]
 have p2:pendingOf d=((pendingOf st).setIfInBounds i (P.length,LA.length+LB.length,pw)).eraseIdxIfInBounds (i+1):=by rw[<-f]
 have f2:failedOf d=none:=by rw[<-f];exact hf
 have B:LA++LB=LA++LB->(∀x∈LA,∀y∈LB,leK kf x y)->Q true d:=λ_ a6=>by
  refine q d (LA++LB) k2 f2 p2 ⟨.refl _,bI.mpr ⟨h.sa,h.sb,a6⟩⟩ ?_;rw[a2,h.eq];simp[aK]
 refine aC (B7 (by have:=cS m;omega) λy e1 _=>?_);have ey:LB[0]?=some y:=by rw[<-h.atB S];exact e1
 have a3:∀z∈LB,leK kf y z:=X7 h.sb ey (cE _);have W:∀i,i<LA.length->(arrOf st)[P.length+i]?=some (LA.getD i (Value.none,Value.none))/\LA[i]?=some (LA.getD i (Value.none,Value.none)):=λi hi=>by
  have:LA[i]?=some (LA.getD i (Value.none,Value.none)):=by rw[av,ak hi];rfl
  exact⟨by rw[h.atA hi];exact this,this⟩
 have X:∀i,i<LB.length->(arrOf st)[P.length+LA.length+i]?=some (LB.getD i (Value.none,Value.none))/\LB[i]?=some (LB.getD i (Value.none,Value.none)):=λi hi=>by
  have:LB[i]?=some (LB.getD i (Value.none,Value.none)):=by rw[av,ak hi];rfl
  exact⟨by rw[h.atB hi];exact this,this⟩
 have t:∀{u v:Keyed},(!(ltK kf u v))=true->leK kf v u:=λ{u v} z=>by
  unfold leK KeyOrd.kle;unfold ltK at z;simpa using z
 refine aC (L1 G k2 (h.dB _ (aE ey)) (λi=>!(ltK kf y (LA.getD i (Value.none,Value.none)))) (λi hi=>⟨_,(W i hi).1,h.dA _ (aE (W i hi).2),rfl⟩) (λi j N c hb=>?_) a0 λk q1 q2 q3=>?_)
 .have:=bV (a0v h.sa N (W i (by omega)).2 (W j c).2) (t hb);unfold KeyOrd.kle at this;unfold ltK;rw[this];rfl
 .dsimp only;have Z:∀x∈LA.take k,leK kf x y:=λx hx=>by
   obtain⟨j,c,e⟩:=cq.mp hx;rw[aS]at c;have o:=aR c (Nat.min_le_right _ _);have:=t (q2 j (aR c (Nat.min_le_left _ _)));have a:=(W j o).2;rw[fA]at e;rw[ak o,e]at a;injection a with a
   rw[a];exact this
  split
  .rename_i e;have e:=eq_of_beq e;refine aP (B rfl λx hx z l=>bV (Z x ?_) (a3 z l));rw[cj (by omega)];exact hx
  .rename_i e;replace e:k<LA.length:=Nat.lt_of_sub_ne_zero λz=>e (bj.mpr z);clear q1;have a4:∀x∈LA.drop k,ltK kf y x=true:=λx hx=>by
    obtain⟨j,c,e⟩:=cq.mp hx;rw[bx]at c;rw[fB]at e;clear m S;have O:k+j<LA.length:=by omega
    have:=q3 (k+j) (cp _ _) O;have a:=(W (k+j) O).2;rw[ak O,e]at a;injection a with a
    rw[a];simpa using this
   unfold mgB;refine aC (B7 (by have:=cS m;omega) λx f1 _=>?_);rw[show P.length+k+(LA.length-k)-1=P.length+(LA.length-1) by omega]at f1;have ex:LA[LA.length-1]?=some x:=by rw[<-h.atA (by omega)];exact f1
   have V:∀z∈LA,leK kf z x:=λz l=>by
    have:=X4 h.sa ex (cE _) z;rw[show LA.length-1+1=LA.length by omega,bh]at this;exact this l
   refine aC (L1 G k2 (h.dA _ (aE ex)) (λi=>ltK kf (LB.getD i (Value.none,Value.none)) x) (λi hi=>⟨_,(X i hi).1,h.dB _ (aE (X i hi).2),rfl⟩) (λi j N c hb=>?_) (by omega) λn r1 r2 r3=>?_)
   .exact fe (a0v h.sb N (X i (by omega)).2 (X j c).2) hb
   .dsimp only;have L:∀z∈LB.drop n,leK kf x z:=λz l=>by
     obtain⟨j,c,e⟩:=cq.mp l;rw[bx]at c;rw[fB]at e;have U:n+j<LB.length:=by clear m a0 S;omega
     have:=r3 (n+j) (cp _ _) U;have a:=(X (n+j) U).2;rw[ak U,e]at a;injection a with a
     rw[a];exact this
    have a5:∀z∈LB.take n,ltK kf z x=true:=λz l=>by
     obtain⟨j,c,e⟩:=cq.mp l;rw[aS]at c;rw[fA]at e;have o:=aR c (Nat.min_le_right _ _);have:=r2 j (aR c (Nat.min_le_left _ _));have a:=(X j o).2;rw[ak o,e]at a;injection a with a
     rw[a];exact this
    split
    .rename_i e;have e:=eq_of_beq e;refine aP (B rfl λu p z l=>bV (V u p) (L z ?_));rw[e,cU];exact l
    .rename_i Y;replace Y:0<n:=Nat.pos_of_ne_zero λz=>Y (bj.mpr z);have J:=h.extA k;have K:=h.extB r1;generalize b1:(arrOf st).extract (P.length+k) (P.length+LA.length)=Xa at J;generalize b2:(arrOf st).extract (P.length+LA.length) (P.length+LA.length+n)=Ya at K;have sX:=heq_of_eq (show Xa.size=LA.length-k by rw[<-ay,J,bx]);have sY:=heq_of_eq (show Ya.size=n by rw[<-ay,K,aS,dh r1]);have T:Two D kf Xa Ya:=by
      refine⟨λi z C=>?_,λi z C=>?_,by rw[J];exact h.sa.drop,by rw[K];exact h.sb.take,λz l u eu=>?_⟩
      .refine h.dA z (bR (i:=k) ?_);rw[<-J];rw[<-aB]at C;exact aE C
      .refine h.dB z (bJ (i:=n) ?_);rw[<-K];rw[<-aB]at C;exact aE C
      .rw[K]at l;rw[<-aB,J,fc,cS sX,show k+(LA.length-k-1)=LA.length-1 by omega,ex]at eu;cases eu;exact a5 z l
     have F:a5c kf Xa Ya:=λz C u p=>by
      rw[K,dg Y,ey]at C;cases C;rw[J]at p;exact a4 u p
     have fin:∀(r:Array Keyed) (b:SortSt),D8 kf Xa Ya r->Good d b->wpS (model prog w) A E s (mgC (P.length+k) r) Q b:=λr b hr g=>by
      unfold mgC;obtain⟨H,a8⟩:=hr;rw[J,K]at H;have a1:=heq_of_eq (show r.size=LA.length-k+n by
       have:=H.length_eq;rw[ag,bx,aS,ay,dh r1]at this;exact this)
      refine aC (wpS_modify (aC (fo (aP ?_))));show Q (failedOf b).isNone _;rw[g.2.2.2,f2];have I:∀z∈r.toList,z∈LA.drop k∨z∈LB.take n:=λz l=>ao.mp (H.mem_iff.mp l);refine q _ (LA.take k++r.toList++LB.drop n) (g.1.trans k2) rfl (g.2.2.1.trans p2) ⟨?_,?_⟩ ?_
      .refine((cz _ H).append_right _).trans ?_;rw[<-aK (LA.take k),bt,aK,bt]
      .have sAk:∀u∈LA.take k,∀v∈LA.drop k,leK kf u v:=by
        have:=h.sa;rw[<-bt k LA,bI]at this;exact this.2.2
       have b0:∀u∈LB.take n,∀v∈LB.drop n,leK kf u v:=by
        have:=h.sb;rw[<-bt n LB,bI]at this;exact this.2.2
       rw[bI,bI];refine⟨⟨h.sa.take,a8,λu p v hv=>?_⟩,h.sb.drop,λu p v hv=>?_⟩
       .rcases I v hv with z|z
        .exact sAk u p v z
        .exact bV (Z u p) (a3 v (bJ z))
       .rcases ao.mp p with z|z
        .exact bV (V u (bJ z)) (L v hv)
        .rcases I u z with z|z
         .exact bV (V u (bR z)) (L v hv)
         .exact b0 u z v hv
      .show(a7S (arrOf b) r (P.length+k)).toList=_;rw[g.2.1,a2,a6I _ _ _ (by rw[cS a1,cS m];clear m;omega),h.eq,cS a1];have e1:(P++LA++LB++R).take (P.length+k)=P++LA.take k:=by
        rw[aK,aK,List.take_append,cj (by omega),show P.length+k-P.length=k by omega,eF (by omega)]
       have a:(P++LA++LB++R).drop (P.length+k+(LA.length-k+n))=LB.drop n++R:=by
        rw[aK (P++LA),List.drop_append,cF (by rw[ag];omega),cO,ag,show P.length+k+(LA.length-k+n)-(P.length+LA.length)=n by omega,dq r1]
       rw[e1,a];simp[aK]
     split
     .exact aC (a6i T G k2 (by rw[cS sX];omega) (by rw[cS sY];exact Y) (λz C u p=>bW (F z C u p)) λr b hr g=>fin r b hr g)
     .exact aC (a6j T F G k2 (by rw[cS sX];omega) (by rw[cS sY];exact Y) λr b hr g=>fin r b hr g)
end
section
variable {kf:Keyed->O.α}
def kx(kf:Keyed->O.α)(qN:Array Keyed)(i:Nat):O.α:=kf (qN.getD i (Value.none,Value.none))
def SoO(kf:Keyed->O.α)(qN:Array Keyed)(lo m:Nat):Prop:=∀i j,i<=j->j<m->O.kle (kx kf qN (lo+i)) (kx kf qN (lo+j))
def NiO(kf:Keyed->O.α)(qN:Array Keyed)(lo m:Nat):Prop:=∀i j,i<=j->j<m->O.kle (kx kf qN (lo+j)) (kx kf qN (lo+i))
def Kept(lo:Nat)(st st':SortSt):Prop:=kindOf st'=kindOf st/\pendingOf st'=pendingOf st/\failedOf st'=failedOf st/\(arrOf st').Perm (arrOf st)/\∀i,i<lo->(arrOf st')[i]?=(arrOf st)[i]?
def Kept.refl{lo:Nat}:Kept lo st st:=⟨rfl,rfl,rfl,.refl _,λ_ _=>rfl⟩
def Kept.trans{lo:Nat}{st' a:SortSt}(h:Kept lo st st')(h2:Kept lo st' a):Kept lo st a:=⟨h2.1.trans h.1,h2.2.1.trans h.2.1,h2.2.2.1.trans h.2.2.1,h2.2.2.2.1.trans h.2.2.2.1,λi hi=>(h2.2.2.2.2 i hi).trans (h.2.2.2.2 i hi)⟩
def AllD(D:Keyed->Prop)(qN:Array Keyed):Prop:=∀x∈qN.toList,D x
def AllD.perm{a b:Array Keyed}(h:AllD D a)(p:b.Perm a):AllD D b:=λx c=>h x ((dM.mp p).mem_iff.mp c)
def a0d{a b:Array Keyed}(h:a[i]?=b[j]?):kx kf a i=kx kf b j:=by
 unfold kx;rw[bU,bU,h]
def V4{Q:qD Bool->SortSt->Prop}(a:Cmp prog w A s κ D (ltK kf))(f:kindOf st=κ)(d:AllD D (arrOf st))(hi:i<(arrOf st).size)(e:j<(arrOf st).size)(h:Q (some (O.blt (kx kf (arrOf st) i) (kx kf (arrOf st) j))) st):wpS (model prog w) A E s (ltAt' i j) Q st:=by
 rw[ltAt'_eq];refine aC (fo ?_);refine aC (B7 hi λx b f1=>aC (B7 e λy c f2=>?_));rw[gdK _ hi]at b;rw[gdK _ e]at c;cases b;cases c;exact a1b a f (d _ (aE f1)) (d _ (aE f2)) h
def b1y{src:Nat}{Q:Unit->SortSt->Prop}(h:Q () (setArr st (bubble (arrOf st) src (src-a)))):wpS (model prog w) A E s (moveDown' src a) Q st:=by
 rw[moveDown'_eq];exact wpS_modify h
def a1N{src:Nat}(hs:src<qN.size)(hd:a<=src)(i:Nat):kx kf (bubble qN src (src-a)) i=if i=a then kx kf qN src else if a<i/\i<=src then kx kf qN (i-1)else kx kf qN i:=by
 have e:=getElem?_bubble hs (src-a) (by omega) i;rw[show src-(src-a)=a by omega]at e;split
 .rename_i c;rw[az c]at e;exact a0d e
 .rename_i c;rw[ar c]at e;split
  .rename_i c2;rw[az c2]at e;exact a0d e
  .rename_i c2;rw[ar c2]at e;exact a0d e
def a3n{l:Nat}(h:l<j)(h2:j<=k):j-1<k:=by omega
section
variable {l:Nat}(hs:lo+k<qN.size)(hd:l<=k)
include hs hd
theorem b3P(h:i<l):kx kf (bubble qN (lo+k) (lo+k-(lo+l))) (lo+i)=kx kf qN (lo+i):=by
 rw[a1N hs (by omega),ar (by omega),ar (by omega)]
theorem a8E:kx kf (bubble qN (lo+k) (lo+k-(lo+l))) (lo+l)=kx kf qN (lo+k):=by
 rw[a1N hs (by omega),az rfl]
theorem a6d(h:l<i)(h2:i<=k):kx kf (bubble qN (lo+k) (lo+k-(lo+l))) (lo+i)=kx kf qN (lo+(i-1)):=by
 rw[a1N hs (by omega),ar (by omega),az (by omega),Nat.add_sub_assoc (by omega)]
end
def b1z{ok:Nat}{Q:Bool->SortSt->Prop}(C:Cmp prog w A s κ D (ltK kf))(L:kindOf st=κ)(J:AllD D (arrOf st))(N:lo+n<=(arrOf st).size)(H:ok<=n)(hs:SoO kf (arrOf st) lo ok)
  (h:∀st',Kept lo st st'->SoO kf (arrOf st') lo n->Q true st'):wpS (model prog w) A E s (binarySort' lo n ok) Q st:=by
 rw[binarySort'_eq];refine aC (cI (cx (I:=λk c st'=>c=(none,())/\Kept lo st st'/\SoO kf (arrOf st') lo (min k n))
  (Q:=λc st'=>c=(none,())/\Kept lo st st'/\SoO kf (arrOf st') lo n) ?step ?fin ?init) ?post)
 case post =>
  rintro c st' ⟨rfl,f,e⟩;exact aP (h st' f e)
 case init =>
  refine⟨rfl,Kept.refl,λi j g q=>?_⟩;by_cases h1:ok=0
  .have:i=j:=by omega
   subst this;exact cE _
  .exact hs i j g (by omega)
 case fin =>
  rintro c st' ⟨K,f,e⟩;refine⟨K,f,?_⟩;rwa[show min (max (max ok 1) n) n=n by omega]at e
 case step =>
  rintro k c st' B F ⟨rfl,f,e⟩;rw[show min k n=k by omega]at e;have t:lo+k<(arrOf st').size:=by have:=f.2.2.2.1.size_eq;omega
  have z:=J.perm f.2.2.2.1;have u:min (k+1) n=k+1:=by omega
  clear N H B F;refine aC (cI (cx (I:=λx c a=>a=st'/\∃l r,c=(none,l,r)/\l<=r/\r<=k/\r-l<=k-x /\
    (∀i,i<l->O.kle (kx kf (arrOf st') (lo+i)) (kx kf (arrOf st') (lo+k)))/\(∀i,r<=i->i<k->O.kle (kx kf (arrOf st') (lo+k)) (kx kf (arrOf st') (lo+i))))
   (Q:=λc a=>a=st'/\∃l r,c=(none,l,r)/\l<=k /\
    (∀i,i<l->O.kle (kx kf (arrOf st') (lo+i)) (kx kf (arrOf st') (lo+k)))/\(∀i,l<=i->i<k->O.kle (kx kf (arrOf st') (lo+k)) (kx kf (arrOf st') (lo+i)))) ?istep ?ifin ?iinit) ?ipost)
  case iinit=>exact⟨rfl,0,k,rfl,by omega,by omega,by omega,λi hi=>by omega,λi h1 h2=>by omega⟩
  case ifin =>
   rintro c a ⟨rfl,l,r,rfl,G,v,M,o,m⟩;have:l=r:=by omega
   subst this;exact⟨rfl,l,l,rfl,v,o,m⟩
  case istep =>
   rintro x c a _ P ⟨rfl,l,r,rfl,G,v,M,o,m⟩;dsimp only;by_cases y:l ≥ r
   .rw[az y];have:l=r:=by omega
    subst this;exact aP ⟨rfl,l,l,rfl,v,o,m⟩
   .rw[ar y];refine aC (V4 C (f.1.trans L) z (by omega) (by omega) ?_);dsimp only;cases p:O.blt (kx kf (arrOf a) (lo+k)) (kx kf (arrOf a) (lo+(l+r) / 2))with
    |true =>
     rw[az rfl];refine aP ⟨rfl,l,(l+r) / 2,rfl,by omega,by omega,by omega,o,λi h1 h2=>?_⟩;exact bV (bW p) (e _ _ h1 h2)
    |false =>
     rw[ar (by simp)];refine aP ⟨rfl,(l+r) / 2+1,r,rfl,by omega,by omega,by omega,λi h1=>?_,m⟩;exact bV (e i ((l+r) / 2) (by omega) (by omega)) p
  case ipost =>
   rintro c a ⟨rfl,l,r,rfl,b,o,m⟩;refine aC (b1y (aP ⟨rfl,f.trans ⟨rfl,rfl,rfl,bubble_perm _ _ _,λi hi=>?_⟩,?_⟩))
   .show(bubble (arrOf a) (lo+k) (lo+k-(lo+l)))[i]?=_;rw[getElem?_bubble t _ (by omega),ar (by omega),ar (by omega)]
   rw[u];clear u;intro i j g q;replace q:j<=k:=eH q;show O.kle (kx kf (bubble (arrOf a) (lo+k) (lo+k-(lo+l))) (lo+i)) (kx kf (bubble (arrOf a) (lo+k) (lo+k-(lo+l))) (lo+j));rcases dm i l with c|rfl|c
   .rw[b3P t b c];rcases dm j l with d|rfl|d
    .rw[b3P t b d];exact e i j g (aR d b)
    .rw[a8E t b];exact o i c
    .rw[a6d t b d q];exact e i (j-1) (Nat.le_sub_one_of_lt (fT c d)) (a3n d q)
   .rw[a8E t b];rcases Nat.lt_or_eq_of_le g with d|rfl
    .rw[a6d t b d q];exact m (j-1) (Nat.le_sub_one_of_lt d) (a3n d q)
    .rw[a8E t b];exact cE _
   .have d:=aR c g;rw[a6d t b c (a_ g q),a6d t b d q];exact e (i-1) (j-1) (Nat.sub_le_sub_right g 1) (a3n d q)
end
def b3U(lo a nrem:Nat):StateT SortSt Sem AscSt:=forIn [a:nrem] ((none,a):AscSt) λ_ c=>ltAt' (lo+c.2) (lo+c.2-1)>>=λr=>match r with
 |some sm=>(if sm=true then pure (.done (none,c.2))else pure (.yield (none,c.2+1)))
 |_=>pure (.done (some none,c.2))
def a0R(lo n nrem:Nat):StateT SortSt Sem (qJ):=reverseSlice' lo (lo+n)>>=λ_=>b3U lo n nrem>>=λc=>match c.1 with
 |some r=>pure r
 |none=>pure (some c.2)
def a9M(lo n nrem:Nat):StateT SortSt Sem DescSt:=forIn [n:nrem] ((none,n,0):DescSt) λ_ c=>ltAt' (lo+c.2.1) (lo+c.2.1-1)>>=λr=>match r with
 |some sm=>(if sm=true then(if c.2.2 > 0 then reverseSlice' (lo+c.2.1-(c.2.2+1)) (lo+c.2.1)>>=λ_=>pure (.yield (none,c.2.1+1,0))else pure (.yield (none,c.2.1+1,0)))
  else ltAt' (lo+c.2.1-1) (lo+c.2.1)>>=λr=>match r with
   |some lg=>(if lg=true then pure (.done (none,c.2.1,c.2.2))else pure (.yield (none,c.2.1+1,c.2.2+1)))
   |_=>pure (.done (some none,c.2.1,c.2.2)))
 |_=>pure (.done (some none,c.2.1,c.2.2))
def dpO(lo n nrem:Nat):StateT SortSt Sem (qJ):=liftM (rule "list.sort.descending-run")>>=λ_=>a9M lo (n+1) nrem>>=λc=>match c.1 with
 |some r=>pure r
 |none=>(if c.2.2 > 0 then reverseSlice' (lo+c.2.1-(c.2.2+1)) (lo+c.2.1)>>=λ_=>a0R lo c.2.1 nrem else a0R lo c.2.1 nrem)
def b0Y(lo a:Nat):countRun' lo a=(b3U lo 1 a>>=λc=>match c.1 with
 |some r=>pure r
 |none=>(if (c.2==a)=true then pure (some c.2)else if c.2 > 1 then ltAt' lo (lo+c.2-1)>>=λr=>match r with
   |some rose=>(if rose=true then pure (some c.2)else reverseSlice' lo (lo+c.2)>>=λ_=>dpO lo c.2 a)
   |_=>pure none
  else dpO lo c.2 a)):=by
 have d:∀(n:Nat),(reverseSlice' lo (lo+n)>>=λ_=>b3U lo n a>>=λc=>match c.1 with|some r=>pure r|none=>pure (some c.2))=a0R lo n a:=λn=>rfl;rw[countRun'_eq];dsimp only;refine congr (aU _ ?_) (funext λc=>?_)
 .rfl
 rcases c with⟨_|q,n⟩
 .dsimp only;have dp:∀n:Nat,(liftM (rule "list.sort.descending-run")>>=λ_=>a9M lo (n+1) a>>=λc=>match c.1 with
    |some r=>pure r
    |none=>(if c.2.2 > 0 then reverseSlice' (lo+c.2.1-(c.2.2+1)) (lo+c.2.1)>>=λ_=>a0R lo c.2.1 a else a0R lo c.2.1 a))=dpO lo n a:=λn=>rfl
  have b:∀{β:Type}{m:StateT SortSt Sem β}{f g:β->StateT SortSt Sem (qJ)},(∀c,f c=g c)->(m>>=f)=(m>>=g):=λh=>aU _ (funext h);refine dU rfl (λ_=>rfl) λ_=>dU rfl (λ_=>?_) λ_=>?_
  .refine b λr=>?_;rcases r with _|r
   .rfl
   .dsimp only;refine dU rfl (λ_=>rfl) λ_=>?_;refine b λ_=>?_;rw[<-dp];refine b λ_=>?_;refine congr (aU _ ?_) (funext λc=>?_)
    .rfl
    .rcases c with⟨_|q,n,z⟩
     .dsimp only;refine dU rfl (λ_=>?_) λ_=>?_
      .refine b λ_=>?_;refine b λ_=>?_;refine congr (aU _ ?_) (funext λc=>?_)
       .rfl
       .rcases c with⟨_|q,n⟩<;>rfl
      .refine b λ_=>?_;refine congr (aU _ ?_) (funext λc=>?_)
       .rfl
       .rcases c with⟨_|q,n⟩<;>rfl
     .rfl
  .rw[<-dp];refine b λ_=>?_;refine congr (aU _ ?_) (funext λc=>?_)
   .rfl
   .rcases c with⟨_|q,n,z⟩
    .dsimp only;refine dU rfl (λ_=>?_) λ_=>?_
     .refine b λ_=>?_;refine b λ_=>?_;refine congr (aU _ ?_) (funext λc=>?_)
      .rfl
      .rcases c with⟨_|q,n⟩<;>rfl
     .refine b λ_=>?_;refine congr (aU _ ?_) (funext λc=>?_)
      .rfl
      .rcases c with⟨_|q,n⟩<;>rfl
    .rfl
 .rfl
section
variable {kf:Keyed->O.α}
def a1M(a:j<=qN.size)(k:Nat):kx kf (mirror qN i j ((j-i) / 2)) k=if i<=k/\k<j then kx kf qN (i+j-1-k)else kx kf qN k:=by
 have e:=getElem?_mirror_all (i:=i) a k;split
 .rename_i c;rw[az c]at e;exact a0d e
 .rename_i c;rw[ar c]at e;exact a0d e
def P5(b:j<=qN.size)(a:∀k,i<=k->k<j->kx kf qN k=kx kf qN (j-1))(k:Nat):kx kf (mirror qN i j ((j-i) / 2)) k=kx kf qN k:=by
 rw[a1M b];split
 .rw[a _ (by omega) (by omega),a k (by omega) (by omega)]
 .rfl
def Kept.rev(hi:lo<=i)(a:j<=(arrOf st).size):Kept lo st (setArr st (mirror (arrOf st) i j ((j-i) / 2))):=⟨rfl,rfl,rfl,mirror_perm _ _ _ _,λk b=>by
 show(mirror (arrOf st) i j ((j-i) / 2))[k]?=_;rw[getElem?_mirror_all a,ar (by omega)]⟩
def a6m{b:Nat}{Q:AscSt->SortSt->Prop}(k:Cmp prog w A s κ D (ltK kf))(u:kindOf st=κ)(t:AllD D (arrOf st))(r:lo+b<=(arrOf st).size)(q:1<=a)(f:a<=b)(hs:SoO kf (arrOf st) lo a)
  (h:∀n,a<=n->n<=b->SoO kf (arrOf st) lo n->(n=b∨O.klt (kx kf (arrOf st) (lo+n)) (kx kf (arrOf st) (lo+(n-1))))->Q (none,n) st):wpS (model prog w) A E s (b3U lo a b) Q st:=by
 unfold b3U;refine cx (I:=λx c st'=>st'=st/\c=(none,x)/\SoO kf (arrOf st) lo x) ?step ?fin ⟨rfl,rfl,hs⟩
 case fin =>
  rintro c st' ⟨rfl,rfl,d⟩;rw[Nat.max_eq_right f]at d⊢;exact h b f (aq _) d (.inl rfl)
 case step =>
  rintro x c st' g p ⟨rfl,rfl,d⟩;dsimp only;replace q:1<=x:=a_ q g;rw[show lo+x-1=lo+(x-1) by clear r f g p;omega];refine aC (V4 k u t (by omega) (by omega) ?_);clear r f;dsimp only;cases e:O.blt (kx kf (arrOf st') (lo+x)) (kx kf (arrOf st') (lo+(x-1)))with
  |true =>
   rw[az rfl];exact aP (h x g (by omega) d (.inr e))
  |false =>
   rw[ar (by simp)];refine aP ⟨rfl,rfl,λi j m v=>?_⟩;by_cases o:j<x
   .exact d i j m o
   .have hj':j=x:=by omega
    subst hj';by_cases l:i=j
    .subst l;exact cE _
    .exact bV (d i (j-1) (by omega) (by omega)) e
def a2S(d:Cmp prog w A s κ D (ltK kf))(l:kindOf st=κ)(g:AllD D (arrOf st))(f:lo+a<=(arrOf st).size)(h1:1<=n)(b:n<=a)(hs:NiO kf (arrOf st) lo n)
  (h:∀m st',Kept lo st st'->1<=m->m<=a->SoO kf (arrOf st') lo m->Q (some m) st'):wpS (model prog w) A E s (a0R lo n a) Q st:=by
 unfold a0R;refine aC (wpS_reverse ?_);have c:Kept lo st (setArr st (mirror (arrOf st) lo (lo+n) ((lo+n-lo) / 2))):=Kept.rev (aq _) (by omega);refine aC (a6m d (c.1.trans l) (g.perm c.2.2.2.1) (by rw[c.2.2.2.1.size_eq];exact f) h1 b (λi j k q=>?_) λm r o p _=>aP (h m _ c (by omega) o p));show O.kle (kx kf (mirror (arrOf st) lo (lo+n) ((lo+n-lo) / 2)) (lo+i)) (kx kf (mirror (arrOf st) lo (lo+n) ((lo+n-lo) / 2)) (lo+j));have e:lo+n<=(arrOf st).size:=by omega
 rw[a1M e,a1M e];clear f h1 b e;rw[az (by omega),az (by omega),show lo+(lo+n)-1-(lo+i)=lo+(n-1-i) by omega,show lo+(lo+n)-1-(lo+j)=lo+(n-1-j) by omega];exact hs _ _ (by omega) (by omega)
def a9V{d:Nat}{Q:DescSt->SortSt->Prop}(H:Cmp prog w A s κ D (ltK kf))(J:kindOf st=κ)(M:AllD D (arrOf st))(L:lo+d<=(arrOf st).size)(h1:1<=n)(u:n<=d)(hs:NiO kf (arrOf st) lo n)
  (h:∀m a st',Kept lo st st'->n<=m->m<=d->NiO kf (arrOf st') lo m->a+1<=m->(∀i,lo+m-(a+1)<=i->i<lo+m->kx kf (arrOf st') i=kx kf (arrOf st') (lo+m-1))->Q (none,m,a) st'):wpS (model prog w) A E s (a9M lo n d) Q st:=by
 unfold a9M;refine cx (I:=λx c st'=>∃a,c=(none,x,a)/\Kept lo st st'/\NiO kf (arrOf st') lo x/\a+1<=x /\
   (∀i,lo+x-(a+1)<=i->i<lo+x->kx kf (arrOf st') i=kx kf (arrOf st') (lo+x-1))) ?step ?fin ⟨0,rfl,Kept.refl,hs,by omega,λi h1 h2=>by congr 1;omega⟩
 case fin =>
  rintro c st' ⟨a,rfl,b,g,F,y⟩;rw[Nat.max_eq_right u]at g F y⊢;exact h d a st' b u (aq _) g F y
 case step =>
  rintro x c st' o e ⟨a,rfl,b,g,F,y⟩;dsimp only;have t:lo+x<(arrOf st').size:=by rw[b.2.2.2.1.size_eq];exact aR (Nat.add_lt_add_left e lo) L
  have G:=M.perm b.2.2.2.1;replace e:x<=d:=cL e;have ex:HEq (lo+x-1) (lo+(x-1)):=heq_of_eq (by clear L h1 u o e t;omega);have l:lo+x-1<(arrOf st').size:=fh (Nat.sub_le _ _) t;clear L h1 u;refine aC (V4 H (b.1.trans J) G t l ?_);dsimp only;rw[cS ex]at y l⊢;cases q:O.blt (kx kf (arrOf st') (lo+x)) (kx kf (arrOf st') (lo+(x-1)))with
  |true =>
   rw[az rfl];have r:∀xs:Array Keyed,(∀k,kx kf xs k=kx kf (arrOf st') k)->NiO kf xs lo (x+1):=by
    intro xs J i j B N;rw[J,J];by_cases C:j<x
    .exact g i j B C
    .have hj':j=x:=by omega
     subst hj';by_cases z:i=j
     .subst z;exact cE _
     .exact bV (bW q) (g i (j-1) (by omega) (by omega))
   by_cases f:a > 0
   .rw[az f];refine aC (wpS_reverse (aP ⟨0,rfl,b.trans (Kept.rev (by clear t l ex o e f;omega) (cL t)),r _ (P5 (cL t) (λk P R=>by rw[cS ex];exact y k P R)),fi _,λi h1 h2=>by clear t l ex o e f F;congr 1;omega⟩))
   .rw[ar f];exact aP ⟨0,rfl,b,r _ (λ_=>rfl),fi _,λi h1 h2=>by clear t l ex o e f F;congr 1;omega⟩
  |false =>
   rw[ar (by simp)];refine aC (V4 H (b.1.trans J) G l t ?_);dsimp only;clear t l;cases p:O.blt (kx kf (arrOf st') (lo+(x-1))) (kx kf (arrOf st') (lo+x))with
   |true =>
    rw[az rfl];exact aP (h x a st' b o e g F (by rw[cS ex];exact y))
   |false =>
    rw[ar (by simp)];have v:kx kf (arrOf st') (lo+x)=kx kf (arrOf st') (lo+(x-1)):=KeyOrd.kle_antisymm p q;clear o e;refine aP ⟨a+1,rfl,b,λi j B N=>?_,by omega,λi h1 h2=>?_⟩
    .by_cases C:j<x
     .exact g i j B C
     .have hj':j=x:=by omega
      subst hj';by_cases z:i=j
      .subst z;exact cE _
      .rw[v];exact g i (j-1) (by omega) (by omega)
    .rw[show lo+(x+1)-1=lo+x by omega];by_cases K:i=lo+x
     .subst K;rfl
     .rw[v];exact y i (by omega) (by omega)
def a8O(e:Cmp prog w A s κ D (ltK kf))(t:kindOf st=κ)(y:AllD D (arrOf st))(q:lo+a<=(arrOf st).size)(u:n+1<=a)(hs:NiO kf (arrOf st) lo (n+1))
  (h:∀m st',Kept lo st st'->1<=m->m<=a->SoO kf (arrOf st') lo m->Q (some m) st'):wpS (model prog w) A E s (dpO lo n a) Q st:=by
 unfold dpO;refine aC (V3 ?_);refine aC (a9V e t y q (by omega) u hs λm k st' b C f p F z=>?_);dsimp only;have v:=heq_of_eq (b.2.2.2.1.size_eq:(arrOf st').size=(arrOf st).size);have g:lo+m<=(arrOf st').size:=by rw[cS v];exact a_ (Nat.add_le_add_left f lo) q
 have o:=y.perm b.2.2.2.1;by_cases d:k > 0
 .rw[az d];have c:Kept lo st' (setArr st' (mirror (arrOf st') (lo+m-(k+1)) (lo+m) ((lo+m-(lo+m-(k+1))) / 2))):=Kept.rev (by omega) g;refine aC (wpS_reverse (a2S e (c.1.trans (b.1.trans t)) (o.perm c.2.2.2.1) (by rw[c.2.2.2.1.size_eq,cS v];exact q) (by omega) f (λi j r B=>?_) λx l k2=>h x l (b.trans (c.trans k2))));show O.kle (kx kf (mirror (arrOf st') _ _ _) _) (kx kf (mirror (arrOf st') _ _ _) _);rw[P5 g z,P5 g z];exact p i j r B
 .rw[ar d];exact a2S e (b.1.trans t) o (by rw[cS v];exact q) (by omega) f p λx l k2=>h x l (b.trans k2)
def a7E{b:Nat}(f:Cmp prog w A s κ D (ltK kf))(v:kindOf st=κ)(F:AllD D (arrOf st))(q:lo+b<=(arrOf st).size)(h1:1<=b)
  (h:∀m st',Kept lo st st'->1<=m->m<=b->SoO kf (arrOf st') lo m->Q (some m) st'):wpS (model prog w) A E s (countRun' lo b) Q st:=by
 rw[b0Y];refine aC (a6m f v F q (aq 1) h1 (λi j x J=>by have:i=j:=(by omega);subst this;exact cE _) λn g c l C=>?_);dsimp only;by_cases a:n=b
 .rw[az (by simpa using a)];exact aP (h n st Kept.refl g c l)
 .rw[ar (by simpa using a)];have y:O.klt (kx kf (arrOf st) (lo+n)) (kx kf (arrOf st) (lo+(n-1))):=C.resolve_left a;replace a:n+1<=b:=by omega
  clear C c h1;replace c:=Nat.le_of_succ_le a;have u:lo+n<(arrOf st).size:=aR (Nat.add_lt_add_left a lo) q;by_cases o:n > 1
  .rw[az o];refine aC (V4 f v F (by omega) (by omega) ?_);dsimp only;have ex:lo+n-1=lo+(n-1):=by clear q a c u;omega
   rw[ex];cases t:O.blt (kx kf (arrOf st) lo) (kx kf (arrOf st) (lo+(n-1)))with
   |true =>
    rw[az rfl];exact aP (h n st Kept.refl g c l)
   |false =>
    rw[ar (by simp)];have r:=q;clear q;have d:∀k,k<n->kx kf (arrOf st) (lo+k)=kx kf (arrOf st) (lo+(n-1)):=by
     intro k v;clear u a c ex;have a1:=l 0 k (bu _) v;have K:=l k (n-1) (by omega) (by omega);exact KeyOrd.kle_antisymm K (bV t a1)
    have z:∀k,kx kf (mirror (arrOf st) lo (lo+n) ((lo+n-lo) / 2)) k=kx kf (arrOf st) k:=P5 (cL u) λk M N=>by
     rw[ex];clear u a c ex r;have:=d (k-lo) (by omega);rwa[show lo+(k-lo)=k by omega]at this
    have e:Kept lo st (setArr st (mirror (arrOf st) lo (lo+n) ((lo+n-lo) / 2))):=Kept.rev (aq _) (cL u);refine aC (wpS_reverse (a8O f (e.1.trans v) (F.perm e.2.2.2.1) (by rw[e.2.2.2.1.size_eq];exact r) a (λi j x J=>?_) λL I k2=>h L I (e.trans k2)));show O.kle (kx kf (mirror (arrOf st) _ _ _) _) (kx kf (mirror (arrOf st) _ _ _) _);rw[z,z];clear u a c ex r g;by_cases H:j<n
    .rw[d i (by omega),d j H];exact cE _
    .have hj':j=n:=by omega
     subst hj';by_cases p:i=j
     .subst p;exact cE _
     .rw[d i (by omega)];exact bW y
  .rw[ar o];have B:n=1:=by omega
   subst B;refine a8O f v F q a (λi j x J=>?_) h;clear u a c q g o;by_cases p:i=j
   .subst p;exact cE _
   .have hi0:i=0:=by omega
    have G:j=1:=by omega
    subst hi0;subst G;exact bW y
end
def a2u:Nat->qA (qA Keyed)->qA (Nat×Nat)
 |_,[]=>[]
 |o,r::rs=>(o,r.length)::a2u (o+r.length) rs
def U6:∀(o:Nat) (X Y:qA (qA Keyed)),a2u o (X++Y)=a2u o X++a2u (o+X.flatten.length) Y
 |o,[],Y=>by simp[a2u]
 |o,r::X,Y=>by
  simp only[fL,a2u,U6 (o+r.length) X Y,cW,ag,ei]
def a3s:∀(o:Nat) (X:qA (qA Keyed)),(a2u o X).length=X.length
 |_,[]=>rfl
 |o,r::X=>by simp only[a2u,aX,a3s (o+r.length) X]
abbrev ent(e:Nat×Nat×Nat):Nat×Nat:=(e.1,e.2.1)
section
variable {kf:Keyed->O.α}
structure RI(kf:Keyed->O.α)(κ:SortKind)(a0:Array Keyed)(st:SortSt)(runs:qA (qA Keyed))(rest:qA Keyed):Prop where
 kind:kindOf st=κ
 failed:failedOf st=none
 perm:(arrOf st).Perm a0
 eq:(arrOf st).toList=runs.flatten++rest
 sorted:∀r∈runs,r.Pairwise (leK kf)
 ne:∀r∈runs,0<r.length
 pend:(pendingOf st).toList.map ent=a2u 0 runs
def RI.size(h:RI kf κ a0 st runs rest):(pendingOf st).size=runs.length:=by
 rw[<-ay,<-ai (f:=ent),h.pend,a3s]
def a2f{X Y:qA (qA Keyed)}{ra b:qA Keyed}{Q:Bool->SortSt->Prop}(j:Cmp prog w A s κ D (ltK kf))(I:AllD D a0)(h:RI kf κ a0 st (X++ra::b::Y) rest)
  (q:∀(st':SortSt) (M:qA Keyed),RI kf κ a0 st' (X++M::Y) rest->M.length=ra.length+b.length->Q true st'):wpS (model prog w) A E s (mergeAt' X.length) Q st:=by
 have p:=h.pend;rw[U6,a2u,a2u]at p;obtain⟨c,R,i,n,v⟩:=List.map_eq_append_iff.mp p;obtain⟨x,S,B,e,C⟩:=List.map_eq_cons_iff.mp v;obtain⟨y,K,F,g,o⟩:=List.map_eq_cons_iff.mp C;subst B F;obtain⟨L,N,u⟩:=x;obtain⟨O,P,m⟩:=y;rw[dC]at e g o;have e:(L,N)=(X.flatten.length,ra.length):=e;have g:(O,P)=(X.flatten.length+ra.length,b.length):=g;cases e;cases g;have J:c.length=X.length:=by rw[<-ai (f:=ent),n,a3s]
 have G:(pendingOf st)[X.length]?=some (X.flatten.length,ra.length,u):=by
  rw[<-aB,i,ba (by omega),show X.length-c.length=0 by omega];rfl
 have H:(pendingOf st)[X.length+1]?=some (X.flatten.length+ra.length,b.length,m):=by
  rw[<-aB,i,ba (by omega),show X.length+1-c.length=1 by omega];rfl
 have a:Runs2 kf D (arrOf st) X.flatten ra b (Y.flatten++rest):=by
  refine⟨?_,λz t=>(I.perm h.perm) z t,h.sorted _ (by simp),h.sorted _ (by simp),h.ne _ (by simp),h.ne _ (by simp)⟩;rw[h.eq];simp[aK]
 refine a6k j h.kind a G H h.failed λst' M k1 k2 k3 l k5=>?_;have d:M.length=ra.length+b.length:=by rw[l.1.length_eq,ag]
 refine q st' M ⟨k1,k2,?_,?_,λr k=>?_,λr k=>?_,?_⟩ d
 .refine dM.mpr ?_;refine List.Perm.trans ?_ (dM.mp h.perm);rw[k5,a.eq];refine List.Perm.append_right _ ?_;rw[aK X.flatten];exact cz _ l.1
 .rw[k5];simp[aK]
 .rcases ao.mp k with z|z
  .exact h.sorted r (aO _ z)
  .rcases aF.mp z with rfl|z
   .exact l.2
   .exact h.sorted r (aH _ (ax _ (ax _ z)))
 .rcases ao.mp k with z|z
  .exact h.ne r (aO _ z)
  .rcases aF.mp z with rfl|z
   .have:=h.ne ra (by simp);omega
   .exact h.ne r (aH _ (ax _ (ax _ z)))
 .rw[k3,Array.eraseIdxIfInBounds];have t:(pendingOf st).size=X.length+(Y.length+2):=by rw[h.size];simp
  rw[dif_pos (by rw[fg];omega),Array.toList_eraseIdx,Array.toList_setIfInBounds,i];rw[List.set_append_right _ _ (by omega),show X.length-c.length=0 by omega,List.set_cons_zero];rw[List.eraseIdx_append_of_length_le (by omega),show X.length+1-c.length=1 by omega];show(c++(X.flatten.length,ra.length+b.length,u)::K).map ent=_;rw[bC,aV,n,o,U6,a2u,dC,d];show _++(X.flatten.length,ra.length+b.length)::_=_;rw[ei]
end
def a2N(lo n:Nat):StateT SortSt Sem (ForInStep (qD Unit×Nat)) :=
 (modify λs=>setPending s ((pendingOf s).push (lo,n,0)))>>=λ_=>pure (.yield (none,lo+n))
def a0e(sz pw:Nat):StateT SortSt Sem (qD Unit×Unit) :=
 forIn [:sz] ((none,()):qD Unit×Unit) λ_ _=>get>>=λg=>match (if (pendingOf g).size > 1 then(pendingOf g)[(pendingOf g).size-2]? else none)with
  |some (_,_,older)=>(if older<=pw then pure (.done (none,()))else mergeAt' ((pendingOf g).size-2)>>=λb=>if (!b)=true then pure (.done (some (),()))else pure (.yield (none,())))
  |_=>pure (.done (none,()))
def a1a(sz lo n:Nat):StateT SortSt Sem (ForInStep (qD Unit×Nat)):=get>>=λg=>match (pendingOf g).back? with
 |some (s1,n1,_)=>a0e sz (power' sz (2*s1+n1) (2*s1+n1+n1+n) sz)>>=λc=>match c.1 with
  |some r=>pure (.done (some r,lo))
  |none=>(modify λs=>setPending s ((pendingOf s).modify ((pendingOf s).size-1) λx=>(x.1,x.2.1,power' sz (2*s1+n1) (2*s1+n1+n1+n) sz)))>>=λ_=>a2N lo n
 |_=>a2N lo n
def a9A(sz:Nat):StateT SortSt Sem (qD Unit×Unit) :=
 forIn [:sz] ((none,()):qD Unit×Unit) λ_ _=>get>>=λg=>if (pendingOf g).size<=1 then pure (.done (none,()))
  else mergeAt' (if Option.any (λx=>decide (x<(pendingOf g)[(pendingOf g).size-2+1]?.elim 0 λx=>x.2.1)) (if (pendingOf g).size-2 > 0 then Option.map (λx=>x.2.1) (pendingOf g)[(pendingOf g).size-2-1]? else none)=true then(pendingOf g).size-2-1 else(pendingOf g).size-2)>>=λb=>if (!b)=true then pure (.done (some (),()))else pure (.yield (none,()))
section
variable {kf:Keyed->O.α}
def two_last{l:qA α}(h:2<=l.length):∃X a b,l=X++[a,b]/\X.length=l.length-2:=by
 refine⟨l.take (l.length-2),l[l.length-2],l[l.length-1],?_,by rw[aS];omega⟩;have c:l.drop (l.length-2)=[l[l.length-2],l[l.length-1]]:=by
  rw[cG (by omega),cG (by omega),cF (by omega)];congr 2;congr 1;omega
 rw[<-c,bt]
def a5g{sz:Nat}{Q:qD Unit×Unit->SortSt->Prop}(g:Cmp prog w A s κ D (ltK kf))(i:AllD D a0)(h:RI kf κ a0 st runs rest)
  (q:∀st' a,RI kf κ a0 st' a rest->a.flatten.length=runs.flatten.length->a.length<=runs.length->Q (none,()) st'):wpS (model prog w) A E s (a0e sz j) Q st:=by
 unfold a0e;refine cx (I:=λ_ c st'=>c=(none,())/\∃a,RI kf κ a0 st' a rest/\a.flatten.length=runs.flatten.length/\a.length<=runs.length) ?step (λc st' ⟨e,d,h1,h2,b⟩=>by rw[e];exact q st' d h1 h2 b) ⟨rfl,runs,h,rfl,aq _⟩;rintro x c st' _ _ ⟨rfl,d,h1,h2,b⟩;refine aC (fo ?_);split
 .rename_i older heq;split
  .exact aP (q st' d h1 h2 b)
  .have hz:(pendingOf st').size > 1:=by
    refine Nat.lt_of_not_le λz=>?_;rw[ar (by omega)]at heq;cases heq
   have hs:=h1.size;obtain⟨X,ra,n,f,m⟩:=two_last (l:=d) (by omega);rw[f]at h1;rw[show(pendingOf st').size-2=X.length by omega];refine aC (a2f g i h1 λk M k1 k2=>?_);rw[ar (by simp)];refine aP ⟨rfl,_,k1,?_,?_⟩
   .rw[<-h2,f];simp[k2]
   .rw[f]at b;simp at b⊢;omega
 .exact aP (q st' d h1 h2 b)
def a2e{Q:ForInStep (qD Unit×Nat)->SortSt->Prop}{r:qA Keyed}(h:RI kf κ a0 st runs (r++rest))(e:r.Pairwise (leK kf))(d:0<n)(c:r.length=n)(a:lo=runs.flatten.length)
  (q:∀st',RI kf κ a0 st' (runs++[r]) rest->Q (.yield (none,lo+n)) st'):wpS (model prog w) A E s (a2N lo n) Q st:=by
 unfold a2N;refine aC (wpS_modify (aP (q _ ⟨h.kind,h.failed,h.perm,?_,λz b=>?_,λz b=>?_,?_⟩)))
 .show(arrOf st).toList=_;rw[h.eq];simp
 .rcases ao.mp b with y|y
  .exact h.sorted z y
  .rw[au.mp y];exact e
 .rcases ao.mp b with y|y
  .exact h.ne z y
  .rw[au.mp y,c];exact d
 .show((pendingOf st).push (lo,n,0)).toList.map ent=_;rw[cX,bC,h.pend,U6,dC,a,<-c];rfl
def map_modify{p:Array (Nat×Nat×Nat)}:(p.modify i λx=>(x.1,x.2.1,a)).toList.map ent=p.toList.map ent:=by
 rw[Array.toList_modify];refine eI λj=>?_;rw[aZ,aZ,List.getElem?_modify];cases p.toList[j]? with
 |none=>rfl
 |some x =>
  by_cases e:i=j
  .simp[e]
  .simp[e]
def a7G{sz:Nat}{Q:ForInStep (qD Unit×Nat)->SortSt->Prop}{r:qA Keyed}(e:Cmp prog w A s κ D (ltK kf))(j:AllD D a0)(h:RI kf κ a0 st runs (r++rest))(i:r.Pairwise (leK kf))(g:0<n)(d:r.length=n)(b:lo=runs.flatten.length)
  (q:∀st' a,RI kf κ a0 st' a rest->a.flatten.length=lo+n->a.length<=runs.length+1->Q (.yield (none,lo+n)) st'):wpS (model prog w) A E s (a1a sz lo n) Q st:=by
 unfold a1a;refine aC (fo ?_);split
 .refine aC (a5g e j h λst' a k1 k2 k3=>?_);dsimp only;refine aC (wpS_modify ?_);refine a2e (runs:=a) (rest:=rest) ⟨k1.kind,k1.failed,k1.perm,k1.eq,k1.sorted,k1.ne,map_modify.trans k1.pend⟩ i g d (by rw[k2];exact b) λc f=>q c _ f ?_ ?_
  .simp[k2,d,b]
  .simp;omega
 .refine a2e h i g d b λc f=>q c _ f ?_ ?_
  .simp[d,b]
  .simp
end
section
variable {kf:Keyed->O.α}
def b3T{l:qA α}(h:i+1<l.length):∃X a b Y,l=X++a::b::Y/\X.length=i:=by
 refine⟨l.take i,l[i],l[i+1],l.drop (i+1+1),?_,by rw[aS];omega⟩;rw[<-cG (by omega),<-cG (by omega),bt]
def a6l{sz:Nat}{Q:qD Unit×Unit->SortSt->Prop}(j:Cmp prog w A s κ D (ltK kf))(n:AllD D a0)(h:RI kf κ a0 st runs rest)(t:runs.length<=sz)
  (q:∀st' a,RI kf κ a0 st' a rest->a.length<=1->Q (none,()) st'):wpS (model prog w) A E s (a9A sz) Q st:=by
 unfold a9A;refine cx (I:=λx c st'=>c=(none,())/\∃a,RI kf κ a0 st' a rest/\a.length+x<=sz+1) ?step (λc st' ⟨e,g,h1,h2⟩=>by rw[e];exact q st' g h1 (by omega)) ⟨rfl,runs,h,by omega⟩;rintro x c st' _ _ ⟨rfl,g,h1,h2⟩;refine aC (fo ?_);have hs:=h1.size;split
 .exact aP (q st' g h1 (by omega))
 .rename_i hz;have m:∀i,i+1<g.length->wpS (model prog w) A E s ((mergeAt' i>>=λb=>if (!b)=true then pure (ForInStep.done (some (),()))else pure (ForInStep.yield (none,()))):StateT SortSt Sem (ForInStep (qD Unit×Unit))) (λr d=>match r with|ForInStep.done c'=>Q c' d|ForInStep.yield c'=>c'=(none,())/\∃a,RI kf κ a0 d a rest/\a.length+(x+1)<=sz+1) st':=λi hi=>by
   obtain⟨X,ra,u,Y,k,l⟩:=b3T hi;rw[k]at h1 h2;rw[<-l];refine aC (a2f j n h1 λp M k1 k2=>?_);rw[ar (by simp)];refine aP ⟨rfl,_,k1,?_⟩;simp at h2⊢;omega
  refine cI (m _ ?_) (λr d o=>by cases r<;>exact o);by_cases f:(pendingOf st').size-2 > 0
  .rw[az f];split<;>omega
  .rw[ar f,ar (by simp)];omega
def RI.kept(h:RI kf κ a0 st runs rest)(k:Kept runs.flatten.length st st'):RI kf κ a0 st' runs ((arrOf st').toList.drop runs.flatten.length):=by
 refine⟨k.1.trans h.kind,k.2.2.1.trans h.failed,k.2.2.2.1.trans h.perm,?_,h.sorted,h.ne,by rw[k.2.1];exact h.pend⟩;have e:(arrOf st').toList.take runs.flatten.length=runs.flatten:=by
  have a:(arrOf st).toList.take runs.flatten.length=runs.flatten:=by rw[h.eq,List.take_left'];rfl
  rw[<-a];refine eI λi=>?_;rw[aS];by_cases hi:i<runs.flatten.length
  .have hle:runs.flatten.length<=(arrOf st).toList.length:=by rw[h.eq,ag];omega
   rw[dg (by omega),dg hi,aB,aB];exact k.2.2.2.2 i hi
  .rw[cm (by rw[aS];omega),cm (by rw[aS];omega)]
 rw[<-bt runs.flatten.length (arrOf st').toList,e];congr 1;rw[dq (aq _),List.drop_length,cO]
def b4k(h:SoO kf qN lo n)(c:lo+n<=qN.size):((qN.toList.drop lo).take n).Pairwise (leK kf):=by
 rw[dP];intro i j hi b a;rw[aS,bx,ay]at hi b;have q:=h i j (cL a) (by omega);unfold leK;have g:∀k,k<n->kx kf qN (lo+k)=kf (qN[lo+k]?.getD (Value.none,Value.none)):=λk _=>by unfold kx;rw[bU]
 rw[g i (by omega),g j (by omega),getElem?_pos qN _ (by omega),getElem?_pos qN _ (by omega)]at q;simp only[fA,fB,Array.getElem_toList];exact q
def a3l:∀{runs:qA (qA Keyed)},(∀r∈runs,0<r.length)->runs.length<=runs.flatten.length
 |[],_=>aq _
 |r::runs,h=>by
  have:=a3l (runs:=runs) λz a=>h z (ax _ a);have:=h r aA;simp only[aX,cW,ag];omega
def a4t{m m':StateT SortSt Sem α}{Q:α->SortSt->Prop}(e:m=m')(h:wpS (model prog w) A E s m' Q st):wpS (model prog w) A E s m Q st:=by rw[e];exact h
def a6h{Q:Unit->SortSt->Prop}(f:Cmp prog w A s κ D (ltK kf))(O:kindOf st=κ)(y:AllD D (arrOf st))(hp:pendingOf st=#[])(N:failedOf st=none)
  (q:∀st':SortSt,(arrOf st').Perm (arrOf st)->failedOf st'=none->(arrOf st').toList.Pairwise (leK kf)->Q () st'):wpS (model prog w) A E s sortRuns' Q st:=by
 rw[sortRuns'_eq];refine aC (fo ?_);dsimp only;generalize F:(arrOf st).size=sz;have M:RI kf κ (arrOf st) st [] (arrOf st).toList:=⟨O,N,.refl _,rfl,(λ_ z=>nomatch z),(λ_ z=>nomatch z),by rw[hp];rfl⟩;have J:∀{st':SortSt}{runs:qA (qA Keyed)}{rest:qA Keyed},RI kf κ (arrOf st) st' runs rest->(arrOf st').size=sz:=λh=>by rw[h.perm.size_eq];exact F
 have ll:∀{st':SortSt}{runs:qA (qA Keyed)}{rest:qA Keyed},RI kf κ (arrOf st) st' runs rest->runs.flatten.length+rest.length=sz:=λh=>by
  have:=aU List.length h.eq;rw[ay,J h,ag]at this;omega
 refine aC (cI (cx (I:=λx c st'=>c.1=none/\∃runs rest,RI kf κ (arrOf st) st' runs rest/\c.2=runs.flatten.length/\x<=c.2)
  (Q:=λc st'=>c.1=none/\∃runs,RI kf κ (arrOf st) st' runs []/\runs.length<=sz) ?step ?fin ⟨rfl,[],_,M,rfl,aq _⟩) ?post)
 case fin =>
  rintro c st' ⟨k,runs,rest,h1,h2,K⟩;have:=ll h1;have l:rest=[]:=List.eq_nil_of_length_eq_zero (by omega);subst l;exact⟨k,runs,h1,by have:=a3l h1.ne;omega⟩
 case step =>
  rintro x c st' _ W ⟨k,runs,rest,h1,h2,K⟩;obtain⟨L,lo⟩:=c;dsimp only at k h2 K⊢;subst k;have P:=ll h1;have H:=J h1;by_cases t:lo ≥ sz
  .rw[az t];have l:rest=[]:=List.eq_nil_of_length_eq_zero (by omega);subst l;exact aP ⟨rfl,runs,h1,by have:=a3l h1.ne;omega⟩
  .rw[ar t];have p:=y.perm h1.perm;have add:∀(n:Nat) (d:SortSt),Kept lo st' d->0<n->lo+n<=sz->SoO kf (arrOf d) lo n->wpS (model prog w) A E s (a1a sz lo n) (λr e=>match r with|ForInStep.done c'=>c'.1=none/\∃runs,RI kf κ (arrOf st) e runs []/\runs.length<=sz|ForInStep.yield c'=>c'.1=none/\∃runs rest,RI kf κ (arrOf st) e runs rest/\c'.2=runs.flatten.length/\x+1<=c'.2) d:=λn d j C T i=>by
    rw[h2]at j;have hR:=h1.kept j;rw[<-h2]at hR;have G:=J hR;rw[<-bt n ((arrOf d).toList.drop lo)]at hR;refine a7G f y hR (b4k i (by omega)) C (by rw[aS,bx,ay];omega) h2 λv V k1 k2 k3=>⟨rfl,V,_,k1,k2.symm,by show x+1<=lo+n;omega⟩
   refine aC (a7E f h1.kind p (by omega) (by omega) λm d j R S i=>?_);dsimp only;split
   .refine aC (V3 ?_);have G:(arrOf d).size=sz:=by rw[j.2.2.2.1.size_eq];exact H
    refine aC (b1z f (j.1.trans h1.kind) (p.perm j.2.2.2.1) (by omega) (by omega) i λv B u=>?_);rw[ar (by simp)];refine a4t (m':=a1a sz lo (min (sz-lo) (minRun' sz sz 0))) (by
     unfold a1a;refine aU _ (funext λg=>?_);rcases(pendingOf g).back? with _|⟨s1,n1,z⟩
     .rfl
     .dsimp only;refine congr (aU _ ?_) (funext λc=>?_)
      .unfold a0e;refine aU _ (funext λ_=>funext λ_=>aU _ (funext λg=>?_));generalize (if (pendingOf g).size > 1 then(pendingOf g)[(pendingOf g).size-2]? else none)=o;rcases o with _|⟨a,b,o⟩<;>rfl
      .rcases c with⟨_|q,c⟩<;>rfl) (cI (add _ v (j.trans B) (by omega) (by omega) u) λr e l=>by cases r<;>exact l)
   .refine a4t (m':=a1a sz lo m) (by
     unfold a1a;refine aU _ (funext λg=>?_);rcases(pendingOf g).back? with _|⟨s1,n1,z⟩
     .rfl
     .dsimp only;refine congr (aU _ ?_) (funext λc=>?_)
      .unfold a0e;refine aU _ (funext λ_=>funext λ_=>aU _ (funext λg=>?_));generalize (if (pendingOf g).size > 1 then(pendingOf g)[(pendingOf g).size-2]? else none)=o;rcases o with _|⟨a,b,o⟩<;>rfl
      .rcases c with⟨_|q,c⟩<;>rfl) (cI (add _ d j (by omega) (by omega) i) λr e l=>by cases r<;>exact l)
 case post =>
  rintro c st' ⟨k,runs,h1,h2⟩;obtain⟨L,lo⟩:=c;dsimp only at k;subst k;dsimp only;refine aC (a6l (sz:=sz) f y h1 h2 λd U k1 k2=>?_);dsimp only;refine aP (q d k1.perm k1.failed ?_);rw[k1.eq,cY]
  match U,k2,k1.sorted with
  |[],_,_=>exact .nil
  |[r],_,hs=>simpa using hs r (by simp)
  |_::_::_,k2,_=>simp at k2
end
def J1(h:Heap)(v:qB):qI:=match v with
 |.ref b=>match h.get? b with
  |some o=>match o.data with
   |.seq xs _=>xs.toList.map numOf
   |_=>[]
  |none=>[]
 |_=>[]
def E4{b:qE}{its:Array qB}{r:qI}(t:IsTup h b its)(i:IntsAre its.toList r):J1 h (.ref b)=r:=by
 obtain⟨o,h1,h2,n,a⟩:=t;unfold J1;simp only[h1,a];exact i.nums
def P0{β:Type}{f:α->β}{os i:qA β}(h:os.Perm i):∀{T:qA α},i=T.map f->∃c:qA α,c.Perm T/\c.map f=os:=by
 induction h with
 |nil=>intro T e;cases T with|nil=>exact⟨[],.nil,rfl⟩|cons _ _=>cases e
 |cons x _ m =>
  intro T e;cases T with
  |nil=>cases e
  |cons t T =>
   injection e with e1 e2
   obtain⟨c,h1,h2⟩:=m e2;exact⟨t::c,h1.cons t,by rw[aV,h2,e1]⟩
 |swap x y l =>
  intro T e
  match T,e with
  |a::b::T,e =>
   injection e with e1 e2
   injection e2 with e2 e3
   exact⟨b::a::T,.swap a b T,by rw[aV,aV,e1,e2,e3]⟩
 |trans _ _ d g =>
  intro T e;obtain⟨c,h1,h2⟩:=g e;obtain⟨T2,j,k⟩:=d h2.symm;exact⟨T2,j.trans h1,k⟩
def kfH(h:Heap):Keyed->OL.α:=λx=>(J1 h x.1:qI)
def DH(h:Heap)(x:Keyed):Prop:=∃b its r,x.1=Value.ref b/\IsTup h b its/\IntsAre its.toList r
def b9C:Cmp prog w A s (tuples' true) (DH s.heap) (ltK (kfH s.heap)):=by
 rintro⟨x,B⟩ ⟨y,D⟩ C ⟨b,its,r,h,j,d⟩ ⟨b',a,u,i,k,e⟩ c;dsimp only at h i;subst h i;have c:C (HT.lexLt (J1 s.heap (.ref b)) (J1 s.heap (.ref b'))) s:=c;rw[E4 j d,E4 k e]at c;obtain⟨o,p,z,n,t⟩:=j;obtain⟨o',f,q,v,g⟩:=k;refine kat_lt p t f g (a2o 0 d e ?_);have l:its.size=r.length:=by rw[<-ay];exact d.length
 have m:a.size=u.length:=by rw[<-ay];exact e.length
 rw[l,m,a7g];exact c
def a0N{a:qE}{P:Fin->qC->Prop}(m:s.heap.get? a=some (seqObj "list" vs.toArray n))(T:TupsAre s.heap vs rss)(hw:∀r∈rss,0<r.length)(hz:vs.length<=sizeLine)
  (h:∀os:qA qB,os.Perm vs->os.Pairwise (λx y=>HT.lexLt (J1 s.heap y) (J1 s.heap x)=false)->P (.done (.ret .none)) {s with heap:=sortedHeap s.heap a vs os.toArray}) :
  wpAny (model prog w) A (Builtin.«list.sort» ⟨[.ref a],[]⟩) P E s:=by
 rw[list_sort_plain];have O:a<s.heap.objs.size:=aJ m;refine aa (listItems_at m rfl ?_);refine aa (listUpdate_at m rfl ?_ (by rw[aD];omega) (bu _));obtain⟨H,p⟩:∃H,(s.heap.update a (Obj.mapSeq λ_=>#[])).get? a=some (seqObj "list" #[] H):=⟨_,get?_update_seq m (λ_=>#[])⟩;refine aa (seqEpoch_at p rfl ?_);refine aa (wpAny_newTuple ?_ (by show vs.length<=_;omega));refine aa (wpAny_newList ?_ (bu _));refine cf ?_;have d:(((s.heap.update a (Obj.mapSeq λ_=>#[])).push (seqObj "tuple" vs.toArray 0)).push (seqObj "list" #[] 0)).get? a=some (seqObj "list" #[] H):=by
  rw[Heap.get?_push_ne _ _ _ (by rw[size_push',Heap.size_update];exact aW (cg O)),Heap.get?_push_ne _ _ _ (by rw[Heap.size_update];exact aW O)];exact p
 have g:∀b its,IsTup s.heap b its->IsTup (((s.heap.update a (Obj.mapSeq λ_=>#[])).push (seqObj "tuple" vs.toArray 0)).push (seqObj "list" #[] 0)) b its:=λb its ⟨o,B,l,N⟩=>by
  have U:b≠a:=λz=>by
   rw[z,m]at B;cases B;have l:Value.type "list"=Value.type "tuple":=l;injection l with l
   exact absurd l (by decide)
  refine⟨o,?_,l,N⟩;exact aj _ (aj _ (by rw[Heap.get?_update_ne _ _ _ _ U];exact B))
 have G:=T.keeps g;show wpAny (model prog w) A _ P E {s with heap:=((s.heap.update a (Obj.mapSeq λ_=>#[])).push (seqObj "tuple" vs.toArray 0)).push (seqObj "list" #[] 0)};have c:∀v∈vs,J1 (((s.heap.update a (Obj.mapSeq λ_=>#[])).push (seqObj "tuple" vs.toArray 0)).push (seqObj "list" #[] 0)) v=J1 s.heap v:=λv X=>by
  obtain⟨i,hi⟩:=cA.mp X;obtain⟨r,b,its,_,I,C,F⟩:=T.2 i v hi;rw[I,E4 C F,E4 (g b its C) F]
 generalize K:((s.heap.update a (Obj.mapSeq λ_=>#[])).push (seqObj "tuple" vs.toArray 0)).push (seqObj "list" #[] 0)=k at d G c;dsimp only;have fin:∀os:qA qB,os.Perm vs->os.Pairwise (λx y=>HT.lexLt (J1 s.heap y) (J1 s.heap x)=false)->P (.done (.ret .none)) {s with heap:=k.update a (Obj.mapSeq λ_=>os.toArray)}:=λos h1 h2=>by
  have:=h os h1 h2;unfold sortedHeap at this;rw[K]at this;exact this
 by_cases h2:vs.toArray.size<2
 .have h2':vs.length<2:=by simpa using h2
  rw[az h2,az h2];refine aa (ae ?_);rw[StateT.run_pure];refine aa (ae ?_);dsimp only;refine aa (seqEpoch_at d rfl ?_);refine aa (listUpdate_at d rfl ?_ (bu _) (by rw[Array.size_map];show(pairsOf vs).size<=_;rw[pairsOf_size];omega));simp only[bne_self_eq_false,Bool.false_eq_true,if_false];have e:((vs.toArray.zip vs.toArray).map (·.2))=vs.toArray:=by
   apply Array.toList_inj.mp;simp[List.map_snd_zip]
  show wpAny _ _ _ _ _ {s with heap:=k.update a (Obj.mapSeq λ_=>(vs.toArray.zip vs.toArray).map (·.2))};rw[e];refine ae (fin vs (.refl _) ?_);rw[dP];intro i j hi Z V;omega
 .have h2':2<=vs.length:=by
   have:¬vs.length<2:=by simpa using h2
   omega
  rw[ar h2,ar h2];refine aa (a9Y G hw (by omega) ?_);have J:AllD (DH k) (vs.toArray.zip vs.toArray):=λx u=>by
   have L:x∈vs.zip vs:=by simpa using u
   obtain⟨_,W⟩:=mem_zip_self L;obtain⟨i,hi⟩:=cA.mp W;obtain⟨r,b,its,_,I,C,F⟩:=G.2 i _ hi;exact⟨b,its,r,I,C,F⟩
  refine aa (du (a6h (s:={s with heap:=k}) (st:=SortSt.mk' (tuples' true) (vs.toArray.zip vs.toArray) #[] 7 none) (kf:=kfH k) (D:=DH k) (b9C (s:={s with heap:=k})) rfl J rfl rfl
   (Q:=λ_ st'=>(arrOf st').Perm (vs.toArray.zip vs.toArray)/\failedOf st'=none/\(arrOf st').toList.Pairwise (leK (kfH k))) λst' B l N=>⟨B,l,N⟩) ?_ λ_ _ e=>e)
  rintro⟨⟨⟩,st'⟩ s' ⟨rfl,S,R,hs⟩;dsimp only at S R hs⊢;have t:(arrOf st').toList.Perm (vs.zip vs):=by
   have:=dM.mp S;simpa using this
  have q:((arrOf st').toList.map (·.2)).Perm vs:=by
   have:=t.map Prod.snd;rwa[List.map_snd_zip (aq _)]at this
  have f:∀x∈(arrOf st').toList,x.1=x.2/\x.1∈vs:=λx u=>mem_zip_self (t.mem_iff.mp u);have e:(arrOf st').map (·.2)=((arrOf st').toList.map (·.2)).toArray:=by
   apply Array.toList_inj.mp;simp
  refine aa (seqEpoch_at d rfl ?_);rw[e];refine aa (listUpdate_at d rfl ?_ (bu _) (by rw[aD,q.length_eq];omega));rw[R];simp only[bne_self_eq_false,Bool.false_eq_true,if_false];refine ae (fin _ q ?_);rw[bL];refine hs.imp_of_mem λ{x y} u Y M=>?_;have h1:=f x u;have h2:=f y Y;rw[<-h1.1,<-h2.1,<-c _ h1.2,<-c _ h2.2];exact M
def a2D{x:qB}{Q:qH}(g:∀(q:Around) (t:qH) (l:qA qB->qC->Prop),(∀h1:Heap,(∀b o,s.heap.get? b=some o->h1.get? b=some o)->l vs {s with heap:=h1})->wpAny (model prog w) q (collect x) l t s)
  (T:TupsAre s.heap vs rss) (hw:∀r∈rss,0<r.length) (F:vs.length<=sizeLine)
  (h:∀(h1 h':Heap) (os:qA qB) (c:Nat),(∀b o,s.heap.get? b=some o->h1.get? b=some o)->(∀b o,h1.get? b=some o->h'.get? b=some o)->h'.get? h1.objs.size=some (seqObj "list" os.toArray c)->os.Perm vs->os.Pairwise (λx y=>HT.lexLt (J1 s.heap y) (J1 s.heap x)=false)->Q (.ref h1.objs.size) {s with heap:=h'}) :
  wpAny (model prog w) A (call (.builtin "sorted") [x]) Q E s:=by
 refine fb kind_sorted plain_sorted entry_sorted (args_sorted1 _) ?_;unfold Builtin.«sorted»;refine aa (m:=checkCount "sorted" 1 1 _) (ae ?_);refine aa (g _ _ _ λh1 k1=>?_);refine aa (wpAny_newList ?_ (by omega));have f:(h1.push (seqObj "list" vs.toArray 0)).get? h1.objs.size=some (seqObj "list" vs.toArray 0):=aG _ rfl;have a:∀b its,IsTup s.heap b its->IsTup (h1.push (seqObj "list" vs.toArray 0)) b its:=λb its ⟨o,G,H⟩=>⟨o,aj _ (k1 _ _ G),H⟩;have T2:=T.keeps a;have d:∀v∈vs,J1 (h1.push (seqObj "list" vs.toArray 0)) v=J1 s.heap v:=λv B=>by
  obtain⟨i,hi⟩:=cA.mp B;obtain⟨r,b,its,_,u,n,p⟩:=T.2 i v hi;rw[u,E4 n p,E4 (a b its n) p]
 show wpAny _ _ _ _ _ {s with heap:=h1.push (seqObj "list" vs.toArray 0)};refine aa (cf (bQ slot_list_sort ⟨_,f,rfl⟩ entry_list_sort (a0N (s:={s with heap:=h1.push (seqObj "list" vs.toArray 0)}) f T2 hw F λos j hs=>⟨_,rfl,?_⟩) (args_list_sort _)));obtain⟨c,z⟩:=a0K (out:=os.toArray) f;refine ae ⟨_,rfl,h h1 _ os c k1 (λb o e=>?_) z j (hs.imp_of_mem λ{x y} C D k=>?_)⟩
 .exact Y0 b o (aW (aJ e)) (aj _ e)
 .rw[<-d _ (j.mem_iff.mp C),<-d _ (j.mem_iff.mp D)];exact k
def a5G(K:qF):RL:=λxs H Q=>∃(p:qE) (ys:qA V) (rss:LLI),xs=[.ref p]/\(SqL K H p ys∨SqT K H p ys)/\Its H ys rss/\(∀r∈rss,0<r.length) /\
 ∀l zs tss,H l=none->Its H zs tss->tss.Perm rss->C7 tss->zs.Perm ys->Q (.ref l) (upd H l (.lst zs))
def a0n:∀{ys:qA V}{us:qA qB}{rss:LLI},Vals ys us->ys.length=rss.length->∃T:qA (qB×V×qI),T.map (·.1)=us/\T.map (·.2.1)=ys/\T.map (·.2.2)=rss/\∀(i:Nat) t,T[i]?=some t->RelV t.2.1 t.1/\ys[i]?=some t.2.1/\rss[i]?=some t.2.2
 |[],us,rss,r,e=>by
  cases r;cases rss with
  |nil=>exact⟨[],rfl,rfl,rfl,λi t h=>by simp at h⟩
  |cons _ _=>cases e
 |y::ys,us,rss,r,e=>by
  cases r with
  |cons h hs =>
   cases rss with
   |nil=>cases e
   |cons r rss =>
    obtain⟨T,b,c,d,f⟩:=a0n hs (by simpa using e);refine⟨(_,y,r)::T,by rw[aV,b],by rw[aV,c],by rw[aV,d],λi t a=>?_⟩;cases i with
    |zero=>cases a;exact⟨h,rfl,rfl⟩
    |succ i=>exact f i t a
def R7:∀{T:qA (qB×V×qI)},(∀t∈T,RelV t.2.1 t.1)->Vals (T.map (·.2.1)) (T.map (·.1))
 |[],_=>.nil
 |t::T,h=>.cons (h t aA) (R7 λu a=>h u (ax _ a))
def a8B(K:qF)(hK:X.K=K:=by rfl):D9 X (.builtin "sorted") (a5G K):=by
 subst hK;intro qK s σ H xs us Q I rv h;obtain⟨p,ys,rss,rfl,r,G,hw,q⟩:=h;obtain⟨u,rfl,ru⟩:=rv.one;cases ru;obtain⟨its,O,z,l⟩:∃its:qA qB,Vals ys its/\ys.length<=sizeLine/\∀(D:Around) (E:qH) (B:qA qB->qC->Prop),(∀h1:Heap,(∀b o,s.heap.get? b=some o->h1.get? b=some o)->B its {s with heap:=h1})->wpAny (model X.prog X.w) D (collect (.ref p)) B E s:=by
  rcases r with r|r
  .obtain⟨its,g,pl,z⟩:=I.list r;obtain⟨o,L,J,n,hd⟩:=pl.isList;have m:=g.length;exact⟨its,g,z,λD E B k=>wpAny_collect_seq p (.inl rfl) L J hd (λh' N=>k h' N) (by simp only[aD];omega)⟩
  .obtain⟨its,g,pl,z⟩:=I.tuple r;obtain⟨o,L,J,n,hd⟩:=pl;have m:=g.length;exact⟨its,g,z,λD E B k=>wpAny_collect_seq p (.inr rfl) L J hd (λh' N=>k h' N) (by simp only[aD];omega)⟩
 have hl:=O.length;have TT:=a3L I G O;obtain⟨T,W,t2,t3,t4⟩:=a0n O G.1;refine a2D l TT hw (by omega) λh1 h' os c k1 k2 e hp hs=>?_;obtain⟨d,p1,p2⟩:=P0 (f:=λt:qB×V×qI=>t.1) hp W.symm;have P:=I.kept (t':=s.toks) k1;have C:∀t∈d,RelV t.2.1 t.1/\IT H t.2.1 t.2.2/\J1 s.heap t.1=t.2.2:=λt M=>by
  obtain⟨i,hi⟩:=cA.mp (p1.mem_iff.mp M);obtain⟨r1,r2,U⟩:=t4 i t hi;obtain⟨a0,S,q2⟩:=G.2 i _ r2;rw[U]at S;cases S;have Z:its[i]?=some t.1:=by rw[<-W,aZ,hi];rfl
  obtain⟨g,b,R,f1,f2,f3,f4⟩:=TT.2 i _ Z;rw[U]at f1;cases f1;exact⟨r1,q2,by rw[f2];exact E4 f3 f4⟩
 have A:(d.map (·.2.1)).Perm ys:=by rw[<-t2];exact p1.map _
 have hv:Vals (d.map (·.2.1)) os:=by rw[<-p2];exact R7 λt M=>(C t M).1
 have Y:=P.laid (h':=h') (a:=h1.objs.size) (o:=.lst (d.map (·.2.1))) (t':=s.toks) k2 (aq _) ⟨by rw[A.length_eq];exact z,os,c,hv,e⟩;refine⟨.ref h1.objs.size,_,Y,rfl,q _ _ (d.map (·.2.2)) (P.hok.fresh (aq _)) ⟨by rw[ai,ai],λi v j=>?_⟩ (by rw[<-t3];exact p1.map _) ?_ A⟩
 .rw[aZ]at j⊢;cases F:d[i]? with
  |none=>rw[F]at j;cases j
  |some t =>
   rw[F]at j;cases j;exact⟨t.2.2,rfl,(C t (aE F)).2.1⟩
 .unfold C7;rw[bL];rw[<-p2,bL]at hs;refine hs.imp_of_mem λ{x y} hx hy w=>?_;rw[(C x hx).2.2,(C y hy).2.2]at w;exact w
def Q8(K:qF){e:Expr}{t:TA}{p pos:Pos}(f:Gl X "sorted")(g:X.mg "sorted"=none)(c:JA X [e] t)(b:X.K=K:=by rfl)(d:starEach [e] X.env=(false,eval e X.env)::starEach [] X.env:=by rfl)(a:(backTo pos (starEach [] X.env)).any (·.1)=false:=by rfl):JE X (.Call (.Name "sorted" p) [e] [] pos) (tCB (a5G K) t):=⟨F0 (a8B K b) f g a2b c.h (by decide) (by decide) d a⟩
def DRaw(h:Heap)(d:qE)(es:Array DictEntry)(ep:Nat):Prop:=∃ob:Obj,h.get? d=some ob/\ob.ExactDict/\ob.data=.dict es ep
def DRaw.typ(x:DRaw s.heap d es ep):s.TypeIs (.ref d) "dict":=by
 obtain⟨c,a,b,_⟩:=x;exact⟨c,a,b.1⟩
def DRaw.lt(x:DRaw h d es ep):d<h.objs.size:=by
 obtain⟨b,a,_⟩:=x;exact aJ a
def DRaw.to{h':Heap}(x:DRaw h d es ep)(k:∀a,h.get? d=some a->h'.get? d=some a):DRaw h' d es ep:=by
 obtain⟨a,b,q⟩:=x;exact⟨a,k _ b,q⟩
section
variable {it:qE}
def a6M{Q:qH}(hs:(d==sysModules)=false)(D:DRaw s.heap d es ep)
  (q:Q (.ref s.heap.objs.size) {s with heap:=s.heap.push {cls:=.type "dict_keyiterator",data:=.fields #[.ref d,.int 0 0,.int es.size 0,.int ep 0]}}):wpAny (model prog w) A (pyIter (.ref d)) Q E s:=by
 have ty:=D.typ;obtain⟨c,a,_,b⟩:=D;refine wpAny_pyIter_slot ty PySem.F.slot_dict_iter (bQ PySem.F.slot_dict_iter ty PySem.F.entry_dict_iter ?body (PySem.F.args_dict_iter_1 _))
 case body =>
  unfold Builtin.«dict.__iter__» Builtin.Dict.dictSlotNone;refine aa (aa (wpAny_notOrdered_dict ty (ae ?_)));show wpAny _ _ (Builtin.Dict.showsAll d>>=λ_=>_) _ _ _;unfold Builtin.Dict.showsAll;rw[ar (λz=>by rw[hs]at z;cases z)];refine aa (ae (aa (fC a b (aa (wpAny_dictEpoch a b ?_)))));refine aa (bK (ae ⟨_,rfl,"dict_keyiterator",_,⟨_,aG _ rfl,rfl⟩,PySem.F.slot_dict_keyiterator_next.lookup,?_⟩));exact q
def a6N{Q:qD qB->qC->Prop}(I:s.heap.IsKeyIter it d i es.size ep)(D:DRaw s.heap d es ep)(hi:i<es.size)
  (q:∀h',h'.IsKeyIter it d (i+1) es.size ep->Heap.SameBut it s.heap h'->Q (some es[i].key) {s with heap:=h'}):wpAny (model prog w) A (pyNext (.ref it)) Q E s:=by
 obtain⟨h,f1,f2,a⟩:=id I;obtain⟨od,e,g,f⟩:=D;unfold pyNext;refine aa (eh (bO (name:=Str.ofString "__next__") I.typeIs PySem.F.slot_dict_keyiterator_next (bQ PySem.F.slot_dict_keyiterator_next I.typeIs PySem.F.entry_dict_keyiterator_next ?body (PySem.F.args_dict_keyiterator_next_1 _))))
 case body =>
  refine aa (ae (aa (aa ?_)))
  first|refine aa (dr I.typeIs (ae ?_))|refine aa (dY I.typeIs (ae ?_))
  refine aa (wpAny_fieldsOf f1 a ?_);rw[show Builtin.Dict_items.ownsTuple "dict_keyiterator"=false by decide,ar bf];show wpAny _ _ (if (Value.ref d==Value.none)=true then _ else _) _ _ _;have b:¬((Value.ref d==Value.none)=true):=bf;rw[ar b];refine aa (ae (aa (fC e f ?_)));rw[ar (by simp)];refine aa (ae (aa (wpAny_dictEpoch e f ?_)));rw[ar (by simp)];refine ae ?_;dsimp only;rw[show(if (i:Int)<0 then(none:qD DictEntry)else es[(i:Int).toNat]?)=some es[i] by rw[ar (by omega),bE,bP hi]];dsimp only;refine aa ?_
  first|refine aa (dr I.typeIs (ae ?_))|refine aa (dY I.typeIs (ae ?_))
  refine aa (wpAny_isOneOf_keyiter I.typeIs ?_);show wpAny _ _ (setField (.ref it) 1 (rawInt ((i:Int)+1))>>=λ_=>_) _ _ _;have c:(s.heap.update it (Obj.mapFields λz=>z.setIfInBounds 1 (rawInt ((i:Int)+1)))).IsKeyIter it d (i+1) es.size ep :=
   ⟨_,cP _ f1 (eR (cQ a _)),(fz ..).trans f2,by rw[cQ a];simp[rawInt]⟩
  refine aa (dV f1 a (by simp) (aa (cf ?_)));refine aa (wpAny_isOneOf_keyiter (s:={s with heap:=s.heap.update it (Obj.mapFields λz=>z.setIfInBounds 1 (rawInt ((i:Int)+1)))}) c.typeIs ?_);exact ae (ae ⟨_,rfl,ae (q _ c (cH ..))⟩)
def a9k{Q:qD qB->qC->Prop}(h:A.handled=none)(I:s.heap.IsKeyIter it d i es.size ep)(D:DRaw s.heap d es ep)(hi:es.size<=i)
  (q:∀h',Heap.ExtBut it s.heap h'->Q none {s with heap:=h'}):wpAny (model prog w) A (pyNext (.ref it)) Q E s:=by
 obtain⟨k,f1,f2,g⟩:=id I;obtain⟨od,e,j,f⟩:=D;unfold pyNext;refine aa (eh (bO (name:=Str.ofString "__next__") I.typeIs PySem.F.slot_dict_keyiterator_next (bQ PySem.F.slot_dict_keyiterator_next I.typeIs PySem.F.entry_dict_keyiterator_next ?body (PySem.F.args_dict_keyiterator_next_1 _))))
 case body =>
  refine aa (ae (aa (aa ?_)))
  first|refine aa (dr I.typeIs (ae ?_))|refine aa (dY I.typeIs (ae ?_))
  refine aa (wpAny_fieldsOf f1 g ?_);rw[show Builtin.Dict_items.ownsTuple "dict_keyiterator"=false by decide,ar bf];show wpAny _ _ (if (Value.ref d==Value.none)=true then _ else _) _ _ _;have c:¬((Value.ref d==Value.none)=true):=bf;rw[ar c];refine aa (ae (aa (fC e f ?_)));rw[ar (by simp)];refine aa (ae (aa (wpAny_dictEpoch e f ?_)));rw[ar (by simp)];refine ae ?_;dsimp only;rw[show(if (i:Int)<0 then(none:qD DictEntry)else es[(i:Int).toNat]?)=none by rw[ar (by omega),bE,dv hi]];dsimp only;refine aa ?_
  first|refine aa (dr I.typeIs (ae ?_))|refine aa (dY I.typeIs (ae ?_))
  show wpAny _ _ (setField (.ref it) 0 .none>>=λ_=>_) _ _ _;refine aa (dV f1 g (by simp) ?_);show wpAny _ _ (newExc (.type "StopIteration") []>>=λ_=>_) _ _ _;refine aa ?_;simp only[newExc,newTuple];refine aa (bK ?_ (by size_fits));refine aa (m:=firstArgMember _ _) (wpAny_of_eq (a:=Value.none) (by first|rfl | (simp only[firstArgMember];rfl)) ?_);refine bK ?_ (by size_fits);simp only[raiseNew];refine aa (wpAny_handled ?_);rw[show A.in1.handled=none from h];refine aa (ae (wpAny_throw ?_));refine aa (fJ (T:="StopIteration") (b:=true) ⟨_,aG _ rfl,rfl⟩ isSubtype_stop ?_);exact ae (q _ (((cH ..).extBut.push _).push _))
def b0k(m:A.handled=none)(J d:qE)(f:d≠J)(es:Array DictEntry)(ep:Nat) :
  Walks prog w A J [J,d] [J] es.size (λi v=>∃e,es[i]?=some e/\v=e.key) (λi h=>h.IsKeyIter J d i es.size ep/\DRaw h d es ep) where
 sub:=λb c=>by rw[au.mp c];exact aA
 frame:=λi h h' st g=>⟨st.1.at λo e=>g J aA o e,st.2.to λo e=>g d (ax _ aA) o e⟩
 item:=λi s Q E hi st a=>a6N st.1 st.2 hi λh' k j=>a _ h' s.toks ⟨es[i],by simp[hi],rfl⟩ ⟨k,st.2.to λo e=>j.extBut d o f e⟩ λb o c e=>j.extBut b o (λz=>c (by rw[z];exact aA)) e
 done:=λs Q E st a=>a9k m st.1 st.2 (aq _) λh' l=>a h' s.toks λb o c e=>l b o (λz=>c (by rw[z];exact aA)) e
 self:=λ_ _ _ _ st a=>wpAny_pyIter_keyiter st.1 a
def b4B(hs:(d==sysModules)=false)(es:Array DictEntry)(ep:Nat):KdlSrc prog w "dict" d d es.size (λi v=>∃e,es[i]?=some e/\v=e.key) (λh=>DRaw h d es ep) where
 type:=λ_ D=>D.typ
 there:=λ_ D=>⟨D.lt,D.lt⟩
 keep:=λ_ _ D b=>D.to λo e=>b d (.inl rfl) o e
 notList:=by decide
 notTuple:=by decide
 hint:=λ_ _ _ _ D q=>kdl_hint_dict D.typ q
 iter:=λ_ _ a D=>⟨_,_,λ_ _ q=>a6M hs D q,b0k a _ d (aW D.lt) es ep,⟨⟨_,aG _ rfl,rfl,rfl⟩,D.to λo e=>aj _ e⟩⟩
end
def Y8{x:qB}{Q:qH}(g:∀(q:qH) (l:qA qB->qC->Prop),(∀(h1:Heap) (tk:Nat),(∀b o,s.heap.get? b=some o->h1.get? b=some o)->l vs {s with heap:=h1,toks:=tk})->wpAny (model prog w) A.in1 (collect x) l q s)
  (T:TupsAre s.heap vs rss) (hw:∀r∈rss,0<r.length) (D:vs.length<=sizeLine)
  (h:∀(h1 h':Heap) (os:qA qB) (c tk:Nat),(∀b o,s.heap.get? b=some o->h1.get? b=some o)->(∀b o,h1.get? b=some o->h'.get? b=some o)->h'.get? h1.objs.size=some (seqObj "list" os.toArray c)->os.Perm vs->os.Pairwise (λx y=>HT.lexLt (J1 s.heap y) (J1 s.heap x)=false)->Q (.ref h1.objs.size) {s with heap:=h',toks:=tk}) :
  wpAny (model prog w) A (call (.builtin "sorted") [x]) Q E s:=by
 refine fb kind_sorted plain_sorted entry_sorted (args_sorted1 _) ?_;unfold Builtin.«sorted»;refine aa (m:=checkCount "sorted" 1 1 _) (ae ?_);refine aa (g _ _ λh1 tk k1=>?_);refine aa (wpAny_newList ?_ (by omega));have f:(h1.push (seqObj "list" vs.toArray 0)).get? h1.objs.size=some (seqObj "list" vs.toArray 0):=aG _ rfl;have a:∀b its,IsTup s.heap b its->IsTup (h1.push (seqObj "list" vs.toArray 0)) b its:=λb its ⟨o,F,G⟩=>⟨o,aj _ (k1 _ _ F),G⟩;have T2:=T.keeps a;have d:∀v∈vs,J1 (h1.push (seqObj "list" vs.toArray 0)) v=J1 s.heap v:=λv z=>by
  obtain⟨i,hi⟩:=cA.mp z;obtain⟨r,b,its,_,t,n,p⟩:=T.2 i v hi;rw[t,E4 n p,E4 (a b its n) p]
 show wpAny _ _ _ _ _ {s with heap:=h1.push (seqObj "list" vs.toArray 0),toks:=tk};refine aa (cf (bQ slot_list_sort ⟨_,f,rfl⟩ entry_list_sort (a0N (s:={s with heap:=h1.push (seqObj "list" vs.toArray 0),toks:=tk}) f T2 hw D λos j hs=>⟨_,rfl,?_⟩) (args_list_sort _)));obtain⟨c,u⟩:=a0K (out:=os.toArray) f;refine ae ⟨_,rfl,h h1 _ os c tk k1 (λb o e=>?_) u j (hs.imp_of_mem λ{x y} B C k=>?_)⟩
 .exact Y0 b o (aW (aJ e)) (aj _ e)
 .rw[<-d _ (j.mem_iff.mp B),<-d _ (j.mem_iff.mp C)];exact k
def IK(rss:LLI):qA (qA Key):=rss.map λr=>r.map Sum.inl
def a8a:RL:=λxs H Q=>∃(d:qE) (qL:qA (qA Key×V)) (rss:LLI),xs=[.ref d]/\H d=some (.dT qL)/\qL.map (·.1)=IK rss/\(∀r∈rss,0<r.length) /\
 ∀l zs tss,H l=none->Its H zs tss->tss.Perm rss->C7 tss->Q (.ref l) (upd H l (.lst zs))
def b5w{H:Hp}:∀{qL:qA (qA Key×V)}{xs:qA (qA Key×qE×qB)}{rss:LLI},KT H qL xs->qL.map (·.1)=IK rss->Its H (xs.map λx=>V.ref x.2.1) rss/\xs.length=rss.length:=by
 intro qL xs rss r e;induction r generalizing rss with
 |nil =>
  cases rss with
  |nil=>exact⟨⟨rfl,λi v z=>by simp at z⟩,rfl⟩
  |cons _ _=>cases e
 |@cons p q ps qs h _ d =>
  cases rss with
  |nil=>cases e
  |cons r rss =>
   injection e with a e2
   obtain⟨h1,h2⟩:=d e2;refine⟨⟨by rw[ai,aX,aX,h2],λi v c=>?_⟩,by rw[aX,aX,h2]⟩;cases i with
   |zero =>
    cases c;refine⟨r,rfl,q.2.1,rfl,?_⟩;have b:=h.2.1;have a:p.1=r.map Sum.inl:=a;rw[a,cK]at b;exact b
   |succ i=>exact h1.2 i v c
def a1E{α:Type}(f:α->qE):∀xs:qA α,Vals (xs.map λx=>V.ref (f x)) (xs.map λx=>Value.ref (f x))
 |[]=>.nil
 |x::xs=>.cons rfl (a1E f xs)
def a8A(hc:X.calm=true):D9 X (.builtin "sorted") a8a:=by
 intro qK s σ H xs us Q I rv h;obtain⟨d,qL,rss,rfl,hd,hk,hw,q⟩:=h;obtain⟨u,rfl,ru⟩:=rv.one;cases ru;obtain⟨hz,A,j,W,ob,es,ep,e1,p,e3,O,P⟩:=I.hok _ _ hd;obtain⟨F,S⟩:=b5w W hk;have a0:qL.length=j.length:=Paired.length W;have w:es.size=j.length:=by rw[<-ay,O,ai]
 have D:DRaw s.heap d es ep:=⟨ob,e1,p,e3⟩;have L:Vals (j.map λx=>V.ref x.2.1) (j.map λx=>Value.ref x.2.1):=a1E (λx:qA Key×qE×qB=>x.2.1) j;have z:∀(M:qH) (E:qA qB->qC->Prop),(∀(h1:Heap) (tk:Nat),(∀b o,s.heap.get? b=some o->h1.get? b=some o)->E (j.map λx=>Value.ref x.2.1) {s with heap:=h1,toks:=tk})->wpAny (model X.prog X.w) X.A.in1 (collect (.ref d)) E M s:=λM E k=>by
  refine kdu_collect (b4B A es ep) (show X.A.in1.handled=none from I.ok.hd hc) D (by omega) λh' tk l kp m=>?_;have:l.toList=j.map λx=>Value.ref x.2.1:=by
   refine eI λi=>?_;rw[aB,aZ];by_cases hi:i<j.length
   .have hia:i<l.size:=by rw[m.1,w];exact hi
    obtain⟨e,he,J⟩:=m.2 i l[i] (by simp[hia]);have g:es.toList[i]?=some e:=by rw[aB];exact he
    rw[O,aZ,ak hi]at g;injection g with g
    rw[bP hia,ak hi,J,<-g];rfl
   .rw[dv (by rw[m.1,w];omega),cm (by omega)];rfl
  rw[this];exact k h' tk kp
 have hl:=L.length;have TT:=a3L I F L;obtain⟨T,t1,t2,t3,t4⟩:=a0n L F.1;refine Y8 z TT hw (by rw[ai];omega) λh1 h' os c tk k1 k2 e hp hs=>?_;obtain⟨n,p1,p2⟩:=P0 (f:=λt:qB×V×qI=>t.1) hp t1.symm;have N:=I.kept (t':=tk) k1;have C:∀t∈n,RelV t.2.1 t.1/\IT H t.2.1 t.2.2/\J1 s.heap t.1=t.2.2:=λt G=>by
  obtain⟨i,hi⟩:=cA.mp (p1.mem_iff.mp G);obtain⟨r1,r2,Z⟩:=t4 i t hi;obtain⟨a1,Y,q2⟩:=F.2 i _ r2;rw[Z]at Y;cases Y;have P:(j.map λx=>Value.ref x.2.1)[i]?=some t.1:=by rw[<-t1,aZ,hi];rfl
  obtain⟨r',b,U,f1,f2,f3,f4⟩:=TT.2 i _ P;rw[Z]at f1;cases f1;exact⟨r1,q2,by rw[f2];exact E4 f3 f4⟩
 have K:(n.map (·.2.1)).length<=sizeLine:=by
  have R:=(p1.map (λt:qB×V×qI=>t.2.1)).length_eq;rw[t2]at R;simp only[ai]at R⊢;omega
 have J:Vals (n.map (·.2.1)) os:=by rw[<-p2];exact R7 λt G=>(C t G).1
 have I2:=N.laid (h':=h') (a:=h1.objs.size) (o:=.lst (n.map (·.2.1))) (t':=tk) k2 (aq _) ⟨K,os,c,J,e⟩;refine⟨.ref h1.objs.size,_,I2,rfl,q _ _ (n.map (·.2.2)) (N.hok.fresh (aq _)) ⟨by rw[ai,ai],λi v r=>?_⟩ (by rw[<-t3];exact p1.map _) ?_⟩
 .rw[aZ]at r⊢;cases p:n[i]? with
  |none=>rw[p]at r;cases r
  |some t =>
   rw[p]at r;cases r;exact⟨t.2.2,rfl,(C t (aE p)).2.1⟩
 .unfold C7;rw[bL];rw[<-p2,bL]at hs;refine hs.imp_of_mem λ{x y} hx hy B=>?_;rw[(C x hx).2.2,(C y hy).2.2]at B;exact B
end L2
namespace L2
open PySem PySem.Spec PyProof.Rows
def b6H(i j:Int):Prop:=0<j/\j<2 ^ 64
variable {X:Cx}
def b2L:OpR X (binaryOp .FloorDiv) (rI b6H λi j=>.int (i / j)):=opI λi j _ _ _ _ _ a q=>by
 have h1:(0:Int)<j:=a.1;have h2:j<2 ^ 64:=a.2;refine floordiv_int (by omega) (by rw[Int.fdiv_eq_ediv_of_nonneg i (by omega)];exact q) (.inl (PyProof.noPylong_of_log2 ?_));have:j.natAbs.log2<64:=(Nat.log2_lt (by omega)).mpr (by omega);omega
def b5z{a b:Expr}{ta tb:TE}{pos:Pos}(c:JE X a ta)(d:JE X b tb):JE X (.BinOp a .FloorDiv b pos) (tOp (rI b6H λi j=>.int (i / j)) ta tb):=⟨a0M b2L c.h d.h⟩
end L2
namespace L2
open PySem PySem.Spec PyProof.Rows PySem.W
section
variable {prog:qG}{w:World}{A:Around}{E:qH}{s:qC}{d:qE}{ep:Nat}{es:Array DictEntry}
def b4C{Q:qH}(hs:(d==sysModules)=false)(D:DRaw s.heap d es ep)(c:(es.size:Int)<2 ^ 63)
  (q:Q (.int es.size (s.toks+1)) {s with toks:=s.toks+1+1}):wpAny (model prog w) A (call (.builtin "len") [.ref d]) Q E s:=by
 refine fb kind_len plain_len entry_len (args_len1 _) ?_;have ty:=D.typ;obtain⟨e,a,_,b⟩:=D;unfold Builtin.«len»;refine aa (m:=oneArg "len" _) (ae ?_);refine aa (m:=callSpecial? (.ref d) (Str.ofString "__len__")) (bO (name:=Str.ofString "__len__") ty PySem.F.slot_dict_len (bQ PySem.F.slot_dict_len ty PySem.F.entry_dict_len ?body (PySem.F.args_dict_len_1 _)))
 case body =>
  show wpAny _ _ (dictSize d>>=λn=>_) _ _ _;unfold dictSize;refine aa (aa (fC a b (ae ?_)));show wpAny _ _ (Builtin.Dict.pendingCount d>>=λn=>_) _ _ _;refine aa (wpAny_pendingCount_other hs (wpAny_ret_mkInt ?_));show wpAny _ _ _ _ _ {s with toks:=s.toks+1};rw[show((es.size:Nat):Int)+((0:Nat):Int)=(es.size:Int) by simp];refine aa (cf (ae (aa (wpAny_letGo ?_))));show wpAny _ _ (if ((es.size:Nat):Int)<0 then _ else _) _ _ _;rw[ar (by omega)];show wpAny _ _ (if ((es.size:Nat):Int) ≥ 2 ^ 63 then _ else _) _ _ _;rw[ar (by omega)];exact aa (wpAny_mkInt (ae ⟨_,rfl,q⟩))
end
def b6s:RL:=λxs H Q=>∃(a:qE) (qL:qA (qA Key×V)),xs=[V.ref a]/\H a=some (.dT qL)/\Q (.int qL.length) H
section
variable {X:Cx}
def b1i:D9 X (.builtin "len") b6s:=by
 intro qK s σ H xs v Q I r h;obtain⟨a,qL,rfl,l,q⟩:=h;obtain⟨u,rfl,p⟩:=r.one;cases p;obtain⟨m,b,f,n,o,es,ep,g,i,j,k,t⟩:=I.hok _ _ l;have d:qL.length=f.length:=Paired.length n;have c:es.size=f.length:=by rw[<-ay,k,ai]
 have e:=m;rw[aT]at e;refine b4C b ⟨o,g,i,j⟩ (by omega) ?_;rw[c,<-d];exact⟨.int qL.length,H,I.tok _,⟨_,rfl⟩,q⟩
variable {a b c e o i value:Expr}{es rest:qA Expr}{ta tb tc te to td ty tv:TE}{t:TA}{pos p qP qM p2 pos' tpos:Pos}
def b5y(d:Gl X "len")(f:X.mg "len"=none)(b:JA X [e] t)(c:starEach [e] X.env=(false,eval e X.env)::starEach [] X.env:=by rfl)(a:(backTo pos (starEach [] X.env)).any (·.1)=false:=by rfl):JE X (.Call (.Name "len" p) [e] [] pos) (tCB b6s t):=⟨F0 b1i d f b3R b.h (by decide) (by decide) c a⟩
def b3l(f:Gl X "sorted")(g:X.mg "sorted"=none)(b:JA X [e] t)(c:X.calm=true:=by rfl)(d:starEach [e] X.env=(false,eval e X.env)::starEach [] X.env:=by rfl)(a:(backTo pos (starEach [] X.env)).any (·.1)=false:=by rfl):JE X (.Call (.Name "sorted" p) [e] [] pos) (tCB a8a t):=⟨F0 (a8A c) f g a2b b.h (by decide) (by decide) d a⟩
def a5S:JE X (.Dict [] [] pos) b1K:=⟨b2G⟩
def b7R(c:X.A.units+60<cLine)(hi:JE X i ty)(b:JE X o td)(a:behindInMarks .In o=false):JE X (.Compare i [.In] [o] pos) (b8O ty td):=⟨b7r (b7t (by omega) hi.h b.h) a⟩
def b0M(c:X.A.units+60<cLine)(hi:JE X i ty)(b:JE X o td)(a:behindInMarks .NotIn o=false):JT X (.Compare i [.NotIn] [o] pos) (tB (a8T ty td)):=⟨b6Z (b0s (by omega) hi.h b.h) a⟩
def b5x(c:X.A.units+60<cLine)(a:JE X o td)(hi:JE X i ty)(b:JE X value tv)(hs:swapsWith value (some (.Subscript o i pos')) pos.line X.env=pure false:=by rfl):JS X (.Assign [.Subscript o i pos'] value pos) (b6n td ty tv):=⟨b4K (by omega) a.h hi.h b.h hs⟩
def O1(K:qF){f:Str}(c:JE X e ta)(a:X.K=K:=by rfl)(b:attributeBase e f X.env (eval e X.env)=eval e X.env:=by rfl):JE X (.Attribute e f pos) (b8N K ta f):=by
 subst a;exact⟨b7q c.h b⟩
def X5(K:qF){f:Str}(b:JE X o ta)(c:JE X value tv)(a:X.K=K:=by rfl)(hs:swapsWith value (some (.Attribute o f pos')) pos.line X.env=pure false:=by rfl):JS X (.Assign [.Attribute o f pos'] value pos) (b8R K ta tv f):=by
 subst a;exact⟨b7d b.h c.h hs⟩
end
structure MethOk(P:qG)(w:World)(K:qF)(mg:Str->qD qB)(base:Heap)(C:qE)(m:Str)(k:Nat)(ps:qA Str)(sp:Sp):Prop where
 ex:∃f fd,Meth K C m f/\Binds K fd ps []/\FnOk P w K mg base CX0 k f fd ps sp
structure MethAt(K:qF)(C:qE)(m qual:Str)(st:Stmt)(ps:qA Str):Prop where
 ex:∃f fd,Meth K C m f/\Fun K m qual st f fd/\Binds K fd ps []
structure MakeOk(P:qG)(w:World)(K:qF)(mg:Str->qD qB)(base:Heap)(x:Str)(C:qE)(k:Nat)(ps:qA Str)(sp:Sp):Prop where
 ex:∃f fd,mg x=some (.ref C)/\Mk K C f/\Binds K fd ps []/\FnOk P w K mg base CX0 k f fd ps sp
section
variable {P:qG}{w:World}{K:qF}{mg:Str->qD qB}{base:Heap}{C:qE}{m qual:Str}{st:Stmt}{N ps:qA Str}{k:Nat}{sp:Sp}
def MethAt.fnJ(F:MethAt K C m qual st ps)(S:FnScope N ps (A2 st))(c:∀vs H Q E,sp vs H Q E->vs.length=ps.length)
  (b:∀(a:qB) (f:qE) (A:Around) (outer:qA Env) (s:qC) (H:Hp) (vs:qA V) (Q:VK) (E:XK),Room k (A.deeper (envOfC qual (A2 st) s.heap.objs.size f a))->sp vs H Q E ->
   ∃t,JB (L9 CX0 P w K mg base N qual (A2 st) f a A outer s H E).nox (G5 st) t/\t {nx:=λ_ H'=>Q .non H',rt:=Q} (start N vs) H):MethOk P w K mg base C m (k+1) ps sp:=by
 obtain⟨f,fd,h1,h2,d⟩:=F.ex;exact⟨f,fd,h1,d,h2.okJ S c λa=>b a f⟩
def MethOk.make{x:Str}(O:MethOk P w K mg base C "__init__" k ps sp)(d:mg x=some (.ref C))(c:PySem.W.makesIn K C=true)(b:PySem.W.keepIn K (.ref C)=true):MakeOk P w K mg base x C k ps sp:=by
 obtain⟨f,fd,h1,h2,a⟩:=O.ex;exact⟨f,fd,d,⟨c,h1.at_,h1.fn,b⟩,h2,a⟩
end
section
variable {X:Cx}{C:qE}{m x:Str}{k:Nat}{ps:qA Str}{sp:Sp}{o e:Expr}{es:qA Expr}{ta:TE}{t:TA}{pos qP p:Pos}
def b7Y{pl:Sem Bool}(O:MethOk X.prog X.w X.K X.mg X.base C m k ps sp)(c:Cls X.K C)(j:Room k X.A)(i:JE X o ta)(h:JA X (e::es) t)
  (b:starEach (e::es) X.env=(false,eval e X.env)::starEach es X.env:=by rfl) (a:(backTo pos (starEach es X.env)).any (·.1)=false:=by rfl)
  (l:eval (.Call (.Attribute o m qP) (e::es) [] pos) X.env=(eval o X.env>>=λd=>standAt qP.atName>>=λ_=>holding [d] (getMethod d m pl)>>=λp=>match p with | (f,first)=>callWith pos f first (backTo pos (starEach (e::es) X.env)) (backToKw pos (keywordEach [] X.env))):=by rfl) :
  JE X (.Call (.Attribute o m qP) (e::es) [] pos) (a2i C m sp [] E0 ta t):=by
 obtain⟨f,fd,h1,h2,g⟩:=O.ex;exact⟨b4X (pl:=pl) i.h c h1 g j h2 .nil a9r h.h b a l⟩
def a5R{pl:Sem Bool}(O:MethOk X.prog X.w X.K X.mg X.base C m k ps sp)(c:Cls X.K C)(e:Room k X.A)(d:JE X o ta)
  (g:eval (.Call (.Attribute o m qP) [] [] pos) X.env=(eval o X.env>>=λa=>standAt qP.atName>>=λ_=>holding [a] (getMethod a m pl)>>=λp=>match p with | (f,first)=>callWith pos f first (backTo pos (starEach [] X.env)) (backToKw pos (keywordEach [] X.env))):=by rfl) :
  JE X (.Call (.Attribute o m qP) [] [] pos) (a2i C m sp [] E0 ta R5):=by
 obtain⟨f,fd,h1,h2,b⟩:=O.ex;exact⟨b2E (pl:=pl) d.h c h1 b e h2 .nil a9r g⟩
def b7Z(O:MakeOk X.prog X.w X.K X.mg X.base x C k ps sp)(j:Room (k+1) X.A)(i:Gl X x)(g:JA X (e::es) t)(a:(x==("__debug__" : Str))=false:=by decide)
  (h:starEach (e::es) X.env=(false,eval e X.env)::starEach es X.env:=by rfl) (b:(backTo pos (starEach es X.env)).any (·.1)=false:=by rfl) :
  JE X (.Call (.Name x p) (e::es) [] pos) (b6f C sp [] E0 t):=by
 obtain⟨f,fd,c,h1,h2,d⟩:=O.ex;exact⟨b4Y h1 d j i c h2 .nil a9r g.h a h b⟩
end
end L2
namespace L2
open PySem PySem.Spec PyProof.Rows
variable {H:Hp}
def a3y{K:qF}{src:qA (qJ)}{σ caps:St}{Q:VK}{a:qE}{vs:qA V}{rss:LLI}{l:TT}(t:qI->Bool)(o:vs.length<=sizeLine)(b:∀H',Same H H'->SqL K H' a vs)(k:Its H vs rss)(d:B4 src σ=none::caps)
  (g:∀v r H1 j,r∈rss->IT H1 v r->Same H H1->(∀H2,Same H1 H2->j (t r) H2)->l (some v::caps) H1 j) (hd:∀H1 p m,Same H H1->H1 p=none->Its H1 m (rss.filter t)->Q (.ref p) (upd H1 p (.lst m))):G0 src (B0 0) l (L4 0) σ Q (Itl K a) H:=by
 refine W2 (xs:=vs) (by omega) (λi ys H'=>Same H H'/\Its H' ys ((rss.take i).filter t)) ⟨Same.refl H,by simpa using Its.nil⟩ (λi ys H' _ h=>⟨b H' h.1,by rw[h.2.1];exact a_ (bD _ _) (bF _ _)⟩) ?_ ?_
 .rintro i x ys H' hx ⟨s,hy⟩;obtain⟨r,n,f,c⟩:=k.mem hx;show Sub _ ((B4 src σ).set 0 (some x))/\_;rw[d];refine⟨Sub.one,g x r H' _ n (c.same s) s λH2 s2=>?_⟩;rw[bg,f];cases e:t r with
  |true=>exact⟨_,rfl,s.trans s2,by simpa[e]using(hy.same s2).snoc ((c.same s).same s2)⟩
  |false=>exact⟨s.trans s2,by simpa[e]using hy.same s2⟩
 .rintro ys H' ⟨s,hy⟩ p hp;rw[k.1,bh]at hy;exact hd H' p ys s hp hy
def Prs(H:Hp)(ps:qA V)(f:Nat->qI)(js:qA Nat):Prop:=ps.length=js.length/\∀(i:Nat) (q:V),ps[i]?=some q->∃(j:Nat) (b:qE) (v:V),js[i]?=some j/\q=.ref b/\H b=some (.tup [.int j,v])/\IT H v (f j)
def Prs.same{H H':Hp}{ps:qA V}{f:Nat->qI}{a:qA Nat}(h:Prs H ps f a)(s:Same H H'):Prs H' ps f a :=
 ⟨h.1,λi q e=>let ⟨j,b,v,e1,e2,e3,e4⟩:=h.2 i q e;⟨j,b,v,e1,e2,s _ _ e3,e4.same s⟩⟩
def Prs.nil{f:Nat->qI}:Prs H [] f []:=⟨rfl,λi q e=>by simp at e⟩
def Prs.snoc{ps:qA V}{f:Nat->qI}{c:qA Nat}{j:Nat}{b:qE}{v:V}(h:Prs H ps f c)(k:H b=some (.tup [.int j,v]))(l:IT H v (f j)):Prs H (ps++[.ref b]) f (c++[j]):=by
 refine⟨by rw[ag,ag,h.1];rfl,λi q e=>?_⟩;rcases Nat.lt_or_ge i ps.length with hi|hi
 .rw[bA hi]at e;obtain⟨m,b',n,d,g⟩:=h.2 i q e;exact⟨m,b',n,by rw[bA (by rw[<-h.1];exact hi)];exact d,g⟩
 .rw[ba hi]at e;have a:i-ps.length=0:=by
   rcases Nat.eq_zero_or_pos (i-ps.length)with z|z
   .exact z
   .rw[cm (by simp;omega)]at e;cases e
  rw[a]at e;cases e;exact⟨j,b,v,by rw[ba (by rw[<-h.1];exact hi),<-h.1,a];rfl,rfl,k,l⟩
section
variable {X:Cx}{k:Nat}{ps:qA Str}{sp:Sp}{x y:Str}{p pos qM pos' ip sp':Pos}{e:Expr}{es:qA Expr}{t:TA}{i:Nat}{z:Int}{jj:Nat}
end
end L2
namespace L2
open PySem PySem.Spec PyProof.Rows PySem.W
variable {X:Cx}{qL:qA (qA Key×V)}{rss:LLI}
def Itd(d:qE)(ob:Obj)(qL:qA (qA Key×V)):It:=⟨λi H=>H d=some (.frz ob (.dT qL))/\i<qL.length,λi H v H'=>H'=H/\∃p a,qL[i]?=some p/\v=.ref a/\H a=some (.tup (p.1.map kV)),λi H=>H d=some (.frz ob (.dT qL))/\qL.length<=i⟩
def b0t{α β:Type}{F:α->β->Prop}{c:qA α}{d:qA β}(r:Paired F c d):∀{i:Nat}{a:α},c[i]?=some a->∃b,d[i]?=some b/\F a b:=by
 induction r with
 |nil=>intro i a e;simp at e
 |cons h _ f =>
  intro i a e;cases i with
  |zero=>cases e;exact⟨_,rfl,h⟩
  |succ i=>exact f e
def a7K{P:qG}{w:World}{K:qF}{tg:Expr}(d it:qE)(a:Obj)(es:Array DictEntry)(ep:Nat)(qL:qA (qA Key×V))(F:a.ExactDict)(hd:a.data=.dict es ep)(Y:es.size=qL.length):Turn P w K tg (Itd d a qL) [it] it (λi h=>h.IsKeyIter it d i es.size ep) where
 mem:=by simp
 obj:=λi h st b f=>by
  have e:b=it:=by simpa using f
  subst e;obtain⟨o,e,c,d⟩:=st;exact⟨o,e,λv z=>by rw[d]at z;cases z⟩
 keep:=λi h h' st k=>st.at λo e=>k it (by simp) o e
 item:=by
  intro X y hw x C i qK s σ H E I m st A;subst y hw x;obtain⟨g,hi⟩:=A;obtain⟨l,Z,D,ts,S,B,O,N,T,q2,n,G,q5⟩:=(show ObjOk X.prog X.w H s.heap d (.frz a (.dT qL))from I.hok d _ g);have M:B=a:=bH (T.symm.trans l);rw[M,hd]at n;injection n with n _
  obtain⟨p,f1,f2,r,t,u⟩:=m it (by simp);have j:i<es.size:=by omega
  refine a6N st ⟨a,l,F,hd⟩ j λh' st' W=>?_;have J:Inv X qK σ H {s with heap:=h'}:=I.turned (t':=s.toks) (λb o f e=>W.extBut b o f e) p f1 r t u;obtain⟨o,e,c,dd⟩:=id st';obtain⟨q,R,r1,U,r3⟩:=b0t S (ak hi);have Q:es[i].key=.ref q.2.1:=by
   have h1:es.toList[i]?=some es[i]:=by simp[j]
   rw[<-n]at G;rw[G,aZ,R]at h1;injection h1 with h1
   rw[<-h1];rfl
  exact⟨_,rfl,a9G (s:={s with heap:=h'}) e c dd (by decide) ⟨.ref q.2.1,H,J,by rw[Q];rfl,⟨rfl,_,_,ak hi,rfl,U⟩,st',λb f=>(m b f).1⟩⟩
 done:=by
  intro X y hw x C i qK s σ H E I m st A;subst y hw x;obtain⟨g,hi⟩:=A;obtain⟨l,_⟩:=(show ObjOk X.prog X.w H s.heap d (.frz a (.dT qL))from I.hok d _ g);obtain⟨p,f1,f2,r,t,u⟩:=m it (by simp);exact a9k (I.ok.hd C) st ⟨a,l,F,hd⟩ (by omega) λh' L=>⟨rfl,I.turned (t':=s.toks) (λb o f e=>L b o f e) p f1 r t u⟩
 self:=λ_ _ _ _ _ st h=>wpAny_pyIter_keyiter st h
def b6D(tl:TE):TI:=λσ H R=>tl σ H λx H1=>∃d qL,x=.ref d/\H1 d=some (.dT qL)/\∀ob,R (Itd d ob qL) (upd H1 d (.frz ob (.dT qL)))
section
variable {tg:Expr}
def b4T{l:Expr}{tl:TE}(B:PE X l tl):PI X tg l (b6D tl):=by
 intro qK s σ H R I h;refine thn (B qK s σ H _ I h) λv s1 ⟨x,H1,r,F,E⟩=>?_;obtain⟨d,qL,rfl,hd,q⟩:=E;cases F;obtain⟨D,c,p,u,f,es,ep,g,j,k,t,y⟩:=(show ObjOk X.prog X.w H1 s1.heap d (.dT qL)from r.hok _ _ hd);have m:qL.length=p.length:=Paired.length u;have C:es.size=qL.length:=by rw[m,<-ay,t,ai]
 have n:KT (upd H1 d (.frz f (.dT qL))) qL p:=Paired.imp' (λa b ⟨G,w,J⟩=>⟨G,by rw[A3 (J8 w hd (by intro z;cases z))];exact w,J⟩) u;have i:Inv X qK σ (upd H1 d (.frz f (.dT qL))) s1:=r.write (x:=d) (e:=d) (t':=s1.toks) (by rw[hd];trivial) (.inl rfl) (λ_ _ _ q=>q) ⟨_,g⟩ ⟨g,D,c,p,n,f,es,ep,g,j,k,t,y⟩;refine a6M c ⟨f,g,j,k⟩ ?_;refine⟨s1.heap.objs.size,[s1.heap.objs.size],_,_,_,rfl,i.kept (t':=s1.toks) λb o e=>aj _ e,a7K d _ f es ep qL j k C,⟨_,aG _ rfl,rfl,rfl⟩,λb A=>?_,q f⟩;have e:b=s1.heap.objs.size:=by simpa using A
 subst e;exact i.fpOk (aq _) (i.hok.fresh (aq _))
def a9B{l:Expr}{tl:TE}(a:JE X l tl):JI X tg l (b6D tl):=⟨b4T a.h⟩
end
def b0Z{src:qA (qJ)}{g:TG}{l:TT}{te:TE}{σ:St}{Q:VK}{d:qE}{k:Obj}{H1:Hp}(t:qL.length<=sizeLine)(c:Nat->qA V->Hp->Prop)(h0:c 0 [] H1)
  (j:∀i ys H,i<=qL.length->c i ys H->H d=some (.frz k (.dT qL))/\ys.length<=i)
  (hs:∀i p a ys H,qL[i]?=some p->H a=some (.tup (p.1.map kV))->c i ys H->g (.ref a) (B4 src σ) H λσ2 H2=>Sub (B4 src σ) σ2/\l σ2 H2 λb h=>if b=true then te σ2 h λv m=>c (i+1) (ys++[v]) m else c (i+1) ys h)
  (hd:∀ys H,c qL.length ys H->∀p,H p=none->Q (.ref p) (upd H p (.lst ys))):G0 src g l te σ Q (Itd d k qL) H1 :=
 a1w qL.length c h0 (λi ys H hi p=>by
   obtain⟨f,o⟩:=j i ys H (cL hi) p;refine⟨⟨f,hi⟩,by omega,λx H' y=>?_⟩;obtain⟨e,n,a,q,r,s⟩:=y;subst e r;exact hs i n a ys _ q s p)
  λys H p=>by
   obtain⟨f,o⟩:=j _ ys H (aq _) p;exact⟨⟨f,aq _⟩,by omega,hd ys H p⟩
def b9p{i:Nat}{p:qA Key×V}(b:qL.map (·.1)=IK rss)(e:qL[i]?=some p):∃r,rss[i]?=some r/\p.1=r.map Sum.inl:=by
 have h1:(qL.map (·.1))[i]?=some p.1:=by rw[aZ,e];rfl
 rw[b,IK,aZ]at h1;cases a:rss[i]? with
 |none=>rw[a]at h1;cases h1
 |some r=>rw[a]at h1;injection h1 with h1;exact⟨r,rfl,h1.symm⟩
def b3q(a:qL.map (·.1)=IK rss):qL.length=rss.length:=by
 have:=aU List.length a;simpa[IK]using this
def b0W{src:qA (qJ)}{σ caps:St}{Q:VK}{d:qE}{o:Obj}{H:Hp}{te:TE}(f:qI->V)(t:qL.length<=sizeLine)(g:H d=some (.frz o (.dT qL)))(n:qL.map (·.1)=IK rss)(c:B4 src σ=none::caps)
  (l:∀v r H1 m,r∈rss->IT H1 v r->Same H H1->(∀H2,Same H1 H2->m (f r) H2)->te (some v::caps) H1 m) (hd:∀H1 p,Same H H1->H1 p=none->Q (.ref p) (upd H1 p (.lst (rss.map f)))):G0 src (B0 0) O0 te σ Q (Itd d o qL) H:=by
 have j:=b3q n;refine b0Z (by omega) (λi ys H'=>Same H H'/\ys=(rss.take i).map f) ⟨Same.refl H,by simp⟩ (λi ys H' _ h=>⟨h.1 _ _ g,by rw[h.2,ai];exact bF _ _⟩) ?_ ?_
 .rintro i p a ys H' hx ha ⟨s,rfl⟩;obtain⟨r,b,k⟩:=b9p n hx;have q:=aE b;have e:IT H' (.ref a) r:=⟨a,rfl,by rw[ha,k,cK];rfl⟩;show Sub _ ((B4 src σ).set 0 (some (.ref a)))/\_;rw[c];refine⟨Sub.one,(l _ r H' _ q e s λH2 s2=>⟨s.trans s2,?_⟩)⟩;rw[bg,b,bC];rfl
 .rintro ys H' ⟨s,rfl⟩ p hp;rw[j,bh];exact hd H' p s hp
section
variable {o e:Expr}{es:qA Expr}{to:TE}{t:TA}{qP qM:Pos}
end
def b0n{κ:Type}[DecidableEq κ]{qL:qA (κ×V)}{k:κ}(v:V)(h:k∈qL.map (·.1)):(a0H qL k v).map (·.1)=qL.map (·.1):=by
 unfold a0H;obtain⟨p,a,rfl⟩:=aN.mp h;rw[az (bM.mpr ⟨p,a,bz rfl⟩),cK];refine List.map_congr_left λq _=>?_;show(if q.1=p.1 then(q.1,v)else q).1=q.1;split<;>rfl
section
variable {k:Nat}{ps:qA Str}{sp:Sp}{x:Str}{p pos qM:Pos}{e:Expr}{es:qA Expr}{t:TA}
end
end L2
namespace L2
open PySem PySem.Spec PyProof.Rows
section
variable {prog:qG}{w:World}{A:Around}{E:qH}{s:qC}
end
section
variable {X:Cx}{pos:Pos}
end
section
variable {X:Cx}{es:qA Expr}{pos:Pos}
end
end L2
namespace L2
open PySem PySem.Spec PyProof.Rows PySem.W
variable {X:Cx}
section
variable {e:Expr}{es:qA Expr}{t:TA}{p pos:Pos}
end
section
variable {k v:Expr}{tk tv:TE}{pos:Pos}
end
end L2
section
open PySem PyProof.Rows
end
namespace L2
open PySem PySem.Spec PyProof.Rows
section
variable {X:Cx}
variable {o e:Expr}{es:qA Expr}{to:TE}{t:TA}{pos qP qM:Pos}
end
end L2
namespace L2
variable {α:Type}
def b9y{us:qA α}(h:us.length=0):us=[]:=fu.mp h
def a2w{us:qA α}(h:us.length=1):∃a,us=[a]:=by
 cases us with
 |nil=>cases h
 |cons a us=>exact⟨a,by rw[b9y (us:=us) (fj h)]⟩
def R6{us:qA α}(h:us.length=2):∃a b,us=[a,b]:=by
 cases us with
 |nil=>cases h
 |cons a us=>obtain⟨b,e⟩:=a2w (us:=us) (fj h);exact⟨a,b,by rw[e]⟩
def a4p{us:qA α}(h:us.length=3):∃a b c,us=[a,b,c]:=by
 cases us with
 |nil=>cases h
 |cons a us=>obtain⟨b,c,e⟩:=R6 (us:=us) (fj h);exact⟨a,b,c,by rw[e]⟩
def b5u{us:qA α}(h:us.length=4):∃a b c d,us=[a,b,c,d]:=by
 cases us with
 |nil=>cases h
 |cons a us=>obtain⟨b,c,d,e⟩:=a4p (us:=us) (fj h);exact⟨a,b,c,d,by rw[e]⟩
def b5t{us:qA α}(h:us.length=5):∃a b c d e,us=[a,b,c,d,e]:=by
 cases us with
 |nil=>cases h
 |cons a us=>obtain⟨b,c,d,e,q⟩:=b5u (us:=us) (fj h);exact⟨a,b,c,d,e,by rw[q]⟩
def b9x{us:qA α}(h:us.length=6):∃a b c d e f,us=[a,b,c,d,e,f]:=by
 cases us with
 |nil=>cases h
 |cons a us=>obtain⟨b,c,d,e,f,q⟩:=b5t (us:=us) (fj h);exact⟨a,b,c,d,e,f,by rw[q]⟩
section
open PySem PySem.Spec PyProof.Rows PySem.W
abbrev FnL(K:qF)(f:qE)(nm qn:Str)(st:Stmt)(oc:qB)(od:qD qE)(sl:Array (qD qB))(kV dc pm:qB)(an:qD qE)(cd ct:qB):Prop:=K.lookup f=some ⟨oc,od,.func (PySem.W.fnOf nm qn (U9 st) (G5 st) (A2 st) .none kV dc pm an cd ct),sl⟩
variable {K:qF}{h:Heap}{mg:Str->qD qB}{x qn:Str}{st:Stmt}{f:qE}{od an:qD qE}{sl:Array (qD qB)}{oc kV dc pm cd ct:qB}{C:qE}{m:Str}
def C3(X:K.In h)(G:h.Ns mainGlobals mg)(a:nsIn K mainGlobals x=some (some (.ref f)))(l:FnL K f x x st oc od sl kV dc pm an cd ct)(c:codeIn K cd x=true)(k:keepIn K (.ref f)=true){ps:qA Str}
  (e:∀(kV d pm:qB) (an:qD qE) (b ct:qB) (us:qA qB),us.length=ps.length->bindArgs (fnOf x x (U9 st) (G5 st) (A2 st) .none kV d pm an b ct) ⟨us,[]⟩=pure (ps.zip us):=by intro _ _ _ _ _ _ _ b;first|(obtain⟨_,rfl⟩:=a2w b;rfl)|(obtain⟨_,_,rfl⟩:=R6 b;rfl)|(obtain⟨_,_,_,rfl⟩:=a4p b;rfl)|(obtain⟨_,_,_,_,rfl⟩:=b5u b;rfl)|(obtain⟨_,_,_,_,_,rfl⟩:=b5t b;rfl)|(obtain⟨_,_,_,_,_,_,rfl⟩:=b9x b;rfl)):FunAt K mg x st ps:=⟨f,_,mg_of X G a,a3P (st:=st) l c k,(a3P (st:=st) l c k).binds e⟩
def a3x(a:findIn K (.ref C) m=some (some (.ref f)))(i:isFn K (.ref f)=true)(l:FnL K f m qn st oc od sl kV dc pm an cd ct)(c:codeIn K cd qn=true)(k:keepIn K (.ref f)=true){ps:qA Str}
  (e:∀(kV d pm:qB) (an:qD qE) (b ct:qB) (us:qA qB),us.length=ps.length->bindArgs (fnOf m qn (U9 st) (G5 st) (A2 st) .none kV d pm an b ct) ⟨us,[]⟩=pure (ps.zip us):=by intro _ _ _ _ _ _ _ b;first|(obtain⟨_,rfl⟩:=a2w b;rfl)|(obtain⟨_,_,rfl⟩:=R6 b;rfl)|(obtain⟨_,_,_,rfl⟩:=a4p b;rfl)|(obtain⟨_,_,_,_,rfl⟩:=b5u b;rfl)|(obtain⟨_,_,_,_,_,rfl⟩:=b5t b;rfl)|(obtain⟨_,_,_,_,_,_,rfl⟩:=b9x b;rfl)):MethAt K C m qn st ps:=⟨f,_,⟨a,i,k⟩,a3P (st:=st) l c k,(a3P (st:=st) l c k).binds e⟩
end
section
open PySem PySem.Spec PyProof.Rows PySem.W
variable {K:qF}{h:Heap}{mg:Str->qD qB}{x nm qn:Str}{C N:qE}{bs bm sub bmB above:qA qB}{hd ab:Bool}{sn:qA Str}{col:qD Bool}{dd:qD qE}{k0 k1 k2 k3 k5:qD qB}{newId:String}
def b7v(X:K.In h)(b:mg x=some (.ref C))(c:K.lookup C=some (excClassObj nm qn C N bs bm hd sn sub ab col dd k0 k1 k2 k3 k5 newId))(tx:tailIn K bmB bm=true)(ok:nsOkIn K N=true)(a:nsIn K N "__init__"=some none):OwnCls x C bmB newId mg h :=
 ⟨b,bm,N,nm,qn,bs,hd,sn,sub,ab,col,dd,k0,k1,k2,k3,k5,_,X _ _ c,.of_isNs (isNs_of_in X ok),nsMap_none_of_in X ok a,tail_of_in X tx⟩
def b5N(b:K.lookup C=some (excClassObj nm qn C N bs bm hd sn sub ab col dd k0 k1 k2 k3 k5 newId))(a:bm.contains (.type "BaseException")=true):ClsX K C [] :=
 ⟨nm,qn,N,bs,bm,hd,sn,sub,ab,col,dd,k0,k1,k2,k3,k5,newId,b,a,λ_ z=>nomatch z⟩
end
inductive Ex1{α0:Type}(p:α0->Prop):Prop
 |mk (a0:α0) (h:p a0):Ex1 p
inductive Ex2{α0 α1:Type}(p:α0->α1->Prop):Prop
 |mk (a0:α0) (a1:α1) (h:p a0 a1):Ex2 p
inductive Ex3{α0 α1 α2:Type}(p:α0->α1->α2->Prop):Prop
 |mk (a0:α0) (a1:α1) (a2:α2) (h:p a0 a1 a2):Ex3 p
inductive Ex4{α0 α1 α2 α3:Type}(p:α0->α1->α2->α3->Prop):Prop
 |mk (a0:α0) (a1:α1) (a2:α2) (a3:α3) (h:p a0 a1 a2 a3):Ex4 p
inductive Ex5{α0 α1 α2 α3 α4:Type}(p:α0->α1->α2->α3->α4->Prop):Prop
 |mk (a0:α0) (a1:α1) (a2:α2) (a3:α3) (a4:α4) (h:p a0 a1 a2 a3 a4):Ex5 p
inductive Ex8{α0 α1 α2 α3 α4 α5 α6 α7:Type}(p:α0->α1->α2->α3->α4->α5->α6->α7->Prop):Prop
 |mk (a0:α0) (a1:α1) (a2:α2) (a3:α3) (a4:α4) (a5:α5) (a6:α6) (a7:α7) (h:p a0 a1 a2 a3 a4 a5 a6 a7):Ex8 p
inductive An2(a0 a1:Prop):Prop
 |mk (h0:a0) (h1:a1):An2 a0 a1
inductive An3(a0 a1 a2:Prop):Prop
 |mk (h0:a0) (h1:a1) (h2:a2):An3 a0 a1 a2
inductive An4(a0 a1 a2 a3:Prop):Prop
 |mk (h0:a0) (h1:a1) (h2:a2) (h3:a3):An4 a0 a1 a2 a3
inductive An5(a0 a1 a2 a3 a4:Prop):Prop
 |mk (h0:a0) (h1:a1) (h2:a2) (h3:a3) (h4:a4):An5 a0 a1 a2 a3 a4
inductive An6(a0 a1 a2 a3 a4 a5:Prop):Prop
 |mk (h0:a0) (h1:a1) (h2:a2) (h3:a3) (h4:a4) (h5:a5):An6 a0 a1 a2 a3 a4 a5
inductive An7(a0 a1 a2 a3 a4 a5 a6:Prop):Prop
 |mk (h0:a0) (h1:a1) (h2:a2) (h3:a3) (h4:a4) (h5:a5) (h6:a6):An7 a0 a1 a2 a3 a4 a5 a6
inductive An9(a0 a1 a2 a3 a4 a5 a6 a7 a8:Prop):Prop
 |mk (h0:a0) (h1:a1) (h2:a2) (h3:a3) (h4:a4) (h5:a5) (h6:a6) (h7:a7) (h8:a8):An9 a0 a1 a2 a3 a4 a5 a6 a7 a8
inductive An10(a0 a1 a2 a3 a4 a5 a6 a7 a8 a9:Prop):Prop
 |mk (h0:a0) (h1:a1) (h2:a2) (h3:a3) (h4:a4) (h5:a5) (h6:a6) (h7:a7) (h8:a8) (h9:a9):An10 a0 a1 a2 a3 a4 a5 a6 a7 a8 a9
end L2
namespace L2
variable {i j k mask:Nat}{owner:Array (qJ)}{t:SetTable}{xs:Array Nat}{α:Type}
namespace Tab
open PySem
def gI:Nat->Nat->Nat
 |0,x=>x
 |n+1,x=>5*gI n x+1
def gS:Nat->Nat
 |0=>0
 |n+1=>5*gS n+1
def b6E:∀n x,gI n x=5 ^ n*x+gS n
 |0,x=>by simp[gI,gS]
 |n+1,x=>by
  rw[gI,b6E n x,gS,di,Nat.mul_add,<-Nat.mul_assoc,fV 5 (5 ^ n)];omega
def a9I:∀n,4*gS n+1=5 ^ n
 |0=>rfl
 |n+1=>by
  have:=a9I n;rw[gS,di];omega
def a3R:∀k,∃u,5 ^ (2 ^ k)=1+2 ^ (k+2)*(2*u+1)
 |0=>⟨0,rfl⟩
 |k+1=>by
  obtain⟨u,h⟩:=a3R k;refine⟨u+2 ^ k*(2*u+1)*(2*u+1),?_⟩;rw[di 2 k,Nat.pow_mul,h,Nat.pow_two];have a:2 ^ (k+1+2)=8*2 ^ k:=by rw[Nat.pow_add,di];omega
  have c:2 ^ (k+2)=4*2 ^ k:=by rw[Nat.pow_add,fV]
  rw[a,c];generalize 2 ^ k=b
  grind
def b8g(k:Nat):∃u,gS (2 ^ k)=2 ^ k*(2*u+1):=by
 obtain⟨u,h⟩:=a3R k;refine⟨u,?_⟩;have:=a9I (2 ^ k);have a:2 ^ (k+2)=4*2 ^ k:=by rw[Nat.pow_add,fV]
 rw[h,a,Nat.mul_assoc]at this;omega
def b5G(k y:Nat):gI (2 ^ k) y % 2 ^ (k+1)=(y+2 ^ k) % 2 ^ (k+1):=by
 obtain⟨u,h⟩:=a3R k;obtain⟨v,h2⟩:=b8g k;rw[b6E,h,h2];have e:(1+2 ^ (k+2)*(2*u+1))*y+2 ^ k*(2*v+1)=(y+2 ^ k)+2 ^ (k+1)*(2*(2*u+1)*y+v):=by
  have a:2 ^ (k+1)=2*2 ^ k:=by rw[di];omega
  have c:2 ^ (k+2)=4*2 ^ k:=by rw[Nat.pow_add,fV]
  rw[a,c];generalize 2 ^ k=b
  grind
 rw[e,Nat.add_mul_mod_self_left]
def fI(M:Nat):Nat->Nat->Nat
 |0,x=>x
 |n+1,x=>(fI M n x*5+1) % M
def b3A(M:Nat)(x:Nat)(a:x<M):∀n,fI M n x=gI n x % M
 |0=>(cT a).symm
 |n+1=>by
  rw[fI,b3A M x a n,gI,fV,Nat.add_mod,Nat.mul_mod,Nat.mod_mod,<-Nat.mul_mod,<-Nat.add_mod]
def b3x(m:Nat):∀n x,gI (n+m) x=gI n (gI m x)
 |0,x=>by rw[dC];rfl
 |n+1,x=>by rw[Nat.add_right_comm,gI,b3x m n x,gI]
def b3w:∀(k x s:Nat),∃n,n<2 ^ k/\gI n x % 2 ^ k=s % 2 ^ k
 |0,x,s=>⟨0,by decide,by rw[Nat.pow_zero,Nat.mod_one,Nat.mod_one]⟩
 |k+1,x,s=>by
  obtain⟨n,l,h⟩:=b3w k x s;have f:2 ^ (k+1)=2*2 ^ k:=by rw[di];omega
  have m:0<2 ^ k:=Nat.pow_pos (by decide);by_cases a:gI n x % 2 ^ (k+1)=s % 2 ^ (k+1)
  .exact⟨n,by omega,a⟩
  .refine⟨2 ^ k+n,by omega,?_⟩;rw[b3x,b5G];generalize gI n x=y at *;rw[f]at a⊢;generalize 2 ^ k=M at *;have a1:=Nat.mod_add_div y (2*M);have g:=Nat.mod_add_div s (2*M);have i:=fq y (show 0<2*M by omega);have j:=fq s (show 0<2*M by omega);have b:y % M=y % (2*M) % M:=(Nat.mod_mul_left_mod y 2 M).symm;have c:s % M=s % (2*M) % M:=(Nat.mod_mul_left_mod s 2 M).symm;rw[Nat.add_mod,cT (show M<2*M by omega)];generalize y % (2*M)=p at *;generalize s % (2*M)=q at *;rw[b,c]at h;have d:p % M=if p<M then p else p-M:=by
    split
    .exact cT (by assumption)
    .rw[Nat.mod_eq_sub_mod (by omega)];exact cT (by omega)
   have e:q % M=if q<M then q else q-M:=by
    split
    .exact cT (by assumption)
    .rw[Nat.mod_eq_sub_mod (by omega)];exact cT (by omega)
   rw[d,e]at h;split at h<;>split at h
   .omega
   .rw[cT (by omega)];omega
   .rw[show p+M=p-M+2*M by omega,Nat.add_mod_right,cT (by omega)];omega
   .omega
abbrev Pr:=SetTable.Probe
def adv(mask:Nat)(p:Pr):Pr :=
 if p.more > 0 then {p with j:=p.j+1,more:=p.more-1} else
 {p with j:=(SetTable.leap mask p.i p.perturb).1,more:=SetTable.runEnd mask (SetTable.leap mask p.i p.perturb).1-(SetTable.leap mask p.i p.perturb).1,i:=(SetTable.leap mask p.i p.perturb).1,perturb:=(SetTable.leap mask p.i p.perturb).2}
def b8x(t:SetTable)(p:Pr):t.advance p=adv t.mask p:=rfl
def C8(mask:Nat)(p:Pr):Nat->Pr
 |0=>p
 |n+1=>adv mask (C8 mask p n)
def J9(mask:Nat)(p:Pr):∀n,C8 mask p (n+1)=C8 mask (adv mask p) n
 |0=>rfl
 |n+1=>by rw[C8,J9 mask p n];rfl
def a1c(mask:Nat)(p:Pr)(m:Nat):∀n,C8 mask p (m+n)=C8 mask (C8 mask p m) n
 |0=>rfl
 |n+1=>by rw[<-ei,C8,a1c mask p m n];rfl
def a1D(mask:Nat)(p:Pr):∀n,(C8 mask p n).dummy=p.dummy
 |0=>rfl
 |n+1=>by
  rw[C8,<-a1D mask p n];unfold adv;split<;>rfl
def a1H(mask i pt:Nat):Pr:={j:=i,more:=SetTable.runEnd mask i-i,i,perturb:=pt,dummy:=none}
def st0(mask:Nat)(h:Int):Pr:=a1H mask (SetTable.bits h % (mask+1)) (SetTable.bits h)
def a1V(mask i pt:Nat):∀c,c<=SetTable.runEnd mask i-i->C8 mask (a1H mask i pt) c={j:=i+c,more:=SetTable.runEnd mask i-i-c,i,perturb:=pt,dummy:=none}
 |0,_=>rfl
 |c+1,h=>by
  rw[C8,a1V mask i pt c (by omega)];unfold adv;rw[az (show SetTable.runEnd mask i-i-c > 0 by omega)];simp only[SetTable.Probe.mk.injEq,and_true];omega
def b4w(mask i:Nat):SetTable.runEnd mask i-i<=9:=by
 unfold SetTable.runEnd;split<;>omega
def a6Y(mask i pt:Nat):C8 mask (a1H mask i pt) (SetTable.runEnd mask i-i+1)=a1H mask (SetTable.leap mask i pt).1 (SetTable.leap mask i pt).2:=by
 rw[C8,a1V mask i pt _ (aq _)];unfold adv;rw[ar (by show ¬SetTable.runEnd mask i-i-(SetTable.runEnd mask i-i) > 0;omega)];rfl
def O8(mask:Nat)(i pt:Nat):Nat->Nat×Nat
 |0=>(i,pt)
 |k+1=>SetTable.leap mask (O8 mask i pt k).1 (O8 mask i pt k).2
def b2h(mask i pt:Nat):∀k,∃n,n<=10*k/\C8 mask (a1H mask i pt) n=a1H mask (O8 mask i pt k).1 (O8 mask i pt k).2
 |0=>⟨0,aq _,rfl⟩
 |k+1=>by
  obtain⟨n,h1,h2⟩:=b2h mask i pt k;have:=b4w mask (O8 mask i pt k).1;refine⟨n+(SetTable.runEnd mask (O8 mask i pt k).1-(O8 mask i pt k).1+1),by omega,?_⟩;rw[a1c,h2,a6Y];rfl
def b2f(mask i pt:Nat):∀k,(O8 mask i pt k).2=pt / 32 ^ k
 |0=>by simp[O8]
 |k+1=>by
  rw[O8,di,<-Nat.div_div_eq_div_mul,<-b2f mask i pt k];rfl
def a3m(mask i pt a:Nat):∀b,O8 mask i pt (a+b)=O8 mask (O8 mask i pt a).1 (O8 mask i pt a).2 b
 |0=>rfl
 |b+1=>by rw[<-ei,O8,a3m mask i pt a b];rfl
def a6K(mask i:Nat):∀k,O8 mask i 0 k=(fI (mask+1) k i,0)
 |0=>rfl
 |k+1=>by
  rw[O8,a6K mask i k];show((fI (mask+1) k i*5+1+0 / 32) % (mask+1),0 / 32)=_;rw[Nat.zero_div,Nat.add_zero];rfl
def b5P(h:Int):SetTable.bits h<2 ^ 64:=by
 unfold SetTable.bits;have h1:=eD h (show(2:Int) ^ 64≠0 by decide);have h2:=dD h (show(0:Int)<2 ^ 64 by decide);omega
def b4x(mask i pt:Nat)(hi:i<=mask):∀k,(O8 mask i pt k).1<=mask
 |0=>hi
 |k+1=>by
  rw[O8];exact eH (fq _ (fi _))
def a6L(c:mask+1=2 ^ k)(h:Int)(s:Nat)(hs:s<=mask):∃r,r<mask+14/\(O8 mask (SetTable.bits h % (mask+1)) (SetTable.bits h) r).1=s:=by
 have b:=b5P h;have hi:=b4x mask (SetTable.bits h % (mask+1)) (SetTable.bits h) (eH (fq _ (fi _))) 13;have a:=b2f mask (SetTable.bits h % (mask+1)) (SetTable.bits h) 13;rw[Nat.div_eq_of_lt (aR b (by decide))]at a;obtain⟨n,d,e⟩:=b3w k (O8 mask (SetTable.bits h % (mask+1)) (SetTable.bits h) 13).1 s;refine⟨13+n,by omega,?_⟩;rw[<-c]at e;rw[a3m,a,a6K];show fI _ _ _=s;rw[b3A _ _ (by omega),e];exact cT (by omega)
def pos(mask:Nat)(h:Int)(n:Nat):Nat:=(C8 mask (st0 mask h) n).j
def b2y(b:mask+1=2 ^ k)(h:Int)(s:Nat)(hs:s<=mask):∃n,n<10*SetTable.turns mask/\pos mask h n=s:=by
 obtain⟨r,d,e⟩:=a6L b h s hs;obtain⟨n,c,a⟩:=b2h mask (SetTable.bits h % (mask+1)) (SetTable.bits h) r;refine⟨n,by unfold SetTable.turns;omega,?_⟩;unfold pos st0;rw[a,<-e];rfl
def a4d(xs:Array Nat)(j:Nat)(k:∀a b:Nat,a<b->b<xs.size->xs.getD a 0<xs.getD b 0):∀(fuel lo hi:Nat),hi-lo<=fuel->lo<=hi->hi<=xs.size->(∀i,i<lo->xs.getD i 0<j)->(∀i,hi<=i->i<xs.size->j<=xs.getD i 0) ->
  SetTable.below.go xs j fuel lo hi<=xs.size/\(∀i,i<SetTable.below.go xs j fuel lo hi->xs.getD i 0<j)/\∀i,SetTable.below.go xs j fuel lo hi<=i->i<xs.size->j<=xs.getD i 0
 |0,lo,hi,h1,h2,c,d,f=>by
  have:hi=lo:=by omega
  subst this;exact⟨c,d,f⟩
 |fuel+1,lo,hi,h1,h2,c,d,f=>by
  unfold SetTable.below.go;by_cases h:lo<hi
  .rw[az h];have n:(lo+hi) / 2<hi/\lo<=(lo+hi) / 2:=by omega
   have m:xs.getD ((lo+hi) / 2) j=xs.getD ((lo+hi) / 2) 0:=by
    have:(lo+hi) / 2<xs.size:=by omega
    simp[Array.getD,this]
   dsimp only;rw[m];by_cases g:xs.getD ((lo+hi) / 2) 0<j
   .rw[az g];refine a4d xs j k fuel _ _ (by omega) (by omega) c (λi l=>?_) f;by_cases e:i=(lo+hi) / 2
    .rw[e];exact g
    .exact fT (k i _ (by omega) (by omega)) g
   .rw[ar g];refine a4d xs j k fuel _ _ (by omega) (by omega) (by omega) d (λi l hs=>?_);by_cases e:i=(lo+hi) / 2
    .rw[e];omega
    .have:=k ((lo+hi) / 2) i (by omega) hs;omega
  .rw[ar h];have:hi=lo:=by omega
   subst this;exact⟨c,d,f⟩
def Ris(xs:Array Nat):Prop:=∀a b:Nat,a<b->b<xs.size->xs.getD a 0<xs.getD b 0
def J6(a:Ris xs)(j:Nat):SetTable.below xs j<=xs.size/\(∀i,i<SetTable.below xs j->xs.getD i 0<j)/\∀i,SetTable.below xs j<=i->i<xs.size->j<=xs.getD i 0 :=
 a4d xs j a xs.size 0 xs.size (by omega) (by omega) (aq _) (λi h=>absurd h (by omega)) (λi h1 h2=>absurd h2 (by omega))
def a1r(h:i<xs.size):xs[i]?=some (xs.getD i 0):=by simp[Array.getD,h]
def a1y(a:Ris xs)(h:xs[i]?=some j):SetTable.below xs j=i:=by
 obtain⟨d,b,c⟩:=J6 a j;have hi:i<xs.size:=(c_.mp h).1;have e:xs.getD i 0=j:=by have:=a1r hi;rw[h]at this;injection this with this;exact this.symm
 rcases dm (SetTable.below xs j) i with z|z|z
 .have h1:=c _ (aq _) (by omega);have h2:=a _ _ z hi;omega
 .exact z
 .have:=b i z;omega
def a2a(a:Ris xs)(j:Nat):xs[SetTable.below xs j]?=some j↔j∈xs:=by
 constructor
 .intro h;exact Array.mem_of_getElem? h
 .intro h;obtain⟨i,hi⟩:=Array.mem_iff_getElem?.mp h;rw[a1y a hi];exact hi
def a9f(a:Ris t.place)(hd:t.dummies=#[])(j:Nat):t.slot j=if j∈t.place then .live (SetTable.below t.place j)else .empty:=by
 unfold SetTable.slot;dsimp only;by_cases h:j∈t.place
 .rw[az h,az];rw[(a2a a j).mpr h];simp
 .rw[ar h,ar,hd]
  .rw[ar];unfold SetTable.has;simp
  .intro z;exact h ((a2a a j).mp (by simpa using z))
def a6T{t:SetTable}(i:Ris t.place)(hd:t.dummies=#[])(a:Nat->Int)(h:Int):∀(fuel:Nat) (p:Pr),p.dummy=none->(∃n,n<fuel/\(C8 t.mask p n).j∉t.place) ->
  (∃n,(C8 t.mask p n).j∉t.place/\(∀m,m<n->(C8 t.mask p m).j∈t.place/\a (SetTable.below t.place (C8 t.mask p m).j)≠h)/\SetTable.probe.go t a h fuel p=some (.empty (C8 t.mask p n).j none)) ∨
  ∃n,(C8 t.mask p n).j∈t.place/\a (SetTable.below t.place (C8 t.mask p n).j)=h/\(∀m,m<n->(C8 t.mask p m).j∈t.place/\a (SetTable.below t.place (C8 t.mask p m).j)≠h)/\SetTable.probe.go t a h fuel p=some (.candidate (C8 t.mask p n).j (SetTable.below t.place (C8 t.mask p n).j) (C8 t.mask p (n+1)))
 |0,p,_,⟨n,g,_⟩=>absurd g (by omega)
 |fuel+1,p,c,⟨n,g,f⟩=>by
  unfold SetTable.probe.go;rw[a9f i hd];by_cases b:p.j∈t.place
  .rw[az b];dsimp only;by_cases d:a (SetTable.below t.place p.j)=h
   .right;refine⟨0,b,d,λm e=>absurd e (by omega),?_⟩;rw[az (by simpa using d)];rfl
   .have hn0:n≠0:=λz=>f (by rw[z];exact b);obtain⟨n,rfl⟩:∃k,n=k+1:=⟨n-1,by omega⟩;rw[J9]at f;rw[ar (by simpa using d),b8x];have first:∀N,(∀m,m<N->(C8 t.mask (adv t.mask p) m).j∈t.place/\a (SetTable.below t.place (C8 t.mask (adv t.mask p) m).j)≠h)->∀m,m<N+1->(C8 t.mask p m).j∈t.place/\a (SetTable.below t.place (C8 t.mask p m).j)≠h:=λN j m e=>by
     cases m with
     |zero=>exact⟨b,d⟩
     |succ m=>rw[J9];exact j m (by omega)
    rcases a6T i hd a h fuel (adv t.mask p) (by rw[<-c];exact a1D t.mask p 1) ⟨n,by omega,f⟩with⟨N,h1,h2,h3⟩|⟨N,h1,h2,h3,h4⟩
    .left;exact⟨N+1,by rw[J9];exact h1,first N h2,by rw[J9];exact h3⟩
    .right;exact⟨N+1,by rw[J9];exact h1,by rw[J9];exact h2,first N h3,by rw[J9,J9];exact h4⟩
  .rw[ar b];left;refine⟨0,b,λm e=>absurd e (by omega),?_⟩;show some (SetTable.Met.empty p.j p.dummy)=_;rw[c];rfl
def a0f(xs:Array α)(p:Nat)(x:α)(hp:p<=xs.size):(SetTable.insertAt xs p x).toList=xs.toList.take p++x::xs.toList.drop p:=by
 unfold SetTable.insertAt;simp only[bY,cX,eX,List.extract_eq_take_drop,cU,Nat.sub_zero,aK,List.singleton_append];rw[cj (l:=List.drop p xs.toList) (by simp)]
def ris_list:Ris xs↔xs.toList.Pairwise (· < ·):=by
 rw[dP];unfold Ris;constructor
 .intro h i j hi hj hij;have:=h i j hij (by simpa using hj);simpa[Array.getD,show i<xs.size by simpa using hi,show j<xs.size by simpa using hj]using this
 .intro h a b hab hb;have:=h a b (by simp;omega) (by simpa using hb) hab;simpa[Array.getD,show a<xs.size by omega,hb]using this
def a4O(h:i<xs.toList.length):xs.getD i 0=xs.toList[i]:=by
 have h':i<xs.size:=by simpa using h
 simp[Array.getD,h']
def b4f(b:Ris xs){x:Nat}(h:x∈xs.toList.take (SetTable.below xs j)):x<j:=by
 obtain⟨c,a,d⟩:=J6 b j;obtain⟨i,hi,rfl⟩:=cq.mp h;rw[aS]at hi;rw[fA,<-a4O];exact a i (by omega)
def a9L(d:Ris xs){x:Nat}(c:j∉xs)(h:x∈xs.toList.drop (SetTable.below xs j)):j<x:=by
 obtain⟨e,f,b⟩:=J6 d j;have a:x∈xs:=by simpa using bR h
 obtain⟨i,hi,rfl⟩:=cq.mp h;rw[bx]at hi;rw[fB,<-a4O]at a⊢;have:=b (SetTable.below xs j+i) (by omega) (by simp at hi;omega);rcases Nat.lt_or_eq_of_le this with z|z
 .exact z
 .exact absurd (z ▸ a) c
def b4y(a:Ris xs)(c:j∉xs):Ris (SetTable.insertAt xs (SetTable.below xs j) j):=by
 rw[ris_list,a0f _ _ _ (J6 a j).1];have d:=ris_list.mp a;rw[bI,cR];refine⟨d.take,⟨λy b=>a9L a c b,d.drop⟩,λx e y b=>?_⟩;have h1:=b4f a e;rcases aF.mp b with z|z
 .rw[z];exact h1
 .exact fT h1 (a9L a c z)
def a5O{p x:Nat}(hp:p<=xs.size):x∈SetTable.insertAt xs p j↔x=j∨x∈xs:=by
 rw[<-eT,a0f _ _ _ hp,ao,aF,<-eT];constructor
 .rintro(h|h|h)
  .exact .inr (bJ h)
  .exact .inl h
  .exact .inr (bR h)
 .rintro(h|h)
  .exact .inr (.inl h)
  .rw[<-bt p xs.toList]at h;rcases ao.mp h with z|z
   .exact .inl z
   .exact .inr (.inr z)
def nodup_le{α:Type}[DecidableEq α]:∀(a b:qA α),a.Nodup->(∀x∈a,x∈b)->a.length<=b.length
 |[],b,_,_=>bu _
 |x::a,b,e,h=>by
  obtain⟨h1,h2⟩:=cv.mp e;have c:=h x aA;have:=nodup_le a (b.erase x) h2 λy d=>(List.mem_erase_of_ne (λz:y=x=>h1 (z ▸ d))).mpr (h y (ax _ d));rw[List.length_erase_of_mem c]at this;have:=fF c;rw[aX];omega
structure TabOk{α:Type}(t:SetTable)(es:Array (Int×α)):Prop where
 size:t.place.size=es.size
 dum:t.dummies=#[]
 ris:Ris t.place
 le:∀j∈t.place,j<=t.mask
 pow:∃k,3<=k/\t.mask+1=2 ^ k
 room:es.size<=t.mask
 reach:∀(i j:Nat) (e:Int×α),t.place[i]?=some j->es[i]?=some e->∃n,pos t.mask e.1 n=j/\∀m,m<n->pos t.mask e.1 m∈t.place
def TabOk.free{es:Array (Int×α)}(h:TabOk t es)(x:Int):∃n,n<10*SetTable.turns t.mask/\pos t.mask x n∉t.place:=by
 obtain⟨k,_,e⟩:=h.pow;have:∃s,s<=t.mask/\s∉t.place:=by
  refine bZ λd=>?_;have a:∀s,s<t.mask+1->s∈t.place.toList:=λs hs=>by
   refine bZ λz=>d ⟨s,by omega,λq=>z (by simpa using q)⟩
  have:=nodup_le (List.range (t.mask+1)) t.place.toList fM λs hs=>a s (aY.mp hs);rw[eJ,ay,h.size]at this;have:=h.room;omega
 obtain⟨s,hs,f⟩:=this;obtain⟨n,b,c⟩:=b2y e x s hs;exact⟨n,b,by rw[c];exact f⟩
def TabOk.first{es:Array (Int×α)}(h:TabOk t es)(x:Int):∃N,N<10*SetTable.turns t.mask/\pos t.mask x N∉t.place/\∀m,m<N->pos t.mask x m∈t.place:=by
 obtain⟨n,d,c⟩:=h.free x;induction n using Nat.strongRecOn with
 |ind n e =>
  by_cases b:∃m,m<n/\pos t.mask x m∉t.place
  .obtain⟨m,a,hm2⟩:=b;exact e m a (by omega) hm2
  .exact⟨n,d,c,λm a=>bZ λz=>b ⟨m,a,z⟩⟩
def a9H{xs:Array α}{p:Nat}{x:α}(hp:p<=xs.size)(i:Nat):(SetTable.insertAt xs p x)[i]?=if i<p then xs[i]? else if i=p then some x else xs[i-1]?:=by
 rw[<-aB,a0f _ _ _ hp];by_cases h1:i<p
 .rw[az h1,bA (by rw[aS,ay];omega),dg h1,aB]
 .rw[ar h1,ba (by rw[aS,ay];omega),aS,ay,dh hp];by_cases h2:i=p
  .rw[az h2,h2,fW];rfl
  .rw[ar h2];obtain⟨c,a⟩:∃c,i-p=c+1:=⟨i-p-1,by omega⟩;rw[a,List.getElem?_cons_succ,fc,aB];congr 1;omega
def TabOk.add{es:Array (Int×α)}(h:TabOk t es){x:Int}{v:α}{N:Nat}(h1:pos t.mask x N∉t.place)(h2:∀m,m<N->pos t.mask x m∈t.place)(l:pos t.mask x N<=t.mask)(d:es.size<t.mask) :
  TabOk (t.put (pos t.mask x N)).1 (SetTable.insertAt es (t.put (pos t.mask x N)).2 (x,v)):=by
 have g:=(J6 h.ris (pos t.mask x N)).1;have hd:(t.put (pos t.mask x N)).1.dummies=#[]:=by
  show(if SetTable.has t.dummies (pos t.mask x N)=true then _ else t.dummies)=#[];rw[h.dum,ar];unfold SetTable.has;simp
 have c:SetTable.below t.place (pos t.mask x N)<=es.size:=by rw[<-h.size];exact g
 have f:∀{β:Type}(xs:Array β) (p:Nat) (y:β),p<=xs.size->(SetTable.insertAt xs p y).size=xs.size+1:=λxs p y u=>by
  rw[<-ay,a0f _ _ _ u,ag,aX,aS,bx,ay];omega
 refine⟨?_,hd,b4y h.ris h1,λj s=>?_,h.pow,?_,λi j e b a=>?_⟩
 .show(SetTable.insertAt t.place (SetTable.below t.place (pos t.mask x N)) _).size=(SetTable.insertAt es (SetTable.below t.place (pos t.mask x N)) _).size;rw[f _ _ _ g,f _ _ _ c,h.size]
 .rcases(a5O g).mp s with z|z
  .rw[z];exact l
  .exact h.le j z
 .show(SetTable.insertAt es (SetTable.below t.place (pos t.mask x N)) _).size<=t.mask;rw[f _ _ _ c];exact d
 .change (SetTable.insertAt t.place (SetTable.below t.place (pos t.mask x N)) (pos t.mask x N))[i]?=some j at b;change (SetTable.insertAt es (SetTable.below t.place (pos t.mask x N)) (x,v))[i]?=some e at a;rw[a9H g]at b;rw[a9H c]at a;show ∃n,pos t.mask e.1 n=j/\∀m,m<n->pos t.mask e.1 m∈SetTable.insertAt t.place (SetTable.below t.place (pos t.mask x N)) (pos t.mask x N);have old:∀k,t.place[k]?=some j->es[k]?=some e->∃n,pos t.mask e.1 n=j/\∀m,m<n->pos t.mask e.1 m∈SetTable.insertAt t.place (SetTable.below t.place (pos t.mask x N)) (pos t.mask x N):=λk B C=>by
   obtain⟨n,w,A⟩:=h.reach k j e B C;exact⟨n,w,λm o=>(a5O g).mpr (.inr (A m o))⟩
  by_cases q:i<SetTable.below t.place (pos t.mask x N)
  .rw[az q]at b a;exact old i b a
  .rw[ar q]at b a;by_cases r:i=SetTable.below t.place (pos t.mask x N)
   .rw[az r]at b a;cases b;cases a;exact⟨N,rfl,λm o=>(a5O g).mpr (.inr (h2 m o))⟩
   .rw[ar r]at b a;exact old _ b a
def a4C(hi:i<=mask):SetTable.runEnd mask i<=mask:=by
 unfold SetTable.runEnd;split<;>omega
def b1B(mask:Nat)(p:Pr)(h:p.j+p.more<=mask):∀n,(C8 mask p n).j+(C8 mask p n).more<=mask
 |0=>h
 |n+1=>by
  have b:=b1B mask p h n;rw[C8];unfold adv;split
  .dsimp only;omega
  .dsimp only;have h1:(SetTable.leap mask (C8 mask p n).i (C8 mask p n).perturb).1<=mask:=eH (fq _ (fi _));have h2:=a4C h1;have a:(SetTable.leap mask (C8 mask p n).i (C8 mask p n).perturb).1<=SetTable.runEnd mask (SetTable.leap mask (C8 mask p n).i (C8 mask p n).perturb).1:=by
    unfold SetTable.runEnd;split<;>omega
   omega
def a1J(mask:Nat)(h:Int)(n:Nat):pos mask h n<=mask:=by
 have h1:SetTable.bits h % (mask+1)<=mask:=eH (fq _ (fi _));have h2:=a4C h1;have a:SetTable.bits h % (mask+1)<=SetTable.runEnd mask (SetTable.bits h % (mask+1)):=by
  unfold SetTable.runEnd;split<;>omega
 have:=b1B mask (st0 mask h) (by show SetTable.bits h % (mask+1)+(SetTable.runEnd mask (SetTable.bits h % (mask+1))-SetTable.bits h % (mask+1))<=mask;omega) n;unfold pos;omega
def fr(owner:Array (qJ))(j:Nat):Bool:=(owner.getD j (some 0)).isNone
def a9J(mask:Nat)(owner:Array (qJ)):∀(fuel i pt:Nat),(∃r,r<fuel/\fr owner (O8 mask i pt r).1=true) ->
  ∃n,fr owner (C8 mask (a1H mask i pt) n).j=true/\(∀m,m<n->fr owner (C8 mask (a1H mask i pt) m).j=false)/\SetTable.layClean.free mask owner fuel i pt=some (C8 mask (a1H mask i pt) n).j
 |0,_,_,⟨r,h,_⟩=>absurd h (by omega)
 |fuel+1,i,pt,⟨r,h,b⟩=>by
  unfold SetTable.layClean.free;have q:i<=SetTable.runEnd mask i:=by
   unfold SetTable.runEnd;split<;>omega
  cases e:(List.range (SetTable.runEnd mask i+1-i)).find? (λk=>(owner.getD (i+k) (some 0)).isNone)with
  |some k =>
   dsimp only;rw[List.find?_range_eq_some]at e;obtain⟨j,l,o⟩:=e;have s:=aY.mp l;refine⟨k,?_,λm d=>?_,?_⟩
   .rw[a1V mask i pt k (by omega)];exact j
   .rw[a1V mask i pt m (by omega)];have:=o m d;simpa[fr]using this
   .rw[a1V mask i pt k (by omega)]
  |none =>
   dsimp only;rw[List.find?_range_eq_none]at e;have a:∀m,m<SetTable.runEnd mask i-i+1->fr owner (C8 mask (a1H mask i pt) m).j=false:=λm d=>by
    rw[a1V mask i pt m (by omega)];have:=e m (by omega);simpa[fr]using this
   cases r with
   |zero =>
    have:=a 0 (by omega);rw[show(C8 mask (a1H mask i pt) 0).j=(O8 mask i pt 0).1 from rfl,b]at this;cases this
   |succ r =>
    have c:fr owner (O8 mask (SetTable.leap mask i pt).1 (SetTable.leap mask i pt).2 r).1=true:=by
     rw[Nat.add_comm,a3m]at b;exact b
    obtain⟨n,h1,h2,p⟩:=a9J mask owner fuel (SetTable.leap mask i pt).1 (SetTable.leap mask i pt).2 ⟨r,by omega,c⟩;have key:∀m,C8 mask (a1H mask i pt) (SetTable.runEnd mask i-i+1+m)=C8 mask (a1H mask (SetTable.leap mask i pt).1 (SetTable.leap mask i pt).2) m:=λm=>by
     rw[a1c,a6Y]
    refine⟨SetTable.runEnd mask i-i+1+n,by rw[key];exact h1,λm d=>?_,by rw[key];exact p⟩;by_cases f:m<SetTable.runEnd mask i-i+1
    .exact a m f
    .obtain⟨g,rfl⟩:∃g,m=SetTable.runEnd mask i-i+1+g:=⟨m-(SetTable.runEnd mask i-i+1),by omega⟩;rw[key];exact h2 g (by omega)
structure Lay(mask:Nat)(owner:Array (qJ))(hs:qI):Prop where
 size:owner.size=mask+1
 val:∀j q:Nat,owner[j]?=some (some q)->∃h,hs[q]?=some h/\∃n,pos mask h n=j/\∀m,m<n->fr owner (pos mask h m)=false
 ex:∀q,q<hs.length->∃j:Nat,owner[j]?=some (some q)
 uniq:∀j j' q:Nat,owner[j]?=some (some q)->owner[j']?=some (some q)->j=j'
def a0g(hs:owner.size=mask+1)(a:j<=mask):fr owner j=false↔∃q,owner[j]?=some (some q):=by
 have h:j<owner.size:=by omega
 unfold fr;rw[bP h,show owner.getD j (some 0)=owner[j] by simp[Array.getD,h]];cases owner[j]with
 |none=>simp
 |some q=>simp
def Lay.start(mask:Nat):Lay mask (Array.replicate (mask+1) none) []:=by
 refine⟨by simp,λj q h=>?_,λq h=>absurd h (by simp),λj a q h=>?_⟩<;>
 .rw[Array.getElem?_replicate]at h;split at h
  .cases h
  .cases h
def Lay.free(z:mask+1=2 ^ k){hs:qI}(L:Lay mask owner hs)(A:hs.length<=mask)(h:Int):∃n,fr owner (pos mask h n)=true/\(∀m,m<n->fr owner (pos mask h m)=false)/\SetTable.layClean.free mask owner (SetTable.turns mask) (SetTable.bits h % (mask+1)) (SetTable.bits h)=some (pos mask h n):=by
 have:∃s,s<=mask/\fr owner s=true:=by
  refine bZ λl=>?_;have c:∀s:Nat,s<=mask->∃q,owner[s]?=some (some q):=λs hs=>by
   rw[<-a0g L.size hs];cases e:fr owner s with
   |false=>rfl
   |true=>exact absurd ⟨s,hs,e⟩ l
  have:=nodup_le ((List.range (mask+1)).map λj=>(owner.getD j none).getD 0) (List.range hs.length) ?_ ?_
  .rw[ai,eJ,eJ]at this;omega
  .rw[eZ,bL];refine(eZ.mp fM).imp_of_mem λ{a b} v w i e=>i ?_;obtain⟨q,d⟩:=c a (by have:=aY.mp v;omega);obtain⟨t,f⟩:=c b (by have:=aY.mp w;omega);have g:owner.getD a none=some q:=by rw[bU,d];rfl
   have u:owner.getD b none=some t:=by rw[bU,f];rfl
   rw[g,u]at e;change q=t at e;exact L.uniq a b q d (e ▸ f)
  .intro x hx;obtain⟨j,y,rfl⟩:=aN.mp hx;obtain⟨q,d⟩:=c j (by have:=aY.mp y;omega);obtain⟨h',h1,_⟩:=L.val j q d;have g:owner.getD j none=some q:=by rw[bU,d];rfl
   rw[g];exact aY.mpr (aL.mp h1).1
 obtain⟨s,o,p⟩:=this;obtain⟨r,B,e⟩:=a6L z h s o;exact a9J mask owner _ _ _ ⟨r,by unfold SetTable.turns;omega,by rw[e];exact p⟩
def Lay.put{hs:qI}(L:Lay mask owner hs){h:Int}{n:Nat}(h1:fr owner (pos mask h n)=true)(h2:∀m,m<n->fr owner (pos mask h m)=false):Lay mask (owner.setIfInBounds (pos mask h n) (some hs.length)) (hs++[h]):=by
 have p:pos mask h n<owner.size:=by have:=a1J mask h n;rw[L.size];omega
 have i:∀q,owner[pos mask h n]?≠some (some q):=λq z=>by
  have:=(a0g L.size (a1J mask h n)).mpr ⟨q,z⟩;rw[h1]at this;cases this
 have get:∀j:Nat,(owner.setIfInBounds (pos mask h n) (some hs.length))[j]?=if j=pos mask h n then some (some hs.length)else owner[j]?:=λj=>by
  rw[Array.getElem?_setIfInBounds];by_cases e:pos mask h n=j
  .rw[az e,az e.symm,az p]
  .rw[ar e,ar λz=>e z.symm]
 have d:(owner.setIfInBounds (pos mask h n) (some hs.length)).size=mask+1:=by rw[fg,L.size]
 have keep:∀j,j<=mask->fr owner j=false->fr (owner.setIfInBounds (pos mask h n) (some hs.length)) j=false:=λj b e=>by
  rw[a0g d b,get];split
  .exact⟨_,rfl⟩
  .exact(a0g L.size b).mp e
 refine⟨d,λj q e=>?_,λq r=>?_,λj k q e a=>?_⟩
 .rw[get]at e;by_cases c:j=pos mask h n
  .rw[az c]at e;cases e;exact⟨h,by rw[ba (aq _),fW];rfl,n,c.symm,λm g=>keep _ (a1J mask h m) (h2 m g)⟩
  .rw[ar c]at e;obtain⟨h',f,s,l,o⟩:=L.val j q e;exact⟨h',by rw[bA (aL.mp f).1];exact f,s,l,λm g=>keep _ (a1J mask h' m) (o m g)⟩
 .by_cases c:q=hs.length
  .exact⟨pos mask h n,by rw[get,az rfl,c]⟩
  .rw[ag,eQ]at r;obtain⟨j,b⟩:=L.ex q (by omega);refine⟨j,?_⟩;rw[get,ar]
   .exact b
   .intro z;exact i q (z ▸ b)
 .rw[get]at e a;have lt:∀j:Nat,owner[j]?=some (some q)->q<hs.length:=λj z=>by
   obtain⟨_,f,_⟩:=L.val j q z;exact(aL.mp f).1
  by_cases c:j=pos mask h n
  .by_cases c':k=pos mask h n
   .rw[c,c']
   .rw[az c]at e;rw[ar c']at a;cases e;exact absurd (lt _ a) (by omega)
  .by_cases c':k=pos mask h n
   .rw[ar c]at e;rw[az c']at a;cases a;exact absurd (lt _ e) (by omega)
   .rw[ar c]at e;rw[ar c']at a;exact L.uniq j k q e a
def a7h{mask k:Nat}(e:mask+1=2 ^ k):∀(rest done:qI) (owner:Array (qJ)),Lay mask owner done->done.length+rest.length<=mask ->
  ∃a,rest.foldl (λb h=>do
   let (owner,k) <-b
   let j <-SetTable.layClean.free mask owner (SetTable.turns mask) (SetTable.bits h % (mask+1)) (SetTable.bits h)
   pure (owner.setIfInBounds j (some k),k+1)) (some (owner,done.length))=some (a,(done++rest).length)/\Lay mask a (done++rest)
 |[],done,owner,L,_=>⟨owner,by simp,by simpa using L⟩
 |h::rest,done,owner,L,g=>by
  rw[aX]at g;obtain⟨n,h1,h2,f⟩:=L.free e (by omega) h;obtain⟨a,c,d⟩:=a7h e rest (done++[h]) _ (L.put h1 h2) (by rw[ag,eQ];omega);refine⟨a,?_,by rw[aK]at d;exact d⟩;rw[dH];rw[aK]at c;refine Eq.trans (aU (λz=>List.foldl _ z rest) ?_) c;show(Option.bind (SetTable.layClean.free mask owner (SetTable.turns mask) (SetTable.bits h % (mask+1)) (SetTable.bits h)) λj=>some (owner.setIfInBounds j (some done.length),done.length+1))=_;rw[f,ag];rfl
def a7i(d:mask+1=2 ^ k)(a:Array Int)(e:a.size<=mask):∃owner,SetTable.layClean mask a=some owner/\Lay mask owner a.toList:=by
 obtain⟨owner,b,c⟩:=a7h d a.toList [] _ (Lay.start mask) (by simpa using e);refine⟨owner,?_,c⟩;unfold SetTable.layClean;rw[<-Array.foldl_toList];exact aU (Option.map (·.1)) b
def a8w{α β:Type}(f:α->qD β):∀l:qA α,(∀x∈l,(f x).isSome=true)->(l.filterMap f).map some=l.map f
 |[],_=>rfl
 |x::l,h=>by
  have c:=a8w f l λy b=>h y (ax _ b);have a:=h x aA;cases e:f x with
  |none=>rw[e]at a;cases a
  |some y=>rw[List.filterMap_cons_some e,aV,aV,c,e]
def b2n(es:Array α):(List.range es.size).filterMap (es[·]?)=es.toList:=by
 have h1:((List.range es.size).filterMap (es[·]?)).map some=(List.range es.size).map (es[·]?):=a8w _ _ λq a=>by
  have:=aY.mp a;simp[this]
 have h2:es.toList.map some=(List.range es.size).map (es[·]?):=by
  refine eW (by simp) λi h1 h2=>?_;simp at h1;simp[h1]
 exact(List.map_inj_right (λ_ _ h=>bH h)).mp (h1.trans h2.symm)
def E5(mask:Nat)(owner:Array (qJ)):qA (Nat×Nat):=(List.range (mask+1)).filterMap λj=>(owner.getD j none).map (j,·)
def Q7(hs:owner.size=mask+1)(j q:Nat):(j,q)∈E5 mask owner↔owner[j]?=some (some q):=by
 unfold E5;rw[ck];constructor
 .rintro⟨j',a,e⟩;have a:=aY.mp a;rw[fG]at e;obtain⟨f,b,c⟩:=e;cases c;rw[bU,bP (by omega)]at b;rw[bP (by omega)];exact aU some b
 .intro e;have d:j<owner.size:=(c_.mp e).1;exact⟨j,aY.mpr (by omega),by rw[bU,e];rfl⟩
def b3b(mask:Nat)(owner:Array (qJ)):(E5 mask owner).Pairwise λa b=>a.1<b.1:=by
 unfold E5;refine List.Pairwise.filterMap _ (λa b c p d q e=>?_) List.pairwise_lt_range;rw[fG]at d e;obtain⟨_,_,rfl⟩:=d;obtain⟨_,_,rfl⟩:=e;exact c
def b5v(F:mask+1=2 ^ k)(J:3<=k)(es:Array (Int×α))(G:es.size<=mask)(finger moves:Nat)(led plain:Bool) :
  ∃t' d,SetTable.laid mask finger moves led plain (es.map (·.1))=some (t',d)/\t'.mask=mask/\t'.led=led/\t'.plain=plain/\TabOk t' (d.filterMap (es[·]?))/\(d.filterMap (es[·]?)).toList.Perm es.toList:=by
 obtain⟨c,e,L⟩:=a7i F (es.map (·.1)) (by simpa using G);refine⟨{mask,place:=((E5 mask c).map (·.1)).toArray,dummies:=#[],finger,led,moves,plain},((E5 mask c).map (·.2)).toArray,?_,rfl,rfl,rfl,?_⟩
 .unfold SetTable.laid;rw[e];rfl
 have B:∀p∈E5 mask c,p.2<es.size:=λp o=>by
  obtain⟨h,h1,_⟩:=L.val p.1 p.2 ((Q7 L.size p.1 p.2).mp o);have:=(aL.mp h1).1;simpa using this
 have w:=b3b mask c;have nd:((E5 mask c).map (·.2)).Nodup:=by
  rw[eZ,bL];refine w.imp_of_mem λ{a b} K N M z=>?_;have h1:=(Q7 L.size a.1 a.2).mp K;have h2:=(Q7 L.size b.1 b.2).mp N;rw[z]at h1;have:=L.uniq _ _ _ h1 h2;omega
 have g:∀q,q∈(E5 mask c).map (·.2)↔q∈List.range es.size:=λq=>by
  rw[aY];constructor
  .intro u;obtain⟨p,o,rfl⟩:=aN.mp u;exact B p o
  .intro u;obtain⟨j,s⟩:=L.ex q (by simpa using u);exact aN.mpr ⟨(j,q),(Q7 L.size j q).mpr s,rfl⟩
 have perm:((E5 mask c).map (·.2)).Perm (List.range es.size):=(List.perm_ext_iff_of_nodup nd fM).mpr g;have r:∀l:qA Nat,(l.toArray.filterMap (es[·]?)).toList=l.filterMap (es[·]?):=λl=>by simp
 have f:(((E5 mask c).map (·.2)).filterMap (es[·]?)).map some=((E5 mask c).map (·.2)).map (es[·]?):=a8w _ _ λq u=>by
  have:=aY.mp ((g q).mp u);simp[this]
 have v:(((E5 mask c).map (·.2)).toArray.filterMap (es[·]?)).size=(E5 mask c).length:=by
  have:=aU List.length f;rw[ai,ai,ai]at this;rw[<-ay,r];exact this
 have t:(E5 mask c).length=es.size:=by
  have:=perm.length_eq;rw[ai,eJ]at this;exact this
 refine⟨⟨?_,rfl,?_,λj s=>?_,⟨k,J,F⟩,by rw[v,t];exact G,λi j A x E=>?_⟩,?_⟩
 .rw[v];simp
 .rw[ris_list];show((E5 mask c).map (·.1)).Pairwise (· < ·);rw[bL];exact w
 .have s:j∈(E5 mask c).map (·.1):=by simpa using s
  obtain⟨p,o,rfl⟩:=aN.mp s;have:=(c_.mp ((Q7 L.size p.1 p.2).mp o)).1;rw[L.size]at this;show p.1<=mask;omega
 .have x:((E5 mask c).map (·.1))[i]?=some j:=by simpa using x
  rw[<-aB,r]at E;rw[aZ,fG]at x;obtain⟨p,o,rfl⟩:=x;have h1:=aU (λl=>l[i]?) f;simp only[aZ,E,o,Option.map_some]at h1;injection h1 with h1
  have C:=(Q7 L.size p.1 p.2).mp (aE o);obtain⟨h,y,n,H,I⟩:=L.val p.1 p.2 C;have O:h=A.1:=by
   rw[aB,Array.getElem?_map,<-h1]at y;injection y with y
   exact y.symm
  rw[O]at H I;refine⟨n,H,λm P=>?_⟩;obtain⟨Q,D⟩:=(a0g L.size (a1J mask _ m)).mp (I m P);have:pos mask A.1 m∈(E5 mask c).map (·.1):=aN.mpr ⟨_,(Q7 L.size _ Q).mpr D,rfl⟩;show pos mask A.1 m∈((E5 mask c).map (·.1)).toArray;simpa using this
 .rw[r];refine(perm.filterMap _).trans (List.Perm.of_eq ?_);exact b2n es
def a9g(n:Nat):∀(fuel a:Nat),3<=a->n<2 ^ (a+fuel)->∃b,3<=b/\SetTable.sizeAbove.go n fuel (2 ^ a)=2 ^ b/\n<2 ^ b/\(b=a∨2 ^ b<=2*n)
 |0,a,c,h=>⟨a,c,rfl,h,.inl rfl⟩
 |fuel+1,a,c,h=>by
  unfold SetTable.sizeAbove.go;by_cases d:2 ^ a<=n
  .rw[az d,<-di];obtain⟨b,e,f,g,i⟩:=a9g n fuel (a+1) (by omega) (by rw[ei,Nat.add_comm 1];exact h);refine⟨b,e,f,g,.inr ?_⟩;rcases i with z|z
   .rw[z,di];omega
   .exact z
  .rw[ar d];exact⟨a,c,rfl,by omega,.inl rfl⟩
def a1d(n:Nat)(h:n<2 ^ 60):∃b,3<=b/\SetTable.sizeAbove n=2 ^ b/\n<2 ^ b/\(b=3∨2 ^ b<=2*n) :=
 a9g n 64 3 (aq _) (aR h (by decide))
def b0j(t:SetTable)(es:Array (Int×α))(a:Nat)(hw:a<2 ^ 60)(m:es.size<a) :
  ∃t' c,t.relaid (es.map (·.1)) a=some (t',c)/\a<=t'.mask/\t'.mask<=2*a+7/\t'.led=t.led/\t'.plain=t.plain/\TabOk t' (c.filterMap (es[·]?))/\(c.filterMap (es[·]?)).toList.Perm es.toList:=by
 obtain⟨b,d,e,l,f⟩:=a1d a hw;have n:0<2 ^ b:=Nat.pow_pos (by decide);unfold SetTable.relaid;rw[e];obtain⟨t',c,h1,h2,g,h,i,j⟩:=b5v (mask:=2 ^ b-1) (k:=b) (by omega) d es (by omega) t.finger (t.movedTo (2 ^ b-1)) t.led t.plain;refine⟨t',c,h1,by rw[h2];omega,?_,g,h,i,j⟩;rw[h2];rcases f with z|z
 .rw[z];omega
 .omega
end Tab
end L2
namespace L2
variable {Q:Bool->qC->Prop}{a:qE}{r:qI}
namespace Tab
open PySem
section
variable {prog:qG}{w:World}{A:Around}{E:qH}{s:qC}
abbrev TK(prog:qG)(w:World)(h:Heap)(r:qI)(a:qE):Prop:=IsTupleKey (intKind prog w) h r a
def TK.keep{h h':Heap}(x:TK prog w h r a)(k:∀b o,h.get? b=some o->h'.get? b=some o):TK prog w h' r a:=by
 obtain⟨o,its,n,h1,h2⟩:=x;exact⟨o,its,n,k _ _ h1,h2⟩
def items_int{vs:qA qB}(h:ItemsAre (intKind prog w) r vs):∀v∈vs,∃i t,v=.int i t:=by
 induction h with
 |nil=>intro v b;cases b
 |@cons k v ks vs h1 _ c =>
  intro u a;rcases aF.mp a with e|a
  .obtain⟨t,ht⟩:=Value.isInt_shape h1;exact⟨k,t,e.trans ht⟩
  .exact c u a
def a6X(e:TK prog w s.heap r a)(h:Q false s):wpAny (model prog w) A (ofAClassStatement 8 (.ref a)) Q E s:=by
 have f:=e.typeIs;obtain⟨o,d,n,g,_,hd,hi⟩:=e;have c:=items_int hi;unfold ofAClassStatement;refine aa (dX f ?_);dsimp only;rw[az (by decide)];refine aa (ae ?_);rw[ar (by decide)];refine aa (cM g hd ?_);dsimp only;refine aa ?_;rw[<-Array.forIn_toList];refine wpAny_forIn_list _ (λrest b s'=>s'=s/\b.1=none/\∀v∈rest,∃i t,v=Value.int i t) _ ?_ ?_ _ _ ⟨rfl,rfl,c⟩
 .rintro x rest b s' ⟨rfl,hb,hr⟩;obtain⟨i,t,rfl⟩:=hr x aA;refine aa (m:=ofAClassStatement 7 (.int i t)) (ae ?_);rw[ar (by decide)];exact ae ⟨rfl,rfl,λv j=>hr v (ax _ j)⟩
 .rintro b s' ⟨rfl,hb,_⟩;rw[hb];exact ae h
def b3O(e:TK prog w s.heap r a)(h:Q true s):wpAny (model prog w) A (hashByValue 8 (.ref a)) Q E s:=by
 have f:=e.typeIs;obtain⟨o,c,n,g,_,hd,hi⟩:=e;have d:=items_int hi;unfold hashByValue;refine aa (wpAny_specialOf f F.slot_tuple_hash.lookup ?_);dsimp only;refine aa (cM g hd ?_);refine aa ?_;show wpAny _ _ (forIn c _ _) _ _ _;rw[<-Array.forIn_toList];refine wpAny_forIn_list _ (λrest b s'=>s'=s/\b.1=none/\∀v∈rest,∃i t,v=Value.int i t) _ ?_ ?_ _ _ ⟨rfl,rfl,d⟩
 .rintro x rest b s' ⟨rfl,hb,hr⟩;obtain⟨i,t,rfl⟩:=hr x aA;refine aa (m:=hashByValue 7 (.int i t)) (ae ?_);rw[ar (by decide)];exact ae ⟨rfl,rfl,λv j=>hr v (ax _ j)⟩
 .rintro b s' ⟨rfl,hb,_⟩;rw[hb];exact ae h
def b2X{b:qE}{l:qA qB}(f:TK prog w s.heap r b)(g:∀y∈l,∃a b',y=.ref b'/\TK prog w s.heap a b')(h:Q false s):wpAny (model prog w) A (searchCouldBeSeen (.ref b) l) Q E s:=by
 unfold searchCouldBeSeen;refine aa ?_;refine wpAny_forIn_list _ (λrest c s'=>s'=s/\c.1=none/\∀y∈rest,∃a b',y=.ref b'/\TK prog w s.heap a b') _ ?_ ?_ _ _ ⟨rfl,rfl,g⟩
 .rintro x rest c s' ⟨rfl,hc,hr⟩;obtain⟨a,b',rfl,d⟩:=hr x aA;have e:∀y∈rest,∃a b',y=.ref b'/\TK prog w s'.heap a b':=λv i=>hr v (ax _ i);dsimp only;split
  .exact ae ⟨rfl,rfl,e⟩
  .refine aa ((tupleKind (intKind prog w)).quiet f ?_);rw[ar (by decide)];refine aa ((tupleKind (intKind prog w)).quiet d ?_);rw[ar (by decide)];refine aa (a6X f ?_);rw[ar (by decide)];refine aa (a6X d ?_);rw[ar (by decide)];exact ae ⟨rfl,rfl,e⟩
 .rintro c s' ⟨rfl,hc,_⟩;dsimp only;rw[hc];exact ae h
def hsh(prog:qG)(w:World)(r:qI):Int:=tupleKeyHash (intKind prog w) r
def ent(prog:qG)(w:World)(x:qI×qE):Int×qB:=(hsh prog w x.1,Value.ref x.2)
def J2{α:Type}{t:SetTable}{es:Array (Int×α)}(ok:TabOk t es):t.fits es.size=true:=by
 unfold SetTable.fits SetTable.fill;have:=ok.room;simp[ok.size,ok.dum,this]
def b7J{α:Type}{t:SetTable}{es:Array (Int×α)}(ok:TabOk t es):t.gaveWay=false:=by
 obtain⟨k,b,a⟩:=ok.pow;obtain⟨c,rfl⟩:∃c,k=c+1:=⟨k-1,by omega⟩;rw[di]at a;unfold SetTable.gaveWay;have:t.mask % 2=1:=by omega
 rw[this];rfl
def b3c{c:Bool}{m:Sem Bool}{X Y:Sem SetFound}{Q:SetFound->qC->Prop}(b:∀a:Bool->qC->Prop,a false s->wpAny (model prog w) A m a E s)(h:wpAny (model prog w) A Y Q E s):wpAny (model prog w) A (if c=true then m>>=λz=>if z=true then X else Y else Y) Q E s:=by
 split
 .refine aa (b _ ?_);rw[ar (by decide)];exact h
 .exact h
def a4A{a b:qE}{r:qI}{o:Obj}{es:Array (Int×qB)}{ep:Nat}{t:SetTable}{xs:qA (qI×qE)}{Q:SetFound->qC->Prop}(S:s.heap.get? a=some o)(hd:o.data=.set es ep t)(ok:TabOk t es)
  (F:∀e∈es.toList,∃x∈xs,e=ent prog w x) (M:∀x∈xs,ent prog w x∈es.toList) (g:∀x∈xs,TK prog w s.heap x.1 x.2) (R:TK prog w s.heap r b) (X:A.units<cLine) {N:Nat}(hN:N<10*SetTable.turns t.mask) (j:pos t.mask (hsh prog w r) N∉t.place) (q:∀m,m<N->pos t.mask (hsh prog w r) m∈t.place)
  (J:r∈xs.map (·.1)->Q (.there none) s) (B:r∉xs.map (·.1)->Q (.free (pos t.mask (hsh prog w r) N) false) s) :
  ∀(fuel d:Nat) (st:qD SetTable.Probe),N-d<fuel->d<=N->st.getD (t.probeStart (hsh prog w r))=C8 t.mask (st0 t.mask (hsh prog w r)) d->(∀m,m<d->∀(i:Nat) (x:qI×qE),x∈xs->t.place[i]?=some (pos t.mask (hsh prog w r) m)->es[i]?=some (ent prog w x)->x.1≠r) ->
   wpAny (model prog w) A (setSearchFrom a (.ref b) (hsh prog w r) true fuel st) Q E s
 |0,d,st,h,_,_,_=>absurd h (by omega)
 |fuel+1,d,st,hf,a2,U,L=>by
  unfold setSearchFrom;refine aa (cB S hd (J2 ok) ?_);dsimp only;rw[b7J ok,ar (by decide),U];have f:∀m,(C8 t.mask (C8 t.mask (st0 t.mask (hsh prog w r)) d) m).j=pos t.mask (hsh prog w r) (d+m):=λm=>by rw[<-a1c];rfl
  have W:∀(i:Nat) (e:Int×qB),es[i]?=some e->(es[i]?.map (·.1)).getD 0=e.1:=λi e z=>by rw[z];rfl
  have O:∀n,d+n<N↔pos t.mask (hsh prog w r) (d+n)∈t.place/\∀m,m<n->pos t.mask (hsh prog w r) (d+m)∈t.place:=λn=>by
   constructor
   .intro h;exact⟨q _ h,λm K=>q _ (by omega)⟩
   .rintro⟨h1,h2⟩;rcases dm (d+n) N with z|z|z
    .exact z
    .rw[z]at h1;exact absurd h1 j
    .have:=h2 (N-d) (by omega);rw[show d+(N-d)=N by omega]at this;exact absurd this j
  rcases a6T ok.ris ok.dum (λi=>(es[i]?.map (·.1)).getD 0) (hsh prog w r) (10*SetTable.turns t.mask) (C8 t.mask (st0 t.mask (hsh prog w r)) d) (by rw[a1D];rfl) ⟨N-d,by omega,by rw[f,show d+(N-d)=N by omega];exact j⟩with⟨n,h1,h2,h3⟩|⟨n,h1,h2,h3,h4⟩
  .have h3:t.probe (λi=>(es[i]?.map (·.1)).getD 0) (hsh prog w r) (C8 t.mask (st0 t.mask (hsh prog w r)) d)=_:=h3;erw [h3];dsimp only;rw[f]at h1⊢;have e:d+n=N:=by
    rcases dm (d+n) N with z|z|z
    .exact absurd (q _ z) h1
    .exact z
    .have:=(h2 (N-d) (by omega)).1;rw[f,show d+(N-d)=N by omega]at this;exact absurd this j
   rw[e];refine ae (B λK=>?_);obtain⟨x,H,rfl⟩:=aN.mp K;obtain⟨i,hi⟩:=cA.mp (M x H);rw[aB]at hi;have u:i<t.place.size:=by rw[ok.size];exact(c_.mp hi).1
   obtain⟨p,Y,Z⟩:=ok.reach i _ _ (a1r u) hi;change pos t.mask (hsh prog w x.1) p=_ at Y;change ∀m,m<p->pos t.mask (hsh prog w x.1) m∈t.place at Z;have k:t.place[i]?=some (pos t.mask (hsh prog w x.1) p):=by rw[Y];exact a1r u
   have a1:p<N:=by
    rcases dm p N with z|z|z
    .exact z
    .rw[z]at k;exact absurd (Array.mem_of_getElem? k) j
    .exact absurd (Z N z) j
   by_cases c:p<d
   .exact L p c i x H k hi rfl
   .have C:=(h2 (p-d) (by omega)).2;rw[f,show d+(p-d)=p by omega,a1y ok.ris k,W i _ hi]at C;exact C rfl
  .have h4:t.probe (λi=>(es[i]?.map (·.1)).getD 0) (hsh prog w r) (C8 t.mask (st0 t.mask (hsh prog w r)) d)=_:=h4;erw [h4];dsimp only;rw[f]at h1 h2⊢;have a0:d+n<N:=(O n).mpr ⟨h1,λm K=>by have:=(h3 m K).1;rw[f]at this;exact this⟩;have k:=(a2a ok.ris _).mpr h1;generalize I:SetTable.below t.place (pos t.mask (hsh prog w r) (d+n))=ib at h2 k⊢;have u:ib<es.size:=by rw[<-ok.size];exact(c_.mp k).1
   obtain⟨x,H,ex⟩:=F es[ib] (by simp);have D:es[ib]?=some (ent prog w x):=by rw[bP u,ex]
   rw[D];dsimp only;refine b3c (λQ' hq=>b2X R (λy hy=>?_) hq) ?_
   .obtain⟨e,P,rfl⟩:=aN.mp hy;have P:e∈es:=by
     have:=eT.mp P;exact(Array.mem_filter.mp this).1
    obtain⟨G,v,ex'⟩:=F e (by simpa using P);exact⟨G.1,G.2,by rw[ex'];rfl,g G v⟩
   refine aa (cf ((tupleKind (intKind prog w)).eqBool X (g x H) R ?_));refine aa (cB S hd (J2 ok) ?_);dsimp only;by_cases l:x.1=r
   .rw[az (by rw[bz l];rfl)];exact ae (J (aN.mpr ⟨x,H,l⟩))
   .rw[ar (by rw[bG l];decide)];have sm:t.sameMemory t.moves t.mask=some true:=by unfold SetTable.sameMemory;simp
    rw[sm];dsimp only;rw[az rfl,a9f ok.ris ok.dum,az h1];dsimp only;rw[I,D];dsimp only;refine aa (wpAny_isSame_ref_self ?_);rw[az rfl];refine aa (ae ?_);dsimp only;rw[ar (by rw[bG l];decide)];refine a4A S hd ok F M g R X hN j q J B fuel (d+n+1) _ (by omega) (by omega) (by rw[<-a1c];rfl) λm K i G v T hi=>?_;by_cases c:m<d
    .exact L m c i G v T hi
    .by_cases c2:m=d+n
     .subst c2;have:ib=i:=by rw[<-I];exact a1y ok.ris T
      subst this;rw[D]at hi;injection hi with hi
      have C:x.2=G.2:=by
       have:=aU Prod.snd hi;injection this
      intro z;have V:=g x H;rw[C]at V;exact l ((V.inj (g G v)).trans z)
     .have C:=(h3 (m-d) (by omega)).2;rw[f,show d+(m-d)=m by omega,a1y ok.ris T,W i _ hi]at C;intro z;exact C (by rw[<-z];rfl)
def a0l(prog:qG)(w:World)(ld:Bool)(h:Heap)(a:qE)(xs:qA (qI×qE)):Prop :=
 ∃o es ep t,h.get? a=some o/\o.ExactSet/\o.data=.set es ep t/\es.toList.Perm (xs.map (ent prog w))/\TabOk t es/\t.plain=true/\es.size*5<t.mask*3/\t.mask<=8*xs.length+7/\t.led=ld
def b8y{ld:Bool}{b:qE}{xs:qA (qI×qE)}(hS:a0l prog w ld s.heap a xs)(L:∀x∈xs,TK prog w s.heap x.1 x.2)(Z:TK prog w s.heap r b)(hu:A.units<cLine)(hl:xs.length<1000)
  (h:∀h' H c,Heap.SameBut a s.heap h'->a0l prog w ld h' a H->((r∈xs.map (·.1)/\H=xs)∨(r∉xs.map (·.1)/\H=(r,b)::xs))->Q c {s with heap:=h',toks:=s.toks+(r.length+1)}):wpAny (model prog w) A (setAdd a (.ref b)) Q E s:=by
 obtain⟨o,es,ep,t,I,C,hd,q,ok,F,a1,a0,O⟩:=hS;have a2:es.size=xs.length:=by rw[<-ay,q.length_eq,ai]
 unfold setAdd;refine cf (aa (wpAny_pyHash_tuple hu Z ?_));unfold setAddHashed;refine cf ?_;unfold setAddHashedIn;refine aa (cB (s:={s with toks:=s.toks+(r.length+1)}) I hd (J2 ok) ?_);dsimp only;rw[show byScan (.ref b) es=false from rfl,ar (by decide)];unfold setSearch;obtain⟨N,hN,J,K⟩:=ok.first (hsh prog w r);have a6:N<100000:=by unfold SetTable.turns at hN;omega
 refine aa (a4A (s:={s with toks:=s.toks+(r.length+1)}) (xs:=xs) I hd ok (λe he=>?_) (λx hx=>q.mem_iff.mpr (aN.mpr ⟨x,hx,rfl⟩)) L Z hu hN J K (λY=>?_) (λB=>?_) 100000 0 none (by omega) (bu _) rfl (λm hm=>absurd hm (by omega)))
 .obtain⟨x,hx,rfl⟩:=aN.mp (q.mem_iff.mp he);exact⟨x,hx,rfl⟩
 .refine ae ?_;exact h s.heap xs false (Heap.SameBut.refl a s.heap) ⟨o,es,ep,t,I,C,hd,q,ok,F,a1,a0,O⟩ (.inl ⟨Y,rfl⟩)
 .dsimp only;refine aa (cB (s:={s with toks:=s.toks+(r.length+1)}) I hd (J2 ok) ?_);dsimp only;rw[az (show(t.put (pos t.mask (hsh prog w r) N)).1.plain=true from F)];refine aa (b3O (s:={s with toks:=s.toks+(r.length+1)}) Z ?_);simp only[↓reduceIte,Bool.not_false,Bool.true_and];have k:=ok.add (v:=Value.ref b) J K (a1J _ _ _) (by omega);have P:(t.put (pos t.mask (hsh prog w r) N)).1.mask=t.mask:=rfl;have p:(t.put (pos t.mask (hsh prog w r) N)).1.plain=true:=F;have n:(t.put (pos t.mask (hsh prog w r) N)).1.led=ld:=O;have V:(t.put (pos t.mask (hsh prog w r) N)).2<=es.size:=by
   have:=(J6 ok.ris (pos t.mask (hsh prog w r) N)).1;rw[ok.size]at this;exact this
  have M:=a0f es (t.put (pos t.mask (hsh prog w r) N)).2 (hsh prog w r,Value.ref b) V;change wpAny _ _ (storeSet a (SetTable.insertAt es (t.put (pos t.mask (hsh prog w r) N)).2 (hsh prog w r,Value.ref b)) _>>=_) _ _ _;generalize (t.put (pos t.mask (hsh prog w r) N)).1=l at k P p n⊢;generalize SetTable.insertAt es (t.put (pos t.mask (hsh prog w r) N)).2 (hsh prog w r,Value.ref b)=d at k M⊢;have u:d.toList.Perm (((r,b)::xs).map (ent prog w)):=by
   rw[M];refine List.perm_middle.trans ?_;rw[bt,aV];exact List.Perm.cons _ q
  have R:d.size=xs.length+1:=by rw[<-ay,u.length_eq,ai,aX]
  have S:d.size<=sizeLine:=by rw[aT];omega
  refine aa (wpAny_storeSet_of (s:={s with toks:=s.toks+(r.length+1)}) I hd ?_ S);have y:(s.heap.update a (Obj.putSet d l)).get? a=some {o with data:=.set d (ep+1) l}:=by
   have:=cP (Obj.putSet d l) I (by rw[putSet_of d l hd];rfl);rw[putSet_of d l hd]at this;exact this
  have U:=cH s.heap a (Obj.putSet d l);have hf1:l.fill=d.size:=by unfold SetTable.fill;rw[k.size,k.dum];rfl
  by_cases f:l.tooFull=true
  .rw[az f];unfold SetTable.tooFull at f;rw[hf1,br]at f;refine aa ?_;unfold setRelay;refine aa (cB (s:={s with heap:=s.heap.update a (Obj.putSet d l),toks:=s.toks+(r.length+1)}) y rfl (J2 k) ?_);dsimp only;have X:SetTable.grown (es.size+1)=4*(xs.length+1):=by
    unfold SetTable.grown;rw[ar (by omega),a2];omega
   rw[X];obtain⟨sb,a5,a3,a8,a4⟩:=a1d (4*(xs.length+1)) (by omega);have a7:SetTable.sizeAbove (4*(xs.length+1))<=16000:=by
    rw[a3];rcases a4 with z|z
    .rw[z];decide
    .omega
   rw[ar (by rw[aT];omega)];obtain⟨G,g,r1,r2,r3,r4,r5,T,D⟩:=b0j l d (4*(xs.length+1)) (by omega) (by omega);rw[r1];have i:(g.filterMap (d[·]?)).size=d.size:=by rw[<-ay,D.length_eq,ay]
   refine aa ?_;show wpAny _ _ (if ((g.filterMap (d[·]?)).size != d.size)=true then _ else pure (g.filterMap (d[·]?),G)) _ _ _;rw[ar (by rw[i];simp)];refine ae ?_;dsimp only;generalize g.filterMap (d[·]?)=j at T D i⊢;refine wpAny_storeSet_of (s:={s with heap:=s.heap.update a (Obj.putSet d l),toks:=s.toks+(r.length+1)}) y rfl ?_ (by rw[i];exact S);have W:((s.heap.update a (Obj.putSet d l)).update a (Obj.putSet j G)).get? a=some {o with data:=.set j (ep+1+1) G}:=by
    have:=cP (Obj.putSet j G) y (by rw[putSet_of j G rfl];rfl);rw[putSet_of j G rfl]at this;exact this
   refine ae (h _ ((r,b)::xs) true (U.trans (cH _ a _)) ⟨_,j,_,G,W,C,rfl,D.trans u,T,by rw[r5];exact p,?_,?_,by rw[r4];exact n⟩ (.inr ⟨B,rfl⟩))
   .rw[i,R];omega
   .rw[aX];omega
  .rw[ar f];unfold SetTable.tooFull at f;rw[hf1,br]at f;refine ae (h _ ((r,b)::xs) true U ⟨_,d,_,l,y,C,rfl,u,k,p,by omega,?_,n⟩ (.inr ⟨B,rfl⟩));rw[aX,P];omega
end
end Tab
end L2
namespace L2
namespace Tab
open PySem
structure Came(rows:Nat->qI×qE)(i:Nat)(xs:qA (qI×qE)):Prop where
 len:xs.length<=i
 nd:(xs.map (·.1)).Nodup
 from_:∀x∈xs,∃j,j<i/\x=rows j
 all:∀j,j<i->(rows j).1∈xs.map (·.1)
section
variable {prog:qG}{w:World}{A:Around}{R:Result->qC->Prop}{I:qE}{fp wr:qA qE}{G:Array GenState->Array GenState->Prop}{n:Nat}{P:Nat->qB->Prop}{St:Nat->qC->Prop}
def a6t(W:WalksS prog w A.in1 I fp wr G n P St)(S:qE)(C:S∉fp){ld:Bool}{h0:Heap}(K:∀b o,h0.get? b=some o->b∉wr/\b≠S)(a:Nat->qI×qE)
  (J:∀i v,i<n->P i v->v=.ref (a i).2) (l:∀i,i<n->TK prog w h0 (a i).1 (a i).2) (hn:n<=1000) (hu:A.units+10<cLine) :
  ∀(k i:Nat) (s:qC) (xs:qA (qI×qE)),n-i=k->i<=n->St i s->(∀b o,h0.get? b=some o->s.heap.get? b=some o)->a0l prog w ld s.heap S xs->Came a i xs ->
   (∀s' f,Moved (S::wr) G s s'->a0l prog w ld s'.heap S f->Came a n f->R (.ok (.ret .none)) s') ->
   codeAny (model prog w) A (.builtin "set.update.loop" ⟨[.ref S,.ref I],[]⟩) R s:=by
 have D:S∉wr:=λh=>C (W.sub _ h);have m:∀b∈wr,b∈S::wr:=λb E=>ax _ E;intro k;induction k with
 |zero =>
  intro i s xs hk hi q u Q d hR;have V:i=n:=by omega
  subst V;refine dI PyProof.Rows.F.entry_set_update_loop ?_;rw[dQ dE _];show wpAny _ A.in1 (pyNext (.ref I)>>=_) _ _ s;refine aa (W.done s _ _ q λs' r=>?_);show wpAny _ A.in1 (ret Value.none) _ _ s';refine ae (hR s' xs (r.mono m) ?_ d);obtain⟨o,es,ep,t,X,rest⟩:=Q;exact⟨o,es,ep,t,r.heap S _ D X,rest⟩
 |succ k ih =>
  intro i s xs hk hi q u Q d hR;have g:i<n:=by omega
  refine dI PyProof.Rows.F.entry_set_update_loop ?_;rw[dQ dE _];show wpAny _ A.in1 (pyNext (.ref I)>>=_) _ _ s;refine aa (W.item i s _ _ g q λv s' hP H r=>?_);obtain rfl:=J i v g hP;have T:a0l prog w ld s'.heap S xs:=by
   obtain⟨o,es,ep,tb,X,rest⟩:=Q;exact⟨o,es,ep,tb,r.heap S _ D X,rest⟩
  have p:∀b o,h0.get? b=some o->s'.heap.get? b=some o:=λb o e=>r.heap b o (K b o e).1 (u b o e);show wpAny _ A.in1 (holding [Value.ref (a i).2] (setAdd S (.ref (a i).2))>>=_) _ _ s';refine aa (cf (b8y T (λx L=>?_) ((l i g).keep p) (show A.units+1<cLine by omega) (by have:=d.len;omega) λh' f c hsb U Y=>?_))
  .obtain⟨j,N,rfl⟩:=d.from_ x L;exact(l j (by omega)).keep p
  have O:Came a (i+1) f:=by
   rcases Y with⟨h1,rfl⟩|⟨h1,rfl⟩
   .refine⟨by have:=d.len;omega,d.nd,λx L=>?_,λj N=>?_⟩
    .obtain⟨j,N,e⟩:=d.from_ x L;exact⟨j,by omega,e⟩
    .by_cases c:j=i
     .rw[c];exact h1
     .exact d.all j (by omega)
   .refine⟨by have:=d.len;rw[aX];omega,by rw[aV,cv];exact⟨h1,d.nd⟩,λx L=>?_,λj N=>?_⟩
    .rcases aF.mp L with z|z
     .exact⟨i,by omega,z⟩
     .obtain⟨j,N,e⟩:=d.from_ x z;exact⟨j,by omega,e⟩
    .rw[aV];by_cases c:j=i
     .rw[c];exact aA
     .exact ax _ (d.all j (by omega))
  refine ae ⟨plainId_quiet dE _,ih (i+1) _ f (by omega) g (W.frame _ s' _ _ H (cp _ _) λb E o e=>?_) (λb o e=>?_) U O λZ M F B y=>?_⟩
  .rw[hsb.2 b (λh:b=S=>C (by rw[<-h];exact E))];exact e
  .show h'.get? b=some o;rw[hsb.2 b (K b o e).2];exact p b o e
  .refine hR Z M (Moved.trans W.gtrans ((r.mono m).then_heap (cp _ _) λb o E e=>?_) F) B y;rw[hsb.2 b (λh:b=S=>E (by rw[h];exact aA))];exact e
end
section
variable {prog:qG}{w:World}{A:Around}{E:qH}{s:qC}
def a0Q(a:qB){Q₁:qH}
  (h:Q₁ (.ref s.heap.objs.size) {s with heap:=s.heap.push {cls:=.type "set",dict:=none,data:=.set #[] 0 (.fresh 0 0 (!w.params.followText "set-order"))}}) :
  codeAny (model prog w) A (.call (.builtin "set.__new__") ⟨[.type "set",a],[]⟩) (wants Q₁ E) s:=by
 refine codeAny_of_tree ?_;show wpAny _ A.in1 (do checkBuiltinCall "set.__new__" ⟨[.type "set",a],[]⟩;again (.builtin "set.__new__" ⟨[.type "set",a],[]⟩)) _ _ s;refine aa (wpAny_of_eq (PySem.F.newCall_set_1 a) (ae ⟨plainId_quiet PySem.F.plain_set_new _,dI PySem.F.entry_set_new ?_⟩));rw[dQ PySem.F.plain_set_new _];unfold Builtin.«set.__new__» Builtin.Frozenset.newClass;have b:=sub_set_self;obtain⟨c,g,d,tk,os⟩:=s;dsimp only
 wp_walk
 refine eY (ae ?_);dsimp only;simp only[newObj];refine aa (wpAny_alloc (ae ?_));exact ae h
def a4z{c:Bool}{h:Heap}{a:qE}(e:h.get? a=some {cls:=.type "set",dict:=none,data:=.set #[] 0 (.fresh 0 0 c)}):a0l prog w c h a [] :=
 ⟨_,#[],0,_,e,⟨rfl,rfl,rfl⟩,rfl,List.Perm.nil,⟨rfl,rfl,λa b h1 h2=>absurd h2 (by simp[SetTable.fresh]),λj d=>by simp[SetTable.fresh]at d,⟨3,aq _,rfl⟩,bu _,λi j e h1 h2=>by simp at h2⟩,rfl,by show 0*5<7*3;decide,by show 7<=8*0+7;decide,rfl⟩
def a5m:isSubtype (.type "list") (.type "set")=pure false:=by rw[dW];kernel_rfl
def a0S:isSubtype (.type "list") (.type "frozenset")=pure false:=by rw[dW];kernel_rfl
def a4r{l:qE}{items:Array qB}{d:Nat->qI×qE}{Q:qH}
  (hh:A.handled=none) (hl:s.heap.IsList l items) (z:∀i v,i<items.size->items[i]?=some v->v=.ref (d i).2) (y:∀i,i<items.size->TK prog w s.heap (d i).1 (d i).2) (hn:items.size<=1000) (hu:A.units+20<cLine)
  (h:∀(h':Heap) (tk:Nat) (xs:qA (qI×qE)),a0l prog w (!w.params.followText "set-order") h' s.heap.objs.size xs->Came d items.size xs ->
   (∀b o,b<s.heap.objs.size->s.heap.get? b=some o->h'.get? b=some o)->Q (.ref s.heap.objs.size) {s with heap:=h',toks:=tk}) :
  wpAny (model prog w) A (call (.type "set") [.ref l]) Q E s:=by
 obtain⟨c,tl,T⟩:=PySem.F.called_set.mro;have J:=PySem.F.called_set.made;have W:=PySem.F.called_set.sub;refine wpAny_call (codeAny_of_tree ?_);show wpAny _ _ (callAny (.type "set") _) _ _ _;refine ae ⟨Code.quiet_builtin _ (by decide +kernel),dI PySem.F.entry_type_call ?_⟩;rw[Around.under_plain (weight_type_call_type "set" [.ref l] []) rfl];have h1:=PySem.F.called_set.notType;have h2:=PySem.F.called_set.canCreate;have a1:=PySem.F.typeCall_set_1 (.ref l)
 repeat (any_goals (first|assumption|wp_step))
 refine dy (a0Q (.ref l) (E:=E) (Q₁:=λobj s₁=>obj=.ref s.heap.objs.size/\s₁={s with heap:=s.heap.push {cls:=.type "set",dict:=none,data:=.set #[] 0 (.fresh 0 0 (!w.params.followText "set-order"))}}) ⟨rfl,rfl⟩) λr s₁ K=>?_;cases r with
 |error e=>exact K
 |ok fl =>
  cases fl with
  |ret obj =>
   obtain⟨rfl,rfl⟩:=K;generalize a2:(!w.params.followText "set-order")=a at h;have P:(s.heap.push {cls:=.type "set",dict:=none,data:=.set #[] 0 (.fresh 0 0 a)}).get? s.heap.objs.size=some {cls:=.type "set",dict:=none,data:=.set #[] 0 (.fresh 0 0 a)}:=aG _ rfl;have hT:Shared.TypeIs {s with heap:=s.heap.push {cls:=.type "set",dict:=none,data:=.set #[] 0 (.fresh 0 0 a)}} (.ref s.heap.objs.size) "set":=⟨_,P,rfl⟩;have a3:=PySem.F.called_set.init.lookup;have a0:=PySem.F.called_set.init.bind (.ref s.heap.objs.size)
   repeat (any_goals (first|assumption|wp_step))
   refine dy (codeAny_call_builtin (R:=wants (λr s₂=>r=.none/\∃h' tk xs,s₂={s with heap:=h',toks:=tk}/\a0l prog w a h' s.heap.objs.size xs/\Came d items.size xs /\
     (∀b o,b<s.heap.objs.size->s.heap.get? b=some o->h'.get? b=some o)) E) PySem.F.called_set.init.plain PySem.F.entry_set_init (check_set_init_1 hT ?_)) λr₂ s₂ hr₂=>?_
   .obtain⟨ol,hol,hcl,nl,hdl⟩:=hl;obtain⟨X,m,L,f⟩:=ol;simp only at hcl hdl;subst hcl;subst hdl;have u:(s.heap.push {cls:=.type "set",dict:=none,data:=.set #[] 0 (.fresh 0 0 a)}).get? l=some {cls:=.type "list",dict:=m,data:=.seq items nl,slots:=f}:=aj _ hol;have V:=a5m;have U:=a0S;have a4:(Value.type "list"==Value.type "dict")=false:=by decide
    have p:(s.heap.push {cls:=.type "set",dict:=none,data:=.set #[] 0 (.fresh 0 0 a)}).IsList l items:=⟨_,u,rfl,nl,rfl⟩;unfold Builtin.«set.__init__» noKeywords Builtin.Frozenset.updateFrom;generalize C:pyIter=PI
    wp_walk
    subst C;refine fv p ?_;refine aa (wpAny_runValue ?_);have q:l<s.heap.objs.size:=aJ hol;have H:A.in1.in1.in1.handled=none:=by simp[hh]
    have t:l≠(s.heap.push {cls:=.type "set",dict:=none,data:=.set #[] 0 (.fresh 0 0 a)}).objs.size:=by
     rw[bB];exact aW (cg q)
    have D:s.heap.objs.size∉[(s.heap.push {cls:=.type "set",dict:=none,data:=.set #[] 0 (.fresh 0 0 a)}).objs.size,l]:=by
     rw[bB];simp only[aF,au,bS,de,not_or];exact⟨aW (cn _),dw q⟩
    have n:((s.heap.push {cls:=.type "set",dict:=none,data:=.set #[] 0 (.fresh 0 0 a)}).push {cls:=.type "list_iterator",data:=.fields #[.ref l,.int 0 0]}).get? s.heap.objs.size
       = some {cls:=.type "set",dict:=none,data:=.set #[] 0 (.fresh 0 0 a)}:=aj _ P
    refine a6t (ld:=a) (h0:=s.heap) ((Walks.list H _ l t items).toS) s.heap.objs.size D (λb o e=>?_) d z y hn (show A.units+2+10<cLine by omega) (items.size-0) 0 _ [] (by omega) (bu _)
     ⟨⟨_,aG _ rfl,rfl,rfl⟩,(p.push _)⟩ (λb o e=>aj _ (aj _ e)) (a4z n) ⟨aq _,fm,(λx hx=>nomatch hx),λj hj=>absurd hj (Nat.not_lt_zero j)⟩ ?hR
    .have:=aJ e;rw[bB];simp only[aF,bS,de];exact⟨aW (cg this),aW this⟩
    case hR =>
     intro s' O B k g;obtain⟨h',g',Y,N,M⟩:=s';have eg:g'=s.gens:=B.gens;have Z:Y=s.drawn:=B.drawn;have eo:M=s.os:=B.os;subst eg;subst Z;subst eo;show wpAny _ _ _ _ _ _;refine ae ?_;show wpAny _ _ (ret Value.none) _ _ _;refine ae ⟨rfl,h',N,O,rfl,k,g,λb o S e=>?_⟩;have F:b≠s.heap.objs.size:=aW S;have G:b≠(s.heap.push {cls:=.type "set",dict:=none,data:=.set #[] 0 (.fresh 0 0 a)}).objs.size:=by
      rw[bB];exact aW (cg S)
     exact B.heap b o (by simp only[aF,au,bS,de,not_or];exact⟨F,G⟩) (aj _ (aj _ e))
   .cases r₂ with
    |error e=>exact hr₂
    |ok fl₂ =>
     cases fl₂ with
     |ret r =>
      obtain⟨rfl,h',tk,xs,rfl,k,g,I⟩:=hr₂
      repeat (any_goals (first|assumption|wp_step))
      exact h _ _ _ k g I
     |_=>exact hr₂.elim
  |_=>exact K.elim
def a4h:isSubtype (.type "tuple") (.type "set")=pure false:=by rw[dW];kernel_rfl
def a0G:isSubtype (.type "tuple") (.type "frozenset")=pure false:=by rw[dW];kernel_rfl
def a4b{l:qE}{items:Array qB}{d:Nat->qI×qE}{Q:qH}
  (hh:A.handled=none) (hl:s.heap.IsTuple l items) (z:∀i v,i<items.size->items[i]?=some v->v=.ref (d i).2) (y:∀i,i<items.size->TK prog w s.heap (d i).1 (d i).2) (hn:items.size<=1000) (hu:A.units+20<cLine)
  (h:∀(h':Heap) (tk:Nat) (xs:qA (qI×qE)),a0l prog w (!w.params.followText "set-order") h' s.heap.objs.size xs->Came d items.size xs ->
   (∀b o,b<s.heap.objs.size->s.heap.get? b=some o->h'.get? b=some o)->Q (.ref s.heap.objs.size) {s with heap:=h',toks:=tk}) :
  wpAny (model prog w) A (call (.type "set") [.ref l]) Q E s:=by
 obtain⟨c,tl,T⟩:=PySem.F.called_set.mro;have J:=PySem.F.called_set.made;have W:=PySem.F.called_set.sub;refine wpAny_call (codeAny_of_tree ?_);show wpAny _ _ (callAny (.type "set") _) _ _ _;refine ae ⟨Code.quiet_builtin _ (by decide +kernel),dI PySem.F.entry_type_call ?_⟩;rw[Around.under_plain (weight_type_call_type "set" [.ref l] []) rfl];have h1:=PySem.F.called_set.notType;have h2:=PySem.F.called_set.canCreate;have a1:=PySem.F.typeCall_set_1 (.ref l)
 repeat (any_goals (first|assumption|wp_step))
 refine dy (a0Q (.ref l) (E:=E) (Q₁:=λobj s₁=>obj=.ref s.heap.objs.size/\s₁={s with heap:=s.heap.push {cls:=.type "set",dict:=none,data:=.set #[] 0 (.fresh 0 0 (!w.params.followText "set-order"))}}) ⟨rfl,rfl⟩) λr s₁ K=>?_;cases r with
 |error e=>exact K
 |ok fl =>
  cases fl with
  |ret obj =>
   obtain⟨rfl,rfl⟩:=K;generalize a2:(!w.params.followText "set-order")=a at h;have P:(s.heap.push {cls:=.type "set",dict:=none,data:=.set #[] 0 (.fresh 0 0 a)}).get? s.heap.objs.size=some {cls:=.type "set",dict:=none,data:=.set #[] 0 (.fresh 0 0 a)}:=aG _ rfl;have hT:Shared.TypeIs {s with heap:=s.heap.push {cls:=.type "set",dict:=none,data:=.set #[] 0 (.fresh 0 0 a)}} (.ref s.heap.objs.size) "set":=⟨_,P,rfl⟩;have a3:=PySem.F.called_set.init.lookup;have a0:=PySem.F.called_set.init.bind (.ref s.heap.objs.size)
   repeat (any_goals (first|assumption|wp_step))
   refine dy (codeAny_call_builtin (R:=wants (λr s₂=>r=.none/\∃h' tk xs,s₂={s with heap:=h',toks:=tk}/\a0l prog w a h' s.heap.objs.size xs/\Came d items.size xs /\
     (∀b o,b<s.heap.objs.size->s.heap.get? b=some o->h'.get? b=some o)) E) PySem.F.called_set.init.plain PySem.F.entry_set_init (check_set_init_1 hT ?_)) λr₂ s₂ hr₂=>?_
   .obtain⟨ol,hol,hcl,nl,hdl⟩:=hl;obtain⟨X,m,L,f⟩:=ol;simp only at hcl hdl;subst hcl;subst hdl;have u:(s.heap.push {cls:=.type "set",dict:=none,data:=.set #[] 0 (.fresh 0 0 a)}).get? l=some {cls:=.type "tuple",dict:=m,data:=.seq items nl,slots:=f}:=aj _ hol;have V:=a4h;have U:=a0G;have a4:(Value.type "tuple"==Value.type "dict")=false:=by decide
    have p:(s.heap.push {cls:=.type "set",dict:=none,data:=.set #[] 0 (.fresh 0 0 a)}).IsTuple l items:=⟨_,u,rfl,nl,rfl⟩;unfold Builtin.«set.__init__» noKeywords Builtin.Frozenset.updateFrom;generalize C:pyIter=PI
    wp_walk
    subst C;refine wpAny_pyIter_tuple p ?_;refine aa (wpAny_runValue ?_);have q:l<s.heap.objs.size:=aJ hol;have H:A.in1.in1.in1.handled=none:=by simp[hh]
    have t:l≠(s.heap.push {cls:=.type "set",dict:=none,data:=.set #[] 0 (.fresh 0 0 a)}).objs.size:=by
     rw[bB];exact aW (cg q)
    have D:s.heap.objs.size∉[(s.heap.push {cls:=.type "set",dict:=none,data:=.set #[] 0 (.fresh 0 0 a)}).objs.size,l]:=by
     rw[bB];simp only[aF,au,bS,de,not_or];exact⟨aW (cn _),dw q⟩
    have n:((s.heap.push {cls:=.type "set",dict:=none,data:=.set #[] 0 (.fresh 0 0 a)}).push {cls:=.type "tuple_iterator",data:=.fields #[.ref l,.int 0 0]}).get? s.heap.objs.size
       = some {cls:=.type "set",dict:=none,data:=.set #[] 0 (.fresh 0 0 a)}:=aj _ P
    refine a6t (ld:=a) (h0:=s.heap) ((Walks.tuple H _ l t items).toS) s.heap.objs.size D (λb o e=>?_) d z y hn (show A.units+2+10<cLine by omega) (items.size-0) 0 _ [] (by omega) (bu _)
     ⟨⟨_,aG _ rfl,rfl,rfl⟩,(p.push _)⟩ (λb o e=>aj _ (aj _ e)) (a4z n) ⟨aq _,fm,(λx hx=>nomatch hx),λj hj=>absurd hj (Nat.not_lt_zero j)⟩ ?hR
    .have:=aJ e;rw[bB];simp only[aF,bS,de];exact⟨aW (cg this),aW this⟩
    case hR =>
     intro s' O B k g;obtain⟨h',g',Y,N,M⟩:=s';have eg:g'=s.gens:=B.gens;have Z:Y=s.drawn:=B.drawn;have eo:M=s.os:=B.os;subst eg;subst Z;subst eo;show wpAny _ _ _ _ _ _;refine ae ?_;show wpAny _ _ (ret Value.none) _ _ _;refine ae ⟨rfl,h',N,O,rfl,k,g,λb o S e=>?_⟩;have F:b≠s.heap.objs.size:=aW S;have G:b≠(s.heap.push {cls:=.type "set",dict:=none,data:=.set #[] 0 (.fresh 0 0 a)}).objs.size:=by
      rw[bB];exact aW (cg S)
     exact B.heap b o (by simp only[aF,au,bS,de,not_or];exact⟨F,G⟩) (aj _ (aj _ e))
   .cases r₂ with
    |error e=>exact hr₂
    |ok fl₂ =>
     cases fl₂ with
     |ret r =>
      obtain⟨rfl,h',tk,xs,rfl,k,g,I⟩:=hr₂
      repeat (any_goals (first|assumption|wp_step))
      exact h _ _ _ k g I
     |_=>exact hr₂.elim
  |_=>exact K.elim
end
end Tab
end L2
namespace L2
variable {i:Nat}{it:qE}{t:SetTable}
namespace Tab
open PySem PySem.W
def a3W{α:Type}:∀(l:qA α) (i:Nat) (h:i<l.length),([l[i]]++l.eraseIdx i).Perm l
 |x::l,0,_=>by simp
 |x::l,i+1,h=>by
  have a:=a3W l i (by simpa using h);simp only[List.getElem_cons_succ,List.eraseIdx_cons_succ,List.singleton_append];exact(List.Perm.swap x (l[i]'(by simpa using h)) _).trans (List.Perm.cons x a)
def a9p{α:Type}(next:Nat->Nat):∀(fuel k:Nat) (left:qA α) (out:Array α),left.length=fuel->(pickOrder.go next fuel k left out).toList.Perm (out.toList++left)
 |0,k,left,out,h=>by
  rw[fu.mp h,cY];exact List.Perm.refl _
 |fuel+1,k,left,out,h=>by
  unfold pickOrder.go;have hi:next k % left.length<left.length:=fq _ (by omega)
  rw[ak hi];dsimp only;refine(a9p next fuel (k+1) _ _ (by rw[List.length_eraseIdx_of_lt hi];omega)).trans ?_;rw[cX,aK];exact cz _ (a3W left _ hi)
def b0q{α:Type}(next:Nat->Nat)(xs:Array α):(pickOrder next xs).toList.Perm xs.toList:=by
 have:=a9p next xs.size 0 xs.toList #[] (by simp)
 rw[show(#[]:Array α).toList=[] from rfl,cO]at this;exact this
def slot_seti_next:Slot "set_iterator" "__next__" "set_iterator.__next__" :=
 .of (owner:="set_iterator") (n:="__next__") (by rw[typeLookup_type,fN];kernel_rfl) (by decide +kernel) (by decide +kernel) (by decide +kernel)
  (by first|exact .inl (by decide +kernel)|exact .inr (by decide +kernel)) (by rw[dW];kernel_rfl)
def Y7:entryFor table "set_iterator.__next__"=some Builtin.«set_iterator.__next__»:=entryFor_of_tree (by kernel_rfl)
def a0k(a:qB):argsOk "set_iterator.__next__" ⟨[a],[]⟩:=by
 unfold argsOk;kernel_rfl
def Z7:Slot "set_iterator" "__iter__" "set_iterator.__iter__" :=
 .of (owner:="set_iterator") (n:="__iter__") (by rw[typeLookup_type,fN];kernel_rfl) (by decide +kernel) (by decide +kernel) (by decide +kernel)
  (by first|exact .inl (by decide +kernel)|exact .inr (by decide +kernel)) (by rw[dW];kernel_rfl)
def a3X:entryFor table "set.__iter__"=some Builtin.«frozenset.__iter__» :=
 entryFor_alias (id':="frozenset.__iter__") (by kernel_rfl) rfl (by decide +kernel) (by kernel_rfl)
structure SRaw(h:Heap)(a:qE)(es:Array (Int×qB))(ep:Nat)(t:SetTable):Prop where
 ex:∃o,h.get? a=some o/\o.ExactSet/\o.data=.set es ep t
 ok:TabOk t es
 plain:t.plain=true
section
variable {prog:qG}{w:World}{A:Around}{E:qH}{s:qC}{a:qE}{es:Array (Int×qB)}{ep:Nat}
def SRaw.typ(x:SRaw s.heap a es ep t):s.TypeIs (.ref a) "set":=let ⟨o,h1,h2,_⟩:=x.ex;⟨o,h1,h2.1⟩
def b3s{Q:Bool->qC->Prop}(e:s.TypeIs (.ref a) "set")(h:Q false s):wpAny (model prog w) A (Builtin.List.listLengthHint (.ref a)) Q E s:=by
 unfold Builtin.List.listLengthHint;refine aa (wpAny_specialOf e PySem.F.slot_set_len.lookup ?_);generalize d:("set.__len__" : String)=f
 wp_delta
 rw[show splitId f=some ("set","__len__")from by subst d;decide +kernel];subst d;refine aa (fJ (T:="set") (b:=true) e (by rw[dW];kernel_rfl) ?_);refine wpAny_ite_split (λc=>absurd c (by decide)) (λ_=>?_);refine wpAny_ite_split (λ_=>?_) (λc=>absurd (by decide +kernel) c);refine aa (dX e ?_);exact ae h
def Z9(w:World)(a:qE)(ep:Nat)(es:Array (Int×qB)):Array (Int×qB):=if w.params.followText "set-order"=true then pickOrder (w.params.setOrder a ep) es else es
def ord_perm:(Z9 w a ep es).toList.Perm es.toList:=by
 unfold Z9;split
 .exact b0q _ _
 .exact List.Perm.refl _
def a2r(w:World)(t:SetTable):Nat->Nat
 |0=>0
 |i+1=>if w.params.followText "set-order"=true then 0 else t.place.getD i 0+1
def SetIt(w:World)(h:Heap)(it a:qE)(i n ep:Nat)(t:SetTable):Prop:=∃o,h.get? it=some o/\o.cls=.type "set_iterator"/\o.data=.fields #[rawInt (a2r w t i),rawInt i,.ref a,rawInt n,rawInt ep]
def b2b{Q:qH}(D:SRaw s.heap a es ep t)
  (q:Q (.ref s.heap.objs.size) {s with heap:=s.heap.push {cls:=.type "set_iterator",data:=.fields #[rawInt 0,rawInt 0,.ref a,rawInt es.size,rawInt ep]}}):wpAny (model prog w) A (pyIter (.ref a)) Q E s:=by
 have ty:=D.typ;obtain⟨o,b,_,c⟩:=D.ex;refine wpAny_pyIter_slot ty PySem.F.slot_set_iter (bQ PySem.F.slot_set_iter ty a3X ?body (PySem.F.args_set_iter_1 _))
 case body =>
  unfold Builtin.«frozenset.__iter__» Builtin.Frozenset.slot0;refine aa (aa (ae (ae ?_)));unfold Builtin.Frozenset.sizeOf setEntries;refine aa (aa (aa (cB b c (J2 D.ok) (ae (ae ?_)))));unfold setDrawn setsByText;refine aa (aa (cB b c (J2 D.ok) ?_));dsimp only;refine aa (aa (eY (ae (ae ?_))));dsimp only;rw[ar (λz=>by
   have d:=(aM _ _ ▸ z).2;change (!t.plain && decide (es.size > 1))=true at d;rw[D.plain]at d;cases d)]
  refine aa (ae ?_);refine aa (wpAny_setEpoch_of b c (J2 D.ok) ?_);refine aa (bK (ae ⟨_,rfl,"set_iterator",_,⟨_,aG _ rfl,rfl⟩,slot_seti_next.lookup,?_⟩));exact q
def SetIt.typ{a:qE}{n ep:Nat}(x:SetIt w s.heap it a i n ep t):s.TypeIs (.ref it) "set_iterator":=let ⟨o,h1,h2,_⟩:=x;⟨o,h1,h2⟩
def b1Y(D:SRaw s.heap a es ep t)(e:w.params.followText "set-order"=false)(hi:i<=es.size):SetTable.below t.place (a2r w t i)=i:=by
 obtain⟨d,b,c⟩:=J6 D.ok.ris (a2r w t i);have f:=D.ok.size;cases i with
 |zero =>
  rcases Nat.eq_zero_or_pos (SetTable.below t.place (a2r w t 0))with z|z
  .exact z
  .have:=b 0 z;exact absurd this (Nat.not_lt_zero _)
 |succ i =>
  have hs:a2r w t (i+1)=t.place.getD i 0+1:=by
   show(if w.params.followText "set-order"=true then 0 else t.place.getD i 0+1)=_;rw[e,ar (by decide)]
  rw[hs]at d b c⊢;rcases dm (SetTable.below t.place (t.place.getD i 0+1)) (i+1)with z|z|z
  .have:=c i (by omega) (by omega);omega
  .exact z
  .have h1:=b (i+1) z;have h2:=D.ok.ris i (i+1) (by omega) (by omega);omega
def a6H(D:SRaw s.heap a es ep t)(d:t.led=!w.params.followText "set-order"){Q:qD (qB×Nat)->qC->Prop}(hi:i<=es.size)
  (h:Q ((Z9 w a ep es)[i]?.map λe=>(e.2,a2r w t (i+1))) s):wpAny (model prog w) A (setNext a (a2r w t i) i ep) Q E s:=by
 obtain⟨o,f,_,g⟩:=D.ex;unfold setNext setsByText;refine aa (cB f g (J2 D.ok) ?_);dsimp only;refine aa (aa (eY (ae ?_)));dsimp only;by_cases b:w.params.followText "set-order"=true
 .rw[az (show(model prog w).w.params.followText "set-order"=true from b),ar (by simp)];unfold setWalk setsByText;refine aa (aa (cB f g (J2 D.ok) ?_));dsimp only;refine aa (aa (eY (ae ?_)));rw[az (show(model prog w).w.params.followText "set-order"=true from b)];refine aa (eY (ae (ae ?_)));have k:∀j,a2r w t j=0:=λj=>by
   cases j with
   |zero=>rfl
   |succ j=>show(if w.params.followText "set-order"=true then 0 else _)=0;rw[az b]
  rw[k]at h⊢;unfold Z9 at h;rw[az b]at h;exact h
 .have hf':w.params.followText "set-order"=false:=by simpa using b
  rw[ar (show ¬(model prog w).w.params.followText "set-order"=true from b)];rw[ar (λz=>by
   change (!t.plain && decide (es.size > 1))=true at z;rw[D.plain]at z;cases z)]
  refine aa ?_;show wpAny _ _ (if (!t.led && !es.isEmpty)=true then _ else pure ()) _ _ _;rw[ar (by rw[d,hf'];simp)];refine ae (ae ?_);rw[b1Y D hf' hi];unfold Z9 at h;rw[ar b]at h;by_cases c:i<es.size
  .have hp:=a1r (xs:=t.place) (i:=i) (by rw[D.ok.size];exact c);rw[hp];have hs:a2r w t (i+1)=t.place.getD i 0+1:=by
    show(if w.params.followText "set-order"=true then 0 else t.place.getD i 0+1)=_;rw[hf',ar (by decide)]
   rw[hs]at h;rw[bP c]at h⊢;exact h
  .rw[dv (by omega)]at h⊢;exact h
def b0b{Q:qD qB->qC->Prop}(I:SetIt w s.heap it a i es.size ep t)(D:SRaw s.heap a es ep t)(d:t.led=!w.params.followText "set-order")(hi:i<es.size){v:Int×qB}(h:(Z9 w a ep es)[i]?=some v)
  (q:∀h',SetIt w h' it a (i+1) es.size ep t->Heap.SameBut it s.heap h'->Q (some v.2) {s with heap:=h'}):wpAny (model prog w) A (pyNext (.ref it)) Q E s:=by
 obtain⟨j,f1,f2,b⟩:=id I;obtain⟨od,f,k,g⟩:=D.ex;unfold pyNext;refine aa (eh (bO (name:=Str.ofString "__next__") I.typ slot_seti_next (bQ slot_seti_next I.typ Y7 ?body (a0k _))))
 case body =>
  unfold Builtin.«set_iterator.__next__»;refine aa (ae (aa (wpAny_fieldsOf f1 b ?_)));dsimp only[rawInt];unfold setEntries;refine aa (aa (cB f g (J2 D.ok) (ae ?_)));rw[ar (by simp)];simp only[bE];refine aa (a6H D d (cL hi) ?_);rw[h];dsimp only[Option.map];have e:(s.heap.update it (Obj.mapFields λz=>z.setIfInBounds 0 (.int (a2r w t (i+1)) 0))).get? it=some (Obj.mapFields (λz=>z.setIfInBounds 0 (.int (a2r w t (i+1)) 0)) j):=cP _ f1 (eR (cQ b _));have c:=cQ b (λz=>z.setIfInBounds 0 (.int (a2r w t (i+1)) 0));refine aa (dV f1 b (by simp) ?_);refine aa (dV (s:={s with heap:=_}) e c (by simp) ?_);refine ae ⟨_,rfl,ae (q _ ⟨_,cP _ e (eR (cQ c _)),?_,?_⟩ ((cH ..).trans (cH ..)))⟩
  .rw[fz,fz];exact f2
  .rw[cQ c];simp[rawInt]
def b1Z{Q:qD qB->qC->Prop}(g:A.handled=none)(I:SetIt w s.heap it a es.size es.size ep t)(D:SRaw s.heap a es ep t)(c:t.led=!w.params.followText "set-order")
  (q:∀h',Heap.ExtBut it s.heap h'->Q none {s with heap:=h'}):wpAny (model prog w) A (pyNext (.ref it)) Q E s:=by
 obtain⟨j,f1,f2,d⟩:=id I;obtain⟨od,e,i,f⟩:=D.ex;unfold pyNext;refine aa (eh (bO (name:=Str.ofString "__next__") I.typ slot_seti_next (bQ slot_seti_next I.typ Y7 ?body (a0k _))))
 case body =>
  unfold Builtin.«set_iterator.__next__»;refine aa (ae (aa (wpAny_fieldsOf f1 d ?_)));dsimp only[rawInt];unfold setEntries;refine aa (aa (cB e f (J2 D.ok) (ae ?_)));rw[ar (by simp)];simp only[bE];refine aa (a6H D c (aq _) ?_);have h:(Z9 w a ep es).size=es.size:=by rw[<-ay,ord_perm.length_eq,ay]
  rw[dv (by omega)];dsimp only[Option.map];refine aa (dV f1 d (by simp) ?_);show wpAny _ _ (newExc (.type "StopIteration") []>>=λ_=>_) _ _ _;refine aa ?_;simp only[newExc,newTuple];refine aa (bK ?_ (by size_fits));refine aa (m:=firstArgMember _ _) (wpAny_of_eq (a:=Value.none) (by first|rfl | (simp only[firstArgMember];rfl)) ?_);refine bK ?_ (by size_fits);simp only[raiseNew];refine aa (wpAny_handled ?_);rw[show A.in1.handled=none from g];refine aa (ae (wpAny_throw ?_));refine aa (fJ (T:="StopIteration") (b:=true) ⟨_,aG _ rfl,rfl⟩ isSubtype_stop ?_);exact ae (q _ (((cH ..).extBut.push _).push _))
def SetIt.at{h h':Heap}{a:qE}{n ep:Nat}(x:SetIt w h it a i n ep t)(k:∀o,h.get? it=some o->h'.get? it=some o):SetIt w h' it a i n ep t:=let ⟨o,h1,h2⟩:=x;⟨o,k o h1,h2⟩
def SRaw.to{h h':Heap}(x:SRaw h a es ep t)(k:∀o,h.get? a=some o->h'.get? a=some o):SRaw h' a es ep t:=⟨let ⟨o,h1,h2⟩:=x.ex;⟨o,k o h1,h2⟩,x.ok,x.plain⟩
def a2B:entryFor table "set_iterator.__iter__"=some Builtin.«dict_keyiterator.__iter__» :=
 entryFor_alias (id':="dict_keyiterator.__iter__") (by kernel_rfl) rfl (by decide +kernel) (by kernel_rfl)
def a4f(a:qB):argsOk "set_iterator.__iter__" ⟨[a],[]⟩:=by
 unfold argsOk;kernel_rfl
def b0a{n:Nat}{Q:qH}(I:SetIt w s.heap it a i n ep t)(h:Q (.ref it) s):wpAny (model prog w) A (pyIter (.ref it)) Q E s:=by
 refine wpAny_pyIter_slot I.typ Z7 (bQ Z7 I.typ a2B ?_ (a4f _));show wpAny _ _ (ret (.ref it)) _ _ s;exact ae ⟨_,rfl,"set_iterator",_,I.typ,slot_seti_next.lookup,h⟩
def b2I:(Z9 w a ep es).size=es.size:=by rw[<-ay,ord_perm.length_eq,ay]
def b0c(p:A.handled=none)(J:qE)(j:a≠J)(g:t.led=!w.params.followText "set-order") :
  Walks prog w A J [J,a] [J] es.size (λi v=>∃e,(Z9 w a ep es)[i]?=some e/\v=e.2) (λi h=>SetIt w h J a i es.size ep t/\SRaw h a es ep t) where
 sub:=λb d=>by rw[au.mp d];exact aA
 frame:=λi h h' st k=>⟨st.1.at λo e=>k J aA o e,st.2.to λo e=>k a (ax _ aA) o e⟩
 item:=λi s Q E hi st c=>by
  have f:i<(Z9 w a ep es).size:=by rw[b2I];exact hi
  exact b0b st.1 st.2 g hi (bP f) λh' m l=>c _ h' s.toks ⟨_,bP f,rfl⟩ ⟨m,st.2.to λo e=>l.extBut a o j e⟩ λb o d e=>l.extBut b o (λz=>d (by rw[z];exact aA)) e
 done:=λs Q E st c=>b1Z p st.1 st.2 g λh' n=>c h' s.toks λb o d e=>n b o (λz=>d (by rw[z];exact aA)) e
 self:=λ_ _ _ _ st c=>b0a st.1 c
def SRaw.lt{h:Heap}(x:SRaw h a es ep t):a<h.objs.size:=let ⟨_,h1,_⟩:=x.ex;aJ h1
def b4r(b:t.led=!w.params.followText "set-order"):KdlSrc prog w "set" a a es.size (λi v=>∃e,(Z9 w a ep es)[i]?=some e/\v=e.2) (λh=>SRaw h a es ep t) where
 type:=λ_ D=>D.typ
 there:=λ_ D=>⟨D.lt,D.lt⟩
 keep:=λ_ _ D d=>D.to λo e=>d a (.inl rfl) o e
 notList:=by decide
 notTuple:=by decide
 hint:=λ_ _ _ _ D q=>b3s D.typ q
 iter:=λ_ _ c D=>⟨_,_,λ_ _ q=>b2b D q,b0c c _ (aW D.lt) b,⟨⟨_,aG _ rfl,rfl,rfl⟩,D.to λo e=>aj _ e⟩⟩
end
end Tab
end L2
namespace L2
open PySem PySem.Spec PyProof.Rows PySem.W Tab
def a1G(P:qG)(w:World)(a:qE)(xs:qA (qI×qE)):HO:=.ext λh=>∃es ep t,SRaw h a es ep t/\es.toList.Perm (xs.map (Tab.ent P w))/\t.led=!w.params.followText "set-order"
def b6c{P:qG}{w:World}{H:Hp}{h:Heap}(ok:HOk P w H h){r:qI}{b:qE}(x:IT H (.ref b) r):TK P w h r b:=by
 obtain⟨a,e,q⟩:=x;cases e;obtain⟨_,its,c,o,h1,h2,n,d⟩:=(show ObjOk P w H h b (.tup (r.map V.int))from ok b _ q);refine⟨o,its.toArray,n,h1,h2,d,?_⟩;have:∀{r:qI}{its:qA qB},Vals (r.map V.int) its->ItemsAre (intKind P w) r its:=by
  intro r;induction r with
  |nil=>intro its c;cases c;exact .nil
  |cons x r f =>
   intro its c;cases c with
   |cons h t =>
    obtain⟨tk,rfl⟩:=h;exact .cons (intKind_is _ _ _ _) (f t)
 simpa using this c
def b6p(K:qF)(P:qG)(w:World):RL:=λys H Q=>∃(k:Bool) (p:qE) (vs:qA V) (rss:LLI),ys=[.ref p]/\SqK k K H p vs/\Its H vs rss/\vs.length<=1000 /\
 ∀a xs,H a=none->(xs.map (·.1)).Nodup->(∀r,r∈xs.map (·.1)↔r∈rss)->(∀x∈xs,IT H (.ref x.2) x.1)->Q (.ref a) (upd H a (a1G P w a xs))
def b2o(P:qG)(w:World):RL:=λys H Q=>∃(a:qE) (xs:qA (qI×qE)),ys=[.ref a]/\H a=some (a1G P w a xs)/\(∀x∈xs,IT H (.ref x.2) x.1)/\(∀x∈xs,0<x.1.length)/\xs.length<=1000 /\
 ∀l zs tss,H l=none->Its H zs tss->tss.Perm (xs.map (·.1))->C7 tss->Q (.ref l) (upd H l (.lst zs))
section
variable {X:Cx}
def b1d(K:qF)(P:qG)(w:World)(hu:X.A.units+60<cLine)(hc:X.calm=true)(hK:X.K=K:=by rfl)(hP:X.prog=P:=by rfl)(hw:X.w=w:=by rfl):D9 X (.type "set") (b6p K P w):=by
 subst hK hP hw;intro qK s σ H ys us Q I rv h;obtain⟨k,p,N,rss,rfl,T,R,hn,q⟩:=h;obtain⟨u,rfl,D⟩:=rv.one;cases D;have S:X.A.handled=none:=I.ok.hd hc;have step:∀(its:qA qB),Vals N its->∀(h':Heap) (tk:Nat) (xs:qA (qI×qE)) (c:Nat->qI×qE),(∀i,i<its.toArray.size->rss[i]?=some (c i).1/\IT H (.ref (c i).2) (c i).1) ->
   a0l X.prog X.w (!X.w.params.followText "set-order") h' s.heap.objs.size xs->Came c its.toArray.size xs->(∀b o,b<s.heap.objs.size->s.heap.get? b=some o->h'.get? b=some o)->EP X qK σ Q (.ref s.heap.objs.size) {s with heap:=h',toks:=tk}:=by
  intro its r h' tk xs c d n l A;obtain⟨o,es,ep,t,O,U,V,W,Y,Z,e7,e8,e9⟩:=n;have B:its.toArray.size=rss.length:=by rw[<-R.1,r.length];simp
  have F:H s.heap.objs.size=none:=I.hok.fresh (aq _);have E:∀x∈xs,IT H (.ref x.2) x.1:=λx J=>by
   obtain⟨j,m,rfl⟩:=l.from_ x J;exact(d j m).2
  refine⟨.ref s.heap.objs.size,_,I.laid (h':=h') (a:=s.heap.objs.size) (o:=a1G X.prog X.w s.heap.objs.size xs) (t':=tk) (λb o e=>A b o (aJ e) e) (aq _) ⟨⟨es,ep,t,⟨⟨o,O,U,V⟩,Y,Z⟩,W,e9⟩,⟨o,O⟩,λh1 h2 ⟨es,ep,t,q1,q2⟩ kk=>⟨es,ep,t,q1.to kk,q2⟩⟩,rfl,q _ xs F l.nd (λr=>?_) E⟩;constructor
  .intro hr;obtain⟨x,J,rfl⟩:=aN.mp hr;obtain⟨j,m,rfl⟩:=l.from_ x J;exact aE (d j m).1
  .intro hr;obtain⟨j,m⟩:=cA.mp hr;have y:j<its.toArray.size:=by rw[B];exact(aL.mp m).1
   have h1:=(d j y).1;rw[m]at h1;injection h1 with h1
   rw[h1];exact l.all j y
 have f:∀(its:qA qB),Vals N its->∃c:Nat->qI×qE,(∀i v,i<its.toArray.size->its.toArray[i]?=some v->v=.ref (c i).2)/\∀i,i<its.toArray.size->rss[i]?=some (c i).1/\IT H (.ref (c i).2) (c i).1:=by
  intro its r;have g:∀i,∃x:qI×qE,i<its.toArray.size->(∀v,its.toArray[i]?=some v->v=.ref x.2)/\rss[i]?=some x.1/\IT H (.ref x.2) x.1:=λi=>by
   by_cases hi:i<its.toArray.size
   .have hi':i<N.length:=by rw[r.length];simpa using hi
    obtain⟨u,eu,D⟩:=r.get (ak hi');obtain⟨M,er,b,eb,hb⟩:=R.2 i _ (ak hi');rw[eb]at D;cases D;refine⟨(M,b),λ_=>⟨λv G=>?_,er,b,rfl,hb⟩⟩;have:its[i]?=some v:=by simpa using G
    rw[eu]at this;injection this with this
    exact this.symm
   .exact⟨([],0),λz=>absurd z hi⟩
  exact⟨λi=>Classical.choose (g i),λi v hi G=>(Classical.choose_spec (g i) hi).1 v G,λi hi=>(Classical.choose_spec (g i) hi).2⟩
 cases k
 .obtain⟨its,r,pl,hz⟩:=I.list T;obtain⟨c,L,C⟩:=f its r;exact a4r S pl.isList L (λi hi=>b6c I.hok (C i hi).2) (by have:=r.length;simp;omega) (by omega) λh' tk xs n l A=>step its r h' tk xs c C n l A
 .obtain⟨its,r,pl,hz⟩:=I.tuple T;obtain⟨c,L,C⟩:=f its r;exact a4b S pl L (λi hi=>b6c I.hok (C i hi).2) (by have:=r.length;simp;omega) (by omega) λh' tk xs n l A=>step its r h' tk xs c C n l A
def a8z(P:qG)(w:World)(hc:X.calm=true)(hP:X.prog=P:=by rfl)(hw:X.w=w:=by rfl):D9 X (.builtin "sorted") (b2o P w):=by
 subst hP hw;intro qK s σ H ys us Q I rv h;obtain⟨a,xs,rfl,ha,M,S,hn,q⟩:=h;obtain⟨u,rfl,ru⟩:=rv.one;cases ru;obtain⟨⟨es,ep,t,D,A,N⟩,_⟩:=(show ObjOk X.prog X.w H s.heap a (a1G X.prog X.w a xs)from I.hok _ _ ha);obtain⟨d,J,te⟩:=P0 (f:=Tab.ent X.prog X.w) ((ord_perm (w:=X.w) (a:=a) (ep:=ep)).trans A) rfl;have B:∀x∈d,x∈xs:=λx C=>J.mem_iff.mp C;have g:es.size=d.length:=by rw[<-ay,A.length_eq,ai,J.length_eq]
 have L:Its H (d.map λx=>V.ref x.2) (d.map (·.1)):=⟨by rw[ai,ai],λi v e=>by
  rw[aZ]at e⊢;cases l:d[i]? with
  |none=>rw[l]at e;cases e
  |some x =>
   rw[l]at e;cases e;exact⟨x.1,rfl,M x (B x (aE l))⟩⟩
 have W:Vals (d.map λx=>V.ref x.2) (d.map λx=>Value.ref x.2):=a1E (λx:qI×qE=>x.2) d;have hz:(1000:Nat)<=sizeLine:=by rw[aT];decide
 have a1:d.length<=1000:=by rw[J.length_eq];exact hn
 have z:∀(Y:qH) (K:qA qB->qC->Prop),(∀(h1:Heap) (tk:Nat),(∀b o,s.heap.get? b=some o->h1.get? b=some o)->K (d.map λx=>Value.ref x.2) {s with heap:=h1,toks:=tk})->wpAny (model X.prog X.w) X.A.in1 (collect (.ref a)) K Y s:=λY K k=>by
  refine kdu_collect (b4r N) (show X.A.in1.handled=none from I.ok.hd hc) D (by omega) λh' tk j kp m=>?_;have:j.toList=d.map λx=>Value.ref x.2:=by
   refine eI λi=>?_;rw[aB,aZ];by_cases hi:i<d.length
   .have hia:i<j.size:=by rw[m.1,g];exact hi
    obtain⟨e,G,R⟩:=m.2 i j[i] (by simp[hia]);rw[<-aB,<-te,aZ,ak hi]at G;injection G with G
    rw[bP hia,ak hi,R,<-G];rfl
   .rw[dv (by rw[m.1,g];omega),cm (by omega)];rfl
  rw[this];exact k h' tk kp
 have hl:=W.length;have TT:=a3L I L W;obtain⟨T,t1,t2,t3,t4⟩:=a0n W L.1;refine Y8 z TT (λr hr=>by obtain⟨x,C,rfl⟩:=aN.mp hr;exact S x (B x C)) (by rw[ai];omega) λh1 h' os c tk k1 k2 e hp hs=>?_;obtain⟨n,p1,p2⟩:=P0 (f:=λt:qB×V×qI=>t.1) hp t1.symm;have Z:=I.kept (t':=tk) k1;have F:∀t∈n,RelV t.2.1 t.1/\IT H t.2.1 t.2.2/\J1 s.heap t.1=t.2.2:=λt O=>by
  obtain⟨i,hi⟩:=cA.mp (p1.mem_iff.mp O);obtain⟨r1,r2,r3⟩:=t4 i t hi;obtain⟨a2,q1,q2⟩:=L.2 i _ r2;rw[r3]at q1;cases q1;have e5:(d.map λx=>Value.ref x.2)[i]?=some t.1:=by rw[<-t1,aZ,hi];rfl
  obtain⟨r',b,a0,f1,f2,f3,f4⟩:=TT.2 i _ e5;rw[r3]at f1;cases f1;exact⟨r1,q2,by rw[f2];exact E4 f3 f4⟩
 have U:(n.map (·.2.1)).length<=sizeLine:=by
  have e6:=(p1.map (λt:qB×V×qI=>t.2.1)).length_eq;rw[t2]at e6;simp only[ai]at e6⊢;omega
 have R:Vals (n.map (·.2.1)) os:=by rw[<-p2];exact R7 λt O=>(F t O).1
 have I2:=Z.laid (h':=h') (a:=h1.objs.size) (o:=.lst (n.map (·.2.1))) (t':=tk) k2 (aq _) ⟨U,os,c,R,e⟩;refine⟨.ref h1.objs.size,_,I2,rfl,q _ _ (n.map (·.2.2)) (Z.hok.fresh (aq _)) ⟨by rw[ai,ai],λi v p=>?_⟩ (by have:=p1.map (λt:qB×V×qI=>t.2.2);rw[t3]at this;exact this.trans (J.map _)) ?_⟩
 .rw[aZ]at p⊢;cases l:n[i]? with
  |none=>rw[l]at p;cases p
  |some t =>
   rw[l]at p;cases p;exact⟨t.2.2,rfl,(F t (aE l)).2.1⟩
 .unfold C7;rw[bL];rw[<-p2,bL]at hs;refine hs.imp_of_mem λ{x y} C hy E=>?_;rw[(F x C).2.2,(F y hy).2.2]at E;exact E
variable {e:Expr}{es:qA Expr}{t:TA}{p pos:Pos}
def a9C(K:qF)(P:qG)(w:World)(j:X.A.units+60<cLine)(h:Gl X "set")(i:X.mg "set"=none)(d:JA X (e::es) t)(f:X.calm=true:=by rfl)(b:X.K=K:=by rfl)(c:X.prog=P:=by rfl)(hw:X.w=w:=by rfl)(g:starEach (e::es) X.env=(false,eval e X.env)::starEach es X.env:=by rfl)(a:(backTo pos (starEach es X.env)).any (·.1)=false:=by rfl):JE X (.Call (.Name "set" p) (e::es) [] pos) (tCB (b6p K P w) t):=⟨V9 (b1d K P w j f b c hw) h i b8q d.h (by decide) (by decide) g a⟩
def a7m(P:qG)(w:World)(g:Gl X "sorted")(h:X.mg "sorted"=none)(c:JA X (e::es) t)(d:X.calm=true:=by rfl)(b:X.prog=P:=by rfl)(hw:X.w=w:=by rfl)(f:starEach (e::es) X.env=(false,eval e X.env)::starEach es X.env:=by rfl)(a:(backTo pos (starEach es X.env)).any (·.1)=false:=by rfl):JE X (.Call (.Name "sorted" p) (e::es) [] pos) (tCB (b2o P w) t):=⟨F0 (a8z P w d b hw) g h a2b c.h (by decide) (by decide) f a⟩
end
end L2
namespace L2
open PySem PySem.Spec PyProof.Rows
variable {H:Hp}{X:Cx}{a:qE}{r:qI}{rss:LLI}{vs:qA V}
def a3C:typeLookup (.type "list") "keys"=pure none:=by rw[typeLookup_type,fN];kernel_rfl
def a4S:entryFor table "dict.update.loop"=some Builtin.«dict.update.loop»:=entryFor_of_tree (by kernel_rfl)
def a0u:plainId "dict.update.loop"=true:=by decide +kernel
section
variable {prog:qG}{w:World}{A:Around}{E:qH}{s:qC}
def b5q{o:Obj}{xs:Array qB}{k:Nat}{Q:qD qB->qC->Prop}
  (q:s.heap.get? a=some o) (p:o.cls=.type "list") (f:o.data=.seq xs k) (hd:o.dict=none) (v:A.handled=none)
  (h:∀h' tk,(∀b r,s.heap.get? b=some r->h'.get? b=some r)->Q none {s with heap:=h',toks:=tk}):wpAny (model prog w) A (getAttr? (.ref a) "keys") Q E s:=by
 obtain⟨c,u,t,sl⟩:=o;simp only at p f hd;subst p f hd;obtain⟨x,g,d,tk,os⟩:=s;have n:∀l,(⟨x,g,d,l,os⟩:qC).TypeIs (.ref a) "list":=λ_=>⟨_,q,rfl⟩;have f1:=sub_AttributeError;have y:=PySem.F.slot_list_getattribute.lookup;have z:=PySem.F.slot_list_getattribute.bind (.ref a);have B:=am_list_getattr_none;have m:(Str.ofString "keys").length+100<=sizeLine:=by rw[aT];decide
 have i:(["__module__","__name__","__qualname__","__doc__","__annotations__"]:qA Str).contains "keys"=false:=by decide +kernel
 unfold getAttr? getAttrBy? getAttrBy
 repeat (any_goals (first|assumption|exact n _ | ((with_reducible show wpAny _ _ (call (Value.builtin "list.__getattribute__") _ _) _ _ _);refine eU PySem.F.slot_list_getattribute (n _) am_entry_list_getattribute (PySem.F.args_list_getattribute_2 _ _) (meets_getattribute_miss_list a xs k sl "keys" _ a3C i m) ⟨q,v,λh' l e j=>?_⟩)|wp_step))
 obtain⟨t',D,C⟩:=j.there;show wpAny _ _ (getattributeRaised _ _ _ _ _ _ _) _ _ _;unfold getattributeRaised
 repeat (any_goals (first|assumption|wp_step))
 exact h _ _ j.keeps
def a7l{h h':Heap}{ks:qA Key}(k:∀b o,h.get? b=some o->h'.get? b=some o)(x:(tupleKind (C4 prog w)).is h ks a):(tupleKind (C4 prog w)).is h' ks a:=by
 obtain⟨o,its,n,h1,r⟩:=x;exact⟨o,its,n,k _ _ h1,r⟩
def b6G(prog:qG)(w:World)(h:Heap)(d:qE)(xs:qA (qA Key×qE×qB)):Prop :=
 ∃o es ep,h.get? d=some o/\o.ExactDict/\o.data=.dict es ep/\es.toList=xs.map (entryOfKey (tupleKind (C4 prog w)))/\(xs.map (·.1)).Nodup
def b3D{R:Result->qC->Prop}{s0:Heap}{d it l:qE}{items:Array qB}(h:d≠it)(K:s0.get? d=none)(m:s0.get? it=none)(W:s0.IsList l items)(hh:A.handled=none)(S:A.units+10<cLine)(hz:items.size<=sizeLine)
  (J:Nat->qA (qA Key×qE×qB)->Prop)
  (M:∀i,i<items.size->∃p k a v,items[i]?=some (.ref p)/\IsTup s0 p #[.ref a,v]/\(tupleKind (C4 prog w)).is s0 k a/\∀xs,J i xs->xs.length<=i/\(∀x∈xs,(tupleKind (C4 prog w)).is s0 x.1 x.2.1)/\J (i+1) (storedH xs k a v)) :
  ∀(n i:Nat) (s:qC) (xs:qA (qA Key×qE×qB)),items.size-i=n->i<=items.size->(∀b o,s0.get? b=some o->s.heap.get? b=some o)->s.heap.IsListIter it l i->b6G prog w s.heap d xs->J i xs ->
  (∀h' tk g,(∀b o,s0.get? b=some o->h'.get? b=some o)->b6G prog w h' d g->J items.size g->R (.ok (.ret .none)) {s with heap:=h',toks:=tk}) ->
  codeAny (model prog w) A (.builtin "dict.update.loop" ⟨[.ref d,.ref it,rawInt i,.none],[]⟩) R s:=by
 intro n;induction n with
 |zero =>
  intro i s xs hn hi q c F N hR;have L:i=items.size:=by omega
  subst L;refine dI a4S ?_;rw[dQ a0u _];show wpAny _ A.in1 (pyNext (.ref it)>>=_) _ _ s;have j:s.heap.IsList l items:=let ⟨o,h1,h2⟩:=W;⟨o,q _ _ h1,h2⟩
  refine aa (wpAny_pyNext_list_end hh c j (by simp) λh' V=>?_);show wpAny _ _ (Builtin.Dict.addKeywords d []>>=_) _ _ _;refine aa (ae (ae ?_));obtain⟨o,es,ep,D,E⟩:=F;exact hR h' s.toks xs (λb X e=>V b X (λz=>by rw[z,m]at e;cases e) (q b X e)) ⟨o,es,ep,V _ _ h D,E⟩ N
 |succ n ih =>
  intro i s xs hn hi q c F N hR;have r:i<items.size:=by omega
  obtain⟨p,k,a,v,hp,hT,hK,I⟩:=M i r;obtain⟨a0,T,I⟩:=I xs N;refine dI a4S ?_;rw[dQ a0u _];show wpAny _ A.in1 (pyNext (.ref it)>>=_) _ _ s;have j:s.heap.IsList l items:=let ⟨o,h1,h2⟩:=W;⟨o,q _ _ h1,h2⟩
  refine aa (wpAny_pyNext_list_item c j hp λh1 U u=>?_);have f:∀b o,s0.get? b=some o->h1.get? b=some o:=λb o e=>u.extBut b o (λz=>by rw[z,m]at e;cases e) (q b o e);obtain⟨o,es,ep,D,E,g3,g4,g5⟩:=F;have G:h1.DictOfH (tupleKind (C4 prog w)) d xs:=⟨o,es,ep,u.extBut _ _ h D,E,g3,g4,λx hx=>a7l f (T x hx),g5⟩;obtain⟨op,t,P,np,Q⟩:=hT;show wpAny _ A.in1 (holding [.ref p] _>>=_) _ _ _;refine aa (cf (aa (wpAny_tryCatch ?_)));unfold Builtin.Dict.pairItems;refine aa (dX (s:={s with heap:=h1}) ⟨op,f _ _ t,P⟩ ?_);rw[az (by decide)];refine aa (cM (s:={s with heap:=h1}) (f _ _ t) Q (ae ?_));show wpAny _ _ (holding [.ref a,v] (dictSet d (.ref a) v)) _ _ _;refine cf (wpAny_dictSet_heap (s:={s with heap:=h1}) (knd:=tupleKind (C4 prog w)) (hsz:=by omega) (show A.units+1<cLine by omega) (a7l f hK) G λh2 H y=>?_);refine ae ⟨plainId_quiet a0u _,?_⟩;have O:∀b o,s0.get? b=some o->h2.get? b=some o:=λb o e=>y.extBut b o (λz=>by rw[z,K]at e;cases e) (f b o e);obtain⟨o',C,B,q1,q2,q3,q4,_,q5⟩:=H;exact ih (i+1) _ _ (by omega) r O (U.extBut y.extBut (dF h)) ⟨o',C,B,q1,q2,q3,q4,q5⟩ I λh' tk g Y Z e3=>hR h' tk g Y Z e3
end
def PrT(H:Hp)(ps:qA V)(rss:LLI):Prop:=ps.length=rss.length/\∀(i:Nat) (q:V),ps[i]?=some q->∃(r:qI) (b:qE) (v y:V),rss[i]?=some r/\q=.ref b/\H b=some (.tup [v,y])/\IT H v r
def PrT.same{H H':Hp}{ps:qA V}{rss:LLI}(h:PrT H ps rss)(s:Same H H'):PrT H' ps rss :=
 ⟨h.1,λi q e=>let ⟨r,b,v,y,e1,e2,e3,e4⟩:=h.2 i q e;⟨r,b,v,y,e1,e2,s _ _ e3,e4.same s⟩⟩
def PrT.nil:PrT H [] []:=⟨rfl,λi q e=>by simp at e⟩
def PrT.snoc{ps:qA V}{b:qE}{v y:V}(h:PrT H ps rss)(c:H b=some (.tup [v,y]))(d:IT H v r):PrT H (ps++[.ref b]) (rss++[r]):=by
 refine⟨by simp[h.1],λi q e=>?_⟩;rw[dj]at e;rw[dj,<-h.1];split at e
 .rename_i hi;rw[az hi];exact h.2 i q e
 .rename_i hi;rw[ar hi];cases a:i-ps.length with
  |zero =>
   rw[a]at e;cases e;exact⟨r,b,v,y,rfl,rfl,c,d⟩
  |succ j=>rw[a]at e;simp at e
def a2O(r:qI):(r.map (Sum.inl:Int->Key)).map kV=r.map V.int:=by
 rw[cK];rfl
def b8c{qL:qA (qA Key×V)}(f:qL.map (·.1)=IK rss)(g:r∉rss):V6 qL (r.map Sum.inl)=none:=by
 rw[<-Option.not_isSome_iff_eq_none,Bool.not_eq_true,<-V5,dN];intro d c e;have e:=bp e;have:d.1∈IK rss:=by rw[<-f];exact aN.mpr ⟨d,c,rfl⟩
 obtain⟨h,h1,h2⟩:=aN.mp this;rw[e]at h2;have inj:∀{a b:qI},a.map (Sum.inl:Int->Key)=b.map Sum.inl->a=b:=λ{a b} z=>by
  have:=aU (List.map kV) z;rw[a2O,a2O]at this;exact map_int_inj.mp this
 exact g (inj h2 ▸ h1)
section
variable {e:Expr}{es:qA Expr}{t:TA}{p pos:Pos}
end
structure Onc(mss rss:LLI):Prop where
 nd:mss.Nodup
 mem:∀r,r∈mss↔r∈rss
 le:mss.length<=rss.length
def Onc.new{c:LLI}(h:Onc c rss)(g:r∉c):Onc (c++[r]) (rss++[r]):=by
 refine⟨dO.mpr ⟨h.nd,by simp,λa d b f e=>?_⟩,λq=>?_,?_⟩
 .rw[au.mp f]at e;rw[e]at d;exact g d
 .rw[ao,ao,h.mem]
 .rw[ag,ag];have:=h.le;show _+1<=_+1;omega
def Onc.old{a:LLI}(h:Onc a rss)(b:r∈a):Onc a (rss++[r]):=by
 refine⟨h.nd,λq=>?_,?_⟩
 .rw[ao,au,h.mem];exact⟨.inl,λz=>z.elim id λe=>by rw[e];exact(h.mem r).mp b⟩
 .rw[ag];have:=h.le;omega
def b2q:RL:=λxs H Q=>∃(l:qE) (ps:qA V) (rss:LLI),xs=[.ref l]/\H l=some (.lst ps)/\PrT H ps rss/\∀d qL mss,H d=none->qL.map (·.1)=IK mss->Onc mss rss->Q (.ref d) (upd H d (.dT qL))
section
def a8D(hu:X.A.units+60<cLine)(hc:X.calm=true):D9 X (.type "dict") b2q:=by
 intro qK s σ H xs us Q I rv h;obtain⟨l,ps,rss,rfl,hl,hP,q⟩:=h;obtain⟨u,rfl,L⟩:=rv.one;cases L;obtain⟨hz,its,n,r,e⟩:=(show ObjOk X.prog X.w H s.heap l (.lst ps)from I.hok _ _ hl);have hh:X.A.handled=none:=I.ok.hd hc;have G:its.toArray.size=ps.length:=by simpa using r.length.symm
 have C:sysModules<s.heap.objs.size:=fT (by decide) (I.mod.glob.keeps I.bk).lt;refine callType_codes (Q₁:=λobj s₁=>obj=.ref s.heap.objs.size/\s₁={s with heap:=s.heap.push {cls:=.type "dict",data:=.dict #[]}}) PySem.F.kt_called_dict (PySem.F.kt_typeCall_dict_1 _) PySem.F.entry_dict_init (kt_code_dict_new _ ⟨rfl,rfl⟩) ?_;rintro obj s₁ ⟨rfl,rfl⟩;have K:(s.heap.push {cls:=.type "dict",data:=.dict #[]}).get? s.heap.objs.size=some {cls:=.type "dict",data:=.dict #[]}:=aG _ rfl;have k0:∀b o,s.heap.get? b=some o->(s.heap.push {cls:=.type "dict",data:=.dict #[]}).get? b=some o:=λb o e=>aj _ e;generalize s.heap.push {cls:=.type "dict",data:=.dict #[]}=Z at K k0;refine⟨⟨_,K,rfl⟩,PySem.F.args_dict_init_2 _ _,?_⟩;unfold Builtin.«dict.__init__»;refine aa ?_;unfold Builtin.Dict.selfAndRest;refine aa (wpAny_notOrdered_dict ⟨_,K,rfl⟩ ?_);show wpAny _ _ (pure (s.heap.objs.size,[Value.ref l])) _ _ _;refine ae ?_;show wpAny _ _ (Builtin.Dict.updateFrom "dict.__init__" s.heap.objs.size (.ref l) [] .none) _ _ _;unfold Builtin.Dict.updateFrom;refine aa (dX (s:={s with heap:=Z}) ⟨_,k0 _ _ e,rfl⟩ ?_);rw[az (by decide)];refine aa (b5q (s:={s with heap:=Z}) (k0 _ _ e) rfl rfl rfl hh λh1 J k1=>?_);rw[az (show(none:qD qB).isNone=true from rfl)];refine aa (fP ?_);have k:∀b o,s.heap.get? b=some o->h1.get? b=some o:=λb o e=>k1 _ _ (k0 _ _ e);refine aa (fv (s:={s with heap:=h1,toks:=J}) ⟨_,k _ _ e,rfl,n,rfl⟩ ?_);have N:(h1.push {cls:=.type "list_iterator",data:=.fields #[.ref l,.int 0 0]}).IsListIter h1.objs.size l 0:=⟨_,aG _ rfl,rfl,rfl⟩;have k2:∀b o,h1.get? b=some o->(h1.push {cls:=.type "list_iterator",data:=.fields #[.ref l,.int 0 0]}).get? b=some o:=λb o e=>aj _ e;have U:=k1 _ _ K;refine ae ⟨plainId_quiet a0u _,?_⟩;refine b3D (prog:=X.prog) (w:=X.w) (A:=X.A.in1) (s0:=s.heap) (l:=l) (items:=its.toArray) (aW (aJ U)) ?_ ?_ ⟨_,e,rfl,n,rfl⟩ hh (show X.A.units+1+10<cLine by omega) (by omega)
  (λi xs=>∃qL d,KT H qL xs/\qL.map (·.1)=IK d/\Onc d (rss.take i)) (λi hi=>?_) _ 0 {s with heap:=h1.push {cls:=.type "list_iterator",data:=.fields #[.ref l,.int 0 0]},toks:=J} [] rfl (bu _) (λb o e=>k2 _ _ (k _ _ e)) N ⟨{cls:=.type "dict",data:=.dict #[]},#[],0,k2 _ _ U,⟨rfl,rfl,rfl⟩,rfl,rfl,fm⟩ ⟨[],[],.nil,rfl,⟨.nil,λ_=>Iff.rfl,aq _⟩⟩ λh' tk T e1 e2 ⟨qL,d,e3,W,M⟩=>?_
 .cases z:s.heap.get? s.heap.objs.size with
  |none=>rfl
  |some o=>exact absurd (aJ z) (bX _)
 .cases z:s.heap.get? h1.objs.size with
  |none=>rfl
  |some o=>exact absurd (aJ (k _ _ z)) (bX _)
 .have hi':i<ps.length:=by omega
  obtain⟨u,eu,L⟩:=r.get (ak hi');obtain⟨f,b,v,y,er,eb,hb,a,rfl,ha⟩:=hP.2 i _ (ak hi');rw[eb]at L;cases L;obtain⟨_,a0,r2,O⟩:=(show ObjOk X.prog X.w H s.heap b (.tup [.ref a,y])from I.hok _ _ hb);obtain⟨u1,u2,rfl,R,S⟩:=r2.two;cases R;refine⟨b,f.map Sum.inl,a,u2,by simpa using eu,O,a1P I.hok (by rw[a2O];exact ha),?_⟩;rintro xs ⟨qL,d,P,E,g⟩;have F:xs.length=d.length:=by
   have h1:=Paired.length P;have h2:=aU List.length E;rw[IK,ai,ai]at h2;omega
  refine⟨by rw[F];exact a_ g.le (bF _ _),λx j=>?_,a0H qL (f.map Sum.inl) y,if f∈d then d else d++[f],P.put _ (by rw[a2O];exact ha) S,?_⟩
  .have all:∀{l:qA (qA Key×V)}{m:qA (qA Key×qE×qB)},KT H l m->∀x∈m,(tupleKind (C4 X.prog X.w)).is s.heap x.1 x.2.1:=by
    intro l m q;induction q with
    |nil=>intro x j;exact nomatch j
    |@cons p q ps qs hq t ih =>
     intro x j;rcases aF.mp j with e|j
     .subst e;exact a1P I.hok (by rw[<-hq.1];exact hq.2.1)
     .exact ih x j
   exact all P x j
  .have et:rss.take (i+1)=rss.take i++[f]:=by rw[bg,er];rfl
   rw[et];by_cases B:f∈d
   .rw[az B,b0n _ (by rw[E];exact aN.mpr ⟨f,B,rfl⟩)];exact⟨E,g.old B⟩
   .rw[ar B,a6S _ (b8c E B),bC,E];refine⟨?_,g.new B⟩;unfold IK;rw[bC];rfl
 .have hil:ps.length=rss.length:=hP.1;rw[G,hil,bh]at M;obtain⟨o,es,ep,g1,g2,g3,g4,g5⟩:=e2;have D:H s.heap.objs.size=none:=I.hok.fresh (aq _);have F:qL.length<=rss.length:=by
   have h2:=aU List.length W;rw[IK,ai,ai]at h2;rw[h2];exact M.le
  refine⟨rfl,.ref s.heap.objs.size,_,I.laid (h':=h') (a:=s.heap.objs.size) (o:=.dT qL) (t':=tk) e1 (aq _) ⟨by omega,cN.mpr (dF (aW C)),T,e3.keeps λc ys Y=>?_,o,es,ep,g1,g2,g3,g4,g5⟩,rfl,q _ qL d D W M⟩;rw[A3 (A8 Y D)];exact Y
variable {e:Expr}{es:qA Expr}{t:TA}{p pos:Pos}
def a7n(h:X.A.units+60<cLine)(f:Gl X "dict")(g:X.mg "dict"=none)(b:JA X (e::es) t)(c:X.calm=true:=by rfl)(d:starEach (e::es) X.env=(false,eval e X.env)::starEach es X.env:=by rfl)(a:(backTo pos (starEach es X.env)).any (·.1)=false:=by rfl):JE X (.Call (.Name "dict" p) (e::es) [] pos) (tCB b2q t):=⟨V9 (a8D h c) f g b5S b.h (by decide) (by decide) d a⟩
end
section
variable {a b:Expr}{ta tb:TE}{pos:Pos}
end
def a6q{K:qF}{src:qA (qJ)}{σ caps:St}{Q:VK}{te:TE}(f:qI->qI)(o:vs.length<=sizeLine)(b:∀H',Same H H'->SqT K H' a vs)(k:Its H vs rss)(c:B4 src σ=none::caps)
  (g:∀v r H1 (j:VK),r∈rss->IT H1 v r->Same H H1->(∀u H2,Same H1 H2->IT H2 u (f r)->j u H2)->te (some v::caps) H1 j) (hd:∀H1 p l,Same H H1->H1 p=none->Its H1 l (rss.map f)->Q (.ref p) (upd H1 p (.lst l))):G0 src (B0 0) O0 te σ Q (Itt K a) H:=by
 refine K6 (xs:=vs) (by omega) (λi ys H'=>Same H H'/\Its H' ys ((rss.take i).map f)) ⟨Same.refl H,by simpa using Its.nil⟩ (λi ys H' _ h=>⟨b H' h.1,by rw[h.2.1,ai];exact bF _ _⟩) ?_ ?_
 .rintro i x ys H' hx ⟨s,hy⟩;obtain⟨r,m,d,e⟩:=k.mem hx;show Sub _ ((B4 src σ).set 0 (some x))/\_;rw[c];refine⟨Sub.one,g x r H' _ m (e.same s) s λu H2 s2 n=>?_⟩;rw[bg,d,bC];exact⟨s.trans s2,(hy.same s2).snoc n⟩
 .rintro ys H' ⟨s,hy⟩ p hp;rw[k.1,bh]at hy;exact hd H' p ys s hp hy
def Its.take(h:Its H vs rss)(n:Nat):Its H (vs.take n) (rss.take n):=by
 refine⟨by rw[aS,aS,h.1],λi v e=>?_⟩;rw[List.getElem?_take]at e;split at e
 .rename_i hi;obtain⟨r,a,b⟩:=h.2 i v e;exact⟨r,by rw[List.getElem?_take,az hi];exact a,b⟩
 .cases e
def Its.drop(h:Its H vs rss)(n:Nat):Its H (vs.drop n) (rss.drop n):=by
 refine⟨by rw[bx,bx,h.1],λi v e=>?_⟩;rw[fc]at e⊢;exact h.2 _ v e
def Its.app{b:qA V}{a:LLI}(h:Its H vs rss)(g:Its H b a):Its H (vs++b) (rss++a):=by
 refine⟨by rw[ag,ag,h.1,g.1],λi v e=>?_⟩;rcases Nat.lt_or_ge i vs.length with hi|hi
 .rw[bA hi]at e;rw[bA (by rw[<-h.1];exact hi)];exact h.2 i v e
 .rw[ba hi]at e;rw[ba (by rw[<-h.1];exact hi),<-h.1];exact g.2 _ v e
def Its.one{v:V}(h:IT H v r):Its H [v] [r]:=Its.nil.snoc h
def a4D:∀{a b:LLI},C7 a->C7 b->a.Nodup->b.Nodup->(∀v,v∈a↔v∈b)->a=b
 |[],[],_,_,_,_,_=>rfl
 |[],y::b,_,_,_,_,h=>by have:=(h y).mpr aA;cases this
 |x::a,[],_,_,_,_,h=>by have:=(h x).mp aA;cases this
 |x::a,y::b,ra,rb,na,nb,h=>by
  obtain⟨k,l⟩:=cR.mp ra;obtain⟨i,j⟩:=cR.mp rb;obtain⟨f,g⟩:=cv.mp na;obtain⟨c,d⟩:=cv.mp nb;have e:x=y:=by
   refine P9 x y ?_ ?_
   .rcases aF.mp ((h x).mp aA)with z|z
    .rw[z];exact J3 y
    .exact i x z
   .rcases aF.mp ((h y).mpr aA)with z|z
    .rw[z];exact J3 x
    .exact k y z
  subst e;rw[a4D l j g d λv=>?_];constructor
  .intro hv;rcases aF.mp ((h v).mp (ax _ hv))with z|z
   .exact absurd (z ▸ hv) f
   .exact z
  .intro hv;rcases aF.mp ((h v).mpr (ax _ hv))with z|z
   .exact absurd (z ▸ hv) c
   .exact z
structure Srt(rss srt:LLI):Prop where
 ri:C7 srt
 nd:srt.Nodup
 mem:∀r,r∈srt↔r∈rss
def Srt.eq{a b:LLI}(h:Srt rss a)(g:Srt rss b):a=b:=a4D h.ri g.ri h.nd g.nd λv=>(h.mem v).trans (g.mem v).symm
end L2
namespace K30
open PySem PySem.Spec PyProof.Rows L2
variable {C a b c p:qE}{F L W rss:LLI}{H H':Hp}{P:qG}{Q:VK}{base:Heap}{cs:qA (qD Int)}{i j k n:Nat}{qL:qA (qA Key×V)}{mg:Str->qD qB}{ns r u v xs:qI}{o:HO}{vs:qA V}{w:World}{x:V}{σ:L2.St}
def top(i:Nat):Stmt:=PySem.Challenge.pw_leastlays_k30_beyond_not_shown.main.body.getD i (.Pass ⟨0,0,0,0⟩)
abbrev a5D:Stmt:=top 1
abbrev a1e:Stmt:=top 2
abbrev a0q:Stmt:=top 7
abbrev a5C:Stmt:=top 8
abbrev T7:Stmt:=top 9
abbrev a0r:Stmt:=top 10
abbrev a2L:Stmt:=top 11
abbrev a2M:Stmt:=top 13
abbrev a5B:Stmt:=top 14
abbrev W6:Stmt:=top 15
abbrev N5:Stmt:=top 16
abbrev M2:Stmt:=top 18
abbrev a1f:Stmt:=top 19
abbrev a2H:Stmt:=top 20
abbrev T5:Stmt:=top 22
abbrev O5:Stmt:=top 23
abbrev a2K:Stmt:=top 25
abbrev T4:Stmt:=top 27
abbrev T3:Stmt:=top 28
abbrev M3:Stmt:=top 29
abbrev a0t:Stmt:=top 31
abbrev T8:Stmt:=top 32
abbrev a1g:Stmt:=top 33
abbrev a0s:Stmt:=top 34
abbrev a2J:Stmt:=top 35
abbrev a2I:Stmt:=top 37
abbrev O4:Stmt:=top 38
abbrev a1h:Stmt:=top 39
abbrev a1i:Stmt:=top 40
abbrev O6:Stmt:=top 41
abbrev K0:Stmt:=top 42
abbrev W7:Stmt:=top 44
abbrev T9:Stmt:=top 45
abbrev M7:Stmt:=top 46
abbrev M4:Stmt:=top 47
abbrev U0:Stmt:=top 48
abbrev O7:Stmt:=top 49
abbrev M8:Stmt:=top 50
abbrev M5:Stmt:=top 51
abbrev G2:Stmt:=top 52
abbrev M6:Stmt:=top 53
abbrev a3k:Stmt:=top 54
abbrev G3:Stmt:=X6 (top 24) 0
abbrev a0L:Stmt:=X6 (top 24) 1
abbrev D6:Stmt:=X6 (top 24) 2
abbrev Z8:Stmt:=X6 (top 24) 3
abbrev M9:Stmt:=X6 (top 24) 4
abbrev K1:Stmt:=X6 (top 24) 5
abbrev K2:Stmt:=X6 (top 24) 6
structure Tx(mg:Str->qD qB):Prop where
 b_ValueError:mg "ValueError"=none
 b_abs:mg "abs"=none
 b_all:mg "all"=none
 b_any:mg "any"=none
 b_bool:mg "bool"=none
 b_dict:mg "dict"=none
 b_int:mg "int"=none
 b_isinstance:mg "isinstance"=none
 b_len:mg "len"=none
 b_list:mg "list"=none
 b_max:mg "max"=none
 b_min:mg "min"=none
 b_range:mg "range"=none
 b_set:mg "set"=none
 b_sorted:mg "sorted"=none
 b_sum:mg "sum"=none
 b_tuple:mg "tuple"=none
 b_zip:mg "zip"=none
structure PotAt(H:Hp)(a b:qE)(n:Nat):Prop where
 ne:a≠b
 ex:∃(cs:qI) (t k:Int),H a=some (.lst [.ref b,.int t])/\H b=some (.lst (cs.map V.int))/\cs.length<=63/\(∀c∈cs,0<=c)/\0<=t/\t<2 ^ 61/\0<=k/\k<=n
def PotAt.same(h:PotAt H a b n)(s:Same H H'):PotAt H' a b n:=by
 obtain⟨ne,c,t,k,h1,h2,d⟩:=h;exact⟨ne,c,t,k,s _ _ h1,s _ _ h2,d⟩
def PotAt.mono{m:Nat}(h:PotAt H a b n)(l:n<=m):PotAt H a b m:=by
 obtain⟨ne,c,t,k,h1,h2,d,e,f,g,i,j⟩:=h;exact⟨ne,c,t,k,h1,h2,d,e,f,g,i,by omega⟩
def a9O{hi:qD Int}(h:(M0 (ns.map V.int) none hi)[i]?=some x):∃z,x=V.int z:=by
 unfold M0 at h;have b:=aE h;have a:=bR (bJ b);obtain⟨z,_,e⟩:=aN.mp a;exact⟨z,e.symm⟩
def b5M{hi:qD Int}:(M0 (ns.map V.int) none hi).length<=ns.length:=by
 have:=a0i (ns.map V.int) none hi;rwa[ai]at this
section
variable {K:qF}
inductive IspPot(K:qF)(vs:qA V)(H:Hp)(Q:VK)(E:XK):Prop
 |mk (a:qE) (ns:qI) (_:vs=[.ref a]) (_:SqL K H a (ns.map V.int)) (_:ns.length<=63) (_:∀p b H',H p=none->H b=none->PotAt H' p b 0->Same H H'->Q (.ref p) H'):IspPot K vs H Q E
def b6l(K:qF):Sp:=λvs H Q E=>IspPot K vs H Q E
def sc__law_pot:FnScope ["_law_script","_law_seed","_law_cell"] ["_law_script"] (A2 W7):={}
def b7H(F:FunAt K mg "_law_pot" W7 ["_law_script"])(T:Tx mg):Ok P w K mg base "_law_pot" 1 ["_law_script"] (b6l K):=by
 refine F.okJ sc__law_pot (λG H Q E h=>?_) (λy f A m s H G Q E I h=>?_)
 .obtain⟨a,ns,rfl,_⟩:=h;rfl
 .obtain⟨a,ns,rfl,hS,hl,k⟩:=h;refine⟨_,(A1 (B2 (i:=1) sc__law_pot.nd rfl (Or.inl rfl) A4)
 (A1 (N8 (E3 K (b6B K (jv 0) C6 (C5 A4))) (A7 (i:=2) sc__law_pot.nd rfl (Or.inl rfl))
 (A5 (B2 (i:=1) sc__law_pot.nd rfl (Or.inl rfl) (a3K (G7 (G7 (a0O (jv 1) A4) (a3K (jv 2) (a3I A4 A4))) A4) A4))))
 (A5 (A9 (L0 (jaC (B5 (N:=["_law_cell"]) (src:=[none]) (E3 K (b6B K (jv 0) C6 (C5 A4))) (by show B6 _ _=true;rfl) (by rfl) (by rfl)
 (λ_ _ _ _ _=>(A7 (i:=0) (L2.nd ["_law_cell"]) rfl (Or.inl rfl))) (λ_ _ _ _ _=>(a1U (b9k (b3m rfl T.b_abs (jaC (jv 0) jaN)) (a3I A4 A4)))) (λ_ _ _ _ _=>(b3m rfl T.b_abs (jaC (jv 0) jaN)))) (jaC (jv 1) jaN))))))),?_⟩
  refine⟨_,rfl,63,rfl,a,_,rfl,hS,λp C=>?_⟩;refine⟨p,rfl,⟨_,SqL.of A0⟩,?_⟩;refine N7 (K:=K) (a:=p) (xs:=M0 (ns.map V.int) none (some 63)) (λi σ H2=>Ex2 λ(t:Int) (v:qD V)=>An4 (σ=[some (.ref a),some (.int t),v]) (0<=t) (t<2 ^ 61) (H2=upd H p (.lst (M0 (ns.map V.int) none (some 63)))))
   ⟨29,none,rfl,by decide,by decide,rfl⟩ (λi σ H2 _ ⟨_,_,_,_,_,e⟩=>by rw[e];exact SqL.of A0) ?_ ?_
  .rintro i x σ H2 hx ⟨t,v,rfl,h0,h1,rfl⟩;obtain⟨z,rfl⟩:=a9O hx;dsimp only[B0];refine⟨_,rfl,_,_,rfl,rfl,.inl ⟨by omega,by omega⟩,_,rfl,_,_,rfl,rfl,⟨by decide,by decide,by decide⟩,_,_,rfl,rfl,(show(0:Int)<10 ^ Int.toNat 30 by decide),_,_,rfl,rfl,_,_,rfl,rfl,_,_,rfl,rfl,(show(0:Int)<2305843009213693951 by decide),?_⟩;refine⟨_,_,rfl,eD _ (by decide),?_,rfl⟩;have:=dD (t*6364136223846793005+z % 10 ^ Int.toNat 30+1442695040888963407) (show(0:Int)<2305843009213693951 by decide);omega
  .rintro σ H2 ⟨t,v,rfl,h0,h1,rfl⟩;have n:Same H (upd H p (.lst (M0 (ns.map V.int) none (some 63)))):=(Same.refl H).upd C;generalize upd H p (.lst (M0 (ns.map V.int) none (some 63)))=H1 at n;refine⟨_,rfl,63,rfl,a,_,rfl,n.seq hS,λp2 l=>?_⟩;have s2:Same H (upd H1 p2 (.lst (M0 (ns.map V.int) none (some 63)))):=n.upd l;refine⟨p2,rfl,⟨_,SqL.of A0⟩,?_⟩;have r:(1000:Nat)<=sizeLine:=by rw[aT];decide
   have hcl:=b5M (ns:=ns) (hi:=some 63);refine W2 (K:=K) (a:=p2) (xs:=M0 (ns.map V.int) none (some 63)) (by omega) (λi ys g=>g=upd H1 p2 (.lst (M0 (ns.map V.int) none (some 63)))/\ys.length<=i/\∃b:qI,ys=b.map V.int/\∀c∈b,0<=c)
    ⟨rfl,aq _,[],rfl,λ_ h=>nomatch h⟩ (λi ys g _ ⟨e,B,_⟩=>⟨by rw[e];exact SqL.of A0,B⟩) ?_ ?_
   .rintro i x ys g hx ⟨rfl,hy,b,rfl,hc⟩;obtain⟨z,rfl⟩:=a9O hx;refine⟨Sub.one,?_⟩;refine⟨_,rfl,z,rfl,_,_,rfl,rfl,⟨by decide,by decide,by decide⟩,_,_,rfl,rfl,_,rfl,Z0 (λr=>?_) (λr=>?_)⟩
    .refine⟨_,rfl,z,rfl,rfl,by rw[ag];simpa using hy,b++[if z<0 then -z else z],by simp,λc j=>?_⟩;rcases ao.mp j with q|q
     .exact hc c q
     .rw[au.mp q];split<;>omega
    .exact⟨rfl,by omega,b,rfl,hc⟩
   .rintro ys g ⟨rfl,hy,b,rfl,hc⟩ p3 hp3;refine⟨_,rfl,by show 2<=sizeLine;omega,λD d=>?_⟩;have u:=s2.upd (o:=.lst (b.map V.int)) hp3;refine k D p3 _ (u.free d) (s2.free hp3) ⟨?_,b,t,0,A0,?_,?_,hc,h0,h1,by decide,by decide⟩ (u.upd d)
    .exact(A8 (o:=.lst (b.map V.int)) A0 d).symm
    .exact E9 A0 d
    .rw[ai]at hy;omega
def at0{y:V}:atI [x,y] 0=some x:=rfl
def at1{y:V}:atI [x,y] 1=some y:=rfl
def atc{xs:qA V}:atI (x::xs) 0=some x:=P7 (j:=0) rfl
def b9A{x:Int}:ixN ((x::xs).map V.int).length 0=some 0:=by
 rw[ai,aX];unfold ixN;rw[az (by decide),az (by omega)];rfl
inductive IspTake(vs:qA V)(H:Hp)(Q:VK)(E:XK):Prop
 |mk (a b:qE) (n:Nat) (m:Int) (_:vs=[.ref a,.int m]) (_:PotAt H a b n) (_:n<2 ^ 60) (_:0<m) (_:m<2 ^ 60) (_:∀r H',0<=r->r<m->PotAt H' a b (n+1)->Off [a,b] H H'->Q (.int r) H'):IspTake  vs H Q E
def a0T:Sp:=λvs H Q E=>IspTake  vs H Q E
def sc__law_take:FnScope ["_law_pot_here","_law_many","_law_number_here","_law_mixed"] ["_law_pot_here","_law_many"] (A2 T9):={}
def b5j(F:FunAt K mg "_law_take" T9 ["_law_pot_here","_law_many"])(T:Tx mg):Ok P w K mg base "_law_take" 1 ["_law_pot_here","_law_many"] a0T:=by
 refine F.okJ sc__law_take (λS H Q E h=>?_) (λL f A J s H S Q E N h=>?_)
 .obtain⟨a,b,n,m,rfl,_⟩:=h;rfl
 .obtain⟨a,b,n,m,rfl,⟨ne,cs,t,k,ha,hb,hlen,hpos,ht0,ht1,hk0,hk1⟩,hn,hm0,hm1,kk⟩:=h;have O:=N.u60;refine⟨_,(A1 (C9 (a1S K O (Y5 K (jv 0) A4) (L0 jaN))
 (A1 (B2 (i:=2) sc__law_take.nd rfl (Or.inl rfl) (Y5 K (Y5 K (jv 0) A4) A4))
 (A1 (a3F (b5z (jv 2) (jv 1)) (a8o (Y5 K (jv 0) A4) A4))
 (A1 (C9 (a2p (Y5 K (Y5 K (jv 0) A4) A4) A4)
 (A5 (G4 (b3k K (Y5 K (jv 0) A4) (jaC A4 jaN))))
 C2)
 (A5 (A9 (a3K (jv 2) (jv 1)))))))
 C2)
 (A1 (a3F (a3K (G7 (a0O (Y5 K (jv 0) A4) A4) A4) A4) (a8o (jv 0) A4))
 (A1 (B2 (i:=3) sc__law_take.nd rfl (Or.inl rfl) (a3K (a0O (G7 (a3K (Y5 K (jv 0) A4) A4) A4) (G7 (b3n (Y5 K (jv 0) A4) A4) A4)) A4))
 (A5 (A9 (a3K (b3n (jv 3) A4) (jv 1))))))),?_⟩
  refine b8G (b:=b) (cs:=cs) (λU q=>ixL (var rfl) con ha at0 q) hb λp D=>?_;have j:=E9 (o:=.lst []) ha D;have r:=E9 (o:=.lst []) hb D;have l:Off [a,b] H (upd H p (.lst [])):=(Off.refl _ _).upd D;generalize upd H p (.lst [])=H1 at j r l;cases cs with
  |nil =>
   refine E1 ?_;refine⟨_,rfl,a,_,1,_,rfl,rfl,SqL.of j,at1,_,_,rfl,rfl,.inl ⟨by omega,by omega⟩,_,_,rfl,rfl,_,_,rfl,rfl,(show(0:Int)<2305843009213693951 by decide),?_⟩;dsimp only;generalize v:(t*3935559000370003845+2691343689449507681) % 2305843009213693951=x;have I:0<=x:=by rw[<-v];exact eD _ (by decide)
   have R:x<2305843009213693951:=by rw[<-v];exact dD _ (by decide)
   refine⟨_,rfl,a,_,1,1,rfl,rfl,j,rfl,?_⟩;have y:PotAt (upd H1 a (.lst [.ref b,.int x])) a b (n+1):=⟨ne,[],x,0,A0,by rw[A3 ne.symm];exact r,by decide,(λ_ z=>nomatch z),I,by omega,by decide,by omega⟩;have g:Off [a,b] H (upd H1 a (.lst [.ref b,.int x])):=l.set (by simp);have d:upd H1 a (.lst [.ref b,.int x]) a=some (.lst [.ref b,.int x]):=A0;dsimp only[List.set_cons_succ,List.set_cons_zero];generalize upd H1 a (.lst [.ref b,.int x])=H2 at y g d⊢;have W:0<=x % 1000000007:=eD _ (by decide);have X:x % 1000000007<1000000007:=dD _ (by decide);refine⟨_,rfl,a,_,1,_,rfl,rfl,SqL.of d,at1,_,_,rfl,rfl,(show(0:Int)<1000000007 by decide),_,_,rfl,rfl,_,rfl,a,_,1,_,rfl,rfl,SqL.of d,at1,_,_,rfl,rfl,⟨by decide,by decide⟩,_,_,rfl,rfl,_,_,rfl,rfl,.inl ⟨by omega,by omega⟩,_,_,rfl,rfl,(show(0:Int)<2305843009213693921 by decide),?_⟩;dsimp only[B0];refine⟨_,rfl,_,_,rfl,rfl,⟨by decide,by decide⟩,_,rfl,_,_,rfl,rfl,hm0,?_⟩;exact kk _ _ (eD _ (by omega)) (dD _ hm0) y g
  |cons c cs =>
   refine G8 ?_;have C:0<=c:=hpos c aA;have M:cs.length+1<=63:=hlen;refine⟨_,rfl,a,_,0,_,rfl,rfl,SqL.of j,at0,b,_,0,_,rfl,rfl,SqL.of r,atc,?_⟩;dsimp only[B0];refine⟨_,rfl,_,rfl,_,_,rfl,rfl,⟨hm0,by omega⟩,?_⟩;refine⟨_,rfl,a,_,0,_,rfl,rfl,SqL.of j,at0,b,_,0,0,rfl,rfl,r,b9A,?_⟩;have G:0<=c / m:=Int.ediv_nonneg C (by omega);dsimp only;generalize B:upd H1 b _=H2;have u:H2 b=some (.lst ((c / m::cs).map V.int)):=by rw[<-B];exact A0
   have d:H2 a=some (.lst [.ref b,.int t]):=by rw[<-B,A3 ne];exact j
   have g:Off [a,b] H H2:=by rw[<-B];exact l.set (by simp)
   refine R8 (λσ H'=>Ex1 λo=>An3 (σ=[some (.ref a),some (.int m),some (.int c),o]) (PotAt H' a b (n+1)) (Off [a,b] H H')) ?fin λfin=>?_
   case fin =>
    rintro σ H' ⟨o,rfl,y,off⟩;refine⟨_,rfl,_,rfl,_,_,rfl,rfl,hm0,?_⟩;exact kk _ _ (eD _ (by omega)) (dD _ hm0) y off
   refine⟨_,rfl,a,_,0,_,rfl,rfl,SqL.of d,at0,b,_,0,_,rfl,rfl,SqL.of u,atc,rfl,_,rfl,Z0 (λe=>?_) (λe=>?_)⟩
   .refine⟨_,rfl,a,_,0,_,rfl,rfl,SqL.of d,at0,.inl ⟨rfl,_,SqL.of u⟩,b,_,0,0,_,rfl,rfl,u,by decide,by decide,seqIndex_of (by decide) (by simp),rfl,?_⟩;exact fin _ _ ⟨none,rfl,⟨ne,cs,t,0,by rw[A3 ne];exact d,A0,by omega,λx v=>hpos x (ax _ v),ht0,ht1,by decide,by omega⟩,g.set (by simp)⟩
   .refine fin _ _ ⟨none,rfl,⟨ne,c / m::cs,t,0,d,u,hlen,λx v=>?_,ht0,ht1,by decide,by omega⟩,g⟩;rcases aF.mp v with rfl|v
    .exact G
    .exact hpos x (ax _ v)
end
def R1(h:k<ns.length):atI (ns.map V.int) (k:Int)=some (.int (ns.getD k 0)):=by
 refine P7 ?_;rw[aZ,ak h];simp[av,h]
def a6U(h:PotAt H a b n){xs:qA V}(d:H c=some (.tup xs)):c∉[a,b]:=by
 obtain⟨_,e,t,k,h1,h2,_⟩:=h;simp only[aF,bS,de,not_or];exact⟨J8 d h1 (by intro z;cases z),J8 d h2 (by intro z;cases z)⟩
def IT.off{v:V}(h:IT H v ns)(d:PotAt H a b n)(o:Off [a,b] H H'):IT H' v ns:=by
 obtain⟨c,e,q⟩:=h;exact⟨c,e,o c _ (a6U d q) q⟩
def sqt{K:qF}{xs:qA V}(h:H a=some (.tup xs)):SqK true K H a xs:=SqT.of h
def Bel(xs ys:qI):Bool:=(List.zipWith (λa b=>decide (a<=b)) xs ys).all id
def b8D(xs ys:qI):(List.zipWith (λa b=>V.bl (decide (a<=b))) xs ys).all trV=Bel xs ys:=by
 unfold Bel;induction xs generalizing ys with
 |nil=>rfl
 |cons x xs c =>
  cases ys with
  |nil=>rfl
  |cons y ys=>simp only[bq,cC,c ys];rfl
def a8H{γ:Type}(f:Int->Int->Int)(g:Int->γ):∀xs ys:qI,List.zipWith (λa b=>g (f a b)) xs ys=(List.zipWith f xs ys).map g
 |[],_=>rfl
 |_::_,[]=>rfl
 |x::xs,y::ys=>by rw[bq,bq,aV,a8H f g xs ys]
section
variable {K:qF}
end
def dot(xs ys:qI):Int:=(List.zipWith (λa b=>a*b) xs ys).sum
def Ans(rss:LLI)(ys:qI):Bool:=rss.all λr=>decide (dot r ys=0)
def Sm(ys:qI):Prop:=∀z∈ys,-2 ^ 64<z/\z<2 ^ 64
section
variable {K:qF}
inductive IspRowSum(vs:qA V)(H:Hp)(Q:VK)(E:XK):Prop
 |mk (x:_) (y:_) (xs:_) (ys:_) (_:vs=[x,y]) (_:IT H x xs) (_:IT H y ys) (_:xs.length<=1000) (_:Sm ys) (_:∀H',Same H H'->Q (.int (dot xs ys)) H'):IspRowSum  vs H Q E
def a6w:Sp:=λvs H Q E=>IspRowSum  vs H Q E
def a7T:FnScope ["row","one"] ["row","one"] (A2 a0q):={}
def a8f(F:FunAt K mg "row_sum" a0q ["row","one"])(T:Tx mg):Ok P w K mg base "row_sum" 1 ["row","one"] a6w:=by
 refine F.okJ a7T (λj H Q E h=>?_) (λd f A c s H j Q E m h=>?_)
 .obtain⟨x,y,xs,ys,rfl,_⟩:=h;rfl
 .obtain⟨_,_,xs,ys,rfl,⟨a,rfl,ha⟩,⟨b,rfl,hb⟩,hl,hs,k⟩:=h;refine⟨_,(A5 (A9 (a8p K rfl T.b_sum (jaC (B5 (N:=["a","b"]) (src:=[none,none]) (a3G K rfl T.b_zip (jaC (jv 0) (jaC (jv 1) jaN))) (by show B6 _ _=true;rfl) (by rfl) (by rfl)
 (λ_ _ _ _ _=>(V1 K 2 (C0 (A7 (i:=0) (L2.nd ["a","b"]) rfl (Or.inl rfl)) (C0 (A7 (i:=1) (L2.nd ["a","b"]) rfl (Or.inl rfl)) N1)))) (λ_ _ _ _ _=>B8) (λ_ _ _ _ _=>(a0O (jv 0) (jv 1)))) jaN)))),?_⟩
  refine⟨_,rfl,_,rfl,true,true,a,b,rfl,⟨_,SqT.of ha⟩,⟨_,SqT.of hb⟩,?_⟩;refine a9U (caps:=[]) (λx y=>V.int (x*y)) hl (λH' s=>⟨sqt (s _ _ ha),sqt (s _ _ hb)⟩) rfl (λx y H1 l _ g _ q=>⟨_,rfl,_,rfl,_,_,rfl,rfl,.inr (hs y g),q⟩) λH1 p s e=>?_;rw[a8H (λx y=>x*y) V.int];exact⟨false,p,_,rfl,SqL.of A0,k _ (s.upd e)⟩
inductive IspSums(vs:qA V)(H:Hp)(Q:VK)(E:XK):Prop
 |mk (a:qE) (y:V) (us:qA V) (rss:LLI) (ys:qI) (_:vs=[.ref a,y]) (_:H a=some (.tup us)) (_:Its H us rss) (_:IT H y ys) (_:us.length<=1000) (_:(∀r∈rss,r.length<=1000)) (_:Sm ys) (_:∀v H',Same H H'->IT H' v (rss.map λr=>dot r ys)->Q v H'):IspSums  vs H Q E
def a7Q:Sp:=λvs H Q E=>IspSums  vs H Q E
def b4u:FnScope ["rows","one"] ["rows","one"] (A2 a5C):={}
def b5k(F:FunAt K mg "sums" a5C ["rows","one"])(T:Tx mg)(b:Ok P w K mg base "row_sum" 1 ["row","one"] a6w):Ok P w K mg base "sums" 2 ["rows","one"] a7Q:=by
 refine F.okJ b4u (λn H Q E h=>?_) (λg f A e s H n Q E d h=>?_)
 .obtain⟨a,y,us,rss,ys,rfl,_⟩:=h;rfl
 .obtain⟨a,y,us,rss,ys,rfl,ha,hI,hy,c,hl2,hs,k⟩:=h;refine⟨_,(A5 (A9 (C1 K rfl T.b_tuple (jaC (B5 (N:=["row","one"]) (src:=[none,some 1]) (E7 K (jv 0)) (by show B6 _ _=true;rfl) (by rfl) (by rfl)
 (λ_ _ _ _ _=>(A7 (i:=0) (L2.nd ["row","one"]) rfl (Or.inl rfl))) (λ_ _ _ _ _=>B8) (λ_ _ _ _ _=>(A6 b (d.mono (by omega)) rfl (jaC (jv 0) (jaC (jv 1) jaN))))) jaN)))),?_⟩
  refine⟨_,rfl,a,rfl,⟨_,SqT.of ha⟩,?_⟩;refine a8R (caps:=[some y]) (λr=>V.int (dot r ys)) c (λH' s=>SqT.of (s _ _ ha)) hI rfl (λv r H1 o d m s1 q=>⟨_,rfl,_,rfl,v,y,r,ys,rfl,m,hy.same s1,hl2 r d,hs,q⟩) λH1 p s j=>?_;rw[show(rss.map λr=>V.int (dot r ys))=(rss.map λr=>dot r ys).map V.int by rw[cK];rfl];refine⟨p,_,rfl,.inl ⟨SqL.of A0,λl c=>?_⟩⟩;exact k _ _ ((s.upd j).upd c) ⟨l,rfl,A0⟩
inductive IspIsAns(vs:qA V)(H:Hp)(Q:VK)(E:XK):Prop
 |mk (a:qE) (y:V) (us:qA V) (rss:LLI) (ys:qI) (_:vs=[.ref a,y]) (_:H a=some (.tup us)) (_:Its H us rss) (_:IT H y ys) (_:us.length<=1000) (_:(∀r∈rss,r.length<=1000)) (_:Sm ys) (_:∀H',Same H H'->Q (.bl (Ans rss ys)) H'):IspIsAns  vs H Q E
def a2F:Sp:=λvs H Q E=>IspIsAns  vs H Q E
def a5x:FnScope ["rows","one"] ["rows","one"] (A2 T7):={}
def a5M(F:FunAt K mg "is_answer" T7 ["rows","one"])(T:Tx mg)(b:Ok P w K mg base "sums" 2 ["rows","one"] a7Q):Ok P w K mg base "is_answer" 3 ["rows","one"] a2F:=by
 refine F.okJ a5x (λn H Q E h=>?_) (λj f A d s H n Q E m h=>?_)
 .obtain⟨a,y,us,rss,ys,rfl,_⟩:=h;rfl
 .obtain⟨a,y,us,rss,ys,rfl,ha,hI,hy,hl,hl2,hs,k⟩:=h;refine⟨_,(A5 (A9 (N9 K rfl T.b_all (jaC (B5 (N:=["total"]) (src:=[none]) (E7 K (A6 b (m.mono (by omega)) rfl (jaC (jv 0) (jaC (jv 1) jaN)))) (by show B6 _ _=true;rfl) (by rfl) (by rfl)
 (λ_ _ _ _ _=>(A7 (i:=0) (L2.nd ["total"]) rfl (Or.inl rfl))) (λ_ _ _ _ _=>B8) (λ_ _ _ _ _=>(a9x (jv 0) A4))) jaN)))),?_⟩
  refine⟨_,rfl,_,rfl,a,y,us,rss,ys,rfl,ha,hI,hy,hl,hl2,hs,λv H1 s1 c=>?_⟩;obtain⟨q,rfl,g⟩:=c;refine⟨q,rfl,⟨_,SqT.of g⟩,?_⟩;refine a6r (caps:=[]) (λx=>V.bl (decide (V.int x=V.int 0))) (by rw[ai,<-hI.1];exact hl) (λH' s=>SqT.of (s _ _ g)) rfl (λx H2 o _ _ q=>⟨_,rfl,rfl,q⟩) λH2 p s2 l=>?_;refine⟨false,p,_,rfl,SqL.of A0,?_,?_⟩
  .rw[aI];intro v c;obtain⟨x,_,rfl⟩:=aN.mp c;rfl
  .have e:((rss.map λr=>dot r ys).map λx=>V.bl (decide (V.int x=V.int 0))).all trV=Ans rss ys:=by
    rw[fk,fk];unfold Ans;congr 1;funext r;show decide (V.int (dot r ys)=V.int 0)=decide (dot r ys=0);simp
   rw[e];exact k _ (s1.trans (s2.upd l))
end
def a6g{α β γ:Type}(f:α->β->Int)(g:Int->γ):∀(xs:qA α) (ys:qA β),List.zipWith (λa b=>g (f a b)) xs ys=(List.zipWith f xs ys).map g
 |[],_=>rfl
 |_::_,[]=>rfl
 |x::xs,y::ys=>by rw[bq,bq,aV,a6g f g xs ys]
def U4(rss:LLI)(ts:qI)(j:Nat):Int:=(List.zipWith (λt r=>t*r.getD j 0) ts rss).sum
def a1A(rss:LLI)(ys:qI)(j:Nat):Int:=U4 rss (rss.map λr=>dot r ys) j
def Rs(n:Nat)(rss:LLI):Prop:=∀r∈rss,r.length=n/\Sm r
def Sm.at(h:Sm r)(a:j<r.length) : -2 ^ 64<r.getD j 0/\r.getD j 0<2 ^ 64:=by
 refine h _ ?_;rw[av,ak a];exact cc _
section
variable {K:qF}
inductive IspPullOf(vs:qA V)(H:Hp)(Q:VK)(E:XK):Prop
 |mk (a:qE) (y:V) (us:qA V) (rss:LLI) (ts:qI) (j n:Nat) (_:vs=[.ref a,y,.int j]) (_:H a=some (.tup us)) (_:Its H us rss) (_:IT H y ts) (_:ts.length<=1000) (_:j<n) (_:n<=1000) (_:Rs n rss) (_:∀H',Same H H'->Q (.int (U4 rss ts j)) H'):IspPullOf  vs H Q E
def a6y:Sp:=λvs H Q E=>IspPullOf  vs H Q E
def a7U:FnScope ["rows","totals","j"] ["rows","totals","j"] (A2 a0r):={}
def a8g(F:FunAt K mg "pull_of" a0r ["rows","totals","j"])(T:Tx mg):Ok P w K mg base "pull_of" 1 ["rows","totals","j"] a6y:=by
 refine F.okJ a7U (λo H Q E h=>?_) (λe f A c s H o Q E d h=>?_)
 .obtain⟨a,y,us,rss,ts,j,n,rfl,_⟩:=h;rfl
 .obtain⟨a,_,us,rss,ts,j,n,rfl,ha,hI,⟨b,rfl,hb⟩,hl,hj,hn,hR,k⟩:=h;refine⟨_,(A5 (A9 (a8p K rfl T.b_sum (jaC (B5 (N:=["total","row","j"]) (src:=[none,none,some 2]) (a3G K rfl T.b_zip (jaC (jv 1) (jaC (jv 0) jaN))) (by show B6 _ _=true;rfl) (by rfl) (by rfl)
 (λ_ _ _ _ _=>(V1 K 2 (C0 (A7 (i:=0) (L2.nd ["total","row","j"]) rfl (Or.inl rfl)) (C0 (A7 (i:=1) (L2.nd ["total","row","j"]) rfl (Or.inl rfl)) N1)))) (λ_ _ _ _ _=>B8) (λ_ _ _ _ _=>(a0O (jv 0) (D5 K (jv 1) (jv 2))))) jaN)))),?_⟩
  refine⟨_,rfl,_,rfl,true,true,b,a,rfl,⟨_,SqT.of hb⟩,⟨_,SqT.of ha⟩,?_⟩;refine b1t (caps:=[some (.int j)]) (λt r=>V.int (t*r.getD j 0)) hl (λH' s=>⟨sqt (s _ _ hb),sqt (s _ _ ha)⟩) hI rfl (λx v r H1 u _ d m _ q=>?_) λH1 p s l=>?_
  .obtain⟨va,rfl,hva⟩:=m;obtain⟨z,g⟩:=hR r d;exact⟨_,rfl,_,rfl,_,rfl,va,_,_,_,rfl,rfl,SqT.of hva,R1 (by omega),_,_,rfl,rfl,.inr (g.at (by omega)),q⟩
  .rw[a6g (λt r=>t*List.getD r j 0) V.int];exact⟨false,p,_,rfl,SqL.of A0,k _ (s.upd l)⟩
inductive IspFalls(vs:qA V)(H:Hp)(Q:VK)(E:XK):Prop
 |mk (a:qE) (y:V) (us:qA V) (rss:LLI) (ys:qI) (_:vs=[.ref a,y]) (_:H a=some (.tup us)) (_:Its H us rss) (_:IT H y ys) (_:us.length<=1000) (_:ys.length<=1000) (_:Rs ys.length rss) (_:Sm ys) (_:∀v H',Same H H'->IT H' v (((List.range ys.length).filter λj=>decide (a1A rss ys j<0)).map λ(i:Nat)=>(i:Int))->Q v H'):IspFalls  vs H Q E
def a9d:Sp:=λvs H Q E=>IspFalls  vs H Q E
def sc_falls:FnScope ["rows","one","totals"] ["rows","one"] (A2 a2L):={}
def b2T(F:FunAt K mg "falls" a2L ["rows","one"])(T:Tx mg)(b:Ok P w K mg base "pull_of" 1 ["rows","totals","j"] a6y)(c:Ok P w K mg base "sums" 2 ["rows","one"] a7Q):Ok P w K mg base "falls" 3 ["rows","one"] a9d:=by
 refine F.okJ sc_falls (λx H Q E h=>?_) (λn f A m s H x Q E e h=>?_)
 .obtain⟨a,y,us,rss,ts,rfl,_⟩:=h;rfl
 .obtain⟨a,y,us,rss,ys,rfl,ha,hI,hy,d,hn,hR,hs,k⟩:=h;refine⟨_,(A1 (B2 (i:=2) sc_falls.nd rfl (Or.inr rfl) (A6 c (e.mono (by omega)) rfl (jaC (jv 0) (jaC (jv 1) jaN))))
 (A5 (A9 (C1 K rfl T.b_tuple (jaC (B5 (N:=["j","rows","totals"]) (src:=[none,some 0,some 2]) (J0 rfl T.b_range (jaC (G6 K rfl T.b_len (jaC (jv 1) jaN)) jaN)) (by show B6 _ _=true;rfl) (by rfl) (by rfl)
 (λ_ _ _ _ _=>(A7 (i:=0) (L2.nd ["j","rows","totals"]) rfl (Or.inl rfl))) (λ_ _ _ _ _=>(a1U (b3f (A6 b (e.mono (by omega)) rfl (jaC (jv 1) (jaC (jv 2) (jaC (jv 0) jaN)))) A4))) (λ_ _ _ _ _=>(jv 0))) jaN))))),?_⟩
  refine⟨_,rfl,_,rfl,a,y,us,rss,ys,rfl,ha,hI,hy,d,λr e=>by rw[(hR r e).1];exact hn,hs,λv H1 s1 t=>?_⟩;dsimp only[B0];obtain⟨z,rfl,g⟩:=hy.same s1;refine⟨_,rfl,z,_,rfl,.inr (SqT.of g),_,rfl,by omega,by rw[ai];omega,?_⟩;rw[bE,ai];refine a7Z (caps:=[some (.ref a),some v]) (λj=>decide (a1A rss ys j<0)) hn rfl (λi H2 C hi s2 q=>?_) λH2 p s2 o=>?_
  .refine⟨_,rfl,_,rfl,_,rfl,a,v,us,rss,_,i,ys.length,rfl,(s1.trans s2) _ _ ha,hI.same (s1.trans s2),t.same s2,by rw[ai,<-hI.1];exact d,hi,hn,hR,λB u=>?_⟩;exact⟨_,_,rfl,rfl,_,rfl,q _ u⟩
  .refine⟨p,_,rfl,.inl ⟨SqL.of A0,λl d=>?_⟩⟩;exact k _ _ (s1.trans ((s2.upd o).upd d)) ⟨l,rfl,A0⟩
end
def a7v(x y:Int)(xs ys:qI):dot (x::xs) (y::ys)=x*y+dot xs ys:=by unfold dot;rw[bq,bo]
def a4T:∀(xs ys:qI),xs.length=ys.length->dot xs ys=((List.range ys.length).map λj=>xs.getD j 0*ys.getD j 0).sum
 |[],[],_=>rfl
 |x::xs,y::ys,h=>by
  rw[a7v,a4T xs ys (by simpa using h),aX,List.range_succ_eq_map,aV,bo,cK];rfl
def a8W(l:qA Nat)(f g:Nat->Int):(l.map λj=>f j+g j).sum=(l.map f).sum+(l.map g).sum:=by
 induction l with
 |nil=>rfl
 |cons x l a=>simp only[aV,bo,a];omega
def a5l(l:qA Nat)(c:Int)(f:Nat->Int):(l.map λj=>c*f j).sum=c*(l.map f).sum:=by
 induction l with
 |nil=>simp
 |cons x l a=>simp only[aV,bo,a,Int.mul_add]
def bump(now:qI)(j:Nat):qI:=now.set j (now.getD j 0+1)
def Pl(rss:LLI)(now xs:qI):qA Nat:=(List.range xs.length).filter λj=>decide (now.getD j 0<xs.getD j 0) && (Ans rss now || decide (a1A rss now j<0))
def Under(now xs:qI):Prop:=now.length=xs.length/\∀j,j<xs.length->now.getD j 0<=xs.getD j 0
def I0(a:qI)(j:Nat):(bump a j).length=a.length:=ez
def a8d{a:qI}(h:j∈Pl rss a xs):j<xs.length/\a.getD j 0<xs.getD j 0:=by
 unfold Pl at h;rw[aQ,aY,aM,br]at h;exact⟨h.1,h.2.1⟩
def a1x(a:qI)(j k:Nat)(b:j<a.length):(bump a j).getD k 0=if k=j then a.getD j 0+1 else a.getD k 0:=by
 unfold bump;rw[av,fD];by_cases e:j=k
 .subst e;rw[az rfl,az b,az rfl];rfl
 .rw[ar e,ar (dF e),av]
def Under.bump{a:qI}(h:Under a xs)(b:j∈Pl rss a xs):Under (bump a j) xs:=by
 obtain⟨h1,h2⟩:=a8d b;refine⟨by rw[I0];exact h.1,λk c=>?_⟩;rw[a1x _ _ _ (by rw[h.1];exact h1)];by_cases e:k=j
 .rw[az e,e];omega
 .rw[ar e];exact h.2 k c
def a5k:∀(xs:qI) (k:Nat) (z:Int),k<xs.length->(xs.set k z).sum=xs.sum-xs.getD k 0+z
 |[],_,_,h=>by simp at h
 |x::xs,0,z,_=>by rw[List.set_cons_zero,bo,bo,List.getD_cons_zero];omega
 |x::xs,k+1,z,h=>by rw[List.set_cons_succ,bo,bo,List.getD_cons_succ,a5k xs k z (by simpa using h)];omega
def a4c(a:qI)(j:Nat)(h:j<a.length):(bump a j).sum=a.sum+1:=by
 unfold bump;rw[a5k _ _ _ h];omega
def Under.tail{x y:Int}{ys:qI}(h:Under (x::xs) (y::ys)):x<=y/\Under xs ys :=
 ⟨by simpa using h.2 0 (by simp),by simpa using h.1,λj a=>by simpa using h.2 (j+1) (by simpa using a)⟩
def Under.sum:∀{xs ys:qI},Under xs ys->xs.sum<=ys.sum/\(xs≠ys->xs.sum<ys.sum)
 |[],[],_=>⟨Int.le_refl _,λh=>absurd rfl h⟩
 |[],_::_,h=>by have:=h.1;simp at this
 |_::_,[],h=>by have:=h.1;simp at this
 |x::xs,y::ys,h=>by
  obtain⟨h1,h2⟩:=h.tail;obtain⟨b,a⟩:=Under.sum h2;rw[bo,bo];refine⟨by omega,λne=>?_⟩;by_cases e:xs=ys
  .subst e;have:x≠y:=λq=>ne (by rw[q]);omega
  .have:=a e;omega
def Under.ne:∀{xs ys:qI},Under xs ys->xs≠ys->∃j,j<ys.length/\xs.getD j 0<ys.getD j 0
 |[],[],_,h=>absurd rfl h
 |[],_::_,h,_=>by have:=h.1;simp at this
 |_::_,[],h,_=>by have:=h.1;simp at this
 |x::xs,y::ys,h,ne=>by
  obtain⟨h1,h2⟩:=h.tail;by_cases e:xs=ys
  .subst e;have:x≠y:=λq=>ne (by rw[q]);exact⟨0,by simp,by simp;omega⟩
  .obtain⟨j,q1,q2⟩:=Under.ne h2 e;exact⟨j+1,by simpa using q1,by simpa using q2⟩
def b1M(l:qI)(h:∀x∈l,0<=x):0<=l.sum:=by
 induction l with
 |nil=>exact Int.le_refl _
 |cons x l b =>
  rw[bo];have:=h x (aA ..);have:=b λy a=>h y (ax _ a);omega
def a8V(l:qI)(h:∀x∈l,0<=x)(y:Int)(b:y∈l)(hp:0<y):0<l.sum:=by
 induction l with
 |nil=>cases b
 |cons x l c =>
  rw[bo];have e:=h x (aA ..);have d:=b1M l λz a=>h z (ax _ a);rcases aF.mp b with q|q
  .omega
  .have:=c (λz a=>h z (ax _ a)) q;omega
def a2k(t:Int):0<=t*t:=by
 rcases Int.le_total 0 t with h|h
 .exact Int.mul_nonneg h h
 .have:=Int.mul_nonneg (a := -t) (b := -t) (by omega) (by omega);rwa[Int.neg_mul_neg]at this
def a2Z(ys:qI):∀(rss:LLI) (a:qI),(∀r∈rss,r.length=ys.length)->a.length=rss.length ->
  ((List.range ys.length).map λj=>U4 rss a j*ys.getD j 0).sum=(List.zipWith (λt r=>t*dot r ys) a rss).sum
 |[],[],_,_=>by
  have e:((List.range ys.length).map λj=>U4 [] [] j*ys.getD j 0)=(List.range ys.length).map λj=>0*ys.getD j 0:=rfl;rw[e,a5l,Int.zero_mul];rfl
 |[],_::_,_,h=>by simp at h
 |_::_,[],_,h=>by simp at h
 |r::rss,t::a,h,b=>by
  have d:=a2Z ys rss a (λq c=>h q (ax _ c)) (by simpa using b);rw[bq,bo,<-d];have e:(λj=>U4 (r::rss) (t::a) j*ys.getD j 0)=λj=>t*(r.getD j 0*ys.getD j 0)+U4 rss a j*ys.getD j 0:=by
   funext j;unfold U4;rw[bq,bo,Int.add_mul,Int.mul_assoc]
  rw[e,a8W,a5l,<-a4T r ys (h r (aA ..))]
def a8Y:∀(rss:LLI) (a xs:qI),Ans rss xs=true->(List.zipWith (λt r=>t*dot r xs) (rss.map λr=>dot r a) rss).sum=0
 |[],_,_,_=>rfl
 |r::rss,a,xs,h=>by
  unfold Ans at h;rw[cC,aM,br]at h;rw[aV,bq,bo,h.1,a8Y rss a xs h.2];omega
def b6P(rss:LLI)(a:qI)(h:Ans rss a=false):0<(List.zipWith (λt r=>t*dot r a) (rss.map λr=>dot r a) rss).sum:=by
 have e:List.zipWith (λt r=>t*dot r a) (rss.map λr=>dot r a) rss=rss.map λr=>dot r a*dot r a:=by
  clear h;induction rss with
  |nil=>rfl
  |cons r rss f=>rw[aV,bq,aV,f]
 rw[e];have:∃r∈rss,dot r a≠0:=by
  refine bZ λq=>?_;have:Ans rss a=true:=by
   unfold Ans;rw[aI];intro r c;rw[br];exact bZ λz=>q ⟨r,c,z⟩
  rw[this]at h;cases h
 obtain⟨r,c,b⟩:=this;refine a8V _ (λx d=>?_) (dot r a*dot r a) (aN.mpr ⟨r,c,rfl⟩) ?_
 .obtain⟨q,_,rfl⟩:=aN.mp d;exact a2k _
 .have h1:=a2k (dot r a);have h2:dot r a*dot r a≠0:=λz=>by
   rcases Int.mul_eq_zero.mp z with q|q<;>exact b q
  omega
def b6t(rss:LLI)(a xs:qI)(hR:∀r∈rss,r.length=xs.length)(c:Under a xs)(h:a≠xs)(m:Ans rss xs=true):Pl rss a xs≠[]:=by
 intro b;unfold Pl at b;rw[List.filter_eq_nil_iff]at b;cases d:Ans rss a with
 |true =>
  obtain⟨j,h1,h2⟩:=c.ne h;refine b j (aY.mpr h1) ?_;rw[d,aM,br];exact⟨h2,rfl⟩
 |false =>
  have p1:=a2Z a rss (rss.map λr=>dot r a) (λr o=>by rw[hR r o,c.1]) (by simp);have p2:=a2Z xs rss (rss.map λr=>dot r a) hR (by simp);have w:=b6P rss a d;have u:=a8Y rss a xs m;rw[c.1]at p1;have v:((List.range xs.length).map λj=>U4 rss (rss.map λr=>dot r a) j*a.getD j 0+(-1)*(U4 rss (rss.map λr=>dot r a) j*xs.getD j 0)).sum<=0:=by
   have hs:∀(l:qI),(∀x∈l,x<=0)->l.sum<=0:=λl k=>by
    induction l with
    |nil=>exact Int.le_refl _
    |cons x l t =>
     rw[bo];have:=k x (aA ..);have:=t λy s=>k y (ax _ s);omega
   refine hs _ λx p=>?_;obtain⟨j,i,rfl⟩:=aN.mp p;have f:=aY.mp i;have n:=c.2 j f;have e:U4 rss (rss.map λr=>dot r a) j*a.getD j 0+(-1)*(U4 rss (rss.map λr=>dot r a) j*xs.getD j 0) = -(U4 rss (rss.map λr=>dot r a) j*(xs.getD j 0-a.getD j 0)):=by
    rw[Int.mul_sub];omega
   rw[e];by_cases g:a.getD j 0<xs.getD j 0
   .have hp:0<=U4 rss (rss.map λr=>dot r a) j:=by
     have q:=b j i;rw[d]at q;have A:¬a1A rss a j<0:=λz=>q (by simp only[dn,aM,br];exact⟨g,z⟩);show 0<=a1A rss a j;omega
    have:=Int.mul_nonneg hp (show 0<=xs.getD j 0-a.getD j 0 by omega);omega
   .have:xs.getD j 0-a.getD j 0=0:=by omega
    rw[this,Int.mul_zero];exact Int.le_refl _
  rw[a8W,a5l,p1,p2,u]at v;omega
section
variable {K:qF}
inductive IspBelow(vs:qA V)(H:Hp)(Q:VK)(E:XK):Prop
 |mk (x:_) (y:_) (xs:_) (ys:_) (_:vs=[x,y]) (_:IT H x xs) (_:IT H y ys) (_:xs.length<=1000) (_:∀H',Same H H'->Q (.bl (Bel xs ys)) H'):IspBelow  vs H Q E
def a2G:Sp:=λvs H Q E=>IspBelow  vs H Q E
def b2e:FnScope ["one","other"] ["one","other"] (A2 a2M):={}
def b2V(F:FunAt K mg "below" a2M ["one","other"])(T:Tx mg):Ok P w K mg base "below" 1 ["one","other"] a2G:=by
 refine F.okJ b2e (λj H Q E h=>?_) (λd f A c s H j Q E m h=>?_)
 .obtain⟨x,y,xs,ys,rfl,_⟩:=h;rfl
 .obtain⟨_,_,xs,ys,rfl,⟨a,rfl,ha⟩,⟨b,rfl,hb⟩,hl,k⟩:=h;refine⟨_,(A5 (A9 (N9 K rfl T.b_all (jaC (B5 (N:=["a","b"]) (src:=[none,none]) (a3G K rfl T.b_zip (jaC (jv 0) (jaC (jv 1) jaN))) (by show B6 _ _=true;rfl) (by rfl) (by rfl)
 (λ_ _ _ _ _=>(V1 K 2 (C0 (A7 (i:=0) (L2.nd ["a","b"]) rfl (Or.inl rfl)) (C0 (A7 (i:=1) (L2.nd ["a","b"]) rfl (Or.inl rfl)) N1)))) (λ_ _ _ _ _=>B8) (λ_ _ _ _ _=>(b6z (jv 0) (jv 1)))) jaN)))),?_⟩
  refine⟨_,rfl,_,rfl,true,true,a,b,rfl,⟨_,SqT.of ha⟩,⟨_,SqT.of hb⟩,?_⟩;refine b1v (caps:=[]) (λx y=>V.bl (decide (x<=y))) (sqt ha) (sqt hb) hl (λH' s=>⟨sqt (s _ _ ha),sqt (s _ _ hb)⟩) rfl (λx y H1 l _ q=>⟨_,rfl,_,rfl,_,_,rfl,rfl,q⟩) λH1 p s e=>?_;refine⟨false,p,_,rfl,SqL.of A0,?_,?_⟩
  .rw[aI];intro v g;obtain⟨i,hi,rfl⟩:=cq.mp g;rw[fX];rfl
  .rw[b8D];exact k _ (s.upd e)
inductive IspUnit(vs:qA V)(H:Hp)(Q:VK)(E:XK):Prop
 |mk (wd:Int) (n j:Nat) (_:vs=[.int wd,.int j]) (_:wd=n) (_:n<=1000) (_:j<n) (_:∀v H',Same H H'->IT H' v ((List.range n).map λi=>if i=j then 1 else 0)->Q v H'):IspUnit  vs H Q E
def b1N:Sp:=λvs H Q E=>IspUnit  vs H Q E
def b4t:FnScope ["width","j"] ["width","j"] (A2 a5B):={}
def b5h(F:FunAt K mg "unit" a5B ["width","j"])(T:Tx mg):Ok P w K mg base "unit" 1 ["width","j"] b1N:=by
 refine F.okJ b4t (λm H Q E h=>?_) (λc f A b s H m Q E r h=>?_)
 .obtain⟨_,n,j,rfl,_⟩:=h;rfl
 .obtain⟨_,n,j,rfl,rfl,hn,hj,k⟩:=h;refine⟨_,(A5 (A9 (C1 K rfl T.b_tuple (jaC (B5 (N:=["k","j"]) (src:=[none,some 1]) (J0 rfl T.b_range (jaC (jv 0) jaN)) (by show B6 _ _=true;rfl) (by rfl) (by rfl)
 (λ_ _ _ _ _=>(A7 (i:=0) (L2.nd ["k","j"]) rfl (Or.inl rfl))) (λ_ _ _ _ _=>B8) (λ_ _ _ _ _=>(b9n (a2p (jv 0) (jv 1)) A4 A4))) jaN)))),?_⟩
  refine⟨_,rfl,n,rfl,by omega,by omega,?_⟩;rw[bE];refine a0V (caps:=[some (.int j)]) (λi=>V.int (if i=j then 1 else 0)) hn rfl (λi H1 o hi _ q=>?_) λH1 p s g=>?_
  .refine⟨_,rfl,_,rfl,rfl,_,rfl,Z0 (λe=>?_) (λe=>?_)⟩
   .have e1:(i:Int)=(j:Int):=by simpa using e
    have a:i=j:=by omega
    rw[az a]at q;exact q
   .have e1:¬(i:Int)=(j:Int):=by simpa using e
    have a:i≠j:=by omega
    rw[ar a]at q;exact q
  .rw[show((List.range n).map λi=>V.int (if i=j then 1 else 0))=((List.range n).map λi=>if i=j then(1:Int)else 0).map V.int by rw[cK];rfl];refine⟨p,_,rfl,.inl ⟨SqL.of A0,λl d=>?_⟩⟩;exact k _ _ ((s.upd g).upd d) ⟨l,rfl,A0⟩
def cV:qD Int->V
 |none=>.non
 |some c=>.int c
def b1b(c:qD Int)(x:Int):Bool:=match c with|none=>true|some c=>decide (x<=c)
def Wi(cs:qA (qD Int))(xs:qI):Bool:=(List.zipWith b1b cs xs).all id
def b8E(cs:qA (qD Int))(xs:qI):(List.zipWith (λc x=>V.bl (b1b c x)) cs xs).all trV=Wi cs xs:=by
 unfold Wi;induction cs generalizing xs with
 |nil=>rfl
 |cons c cs a =>
  cases xs with
  |nil=>rfl
  |cons x xs=>rw[bq,bq,cC,cC,a];rfl
inductive IspWithin(vs:qA V)(H:Hp)(Q:VK)(E:XK):Prop
 |mk (a b:qE) (cs:qA (qD Int)) (xs:qI) (_:vs=[.ref a,.ref b]) (_:H a=some (.tup (cs.map cV))) (_:H b=some (.tup (xs.map V.int))) (_:cs.length<=1000) (_:∀H',Same H H'->Q (.bl (Wi cs xs)) H'):IspWithin  vs H Q E
def a3c:Sp:=λvs H Q E=>IspWithin  vs H Q E
def b0f:FnScope ["caps","one"] ["caps","one"] (A2 a1e):={}
def a4G(F:FunAt K mg "within" a1e ["caps","one"])(T:Tx mg):Ok P w K mg base "within" 1 ["caps","one"] a3c:=by
 refine F.okJ b0f (λl H Q E h=>?_) (λe f A d s H l Q E n h=>?_)
 .obtain⟨a,b,cs,xs,rfl,_⟩:=h;rfl
 .obtain⟨a,b,cs,xs,rfl,ha,hb,hl,k⟩:=h;refine⟨_,(A5 (A9 (N9 K rfl T.b_all (jaC (B5 (N:=["cap","number"]) (src:=[none,none]) (a3G K rfl T.b_zip (jaC (jv 0) (jaC (jv 1) jaN))) (by show B6 _ _=true;rfl) (by rfl) (by rfl)
 (λ_ _ _ _ _=>(V1 K 2 (C0 (A7 (i:=0) (L2.nd ["cap","number"]) rfl (Or.inl rfl)) (C0 (A7 (i:=1) (L2.nd ["cap","number"]) rfl (Or.inl rfl)) N1)))) (λ_ _ _ _ _=>B8) (λ_ _ _ _ _=>(b9l (b7Q (jv 0) W1) (a1n (b6z (jv 1) (jv 0)))))) jaN)))),?_⟩
  refine⟨_,rfl,_,rfl,true,true,a,b,rfl,⟨_,SqT.of ha⟩,⟨_,SqT.of hb⟩,?_⟩;refine b3Y (caps:=[]) cV V.int (λc x=>V.bl (b1b c x)) hl (λH' s=>⟨sqt (s _ _ ha),sqt (s _ _ hb)⟩) rfl (λc x H1 m _ _ _ q=>?_) λH1 p s g=>?_
  .cases c with
   |none=>exact⟨_,rfl,rfl,true,rfl,G8 (q _ (Same.refl _))⟩
   |some c=>exact⟨_,rfl,rfl,false,rfl,E1 ⟨_,rfl,_,rfl,_,_,rfl,rfl,q _ (Same.refl _)⟩⟩
  refine⟨false,p,_,rfl,SqL.of A0,?_,?_⟩
  .rw[aI];intro v j;obtain⟨i,hi,rfl⟩:=cq.mp j;rw[fX];rfl
  .rw[b8E];exact k _ (s.upd g)
end
def J7(n j:Nat):qI:=(List.range n).map λi=>if i=j then(1:Int)else 0
def K7(cs:qA (qD Int)):LLI:=((List.range cs.length).map (J7 cs.length)).filter λu=>Wi cs u
def a7A(c:qD Int)(x:Int):Bool:=match c with|none=>true|some c=>decide (x<c)
def StP(rss:LLI)(cs:qA (qD Int))(ys:qI):qA Nat:=((List.range ys.length).filter λj=>decide (a1A rss ys j<0)).filter λj=>a7A (cs.getD j none) (ys.getD j 0)
section
variable {K:qF}
inductive IspFirst(vs:qA V)(H:Hp)(Q:VK)(E:XK):Prop
 |mk (a:qE) (cs:qA (qD Int)) (_:vs=[.ref a]) (_:H a=some (.tup (cs.map cV))) (_:1<=cs.length) (_:cs.length<=100) (_:∀p zs tss H',Same H H'->H' p=some (.tup zs)->Its H' zs tss->tss.Perm (K7 cs)->C7 tss->Q (.ref p) H'):IspFirst  vs H Q E
def a5r:Sp:=λvs H Q E=>IspFirst  vs H Q E
def sc_first_steps:FnScope ["caps","units"] ["caps"] (A2 M2):={}
def a3q(F:FunAt K mg "first_steps" M2 ["caps"])(T:Tx mg)(c:Ok P w K mg base "unit" 1 ["width","j"] b1N)(b:Ok P w K mg base "within" 1 ["caps","one"] a3c):Ok P w K mg base "first_steps" 2 ["caps"] a5r:=by
 refine F.okJ sc_first_steps (λX H Q E h=>?_) (λU f A L s H X Q E n h=>?_)
 .obtain⟨a,cs,rfl,_⟩:=h;rfl
 .obtain⟨a,cs,rfl,ha,h1,h2,k⟩:=h;have Z:(3000:Nat)<=sizeLine:=by rw[aT];decide
  refine⟨_,(A1 (a5Q (i:=1) sc_first_steps.nd rfl (Or.inl rfl) (N:=["j","caps"]) (src:=[none,some 0]) (J0 rfl T.b_range (jaC (G6 K rfl T.b_len (jaC (jv 0) jaN)) jaN)) (by show B6 _ _=true;rfl) (by rfl) (by rfl)
 (λ_ _ _ _ _=>(A7 (i:=0) (L2.nd ["j","caps"]) rfl (Or.inl rfl))) (λ_ _ _ _ _=>B8) (λ_ _ _ _ _=>(A6 c (n.mono (by omega)) rfl (jaC (G6 K rfl T.b_len (jaC (jv 1) jaN)) (jaC (jv 0) jaN)))))
 (A5 (A9 (C1 K rfl T.b_tuple (jaC (Q8 K rfl T.b_sorted (jaC (B5 (N:=["one","caps"]) (src:=[none,some 0]) (E3 K (jv 1)) (by show B6 _ _=true;rfl) (by rfl) (by rfl)
 (λ_ _ _ _ _=>(A7 (i:=0) (L2.nd ["one","caps"]) rfl (Or.inl rfl))) (λ_ _ _ _ _=>(a1U (D0 K (A6 b (n.mono (by omega)) rfl (jaC (jv 1) (jaC (jv 0) jaN)))))) (λ_ _ _ _ _=>(jv 0))) jaN)) jaN))))),?_⟩
  refine⟨_,rfl,a,_,rfl,.inr (SqT.of ha),_,rfl,by rw[ai];omega,by rw[ai];omega,?_⟩;rw[bE,ai];refine a1j (caps:=[some (.ref a)]) (by omega) rfl (λi ys H'=>Same H H'/\Its H' ys ((List.range i).map (J7 cs.length))) ⟨Same.refl H,.nil⟩ (λi ys H' h=>by rw[h.2.1];simp) ?_ ?_
  .rintro i ys H' hi ⟨s',hI⟩;refine⟨_,rfl,a,_,rfl,.inr (SqT.of (s' _ _ ha)),_,rfl,_,cs.length,i,rfl,by rw[ai],by omega,hi,λv H2 s2 J=>⟨s'.trans s2,?_⟩⟩;rw[List.range_succ,bC];exact(hI.same s2).snoc J
  .rintro ys H' ⟨s',hI⟩ p hp;dsimp only[B0];have s1:=s'.upd (o:=.lst ys) hp;have e:=hI.same ((Same.refl H').upd (o:=.lst ys) hp);have y:upd H' p (.lst ys) p=some (.lst ys):=A0;generalize upd H' p (.lst ys)=H1 at s1 e y;refine⟨_,rfl,p,rfl,⟨_,SqL.of y⟩,?_⟩;have V:ys.length=cs.length:=by rw[hI.1];simp
   refine a3y (caps:=[some (.ref a)]) (λu=>Wi cs u) (by omega) (λH2 s2=>SqL.of (s2 _ _ y)) e rfl (λv r H2 Y n J s2 q=>?_) λH2 p2 d s2 m z=>?_
   .obtain⟨va,rfl,hva⟩:=J;exact⟨_,rfl,_,rfl,a,va,cs,r,rfl,(s1.trans s2) _ _ ha,hva,by omega,λt x=>⟨Wi cs r,rfl,q t x⟩⟩
   have x:=(s1.trans s2).upd (o:=.lst d) m;have g:=z.same ((Same.refl H2).upd (o:=.lst d) m);have O:upd H2 p2 (.lst d) p2=some (.lst d):=A0;generalize upd H2 p2 (.lst d)=t at x g O;refine⟨p2,d,_,rfl,.inl (SqL.of O),g,λr n=>?_,λl zs M C B G I _=>?_⟩
   .obtain⟨j,_,rfl⟩:=aN.mp (aQ.mp n).1;simp[J7];omega
   refine⟨l,_,rfl,.inl ⟨SqL.of A0,λW D=>?_⟩⟩;have R:=(Same.refl t).upd (o:=.lst zs) C;have S:=(Same.refl (upd t l (.lst zs))).upd (o:=.tup zs) D;exact k W zs M _ ((x.trans R).trans S) A0 ((B.same R).same S) G I
inductive IspRaised(vs:qA V)(H:Hp)(Q:VK)(E:XK):Prop
 |mk (y:V) (ys:qI) (j:Nat) (_:vs=[y,.int j]) (_:IT H y ys) (_:j<ys.length) (_:ys.length<=1000) (_:∀v H',Same H H'->IT H' v (bump ys j)->Q v H'):IspRaised  vs H Q E
def a6x:Sp:=λvs H Q E=>IspRaised  vs H Q E
def b0g:FnScope ["one","j"] ["one","j"] (A2 a1f):={}
def b0y(F:FunAt K mg "raised" a1f ["one","j"]):Ok P w K mg base "raised" 1 ["one","j"] a6x:=by
 refine F.okJ b0g (λd H Q E h=>?_) (λc f A b s H d Q E e h=>?_)
 .obtain⟨y,ys,j,rfl,_⟩:=h;rfl
 .obtain⟨_,ys,j,rfl,⟨a,rfl,ha⟩,hj,hl,k⟩:=h;refine⟨_,(A5 (A9 (B1 (B1 (K9 K (jv 0) C6 (C5 (jv 1))) (B3 (jaC (G7 (D5 K (jv 0) (jv 1)) A4) jaN))) (K9 K (jv 0) (C5 (G7 (jv 1) A4)) C6)))),?_⟩;exact b2r (i:=0) (j:=1) (a:=a) (xs:=ys) (k:=j) (z:=ys.getD j 0+1) rfl rfl ha hj hl (λH' N s' q=>⟨_,rfl,_,rfl,a,_,_,_,rfl,rfl,SqT.of (s' _ _ ha),R1 hj,_,_,rfl,rfl,q⟩) k
inductive IspSteps(vs:qA V)(H:Hp)(Q:VK)(E:XK):Prop
 |mk (a c:qE) (y:V) (us:qA V) (rss:LLI) (cs:qA (qD Int)) (ys:qI) (_:vs=[.ref a,.ref c,y]) (_:H a=some (.tup us)) (_:Its H us rss) (_:H c=some (.tup (cs.map cV))) (_:IT H y ys) (_:us.length<=1000) (_:ys.length<=100) (_:cs.length=ys.length) (_:Rs ys.length rss) (_:Sm ys) (_:∀p ps H',Same H H'->H' p=some (.lst ps)->Prs H' ps (bump ys) (StP rss cs ys)->Q (.ref p) H'):IspSteps  vs H Q E
def a5n:Sp:=λvs H Q E=>IspSteps  vs H Q E
def b3J(h:j<cs.length):atI (cs.map cV) (j:Int)=some (cV (cs.getD j none)):=by
 refine P7 ?_;rw[aZ,ak h];simp[av,h]
def sc_steps:FnScope ["rows","caps","one","places"] ["rows","caps","one"] (A2 a2H):={}
def b2O(F:FunAt K mg "steps" a2H ["rows","caps","one"])(T:Tx mg)(d:Ok P w K mg base "falls" 3 ["rows","one"] a9d)(b:Ok P w K mg base "raised" 1 ["one","j"] a6x):Ok P w K mg base "steps" 4 ["rows","caps","one"] a5n:=by
 refine F.okJ sc_steps (λX H Q E h=>?_) (λR f A G s H X Q E L h=>?_)
 .obtain⟨a,c,y,us,rss,cs,ys,rfl,_⟩:=h;rfl
 .obtain⟨a,c,_,us,rss,cs,ys,rfl,ha,hI,hc,⟨y,rfl,hy⟩,hl,hn,hcl,hR,hs,k⟩:=h;have Z:(3000:Nat)<=sizeLine:=by rw[aT];decide
  refine⟨_,(A1 (a5Q (i:=3) sc_steps.nd rfl (Or.inl rfl) (N:=["j","caps","one"]) (src:=[none,some 1,some 2]) (E7 K (A6 d (L.mono (by omega)) rfl (jaC (jv 0) (jaC (jv 2) jaN)))) (by show B6 _ _=true;rfl) (by rfl) (by rfl)
 (λ_ _ _ _ _=>(A7 (i:=0) (L2.nd ["j","caps","one"]) rfl (Or.inl rfl))) (λ_ _ _ _ _=>(a1U (a2x (a4K (b7S (D5 K (jv 1) (jv 0)) W1) (a1Q (b3f (D5 K (jv 2) (jv 0)) (D5 K (jv 1) (jv 0)))))))) (λ_ _ _ _ _=>(jv 0)))
 (A5 (A9 (B5 (N:=["j","one"]) (src:=[none,some 2]) (E3 K (jv 3)) (by show B6 _ _=true;rfl) (by rfl) (by rfl)
 (λ_ _ _ _ _=>(A7 (i:=0) (L2.nd ["j","one"]) rfl (Or.inl rfl))) (λ_ _ _ _ _=>B8) (λ_ _ _ _ _=>(B3 (jaC (jv 0) (jaC (A6 b (L.mono (by omega)) rfl (jaC (jv 1) (jaC (jv 0) jaN))) jaN)))))))),?_⟩
  refine⟨_,rfl,_,rfl,a,_,us,rss,ys,rfl,ha,hI,⟨y,rfl,hy⟩,hl,by omega,hR,hs,λv H1 s1 D=>?_⟩;obtain⟨W,rfl,l⟩:=D;refine⟨W,rfl,⟨_,SqT.of l⟩,?_⟩;rw[cK]at l;have n:∀j∈(List.range ys.length).filter (λj=>decide (a1A rss ys j<0)),j<ys.length:=λj g=>aY.mp (aQ.mp g).1;have t:((List.range ys.length).filter (λj=>decide (a1A rss ys j<0))).length<=ys.length:=a_ (bD _ _) (by simp);refine a9Z (caps:=[some (.ref c),some (.ref y)]) (λ(j:Nat)=>V.int j) (λj=>a7A (cs.getD j none) (ys.getD j 0)) (by omega) (λH' s=>SqT.of (s _ _ l)) rfl (λj H2 Y g s2 q=>?_) λH2 p2 s2 u=>?_
  .have hj':=n j g;refine⟨_,rfl,_,rfl,c,_,_,_,rfl,rfl,SqT.of ((s1.trans s2) _ _ hc),b3J (by omega),rfl,_,rfl,?_⟩;cases e:cs.getD j none with
   |none =>
    rw[e]at q;exact G8 (q _ (Same.refl _))
   |some z =>
    rw[e]at q;refine E1 ⟨_,rfl,_,rfl,y,_,_,_,rfl,rfl,SqT.of ((s1.trans s2) _ _ hy),R1 hj',_,rfl,_,rfl,c,_,_,_,rfl,rfl,SqT.of ((s1.trans s2) _ _ hc),b3J (by omega),?_⟩;rw[e];exact⟨_,_,rfl,rfl,_,rfl,q _ (Same.refl _)⟩
  have I:=(s1.trans s2).upd (o:=.lst ((StP rss cs ys).map λ(j:Nat)=>V.int j)) u;have r:upd H2 p2 (.lst ((StP rss cs ys).map λ(j:Nat)=>V.int j)) p2=some (.lst ((StP rss cs ys).map λ(j:Nat)=>V.int j)):=A0;have C:∀j∈StP rss cs ys,j<ys.length:=λj g=>n j (aQ.mp g).1;have U:(StP rss cs ys).length<=ys.length:=a_ (bD _ _) t;have S:((List.range ys.length).filter λj=>decide (a1A rss ys j<0)).filter (λj=>a7A (cs.getD j none) (ys.getD j 0))=StP rss cs ys:=rfl;rw[S];dsimp only[B0];generalize upd H2 p2 (.lst ((StP rss cs ys).map λ(j:Nat)=>V.int j))=J at I r;refine⟨_,rfl,p2,rfl,⟨_,SqL.of r⟩,?_⟩;refine W2 (xs:=(StP rss cs ys).map λ(j:Nat)=>V.int j) (by rw[ai];omega) (λi qs H'=>Same J H'/\Prs H' qs (bump ys) ((StP rss cs ys).take i)) ⟨Same.refl J,Prs.nil⟩ (λi qs H' _ h=>⟨SqL.of (h.1 _ _ r),by rw[h.2.1];exact bF _ _⟩) ?_ ?_
  .rintro i x qs H' hx ⟨s',hP⟩;rw[aZ]at hx;cases p:(StP rss cs ys)[i]? with
   |none=>rw[p]at hx;cases hx
   |some j =>
    rw[p]at hx;cases hx;have g:=C j (aE p);refine⟨Sub.one,_,rfl,_,rfl,_,rfl,_,ys,j,rfl,⟨y,rfl,(I.trans s') _ _ hy⟩,g,by omega,λv O M D=>?_⟩;refine⟨by show 2<=sizeLine;omega,λp5 B=>?_⟩;have m:=(Same.refl O).upd (o:=.tup [.int j,v]) B;refine⟨(s'.trans M).trans m,?_⟩;rw[bg,p];exact((hP.same M).same m).snoc A0 (D.same m)
  .rintro qs H' ⟨s',hP⟩ p4 hp4;rw[ai,bh]at hP;have m:=(Same.refl H').upd (o:=.lst qs) hp4;exact k p4 qs _ ((I.trans s').trans m) A0 (hP.same m)
def Bar(fss:LLI)(ys:qI)(j:Nat):Bool:=fss.any λf=>decide (f.getD j 0=ys.getD j 0) && Bel f ys
inductive IspBarred(vs:qA V)(H:Hp)(Q:VK)(E:XK):Prop
 |mk (l:qE) (y:V) (fs:qA V) (fss:LLI) (ys:qI) (j:Nat) (_:vs=[.ref l,y,.int j]) (_:H l=some (.lst fs)) (_:Its H fs fss) (_:IT H y ys) (_:j<ys.length) (_:ys.length<=1000) (_:(∀f∈fss,f.length=ys.length)) (_:∀H',Same H H'->Q (.bl (Bar fss ys j)) H'):IspBarred  vs H Q E
def a6E:Sp:=λvs H Q E=>IspBarred  vs H Q E
def sc_is_barred:FnScope ["found","one","j","answer"] ["found","one","j"] (A2 T5):={}
def a5L(F:FunAt K mg "is_barred" T5 ["found","one","j"])(T:Tx mg)(b:Ok P w K mg base "below" 1 ["one","other"] a2G):Ok P w K mg base "is_barred" 2 ["found","one","j"] a6E:=by
 refine F.okJ sc_is_barred (λC H Q E h=>?_) (λv f A q s H C Q E m h=>?_)
 .obtain⟨l,y,fs,fss,ys,j,rfl,_⟩:=h;rfl
 .obtain⟨l,_,fs,fss,ys,j,rfl,hl,hI,⟨y,rfl,hy⟩,hj,hn,hL,k⟩:=h;refine⟨_,(A1 (N8 (E3 K (jv 0)) (A7 (i:=3) sc_is_barred.nd rfl (Or.inl rfl))
 (A5 (C9 (a2x (a1R (a2p (D5 K (jv 3) (jv 2)) (D5 K (jv 1) (jv 2))) (a0x (D0 K (A6 b (m.mono (by omega)) rfl (jaC (jv 3) (jaC (jv 1) jaN)))))))
 (A5 (A9 K5))
 C2)))
 (A5 (A9 K5))),?_⟩
  refine⟨_,rfl,l,rfl,⟨_,SqL.of hl⟩,?_⟩;refine N7 (K:=K) (a:=l) (xs:=fs) (λi σ H'=>Ex1 λo=>An3 (σ=[some (.ref l),some (.ref y),some (.int j),o]) (Same H H') (Bar (fss.take i) ys j=false)) ⟨none,rfl,Same.refl H,rfl⟩ (λi σ H' _ ⟨_,_,s',_⟩=>SqL.of (s' _ _ hl)) ?_ ?_
  .rintro i x σ H' hx ⟨o,rfl,s',hB⟩;obtain⟨r,m,n,p⟩:=hI.mem hx;obtain⟨u,rfl,g⟩:=p.same s';have B:=hL r m;have d:Bar (fss.take (i+1)) ys j=(decide (r.getD j 0=ys.getD j 0) && Bel r ys):=by
    unfold Bar at hB⊢;rw[bg,n,List.any_append,hB];simp
   have c:(decide (r.getD j 0=ys.getD j 0) && Bel r ys)=true->Bar fss ys j=true:=λe=>by
    unfold Bar;rw[bM];exact⟨r,m,e⟩
   dsimp only[B0];refine⟨_,rfl,_,rfl,u,_,_,_,rfl,rfl,SqT.of g,R1 (by omega),_,rfl,_,rfl,y,_,_,_,rfl,rfl,SqT.of (s' _ _ hy),R1 hj,rfl,_,rfl,?_⟩;have z:decide (V.int (r.getD j 0)=V.int (ys.getD j 0))=decide (r.getD j 0=ys.getD j 0):=by simp
   rw[z];cases e:decide (r.getD j 0=ys.getD j 0)with
   |false =>
    rw[e]at d;refine E1 (E1 ?_);exact⟨_,rfl,s',d⟩
   |true =>
    rw[e]at d c;refine G8 ⟨_,rfl,_,rfl,_,_,r,ys,rfl,⟨u,rfl,g⟩,⟨y,rfl,s' _ _ hy⟩,by omega,λH2 s2=>⟨_,rfl,?_⟩⟩;cases t:Bel r ys with
    |false =>
     rw[t]at d;exact E1 ⟨_,rfl,s'.trans s2,d⟩
    |true =>
     rw[t]at c;refine G8 ?_;have:=k H2 (s'.trans s2);rw[c rfl]at this;exact this
  .rintro σ H' ⟨o,rfl,s',hB⟩;rw[hI.1,bh]at hB;have:=k H' s';rw[hB]at this;exact this
end
def a1B(rss:LLI)(cs:qA (qD Int))(F:LLI)(u v:qI):Prop:=∃j,j∈StP rss cs u/\v=bump u j/\Bar F v j=false
def b5E{a b:qI}(h:a.map (Sum.inl:Int->Key)=b.map Sum.inl):a=b:=by
 induction a generalizing b with
 |nil=>cases b with|nil=>rfl|cons _ _=>cases h
 |cons x a c =>
  cases b with
  |nil=>cases h
  |cons y b =>
   injection h with h1 h2
   injection h1 with h1
   rw[h1,c h2]
def a3D{a:LLI}(e:qL.map (·.1)=IK a):V6 qL (r.map Sum.inl)=none↔r∉a:=by
 constructor
 .intro h hm;refine b1C h ?_;rw[e];exact aN.mpr ⟨r,hm,rfl⟩
 .intro h;cases d:V6 qL (r.map Sum.inl)with
  |none=>rfl
  |some v =>
   have:=b4e d;rw[e]at this;obtain⟨q,c,b⟩:=aN.mp this;exact absurd (b5E b ▸ c) h
def a7k{a:LLI}(e:qL.map (·.1)=IK a):(V6 qL (r.map Sum.inl)).isSome=decide (r∈a):=by
 by_cases h:r∈a
 .rw[bz h];cases b:V6 qL (r.map Sum.inl)with
  |none=>exact absurd h ((a3D e).mp b)
  |some v=>rfl
 .rw[bG h,(a3D e).mpr h];rfl
def a8n(r:qI):(r.map (Sum.inl:Int->Key)).map kV=r.map V.int:=by rw[cK];rfl
def b5D{d:qE}(h:Its H vs rss)(hd:H d=some (.dT qL))(o:Off [d] H H'):Its H' vs rss :=
 ⟨h.1,λi v e=>let ⟨r,e1,a,e2,q⟩:=h.2 i v e;⟨r,e1,a,e2,o _ _ (by simpa using J8 q hd (by intro z;cases z)) q⟩⟩
def a3j{H1 H2:Hp}(s:Same H H1)(c:H a=none)(o:Off [a] H1 H2):Same H H2:=λb u e=>o b u (by simpa using A8 e c) (s b u e)
structure NxPre(H:Hp)(a c f l:qE)(us:qA V)(rss:LLI)(cs:qA (qD Int))(fs:qA V)(F:LLI)(ls:qA V)(L:LLI):Prop where
 ha:H a=some (.tup us)
 hI:Its H us rss
 hc:H c=some (.tup (cs.map cV))
 hf:H f=some (.lst fs)
 hF:Its H fs F
 hl:H l=some (.lst ls)
 hL:Its H ls L
 us1:us.length<=1000
 n1:1<=cs.length
 n2:cs.length<=100
 hR:Rs cs.length rss
 fw:∀v∈F,v.length=cs.length
 lw:∀v∈L,v.length=cs.length/\Sm v
 big:L.length*cs.length+100<=100000
section
variable {K:qF}
inductive IspNext(vs:qA V)(H:Hp)(Q:VK)(E:XK):Prop
 |mk (a c f l:qE) (r:V) (us:qA V) (rss:LLI) (cs:qA (qD Int)) (fs:qA V) (F:LLI) (ls:qA V) (L:LLI) (_:vs=[.ref a,.ref c,.ref f,.ref l,r]) (_:NxPre H a c f l us rss cs fs F ls L) (_:(r=.non∨∃m:Int,r=.int m/\0<=m)) (_:∀p zs tss H',Same H H'->H p=none->H' p=some (.lst zs)->Its H' zs tss->C7 tss->tss.Nodup->(∀v∈tss,∃u∈L,a1B rss cs F u v)->((∀u∈L,∀v,a1B rss cs F u v->v∈tss)∨∃m:Int,r=.int m/\m<tss.length)->tss.length<=L.length*cs.length->(∀m:Int,r=.int m->(tss.length:Int)<=m+cs.length)->Q (.ref p) H'):IspNext  vs H Q E
def b1R:Sp:=λvs H Q E=>IspNext  vs H Q E
def sc_next_level:FnScope ["rows","caps","found","level","room","met","one","j","more"] ["rows","caps","found","level","room"] (A2 O5):={}
def a4m(F':FunAt K mg "next_level" O5 ["rows","caps","found","level","room"])(T:Tx mg)(I:Ok P w K mg base "steps" 4 ["rows","caps","one"] a5n)(n:Ok P w K mg base "is_barred" 2 ["found","one","j"] a6E):Ok P w K mg base "next_level" 5 ["rows","caps","found","level","room"] b1R:=by
 refine F'.okJ sc_next_level (λvs H Q E h=>?_) (λc7 f A c2 s H vs Q E hr h=>?_)
 .obtain⟨a,c,f,l,r,us,rss,cs,fs,F,ls,L,rfl,_⟩:=h;rfl
 .obtain⟨a,c,f,l,r,us,rss,cs,fs,F,ls,L,rfl,N,hroom,k⟩:=h;have O:=hr.u60;have hz:(100000:Nat)<=sizeLine:=by rw[aT];decide
  have c5:=N.big;refine⟨_,(A1 (B2 (i:=5) sc_next_level.nd rfl (Or.inl rfl) a5S)
 (A1 (N8 (E3 K (jv 3)) (A7 (i:=6) sc_next_level.nd rfl (Or.inl rfl))
 (A1 (N8 (E3 K (A6 I (hr.mono (by omega)) rfl (jaC (jv 0) (jaC (jv 1) (jaC (jv 6) jaN))))) (V1 K 2 (C0 (A7 (i:=7) sc_next_level.nd rfl (Or.inl rfl)) (C0 (A7 (i:=8) sc_next_level.nd rfl (Or.inl rfl)) N1)))
 (A5 (C9 (a2x (a1R (b0M O (jv 8) (jv 5) (by with_unfolding_all rfl)) (a0x (J4 (D0 K (A6 n (hr.mono (by omega)) rfl (jaC (jv 2) (jaC (jv 8) (jaC (jv 7) jaN)))))))))
 (A5 (b5x O (jv 5) (jv 8) K5))
 C2)))
 (A5 (C9 (a2x (a1R (a9y (jv 4) W1) (a0x (a9z (b5y rfl T.b_len (jaC (jv 5) jaN)) (jv 4)))))
 (A5 b3j)
 C2))))
 (A5 (A9 (b3l rfl T.b_sorted (jaC (jv 5) jaN)))))),?_⟩
  intro d hd;dsimp only[B0];have s0:=(Same.refl H).upd (o:=.dT []) hd;have e0:upd H d (.dT []) d=some (.dT []):=A0;generalize upd H d (.dT [])=H0 at s0 e0;have fin:∀(qL:qA (qA Key×V)) (g:LLI) (σ:L2.St) (H':Hp),σ[5]?=some (some (.ref d))->Same H H'->H' d=some (.dT qL)->qL.map (·.1)=IK g->g.Nodup->(∀v∈g,∃u∈L,a1B rss cs F u v)->((∀u∈L,∀v,a1B rss cs F u v->v∈g)∨∃m:Int,r=.int m/\m<g.length)->g.length<=L.length*cs.length->(∀m:Int,r=.int m->(g.length:Int)<=m+cs.length) ->
    b6O (tCB a8a (K8 (L4 5) R5)) {nx:=λx H'=>Q V.non H',rt:=Q} σ H':=by
   intro qL g σ H' hσ s' M y D h1 h2 S J;refine⟨_,hσ,d,qL,g,rfl,M,y,λv t=>?_,λp zs c3 hp hI G b9=>?_⟩
   .obtain⟨u,O,j,_,rfl,_⟩:=h1 v t;rw[I0,(N.lw u O).1];exact N.n1
   refine k p zs c3 _ (s'.upd hp) (s'.free hp) A0 (hI.same ((Same.refl H').upd hp)) b9 (G.symm.nodup D) (λv t=>h1 v (G.mem_iff.mp t)) ?_ (by rw[G.length_eq];exact S) λm e=>by rw[G.length_eq];exact J m e
   rcases h2 with h2|⟨m,e,h2⟩
   .exact .inl λu O v t=>G.mem_iff.mpr (h2 u O v t)
   .exact .inr ⟨m,e,by rw[G.length_eq];exact h2⟩
  refine⟨_,rfl,l,rfl,⟨_,SqL.of (s0 _ _ N.hl)⟩,?_⟩;refine N7 (K:=K) (a:=l) (xs:=ls) (λi σ H'=>Ex5 λo6 W X qL g=>An9 (σ=[some (.ref a),some (.ref c),some (.ref f),some (.ref l),some r,some (.ref d),o6,W,X]) (Same H H') (H' d=some (.dT qL)) (qL.map (·.1)=IK g) (g.Nodup) ((∀v∈g,∃u∈L,a1B rss cs F u v)) ((∀u∈L.take i,∀v,a1B rss cs F u v->v∈g)) (g.length<=i*cs.length) (∀m:Int,r=.int m->(g.length:Int)<=m))
   ⟨none,none,none,[],[],rfl,s0,e0,rfl,fm,(λ_ z=>nomatch z),(λ_ z=>by simp at z),by simp,λm e=>?_⟩ (λi σ H' _ h=>by obtain⟨_,_,_,_,_,_,s',_⟩:=h;exact SqL.of (s' _ _ N.hl)) ?_ ?_
  .rcases hroom with e'|⟨m',e',hm'⟩
   .rw[e']at e;cases e
   .rw[e']at e;cases e;simpa using hm'
  .rintro i x σ H' hx ⟨o6,W,X,qL,g,rfl,s',M,y,D,h1,h2,S,J⟩;obtain⟨ys,a9,b0,c1⟩:=N.hL.mem hx;obtain⟨yw,c4⟩:=N.lw ys a9;have b6:i<L.length:=(aL.mp b0).1;have d0:(i+1)*cs.length<=L.length*cs.length:=Nat.mul_le_mul_right _ b6;have c6:(i+1)*cs.length=i*cs.length+cs.length:=by rw[Nat.add_mul,Nat.one_mul]
   dsimp only[B0];have b2:Rs ys.length rss:=by rw[yw];exact N.hR
   refine⟨_,rfl,_,rfl,_,rfl,a,c,x,us,rss,cs,ys,rfl,s' _ _ N.ha,N.hI.same s',s' _ _ N.hc,c1.same s',N.us1,by rw[yw];exact N.n2,yw.symm,b2,c4,λp1 ps H1 s1 a0 Z=>?_⟩;have C:=s1 _ _ M;have a1:=s'.trans s1;refine⟨p1,rfl,⟨_,SqL.of a0⟩,?_⟩;have c0:∀j∈StP rss cs ys,j<ys.length:=λj hj=>aY.mp (aQ.mp (aQ.mp hj).1).1;have d3:(StP rss cs ys).length<=cs.length:=by rw[<-yw];exact a_ (bD _ _) (a_ (bD _ _) (by simp))
   have b4:d≠p1:=J8 C a0 (by intro z;cases z);refine N7 (K:=K) (a:=p1) (xs:=ps) (λU σ H2=>Ex4 λW X qL g=>An10 (σ=[some (.ref a),some (.ref c),some (.ref f),some (.ref l),some r,some (.ref d),some x,W,X]) (Off [d] H1 H2) (H2 d=some (.dT qL)) (qL.map (·.1)=IK g) (g.Nodup) ((∀v∈g,∃u∈L,a1B rss cs F u v)) ((∀u∈L.take i,∀v,a1B rss cs F u v->v∈g)) ((∀j∈(StP rss cs ys).take U,Bar F (bump ys j) j=false->bump ys j∈g)) (g.length<=i*cs.length+U) (∀m:Int,r=.int m->(g.length:Int)<=m+U))
    ⟨W,X,qL,g,rfl,Off.refl _ _,C,y,D,h1,h2,(λ_ z=>by simp at z),S,λm e=>by have:=J m e;omega⟩ (λU σ H2 _ h=>by obtain⟨_,_,_,_,_,o2,_⟩:=h;exact SqL.of (o2 _ _ (by simpa using b4.symm) a0)) ?_ ?_
   .rintro U q σ H2 hq ⟨W,X,qL,g,rfl,off2,hd2,y,D,h1,h2,h5,S,J⟩;obtain⟨j,b,v,ej,rfl,hb,t⟩:=Z.2 U q hq;obtain⟨va,rfl,a8⟩:=t;have a6:=aE ej;have hj:=c0 j a6;have b3:=off2 _ _ (by simpa using J8 hb C (by intro z;cases z)) hb;have R:=off2 _ _ (by simpa using J8 a8 C (by intro z;cases z)) a8;have hf1:=a1 _ _ N.hf;have b5:=off2 _ _ (by simpa using J8 hf1 C (by intro z;cases z)) hf1;have b1:=b5D (N.hF.same a1) C off2;have c9:U<(StP rss cs ys).length:=(aL.mp ej).1;have b8:qL.length=g.length:=by
     have:=aU List.length y;simpa[IK]using this
    have Y:∀B:LLI,(∀v∈g,v∈B)->(Bar F (bump ys j) j=false->bump ys j∈B)->∀j'∈(StP rss cs ys).take (U+1),Bar F (bump ys j') j'=false->bump ys j'∈B:=λB a7 b7 j' a5 a3=>by
     rw[bg,ej]at a5;rcases ao.mp a5 with z|z
     .exact a7 _ (h5 j' z a3)
     .have:j'=j:=by simpa using z
      subst this;exact b7 a3
    refine⟨b,[.int j,.ref va],rfl,SqT.of b3,rfl,.int j,[.ref va],rfl,.ref va,[],rfl,rfl,?_⟩;refine⟨_,rfl,_,rfl,d,_,rfl,DGet.t hd2 (by rw[a8n];exact R),_,rfl,?_⟩;rw[a7k y];by_cases hm:bump ys j∈g
    .rw[bz hm];refine E1 (E1 ?_);exact⟨_,_,qL,g,rfl,off2,hd2,y,D,h1,h2,Y g (λ_ z=>z) (λ_=>hm),by omega,λm e=>by have:=J m e;omega⟩
    .rw[bG hm];refine G8 ⟨_,rfl,_,rfl,_,rfl,f,.ref va,fs,F,bump ys j,j,rfl,b5,b1,⟨va,rfl,R⟩,by rw[I0];exact hj,by rw[I0,yw];have:=N.n2;omega,λv t=>by rw[I0,yw];exact N.fw v t,λH3 s3=>⟨_,rfl,?_⟩⟩;have a4:=s3 _ _ hd2;cases e:Bar F (bump ys j) j with
     |true =>
      refine E1 ?_;exact⟨_,_,qL,g,rfl,off2.trans s3.off,a4,y,D,h1,h2,Y g (λ_ z=>z) (λz=>by rw[e]at z;cases z),by omega,λm e=>by have:=J m e;omega⟩
     |false =>
      refine G8 ?_;refine⟨_,rfl,_,rfl,d,_,rfl,DPut.t a4 (by rw[a8n];exact s3 _ _ R) (by omega),?_⟩;rw[a6S _ ((a3D y).mpr hm)];refine⟨_,_,_,g++[bump ys j],rfl,(off2.trans s3.off).set (by simp),A0,by rw[bC,y];simp[IK],a9t D hm,λv t=>?_,λu O v t=>aO _ (h2 u O v t),Y _ (λv t=>aO _ t) (λ_=>by simp),by rw[ag];simp;omega,λm e=>by have:=J m e;rw[ag];simp;omega⟩;rcases ao.mp t with z|z
      .exact h1 v z
      .rw[au.mp z];exact⟨ys,a9,j,a6,rfl,e⟩
   .rintro σ H2 ⟨W,X,qL,g,rfl,off2,hd2,y,D,h1,h2,h5,S,J⟩;rw[Z.1,bh]at h5;have b8:qL.length=g.length:=by
     have:=aU List.length y;simpa[IK]using this
    have d2:=Z.1;have s2:Same H H2:=a3j a1 hd off2;have a2:∀u∈L.take (i+1),∀v,a1B rss cs F u v->v∈g:=λu O v t=>by
     rw[bg,b0]at O;rcases ao.mp O with z|z
     .exact h2 u z v t
     .have:u=ys:=by simpa using z
      subst this;obtain⟨j,hj,rfl,hb⟩:=t;exact h5 j hj hb
    rcases hroom with rfl|⟨m,rfl,d1⟩
    .refine⟨_,rfl,rfl,_,rfl,E1 (E1 ?_)⟩;exact⟨_,_,_,qL,g,rfl,s2,hd2,y,D,h1,a2,by omega,λm e=>by cases e⟩
    .refine⟨_,rfl,rfl,_,rfl,G8 ?_⟩;refine⟨_,rfl,d,qL,rfl,hd2,_,rfl,_,_,rfl,rfl,_,rfl,Z0 (λe=>?_) (λe=>?_)⟩
     .have e':m<(qL.length:Int):=bp e;have c8:=J m rfl;exact fin qL g _ H2 rfl s2 hd2 y D h1 (.inr ⟨m,rfl,by omega⟩) (by omega) λm' e2=>by cases e2;omega
     .have e':¬m<(qL.length:Int):=λz=>e (bz z);exact⟨_,_,_,qL,g,rfl,s2,hd2,y,D,h1,a2,by omega,λm' e2=>by cases e2;omega⟩
  .rintro σ H' ⟨o6,W,X,qL,g,rfl,s',M,y,D,h1,h2,S,J⟩;rw[N.hL.1,bh]at h2;exact fin qL g _ H' rfl s' M y D h1 (.inl h2) (by rw[N.hL.1]at S;exact S) λm e=>by have:=J m e;omega
end
def ffl(ra ca:qE)(b:Bool)(ah af aw:qE):qA (Str×V):=[("rows",.ref ra),("caps",.ref ca),("begun",.bl b),("here",.ref ah),("found",.ref af),("walked",.ref aw)]
section
variable (ra ca ah ah' af aw:qE)(b b':Bool)
def a7t:(ffl ra ca b ah af aw).lookup ("rows" : Str)=some (.ref ra):=by with_unfolding_all rfl
def a7u:(ffl ra ca b ah af aw).lookup ("caps" : Str)=some (.ref ca):=by with_unfolding_all rfl
def a4R:(ffl ra ca b ah af aw).lookup ("begun" : Str)=some (.bl b):=by with_unfolding_all rfl
def a0h:(ffl ra ca b ah af aw).lookup ("here" : Str)=some (.ref ah):=by with_unfolding_all rfl
def a1X:(ffl ra ca b ah af aw).lookup ("found" : Str)=some (.ref af):=by with_unfolding_all rfl
def a3S:(ffl ra ca b ah af aw).lookup ("walked" : Str)=some (.ref aw):=by with_unfolding_all rfl
def a6R:K3 "here" (.ref ah') (ffl ra ca b ah af aw)=ffl ra ca b ah' af aw:=by with_unfolding_all rfl
def b0m:K3 "begun" (.bl b') (ffl ra ca b ah af aw)=ffl ra ca b' ah af aw:=by with_unfolding_all rfl
def a6Q:K3 "walked" (.ref aw) (K3 "found" (.ref af) (K3 "here" (.ref ah) (K3 "begun" (.bl b) (K3 "caps" (.ref ca) (K3 "rows" (.ref ra) [])))))=ffl ra ca b ah af aw:=by with_unfolding_all rfl
def b3z:(ffl ra ca b ah af aw).lookup ("told" : Str)=none:=by with_unfolding_all rfl
def b0U:(ffl ra ca b ah af aw).lookup ("paper" : Str)=none:=by with_unfolding_all rfl
def b0V:(ffl ra ca b ah af aw).lookup ("ended" : Str)=none:=by with_unfolding_all rfl
def a2z:(ffl ra ca b ah af aw).lookup ("step_within" : Str)=none:=by with_unfolding_all rfl
end
structure FiTx(K:qF)(C:qE):Prop where
 cl:Cls K C
 n1:NoAttr K C "rows"
 n2:NoAttr K C "caps"
 n3:NoAttr K C "begun"
 n4:NoAttr K C "here"
 n5:NoAttr K C "found"
 n6:NoAttr K C "walked"
structure FAt(C:qE)(H:Hp)(p ra ca af aw:qE)(b:Bool)(L F W:LLI):Prop where
 ob:∃dx ah hs,H p=some (.ins C dx (ffl ra ca b ah af aw))/\H ah=some (.lst hs)/\Its H hs L/\ah≠af/\ah≠aw
 hf:∃fs,H af=some (.lst fs)/\Its H fs F
 hw:∃ws,H aw=some (.lst ws)/\Its H ws W
 ne:af≠aw
def FAt.same{C:qE}{H H':Hp}{p ra ca af aw:qE}{b:Bool}{L F W:LLI}(h:FAt C H p ra ca af aw b L F W)(s:Same H H'):FAt C H' p ra ca af aw b L F W:=by
 obtain⟨⟨dx,ah,hs,h1,h2,a,c,d⟩,⟨fs,f1,f2⟩,⟨e,w1,w2⟩,ne⟩:=h;exact⟨⟨dx,ah,hs,s _ _ h1,s _ _ h2,a.same s,c,d⟩,⟨fs,s _ _ f1,f2.same s⟩,⟨e,s _ _ w1,w2.same s⟩,ne⟩
structure SyAt(H:Hp)(a c:qE)(rss:LLI)(cs:qA (qD Int)):Prop where
 ex:∃us,H a=some (.tup us)/\Its H us rss/\us.length<=1000
 hc:H c=some (.tup (cs.map cV))
 n1:1<=cs.length
 n2:cs.length<=100
 hR:Rs cs.length rss
def SyAt.same{H H':Hp}{a c:qE}{rss:LLI}{cs:qA (qD Int)}(h:SyAt H a c rss cs)(s:Same H H'):SyAt H' a c rss cs:=by
 obtain⟨⟨g,h1,h2,b⟩,d,e,f,hR⟩:=h;exact⟨⟨g,s _ _ h1,h2.same s,b⟩,s _ _ d,e,f,hR⟩
structure StR(rss:LLI)(cs:qA (qD Int))(b:Bool)(L F:LLI)(r:V)(L':LLI):Prop where
 ri:C7 L'
 nd:L'.Nodup
 fst:b=false->∀v,v∈L'↔v∈K7 cs
 snd:b=true->∀v∈L',∃u∈L,a1B rss cs F u v
 all:b=true->(∀u∈L,∀v,a1B rss cs F u v->v∈L')∨∃m:Int,r=.int m/\m<L'.length
 len:L'.length<=cs.length+L.length*cs.length
 few:∀m:Int,r=.int m->(L'.length:Int)<=m+cs.length
def V7(n j i:Nat)(hi:i<n):(J7 n j).getD i 0=if i=j then 1 else 0:=by
 unfold J7;simp[av,hi]
def L3(n j:Nat):(J7 n j).length=n:=by simp[J7]
def b0T(cs:qA (qD Int)):(K7 cs).Nodup:=by
 unfold K7;refine List.Nodup.sublist (List.filter_sublist) ?_;unfold List.Nodup;rw[bL];refine(fM (n:=cs.length)).imp_of_mem λ{i j} hi b a e=>?_;have h1:(J7 cs.length i).getD i 0=(J7 cs.length j).getD i 0:=aU (λl:qI=>l.getD i 0) e;rw[V7 _ _ _ (aY.mp hi),V7 _ _ _ (aY.mp hi),az rfl,ar a]at h1;omega
def lp{f:Str}{v:V}{fs:qA (Str×V)}(h:fs.length<=k):(K3 f v fs).length<=k+1:=by
 refine a_ ?_ (fH h);clear h;induction fs with
 |nil=>exact aq _
 |cons p r a =>
  obtain⟨g,x⟩:=p;show(if g=f then(g,v)::r else(g,x)::K3 f v r).length<=_;split
  .simp
  .simpa using a
section
variable {K:qF}
inductive IspFInit(C:qE)(vs:qA V)(H:Hp)(Q:VK)(E:XK):Prop
 |mk (p dx ra ca:qE) (_:vs=[.ref p,.ref ra,.ref ca]) (_:H p=some (.ins C dx [])) (_:∀(af aw:qE) (H':Hp),H af=none->H aw=none->FAt C H' p ra ca af aw false [] [] []->(∃dx ah,H' p=some (.ins C dx (ffl ra ca false ah af aw))/\H ah=none)->(∀b o,H b=some o->b≠p->H' b=some o)->Q .non H'):IspFInit C vs H Q E
def a9e(C:qE):Sp:=λvs H Q E=>IspFInit C vs H Q E
def a0U:FnScope ["self","rows","caps"] ["self","rows","caps"] (A2 G3):={}
def b2S(J:MethAt K C "__init__" "Finder.__init__" G3 ["self","rows","caps"])(U:FiTx K C):MethOk P w K mg base C "__init__" 1 ["self","rows","caps"] (a9e C):=by
 refine J.fnJ a0U (λM H Q E h=>?_) (λL f A G s H M Q E N h=>?_)
 .obtain⟨p,dx,ra,ca,rfl,_⟩:=h;rfl
 .obtain⟨p,dx,ra,ca,rfl,hp,k⟩:=h;refine⟨_,(A1 (X5 K (jv 0) (jv 1))
 (A1 (X5 K (jv 0) (jv 2))
 (A1 (X5 K (jv 0) K5)
 (A1 (X5 K (jv 0) (L0 jaN))
 (A1 (X5 K (jv 0) (L0 jaN))
 (A5 (X5 K (jv 0) (L0 jaN)))))))),?_⟩
  have t:([]:qA (Str×V)).length<=0:=aq _;refine⟨_,rfl,_,rfl,p,C,dx,_,rfl,hp,U.cl,U.n1,fh t (by decide),?_⟩;refine⟨_,rfl,_,rfl,p,C,dx,_,rfl,A0,U.cl,U.n2,fh (lp t) (by decide),?_⟩;rw[a5i];refine⟨_,rfl,p,C,dx,_,rfl,A0,U.cl,U.n3,fh (lp (lp t)) (by decide),?_⟩;rw[a5i];generalize F:K3 "begun" (V.bl false) (K3 "caps" (.ref ca) (K3 "rows" (.ref ra) []))=r;have I:r.length<=3:=by rw[<-F];exact lp (lp (lp t))
  have k1:∀b o,H b=some o->b≠p->upd H p (.ins C dx r) b=some o:=λb o e c=>by rw[A3 c];exact e
  have D:upd H p (.ins C dx r) p=some (.ins C dx r):=A0;have u:∀b,upd H p (.ins C dx r) b=none->H b=none:=λb e=>by
   by_cases c:b=p
   .subst c;rw[A0]at e;cases e
   .rwa[A3 c]at e
  generalize upd H p (.ins C dx r)=H1 at k1 D u;refine⟨bu _,λah n=>?_⟩;have x:p≠ah:=A8 D n;refine⟨_,rfl,p,C,dx,_,rfl,by rw[A3 x];exact D,U.cl,U.n4,by omega,?_⟩;refine⟨bu _,λaf m=>?_⟩;have y:p≠af:=λz=>by subst z;rw[A0]at m;cases m
  have g:upd H1 ah (.lst []) af=none:=by rwa[A3 y.symm]at m
  have j:ah≠af:=A8 (o:=.lst []) A0 g;have d:H1 af=none:=by rwa[A3 j.symm]at g
  refine⟨_,rfl,p,C,dx,_,rfl,by rw[A3 y];exact A0,U.cl,U.n5,by have:=lp (f:="here") (v:=.ref ah) I;omega,?_⟩;refine⟨bu _,λaw q=>?_⟩;have B:p≠aw:=λz=>by subst z;rw[A0]at q;cases q
  have a:=q;rw[A3 B.symm]at a;have i:af≠aw:=A8 (o:=.lst []) A0 a;rw[A3 i.symm,A3 B.symm]at a;have l:ah≠aw:=A8 (o:=.lst []) A0 a;rw[A3 l.symm]at a;refine⟨_,rfl,p,C,dx,_,rfl,by rw[A3 B];exact A0,U.cl,U.n6,by have:=lp (f:="found") (v:=.ref af) (lp (f:="here") (v:=.ref ah) I);omega,?_⟩;refine k af aw _ (u _ d) (u _ a) ⟨⟨dx,ah,[],?_,?_,.nil,j,l⟩,⟨[],?_,.nil⟩,⟨[],?_,.nil⟩,i⟩ ⟨dx,ah,by rw[A0,<-F,<-a6Q],u _ n⟩ λb o e c=>?_
  .rw[A0,<-F,<-a6Q]
  .rw[A3 x.symm,A3 l,A3 x.symm,A3 j,A3 x.symm,A0]
  .rw[A3 y.symm,A3 i,A3 y.symm,A0]
  .rw[A3 B.symm,A0]
  .have e2:=k1 b o e c;rw[A3 c,A3 (A8 e2 a),A3 c,A3 (A8 e2 d),A3 c,A3 (A8 e2 n)];exact e2
def a5U:∀{vs c:qA V}{rss tss:LLI},Its H vs rss->Its H c tss->Its H (vs++c) (rss++tss):=by
 intro vs c rss tss h g;refine⟨by rw[ag,ag,h.1,g.1],λi v e=>?_⟩;rcases Nat.lt_or_ge i vs.length with hi|hi
 .rw[bA hi]at e;obtain⟨r,a,b⟩:=h.2 i v e;exact⟨r,by rw[bA (by rw[<-h.1];exact hi)];exact a,b⟩
 .rw[ba hi]at e;obtain⟨r,a,b⟩:=g.2 _ v e;exact⟨r,by rw[ba (by rw[<-h.1];exact hi),<-h.1];exact a,b⟩
def a0z{o':HO}(h:Its H vs rss)(b:H c=some o)(d:∀xs,HO.tup xs≠o):Its (upd H c o') vs rss :=
 ⟨h.1,λi v e=>let ⟨r,e1,a,e2,q⟩:=h.2 i v e;⟨r,e1,a,e2,by rw[A3 (J8 q b (d _))];exact q⟩⟩
def a3M(h:Its H vs rss)(b:H c=some o)(d:∀xs,HO.tup xs≠o)(off:Off [c] H H'):Its H' vs rss :=
 ⟨h.1,λi v e=>let ⟨r,e1,a,e2,q⟩:=h.2 i v e;⟨r,e1,a,e2,off _ _ (by simpa using J8 q b (d _)) q⟩⟩
def b4h(h:SyAt H a c rss cs)(d:H b=some o)(e:∀xs,HO.tup xs≠o)(off:Off [b] H H'):SyAt H' a c rss cs:=by
 obtain⟨⟨k,h1,h2,g⟩,f,i,j,hR⟩:=h;exact⟨⟨k,off _ _ (by simpa using J8 h1 d (e _)) h1,a3M h2 d e off,g⟩,off _ _ (by simpa using J8 f d (e _)) f,i,j,hR⟩
def b4l{B:Int}(h:∀x∈u,0<=x/\x<=B)(b:B<=2 ^ 60):∀x∈bump u j,0<=x/\x<=2 ^ 60+1:=by
 intro x a;unfold bump at a;rcases dR a with z|z
 .have:=h x z;omega
 .by_cases hj:j<u.length
  .have:=h _ (cc (h:=hj));rw[av,ak hj]at z;simp at z;omega
  .rw[av,cm (by omega)]at z;simp at z;omega
inductive IspStepW(C:qE)(vs:qA V)(H:Hp)(Q:VK)(E:XK):Prop
 |mk (p ra ca af aw:qE) (b:Bool) (L F W rss:LLI) (cs:qA (qD Int)) (r:V) (B:Int) (_:vs=[.ref p,r]) (_:FAt C H p ra ca af aw b L F W) (_:SyAt H ra ca rss cs) (_:(r=.non∨∃m:Int,r=.int m/\0<=m)) (_:(∀v∈L,v.length=cs.length/\∀x∈v,0<=x/\x<=B)) (_:B<=2 ^ 60) (_:(∀v∈F,v.length=cs.length)) (_:L.length*cs.length+100<=100000) (_:F.length<=100000) (_:W.length<=100000) (_:∀L' H',StR rss cs b L F r L'->FAt C H' p ra ca af aw true L' (F++L'.filter λv=>Ans rss v) (W++L')->(∃dx ah,H' p=some (.ins C dx (ffl ra ca true ah af aw))/\H ah=none)->Off [p,af,aw] H H'->Q (.int L'.length) H'):IspStepW C vs H Q E
def a5o(C:qE):Sp:=λvs H Q E=>IspStepW C vs H Q E
def b2j{ra ca af aw:qE}{b:Bool}{r:V}{B:Int}(hi:σ[i]?=some (some (.ref p)))(h:σ[j]?=some (some r))(D:FAt C H p ra ca af aw b L F W)(Y:SyAt H ra ca rss cs)(h1:r=.non∨∃m:Int,r=.int m/\0<=m)(h2:∀v∈L,v.length=cs.length/\∀x∈v,0<=x/\x<=B)(c:B<=2 ^ 60)(d:∀v∈F,v.length=cs.length)(e:L.length*cs.length+100<=100000)(f:F.length<=100000)(g:W.length<=100000)
  (k:∀L' H',StR rss cs b L F r L'->FAt C H' p ra ca af aw true L' (F++L'.filter λv=>Ans rss v) (W++L')->(∃dx ah,H' p=some (.ins C dx (ffl ra ca true ah af aw))/\H ah=none)->Off [p,af,aw] H H'->Q (.int L'.length) H'):a2i C "step_within" (a5o C) [] E0 (L4 i) (K8 (L4 j) R5) σ H Q:=by
 obtain⟨⟨dx,ah,hs,a,_⟩,_,_,_⟩:=id D;exact⟨_,hi,p,dx,_,rfl,a,a2z _ _ _ _ _ _,_,h,p,ra,ca,af,aw,b,L,F,W,rss,cs,r,B,rfl,D,Y,h1,h2,c,d,e,f,g,k⟩
def Y9:FnScope ["self","room"] ["self","room"] (A2 D6):={}
def b2N(FM:MethAt K C "step_within" "Finder.step_within" D6 ["self","room"])(U:FiTx K C)(T:Tx mg)(d:Ok P w K mg base "next_level" 5 ["rows","caps","found","level","room"] b1R)(a:Ok P w K mg base "first_steps" 2 ["caps"] a5r)(n:Ok P w K mg base "is_answer" 3 ["rows","one"] a2F) :
  MethOk P w K mg base C "step_within" 6 ["self","room"] (a5o C):=by
 refine FM.fnJ Y9 (λvs H Q E h=>?_) (λc8 f A c4 s H vs Q E hr h=>?_)
 .obtain⟨p,ra,ca,af,aw,b,L,F,W,rss,cs,r,B,rfl,_⟩:=h;rfl
 .obtain⟨p,ra,ca,af,aw,b,L,F,W,rss,cs,r,B,rfl,D,Y,hroom,hL,hB,hF,hbig,hF1,hW1,k⟩:=h;have hz:(300000:Nat)<=sizeLine:=by rw[aT];decide
  obtain⟨⟨dx,ah,hs,h1,h2,h3,h4,h5⟩,⟨fs,f1,f2⟩,⟨ws,w1,w2⟩,ne⟩:=id D;have b4:p≠af:=J8 h1 f1 (by intro z;cases z);have b5:p≠aw:=J8 h1 w1 (by intro z;cases z);refine⟨_,(A1 (C9 (D0 K (O1 K (jv 0)))
 (A5 (X5 K (jv 0) (A6 d (hr.mono (by omega)) rfl (jaC (O1 K (jv 0)) (jaC (O1 K (jv 0)) (jaC (O1 K (jv 0)) (jaC (O1 K (jv 0)) (jaC (jv 1) jaN))))))))
 (A1 (X5 K (jv 0) (a0y K rfl T.b_list (jaC (A6 a (hr.mono (by omega)) rfl (jaC (O1 K (jv 0)) jaN)) jaN)))
 (A5 (X5 K (jv 0) K5))))
 (A1 (G4 (a4L K (O1 K (jv 0)) (jaC (B5 (N:=["one","self"]) (src:=[none,some 0]) (E3 K (O1 K (jv 0))) (by show B6 _ _=true;rfl) (by rfl) (by rfl)
 (λ_ _ _ _ _=>(A7 (i:=0) (L2.nd ["one","self"]) rfl (Or.inl rfl))) (λ_ _ _ _ _=>(a1U (D0 K (A6 n (hr.mono (by omega)) rfl (jaC (O1 K (jv 1)) (jaC (jv 0) jaN)))))) (λ_ _ _ _ _=>(jv 0))) jaN)))
 (A1 (G4 (a4L K (O1 K (jv 0)) (jaC (O1 K (jv 0)) jaN)))
 (A5 (A9 (G6 K rfl T.b_len (jaC (O1 K (jv 0)) jaN))))))),?_⟩
  refine R8 (λσ H'=>σ=[some (.ref p),some r]/\∃ah' c L',H' p=some (.ins C dx (ffl ra ca true ah' af aw))/\H' ah'=some (.lst c)/\Its H' c L'/\H ah'=none/\StR rss cs b L F r L'/\Off [p] H H'/\∀v∈L',v.length=cs.length/\Sm v) ?fin λfin=>?_
  case fin =>
   rintro σ H1 ⟨rfl,ah',c,L',p1,a1,i1,a0,R,g,b9⟩;have c1:=Y.n2;have b2:L'.length<=100000:=by have:=R.len;omega
   have a7:=g _ _ (by simpa using b4.symm) f1;have c6:=g _ _ (by simpa using b5.symm) w1;have b7:=a3M f2 h1 (λ_ z=>by cases z) g;have c7:=a3M w2 h1 (λ_ z=>by cases z) g;have Y1:=b4h Y h1 (λ_ z=>by cases z) g;have a8:ah'≠af:=(A8 f1 a0).symm;have b0:ah'≠aw:=(A8 w1 a0).symm;have c9:p≠ah':=A8 h1 a0;refine⟨_,rfl,p,C,dx,_,_,rfl,p1,U.cl,U.n5,a1X _ _ _ _ _ _,.inl ⟨rfl,_,SqL.of a7⟩,?_⟩;refine⟨_,rfl,p,C,dx,_,_,rfl,p1,U.cl,U.n4,a0h _ _ _ _ _ _,ah',rfl,⟨_,SqL.of a1⟩,?_⟩;refine a3y (caps:=[some (.ref p)]) (λv=>Ans rss v) (by rw[i1.1];omega) (λH2 s2=>SqL.of (s2 _ _ a1)) i1 rfl (λv r' H2 Q2 c3 X s2 q=>?_) λH2 p2 zs s2 b3 M=>?_
   .obtain⟨⟨us,u1,u2,u3⟩,_,_,_,hR⟩:=Y1.same s2;refine⟨_,rfl,p,C,dx,_,_,rfl,s2 _ _ p1,U.cl,U.n1,a7t _ _ _ _ _ _,_,rfl,ra,v,us,rss,r',rfl,u1,u2,X,u3,λr hr=>by rw[(hR r hr).1];omega,(b9 r' c3).2,λJ t=>⟨_,rfl,q J t⟩⟩
   have c0:(L'.filter λv=>Ans rss v).length<=L'.length:=bD _ _;have t:=s2.upd (o:=.lst zs) b3;have c5:=(Same.refl H2).upd (o:=.lst zs) b3;have e3:upd H2 p2 (.lst zs) p2=some (.lst zs):=A0;have y:=M.same c5;generalize upd H2 p2 (.lst zs)=J at t e3 y;have f3:=t _ _ a7;refine⟨af,p2,fs,zs,rfl,rfl,f3,e3,by rw[f2.1,M.1];omega,?_⟩;have p4:upd J af (.lst (fs++zs)) p=some (.ins C dx (ffl ra ca true ah' af aw)):=by rw[A3 b4];exact t _ _ p1
   have w4:upd J af (.lst (fs++zs)) aw=some (.lst ws):=by rw[A3 ne.symm];exact t _ _ c6
   have a4:upd J af (.lst (fs++zs)) ah'=some (.lst c):=by rw[A3 a8];exact t _ _ a1
   refine⟨_,rfl,p,C,dx,_,_,rfl,p4,U.cl,U.n6,a3S _ _ _ _ _ _,.inl ⟨rfl,_,SqL.of w4⟩,?_⟩;refine⟨_,rfl,p,C,dx,_,_,rfl,p4,U.cl,U.n4,a0h _ _ _ _ _ _,aw,ah',ws,c,rfl,rfl,w4,a4,by rw[w2.1,i1.1];omega,?_⟩;have p5:upd (upd J af (.lst (fs++zs))) aw (.lst (ws++c)) p=some (.ins C dx (ffl ra ca true ah' af aw)):=by rw[A3 b5];exact p4
   have a5:upd (upd J af (.lst (fs++zs))) aw (.lst (ws++c)) ah'=some (.lst c):=by rw[A3 b0];exact a4
   refine⟨_,rfl,p,C,dx,_,_,rfl,p5,U.cl,U.n4,a0h _ _ _ _ _ _,ah',_,rfl,.inl (SqL.of a5),?_⟩;rw[i1.1];have I:∀{vs:qA V}{rss:LLI},Its J vs rss->Its (upd (upd J af (.lst (fs++zs))) aw (.lst (ws++c))) vs rss:=λh=>a0z (a0z h f3 (λ_ z=>by cases z)) w4 (λ_ z=>by cases z);refine k L' _ R ⟨⟨dx,ah',c,p5,a5,I (i1.same t),a8,b0⟩,⟨fs++zs,by rw[A3 ne];exact A0,I (a5U (b7.same t) y)⟩,⟨ws++c,A0,I (a5U (c7.same t) (i1.same t))⟩,ne⟩ ⟨dx,ah',p5,a0⟩ λb o hb e=>?_;have Z:b≠p/\b≠af/\b≠aw:=by simpa using hb
   rw[A3 Z.2.2,A3 Z.2.1];exact t _ _ (g _ _ (by simpa using Z.1) e)
  refine⟨_,rfl,p,C,dx,_,_,rfl,h1,U.cl,U.n3,a4R _ _ _ _ _ _,b,rfl,?_⟩;obtain⟨us,u1,u2,u3⟩:=Y.ex;have c1:=Y.n2;cases b with
  |true =>
   refine G8 ?_;refine⟨_,rfl,p,C,dx,_,_,rfl,h1,U.cl,U.n1,a7t _ _ _ _ _ _,_,rfl,p,C,dx,_,_,rfl,h1,U.cl,U.n2,a7u _ _ _ _ _ _,_,rfl,p,C,dx,_,_,rfl,h1,U.cl,U.n5,a1X _ _ _ _ _ _,_,rfl,p,C,dx,_,_,rfl,h1,U.cl,U.n4,a0h _ _ _ _ _ _,_,rfl,?_⟩;refine⟨ra,ca,af,ah,r,us,rss,cs,fs,F,hs,L,rfl,⟨u1,u2,Y.hc,f1,f2,h2,h3,u3,Y.n1,Y.n2,Y.hR,hF,λv X=>⟨(hL v X).1,λx hx=>by have:=(hL v X).2 x hx;omega⟩,hbig⟩,hroom,λp9 zs a6 H9 s9 G h9 b8 a3 c2 S a9 b2 b1=>?_⟩;have b6:=s9 _ _ h1;have a2:p≠p9:=A8 h1 G;refine⟨_,rfl,p,C,dx,_,rfl,b6,U.cl,U.n4,by show 6<1000;decide,?_⟩;rw[a6R];refine fin _ _ ⟨rfl,p9,zs,a6,A0,by rw[A3 a2.symm];exact h9,a0z b8 b6 (λ_ z=>by cases z),G,⟨a3,c2,(λz=>by cases z),λ_=>S,λ_=>a9,by omega,b1⟩,s9.off.set (by simp),λv X=>?_⟩;obtain⟨u,hu,j,_,rfl,_⟩:=S v X;have:=b4l (j:=j) (hL u hu).2 hB;exact⟨by rw[I0];exact(hL u hu).1,λx hx=>by have:=this x hx;omega⟩
  |false =>
   refine E1 ?_;refine⟨_,rfl,p,C,dx,_,_,rfl,h1,U.cl,U.n2,a7u _ _ _ _ _ _,ca,cs,rfl,Y.hc,Y.n1,Y.n2,λq zs a6 H2 s2 hq M O a3=>?_⟩;refine⟨q,zs,rfl,.inr (SqT.of hq),λl hl=>?_⟩;have p3:=E9 (o:=.lst zs) (s2 _ _ h1) hl;have t:=s2.upd (o:=.lst zs) hl;have y:=M.same ((Same.refl H2).upd (o:=.lst zs) hl);have e3:upd H2 l (.lst zs) l=some (.lst zs):=A0;have G:=s2.free hl;generalize upd H2 l (.lst zs)=J at p3 t y e3;refine⟨_,rfl,p,C,dx,_,rfl,p3,U.cl,U.n4,by show 6<1000;decide,?_⟩;rw[a6R];refine⟨_,rfl,p,C,dx,_,rfl,A0,U.cl,U.n3,by show 6<1000;decide,?_⟩;rw[a5i,b0m];have a2:p≠l:=A8 h1 G;have c0:(K7 cs).length<=cs.length:=a_ (bD _ _) (by simp);have d0:=O.length_eq;refine fin _ _ ⟨rfl,l,zs,a6,A0,by rw[A3 a2.symm];exact e3,a0z y p3 (λ_ z=>by cases z),G,⟨a3,O.symm.nodup (b0T cs),λ_ v=>O.mem_iff,(λz=>by cases z),(λz=>by cases z),by omega,λm e=>?_⟩,t.off.set (by simp),λv X=>?_⟩
   .rcases hroom with z|⟨m',z,hm'⟩
    .rw[z]at e;cases e
    .rw[z]at e;cases e;omega
   .obtain⟨j,_,rfl⟩:=aN.mp (aQ.mp (O.mem_iff.mp X)).1;refine⟨L3 _ _,λx hx=>?_⟩;unfold J7 at hx;obtain⟨i,_,rfl⟩:=aN.mp hx;split<;>omega
inductive IspEnded(C:qE)(vs:qA V)(H:Hp)(Q:VK)(E:XK):Prop
 |mk (p ra ca af aw:qE) (b:Bool) (L F W:LLI) (_:vs=[.ref p]) (_:FAt C H p ra ca af aw b L F W) (_:Q (.bl (b && decide (L=[]))) H):IspEnded C vs H Q E
def a5s(C:qE):Sp:=λvs H Q E=>IspEnded C vs H Q E
def b2l{ra ca af aw:qE}{b:Bool}(hi:σ[i]?=some (some (.ref p)))(D:FAt C H p ra ca af aw b L F W)(k:Q (.bl (b && decide (L=[]))) H):a2i C "ended" (a5s C) [] E0 (L4 i) R5 σ H Q:=by
 obtain⟨⟨dx,ah,hs,a,_⟩,_,_,_⟩:=id D;exact⟨_,hi,p,dx,_,rfl,a,b0V _ _ _ _ _ _,p,ra,ca,af,aw,b,L,F,W,rfl,D,k⟩
def a2t:FnScope ["self"] ["self"] (A2 K2):={}
def b2U(c:MethAt K C "ended" "Finder.ended" K2 ["self"])(U:FiTx K C)(T:Tx mg):MethOk P w K mg base C "ended" 1 ["self"] (a5s C):=by
 refine c.fnJ a2t (λi H Q E h=>?_) (λd f A a s H i Q E m h=>?_)
 .obtain⟨p,ra,ca,af,aw,b,L,F,W,rfl,_⟩:=h;rfl
 .obtain⟨p,ra,ca,af,aw,b,L,F,W,rfl,D,k⟩:=h;obtain⟨⟨dx,ah,hs,h1,h2,g,j,l⟩,⟨fs,f1,f2⟩,⟨n,w1,w2⟩,ne⟩:=id D;refine⟨_,(A5 (A9 (a1p (O1 K (jv 0)) (a1n (a9x (G6 K rfl T.b_len (jaC (O1 K (jv 0)) jaN)) A4))))),?_⟩;refine⟨_,rfl,p,C,dx,_,_,rfl,h1,U.cl,U.n3,a4R _ _ _ _ _ _,?_⟩;refine⟨b,rfl,?_⟩;cases b with
  |false=>exact E1 k
  |true =>
   refine G8 ⟨_,rfl,p,C,dx,_,_,rfl,h1,U.cl,U.n4,a0h _ _ _ _ _ _,ah,_,rfl,.inl (SqL.of h2),rfl,?_⟩;have e:decide (V.int (hs.length:Int)=V.int 0)=decide (L=[]):=by
    rw[g.1];cases L with
    |nil=>simp
    |cons x L=>simp;omega
   rw[e];exact k
inductive IspTold(C:qE)(vs:qA V)(H:Hp)(Q:VK)(E:XK):Prop
 |mk (p ra ca af aw:qE) (b:Bool) (L F W:LLI) (_:vs=[.ref p]) (_:FAt C H p ra ca af aw b L F W) (_:(∀v∈F,0<v.length)) (_:∀q zs tss H',Same H H'->H' q=some (.tup zs)->Its H' zs tss->tss.Perm F->C7 tss->Q (.ref q) H'):IspTold C vs H Q E
def a7P(C:qE):Sp:=λvs H Q E=>IspTold C vs H Q E
def b4z{ra ca af aw:qE}{b:Bool}(hi:σ[i]?=some (some (.ref p)))(D:FAt C H p ra ca af aw b L F W)(h:∀v∈F,0<v.length)(k:∀q zs tss H',Same H H'->H' q=some (.tup zs)->Its H' zs tss->tss.Perm F->C7 tss->Q (.ref q) H'):a2i C "told" (a7P C) [] E0 (L4 i) R5 σ H Q:=by
 obtain⟨⟨dx,ah,hs,a,_⟩,_,_,_⟩:=id D;exact⟨_,hi,p,dx,_,rfl,a,b3z _ _ _ _ _ _,p,ra,ca,af,aw,b,L,F,W,rfl,D,h,k⟩
def a3i:FnScope ["self"] ["self"] (A2 M9):={}
def b5i(g:MethAt K C "told" "Finder.told" M9 ["self"])(U:FiTx K C)(T:Tx mg):MethOk P w K mg base C "told" 1 ["self"] (a7P C):=by
 refine g.fnJ a3i (λr H Q E h=>?_) (λi f A d s H r Q E x h=>?_)
 .obtain⟨p,ra,ca,af,aw,b,L,F,W,rfl,_⟩:=h;rfl
 .obtain⟨p,ra,ca,af,aw,b,L,F,W,rfl,D,hF,k⟩:=h;obtain⟨⟨dx,ah,hs,h1,h2,t,u,v⟩,⟨fs,f1,f2⟩,⟨y,w1,w2⟩,ne⟩:=id D;refine⟨_,(A5 (A9 (C1 K rfl T.b_tuple (jaC (Q8 K rfl T.b_sorted (jaC (O1 K (jv 0)) jaN)) jaN)))),?_⟩;refine⟨_,rfl,p,C,dx,_,_,rfl,h1,U.cl,U.n5,a1X _ _ _ _ _ _,af,fs,F,rfl,.inl (SqL.of f1),f2,hF,λl zs e m j a c _=>?_⟩;refine⟨l,_,rfl,.inl ⟨SqL.of A0,λq n=>?_⟩⟩;have s2:=((Same.refl H).upd (o:=.lst zs) m).upd (o:=.tup zs) n;exact k q zs e _ s2 A0 (j.same s2) a c
inductive IspPaper(C:qE)(vs:qA V)(H:Hp)(Q:VK)(E:XK):Prop
 |mk (p ra ca af aw:qE) (b:Bool) (L F W:LLI) (_:vs=[.ref p]) (_:FAt C H p ra ca af aw b L F W) (_:∀q zs H',Same H H'->H' q=some (.tup zs)->Its H' zs W->Q (.ref q) H'):IspPaper C vs H Q E
def a5q(C:qE):Sp:=λvs H Q E=>IspPaper C vs H Q E
def b2k{ra ca af aw:qE}{b:Bool}(hi:σ[i]?=some (some (.ref p)))(D:FAt C H p ra ca af aw b L F W)(k:∀q zs H',Same H H'->H' q=some (.tup zs)->Its H' zs W->Q (.ref q) H'):a2i C "paper" (a5q C) [] E0 (L4 i) R5 σ H Q:=by
 obtain⟨⟨dx,ah,hs,a,_⟩,_,_,_⟩:=id D;exact⟨_,hi,p,dx,_,rfl,a,b0U _ _ _ _ _ _,p,ra,ca,af,aw,b,L,F,W,rfl,D,k⟩
def a2s:FnScope ["self"] ["self"] (A2 K1):={}
def b2Q(d:MethAt K C "paper" "Finder.paper" K1 ["self"])(U:FiTx K C)(T:Tx mg):MethOk P w K mg base C "paper" 1 ["self"] (a5q C):=by
 refine d.fnJ a2s (λi H Q E h=>?_) (λe f A a s H i Q E n h=>?_)
 .obtain⟨p,ra,ca,af,aw,b,L,F,W,rfl,_⟩:=h;rfl
 .obtain⟨p,ra,ca,af,aw,b,L,F,W,rfl,D,k⟩:=h;obtain⟨⟨dx,ah,hs,h1,h2,j,l,m⟩,⟨fs,f1,f2⟩,⟨c,w1,w2⟩,ne⟩:=id D;refine⟨_,(A5 (A9 (C1 K rfl T.b_tuple (jaC (O1 K (jv 0)) jaN)))),?_⟩;refine⟨_,rfl,p,C,dx,_,_,rfl,h1,U.cl,U.n6,a3S _ _ _ _ _ _,aw,_,rfl,.inl ⟨SqL.of w1,λq g=>?_⟩⟩;have s2:=(Same.refl H).upd (o:=.tup c) g;exact k q c _ s2 A0 (w2.same s2)
end
inductive Wk(rss:LLI)(cs:qA (qD Int)):LLI->LLI->LLI->Nat->Prop
 |one {L:LLI}(ri:C7 L) (nd:L.Nodup) (h:∀v,v∈L↔v∈K7 cs):Wk rss cs (L.filter λv=>Ans rss v) L L 1
 |more {F W L L':LLI}{k:Nat}(h:Wk rss cs F W L k) (ne:L≠[]) (ri:C7 L') (nd:L'.Nodup) (hm:∀v,v∈L'↔∃u∈L,a1B rss cs F u v):Wk rss cs (F++L'.filter λv=>Ans rss v) (W++L') L' (k+1)
def b5Z(rss:LLI)(cs:qA (qD Int))(most:Int):Prop:=∃F W L k,Wk rss cs F W L k/\(most<W.length∨(L≠[]/\∃L':LLI,L'.Nodup/\(∀v∈L',∃u∈L,a1B rss cs F u v)/\most<W.length+L'.length))
def a9s(h:∀x∈v,0<=x):∀x∈v,x<=v.sum:=by
 induction v with
 |nil=>intro x a;cases a
 |cons y v c =>
  intro x a;have h1:=h y aA;have h2:=b1M v λz b=>h z (ax _ b);rw[bo];rcases aF.mp a with rfl|a
  .omega
  .have:=c (λz b=>h z (ax _ b)) x a;omega
def b5O(h:∀x∈u,0<=x):∀x∈bump u j,0<=x:=by
 intro x a;unfold bump at a;rcases dR a with z|z
 .exact h x z
 .by_cases hj:j<u.length
  .have:=h _ (cc (h:=hj));rw[av,ak hj]at z;simp at z;omega
  .rw[av,cm (by omega)]at z;simp at z;omega
def a6o(n j:Nat):∀x∈J7 n j,0<=x:=by
 intro x a;unfold J7 at a;obtain⟨i,_,rfl⟩:=aN.mp a;split<;>omega
def a7H(n j:Nat)(c:j<n):J7 n j=bump (List.replicate n 0) j:=by
 refine eW (by rw[L3,I0,bw]) λi h1 h2=>?_;rw[L3]at h1;have a:=V7 n j i h1;have b:=a1x (List.replicate n 0) j i (by simpa using c);rw[av,ak (by rw[L3];exact h1)]at a;rw[av,ak h2]at b;simp only[Option.getD_some]at a b;rw[a,b];simp only[av,ft,c,h1,e_];by_cases e:i=j<;>simp[e]
def b2i(n:Nat):(List.replicate n (0:Int)).sum=0:=by
 induction n with
 |zero=>rfl
 |succ n a=>rw[cy,bo,a];rfl
def a4v(n j:Nat)(a:j<n):(J7 n j).sum=1:=by
 rw[a7H n j a,a4c _ _ (by simpa using a),b2i];rfl
def a7O(h:j∈StP rss cs u):j<u.length/\a1A rss u j<0/\a7A (cs.getD j none) (u.getD j 0)=true:=by
 unfold StP at h;rw[aQ,aQ,aY,br]at h;exact⟨h.1.1,h.1.2,h.2⟩
structure LvF(n k:Nat)(v:qI):Prop where
 len:v.length=n
 nn:∀x∈v,0<=x
 sum:v.sum=k
def a1W(h:v∈K7 cs):LvF cs.length 1 v:=by
 obtain⟨j,a,rfl⟩:=aN.mp (aQ.mp h).1;exact⟨L3 _ _,a6o _ _,a4v _ _ (aY.mp a)⟩
def b2W(a:LvF n k u)(h:a1B rss cs F u v):LvF n (k+1) v:=by
 obtain⟨j,b,rfl,_⟩:=h;have:=(a7O b).1;exact⟨by rw[I0];exact a.len,b5O a.nn,by rw[a4c _ _ this,a.sum];omega⟩
def Wk.lv(h:Wk rss cs F W L k):(∀v∈L,LvF cs.length k v)/\(∀v∈W,∃i,1<=i/\i<=k/\LvF cs.length i v)/\(∀v∈F,v∈W/\Ans rss v=true)/\F.length<=W.length/\L.length<=W.length/\1<=k/\k<=W.length+1/\(L≠[]->k<=W.length):=by
 induction h with
 |@one L ri nd h =>
  refine⟨λv a=>a1W ((h v).mp a),λv a=>⟨1,by omega,by omega,a1W ((h v).mp a)⟩,λv a=>aQ.mp a,bD _ _,aq _,by omega,by omega,λne=>?_⟩;cases L with
  |nil=>exact absurd rfl ne
  |cons x L=>simp
 |@more F W L L' k h ne ri nd e n =>
  obtain⟨j,l,d,o,p,q,r,m⟩:=n;have b:∀v∈L',LvF cs.length (k+1) v:=λv a=>by
   obtain⟨u,f,g⟩:=(e v).mp a;exact b2W (j u f) g
  have:=bD (λv=>Ans rss v) L';have s:=m ne;refine⟨b,λv a=>?_,λv a=>?_,by rw[ag,ag];omega,by rw[ag];omega,by omega,by rw[ag];omega,λc=>?_⟩
  .rcases ao.mp a with z|z
   .obtain⟨i,q1,q2,q3⟩:=l v z;exact⟨i,q1,by omega,q3⟩
   .exact⟨k+1,by omega,by omega,b v z⟩
  .rcases ao.mp a with z|z
   .exact⟨aO _ (d v z).1,(d v z).2⟩
   .exact⟨aH _ (aQ.mp z).1,(aQ.mp z).2⟩
  .rw[ag];have:0<L'.length:=dt.mpr c;omega
section
variable {K:qF}
inductive IspLeast(D:qE)(vs:qA V)(H:Hp)(Q:VK)(E:XK):Prop
 |mk (ra ca:qE) (rss:LLI) (cs:qA (qD Int)) (most:Nat) (mi:Int) (_:vs=[.ref ra,.ref ca,.int mi]) (_:mi=most) (_:SyAt H ra ca rss cs) (_:(most+1)*cs.length+200<=100000) (_:(∀q t pp zs tss ws F W k H',Same H H'->H' q=some (.tup [.ref t,.ref pp])->H' t=some (.tup zs)->Its H' zs tss->tss.Perm F->C7 tss->H' pp=some (.tup ws)->Its H' ws W->Wk rss cs F W [] k->W.length<=most->Q (.ref q) H')) (_:(∀H',Same H H'->b5Z rss cs most->E (.ref D) none H')):IspLeast D vs H Q E
def a9b(D:qE):Sp:=λvs H Q E=>IspLeast D vs H Q E
def sc_least:FnScope ["rows","caps","most","finder","room"] ["rows","caps","most"] (A2 a2K):={}
def b2R{r:qE}(V:FunAt K mg "least" a2K ["rows","caps","most"])(T:Tx mg)(U:FiTx K C)(a:Cls K C)(G:MakeOk P w K mg base "Finder" C 1 ["self","rows","caps"] (a9e C))(g:MethOk P w K mg base C "step_within" 6 ["self","room"] (a5o C))(n:MethOk P w K mg base C "ended" 1 ["self"] (a5s C))(t:MethOk P w K mg base C "told" 1 ["self"] (a7P C))(p:MethOk P w K mg base C "paper" 1 ["self"] (a5q C))
  (D:OwnCls "TooMany" r [.type "ValueError",.type "Exception",.type "BaseException",.type "object"] "ValueError.__new__" mg base):OkE P w K mg base "least" 7 ["rows","caps","most"] (a9b r):=by
 refine V.okE sc_least (λvs H Q E h=>?_) (λc1 f A b8 s H vs Q E hr h=>?_)
 .obtain⟨ra,ca,rss,cs,most,mi,rfl,_⟩:=h;rfl
 .obtain⟨ra,ca,rss,cs,most,_,rfl,rfl,Y,hbig,kq,ke⟩:=h;refine⟨_,(A1 (B2 (i:=3) sc_least.nd rfl (Or.inl rfl) (b7Z G (hr.mono (by omega)) rfl (jaC (jv 0) (jaC (jv 1) jaN))))
 (A1 (B2 (i:=4) sc_least.nd rfl (Or.inl rfl) (jv 2))
 (A1 (b3g (J4 (D0 K (a5R n a (hr.mono (by omega)) (jv 3))))
 (A1 (B2 (i:=4) sc_least.nd rfl (Or.inl rfl) (a3H (jv 4) (b7Y g a (hr.mono (by omega)) (jv 3) (jaC (jv 4) jaN))))
 (A5 (C9 (b3f (jv 4) A4)
 (A5 (b3i D PySem.F.excBase_ValueError rfl PySem.F.excBase_ValueError rfl (jaC a9D jaN)))
 C2))) (hp:=PassesOwn.leaving))
 (A5 (A9 (B3 (jaC (a5R t a (hr.mono (by omega)) (jv 3)) (jaC (a5R p a (hr.mono (by omega)) (jv 3)) jaN)))))))),?_⟩
  refine⟨_,rfl,_,rfl,λx dx hx a9 M=>?_⟩;have b7:upd H dx (.own x) x=none:=by rw[A3 M.symm];exact hx
  have s0:Same H (upd (upd H dx (.own x)) x (.ins C dx [])):=((Same.refl H).upd a9).upd b7;refine⟨x,dx,ra,ca,rfl,A0,λaf aw H1 a7 a8 D1 _ kp=>⟨rfl,?_⟩⟩;have Z:H af=none:=s0.free a7;have a0:H aw=none:=s0.free a8;have s1:Same H H1:=λb o e=>kp b o (s0 b o e) (A8 e hx);dsimp only[B0];refine⟨_,rfl,?_⟩;dsimp only[B0];have hz:(300000:Nat)<=sizeLine:=by rw[aT];decide
  refine R8 (λσ H'=>σ=[some (.ref ra),some (.ref ca),some (.int most),some (.ref x),σ.getD 4 none]/\Same H H'/\∃F W k,FAt C H' x ra ca af aw true [] F W/\Wk rss cs F W [] k/\W.length<=most) ?fin λfin=>?_
  case fin =>
   rintro σ H2 ⟨hσ,s2,F,W,k,N,I,O⟩;obtain⟨⟨a3,ah,hs,h1,h2,h3,h4,h5⟩,_,_,_⟩:=id N;have a1:=I.lv;rw[hσ];refine b4z rfl N (λv J=>?_) λq1 zs b9 H3 s3 b4 a4 b3 b6=>?_
   .obtain⟨i,_,_,lv⟩:=a1.2.1 v (a1.2.2.1 v J).1;rw[lv.len];exact Y.n1
   have D3:=N.same s3;obtain⟨⟨c2,c0,c8,g1,_⟩,_,_,_⟩:=id D3;refine b2k rfl D3 λq2 ws H4 s4 b5 a5=>?_;refine⟨by show 2<=sizeLine;omega,λq hq=>?_⟩;have s5:=(Same.refl H4).upd (o:=.tup [.ref q1,.ref q2]) hq;exact kq q q1 q2 zs b9 ws F W k _ (((s2.trans s3).trans s4).trans s5) A0 (s5 _ _ (s4 _ _ b4)) ((a4.same s4).same s5) b3 b6 (s5 _ _ b5) (a5.same s5) I O
  refine⟨λm σ H'=>∃(b:Bool) (L F W:LLI) (d:Int),σ=[some (.ref ra),some (.ref ca),some (.int most),some (.ref x),some (.int d)]/\Same H H'/\FAt C H' x ra ca af aw b L F W/\0<=d/\m=d.toNat+(if b=true/\L=[] then 0 else 1)/\((b=false/\L=[]/\F=[]/\W=[]/\d=most)∨(b=true/\∃k,Wk rss cs F W L k/\d=most-W.length)),
   ⟨_,false,[],[],[],_,rfl,s1,D1,by omega,rfl,.inl ⟨rfl,rfl,rfl,rfl,rfl⟩⟩,?_⟩
  rintro m σ H2 ⟨b,L,F,W,d,rfl,s2,N,r0,rfl,S⟩;obtain⟨⟨a3,ah,hs,h1,h2,h3,h4,h5⟩,_,_,_⟩:=id N;refine b2l rfl N ⟨_,rfl,?_⟩;have b2:=Y.n1;have c6:most+1<=(most+1)*cs.length:=Nat.le_mul_of_pos_right _ b2;by_cases he:b=true/\L=[]
  .obtain⟨rfl,rfl⟩:=he;refine E1 ?_;rcases S with⟨z,_⟩|⟨_,k,I,j⟩
   .cases z
   .exact fin _ _ ⟨rfl,s2,F,W,k,N,I,by omega⟩
  .have hb:(b && decide (L=[]))=false:=by
    cases b with
    |false=>rfl
    |true =>
     have:L≠[]:=λz=>he ⟨rfl,z⟩;simpa using this
   rw[hb,ar he];refine G8 ⟨λσ' H'=>∃(L' V X:LLI) (k:Nat) (l:Int),σ'=[some (.ref ra),some (.ref ca),some (.int most),some (.ref x),some (.int l)]/\Same H H'/\FAt C H' x ra ca af aw true L' V X/\0<=l/\Wk rss cs V X L' k/\l=most-X.length/\l.toNat+(if L'=[] then 0 else 1)<d.toNat+1,λσ' H' ⟨L',V,X,k,l,e1,e2,e3,e4,e5,e6,e7⟩=>⟨_,e7,true,L',V,X,l,e1,e2,e3,e4,by simp,.inr ⟨rfl,k,e5,e6⟩⟩,?_⟩;obtain⟨B,hB,hL,hF,c5,a6,c3⟩:∃B:Int,B<=2 ^ 60/\(∀v∈L,v.length=cs.length/\∀y∈v,0<=y/\y<=B)/\(∀v∈F,v.length=cs.length)/\W.length<=most/\L.length<=most/\F.length<=most:=by
    rcases S with⟨rfl,rfl,rfl,rfl,_⟩|⟨rfl,k,I,j⟩
    .exact⟨0,by omega,(λ_ z=>nomatch z),(λ_ z=>nomatch z),by simp,by simp,by simp⟩
    .obtain⟨i1,i2,i3,i4,i5,i6,i7,i8⟩:=I.lv;refine⟨k,by omega,λv J=>⟨(i1 v J).len,λy hy=>⟨(i1 v J).nn y hy,?_⟩⟩,λv J=>?_,by omega,by omega,by omega⟩
     .have:=a9s (i1 v J).nn y hy;rw[(i1 v J).sum]at this;exact this
     .obtain⟨i,_,_,lv⟩:=i2 v (i3 v J).1;exact lv.len
   have c4:L.length*cs.length<=most*cs.length:=Nat.mul_le_mul_right _ a6;have c7:(most+1)*cs.length=most*cs.length+cs.length:=by rw[Nat.add_mul,Nat.one_mul]
   refine⟨_,rfl,b2j rfl rfl N (Y.same s2) (.inr ⟨d,rfl,r0⟩) hL hB hF (by omega) (by omega) (by omega) λL' H3 R D3 _ a2=>?_⟩;refine⟨_,_,rfl,rfl,?_⟩;dsimp only[B0];have s3:Same H H3:=λc o e=>a2 c o (by simpa using⟨A8 e hx,A8 e Z,A8 e a0⟩) (s2 c o e);have key:(∃k,Wk rss cs (F++L'.filter λv=>Ans rss v) (W++L') L' k/\d=most-W.length)∨(d<L'.length/\b5Z rss cs most):=by
    rcases S with⟨rfl,rfl,rfl,rfl,j⟩|⟨rfl,k,I,j⟩
    .exact .inl ⟨1,by simpa using Wk.one R.ri R.nd (R.fst rfl),by simpa using j⟩
    .have M:L≠[]:=λz=>he ⟨rfl,z⟩;rcases R.all rfl with ha|⟨m',e',b1⟩
     .exact .inl ⟨k+1,.more I M R.ri R.nd λv=>⟨R.snd rfl v,λ⟨u,hu,J⟩=>ha u hu v J⟩,j⟩
     .cases e';exact .inr ⟨b1,F,W,L,k,I,.inr ⟨M,L',R.nd,R.snd rfl,by omega⟩⟩
   refine⟨_,rfl,_,_,rfl,rfl,_,rfl,Z0 (λe=>?_) (λe=>?_)⟩
   .have e':d-(L'.length:Int)<0:=bp e;refine⟨by rw[aT];decide,ke _ s3 ?_⟩;rcases key with⟨k,I,j⟩|⟨_,ho⟩
    .exact⟨_,_,_,k,I,.inl (by rw[ag];omega)⟩
    .exact ho
   .have e':¬d-(L'.length:Int)<0:=λz=>e (bz z);rcases key with⟨k,I,j⟩|⟨b0,_⟩
    .refine⟨L',_,_,k,_,rfl,s3,D3,by omega,I,by rw[ag];omega,?_⟩;cases L' with
     |nil=>simp
     |cons y L'=>simp only[aX]at e'⊢;rw[ar (by simp)];omega
    .exact absurd b0 (by omega)
end
structure Answer(rss:LLI)(n:Nat)(v:qI):Prop where
 len:v.length=n
 nn:∀x∈v,0<=x
 ans:Ans rss v=true
 pos:0<v.sum
structure Least(rss:LLI)(cs:qA (qD Int))(v:qI):Prop where
 an:Answer rss cs.length v
 wi:Wi cs v=true
 min:∀u,Answer rss cs.length u->Under u v->u=v
def Under.refl(v:qI):Under v v:=⟨rfl,λ_ _=>Int.le_refl _⟩
def Under.trans{a b c:qI}(h:Under a b)(g:Under b c):Under a c :=
 ⟨h.1.trans g.1,λj d=>Int.le_trans (h.2 j (by rw[g.1];exact d)) (g.2 j d)⟩
def Under.eq{a b:qI}(h:Under a b)(hs:b.sum<=a.sum):a=b:=by
 refine bZ λne=>?_;have:=h.sum.2 ne;omega
def Z1(h:v.length=cs.length):Wi cs v=true↔∀j,j<cs.length->b1b (cs.getD j none) (v.getD j 0)=true:=by
 unfold Wi;induction cs generalizing v with
 |nil=>simp
 |cons c cs b =>
  cases v with
  |nil=>cases h
  |cons x v =>
   rw[bq,cC,aM,b (by simpa using h)];constructor
   .rintro⟨h1,h2⟩ j a;cases j with
    |zero=>exact h1
    |succ j=>exact h2 j (by simpa using a)
   .intro h1;exact⟨h1 0 (by simp),λj a=>h1 (j+1) (by simpa using a)⟩
def b1a{c:qD Int}{x y:Int}(h:b1b c y=true)(a:x<=y):b1b c x=true:=by
 cases c with
 |none=>rfl
 |some c =>
  have:y<=c:=bp h;exact bz (by omega)
def a2E(a:v.length=cs.length)(h:Wi cs v=true)(c:Under u v):Wi cs u=true:=by
 rw[Z1 a]at h;rw[Z1 (by rw[c.1];exact a)];intro j b;exact b1a (h j b) (c.2 j (by rw[a];exact b))
def b3V(h:Ans rss v=true)(j:Nat):a1A rss v j=0:=by
 unfold a1A U4;unfold Ans at h;induction rss with
 |nil=>rfl
 |cons r rss a =>
  rw[cC,aM,br]at h;rw[aV,bq,bo,a h.2,h.1];omega
def G1{f:qI}(a:f.length=v.length):Bel f v=true↔Under f v:=by
 constructor
 .intro h;refine⟨a,?_⟩;unfold Bel at h;induction f generalizing v with
  |nil =>
   intro j b;rw[<-a]at b;simp at b
  |cons x f c =>
   cases v with
   |nil=>cases a
   |cons y v =>
    rw[bq,cC,aM]at h;intro j b;cases j with
    |zero=>exact bp h.1
    |succ j=>exact c (by simpa using a) h.2 j (by simpa using b)
 .intro h;unfold Bel;induction f generalizing v with
  |nil=>rfl
  |cons x f c =>
   cases v with
   |nil=>cases a
   |cons y v =>
    obtain⟨h1,h2⟩:=h.tail;rw[bq,cC,c (by simpa using a) h2,Bool.and_true];exact bz h1
def P6{rss:LLI}{cs:qA (qD Int)}:∀(m:Nat) {u:qI},u.sum<=m->Answer rss cs.length u->Wi cs u=true->∃a,Least rss cs a/\Under a u
 |0,u,e,h,_=>absurd h.pos (by omega)
 |m+1,u,e,h,hw=>by
  by_cases c:∃t,Answer rss cs.length t/\Under t u/\t≠u
  .obtain⟨t,h1,h2,h3⟩:=c;have:=h2.sum.2 h3;obtain⟨a,d,b⟩:=P6 m (u:=t) (by omega) h1 (a2E h.len hw h2);exact⟨a,d,b.trans h2⟩
  .exact⟨u,⟨h,hw,λt f b=>bZ λne=>c ⟨t,f,b,ne⟩⟩,Under.refl u⟩
def a5H:∀{v:qI},(∀x∈v,0<=x)->0<v.sum->∃j,j<v.length/\1<=v.getD j 0
 |[],_,h=>by simp at h
 |x::v,a,h=>by
  by_cases b:1<=x
  .exact⟨0,by simp,by simpa using b⟩
  .have h0:=a x aA;rw[bo]at h;obtain⟨j,h1,h2⟩:=a5H (v:=v) (λy c=>a y (ax _ c)) (by omega);exact⟨j+1,by simpa using h1,by simpa using h2⟩
def b6x(h:∀x∈v,0<=x)(j:Nat):0<=v.getD j 0:=by
 rw[av];cases e:v[j]? with
 |none=>simp
 |some x=>simpa using h x (aE e)
structure WkOk(rss:LLI)(cs:qA (qD Int))(F L:LLI)(k:Nat):Prop where
 wi:∀v∈L,Wi cs v=true
 bar:∀v∈L,∀f∈F,Under f v->f=v
 snd:∀f∈F,Least rss cs f
 all:∀a,Least rss cs a->a.sum<=k->a∈F
 up:∀a,Least rss cs a->k<=a.sum->∃v∈L,Under v a
def Wk.ok(hR:∀r∈rss,r.length=cs.length)(h:Wk rss cs F W L k):WkOk rss cs F L k:=by
 induction h with
 |@one L ri nd h =>
  have l:∀v∈L,LvF cs.length 1 v:=λv g=>a1W ((h v).mp g);have o:∀v∈L,Wi cs v=true:=λv g=>(aQ.mp ((h v).mp g)).2;have s:∀a,Least rss cs a->((1:Nat):Int)<=a.sum->∃v∈L,Under v a:=λa b _=>by
   obtain⟨j,h1,h2⟩:=a5H b.an.nn b.an.pos;rw[b.an.len]at h1;have d:Under (J7 cs.length j) a:=⟨by rw[L3,b.an.len],λi hi=>by
    rw[b.an.len]at hi;rw[V7 _ _ _ hi];by_cases e:i=j
    .rw[az e,e];exact h2
    .rw[ar e];exact b6x b.an.nn i⟩
   exact⟨_,(h _).mpr (aQ.mpr ⟨aN.mpr ⟨j,aY.mpr h1,rfl⟩,a2E b.an.len b.wi d⟩),d⟩
  refine⟨o,λv g f m d=>?_,λf m=>?_,λa b hs=>?_,s⟩
  .have h1:=(l v g).sum;have h2:=(l f (aQ.mp m).1).sum;exact d.eq (by omega)
  .obtain⟨hf1,n⟩:=aQ.mp m;have lv:=l f hf1;refine⟨⟨lv.len,lv.nn,n,by rw[lv.sum];decide⟩,o f hf1,λu p d=>d.eq ?_⟩;have:=p.pos;rw[lv.sum];omega
  .obtain⟨v,g,d⟩:=s a b (by have:=b.an.pos;omega);have h1:=(l v g).sum;have:v=a:=d.eq (by omega);subst this;exact aQ.mpr ⟨g,b.an.ans⟩
 |@more F W L L' k h ne ri nd K C =>
  obtain⟨M,Z,T,i4,i5,i6,i7,i8⟩:=h.lv;have l:∀v∈L',LvF cs.length (k+1) v:=λv g=>by
   obtain⟨u,p,Y⟩:=(K v).mp g;exact b2W (M u p) Y
  have y:∀f∈F,f.length=cs.length/\f.sum<=k:=λf m=>by
   obtain⟨i,q1,q2,lv⟩:=Z f (T f m).1;exact⟨lv.len,by rw[lv.sum];omega⟩
  have s:∀a,Least rss cs a->((k+1:Nat):Int)<=a.sum->∃v∈L',Under v a:=λa b hs=>by
   obtain⟨v,g,d⟩:=C.up a b (by omega);have lv:=M v g;have I:v≠a:=λz=>by rw[<-z,lv.sum]at hs;omega
   have Q:Ans rss v=false:=by
    cases e:Ans rss v with
    |false=>rfl
    |true=>exact absurd (b.min v ⟨lv.len,lv.nn,e,by rw[lv.sum];omega⟩ d) I
   have V:=b6t rss v a (λr X=>by rw[hR r X,b.an.len]) d I b.an.ans;obtain⟨j,t⟩:=List.exists_mem_of_ne_nil _ V;have H:=a8d t;have O:a1A rss v j<0:=by
    unfold Pl at t;rw[aQ,Q,dn,aM]at t;exact bp t.2.2
   have D:Under (bump v j) a:=d.bump t;have hw:=(Z1 b.an.len).mp b.wi j (by rw[<-b.an.len];exact H.1);refine⟨bump v j,(K _).mpr ⟨v,g,j,?_,rfl,?_⟩,D⟩
   .unfold StP;rw[aQ,aQ,aY,br];refine⟨⟨by rw[d.1];exact H.1,O⟩,?_⟩;cases e:cs.getD j none with
    |none=>rfl
    |some c =>
     rw[e]at hw;have:a.getD j 0<=c:=bp hw;exact bz (by omega)
   .cases e:Bar F (bump v j) j with
    |false=>rfl
    |true =>
     unfold Bar at e;obtain⟨f,m,n⟩:=bM.mp e;rw[aM]at n;have A:=(y f m).1;have B:Under f a:=((G1 (by rw[A,I0,lv.len])).mp n.2).trans D;have:=b.min f (C.snd f m).an B;have h2:=(y f m).2;rw[this]at h2;omega
  have o:∀v∈L',Wi cs v=true:=λv g=>by
   obtain⟨u,p,j,t,rfl,_⟩:=(K v).mp g;have w:=(M u p).len;have q:=a7O t;have hw:=C.wi u p;rw[Z1 w]at hw;rw[Z1 (by rw[I0];exact w)];intro i hi;rw[a1x _ _ _ q.1];by_cases e:i=j
   .rw[az e,e];have J:=q.2.2;cases U:cs.getD j none with
    |none=>rfl
    |some c =>
     rw[U]at J;have:u.getD j 0<c:=bp J;exact bz (by omega)
   .rw[ar e];exact hw i hi
  have x:∀v∈L',∀f∈F++L'.filter (λv=>Ans rss v),Under f v->f=v:=λv g f m d=>by
   rcases ao.mp m with z|z
   .obtain⟨u,p,j,t,rfl,hb⟩:=(K v).mp g;have w:=(M u p).len;have q:=a7O t;have A:=(y f z).1;exfalso;by_cases e:f.getD j 0=(bump u j).getD j 0
    .have:Bar F (bump u j) j=true:=by
      unfold Bar;exact bM.mpr ⟨f,z,by rw[aM];exact⟨bz e,(G1 d.1).mpr d⟩⟩
     rw[this]at hb;cases hb
    .have B:Under f u:=⟨by rw[A,w],λi hi=>by
      have h1:=d.2 i (by rw[I0];exact hi);rw[a1x _ _ _ q.1]at h1;by_cases S:i=j
      .subst S;rw[a1x _ _ _ q.1,az rfl]at e;rw[az rfl]at h1;omega
      .rw[ar S]at h1;exact h1⟩
     have h2:=C.bar u p f z B;have J:=b3V (T f z).2 j;rw[h2]at J;omega
   .have h1:=(l v g).sum;have h2:=(l f (aQ.mp z).1).sum;exact d.eq (by omega)
  have E:∀a,Least rss cs a->a.sum<=((k+1:Nat):Int)->a∈F++L'.filter (λv=>Ans rss v):=λa b hs=>by
   by_cases h1:a.sum<=(k:Int)
   .exact aO _ (C.all a b h1)
   .obtain⟨v,g,d⟩:=s a b (by omega);have h2:=(l v g).sum;have:v=a:=d.eq (by omega);subst this;exact aH _ (aQ.mpr ⟨g,b.an.ans⟩)
  refine⟨o,x,λf m=>?_,E,s⟩;rcases ao.mp m with z|z
  .exact C.snd f z
  .obtain⟨hf1,n⟩:=aQ.mp z;have lv:=l f hf1;refine⟨⟨lv.len,lv.nn,n,by rw[lv.sum];omega⟩,o f hf1,λu p d=>?_⟩;refine bZ λR=>?_;have P:=d.sum.2 R;rw[lv.sum]at P;obtain⟨a,b,G⟩:=P6 (rss:=rss) (cs:=cs) u.sum.toNat (by have:=p.pos;omega) p (a2E lv.len (o f hf1) d);have hs:=G.sum.1;have N:=C.all a b (by omega);have:=x f hf1 a (aO _ N) (G.trans d);rw[this,lv.sum]at hs;omega
def Wk.least(hR:∀r∈rss,r.length=cs.length)(h:Wk rss cs F W [] k)(v:qI):v∈F↔Least rss cs v:=by
 have o:=h.ok hR;refine⟨o.snd v,λa=>?_⟩;by_cases hs:v.sum<=(k:Int)
 .exact o.all v a hs
 .obtain⟨u,hu,_⟩:=o.up v a (by omega);cases hu
def Wk.nd{rss:LLI}{cs:qA (qD Int)}{F W L:LLI}{k:Nat}(h:Wk rss cs F W L k):W.Nodup/\F.Nodup:=by
 induction h with
 |@one L ri nd h=>exact⟨nd,nd.sublist List.filter_sublist⟩
 |@more F W L L' k h ne ri nd f d =>
  obtain⟨l,m,n,o,p,q,r,s⟩:=h.lv;have a:∀v∈W,∀u∈L',v≠u:=λv c u b e=>by
   obtain⟨i,w,x,lv⟩:=m v c;obtain⟨t,g,j⟩:=(f u).mp b;have:=(b2W (l t g) j).sum;rw[<-e,lv.sum]at this;omega
  refine⟨dO.mpr ⟨d.1,nd,a⟩,dO.mpr ⟨d.2,nd.sublist List.filter_sublist,λv c u b=>a v (n v c).1 u (aQ.mp b).1⟩⟩
def Q0:∀{a b:LLI},C7 a->C7 b->a.Nodup->b.Nodup->(∀v,v∈a↔v∈b)->a=b
 |[],[],_,_,_,_,_=>rfl
 |[],y::b,_,_,_,_,h=>by have:=(h y).mpr aA;cases this
 |x::a,[],_,_,_,_,h=>by have:=(h x).mp aA;cases this
 |x::a,y::b,ra,rb,na,nb,h=>by
  obtain⟨k,l⟩:=cR.mp ra;obtain⟨i,j⟩:=cR.mp rb;obtain⟨f,g⟩:=cv.mp na;obtain⟨c,d⟩:=cv.mp nb;have e:x=y:=by
   refine P9 x y ?_ ?_
   .rcases aF.mp ((h x).mp aA)with z|z
    .rw[z];exact J3 y
    .exact i x z
   .rcases aF.mp ((h y).mpr aA)with z|z
    .rw[z];exact J3 x
    .exact k y z
  subst e;rw[Q0 l j g d λv=>?_];constructor
  .intro hv;rcases aF.mp ((h v).mp (ax _ hv))with z|z
   .exact absurd (z ▸ hv) f
   .exact z
  .intro hv;rcases aF.mp ((h v).mpr (ax _ hv))with z|z
   .exact absurd (z ▸ hv) c
   .exact z
def O9(h:PotAt H a b n)(d:H c=none):c∉[a,b]:=by
 obtain⟨_,e,t,k,h1,h2,_⟩:=h;simp only[aF,bS,de,not_or];exact⟨(A8 h1 d).symm,(A8 h2 d).symm⟩
def W8(h:PotAt H a b n)(d:c∉[a,b]):PotAt (upd H c o) a b n:=by
 simp only[aF,bS,de,not_or]at d;obtain⟨ne,e,t,j,f,g,i⟩:=h;exact⟨ne,e,t,j,by rw[A3 (dF d.1)];exact f,by rw[A3 (dF d.2)];exact g,i⟩
section
variable {K:qF}
def b9o(h:k<n):ixN n (k:Int)=some k:=by
 unfold ixN;rw[az (by omega),az (by omega)];rfl
def a4E{src:qA (qJ)}{caps:L2.St}{f c:Nat}{te:TE}(R:Int->Prop)(s:n<=1000)(k:B4 src σ=none::caps)(o:PotAt H a b f)
  (m:∀(i:Nat) (H':Hp) (N:VK),i<n->PotAt H' a b (f+c*i)->(∀r d,R r->PotAt d a b (f+c*i+c)->Off [a,b] H' d->N (.int r) d)->te (some (.int i)::caps) H' N)
  (hd:∀H' p (xs:qI),xs.length=n->(∀x∈xs,R x)->PotAt H' a b (f+c*n)->Off [a,b] H H'->H' p=none->Q (.ref p) (upd H' p (.lst (xs.map V.int)))):G0 src (B0 0) O0 te σ Q (Itr 0 n) H:=by
 refine a1j s k (λi ys H'=>Ex1 λ(xs:qI)=>An5 (ys=xs.map V.int) (xs.length=i) ((∀x∈xs,R x)) (PotAt H' a b (f+c*i)) (Off [a,b] H H')) ⟨[],rfl,rfl,(λ_ z=>nomatch z),o,Off.refl _ _⟩ (λi ys H' h=>by obtain⟨xs,e,g,_⟩:=h;rw[e,ai,g];exact aq _) ?_ ?_
 .rintro i ys H' hi ⟨xs,rfl,g,hR,hP',off⟩;refine m i H' _ hi hP' λr d t j l=>⟨xs++[r],by simp,by simp[g],λx u=>?_,?_,off.trans l⟩
  .rcases ao.mp u with q|q
   .exact hR x q
   .rw[au.mp q];exact t
  .have:f+c*(i+1)=f+c*i+c:=by rw[Nat.mul_add,Nat.mul_one,ei]
   rw[this];exact j
 .rintro ys H' ⟨xs,rfl,g,hR,hP',off⟩ p hp;exact hd H' p xs g hR hP' off hp
def a0a{l:qA qE}(s:Off l H H')(hp:H p=none):Off l H (upd H' p o):=λb u a e=>by
 rw[A3 (A8 e hp)];exact s b u a e
def Q6(o:Off [a,b] H H')(c:PotAt H' a b n)(hp:H' p=none):H p=none:=by
 rcases e:H p with _|u
 .rfl
 .have:=o _ _ (O9 c hp) e;rw[hp]at this;cases this
def a2P(h:Its H vs rss)(c:PotAt H a b n)(o:Off [a,b] H H'):Its H' vs rss:=⟨h.1,λi v e=>let ⟨r,e1,e2⟩:=h.2 i v e;⟨r,e1,IT.off e2 c o⟩⟩
end
def Bd(B:Int)(r:qI):Prop:=∀z∈r,-B<=z/\z<=B
section
variable {K:qF}
inductive IspNumber(vs:qA V)(H:Hp)(Q:VK)(E:XK):Prop
 |mk (a b:qE) (n:Nat) (far:Int) (_:vs=[.ref a,.int far]) (_:0<=far) (_:far<=1000000000000) (_:PotAt H a b n) (_:n+10<2 ^ 60) (_:∀r H',-(far+3)<=r->r<=far+3->PotAt H' a b (n+3)->Off [a,b] H H'->Q (.int r) H'):IspNumber  vs H Q E
def a6A:Sp:=λvs H Q E=>IspNumber  vs H Q E
def a3h:FnScope ["_law_pot_here","_law_far"] ["_law_pot_here","_law_far"] (A2 M7):={}
def b0A(F:FunAt K mg "_law_number" M7 ["_law_pot_here","_law_far"])(T:Tx mg)(c:Ok P w K mg base "_law_take" 1 ["_law_pot_here","_law_many"] a0T):Ok P w K mg base "_law_number" 2 ["_law_pot_here","_law_far"] a6A:=by
 refine F.okJ a3h (λy H Q E h=>?_) (λp f A m s H y Q E l h=>?_)
 .obtain⟨a,b,n,far,rfl,_⟩:=h;rfl
 .obtain⟨a,b,n,far,rfl,hf0,hf1,hP,hn,k⟩:=h;refine⟨_,(A1 (C9 (a2x (a1R (a9z (jv 1) A4) (a0x (a2p (A6 c (l.mono (by omega)) rfl (jaC (jv 0) (jaC A4 jaN))) A4))))
 (A5 (A9 (a3H (A6 c (l.mono (by omega)) rfl (jaC (jv 0) (jaC (G7 (a0O A4 (jv 1)) A4) jaN))) (jv 1))))
 C2)
 (A5 (A9 (a3H (A6 c (l.mono (by omega)) rfl (jaC (jv 0) (jaC A4 jaN))) A4)))),?_⟩
  refine⟨_,rfl,_,_,rfl,rfl,_,rfl,Z0 (λe=>?_) (λe=>?_)⟩
  .have e':0<far:=bp e;refine⟨_,rfl,a,b,_,4,rfl,hP,by omega,by decide,by decide,λz H1 t u j i=>?_⟩;refine⟨rfl,_,rfl,Z0 (λe=>?_) (λe=>⟨_,rfl,a,b,_,7,rfl,j,by omega,by decide,by decide,λr H2 q h1 g d=>⟨_,_,rfl,rfl,k _ _ (by show _<=r-3;omega) (by show r-3<=_;omega) (g.mono (by omega)) (i.trans d)⟩⟩)⟩;refine⟨_,rfl,_,rfl,_,_,rfl,rfl,.inl ⟨by omega,by omega⟩,_,_,rfl,rfl,a,b,_,_,rfl,j,by omega,by omega,by omega,λo H2 v x g d=>?_⟩;exact⟨_,rfl,_,_,rfl,rfl,k _ _ (by show _<=o-far;omega) (by show o-far<=_;omega) (g.mono (by omega)) (i.trans d)⟩
  .exact E1 (⟨_,rfl,a,b,_,7,rfl,hP,by omega,by decide,by decide,λr H2 q h1 g d=>⟨_,_,rfl,rfl,k _ _ (by show _<=r-3;omega) (by show r-3<=_;omega) (g.mono (by omega)) ((Off.refl _ _).trans d)⟩⟩)
inductive IspSys(vs:qA V)(H:Hp)(Q:VK)(E:XK):Prop
 |mk (a b:qE) (n:Nat) (wide far:Int) (_:vs=[.ref a,.int wide,.int far]) (_:1<=wide) (_:wide<=8) (_:0<=far) (_:far<=1000000000000) (_:PotAt H a b n) (_:n+1000<2 ^ 60) (_:∀q qr us rss (m:Nat) H',H' q=some (.tup [.ref qr,.int m])->H' qr=some (.tup us)->Its H' us rss->us.length<=6->(∀r∈rss,r.length=m/\Bd (far+3) r)->1<=m->m<=8->(m:Int)<=max 4 wide->PotAt H' a b (n+200)->Off [a,b] H H'->Q (.ref q) H'):IspSys  vs H Q E
def b6j:Sp:=λvs H Q E=>IspSys  vs H Q E
def sc__law_system:FnScope ["_law_pot_here","_law_wide","_law_far","_law_width","_law_many","_law_great","_law_rows","_law_k"] ["_law_pot_here","_law_wide","_law_far"] (A2 M4):={}
def b7G(F:FunAt K mg "_law_system" M4 ["_law_pot_here","_law_wide","_law_far"])(T:Tx mg)(d:Ok P w K mg base "_law_take" 1 ["_law_pot_here","_law_many"] a0T)(p:Ok P w K mg base "_law_number" 2 ["_law_pot_here","_law_far"] a6A):Ok P w K mg base "_law_system" 3 ["_law_pot_here","_law_wide","_law_far"] b6j:=by
 refine F.okJ sc__law_system (λvs H Q E h=>?_) (λf7 f A f5 s H vs Q E S h=>?_)
 .obtain⟨a,b,n,wide,far,rfl,_⟩:=h;rfl
 .obtain⟨a,b,n,wide,far,rfl,hw1,hw8,hf0,hf1,hP,hn,k⟩:=h;have hz:(3000:Nat)<=sizeLine:=by rw[aT];decide
  refine⟨_,(A1 (B2 (i:=3) sc__law_system.nd rfl (Or.inl rfl) (G7 A4 (A6 d (S.mono (by omega)) rfl (jaC (jv 0) (jaC A4 jaN)))))
 (A1 (C9 (a2p (A6 d (S.mono (by omega)) rfl (jaC (jv 0) (jaC A4 jaN))) A4)
 (A5 (B2 (i:=3) sc__law_system.nd rfl (Or.inl rfl) (G7 A4 (A6 d (S.mono (by omega)) rfl (jaC (jv 0) (jaC (jv 1) jaN))))))
 C2)
 (A1 (B2 (i:=4) sc__law_system.nd rfl (Or.inl rfl) (A6 d (S.mono (by omega)) rfl (jaC (jv 0) (jaC A4 jaN))))
 (A1 (C9 (a2p (A6 d (S.mono (by omega)) rfl (jaC (jv 0) (jaC A4 jaN))) A4)
 (A5 (B2 (i:=4) sc__law_system.nd rfl (Or.inl rfl) (A6 d (S.mono (by omega)) rfl (jaC (jv 0) (jaC A4 jaN)))))
 C2)
 (A1 (B2 (i:=5) sc__law_system.nd rfl (Or.inr rfl) (a0O (jv 2) (b7V rfl T.b_int (jaC (a9x (A6 d (S.mono (by omega)) rfl (jaC (jv 0) (jaC A4 jaN))) A4) jaN))))
 (A1 (B2 (i:=6) sc__law_system.nd rfl (Or.inl rfl) (L0 jaN))
 (A1 (N8 (J0 rfl T.b_range (jaC (jv 4) jaN)) (A7 (i:=7) sc__law_system.nd rfl (Or.inl rfl))
 (A1 (G4 (E6 K (jv 6) (jaC (C1 K rfl T.b_tuple (jaC (B5 (N:=["_law_j","_law_pot_here","_law_great"]) (src:=[none,some 0,some 5]) (J0 rfl T.b_range (jaC (jv 3) jaN)) (by show B6 _ _=true;rfl) (by rfl) (by rfl)
 (λ_ _ _ _ _=>(A7 (i:=0) (L2.nd ["_law_j","_law_pot_here","_law_great"]) rfl (Or.inl rfl))) (λ_ _ _ _ _=>B8) (λ_ _ _ _ _=>(A6 p (S.mono (by omega)) rfl (jaC (jv 1) (jaC (jv 2) jaN))))) jaN)) jaN)))
 (A5 (C9 (a2x (a1R (a9z (jv 7) A4) (a0x (a2p (A6 d (S.mono (by omega)) rfl (jaC (jv 0) (jaC A4 jaN))) A4))))
 (A5 (a3F (Y5 K (jv 6) (a3H (jv 7) A4)) (a8o (jv 6) (jv 7))))
 C2))))
 (A5 (A9 (B3 (jaC (C1 K rfl T.b_tuple (jaC (jv 6) jaN)) (jaC (jv 3) jaN)))))))))))),?_⟩
  refine⟨_,rfl,a,b,_,4,rfl,hP,by omega,by decide,by decide,λr1 H1 d5 d6 c9 Z=>?_⟩;refine⟨_,_,rfl,rfl,?_⟩;dsimp only[B0];refine R8 (λσ H'=>Ex1 λ(m:Nat)=>An6 (σ=[some (.ref a),some (.int wide),some (.int far),some (.int m),none,none,none,none]) (1<=m) (m<=8) ((m:Int)<=max 4 wide) (PotAt H' a b (n+3)) (Off [a,b] H H')) ?fin λfin=>?_
  case fin =>
   rintro σ H3 ⟨m,rfl,e3,e4,e5,a6,G⟩;clear d5 d6 c9 Z hP;refine⟨_,rfl,a,b,_,3,rfl,a6,by omega,by decide,by decide,λr4 H4 d7 d8 d1 a2=>?_⟩;dsimp only[B0];refine R8 (λσ H'=>Ex1 λ(N:Nat)=>An4 (σ=[some (.ref a),some (.int wide),some (.int far),some (.int m),some (.int N),none,none,none]) (N<=6) (PotAt H' a b (n+6)) (Off [a,b] H H')) ?fin2 λfin2=>?_
   case fin2 =>
    rintro σ H5 ⟨N,rfl,hN,X,I⟩;clear d7 d8 d1 a2 a6 G;refine⟨_,rfl,_,rfl,a,b,_,8,rfl,X,by omega,by decide,by decide,λr6 H6 _ _ R u=>?_⟩;refine⟨rfl,.inr ⟨_,rfl,?_⟩⟩;have u:=I.trans u;generalize decide (V.int r6=V.int 0)=cb;refine⟨_,_,rfl,rfl,.inr ⟨by cases cb<;>decide,by cases cb<;>decide⟩,?_⟩;obtain⟨g,hg,e2,g2⟩:∃g:Int,far*(if cb=true then 1 else 0)=g/\0<=g/\g<=far:=by
     cases cb
     .exact⟨0,by simp,by omega,by omega⟩
     .exact⟨far,by simp,by omega,by omega⟩
    dsimp only[B0];rw[hg];refine⟨bu _,λU c3=>?_⟩;have O:=O9 R c3;have c1:=Q6 u R c3;have s7:=(Same.refl H6).upd (o:=.lst []) c3;have e7:upd H6 U (.lst []) U=some (.lst []):=A0;have c0:=R.same s7;have b5:=a0a (o:=.lst []) u c1;generalize upd H6 U (.lst [])=H7 at s7 e7 c0 b5;dsimp only[B0];refine⟨_,rfl,_,rfl,by omega,by omega,?_⟩;rw[bE];refine a4P (lo:=0) (n:=N) (λi σ H'=>Ex3 λo7 y rss=>An7 (σ=[some (.ref a),some (.int wide),some (.int far),some (.int m),some (.int N),some (.int g),some (.ref U),o7]) (PotAt H' a b (n+7+30*i)) (Off [a,b] H H') (H' U=some (.lst y)) (Its H' y rss) (y.length=i) (∀r∈rss,r.length=m/\Bd (far+3) r)) ⟨none,[],[],rfl,c0.mono (by omega),b5,e7,.nil,rfl,λ_ z=>nomatch z⟩ ?_ ?_
    .rintro i σ H8 hi ⟨o7,y,rss,rfl,hP8,off8,e8,hI8,hul,hR8⟩;obtain⟨nn,d2⟩:∃nn,nn=n+7+30*i:=⟨_,rfl⟩;rw[<-d2]at hP8;have hb:nn+100<2 ^ 60:=by omega
     have en:nn+30=n+7+30*(i+1):=by omega
     clear d2 X I R c0 hn;dsimp only[B0];refine⟨_,rfl,.inl ⟨rfl,_,SqL.of e8⟩,?_⟩;refine⟨_,rfl,_,rfl,by omega,by omega,?_⟩;rw[bE];refine a4E (caps:=[some (.ref a),some (.int g)]) (c:=3) (λz => -(far+3)<=z/\z<=far+3) (by omega) rfl hP8 (λi' H' N' g3 e0 q=>⟨_,rfl,_,rfl,a,b,_,g,rfl,e2,by omega,e0,by omega,λr d3 h0 h1 c8 f4=>q r d3 ⟨by omega,by omega⟩ c8 f4⟩) ?_;intro H9 pw xs f1 f3 e1 a3 e6;have e9:=a3 _ _ O e8;have d9:=a2P hI8 hP8 a3;have c4:=off8.trans a3;have J:=(Same.refl H9).upd (o:=.lst (xs.map V.int)) e6;have a8:upd H9 pw (.lst (xs.map V.int)) pw=some (.lst (xs.map V.int)):=A0;have c6:=J _ _ e9;have a9:=d9.same J;have b1:=e1.same J;have a0:=c4.trans (J.off (l:=[a,b]));generalize upd H9 pw (.lst (xs.map V.int))=b6 at J a8 c6 a9 b1 a0;refine⟨pw,_,rfl,.inl ⟨SqL.of a8,λq hq=>?_⟩⟩;have a4:=(Same.refl b6).upd (o:=.tup (xs.map V.int)) hq;have b8:=a4 _ _ c6;have a7:upd b6 q (.tup (xs.map V.int)) q=some (.tup (xs.map V.int)):=A0;have b2:=b1.same a4;have b0:=a9.same a4;have a1:=a0.trans (a4.off (l:=[a,b]));generalize upd b6 q (.tup (xs.map V.int))=b7 at a4 b8 a7 b2 b0 a1;refine⟨U,_,_,rfl,rfl,b8,by omega,?_⟩;have W:Its (upd b7 U (.lst (y++[.ref q]))) (y++[.ref q]) (rss++[xs]):=a0z (b0.snoc ⟨q,rfl,a7⟩) b8 (λ_ z=>by cases z);have b9:upd b7 U (.lst (y++[.ref q])) U=some (.lst (y++[.ref q])):=A0;have L:=W8 (o:=.lst (y++[.ref q])) b2 O;have B:=a0a (o:=.lst (y++[.ref q])) a1 c1;generalize upd b7 U (.lst (y++[.ref q]))=f6 at W b9 L B;have M:∀r∈rss++[xs],r.length=m/\Bd (far+3) r:=λr S=>by
      rcases ao.mp S with z|z
      .exact hR8 r z
      .rw[au.mp z];exact⟨f1,f3⟩
     have Y:(y++[V.ref q]).length=i+1:=by simp[hul]
     refine⟨_,rfl,_,_,rfl,rfl,_,rfl,Z0 (λe=>?_) (λe=>?_)⟩
     .have hi0:0<i:=by have:=bp e;omega
      refine⟨_,rfl,a,b,_,8,rfl,L,by omega,by decide,by decide,λg5 d4 _ _ b3 C=>?_⟩;have a5:=C _ _ O b9;have D:=a2P W L C;refine⟨rfl,_,rfl,Z0 (λe=>?_) (λe=>?_)⟩
      .obtain⟨x,hx⟩:∃x,(y++[V.ref q])[i-1]?=some x:=⟨_,ak (by omega)⟩;obtain⟨r,S,g4,f2⟩:=D.mem hx;refine⟨_,rfl,_,rfl,_,_,rfl,rfl,U,_,_,x,rfl,rfl,SqL.of a5,?_,?_⟩
       .rw[show(0+(i:Int)-1)=((i-1:Nat):Int) by omega];exact P7 hx
       refine⟨_,rfl,_,rfl,U,_,_,i,rfl,rfl,a5,?_,?_⟩
       .rw[Int.zero_add];exact b9o (by omega)
       have c7:Its d4 ((y++[V.ref q]).set i x) ((rss++[xs]).set i r):=by
        refine⟨by rw[ez,ez,D.1],λj v ej=>?_⟩;rw[fD]at ej;by_cases c2:i=j
        .subst c2;rw[az rfl,az (by omega)]at ej;cases ej;exact⟨r,by rw[fD,az rfl,az (by rw[<-D.1];omega)],f2⟩
        .rw[ar c2]at ej;obtain⟨q,q1,q2⟩:=D.2 j v ej;exact⟨q,by rw[fD,ar c2];exact q1,q2⟩
       refine⟨_,_,_,rfl,en ▸ W8 (b3.mono (by omega)) O,a0a (B.trans C) c1,A0,a0z c7 a5 (λ_ z=>by cases z),by rw[ez];exact Y,λq hq=>?_⟩;rcases dR hq with z|z
       .exact M q z
       .rw[z];exact M r S
      .exact⟨_,_,_,rfl,en ▸ b3.mono (by omega),B.trans C,a5,D,Y,M⟩
     .exact⟨_,_,_,rfl,en ▸ L.mono (by omega),B,b9,W,Y,M⟩
    .rintro σ H8 ⟨o7,y,rss,rfl,hP8,off8,e8,hI8,hul,hR8⟩;refine⟨_,rfl,U,_,rfl,.inl ⟨SqL.of e8,λq hq=>?_⟩⟩;have s9:=(Same.refl H8).upd (o:=.tup y) hq;have e9:upd H8 q (.tup y) q=some (.tup y):=A0;generalize upd H8 q (.tup y)=H9 at s9 e9;refine⟨_,rfl,by show 2<=sizeLine;omega,λq2 f0=>?_⟩;have J:=(Same.refl H9).upd (o:=.tup [.ref q,.int m]) f0;have c5:=s9.trans J;exact k q2 q y rss m _ A0 (J _ _ e9) (hI8.same c5) (by omega) hR8 e3 e4 e5 ((hP8.same c5).mono (by omega)) (off8.trans c5.off)
   obtain⟨N4,rfl⟩:∃t:Nat,r4=t:=⟨r4.toNat,by omega⟩;refine⟨_,rfl,a,b,_,8,rfl,d1,by omega,by decide,by decide,λr5 H5 _ _ X I=>?_⟩;refine⟨rfl,_,rfl,Z0 (λe=>?_) (λe=>fin2 _ _ ⟨N4,rfl,by omega,X.mono (by omega),(G.trans a2).trans I⟩)⟩;refine⟨_,rfl,a,b,_,7,rfl,X,by omega,by decide,by decide,λr6 H6 g0 g1 R u=>?_⟩;obtain⟨N6,rfl⟩:∃t:Nat,r6=t:=⟨r6.toNat,by omega⟩;exact fin2 _ _ ⟨N6,rfl,by omega,R.mono (by omega),((G.trans a2).trans I).trans u⟩
  obtain⟨t1,rfl⟩:∃t:Nat,r1=t:=⟨r1.toNat,by omega⟩;refine⟨_,rfl,a,b,_,8,rfl,c9,by omega,by decide,by decide,λr2 H2 _ _ d0 b4=>?_⟩;refine⟨rfl,_,rfl,Z0 (λe=>?_) (λe=>fin _ _ ⟨t1+1,?_,by omega,by omega,by omega,d0.mono (by omega),Z.trans b4⟩)⟩
  .refine⟨_,rfl,_,rfl,a,b,_,_,rfl,d0,by omega,by omega,by omega,λr3 H3 f8 f9 a6 G=>?_⟩;obtain⟨t3,rfl⟩:∃t:Nat,r3=t:=⟨r3.toNat,by omega⟩;refine⟨_,_,rfl,rfl,fin _ _ ⟨t3+1,?_,by omega,by omega,by omega,a6.mono (by omega),(Z.trans b4).trans G⟩⟩;rw[show((t3+1:Nat):Int)=1+(t3:Int) by omega];rfl
  .rw[show((t1+1:Nat):Int)=1+(t1:Int) by omega];rfl
def b0R(n:Nat)(v:V):(List.replicate n [v]).flatten=List.replicate n v:=by
 induction n with
 |zero=>rfl
 |succ n a=>rw[cy,cW,a,cy];rfl
inductive IspFree(vs:qA V)(H:Hp)(Q:VK)(E:XK):Prop
 |mk (n:Int) (_:vs=[.int n]) (_:1<=n) (_:n<=1000) (_:∀p H',Same H H'->H' p=some (.tup ((List.replicate n.toNat (none:qD Int)).map cV))->Q (.ref p) H'):IspFree  vs H Q E
def b1U:Sp:=λvs H Q E=>IspFree  vs H Q E
def b4v:FnScope ["width"] ["width"] (A2 a5D):={}
def b5o(F:FunAt K mg "free" a5D ["width"]):Ok P w K mg base "free" 1 ["width"] b1U:=by
 refine F.okJ b4v (λd H Q E h=>?_) (λb f A a s H d Q E g h=>?_)
 .obtain⟨n,rfl,_⟩:=h;rfl
 .obtain⟨n,rfl,h1,h2,k⟩:=h;refine⟨_,(A5 (A9 (a0X (B3 (jaC W1 jaN)) (jv 0)))),?_⟩;have i:(1000:Nat)<=sizeLine:=by rw[aT];decide
  refine⟨by show 1<=sizeLine;omega,λp c=>⟨_,rfl,p,[.non],n,rfl,rfl,A0,by simp,h1,?_,λq H' s e=>?_⟩⟩
  .show(1:Int)*n<=_;omega
  .rw[b0R]at e;exact k _ _ (((Same.refl H).upd c).trans s) (by rw[e,List.map_replicate];rfl)
end
end K30
namespace K30
open PySem PySem.Spec PyProof.Rows L2
variable {H:Hp}{P:qG}{a:qE}{b rss tss:LLI}{base:Heap}{cs:qA (qD Int)}{k n:Nat}{mg:Str->qD qB}{ss v:qI}{t:Int}{w:World}{α:Type}
def a5P(h:v.length=n+1):∃u t,v=u++[t]/\u.length=n:=by
 refine⟨v.take n,v.getD n 0,?_,by rw[aS];omega⟩;refine eI λj=>?_;rw[dj,aS,dh (by omega)];split
 .rw[List.getElem?_take,az (by assumption)]
 .by_cases e:j=n
  .subst e;rw[fW,av,ak (by omega)];rfl
  .rw[cm (by omega),cm (by simp;omega)]
def a4N(xs:qI)(z:Int)(k:Nat):(xs++[z]).getD k 0=if k<xs.length then xs.getD k 0 else if k=xs.length then z else 0:=by
 rw[av,dj];split
 .rw[av]
 .split
  .rename_i e;rw[e,fW];rfl
  .rw[cm (by simp;omega)];rfl
def sdC(n:Nat):qA (qD Int):=List.replicate n none++[some 1]
def E2(n:Nat):(sdC n).length=n+1:=by simp[sdC]
def b6Q(b:v.length=n)(c:t<=1):Wi (sdC n) (v++[t])=true:=by
 rw[Z1 (by rw[E2];simp[b])];intro j a;rw[E2]at a;unfold sdC;rw[av,dj,bw];split
 .rw[ft,az (by assumption)];rfl
 .rw[show j-n=0 by omega,a4N,ar (by omega),az (by omega)];exact bz c
def a6J(a:v.length=n)(h:Wi (sdC n) (v++[t])=true):t<=1:=by
 have:=(Z1 (by rw[E2];simp[a])).mp h n (by rw[E2];omega);rw[a4N,ar (by omega),az a.symm]at this;unfold sdC at this;rw[av,dj,bw,ar (by omega),fW]at this;exact bp this
def sdS(rss:LLI)(ss:qI):LLI:=List.zipWith (λr s=>r++[-s]) rss ss
def a9h(h:ss.length=rss.length):(sdS rss ss).length=rss.length:=by unfold sdS;rw[cZ,h,Nat.min_self]
def a5u{x:qI}(h:x∈sdS rss ss):∃r s,r∈rss/\s∈ss/\x=r++[-s]:=by
 obtain⟨i,hi,rfl⟩:=cq.mp h;unfold sdS at hi⊢;rw[cZ]at hi;rw[fX];exact⟨_,_,cc (by omega),cc (by omega),rfl⟩
section
variable {K:qF}
def b5V{xs:qA V}{v:V}(h:xs[xs.length-1]?=some v):atI xs (-1)=some v:=by
 have a:0<xs.length:=by
  have:=(aL.mp h).1;omega
 unfold atI ixN;rw[ar (by decide),az (by omega),Option.bind_some,show((-1:Int)+(xs.length:Int)).toNat=xs.length-1 by omega];exact h
def b3H(ys:qI)(h:0<ys.length):M0 (ys.map V.int) none (some (-1))=ys.dropLast.map V.int:=by
 unfold M0;have e:HT.sIx (ys.map V.int).length (ys.map V.int).length (some (-1))=ys.length-1:=by
  rw[ai];show(if (-1:Int)<0 then((-1:Int)+(ys.length:Int)).toNat else min (-1:Int).toNat ys.length)=_;rw[az (by decide)];omega
 rw[e,HT.sIx_none,cU,Nat.sub_zero,<-List.map_take,List.dropLast_eq_take]
structure Ry(H:Hp)(ra:qE)(us:qA V)(rss:LLI)(n:Nat)(B:Int):Prop where
 e:H ra=some (.tup us)
 I:Its H us rss
 l:us.length<=6
 R:∀r∈rss,r.length=n/\Bd B r
def Ry.same{H H':Hp}{ra:qE}{us:qA V}{rss:LLI}{n:Nat}{B:Int}(h:Ry H ra us rss n B)(s:Same H H'):Ry H' ra us rss n B:=⟨s _ _ h.e,h.I.same s,h.l,h.R⟩
def Vn(n:Nat)(B:Int)(tss:LLI):Prop:=∀v∈tss,v.length=n/\∀x∈v,0<=x/\x<=B
def b1A{F W:LLI}{most:Nat}(h:Wk rss cs F W [] k)(e:W.length<=most):Vn cs.length (most+1) F:=λv b=>by
 obtain⟨f,c,d,g,j,l,m,n⟩:=h.lv;obtain⟨i,o,p,lv⟩:=c v (d v b).1;refine⟨lv.len,λx a=>⟨lv.nn x a,?_⟩⟩;have:=a9s lv.nn x a;rw[lv.sum]at this;omega
def b9w{caps:L2.St}{u v:V}:Sub (none::none::caps) (some u::some v::caps):=⟨rfl,λj x e=>by
 match j,e with
 |0,e=>cases e
 |1,e=>cases e
 |j+2,e=>exact e⟩
inductive IspSided(vs:qA V)(H:Hp)(Q:VK)(E:XK):Prop
 |mk (ra sa:qE) (us:qA V) (rss:LLI) (ss:qI) (_:vs=[.ref ra,.ref sa]) (_:H ra=some (.tup us)) (_:Its H us rss) (_:us.length<=1000) (_:(∀r∈rss,r.length<=1000)) (_:ss.length=rss.length) (_:H sa=some (.tup (ss.map V.int))) (_:∀q zs H',Same H H'->H' q=some (.tup zs)->Its H' zs (sdS rss ss)->Q (.ref q) H'):IspSided  vs H Q E
def a5p:Sp:=λvs H Q E=>IspSided  vs H Q E
def b2d:FnScope ["rows","sides"] ["rows","sides"] (A2 a2I):={}
def b2P(F:FunAt K mg "sided" a2I ["rows","sides"])(T:Tx mg):Ok P w K mg base "sided" 1 ["rows","sides"] a5p:=by
 refine F.okJ b2d (λD H Q E h=>?_) (λt f A m s H D Q E I h=>?_)
 .obtain⟨ra,sa,us,rss,x0,rfl,_⟩:=h;rfl
 .obtain⟨ra,sa,us,rss,ss,rfl,hra,hI,hul,hrl,hsl,hsa,kk⟩:=h;have J:(3000:Nat)<=sizeLine:=by rw[aT];decide
  refine⟨_,(A5 (A9 (C1 K rfl T.b_tuple (jaC (B5 (N:=["row","side"]) (src:=[none,none]) (a3G K rfl T.b_zip (jaC (jv 0) (jaC (jv 1) jaN))) (by show B6 _ _=true;rfl) (by rfl) (by rfl)
 (λ_ _ _ _ _=>(V1 K 2 (C0 (A7 (i:=0) (L2.nd ["row","side"]) rfl (Or.inl rfl)) (C0 (A7 (i:=1) (L2.nd ["row","side"]) rfl (Or.inl rfl)) N1)))) (λ_ _ _ _ _=>B8) (λ_ _ _ _ _=>(B1 (jv 0) (B3 (jaC (a3J (jv 1)) jaN))))) jaN)))),?_⟩
  refine⟨_,rfl,_,rfl,true,true,ra,sa,rfl,⟨_,SqT.of hra⟩,⟨_,SqT.of hsa⟩,?_⟩;refine a0j (xs:=us) (zs:=ss.map V.int) (by omega) (λi ys H'=>Same H H'/\Its H' ys (sdS (rss.take i) (ss.take i))) ⟨Same.refl H,Its.nil⟩ (λi ys H' _ _ h=>⟨SqT.of (h.1 _ _ hra),SqT.of (h.1 _ _ hsa),by rw[h.2.1];unfold sdS;rw[cZ,aS];omega⟩) ?_ ?_
  .rintro i x z ys H1 p hx hz' ⟨s1,hy⟩ hp;obtain⟨r,j,a,d,rfl,l⟩:=hI.mem hx;obtain⟨sz,k,rfl⟩:=U7 hz';have n:=hrl r j;have s2:=(Same.refl H1).upd (o:=.tup [.ref d,.int sz]) hp;refine⟨p,[.ref d,.int sz],rfl,SqT.of A0,rfl,.ref d,[.int sz],rfl,.int sz,[],rfl,rfl,?_⟩;generalize upd H1 p (.tup [.ref d,.int sz])=H2 at s2;refine⟨b9w,?_⟩;refine⟨_,rfl,_,rfl,_,rfl,by show 1<=sizeLine;omega,λy g=>?_⟩;have c:=s2.upd (o:=.tup [.int (-sz)]) g;refine⟨d,y,_,_,rfl,rfl,(s1.trans c) _ _ l,A0,by rw[ai];show _+1<=_;omega,λB G C u=>?_⟩;have b:=c.trans C;refine⟨s1.trans b,?_⟩;have e:sdS (rss.take (i+1)) (ss.take (i+1))=sdS (rss.take i) (ss.take i)++[r++[-sz]]:=by
    have h1:=(aL.mp a).1;unfold sdS;rw[bg,bg,a,k,List.zipWith_append (by rw[aS,aS];omega)];rfl
   rw[e];exact(hy.same b).snoc ⟨B,rfl,by rw[u,bC];rfl⟩
  .rintro ys H1 ⟨s1,hy⟩ p hp;rw[ai,hI.1,hsl,Nat.min_self,bh,<-hsl,bh]at hy;have s2:=s1.upd (o:=.lst ys) hp;refine⟨p,ys,rfl,.inl ⟨SqL.of A0,λq v=>?_⟩⟩;have c:=((Same.refl H1).upd (o:=.lst ys) hp).upd (o:=.tup ys) v;exact kk q ys _ (s1.trans c) A0 (hy.same c)
inductive IspSidedCaps(vs:qA V)(H:Hp)(Q:VK)(E:XK):Prop
 |mk (n:Nat) (wi:Int) (_:vs=[.int wi]) (_:wi=n) (_:1<=n) (_:n<=100) (_:∀q H',Same H H'->H' q=some (.tup ((sdC n).map cV))->Q (.ref q) H'):IspSidedCaps  vs H Q E
def Z4:Sp:=λvs H Q E=>IspSidedCaps  vs H Q E
def a4j:FnScope ["width"] ["width"] (A2 O4):={}
def a4l(F:FunAt K mg "sided_caps" O4 ["width"])(T:Tx mg)(a:Ok P w K mg base "free" 1 ["width"] b1U):Ok P w K mg base "sided_caps" 2 ["width"] Z4:=by
 refine F.okJ a4j (λm H Q E h=>?_) (λg f A c s H m Q E j h=>?_)
 .obtain⟨n,wi,rfl,_⟩:=h;rfl
 .obtain⟨n,_,rfl,rfl,h1,h2,kk⟩:=h;have q:(3000:Nat)<=sizeLine:=by rw[aT];decide
  refine⟨_,(A5 (A9 (B1 (A6 a (j.mono (by omega)) rfl (jaC (jv 0) jaN)) (B3 (jaC A4 jaN))))),?_⟩;refine⟨_,rfl,_,rfl,by omega,by omega,λp H1 s1 d=>?_⟩;rw[bE]at d;refine⟨by show 1<=sizeLine;omega,λp2 b=>?_⟩;have s2:=(Same.refl H1).upd (o:=.tup [.int 1]) b;refine⟨p,p2,_,_,rfl,rfl,s2 _ _ d,A0,by rw[ai,bw];show _+1<=_;omega,λk e l i=>?_⟩;exact kk k e ((s1.trans s2).trans l) (by rw[i];unfold sdC;rw[bC];rfl)
def L7(t:Int)(tss:LLI):LLI:=(tss.filter λv=>decide (v.getLast?=some t)).map List.dropLast
def mem_endL:v∈L7 t tss↔v++[t]∈tss:=by
 unfold L7;rw[aN];constructor
 .rintro⟨u,hu,rfl⟩;obtain⟨h1,h2⟩:=aQ.mp hu;have h2:=bp h2;obtain⟨ys,rfl⟩:=dS.mp h2;rwa[fY]
 .intro h;exact⟨v++[t],aQ.mpr ⟨h,by simp⟩,by simp⟩
inductive IspEnding(vs:qA V)(H:Hp)(Q:VK)(E:XK):Prop
 |mk (p:qE) (us:qA V) (tss:LLI) (n:Nat) (t:Int) (_:vs=[.ref p,.int t]) (_:H p=some (.tup us)) (_:Its H us tss) (_:us.length<=1000) (_:n<=1000) (_:(∀v∈tss,v.length=n+1)) (_:∀q zs H',Same H H'->H' q=some (.tup zs)->Its H' zs (L7 t tss)->Q (.ref q) H'):IspEnding  vs H Q E
def a6C:Sp:=λvs H Q E=>IspEnding  vs H Q E
def b0i:FnScope ["some","last"] ["some","last"] (A2 a1h):={}
def b0D(F:FunAt K mg "ending" a1h ["some","last"])(T:Tx mg):Ok P w K mg base "ending" 1 ["some","last"] a6C:=by
 refine F.okJ b0i (λD H Q E h=>?_) (λy f A m s H D Q E G h=>?_)
 .obtain⟨p,us,tss,n,t,rfl,_⟩:=h;rfl
 .obtain⟨p,us,tss,n,t,rfl,hp,hI,hul,hn,hl,kk⟩:=h;have J:(3000:Nat)<=sizeLine:=by rw[aT];decide
  refine⟨_,(A5 (A9 (C1 K rfl T.b_tuple (jaC (B5 (N:=["one","last"]) (src:=[none,some 1]) (E7 K (jv 0)) (by show B6 _ _=true;rfl) (by rfl) (by rfl)
 (λ_ _ _ _ _=>(A7 (i:=0) (L2.nd ["one","last"]) rfl (Or.inl rfl))) (λ_ _ _ _ _=>(a1U (a2p (D5 K (jv 0) (a3J A4)) (jv 1)))) (λ_ _ _ _ _=>(K9 K (jv 0) C6 (C5 (a3J A4))))) jaN)))),?_⟩
  refine⟨_,rfl,p,rfl,⟨_,SqT.of hp⟩,?_⟩;refine K6 (xs:=us) (by omega) (λi ys H'=>Same H H'/\Its H' ys (L7 t (tss.take i))/\ys.length<=i) ⟨Same.refl H,Its.nil,aq _⟩ (λi ys H' _ h=>⟨SqT.of (h.1 _ _ hp),h.2.2⟩) ?_ ?_
  .rintro i x ys H1 hx ⟨s1,hy,hyl⟩;obtain⟨r,g,j,v,rfl,l⟩:=hI.mem hx;have k:=hl r g;obtain⟨u,z,rfl,I⟩:=a5P (n:=n) k;have a:=s1 _ _ l;have c:atI ((u++[z]).map V.int) (-1)=some (.int z):=b5V (by rw[ai,ag,bC,ba (by simp)];simp);have e:L7 t (tss.take (i+1))=L7 t (tss.take i)++(if z=t then[u] else[]):=by
    unfold L7;rw[bg,j,List.filter_append,bC];congr 1;by_cases e:z=t
    .rw[az e];simp[e]
    .rw[ar e];simp[e]
   rw[e];refine⟨Sub.one,?_⟩;refine⟨_,rfl,_,rfl,v,_,_,_,rfl,rfl,SqT.of a,c,_,rfl,rfl,_,rfl,Z0 (λe=>?_) (λe=>?_)⟩
   .have e':z=t:=by simpa using e
    rw[az e'];refine⟨_,rfl,_,rfl,_,rfl,v,_,rfl,SqT.of a,?_,λC d=>?_⟩
    .rw[show HT.sIx ((u++[z]).map V.int).length ((u++[z]).map V.int).length (some (-1))=u.length by
      rw[ai,ag];show(if (-1:Int)<0 then((-1:Int)+((u.length+1:Nat):Int)).toNat else min (-1:Int).toNat (u.length+1))=_;rw[az (by decide)];omega]
     rw[ai,ag];show ¬(_/\u.length=u.length+1);omega
    rw[b3H _ (by simp),fY];have b:=(Same.refl H1).upd (o:=.tup (u.map V.int)) d;exact⟨s1.trans b,(hy.same b).snoc ⟨C,rfl,A0⟩,by simp;omega⟩
   .have e':¬z=t:=by simpa using e
    rw[ar e',cY];exact⟨s1,hy,by omega⟩
  .rintro ys H1 ⟨s1,hy,_⟩ p1 hp1;rw[hI.1,bh]at hy;refine⟨p1,ys,rfl,.inl ⟨SqL.of A0,λq B=>?_⟩⟩;have b:=((Same.refl H1).upd (o:=.lst ys) hp1).upd (o:=.tup ys) B;exact kk q ys _ (s1.trans b) A0 (hy.same b)
inductive IspBeyond(D:qE)(vs:qA V)(H:Hp)(Q:VK)(E:XK):Prop
 |mk (ra sa:qE) (us:qA V) (rss:LLI) (n most:Nat) (ss:qI) (wi mi B:Int) (_:vs=[.ref ra,.ref sa,.int wi,.int mi]) (_:wi=n) (_:mi=most) (_:Ry H ra us rss n B) (_:0<=B) (_:B<=10000000000000) (_:1<=n) (_:n<=8) (_:most<=900) (_:ss.length=rss.length) (_:Bd 10000000000000 ss) (_:H sa=some (.tup (ss.map V.int))) (_:(∀(q t b pp:qE) (zs ys ws:qA V) (qO Fl W:LLI) (k:Nat) (H':Hp),Same H H'->H' q=some (.tup [.ref t,.ref b,.ref pp])->H' t=some (.tup zs)->Its H' zs (L7 1 qO)->H' b=some (.tup ys)->Its H' ys (L7 0 qO)->H' pp=some (.tup ws)->Its H' ws W->Wk (sdS rss ss) (sdC n) Fl W [] k->W.length<=most->qO.Perm Fl->qO.length<=most->C7 qO->qO.Nodup->Vn (n+1) (most+1) qO->(∀v,v∈qO↔Least (sdS rss ss) (sdC n) v)->Q (.ref q) H')) (_:∀H',Same H H'->b5Z (sdS rss ss) (sdC n) most->E (.ref D) none H'):IspBeyond D vs H Q E
def a6D(D:qE):Sp:=λvs H Q E=>IspBeyond D vs H Q E
def sc_beyond:FnScope ["rows","sides","width","most","walk"] ["rows","sides","width","most"] (A2 a1i):={}
def b0E(F':FunAt K mg "beyond" a1i ["rows","sides","width","most"])(T:Tx mg)(g:Ok P w K mg base "sided" 1 ["rows","sides"] a5p)(b:Ok P w K mg base "sided_caps" 2 ["width"] Z4)(c:Ok P w K mg base "ending" 1 ["some","last"] a6C)(d:OkE P w K mg base "least" 7 ["rows","caps","most"] (a9b a)):OkE P w K mg base "beyond" 8 ["rows","sides","width","most"] (a6D a):=by
 refine F'.okE sc_beyond (λvs H Q E h=>?_) (λa6 f A a3 s H vs Q E G h=>?_)
 .obtain⟨ra,sa,us,rss,n,most,x0,wi,mi,B,rfl,_⟩:=h;rfl
 .obtain⟨ra,sa,us,rss,n,most,ss,_,_,B,rfl,rfl,rfl,hR,hB0,hB1,n1,n8,hmo,hsl,hsb,hsa,kq,ke⟩:=h;have hz:(3000:Nat)<=sizeLine:=by rw[aT];decide
  refine⟨_,(A1 (B2 (i:=4) sc_beyond.nd rfl (Or.inl rfl) (b5A d (G.mono (by omega)) rfl (jaC (A6 g (G.mono (by omega)) rfl (jaC (jv 0) (jaC (jv 1) jaN))) (jaC (A6 b (G.mono (by omega)) rfl (jaC (jv 2) jaN)) (jaC (jv 3) jaN)))))
 (A5 (A9 (B3 (jaC (A6 c (G.mono (by omega)) rfl (jaC (D5 K (jv 4) A4) (jaC A4 jaN))) (jaC (A6 c (G.mono (by omega)) rfl (jaC (D5 K (jv 4) A4) (jaC A4 jaN))) (jaC (D5 K (jv 4) A4) jaN))))))),?_⟩
  refine⟨_,rfl,_,rfl,ra,sa,us,rss,ss,rfl,hR.e,hR.I,by have:=hR.l;omega,λr l=>by rw[(hR.R r l).1];omega,hsl,hsa,λq1 z1 H1 s1 e1 D=>?_⟩;refine⟨_,rfl,n,_,rfl,rfl,n1,by omega,λc2 H2 s2 e2=>?_⟩;have J:=s1.trans s2;have Y:SyAt H2 q1 c2 (sdS rss ss) (sdC n):=⟨⟨z1,s2 _ _ e1,D.same s2,by rw[D.1,a9h hsl,<-hR.I.1];have:=hR.l;omega⟩,e2,by rw[E2];omega,by rw[E2];omega,λr l=>by
   obtain⟨x,sz,hx,a1,rfl⟩:=a5u l;refine⟨by rw[ag,(hR.R x hx).1,E2];rfl,λz hz=>?_⟩;rcases ao.mp hz with q|q
   .have:=(hR.R x hx).2 z q;omega
   .rw[au.mp q];have:=hsb sz a1;omega⟩
  have a5:(most+1)*(n+1)<=901*9:=Nat.mul_le_mul (by omega) (by omega);refine⟨_,rfl,q1,c2,sdS rss ss,sdC n,most,_,rfl,rfl,Y,by rw[E2];omega,λq t pp zs e ws Fl W k H3 s3 Z ht m j a0 X R F p=>?_,λH3 s3 U=>ke H3 (J.trans s3) U⟩;have a4:=J.trans s3;have hV:=b1A F p;rw[E2]at hV;have u:Vn (n+1) (most+1) e:=λv I=>hV v (j.mem_iff.mp I);have S:∀v,v∈e↔Least (sdS rss ss) (sdC n) v:=λv=>j.mem_iff.trans (F.least (λr l=>(Y.hR r l).1) v);have a7:=F.lv;have a2:e.length<=most:=by rw[j.length_eq];omega
  dsimp only[B0];refine⟨_,rfl,q,_,0,.ref t,rfl,rfl,SqT.of Z,rfl,t,zs,e,n,1,rfl,ht,m,by rw[m.1];omega,by omega,λv I=>(u v I).1,λb4 z4 H4 C e4 N=>?_⟩;refine⟨_,rfl,q,_,0,.ref t,rfl,rfl,SqT.of (C _ _ Z),rfl,t,zs,e,n,0,rfl,C _ _ ht,m.same C,by rw[m.1];omega,by omega,λv I=>(u v I).1,λb5 z5 H5 s5 e5 O=>?_⟩;refine⟨_,rfl,q,_,1,.ref pp,rfl,rfl,SqT.of ((C.trans s5) _ _ Z),rfl,by show 3<=sizeLine;omega,λp6 V=>?_⟩;have y:=(Same.refl H5).upd (o:=.tup [.ref b4,.ref b5,.ref pp]) V;have M:=s5.trans y;have L:=C.trans M;exact kq p6 b4 b5 pp z4 z5 ws e Fl W k _ ((a4.trans C).trans M) A0 (M _ _ e4) (N.same M) (y _ _ e5) (O.same y) (L _ _ X) (R.same L) F p j a2 a0 (j.symm.nodup F.nd.2) u S
end
def b6y{α:Type}[DecidableEq α]:∀(a b:qA α),a.Nodup->(∀x∈a,x∈b)->a.length<=b.length
 |[],b,_,_=>bu _
 |x::a,b,e,h=>by
  obtain⟨h1,h2⟩:=cv.mp e;have c:=h x aA;have:=b6y a (b.erase x) h2 λy d=>(List.mem_erase_of_ne (λz:y=x=>h1 (z ▸ d))).mpr (h y (ax _ d));rw[List.length_erase_of_mem c]at this;have:=fF c;rw[aX];omega
structure Pap(rss:LLI)(cs:qA (qD Int))(F W L:LLI):Prop where
 wi:∀v∈W,Wi cs v=true
 fst:∀u∈K7 cs,u∈W
 an:∀v∈W,Ans rss v=true->v∈F
 nx:∀v∈W,v∉L->∀j∈StP rss cs v,bump v j∈W∨∃f∈F,Bel f (bump v j)=true
def Wk.pap{F W L:LLI}(hR:∀r∈rss,r.length=cs.length)(h:Wk rss cs F W L k):Pap rss cs F W L:=by
 induction h with
 |@one L ri nd h=>exact⟨(Wk.one ri nd h).ok hR |>.wi,λu i=>(h u).mpr i,λv a e=>aQ.mpr ⟨a,e⟩,λv a g=>absurd a g⟩
 |@more F W L L' k h ne ri nd n c =>
  have o:=(Wk.more h ne ri nd n).ok hR;refine⟨λv a=>?_,λu i=>aO _ (c.fst u i),λv a e=>?_,λv a g j m=>?_⟩
  .rcases ao.mp a with z|z
   .exact c.wi v z
   .exact o.wi v z
  .rcases ao.mp a with z|z
   .exact aO _ (c.an v z e)
   .exact aH _ (aQ.mpr ⟨z,e⟩)
  .have hvW:v∈W:=(ao.mp a).resolve_right g;by_cases l:v∈L
   .cases e:Bar F (bump v j) j with
    |true =>
     unfold Bar at e;obtain⟨f,d,b⟩:=bM.mp e;rw[aM]at b;exact .inr ⟨f,aO _ d,b.2⟩
    |false=>exact .inl (aH _ ((n _).mpr ⟨v,l,j,m,rfl,e⟩))
   .rcases c.nx v hvW l j m with z|⟨f,d,hb⟩
    .exact .inl (aO _ z)
    .exact .inr ⟨f,aO _ d,hb⟩
def Lst(rss:LLI)(v:qI):Bool:=!(rss.any λu=>!decide (u=v) && Bel u v)
structure Srt(rss srt:LLI):Prop where
 ri:C7 srt
 nd:srt.Nodup
 mem:∀r,r∈srt↔r∈rss
def Srt.eq{a:LLI}(h:Srt rss a)(g:Srt rss b):a=b:=Q0 h.ri g.ri h.nd g.nd λv=>(h.mem v).trans (g.mem v).symm
def b0I{a:LLI}(h:∀r,r∈rss↔r∈a)(v:qI):Lst rss v=Lst a v:=by
 unfold Lst;congr 1;rw[cD,bM,bM];exact⟨λ⟨u,b,e⟩=>⟨u,(h u).mp b,e⟩,λ⟨u,b,e⟩=>⟨u,(h u).mpr b,e⟩⟩
def a9Q:∀{u v:qI},u.length=v.length->Bel u v=true->u≠v->HT.lexLt v u=false
 |[],[],_,_,ne=>absurd rfl ne
 |[],_::_,h,_,_=>by cases h
 |_::_,[],h,_,_=>by cases h
 |x::u,y::v,h,a,ne=>by
  unfold Bel at a;rw[bq,cC,aM]at a;have h1:x<=y:=bp a.1;by_cases e:x=y
  .subst e;have c:=a9Q (u:=u) (v:=v) (by simpa using h) a.2 λz=>ne (by rw[z]);simp[HT.lexLt,c]
  .have:¬y<x:=by omega
   have b:¬y=x:=λz=>e z.symm;simp[HT.lexLt,this,b]
def a9j{m:qA α->Prop}(l:qA α)(nil:m [])(snoc:∀(l:qA α) (v:α),m l->m (l++[v])):m l:=by
 have:∀r:qA α,m r.reverse:=λr=>by
  induction r with
  |nil=>exact nil
  |cons x r a=>rw[eG];exact snoc _ x a
 have:=this l.reverse;rwa[List.reverse_reverse]at this
def LO(l:LLI):LLI:=l.foldl (λacc v=>if acc.any (λu=>Bel u v)then acc else acc++[v]) []
def a6f(l:LLI)(v:qI):LO (l++[v])=if (LO l).any (λu=>Bel u v)then LO l else LO l++[v]:=by
 unfold LO;rw[List.foldl_append];rfl
def b3Q(v:qI):Bel v v=true:=(G1 rfl).mpr (Under.refl v)
def b1r{a b c:qI}(h1:a.length=b.length)(h2:b.length=c.length)(d:Bel a b=true)(e:Bel b c=true):Bel a c=true :=
 (G1 (h1.trans h2)).mpr (((G1 h1).mp d).trans ((G1 h2).mp e))
def a9T:∀(l:LLI),(∀r∈l,r.length=n)->(∀x∈LO l,x∈l)/\∀u∈l,∃x∈LO l,Bel x u=true:=by
 intro l;induction l using a9j with
 |nil=>intro _;exact⟨λ_ z=>z,λ_ z=>nomatch z⟩
 |snoc l v h =>
  intro f;obtain⟨c,d⟩:=h λr g=>f r (aO _ g);rw[a6f];cases e:(LO l).any (λu=>Bel u v)with
  |true =>
   rw[az rfl];refine⟨λx b=>aO _ (c x b),λu a=>?_⟩;rcases ao.mp a with z|z
   .exact d u z
   .rw[au.mp z];exact bM.mp e
  |false =>
   rw[ar (by decide)];refine⟨λx b=>?_,λu a=>?_⟩
   .rcases ao.mp b with z|z
    .exact aO _ (c x z)
    .exact aH _ z
   .rcases ao.mp a with z|z
    .obtain⟨x,h1,h2⟩:=d u z;exact⟨x,aO _ h1,h2⟩
    .rw[au.mp z];exact⟨v,aH _ aA,b3Q v⟩
def b1s(a:LLI)(f:∀r∈a,r.length=n)(m:C7 a)(nd:a.Nodup):∀(l rest:LLI),a=l++rest->LO l=l.filter (λv=>Lst a v):=by
 intro l;induction l using a9j with
 |nil=>intro _ _;rfl
 |snoc l v t =>
  intro rest e;have c:a=l++(v::rest):=by rw[e,aK];rfl
  have k:v∈a:=by rw[c];simp
  have b:∀r∈l,r.length=n:=λr o=>f r (by rw[c];exact aO _ o);obtain⟨i,s⟩:=a9T l b;rw[a6f,List.filter_append,<-t _ c];have key:(LO l).any (λu=>Bel u v)=!Lst a v:=by
   rw[cD];unfold Lst;rw[Bool.not_not,bM,bM];constructor
   .rintro⟨u,hu,hb⟩;refine⟨u,by rw[c];exact aO _ (i u hu),?_⟩;have g:u≠v:=λz=>by
     rw[c]at nd;exact(dO.mp nd).2.2 u (i u hu) v aA z
    rw[hb,bG g];rfl
   .rintro⟨u,hu,hb⟩;rw[aM,eM,decide_eq_false_iff_not]at hb;have d:u∈l:=by
     rw[c]at hu;rcases ao.mp hu with z|z
     .exact z
     .rcases aF.mp z with q|q
      .exact absurd q hb.1
      .exfalso;have h:HT.lexLt u v=false:=by
        rw[c]at m;have:=(bI.mp m).2.1;exact(cR.mp this).1 u q
       have h2:=a9Q (by rw[f u (by rw[c];exact aH _ z),f v k]) hb.2 hb.1;exact hb.1 (P9 u v h h2)
    obtain⟨x,h1,h2⟩:=s u d;exact⟨x,h1,b1r (by rw[b x (i x h1),b u d]) (by rw[b u d,f v k]) h2 hb.2⟩
  rw[key];cases j:Lst a v with
  |true=>rw[ar (by decide),List.filter_cons_of_pos (p:=λv=>Lst a v) j];rfl
  |false=>rw[az (by decide),List.filter_cons_of_neg (p:=λv=>Lst a v) (by rw[j];decide)];simp
section
variable {K:qF}
inductive IspAboveL(vs:qA V)(H:Hp)(Q:VK)(E:XK):Prop
 |mk (l:qE) (y:V) (fs:qA V) (fss:LLI) (ys:qI) (_:vs=[.ref l,y]) (_:H l=some (.lst fs)) (_:Its H fs fss) (_:IT H y ys) (_:(∀f∈fss,f.length<=1000)) (_:∀H',Same H H'->Q (.bl (fss.any λf=>Bel f ys)) H'):IspAboveL  vs H Q E
def a6G:Sp:=λvs H Q E=>IspAboveL  vs H Q E
inductive IspAboveT(vs:qA V)(H:Hp)(Q:VK)(E:XK):Prop
 |mk (l:qE) (y:V) (fs:qA V) (fss:LLI) (ys:qI) (_:vs=[.ref l,y]) (_:H l=some (.tup fs)) (_:Its H fs fss) (_:IT H y ys) (_:(∀f∈fss,f.length<=1000)) (_:∀H',Same H H'->Q (.bl (fss.any λf=>Bel f ys)) H'):IspAboveT  vs H Q E
def a3e:Sp:=λvs H Q E=>IspAboveT  vs H Q E
def sc_above_any:FnScope ["some","one","other"] ["some","one"] (A2 N5):={}
def a4o(F:FunAt K mg "above_any" N5 ["some","one"])(T:Tx mg)(b:Ok P w K mg base "below" 1 ["one","other"] a2G):Ok P w K mg base "above_any" 2 ["some","one"] a6G:=by
 refine F.okJ sc_above_any (λp H Q E h=>?_) (λn f A j s H p Q E c h=>?_)
 .obtain⟨l,y,fs,fss,ys,rfl,_⟩:=h;rfl
 .obtain⟨l,y,fs,fss,ys,rfl,hl,hI,hy,hL,k⟩:=h;refine⟨_,(A1 (N8 (E3 K (jv 0)) (A7 (i:=2) sc_above_any.nd rfl (Or.inl rfl))
 (A5 (C9 (D0 K (A6 b (c.mono (by omega)) rfl (jaC (jv 2) (jaC (jv 1) jaN))))
 (A5 (A9 K5))
 C2)))
 (A5 (A9 K5))),?_⟩
  refine⟨_,rfl,l,rfl,⟨_,SqL.of hl⟩,?_⟩;refine N7 (K:=K) (a:=l) (xs:=fs) (λi σ H'=>Ex1 λo=>An3 (σ=[some (.ref l),some y,o]) (Same H H') (((fss.take i).any λf=>Bel f ys)=false)) ⟨none,rfl,Same.refl H,rfl⟩ (λi σ H' _ h=>by obtain⟨_,_,s',_⟩:=h;exact SqL.of (s' _ _ hl)) ?_ ?_
  .rintro i x σ H' hx ⟨o,rfl,s',hB⟩;obtain⟨r,c,d,g⟩:=hI.mem hx;have m:((fss.take (i+1)).any λf=>Bel f ys)=Bel r ys:=by
    rw[bg,d,List.any_append,hB];simp
   dsimp only[B0];refine⟨_,rfl,_,rfl,x,y,r,ys,rfl,g.same s',hy.same s',hL r c,λH2 s2=>⟨_,rfl,?_⟩⟩;cases e:Bel r ys with
   |false =>
    rw[e]at m;exact E1 ⟨_,rfl,s'.trans s2,m⟩
   |true =>
    refine G8 ?_;have:=k H2 (s'.trans s2);rw[show(fss.any λf=>Bel f ys)=true from bM.mpr ⟨r,c,e⟩]at this;exact this
  .rintro σ H' ⟨o,rfl,s',hB⟩;rw[hI.1,bh]at hB;have:=k H' s';rw[hB]at this;exact this
def a4n(F:FunAt K mg "above_any" N5 ["some","one"])(T:Tx mg)(b:Ok P w K mg base "below" 1 ["one","other"] a2G):Ok P w K mg base "above_any" 2 ["some","one"] a3e:=by
 refine F.okJ sc_above_any (λp H Q E h=>?_) (λn f A j s H p Q E c h=>?_)
 .obtain⟨l,y,fs,fss,ys,rfl,_⟩:=h;rfl
 .obtain⟨l,y,fs,fss,ys,rfl,hl,hI,hy,hL,k⟩:=h;refine⟨_,(A1 (N8 (E7 K (jv 0)) (A7 (i:=2) sc_above_any.nd rfl (Or.inl rfl))
 (A5 (C9 (D0 K (A6 b (c.mono (by omega)) rfl (jaC (jv 2) (jaC (jv 1) jaN))))
 (A5 (A9 K5))
 C2)))
 (A5 (A9 K5))),?_⟩
  refine⟨_,rfl,l,rfl,⟨_,SqT.of hl⟩,?_⟩;refine a9K (K:=K) (a:=l) (xs:=fs) (λi σ H'=>Ex1 λo=>An3 (σ=[some (.ref l),some y,o]) (Same H H') (((fss.take i).any λf=>Bel f ys)=false)) ⟨none,rfl,Same.refl H,rfl⟩ (λi σ H' _ h=>by obtain⟨_,_,s',_⟩:=h;exact SqT.of (s' _ _ hl)) ?_ ?_
  .rintro i x σ H' hx ⟨o,rfl,s',hB⟩;obtain⟨r,c,d,g⟩:=hI.mem hx;have m:((fss.take (i+1)).any λf=>Bel f ys)=Bel r ys:=by
    rw[bg,d,List.any_append,hB];simp
   dsimp only[B0];refine⟨_,rfl,_,rfl,x,y,r,ys,rfl,g.same s',hy.same s',hL r c,λH2 s2=>⟨_,rfl,?_⟩⟩;cases e:Bel r ys with
   |false =>
    rw[e]at m;exact E1 ⟨_,rfl,s'.trans s2,m⟩
   |true =>
    refine G8 ?_;have:=k H2 (s'.trans s2);rw[show(fss.any λf=>Bel f ys)=true from bM.mpr ⟨r,c,e⟩]at this;exact this
  .rintro σ H' ⟨o,rfl,s',hB⟩;rw[hI.1,bh]at hB;have:=k H' s';rw[hB]at this;exact this
inductive IspLeastOf(vs:qA V)(H:Hp)(Q:VK)(E:XK):Prop
 |mk (p:qE) (us:qA V) (rss:LLI) (n:Nat) (_:vs=[.ref p]) (_:H p=some (.tup us)) (_:Its H us rss) (_:us.length<=1000) (_:1<=n) (_:n<=1000) (_:(∀r∈rss,r.length=n)) (_:∀q zs srt H',Same H H'->Srt rss srt->H' q=some (.tup zs)->Its H' zs (srt.filter λv=>Lst rss v)->Q (.ref q) H'):IspLeastOf  vs H Q E
def a4x:Sp:=λvs H Q E=>IspLeastOf  vs H Q E
def sc_least_of:FnScope ["some","found","one"] ["some"] (A2 W6):={}
def a6V(F:FunAt K mg "least_of" W6 ["some"])(T:Tx mg)(c:Ok P w K mg base "above_any" 2 ["some","one"] a6G):Ok P w K mg base "least_of" 3 ["some"] a4x:=by
 refine F.okJ sc_least_of (λvs H Q E h=>?_) (λa6 f A a5 s H vs Q E m h=>?_)
 .obtain⟨p,us,rss,n,rfl,_⟩:=h;rfl
 .obtain⟨p,us,rss,n,rfl,hp,hI,hl,hn1,hn2,hR,k⟩:=h;have hu:=m.u60;have hz:(3000:Nat)<=sizeLine:=by rw[aT];decide
  refine⟨_,(A1 (B2 (i:=1) sc_least_of.nd rfl (Or.inl rfl) (L0 jaN))
 (A1 (N8 (E3 K (a7m P w rfl T.b_sorted (jaC (a9C K P w hu rfl T.b_set (jaC (jv 0) jaN)) jaN))) (A7 (i:=2) sc_least_of.nd rfl (Or.inl rfl))
 (A5 (C9 (J4 (D0 K (A6 c (m.mono (by omega)) rfl (jaC (jv 1) (jaC (jv 2) jaN)))))
 (A5 (G4 (E6 K (jv 1) (jaC (jv 2) jaN))))
 C2)))
 (A5 (A9 (C1 K rfl T.b_tuple (jaC (jv 1) jaN)))))),?_⟩
  refine⟨bu _,λg M=>?_⟩;have s1:=(Same.refl H).upd (o:=.lst []) M;have V:upd H g (.lst []) g=some (.lst []):=A0;generalize upd H g (.lst [])=H1 at s1 V;dsimp only[B0];refine⟨_,rfl,true,p,us,rss,rfl,SqT.of (s1 _ _ hp),hI.same s1,hl,λa xs ha L j X=>?_⟩;have s2:=s1.upd (o:=a1G P w a xs) ha;have B:=(Same.refl H1).upd (o:=a1G P w a xs) ha;have U:upd H1 a (a1G P w a xs) a=some (a1G P w a xs):=A0;generalize upd H1 a (a1G P w a xs)=H2 at s2 B U;have a3:xs.length<=1000:=by
   have:=Tab.nodup_le (xs.map (·.1)) rss L λr m=>(j r).mp m;rw[ai,<-hI.1]at this;omega
  refine⟨a,xs,rfl,U,λx J=>(X x J).same B,λx J=>by rw[hR x.1 ((j x.1).mp (aN.mpr ⟨x,J,rfl⟩))];exact hn1,a3,λl zs b y d N a2=>?_⟩;have S:Srt rss b:=⟨a2,N.symm.nodup L,λr=>(N.mem_iff).trans (j r)⟩;have s3:=s2.upd (o:=.lst zs) y;have W:upd H2 l (.lst zs) l=some (.lst zs):=A0;have C:upd H2 l (.lst zs) g=some (.lst []):=E9 (B _ _ V) y;have d:=d.same ((Same.refl H2).upd (o:=.lst zs) y);have a4:l≠g:=(A8 (B _ _ V) y).symm;generalize upd H2 l (.lst zs)=H3 at s3 W C d;have I:∀r∈b,r.length=n:=λr m=>hR r ((S.mem r).mp m);have a8:zs.length<=1000:=by
   have:=Tab.nodup_le b rss S.nd λr m=>(S.mem r).mp m;rw[d.1];rw[<-hI.1]at this;omega
  have Z:H g=none:=M;refine⟨l,rfl,⟨_,SqL.of W⟩,?_⟩;refine N7 (K:=K) (a:=l) (xs:=zs) (λi σ H'=>Ex2 λo2 fs=>An5 (σ=[some (.ref p),some (.ref g),o2]) (Off [g] H3 H') (H' g=some (.lst fs)) (Its H' fs (LO (b.take i))) (fs.length<=i)) ⟨none,[],rfl,Off.refl _ _,C,.nil,aq _⟩ (λi σ H' _ h=>by obtain⟨_,_,_,o',_⟩:=h;exact SqL.of (o' _ _ (by simpa using a4) W)) ?_ ?_
  .rintro i x σ H' J ⟨o2,fs,rfl,off,D,hIf,hfl⟩;obtain⟨r,m,a0,a1⟩:=d.mem J;have a7:i<zs.length:=(aL.mp J).1;have O:IT H' x r:=by
    obtain⟨xa,rfl,R⟩:=a1;exact⟨xa,rfl,off _ _ (by simpa using J8 R C (by intro z;cases z)) R⟩
   have Y:∀f∈LO (b.take i),f.length<=1000:=λf D=>by
    have:=(a9T (n:=n) (b.take i) λr m=>I r (bJ m)).1 f D;rw[I f (bJ this)];exact hn2
   have t:LO (b.take (i+1))=if (LO (b.take i)).any (λu=>Bel u r)then LO (b.take i)else LO (b.take i)++[r]:=by
    rw[bg,a0];exact a6f _ _
   dsimp only[B0];refine⟨_,rfl,_,rfl,g,x,fs,_,r,rfl,D,hIf,O,Y,λH2 s2=>⟨_,rfl,?_⟩⟩;cases e:(LO (b.take i)).any (λu=>Bel u r)with
   |true =>
    rw[e,az rfl]at t;refine E1 ⟨_,fs,rfl,off.trans s2.off,s2 _ _ D,?_,by omega⟩;rw[t];exact hIf.same s2
   |false =>
    rw[e,ar (by decide)]at t;have G:=s2 _ _ D;refine G8 ⟨_,rfl,.inl ⟨rfl,_,SqL.of G⟩,_,rfl,g,_,_,rfl,rfl,G,by omega,?_⟩;refine⟨_,fs++[x],rfl,(off.trans s2.off).set (by simp),A0,?_,by simp;omega⟩;rw[t];exact Its.put ((hIf.same s2).snoc (O.same s2)) G
  .rintro σ H' ⟨o2,fs,rfl,off,D,hIf,_⟩;rw[d.1,bh]at hIf;refine⟨_,rfl,g,fs,rfl,.inl ⟨SqL.of D,λq hq=>?_⟩⟩;have s4:=(Same.refl H').upd (o:=.tup fs) hq;refine k q fs b _ ((a3j s3 Z off).trans s4) S A0 ?_;have e:=b1s (n:=n) b I S.ri S.nd b [] (by simp);rw[e]at hIf;have U:(b.filter λv=>Lst b v)=b.filter λv=>Lst rss v:=by
    congr 1;funext v;exact b0I S.mem v
   rw[U]at hIf;exact hIf.same s4
end
def a2U(n:Nat)(v:qI):Bool:=decide (v.length=n) && v.all λx=>decide (0<=x)
def a1v(cs:qA (qD Int))(v:qI):Bool:=(v.any λx=>!decide (x=0)) && Wi cs v
def W0(tss mss:LLI)(v:qI):Bool:=decide (v∈mss) || tss.any λt=>Bel t v
def goI(rss:LLI)(cs:qA (qD Int))(tss mss:LLI)(v:qI):Bool:=(tss.any λt=>Bel t v) || (!Ans rss v && (StP rss cs v).all λj=>W0 tss mss (bump v j))
structure Anti(rss tss:LLI):Prop where
 ri:C7 tss
 nd:tss.Nodup
 lst:∀v∈tss,Lst tss v=true
 ans:∀v∈tss,Ans rss v=true
def a4g(l:qA α)(f:α->Bool):(l.map λx=>V.bl (f x)).all trV=l.all f:=by rw[fk];rfl
def a1u(l:qA α)(f:α->Bool):(l.map λx=>V.bl (f x)).all a7s=true:=by
 rw[aI];intro v a;obtain⟨_,_,rfl⟩:=aN.mp a;rfl
def b0S(l:qI):(l.map V.int).all a7s=true:=by
 rw[aI];intro v a;obtain⟨_,_,rfl⟩:=aN.mp a;rfl
def b8w(l:qI):(l.map V.int).any trV=l.any λx=>!decide (x=0):=by
 rw[List.any_map];rfl
section
variable {K:qF}
def a5w:FnScope ["value"] ["value"] (A2 T4):={}
def a5v:FnScope ["value","width"] ["value","width"] (A2 T3):={}
def a3g:FnScope ["value","width"] ["value","width"] (A2 M3):={}
inductive IspAllFit(vs:qA V)(H:Hp)(Q:VK)(E:XK):Prop
 |mk (c a:qE) (us:qA V) (rss:LLI) (cs:qA (qD Int)) (_:vs=[.ref c,.ref a]) (_:H c=some (.tup (cs.map cV))) (_:cs.length<=1000) (_:H a=some (.tup us)) (_:Its H us rss) (_:us.length<=200000) (_:∀H',Same H H'->Q (.bl (rss.all (a1v cs))) H'):IspAllFit  vs H Q E
def a6F:Sp:=λvs H Q E=>IspAllFit  vs H Q E
def a7W:FnScope ["caps","some"] ["caps","some"] (A2 a0t):={}
def a8j(F:FunAt K mg "all_fit" a0t ["caps","some"])(T:Tx mg)(b:Ok P w K mg base "within" 1 ["caps","one"] a3c):Ok P w K mg base "all_fit" 2 ["caps","some"] a6F:=by
 refine F.okJ a7W (λn H Q E h=>?_) (λj f A d s H n Q E g h=>?_)
 .obtain⟨c,a,us,rss,cs,rfl,_⟩:=h;rfl
 .obtain⟨c,a,us,rss,cs,rfl,hc,hcl,ha,hI,hl,k⟩:=h;have t:(300000:Nat)<=sizeLine:=by rw[aT];decide
  refine⟨_,(A5 (A9 (N9 K rfl T.b_all (jaC (B5 (N:=["one","caps"]) (src:=[none,some 0]) (E7 K (jv 1)) (by show B6 _ _=true;rfl) (by rfl) (by rfl)
 (λ_ _ _ _ _=>(A7 (i:=0) (L2.nd ["one","caps"]) rfl (Or.inl rfl))) (λ_ _ _ _ _=>B8) (λ_ _ _ _ _=>(a1p (b7W K rfl T.b_any (jaC (jv 0) jaN)) (a1n (A6 b (g.mono (by omega)) rfl (jaC (jv 1) (jaC (jv 0) jaN))))))) jaN)))),?_⟩
  refine⟨_,rfl,a,rfl,⟨_,SqT.of ha⟩,?_⟩;refine a2Y (caps:=[some (.ref c)]) (λr=>V.bl (a1v cs r)) (by omega) (λH' s=>SqT.of (s _ _ ha)) hI rfl (λv r H1 o g m s1 q=>?_) λH1 p s1 l=>?_
  .obtain⟨va,rfl,hva⟩:=id m;refine⟨_,rfl,true,va,_,rfl,SqT.of hva,b0S _,_,rfl,?_⟩;rw[b8w];unfold a1v at q;cases e:r.any λx=>!decide (x=0)with
   |false =>
    rw[e,eO]at q;exact E1 (q _ (Same.refl _))
   |true =>
    rw[e,Bool.true_and]at q;exact G8 ⟨_,rfl,_,rfl,c,va,cs,r,rfl,s1 _ _ hc,hva,hcl,q⟩
  .refine⟨false,p,_,rfl,SqL.of A0,a1u _ _,?_⟩;rw[a4g];exact k _ (s1.upd l)
end
def b4L{K:qF}{src:qA (qJ)}{σ caps:L2.St}{Q:VK}{ps:qA V}{f:Nat->qI}{d:qA Nat}{te:TE}(g:Nat->Bool)(t:ps.length<=1000)(o:H a=some (.lst ps))(n:Prs H ps f d)(c:B4 src σ=none::none::caps)
  (l:∀(j:Nat) v H1 Q1,j∈d->IT H1 v (f j)->Same H H1->(∀H2,Same H1 H2->Q1 (.bl (g j)) H2)->te (some (.int j)::some v::caps) H1 Q1)
  (hd:∀H1 p,Same H H1->H1 p=none->Q (.ref p) (upd H1 p (.lst (d.map λj=>V.bl (g j))))) :
  G0 src (a7p K 2 (Y6 (B0 0) (Y6 (B0 1) a8v))) O0 te σ Q (Itl K a) H:=by
 have w:(3000:Nat)<=sizeLine:=by rw[aT];decide
 refine W2 (xs:=ps) (by omega) (λi ys H'=>Same H H'/\ys=(d.take i).map λj=>V.bl (g j)) ⟨Same.refl H,by simp⟩ (λi ys H' _ h=>⟨SqL.of (h.1 _ _ o),by rw[h.2,ai];exact bF _ _⟩) ?_ ?_
 .rintro i x ys H' hx ⟨s,rfl⟩;obtain⟨j,b,v,m,rfl,q,r⟩:=n.2 i x hx;refine⟨b,[.int j,v],rfl,SqT.of (s _ _ q),rfl,.int j,[v],rfl,v,[],rfl,rfl,?_⟩;rw[c];show Sub _ (some (.int j)::some v::caps)/\_;refine⟨⟨rfl,λk u e=>?_⟩,?_⟩
  .match k,e with
   |0,e=>cases e
   |1,e=>cases e
   |k+2,e=>exact e
  .refine l j v H' _ (aE m) (r.same s) s λH2 s2=>⟨s.trans s2,?_⟩;rw[bg,m,bC];rfl
 .rintro ys H' ⟨s,rfl⟩ p hp;rw[n.1,bh];exact hd H' p s hp
def b4A{H':Hp}{d:qE}{o:HO}(h:Rd H d o)(s:Same H H'):Rd H' d o:=by
 rcases h with h|⟨a,h⟩
 .exact .inl (s _ _ h)
 .exact .inr ⟨a,s _ _ h⟩
def DGet.rd{b:qE}{qL:qA (qA Key×V)}{k:qA Key}(e:Rd H a (.dT qL))(c:H b=some (.tup (k.map kV))):DGet H a (.ref b) (V6 qL k):=.inr ⟨qL,k,b,e,rfl,c,rfl⟩
section
variable {K:qF}
inductive IspAreLeast(vs:qA V)(H:Hp)(Q:VK)(E:XK):Prop
 |mk (ra t:qE) (us zs:qA V) (rss tss:LLI) (n:Nat) (_:vs=[.ref ra,.ref t]) (_:H ra=some (.tup us)) (_:Its H us rss) (_:us.length<=1000) (_:(∀r∈rss,r.length<=1000)) (_:H t=some (.tup zs)) (_:Its H zs tss) (_:zs.length<=1000) (_:1<=n) (_:n<=1000) (_:(∀v∈tss,v.length=n/\Sm v)) (_:∀b H',Same H H'->(b=true↔Anti rss tss)->Q (.bl b) H'):IspAreLeast  vs H Q E
def a3d:Sp:=λvs H Q E=>IspAreLeast  vs H Q E
def a5y:FnScope ["rows","told"] ["rows","told"] (A2 T8):={}
def a5N(F:FunAt K mg "are_least" T8 ["rows","told"])(T:Tx mg)(b:Ok P w K mg base "least_of" 3 ["some"] a4x)(a:Ok P w K mg base "is_answer" 3 ["rows","one"] a2F):Ok P w K mg base "are_least" 4 ["rows","told"] a3d:=by
 refine F.okJ a5y (λD H Q E h=>?_) (λo f A m s H D Q E d h=>?_)
 .obtain⟨ra,t,us,zs,rss,tss,n,rfl,_⟩:=h;rfl
 .obtain⟨ra,t,us,zs,rss,tss,n,rfl,hra,hI,hul,hRl,ht,hJ,hzl,n1,n2,hT,k⟩:=h;have I:(3000:Nat)<=sizeLine:=by rw[aT];decide
  have B:=d.u60;refine⟨_,(A5 (A9 (a1p (b3e K B (A6 b (d.mono (by omega)) rfl (jaC (jv 1) jaN)) (jv 1)) (a1n (N9 K rfl T.b_all (jaC (B5 (N:=["one","rows"]) (src:=[none,some 0]) (E7 K (jv 1)) (by show B6 _ _=true;rfl) (by rfl) (by rfl)
 (λ_ _ _ _ _=>(A7 (i:=0) (L2.nd ["one","rows"]) rfl (Or.inl rfl))) (λ_ _ _ _ _=>B8) (λ_ _ _ _ _=>(A6 a (d.mono (by omega)) rfl (jaC (jv 1) (jaC (jv 0) jaN))))) jaN)))))),?_⟩
  refine⟨_,rfl,t,zs,tss,n,rfl,ht,hJ,hzl,n1,n2,λr d=>(hT r d).1,λq J g H1 s1 S y j=>?_⟩;have u:C7 tss->tss.Nodup->g=tss:=λh1 h2=>S.eq ⟨h1,h2,λ_=>Iff.rfl⟩;refine⟨_,rfl,2,_,by decide,EqV.its (k:=true) (SqT.of y) (SqT.of (s1 _ _ ht)) j (hJ.same s1),⟨_,_,rfl,rfl⟩,_,rfl,?_⟩;by_cases e:(g.filter λv=>Lst tss v)=tss
  .rw[bz e];refine G8 ⟨_,rfl,t,rfl,⟨_,SqT.of (s1 _ _ ht)⟩,?_⟩;refine a2Y (caps:=[some (.ref ra)]) (λr=>V.bl (Ans rss r)) (by omega) (λH' s=>SqT.of (s _ _ (s1 _ _ ht))) (hJ.same s1) rfl (λv r H2 G l c s2 C=>?_) λH2 p s2 x=>?_
   .have s12:=s1.trans s2;exact⟨_,rfl,_,rfl,ra,v,us,rss,r,rfl,s12 _ _ hra,hI.same s12,c,hul,hRl,(hT r l).2,C⟩
   .refine⟨false,p,_,rfl,SqL.of A0,a1u _ _,?_⟩;rw[a4g];refine k _ _ (s1.trans (s2.upd x)) ?_;rw[aI];refine⟨λh=>⟨?_,?_,λv c=>?_,h⟩,λh=>h.ans⟩
    .rw[<-e];exact List.Pairwise.filter _ S.ri
    .rw[<-e];exact S.nd.filter _
    .rw[<-e]at c;exact(aQ.mp c).2
  .rw[bG e];refine E1 (k _ _ s1 ⟨(λz=>nomatch z),λh=>absurd ?_ e⟩);rw[u h.ri h.nd];exact List.filter_eq_self.mpr λv c=>h.lst v c
inductive IspMet(vs:qA V)(H:Hp)(Q:VK)(E:XK):Prop
 |mk (t d:qE) (y:V) (zs:qA V) (tss:LLI) (qL:qA (qA Key×V)) (mss:LLI) (ys:qI) (_:vs=[.ref t,.ref d,y]) (_:H t=some (.tup zs)) (_:Its H zs tss) (_:Rd H d (.dT qL)) (_:qL.map (·.1)=IK mss) (_:IT H y ys) (_:(∀f∈tss,f.length<=1000)) (_:∀H',Same H H'->Q (.bl (W0 tss mss ys)) H'):IspMet  vs H Q E
def b1S:Sp:=λvs H Q E=>IspMet  vs H Q E
def b0h:FnScope ["told","listed","one"] ["told","listed","one"] (A2 a1g):={}
def b0C(F:FunAt K mg "is_met" a1g ["told","listed","one"])(T:Tx mg)(a:Ok P w K mg base "above_any" 2 ["some","one"] a3e):Ok P w K mg base "is_met" 3 ["told","listed","one"] b1S:=by
 refine F.okJ b0h (λj H Q E h=>?_) (λg f A c s H j Q E e h=>?_)
 .obtain⟨t,d,y,zs,tss,qL,mss,ys,rfl,_⟩:=h;rfl
 .obtain⟨t,d,_,zs,tss,qL,mss,ys,rfl,ht,hI,hd,hk,⟨y,rfl,hy⟩,hL,k⟩:=h;have i:=e.u60;refine⟨_,(A5 (A9 (b9l (b7R i (jv 2) (jv 1) (by with_unfolding_all rfl)) (a1n (A6 a (e.mono (by omega)) rfl (jaC (jv 0) (jaC (jv 2) jaN))))))),?_⟩;refine⟨_,rfl,_,rfl,d,_,rfl,DGet.rd hd (by rw[a8n];exact hy),_,rfl,?_⟩;rw[a7k hk];unfold W0 at k;by_cases b:ys∈mss
  .rw[bz b]at k⊢;exact G8 (k _ (Same.refl _))
  .rw[bG b,dn]at k;rw[bG b];exact E1 ⟨_,rfl,_,rfl,t,_,zs,tss,ys,rfl,ht,hI,⟨y,rfl,hy⟩,hL,k⟩
structure Ps(H:Hp)(ra c t d:qE)(us zs:qA V)(qL:qA (qA Key×V))(rss tss mss:LLI)(cs:qA (qD Int)):Prop where
 r:H ra=some (.tup us)
 I:Its H us rss
 c:H c=some (.tup (cs.map cV))
 t:H t=some (.tup zs)
 J:Its H zs tss
 d:Rd H d (.dT qL)
def Ps.same{H H':Hp}{ra c t d:qE}{us zs:qA V}{qL:qA (qA Key×V)}{rss tss a:LLI}{cs:qA (qD Int)}(h:Ps H ra c t d us zs qL rss tss a cs)(s:Same H H'):Ps H' ra c t d us zs qL rss tss a cs:=⟨s _ _ h.r,h.I.same s,s _ _ h.c,s _ _ h.t,h.J.same s,b4A h.d s⟩
structure Pk(us:qA V)(qL:qA (qA Key×V))(rss tss mss:LLI)(cs:qA (qD Int)):Prop where
 ul:us.length<=1000
 R:Rs cs.length rss
 n1:1<=cs.length
 n2:cs.length<=100
 k:qL.map (·.1)=IK mss
 T:∀v∈tss,v.length=cs.length
 M:∀v∈mss,v.length=cs.length/\Sm v
inductive IspGoes(vs:qA V)(H:Hp)(Q:VK)(E:XK):Prop
 |mk (ra c t d:qE) (y:V) (us zs:qA V) (qL:qA (qA Key×V)) (rss tss mss:LLI) (cs:qA (qD Int)) (ys:qI) (_:vs=[.ref ra,.ref c,.ref t,.ref d,y]) (_:Ps H ra c t d us zs qL rss tss mss cs) (_:Pk us qL rss tss mss cs) (_:IT H y ys) (_:ys∈mss) (_:∀H',Same H H'->Q (.bl (goI rss cs tss mss ys)) H'):IspGoes  vs H Q E
def b1T:Sp:=λvs H Q E=>IspGoes  vs H Q E
def a7V:FnScope ["rows","caps","told","listed","one"] ["rows","caps","told","listed","one"] (A2 a0s):={}
def a8i(F:FunAt K mg "goes_on" a0s ["rows","caps","told","listed","one"])(T:Tx mg)(a:Ok P w K mg base "above_any" 2 ["some","one"] a3e)(b:Ok P w K mg base "is_answer" 3 ["rows","one"] a2F)(l:Ok P w K mg base "steps" 4 ["rows","caps","one"] a5n)(g:Ok P w K mg base "is_met" 3 ["told","listed","one"] b1S):Ok P w K mg base "goes_on" 5 ["rows","caps","told","listed","one"] b1T:=by
 refine F.okJ a7V (λvs H Q E h=>?_) (λU f A D s H vs Q E x h=>?_)
 .obtain⟨ra,c,t,d,y,us,zs,qL,rss,tss,mss,cs,ys,rfl,_⟩:=h;rfl
 .obtain⟨ra,c,t,d,y,us,zs,qL,rss,tss,mss,cs,ys,rfl,S,W,hy,hm,k⟩:=h;have n:∀f∈tss,f.length<=1000:=λf V=>by rw[W.T f V];have:=W.n2;omega
  obtain⟨o,u⟩:=W.M ys hm;have X:=W.n2;refine⟨_,(A1 (C9 (D0 K (A6 a (x.mono (by omega)) rfl (jaC (jv 2) (jaC (jv 4) jaN))))
 (A5 (A9 K5))
 C2)
 (A1 (C9 (D0 K (A6 b (x.mono (by omega)) rfl (jaC (jv 0) (jaC (jv 4) jaN))))
 (A5 (A9 K5))
 C2)
 (A5 (A9 (N9 K rfl T.b_all (jaC (B5 (N:=["j","more","told","listed"]) (src:=[none,none,some 2,some 3]) (E3 K (A6 l (x.mono (by omega)) rfl (jaC (jv 0) (jaC (jv 1) (jaC (jv 4) jaN))))) (by show B6 _ _=true;rfl) (by rfl) (by rfl)
 (λ_ _ _ _ _=>(V1 K 2 (C0 (A7 (i:=0) (L2.nd ["j","more","told","listed"]) rfl (Or.inl rfl)) (C0 (A7 (i:=1) (L2.nd ["j","more","told","listed"]) rfl (Or.inl rfl)) N1)))) (λ_ _ _ _ _=>B8) (λ_ _ _ _ _=>(A6 g (x.mono (by omega)) rfl (jaC (jv 2) (jaC (jv 3) (jaC (jv 1) jaN)))))) jaN)))))),?_⟩
  refine⟨_,rfl,_,rfl,t,y,zs,tss,ys,rfl,S.t,S.J,hy,n,λH1 s1=>⟨_,rfl,?_⟩⟩;unfold goI at k;cases e:tss.any λt=>Bel t ys with
  |true =>
   rw[e,Bool.true_or]at k;exact G8 (k _ s1)
  |false =>
   rw[e,dn]at k;have I:=S.same s1;refine E1 ⟨_,rfl,_,rfl,ra,y,us,rss,ys,rfl,I.r,I.I,hy.same s1,W.ul,λr C=>by rw[(W.R r C).1];omega,u,λH2 s2=>⟨_,rfl,?_⟩⟩;have m:=s1.trans s2;cases J:Ans rss ys with
   |true =>
    rw[J]at k;exact G8 (k _ m)
   |false =>
    rw[J,Bool.not_false,Bool.true_and]at k;have z:=S.same m;refine E1 ⟨_,rfl,_,rfl,_,rfl,ra,c,y,us,rss,cs,ys,rfl,z.r,z.I,z.c,hy.same m,W.ul,by omega,o.symm,by rw[o];exact W.R,u,λp ps H3 O M L=>?_⟩;refine⟨p,rfl,⟨_,SqL.of M⟩,?_⟩;have Y:(StP rss cs ys).length<=ys.length:=a_ (bD _ _) (a_ (bD _ _) (by simp));refine b4L (caps:=[some (.ref t),some (.ref d)]) (λj=>W0 tss mss (bump ys j)) (by rw[L.1];omega) M L rfl (λj v R Q4 hj Z G q=>?_) λR p4 G B=>?_
    .have S4:=S.same (m.trans (O.trans G));exact⟨_,rfl,_,rfl,_,rfl,t,d,v,zs,tss,qL,mss,bump ys j,rfl,S4.t,S4.J,S4.d,W.k,Z,n,q⟩
    .refine⟨false,p4,_,rfl,SqL.of A0,a1u _ _,?_⟩;rw[a4g];exact k _ (m.trans (O.trans (G.upd B)))
structure Shw(rss:LLI)(cs:qA (qD Int))(tss pss:LLI):Prop where
 tv:tss.all (a2U cs.length)=true
 pv:pss.all (a2U cs.length)=true
 fit:(tss++pss).all (a1v cs)=true
 an:Anti rss tss
 fst:(K7 cs).all (W0 tss pss)=true
 go:pss.all (goI rss cs tss pss)=true
def a4H{a:LLI}(h:∀r,r∈a↔r∈b):W0 tss a=W0 tss b:=by
 funext v;unfold W0;congr 1;rw[cD,br,br];exact h v
def b3u{a:LLI}(h:∀r,r∈a↔r∈b):goI rss cs tss a=goI rss cs tss b:=by
 funext v;unfold goI;rw[a4H h]
def a8Q{l:LLI}(h:l.all (a2U n)=true):∀v∈l,v.length=n:=λv a=>by
 have:=aI.mp h v a;unfold a2U at this;rw[aM]at this;exact bp this.1
def sc_shows:FnScope ["rows","caps","told","paper","listed"] ["rows","caps","told","paper"] (A2 a2J):={}
end
def a5W(a:∀x∈v,0<=x):a1v cs v=true↔0<v.sum/\Wi cs v=true:=by
 unfold a1v;rw[aM];refine and_congr_left λ_=>?_;rw[bM];constructor
 .rintro⟨x,hx,h⟩;have h1:¬x=0:=by simpa using h
  have h2:=a x hx;exact a8V v a x hx (by omega)
 .intro h;obtain⟨j,b,h1⟩:=a5H a h;rw[av,ak b]at h1;have h1:1<=v[j]:=h1;exact⟨v[j],cc _,by simp;omega⟩
def vecI_iff:a2U n v=true↔v.length=n/\∀x∈v,0<=x:=by
 unfold a2U;rw[aM,br,aI];exact and_congr_right λ_=>⟨λh x a=>bp (h x a),λh x a=>bz (h x a)⟩
def b4p{F W c:LLI}(hR:∀r∈rss,r.length=cs.length)(h:Wk rss cs F W [] k)(g:tss.Perm F)(o:C7 tss)(l:∀v∈c,v.length=cs.length/\(∀x∈v,0<=x)/\0<v.sum/\Wi cs v=true)(n:∀v∈c,v∈W∨(tss.any λt=>Bel t v)=true)(q:∀v∈W,v∈c∨(tss.any λt=>Bel t v)=true):Shw rss cs tss c:=by
 have d:∀v,v∈tss↔Least rss cs v:=λv=>g.mem_iff.trans (h.least hR v);have m:tss.Nodup:=g.symm.nodup h.nd.2;have pap:=h.pap hR;have met:∀v,v∈W->W0 tss c v=true:=λv b=>by
  unfold W0;rcases q v b with z|z
  .rw[bz z,Bool.true_or]
  .rw[z,Bool.or_true]
 refine⟨aI.mpr λv b=>?_,aI.mpr λv b=>?_,aI.mpr λv b=>?_,⟨o,m,λv b=>?_,λv b=>((d v).mp b).an.ans⟩,aI.mpr λv b=>met v (pap.fst v b),aI.mpr λv b=>?_⟩
 .exact vecI_iff.mpr ⟨((d v).mp b).an.len,((d v).mp b).an.nn⟩
 .exact vecI_iff.mpr ⟨(l v b).1,(l v b).2.1⟩
 .rcases ao.mp b with z|z
  .have:=(d v).mp z;exact(a5W this.an.nn).mpr ⟨this.an.pos,this.wi⟩
  .have:=l v z;exact(a5W this.2.1).mpr this.2.2
 .unfold Lst;rw[eM,dN];intro u C i;rw[aM]at i;have h1:=(d u).mp C;have h2:=(d v).mp b;have:=h2.min u h1.an ((G1 (by rw[h1.an.len,h2.an.len])).mp i.2);rw[this]at i;simp at i
 .obtain⟨h1,h2,h3,h4⟩:=l v b;unfold goI;cases s:tss.any λt=>Bel t v with
  |true=>rfl
  |false =>
   have p:v∈W:=(n v b).resolve_right (by rw[s];decide);rw[dn,aM,eM];constructor
   .cases e:Ans rss v with
    |false=>rfl
    |true =>
     obtain⟨a,w,y⟩:=P6 v.sum.toNat (by omega) ⟨h1,h2,e,h3⟩ h4;have:=dN.mp s a ((d a).mpr w);rw[(G1 (by rw[w.an.len,h1])).mpr y]at this;exact absurd rfl this
   .rw[aI];intro j B;rcases pap.nx v p (by simp) j B with z|⟨f,A,i⟩
    .exact met _ z
    .unfold W0;rw[bM.mpr ⟨f,g.mem_iff.mpr A,i⟩,Bool.or_true]
def Shw.answer(h:Shw rss cs tss b){t:qI}(a:t∈tss):Answer rss cs.length t/\Wi cs t=true:=by
 obtain⟨h1,h2⟩:=vecI_iff.mp (aI.mp h.tv t a);obtain⟨c,d⟩:=(a5W h2).mp (aI.mp h.fit t (aO _ a));exact⟨⟨h1,h2,h.an.ans t a,c⟩,d⟩
def Shw.above{a:LLI}(h:Shw rss cs tss a){u:qI}(e:Least rss cs v)(d:Under u v)(g:(tss.any λt=>Bel t u)=true):v∈tss:=by
 obtain⟨t,c,i⟩:=bM.mp g;have b:=(h.answer c).1;have f:Under t u:=(G1 (by rw[b.len,d.1,e.an.len])).mp i;have:=e.min t b (Under.trans f d);rw[<-this];exact c
def Shw.walk{p:LLI}(h:Shw rss cs tss p)(hR:∀r∈rss,r.length=cs.length)(b:Least rss cs v):∀(m:Nat) (u:qI),(v.sum-u.sum).toNat<=m->Under u v->W0 tss p u=true->v∈tss:=by
 intro m;induction m with
 |zero =>
  intro u B d a;have A:=d.sum.1;have e:u=v:=Under.eq d (by omega);cases f:tss.any λt=>Bel t u with
  |true=>exact h.above b d f
  |false =>
   unfold W0 at a;rw[f,Bool.or_false,br]at a;have g:=aI.mp h.go u a;unfold goI at g;rw[f,dn,aM,e,b.an.ans]at g;exact absurd g.1 (by decide)
 |succ m D =>
  intro u B d a;cases f:tss.any λt=>Bel t u with
  |true=>exact h.above b d f
  |false =>
   unfold W0 at a;rw[f,Bool.or_false,br]at a;have g:=aI.mp h.go u a;unfold goI at g;rw[f,dn,aM,eM]at g;obtain⟨i,y⟩:=g;have w:u≠v:=λz=>by rw[z,b.an.ans]at i;cases i
   have x:=b6t rss u v (λr C=>by rw[hR r C,b.an.len]) d w b.an.ans;obtain⟨j,q⟩:=List.exists_mem_of_ne_nil _ x;have n:=a8d q;have o:j<u.length:=by rw[d.1];exact n.1
   have k:a1A rss u j<0:=by
    unfold Pl at q;have:=(aQ.mp q).2;rw[i,dn,aM]at this;exact bp this.2
   have l:a7A (cs.getD j none) (u.getD j 0)=true:=by
    have:=(Z1 b.an.len).mp b.wi j (by rw[<-b.an.len];exact n.1);cases e:cs.getD j none with
    |none=>rfl
    |some c =>
     rw[e]at this;have:v.getD j 0<=c:=bp this;exact bz (by omega)
   have s:j∈StP rss cs u:=by
    unfold StP;rw[aQ,aQ,aY,br];exact⟨⟨o,k⟩,l⟩
   refine D (bump u j) ?_ (Under.bump (rss:=rss) d q) (aI.mp y j s);rw[a4c u j o];omega
def Shw.sound{m:LLI}(h:Shw rss cs tss m)(hR:∀r∈rss,r.length=cs.length)(v:qI):v∈tss↔Least rss cs v:=by
 have c:∀v,Least rss cs v->v∈tss:=λv b=>by
  obtain⟨j,q,h1⟩:=a5H b.an.nn b.an.pos;have k:j<cs.length:=by rw[<-b.an.len];exact q
  have d:Under (J7 cs.length j) v:=⟨by rw[L3,b.an.len],λi hi=>by
   rw[V7 _ _ _ (by rw[<-b.an.len];exact hi)];split
   .rename_i e;subst e;exact h1
   .exact b6x b.an.nn i⟩
  have p:J7 cs.length j∈K7 cs:=aQ.mpr ⟨aN.mpr ⟨j,aY.mpr k,rfl⟩,a2E b.an.len b.wi d⟩;exact h.walk hR b _ _ (aq _) d (aI.mp h.fst _ p)
 refine⟨λo=>?_,c v⟩;obtain⟨n,hw⟩:=h.answer o;obtain⟨a,f,d⟩:=P6 v.sum.toNat (by omega) n hw;have g:=c a f;have l:=h.an.lst v o;unfold Lst at l;rw[eM,dN]at l;have:=l a g;rw[(G1 (by rw[f.an.len,n.len])).mpr d,Bool.and_true]at this;have e:a=v:=by simpa using this
 rw[<-e];exact f
def b4q{F W e:LLI}(hR:∀r∈rss,r.length=cs.length)(h:Wk rss cs F W [] k)(a:tss.Perm F)(d:C7 tss)(c:Shw rss cs b e):b=tss :=
 Q0 c.an.ri d c.an.nd (a.symm.nodup h.nd.2) λv=>(c.sound hR v).trans (a.mem_iff.trans (h.least hR v)).symm
end K30
namespace K30
open PySem PySem.Spec PyProof.Rows L2
variable {H H':Hp}{a:qE}{n:Nat}{v:V}
def a7f:∀{a b:qI}{x y:Int},a.length=b.length->HT.lexLt (a++[x]) (b++[y])=if a=b then decide (x<y)else HT.lexLt a b
 |[],[],x,y,_=>by
  show(if x=y then HT.lexLt [] [] else decide (x<y))=_;by_cases e:x=y
  .subst e;rw[az rfl,az rfl];exact(bG (Int.lt_irrefl x)).symm
  .rw[ar e];rfl
 |u::a,v::b,x,y,h=>by
  have d:=a7f (a:=a) (b:=b) (x:=x) (y:=y) (by simpa using h);rw[fL,fL,HT.lexLt_cons,HT.lexLt_cons,d];by_cases e:u=v
  .subst e;rw[az rfl,az rfl];by_cases c:a=b
   .subst c;simp
   .rw[ar c,ar (λz=>c (List.cons.inj z).2)]
  .rw[ar e,ar e,ar (λz=>e (List.cons.inj z).1)]
def a0A{t:Int}{qO:LLI}(i:∀v∈qO,v.length=n+1)(k:C7 qO)(j:qO.Nodup):C7 (L7 t qO)/\(L7 t qO).Nodup:=by
 have hw:∀v∈qO.filter (λv=>decide (v.getLast?=some t)),v=v.dropLast++[t]:=λv g=>by
  obtain⟨ys,rfl⟩:=dS.mp (bp (aQ.mp g).2);rw[fY]
 have c:∀v∈qO.filter (λv=>decide (v.getLast?=some t)),v.dropLast.length=n:=λv g=>by
  rw[List.length_dropLast,i v (aQ.mp g).1];rfl
 unfold L7 C7;constructor
 .rw[bL];refine List.Pairwise.imp_of_mem (λ{a b} d f h=>?_) (k.filter _);rw[hw a d,hw b f,a7f (by rw[c a d,c b f])]at h;by_cases e:b.dropLast=a.dropLast
  .rw[e];exact J3 _
  .rw[ar e]at h;exact h
 .refine bL.mpr (List.Pairwise.imp_of_mem (λ{a b} d f h e=>h ?_) (j.filter _));rw[hw a d,hw b f,e]
def Tk(H H':Hp):Prop:=∀c xs,H c=some (HO.tup xs)->H' c=some (.tup xs)
def Tk.same(s:Same H H'):Tk H H':=λc xs e=>s c _ e
def Tk.pot{b:qE}(d:PotAt H a b n)(o:Off [a,b] H H'):Tk H H':=λc xs e=>o c _ (a6U d e) e
def Tk.put{c:qE}{xs:qA V}{o:HO}(e:H c=some (.lst xs)):Tk H (upd H c o):=λd ys q=>by rw[A3 (J8 q e (by intro z;cases z))];exact q
def Tk.it(h:Tk H H'){r:qI}(g:IT H v r):IT H' v r:=let ⟨a,e,q⟩:=g;⟨a,e,h _ _ q⟩
def Tk.its(h:Tk H H'){vs:qA V}{rss:LLI}(g:Its H vs rss):Its H' vs rss:=⟨g.1,λi v e=>let ⟨r,e1,e2⟩:=g.2 i v e;⟨r,e1,h.it e2⟩⟩
def a9F{H:Hp}:∀{vs:qA V}{rss:LLI},Its H vs rss->Its H vs.reverse rss.reverse
 |[],[],_=>.nil
 |[],_::_,h=>by cases h.1
 |_::_,[],h=>by cases h.1
 |v::vs,r::rss,h=>by
  obtain⟨c,a,b⟩:=h.2 0 v rfl;have a:r=c:=by injection a
  rw[eG,eG];exact(a9F (vs:=vs) (rss:=rss) (h.drop 1)).app (Its.one (by rw[a];exact b))
inductive Ki(H:Hp):V->Prop
 |non:Ki H .non
 |bl (b:Bool):Ki H (.bl b)
 |int (z:Int):Ki H (.int z)
 |str (x:Str):Ki H (.str x)
 |lst {a:qE}{xs:qA V}(e:H a=some (.lst xs)):Ki H (.ref a)
 |tup {a:qE}{xs:qA V}(e:H a=some (.tup xs)):Ki H (.ref a)
 |dT {a:qE}{qL:qA (qA Key×V)}(e:H a=some (.dT qL)):Ki H (.ref a)
def Deep(H:Hp)(v:V):Prop:=Ki H v/\∀a ts,v=.ref a->H a=some (.tup ts)->ts.length<=1000/\∀t∈ts,Ki H t
structure Keep(H H':Hp):Prop where
 t:∀a xs,H a=some (.tup xs)->H' a=some (.tup xs)
 l:∀a xs,H a=some (.lst xs)->∃ys,H' a=some (.lst ys)
 d:∀a qL,H a=some (.dT qL)->H' a=some (.dT qL)
def Keep.same(s:Same H H'):Keep H H':=⟨λa xs e=>s _ _ e,λa xs e=>⟨xs,s _ _ e⟩,λa xs e=>s _ _ e⟩
def Keep.trans{b:Hp}(k:Keep H H')(c:Keep H' b):Keep H b:=⟨λa xs e=>c.t _ _ (k.t _ _ e),λa xs e=>let ⟨ys,e'⟩:=k.l _ _ e;c.l _ _ e',λa xs e=>c.d _ _ (k.d _ _ e)⟩
def Keep.put{p:qE}{xs ys:qA V}(e:H p=some (.lst xs)):Keep H (upd H p (.lst ys)) :=
 ⟨λa zs q=>by rw[A3 (J8 q e (by intro z;cases z))];exact q,λa zs q=>by
  by_cases h:a=p
  .subst h;exact⟨ys,A0⟩
  .exact⟨zs,by rw[A3 h];exact q⟩,λa zs q=>by rw[A3 (J8 q e (by intro z;cases z))];exact q⟩
def Keep.pot{p q:qE}{m:Nat}(h:PotAt H p q n)(h':PotAt H' p q m)(o:Off [p,q] H H'):Keep H H':=by
 obtain⟨_,_,_,d,f,_⟩:=h.ex;obtain⟨_,_,_,f1,f2,_⟩:=h'.ex;have b:∀{a:qE}{c:HO},H a=some c->(∀xs,c≠.lst xs)->a∉[p,q]:=λe k=>by
  simp only[aF,bS,de,not_or];exact⟨λz=>by rw[z,d]at e;cases e;exact k _ rfl,λz=>by rw[z,f]at e;cases e;exact k _ rfl⟩
 refine⟨λa xs e=>o _ _ (b e (by intro _ z;cases z)) e,λa xs e=>?_,λa xs e=>o _ _ (b e (by intro _ z;cases z)) e⟩;by_cases h1:a=p
 .subst h1;exact⟨_,f1⟩
 by_cases h2:a=q
 .subst h2;exact⟨_,f2⟩
 exact⟨xs,o _ _ (by simp[h1,h2]) e⟩
def Ki.keep(h:Ki H v)(k:Keep H H'):Ki H' v:=by
 cases h with
 |non=>exact .non
 |bl b=>exact .bl b
 |int z=>exact .int z
 |str x=>exact .str x
 |lst e=>obtain⟨ys,q⟩:=k.l _ _ e;exact .lst q
 |tup e=>exact .tup (k.t _ _ e)
 |dT e=>exact .dT (k.d _ _ e)
def Deep.keep{H H':Hp}{v:V}(h:Deep H v)(k:Keep H H'):Deep H' v:=by
 refine⟨h.1.keep k,λa d e q=>?_⟩;subst e;cases h.1 with
 |lst e=>obtain⟨ys,b⟩:=k.l _ _ e;rw[q]at b;cases b
 |tup e =>
  have:=k.t _ _ e;rw[q]at this;cases this;obtain⟨h1,h2⟩:=h.2 _ _ rfl e;exact⟨h1,λt c=>(h2 t c).keep k⟩
 |dT e=>have:=k.d _ _ e;rw[q]at this;cases this
def Ki.ty{K:qF}(h:Ki H v):∃t c d f,TyOf K H v (.type t)/\PySem.W.kitOne K (.type t) (.type "int")=some c/\PySem.W.kitOne K (.type t) (.type "bool")=some d/\PySem.W.kitOne K (.type t) (.type "tuple")=some f /\
  (c=true->(∃z,v=.int z)∨∃b,v=.bl b)/\((∃z,v=.int z)->c=true/\d=false)/\((∃b,v=.bl b)->c=true/\d=true)/\(f=true↔∃a xs,v=.ref a/\H a=some (.tup xs)):=by
 cases h with
 |non=>exact⟨_,false,false,false,.non,by with_unfolding_all rfl,by with_unfolding_all rfl,by with_unfolding_all rfl,(λz=>nomatch z),(λ⟨_,z⟩=>nomatch z),(λ⟨_,z⟩=>nomatch z),⟨(λz=>nomatch z),λ⟨_,_,z,_⟩=>nomatch z⟩⟩
 |bl b=>exact⟨_,true,true,false,.bl b,by with_unfolding_all rfl,by with_unfolding_all rfl,by with_unfolding_all rfl,(λ_=>.inr ⟨b,rfl⟩),(λ⟨_,z⟩=>nomatch z),(λ_=>⟨rfl,rfl⟩),⟨(λz=>nomatch z),λ⟨_,_,z,_⟩=>nomatch z⟩⟩
 |int z=>exact⟨_,true,false,false,.int z,by with_unfolding_all rfl,by with_unfolding_all rfl,by with_unfolding_all rfl,(λ_=>.inl ⟨z,rfl⟩),(λ_=>⟨rfl,rfl⟩),(λ⟨_,z⟩=>nomatch z),⟨(λz=>nomatch z),λ⟨_,_,z,_⟩=>nomatch z⟩⟩
 |str x=>exact⟨_,false,false,false,.str x,by with_unfolding_all rfl,by with_unfolding_all rfl,by with_unfolding_all rfl,(λz=>nomatch z),(λ⟨_,z⟩=>nomatch z),(λ⟨_,z⟩=>nomatch z),⟨(λz=>nomatch z),λ⟨_,_,z,_⟩=>nomatch z⟩⟩
 |lst e=>exact⟨_,false,false,false,.lst e,by with_unfolding_all rfl,by with_unfolding_all rfl,by with_unfolding_all rfl,(λz=>nomatch z),(λ⟨_,z⟩=>nomatch z),(λ⟨_,z⟩=>nomatch z),⟨(λz=>nomatch z),λ⟨_,_,z,q⟩=>by cases z;rw[e]at q;cases q⟩⟩
 |tup e=>exact⟨_,false,false,true,.tup e,by with_unfolding_all rfl,by with_unfolding_all rfl,by with_unfolding_all rfl,(λz=>nomatch z),(λ⟨_,z⟩=>nomatch z),(λ⟨_,z⟩=>nomatch z),⟨(λ_=>⟨_,_,rfl,e⟩),λ_=>rfl⟩⟩
 |dT e=>exact⟨_,false,false,false,.dT e,by with_unfolding_all rfl,by with_unfolding_all rfl,by with_unfolding_all rfl,(λz=>nomatch z),(λ⟨_,z⟩=>nomatch z),(λ⟨_,z⟩=>nomatch z),⟨(λz=>nomatch z),λ⟨_,_,z,q⟩=>by cases z;rw[e]at q;cases q⟩⟩
def a0P:V->Bool
 |.int z=>decide (0<=z)
 |_=>false
def Tup(H:Hp):V->qD (qA V)
 |.ref a=>match H a with|some (.tup ts)=>some ts|_=>none
 |_=>none
def I9{b:qA V}(e:H a=some (.tup b)):Tup H (.ref a)=some b:=by
 show(match H a with|some (.tup b)=>some b|_=>none)=_;rw[e]
def V2(h:¬∃a xs,v=.ref a/\H a=some (.tup xs)):Tup H v=none:=by
 cases v with
 |ref a =>
  show(match H a with|some (.tup ts)=>some ts|_=>none)=_;split
  .rename_i ts e;exact absurd ⟨a,ts,rfl,e⟩ h
  .rfl
 |_=>rfl
def a0F(n:Nat):qD (qA V)->Bool
 |none=>false
 |some ts=>decide (ts.length=n) && ts.all a0P
def P8(n:Nat)(a:qA V):a0F n (some a)=(decide (a.length=n) && a.all a0P):=rfl
section
variable {P:qG}{w:World}{K:qF}{mg:Str->qD qB}{base:Heap}
inductive IspNum(vs:qA V)(H:Hp)(Q:VK)(E:XK):Prop
 |mk (x:_) (_:vs=[x]) (_:Ki H x) (_:Q (.bl (a0P x)) H):IspNum  vs H Q E
def b6m:Sp:=λvs H Q E=>IspNum  vs H Q E
def a5K(F:FunAt K mg "is_number" T4 ["value"])(T:Tx mg):Ok P w K mg base "is_number" 1 ["value"] b6m:=by
 refine F.okJ a5w (λj H Q E h=>?_) (λg f A c s H j Q E n h=>?_)
 .obtain⟨x,rfl,_⟩:=h;rfl
 .obtain⟨x,rfl,hk,k⟩:=h;refine⟨_,(A5 (A9 (a1p (N2 K rfl T.b_isinstance (jaC (jv 0) (jaC (a5T (v:=.ty "int") rfl T.b_int b3S rfl) jaN))) (a1p (b9m (N2 K rfl T.b_isinstance (jaC (jv 0) (jaC (a5T (v:=.ty "bool") rfl T.b_bool b5T rfl) jaN)))) (a1n (b9j (jv 0) A4)))))),?_⟩;obtain⟨t,a,d,l,ty,k1,k2,k3,h1,h2,i,m⟩:=hk.ty (K:=K);refine⟨_,rfl,x,"int",_,a,rfl,ty,k1,a,rfl,?_⟩;cases a with
  |false =>
   refine E1 ?_;have e:a0P x=false:=by
    cases x with
    |int z=>have:=(h2 ⟨z,rfl⟩).1;cases this
    |_=>rfl
   rw[e]at k;exact k
  |true =>
   refine G8 ⟨_,rfl,x,"bool",_,d,rfl,ty,k2,d,rfl,_,rfl,?_⟩;rcases h1 rfl with⟨z,rfl⟩|⟨b,rfl⟩
   .rw[(h2 ⟨z,rfl⟩).2];exact G8 ⟨_,rfl,_,_,rfl,rfl,k⟩
   .rw[(i ⟨b,rfl⟩).2];exact E1 k
inductive IspVec(vs:qA V)(H:Hp)(Q:VK)(E:XK):Prop
 |mk (v:V) (n:Nat) (_:vs=[v,.int n]) (_:Deep H v) (_:∀H',Same H H'->Q (.bl (a0F n (Tup H v))) H'):IspVec  vs H Q E
def b6i:Sp:=λvs H Q E=>IspVec  vs H Q E
def a5J(F:FunAt K mg "is_vector" T3 ["value","width"])(T:Tx mg)(b:Ok P w K mg base "is_number" 1 ["value"] b6m):Ok P w K mg base "is_vector" 2 ["value","width"] b6i:=by
 refine F.okJ a5v (λD H Q E h=>?_) (λm f A j s H D Q E u h=>?_)
 .obtain⟨v,n,rfl,_⟩:=h;rfl
 .obtain⟨v,n,rfl,hd,k⟩:=h;have M:(3000:Nat)<=sizeLine:=by rw[aT];decide
  refine⟨_,(A5 (A9 (a1p (N2 K rfl T.b_isinstance (jaC (jv 0) (jaC (a5T (v:=.ty "tuple") rfl T.b_tuple a4e rfl) jaN))) (a1p (a9x (G6 K rfl T.b_len (jaC (jv 0) jaN)) (jv 1)) (a1n (N9 K rfl T.b_all (jaC (B5 (N:=["part"]) (src:=[none]) (E7 K (jv 0)) (by show B6 _ _=true;rfl) (by rfl) (by rfl)
 (λ_ _ _ _ _=>(A7 (i:=0) (L2.nd ["part"]) rfl (Or.inl rfl))) (λ_ _ _ _ _=>B8) (λ_ _ _ _ _=>(A6 b (u.mono (by omega)) rfl (jaC (jv 0) jaN)))) jaN))))))),?_⟩
  obtain⟨t,I,J,g,ty,k1,k2,k3,h1,h2,L,l⟩:=hd.1.ty (K:=K);refine⟨_,rfl,v,"tuple",_,g,rfl,ty,k3,g,rfl,?_⟩;cases g with
  |false =>
   refine E1 ?_;have e:Tup H v=none:=V2 λz=>by have:=l.mpr z;cases this
   have:=k H (Same.refl H);rw[e]at this;exact this
  |true =>
   obtain⟨a,c,rfl,d⟩:=l.mp rfl;rw[I9 d]at k;obtain⟨q,hi⟩:=hd.2 a c rfl d;refine G8 ⟨_,rfl,a,_,rfl,.inr (SqT.of d),_,rfl,rfl,_,rfl,?_⟩;by_cases e:c.length=n
   .rw[show decide (V.int (c.length:Int)=V.int (n:Int))=true by rw[e];simp];refine G8 ⟨_,rfl,a,rfl,⟨_,SqT.of d⟩,?_⟩;refine a8S (K:=K) (a:=a) (caps:=[]) (λx=>x) (xs:=c) (λx=>V.bl (a0P x)) q (λH' s=>by rw[List.map_id'];exact SqT.of (s _ _ d)) rfl (λx H1 G B s1 C=>?_) λH1 p s1 r=>?_
    .exact⟨_,rfl,x,rfl,(hi x B).keep (.same s1),C _ (Same.refl _)⟩
    .refine⟨false,p,_,rfl,SqL.of A0,?_,?_⟩
     .rw[aI];intro v y;obtain⟨_,_,rfl⟩:=aN.mp y;rfl
     .have e2:(c.map λx=>V.bl (a0P x)).all trV=c.all a0P:=by rw[fk];rfl
      rw[e2];have:=k _ (s1.upd (o:=.lst (c.map λx=>V.bl (a0P x))) r);rw[P8]at this;rw[bz e,Bool.true_and]at this;exact this
   .rw[show decide (V.int (c.length:Int)=V.int (n:Int))=false by rw[decide_eq_false_iff_not];intro z;injection z with z;exact e (by omega)];refine E1 ?_;have:=k H (Same.refl H);rw[P8]at this;rw[bG e,eO]at this;exact this
def a1z(h:Ki H v)(k:Keep H H'):Tup H' v=Tup H v:=by
 cases h with
 |lst e=>obtain⟨ys,q⟩:=k.l _ _ e;rw[V2 (by rintro⟨a,xs,z,g⟩;cases z;rw[q]at g;cases g),V2 (by rintro⟨a,xs,z,g⟩;cases z;rw[e]at g;cases g)]
 |tup e=>rw[I9 e,I9 (k.t _ _ e)]
 |dT e=>rw[V2 (by rintro⟨a,xs,z,g⟩;cases z;rw[k.d _ _ e]at g;cases g),V2 (by rintro⟨a,xs,z,g⟩;cases z;rw[e]at g;cases g)]
 |_=>rfl
def Dp3(H:Hp)(v:V):Prop:=Ki H v/\∀a ts,v=.ref a->H a=some (.tup ts)->ts.length<=1000/\∀t∈ts,Deep H t
def Dp3.keep{H H':Hp}{v:V}(h:Dp3 H v)(k:Keep H H'):Dp3 H' v:=by
 refine⟨h.1.keep k,λa d e q=>?_⟩;subst e;cases h.1 with
 |lst e=>obtain⟨ys,b⟩:=k.l _ _ e;rw[q]at b;cases b
 |tup e =>
  have:=k.t _ _ e;rw[q]at this;cases this;obtain⟨h1,h2⟩:=h.2 _ _ rfl e;exact⟨h1,λt c=>(h2 t c).keep k⟩
 |dT e=>have:=k.d _ _ e;rw[q]at this;cases this
def vcs(n:Nat)(H:Hp)(v:V):Bool:=match Tup H v with
 |none=>false
 |some ts=>ts.all λt=>a0F n (Tup H t)
def Z2(e:Tup H v=none):vcs n H v=false:=by unfold vcs;rw[e]
def N3{a:qA V}(e:Tup H v=some a):vcs n H v=a.all λt=>a0F n (Tup H t):=by unfold vcs;rw[e]
def a2V(h:Dp3 H v)(k:Keep H H'):vcs n H' v=vcs n H v:=by
 have e:=a1z h.1 k;cases b:Tup H v with
 |none=>rw[Z2 b,Z2 (e.trans b)]
 |some ts =>
  rw[N3 b,N3 (e.trans b)];cases h.1 with
  |@tup a xs ea =>
   rw[I9 ea]at b;cases b;have hd:=(h.2 _ _ rfl ea).2;have:∀(l:qA V),(∀t∈l,Deep H t)->(l.all λt=>a0F n (Tup H' t))=l.all λt=>a0F n (Tup H t):=λl=>by
    induction l with
    |nil=>intro _;rfl
    |cons x l f=>intro c;rw[cC,cC,a1z (c x aA).1 k,f λt d=>c t (ax _ d)]
   exact this _ hd
  |lst e'=>rw[V2 (by rintro⟨a,xs,z,g⟩;cases z;rw[e']at g;cases g)]at b;cases b
  |dT e'=>rw[V2 (by rintro⟨a,xs,z,g⟩;cases z;rw[e']at g;cases g)]at b;cases b
  |_=>cases b
inductive IspVcs(vs:qA V)(H:Hp)(Q:VK)(E:XK):Prop
 |mk (v:V) (n:Nat) (wi:Int) (_:vs=[v,.int wi]) (_:wi=n) (_:Dp3 H v) (_:∀H',Same H H'->Q (.bl (vcs n H v)) H'):IspVcs  vs H Q E
def a8Z:Sp:=λvs H Q E=>IspVcs  vs H Q E
def a3r(F:FunAt K mg "are_vectors" M3 ["value","width"])(T:Tx mg)(b:Ok P w K mg base "is_vector" 2 ["value","width"] b6i):Ok P w K mg base "are_vectors" 3 ["value","width"] a8Z:=by
 refine F.okJ a3g (λD H Q E h=>?_) (λq f A j s H D Q E y h=>?_)
 .obtain⟨v,n,wi,rfl,_⟩:=h;rfl
 .obtain⟨v,n,_,rfl,rfl,hd,k⟩:=h;have M:(3000:Nat)<=sizeLine:=by rw[aT];decide
  refine⟨_,(A5 (A9 (a1p (N2 K rfl T.b_isinstance (jaC (jv 0) (jaC (a5T (v:=.ty "tuple") rfl T.b_tuple a4e rfl) jaN))) (a1n (N9 K rfl T.b_all (jaC (B5 (N:=["part","width"]) (src:=[none,some 1]) (E7 K (jv 0)) (by show B6 _ _=true;rfl) (by rfl) (by rfl)
 (λ_ _ _ _ _=>(A7 (i:=0) (L2.nd ["part","width"]) rfl (Or.inl rfl))) (λ_ _ _ _ _=>B8) (λ_ _ _ _ _=>(A6 b (y.mono (by omega)) rfl (jaC (jv 0) (jaC (jv 1) jaN))))) jaN)))))),?_⟩
  obtain⟨t,I,J,g,ty,k1,k2,k3,h1,h2,L,l⟩:=hd.1.ty (K:=K);refine⟨_,rfl,v,"tuple",_,g,rfl,ty,k3,g,rfl,?_⟩;cases g with
  |false =>
   refine E1 ?_;have e:Tup H v=none:=V2 λz=>by have:=l.mpr z;cases this
   have:=k H (Same.refl H);rw[Z2 e]at this;exact this
  |true =>
   obtain⟨a,c,rfl,d⟩:=l.mp rfl;rw[N3 (I9 d)]at k;obtain⟨r,hi⟩:=hd.2 a c rfl d;refine G8 ⟨_,rfl,a,rfl,⟨_,SqT.of d⟩,?_⟩;refine a8S (K:=K) (a:=a) (caps:=[some (.int n)]) (λx=>x) (xs:=c) (λx=>V.bl (a0F n (Tup H x))) r (λH' s=>by rw[List.map_id'];exact SqT.of (s _ _ d)) rfl (λx H1 G m s1 C=>?_) λH1 p s1 u=>?_
   .refine⟨_,rfl,_,rfl,x,n,rfl,(hi x m).keep (.same s1),λH2 s2=>?_⟩;rw[a1z (hi x m).1 (.same s1)];exact C _ s2
   .refine⟨false,p,_,rfl,SqL.of A0,?_,?_⟩
    .rw[aI];intro v B;obtain⟨_,_,rfl⟩:=aN.mp B;rfl
    .have e2:(c.map λx=>V.bl (a0F n (Tup H x))).all trV=c.all λt=>a0F n (Tup H t):=by rw[fk];rfl
     rw[e2];exact k _ (s1.upd (o:=.lst (c.map λx=>V.bl (a0F n (Tup H x)))) u)
inductive IspShN(vs:qA V)(H:Hp)(Q:VK)(E:XK):Prop
 |mk (ra c:qE) (x y:V) (cs:qA (qD Int)) (_:vs=[.ref ra,.ref c,x,y]) (_:H c=some (.tup (cs.map cV))) (_:Dp3 H x) (_:Dp3 H y) (_:(vcs cs.length H x=false∨vcs cs.length H y=false)) (_:∀H',Same H H'->Q (.bl false) H'):IspShN  vs H Q E
def b6k:Sp:=λvs H Q E=>IspShN  vs H Q E
def a9W(n:Nat)(xs:qI):a0F n (some (xs.map V.int))=a2U n xs:=by
 rw[P8,ai,fk];rfl
def Deep.ints{xs:qI}(h:IT H v xs)(d:xs.length<=1000):Deep H v:=by
 obtain⟨a,rfl,c⟩:=h;refine⟨.tup c,λb g e q=>?_⟩;cases e;rw[c]at q;cases q;refine⟨by rw[ai];exact d,λt f=>?_⟩;obtain⟨z,_,rfl⟩:=aN.mp f;exact .int z
def Dp3.its{us:qA V}{rss:LLI}(c:H a=some (.tup us))(f:Its H us rss)(g:us.length<=1000)(h:∀r∈rss,r.length<=1000):Dp3 H (.ref a):=by
 refine⟨.tup c,λb k e q=>?_⟩;cases e;rw[c]at q;cases q;refine⟨g,λt j=>?_⟩;obtain⟨i,hi⟩:=fZ j;obtain⟨r,h1,h2,d⟩:=f.mem hi;exact Deep.ints d (h r h1)
def a5h{H:Hp}{a:qE}{n:Nat}:∀{us:qA V}{rss:LLI},Its H us rss->(us.all λt=>a0F n (Tup H t))=rss.all (a2U n)
 |[],[],_=>rfl
 |[],_::_,h=>by cases h.1
 |_::_,[],h=>by cases h.1
 |v::us,r::rss,h=>by
  obtain⟨d,b,e,rfl,c⟩:=h.2 0 v rfl;have b:r=d:=by injection b
  rw[cC,cC,I9 c,a9W,<-b,a5h (a:=a) (us:=us) (rss:=rss) (h.drop 1)]
inductive IspVecsJ(vs:qA V)(H:Hp)(Q:VK)(E:XK):Prop
 |mk (a:qE) (us:qA V) (rss:LLI) (n:Nat) (wi:Int) (_:vs=[.ref a,.int wi]) (_:wi=n) (_:H a=some (.tup us)) (_:Its H us rss) (_:us.length<=1000) (_:(∀r∈rss,r.length<=1000)) (_:∀H',Same H H'->Q (.bl (rss.all (a2U n))) H'):IspVecsJ  vs H Q E
def b4j:Sp:=λvs H Q E=>IspVecsJ  vs H Q E
def b4d(O:Ok P w K mg base "are_vectors" 3 ["value","width"] a8Z):Ok P w K mg base "are_vectors" 3 ["value","width"] b4j:=O.imp λi H Q E h=>by
 obtain⟨a,g,rss,n,f,h1,h2,c,b,d,e,k⟩:=h;refine⟨.ref a,n,f,h1,h2,Dp3.its c b d e,λH' s=>?_⟩;rw[N3 (I9 c),a5h (a:=a) b];exact k H' s
inductive IspShows1(vs:qA V)(H:Hp)(Q:VK)(E:XK):Prop
 |mk (ra c t p:qE) (us zs ws:qA V) (rss tss pss:LLI) (cs:qA (qD Int)) (_:vs=[.ref ra,.ref c,.ref t,.ref p]) (_:H ra=some (.tup us)) (_:Its H us rss) (_:us.length<=1000) (_:H c=some (.tup (cs.map cV))) (_:1<=cs.length) (_:cs.length<=100) (_:Rs cs.length rss) (_:H t=some (.tup zs)) (_:Its H zs tss) (_:zs.length<=1000) (_:H p=some (.tup ws)) (_:Its H ws pss) (_:ws.length<=1000) (_:(∀v∈tss++pss,v.length<=1000/\Sm v)) (_:∀b H',Same H H'->(b=true↔Shw rss cs tss pss)->Q (.bl b) H'):IspShows1  vs H Q E
def a6v:Sp:=λvs H Q E=>IspShows1  vs H Q E
def b0x(F:FunAt K mg "shows" a2J ["rows","caps","told","paper"])(T:Tx mg)(a:Ok P w K mg base "are_vectors" 3 ["value","width"] a8Z)(u:Ok P w K mg base "all_fit" 2 ["caps","some"] a6F)(j:Ok P w K mg base "are_least" 4 ["rows","told"] a3d)(G:Ok P w K mg base "is_met" 3 ["told","listed","one"] b1S)(g:Ok P w K mg base "first_steps" 2 ["caps"] a5r)(B:Ok P w K mg base "goes_on" 5 ["rows","caps","told","listed","one"] b1T):Ok P w K mg base "shows" 6 ["rows","caps","told","paper"] (λvs H Q E=>a6v vs H Q E∨b6k vs H Q E):=by
 refine F.okJ sc_shows (λvs H Q E h=>?_) (λe9 f A d4 s H vs Q E I h=>?_)
 .rcases h with h|h
  .obtain⟨ra,c,t,p,us,zs,ws,rss,b,m,n,rfl,_⟩:=h;rfl
  .obtain⟨ra,c,x,y,n,rfl,_⟩:=h;rfl
 .rcases h with h|h
  .have a:=b4d a;obtain⟨ra,c,t,p,us,zs,ws,rss,b,m,n,rfl,hra,hI,b7,hc,n1,n2,hR,ht,hJ,d3,hp,hM,f4,hV,k⟩:=h;have hu:=I.u60;have hz:(300000:Nat)<=sizeLine:=by rw[aT];decide
   have a3:∀v∈b,v.length<=1000/\Sm v:=λv C=>hV v (aO _ C);have a9:∀v∈m,v.length<=1000/\Sm v:=λv C=>hV v (aH _ C);refine⟨_,(A1 (C9 (a2x (a4K (J4 (D0 K (A6 a (I.mono (by omega)) rfl (jaC (jv 2) (jaC (G6 K rfl T.b_len (jaC (jv 1) jaN)) jaN))))) (a1Q (J4 (D0 K (A6 a (I.mono (by omega)) rfl (jaC (jv 3) (jaC (G6 K rfl T.b_len (jaC (jv 1) jaN)) jaN))))))))
 (A5 (A9 K5))
 C2)
 (A1 (C9 (a2x (a4K (J4 (D0 K (A6 u (I.mono (by omega)) rfl (jaC (jv 1) (jaC (B1 (jv 2) (jv 3)) jaN))))) (a1Q (J4 (D0 K (A6 j (I.mono (by omega)) rfl (jaC (jv 0) (jaC (jv 2) jaN))))))))
 (A5 (A9 K5))
 C2)
 (A1 (B2 (i:=4) sc_shows.nd rfl (Or.inr rfl) (a7n hu rfl T.b_dict (jaC (B5 (N:=["one"]) (src:=[none]) (E7 K (jv 3)) (by show B6 _ _=true;rfl) (by rfl) (by rfl)
 (λ_ _ _ _ _=>(A7 (i:=0) (L2.nd ["one"]) rfl (Or.inl rfl))) (λ_ _ _ _ _=>B8) (λ_ _ _ _ _=>(B3 (jaC (jv 0) (jaC K5 jaN))))) jaN)))
 (A1 (C9 (J4 (D0 K (N9 K rfl T.b_all (jaC (B5 (N:=["one","told","listed"]) (src:=[none,some 2,some 4]) (E7 K (A6 g (I.mono (by omega)) rfl (jaC (jv 1) jaN))) (by show B6 _ _=true;rfl) (by rfl) (by rfl)
 (λ_ _ _ _ _=>(A7 (i:=0) (L2.nd ["one","told","listed"]) rfl (Or.inl rfl))) (λ_ _ _ _ _=>B8) (λ_ _ _ _ _=>(A6 G (I.mono (by omega)) rfl (jaC (jv 1) (jaC (jv 2) (jaC (jv 0) jaN)))))) jaN))))
 (A5 (A9 K5))
 C2)
 (A5 (A9 (N9 K rfl T.b_all (jaC (B5 (N:=["one","rows","caps","told","listed"]) (src:=[none,some 0,some 1,some 2,some 4]) (a9B (jv 4)) (by show B6 _ _=true;rfl) (by rfl) (by rfl)
 (λ_ _ _ _ _=>(A7 (i:=0) (L2.nd ["one","rows","caps","told","listed"]) rfl (Or.inl rfl))) (λ_ _ _ _ _=>B8) (λ_ _ _ _ _=>(A6 B (I.mono (by omega)) rfl (jaC (jv 1) (jaC (jv 2) (jaC (jv 3) (jaC (jv 4) (jaC (jv 0) jaN)))))))) jaN)))))))),?_⟩
   refine⟨_,rfl,_,rfl,c,_,rfl,.inr (SqT.of hc),t,zs,b,n.length,_,rfl,by rw[ai],ht,hJ,by omega,λr O=>(a3 r O).1,λH1 s1=>⟨_,rfl,?_⟩⟩;cases e1:b.all (a2U n.length)with
   |false=>exact G8 (k _ _ s1 ⟨(λz=>nomatch z),λh=>by rw[h.tv]at e1;cases e1⟩)
   |true =>
   refine E1 ⟨_,rfl,_,rfl,c,_,rfl,.inr (SqT.of (s1 _ _ hc)),p,ws,m,n.length,_,rfl,by rw[ai],s1 _ _ hp,hM.same s1,by omega,λr O=>(a9 r O).1,λH2 s2=>⟨_,rfl,?_⟩⟩;have Y:=s1.trans s2;cases e2:m.all (a2U n.length)with
   |false=>exact G8 (k _ _ Y ⟨(λz=>nomatch z),λh=>by rw[h.pv]at e2;cases e2⟩)
   |true =>
   have a8:=a8Q e1;have c7:=a8Q e2;refine E1 ?_;refine⟨_,rfl,_,rfl,_,rfl,t,p,zs,ws,rfl,rfl,Y _ _ ht,Y _ _ hp,by omega,λq H3 s3 hq=>?_⟩;have Z:=Y.trans s3;have c5:Its H3 (zs++ws) (b++m):=a5U (hJ.same Z) (hM.same Z);refine⟨c,q,_,_,n,rfl,Z _ _ hc,by omega,hq,c5,by rw[ag];omega,λH4 s4=>⟨_,rfl,?_⟩⟩;have L:=Z.trans s4;cases e3:(b++m).all (a1v n)with
   |false=>exact G8 (k _ _ L ⟨(λz=>nomatch z),λh=>by rw[h.fit]at e3;cases e3⟩)
   |true =>
   refine E1 ⟨_,rfl,_,rfl,ra,t,us,zs,rss,b,n.length,rfl,L _ _ hra,hI.same L,b7,λr O=>by rw[(hR r O).1];omega,L _ _ ht,hJ.same L,d3,n1,by omega,λv C=>⟨a8 v C,(a3 v C).2⟩,λb5 H5 s5 h5=>⟨_,rfl,?_⟩⟩;have S:=L.trans s5;cases b5 with
   |false=>exact G8 (k _ _ S ⟨(λz=>nomatch z),λh=>by have:=h5.mpr h.an;cases this⟩)
   |true =>
   have c4:=h5.mp rfl;refine E1 ?_;have b2:=S _ _ hp;have c6:=hM.same S;refine⟨_,rfl,p,rfl,⟨_,SqT.of b2⟩,?_⟩;refine K6 (K:=K) (xs:=ws) (by omega) (λi qs H'=>Same H5 H'/\PrT H' qs (m.take i)) ⟨Same.refl H5,PrT.nil⟩ (λi qs H' _ h=>⟨SqT.of (h.1 _ _ b2),by rw[h.2.1];exact bF _ _⟩) ?_ ?_
   .rintro i x qs H' hx ⟨s',hP'⟩;obtain⟨r,f3,d0,d1⟩:=c6.mem hx;refine⟨Sub.one,_,rfl,by show 2<=sizeLine;omega,λp8 c9=>?_⟩;have U:=(Same.refl H').upd (o:=.tup [x,.bl true]) c9;refine⟨s'.trans U,?_⟩;rw[bg,d0];exact(hP'.same U).snoc A0 ((d1.same s').same U)
   rintro qs H6 ⟨s6,a2⟩ p6 b3;rw[hM.1,bh]at a2;have s7:=(Same.refl H6).upd (o:=.lst qs) b3;refine⟨p6,qs,m,rfl,A0,a2.same s7,λd qL l hd hk J=>?_⟩;have U:=S.trans ((s6.trans s7).upd (o:=.dT qL) hd);have e8:upd (upd H6 p6 (.lst qs)) d (.dT qL) d=some (.dT qL):=A0;have c8:H d=none:=S.free ((s6.trans s7).free hd);generalize upd (upd H6 p6 (.lst qs)) d (.dT qL)=H8 at U e8;clear hd s7 a2 s6 b3;dsimp only[B0];have em:=a4H (tss:=b) J.mem;have c3:=b3u (rss:=rss) (tss:=b) (cs:=n) J.mem;have W:Pk us qL rss b l n:=⟨b7,hR,n1,n2,hk,a8,λv C=>⟨c7 v ((J.mem v).mp C),(a9 v ((J.mem v).mp C)).2⟩⟩;have S8:Ps H8 ra c t d us zs qL rss b l n:=⟨U _ _ hra,hI.same U,U _ _ hc,U _ _ ht,hJ.same U,.inl e8⟩;refine⟨_,rfl,c,n,rfl,S8.c,n1,n2,λq9 d8 fss H9 s9 b4 a7 a4 e0=>?_⟩;have f0:d8.length<=100:=by
    rw[a7.1,a4.length_eq];exact a_ (bD _ _) (by simp;omega)
   refine⟨q9,rfl,⟨_,SqT.of b4⟩,?_⟩;refine a2Y (caps:=[some (.ref t),some (.ref d)]) (λr=>V.bl (W0 b l r)) (by omega) (λH' s=>SqT.of (s _ _ b4)) a7 rfl (λv r a6 e5 d9 C a5 d6=>?_) λa6 b8 a5 b0=>?_
   .have S10:=S8.same (s9.trans a5);exact⟨_,rfl,_,rfl,_,rfl,t,d,v,zs,b,qL,l,r,rfl,S10.t,S10.J,S10.d,hk,C,λf hf=>(a3 f hf).1,d6⟩
   have X:=(s9.trans a5).upd (o:=.lst (fss.map λr=>V.bl (W0 b l r))) b0;refine⟨false,b8,_,rfl,SqL.of A0,a1u _ _,?_⟩;rw[a4g];have ef:fss.all (W0 b l)=(K7 n).all (W0 b m):=by
    rw[em];rw[cD,aI,aI];exact⟨λh v C=>h v (a4.mem_iff.mpr C),λh v C=>h v (a4.mem_iff.mp C)⟩
   rw[ef];generalize upd a6 b8 (.lst (fss.map λr=>V.bl (W0 b l r)))=M at X;have a0:=U.trans X;refine⟨_,rfl,?_⟩;cases e4:(K7 n).all (W0 b m)with
   |false=>exact G8 (k _ _ a0 ⟨(λz=>nomatch z),λh=>by rw[h.fst]at e4;cases e4⟩)
   |true =>
   refine E1 ?_;have c2:=X _ _ e8;have e7:=S8.same X;refine⟨_,rfl,d,qL,rfl,c2,λob=>?_⟩;have off:Off [d] M (upd M d (.frz ob (.dT qL))):=(Off.refl _ _).set (by simp);have a1:upd M d (.frz ob (.dT qL)) d=some (.frz ob (.dT qL)):=A0;have D:Same H (upd M d (.frz ob (.dT qL))):=a3j a0 c8 off;generalize upd M d (.frz ob (.dT qL))=b9 at D a1;have c1:Ps b9 ra c t d us zs qL rss b l n:=⟨D _ _ hra,hI.same D,D _ _ hc,D _ _ ht,hJ.same D,.inr ⟨ob,a1⟩⟩;have f1:=b3q hk;have f2:l.length<=100000:=by have:=J.le;rw[<-hM.1]at this;omega
   refine b0W (caps:=[some (.ref ra),some (.ref c),some (.ref t),some (.ref d)]) (λr=>V.bl (goI rss n b l r)) (by omega) a1 hk rfl (λv r c0 e6 b6 C R d7=>?_) λc0 d5 R b1=>?_
   .have S13:=c1.same R;exact⟨_,rfl,_,rfl,_,rfl,_,rfl,_,rfl,ra,c,t,d,v,us,zs,qL,rss,b,l,n,r,rfl,S13,W,C,b6,d7⟩
   .refine⟨false,d5,_,rfl,SqL.of A0,a1u _ _,?_⟩;rw[a4g];have ea:l.all (goI rss n b l)=m.all (goI rss n b m):=by
     rw[c3];rw[cD,aI,aI];exact⟨λh v C=>h v ((J.mem v).mpr C),λh v C=>h v ((J.mem v).mp C)⟩
    rw[ea];refine k _ _ (D.trans (R.upd b1)) ⟨λh=>⟨e1,e2,e3,c4,e4,h⟩,λh=>h.go⟩
  .obtain⟨ra,c,x,y,n,rfl,hc,hx,hy,C,k⟩:=h;have hu:=I.u60;refine⟨_,(A1 (C9 (a2x (a4K (J4 (D0 K (A6 a (I.mono (by omega)) rfl (jaC (jv 2) (jaC (G6 K rfl T.b_len (jaC (jv 1) jaN)) jaN))))) (a1Q (J4 (D0 K (A6 a (I.mono (by omega)) rfl (jaC (jv 3) (jaC (G6 K rfl T.b_len (jaC (jv 1) jaN)) jaN))))))))
 (A5 (A9 K5))
 C2)
 (A1 (C9 (a2x (a4K (J4 (D0 K (A6 u (I.mono (by omega)) rfl (jaC (jv 1) (jaC (B1 (jv 2) (jv 3)) jaN))))) (a1Q (J4 (D0 K (A6 j (I.mono (by omega)) rfl (jaC (jv 0) (jaC (jv 2) jaN))))))))
 (A5 (A9 K5))
 C2)
 (A1 (B2 (i:=4) sc_shows.nd rfl (Or.inr rfl) (a7n hu rfl T.b_dict (jaC (B5 (N:=["one"]) (src:=[none]) (E7 K (jv 3)) (by show B6 _ _=true;rfl) (by rfl) (by rfl)
 (λ_ _ _ _ _=>(A7 (i:=0) (L2.nd ["one"]) rfl (Or.inl rfl))) (λ_ _ _ _ _=>B8) (λ_ _ _ _ _=>(B3 (jaC (jv 0) (jaC K5 jaN))))) jaN)))
 (A1 (C9 (J4 (D0 K (N9 K rfl T.b_all (jaC (B5 (N:=["one","told","listed"]) (src:=[none,some 2,some 4]) (E7 K (A6 g (I.mono (by omega)) rfl (jaC (jv 1) jaN))) (by show B6 _ _=true;rfl) (by rfl) (by rfl)
 (λ_ _ _ _ _=>(A7 (i:=0) (L2.nd ["one","told","listed"]) rfl (Or.inl rfl))) (λ_ _ _ _ _=>B8) (λ_ _ _ _ _=>(A6 G (I.mono (by omega)) rfl (jaC (jv 1) (jaC (jv 2) (jaC (jv 0) jaN)))))) jaN))))
 (A5 (A9 K5))
 C2)
 (A5 (A9 (N9 K rfl T.b_all (jaC (B5 (N:=["one","rows","caps","told","listed"]) (src:=[none,some 0,some 1,some 2,some 4]) (a9B (jv 4)) (by show B6 _ _=true;rfl) (by rfl) (by rfl)
 (λ_ _ _ _ _=>(A7 (i:=0) (L2.nd ["one","rows","caps","told","listed"]) rfl (Or.inl rfl))) (λ_ _ _ _ _=>B8) (λ_ _ _ _ _=>(A6 B (I.mono (by omega)) rfl (jaC (jv 1) (jaC (jv 2) (jaC (jv 3) (jaC (jv 4) (jaC (jv 0) jaN)))))))) jaN)))))))),?_⟩
   refine⟨_,rfl,_,rfl,c,_,rfl,.inr (SqT.of hc),x,n.length,_,rfl,by rw[ai],hx,λH1 s1=>?_⟩;cases e:vcs n.length H x with
   |false=>exact⟨false,rfl,G8 (k H1 s1)⟩
   |true =>
    refine⟨true,rfl,E1 ?_⟩;have d2:=C.resolve_left (by rw[e];decide);refine⟨_,rfl,_,rfl,c,_,rfl,.inr (SqT.of (s1 _ _ hc)),y,n.length,_,rfl,by rw[ai],hy.keep (.same s1),λH2 s2=>?_⟩;rw[a2V hy (.same s1),d2];exact⟨false,rfl,G8 (k H2 (s1.trans s2))⟩
end
end K30
namespace K30
open PySem PySem.Spec PyProof.Rows L2
def b8f{xs:qI}{j:Nat}(h:j<xs.length):xs.getD j 0∈xs:=by
 rw[av,ak h];exact cc h
section
variable {P:qG}{w:World}{K:qF}{mg:Str->qD qB}{base:Heap}
def a3Y:∀(r ys:qI),r.length=ys.length->((List.range ys.length).map λj=>r.getD j 0*ys.getD j 0).sum=dot r ys
 |[],[],_=>rfl
 |x::r,y::ys,h=>by
  have a:=a3Y r ys (by simpa using h);rw[aX,List.range_succ_eq_map,aV,bo,cK,a7v];have e:((λj=>(x::r).getD j 0*(y::ys).getD j 0) ∘ Nat.succ)=λj=>r.getD j 0*ys.getD j 0:=rfl;rw[e,a];rfl
inductive IspSumsT(vs:qA V)(H:Hp)(Q:VK)(E:XK):Prop
 |mk (a:qE) (y:V) (us:qA V) (rss:LLI) (ys:qI) (_:vs=[.ref a,y]) (_:H a=some (.tup us)) (_:Its H us rss) (_:IT H y ys) (_:us.length<=1000) (_:ys.length<=1000) (_:(∀r∈rss,r.length=ys.length)) (_:Sm ys) (_:∀p H',Same H H'->H' p=some (.tup ((rss.map λr=>dot r ys).map V.int))->Q (.ref p) H'):IspSumsT  vs H Q E
def a9a:Sp:=λvs H Q E=>IspSumsT  vs H Q E
def a5z:FnScope ["_law_rows","_law_one"] ["_law_rows","_law_one"] (A2 U0):={}
def b2M(F:FunAt K mg "_law_sums" U0 ["_law_rows","_law_one"])(T:Tx mg):Ok P w K mg base "_law_sums" 1 ["_law_rows","_law_one"] a9a:=by
 refine F.okJ a5z (λu H Q E h=>?_) (λl f A g s H u Q E e h=>?_)
 .obtain⟨a,y,us,rss,ys,rfl,_⟩:=h;rfl
 .obtain⟨a,_,us,rss,ys,rfl,ha,hI,⟨y,rfl,hy⟩,hl,hyl,hl2,hs,k⟩:=h;refine⟨_,(A5 (A9 (C1 K rfl T.b_tuple (jaC (B5 (N:=["_law_row","_law_one"]) (src:=[none,some 1]) (E7 K (jv 0)) (by show B6 _ _=true;rfl) (by rfl) (by rfl)
 (λ_ _ _ _ _=>(A7 (i:=0) (L2.nd ["_law_row","_law_one"]) rfl (Or.inr rfl))) (λ_ _ _ _ _=>B8) (λ_ _ _ _ _=>(a8p K rfl T.b_sum (jaC (B5 (N:=["_law_j","_law_row","_law_one"]) (src:=[none,some 0,some 1]) (J0 rfl T.b_range (jaC (G6 K rfl T.b_len (jaC (jv 1) jaN)) jaN)) (by show B6 _ _=true;rfl) (by rfl) (by rfl)
 (λ_ _ _ _ _=>(A7 (i:=0) (L2.nd ["_law_j","_law_row","_law_one"]) rfl (Or.inl rfl))) (λ_ _ _ _ _=>B8) (λ_ _ _ _ _=>(a0O (D5 K (jv 1) (jv 0)) (D5 K (jv 2) (jv 0))))) jaN)))) jaN)))),?_⟩
  refine⟨_,rfl,a,rfl,⟨_,SqT.of ha⟩,?_⟩;refine a8R (caps:=[some (.ref y)]) (λr=>V.int (dot r ys)) hl (λH' s=>SqT.of (s _ _ ha)) hI rfl (λv r H1 x e o s1 q=>?_) λH1 p s m=>?_
  .obtain⟨va,rfl,hva⟩:=o;have b:=s1 _ _ hy;refine⟨_,rfl,y,_,rfl,.inr (SqT.of b),_,rfl,by omega,by rw[ai];omega,?_⟩;rw[bE,ai];refine a0V (caps:=[some (.ref va),some (.ref y)]) (λj=>V.int (r.getD j 0*ys.getD j 0)) (by omega) rfl (λj H2 z c s2 t=>?_) λH2 p2 s2 d=>?_
   .exact⟨_,rfl,_,rfl,va,_,_,_,rfl,rfl,SqT.of (s2 _ _ hva),R1 (by rw[hl2 r e];exact c),_,rfl,_,rfl,y,_,_,_,rfl,rfl,SqT.of (s2 _ _ b),R1 c,_,_,rfl,rfl,.inr (hs _ (b8f c)),t⟩
   rw[show(List.range ys.length).map (λj=>V.int (r.getD j 0*ys.getD j 0))=((List.range ys.length).map λj=>r.getD j 0*ys.getD j 0).map V.int by rw[cK];rfl];refine⟨false,p2,_,rfl,SqL.of A0,?_⟩;rw[a3Y r ys (hl2 r e)];exact q _ (s2.upd d)
  .rw[show(rss.map λr=>V.int (dot r ys))=(rss.map λr=>dot r ys).map V.int by rw[cK];rfl];refine⟨p,_,rfl,.inl ⟨SqL.of A0,λq n=>?_⟩⟩;exact k _ _ ((s.upd m).upd n) A0
inductive IspLSides(vs:qA V)(H:Hp)(Q:VK)(E:XK):Prop
 |mk (a b ra:qE) (us:qA V) (rss:LLI) (n m:Nat) (_:vs=[.ref a,.ref ra,.int m]) (_:PotAt H a b n) (_:n+200<2 ^ 60) (_:H ra=some (.tup us)) (_:Its H us rss) (_:us.length<=6) (_:(∀r∈rss,r.length=m)) (_:1<=m) (_:m<=8) (_:∀(p:qE) (ss:qI) (H':Hp),H' p=some (.tup (ss.map V.int))->ss.length=rss.length->Bd 1000000000000 ss->PotAt H' a b (n+100)->Off [a,b] H H'->Q (.ref p) H'):IspLSides  vs H Q E
def a6B:Sp:=λvs H Q E=>IspLSides  vs H Q E
def sc__law_sides:FnScope ["_law_pot_here","_law_rows","_law_width","_law_sort","_law_some","_law_sides_here","_law_total","_law_others_here"] ["_law_pot_here","_law_rows","_law_width"] (A2 O7):={}
def b0B(F:FunAt K mg "_law_sides" O7 ["_law_pot_here","_law_rows","_law_width"])(T:Tx mg)(e:Ok P w K mg base "_law_take" 1 ["_law_pot_here","_law_many"] a0T)(j:Ok P w K mg base "_law_sums" 1 ["_law_rows","_law_one"] a9a):Ok P w K mg base "_law_sides" 2 ["_law_pot_here","_law_rows","_law_width"] a6B:=by
 refine F.okJ sc__law_sides (λvs H Q E h=>?_) (λe8 f A e7 s H vs Q E Z h=>?_)
 .obtain⟨a,b,ra,us,rss,n,m,rfl,_⟩:=h;rfl
 .obtain⟨a,b,ra,us,rss,n,m,rfl,hP,hn,hra,hI,hul,hR,hm1,hm8,kk⟩:=h;have hz:(3000:Nat)<=sizeLine:=by rw[aT];decide
  refine⟨_,(A1 (B2 (i:=3) sc__law_sides.nd rfl (Or.inl rfl) (A6 e (Z.mono (by omega)) rfl (jaC (jv 0) (jaC A4 jaN))))
 (A1 (B2 (i:=4) sc__law_sides.nd rfl (Or.inl rfl) (C1 K rfl T.b_tuple (jaC (B5 (N:=["_law_j","_law_pot_here"]) (src:=[none,some 0]) (J0 rfl T.b_range (jaC (jv 2) jaN)) (by show B6 _ _=true;rfl) (by rfl) (by rfl)
 (λ_ _ _ _ _=>(A7 (i:=0) (L2.nd ["_law_j","_law_pot_here"]) rfl (Or.inl rfl))) (λ_ _ _ _ _=>B8) (λ_ _ _ _ _=>(A6 e (Z.mono (by omega)) rfl (jaC (jv 1) (jaC A4 jaN))))) jaN)))
 (A1 (B2 (i:=5) sc__law_sides.nd rfl (Or.inl rfl) (L0 jaN))
 (A1 (N8 (E7 K (A6 j (Z.mono (by omega)) rfl (jaC (jv 1) (jaC (jv 4) jaN)))) (A7 (i:=6) sc__law_sides.nd rfl (Or.inl rfl))
 (A1 (B2 (i:=7) sc__law_sides.nd rfl (Or.inl rfl) (L0 (jaC (jv 6) (jaC A4 (jaC (a3H (A6 e (Z.mono (by omega)) rfl (jaC (jv 0) (jaC A4 jaN))) A4) (jaC (a3H (G7 (jv 6) (A6 e (Z.mono (by omega)) rfl (jaC (jv 0) (jaC A4 jaN)))) A4) jaN))))))
 (A1 (G4 (E6 K (jv 7) (jaC (a3H (A6 e (Z.mono (by omega)) rfl (jaC (jv 0) (jaC (G7 (a0O A4 (a3I A4 A4)) A4) jaN))) (a3I A4 A4)) jaN)))
 (A5 (G4 (E6 K (jv 5) (jaC (b7U rfl T.b_max (jaC (a3J (a3I A4 A4)) (jaC (b7T rfl T.b_min (jaC (a3I A4 A4) (jaC (Y5 K (a1o (jv 7) (L0 (jaC (jv 6) (jaC (jv 6) (jaC (jv 6) jaN))))) (jv 3)) jaN))) jaN))) jaN)))))))
 (A5 (A9 (C1 K rfl T.b_tuple (jaC (jv 5) jaN)))))))),?_⟩
  refine⟨_,rfl,a,b,_,8,rfl,hP,by omega,by decide,by decide,λr1 H1 f0 f1 d1 c4=>?_⟩;dsimp only[B0];refine⟨_,rfl,_,rfl,by omega,by omega,?_⟩;rw[bE];refine a4E (caps:=[some (.ref a)]) (c:=1) (λz=>0<=z/\z<=3) (by omega) rfl d1 (λi' H' N' f3 d0 q=>⟨_,rfl,a,b,_,4,rfl,d0,by omega,by decide,by decide,λr c6 h0 h1 b4 e6=>q r c6 ⟨h0,by omega⟩ b4 e6⟩) ?_;intro H2 p2 xs d8 d9 d2 c5 d6;have s3:=(Same.refl H2).upd (o:=.lst (xs.map V.int)) d6;refine⟨p2,_,rfl,.inl ⟨SqL.of A0,λq3 d7=>?_⟩⟩;have s3:=s3.upd (o:=.tup (xs.map V.int)) d7;have e3:upd (upd H2 p2 (.lst (xs.map V.int))) q3 (.tup (xs.map V.int)) q3=some (.tup (xs.map V.int)):=A0;generalize upd (upd H2 p2 (.lst (xs.map V.int))) q3 (.tup (xs.map V.int))=H3 at s3 e3;have a2:=d2.same s3;have a0:=(c4.trans c5).trans s3.off;dsimp only[B0];refine⟨bu _,λO a4=>?_⟩;have d5:=Q6 a0 a2 a4;have t:=O9 a2 a4;have s4:=(Same.refl H3).upd (o:=.lst []) a4;have e4:upd H3 O (.lst []) O=some (.lst []):=A0;have u:=a0.trans s4.off;have b6:=a2.same s4;have q4:=s4 _ _ e3;generalize upd H3 O (.lst [])=H4 at s4 e4 u b6 q4;dsimp only[B0];have c2:=u _ _ (a6U hP hra) hra;have c9:=a2P hI hP u;refine⟨_,rfl,_,rfl,ra,.ref q3,us,rss,xs,rfl,c2,c9,⟨q3,rfl,q4⟩,by omega,by omega,λr Z=>by rw[hR r Z,d8],λz hz=>by have:=d9 z hz;omega,λp5 H5 s5 e5=>?_⟩;refine⟨p5,rfl,⟨_,SqT.of e5⟩,?_⟩;have nq:O≠p5:=λz=>by
   have:=s5 _ _ e4;rw[z,e5]at this;cases this
  refine a9K (K:=K) (a:=p5) (xs:=(rss.map λr=>dot r xs).map V.int) (λi σ H'=>Ex3 λ(o6 o7:qD V) (ss:qI)=>An7 (σ=[some (.ref a),some (.ref ra),some (.int m),some (.int r1),some (.ref q3),some (.ref O),o6,o7]) (PotAt H' a b (n+20+5*i)) (Off [a,b] H H') (H' p5=some (.tup ((rss.map λr=>dot r xs).map V.int))) (H' O=some (.lst (ss.map V.int))) (ss.length=i) (Bd 1000000000000 ss))
   ⟨none,none,[],rfl,(b6.same s5).mono (by omega),u.trans s5.off,e5,s5 _ _ e4,rfl,λ_ z=>nomatch z⟩ (λi σ H' _ h=>by
    obtain⟨_,_,_,_,_,_,h5,_⟩:=h;exact SqT.of h5) ?_ ?_
  .rintro i x σ H6 hx ⟨o6,o7,ss,rfl,hP6,off6,h56,h46,hsl,hsb⟩;obtain⟨d,c3,rfl⟩:=U7 hx;have hi:i<rss.length:=by
    have:=(aL.mp c3).1;rwa[ai]at this
   have f4:i<6:=by rw[<-hI.1]at hi;omega
   dsimp only[B0];refine⟨_,rfl,_,rfl,a,b,_,9,rfl,hP6,by omega,by decide,by decide,λl H7 _ _ d3 G=>?_⟩;refine⟨_,_,rfl,rfl,_,rfl,_,rfl,a,b,_,3,rfl,d3,by omega,by decide,by decide,λp H8 _ _ a3 I=>?_⟩;refine⟨_,_,rfl,rfl,_,_,rfl,rfl,by show 4<=sizeLine;omega,λv C=>?_⟩;dsimp only[B0];have J:=(off6.trans G).trans I;have b7:=Q6 J a3 C;have Y:=O9 a3 C;have B:p5∉[a,b]:=a6U hP6 h56;have b1:=I _ _ t (G _ _ t h46);have b3:=I _ _ B (G _ _ B h56);have s9:=(Same.refl H8).upd (o:=.lst [V.int d,V.int 0,V.int (l-4),V.int (d+p-1)]) C;have e9:upd H8 v (.lst [V.int d,V.int 0,V.int (l-4),V.int (d+p-1)]) v=some (.lst [V.int d,V.int 0,V.int (l-4),V.int (d+p-1)]):=A0;have e0:O≠v:=A8 b1 C;have e2:p5≠v:=A8 b3 C;generalize upd H8 v (.lst [V.int d,V.int 0,V.int (l-4),V.int (d+p-1)])=H9 at s9 e9;have d4:=a3.same s9;refine⟨_,rfl,.inl ⟨rfl,_,SqL.of e9⟩,_,rfl,_,_,rfl,rfl,⟨by decide,by decide,by decide⟩,_,_,rfl,rfl,.inl ⟨by decide,by decide⟩,_,_,rfl,rfl,a,b,_,_,rfl,d4,by omega,by decide,by decide,λg R _ _ b5 k=>?_⟩;have c8:=k _ _ Y e9;have a9:=k _ _ t (s9 _ _ b1);have b2:=k _ _ B (s9 _ _ b3);refine⟨_,_,rfl,rfl,⟨by decide,by decide,by decide⟩,_,_,rfl,rfl,v,_,_,rfl,rfl,c8,by show 4<sizeLine;omega,?_⟩;have D:=a0a (o:=.lst ([V.int d,V.int 0,V.int (l-4),V.int (d+p-1)]++[V.int (g-10 ^ (12:Int).toNat)])) ((J.trans s9.off).trans k) b7;have X:=W8 (o:=.lst ([V.int d,V.int 0,V.int (l-4),V.int (d+p-1)]++[V.int (g-10 ^ (12:Int).toNat)])) b5 Y;have a7:upd R v (.lst ([V.int d,V.int 0,V.int (l-4),V.int (d+p-1)]++[V.int (g-10 ^ (12:Int).toNat)])) v=some (.lst ([d,0,l-4,d+p-1,g-10 ^ (12:Int).toNat].map V.int)):=A0;have y:upd R v (.lst ([V.int d,V.int 0,V.int (l-4),V.int (d+p-1)]++[V.int (g-10 ^ (12:Int).toNat)])) O=some (.lst (ss.map V.int)):=by rw[A3 e0];exact a9
   have W:upd R v (.lst ([V.int d,V.int 0,V.int (l-4),V.int (d+p-1)]++[V.int (g-10 ^ (12:Int).toNat)])) p5=some (.tup ((rss.map λr=>dot r xs).map V.int)):=by rw[A3 e2];exact b2
   generalize upd R v (.lst ([V.int d,V.int 0,V.int (l-4),V.int (d+p-1)]++[V.int (g-10 ^ (12:Int).toNat)]))=a1 at D X a7 y W;refine⟨_,rfl,.inl ⟨rfl,_,SqL.of y⟩,_,_,rfl,rfl,⟨by decide,by decide,by decide⟩,_,rfl,_,_,rfl,rfl,⟨by decide,by decide,by decide⟩,_,rfl,_,rfl,_,rfl,_,rfl,by show 3<=sizeLine;omega,λU b9=>?_⟩;have a5:=(Same.refl a1).upd (o:=.lst [V.int d,V.int d,V.int d]) b9;have a8:upd a1 U (.lst [V.int d,V.int d,V.int d]) U=some (.lst [V.int d,V.int d,V.int d]):=A0;generalize upd a1 U (.lst [V.int d,V.int d,V.int d])=a6 at a5 a8;refine⟨v,U,_,_,rfl,rfl,a5 _ _ a7,a8,by show 5+3<=sizeLine;omega,λL c0=>?_⟩;have M:=a5.upd (o:=.lst ([d,0,l-4,d+p-1,g-10 ^ (12:Int).toNat].map V.int++[V.int d,V.int d,V.int d])) c0;have S:upd a6 L (.lst ([d,0,l-4,d+p-1,g-10 ^ (12:Int).toNat].map V.int++[V.int d,V.int d,V.int d])) L=some (.lst ([d,0,l-4,d+p-1,g-10 ^ (12:Int).toNat,d,d,d].map V.int)):=A0;generalize upd a6 L (.lst ([d,0,l-4,d+p-1,g-10 ^ (12:Int).toNat].map V.int++[V.int d,V.int d,V.int d]))=c7 at M S;obtain⟨L8,f2,S⟩:∃L8:qI,L8.length=8/\c7 L=some (.lst (L8.map V.int)):=⟨_,rfl,S⟩;have b8:(10:Int) ^ (12:Int).toNat=1000000000000:=by decide
   have e1:r1=((r1.toNat:Nat):Int):=by omega
   have b0:=M _ _ y;refine⟨_,rfl,L,_,_,.int (L8.getD r1.toNat 0),rfl,rfl,SqL.of S,?_,_,_,rfl,_,_,rfl,O,_,_,rfl,rfl,b0,by rw[ai];omega,?_⟩
   .rw[e1];exact R1 (by omega)
   rw[b8];generalize L8.getD r1.toNat 0=z;refine⟨_,_,ss++[_],rfl,(W8 (X.same M) t).mono (by omega),a0a (D.trans M.off) d5,by rw[A3 nq.symm];exact M _ _ W,by rw[A0,bC];rfl,by rw[ag,eQ,hsl],λx hx=>?_⟩;rcases ao.mp hx with q|q
   .exact hsb x q
   .rw[au.mp q];constructor<;>(repeat' split)<;>omega
  .rintro σ H6 ⟨o6,o7,ss,rfl,hP6,off6,h56,h46,hsl,hsb⟩;rw[ai,ai]at hsl;refine⟨_,rfl,O,_,rfl,.inl ⟨SqL.of h46,λq7 c1=>?_⟩⟩;rw[ai,ai,<-hI.1]at hP6;exact kk q7 ss _ A0 hsl hsb ((hP6.same ((Same.refl H6).upd c1)).mono (by omega)) (off6.trans (((Same.refl H6).upd c1).off))
inductive IspLBeyond(vs:qA V)(H:Hp)(Q:VK)(E:XK):Prop
 |mk (ra sa:qE) (us:qA V) (rss:LLI) (n most:Nat) (ss:qI) (wi mi B:Int) (_:vs=[.ref ra,.ref sa,.int wi,.int mi]) (_:wi=n) (_:mi=most) (_:Ry H ra us rss n B) (_:0<=B) (_:B<=10000000000000) (_:1<=n) (_:n<=8) (_:most<=900) (_:ss.length=rss.length) (_:Bd 10000000000000 ss) (_:H sa=some (.tup (ss.map V.int))) (_:(∀(q t b pp:qE) (zs ys ws:qA V) (qO Fl W:LLI) (k:Nat) (H':Hp),Same H H'->H' q=some (.tup [.ref t,.ref b,.ref pp])->H' t=some (.tup zs)->Its H' zs (L7 1 qO)->H' b=some (.tup ys)->Its H' ys (L7 0 qO)->H' pp=some (.tup ws)->Its H' ws W->Wk (sdS rss ss) (sdC n) Fl W [] k->W.length<=most->qO.Perm Fl->qO.length<=most->C7 qO->qO.Nodup->Vn (n+1) (most+1) qO->(∀v,v∈qO↔Least (sdS rss ss) (sdC n) v)->Q (.ref q) H')) (_:∀H',Same H H'->b5Z (sdS rss ss) (sdC n) most->Q .non H'):IspLBeyond  vs H Q E
def a4y:Sp:=λvs H Q E=>IspLBeyond  vs H Q E
def sc__law_beyond:FnScope ["_law_rows","_law_sides_here","_law_width","_law_most","_law_told"] ["_law_rows","_law_sides_here","_law_width","_law_most"] (A2 M8):={}
def a8h{a:qE}(y:FunAt K mg "_law_beyond" M8 ["_law_rows","_law_sides_here","_law_width","_law_most"])(T:Tx mg)(d:OkE P w K mg base "beyond" 8 ["rows","sides","width","most"] (a6D a))(c:mg "TooMany"=some (.ref a))(e:ClsX K a []):Ok P w K mg base "_law_beyond" 9 ["_law_rows","_law_sides_here","_law_width","_law_most"] a4y:=by
 refine y.okJ sc__law_beyond (λS H Q E h=>?_) (λz f A x s H S Q E N h=>?_)
 .obtain⟨ra,sa,us,rss,n,most,ss,wi,mi,B,rfl,_⟩:=h;rfl
 .obtain⟨ra,sa,us,rss,n,most,ss,_,_,B,rfl,rfl,rfl,hR,hB0,hB1,n1,n8,hmo,hsl,hsb,hsa,kq,kn⟩:=h;refine⟨_,(A1 (B2 (i:=4) sc__law_beyond.nd rfl (Or.inl rfl) W1)
 (A1 (b3h K (b7P (i:=4) d (N.mono (by omega)) rfl sc__law_beyond.nd rfl (Or.inl rfl) (jaC (jv 0) (jaC (jv 1) (jaC (jv 2) (jaC (jv 3) jaN))))) rfl c e (λ_=>(A5 (B2 (i:=4) sc__law_beyond.nd rfl (Or.inl rfl) W1))))
 (A5 (A9 (jv 4))))),?_⟩
  refine⟨_,rfl,_,rfl,_,rfl,_,rfl,ra,sa,us,rss,n,most,ss,_,_,B,rfl,rfl,rfl,hR,hB0,hB1,n1,n8,hmo,hsl,hsb,hsa,λq t b R zs ys U qO Fl W k H' s' M O C G g u j F m r I v o D l=>?_,λH' s' J=>⟨a,rfl,rfl,λp L=>?_⟩⟩
  .exact⟨_,rfl,kq q t b R zs ys U qO Fl W k H' s' M O C G g u j F m r I v o D l⟩
  .exact⟨_,rfl,kn _ (s'.upd L) J⟩
end
end K30
namespace K30
open PySem PySem.Spec PyProof.Rows L2
variable {H:Hp}{n:Nat}{rss:LLI}{v:V}
section
variable {P:qG}{w:World}{K:qF}{mg:Str->qD qB}{base:Heap}
def Gd(H:Hp)(n:Nat)(v:V)(rss:LLI):Prop:=∃p us,v=.ref p/\H p=some (.tup us)/\Its H us rss/\us.length<=400/\∀r∈rss,r.length=n/\∀x∈r,0<=x/\x<=10000000000000
def Fo(H:Hp)(n:Nat)(v:V):qD (LLI)->Prop
 |none=>Dp3 H v/\vcs n H v=false
 |some rss=>Gd H n v rss
def Gd.same{H H':Hp}{n:Nat}{v:V}{rss:LLI}(h:Gd H n v rss)(s:Same H H'):Gd H' n v rss:=let ⟨p,us,e1,e2,e3,e4⟩:=h;⟨p,us,e1,s _ _ e2,e3.same s,e4⟩
def Gd.tk{H':Hp}(h:Gd H n v rss)(s:Tk H H'):Gd H' n v rss:=let ⟨p,us,e1,e2,e3,e4⟩:=h;⟨p,us,e1,s _ _ e2,s.its e3,e4⟩
def Fo.keep{H H':Hp}{n:Nat}{v:V}{o:qD (LLI)}(h:Fo H n v o)(k:Keep H H'):Fo H' n v o:=by
 cases o with
 |none=>exact⟨h.1.keep k,by rw[a2V h.1 k];exact h.2⟩
 |some rss=>exact Gd.tk h k.t
def Gd.dp(h:Gd H n v rss)(f:n<=100):Dp3 H v:=by
 obtain⟨p,g,rfl,a,b,e,c⟩:=h;exact Dp3.its a b (by omega) λr d=>by rw[(c r d).1];omega
def Fo.dp{H:Hp}{n:Nat}{v:V}{o:qD (LLI)}(h:Fo H n v o)(a:n<=100):Dp3 H v:=by
 cases o with
 |none=>exact h.1
 |some rss=>exact Gd.dp h a
def Gd.vcs(h:Gd H n v rss):vcs n H v=true:=by
 obtain⟨p,i,rfl,d,e,g,b⟩:=h;rw[N3 (I9 d),a5h (a:=p) e];exact aI.mpr λr c=>vecI_iff.mpr ⟨(b r c).1,λx f=>((b r c).2 x f).1⟩
inductive IspRis3(vs:qA V)(H:Hp)(Q:VK)(E:XK):Prop
 |mk (v:V) (n:Nat) (wi:Int) (o:qD (LLI)) (_:vs=[v,.int wi]) (_:wi=n) (_:1<=n) (_:n<=100) (_:Fo H n v o) (_:∀b H',Same H H'->(b=true↔∃rss,o=some rss/\C7 rss/\rss.Nodup)->Q (.bl b) H'):IspRis3  vs H Q E
def b1P:Sp:=λvs H Q E=>IspRis3  vs H Q E
def a4k:FnScope ["value","width"] ["value","width"] (A2 O6):={}
def b5m(F:FunAt K mg "are_rising" O6 ["value","width"])(T:Tx mg)(b:Ok P w K mg base "are_vectors" 3 ["value","width"] a8Z):Ok P w K mg base "are_rising" 4 ["value","width"] b1P:=by
 refine F.okJ a4k (λX H Q E h=>?_) (λS f A D s H X Q E q h=>?_)
 .obtain⟨v,n,wi,o,rfl,_⟩:=h;rfl
 .obtain⟨v,n,_,o,rfl,rfl,n1,n2,hF,kk⟩:=h;have Y:(3000:Nat)<=sizeLine:=by rw[aT];decide
  have O:=q.u60;refine⟨_,(A5 (A9 (a1p (A6 b (q.mono (by omega)) rfl (jaC (jv 0) (jaC (jv 1) jaN))) (a1n (b3e K O (a0y K rfl T.b_list (jaC (jv 0) jaN)) (a7m P w rfl T.b_sorted (jaC (a9C K P w O rfl T.b_set (jaC (jv 0) jaN)) jaN))))))),?_⟩;refine⟨_,rfl,_,rfl,v,n,_,rfl,rfl,hF.dp n2,λH1 s1=>?_⟩;cases o with
  |none =>
   rw[hF.2];exact⟨false,rfl,E1 (kk false H1 s1 ⟨(λz=>nomatch z),λ⟨_,z,_⟩=>nomatch z⟩)⟩
  |some rss =>
  rw[Gd.vcs hF];obtain⟨p,j,rfl,N,t,W,hR⟩:=hF;refine⟨true,rfl,G8 ?_⟩;refine⟨_,rfl,p,j,rfl,.inr (SqT.of (s1 _ _ N)),λl V=>?_⟩;have s2:=s1.upd (o:=.lst j) V;have L:upd H1 l (.lst j) l=some (.lst j):=A0;generalize upd H1 l (.lst j)=H2 at s2 L;refine⟨_,rfl,true,p,j,rss,rfl,SqT.of (s2 _ _ N),t.same s2,by omega,λa xs U i g B=>?_⟩;have G:=(Same.refl H2).upd (o:=a1G P w a xs) U;have M:upd H2 a (a1G P w a xs) a=some (a1G P w a xs):=A0;generalize upd H2 a (a1G P w a xs)=R at G M;have C:xs.length<=1000:=by
   have:=b6y (xs.map (·.1)) rss i λr q=>(g r).mp q;rw[ai,<-t.1]at this;omega
  refine⟨a,xs,rfl,M,λx y=>(B x y).same G,λx y=>by
   have:=(hR x.1 ((g x.1).mp (aN.mpr ⟨x,y,rfl⟩))).1;omega,C,λZ zs J m u d c=>?_⟩
  have I:=G.upd (o:=.lst zs) m;refine⟨2,_,by decide,EqV.its (k:=false) (SqL.of (I _ _ L)) (SqL.of A0) (t.same (s2.trans I)) (u.same ((Same.refl R).upd m)),⟨_,_,rfl,rfl⟩,?_⟩;refine kk _ _ (s2.trans I) ?_;show decide (rss=J)=true↔_;rw[br];constructor
  .intro e;exact⟨rss,rfl,by rw[e];exact c,by rw[e];exact d.symm.nodup i⟩
  .rintro⟨_,e,hri,hnd⟩;cases e;exact Q0 hri c hnd (d.symm.nodup i) λv=>(g v).symm.trans d.mem_iff.symm
def b8B(rss:LLI)(ss:qI)(n:Nat)(ox oy oz:qD (LLI)):Prop:=∃xss yss pss srt,ox=some xss/\oy=some yss/\oz=some pss/\C7 xss/\xss.Nodup/\C7 yss/\yss.Nodup/\srt.Perm ((xss.map λv=>v++[1])++yss.map λv=>v++[0])/\C7 srt/\Shw (sdS rss ss) (sdC n) srt pss
inductive IspShB3(vs:qA V)(H:Hp)(Q:VK)(E:XK):Prop
 |mk (ra sa:qE) (us:qA V) (rss:LLI) (ss:qI) (n:Nat) (B wi:Int) (x y z:V) (ox oy oz:qD (LLI)) (_:vs=[.ref ra,.ref sa,.int wi,x,y,z]) (_:wi=n) (_:Ry H ra us rss n B) (_:B<=10000000000000) (_:ss.length=rss.length) (_:Bd 10000000000000 ss) (_:H sa=some (.tup (ss.map V.int))) (_:1<=n) (_:n<=8) (_:Fo H n x ox) (_:Fo H n y oy) (_:Fo H (n+1) z oz) (_:∀b H',Same H H'->(b=true↔b8B rss ss n ox oy oz)->Q (.bl b) H'):IspShB3  vs H Q E
def b1O:Sp:=λvs H Q E=>IspShB3  vs H Q E
def sc_shows_beyond:FnScope ["rows","sides","width","told","base","paper","both"] ["rows","sides","width","told","base","paper"] (A2 K0):={}
def b5l(F:FunAt K mg "shows_beyond" K0 ["rows","sides","width","told","base","paper"])(T:Tx mg)(c:Ok P w K mg base "are_rising" 4 ["value","width"] b1P)(G:Ok P w K mg base "sided" 1 ["rows","sides"] a5p)(d:Ok P w K mg base "sided_caps" 2 ["width"] Z4)(D:Ok P w K mg base "shows" 6 ["rows","caps","told","paper"] (λvs H Q E=>a6v vs H Q E∨b6k vs H Q E)):Ok P w K mg base "shows_beyond" 7 ["rows","sides","width","told","base","paper"] b1O:=by
 refine F.okJ sc_shows_beyond (λvs H Q E h=>?_) (λf4 f A d8 s H vs Q E k h=>?_)
 .obtain⟨ra,sa,us,rss,ss,n,B,wi,x,y,z,ox,oy,oz,rfl,_⟩:=h;rfl
 .obtain⟨ra,sa,us,rss,ss,n,B,_,x,y,z,ox,oy,oz,rfl,rfl,hR,hB1,hsl,hsb,hsa,n1,n8,hX,hY,hZ,kk⟩:=h;have Z:(3000:Nat)<=sizeLine:=by rw[aT];decide
  have hu:=k.u60;refine⟨_,(A1 (C9 (a2x (a4K (J4 (D0 K (A6 c (k.mono (by omega)) rfl (jaC (jv 3) (jaC (jv 2) jaN))))) (a1Q (J4 (D0 K (A6 c (k.mono (by omega)) rfl (jaC (jv 4) (jaC (jv 2) jaN))))))))
 (A5 (A9 K5))
 C2)
 (A1 (B2 (i:=6) sc_shows_beyond.nd rfl (Or.inl rfl) (Q8 K rfl T.b_sorted (jaC (a1o (B5 (N:=["one"]) (src:=[none]) (E7 K (jv 3)) (by show B6 _ _=true;rfl) (by rfl) (by rfl)
 (λ_ _ _ _ _=>(A7 (i:=0) (L2.nd ["one"]) rfl (Or.inl rfl))) (λ_ _ _ _ _=>B8) (λ_ _ _ _ _=>(B1 (jv 0) (B3 (jaC A4 jaN))))) (B5 (N:=["one"]) (src:=[none]) (E7 K (jv 4)) (by show B6 _ _=true;rfl) (by rfl) (by rfl)
 (λ_ _ _ _ _=>(A7 (i:=0) (L2.nd ["one"]) rfl (Or.inl rfl))) (λ_ _ _ _ _=>B8) (λ_ _ _ _ _=>(B1 (jv 0) (B3 (jaC A4 jaN)))))) jaN)))
 (A5 (A9 (A6 D (k.mono (by omega)) rfl (jaC (A6 G (k.mono (by omega)) rfl (jaC (jv 0) (jaC (jv 1) jaN))) (jaC (A6 d (k.mono (by omega)) rfl (jaC (jv 2) jaN)) (jaC (C1 K rfl T.b_tuple (jaC (jv 6) jaN)) (jaC (jv 5) jaN))))))))),?_⟩
  refine⟨_,rfl,_,rfl,x,n,_,ox,rfl,rfl,n1,by omega,hX,λb1 H1 s1 b7=>?_⟩;cases b1 with
  |false =>
   refine⟨false,rfl,G8 (kk false H1 s1 ⟨(λz=>nomatch z),λ⟨t,_,_,_,e1,_,_,r1,d1,_⟩=>?_⟩)⟩;exact absurd (b7.mpr ⟨t,e1,r1,d1⟩) bf
  |true =>
  obtain⟨t,rfl,r1,d1⟩:=b7.mp rfl;refine⟨true,rfl,E1 ?_⟩;refine⟨_,rfl,_,rfl,y,n,_,oy,rfl,rfl,n1,by omega,hY.keep (.same s1),λb2 H2 s2 b8=>?_⟩;have J:=s1.trans s2;cases b2 with
  |false =>
   refine⟨false,rfl,G8 (kk false H2 J ⟨(λz=>nomatch z),λ⟨_,C,_,_,_,e1,_,_,_,r1,d1,_⟩=>?_⟩)⟩;exact absurd (b8.mpr ⟨C,e1,r1,d1⟩) bf
  |true =>
  obtain⟨C,rfl,r0,d0⟩:=b8.mp rfl;refine⟨true,rfl,E1 ?_⟩;obtain⟨pt,ts,rfl,c1,a6,f7,a7⟩:=hX;obtain⟨pb,ys,rfl,c0,a8,g0,a9⟩:=hY;have f1:=a6.1;have f2:=a8.1;refine⟨_,rfl,pt,rfl,⟨_,SqT.of (J _ _ c1)⟩,?_⟩;refine a6q (caps:=[]) (λv=>v++[1]) (by omega) (λH' s=>SqT.of (s _ _ (J _ _ c1))) (a6.same J) rfl (λv r H3 Q3 k hv s3 q=>?_) λH3 p3 M s3 c7 c4=>?_
  .obtain⟨va,rfl,hva⟩:=hv;refine⟨_,rfl,by show 1<=sizeLine;omega,λp4 c8=>?_⟩;have s4:=(Same.refl H3).upd (o:=.tup [.int 1]) c8;exact⟨va,p4,_,_,rfl,rfl,s4 _ _ hva,A0,by rw[ai,(a7 r k).1];show n+1<=_;omega,λp5 H5 s5 e5=>q _ _ (s4.trans s5) ⟨p5,rfl,by rw[e5,bC];rfl⟩⟩
  have s4:=(Same.refl H3).upd (o:=.lst M) c7;have e4:upd H3 p3 (.lst M) p3=some (.lst M):=A0;have a4:=c4.same s4;generalize upd H3 p3 (.lst M)=H4 at s4 e4 a4;have S:=(J.trans s3).trans s4;refine⟨_,rfl,pb,rfl,⟨_,SqT.of (S _ _ c0)⟩,?_⟩;refine a6q (caps:=[]) (λv=>v++[0]) (by omega) (λH' s=>SqT.of (s _ _ (S _ _ c0))) (a8.same S) rfl (λv r H5 Q5 k hv s5 q=>?_) λH5 p5 O s5 c9 c5=>?_
  .obtain⟨va,rfl,hva⟩:=hv;refine⟨_,rfl,by show 1<=sizeLine;omega,λp6 d2=>?_⟩;have s6:=(Same.refl H5).upd (o:=.tup [.int 0]) d2;exact⟨va,p6,_,_,rfl,rfl,s6 _ _ hva,A0,by rw[ai,(a9 r k).1];show n+1<=_;omega,λp7 H7 s7 e7=>q _ _ (s6.trans s7) ⟨p7,rfl,by rw[e7,bC];rfl⟩⟩
  have s6:=(Same.refl H5).upd (o:=.lst O) c9;have e6:upd H5 p5 (.lst O) p5=some (.lst O):=A0;have a5:=c5.same s6;generalize upd H5 p5 (.lst O)=H6 at s6 e6 a5;have b3:=s5.trans s6;have d9:=S.trans b3;have c2:=a4.1;have c3:=a5.1;rw[ai]at c2 c3;refine⟨p3,p5,M,O,rfl,rfl,b3 _ _ e4,e6,by omega,λp7 d3=>?_⟩;have s7:=(Same.refl H6).upd (o:=.lst (M++O)) d3;have e7:upd H6 p7 (.lst (M++O)) p7=some (.lst (M++O)):=A0;have b5:=((a4.same b3).app a5).same s7;generalize upd H6 p7 (.lst (M++O))=H7 at s7 e7 b5;have e0:=d9.trans s7;have f8:M.length=ts.length:=by rw[c2,a6.1]
  have f9:O.length=ys.length:=by rw[c3,a8.1]
  have nB:((t.map λv=>v++[1])++C.map (λv=>v++[0])).Nodup:=by
   refine dO.mpr ⟨bL.mpr (d1.imp λ{a b} h e=>h (dZ e)),bL.mpr (d0.imp λ{a b} h e=>h (dZ e)),λx hx y hy e=>?_⟩;obtain⟨u,_,rfl⟩:=aN.mp hx;obtain⟨u2,_,rfl⟩:=aN.mp hy;have e2:=List.append_inj_right' e rfl;injection e2 with e2
   cases e2
  have a3:∀v∈(t.map λv=>v++[1])++C.map (λv=>v++[0]),v.length=n+1/\Sm v:=λv hv=>by
   rcases ao.mp hv with g|g
   .obtain⟨u,hu',rfl⟩:=aN.mp g;refine⟨by rw[ag,(a7 u hu').1];rfl,λz Z=>?_⟩;rcases ao.mp Z with g2|g2
    .have:=(a7 u hu').2 z g2;omega
    .rw[au.mp g2];decide
   .obtain⟨u,hu',rfl⟩:=aN.mp g;refine⟨by rw[ag,(a9 u hu').1];rfl,λz Z=>?_⟩;rcases ao.mp Z with g2|g2
    .have:=(a9 u hu').2 z g2;omega
    .rw[au.mp g2];decide
  refine⟨p7,_,_,rfl,.inl (SqL.of e7),b5,λr k=>by rw[(a3 r k).1];omega,λl8 R W c6 l m Y _=>?_⟩;have s8:=(Same.refl H7).upd (o:=.lst R) c6;have e8:upd H7 l8 (.lst R) l8=some (.lst R):=A0;have l:=l.same s8;generalize upd H7 l8 (.lst R)=H8 at s8 e8 l;have U:=e0.trans s8;dsimp only[B0];refine⟨_,rfl,_,rfl,ra,sa,us,rss,ss,rfl,U _ _ hR.e,hR.I.same U,by have:=hR.l;omega,λr k=>by rw[(hR.R r k).1];omega,hsl,U _ _ hsa,λq9 z9 H9 s9 d6 b6=>?_⟩;refine⟨_,rfl,n,_,rfl,rfl,n1,by omega,λb4 a0 V X=>?_⟩;refine⟨_,rfl,l8,R,rfl,.inl ⟨SqL.of ((s9.trans V) _ _ e8),λI b9=>?_⟩⟩;have p:=(Same.refl a0).upd (o:=.tup R) b9;have a2:upd a0 I (.tup R) I=some (.tup R):=A0;generalize upd a0 I (.tup R)=f3 at p a2;have L:=(s9.trans V).trans p;have j:=U.trans L;have g1:=l.1;have e9:=b6.1;rw[a9h hsl,<-hR.I.1]at e9;have f5:=hR.l;have f0:W.length=t.length+C.length:=by rw[m.length_eq,ag,ai,ai]
  refine⟨_,rfl,?_⟩;cases oz with
  |none =>
   refine .inr ⟨q9,b4,.ref I,z,sdC n,rfl,p _ _ X,Dp3.its a2 (l.same L) (by omega) (λr k=>by rw[(a3 r (m.mem_iff.mp k)).1];omega),hZ.1.keep (.same j),.inr ?_,λa1 b0=>kk false a1 (j.trans b0) ⟨(λz=>nomatch z),λ⟨_,_,_,_,_,_,z,_⟩=>nomatch z⟩⟩;rw[E2,a2V hZ.1 (.same j)];exact hZ.2
  |some pss =>
   obtain⟨pp,ws,rfl,d4,d7,f6,d5⟩:=hZ;refine .inl ⟨q9,b4,I,pp,z9,R,ws,sdS rss ss,W,pss,sdC n,rfl,(V.trans p) _ _ d6,b6.same (V.trans p),by omega,p _ _ X,by rw[E2];omega,by rw[E2];omega,(λr k=>?_),a2,l.same L,by omega,j _ _ d4,d7.same j,by omega,(λv hv=>?_),λbb a1 b0 hb=>kk bb a1 (j.trans b0) (hb.trans ⟨λhS=>⟨t,C,pss,W,rfl,rfl,rfl,r1,d1,r0,d0,m,Y,hS⟩,?_⟩)⟩
   .obtain⟨x,sz,hx,hsz,rfl⟩:=a5u k;refine⟨by rw[ag,(hR.R x hx).1,E2];rfl,λz Z=>?_⟩;rcases ao.mp Z with g|g
    .have:=(hR.R x hx).2 z g;omega
    .rw[au.mp g];have:=hsb sz hsz;omega
   .rcases ao.mp hv with g|g
    .have:=a3 v (m.mem_iff.mp g);exact⟨by omega,this.2⟩
    .have:=d5 v g;exact⟨by omega,λz Z=>by have:=this.2 z Z;omega⟩
   .rintro⟨_,_,_,srt',e1,e2,e3,_,_,_,_,hpm',hri',hS⟩;cases e1;cases e2;cases e3;have:srt'=W:=Q0 hri' Y (hpm'.symm.nodup nB) (m.symm.nodup nB) λv=>hpm'.mem_iff.trans m.mem_iff.symm;rw[this]at hS;exact hS
end
end K30
namespace K30
open PySem PySem.Spec PyProof.Rows L2
variable {B:Hp->Prop}{H:Hp}{Q:VK}{R:Hp->V->Prop}{a p t:qE}{i k n:Nat}{te:TE}{tss:LLI}{x:V}{xs zs:qA V}{σ:L2.St}
section
variable {P:qG}{w:World}{K:qF}{mg:Str->qD qB}{base:Heap}
def b5L(a:k<=xs.length):M0 xs none (some (k:Int))=xs.take k:=by
 unfold M0;rw[HT.sIx_none,HT.sIx_nat,dh a,cU,Nat.sub_zero]
def a5Y(a:k<=xs.length):M0 xs (some (k:Int)) none=xs.drop k:=by
 unfold M0;rw[HT.sIx_none,HT.sIx_nat,dh a,cj (by simp)]
def b1X(a:H t=some (.tup zs))(b:k<=zs.length)(q:∀p H',Same H H'->H' p=some (.tup (zs.drop k))->Q (.ref p) H'):b4D K (.ref t) (some (k:Int)) none H Q:=by
 refine⟨t,zs,rfl,SqT.of a,λh=>?_,λ_ p c=>?_⟩
 .have h1:=h.1;rw[HT.sIx_nat]at h1;have:zs.drop k=zs:=by
   by_cases e:k=0
   .rw[e];rfl
   .have:zs.length=0:=by omega
    rw[fu.mp this];simp
  exact q t H (Same.refl _) (by rw[this];exact a)
 .refine q p _ ((Same.refl H).upd c) ?_;rw[A0,a5Y b]
def Mk(B:Hp->Prop)(R:Hp->V->Prop)(σ:L2.St)(te:TE):Prop:=∀(H:Hp) (Q:VK),B H->(∀v H',Same H H'->R H' v->Q v H')->te σ H Q
def MkA(B:Hp->Prop)(R:Hp->V->Prop)(σ:L2.St)(n:Nat)(ta:TA):Prop:=∀(H:Hp) (Q:qA V->Hp->Prop),B H->(∀vs H',Same H H'->vs.length=n->(∀v∈vs,R H' v)->Q vs H')->ta σ H Q
def X0:MkA B R σ 0 R5:=λH Q _ q=>q [] H (Same.refl _) rfl λ_ z=>nomatch z
def a3u{ta:TA}(c:∀{H H'},B H->Same H H'->B H')(hR:∀{H H' v},R H v->Same H H'->R H' v)(h:Mk B R σ te)(g:MkA B R σ n ta):MkA B R σ (n+1) (K8 te ta):=λH Q b q =>
 h H _ b λv H' s r=>g H' _ (c b s) λi a s' e f=>q (v::i) a (s.trans s') (by simp[e]) λu d=>by
  rcases aF.mp d with z|z
  .rw[z];exact hR r s'
  .exact f u z
def X1{ta:TA}(h:MkA B R σ n ta)(c:n<=100)(b:B H)(q:∀vs H' p,Same H H'->vs.length=n->(∀v∈vs,R H' v)->H' p=none->Q (.ref p) (upd H' p (.lst vs))):b1J ta σ H Q :=
 h H _ b λvs H' s e r=>⟨by rw[e,aT];omega,λp a=>q vs H' p s e r a⟩
def S0{g:TG}{u:TS}{D:Ends}(h:te σ H λx H1=>g x σ H1 (u D)):b4g (a7N te g) u D σ H:=h
def b3y(x:V):∀n:Nat,(List.replicate n [x]).flatten=List.replicate n x
 |0=>rfl
 |n+1=>by rw[cy,cW,b3y x n,cy];rfl
def a9u(q:∀p H',Same H H'->H' p=some (.tup [x])->Q (.ref p) H'):a5j (K8 (tC x) R5) σ H Q :=
 ⟨by show 1<=sizeLine;rw[aT];decide,λp a=>q p _ ((Same.refl H).upd a) A0⟩
def b7K(h:∀H' (a:VK),a (.int k) H'->te σ H' a)(k1:1<=k)(f:k<=9)(q:∀p H',Same H H'->H' p=some (.tup (List.replicate k x))->Q (.ref p) H'):tOp a9l (a5j (K8 (tC x) R5)) te σ H Q:=by
 have e:(3000:Nat)<=sizeLine:=by rw[aT];decide
 refine a9u λp H1 s1 c=>h H1 _ ⟨p,[x],k,rfl,rfl,c,by simp,by omega,?_,λd H2 s2 b=>?_⟩
 .show(1:Int)*k<=_;omega
 rw[b3y,bE]at b;exact q d H2 (s1.trans s2) b
def Ki.flat{v:V}(h:Ki H v)(e:Tup H v=none):Deep H v:=⟨h,λa b z q=>by subst z;rw[I9 q]at e;cases e⟩
def a0o(e:H a=some (.lst xs)):Tup H (.ref a)=none:=V2 (by rintro⟨b,ys,z,q⟩;cases z;rw[e]at q;cases q)
def b1E{xs:qA (qA Key×V)}(e:H a=some (.dT xs)):Tup H (.ref a)=none:=V2 (by rintro⟨b,ys,z,q⟩;cases z;rw[e]at q;cases q)
def a3Z{b:qA V}(e:H p=some (.tup b))(d:b.length<=1000)(c:∀t∈b,Ki H t):Deep H (.ref p):=⟨.tup e,λa f z q=>by cases z;rw[e]at q;cases q;exact⟨d,c⟩⟩
def ET(H0:Hp)(σ:L2.St)(te:TE)(ts:qA V):Prop:=∀(H:Hp) (Q:VK),Same H0 H->(∀p H',Same H0 H'->Same H H'->H' p=some (.tup ts)->Q (.ref p) H')->te σ H Q
def a1Z{a:Hp}(hi:σ[i]?=some (some (.ref t)))(b:a t=some (.tup zs)):ET a σ (L4 i) zs:=λH Q s q=>⟨_,hi,q t H s (Same.refl _) (s _ _ b)⟩
def a3U{a:Hp}{j:Nat}(hi:σ[i]?=some (some (.ref t)))(c:σ[j]?=some (some (.int k)))(d:a t=some (.tup zs))(e:k<zs.length):ET a σ (tSl (a6O K) (L4 i) M1 (a2h (L4 j))) (zs.take k):=λH Q s q=>by
 refine⟨_,hi,_,c,(k:Int),rfl,t,zs,rfl,SqT.of (s _ _ d),?_,λp b=>?_⟩
 .rw[HT.sIx_none,HT.sIx_nat];omega
 .rw[b5L (by omega)];exact q p _ (s.upd b) ((Same.refl H).upd b) A0
def a3V{a:Hp}{j:Nat}(hi:σ[i]?=some (some (.ref t)))(c:σ[j]?=some (some (.int k)))(d:a t=some (.tup zs))(f:k<zs.length):ET a σ (tSl (a6O K) (L4 i) (a2h (tOp (rI0 λi j=>.int (i+j)) (L4 j) (tC (.int 1)))) M1) (zs.drop (k+1)):=λH Q s q=>by
 have e:((k:Int)+1)=((k+1:Nat):Int):=by push_cast;rfl
 refine⟨_,hi,_,c,_,_,rfl,rfl,((k:Int)+1),rfl,t,zs,rfl,SqT.of (s _ _ d),?_,λp b=>?_⟩
 .rw[e,HT.sIx_nat];omega
 .rw[e,a5Y (by omega)];exact q p _ (s.upd b) ((Same.refl H).upd b) A0
def b8h{a:Hp}{j:Nat}(hi:σ[i]?=some (some (.ref t)))(b:σ[j]?=some (some (.int k)))(d:a t=some (.tup zs))(c:k<=zs.length):ET a σ (tSl (b4D K) (L4 i) (a2h (L4 j)) M1) (zs.drop k):=λH Q s q=>by
 refine⟨_,hi,_,b,(k:Int),rfl,?_⟩;dsimp only[M1];exact b1X (s _ _ d) c λp H' s' e=>q p H' (s.trans s') s' e
def L6{b:Hp}(h:∀H (Q:VK),Q x H->te σ H Q):ET b σ (a5j (K8 te R5)) [x]:=λH Q s q=>h H _ ⟨by show 1<=sizeLine;rw[aT];decide,λp a=>q p _ (s.upd a) ((Same.refl H).upd a) A0⟩
def D4{b:Hp}{ta tb:TE}{ys:qA V}(h:ET b σ ta xs)(g:ET b σ tb ys)(l:xs.length+ys.length<=1000):ET b σ (tOp a1I ta tb) (xs++ys):=λH Q s q=>by
 have m:(3000:Nat)<=sizeLine:=by rw[aT];decide
 refine h H _ s λp H1 s1 c f=>g H1 _ s1 λp2 H2 s2 a i=>⟨p,p2,_,_,rfl,rfl,a _ _ f,i,by omega,λk e d j=>q k e (s2.trans d) ((c.trans a).trans d) j⟩
def Wr(n:Nat)(tss:LLI)(H:Hp)(g:V):Prop:=∃o,Fo H n g o/\∀rss,o=some rss->rss≠tss
def Wr.keep{n:Nat}{tss:LLI}{H H':Hp}{g:V}(h:Wr n tss H g)(k:Keep H H'):Wr n tss H' g:=let ⟨o,h1,h2⟩:=h;⟨o,h1.keep k,h2⟩
def a7C{g:V}(h:Dp3 H g)(e:vcs n H g=false):Wr n tss H g:=⟨none,⟨h,e⟩,λ_ z=>nomatch z⟩
def a5f{g:V}(h:Ki H g)(e:Tup H g=none):Wr n tss H g:=a7C ⟨h,λa b z q=>by subst z;rw[I9 q]at e;cases e⟩ (Z2 e)
def b1x{b:qA V}(e:H p=some (.tup b))(c:b.length<=1000)(hd:∀t∈b,Deep H t)(t:V)(d:t∈b)(f:a0F n (Tup H t)=false):Wr n tss H (.ref p) :=
 a7C ⟨.tup e,λa g z q=>by cases z;rw[e]at q;cases q;exact⟨c,hd⟩⟩ (by rw[N3 (I9 e)];exact eN.mpr ⟨t,d,by rw[f];decide⟩)
def a1C{rss:LLI}{a:qA V}(e:H p=some (.tup a))(c:Its H a rss)(d:a.length<=400)(f:∀r∈rss,r.length=n/\∀x∈r,0<=x/\x<=10000000000000)(b:rss≠tss):Wr n tss H (.ref p):=⟨some rss,⟨p,a,rfl,e,c,d,f⟩,λ_ z=>by cases z;exact b⟩
def OdI(n:Nat)(H:Hp)(v:V):Prop:=Deep H v/\a0F n (Tup H v)=false
def OdI.keep{n:Nat}{H H':Hp}{v:V}(h:OdI n H v)(k:Keep H H'):OdI n H' v:=⟨h.1.keep k,by rw[a1z h.1.1 k];exact h.2⟩
def W9{v:V}(h:Ki H v)(e:Tup H v=none):OdI n H v:=⟨h.flat e,by rw[e];rfl⟩
def a0b{a:qA V}(e:H p=some (.tup a))(d:a.length<=1000)(c:∀t∈a,Ki H t)(b:a.length≠n∨∃t∈a,a0P t=false):OdI n H (.ref p):=by
 refine⟨a3Z e d c,?_⟩;rw[I9 e,P8];rcases b with h|⟨t,f,h⟩
 .rw[bG h,eO]
 .rw[eN.mpr ⟨t,f,by rw[h];decide⟩,df]
def b1F{a b:LLI}(h:a.Perm b):(a.map List.sum).sum=(b.map List.sum).sum:=by
 induction h with
 |nil=>rfl
 |cons x _ c=>rw[aV,aV,bo,bo,c]
 |swap x y l=>rw[aV,aV,aV,aV,bo,bo,bo,bo];omega
 |trans _ _ h1 h2=>exact h1.trans h2
structure Spl(H:Hp)(a b:qE)(m n:Nat)(tss:LLI)(H':Hp)(pf:qE)(gs:qA V)(k:Nat):Prop where
 P:PotAt H' a b m
 off:Off [a,b] H H'
 e:H' pf=some (.lst gs)
 ne:pf∉[a,b]
 fr:H pf=none
 w:∀g∈gs,Wr n tss H' g
 l:gs.length<=k
def Spl.same{H:Hp}{a b:qE}{m n:Nat}{tss:LLI}{H' H2:Hp}{d:qE}{c:qA V}{k:Nat}(h:Spl H a b m n tss H' d c k)(s:Same H' H2):Spl H a b m n tss H2 d c k:=⟨h.P.same s,h.off.trans s.off,s _ _ h.e,h.ne,h.fr,λg e=>(h.w g e).keep (.same s),h.l⟩
def Spl.pot{H:Hp}{a b:qE}{m n:Nat}{tss:LLI}{H' H2:Hp}{e:qE}{c:qA V}{k:Nat}(h:Spl H a b m n tss H' e c k)(d:PotAt H2 a b (m+1))(o:Off [a,b] H' H2):Spl H a b (m+1) n tss H2 e c k:=⟨d,h.off.trans o,o _ _ h.ne h.e,h.ne,h.fr,λg f=>(h.w g f).keep (Keep.pot h.P d o),h.l⟩
def Spl.app{b:qE}{m:Nat}{H':Hp}{d:qE}{c:qA V}(h:Spl H a b m n tss H' d c k)(i:Wr n tss H' x):Spl H a b m n tss (upd H' d (.lst (c++[x]))) d (c++[x]) (k+1):=by
 have e:Keep H' (upd H' d (.lst (c++[x]))):=.put h.e;refine⟨W8 h.P h.ne,a0a h.off h.fr,A0,h.ne,h.fr,λg f=>?_,by rw[ag];exact fH h.l⟩;rcases ao.mp f with q|q
 .exact(h.w g q).keep e
 .rw[au.mp q];exact i.keep e
def Spl.cat{b:qE}{m:Nat}{H':Hp}{f:qE}{c bs:qA V}{j:Nat}(h:Spl H a b m n tss H' f c k)(d:∀g∈bs,Wr n tss H' g)(i:bs.length<=j)(hp:H' p=none):Spl H a b m n tss (upd H' p (.lst (c++bs))) p (c++bs) (k+j):=by
 have s:=(Same.refl H').upd (o:=.lst (c++bs)) hp;refine⟨h.P.same s,h.off.trans s.off,A0,O9 h.P hp,Q6 h.off h.P hp,λg e=>?_,by rw[ag];have:=h.l;omega⟩;exact((ao.mp e).elim (h.w g) (d g)).keep (.same s)
def Spl.mono{H:Hp}{a b:qE}{m n m':Nat}{tss:LLI}{H':Hp}{d:qE}{c:qA V}{k j:Nat}(h:Spl H a b m n tss H' d c k)(f:m<=m')(e:k<=j):Spl H a b m' n tss H' d c j:=⟨h.P.mono f,h.off,h.e,h.ne,h.fr,h.w,a_ h.l e⟩
inductive IspSpoilt(vs:qA V)(H:Hp)(Q:VK)(E:XK):Prop
 |mk (a b t:qE) (m n:Nat) (zs:qA V) (tss:LLI) (_:vs=[.ref a,.ref t]) (_:PotAt H a b m) (_:m+100<2 ^ 60) (_:H t=some (.tup zs)) (_:Its H zs tss) (_:zs.length<=100) (_:1<=n) (_:n<=8) (_:(∀r∈tss,r.length=n/\∀x∈r,0<=x/\x<=1000)) (_:tss.Nodup) (_:∀q gs H',H' q=some (.lst gs)->gs.length<=40->(∀g∈gs,Wr n tss H' g)->PotAt H' a b (m+2)->Off [a,b] H H'->Q (.ref q) H'):IspSpoilt  vs H Q E
def a6u:Sp:=λvs H Q E=>IspSpoilt  vs H Q E
def sc__law_spoilt:FnScope ["_law_pot_here","_law_some","_law_found","_law_at","_law_one","_law_j","_law_more","_law_odds","_law_odd"] ["_law_pot_here","_law_some"] (A2 M5):={}
def b0w(F:FunAt K mg "_law_spoilt" M5 ["_law_pot_here","_law_some"])(T:Tx mg)(D:Ok P w K mg base "_law_take" 1 ["_law_pot_here","_law_many"] a0T):Ok P w K mg base "_law_spoilt" 2 ["_law_pot_here","_law_some"] a6u:=by
 refine F.okJ sc__law_spoilt (λvs H Q E h=>?_) (λt4 f A s0 s H vs Q E hr h=>?_)
 .obtain⟨a,b,t,m,n,zs,tss,rfl,_⟩:=h;rfl
 .obtain⟨a,b,t,m,n,zs,tss,rfl,hP,hm,ht,hI,hzl,n1,n8,hV,hnd,kk⟩:=h;have y:=hr.u60;have hz:(3000:Nat)<=sizeLine:=by rw[aT];decide
  refine⟨_,(A1 (B2 (i:=2) sc__law_spoilt.nd rfl (Or.inl rfl) (L0 (jaC (a0y K rfl T.b_list (jaC (jv 1) jaN)) (jaC W1 (jaC A4 (jaC a9D (jaC a5S (jaC (B3 (jaC (jv 1) jaN)) (jaC (B1 (jv 1) (B3 (jaC W1 jaN))) (jaC (B1 (jv 1) (B3 (jaC (B3 jaN) jaN))) (jaC (B1 (jv 1) (B3 (jaC A4 jaN))) (jaC (B1 (jv 1) (B3 (jaC (L0 jaN) jaN))) jaN))))))))))))
 (A1 (C9 (a1S K y (jv 1) (B3 jaN))
 (A1 (B2 (i:=3) sc__law_spoilt.nd rfl (Or.inl rfl) (A6 D (hr.mono (by omega)) rfl (jaC (jv 0) (jaC (G6 K rfl T.b_len (jaC (jv 1) jaN)) jaN))))
 (A1 (B2 (i:=4) sc__law_spoilt.nd rfl (Or.inr rfl) (D5 K (jv 1) (jv 3)))
 (A1 (B2 (i:=5) sc__law_spoilt.nd rfl (Or.inr rfl) (A6 D (hr.mono (by omega)) rfl (jaC (jv 0) (jaC (G6 K rfl T.b_len (jaC (jv 4) jaN)) jaN))))
 (A1 (B2 (i:=6) sc__law_spoilt.nd rfl (Or.inl rfl) (B1 (B1 (K9 K (jv 4) C6 (C5 (jv 5))) (B3 (jaC (G7 (D5 K (jv 4) (jv 5)) A4) jaN))) (K9 K (jv 4) (C5 (G7 (jv 5) A4)) C6)))
 (A1 (B2 (i:=2) sc__law_spoilt.nd rfl (Or.inl rfl) (a1o (jv 2) (L0 (jaC (B1 (K9 K (jv 1) C6 (C5 (jv 3))) (K9 K (jv 1) (C5 (G7 (jv 3) A4)) C6)) (jaC (B1 (B1 (K9 K (jv 1) C6 (C5 (jv 3))) (B3 (jaC (jv 4) jaN))) (b6A K (jv 1) (C5 (jv 3)) C6)) jaN)))))
 (A1 (G4 (E6 K (jv 2) (jaC (B1 (B1 (K9 K (jv 1) C6 (C5 (jv 3))) (K9 K (jv 1) (C5 (G7 (jv 3) A4)) C6)) (B3 (jaC (jv 4) (jaC (jv 4) jaN)))) jaN)))
 (A1 (B2 (i:=2) sc__law_spoilt.nd rfl (Or.inl rfl) (a1o (jv 2) (L0 (jaC (C1 K rfl T.b_tuple (jaC (Q8 K rfl T.b_sorted (jaC (B1 (B1 (K9 K (jv 1) C6 (C5 (jv 3))) (B3 (jaC (jv 6) jaN))) (K9 K (jv 1) (C5 (G7 (jv 3) A4)) C6)) jaN)) jaN)) (jaC (C1 K rfl T.b_tuple (jaC (Q8 K rfl T.b_sorted (jaC (B1 (jv 1) (B3 (jaC (jv 6) jaN))) jaN)) jaN)) jaN)))))
 (A1 (B2 (i:=7) sc__law_spoilt.nd rfl (Or.inl rfl) (L0 (jaC (a0y K rfl T.b_list (jaC (jv 4) jaN)) (jaC (B1 (jv 4) (B3 (jaC A4 jaN))) (jaC (K9 K (jv 4) (C5 A4) C6) (jaC W1 jaN))))))
 (A1 (B2 (i:=7) sc__law_spoilt.nd rfl (Or.inl rfl) (a1o (jv 7) (B5 (N:=["_law_part","_law_one","_law_j"]) (src:=[none,some 4,some 5]) (E7 K (B3 (jaC K5 (jaC W1 (jaC (a3J A4) (jaC a9D jaN)))))) (by show B6 _ _=true;rfl) (by rfl) (by rfl)
 (λ_ _ _ _ _=>(A7 (i:=0) (L2.nd ["_law_part","_law_one","_law_j"]) rfl (Or.inl rfl))) (λ_ _ _ _ _=>B8) (λ_ _ _ _ _=>(B1 (B1 (K9 K (jv 1) C6 (C5 (jv 2))) (B3 (jaC (jv 0) jaN))) (K9 K (jv 1) (C5 (G7 (jv 2) A4)) C6))))))
 (A5 (N8 (E3 K (jv 7)) (A7 (i:=8) sc__law_spoilt.nd rfl (Or.inl rfl))
 (A5 (G4 (E6 K (jv 2) (jaC (B1 (B1 (K9 K (jv 1) C6 (C5 (jv 3))) (B3 (jaC (jv 8) jaN))) (K9 K (jv 1) (C5 (G7 (jv 3) A4)) C6)) jaN)))))))))))))))
 C2)
 (A1 (C9 (a9z (G6 K rfl T.b_len (jaC (jv 1) jaN)) A4)
 (A5 (G4 (E6 K (jv 2) (jaC (b7X K (jv 1) (a3J A4)) jaN))))
 C2)
 (A5 (A9 (jv 2)))))),?_⟩
  have I:∀r∈tss,r.length=n/\∀x∈r,0<=x/\x<=10000000000000:=λr hr=>⟨(hV r hr).1,λx L=>by have:=(hV r hr).2 x L;omega⟩;have h6:∀{H':Hp},Its H' zs tss->∀u∈zs,Deep H' u:=λd u y=>by
   obtain⟨i,hi⟩:=fZ y;obtain⟨r,h1,h2,h3⟩:=d.mem hi;exact Deep.ints h3 (by rw[(hV r h1).1];omega)
  have RS:∀{H1 H2:Hp}{v:V},Wr n tss H1 v->Same H1 H2->Wr n tss H2 v:=λh s=>h.keep (.same s);have ro:∀{H1 H2:Hp}{v:V},OdI n H1 v->Same H1 H2->OdI n H2 v:=λh s=>h.keep (.same s);have cw:∀{J:Hp}{σ:L2.St}{k:Nat}{te:TE}{ta:TA},Mk (λH'=>Same J H') (Wr n tss) σ te->MkA (λH'=>Same J H') (Wr n tss) σ k ta->MkA (λH'=>Same J H') (Wr n tss) σ (k+1) (K8 te ta):=λh g=>a3u (λh s=>h.trans s) RS h g;have co:∀{J:Hp}{σ:L2.St}{k:Nat}{te:TE}{ta:TA},Mk (λH'=>Same J H') (OdI n) σ te->MkA (λH'=>Same J H') (OdI n) σ k ta->MkA (λH'=>Same J H') (OdI n) σ (k+1) (K8 te ta):=λh g=>a3u (λh s=>h.trans s) ro h g;have at1:∀{J:Hp}{σ:L2.St}(v:V),(∀H',Ki H' v)->(∀H',Tup H' v=none)->Mk (λH'=>Same J H') (Wr n tss) σ (tC v):=λv hk he H' W _ q=>q v H' (Same.refl _) (a5f (hk H') (he H'));have M:∀{J:Hp}{σ:L2.St}{te:TE}{ts:qA V},ET J σ te ts->(∀p H',Same J H'->H' p=some (.tup ts)->Wr n tss H' (.ref p))->Mk (λH'=>Same J H') (Wr n tss) σ te:=λh g H' W s q=>h H' _ s λp o2 s1 s2 e=>q _ _ s2 (g p o2 s1 e);have b8:∀{J:Hp}{p:qE}{x:V},Its J zs tss->J p=some (.tup (zs++[x]))->OdI n J x->Wr n tss J (.ref p):=λ{J p x} q7 e L=>b1x e (by rw[ag];show _+1<=_;omega) (λu y=>(ao.mp y).elim (h6 q7 u) λg=>by rw[au.mp g];exact L.1) x (aH _ (bT _)) L.2;refine S0 ?_;refine X1 (n:=10) (B:=λH'=>Same H H') (R:=Wr n tss) ?ms (by decide) (Same.refl _) λgs H1 p4 s1 t7 m6 c6=>?_
  case ms =>
   refine cw (λH' W s q=>⟨_,rfl,t,zs,rfl,.inr (SqT.of (s _ _ ht)),λp hp=>q _ _ ((Same.refl H').upd hp) (a5f (.lst A0) (a0o A0))⟩)
    (cw (at1 _ (λ_=>.non) λ_=>rfl) (cw (at1 _ (λ_=>.int _) λ_=>rfl) (cw (at1 _ (λ_=>.str _) λ_=>rfl)
    (cw (λH' W _ q p hp=>q _ _ ((Same.refl H').upd hp) (a5f (.dT A0) (b1E A0)))
    (cw (M (L6 (x:=.ref t) λH' W q=>⟨_,rfl,q⟩) λp H' s e=>?tt)
    (cw (M (D4 (a1Z rfl ht) (L6 λH' W q=>q) (by show _+1<=_;omega)) λp H' s e=>b8 (hI.same s) e (W9 .non rfl))
    (cw (λH' W s q=>⟨_,rfl,bu _,λp hp=>⟨by show 1<=sizeLine;omega,λp2 G=>⟨t,p2,zs,[.ref p],rfl,rfl,(((s.upd hp).upd G)) _ _ ht,A0,by show _+1<=_;omega,λp3 H3 s3 e3=>q _ _ ((((Same.refl H').upd hp).upd G).trans s3) ?e1⟩⟩⟩)
    (cw (M (D4 (a1Z rfl ht) (L6 λH' W q=>q) (by show _+1<=_;omega)) λp H' s e=>b8 (hI.same s) e (W9 (.int 0) rfl))
    (cw (λH' W s q=>⟨_,rfl,bu _,λp hp=>⟨by show 1<=sizeLine;omega,λp2 G=>⟨t,p2,zs,[.ref p],rfl,rfl,(((s.upd hp).upd G)) _ _ ht,A0,by show _+1<=_;omega,λp3 H3 s3 e3=>q _ _ ((((Same.refl H').upd hp).upd G).trans s3) ?e2⟩⟩⟩) X0)))))))))
   .have ht':=s _ _ ht;have d:=hI.same s;refine a7C ⟨.tup e,λa' us z q=>?_⟩ ?_
    .cases z;rw[e]at q;cases q;refine⟨by show 1<=1000;decide,λu y=>?_⟩;rw[au.mp y];exact a3Z ht' (by omega) λv hv=>(h6 d v hv).1
    .rw[N3 (I9 e)];show(a0F n (Tup H' (.ref t)) && _)=false;rw[I9 ht',P8];cases zs with
     |nil=>rw[bG (by show ¬0=n;omega)];rfl
     |cons v a9 =>
      obtain⟨r,_,va,rfl,_⟩:=d.2 0 v rfl;rw[cC];show((_ && (false && _)) && _)=false;simp
   .have s3':=((((Same.refl H').upd hp).upd G).trans s3);have ep:H3 p=some (.tup []):=s3 _ _ (E9 A0 G);exact b8 (hI.same (s.trans s3')) e3 (a0b ep (bu _) (λ_ z=>nomatch z) (.inl (by show ¬0=n;omega)))
   .have s3':=((((Same.refl H').upd hp).upd G).trans s3);have ep:H3 p=some (.lst []):=s3 _ _ (E9 A0 G);exact b8 (hI.same (s.trans s3')) e3 (W9 (.lst ep) (a0o ep))
  have S4:Spl H a b m n tss (upd H1 p4 (.lst gs)) p4 gs 10:=⟨(hP.same s1).same ((Same.refl H1).upd c6),(s1.upd c6).off,A0,O9 (hP.same s1) c6,s1.free c6,λg hg=>RS (m6 g hg) ((Same.refl H1).upd c6),by omega⟩;generalize upd H1 p4 (.lst gs)=H4 at S4;clear m6 s1 c6
  try dsimp only[B0,List.set]
  have i5:∀{H':Hp}{m':Nat}{pf:qE}{gs:qA V}{k:Nat},Spl H a b m' n tss H' pf gs k->Tk H H':=λS=>Tk.pot hP S.off;refine R8 (λσ H'=>Ex8 λ(o3 o4 o5 o6 o7 o8:qD V) (pf:qE) (k8:qA V)=>An2 (σ=[some (.ref a),some (.ref t),some (.ref pf),o3,o4,o5,o6,o7,o8]) (Spl H a b (m+2) n tss H' pf k8 30)) ?fin λfin=>?_
  case fin =>
   rintro σ H5 ⟨o3,o4,o5,o6,o7,o8,pf,l8,rfl,S5⟩;have a8:=i5 S5;have u1:=S5.l;refine⟨_,rfl,t,zs,rfl,.inr (SqT.of (a8 _ _ ht)),_,_,rfl,rfl,_,rfl,Z0 (λe=>?_) (λe=>?_)⟩
   .have e':(1:Int)<zs.length:=bp e;refine⟨_,rfl,.inl ⟨rfl,_,SqL.of S5.e⟩,_,rfl,1,rfl,rfl,t,zs,rfl,SqT.of (a8 _ _ ht),λp6 r5=>?_⟩;have s6:=(Same.refl H5).upd (o:=.tup zs.reverse) r5;have e6:upd H5 p6 (.tup zs.reverse) p6=some (.tup zs.reverse):=A0;generalize upd H5 p6 (.tup zs.reverse)=H6 at s6 e6;have S6:=S5.same s6;refine⟨pf,l8,_,rfl,rfl,S6.e,by omega,?_⟩;have q8:=(a8.its hI).same s6;have S7:=S6.app (x:=.ref p6) (a1C e6 (a9F q8) (by rw[List.length_reverse];omega) (λr hr=>I r (List.mem_reverse.mp hr)) λer=>?_)
    .exact⟨_,rfl,kk pf _ _ S7.e (by have:=S7.l;omega) S7.w S7.P S7.off⟩
    .have r0:1<tss.length:=by rw[<-hI.1];omega
     have h1:=dP.mp hnd 0 (tss.length-1) (by omega) (by omega) (by omega);apply h1;have h2:tss.reverse[0]?=tss[0]?:=by rw[er]
     rw[List.getElem?_reverse (by omega),ak (by omega),ak (by omega)]at h2;have h2:=bH h2;rw[<-h2];congr 1
   .exact⟨_,rfl,kk pf l8 _ S5.e (by omega) S5.w S5.P S5.off⟩
  refine⟨_,rfl,bu _,λp5 r4=>?_⟩;have s5:=(Same.refl H4).upd (o:=.tup []) r4;have e5:upd H4 p5 (.tup []) p5=some (.tup []):=A0;generalize upd H4 p5 (.tup [])=H5 at s5 e5;have S5:=S4.same s5;have a8:=i5 S5;refine⟨2,_,by decide,EqV.its (k:=true) (SqT.of (a8 _ _ ht)) (SqT.of e5) (a8.its hI) Its.nil,⟨_,_,rfl,rfl⟩,_,rfl,Z0 (λew=>?_) (λew=>?_)⟩
  .have hne:tss≠[]:=by simpa using ew
   have u7:0<zs.length:=by rw[hI.1];exact dt.mpr hne
   clear S4 s5 e5;refine⟨_,rfl,_,rfl,t,zs,rfl,.inr (SqT.of (a8 _ _ ht)),a,b,_,_,rfl,S5.P,by omega,by omega,by omega,λr6 H6 q4 q5 m4 k0=>?_⟩;obtain⟨k,rfl⟩:∃k:Nat,r6=k:=⟨r6.toNat,by omega⟩;have hk:k<zs.length:=by omega
   have S6:=S5.pot m4 k0;have l4:=i5 S6
   try dsimp only[B0,List.set]
   obtain⟨x,L⟩:∃x,zs[k]?=some x:=⟨_,ak hk⟩;obtain⟨r,c7,r8,va,rfl,n5⟩:=hI.mem L;have n2:=(hV r c7).1;refine⟨_,rfl,_,rfl,t,zs,_,.ref va,rfl,rfl,SqT.of (l4 _ _ ht),P7 L,?_⟩
   try dsimp only[B0,List.set]
   refine⟨_,rfl,_,rfl,va,_,rfl,.inr (SqT.of (l4 _ _ n5)),a,b,_,_,rfl,S6.P,by omega,by rw[ai];omega,by rw[ai];omega,λr7 H7 q6 l9 m5 k1=>?_⟩;obtain⟨j,rfl⟩:∃j:Nat,r7=j:=⟨r7.toNat,by omega⟩;have hj:j<r.length:=by rw[ai]at l9;omega
   have S7:=S6.pot m5 k1;have i4:=i5 S7;have n4:=i4 _ _ ht;have m3:=i4.its hI;have c4:=i4 _ _ n5;clear S5 a8 S6 l4 m4 k0 m5 k1 q4 q5 q6 l9
   try dsimp only[B0,List.set]
   refine S0 ?_;refine b2r (K:=K) (i:=4) (j:=5) (a:=va) (xs:=r) (k:=j) (z:=r.getD j 0+1) rfl rfl c4 hj (by omega) (λH' N s' q=>⟨_,rfl,_,rfl,va,_,_,_,rfl,rfl,SqT.of (s' _ _ c4),R1 hj,_,_,rfl,rfl,q⟩) λmv H8 s8 r3=>?_;obtain⟨ma,rfl,n0⟩:=r3;have S8:=S7.same s8;have c8:=s8 _ _ n4;have h7:=m3.same s8;have f1:=s8 _ _ c4;clear S7 s8 n4 m3 c4 i4
   try dsimp only[B0,List.set]
   have m9:(r.set j (r.getD j 0+1)).length=n/\∀x∈r.set j (r.getD j 0+1),0<=x/\x<=10000000000000:=by
    refine⟨by rw[ez];exact n2,λx L=>?_⟩;have hb:=(I r c7).2 (r.getD j 0) (by rw[av,ak hj];exact cc _);have t5:=(hV r c7).2 (r.getD j 0) (by rw[av,ak hj];exact cc _);rcases dR L with h|h
    .exact(I r c7).2 x h
    .rw[h];omega
   have r2:(r.set j (r.getD j 0+1)).sum=r.sum+1:=by rw[a5k r j _ hj];omega
   have u6:tss.length=zs.length:=hI.1.symm;have t9:(zs.take k).length=k:=by rw[aS];omega
   have r0:(zs.drop (k+1)).length=zs.length-(k+1):=bx;have u0:(zs.drop k).length=zs.length-k:=bx;have u2:(tss.take k).length=k:=by rw[aS];omega
   have u3:(tss.drop (k+1)).length=tss.length-(k+1):=bx;have u4:(tss.drop k).length=tss.length-k:=bx;have j6:∀u∈tss.take k++tss.drop (k+1),u∈tss:=λu y=>(ao.mp y).elim bJ bR;refine S0 ?_;refine⟨_,rfl,?_⟩;refine X1 (n:=2) (B:=λH'=>Same H8 H') (R:=Wr n tss) ?ms2 (by decide) (Same.refl _) λb9 H9 p9 s9 t6 m0 l2=>?_
   case ms2 =>
    refine cw (M (D4 (a3U rfl rfl c8 hk) (a3V rfl rfl c8 hk) (by omega)) λp H' s e=>?a1) (cw (M (D4 (D4 (a3U rfl rfl c8 hk) (L6 (x:=.ref va) λH' W q=>⟨_,rfl,q⟩) (by show _+1<=_;omega)) (b8h rfl rfl c8 (by omega)) (by rw[ag];show _+1+_<=_;omega)) λp H' s e=>?a2) X0)
    .have d:=h7.same s;exact a1C e ((d.take k).app (d.drop (k+1))) (by rw[ag];omega) (λu y=>I u (j6 u y)) λer=>by
      have:=aU List.length er;rw[ag]at this;omega
    .have d:=h7.same s;refine a1C e (((d.take k).app (Its.one ⟨va,rfl,s _ _ f1⟩)).app (d.drop k)) (by rw[ag,ag];show _+1+_<=_;omega) (λu y=>?_) λer=>?_
     .rcases ao.mp y with g|g
      .rcases ao.mp g with g|g
       .exact I u (bJ g)
       .rw[au.mp g];exact I r c7
      .exact I u (bR g)
     .have:=aU List.length er;simp only[ag,aX,eC]at this;omega
   have e9:upd H9 p9 (.lst b9) p9=some (.lst b9):=A0;have i3:=s9.upd (o:=.lst b9) l2;have d6:∀g∈b9,Wr n tss (upd H9 p9 (.lst b9)) g:=λg hg=>RS (m0 g hg) ((Same.refl H9).upd l2);generalize upd H9 p9 (.lst b9)=q0 at e9 i3 d6;have S9:=S8.same i3;have r1:=S9.l;refine⟨p4,p9,_,b9,rfl,rfl,S9.e,e9,by omega,λf3 d8=>?_⟩;have d3:=S9.cat (j:=2) d6 (by omega) d8;have d0:=i3.upd (o:=.lst (gs++b9)) d8;generalize upd q0 f3 (.lst (gs++b9))=o9 at d3 d0;generalize gs++b9=c0 at d3;have c3:=d0 _ _ c8;have i8:=h7.same d0;have a3:=d0 _ _ f1;have d7:=d0 _ _ n0;clear S8 S9 s9 i3 d0 m0 d6 e9 l2 d8 c8 h7 f1 n0 r1
   try dsimp only[B0,List.set]
   refine⟨_,rfl,.inl ⟨rfl,_,SqL.of d3.e⟩,?_⟩;refine D4 (D4 (a3U rfl rfl c3 hk) (a3V rfl rfl c3 hk) (by omega)) (ys:=[.ref va,.ref va]) (λH' W s q=>⟨_,rfl,_,rfl,by show 2<=sizeLine;omega,λp hp=>q p _ (s.upd hp) ((Same.refl H').upd hp) A0⟩) (by rw[ag];show _+2<=_;omega) o9 _ (Same.refl _) λi1 k2 a6 _ l6=>?_;have d4:=d3.same a6;have m7:=d4.l;have c1:=i8.same a6;refine⟨f3,c0,_,rfl,rfl,d4.e,by omega,?_⟩;have g7:=d4.app (x:=.ref i1) (a1C l6 (((c1.take k).app (c1.drop (k+1))).app ((Its.one (r:=r) ⟨va,rfl,a6 _ _ a3⟩).app (Its.one (r:=r) ⟨va,rfl,a6 _ _ a3⟩))) (by rw[ag,ag];show _+2<=_;omega) (λu y=>?w1) λer=>?w2)
   case w1 =>
    rcases ao.mp y with g|g
    .exact I u (j6 u g)
    .have:u=r:=by simpa using g
     rw[this];exact I r c7
   case w2 =>
    have:=aU List.length er;simp only[ag,aX,eC]at this;omega
   have a7:Tk k2 (upd k2 f3 (.lst (c0++[.ref i1]))):=Tk.put d4.e;have Y:=a7 _ _ (a6 _ _ c3);have X:=a7.its c1;have b5:=a7 _ _ (a6 _ _ a3);have a0:=a7 _ _ (a6 _ _ d7);generalize upd k2 f3 (.lst (c0++[.ref i1]))=p0 at g7 Y X b5 a0;generalize c0++[.ref i1]=d5 at g7;clear d3 d4 a6 c1 i8 c3 a3 d7 a7 l6 m7;dsimp only;have b0:∀{J:Hp}{σ:L2.St}{te:TE}{ts:qA V}{rs:LLI},ET J σ te ts->(∀H',Same J H'->Its H' ts rs)->(∀r∈rs,r.length=n)->(∀p H' a9 d2,Same J H'->H' p=some (.tup a9)->Its H' a9 d2->d2.Perm rs->Wr n tss H' (.ref p))->Mk (λH'=>Same J H') (Wr n tss) σ (tCB (a5F K) (K8 (tCB (a5G K) (K8 te R5)) R5)):=λh q9 hn g H' W s q=>h H' _ s λp H1 s1 s2 e=>⟨p,_,_,rfl,.inr (SqT.of e),q9 H1 s1,(λr hr=>by rw[hn r hr];exact n1),λl a9 d2 hl d a5 u5 _=>⟨l,a9,rfl,.inl ⟨SqL.of A0,λp2 G=>q _ _ ((s2.upd hl).upd G) (g p2 _ a9 d2 ((s1.upd hl).upd G) A0 (d.same (((Same.refl H1).upd hl).upd G)) a5)⟩⟩⟩;refine S0 ?_;refine⟨_,rfl,?_⟩;refine X1 (n:=2) (B:=λH'=>Same p0 H') (R:=Wr n tss) ?ms3 (by decide) (Same.refl _) λU g3 f4 n9 t0 i6 d9=>?_
   case ms3 =>
    have j5:∀u∈tss.take k++[r.set j (r.getD j 0+1)]++tss.drop (k+1),u.length=n/\∀x∈u,0<=x/\x<=10000000000000:=λu y=>by
     rcases ao.mp y with g|g
     .rcases ao.mp g with g|g
      .exact I u (bJ g)
      .rw[au.mp g];exact m9
     .exact I u (bR g)
    have e8:∀u∈tss++[r.set j (r.getD j 0+1)],u.length=n/\∀x∈u,0<=x/\x<=10000000000000:=λu y=>by
     rcases ao.mp y with g|g
     .exact I u g
     .rw[au.mp g];exact m9
    refine cw (b0 (rs:=tss.take k++[r.set j (r.getD j 0+1)]++tss.drop (k+1)) (D4 (D4 (a3U rfl rfl Y hk) (L6 (x:=.ref ma) λH' W q=>⟨_,rfl,q⟩) (by show _+1<=_;omega)) (a3V rfl rfl Y hk) (by rw[ag];show _+1+_<=_;omega)) (λH' s=>(((X.same s).take k).app (Its.one ⟨ma,rfl,s _ _ a0⟩)).app ((X.same s).drop (k+1))) (λu y=>(j5 u y).1) λp H' a9 d2 s e d a5=>?b1)
     (cw (b0 (rs:=tss++[r.set j (r.getD j 0+1)]) (D4 (a1Z rfl Y) (L6 (x:=.ref ma) λH' W q=>⟨_,rfl,q⟩) (by show _+1<=_;omega)) (λH' s=>(X.same s).app (Its.one ⟨ma,rfl,s _ _ a0⟩)) (λu y=>(e8 u y).1) λp H' a9 d2 s e d a5=>?b2) X0)
    .have hlen:=a5.length_eq;simp only[ag,aX,eC]at hlen;refine a1C e d (by rw[d.1];omega) (λu y=>j5 u (a5.mem_iff.mp y)) λer=>?_;have h1:=b1F a5;rw[er]at h1;have h2:tss=tss.take k++r::tss.drop (k+1):=by
      obtain⟨g1,g2⟩:=aL.mp r8;rw[<-g2,<-cG g1,bt]
     have h3:(tss.map List.sum).sum=((tss.take k).map List.sum).sum+(r.sum+((tss.drop (k+1)).map List.sum).sum):=by
      have:=aU (λl:LLI=>(l.map List.sum).sum) h2;rw[bC,aV,fS,bo]at this;exact this
     rw[bC,bC,aV,List.map_nil,fS,fS,bo,List.sum_nil,r2]at h1;omega
    .have hlen:=a5.length_eq;simp only[ag,aX,eC]at hlen;refine a1C e d (by rw[d.1];omega) (λu y=>e8 u (a5.mem_iff.mp y)) λer=>?_;rw[er]at hlen;omega
   have k5:upd g3 f4 (.lst U) f4=some (.lst U):=A0;have c5:=n9.upd (o:=.lst U) d9;have b3:∀g∈U,Wr n tss (upd g3 f4 (.lst U)) g:=λg hg=>RS (i6 g hg) ((Same.refl g3).upd d9);generalize upd g3 f4 (.lst U)=l5 at k5 c5 b3;have g8:=g7.same c5;have m8:=g8.l;refine⟨f3,f4,_,U,rfl,rfl,g8.e,k5,by omega,λc9 e0=>?_⟩;have g9:=g8.cat (j:=2) b3 (by omega) e0;have f8:=c5.upd (o:=.lst (d5++U)) e0;generalize upd l5 c9 (.lst (d5++U))=p1 at g9 f8;generalize d5++U=l7 at g9;have j7:=f8 _ _ Y;have i9:=X.same f8;have O:=f8 _ _ b5;clear g7 g8 n9 c5 f8 i6 b3 k5 d9 e0 Y X b5 a0 m8 b0
   try dsimp only[B0,List.set]
   have l3:(r.map V.int).length=n:=by rw[ai];exact n2
   have i0:∀{H':Hp},∀u∈r.map V.int,Ki H' u:=λu y=>by obtain⟨z,_,rfl⟩:=aN.mp y;exact .int z
   refine S0 ?_;refine X1 (n:=4) (B:=λH'=>Same p1 H') (R:=OdI n) ?ms4 (by decide) (Same.refl _) λC g4 f5 o0 t1 i7 e4=>?_
   case ms4 =>
    refine co (λH' W s q=>⟨_,rfl,va,_,rfl,.inr (SqT.of (s _ _ O)),λp hp=>q _ _ ((Same.refl H').upd hp) (W9 (.lst A0) (a0o A0))⟩)
     (co (λH' W s q=>D4 (a1Z rfl O) (L6 (x:=.int 0) λH' W q=>q) (by rw[l3];show _+1<=_;omega) H' _ s λp H1 s1 s2 e=>q _ _ s2 (a0b e (by rw[ag,l3];show _+1<=_;omega) (λu y=>(ao.mp y).elim (i0 u) λg=>by rw[au.mp g];exact .int 0) (.inl (by rw[ag,l3];show ¬n+1=n;omega))))
     (co (λH' W s q=>?sl) (co (λH' W _ q=>q _ H' (Same.refl _) (W9 .non rfl)) X0)))
    refine⟨_,rfl,((1:Nat):Int),rfl,va,_,rfl,SqT.of (s _ _ O),?_,λp hp=>?_⟩
    .rw[HT.sIx_nat];omega
    .rw[a5Y (by omega)];exact q _ _ ((Same.refl H').upd hp) (a0b A0 (by rw[bx];omega) (λu y=>i0 u (bR y)) (.inl (by rw[bx];omega)))
   have k6:upd g4 f5 (.lst C) f5=some (.lst C):=A0;have Z:=o0.upd (o:=.lst C) e4;have b4:∀g∈C,OdI n (upd g4 f5 (.lst C)) g:=λg hg=>ro (i7 g hg) ((Same.refl g4).upd e4);generalize upd g4 f5 (.lst C)=k3 at k6 Z b4;have k4:=g9.same Z;have j8:=Z _ _ j7;have j0:=i9.same Z;have f0:=Z _ _ O;clear g9 o0 Z i7 e4 j7 i9 O
   try dsimp only[B0,List.set]
   refine S0 ?_;refine⟨_,rfl,?_⟩;refine⟨_,rfl,by show 4<=sizeLine;omega,λf6 j4=>?_⟩;have i2:=(Same.refl k3).upd (o:=.tup [.bl true,.non,.int (-1),.str (Str.ofString "1")]) j4;have h4:upd k3 f6 (.tup [.bl true,.non,.int (-1),.str (Str.ofString "1")]) f6=some (.tup [.bl true,.non,.int (-1),.str (Str.ofString "1")]):=A0;generalize upd k3 f6 (.tup [.bl true,.non,.int (-1),.str (Str.ofString "1")])=p7 at i2 h4;refine⟨f6,rfl,⟨_,SqT.of h4⟩,?_⟩;have b6:=i2 _ _ f0;refine K6 (K:=K) (a:=f6) (xs:=[.bl true,.non,.int (-1),.str (Str.ofString "1")]) (by show 4<=_;omega) (λi ys H'=>Same p7 H'/\ys.length=i/\∀v∈ys,OdI n H' v) ⟨Same.refl _,rfl,λ_ z=>nomatch z⟩ (λi ys H' _ h=>⟨SqT.of (h.1 _ _ h4),by rw[h.2.1];exact aq _⟩) ?_ ?_
   .rintro i x ys H' L ⟨s',h8,h9⟩;have n6:(∀H',Ki H' x)/\a0P x=false:=by
     match i,L with
     |0,L=>cases L;exact⟨λ_=>.bl true,rfl⟩
     |1,L=>cases L;exact⟨λ_=>.non,rfl⟩
     |2,L=>cases L;exact⟨λ_=>.int _,rfl⟩
     |3,L=>cases L;exact⟨λ_=>.str _,rfl⟩
     |i+4,L=>cases L
    refine⟨Sub.one,?_⟩;have k9:((r.map V.int).take j).length=j:=by rw[aS];omega
    have j2:((r.map V.int).drop (j+1)).length=n-(j+1):=by rw[bx];omega
    refine D4 (D4 (a3U (k:=j) rfl rfl b6 (by omega)) (L6 (x:=x) λH' W q=>⟨_,rfl,q⟩) (by rw[k9];show _+1<=_;omega)) (a3V (k:=j) rfl rfl b6 (by omega)) (by rw[ag,k9,j2];show _+1+_<=_;omega) H' _ s' λp H2 s2 s7 e=>⟨s2,by rw[ag,h8];rfl,λv hv=>?_⟩;rcases ao.mp hv with g|g
    .exact ro (h9 v g) s7
    .rw[au.mp g];refine a0b e (by rw[ag,ag,k9,j2];show _+1+_<=_;omega) (λu y=>?_) (.inr ⟨x,aO _ (aH _ (bT _)),n6.2⟩);rcases ao.mp y with g|g
     .rcases ao.mp g with g|g
      .exact i0 u (bJ g)
      .rw[au.mp g];exact n6.1 _
     .exact i0 u (bR g)
   rintro ys g5 ⟨o1,h8,h9⟩ f7 e7;have h8:ys.length=4:=h8;have d1:=(i2.trans o1).upd (o:=.lst ys) e7;have k7:upd g5 f7 (.lst ys) f7=some (.lst ys):=A0;have b7:∀v∈ys,OdI n (upd g5 f7 (.lst ys)) v:=λv hv=>ro (h9 v hv) ((Same.refl g5).upd e7);generalize upd g5 f7 (.lst ys)=g6 at d1 k7 b7;refine⟨f5,f7,C,ys,rfl,rfl,d1 _ _ k6,k7,by omega,λa4 c2=>?_⟩;have l0:c9≠a4:=A8 ((k4.same d1).e) c2;have f9:=d1.upd (o:=.lst (C++ys)) c2;have h5:upd g6 a4 (.lst (C++ys)) a4=some (.lst (C++ys)):=A0;have l1:∀v∈C++ys,OdI n (upd g6 a4 (.lst (C++ys))) v:=λv hv=>ro ((ao.mp hv).elim (λg=>ro (b4 v g) d1) (b7 v)) ((Same.refl g6).upd c2);have j3:(C++ys).length=8:=by rw[ag];omega
   generalize upd g6 a4 (.lst (C++ys))=p8 at f9 h5 l1;generalize C++ys=n7 at h5 l1 j3;have q1:=k4.same f9;have n3:=f9 _ _ j8;have m1:=j0.same f9;clear k4 i2 o1 d1 f9 h4 k7 h9 b7 j4 e7 c2 b4 k6 j8 j0 f0 b6
   try dsimp only[B0,List.set]
   refine⟨_,rfl,a4,rfl,⟨_,SqL.of h5⟩,?_⟩;refine N7 (K:=K) (a:=a4) (xs:=n7) (λi σ H'=>Ex2 λ(o8:qD V) (k8:qA V)=>An4 (σ=[some (.ref a),some (.ref t),some (.ref c9),some (.int k),some (.ref va),some (.int j),some (.ref ma),some (.ref a4),o8]) (Spl H a b (m+1+1) n tss H' c9 k8 (15+i)) (Keep p8 H') (H' a4=some (.lst n7))) ⟨none,l7,rfl,q1.mono (by omega) (by decide),.same (Same.refl _),h5⟩ (λi σ H' _ h=>by obtain⟨_,_,_,_,_,e⟩:=h;exact SqL.of e) ?_ ?_
   .rintro i x σ H21 L ⟨o8,gs21,rfl,S21,kp21,e21⟩;have t8:i<8:=by have:=(aL.mp L).1;omega
    have r9:=(l1 x (aE L)).keep kp21;have j9:=kp21.t _ _ n3;have m2:Its H21 zs tss:=Tk.its (λc xs e=>kp21.t c xs e) m1
    try dsimp only[B0,List.set]
    refine⟨_,rfl,.inl ⟨rfl,_,SqL.of S21.e⟩,?_⟩;refine D4 (D4 (a3U rfl rfl j9 hk) (L6 (x:=x) λH' W q=>⟨_,rfl,q⟩) (by show _+1<=_;omega)) (a3V rfl rfl j9 hk) (by rw[ag];show _+1+_<=_;omega) H21 _ (Same.refl _) λs4 t3 g0 _ q3=>?_;have h0:=S21.same g0;have t2:=h0.l;have j1:=m2.same g0;have f2:=ro r9 g0;refine⟨c9,gs21,_,rfl,rfl,h0.e,by omega,?_⟩;have q2:=h0.app (x:=.ref s4) (b1x q3 (by rw[ag,ag];show _+1+_<=_;omega) (λu y=>?dd) x (aO _ (aH _ (bT _))) f2.2)
    case dd =>
     rcases ao.mp y with g|g
     .rcases ao.mp g with g|g
      .exact h6 j1 u (bJ g)
      .rw[au.mp g];exact f2.1
     .exact h6 j1 u (bR g)
    exact⟨_,_,rfl,q2.mono (aq _) (by omega),(kp21.trans (.same g0)).trans (.put h0.e),by rw[A3 l0.symm];exact g0 _ _ e21⟩
   .rintro σ H21 ⟨o8,gs21,rfl,S21,kp21,e21⟩;rw[j3]at S21;exact fin _ _ ⟨_,_,_,_,_,_,c9,gs21,rfl,S21.mono (by omega) (by decide)⟩
  .exact fin _ _ ⟨_,_,_,_,_,_,p4,gs,rfl,S5.mono (by omega) (by decide)⟩
end
end K30
namespace K30
open PySem PySem.Spec PyProof.Rows L2
variable {H:Hp}{n:Nat}
section
variable {P:qG}{w:World}{K:qF}{mg:Str->qD qB}{base:Heap}
def Wz(n:Nat)(H:Hp)(g:V):Prop:=∃o,Fo H (n+1) g o/\∀pss,o=some pss->pss.all (a1v (sdC n))=false
def Wz.keep{n:Nat}{H H':Hp}{g:V}(h:Wz n H g)(k:Keep H H'):Wz n H' g:=let ⟨o,h1,h2⟩:=h;⟨o,h1.keep k,h2⟩
def a5e{g:V}(h:Ki H g)(e:Tup H g=none):Wz n H g:=⟨none,⟨⟨h,λa b z q=>by subst z;rw[I9 q]at e;cases e⟩,Z2 e⟩,λ_ z=>nomatch z⟩
def a5d{p:qE}{b:qA V}(e:H p=some (.tup b))(c:b.length<=1000)(hd:∀t∈b,Deep H t)(t:V)(d:t∈b)(f:a0F (n+1) (Tup H t)=false):Wz n H (.ref p) :=
 ⟨none,⟨⟨.tup e,λa g z q=>by cases z;rw[e]at q;cases q;exact⟨c,hd⟩⟩,by rw[N3 (I9 e)];exact eN.mpr ⟨t,d,by rw[f];decide⟩⟩,λ_ z=>nomatch z⟩
def b6I{rss:LLI}{p:qE}{a:qA V}(e:H p=some (.tup a))(b:Its H a rss)(d:a.length<=400)(g:∀r∈rss,r.length=n+1/\∀x∈r,0<=x/\x<=10000000000000)(r:qI)(f:r∈rss)(c:a1v (sdC n) r=false):Wz n H (.ref p):=⟨some rss,⟨p,a,rfl,e,b,d,g⟩,λ_ z=>by cases z;exact eN.mpr ⟨r,f,by rw[c];decide⟩⟩
inductive IspOddP(vs:qA V)(H:Hp)(Q:VK)(E:XK):Prop
 |mk (a b t:qE) (m n:Nat) (wi:Int) (zs:qA V) (W:LLI) (_:vs=[.ref a,.ref t,.int wi]) (_:wi=n) (_:PotAt H a b m) (_:m+100<2 ^ 60) (_:H t=some (.tup zs)) (_:Its H zs W) (_:zs.length<=100) (_:1<=zs.length) (_:1<=n) (_:n<=8) (_:(∀r∈W,r.length=n+1/\∀x∈r,0<=x/\x<=1000)) (_:∀q gs H',H' q=some (.lst gs)->gs.length<=20->(∀g∈gs,Wz n H' g)->PotAt H' a b (m+1)->Off [a,b] H H'->Q (.ref q) H'):IspOddP  vs H Q E
def b1Q:Sp:=λvs H Q E=>IspOddP  vs H Q E
def sc__law_odd_papers:FnScope ["_law_pot_here","_law_paper","_law_width","_law_at","_law_found"] ["_law_pot_here","_law_paper","_law_width"] (A2 G2):={}
def b5n(F:FunAt K mg "_law_odd_papers" G2 ["_law_pot_here","_law_paper","_law_width"])(T:Tx mg)(C:Ok P w K mg base "_law_take" 1 ["_law_pot_here","_law_many"] a0T):Ok P w K mg base "_law_odd_papers" 2 ["_law_pot_here","_law_paper","_law_width"] b1Q:=by
 refine F.okJ sc__law_odd_papers (λvs H Q E h=>?_) (λj2 f A i3 s H vs Q E hr h=>?_)
 .obtain⟨a,b,t,m,n,wi,zs,W,rfl,_⟩:=h;rfl
 .obtain⟨a,b,t,m,n,_,zs,W,rfl,rfl,hP,hm,ht,hI,hzl,hz1,n1,n8,hV,kk⟩:=h;have L:=hr.u60;have hz:(3000:Nat)<=sizeLine:=by rw[aT];decide
  refine⟨_,(A1 (B2 (i:=3) sc__law_odd_papers.nd rfl (Or.inl rfl) (A6 C (hr.mono (by omega)) rfl (jaC (jv 0) (jaC (G6 K rfl T.b_len (jaC (jv 1) jaN)) jaN))))
 (A1 (B2 (i:=4) sc__law_odd_papers.nd rfl (Or.inl rfl) (L0 (jaC (a0y K rfl T.b_list (jaC (jv 1) jaN)) (jaC W1 (jaC A4 (jaC a9D (jaC a5S (jaC (B3 (jaC (jv 1) jaN)) (jaC (B1 (jv 1) (B3 (jaC W1 jaN))) (jaC (B1 (jv 1) (B3 (jaC (a0X (B3 (jaC A4 jaN)) (G7 (jv 2) A4)) jaN))) jaN))))))))))
 (A1 (B2 (i:=4) sc__law_odd_papers.nd rfl (Or.inl rfl) (a1o (jv 4) (L0 (jaC (B1 (jv 1) (B3 (jaC (a0X (B3 (jaC A4 jaN)) (jv 2)) jaN))) (jaC (B1 (jv 1) (B3 (jaC (B1 (a0X (B3 (jaC A4 jaN)) (jv 2)) (B3 (jaC A4 jaN))) jaN))) jaN)))))
 (A1 (G4 (E6 K (jv 4) (jaC (B1 (B1 (K9 K (jv 1) C6 (C5 (jv 3))) (B3 (jaC (a0y K rfl T.b_list (jaC (D5 K (jv 1) (jv 3)) jaN)) jaN))) (b6A K (jv 1) (C5 (jv 3)) C6)) jaN)))
 (A5 (A9 (a1o (jv 4) (L0 (jaC (B1 (jv 1) (B3 (jaC (a0X (B3 (jaC K5 jaN)) (G7 (jv 2) A4)) jaN))) (jaC (B1 (B3 (jaC (B1 (B3 (jaC (a3J A4) jaN)) (a0X (B3 (jaC A4 jaN)) (jv 2))) jaN)) (jv 1)) (jaC (B1 (jv 1) (B3 (jaC (a0X (B3 (jaC A4 jaN)) (G7 (jv 2) A4)) jaN))) jaN))))))))))),?_⟩
  have i1:∀r∈W,r.length=n+1/\∀x∈r,0<=x/\x<=10000000000000:=λr hr=>⟨(hV r hr).1,λx hx=>by have:=(hV r hr).2 x hx;omega⟩;have a6:∀{H':Hp},Its H' zs W->∀u∈zs,Deep H' u:=λa1 u L=>by
   obtain⟨i,hi⟩:=fZ L;obtain⟨r,h1,h2,h3⟩:=a1.mem hi;exact Deep.ints h3 (by rw[(hV r h1).1];omega)
  have RS:∀{H1 H2:Hp}{v:V},Wz n H1 v->Same H1 H2->Wz n H2 v:=λh s=>h.keep (.same s);have cw:∀{d:Hp}{σ:L2.St}{k:Nat}{te:TE}{ta:TA},Mk (λH'=>Same d H') (Wz n) σ te->MkA (λH'=>Same d H') (Wz n) σ k ta->MkA (λH'=>Same d H') (Wz n) σ (k+1) (K8 te ta):=λh g=>a3u (λh s=>h.trans s) RS h g;have at1:∀{d:Hp}{σ:L2.St}(v:V),(∀H',Ki H' v)->(∀H',Tup H' v=none)->Mk (λH'=>Same d H') (Wz n) σ (tC v):=λv hk he H' G _ q=>q v H' (Same.refl _) (a5e (hk H') (he H'));have a5:∀{d:Hp}{σ:L2.St}{te:TE}{ts:qA V},ET d σ te ts->(∀p H',Same d H'->H' p=some (.tup ts)->Wz n H' (.ref p))->Mk (λH'=>Same d H') (Wz n) σ te:=λh g H' G s q=>h H' _ s λp g9 s1 s2 e=>q _ _ s2 (g p g9 s1 e);have S:∀{d:Hp}{p:qE}{x:V},Its d zs W->d p=some (.tup (zs++[x]))->OdI (n+1) d x->Wz n d (.ref p):=λ{d p x} d2 e hx=>a5d e (by rw[ag];show _+1<=_;omega) (λu L=>(ao.mp L).elim (a6 d2 u) λg=>by rw[au.mp g];exact hx.1) x (aH _ (bT _)) hx.2;have a3:∀{d:Hp}{p D:qE}{r:qI},Its d zs W->d p=some (.tup (zs++[.ref D]))->d D=some (.tup (r.map V.int))->r.length=n+1->(∀x∈r,0<=x/\x<=10000000000000)->a1v (sdC n) r=false->Wz n d (.ref p):=λ{d p D r} d2 e d7 hl hb hf=>b6I e (d2.app (Its.one ⟨D,rfl,d7⟩)) (by rw[ag];show _+1<=_;omega) (λu L=>(ao.mp L).elim (i1 u) λg=>by rw[au.mp g];exact⟨hl,hb⟩) r (aH _ (bT _)) hf;have c4:∀{H':Hp}{k:Nat}{x:V},Ki H' x->∀u∈List.replicate k x,Ki H' u:=λh u L=>by rw[d_ L];exact h
  have y:∀{d:Hp}{σ:L2.St}{te:TE}{ts:qA V},σ[1]?=some (some (.ref t))->d t=some (.tup zs)->ET d σ te ts->(∀p D H',Same d H'->H' p=some (.tup (zs++[.ref D]))->H' D=some (.tup ts)->Wz n H' (.ref p))->Mk (λH'=>Same d H') (Wz n) σ (tOp a1I (L4 1) (a5j (K8 te R5))):=λ{d σ te ts} h1 ht0 h g H' G s q=>⟨_,h1,h H' _ s λD H2 s2 c5 e2=>⟨by show 1<=sizeLine;omega,λp3 c1=>⟨t,p3,zs,[.ref D],rfl,rfl,(s2.upd c1) _ _ ht0,A0,by show _+1<=_;omega,λp4 H4 s4 e4=>q _ _ ((c5.upd c1).trans s4) (g p4 D H4 ((s2.upd c1).trans s4) e4 (s4 _ _ (E9 e2 c1)))⟩⟩⟩;have j:∀{d:Hp}{σ:L2.St}{te:TE}{x:V}{k:Nat},(∀H' (G:VK),G (.int k) H'->te σ H' G)->1<=k->k<=10->ET d σ (tOp a9l (a5j (K8 (tC x) R5)) te) (List.replicate k x):=λ{d σ te x k} h k1 k9 H' G s q=>by
   refine a9u λp H1 s1 e1=>h H1 _ ⟨p,[x],k,rfl,rfl,e1,by simp,by omega,?_,λq' H2 s2 e2=>?_⟩
   .show(1:Int)*k<=_;omega
   rw[b3y,bE]at e2;exact q q' H2 (s.trans (s1.trans s2)) (s1.trans s2) e2
  refine⟨_,rfl,_,rfl,t,zs,rfl,.inr (SqT.of ht),a,b,_,_,rfl,hP,by omega,by omega,by omega,λr1 H1 j3 j4 f4 b4=>?_⟩;obtain⟨k,rfl⟩:∃k:Nat,r1=k:=⟨r1.toNat,by omega⟩;have hk:k<zs.length:=by omega
  have d9:Tk H H1:=Tk.pot hP b4;have ht1:=d9 _ _ ht;have b1:=d9.its hI
  try dsimp only[B0,List.set]
  refine S0 ?_;refine X1 (n:=8) (B:=λH'=>Same H1 H') (R:=Wz n) ?ms (by decide) (Same.refl _) λN H2 p2 s2 j5 f1 d4=>?_
  case ms =>
   refine cw (λH' G s q=>⟨_,rfl,t,zs,rfl,.inr (SqT.of (s _ _ ht1)),λp hp=>q _ _ ((Same.refl H').upd hp) (a5e (.lst A0) (a0o A0))⟩)
    (cw (at1 _ (λ_=>.non) λ_=>rfl) (cw (at1 _ (λ_=>.int _) λ_=>rfl) (cw (at1 _ (λ_=>.str _) λ_=>rfl)
    (cw (λH' G _ q p hp=>q _ _ ((Same.refl H').upd hp) (a5e (.dT A0) (b1E A0)))
    (cw (a5 (L6 (x:=.ref t) λH' G q=>⟨_,rfl,q⟩) λp H' s e=>?tt)
    (cw (a5 (D4 (a1Z rfl ht1) (L6 λH' G q=>q) (by show _+1<=_;omega)) λp H' s e=>S (b1.same s) e (W9 .non rfl))
    (cw (y rfl ht1 (j (k:=n+1) (λH' G q=>⟨_,rfl,_,_,rfl,rfl,q⟩) (by omega) (by omega)) λp D H' s e ev=>?zz) X0)))))))
   .have ht':=s _ _ ht1;have a1:=b1.same s;refine a5d (t:=.ref t) e (by show 1<=1000;decide) (λu L=>?_) (bT _) ?_
    .rw[au.mp L];exact a3Z ht' (by omega) λv hv=>(a6 a1 v hv).1
    .rw[I9 ht',P8];obtain⟨v,hv⟩:∃v,zs[0]?=some v:=⟨_,ak (by omega)⟩;obtain⟨r,_,_,D,rfl,_⟩:=a1.mem hv;rw[eN.mpr ⟨_,aE hv,by show ¬(false=true);decide⟩,df]
   .refine a3 (r:=List.replicate (n+1) 0) (b1.same s) e (by rw[ev,List.map_replicate]) bw (λx hx=>by rw[d_ hx];decide) ?_;unfold a1v;rw[dN.mpr (λx hx=>by rw[d_ hx];decide),eO]
  have a2:=s2.upd (o:=.lst N) d4;have e2:upd H2 p2 (.lst N) p2=some (.lst N):=A0;have a9:∀g∈N,Wz n (upd H2 p2 (.lst N)) g:=λg hg=>RS (f1 g hg) ((Same.refl H2).upd d4);generalize upd H2 p2 (.lst N)=H3 at a2 e2 a9;have c2:=a2 _ _ ht1;have b9:=b1.same a2;have c0:=f4.same a2;have b6:=b4.trans a2.off;clear s2 f1 d4 a2 ht1 b1 f4 b4 d9
  try dsimp only[B0,List.set]
  refine S0 ?_;refine⟨_,rfl,?_⟩;refine X1 (n:=2) (B:=λH'=>Same H3 H') (R:=Wz n) ?ms2 (by decide) (Same.refl _) λO H4 p4 s4 j6 f2 d5=>?_
  case ms2 =>
   refine cw (y rfl c2 (j (k:=n) (λH' G q=>⟨_,rfl,q⟩) n1 (by omega)) λp D H' s e ev=>S (b9.same s) e (a0b ev (by rw[bw];omega) (c4 (.int 1)) (.inl (by rw[bw];omega))))
    (cw (y rfl c2 (D4 (j (k:=n) (λH' G q=>⟨_,rfl,q⟩) n1 (by omega)) (L6 λH' G q=>q) (by rw[bw];show _+1<=_;omega)) λp D H' s e ev=>?two) X0)
   refine a3 (r:=List.replicate n 1++[2]) (b9.same s) e (by rw[ev,bC,List.map_replicate];rfl) (by rw[ag,bw];rfl) (λx hx=>?_) ?_
   .rcases ao.mp hx with g|g
    .rw[d_ g];decide
    .rw[au.mp g];decide
   .unfold a1v;have hw:Wi (sdC n) (List.replicate n 1++[2])=false:=by
     cases e:Wi (sdC n) (List.replicate n 1++[2])with
     |false=>rfl
     |true=>exact absurd (a6J bw e) (by decide)
    rw[hw,df]
  have e4:upd H4 p4 (.lst O) p4=some (.lst O):=A0;have J:=s4.upd (o:=.lst O) d5;have b0:∀g∈O,Wz n (upd H4 p4 (.lst O)) g:=λg hg=>RS (f2 g hg) ((Same.refl H4).upd d5);generalize upd H4 p4 (.lst O)=H5 at e4 J b0;refine⟨p2,p4,N,O,rfl,rfl,J _ _ e2,e4,by omega,λZ b3=>?_⟩;have s6:=J.upd (o:=.lst (N++O)) b3;have e6:upd H5 Z (.lst (N++O)) Z=some (.lst (N++O)):=A0;have d1:∀g∈N++O,Wz n (upd H5 Z (.lst (N++O))) g:=λg hg=>RS ((ao.mp hg).elim (λq=>RS (a9 g q) J) (b0 g)) ((Same.refl H5).upd b3);have f7:(N++O).length=10:=by rw[ag];omega
  have g0:=O9 (c0.same J) b3;have f5:H Z=none:=Q6 (b6.trans J.off) (c0.same J) b3;generalize upd H5 Z (.lst (N++O))=H6 at s6 e6 d1;generalize N++O=g6 at e6 d1 f7;have c3:=s6 _ _ c2;have f3:=b9.same s6;have i0:=c0.same s6;have g5:=b6.trans s6.off;clear s4 J s6 f2 b0 a9 d5 b3 e4 e2 c2 b9 c0 b6
  try dsimp only[B0,List.set]
  refine⟨_,rfl,.inl ⟨rfl,_,SqL.of e6⟩,?_⟩;obtain⟨x,hx⟩:∃x,zs[k]?=some x:=⟨_,ak hk⟩;obtain⟨r,j7,j8,D,rfl,d7⟩:=f3.mem hx;have d3:(zs.take k).length=k:=by rw[aS];omega
  have f8:(zs.drop k).length=zs.length-k:=bx;have h9:ET H6 [some (.ref a),some (.ref t),some (.int n),some (.int k),some (.ref Z)] (tSl (a6O K) (L4 1) M1 (a2h (L4 3))) (zs.take k):=a3U rfl rfl c3 hk;refine h9 H6 _ (Same.refl _) λp7 H7 s7 _ e7=>?_;refine⟨_,rfl,_,rfl,t,zs,_,.ref D,rfl,rfl,SqT.of (s7 _ _ c3),P7 hx,D,_,rfl,.inr (SqT.of (s7 _ _ d7)),λl8 f9=>⟨by show 1<=sizeLine;omega,λp9 d6=>?_⟩⟩;have s9:=(s7.upd (o:=.lst (r.map V.int)) f9).upd (o:=.tup [.ref l8]) d6;have e9:upd (upd H7 l8 (.lst (r.map V.int))) p9 (.tup [.ref l8]) p9=some (.tup [.ref l8]):=A0;have e5:upd (upd H7 l8 (.lst (r.map V.int))) p9 (.tup [.ref l8]) l8=some (.lst (r.map V.int)):=E9 A0 d6;have e3:upd (upd H7 l8 (.lst (r.map V.int))) p9 (.tup [.ref l8]) p7=some (.tup (zs.take k)):=(((Same.refl H7).upd (o:=.lst (r.map V.int)) f9).upd (o:=.tup [.ref l8]) d6) _ _ e7;generalize upd (upd H7 l8 (.lst (r.map V.int))) p9 (.tup [.ref l8])=H9 at s9 e9 e5 e3;refine⟨p7,p9,_,_,rfl,rfl,e3,e9,by rw[d3];show k+1<=_;omega,λi4 j0 g7 h5=>?_⟩;have c9:=s9.trans g7;refine⟨_,rfl,_,rfl,(k:Int),rfl,?_⟩;dsimp only[M1];refine b1X (c9 _ _ c3) (by omega) λi5 j1 d8 h6=>?_;refine⟨i4,i5,_,_,rfl,rfl,d8 _ _ h5,h6,by rw[ag,d3,f8];show k+1+_<=_;omega,λl M c5 h7=>?_⟩;have z:=(c9.trans d8).trans c5;have a4:=(d8.trans c5) _ _ (g7 _ _ e5);have b2:=f3.same z;have g3:Wz n M (.ref l):=a5d (t:=.ref l8) h7 (by rw[ag,ag,d3,f8];show k+1+_<=_;omega) (λu L=>by
   rcases ao.mp L with g|g
   .rcases ao.mp g with g|g
    .exact a6 b2 u (bJ g)
    .rw[au.mp g];exact(W9 (n:=n) (.lst a4) (a0o a4)).1
   .exact a6 b2 u (bR g)) (aO _ (aH _ (bT _))) (by rw[a0o a4];rfl)
  refine⟨Z,g6,_,rfl,rfl,z _ _ e6,by omega,?_⟩;have Y:Keep M (upd M Z (.lst (g6++[.ref l]))):=.put (z _ _ e6);have d0:upd M Z (.lst (g6++[.ref l])) Z=some (.lst (g6++[.ref l])):=A0;have a7:∀g∈g6++[.ref l],Wz n (upd M Z (.lst (g6++[.ref l]))) g:=λg hg=>by
   rcases ao.mp hg with q|q
   .exact(RS (d1 g q) z).keep Y
   .rw[au.mp q];exact g3.keep Y
  have c6:=W8 (o:=.lst (g6++[.ref l])) (i0.same z) g0;have b5:=a0a (o:=.lst (g6++[.ref l])) (g5.trans z.off) f5;have f6:(g6++[V.ref l]).length=11:=by rw[ag,f7];rfl
  have X:=Y.t _ _ (z _ _ c3);have U:Its (upd M Z (.lst (g6++[.ref l]))) zs W:=Tk.its (λc xs e=>Y.t c xs e) b2;generalize upd M Z (.lst (g6++[.ref l]))=h0 at d0 a7 c6 b5 X U;generalize g6++[.ref l]=e8 at d0 a7 f6;refine⟨_,rfl,?_⟩;refine X1 (n:=3) (B:=λH'=>Same h0 H') (R:=Wz n) ?ms3 (by decide) (Same.refl _) λI b8 b7 i7 i9 f0 c7=>?_
  case ms3 =>
   refine cw (y rfl X (j (k:=n+1) (λH' G q=>⟨_,rfl,_,_,rfl,rfl,q⟩) (by omega) (by omega)) λp D H' s e ev=>S (U.same s) e (a0b ev (by rw[bw];omega) (c4 (.bl true)) (.inr ⟨.bl true,List.mem_replicate.mpr ⟨by omega,rfl⟩,rfl⟩)))
    (cw (λH' G s q=>?neg)
    (cw (y rfl X (j (k:=n+2) (λH' G q=>⟨_,rfl,_,_,rfl,rfl,q⟩) (by omega) (by omega)) λp D H' s e ev=>S (U.same s) e (a0b ev (by rw[bw];omega) (c4 (.int 1)) (.inl (by rw[bw];omega)))) X0))
   refine⟨_,rfl,by show 1<=sizeLine;omega,λpa i2=>b7K (k:=n) (λH' G q=>⟨_,rfl,q⟩) n1 (by omega) λpb Hb sb eb=>⟨pa,pb,_,_,rfl,rfl,sb _ _ A0,eb,by rw[bw];show 1+_<=_;omega,λpc Hc i8 ec=>⟨by show 1<=sizeLine;omega,λpd g1=>?_⟩⟩⟩;have sd:=((((Same.refl H').upd (o:=.tup [.int (-1)]) i2).trans sb).trans i8).upd (o:=.tup [.ref pc]) g1;refine⟨_,rfl,pd,t,_,zs,rfl,rfl,A0,(s.trans sd) _ _ X,by show 1+_<=_;omega,λpe He se ee=>?_⟩;have sx:=sd.trans se;have a1:=U.same (s.trans sx);have h8:He pc=some (.tup ([.int (-1)]++List.replicate n (.int 1))):=se _ _ (E9 ec g1);have ho:OdI (n+1) He (.ref pc):=a0b h8 (by rw[ag,bw];show 1+_<=_;omega) (λu L=>(ao.mp L).elim (λg=>by rw[au.mp g];exact .int _) λg=>c4 (.int 1) u g) (.inr ⟨_,aO _ (bT _),rfl⟩);exact q _ _ sx (a5d (t:=.ref pc) ee (by rw[ag];show 1+_<=_;omega) (λu L=>(ao.mp L).elim (λg=>by rw[au.mp g];exact ho.1) (a6 a1 u)) (aO _ (bT _)) ho.2)
  have e0:upd b8 b7 (.lst I) b7=some (.lst I):=A0;have a0:=i7.upd (o:=.lst I) c7;have a8:∀g∈I,Wz n (upd b8 b7 (.lst I)) g:=λg hg=>RS (f0 g hg) ((Same.refl b8).upd c7);generalize upd b8 b7 (.lst I)=h4 at e0 a0 a8;refine⟨Z,b7,e8,I,rfl,rfl,a0 _ _ d0,e0,by omega,λi6 c8=>?_⟩;have g8:=a0.upd (o:=.lst (e8++I)) c8;exact kk i6 _ _ A0 (by rw[ag];omega) (λg hg=>RS ((ao.mp hg).elim (λq=>RS (a7 g q) a0) (a8 g)) ((Same.refl h4).upd c8)) (c6.same g8) (b5.trans g8.off)
end
end K30
namespace K30
open PySem PySem.Spec PyProof.Rows L2
variable {H:Hp}{n:Nat}
section
variable {P:qG}{w:World}{K:qF}{mg:Str->qD qB}{base:Heap}
def TrB(n:Nat)(T1 T0:LLI)(H:Hp)(x y z:V):Prop:=∃ox oy oz,Fo H n x ox/\Fo H n y oy/\Fo H (n+1) z oz/\((∀rss,ox=some rss->rss≠T1)∨(∀rss,oy=some rss->rss≠T0)∨∀pss,oz=some pss->pss.all (a1v (sdC n))=false)
def TrV(n:Nat)(T1 T0:LLI)(H:Hp)(v:V):Prop:=∃q x y z,v=.ref q/\H q=some (.tup [x,y,z])/\TrB n T1 T0 H x y z
def TrV.keep{n:Nat}{T1 T0:LLI}{H H':Hp}{v:V}(h:TrV n T1 T0 H v)(k:Keep H H'):TrV n T1 T0 H' v:=by
 obtain⟨q,x,y,z,a,b,e,f,g,h1,h2,c,d⟩:=h;exact⟨q,x,y,z,a,k.t _ _ b,e,f,g,h1.keep k,h2.keep k,c.keep k,d⟩
structure Tpl(H:Hp)(a b:qE)(m n:Nat)(T1 T0:LLI)(H':Hp)(pf:qE)(gs:qA V)(k:Nat):Prop where
 P:PotAt H' a b m
 off:Off [a,b] H H'
 e:H' pf=some (.lst gs)
 ne:pf∉[a,b]
 fr:H pf=none
 w:∀g∈gs,TrV n T1 T0 H' g
 l:gs.length<=k
def Tpl.same{H:Hp}{a b:qE}{m n:Nat}{T1 T0:LLI}{H' H2:Hp}{d:qE}{c:qA V}{k:Nat}(h:Tpl H a b m n T1 T0 H' d c k)(s:Same H' H2):Tpl H a b m n T1 T0 H2 d c k:=⟨h.P.same s,h.off.trans s.off,s _ _ h.e,h.ne,h.fr,λg e=>(h.w g e).keep (.same s),h.l⟩
def Tpl.pot{H:Hp}{a b:qE}{m m' n:Nat}{T1 T0:LLI}{H' H2:Hp}{e:qE}{c:qA V}{k:Nat}(h:Tpl H a b m n T1 T0 H' e c k)(d:PotAt H2 a b m')(o:Off [a,b] H' H2):Tpl H a b m' n T1 T0 H2 e c k:=⟨d,h.off.trans o,o _ _ h.ne h.e,h.ne,h.fr,λg f=>(h.w g f).keep (Keep.pot h.P d o),h.l⟩
def Tpl.app{a b:qE}{m:Nat}{T1 T0:LLI}{H':Hp}{d:qE}{c:qA V}{k:Nat}{x:V}(h:Tpl H a b m n T1 T0 H' d c k)(i:TrV n T1 T0 H' x):Tpl H a b m n T1 T0 (upd H' d (.lst (c++[x]))) d (c++[x]) (k+1):=by
 have e:Keep H' (upd H' d (.lst (c++[x]))):=.put h.e;refine⟨W8 h.P h.ne,a0a h.off h.fr,A0,h.ne,h.fr,λg f=>?_,by rw[ag];exact fH h.l⟩;rcases ao.mp f with q|q
 .exact(h.w g q).keep e
 .rw[au.mp q];exact i.keep e
def Tpl.cat{a b:qE}{m:Nat}{T1 T0:LLI}{H':Hp}{f p:qE}{c bs:qA V}{k j:Nat}(h:Tpl H a b m n T1 T0 H' f c k)(d:∀g∈bs,TrV n T1 T0 H' g)(i:bs.length<=j)(hp:H' p=none):Tpl H a b m n T1 T0 (upd H' p (.lst (c++bs))) p (c++bs) (k+j):=by
 have s:=(Same.refl H').upd (o:=.lst (c++bs)) hp;refine⟨h.P.same s,h.off.trans s.off,A0,O9 h.P hp,Q6 h.off h.P hp,λg e=>?_,by rw[ag];have:=h.l;omega⟩;exact((ao.mp e).elim (h.w g) (d g)).keep (.same s)
def Tpl.mono{H:Hp}{a b:qE}{m n m':Nat}{T1 T0:LLI}{H':Hp}{d:qE}{c:qA V}{k j:Nat}(h:Tpl H a b m n T1 T0 H' d c k)(f:m<=m')(e:k<=j):Tpl H a b m' n T1 T0 H' d c j:=⟨h.P.mono f,h.off,h.e,h.ne,h.fr,h.w,a_ h.l e⟩
def a0Y{src:qA (qJ)}{σ caps:L2.St}{Q:VK}{q:qE}{a:qA V}{T1 T0:LLI}{ta:TA}(j:V->qA V)(b:B4 src σ=none::caps)(t:H q=some (.lst a))(D:a.length<=1000)(d:∀v H' (k:qA V->Hp->Prop),k (j v) H'->ta (some v::caps) H' k)(r:∀v∈a,∃x y z,j v=[x,y,z]/\TrB n T1 T0 H x y z)
  (hd:∀H1 p f,Same H H1->H1 p=none->f.length=a.length->(∀v∈f,TrV n T1 T0 H1 v)->Q (.ref p) (upd H1 p (.lst f))):G0 src (B0 0) O0 (a5j ta) σ Q (Itl K q) H:=by
 have E:(3000:Nat)<=sizeLine:=by rw[aT];decide
 refine W2 (xs:=a) (by omega) (λi ys H'=>Same H H'/\ys.length=i/\∀v∈ys,TrV n T1 T0 H' v) ⟨Same.refl H,rfl,λ_ z=>nomatch z⟩ (λi ys H' _ h=>⟨SqL.of (h.1 _ _ t),by rw[h.2.1];exact aq _⟩) ?_ ?_
 .rintro i v ys H' hv ⟨s,hyl,hys⟩;obtain⟨x,y,z,e,A,B,C,h1,h2,l,m⟩:=r v (aE hv);show Sub _ ((B4 src σ).set 0 (some v))/\_;rw[b];refine⟨Sub.one,d v H' _ ?_⟩;rw[e];refine⟨by show 3<=sizeLine;omega,λp c=>?_⟩;have s2:=(Same.refl H').upd (o:=.tup [x,y,z]) c;have k2:Keep H (upd H' p (.tup [x,y,z])):=(Keep.same s).trans (.same s2);refine⟨s.trans s2,by rw[ag,hyl];rfl,λu w=>?_⟩;rcases ao.mp w with g|g
  .exact(hys u g).keep (.same s2)
  .rw[au.mp g];exact⟨p,x,y,z,rfl,A0,A,B,C,h1.keep k2,h2.keep k2,l.keep k2,m⟩
 .rintro ys H' ⟨s,hyl,hys⟩ p c;exact hd H' p ys s c hyl hys
def b4i{σ:L2.St}{Q:VK}{t va:qE}{zs:qA V}{T:LLI}{r:qI}{te:TE}(h1:ET H σ te (zs++[.ref va]))(k:Its H zs T)(h:H va=some (.tup (r.map V.int)))(j:1<=n)(m:∀u∈T,u.length=n)(o:r.length=n)
  (q:∀p H' a b,Same H H'->H' p=some (.tup a)->Its H' a b->b.Perm (T++[r])->Q (.ref p) H'):tCB (a5F K) (K8 (tCB (a5G K) (K8 te R5)) R5) σ H Q :=
 h1 H _ (Same.refl _) λp H1 s1 _ e=>⟨p,_,T++[r],rfl,.inr (SqT.of e),(k.same s1).app (Its.one ⟨va,rfl,s1 _ _ h⟩),(λu v=>by
  rcases ao.mp v with g|g
  .rw[m u g];exact j
  .rw[au.mp g,o];exact j),λl a b i d f s _=>⟨l,a,rfl,.inl ⟨SqL.of A0,λp2 c=>q p2 _ a b ((s1.upd i).upd c) A0 (d.same (((Same.refl H1).upd i).upd c)) f⟩⟩⟩
inductive IspOthers(vs:qA V)(H:Hp)(Q:VK)(E:XK):Prop
 |mk (a b t0 t1 t2:qE) (m n:Nat) (wi:Int) (zs ys ws:qA V) (T1 T0 W:LLI) (_:vs=[.ref a,.ref t1,.ref t0,.ref t2,.int wi]) (_:wi=n) (_:PotAt H a b m) (_:m+200<2 ^ 60) (_:1<=n) (_:n<=8) (_:H t1=some (.tup zs)) (_:Its H zs T1) (_:zs.length<=100) (_:(∀r∈T1,r.length=n/\∀x∈r,0<=x/\x<=1000)) (_:T1.Nodup) (_:H t0=some (.tup ys)) (_:Its H ys T0) (_:ys.length<=100) (_:(∀r∈T0,r.length=n/\∀x∈r,0<=x/\x<=1000)) (_:T0.Nodup) (_:H t2=some (.tup ws)) (_:Its H ws W) (_:ws.length<=100) (_:1<=ws.length) (_:(∀r∈W,r.length=n+1/\∀x∈r,0<=x/\x<=1000)) (_:∀q gs H',H' q=some (.lst gs)->gs.length<=200->(∀g∈gs,TrV n T1 T0 H' g)->PotAt H' a b (m+10)->Off [a,b] H H'->Q (.ref q) H'):IspOthers  vs H Q E
def a6z:Sp:=λvs H Q E=>IspOthers  vs H Q E
def sc__law_others:FnScope ["_law_pot_here","_law_told","_law_base","_law_paper","_law_width","_law_found","_law_one","_law_other","_law_both"] ["_law_pot_here","_law_told","_law_base","_law_paper","_law_width"] (A2 M6):={}
def b0z(F:FunAt K mg "_law_others" M6 ["_law_pot_here","_law_told","_law_base","_law_paper","_law_width"])(T:Tx mg)(B:Ok P w K mg base "_law_take" 1 ["_law_pot_here","_law_many"] a0T)(c:Ok P w K mg base "_law_spoilt" 2 ["_law_pot_here","_law_some"] a6u)(y:Ok P w K mg base "_law_odd_papers" 2 ["_law_pot_here","_law_paper","_law_width"] b1Q):Ok P w K mg base "_law_others" 3 ["_law_pot_here","_law_told","_law_base","_law_paper","_law_width"] a6z:=by
 refine F.okJ sc__law_others (λvs H Q E h=>?_) (λq0 f A n5 s H vs Q E hr h=>?_)
 .obtain⟨a,b,t0,t1,t2,m,n,wi,zs,ys,ws,T1,T0,W,rfl,_⟩:=h;rfl
 .obtain⟨a,b,t0,t1,t2,m,n,_,zs,ys,ws,T1,T0,W,rfl,rfl,hP,hm,n1,n8,ht1,hI1,hzl,hV1,hnd1,ht0,hI0,hyl,hV0,hnd0,ht2,hI2,hwl,hwl1,hV2,kk⟩:=h;have hu:=hr.u60;have hz:(3000:Nat)<=sizeLine:=by rw[aT];decide
  refine⟨_,(A1 (a5Q (i:=5) sc__law_others.nd rfl (Or.inl rfl) (N:=["_law_other","_law_base","_law_paper"]) (src:=[none,some 2,some 3]) (E3 K (A6 c (hr.mono (by omega)) rfl (jaC (jv 0) (jaC (jv 1) jaN)))) (by show B6 _ _=true;rfl) (by rfl) (by rfl)
 (λ_ _ _ _ _=>(A7 (i:=0) (L2.nd ["_law_other","_law_base","_law_paper"]) rfl (Or.inl rfl))) (λ_ _ _ _ _=>B8) (λ_ _ _ _ _=>(B3 (jaC (jv 0) (jaC (jv 1) (jaC (jv 2) jaN))))))
 (A1 (B2 (i:=5) sc__law_others.nd rfl (Or.inl rfl) (a1o (jv 5) (B5 (N:=["_law_other","_law_told","_law_paper"]) (src:=[none,some 1,some 3]) (E3 K (A6 c (hr.mono (by omega)) rfl (jaC (jv 0) (jaC (jv 2) jaN)))) (by show B6 _ _=true;rfl) (by rfl) (by rfl)
 (λ_ _ _ _ _=>(A7 (i:=0) (L2.nd ["_law_other","_law_told","_law_paper"]) rfl (Or.inl rfl))) (λ_ _ _ _ _=>B8) (λ_ _ _ _ _=>(B3 (jaC (jv 1) (jaC (jv 0) (jaC (jv 2) jaN))))))))
 (A1 (B2 (i:=5) sc__law_others.nd rfl (Or.inl rfl) (a1o (jv 5) (B5 (N:=["_law_other","_law_told","_law_base"]) (src:=[none,some 1,some 2]) (E3 K (A6 y (hr.mono (by omega)) rfl (jaC (jv 0) (jaC (jv 3) (jaC (jv 4) jaN))))) (by show B6 _ _=true;rfl) (by rfl) (by rfl)
 (λ_ _ _ _ _=>(A7 (i:=0) (L2.nd ["_law_other","_law_told","_law_base"]) rfl (Or.inl rfl))) (λ_ _ _ _ _=>B8) (λ_ _ _ _ _=>(B3 (jaC (jv 1) (jaC (jv 2) (jaC (jv 0) jaN))))))))
 (A1 (C9 (a1S K hu (jv 1) (jv 2))
 (A5 (G4 (E6 K (jv 5) (jaC (B3 (jaC (jv 2) (jaC (jv 1) (jaC (jv 3) jaN)))) jaN))))
 C2)
 (A1 (C9 (a2x (a1R (a1S K hu (jv 1) (B3 jaN)) (a0x (a1S K hu (jv 2) (B3 jaN)))))
 (A1 (a3F (B3 (jaC (D5 K (jv 1) (A6 B (hr.mono (by omega)) rfl (jaC (jv 0) (jaC (G6 K rfl T.b_len (jaC (jv 1) jaN)) jaN)))) (jaC (D5 K (jv 2) (A6 B (hr.mono (by omega)) rfl (jaC (jv 0) (jaC (G6 K rfl T.b_len (jaC (jv 2) jaN)) jaN)))) jaN))) (V1 K 2 (C0 (A7 (i:=6) sc__law_others.nd rfl (Or.inr rfl)) (C0 (A7 (i:=7) sc__law_others.nd rfl (Or.inr rfl)) N1))))
 (A1 (B2 (i:=8) sc__law_others.nd rfl (Or.inl rfl) (C1 K rfl T.b_tuple (jaC (B5 (N:=["_law_j","_law_one","_law_other"]) (src:=[none,some 6,some 7]) (J0 rfl T.b_range (jaC (jv 4) jaN)) (by show B6 _ _=true;rfl) (by rfl) (by rfl)
 (λ_ _ _ _ _=>(A7 (i:=0) (L2.nd ["_law_j","_law_one","_law_other"]) rfl (Or.inl rfl))) (λ_ _ _ _ _=>B8) (λ_ _ _ _ _=>(G7 (D5 K (jv 1) (jv 0)) (D5 K (jv 2) (jv 0))))) jaN)))
 (A5 (G4 (E6 K (jv 5) (jaC (B3 (jaC (C1 K rfl T.b_tuple (jaC (Q8 K rfl T.b_sorted (jaC (B1 (jv 1) (B3 (jaC (jv 8) jaN))) jaN)) jaN)) (jaC (jv 2) (jaC (jv 3) jaN)))) jaN))))))
 C2)
 (A1 (C9 (a1S K hu (jv 2) (B3 jaN))
 (A5 (G4 (E6 K (jv 5) (jaC (B3 (jaC (jv 1) (jaC (C1 K rfl T.b_tuple (jaC (Q8 K rfl T.b_sorted (jaC (B1 (jv 2) (B3 (jaC (C1 K rfl T.b_tuple (jaC (B5 (N:=["_law_part"]) (src:=[none]) (E7 K (D5 K (jv 2) A4)) (by show B6 _ _=true;rfl) (by rfl) (by rfl)
 (λ_ _ _ _ _=>(A7 (i:=0) (L2.nd ["_law_part"]) rfl (Or.inl rfl))) (λ_ _ _ _ _=>B8) (λ_ _ _ _ _=>(a0O A4 (jv 0)))) jaN)) jaN))) jaN)) jaN)) (jaC (jv 3) jaN)))) jaN))))
 C2)
 (A5 (A9 (jv 5))))))))),?_⟩
  have g1:∀{H':Hp},Tk H H'->Fo H' n (.ref t1) (some T1):=λk=>⟨t1,zs,rfl,k _ _ ht1,k.its hI1,by omega,λr hr=>⟨(hV1 r hr).1,λx hx=>by have:=(hV1 r hr).2 x hx;omega⟩⟩;have g0:∀{H':Hp},Tk H H'->Fo H' n (.ref t0) (some T0):=λk=>⟨t0,ys,rfl,k _ _ ht0,k.its hI0,by omega,λr hr=>⟨(hV0 r hr).1,λx hx=>by have:=(hV0 r hr).2 x hx;omega⟩⟩;have g2:∀{H':Hp},Tk H H'->Fo H' (n+1) (.ref t2) (some W):=λk=>⟨t2,ws,rfl,k _ _ ht2,k.its hI2,by omega,λr hr=>⟨(hV2 r hr).1,λx hx=>by have:=(hV2 r hr).2 x hx;omega⟩⟩;refine⟨_,rfl,_,rfl,a,b,t1,m,n,zs,T1,rfl,hP,by omega,ht1,hI1,hzl,n1,n8,hV1,hnd1,λq1 q3 H1 h1 o2 e9 d8 a6=>?_⟩;have i3:Tk H H1:=Tk.pot hP a6;refine⟨q1,rfl,⟨_,SqL.of h1⟩,?_⟩;refine a0Y (K:=K) (caps:=[some (.ref t0),some (.ref t2)]) (n:=n) (T1:=T1) (T0:=T0) (λv=>[v,.ref t0,.ref t2]) rfl h1 (by omega) (λv H' Q' q=>⟨_,rfl,_,rfl,_,rfl,q⟩) (λv hv=>⟨v,.ref t0,.ref t2,rfl,?tb1⟩) λH2 p2 w2 s2 b2 p1 l5=>?_
  case tb1 =>
   obtain⟨o,ho,c0⟩:=e9 v hv;exact⟨o,_,_,ho,g0 i3,g2 i3,.inl c0⟩
  have S3:Tpl H a b (m+2) n T1 T0 (upd H2 p2 (.lst w2)) p2 w2 40:=⟨(d8.same s2).same ((Same.refl H2).upd b2),(a6.trans s2.off).trans ((Same.refl H2).upd b2).off,A0,O9 (d8.same s2) b2,Q6 (a6.trans s2.off) (d8.same s2) b2,λg hg=>(l5 g hg).keep (.same ((Same.refl H2).upd b2)),by omega⟩;generalize upd H2 p2 (.lst w2)=H3 at S3;clear h1 e9 d8 a6 i3 s2 b2 l5;have p:∀{H':Hp}{m':Nat}{pf:qE}{gs:qA V}{k:Nat},Tpl H a b m' n T1 T0 H' pf gs k->Tk H H':=λS=>Tk.pot hP S.off
  try dsimp only[B0,List.set]
  have i4:=p S3;refine⟨_,rfl,?_⟩;refine⟨_,rfl,_,rfl,a,b,t0,_,n,ys,T0,rfl,S3.P,by omega,i4 _ _ ht0,i4.its hI0,hyl,n1,n8,hV0,hnd0,λq4 q5 H4 h2 o3 f0 j5 f4=>?_⟩;have S4:=S3.pot j5 f4;have i5:=p S4;refine⟨q4,rfl,⟨_,SqL.of h2⟩,?_⟩;refine a0Y (K:=K) (caps:=[some (.ref t1),some (.ref t2)]) (n:=n) (T1:=T1) (T0:=T0) (λv=>[.ref t1,v,.ref t2]) rfl h2 (by omega) (λv H' Q' q=>⟨_,rfl,_,rfl,_,rfl,q⟩) (λv hv=>⟨.ref t1,v,.ref t2,rfl,?tb2⟩) λH5 p5 w5 s5 k7 p3 l6=>?_
  case tb2 =>
   obtain⟨o,ho,c0⟩:=f0 v hv;exact⟨_,o,_,g1 i5,ho,g2 i5,.inr (.inl c0)⟩
  have s6:=(Same.refl H5).upd (o:=.lst w5) k7;have e6:upd H5 p5 (.lst w5) p5=some (.lst w5):=A0;have h7:∀g∈w5,TrV n T1 T0 (upd H5 p5 (.lst w5)) g:=λg hg=>(l6 g hg).keep (.same s6);generalize upd H5 p5 (.lst w5)=H6 at s6 e6 h7;have S6:=(S4.same s5).same s6;have n2:=S6.l;refine⟨p2,p5,w2,w5,rfl,rfl,S6.e,e6,by omega,λp7 k8=>?_⟩;have S7:=S6.cat (j:=40) h7 (by omega) k8;generalize upd H6 p7 (.lst (w2++w5))=H7 at S7;generalize w2++w5=w7 at S7;clear S3 S4 S6 i4 i5 h2 f0 j5 f4 s5 s6 k7 l6 h7 e6 k8 n2
  try dsimp only[B0,List.set]
  have i6:=p S7;refine⟨_,rfl,?_⟩;refine⟨_,rfl,_,rfl,_,rfl,a,b,t2,_,n,_,ws,W,rfl,rfl,S7.P,by omega,i6 _ _ ht2,i6.its hI2,hwl,hwl1,n1,n8,hV2,λq8 q6 H8 h3 o4 f1 j6 f5=>?_⟩;have S8:=S7.pot j6 f5;have i7:=p S8;refine⟨q8,rfl,⟨_,SqL.of h3⟩,?_⟩;refine a0Y (K:=K) (caps:=[some (.ref t1),some (.ref t0)]) (n:=n) (T1:=T1) (T0:=T0) (λv=>[.ref t1,.ref t0,v]) rfl h3 (by omega) (λv H' Q' q=>⟨_,rfl,_,rfl,_,rfl,q⟩) (λv hv=>⟨.ref t1,.ref t0,v,rfl,?tb3⟩) λH9 p9 w9 s9 k9 p4 l7=>?_
  case tb3 =>
   obtain⟨o,ho,c0⟩:=f1 v hv;exact⟨_,_,o,g1 i7,g0 i7,ho,.inr (.inr c0)⟩
  have e0:=(Same.refl H9).upd (o:=.lst w9) k9;have g9:upd H9 p9 (.lst w9) p9=some (.lst w9):=A0;have c3:∀g∈w9,TrV n T1 T0 (upd H9 p9 (.lst w9)) g:=λg hg=>(l7 g hg).keep (.same e0);generalize upd H9 p9 (.lst w9)=m6 at e0 g9 c3;have d4:=(S8.same s9).same e0;have j9:=d4.l;refine⟨p7,p9,w7,w9,rfl,rfl,d4.e,g9,by omega,λO f3=>?_⟩;have a1:=d4.cat (j:=20) c3 (by omega) f3;generalize upd m6 O (.lst (w7++w9))=g4 at a1;generalize w7++w9=m5 at a1;clear S7 S8 d4 i6 i7 h3 f1 j6 f5 s9 e0 k9 l7 c3 g9 f3 j9
  try dsimp only[B0,List.set]
  have p8:∀(X:Prop),X->X:=λ_ h=>h;have more:∀{H':Hp}{v:qE}{T:LLI}{r:qI}{D:qA V}{a4:LLI},H' v=some (.tup D)->Its H' D a4->a4.Perm (T++[r])->T.length<=100->(∀u∈T,u.length=n/\∀x∈u,0<=x/\x<=1000)->r.length=n->(∀x∈r,0<=x/\x<=5000)->Fo H' n (.ref v) (some a4)/\∀rss,some a4=some rss->rss≠T:=λ{H' v T r D a4} e d7 b3 hl hT h4 l0=>by
   have f2:=b3.length_eq;simp only[ag,aX,eC]at f2;refine⟨⟨v,D,rfl,e,d7,by rw[d7.1];omega,λu hu=>?_⟩,λrss z er=>?_⟩
   .rcases ao.mp (b3.mem_iff.mp hu)with g|g
    .exact⟨(hT u g).1,λx hx=>by have:=(hT u g).2 x hx;omega⟩
    .rw[au.mp g];exact⟨h4,λx hx=>by have:=l0 x hx;omega⟩
   .cases z;rw[er]at f2;omega
  have j8:T1.length<=100:=by rw[<-hI1.1];exact hzl
  have j7:T0.length<=100:=by rw[<-hI0.1];exact hyl
  refine R8 (λσ H'=>Ex4 λ(o6 o7 o8:qD V) (gs:qA V)=>An2 (σ=[some (.ref a),some (.ref t1),some (.ref t0),some (.ref t2),some (.int n),some (.ref O),o6,o7,o8]) (Tpl H a b (m+5) n T1 T0 H' O gs 101)) ?fin1 λfin1=>?_
  case fin1 =>
   rintro σ d1 ⟨o6,o7,o8,b9,rfl,a2⟩;refine R8 (λσ H'=>Ex4 λ(o6 o7 o8:qD V) (gs:qA V)=>An2 (σ=[some (.ref a),some (.ref t1),some (.ref t0),some (.ref t2),some (.int n),some (.ref O),o6,o7,o8]) (Tpl H a b (m+10) n T1 T0 H' O gs 102)) ?fin2 λfin2=>?_
   case fin2 =>
    rintro σ a0 ⟨o6,o7,o8,e4,rfl,U⟩;have a8:=p U;refine⟨_,rfl,bu _,λa3 c1=>?_⟩;have b4:=(Same.refl a0).upd (o:=.tup []) c1;have b1:upd a0 a3 (.tup []) a3=some (.tup []):=A0;generalize upd a0 a3 (.tup [])=m7 at b4 b1;have C:=U.same b4;have d:=p C;have o9:=C.l;refine⟨2,_,by decide,EqV.its (k:=true) (SqT.of (d _ _ ht0)) (SqT.of b1) (d.its hI0) Its.nil,⟨_,_,rfl,rfl⟩,_,rfl,Z0 (λew=>?_) (λew=>?_)⟩
    .have hne:T0≠[]:=by simpa using ew
     have m0:0<ys.length:=by rw[hI0.1];exact dt.mpr hne
     obtain⟨x,hx⟩:∃x,ys[0]?=some x:=⟨_,ak m0⟩;obtain⟨r,h4,l0,va,rfl,d9⟩:=(d.its hI0).mem hx;refine⟨_,rfl,.inl ⟨rfl,_,SqL.of C.e⟩,_,rfl,?_⟩;have l2:=hV0 r h4;refine⟨_,rfl,_,rfl,t0,ys,_,.ref va,rfl,rfl,SqT.of (d _ _ ht0),P7 (j:=0) hx,va,rfl,⟨_,SqT.of d9⟩,?_⟩;refine a6r (caps:=[]) (λz=>V.int (2*z)) (by omega) (λH' s=>SqT.of (s _ _ d9)) rfl (λx H1 Q1 _ _ q=>⟨_,rfl,_,_,rfl,rfl,.inl ⟨by decide,by decide⟩,q⟩) λg5 h9 n6 k2=>?_;refine⟨h9,_,rfl,.inl ⟨SqL.of A0,λL k3=>?_⟩⟩;have m4:=(n6.upd (o:=.lst (r.map λz=>V.int (2*z))) k2).upd (o:=.tup (r.map λz=>V.int (2*z))) k3;have j0:upd (upd g5 h9 (.lst (r.map λz=>V.int (2*z)))) L (.tup (r.map λz=>V.int (2*z))) L=some (.tup ((r.map λz=>2*z).map V.int)):=by rw[A0,cK];rfl
     generalize upd (upd g5 h9 (.lst (r.map λz=>V.int (2*z)))) L (.tup (r.map λz=>V.int (2*z)))=a9 at m4 j0;refine⟨by show 1<=sizeLine;omega,λY a5=>?_⟩;have b5:=m4.upd (o:=.tup [.ref L]) a5;have j1:upd a9 Y (.tup [.ref L]) Y=some (.tup [.ref L]):=A0;have e3:upd a9 Y (.tup [.ref L]) L=some (.tup ((r.map λz=>2*z).map V.int)):=E9 j0 a5;generalize upd a9 Y (.tup [.ref L])=m8 at b5 j1 e3;refine⟨t0,Y,ys,[.ref L],rfl,rfl,b5 _ _ (d _ _ ht0),j1,by show _+1<=_;omega,λc7 b0 e1 n0=>?_⟩;have c9:=b5.trans e1;have hd:(r.map λz=>2*z).length=n/\∀x∈r.map (λz=>2*z),0<=x/\x<=5000:=⟨by rw[ai];exact l2.1,λx hx=>by
      obtain⟨z,n4,rfl⟩:=aN.mp hx;have:=l2.2 z n4;omega⟩
     refine⟨c7,_,T0++[r.map λz=>2*z],rfl,.inr (SqT.of n0),((d.its hI0).same c9).app (Its.one ⟨L,rfl,e1 _ _ e3⟩),(λu hu=>?ll),λl D a4 hl d7 b3 q7 _=>⟨l,D,rfl,.inl ⟨SqL.of A0,λG c2=>?_⟩⟩⟩
     case ll =>
      rcases ao.mp hu with g|g
      .rw[(hV0 u g).1];exact n1
      .rw[au.mp g,hd.1];exact n1
     have b6:=((Same.refl b0).upd (o:=.lst D) hl).upd (o:=.tup D) c2;have b8:upd (upd b0 l (.lst D)) G (.tup D) G=some (.tup D):=A0;have e5:=d7.same b6;generalize upd (upd b0 l (.lst D)) G (.tup D)=d2 at b6 b8 e5;refine⟨_,rfl,by show 3<=sizeLine;omega,λR k5=>?_⟩;have b7:=(Same.refl d2).upd (o:=.tup [.ref t1,.ref G,.ref t2]) k5;have d6:upd d2 R (.tup [.ref t1,.ref G,.ref t2]) R=some (.tup [.ref t1,.ref G,.ref t2]):=A0;generalize upd d2 R (.tup [.ref t1,.ref G,.ref t2])=d3 at b7 d6;have g8:=C.same ((c9.trans b6).trans b7);have f9:=p g8;refine⟨O,e4,_,rfl,rfl,g8.e,by omega,?_⟩;obtain⟨m1,m2⟩:=more (b7 _ _ b8) (e5.same b7) b3 j7 hV0 hd.1 hd.2;have M:=g8.app (x:=.ref R) ⟨R,_,_,_,rfl,d6,_,_,_,g1 f9,m1,g2 f9,.inr (.inl m2)⟩;exact⟨_,rfl,kk O _ _ M.e (by have:=M.l;omega) M.w M.P M.off⟩
    .exact⟨_,rfl,kk O e4 _ C.e (by omega) C.w C.P C.off⟩
   have Z:=p a2;refine⟨_,rfl,bu _,λh8 k1=>?_⟩;have i2:=(Same.refl d1).upd (o:=.tup []) k1;have h0:upd d1 h8 (.tup []) h8=some (.tup []):=A0;generalize upd d1 h8 (.tup [])=a0 at i2 h0;have U:=a2.same i2;have a8:=p U;refine⟨2,_,by decide,EqV.its (k:=true) (SqT.of (a8 _ _ ht1)) (SqT.of h0) (a8.its hI1) Its.nil,⟨_,_,rfl,rfl⟩,_,rfl,Z0 (λew=>?_) (λew=>?_)⟩
   .have hne1:T1≠[]:=by simpa using ew
    refine⟨_,rfl,bu _,λa3 c1=>?_⟩;have b4:=(Same.refl a0).upd (o:=.tup []) c1;have b1:upd a0 a3 (.tup []) a3=some (.tup []):=A0;generalize upd a0 a3 (.tup [])=m7 at b4 b1;have C:=U.same b4;have d:=p C;refine⟨2,_,by decide,EqV.its (k:=true) (SqT.of (d _ _ ht0)) (SqT.of b1) (d.its hI0) Its.nil,⟨_,_,rfl,rfl⟩,_,rfl,Z0 (λj3=>?_) (λj3=>?_)⟩
    .have hne0:T0≠[]:=by simpa using j3
     have q9:0<zs.length:=by rw[hI1.1];exact dt.mpr hne1
     have m0:0<ys.length:=by rw[hI0.1];exact dt.mpr hne0
     refine⟨_,rfl,_,rfl,_,rfl,t1,zs,rfl,.inr (SqT.of (d _ _ ht1)),a,b,_,_,rfl,C.P,by omega,by omega,by omega,λi0 g5 n7 n9 e7 c4=>?_⟩;obtain⟨x1,l9⟩:∃x,zs[i0.toNat]?=some x:=⟨_,ak (by omega)⟩;have d5:=C.pot e7 c4;have d0:=p d5;obtain⟨I,l1,_,va,rfl,d9⟩:=hI1.mem l9;refine⟨t1,zs,_,.ref va,rfl,rfl,SqT.of (d0 _ _ ht1),by rw[show i0=((i0.toNat:Nat):Int) by omega];exact P7 l9,?_⟩;refine⟨_,rfl,_,rfl,_,rfl,t0,ys,rfl,.inr (SqT.of (d0 _ _ ht0)),a,b,_,_,rfl,d5.P,by omega,by omega,by omega,λi1 a9 o0 o1 e8 c5=>?_⟩;obtain⟨x0,l8⟩:∃x,ys[i1.toNat]?=some x:=⟨_,ak (by omega)⟩;have g6:=d5.pot e8 c5;have f6:=p g6;obtain⟨J,l3,_,vb,rfl,n3⟩:=hI0.mem l8;refine⟨t0,ys,_,.ref vb,rfl,rfl,SqT.of (f6 _ _ ht0),by rw[show i1=((i1.toNat:Nat):Int) by omega];exact P7 l8,?_⟩;refine⟨by show 2<=sizeLine;omega,λY a5=>⟨Y,[.ref va,.ref vb],rfl,SqT.of A0,rfl,.ref va,[.ref vb],rfl,.ref vb,[],rfl,rfl,?_⟩⟩;have b5:=(Same.refl a9).upd (o:=.tup [.ref va,.ref vb]) a5;generalize upd a9 Y (.tup [.ref va,.ref vb])=m8 at b5;have i8:=g6.same b5;have f7:=p i8;have h5:=f7 _ _ d9;have h6:=f7 _ _ n3;have hA:=hV1 I l1;have hB:=hV0 J l3;clear a2 U C d5 g6 Z a8 d d0 f6 i2 b4 h0 b1 e7 c4 e8 c5
     try dsimp only[B0,List.set]
     refine⟨_,rfl,_,rfl,by omega,by omega,?_⟩;rw[bE];refine a0V (caps:=[some (.ref va),some (.ref vb)]) (λj=>V.int (I.getD j 0+J.getD j 0)) (by omega) rfl (λj H1 Q1 hj s1 q=>⟨_,rfl,_,rfl,va,_,_,_,rfl,rfl,SqT.of (s1 _ _ h5),R1 (by omega),_,rfl,_,rfl,vb,_,_,_,rfl,rfl,SqT.of (s1 _ _ h6),R1 (by omega),_,_,rfl,rfl,q⟩) λb0 c7 e1 k4=>?_;refine⟨c7,_,rfl,.inl ⟨SqL.of A0,λG c2=>?_⟩⟩;have b6:=(e1.upd (o:=.lst ((List.range n).map λj=>V.int (I.getD j 0+J.getD j 0))) k4).upd (o:=.tup ((List.range n).map λj=>V.int (I.getD j 0+J.getD j 0))) c2;have b8:upd (upd b0 c7 (.lst ((List.range n).map λj=>V.int (I.getD j 0+J.getD j 0)))) G (.tup ((List.range n).map λj=>V.int (I.getD j 0+J.getD j 0))) G=some (.tup (((List.range n).map λj=>I.getD j 0+J.getD j 0).map V.int)):=by rw[A0,cK];rfl
     generalize upd (upd b0 c7 (.lst ((List.range n).map λj=>V.int (I.getD j 0+J.getD j 0)))) G (.tup ((List.range n).map λj=>V.int (I.getD j 0+J.getD j 0)))=d2 at b6 b8;have hd:((List.range n).map λj=>I.getD j 0+J.getD j 0).length=n/\∀x∈(List.range n).map (λj=>I.getD j 0+J.getD j 0),0<=x/\x<=5000:=by
      refine⟨by rw[ai,eJ],λx hx=>?_⟩;obtain⟨j,hj,rfl⟩:=aN.mp hx;have hj:=aY.mp hj;have q1:=hA.2 (I.getD j 0) (by rw[av,ak (by omega)];exact cc _);have q2:=hB.2 (J.getD j 0) (by rw[av,ak (by omega)];exact cc _);omega
     have g7:=i8.same b6;have f8:=p g7;have l4:=f8 _ _ ht1
     try dsimp only[B0,List.set]
     refine⟨_,rfl,.inl ⟨rfl,_,SqL.of g7.e⟩,?_⟩;refine b4i (K:=K) (t:=t1) (va:=G) (n:=n) (D4 (a1Z rfl l4) (L6 (x:=.ref G) λH' Q' q=>⟨_,rfl,q⟩) (by show _+1<=_;omega)) (f8.its hI1) b8 n1 (λu hu=>(hV1 u hu).1) hd.1 λR d3 D a4 b7 d6 j4 b3=>?_;refine⟨_,rfl,_,rfl,by show 3<=sizeLine;omega,λc8 k6=>?_⟩;have e2:=(Same.refl d3).upd (o:=.tup [.ref R,.ref t0,.ref t2]) k6;have j2:upd d3 c8 (.tup [.ref R,.ref t0,.ref t2]) c8=some (.tup [.ref R,.ref t0,.ref t2]):=A0;generalize upd d3 c8 (.tup [.ref R,.ref t0,.ref t2])=p6 at e2 j2;have M:=g7.same (b7.trans e2);have g3:=p M;have p0:=M.l;refine⟨O,b9,_,rfl,rfl,M.e,by omega,?_⟩;obtain⟨m1,m2⟩:=more (e2 _ _ d6) (j4.same e2) b3 j8 hV1 hd.1 hd.2;have m9:=M.app (x:=.ref c8) ⟨c8,_,_,_,rfl,j2,_,_,_,m1,g0 g3,g2 g3,.inl m2⟩;exact fin2 _ _ ⟨_,_,_,_,rfl,m9.mono (by omega) (by decide)⟩
    .exact fin2 _ _ ⟨_,_,_,b9,rfl,C.mono (by omega) (by decide)⟩
   .exact E1 (fin2 _ _ ⟨_,_,_,b9,rfl,U.mono (by omega) (by decide)⟩)
  have a7:=p a1;have o5:=a1.l;refine⟨_,rfl,_,rfl,2,_,by decide,EqV.its (k:=true) (SqT.of (a7 _ _ ht1)) (SqT.of (a7 _ _ ht0)) (a7.its hI1) (a7.its hI0),⟨_,_,rfl,rfl⟩,_,rfl,Z0 (λew=>?_) (λew=>?_)⟩
  .have hne:T1≠T0:=by simpa using ew
   refine⟨_,rfl,.inl ⟨rfl,_,SqL.of a1.e⟩,_,rfl,_,rfl,_,rfl,by show 3<=sizeLine;omega,λc6 k0=>?_⟩;have m3:=(Same.refl g4).upd (o:=.tup [.ref t0,.ref t1,.ref t2]) k0;have i9:upd g4 c6 (.tup [.ref t0,.ref t1,.ref t2]) c6=some (.tup [.ref t0,.ref t1,.ref t2]):=A0;generalize upd g4 c6 (.tup [.ref t0,.ref t1,.ref t2])=d1 at m3 i9;have a2:=a1.same m3;have Z:=p a2;refine⟨O,m5,_,rfl,rfl,a2.e,by omega,?_⟩;have U:=a2.app (x:=.ref c6) ⟨c6,_,_,_,rfl,i9,_,_,_,g0 Z,g1 Z,g2 Z,.inl λrss z=>by cases z;exact hne.symm⟩;exact fin1 _ _ ⟨_,_,_,_,rfl,U.mono (by omega) (by decide)⟩
  .exact fin1 _ _ ⟨_,_,_,m5,rfl,a1.mono (by omega) (by decide)⟩
end
end K30
namespace K30
open PySem PySem.Spec PyProof.Rows L2
variable {rss:LLI}{ss:qI}
def b2c{n k:Nat}{F W:LLI}(hR:∀r∈sdS rss ss,r.length=(sdC n).length)(h:Wk (sdS rss ss) (sdC n) F W [] k):1<=W.length:=by
 have b:J7 (n+1) 0∈K7 (sdC n):=by
  unfold K7;rw[E2];refine aQ.mpr ⟨aN.mpr ⟨0,aY.mpr (by omega),rfl⟩,?_⟩;obtain⟨u,t,e,a⟩:=a5P (n:=n) (v:=J7 (n+1) 0) (by simp[J7]);have h1:=a9s (a6o (n+1) 0) t (by rw[e];exact aH _ (bT _));rw[a4v (n+1) 0 (by omega)]at h1;rw[e];exact b6Q a h1
 exact fF ((h.pap hR).fst _ b)
structure Byt(H:Hp)(q t b pp:qE)(zs ys ws:qA V)(rss:LLI)(ss:qI)(n:Nat)(qO Fl W:LLI)(k:Nat):Prop where
 q:H q=some (.tup [.ref t,.ref b,.ref pp])
 t:H t=some (.tup zs)
 It:Its H zs (L7 1 qO)
 b:H b=some (.tup ys)
 Ib:Its H ys (L7 0 qO)
 p:H pp=some (.tup ws)
 Ip:Its H ws W
 wk:Wk (sdS rss ss) (sdC n) Fl W [] k
 wl:W.length<=60
 pm:qO.Perm Fl
 l:qO.length<=60
 ri:C7 qO
 nd:qO.Nodup
 vn:Vn (n+1) 61 qO
 ls:∀v,v∈qO↔Least (sdS rss ss) (sdC n) v
def Byt.tk{H H':Hp}{q t b a:qE}{zs ys c:qA V}{n:Nat}{qO Fl W:LLI}{k:Nat}(h:Byt H q t b a zs ys c rss ss n qO Fl W k)(s:Tk H H'):Byt H' q t b a zs ys c rss ss n qO Fl W k:=⟨s _ _ h.q,s _ _ h.t,s.its h.It,s _ _ h.b,s.its h.Ib,s _ _ h.p,s.its h.Ip,h.wk,h.wl,h.pm,h.l,h.ri,h.nd,h.vn,h.ls⟩
section
variable {n k:Nat}{qO Fl W:LLI}
def a7e{a b:LLI}{v:qI}:v∈(a.map λv=>v++[1])++b.map (λv=>v++[0])↔(∃u,u∈a/\v=u++[1])∨∃u,u∈b/\v=u++[0]:=by
 rw[ao,aN,aN];constructor
 .rintro(⟨u,h1,h2⟩|⟨u,h1,h2⟩)
  .exact .inl ⟨u,h1,h2.symm⟩
  .exact .inr ⟨u,h1,h2.symm⟩
 .rintro(⟨u,h1,h2⟩|⟨u,h1,h2⟩)
  .exact .inl ⟨u,h1,h2.symm⟩
  .exact .inr ⟨u,h1,h2.symm⟩
def Z6{u v:qI}{a b:Int}(h:u++[a]=v++[b]):u=v/\a=b:=by
 have h1:=List.append_inj_left' h rfl;have h2:=List.append_inj_right' h rfl;injection h2 with h2
 exact⟨h1,h2⟩
def b6M(d:∀r∈sdS rss ss,r.length=(sdC n).length)(g:Wk (sdS rss ss) (sdC n) Fl W [] k)(pm:qO.Perm Fl)(f:C7 qO)(nd:qO.Nodup)(j:∀v∈qO,v.length=n+1/\(v.getLast?=some 1∨v.getLast?=some 0)):b8B rss ss n (some (L7 1 qO)) (some (L7 0 qO)) (some W):=by
 obtain⟨w,m⟩:=a0A (t:=1) (λv c=>(j v c).1) f nd;obtain⟨s,l⟩:=a0A (t:=0) (λv c=>(j v c).1) f nd;have pap:=g.pap d;have z:=g.lv.2.2.2.2.2.2.1;refine⟨_,_,W,qO,rfl,rfl,rfl,w,m,s,l,?_,f,b4p d g pm f (λv c=>?_) (λv c=>.inl c) λv c=>.inl c⟩
 .have nB:(((L7 1 qO).map λv=>v++[1])++(L7 0 qO).map (λv=>v++[0])).Nodup:=by
   refine dO.mpr ⟨bL.mpr (m.imp λ{a b} h e=>h (dZ e)),bL.mpr (l.imp λ{a b} h e=>h (dZ e)),λx o y p e=>?_⟩;obtain⟨u,_,rfl⟩:=aN.mp o;obtain⟨A,_,rfl⟩:=aN.mp p;cases(Z6 e).2
  refine(List.perm_ext_iff_of_nodup nd nB).mpr λv=>?_;rw[a7e];constructor
  .intro c;rcases(j v c).2 with q|q
   .obtain⟨ys',rfl⟩:=dS.mp q;exact .inl ⟨ys',mem_endL.mpr c,rfl⟩
   .obtain⟨ys',rfl⟩:=dS.mp q;exact .inr ⟨ys',mem_endL.mpr c,rfl⟩
  .rintro(⟨u,hu,rfl⟩|⟨u,hu,rfl⟩)
   .exact mem_endL.mp hu
   .exact mem_endL.mp hu
 .obtain⟨i,hi1,hi2,lv⟩:=g.lv.2.1 v c;exact⟨lv.len,lv.nn,by rw[lv.sum];omega,pap.wi v c⟩
def b6N(f:∀r∈sdS rss ss,r.length=(sdC n).length)(G:Wk (sdS rss ss) (sdC n) Fl W [] k)(pm:qO.Perm Fl)(l:C7 qO)(nd:qO.Nodup)(o:∀v∈qO,v.length=n+1){q s w:qD (LLI)}(h:b8B rss ss n q s w)(g:(∀rss,q=some rss->rss≠L7 1 qO)∨(∀rss,s=some rss->rss≠L7 0 qO)∨∀a,w=some a->a.all (a1v (sdC n))=false):False:=by
 obtain⟨c,d,a,b,rfl,rfl,rfl,F,y,E,x,i,B,m⟩:=h;obtain rfl:b=qO:=b4q f G pm l m;obtain⟨D,A⟩:=a0A (t:=1) o l nd;obtain⟨C,z⟩:=a0A (t:=0) o l nd;have p:∀v,v∈b↔(∃u,u∈c/\v=u++[1])∨∃u,u∈d/\v=u++[0]:=λv=>i.mem_iff.trans a7e;rcases g with h|h|h
 .refine h c rfl (Q0 F D y A λv=>?_);rw[mem_endL,p];constructor
  .exact λj=>.inl ⟨v,j,rfl⟩
  .rintro(⟨u,hu,e⟩|⟨u,hu,e⟩)
   .rw[(Z6 e).1];exact hu
   .cases(Z6 e).2
 .refine h d rfl (Q0 E C x z λv=>?_);rw[mem_endL,p];constructor
  .exact λj=>.inr ⟨v,j,rfl⟩
  .rintro(⟨u,hu,e⟩|⟨u,hu,e⟩)
   .cases(Z6 e).2
   .rw[(Z6 e).1];exact hu
 .have hf:=m.fit;rw[List.all_append,h a rfl,df]at hf;cases hf
end
section
variable {P:qG}{w:World}{K:qF}{mg:Str->qD qB}{base:Heap}
def sc_law:FnScope ["_law_script","_law_pot_here","_law_turn","_law_rows","_law_width","_law_sides_here","_law_told","_law_one","_law_other","_law_paper"] ["_law_script"] (A2 a3k):={}
def b7I{f:qE}{fd:FuncData}(F':Fun K "law" "law" a3k f fd)(T:Tx mg)(C:Ok P w K mg base "_law_pot" 1 ["_law_script"] (b6l K))(l:Ok P w K mg base "_law_system" 3 ["_law_pot_here","_law_wide","_law_far"] b6j)(p:Ok P w K mg base "_law_sides" 2 ["_law_pot_here","_law_rows","_law_width"] a6B)(e:Ok P w K mg base "_law_beyond" 9 ["_law_rows","_law_sides_here","_law_width","_law_most"] a4y)(d:Ok P w K mg base "shows_beyond" 7 ["rows","sides","width","told","base","paper"] b1O)(g:Ok P w K mg base "_law_others" 3 ["_law_pot_here","_law_told","_law_base","_law_paper","_law_width"] a6z) :
  FnOk P w K mg base CX0 10 f fd ["_law_script"] (a9c K):=by
 refine F'.okJ sc_law (λvs H Q E h=>?_) (λe9 A e8 s H vs Q E y h=>?_)
 .obtain⟨a,ns,rfl,_⟩:=h;rfl
 .obtain⟨c,ns,rfl,hS,hl,kk⟩:=h;have hu:=y.u60;have hz:(3000:Nat)<=sizeLine:=by rw[aT];decide
  refine⟨_,(A1 (B2 (i:=1) sc_law.nd rfl (Or.inl rfl) (A6 C (y.mono (by omega)) rfl (jaC (jv 0) jaN)))
 (A1 (N8 (J0 rfl T.b_range (jaC A4 jaN)) (A7 (i:=2) sc_law.nd rfl (Or.inl rfl))
 (A1 (a3F (A6 l (y.mono (by omega)) rfl (jaC (jv 1) (jaC A4 (jaC (a3I A4 A4) jaN)))) (V1 K 2 (C0 (A7 (i:=3) sc_law.nd rfl (Or.inl rfl)) (C0 (A7 (i:=4) sc_law.nd rfl (Or.inl rfl)) N1))))
 (A1 (B2 (i:=5) sc_law.nd rfl (Or.inl rfl) (A6 p (y.mono (by omega)) rfl (jaC (jv 1) (jaC (jv 3) (jaC (jv 4) jaN)))))
 (A1 (B2 (i:=6) sc_law.nd rfl (Or.inl rfl) (A6 e (y.mono (by omega)) rfl (jaC (jv 3) (jaC (jv 5) (jaC (jv 4) (jaC A4 jaN))))))
 (A5 (C9 (a9y (jv 6) W1)
 (A1 (C9 (a1T true (A6 d (y.mono (by omega)) rfl (jaC (jv 3) (jaC (jv 5) (jaC (jv 4) (jaC (D5 K (jv 6) A4) (jaC (D5 K (jv 6) A4) (jaC (D5 K (jv 6) A4) jaN))))))) K5)
 (A5 (A9 K5))
 C2)
 (A1 (N8 (E3 K (A6 g (y.mono (by omega)) rfl (jaC (jv 1) (jaC (D5 K (jv 6) A4) (jaC (D5 K (jv 6) A4) (jaC (D5 K (jv 6) A4) (jaC (jv 4) jaN))))))) (V1 K 3 (C0 (A7 (i:=7) sc_law.nd rfl (Or.inl rfl)) (C0 (A7 (i:=8) sc_law.nd rfl (Or.inl rfl)) (C0 (A7 (i:=9) sc_law.nd rfl (Or.inl rfl)) N1))))
 (A5 (C9 (a1T false (A6 d (y.mono (by omega)) rfl (jaC (jv 3) (jaC (jv 5) (jaC (jv 4) (jaC (jv 7) (jaC (jv 8) (jaC (jv 9) jaN))))))) K5)
 (A5 (A9 K5))
 C2)))
 (A5 (C9 (a1T true (A6 d (y.mono (by omega)) rfl (jaC (jv 3) (jaC (jv 5) (jaC (jv 4) (jaC (D5 K (jv 6) A4) (jaC (D5 K (jv 6) A4) (jaC (D5 K (jv 6) A4) jaN))))))) K5)
 (A5 (A9 K5))
 C2))))
 C2))))))
 (A5 (A9 K5)))),?_⟩
  refine⟨_,rfl,c,ns,rfl,hS,hl,λa b H1 _ _ c4 _=>?_⟩;refine⟨_,rfl,by decide,by decide,?_⟩;refine a4P (lo:=0) (n:=2) (λi σ H'=>Ex8 λo2 o3 o4 o5 o6 o7 o8 o9=>An2 (σ=[some (.ref c),some (.ref a),o2,o3,o4,o5,o6,o7,o8,o9]) (PotAt H' a b (1000*i))) ⟨none,none,none,none,none,none,none,none,rfl,c4⟩ ?_ ?_
  .rintro i σ H hi ⟨o2,o3,o4,o5,o6,o7,o8,o9,rfl,hP⟩
   try dsimp only[B0,List.set]
   refine⟨_,rfl,_,_,rfl,rfl,⟨by decide,by decide,by decide⟩,a,b,_,7,_,rfl,by decide,by decide,by decide,by decide,hP,by omega,λq Z us rss m H2 hq a1 hI a3 hR J L e5 M d6=>?_⟩;have e1:(10:Int) ^ Int.toNat 12=1000000000000:=by decide
   rw[e1]at hR;refine⟨q,[.ref Z,.int m],rfl,SqT.of hq,rfl,.ref Z,[.int m],rfl,.int m,[],rfl,rfl,?_⟩
   try dsimp only[B0,List.set]
   clear hq e5;refine⟨_,rfl,_,rfl,_,rfl,a,b,Z,us,rss,_,m,rfl,M,by omega,a1,hI,a3,λr y=>(hR r y).1,J,L,λsa ss H3 hsa a2 hsb b0 V=>?_⟩;have a7:=V _ _ (a6U M a1) a1;have c0:=a2P hI M V;have b2:Ry H3 Z us rss m 1000000000003:=⟨a7,c0,a3,λr y=>(hR r y)⟩;have D:Bd 10000000000000 ss:=λz hz=>by have:=hsb z hz;omega
   clear a1 hI M d6 V hP c4
   try dsimp only[B0,List.set]
   refine⟨_,rfl,_,rfl,_,rfl,Z,sa,us,rss,m,60,ss,_,_,1000000000003,rfl,rfl,rfl,b2,by decide,by decide,J,L,by decide,a2,D,hsa,λF t b' Y zs ys ws qO Fl W k H9 s9 d4 d5 c3 c8 c1 d3 c2 hW e3 b4 e7 R O b6 d2=>?_,λH9 s9 _=>?_⟩
   .have B9:Byt H9 F t b' Y zs ys ws rss ss m qO Fl W k:=⟨d4,d5,c3,c8,c1,d3,c2,hW,e3,b4,e7,R,O,b6,d2⟩;clear d4 d5 c3 c8 c1 d3 c2;have R9:=b2.same s9;have a8:=s9 _ _ hsa;have e2:=b0.same s9;clear b2 hsa b0 s9 a7 c0;have b1:∀r∈sdS rss ss,r.length=(sdC m).length:=λr e6=>by
     obtain⟨x,sz,X,f7,rfl⟩:=a5u e6;rw[ag,(hR x X).1,E2];rfl
    have U:∀v∈qO,v.length=m+1:=λv hv=>(b6 v hv).1;have b3:∀v∈qO,v.length=m+1/\(v.getLast?=some 1∨v.getLast?=some 0):=λv hv=>by
     have hL:=(d2 v).mp hv;obtain⟨u,z,rfl,a3⟩:=a5P (n:=m) (U v hv);have h1:=a6J a3 hL.wi;have h0:=hL.an.nn z (aH _ (bT _));refine⟨U _ hv,?_⟩;rw[List.getLast?_append];have:z=1∨z=0:=by omega
     rcases this with rfl|rfl
     .exact .inl rfl
     .exact .inr rfl
    obtain⟨r1,d1⟩:=a0A (t:=1) U R O;obtain⟨r0,d0⟩:=a0A (t:=0) U R O;have c9:∀t:Int,(L7 t qO).length<=qO.length:=λt=>by unfold L7;rw[ai];exact bD _ _
    have l1:=c9 1;have l0:=c9 0;have hE:∀(t:Int) v,v∈L7 t qO->v.length=m/\∀x∈v,0<=x/\x<=1000:=λt v hv=>by
     have h1:=b6 _ (mem_endL.mp hv);refine⟨by simpa using h1.1,λx X=>by have:=h1.2 x (aO _ X);omega⟩
    have c6:∀v∈W,v.length=m+1/\∀x∈v,0<=x/\x<=1000:=λv hv=>by
     obtain⟨i',f5,f6,lv⟩:=hW.lv.2.1 v hv;have hk:=hW.lv.2.2.2.2.2.2.1;refine⟨by rw[lv.len,E2],λx X=>⟨lv.nn x X,?_⟩⟩;have:=a9s lv.nn x X;rw[lv.sum]at this;omega
    have f3:=b2c b1 hW;have up:∀{u:qI}{n':Nat},(u.length=n'/\∀x∈u,0<=x/\x<=1000)->u.length=n'/\∀x∈u,0<=x/\x<=10000000000000:=λh=>⟨h.1,λx X=>by have:=h.2 x X;omega⟩;have f1:∀{H':Hp},Byt H' F t b' Y zs ys ws rss ss m qO Fl W k->Fo H' m (.ref t) (some (L7 1 qO)):=λB=>⟨t,zs,rfl,B.t,B.It,by rw[B.It.1];omega,λr y=>up (hE 1 r y)⟩;have f0:∀{H':Hp},Byt H' F t b' Y zs ys ws rss ss m qO Fl W k->Fo H' m (.ref b') (some (L7 0 qO)):=λB=>⟨b',ys,rfl,B.b,B.Ib,by rw[B.Ib.1];omega,λr y=>up (hE 0 r y)⟩;have f2:∀{H':Hp},Byt H' F t b' Y zs ys ws rss ss m qO Fl W k->Fo H' (m+1) (.ref Y) (some W):=λB=>⟨Y,ws,rfl,B.p,B.Ip,by rw[B.Ip.1];omega,λr y=>up (c6 r y)⟩;have tok:=b6M b1 hW b4 R O b3;have g0:=B9.It.1;have f9:=B9.Ib.1;have f8:=B9.Ip.1
    try dsimp only[B0,List.set]
    refine⟨_,rfl,rfl,true,rfl,G8 ?_⟩;refine⟨_,rfl,_,rfl,_,rfl,_,rfl,F,_,_,.ref t,rfl,rfl,SqT.of B9.q,rfl,_,rfl,F,_,_,.ref b',rfl,rfl,SqT.of B9.q,rfl,_,rfl,F,_,_,.ref Y,rfl,rfl,SqT.of B9.q,rfl,Z,sa,us,rss,ss,m,_,_,_,_,_,_,_,_,rfl,rfl,R9,by decide,a2,D,a8,J,L,f1 B9,f0 B9,f2 B9,λbb d9 a4 c7=>?_⟩;obtain rfl:bb=true:=c7.mpr tok;refine⟨rfl,_,rfl,E1 ?_⟩;have o:=B9.tk (Tk.same a4);have a0:=R9.same a4;have b5:=a4 _ _ a8;have a5:=e2.same a4;refine⟨_,rfl,_,rfl,F,_,_,.ref t,rfl,rfl,SqT.of o.q,rfl,_,rfl,F,_,_,.ref b',rfl,rfl,SqT.of o.q,rfl,_,rfl,F,_,_,.ref Y,rfl,rfl,SqT.of o.q,rfl,_,rfl,a,b,b',t,Y,_,m,_,zs,ys,ws,_,_,W,rfl,rfl,a5,by omega,J,L,o.t,o.It,by omega,hE 1,d1,o.b,o.Ib,by omega,hE 0,d0,o.p,o.Ip,by omega,by omega,c6,λd7 gs a9 a6 f4 e4 c5 b7=>?_⟩;have G:Tk d9 a9:=Tk.pot a5 b7;have d8:=o.tk G;have b9:Ry a9 Z us rss m 1000000000003:=⟨G _ _ a0.e,G.its a0.I,a0.l,a0.R⟩;have S:=G _ _ b5;refine⟨d7,rfl,⟨_,SqL.of a6⟩,?_⟩;refine N7 (K:=K) (a:=d7) (xs:=gs) (λj σ H'=>Ex3 λo7 o8 o9=>An2 (σ=[some (.ref c),some (.ref a),some (.int (0+i)),some (.ref Z),some (.int m),some (.ref sa),some (.ref F),o7,o8,o9]) (Same a9 H')) ⟨_,_,_,rfl,Same.refl _⟩ (λj σ H' _ h=>by obtain⟨_,_,_,_,s⟩:=h;exact SqL.of (s _ _ a6)) ?_ ?_
    .rintro j x σ H12 X ⟨o7,o8,o9,rfl,s12⟩;obtain⟨qx,x1,y1,z1,rfl,ex,ox,oy,oz,h1,h2,h3,h4⟩:=(e4 x (aE X)).keep (.same s12);refine⟨qx,[x1,y1,z1],rfl,SqT.of ex,rfl,x1,[y1,z1],rfl,y1,[z1],rfl,z1,[],rfl,rfl,?_⟩
     try dsimp only[B0,List.set]
     refine⟨_,rfl,_,rfl,_,rfl,_,rfl,_,rfl,_,rfl,Z,sa,us,rss,ss,m,_,_,_,_,_,ox,oy,oz,rfl,rfl,b9.same s12,by decide,a2,D,s12 _ _ S,J,L,h1,h2,h3,λbb e0 b8 N=>?_⟩;cases bb with
     |true=>exact(b6N b1 hW b4 R O U (N.mp rfl) h4).elim
     |false=>exact⟨rfl,_,rfl,E1 ⟨_,_,_,rfl,s12.trans b8⟩⟩
    .rintro σ H12 ⟨o7,o8,o9,rfl,s12⟩;have I:=d8.tk (Tk.same s12);refine⟨_,rfl,_,rfl,_,rfl,_,rfl,F,_,_,.ref t,rfl,rfl,SqT.of I.q,rfl,_,rfl,F,_,_,.ref b',rfl,rfl,SqT.of I.q,rfl,_,rfl,F,_,_,.ref Y,rfl,rfl,SqT.of I.q,rfl,Z,sa,us,rss,ss,m,_,_,_,_,_,_,_,_,rfl,rfl,b9.same s12,by decide,a2,D,s12 _ _ S,J,L,f1 I,f0 I,f2 I,λbb e0 b8 N=>?_⟩;obtain rfl:bb=true:=N.mpr tok;exact⟨rfl,_,rfl,E1 ⟨_,_,_,_,_,_,_,_,rfl,((c5.same s12).same b8).mono (by omega)⟩⟩
   .try dsimp only[B0,List.set]
    exact⟨_,rfl,rfl,false,rfl,E1 ⟨_,_,_,_,_,_,_,_,rfl,(b0.same s9).mono (by omega)⟩⟩
  .rintro σ H2 ⟨o2,o3,o4,o5,o6,o7,o8,o9,rfl,M⟩;exact kk H2
end
end K30
namespace K30
open PySem PySem.Spec PyProof.Rows L2
open PySem.W
def nI(K:qF)(x:Str)(f:qE):Prop:=nsIn K mainGlobals x=some (some (.ref f))
def all_mk{l:PySem.W.OpenLaw}{w:World}{K:qF}{h:Heap}{mg:Str->qD qB}{fa:qE}(X:K.In h)(G:h.Ns mainGlobals mg)(I1:mg "law"=some (.ref fa))
 (a1:nI K "free" f1) (l1:FnL K f1 "free" "free" a5D o1 d1 s1 v1 x1 p1 n1 c1 t1) (H1:codeIn K c1 "free"=true) (k1:keepIn K (.ref f1)=true)
 (a2:nI K "within" f2) (l2:FnL K f2 "within" "within" a1e o2 d2 s2 v2 x2 p2 n2 c2 t2) (H2:codeIn K c2 "within"=true) (k2:keepIn K (.ref f2)=true)
 (a3:nI K "row_sum" f3) (l3:FnL K f3 "row_sum" "row_sum" a0q o3 d3 s3 v3 x3 p3 n3 c3 t3) (H3:codeIn K c3 "row_sum"=true) (k3:keepIn K (.ref f3)=true)
 (a4:nI K "sums" f4) (l4:FnL K f4 "sums" "sums" a5C o4 d4 s4 v4 x4 p4 n4 c4 t4) (H4:codeIn K c4 "sums"=true) (k4:keepIn K (.ref f4)=true)
 (a5:nI K "is_answer" f5) (l5:FnL K f5 "is_answer" "is_answer" T7 o5 d5 s5 v5 x5 p5 n5 c5 t5) (H5:codeIn K c5 "is_answer"=true) (k5:keepIn K (.ref f5)=true)
 (a6:nI K "pull_of" f6) (l6:FnL K f6 "pull_of" "pull_of" a0r o6 d6 s6 v6 x6 p6 n6 c6 t6) (H6:codeIn K c6 "pull_of"=true) (k6:keepIn K (.ref f6)=true)
 (a7:nI K "falls" f7) (l7:FnL K f7 "falls" "falls" a2L o7 d7 s7 v7 x7 p7 n7 c7 t7) (H7:codeIn K c7 "falls"=true) (k7:keepIn K (.ref f7)=true)
 (a8:nI K "below" f8) (l8:FnL K f8 "below" "below" a2M o8 d8 s8 v8 x8 p8 n8 c8 t8) (H8:codeIn K c8 "below"=true) (k8:keepIn K (.ref f8)=true)
 (a9:nI K "unit" f9) (l9:FnL K f9 "unit" "unit" a5B o9 d9 s9 v9 x9 p9 n9 c9 t9) (H9:codeIn K c9 "unit"=true) (k9:keepIn K (.ref f9)=true)
 (u5:nI K "least_of" f10) (l10:FnL K f10 "least_of" "least_of" W6 o10 d10 s10 v10 x10 p10 n10 c10 t10) (h8:codeIn K c10 "least_of"=true) (I2:keepIn K (.ref f10)=true)
 (u6:nI K "above_any" f11) (l11:FnL K f11 "above_any" "above_any" N5 o11 d11 s11 v11 x11 p11 n11 c11 t11) (h9:codeIn K c11 "above_any"=true) (I3:keepIn K (.ref f11)=true)
 (u7:nI K "first_steps" f12) (l12:FnL K f12 "first_steps" "first_steps" M2 o12 d12 s12 v12 x12 p12 n12 c12 t12) (i0:codeIn K c12 "first_steps"=true) (I4:keepIn K (.ref f12)=true)
 (u8:nI K "raised" f13) (l13:FnL K f13 "raised" "raised" a1f o13 d13 s13 v13 x13 p13 n13 c13 t13) (i1:codeIn K c13 "raised"=true) (I5:keepIn K (.ref f13)=true)
 (u9:nI K "steps" f14) (l14:FnL K f14 "steps" "steps" a2H o14 d14 s14 v14 x14 p14 n14 c14 t14) (i2:codeIn K c14 "steps"=true) (I6:keepIn K (.ref f14)=true)
 (v0:nI K "is_barred" f15) (l15:FnL K f15 "is_barred" "is_barred" T5 o15 d15 s15 v15 x15 p15 n15 c15 t15) (i3:codeIn K c15 "is_barred"=true) (I7:keepIn K (.ref f15)=true)
 (w0:nI K "next_level" f16) (l16:FnL K f16 "next_level" "next_level" O5 o16 d16 s16 v16 x16 p16 n16 c16 t16) (i4:codeIn K c16 "next_level"=true) (I8:keepIn K (.ref f16)=true)
 (w1:nI K "least" f17) (l17:FnL K f17 "least" "least" a2K o17 d17 s17 v17 x17 p17 n17 c17 t17) (i5:codeIn K c17 "least"=true) (L2:keepIn K (.ref f17)=true)
 (w2:nI K "is_number" f18) (l18:FnL K f18 "is_number" "is_number" T4 o18 d18 s18 v18 x18 p18 n18 c18 t18) (i6:codeIn K c18 "is_number"=true) (L8:keepIn K (.ref f18)=true)
 (w3:nI K "is_vector" f19) (l19:FnL K f19 "is_vector" "is_vector" T3 o19 d19 s19 v19 x19 p19 n19 c19 t19) (i7:codeIn K c19 "is_vector"=true) (N4:keepIn K (.ref f19)=true)
 (w4:nI K "are_vectors" f20) (l20:FnL K f20 "are_vectors" "are_vectors" M3 o20 d20 s20 v20 x20 p20 n20 c20 t20) (i8:codeIn K c20 "are_vectors"=true) (N6:keepIn K (.ref f20)=true)
 (w5:nI K "all_fit" f21) (l21:FnL K f21 "all_fit" "all_fit" a0t o21 d21 s21 v21 x21 p21 n21 c21 t21) (i9:codeIn K c21 "all_fit"=true) (Q1:keepIn K (.ref f21)=true)
 (w6:nI K "are_least" f22) (l22:FnL K f22 "are_least" "are_least" T8 o22 d22 s22 v22 x22 p22 n22 c22 t22) (j0:codeIn K c22 "are_least"=true) (Q2:keepIn K (.ref f22)=true)
 (w7:nI K "is_met" f23) (l23:FnL K f23 "is_met" "is_met" a1g o23 d23 s23 v23 x23 p23 n23 c23 t23) (j1:codeIn K c23 "is_met"=true) (Q3:keepIn K (.ref f23)=true)
 (w8:nI K "goes_on" f24) (l24:FnL K f24 "goes_on" "goes_on" a0s o24 d24 s24 v24 x24 p24 n24 c24 t24) (j2:codeIn K c24 "goes_on"=true) (Q4:keepIn K (.ref f24)=true)
 (w9:nI K "shows" f25) (l25:FnL K f25 "shows" "shows" a2J o25 d25 s25 v25 x25 p25 n25 c25 t25) (j3:codeIn K c25 "shows"=true) (Q5:keepIn K (.ref f25)=true)
 (x0:nI K "sided" f26) (l26:FnL K f26 "sided" "sided" a2I o26 d26 s26 v26 x26 p26 n26 c26 t26) (j4:codeIn K c26 "sided"=true) (R9:keepIn K (.ref f26)=true)
 (y0:nI K "sided_caps" f27) (l27:FnL K f27 "sided_caps" "sided_caps" O4 o27 d27 s27 v27 x27 p27 n27 c27 t27) (j5:codeIn K c27 "sided_caps"=true) (S1:keepIn K (.ref f27)=true)
 (y1:nI K "ending" f28) (l28:FnL K f28 "ending" "ending" a1h o28 d28 s28 v28 x28 p28 n28 c28 t28) (j6:codeIn K c28 "ending"=true) (S2:keepIn K (.ref f28)=true)
 (y2:nI K "beyond" f29) (l29:FnL K f29 "beyond" "beyond" a1i o29 d29 s29 v29 x29 p29 n29 c29 t29) (j7:codeIn K c29 "beyond"=true) (S3:keepIn K (.ref f29)=true)
 (y3:nI K "are_rising" f30) (l30:FnL K f30 "are_rising" "are_rising" O6 o30 d30 s30 v30 x30 p30 n30 c30 t30) (j8:codeIn K c30 "are_rising"=true) (S4:keepIn K (.ref f30)=true)
 (y4:nI K "shows_beyond" f31) (l31:FnL K f31 "shows_beyond" "shows_beyond" K0 o31 d31 s31 v31 x31 p31 n31 c31 t31) (j9:codeIn K c31 "shows_beyond"=true) (S5:keepIn K (.ref f31)=true)
 (y5:nI K "_law_pot" f32) (l32:FnL K f32 "_law_pot" "_law_pot" W7 o32 d32 s32 v32 x32 p32 n32 c32 t32) (k0:codeIn K c32 "_law_pot"=true) (S6:keepIn K (.ref f32)=true)
 (y6:nI K "_law_take" f33) (l33:FnL K f33 "_law_take" "_law_take" T9 o33 d33 s33 v33 x33 p33 n33 c33 t33) (l0:codeIn K c33 "_law_take"=true) (S7:keepIn K (.ref f33)=true)
 (y7:nI K "_law_number" f34) (l34:FnL K f34 "_law_number" "_law_number" M7 o34 d34 s34 v34 x34 p34 n34 c34 t34) (m0:codeIn K c34 "_law_number"=true) (S8:keepIn K (.ref f34)=true)
 (y8:nI K "_law_system" f35) (l35:FnL K f35 "_law_system" "_law_system" M4 o35 d35 s35 v35 x35 p35 n35 c35 t35) (m1:codeIn K c35 "_law_system"=true) (S9:keepIn K (.ref f35)=true)
 (y9:nI K "_law_sums" f36) (l36:FnL K f36 "_law_sums" "_law_sums" U0 o36 d36 s36 v36 x36 p36 n36 c36 t36) (m2:codeIn K c36 "_law_sums"=true) (T0:keepIn K (.ref f36)=true)
 (z0:nI K "_law_sides" f37) (l37:FnL K f37 "_law_sides" "_law_sides" O7 o37 d37 s37 v37 x37 p37 n37 c37 t37) (m3:codeIn K c37 "_law_sides"=true) (T6:keepIn K (.ref f37)=true)
 (B9:nI K "_law_beyond" f38) (l38:FnL K f38 "_law_beyond" "_law_beyond" M8 o38 d38 s38 v38 x38 p38 n38 c38 t38) (m4:codeIn K c38 "_law_beyond"=true) (U3:keepIn K (.ref f38)=true)
 (D1:nI K "_law_spoilt" f39) (l39:FnL K f39 "_law_spoilt" "_law_spoilt" M5 o39 d39 s39 v39 x39 p39 n39 c39 t39) (m5:codeIn K c39 "_law_spoilt"=true) (X3:keepIn K (.ref f39)=true)
 (D2:nI K "_law_odd_papers" f40) (l40:FnL K f40 "_law_odd_papers" "_law_odd_papers" G2 o40 d40 s40 v40 x40 p40 n40 c40 t40) (m6:codeIn K c40 "_law_odd_papers"=true) (k40:keepIn K (.ref f40)=true)
 (D3:nI K "_law_others" f41) (l41:FnL K f41 "_law_others" "_law_others" M6 o41 d41 s41 v41 x41 p41 n41 c41 t41) (m7:codeIn K c41 "_law_others"=true) (k41:keepIn K (.ref f41)=true)
 (H0:nI K "law" f42) (l42:FnL K f42 "law" "law" a3k o42 d42 s42 v42 x42 p42 n42 c42 t42) (m8:codeIn K c42 "law"=true) (k42:keepIn K (.ref f42)=true)
  (z1:PySem.W.nsIn K mainGlobals "ValueError"=some none) (z2:PySem.W.nsIn K mainGlobals "abs"=some none) (z3:PySem.W.nsIn K mainGlobals "all"=some none) (z4:PySem.W.nsIn K mainGlobals "any"=some none) (z5:PySem.W.nsIn K mainGlobals "bool"=some none) (z6:PySem.W.nsIn K mainGlobals "dict"=some none) (z7:PySem.W.nsIn K mainGlobals "int"=some none) (z8:PySem.W.nsIn K mainGlobals "isinstance"=some none) (z9:PySem.W.nsIn K mainGlobals "len"=some none) (z10:PySem.W.nsIn K mainGlobals "list"=some none) (z11:PySem.W.nsIn K mainGlobals "max"=some none) (z12:PySem.W.nsIn K mainGlobals "min"=some none) (z13:PySem.W.nsIn K mainGlobals "range"=some none) (z14:PySem.W.nsIn K mainGlobals "set"=some none) (z15:PySem.W.nsIn K mainGlobals "sorted"=some none) (z16:PySem.W.nsIn K mainGlobals "sum"=some none) (z17:PySem.W.nsIn K mainGlobals "tuple"=some none) (z18:PySem.W.nsIn K mainGlobals "zip"=some none)
  {o:qE}(e2:nI K "TooMany" o) {a:qE}(g8:nI K "Finder" a) {g3 g5:Str}{p:qE}{e5 m e1:qA qB}{e7 e3:Bool}{g6:qA Str}{e0:qD Bool}{e6:qD qE}{e9 f0 g0 g1 g2:qD qB}(lx_TooMany:K.lookup o=some (excClassObj g3 g5 o p e5 m e7 g6 e1 e3 e0 e6 e9 f0 g0 g1 g2 "ValueError.__new__")) (g7:PySem.W.tailIn K [.type "ValueError",.type "Exception",.type "BaseException",.type "object"] m=true) (g4:PySem.W.nsOkIn K p=true) (e8:PySem.W.nsIn K p "__init__"=some none) (e4:m.contains (.type "BaseException")=true) (pg_Finder:PySem.W.plainGet K a Str.empty=true) (g9:PySem.W.hasDictIn K a=true) (h2:PySem.W.plainOver K a=true) (h3:PySem.W.findIn K (.ref a) "__setattr__"=some (some (.builtin "object.__setattr__"))) (h1:PySem.W.makesIn K a=true) (h0:PySem.W.keepIn K (.ref a)=true) (d0:PySem.W.findIn K (.ref a) "rows"=some none) (b9:PySem.W.findIn K (.ref a) "caps"=some none) (V:PySem.W.findIn K (.ref a) "begun"=some none) (c0:PySem.W.findIn K (.ref a) "here"=some none) (W:PySem.W.findIn K (.ref a) "found"=some none) (A:PySem.W.findIn K (.ref a) "walked"=some none) (q:findIn K (.ref a) "__init__"=some (some (.ref f_Finder___init__))) (t:isFn K (.ref f_Finder___init__)=true) (x:FnL K f_Finder___init__ "__init__" "Finder.__init__" G3 o_Finder___init__ d_Finder___init__ s0_Finder___init__ v_Finder___init__ x_Finder___init__ p_Finder___init__ n0_Finder___init__ c0_Finder___init__ t_Finder___init__) (r:codeIn K c0_Finder___init__ "Finder.__init__"=true) (u:keepIn K (.ref f_Finder___init__)=true) (a0:findIn K (.ref a) "step"=some (some (.ref f_Finder_step))) (b3:isFn K (.ref f_Finder_step)=true) (b7:FnL K f_Finder_step "step" "Finder.step" a0L o_Finder_step d_Finder_step s0_Finder_step v_Finder_step x_Finder_step p_Finder_step n0_Finder_step c0_Finder_step t_Finder_step) (b1:codeIn K c0_Finder_step "Finder.step"=true) (b5:keepIn K (.ref f_Finder_step)=true) (f:findIn K (.ref a) "step_within"=some (some (.ref f_Finder_step_within))) (i:isFn K (.ref f_Finder_step_within)=true) (k:FnL K f_Finder_step_within "step_within" "Finder.step_within" D6 o_Finder_step_within d_Finder_step_within s0_Finder_step_within v_Finder_step_within x_Finder_step_within p_Finder_step_within n0_Finder_step_within c0_Finder_step_within t_Finder_step_within) (g:codeIn K c0_Finder_step_within "Finder.step_within"=true) (j:keepIn K (.ref f_Finder_step_within)=true) (D:findIn K (.ref a) "level"=some (some (.ref f_Finder_level))) (L:isFn K (.ref f_Finder_level)=true) (S:FnL K f_Finder_level "level" "Finder.level" Z8 o_Finder_level d_Finder_level s0_Finder_level v_Finder_level x_Finder_level p_Finder_level n0_Finder_level c0_Finder_level t_Finder_level) (H:codeIn K c0_Finder_level "Finder.level"=true) (O:keepIn K (.ref f_Finder_level)=true) (b0:findIn K (.ref a) "told"=some (some (.ref f_Finder_told))) (b4:isFn K (.ref f_Finder_told)=true) (b8:FnL K f_Finder_told "told" "Finder.told" M9 o_Finder_told d_Finder_told s0_Finder_told v_Finder_told x_Finder_told p_Finder_told n0_Finder_told c0_Finder_told t_Finder_told) (b2:codeIn K c0_Finder_told "Finder.told"=true) (b6:keepIn K (.ref f_Finder_told)=true) (E:findIn K (.ref a) "paper"=some (some (.ref f_Finder_paper))) (M:isFn K (.ref f_Finder_paper)=true) (U:FnL K f_Finder_paper "paper" "Finder.paper" K1 o_Finder_paper d_Finder_paper s0_Finder_paper v_Finder_paper x_Finder_paper p_Finder_paper n0_Finder_paper c0_Finder_paper t_Finder_paper) (I:codeIn K c0_Finder_paper "Finder.paper"=true) (Q:keepIn K (.ref f_Finder_paper)=true) (C:findIn K (.ref a) "ended"=some (some (.ref f_Finder_ended))) (J:isFn K (.ref f_Finder_ended)=true) (R:FnL K f_Finder_ended "ended" "Finder.ended" K2 o_Finder_ended d_Finder_ended s0_Finder_ended v_Finder_ended x_Finder_ended p_Finder_ended n0_Finder_ended c0_Finder_ended t_Finder_ended) (F:codeIn K c0_Finder_ended "Finder.ended"=true) (N:keepIn K (.ref f_Finder_ended)=true) :
  ∃fd:FuncData,(∀(s:qC) (v:qB),BindsTo s fd ⟨[v],[]⟩ [("_law_script",v)])/\∀base:Heap,K.In base->base.Ns mainGlobals mg->FnOk l.prog w K mg base CX0 10 fa fd ["_law_script"] (a9c K):=by
 have e:=I1.symm.trans (PySem.W.mg_of X G H0);cases e;have T:Tx mg:=⟨PySem.W.mg_none_of X G z1,PySem.W.mg_none_of X G z2,PySem.W.mg_none_of X G z3,PySem.W.mg_none_of X G z4,PySem.W.mg_none_of X G z5,PySem.W.mg_none_of X G z6,PySem.W.mg_none_of X G z7,PySem.W.mg_none_of X G z8,PySem.W.mg_none_of X G z9,PySem.W.mg_none_of X G z10,PySem.W.mg_none_of X G z11,PySem.W.mg_none_of X G z12,PySem.W.mg_none_of X G z13,PySem.W.mg_none_of X G z14,PySem.W.mg_none_of X G z15,PySem.W.mg_none_of X G z16,PySem.W.mg_none_of X G z17,PySem.W.mg_none_of X G z18⟩;have F1:FunAt K mg "free" a5D ["width"]:=C3 X G a1 l1 H1 k1
 have F2:FunAt K mg "within" a1e ["caps","one"]:=C3 X G a2 l2 H2 k2
 have F3:FunAt K mg "row_sum" a0q ["row","one"]:=C3 X G a3 l3 H3 k3
 have F4:FunAt K mg "sums" a5C ["rows","one"]:=C3 X G a4 l4 H4 k4
 have F5:FunAt K mg "is_answer" T7 ["rows","one"]:=C3 X G a5 l5 H5 k5
 have F6:FunAt K mg "pull_of" a0r ["rows","totals","j"]:=C3 X G a6 l6 H6 k6
 have F7:FunAt K mg "falls" a2L ["rows","one"]:=C3 X G a7 l7 H7 k7
 have F8:FunAt K mg "below" a2M ["one","other"]:=C3 X G a8 l8 H8 k8
 have F9:FunAt K mg "unit" a5B ["width","j"]:=C3 X G a9 l9 H9 k9
 have m9:FunAt K mg "least_of" W6 ["some"]:=C3 X G u5 l10 h8 I2
 have h7:FunAt K mg "above_any" N5 ["some","one"]:=C3 X G u6 l11 h9 I3
 have n0:FunAt K mg "first_steps" M2 ["caps"]:=C3 X G u7 l12 i0 I4
 have o0:FunAt K mg "raised" a1f ["one","j"]:=C3 X G u8 l13 i1 I5
 have p0:FunAt K mg "steps" a2H ["rows","caps","one"]:=C3 X G u9 l14 i2 I6
 have q0:FunAt K mg "is_barred" T5 ["found","one","j"]:=C3 X G v0 l15 i3 I7
 have q1:FunAt K mg "next_level" O5 ["rows","caps","found","level","room"]:=C3 X G w0 l16 i4 I8
 have q2:FunAt K mg "least" a2K ["rows","caps","most"]:=C3 X G w1 l17 i5 L2
 have q3:FunAt K mg "is_number" T4 ["value"]:=C3 X G w2 l18 i6 L8
 have q4:FunAt K mg "is_vector" T3 ["value","width"]:=C3 X G w3 l19 i7 N4
 have q5:FunAt K mg "are_vectors" M3 ["value","width"]:=C3 X G w4 l20 i8 N6
 have q6:FunAt K mg "all_fit" a0t ["caps","some"]:=C3 X G w5 l21 i9 Q1
 have q7:FunAt K mg "are_least" T8 ["rows","told"]:=C3 X G w6 l22 j0 Q2
 have q8:FunAt K mg "is_met" a1g ["told","listed","one"]:=C3 X G w7 l23 j1 Q3
 have q9:FunAt K mg "goes_on" a0s ["rows","caps","told","listed","one"]:=C3 X G w8 l24 j2 Q4
 have r0:FunAt K mg "shows" a2J ["rows","caps","told","paper"]:=C3 X G w9 l25 j3 Q5
 have r1:FunAt K mg "sided" a2I ["rows","sides"]:=C3 X G x0 l26 j4 R9
 have r2:FunAt K mg "sided_caps" O4 ["width"]:=C3 X G y0 l27 j5 S1
 have r3:FunAt K mg "ending" a1h ["some","last"]:=C3 X G y1 l28 j6 S2
 have r4:FunAt K mg "beyond" a1i ["rows","sides","width","most"]:=C3 X G y2 l29 j7 S3
 have r5:FunAt K mg "are_rising" O6 ["value","width"]:=C3 X G y3 l30 j8 S4
 have r6:FunAt K mg "shows_beyond" K0 ["rows","sides","width","told","base","paper"]:=C3 X G y4 l31 j9 S5
 have r7:FunAt K mg "_law_pot" W7 ["_law_script"]:=C3 X G y5 l32 k0 S6
 have r8:FunAt K mg "_law_take" T9 ["_law_pot_here","_law_many"]:=C3 X G y6 l33 l0 S7
 have r9:FunAt K mg "_law_number" M7 ["_law_pot_here","_law_far"]:=C3 X G y7 l34 m0 S8
 have s0:FunAt K mg "_law_system" M4 ["_law_pot_here","_law_wide","_law_far"]:=C3 X G y8 l35 m1 S9
 have t0:FunAt K mg "_law_sums" U0 ["_law_rows","_law_one"]:=C3 X G y9 l36 m2 T0
 have u0:FunAt K mg "_law_sides" O7 ["_law_pot_here","_law_rows","_law_width"]:=C3 X G z0 l37 m3 T6
 have u1:FunAt K mg "_law_beyond" M8 ["_law_rows","_law_sides_here","_law_width","_law_most"]:=C3 X G B9 l38 m4 U3
 have u2:FunAt K mg "_law_spoilt" M5 ["_law_pot_here","_law_some"]:=C3 X G D1 l39 m5 X3
 have u3:FunAt K mg "_law_odd_papers" G2 ["_law_pot_here","_law_paper","_law_width"]:=C3 X G D2 l40 m6 k40
 have u4:FunAt K mg "_law_others" M6 ["_law_pot_here","_law_told","_law_base","_law_paper","_law_width"]:=C3 X G D3 l41 m7 k41
 refine⟨fnOf "law" "law" (U9 a3k) (G5 a3k) (A2 a3k) .none v42 x42 p42 n42 c42 t42,λs v=>.of_eq rfl,λbase XB GB=>?_⟩;have Z:=PySem.W.mg_of X G e2;have h5:=PySem.W.mg_of X G g8;have Y:Cls K a:=⟨pg_Finder,g9,h2,h3⟩;have n:MethAt K a "__init__" "Finder.__init__" G3 ["self","rows","caps"]:=a3x q t x r u
 have h6:MethAt K a "step" "Finder.step" a0L ["self"]:=a3x a0 b3 b7 b1 b5
 have d:MethAt K a "step_within" "Finder.step_within" D6 ["self","room"]:=a3x f i k g j
 have h4:MethAt K a "level" "Finder.level" Z8 ["self"]:=a3x D L S H O
 have B:MethAt K a "told" "Finder.told" M9 ["self"]:=a3x b0 b4 b8 b2 b6
 have z:MethAt K a "paper" "Finder.paper" K1 ["self"]:=a3x E M U I Q
 have y:MethAt K a "ended" "Finder.ended" K2 ["self"]:=a3x C J R F N
 have FL:=a3P (st:=a3k) l42 m8 k42;have RS:=a8f (base:=base) (P:=l.prog) (w:=w) F3 T;have SU:=b5k F4 T RS;have IA:=a5M F5 T SU;have FA:=b2T F7 T (a8g F6 T) SU;have BE:=b2V (base:=base) (P:=l.prog) (w:=w) F8 T;have ST:=b2O p0 T FA (b0y o0);have NX:=a4m q1 T ST (a5L q0 T BE);have FS:=a3q (base:=base) (P:=l.prog) (w:=w) n0 T (b5h F9 T) (a4G F2 T);have UF:FiTx K a:=⟨Y,d0,b9,V,c0,W,A⟩;have MI:=(b2S (base:=base) (P:=l.prog) (w:=w) (mg:=mg) n UF).make h5 h1 h0;have MS:=b2N d UF T NX FS IA;have ME:=b2U (base:=base) (P:=l.prog) (w:=w) y UF T;have MT:=b5i (base:=base) (P:=l.prog) (w:=w) B UF T;have MP:=b2Q (base:=base) (P:=l.prog) (w:=w) z UF T;have LE:=b2R q2 T UF Y MI MS ME MT MP (b7v XB Z lx_TooMany g7 g4 e8);have TK:=b5j (base:=base) (P:=l.prog) (w:=w) r8 T;have SY:=b7G s0 T TK (b0A r9 T TK);have FR:=b5o (base:=base) (P:=l.prog) (w:=w) F1;have SD:=b2P (base:=base) (P:=l.prog) (w:=w) r1 T;have SC:=a4l r2 T FR;have BY:=b0E r4 T SD SC (b0D r3 T) LE;have SU:=b2M (base:=base) (P:=l.prog) (w:=w) t0 T;have AT:=a4n h7 T BE;have LO:=a6V m9 T (a4o h7 T BE);have AV:=a3r q5 T (a5J q4 T (a5K (base:=base) (P:=l.prog) (w:=w) q3 T));have AF:=a8j q6 T (a4G (base:=base) (P:=l.prog) (w:=w) F2 T);have AL:=a5N q7 T LO IA;have MM:=b0C q8 T AT;have GO:=a8i q9 T AT IA ST MM;have SH:=b0x r0 T AV AF AL MM FS GO;have SB:=b5l r6 T (b5m r5 T AV) SD SC SH;exact b7I FL T (b7H r7 T) SY (b0B u0 T TK SU) (a8h u1 T BY Z (b5N lx_TooMany e4)) SB (b0z u4 T TK (b0w u2 T TK) (b5n u3 T TK))
end K30
end
namespace PySem.W.Fast
theorem tw11116628817420133385:True:=⟨⟩
theorem tw14294265012581820998:True:=⟨⟩
theorem tw9166234308046788132:True:=⟨⟩
theorem tw18264951919469119385:True:=⟨⟩
theorem tw17762225692881447139:True:=⟨⟩
theorem tw2320514254733211594:True:=⟨⟩
theorem tw781233244481840093:True:=⟨⟩
theorem tw9927001338217483408:True:=⟨⟩
theorem tw17469664674557676275:True:=⟨⟩
theorem tw6082545960491561534:True:=⟨⟩
theorem tw12373375544149180352:True:=⟨⟩
theorem tw6198846967989063874:True:=⟨⟩
theorem tw3720842178842261665:True:=⟨⟩
theorem tw11203885360456844173:True:=⟨⟩
theorem tw1044456884671645314:True:=⟨⟩
theorem tw3673657775337537928:True:=⟨⟩
theorem tw17208314240431793186:True:=⟨⟩
theorem tw3356186719485131836:True:=⟨⟩
theorem tw15014726094910234335:True:=⟨⟩
theorem tw15575165537552010457:True:=⟨⟩
theorem tw2552158315668647905:True:=⟨⟩
theorem tw12435028724070483589:True:=⟨⟩
theorem tw4252750120778767365:True:=⟨⟩
theorem tw18202911434237421270:True:=⟨⟩
theorem tw9302274950091455839:True:=⟨⟩
theorem tw1453401352349401525:True:=⟨⟩
theorem tw2778916496831868756:True:=⟨⟩
theorem tw17079374519502635334:True:=⟨⟩
theorem tw16948182788368070978:True:=⟨⟩
theorem tw170295469791682004:True:=⟨⟩
theorem tw3359999718739234624:True:=⟨⟩
theorem tw2274879587678201509:True:=⟨⟩
theorem tw2028489003965221186:True:=⟨⟩
theorem tw6650564778890210330:True:=⟨⟩
theorem tw8503006189312803629:True:=⟨⟩
theorem tw16340417947627884954:True:=⟨⟩
theorem tw5499400808903593654:True:=⟨⟩
theorem tw6099810129826403463:True:=⟨⟩
theorem tw7022291179645740761:True:=⟨⟩
theorem tw6744065890801978507:True:=⟨⟩
theorem tw3035114188377410065:True:=⟨⟩
theorem tw10802971563567200405:True:=⟨⟩
theorem tw13685574396548207216:True:=⟨⟩
theorem tw16602750695045825590:True:=⟨⟩
theorem tw16030223723375899705:True:=⟨⟩
theorem tw4030144537426323996:True:=⟨⟩
theorem tw18317271881388518176:True:=⟨⟩
theorem tw6952764819021406383:True:=⟨⟩
theorem tw12533468247365227094:True:=⟨⟩
theorem tw12041307649799651253:True:=⟨⟩
theorem tw4397152323236274638:True:=⟨⟩
theorem tw2567437360633079244:True:=⟨⟩
theorem tw14332941124374651465:True:=⟨⟩
theorem tw8849779122460715706:True:=⟨⟩
theorem tw6760298546331924610:True:=⟨⟩
theorem tw6800349283820875245:True:=⟨⟩
theorem tw815578191375580768:True:=⟨⟩
theorem tw6920201094418642260:True:=⟨⟩
theorem tw249219454787281937:True:=⟨⟩
theorem tw16226014228228866150:True:=⟨⟩
theorem tw8243348218005134452:True:=⟨⟩
theorem tw16606459026746733700:True:=⟨⟩
theorem tw9875526601118529147:True:=⟨⟩
theorem tw10158474539425816297:True:=⟨⟩
theorem tw9460153604469502804:True:=⟨⟩
theorem tw10438981101688231836:True:=⟨⟩
theorem tw9505574663410875131:True:=⟨⟩
theorem tw10787249239691013213:True:=⟨⟩
theorem tw7461041652410271175:True:=⟨⟩
theorem tw10669870217452198173:True:=⟨⟩
theorem tw16691563681542311767:True:=⟨⟩
theorem tw5221190915287609498:True:=⟨⟩
theorem tw5886723289011163942:True:=⟨⟩
theorem tw3539383992150876554:True:=⟨⟩
theorem tw14667302253539453293:True:=⟨⟩
theorem tw10084408496098589117:True:=⟨⟩
theorem tw1894948832175592284:True:=⟨⟩
theorem tw10915354654176614616:True:=⟨⟩
theorem tw16819870589183490949:True:=⟨⟩
theorem tw2145581385748919287:True:=⟨⟩
theorem tw9958963051454103491:True:=⟨⟩
theorem tw10801436189716998201:True:=⟨⟩
theorem tw5671922473941575409:True:=⟨⟩
theorem tw1220869899450222169:True:=⟨⟩
theorem tw10076938905634446933:True:=⟨⟩
theorem tw14228464186328519450:True:=⟨⟩
theorem tw12354118945832599872:True:=⟨⟩
theorem tw7942548482508618549:True:=⟨⟩
theorem tw2891396031548819439:True:=⟨⟩
theorem tw10719691053465722099:True:=⟨⟩
theorem tw5995694353118580707:True:=⟨⟩
theorem tw8652714227129708089:True:=⟨⟩
theorem tw5215694361743338333:True:=⟨⟩
theorem tw14535775187032569825:True:=⟨⟩
theorem tw17218129769622016834:True:=⟨⟩
theorem tw1468656966866285909:True:=⟨⟩
theorem tw10167975538549905760:True:=⟨⟩
theorem tw969206757071042573:True:=⟨⟩
theorem tw4458229896530894319:True:=⟨⟩
theorem tw8914178983421133453:True:=⟨⟩
theorem tw14333601074092697711:True:=⟨⟩
theorem tw5668236651910892350:True:=⟨⟩
theorem tw12698989874070858734:True:=⟨⟩
theorem tw13584401260216887254:True:=⟨⟩
theorem tw7295639480820659178:True:=⟨⟩
end PySem.W.Fast
open PySem PySem.W PyProof.Rows
set_option maxRecDepth 100000 in
set_option maxHeartbeats 0 in
theorem PySem.Challenge.cw_leastlays_k30_beyond_not_shown_holds : PySem.Challenge.rw_leastlays_k30_beyond_not_shown.Holds := by
 w_on;o_law;k_head;(case hw=>w_witness2)
 k_fill
 refine L2.law_walk (l:=PySem.Challenge.rw_leastlays_k30_beyond_not_shown) 10 rfl rfl ⟨rfl,by decide,by decide⟩ (λw h Y=>PySem.W.kIn_of Y) ?F
 case F =>
  intro w mg fa h KX G hmg
  refine' K30.all_mk KX G hmg ?a1 ?l1 ?c_1 ?k1 ?a2 ?l2 ?c_2 ?k2 ?a3 ?l3 ?c_3 ?k3 ?a4 ?l4 ?c_4 ?k4 ?a5 ?l5 ?c_5 ?k5 ?a6 ?l6 ?c_6 ?k6 ?a7 ?l7 ?c_7 ?k7 ?a8 ?l8 ?c_8 ?k8 ?a9 ?l9 ?c_9 ?k9 ?a10 ?l10 ?c_10 ?k10 ?a11 ?l11 ?c_11 ?k11 ?a12 ?l12 ?c_12 ?k12 ?a13 ?l13 ?c_13 ?k13 ?a14 ?l14 ?c_14 ?k14 ?a15 ?l15 ?c_15 ?k15 ?a16 ?l16 ?c_16 ?k16 ?a17 ?l17 ?c_17 ?k17 ?a18 ?l18 ?c_18 ?k18 ?a19 ?l19 ?c_19 ?k19 ?a20 ?l20 ?c_20 ?k20 ?a21 ?l21 ?c_21 ?k21 ?a22 ?l22 ?c_22 ?k22 ?a23 ?l23 ?c_23 ?k23 ?a24 ?l24 ?c_24 ?k24 ?a25 ?l25 ?c_25 ?k25 ?a26 ?l26 ?c_26 ?k26 ?a27 ?l27 ?c_27 ?k27 ?a28 ?l28 ?c_28 ?k28 ?a29 ?l29 ?c_29 ?k29 ?a30 ?l30 ?c_30 ?k30 ?a31 ?l31 ?c_31 ?k31 ?a32 ?l32 ?c_32 ?k32 ?a33 ?l33 ?c_33 ?k33 ?a34 ?l34 ?c_34 ?k34 ?a35 ?l35 ?c_35 ?k35 ?a36 ?l36 ?c_36 ?k36 ?a37 ?l37 ?c_37 ?k37 ?a38 ?l38 ?c_38 ?k38 ?a39 ?l39 ?c_39 ?k39 ?a40 ?l40 ?c_40 ?k40 ?a41 ?l41 ?c_41 ?k41 ?a42 ?l42 ?c_42 ?k42 ?z1 ?z2 ?z3 ?z4 ?z5 ?z6 ?z7 ?z8 ?z9 ?z10 ?z11 ?z12 ?z13 ?z14 ?z15 ?z16 ?z17 ?z18 ?aD_TooMany ?aD_Finder ?lx_TooMany ?tx_TooMany ?ok_TooMany ?in_TooMany ?be_TooMany ?pg_Finder ?hd_Finder ?po_Finder ?sa_Finder ?mk_Finder ?kc_Finder ?n_Finder_rows ?n_Finder_caps ?n_Finder_begun ?n_Finder_here ?n_Finder_found ?n_Finder_walked ?a_Finder___init__ ?i_Finder___init__ ?l_Finder___init__ ?c_Finder___init__ ?k_Finder___init__ ?a_Finder_step ?i_Finder_step ?l_Finder_step ?c_Finder_step ?k_Finder_step ?a_Finder_step_within ?i_Finder_step_within ?l_Finder_step_within ?c_Finder_step_within ?k_Finder_step_within ?a_Finder_level ?i_Finder_level ?l_Finder_level ?c_Finder_level ?k_Finder_level ?a_Finder_told ?i_Finder_told ?l_Finder_told ?c_Finder_told ?k_Finder_told ?a_Finder_paper ?i_Finder_paper ?l_Finder_paper ?c_Finder_paper ?k_Finder_paper ?a_Finder_ended ?i_Finder_ended ?l_Finder_ended ?c_Finder_ended ?k_Finder_ended
  (case a1|l1|c_1|k1|a2|l2|c_2|k2|a3|l3|c_3|k3|a4|l4|c_4|k4|a5|l5|c_5|k5|a6|l6|c_6|k6|a7|l7|c_7|k7|a8|l8|c_8|k8|a9|l9|c_9|k9|a10|l10|c_10|k10|a11|l11|c_11|k11|a12|l12|c_12|k12|a13|l13|c_13|k13|a14|l14|c_14|k14|a15|l15|c_15|k15|a16|l16|c_16|k16|a17|l17|c_17|k17|a18|l18|c_18|k18|a19|l19|c_19|k19|a20|l20|c_20|k20|a21|l21|c_21|k21|a22|l22|c_22|k22|a23|l23|c_23|k23|a24|l24|c_24|k24|a25|l25|c_25|k25|a26|l26|c_26|k26|a27|l27|c_27|k27|a28|l28|c_28|k28|a29|l29|c_29|k29|a30|l30|c_30|k30|a31|l31|c_31|k31|a32|l32|c_32|k32|a33|l33|c_33|k33|a34|l34|c_34|k34|a35|l35|c_35|k35|a36|l36|c_36|k36|a37|l37|c_37|k37|a38|l38|c_38|k38|a39|l39|c_39|k39|a40|l40|c_40|k40|a41|l41|c_41|k41|a42|l42|c_42|k42|z1|z2|z3|z4|z5|z6|z7|z8|z9|z10|z11|z12|z13|z14|z15|z16|z17|z18|aD_TooMany|aD_Finder=>(try unfold L2.FnL);(try unfold K30.nI);k_is)
  (case lx_TooMany|tx_TooMany|ok_TooMany|in_TooMany|be_TooMany=>first|k_is|kernel_rfl|rfl)
  (case pg_Finder|hd_Finder|po_Finder|sa_Finder|mk_Finder|kc_Finder|n_Finder_rows|n_Finder_caps|n_Finder_begun|n_Finder_here|n_Finder_found|n_Finder_walked|a_Finder___init__|i_Finder___init__|l_Finder___init__|c_Finder___init__|k_Finder___init__|a_Finder_step|i_Finder_step|l_Finder_step|c_Finder_step|k_Finder_step|a_Finder_step_within|i_Finder_step_within|l_Finder_step_within|c_Finder_step_within|k_Finder_step_within|a_Finder_level|i_Finder_level|l_Finder_level|c_Finder_level|k_Finder_level|a_Finder_told|i_Finder_told|l_Finder_told|c_Finder_told|k_Finder_told|a_Finder_paper|i_Finder_paper|l_Finder_paper|c_Finder_paper|k_Finder_paper|a_Finder_ended|i_Finder_ended|l_Finder_ended|c_Finder_ended|k_Finder_ended=>(try unfold L2.FnL);(try unfold K30.nI);k_is)
#print axioms PySem.Challenge.cw_leastlays_k30_beyond_not_shown_holds
