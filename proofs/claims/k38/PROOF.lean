import PyProof.Rows.All
import Wide.All
import OpenK.AllK
import Wide.FinOn
import Lean
import PyProof.EqAt
import PyProof.EqKinds
import PyProof.TupleCall
import PyProof.ZipIter
import PyProof.ExcArgsOwn
import PyProof.ExcAttrAll.ValueError
import KE.KSortTup
import PyProof.AutoSeq1
import PySem.SetTable
import PyProof.SetNew
import PyProof.TupleKey
import PyProof.DictRoadsH
import PyProof.DictKinds
import PyProof.IsRules
import PyProof.Rows.SetFrom
import PyProof.WalksMore
import KE.KDictSum
import KE.KDictOf
import PyProof.AttrMissHeap
import PyProof.TupleOfSeq
import PyProof.MeetsStr
import PyProof.MeetsStr2
import PyProof.StrLawsJoin
import PyProof.StrLawsChain
import PyProof.Rows.StrItems
import KE.KIntText
import PyProof.Rows.ReprOcc
import PyProof.StrWalks
import PyProof.CallType
import PyProof.StrOps
import PyProof.StrLawsIn
import PySem.Challenge.RW_leastlays_k38_whole_rows_in_any_order
set_option compiler.extract_closed false
set_option bootstrap.genMatcherCode false
set_option genSizeOf false
set_option Elab.async false
set_option linter.all false
set_option maxRecDepth 100000
set_option maxHeartbeats 4000000
def aa:=@PySem.wpAny_bind
def ae:=@PySem.wpAny_pure
def ag:=@PySem.Heap.get?_push_of_some
def ai:=@List.getElem?_eq_getElem
def aj:=@List.length_map
def ak:=@List.getD_eq_getElem?_getD
def ao:=@Nat.le_refl
def aq:=@List.mem_cons_of_mem
def ar:=@List.mem_cons_self
def au:=@if_neg
def av:=@Array.getElem?_toList
def ax:=@List.length_append
def ay:=@Array.length_toList
def az:=@if_pos
def aA:=@List.mem_append
def aB:=@List.mem_singleton
def aC:=@List.size_toArray
def aD:=@List.mem_cons
def aE:=@PyProof.Rows.wpS_bind
def aF:=@PySem.Heap.get?_push_size
def aG:=@List.getElem?_eq_some_iff
def aH:=@List.mem_of_getElem?
def aI:=@PySem.Heap.lt_size
def aJ:=@List.append_assoc
def aK:=@List.mem_append_left
def aL:=@Nat.lt_of_lt_of_le
def aM:=@List.mem_map
def aN:=@PyProof.Rows.wpS_pure
def aO:=@Bool.and_eq_true
def aP:=@List.mem_filter
def aQ:=@Nat.ne_of_lt
def aR:=@congrArg
def aS:=@List.all_eq_true
def aT:=@List.length_cons
def aU:=@List.length_take
def aV:=@List.getElem?_map
def aW:=@List.map_cons
def aX:=@List.mem_append_right
def aY:=@Bool.false_ne_true
def aZ:=@List.mem_range
def a':=@PySem.sizeLine_eq
def a_:=@List.zipWith_cons_cons
def ba:=@Nat.le_trans
def bb:=@decide_eq_true
def bf:=@Int.toNat_natCast
def bg:=@List.take_add_one
def bh:=@List.getElem?_append_right
def bj:=@beq_iff_eq
def bo:=@List.length_filter_le
def bp:=@List.take_append_drop
def bq:=@Nat.zero_le
def br:=@List.take_length
def bt:=@PySem.Heap.size_push
def bu:=@List.sum_cons
def bw:=@List.length_replicate
def bx:=@List.getElem?_append_left
def bz:=@PySem.wpAny_newObj_type
def bA:=@PySem.wpAny_callSpecial?_slot
def bB:=@List.not_mem_nil
def bC:=@List.pairwise_append
def bD:=@List.mem_of_mem_take
def bE:=@of_decide_eq_true
def bF:=@PySem.wpAny_call_entry
def bG:=@Array.getElem?_eq_getElem
def bH:=@decide_eq_true_eq
def bI:=@List.length_drop
def bJ:=@List.take_of_length_le
def bK:=@Option.some.inj
def bL:=@List.length_take_le
def bM:=@PyProof.Rows.slot_tuple_getitem
def bN:=@Classical.byContradiction
def bO:=@List.getElem?_eq_none
def bP:=@List.any_eq_true
def bQ:=@PySem.wpAny_field
def bR:=@Nat.lt_irrefl
def bS:=@List.mem_iff_getElem
def bT:=@decide_eq_false
def bU:=@List.replicate_succ
def bV:=@Array.getD_eq_getD_getElem?
def bW:=@PyProof.Rows.KeyOrd.kle_trans
def bX:=@PyProof.Rows.KeyOrd.kle_of_klt
def bY:=@PySem.wpAny_holding
def bZ:=@PySem.Heap.SameBut.update
def b_:=@Array.toList_append
def cc:=@List.lookup_cons
def cf:=@Nat.le_add_right
def cg:=@Nat.lt_succ_of_lt
def cj:=@List.mem_filterMap
def ck:=@List.mem_iff_getElem?
def cm:=@Nat.lt_succ_self
def cn:=@Int.mul_le_mul_of_nonneg_left
def cp:=@PySem.wpAny_setField_rec
def cq:=@List.nodup_cons
def cu:=@List.map_append
def cv:=@PyProof.Rows.wpS_forRange
def cw:=@List.Perm.append_left
def cx:=@List.pairwise_map
def cy:=@PySem.wpAny_setState_of
def cz:=@Bool.eq_iff_iff
def cA:=@Int.mul_le_mul_of_nonneg_right
def cB:=@List.mem_of_mem_drop
def cC:=@PyProof.Rows.KeyOrd.kle_refl
def cD:=@List.map_map
def cE:=@List.drop_eq_nil_of_le
def cF:=@List.drop_eq_getElem_cons
def cG:=@Nat.le_of_lt
def cH:=@PySem.Heap.get?_update_self
def cI:=@PyProof.Rows.wpS_mono
def cJ:=@List.perm_append_comm
def cK:=@List.pairwise_cons
def cL:=@or_false
def cM:=@List.getElem_mem
def cN:=@PySem.wpAny_seqItems
def cO:=@beq_eq_false_iff_ne
def cP:=@List.length_zipWith
def cQ:=@List.nil_append
def cR:=@Nat.ne_of_gt
def cS:=@PySem.Obj.data_mapFields
def cT:=@eq_of_heq
def cU:=@Nat.mod_eq_of_lt
def cW:=@List.all_cons
def cX:=@PySem.wpAny_mono
def cY:=@List.flatten_cons
def cZ:=@Array.toList_push
def c_:=@Nat.min_eq_left
def de:=@Array.getElem?_eq_none
def df:=@Array.getElem?_eq_some_iff
def dg:=@List.ext_getElem
def dh:=@List.drop_zero
def di:=@List.append_nil
def dj:=@List.getElem?_take_of_lt
def dk:=@Nat.pow_succ
def dm:=@PySem.wpAny_truthy_bool
def dn:=@Nat.lt_trichotomy
def dq:=@PySem.wpAny_attempt
def dr:=@List.drop_append_of_le_length
def dt:=@PySem.wpAny_typeNameOfWhole_keyiter
def du:=@Ne.symm
def dv:=@PySem.call_meets
def dw:=@PyProof.Rows.callWith_type1
def dy:=@PySem.codeAny_mono
def dz:=@PySem.wpAny_typeOf
def dC:=@Nat.zero_add
def dD:=@Nat.lt_of_le_of_lt
def dE:=@Int.emod_lt_of_pos
def dF:=@PyProof.Rows.F.plain_set_update_loop
def dG:=@PySem.wpAny_passesOwn
def dH:=@List.foldl_cons
def dI:=@PySem.codeAny_builtin
def dJ:=@PySem.F.slot_tuple_iterator_next
def dM:=@Array.perm_iff_toList_perm
def dN:=@List.any_eq_false
def dO:=@List.length_range
def dP:=@PySem.wpAny_rule
def dQ:=@PySem.Around.under_plainId
def dR:=@ite_congr
def dS:=@PySem.wpAny_setField
def dU:=@PySem.isSubtype_type
def dV:=@Int.mul_nonneg
def dW:=@PySem.wpAny_typeNameOf_keyiter
def dX:=@List.filterMap_cons
def dY:=@List.filter_sublist
def dZ:=@List.length_eq_zero_iff
def d_:=@Nat.add_assoc
def ed:=@PySem.wpAny_execs_nil
def eh:=@PySem.wpAny_Call_Name_kw
def ei:=@List.find?_cons
def ek:=@PySem.tupleKind_room_in1
def el:=@Int.emod_nonneg
def ez:=@Nat.le_succ
def eB:=@Option.map_eq_some_iff
def eC:=@Int.le_refl
def eD:=@List.take_append_of_le_length
def eE:=@List.eq_nil_of_length_eq_zero
def eF:=@List.reverse_cons
def eG:=@Nat.le_of_lt_succ
def eH:=@List.ext_getElem?
def eI:=@PySem.wpAny_dictEntries
def eJ:=@List.nodup_append
def eM:=@PySem.Obj.isFreed_of_fields
def eN:=@Int.zero_add
def eO:=@PySem.F.slot_enumerate_next
def eQ:=@List.nodup_nil
def eR:=@Nat.succ_pos
def eS:=@Array.mem_toList_iff
def eT:=@PySem.wpAny_isInstance
def eU:=@beq_self_eq_true
def eV:=@PySem.F.slot_tuple_mul
def eW:=@Array.toList_extract
def eX:=@PySem.wpAny_askSetting
def eY:=@Bool.false_or
def eZ:=@List.nodup_iff_pairwise_ne
def e_:=@if_true
def fb:=@List.length_pos_iff
def fc:=@List.length_set
def fe:=@Option.map_some
def ff:=@List.pairwise_iff_getElem
def fg:=@PySem.Calls.call_function_entry
def fh:=@List.mem_or_eq_of_mem_set
def fi:=@PyProof.Rows.IsTup.new
def fj:=@List.getElem?_drop
def fk:=@PyProof.Rows.KeyOrd.klt_of_kle_of_klt
def fm:=@Nat.add_sub_cancel
def fo:=@Array.size_setIfInBounds
def fq:=@Nat.succ.inj
def ft:=@Bool.and_false
def fu:=@PyProof.Rows.wpS_get
def fv:=@Nat.mod_lt
def fz:=@List.getElem?_replicate
def fA:=@PySem.wpAny_pyIter_list
def fB:=@PySem.Obj.cls_mapFields
def fC:=@List.getElem_take
def fD:=@List.getElem_drop
def fE:=@List.getElem?_set
def fF:=@Bool.not_eq_true'
def fG:=@PySem.Heap.get?_update_other
def fH:=@Int.mul_add
def fJ:=@List.drop_length
def fK:=@List.nodup_range
def fL:=@List.length_singleton
def fM:=@List.getElem?_zipWith
def fN:=@PySem.wpAny_notOrdered_dict
def fO:=@PySem.builtinLookup_eq_fast
def fP:=@PySem.Calls.evalArgs_plain
def fQ:=@PySem.pushCells_keeps
def fR:=@PySem.wpAny_updateSeq_pair
def fS:=@PySem.F.slot_zip_next
def fT:=@PySem.F.slot_int_rmul
def fU:=@Int.mul_comm
def fV:=@Nat.lt_trans
def fW:=@Array.toList_reverse
def fX:=@Nat.mul_comm
def fY:=@List.getElem?_append
def fZ:=@Nat.mul_le_mul_right
abbrev LLI:=List (List Int)
abbrev qA:=@List
abbrev qB:=@PySem.Value
abbrev qC:=@PySem.Shared
abbrev qD:=@Option
abbrev qE:=@PySem.Addr
abbrev qF:=@PySem.W.Frag
abbrev qG:=@PySem.Program
abbrev qH:=PySem.Value->PySem.Shared->Prop
abbrev qI:=List Int
abbrev qJ:=Option Nat
noncomputable section
def L2.nd(l:qA PySem.Str)(h:l.Nodup:=by decide +kernel):l.Nodup:=h
namespace L2
open PySem PySem.Spec PyProof.Rows
variable {A:Around}{C a b dx:qE}{E Q:qH}{K:qF}{M:Model}{P:qG}{base h h':Heap}{body:qA Stmt}{c e l tg:Expr}{ch fp:qA qE}{es:qA Expr}{f:qB->qB->Sem qB}{fd:FuncData}{i k n t':Nat}{mA mg:Str->qD qB}{qK:qA (qE×Obj)}{pl:Sem Bool}{pos:Pos}{ps:qA Str}{s:qC}{u:qB}{us:qA qB}{w:World}{x:Str}
abbrev Key:=Sum Int Str
def a4K:Key->qB->Bool
 |.inl k,v=>Value.isInt k v
 |.inr x,v=>Value.isStrOf x v
def c0T(w:World):Key->Int
 |.inl k=>hashInt k
 |.inr x=>hashStr w x
def D6:∀{k:Key}{v:qB},a4K k v=true->(∃i t,k=Sum.inl i/\v=Value.int i t)∨(∃x t,k=Sum.inr x/\v=Value.str x t)
 |.inl i,v,h=>by
  obtain⟨t,e⟩:=Value.isInt_shape (k:=i) (v:=v) h;exact .inl ⟨i,t,rfl,e⟩
 |.inr x,v,h=>by
  obtain⟨t,e⟩:=Value.isStrOf_shape (x:=x) (v:=v) h;exact .inr ⟨x,t,rfl,e⟩
def b1v(i:Int)(t:Tok):a4K (.inl i) (.int i t)=true:=by simp[a4K,Value.isInt]
def b1u(x:Str)(t:Tok):a4K (.inr x) (.str x t)=true:=by simp[a4K,Value.isStrOf]
def b9b(a b:Int):decide ((Sum.inl a:Key)=Sum.inl b)=(a==b):=by
 by_cases e:a=b
 .subst e;simp
 .have h:¬(Sum.inl a:Key)=Sum.inl b:=λq=>e (Sum.inl.inj q);rw[bT h];exact(cO.mpr e).symm
def b8Y(a b:Str):decide ((Sum.inr a:Key)=Sum.inr b)=decide (a=b):=by
 by_cases e:a=b
 .subst e;simp
 .have h:¬(Sum.inr a:Key)=Sum.inr b:=λq=>e (Sum.inr.inj q);rw[bT h,bT e]
def b9a(a:Int)(b:Str):decide ((Sum.inl a:Key)=Sum.inr b)=false:=bT (λq=>nomatch q)
def b8Z(a:Str)(b:Int):decide ((Sum.inr a:Key)=Sum.inl b)=false:=bT (λq=>nomatch q)
def C1(prog:qG)(w:World):PySem.KeyKind prog w Key where
 is:=a4K
 hash:=c0T w
 inj:=λv a b ha hb=>by
  rcases D6 ha with⟨i,t,rfl,rfl⟩|⟨x,t,rfl,rfl⟩
  .rcases D6 hb with⟨j,u,rfl,e⟩|⟨y,u,rfl,e⟩
   .injection e with e1 _;rw[e1]
   .exact nomatch e
  .rcases D6 hb with⟨j,u,rfl,e⟩|⟨y,u,rfl,e⟩
   .exact nomatch e
   .injection e with e1 _;rw[e1]
 byValue:=λk v h=>by
  rcases D6 h with⟨i,t,rfl,rfl⟩|⟨x,t,rfl,rfl⟩<;>rfl
 pyHash:=λhv h=>by
  rcases D6 hv with⟨i,t,rfl,rfl⟩|⟨x,t,rfl,rfl⟩
  .exact wpAny_pyHash_int h
  .exact wpAny_pyHash_str h
 eqBool:=λhu hv h=>by
  rcases D6 hu with⟨i,t,rfl,rfl⟩|⟨x,t,rfl,rfl⟩
  .rcases D6 hv with⟨j,u,rfl,rfl⟩|⟨y,u,rfl,rfl⟩
   .rw[b9b]at h;exact wpAny_eqBool_int h
   .rw[b9a]at h;exact SeqAt.EqAt.int_str i t y u _ _ _ _ h
  .rcases D6 hv with⟨j,u,rfl,rfl⟩|⟨y,u,rfl,rfl⟩
   .rw[b8Z]at h;exact SeqAt.EqAt.str_int x t j u _ _ _ _ h
   .rw[b8Y]at h;exact wpAny_eqBool_str h
 «strs»:=λk x t v h=>by
  rcases D6 h with⟨i,u,rfl,e⟩|⟨y,u,rfl,e⟩
  .exact nomatch e
  .injection e with e1 _
   subst e1;cases v<;>rfl
def a6Z(prog:qG)(w:World)(i:Int)(t:Tok):(C1 prog w).is (.inl i) (.int i t)=true:=b1v i t
def a6Y(prog:qG)(w:World)(x:Str)(t:Tok):(C1 prog w).is (.inr x) (.str x t)=true:=b1u x t
inductive V where
 |non|bl (b:Bool)|int (i:Int)|str (x:Str)|byt (b:Array UInt8)|flt (b:UInt64)|ref (a:qE)|ty (n:String)
 deriving DecidableEq
variable {v:V}{vs xs:qA V}
def RelV:V->qB->Prop
 |.non,u=>u=Value.none
 |.bl b,u=>u=Value.bool b
 |.int i,u=>∃t,u=Value.int i t
 |.str x,u=>∃t,u=Value.str x t
 |.byt b,u=>∃t,u=Value.bytes b t
 |.flt b,u=>∃t,u=Value.float b t
 |.ref a,u=>u=Value.ref a
 |.ty n,u=>u=Value.type n
abbrev Vals:qA V->qA qB->Prop:=Paired RelV
def Vals.length{xs:qA V}{us:qA qB}(r:Vals xs us):xs.length=us.length:=Paired.length r
def Vals.get:∀{xs:qA V}{us:qA qB}{i:Nat}{x:V},Vals xs us->xs[i]?=some x->∃u,us[i]?=some u/\RelV x u
 |_,_,_,_,.nil,e=>by simp at e
 |_,_,0,_,.cons r _,e=>by simp at e;subst e;exact⟨_,rfl,r⟩
 |_,_,i+1,x,.cons _ t,e=>by
  obtain⟨u,h1,h2⟩:=Vals.get (i:=i) (x:=x) t (by simpa using e);exact⟨u,by simpa using h1,h2⟩
def Vals.set{x:V}{u:qB}(r:RelV x u):∀{xs:qA V}{us:qA qB}(i:Nat),Vals xs us->Vals (xs.set i x) (us.set i u)
 |_,_,_,.nil=>.nil
 |_,_,0,.cons _ t=>.cons r t
 |_,_,i+1,.cons q t=>.cons q (Vals.set r i t)
def Vals.append:∀{xs ys:qA V}{us a:qA qB},Vals xs us->Vals ys a->Vals (xs++ys) (us++a)
 |_,_,_,_,.nil,s=>s
 |_,_,_,_,.cons r t,s=>.cons r (Vals.append t s)
def Vals.take:∀{xs:qA V}{us:qA qB}(n:Nat),Vals xs us->Vals (xs.take n) (us.take n)
 |_,_,0,_=>.nil
 |_,_,_+1,.nil=>.nil
 |_,_,n+1,.cons r t=>.cons r (Vals.take n t)
def Vals.drop:∀{xs:qA V}{us:qA qB}(n:Nat),Vals xs us->Vals (xs.drop n) (us.drop n)
 |_,_,0,r=>r
 |_,_,_+1,.nil=>.nil
 |_,_,n+1,.cons _ t=>Vals.drop n t
def RelO:qD V->qD qB->Prop
 |some v,some u=>RelV v u
 |none,none=>True
 |_,_=>False
def KV{κ:Type}:qA (κ×V)->qA (κ×qB)->Prop:=Paired λ(p:κ×V) (q:κ×qB)=>p.1=q.1/\RelV p.2 q.2
def kV:Key->V
 |.inl i=>.int i
 |.inr x=>.str x
inductive HO where
 |lst (xs:qA V)
 |tup (xs:qA V)
 |dK (qL:qA (Key×V))|dT (qL:qA (qA Key×V))
 |set (S:Int->Bool) (n:Nat)
 |ins (C dx:qE) (fs:qA (Str×V))
 |own (x:qE)
 |xd (fs:qA (Str×V))
 |met (f x:qE)
 |rng (lo hi:Int)
 |frz (o:Obj) (u:HO)
 |tbl (ps:Array qB)
 |ext (φ:Heap->Prop)
variable {o:HO}
abbrev Hp:=qE->qD HO
variable {H H':Hp}
def upd(H:Hp)(a:qE)(o:HO):Hp:=λb=>if b=a then some o else H b
def A0:upd H a o a=some o:=by unfold upd;rw[az rfl]
def A3(h:b≠a):upd H a o b=H b:=by unfold upd;rw[au h]
def a5i{u:HO}:upd (upd H a o) a u=upd H a u:=by
 funext b;unfold upd;split<;>rfl
def K1{u:HO}(h:H a=some o)(h':H b=some u)(d:o≠u):a≠b:=by
 intro e;subst e;rw[h]at h';exact d (bK h')
def A8(h:H a=some o)(h':H b=none):a≠b:=by
 intro e;subst e;rw[h]at h';cases h'
section
variable (P:qG)(w:World)
def ObjOk(H:Hp)(h:Heap)(a:qE):HO->Prop
 |.lst xs=>xs.length<=sizeLine/\∃(its:qA qB) (n:Nat),Vals xs its/\h.get? a=some {cls:=.type "list",data:=.seq its.toArray n}
 |.tup xs=>xs.length<=sizeLine/\∃its:qA qB,Vals xs its/\IsTup h a its.toArray
 |.dK qL=>qL.length<=sizeLine/\(a==sysModules)=false/\∃vs,KV qL vs/\h.DictOf (C1 P w) a vs
 |.dT qL=>qL.length<=sizeLine/\(a==sysModules)=false/\∃xs:qA (qA Key×qE×qB),
   Paired (λ(p:qA Key×V) (q:qA Key×qE×qB)=>p.1=q.1/\H q.2.1=some (.tup (p.1.map kV))/\RelV p.2 q.2.2) qL xs /\
   ∃o es ep,h.get? a=some o/\o.ExactDict/\o.data=.dict es ep/\es.toList=xs.map (entryOfKey (tupleKind (C1 P w)))/\(xs.map (·.1)).Nodup
 |.set S n=>h.SetOf (intKind P w) a S n
 |.ins C dx fs=>H dx=some (.own a)/\fs.length<=1000/\dx≠a/\h.get? a=some (PySem.W.instObj C dx) /\
   ∃mA,h.Ns1 dx mA/\(∀f,RelO (fs.lookup f) (mA f))/\PySem.Within mA (fs.map (·.1))
 |.own _=>∃o,h.get? a=some o
 |.xd fs=>∃mA,h.Ns1 a mA/\∀f,RelO (fs.lookup f) (mA f)
 |.rng lo hi=>∃t u v,h.get? a=some {cls:=.type "range",data:=.fields #[.int lo t,.int hi u,.int 1 v]}
 |.frz o u=>h.get? a=some o/\ObjOk H h a u
 |.tbl ps=>h.get? a=some {cls:=.none,data:=.fields ps}
 |.met f x=>h.get? a=some (PySem.W.methodObj (.ref f) (.ref x))
 |.ext φ=>φ h/\(∃o,h.get? a=some o)/\∀h1 h2:Heap,φ h1->(∀o,h1.get? a=some o->h2.get? a=some o)->φ h2
def HOk(H:Hp)(h:Heap):Prop:=∀a o,H a=some o->ObjOk P w H h a o
end
def ObjOk.lt(x:ObjOk P w H h a o):a<h.objs.size:=by
 cases o with
 |lst xs=>obtain⟨_,_,_,_,e⟩:=x;exact aI e
 |tup xs=>obtain⟨_,_,_,p⟩:=x;exact p.lt
 |dK qL=>obtain⟨_,_,_,_,o,_,_,e,_⟩:=x;exact aI e
 |dT qL=>obtain⟨_,_,_,_,o,_,_,e,_⟩:=x;exact aI e
 |set S n=>obtain⟨o,_,_,_,e,_⟩:=x;exact aI e
 |ins C dx fs=>obtain⟨_,_,_,e,_⟩:=x;exact aI e
 |own y=>obtain⟨_,e⟩:=x;exact aI e
 |xd fs=>obtain⟨_,⟨_,_,_,e,_⟩,_⟩:=x;exact aI e
 |rng lo hi=>obtain⟨_,_,_,e⟩:=x;exact aI e
 |frz ob u=>obtain⟨e,_⟩:=x;exact aI e
 |tbl ps=>exact aI (show h.get? a=some _ from x)
 |met f y=>exact aI (show h.get? a=some _ from x)
 |ext φ=>obtain⟨_,⟨_,e⟩,_⟩:=x;exact aI e
def Paired.mapP{α β:Type}{F G:α->β->Prop}:∀{l₁:qA α}{l₂:qA β},Paired F l₁ l₂->(∀a b,F a b->G a b)->Paired G l₁ l₂
 |_,_,.nil,_=>.nil
 |_,_,.cons r t,f=>.cons (f _ _ r) (Paired.mapP t f)
def Paired.imp'{α β:Type}{F G:α->β->Prop}(f:∀a b,F a b->G a b){l₁:qA α}{l₂:qA β}(r:Paired F l₁ l₂):Paired G l₁ l₂:=Paired.mapP r f
def ObjOk.stay(x:ObjOk P w H h a o)(k:∀b u,(b=a∨H b=some (.own a))->h.get? b=some u->h'.get? b=some u)
  (j:∀b,H b=some (.own a)->H' b=some (.own a)) (l:∀b xs,H b=some (.tup xs)->H' b=some (.tup xs)):ObjOk P w H' h' a o:=by
 induction o with
 |lst xs=>obtain⟨z,its,n,r,e⟩:=x;exact⟨z,its,n,r,k _ _ (.inl rfl) e⟩
 |tup xs=>obtain⟨z,its,r,g,e,c⟩:=x;exact⟨z,its,r,g,k _ _ (.inl rfl) e,c⟩
 |dK qL=>obtain⟨z,y,vs,r,g,es,ep,e,c⟩:=x;exact⟨z,y,vs,r,g,es,ep,k _ _ (.inl rfl) e,c⟩
 |dT qL =>
  obtain⟨z,y,xs,r,g,es,ep,e,c⟩:=x;exact⟨z,y,xs,Paired.mapP r λp q z=>⟨z.1,l _ _ z.2.1,z.2.2⟩,g,es,ep,k _ _ (.inl rfl) e,c⟩
 |set S n=>obtain⟨g,es,ep,t,e,c⟩:=x;exact⟨g,es,ep,t,k _ _ (.inl rfl) e,c⟩
 |ins C dx fs =>
  obtain⟨d,z,ne,e,mA,⟨od,es,ep,i,c⟩,r⟩:=x;exact⟨j _ d,z,ne,k _ _ (.inl rfl) e,mA,⟨od,es,ep,k _ _ (.inr d) i,c⟩,r⟩
 |own y=>obtain⟨g,e⟩:=x;exact⟨g,k _ _ (.inl rfl) e⟩
 |xd fs=>obtain⟨mA,⟨od,es,ep,e,c⟩,r⟩:=x;exact⟨mA,⟨od,es,ep,k _ _ (.inl rfl) e,c⟩,r⟩
 |rng lo hi=>obtain⟨t,u,v,e⟩:=x;exact⟨t,u,v,k _ _ (.inl rfl) e⟩
 |frz g u m=>obtain⟨e,q⟩:=x;exact⟨k _ _ (.inl rfl) e,m q⟩
 |tbl ps =>
  have e:h.get? a=some {cls:=.none,data:=.fields ps}:=x;show h'.get? a=some {cls:=.none,data:=.fields ps};exact k a _ (.inl rfl) e
 |met f y =>
  have e:h.get? a=some (PySem.W.methodObj (.ref f) (.ref y)):=x;show h'.get? a=some (PySem.W.methodObj (.ref f) (.ref y));exact k a _ (.inl rfl) e
 |ext φ=>obtain⟨p,⟨o,e⟩,st⟩:=x;exact⟨st _ _ p λo q=>k _ _ (.inl rfl) q,⟨o,k _ _ (.inl rfl) e⟩,st⟩
def HOk.lt(x:HOk P w H h)(e:H a=some o):a<h.objs.size:=(x a o e).lt
def HOk.fresh(x:HOk P w H h)(e:h.objs.size<=a):H a=none:=by
 cases q:H a with
 |none=>rfl
 |some u=>exact absurd (aL (x.lt q) e) (bR _)
def HOk.kept(x:HOk P w H h)(k:∀b u,h.get? b=some u->h'.get? b=some u):HOk P w H h':=λa o e =>
 (x a o e).stay (λb u _ q=>k b u q) (λ_ q=>q) λ_ _ q=>q
def HOk.laid(x:HOk P w H h)(k:∀b u,h.get? b=some u->h'.get? b=some u)(hp:h.objs.size<=a)(new:ObjOk P w (upd H a o) h' a o):HOk P w (upd H a o) h':=λb u e=>by
 have f:=x.fresh hp;by_cases d:b=a
 .subst d;rw[A0]at e;cases e;exact new
 .rw[A3 d]at e;exact(x b u e).stay (λc v _ q=>k c v q) (λc q=>by rw[A3 (A8 q f)];exact q) λc xs q=>by rw[A3 (A8 q f)];exact q
def Rd(H:Hp)(a:qE)(u:HO):Prop:=H a=some u∨∃o,H a=some (.frz o u)
def Rd.ok{u:HO}(r:Rd H a u)(x:HOk P w H h):ObjOk P w H h a u:=by
 rcases r with r|⟨o,r⟩
 .exact x a u r
 .obtain⟨_,q⟩:=x a _ r;exact q
def Mut:qD HO->Prop
 |some (.lst _)=>True
 |some (.dK _)=>True
 |some (.dT _)=>True
 |some (.set _ _)=>True
 |some (.ins _ _ _)=>True
 |some (.ext _)=>True
 |_=>False
section
variable {x e:qE}{o':HO}
def HOk.write(ok:HOk P w H h)(j:Mut (H x))(m:e=x∨H e=some (.own x))(k:∀b u,b≠e->h.get? b=some u->h'.get? b=some u)(l:∃u,h'.get? e=some u)
  (new:ObjOk P w (upd H x o') h' x o'):HOk P w (upd H x o') h':=λb u q=>by
 have d:∀c y,H c=some (.own y)->c≠x:=λc y r z=>by subst z;rw[r]at j;exact j
 have f:∀c xs,H c=some (.tup xs)->c≠x:=λc xs r z=>by subst z;rw[r]at j;exact j
 by_cases g:b=x
 .subst g;rw[A0]at q;cases q;exact new
 .rw[A3 g]at q;by_cases a:b=e
  .have q':H b=some (.own x):=by
    rcases m with z|z
    .exact absurd (a.trans z) g
    .rw[a];exact z
   rw[q]at q';cases q';obtain⟨v,n⟩:=l;exact⟨v,by rw[a];exact n⟩
  .refine(ok b u q).stay (λc v i r=>k c v ?_ r) (λc r=>by rw[A3 (d c b r)];exact r) λc xs r=>by rw[A3 (f c xs r)];exact r
   rcases i with rfl|i
   .exact a
   .rintro rfl;rcases m with z|z
    .exact d c b i z
    .rw[i]at z;cases z;exact g rfl
end
structure Un(fs ex:qA qE)(H H':Hp)(h h':Heap):Prop where
 keep:∀b o,h.get? b=some o->H b=none->b∉fs->b∉ex->h'.get? b=some o
 slot:∀b o,h.get? b=some o->H b=none->b∈fs->b∉ex->∃sl,h'.get? b=some {o with slots:=sl}
 free:∀b o,h.get? b=some o->H b=none->b∉ex->H' b=none
 there:∀b o,h.get? b=some o->b∉ex->∃o',h'.get? b=some o'
 tups:∀b xs,H b=some (.tup xs)->H' b=some (.tup xs)
 frzs:∀b o u,H b=some (.frz o u)->H' b=some (.frz o u)
 tbls:∀b ps,H b=some (.tbl ps)->∃more,H' b=some (.tbl (ps++more))
section
variable {fs fs' ex ex':qA qE}{H1 H2:Hp}{h1 h2:Heap}{x e:qE}
def Un.any(u:Un fs ex H H1 h h1){a:Obj}(q:h.get? b=some a)(n:H b=none)(d:b∉ex):∃sl,h1.get? b=some {a with slots:=sl}:=by
 by_cases c:b∈fs
 .exact u.slot b a q n c d
 .exact⟨a.slots,u.keep b a q n c d⟩
def Un.kept(k:∀b u,h.get? b=some u->h'.get? b=some u):Un fs ex H H h h' :=
 ⟨λb a q _ _ _=>k b a q,λb a q _ _ _=>⟨a.slots,k b a q⟩,λ_ _ _ n _=>n,λb a q _=>⟨a,k b a q⟩,λ_ _ q=>q,λ_ _ _ q=>q,λ_ ps q=>⟨#[],by rw[q];simp⟩⟩
def Un.refl:Un fs ex H H h h:=Un.kept λ_ _ q=>q
def Un.laid(k:∀b u,h.get? b=some u->h'.get? b=some u)(hp:h.objs.size<=a)(c:H a=none):Un fs ex H (upd H a o) h h' where
 keep:=λb u q _ _ _=>k b u q
 slot:=λb u q _ _ _=>⟨u.slots,k b u q⟩
 free:=λb u q n _=>by rw[A3 (aQ (aL (aI q) hp))];exact n
 there:=λb u q _=>⟨u,k b u q⟩
 tups:=λb xs q=>by rw[A3 (A8 q c)];exact q
 frzs:=λb u xs q=>by rw[A3 (A8 q c)];exact q
 tbls:=λb ps q=>⟨#[],by rw[A3 (A8 q c),q];simp⟩
def Un.write(c:Mut (H x))(j:e=x∨H e=some (.own x))(k:∀b u,b≠e->h.get? b=some u->h'.get? b=some u)(d:∃u,h'.get? e=some u):Un fs ex H (upd H x o) h h':=by
 have i:∀b,H b=none->b≠x:=λb n z=>by subst z;rw[n]at c;exact c
 have g:∀b,H b=none->b≠e:=λb n z=>by
  subst z;rcases j with r|r
  .exact i b n r
  .rw[n]at r;cases r
 have f:∀b u,H b=some u->¬Mut (some u)->b≠x:=λb u q nm z=>by subst z;rw[q]at c;exact nm c
 refine⟨λb u q n _ _=>k b u (g b n) q,λb u q n _ _=>⟨u.slots,k b u (g b n) q⟩,λb u q n _=>by rw[A3 (i b n)];exact n,λb u q _=>?_,
  λb xs q=>by rw[A3 (f b _ q λz=>z)];exact q,λb u xs q=>by rw[A3 (f b _ q λz=>z)];exact q,λb ps q=>⟨#[],by rw[A3 (f b _ q λz=>z),q];simp⟩⟩
 by_cases a:b=e
 .subst a;exact d
 .exact⟨u,k b u a q⟩
end
def trk(h:Heap)(H:Hp):qA qE:=(List.range h.objs.size).filter λa=>(H a).isSome
def a5S(h:Heap)(H:Hp):Heap:=PySem.W.hideAll h (trk h H)
def b1C(h:Heap)(H:Hp):(a5S h H).objs.size=h.objs.size:=PySem.W.hideAll_size _ _
def b4m{o:Obj}(e:h.get? b=some o)(n:H b=none):(a5S h H).get? b=some o :=
 PySem.W.hideAll_get _ e λa=>by
  have q:(H b).isSome=true:=(aP.mp a).2;rw[n]at q;simp at q
def b6l{o:Obj}(e:(a5S h H).get? b=some o):h.get? b=some o/\H b=none:=by
 have a:h.get? b=some o:=PySem.W.of_hideAll (trk h H) e;refine⟨a,?_⟩;cases q:H b with
 |none=>rfl
 |some x =>
  have c:b∈trk h H:=aP.mpr ⟨aZ.mpr (aI a),by simp[q]⟩;have z:(a5S h H).get? b=none:=PySem.W.hideAll_none (trk h H) c;rw[z]at e;cases e
def b6V(g h:Heap)(L:qE):qA (qE×Obj):=(List.range h.objs.size).filterMap λa=>if a=L∨(g.get? a).isSome=true then none else(h.get? a).map λo=>(a,o)
def rest(g h:Heap)(L d:qE):qA (qE×Obj):=(b6V g h L).filter λp=>decide (p.1≠d)
structure Mod(K:qF)(mg:Str->qD qB)(base:Heap):Prop where
 kin:K.In base
 glob:base.Ns mainGlobals mg
 blt:∃mb,base.Ns builtinsNs mb/\∀x:Str,x≠"__name__"->mb x=bootBuiltins x
 nolimit:base.NoLimit
structure Cx where
 prog:qG
 w:World
 K:qF
 mg:Str->qD qB
 base:Heap
 A:Around
 N:qA Str
 s₀:qC
 H₀:Hp
 env:Env
 outer:qA Env
 stack:qA Env
 ex:qA qE
 fn:Str->Bool
 calm:Bool
 pn:qA (qE×Obj)
 xe:qH
variable {X:Cx}
def frs(l:qA Env):qA qE:=l.filterMap (·.frame)
abbrev Cx.fs(X:Cx):qA qE:=frs X.outer
def Vis(sc:Scope)(x:Str):Prop:=sc.names.lookup x=some .local∨sc.names.lookup x=some .cell∨sc.names.lookup x=some .free
def Loc(sc:Scope)(x:Str):Prop:=sc.names.lookup x=some .local∨sc.names.lookup x=some .cell
def c0Z(env:Env)(h:Heap)(m:Str->qD qB)(x:Str)(u:qB):Prop :=
 (env.kindOf x=some .local/\m x=some u)∨((env.kindOf x=some .cell∨env.kindOf x=some .free)/\∃c,env.cells.lookup x=some c/\h.IsCell c (some u))
structure Cx.Ok(X:Cx):Prop where
 mod:Mod X.K X.mg X.base
 kind:X.env.scope.kind=.function
 glob:X.env.globals=mainGlobals
 blt:X.env.builtins=builtinsNs
 above:X.s₀.heap.objs.size<=X.env.locals
 inj:∀x y c,X.env.cells.lookup x=some c->X.env.cells.lookup y=some c->x=y
 has:∀x,(X.env.kindOf x=some .cell∨X.env.kindOf x=some .free)->∃c,X.env.cells.lookup x=some c
 cab:∀x c,X.fn x=true->X.env.cells.lookup x=some c->X.s₀.heap.objs.size<=c
 hd:X.calm=true->X.A.handled=none
 frames:X.A.frames=some X.stack
 stk:X.stack=X.outer∨(X.stack=X.env::X.outer/\X.env.frame=some X.env.locals)
 exf:∀b∈X.ex,b≠X.env.locals/\∀x c,X.env.cells.lookup x=some c->c≠b
 bs:∀b o,X.base.get? b=some o->X.s₀.heap.get? b=some o/\X.H₀ b=none
 bsz:X.base.objs.size<=X.s₀.heap.objs.size
 noex:∀b o,X.base.get? b=some o->b∉X.ex
 exfs:∀b∈X.ex,b∉X.fs
 funs:X.s₀.heap.FunFrames X.base X.outer
 frf:∀b∈X.fs,X.H₀ b=none
structure Inv(X:Cx)(qK:qA (qE×Obj))(σ:qA (qD V))(H:Hp)(s:qC):Prop where
 ok:X.Ok
 os:s.os=X.s₀.os
 bare:AllBare s.gens
 base:Un X.fs X.ex X.H₀ H X.s₀.heap s.heap
 loc:∃m,s.heap.Ns X.env.locals m/\∀(i:Nat) (x:Str) (v:V),X.N[i]?=some x->σ[i]?=some (some v)->Vis X.env.scope x->∃u,RelV v u/\c0Z X.env s.heap m x u
 cell:∀x c,X.env.cells.lookup x=some c->∃v,s.heap.IsCell c v
 free:H X.env.locals=none
 freeC:∀x c,X.env.cells.lookup x=some c->H c=none
 pin:∀p∈X.pn++qK,s.heap.get? p.1=some p.2/\H p.1=none/\p.1≠X.env.locals/\p.1∉X.fs/\∀v,p.2.data≠.cell v
 hok:HOk X.prog X.w H s.heap
 len:σ.length=X.N.length
section
variable {σ:qA (qD V)}
def Cx.Ok.nofr(ok:X.Ok){o:Obj}(e:X.base.get? b=some o):b∉X.fs:=λa=>by
 have:=(ok.funs.mem a).1;rw[e]at this;cases this
def Inv.bs(I:Inv X qK σ H s):∀b o,X.base.get? b=some o->s.heap.get? b=some o/\H b=none:=λb o e =>
 ⟨I.base.keep b o (I.ok.bs b o e).1 (I.ok.bs b o e).2 (I.ok.nofr e) (I.ok.noex b o e),I.base.free b o (I.ok.bs b o e).1 (I.ok.bs b o e).2 (I.ok.noex b o e)⟩
def Inv.bk(I:Inv X qK σ H s):∀b o,X.base.get? b=some o->s.heap.get? b=some o:=λb o e=>(I.bs b o e).1
def Inv.mod(I:Inv X qK σ H s):Mod X.K X.mg X.base:=I.ok.mod
def Inv.kIn(I:Inv X qK σ H s):X.K.In s.heap:=I.ok.mod.kin.keeps I.bk
def Inv.lt(I:Inv X qK σ H s):X.env.locals<s.heap.objs.size:=let ⟨_,hn,_⟩:=I.loc;hn.lt
def Inv.sz(I:Inv X qK σ H s):X.s₀.heap.objs.size<=s.heap.objs.size:=ba I.ok.above (cG I.lt)
def Inv.nofs(I:Inv X qK σ H s)(h:s.heap.objs.size<=a):a∉X.fs:=λb=>by
 obtain⟨_,o,c,_⟩:=I.ok.funs.mem b;exact absurd (aL (aI c) (ba I.sz h)) (bR _)
def Inv.cne(I:Inv X qK σ H s):∀x c,X.env.cells.lookup x=some c->c≠X.env.locals:=λx c e z=>by
 obtain⟨v,o,d,hd⟩:=I.cell x c e;obtain⟨m,⟨o',es,ep,b,a,_⟩,_⟩:=I.loc;rw[z,b]at d;cases d;rw[a]at hd;cases hd
def Inv.funs(I:Inv X qK σ H s):s.heap.FunFrames X.base X.outer:=by
 have all:∀(l:qA Env),(∀b∈frs l,b∈X.fs)->X.s₀.heap.FunFrames X.base l->s.heap.FunFrames X.base l:=by
  intro l;induction l with
  |nil=>intro _ _;trivial
  |cons env r j =>
   intro hs f;obtain⟨d,⟨L,o,c,g,h,hd⟩,i⟩:=f;have hL:L∈X.fs:=hs L (by unfold frs;rw[dX,c];exact ar);obtain⟨sl,e⟩:=I.base.slot L o h (I.ok.frf L hL) hL λz=>I.ok.exfs L z hL;exact⟨d,⟨L,_,c,g,e,hd⟩,j (λb a=>hs b (by unfold frs;rw[dX,c];exact aq _ a)) i⟩
 exact all X.outer (λ_ a=>a) I.ok.funs
def Inv.stack(I:Inv X qK σ H s):s.heap.FunFrames X.base X.stack:=by
 rcases I.ok.stk with e|⟨e,a⟩
 .rw[e];exact I.funs
 .rw[e];obtain⟨m,b,_⟩:=I.loc;refine .cons (by rw[I.ok.kind];decide) a b ?_ I.funs;exact Heap.get?_none_of_le (ba I.ok.bsz I.ok.above)
def Inv.stkSub(I:Inv X qK σ H s):∀b∈frs X.stack,b∈X.env.locals::X.fs:=λb a=>by
 rcases I.ok.stk with e|⟨e,c⟩
 .rw[e]at a;exact aq _ a
 .rw[e]at a;unfold frs at a;rw[dX,c]at a;exact a
def Inv.stkFree(I:Inv X qK σ H s):∀b∈frs X.stack,H b=none:=λb a=>by
 rcases aD.mp (I.stkSub b a)with e|a
 .rw[e];exact I.free
 .obtain⟨_,o,ho,_⟩:=I.ok.funs.mem a;exact I.base.free b o ho (I.ok.frf b a) λz=>I.ok.exfs b z a
def Inv.step{g':Array GenState}{d':Drawn}(I:Inv X qK σ H s)
  (g:∀b∈ch,(b∈X.ex∨X.s₀.heap.objs.size<=b)/\b≠X.env.locals/\(∀x c,X.env.cells.lookup x=some c->c≠b)/\∀p∈X.pn++qK,p.1≠b)
  (keep:∀b o,b≠X.env.locals->b∉X.fs->b∉ch->s.heap.get? b=some o->H b=none->h'.get? b=some o)
  (w:∀b o,b≠X.env.locals->b∈X.fs->b∉ch->s.heap.get? b=some o->H b=none->∃sl,h'.get? b=some {o with slots:=sl}) (free:∀b o,b∉ch->s.heap.get? b=some o->H b=none->H' b=none)
  (there:∀b o,b∉ch->s.heap.get? b=some o->∃o',h'.get? b=some o')
  (F:∀b xs,H b=some (.tup xs)->H' b=some (.tup xs)) (C:∀b o u,H b=some (.frz o u)->H' b=some (.frz o u)) (E:∀b ps,H b=some (.tbl ps)->∃more,H' b=some (.tbl (ps++more)))
  (P:∀m,s.heap.Ns X.env.locals m->h'.Ns X.env.locals m) (G:HOk X.prog X.w H' h') (N:AllBare g') :
  Inv X qK σ H' {s with heap:=h',gens:=g',drawn:=d',toks:=t'}:=by
 have D:∀b o,X.s₀.heap.get? b=some o->b≠X.env.locals:=λb o e=>aQ (aL (aI e) I.ok.above);have t:∀b o,X.s₀.heap.get? b=some o->b∉X.ex->b∉ch:=λb o e a y=>by
  rcases(g b y).1 with z|z
  .exact a z
  .exact absurd (aL (aI e) z) (bR _)
 have f:∀x c,X.env.cells.lookup x=some c->∀v,s.heap.IsCell c v->h'.IsCell c v:=λx c e v ⟨o,A,hd⟩=>by
  have h:c∉ch:=λz=>(g c z).2.2.1 x c e rfl;by_cases K:c∈X.fs
  .obtain⟨sl,q⟩:=w c o (I.cne x c e) K h A (I.freeC x c e);exact⟨_,q,hd⟩
  .exact⟨o,keep c o (I.cne x c e) K h A (I.freeC x c e),hd⟩
 refine⟨I.ok,I.os,N,⟨λb o e n y a=>?_,λb o e n y a=>?_,λb o e n a=>?_,λb o e a=>?_,λb xs e=>F b xs (I.base.tups b xs e),λb o xs e=>C b o xs (I.base.frzs b o xs e),λb ps e=>?_⟩,?_,λx c e=>?_,?_,λx c e=>?_,λp L=>?_,G,I.len⟩
 .exact keep b o (D b o e) y (t b o e a) (I.base.keep b o e n y a) (I.base.free b o e n a)
 .obtain⟨sl,j⟩:=I.base.slot b o e n y a;obtain⟨J,B⟩:=w b _ (D b o e) y (t b o e a) j (I.base.free b o e n a);exact⟨J,B⟩
 .obtain⟨o',j⟩:=I.base.there b o e a;exact free b o' (t b o e a) j (I.base.free b o e n a)
 .obtain⟨o',j⟩:=I.base.there b o e a;exact there b o' (t b o e a) j
 .obtain⟨m1,j⟩:=I.base.tbls b ps e;obtain⟨O,B⟩:=E b _ j;exact⟨m1++O,by rw[B,Array.append_assoc]⟩
 .obtain⟨m,hn,hl⟩:=I.loc;refine⟨m,P m hn,λi x v j B M=>?_⟩;obtain⟨u,r,l⟩:=hl i x v j B M;refine⟨u,r,?_⟩;rcases l with l|⟨k,c,e,z⟩
  .exact .inl l
  .exact .inr ⟨k,c,e,f x c e _ z⟩
 .obtain⟨v,z⟩:=I.cell x c e;exact⟨v,f x c e v z⟩
 .obtain⟨m,⟨o,_,_,A,_⟩,_⟩:=I.loc;exact free _ o (λz=>(g _ z).2.1 rfl) A I.free
 .obtain⟨v,o,A,hd⟩:=I.cell x c e;exact free c o (λz=>(g c z).2.2.1 x c e rfl) A (I.freeC x c e)
 .obtain⟨e,n,ne,nf,d⟩:=I.pin p L;have h:p.1∉ch:=λz=>(g p.1 z).2.2.2 p L rfl;exact⟨keep p.1 p.2 ne nf h e n,free p.1 p.2 h e n,ne,nf,d⟩
def Inv.un(I:Inv X qK σ H s)(u:Un X.fs [] H H' s.heap h')(g:HOk X.prog X.w H' h'):Inv X qK σ H' {s with heap:=h',toks:=t'}:=by
 obtain⟨m,⟨o,es,ep,h,r⟩,_⟩:=id I.loc;obtain⟨sl,hL⟩:=u.any h I.free (by simp);exact I.step (g':=s.gens) (d':=s.drawn) (ch:=[]) (λ_ z=>nomatch z) (λb o _ f _ e n=>u.keep b o e n f (by simp)) (λb o _ f _ e n=>u.slot b o e n f (by simp)) (λb o _ e n=>u.free b o e n (by simp)) (λb o _ e=>u.there b o e (by simp)) u.tups u.frzs u.tbls (λk i=>by
  obtain⟨o',d,c,a,j⟩:=i;rw[h]at a;cases a;exact⟨_,d,c,hL,j⟩) g I.bare
def Inv.call{g':Array GenState}{d':Drawn}(I:Inv X qK σ H s)(u:Un (frs X.stack) ch H H' s.heap h')(i:HOk X.prog X.w H' h')(l:AllBare g')
  (d:∀b∈ch,(b∈X.ex∨X.s₀.heap.objs.size<=b)/\b≠X.env.locals/\(∀x c,X.env.cells.lookup x=some c->c≠b)/\∀p∈X.pn++qK,p.1≠b) :
  Inv X qK σ H' {s with heap:=h',gens:=g',drawn:=d',toks:=t'}:=by
 obtain⟨m,⟨o,es,ep,j,r⟩,_⟩:=id I.loc;obtain⟨sl,hL⟩:=u.any j I.free λz=>(d _ z).2.1 rfl;exact I.step (ch:=ch) d (λb o hL k a e n=>u.keep b o e n (λz=>(aD.mp (I.stkSub b z)).elim hL k) a) (λb o _ _ a e n=>u.any e n a) (λb o a e n=>u.free b o e n a) (λb o a e=>u.there b o e a) u.tups u.frzs u.tbls (λv q=>by
  obtain⟨o',h,g,f,t⟩:=q;rw[j]at f;cases f;exact⟨_,h,g,hL,t⟩) i l
def Inv.turned{it:qE}(I:Inv X qK σ H s)(k:∀b o,b≠it->s.heap.get? b=some o->h'.get? b=some o)(i:H it=none)(hL:it≠X.env.locals)
  (h1:it∈X.ex∨X.s₀.heap.objs.size<=it) (h2:∀x c,X.env.cells.lookup x=some c->c≠it) (f:∀p∈X.pn++qK,p.1≠it):Inv X qK σ H {s with heap:=h',toks:=t'}:=by
 have d:∀b u,H b=some u->b≠it:=λb u e z=>by rw[z,i]at e;cases e
 refine I.step (g':=s.gens) (d':=s.drawn) (ch:=[it]) (λb g=>?_) (λb o _ _ a e _=>k b o (λz=>a (by simp[z])) e) (λb o _ _ a e _=>⟨o.slots,k b o (λz=>a (by simp[z])) e⟩) (λ_ _ _ _ n=>n)
  (λb o a e=>⟨o,k b o (λz=>a (by simp[z])) e⟩) (λ_ _ e=>e) (λ_ _ _ e=>e) (λb ps e=>⟨#[],by rw[e];simp⟩) (λm h=>?_) (λb u e=>?_) I.bare
 .have e:b=it:=by simpa using g
  subst e;exact⟨h1,hL,h2,f⟩
 .obtain⟨o,es,ep,ho,r⟩:=h;exact⟨o,es,ep,k _ o (du hL) ho,r⟩
 .refine(I.hok b u e).stay (λc v a q=>k c v ?_ q) (λ_ q=>q) λ_ _ q=>q;rcases a with z|z
  .rw[z];exact d b u e
  .exact d c _ z
def Inv.tok(I:Inv X qK σ H s)(t:Nat):Inv X qK σ H {s with toks:=t}:=I.un (h':=s.heap) (t':=t) Un.refl I.hok
def Inv.kept{t':Nat}(I:Inv X qK σ H s)(k:∀b u,s.heap.get? b=some u->h'.get? b=some u):Inv X qK σ H {s with heap:=h',toks:=t'}:=I.un (Un.kept k) (I.hok.kept k)
def Inv.laid{a:qE}{o:HO}{t':Nat}(I:Inv X qK σ H s)(k:∀b u,s.heap.get? b=some u->h'.get? b=some u)(hp:s.heap.objs.size<=a)(new:ObjOk X.prog X.w (upd H a o) h' a o) :
  Inv X qK σ (upd H a o) {s with heap:=h',toks:=t'}:=I.un (Un.laid k hp (I.hok.fresh hp)) (I.hok.laid k hp new)
def Inv.write{x e:qE}{o:HO}{t':Nat}(I:Inv X qK σ H s)(d:Mut (H x))(c:e=x∨H e=some (.own x))(k:∀b u,b≠e->s.heap.get? b=some u->h'.get? b=some u)(a:∃u,h'.get? e=some u)
  (new:ObjOk X.prog X.w (upd H x o) h' x o):Inv X qK σ (upd H x o) {s with heap:=h',toks:=t'}:=I.un (Un.write d c k a) (I.hok.write d c k a new)
def Inv.weak{σ':qA (qD V)}(I:Inv X qK σ H s)(d:σ'.length=σ.length)(w:∀(i:Nat) v,σ'[i]?=some (some v)->σ[i]?=some (some v)):Inv X qK σ' H s :=
 ⟨I.ok,I.os,I.bare,I.base,let ⟨m,hn,hl'⟩:=I.loc;⟨m,hn,λi x v a b c=>hl' i x v a (w i v b) c⟩,I.cell,I.free,I.freeC,I.pin,I.hok,d.trans I.len⟩
def Inv.pins_of{pins':qA (qE×Obj)}(I:Inv X qK σ H s)(h:∀p∈pins',s.heap.get? p.1=some p.2/\H p.1=none/\p.1≠X.env.locals/\p.1∉X.fs/\∀v,p.2.data≠.cell v):Inv X pins' σ H s :=
 ⟨I.ok,I.os,I.bare,I.base,I.loc,I.cell,I.free,I.freeC,λp a=>(aA.mp a).elim (λz=>I.pin p (aK _ z)) (h p),I.hok,I.len⟩
def a6U{N:qA Str}(e:N.Nodup){j:Nat}(a:N[i]?=some x)(b:N[j]?=some x):i=j:=by
 obtain⟨h1,c⟩:=aG.mp a;obtain⟨h2,d⟩:=aG.mp b;exact(List.getElem_inj e).mp (c.trans d.symm)
def a4z{Q:Unit->qC->Prop}(I:Inv X qK σ H s)(Y:X.N.Nodup)(hi:X.N[i]?=some x)(t:Loc X.env.scope x)(r:RelV v u)
  (h:∀s',Inv X qK (σ.set i (some v)) H s'->(∃a,Heap.SameBut a s.heap s'.heap/\(a=X.env.locals∨X.env.cells.lookup x=some a))->Q () s') (hf:X.fn x=true∨X.env.scope.names.lookup x=some .local:=by first|exact .inl rfl|exact .inr rfl|assumption):wpAny M A (storeName X.env x u) Q E s:=by
 obtain⟨m,O,Z⟩:=id I.loc;have G:(X.env.scope.kind==.class || (X.env.scope.kind==.module && X.env.locals != X.env.globals))=false:=by rw[I.ok.kind];rfl
 have hiσ:i<σ.length:=by rw[I.len];exact(aG.mp hi).1
 have cne:=I.cne;have g:∀{a:qE}{h':Heap},(∃o,s.heap.get? a=some o/\H a=none)->Heap.SameBut a s.heap h'->HOk X.prog X.w H h':=λ{a h'} ha hs b ob e=>by
  obtain⟨_,_,w⟩:=ha;refine(I.hok b ob e).stay (λc L l q=>(hs.2 c ?_).trans q) (λ_ q=>q) λ_ _ q=>q;rintro rfl;rcases l with rfl|l
  .rw[w]at e;cases e
  .rw[w]at l;cases l
 rcases t with C|C
 .refine wpAny_storeName_local C O (λh' P hs=>?_) G;obtain⟨oL,_,_,R,_⟩:=id O;refine h _ ⟨I.ok,I.os,I.bare,⟨λb o e n D t=>?_,λb o e n D t=>?_,I.base.free,λb o e t=>?_,I.base.tups,I.base.frzs,I.base.tbls⟩,⟨_,P,λj y W f B N=>?_⟩,λy c e=>?_,I.free,I.freeC,λp S=>?_,g ⟨oL,R,I.free⟩ hs,by simpa using I.len⟩ ⟨_,hs,.inl rfl⟩
  .exact(hs.2 b (aQ (aL (aI e) I.ok.above))).trans (I.base.keep b o e n D t)
  .obtain⟨sl,f⟩:=I.base.slot b o e n D t;exact⟨sl,(hs.2 b (aQ (aL (aI e) I.ok.above))).trans f⟩
  .obtain⟨o',f⟩:=I.base.there b o e t;exact⟨o',(hs.2 b (aQ (aL (aI e) I.ok.above))).trans f⟩
  .by_cases hj:j=i
   .subst hj;rw[hi]at f;cases f;rw[List.getElem?_set_self hiσ]at B;cases B;exact⟨u,r,.inl ⟨C,by simp⟩⟩
   .rw[List.getElem?_set_ne (du hj)]at B;obtain⟨U,T,q⟩:=Z j y W f B N;refine⟨U,T,?_⟩;rcases q with⟨k,e⟩|⟨k,c,e,z⟩
    .refine .inl ⟨k,?_⟩;have:y≠x:=λe=>hj (a6U Y f (e ▸ hi));simp[this,e]
    .exact .inr ⟨k,c,e,z.sameBut hs (cne y c e)⟩
  .obtain⟨L,z⟩:=I.cell y c e;exact⟨L,z.sameBut hs (cne y c e)⟩
  .obtain⟨e,n,ne,nf,d⟩:=I.pin p S;exact⟨(hs.2 p.1 ne).trans e,n,ne,nf,d⟩
 .have hfn:X.fn x=true:=by
   rcases hf with z|z
   .exact z
   .rw[z]at C;cases C
  obtain⟨c,l⟩:=I.ok.has x (.inl C);obtain⟨L,z⟩:=I.cell x c l;refine wpAny_storeName_cell I.ok.kind C l z (λh' F hs=>?_);obtain⟨oc,J,K⟩:=id z;refine h {s with heap:=h'} ⟨I.ok,I.os,I.bare,⟨λb o e n D t=>?_,λb o e n D t=>?_,I.base.free,λb o e t=>?_,I.base.tups,I.base.frzs,I.base.tbls⟩,⟨m,O.sameBut hs (du (cne x c l)),λj y W f B N=>?_⟩,λy c' e=>?_,I.free,I.freeC,λp S=>?_,g ⟨oc,J,I.freeC x c l⟩ hs,by simpa using I.len⟩ ⟨c,hs,.inr l⟩
  .exact(hs.2 b (aQ (aL (aI e) (I.ok.cab x c hfn l)))).trans (I.base.keep b o e n D t)
  .obtain⟨sl,f⟩:=I.base.slot b o e n D t;exact⟨sl,(hs.2 b (aQ (aL (aI e) (I.ok.cab x c hfn l)))).trans f⟩
  .obtain⟨o',f⟩:=I.base.there b o e t;exact⟨o',(hs.2 b (aQ (aL (aI e) (I.ok.cab x c hfn l)))).trans f⟩
  .by_cases hj:j=i
   .subst hj;rw[hi]at f;cases f;rw[List.getElem?_set_self hiσ]at B;cases B;exact⟨u,r,.inr ⟨.inl C,c,l,F⟩⟩
   .rw[List.getElem?_set_ne (du hj)]at B;obtain⟨U,T,q⟩:=Z j y W f B N;refine⟨U,T,?_⟩;rcases q with q|⟨k,c',e,z'⟩
    .exact .inl q
    .refine .inr ⟨k,c',e,z'.sameBut hs ?_⟩;rintro rfl;exact hj (a6U Y f (I.ok.inj _ _ _ e l ▸ hi))
  .by_cases hcc:c'=c
   .subst hcc;exact⟨_,F⟩
   .obtain⟨w2,z2⟩:=I.cell y c' e;exact⟨w2,z2.sameBut hs hcc⟩
  .obtain⟨e,n,ne,nf,d⟩:=I.pin p S;refine⟨(hs.2 p.1 ?_).trans e,n,ne,nf,d⟩;intro q;rw[q,J]at e;have q':oc=p.2:=bK e;exact d L (by rw[<-q'];exact K)
def Z5{Q:Unit->qC->Prop}(I:Inv X qK σ H s)(b:X.N.Nodup)(hi:X.N[i]?=some x)(d:Loc X.env.scope x)(r:RelV v u)
  (h:∀s',Inv X qK (σ.set i (some v)) H s'->Q () s') (c:X.fn x=true∨X.env.scope.names.lookup x=some .local:=by first|exact .inl rfl|exact .inr rfl|assumption):wpAny M A (storeName X.env x u) Q E s :=
 a4z I b hi d r (λs' a _=>h s' a) c
def Inv.call'{s':qC}(I:Inv X qK σ H s)(i:s'.os=s.os)(u:Un (frs X.stack) ch H H' s.heap s'.heap)(d:HOk X.prog X.w H' s'.heap)(h:AllBare s'.gens)
  (a:∀b∈ch,(b∈X.ex∨X.s₀.heap.objs.size<=b)/\b≠X.env.locals/\(∀x c,X.env.cells.lookup x=some c->c≠b)/\∀p∈X.pn++qK,p.1≠b):Inv X qK σ H' s':=by
 obtain⟨h',g,f,t',o'⟩:=s';have e:o'=s.os:=i;subst e;exact I.call (g':=g) (t':=t') (d':=f) u d h a
end
abbrev XK:=qB->qD qE->Hp->Prop
abbrev St:=qA (qD V)
variable {σ:St}
abbrev VK:=V->Hp->Prop
abbrev TE:=St->Hp->VK->Prop
variable {ta te:TE}
abbrev TT:=St->Hp->(Bool->Hp->Prop)->Prop
abbrev TA:=St->Hp->(qA V->Hp->Prop)->Prop
variable {t:TA}
structure Ends where
 nx:St->Hp->Prop
 rt:VK
 bk:St->Hp->Prop:=λ_ _=>False
 ct:St->Hp->Prop:=λ_ _=>False
variable {D:Ends}
abbrev TS:=Ends->St->Hp->Prop
variable {tb:TS}
def EP(X:Cx)(qK:qA (qE×Obj))(σ:St)(Q:VK)(u:qB)(s':qC):Prop:=∃v H',Inv X qK σ H' s'/\RelV v u/\Q v H'
def TP(X:Cx)(qK:qA (qE×Obj))(σ:St)(Q:Bool->Hp->Prop)(b:Bool)(s':qC):Prop:=∃H',Inv X qK σ H' s'/\Q b H'
def AP(X:Cx)(qK:qA (qE×Obj))(σ:St)(Q:qA V->Hp->Prop)(us:qA qB)(s':qC):Prop:=∃vs H',Inv X qK σ H' s'/\Vals vs us/\Q vs H'
def SP(X:Cx)(qK:qA (qE×Obj))(D:Ends)(f:Flow)(s':qC):Prop :=
 match f with
 |.next=>∃σ' H',Inv X qK σ' H' s'/\D.nx σ' H'
 |.brk=>∃σ' H',Inv X qK σ' H' s'/\D.bk σ' H'
 |.cont=>∃σ' H',Inv X qK σ' H' s'/\D.ct σ' H'
 |.ret u=>∃v σ' H',Inv X qK σ' H' s'/\RelV v u/\D.rt v H'
def PE(X:Cx)(e:Expr)(t:TE):Prop :=
 ∀(qK:qA (qE×Obj)) (s:qC) (σ:St) (H:Hp) (Q:VK),Inv X qK σ H s->t σ H Q->wpAny (model X.prog X.w) X.A (eval e X.env) (EP X qK σ Q) X.xe s
def PT(X:Cx)(e:Expr)(t:TT):Prop :=
 ∀(qK:qA (qE×Obj)) (s:qC) (σ:St) (H:Hp) (Q:Bool->Hp->Prop),Inv X qK σ H s->t σ H Q->wpAny (model X.prog X.w) X.A (isTrue e X.env (eval e X.env)) (TP X qK σ Q) X.xe s
def PW(X:Cx)(e:Expr)(t:TT):Prop :=
 ∀(whole:Sem qB) (qK:qA (qE×Obj)) (s:qC) (σ:St) (H:Hp) (Q:Bool->Hp->Prop),Inv X qK σ H s->t σ H Q->wpAny (model X.prog X.w) X.A (isTrue e X.env whole) (TP X qK σ Q) X.xe s
def PW.pt{t:TT}(h:PW X e t):PT X e t:=h _
def PA(X:Cx)(es:qA Expr)(t:TA):Prop :=
 ∀(pos:Pos) (qK:qA (qE×Obj)) (s:qC) (σ:St) (H:Hp) (Q:qA V->Hp->Prop),Inv X qK σ H s->t σ H Q->wpAny (model X.prog X.w) X.A (spliced (backTo pos (starEach es X.env))) (AP X qK σ Q) X.xe s
def PS(X:Cx)(st:Stmt)(t:TS):Prop :=
 ∀(qK:qA (qE×Obj)) (s:qC) (σ:St) (H:Hp) (D:Ends),Inv X qK σ H s->t D σ H->wpAny (model X.prog X.w) X.A (exec st X.env) (SP X qK D) X.xe s
def PSs(X:Cx)(st:qA Stmt)(t:TS):Prop :=
 ∀(qK:qA (qE×Obj)) (s:qC) (σ:St) (H:Hp) (D:Ends),Inv X qK σ H s->t D σ H->wpAny (model X.prog X.w) X.A (execs st X.env) (SP X qK D) X.xe s
def thn{α:Type}{t:Sem α}{Q b:α->qC->Prop}(h:wpAny M A t Q E s)(c:∀a s,Q a s->b a s):wpAny M A t b E s:=cX h c λ_ _ x=>x
section
def Z2(i:Nat):TE:=λσ H Q=>∃v,σ[i]?=some (some v)/\Q v H
def tC(v:V):TE:=λ_ H Q=>Q v H
def b3p(g:X.N[i]?=some x)(o:Vis X.env.scope x)(hd:(x==("__debug__" : Str))=false:=by decide)(d:(x==("__classdict__" : Str))=false:=by decide):PE X (.Name x pos) (Z2 i):=by
 intro qK s σ H Q I h;obtain⟨v,e,h⟩:=h;obtain⟨m,n,j⟩:=I.loc;obtain⟨u,r,l⟩:=j i x v g e o;have fin:EP X qK σ Q u s:=⟨v,H,I,r,h⟩;rcases l with⟨b,k⟩|⟨b,c,f,a⟩
 .exact wpAny_Name (wpAny_loadName_local I.ok.kind b n k fin) hd
 .rcases b with b|b
  .exact wpAny_Name (wpAny_loadName_cell I.ok.kind b f a fin) hd
  .exact wpAny_Name (wpAny_loadName_free I.ok.kind b f a fin d) hd
def b8u{i j pos}:PE X (.Constant (.int i) j pos) (tC (.int i)):=λ_ _ _ H _ I h=>wpAny_Constant_int ⟨.int i,H,I.tok _,⟨_,rfl⟩,h⟩
def c0t{b j pos}:PE X (.Constant (.bool b) j pos) (tC (.bl b)):=λ_ _ _ H _ I h=>Constant_bool ⟨.bl b,H,I,rfl,h⟩
def b8s{j pos}:PE X (.Constant .none j pos) (tC .non):=λ_ _ _ H _ I h=>Constant_none ⟨.non,H,I,rfl,h⟩
def b8p{x j pos}:PE X (.Constant (.str x) j pos) (tC (.str x)):=λ_ _ _ H _ I h=>Calls.Constant_str ⟨.str x,H,I.tok _,⟨_,rfl⟩,h⟩
def Gl(X:Cx)(x:Str):Prop:=X.env.kindOf x=some .globalImplicit
def a1u(I:Inv X qK σ H s)(a:Gl X x)(b:X.mg x=some u)(h:Q u s)
  (hd:(x==("__debug__" : Str))=false:=by decide):wpAny (model X.prog X.w) X.A (eval (.Name x pos) X.env) Q E s :=
 Calls.Name_function_global I.ok.kind a (Calls.loadGlobal_global (by rw[I.ok.glob];exact I.mod.glob.keeps I.bk) b h) hd
def a1R(I:Inv X qK σ H s)(a:Gl X x)(b:X.mg x=none)(d:bootBuiltins x=some u)(h:Q u s)
  (c:x≠"__name__":=by decide) (hd:(x==("__debug__" : Str))=false:=by decide):wpAny (model X.prog X.w) X.A (eval (.Name x pos) X.env) Q E s:=by
 obtain⟨e,h1,h2⟩:=I.mod.blt;exact Calls.Name_function_global I.ok.kind a (Calls.loadGlobal_builtin (by rw[I.ok.glob];exact I.mod.glob.keeps I.bk) b (by rw[I.ok.blt];exact h1.keeps I.bk) ((h2 x c).trans d) h) hd
def b5U(a:Gl X x)(b:X.mg x=none)(d:bootBuiltins x=some u)(r:RelV v u)(c:x≠"__name__":=by decide)(hd:(x==("__debug__" : Str))=false:=by decide):PE X (.Name x pos) (tC v) :=
 λ_ _ _ H _ I h=>a1R I a b d ⟨v,H,I,r,h⟩ c hd
variable {a b:Expr}{tb:TE}
def PC(X:Cx)(op:CmpOp)(a b:Expr)(t:TE):Prop :=
 ∀(qK:qA (qE×Obj)) (s:qC) (σ:St) (H:Hp) (Q:VK),Inv X qK σ H s->t σ H Q ->
  wpAny (model X.prog X.w) X.A (eval a X.env) (λv s₁=>wpAny (model X.prog X.w) X.A (eval b X.env) (λu s₂=>wpAny (model X.prog X.w) X.A (compareOp op v u) (EP X qK σ Q) X.xe s₂) X.xe s₁) X.xe s
def tB(t:TE):TT:=λσ H Q=>t σ H λx H1=>∃c,x=.bl c/\Q c H1
def b8w{c:CmpOp}{t:TE}(h:PC X c a b t)(h1:behindInMarks c b=false:=by first|exact nobehind _ (by decide) (by decide)|rfl):PE X (.Compare a [c] [b] pos) t:=λqK s σ H Q I hw=>wpAny_Compare1 (h qK s σ H Q I hw) h1
def b8d{e:CmpOp}{t:TE}(h:PC X e a b t)(h1:behindInMarks e b=false:=by first|exact nobehind _ (by decide) (by decide)|rfl):PT X (.Compare a [e] [b] pos) (tB t):=by
 intro qK s σ H Q I hw;refine wpAny_isTrue_Compare1 (thn (h qK s σ H _ I hw) λv s1 h1=>thn h1 λu s2 h2=>thn h2 λc j ⟨x,H1,f,i,g⟩=>?_) h1;obtain⟨d,rfl,q⟩:=g;cases i;exact dm ⟨H1,f,q⟩
variable {tA tB':TT}{rest:qA Expr}
def c0f(t u:TT):TT:=λσ H Q=>t σ H λc H1=>if c=true then u σ H1 Q else Q false H1
def tOr(t u:TT):TT:=λσ H Q=>t σ H λc H1=>if c=true then Q true H1 else u σ H1 Q
def c0a(t:TT):TT:=λσ H Q=>t σ H λc H1=>Q (!c) H1
def pw_and1(b:PT X a tA):PW X (.BoolOp .And [a] pos) tA:=by
 intro d qK s σ H Q I h;refine isTrue_and (thn (b qK s σ H Q I h) λc s1 e=>?_);cases c with
 |true=>exact isTrue_and_nil e
 |false=>exact e
def pw_or1(b:PT X a tA):PW X (.BoolOp .Or [a] pos) tA:=by
 intro d qK s σ H Q I h;refine isTrue_or (thn (b qK s σ H Q I h) λc s1 e=>?_);cases c with
 |false=>exact isTrue_or_nil e
 |true=>exact e
def pw_and(f:PT X a tA)(g:PW X (.BoolOp .And (b::rest) pos) tB'):PW X (.BoolOp .And (a::b::rest) pos) (c0f tA tB'):=by
 intro i qK s σ H Q I h;refine isTrue_and (thn (f qK s σ H _ I h) λc s1 ⟨H1,d,e⟩=>?_);cases c with
 |true=>exact g i qK s1 σ H1 Q d e
 |false=>exact⟨H1,d,e⟩
def pw_or(f:PT X a tA)(g:PW X (.BoolOp .Or (b::rest) pos) tB'):PW X (.BoolOp .Or (a::b::rest) pos) (tOr tA tB'):=by
 intro i qK s σ H Q I h;refine isTrue_or (thn (f qK s σ H _ I h) λc s1 ⟨H1,d,e⟩=>?_);cases c with
 |true=>exact⟨H1,d,e⟩
 |false=>exact g i qK s1 σ H1 Q d e
def b8c(b:PT X a tA):PT X (.UnaryOp .Not a pos) (c0a tA):=by
 intro qK s σ H Q I h;exact isTrue_not (b qK s σ H (λc H1=>Q (!c) H1) I h)
def b7d(ta tb:TE):TE:=λσ H Q=>ta σ H λx H1=>∃c,x=.bl c/\if c=true then tb σ H1 Q else Q (.bl false) H1
def b9Z(ta tb:TE):TE:=λσ H Q=>ta σ H λx H1=>∃c,x=.bl c/\if c=true then Q (.bl true) H1 else tb σ H1 Q
def b6Y(ta:TE):TE:=λσ H Q=>ta σ H λx H1=>∃c,x=.bl c/\Q (.bl (!c)) H1
def b8q{op}{t:TE}(h:PE X a t):PE X (.BoolOp op [a] pos) t:=λqK s σ H Q I hw=>BoolOp_one (h qK s σ H Q I hw)
def b8x(f:PE X a ta)(g:PE X (.BoolOp .And (b::rest) pos) tb):PE X (.BoolOp .And (a::b::rest) pos) (b7d ta tb):=by
 intro qK s σ H Q I h;refine BoolOp_and (thn (f qK s σ H _ I h) λv s1 ⟨x,H1,e,i,d⟩=>?_);obtain⟨c,rfl,d⟩:=d;cases i;refine dm ?_;cases c with
 |true=>exact g qK s1 σ H1 Q e d
 |false=>exact⟨.bl false,H1,e,rfl,d⟩
def c0r(f:PE X a ta)(g:PE X (.BoolOp .Or (b::rest) pos) tb):PE X (.BoolOp .Or (a::b::rest) pos) (b9Z ta tb):=by
 intro qK s σ H Q I h;refine BoolOp_or (thn (f qK s σ H _ I h) λv s1 ⟨x,H1,e,i,d⟩=>?_);obtain⟨c,rfl,d⟩:=d;cases i;refine dm ?_;cases c with
 |false=>exact g qK s1 σ H1 Q e d
 |true=>exact⟨.bl true,H1,e,rfl,d⟩
def b8r(e:PE X a ta):PE X (.UnaryOp .Not a pos) (b6Y ta):=by
 intro qK s σ H Q I h;refine UnaryOp_ (thn (e qK s σ H _ I h) λv s1 ⟨x,H1,d,f,b⟩=>?_);obtain⟨c,rfl,b⟩:=b;cases f;exact not_of (dm ⟨.bl (!c),H1,d,rfl,b⟩)
def tIf(t:TT)(ta tb:TE):TE:=λσ H Q=>t σ H λc H1=>if c=true then ta σ H1 Q else tb σ H1 Q
def b3r(j:PT X c tA)(g:PE X a ta)(i:PE X b tb):PE X (.IfExp c a b pos) (tIf tA ta tb):=by
 intro qK s σ H Q I h;refine wpAny_IfExp (thn (j qK s σ H _ I h) λd s1 ⟨H1,e,f⟩=>?_);cases d with
 |true=>exact g qK s1 σ H1 Q e f
 |false=>exact i qK s1 σ H1 Q e f
end
def SqL(K:qF)(H:Hp)(a:qE)(xs:qA V):Prop :=
 Rd H a (.lst xs) ∨
  ∃(o:Obj) (its:Array qB) (n:Nat),K.lookup a=some o/\o.cls=.type "list"/\o.dict=none/\o.data=.seq its n/\its.size<=sizeLine/\Vals xs its.toList
def SqT(K:qF)(H:Hp)(a:qE)(xs:qA V):Prop :=
 Rd H a (.tup xs) ∨
  ∃(o:Obj) (its:Array qB) (n:Nat),K.lookup a=some o/\o.cls=.type "tuple"/\o.data=.seq its n/\its.size<=sizeLine/\Vals xs its.toList
def c0X:qB->qD V
 |.none=>some .non
 |.bool b=>some (.bl b)
 |.int i _=>some (.int i)
 |.str x _=>some (.str x)
 |.bytes b _=>some (.byt b)
 |.float b _=>some (.flt b)
 |.ref a=>some (.ref a)
 |.type n=>some (.ty n)
 |_=>none
def RelV.abs{x:V}(r:RelV x u):c0X u=some x:=by
 cases x with
 |non=>cases r;rfl
 |bl _=>cases r;rfl
 |int _=>obtain⟨t,rfl⟩:=r;rfl
 |str _=>obtain⟨t,rfl⟩:=r;rfl
 |byt _=>obtain⟨t,rfl⟩:=r;rfl
 |flt _=>obtain⟨t,rfl⟩:=r;rfl
 |ref _=>cases r;rfl
 |ty _=>cases r;rfl
def RelV.inj{x y:V}(r:RelV x u)(q:RelV y u):x=y:=bK (r.abs.symm.trans q.abs)
def Vals.inj:∀{xs ys:qA V}{us:qA qB},Vals xs us->Vals ys us->xs=ys
 |_,_,_,.nil,.nil=>rfl
 |_,_,_,.cons r t,.cons r' t'=>by rw[r.inj r',Vals.inj t t']
section
variable {ys:qA V}
def SqL.of(h:H a=some (.lst xs)):SqL K H a xs:=.inl (.inl h)
def SqT.of(h:H a=some (.tup xs)):SqT K H a xs:=.inl (.inl h)
def Inv.list(I:Inv X qK σ H s)(h:SqL X.K H a xs):∃its:qA qB,Vals xs its/\PlainL s.heap a its.toArray/\xs.length<=sizeLine:=by
 rcases h with h|⟨o,its,n,c,b,hd,hs,d,r⟩
 .obtain⟨z,its,n,r,e⟩:=h.ok I.hok;exact⟨its,r,⟨_,n,e,rfl,rfl,rfl⟩,z⟩
 .refine⟨its.toList,r,⟨o,n,I.kIn a o c,b,hd,by simpa using hs⟩,?_⟩;have e:=r.length;simp only[ay]at e;omega
def Inv.tuple(I:Inv X qK σ H s)(h:SqT X.K H a xs):∃its:qA qB,Vals xs its/\IsTup s.heap a its.toArray/\xs.length<=sizeLine:=by
 rcases h with h|⟨o,its,n,c,b,hs,d,r⟩
 .obtain⟨z,its,r,p⟩:=h.ok I.hok;exact⟨its,r,p,z⟩
 .refine⟨its.toList,r,⟨o,I.kIn a o c,b,n,by simpa using hs⟩,?_⟩;have e:=r.length;simp only[ay]at e;omega
def Inv.list_inj(I:Inv X qK σ H s)(h:SqL X.K H a xs)(h':SqL X.K H a ys):xs=ys:=by
 obtain⟨its,r,⟨o,n,e,_,_,d⟩,_⟩:=I.list h;obtain⟨b,g,⟨o',i,f,_,_,c⟩,_⟩:=I.list h';rw[e]at f;cases f;rw[d]at c;injection c with d1 _
 have:its=b:=by simpa using aR Array.toList d1
 subst this;exact r.inj g
def Inv.tuple_inj(I:Inv X qK σ H s)(h:SqT X.K H a xs)(h':SqT X.K H a ys):xs=ys:=by
 obtain⟨its,r,⟨o,e,_,n,d⟩,_⟩:=I.tuple h;obtain⟨b,g,⟨o',f,_,i,c⟩,_⟩:=I.tuple h';rw[e]at f;cases f;rw[d]at c;injection c with d1 _
 have:its=b:=by simpa using aR Array.toList d1
 subst this;exact r.inj g
end
abbrev Cx.wish(X:Cx)(E:qH):Cx:={X with xe:=E}
abbrev Cx.nox(X:Cx):Cx:=X.wish λ_ _=>False
def Cx.Ok.wish(ok:X.Ok)(E:qH):(X.wish E).Ok :=
 ⟨ok.mod,ok.kind,ok.glob,ok.blt,ok.above,ok.inj,ok.has,ok.cab,ok.hd,ok.frames,ok.stk,ok.exf,ok.bs,ok.bsz,ok.noex,ok.exfs,ok.funs,ok.frf⟩
def Cx.Ok.unwish(ok:(X.wish E).Ok):X.Ok :=
 ⟨ok.mod,ok.kind,ok.glob,ok.blt,ok.above,ok.inj,ok.has,ok.cab,ok.hd,ok.frames,ok.stk,ok.exf,ok.bs,ok.bsz,ok.noex,ok.exfs,ok.funs,ok.frf⟩
def Inv.wish(I:Inv X qK σ H s)(E:qH):Inv (X.wish E) qK σ H s:=⟨I.ok.wish E,I.os,I.bare,I.base,I.loc,I.cell,I.free,I.freeC,I.pin,I.hok,I.len⟩
def Inv.unwish(I:Inv (X.wish E) qK σ H s):Inv X qK σ H s:=⟨I.ok.unwish,I.os,I.bare,I.base,I.loc,I.cell,I.free,I.freeC,I.pin,I.hok,I.len⟩
def SP.unwish{D:Ends}{f:Flow}{s':qC}(h:SP (X.wish E) qK D f s'):SP X qK D f s':=by
 cases f with
 |next=>obtain⟨σ',H',I,q⟩:=h;exact⟨σ',H',I.unwish,q⟩
 |brk=>obtain⟨σ',H',I,q⟩:=h;exact⟨σ',H',I.unwish,q⟩
 |cont=>obtain⟨σ',H',I,q⟩:=h;exact⟨σ',H',I.unwish,q⟩
 |ret u=>obtain⟨v,σ',H',I,r,q⟩:=h;exact⟨v,σ',H',I.unwish,r,q⟩
def PSs.nox{st:qA Stmt}{t:TS}(h:PSs X.nox st t):PSs X st t:=λqK s σ H D I hw =>
 cX (h qK s σ H D (I.wish _) hw) (λ_ _ q=>q.unwish) λ_ _ z=>False.elim z
section
variable {st:Stmt}{rest:qA Stmt}{t u:TS}
def b6Z:TS:=λD σ H=>D.nx σ H
def b7Q(t u:TS):TS:=λD σ H=>t {D with nx:=u D} σ H
def b5z:PSs X [] b6Z:=λ_ _ σ H _ I h=>ed ⟨σ,H,I,h⟩
def b3e(h1:PS X st t)(h2:PSs X rest u):PSs X (st::rest) (b7Q t u):=by
 intro qK s σ H D I h;refine wpAny_execs_cons (thn (h1 qK s σ H {D with nx:=u D} I h) λf s1 q=>?_);cases f with
 |next =>
  obtain⟨σ',H',a,q⟩:=q;exact h2 qK s1 σ' H' D a q
 |ret v=>exact q
 |brk=>exact q
 |cont=>exact q
def b5y(h1:PS X st t):PSs X [st] t:=by
 intro qK s σ H D I h;refine wpAny_execs_cons (thn (h1 qK s σ H D I h) λf s1 q=>?_);cases f with
 |next=>exact ed q
 |ret v=>exact q
 |brk=>exact q
 |cont=>exact q
def b2u:TS:=λD σ H=>D.bk σ H
def b3i:PS X (.Break pos) b2u:=λ_ _ σ H _ I h=>wpAny_Break ⟨σ,H,I,h⟩
def Inv.quiet(I:Inv X qK σ H s):interactive X.env=false:=by simp[interactive,I.ok.kind]
def b7b(te:TE):TS:=λD σ H=>te σ H λ_ H1=>D.nx σ H1
def b5B(b:PE X e te)(hs:swapsWith e none pos.line X.env=pure false:=by rfl):PS X (.Expr e pos) (b7b te):=by
 intro qK s σ H D I h;exact wpAny_Expr_any (thn (b qK s σ H _ I h) λv s1 ⟨x,H1,a,d,c⟩=>⟨σ,H1,a,c⟩) I.quiet hs
def b7R(te:TE):TS:=λD σ H=>te σ H D.rt
def b8f(b:PE X e te):PS X (.Return (some e) pos) (b7R te):=by
 intro qK s σ H D I h;exact wpAny_Return_some (thn (b qK s σ H _ I h) λv s1 ⟨x,H1,a,d,c⟩=>⟨x,σ,H1,a,d,c⟩)
def c1a:TS:=λD _ H=>D.rt .non H
def c0b(c:TT)(t u:TS):TS:=λD σ H=>c σ H λb H1=>if b=true then t D σ H1 else u D σ H1
def c0o{a b:qA Stmt}{tc:TT}(j:PT X c tc)(g:PSs X a t)(i:PSs X b u):PS X (.If c a b pos) (c0b tc t u):=by
 intro qK s σ H D I h;refine wpAny_If (thn (j qK s σ H _ I h) λd s1 ⟨H1,e,f⟩=>?_);cases d with
 |true=>exact g qK s1 σ H1 D e f
 |false=>exact i qK s1 σ H1 D e f
end
abbrev TG:=V->St->Hp->(St->Hp->Prop)->Prop
abbrev TGs:=qA V->St->Hp->(St->Hp->Prop)->Prop
def PG(X:Cx)(target:Expr)(t:TG):Prop :=
 ∀(qK:qA (qE×Obj)) (s:qC) (σ:St) (H:Hp) (v:V) (u:qB) (Q:St->Hp->Prop),Inv X qK σ H s->RelV v u->t v σ H Q ->
  wpAny (model X.prog X.w) X.A (assign target X.env u) (λ_ s'=>∃σ' H',Inv X qK σ' H' s'/\Q σ' H') X.xe s
def PGs(X:Cx)(ts:qA Expr)(t:TGs):Prop :=
 ∀(qK:qA (qE×Obj)) (s:qC) (σ:St) (H:Hp) (vs:qA V) (us:qA qB) (Q:St->Hp->Prop),Inv X qK σ H s->Vals vs us->t vs σ H Q ->
  wpAny (model X.prog X.w) X.A (assignInOrder ((assignEach ts X.env).map (·.2)) us) (λ_ s'=>∃σ' H',Inv X qK σ' H' s'/\Q σ' H') X.xe s
abbrev b9N:=V->V->V->Hp->(Hp->Prop)->Prop
def c0O(X:Cx)(t:b9N):Prop :=
 ∀(qK:qA (qE×Obj)) (s:qC) (σ:St) (H:Hp) (o i v:V) (ov iv u:qB) (Q:Hp->Prop),Inv X qK σ H s->RelV o ov->RelV i iv->RelV v u->t o i v H Q ->
  wpAny (model X.prog X.w) X.A (setItem ov iv u) (λ_ s'=>∃H',Inv X qK σ H' s'/\Q H') X.xe s
abbrev TIp:=V->V->Hp->VK->Prop
def B0(i:Nat):TG:=λv σ H Q=>Q (σ.set i (some v)) H
def b5P(b:X.N.Nodup)(hi:X.N[i]?=some x)(d:Loc X.env.scope x)(c:X.fn x=true∨X.env.scope.names.lookup x=some .local:=by first|exact .inl rfl|exact .inr rfl|assumption):PG X (.Name x pos) (B0 i):=by
 intro qK s σ H v u Q I r h;exact wpAny_assign_Name (Z5 I b hi d r (λs' a=>⟨_,H,a,h⟩) c)
def a8I:TGs:=λvs σ H Q=>vs=[]/\Q σ H
def Y9(t:TG)(u:TGs):TGs:=λvs σ H Q=>∃v r,vs=v::r/\t v σ H λσ' H'=>u r σ' H' Q
def b5N:PGs X [] a8I:=by
 intro qK s σ H vs a Q I r h;obtain⟨e,h⟩:=h;subst e;cases r;exact assignInOrder_nil ⟨σ,H,I,h⟩
def b3o{t:TG}{u:TGs}(h1:PG X e t)(h2:PGs X es u)
  (hs:(assignEach (e::es) X.env).map (·.2)=assign e X.env::(assignEach es X.env).map (·.2):=by rfl):PGs X (e::es) (Y9 t u):=by
 intro qK s σ H vs d Q I r h;obtain⟨v,f,b,h⟩:=h;subst b;cases r with
 |cons r rr =>
  rw[hs];refine assignInOrder_cons (thn (h1 qK s σ H _ _ _ I r h) λ_ s1 ⟨σ1,H1,a,c⟩=>?_);exact h2 qK s1 σ1 H1 _ _ Q a rr c
def a7q(K:qF)(n:Nat)(t:TGs):TG:=λv σ H Q=>∃a xs,v=.ref a/\SqT K H a xs/\xs.length=n/\t xs σ H Q
def b8m{t:TGs}(i:X.calm=true)(h:PGs X es t)
  (l:(assignEach es X.env).length=n:=by rfl) (c:(assignEach es X.env).findIdx? (·.1)=none:=by rfl):PG X (.Tuple es k pos) (a7q X.K n t):=by
 intro qK s σ H v u Q I r hw;obtain⟨a,xs,g,m,j,hw⟩:=hw;subst g;cases r;obtain⟨its,d,p,w⟩:=I.tuple m;refine assign_Tuple_tuple (I.ok.hd i) p (by simp[l,<-j,d.length]) c λh' q=>?_;have f:Inv X qK σ H {s with heap:=h'}:=I.kept (t':=s.toks) λb o e=>q b o (aQ (aI e)) e;exact h qK _ σ H xs _ Q f (by simpa using d) hw
def c0K(to ti:TE)(t:b9N):TG:=λv σ H Q=>to σ H λo H1=>ti σ H1 λi H2=>t o i v H2 λH3=>Q σ H3
def b8n{o i:Expr}{to c:TE}{t:b9N}(k:PE X o to)(hi:PE X i c)(hs:c0O X t)
  (j:∀v,assign (.Subscript o i pos) X.env v=(do
   let a <-holding [v] (eval o X.env)
   let b <-holding [v,a] (eval i X.env)
   standAt pos
   holding [v,a,b] (setItem a b v)
   release [v,a,b] []):=by intro _;rfl):PG X (.Subscript o i pos) (c0K to c t):=by
 intro qK s σ H v u Q I r h;rw[j];refine aa (bY (thn (k qK s σ H _ I h) λa s1 ⟨x,H1,e,p,l⟩=>?_));refine aa (bY (thn (hi qK s1 σ H1 _ e l) λb s2 ⟨y,H2,f,q,m⟩=>?_));refine aa (wpAny_standAt (aa (bY (thn (hs qK s2 σ H2 x y v a b u _ f p q r m) λ_ w ⟨d,g,n⟩=>?_))));exact wpAny_release ⟨σ,d,g,n⟩
def b0I(te:TE)(g:TG):TS:=λD σ H=>te σ H λx H1=>g x σ H1 D.nx
def b8j{g:TG}(b:PE X e te)(c:PG X tg g)(hs:swapsWithSole [tg] e pos.line X.env=pure false:=by rfl)(hw:swappedStores [tg] e X.env=pure none:=by rfl)
  (h1:(assignEach [tg] X.env).map (·.2)=[assign tg X.env]:=by rfl):PS X (.Assign [tg] e pos) (b0I te g):=by
 intro qK s σ H D I h;refine wpAny_Assign_stores (thn (b qK s σ H _ I h) λv s1 ⟨x,H1,a,f,d⟩=>?_) hs hw;rw[h1];exact thn (c qK s1 σ H1 x v _ a f d) λ_ s2 q=>q
def b8e{pos':Pos}(c:X.N.Nodup)(hi:X.N[i]?=some x)(g:Loc X.env.scope x)(d:PE X e te)(hs:swapsWith e (some (.Name x pos')) pos.line X.env=pure false:=by rfl)(f:X.fn x=true∨X.env.scope.names.lookup x=some .local:=by first|exact .inl rfl|exact .inr rfl|assumption) :
  PS X (.Assign [.Name x pos'] e pos) (b0I te (B0 i)):=by
 intro qK s σ H D I h;refine wpAny_Assign_Name (thn (d qK s σ H _ I h) λv s1 ⟨y,H1,a,k,j⟩=>?_) hs;exact Z5 a c hi g k (λs2 b=>⟨_,H1,b,j⟩) f
def b9Y(i j:Nat)(ta:TA):TS:=λD σ H=>ta σ H λvs H1=>∃v w,vs=[v,w]/\D.nx ((σ.set i (some v)).set j (some w)) H1
def b8g{j:Nat}{y:Str}{a b:Expr}{ta:TA}{k l pt:Pos}{kt k2 pt2}(J:X.calm=true)(t:X.N.Nodup)(hi:X.N[i]?=some x)(K:X.N[j]?=some y)(f:i≠j)
  (u:X.env.scope.names.lookup x=some .local) (z:X.env.scope.names.lookup y=some .local) (G:PA X [a,b] ta)
  (hw:swappedStores [.Tuple [.Name x k,.Name y l] kt pt] (.Tuple [a,b] k2 pt2) X.env=pure (some [x,y]))
  (hs:swapsWithSole [.Tuple [.Name x k,.Name y l] kt pt] (.Tuple [a,b] k2 pt2) pos.line X.env=pure false:=by rfl) :
  PS X (.Assign [.Tuple [.Name x k,.Name y l] kt pt] (.Tuple [a,b] k2 pt2) pos) (b9Y i j ta):=by
 intro qK s σ H D I h;rw[exec_Assign_arm];refine aa (wpAny_standAt ?_);rw[hs];refine aa (ae ?_);rw[au (by decide)];refine aa (Tuple_ (thn (G _ qK s σ H _ I h) λN s1 ⟨vs,H1,A,L,m⟩=>?_));obtain⟨v,w,F,m⟩:=m;subst F;obtain⟨c,d,rfl,M,n⟩:∃c d,N=[c,d]/\RelV v c/\RelV w d:=by
  cases L with
  |cons p q =>
   cases q with
   |cons p' q' =>
    cases q';exact⟨_,_,rfl,p,p'⟩
 refine bz ?_ (by show 2<=sizeLine;decide);have B:Inv X qK σ H1 {s1 with heap:=s1.heap.push {cls:=.type "tuple",data:=.seq [c,d].toArray}}:=A.kept (t':=s1.toks) λb o e=>ag _ e;rw[hw];refine aa (ae ?_);show wpAny (model X.prog X.w) X.A (do rule "assign.swapped-stores";let items <-unpackItems (.ref s1.heap.objs.size) 2 none;assignInOrder [λv=>bindName X.env y v,λv=>bindName X.env x v] items.reverse;pure Flow.next) _ _ _;refine aa (dP (aa (unpackItems_tuple (items:=#[c,d]) (I.ok.hd J) (fi s1.heap _) λh' g=>?_)));have C:=B.kept (h':=h') (t':=s1.toks) λb o e=>g b o (aQ (aI e)) e;show wpAny _ _ (assignInOrder [λv=>bindName X.env y v,λv=>bindName X.env x v] [d,c]>>=λ_=>pure Flow.next) _ _ _;refine aa (assignInOrder_cons (wpAny_bindName (Z5 C t K (.inl z) n (λs2 E=>?_) (.inr z))));refine assignInOrder_cons (wpAny_bindName (Z5 E t hi (.inl u) M (λO r=>assignInOrder_nil (ae ?_)) (.inr u)));rw[List.set_comm _ _ (du f)]at r;exact⟨_,H1,r,m⟩
def ipI(f:Int->Int->Int):TIp:=λx y H Q=>∃i j,x=.int i/\y=.int j/\Q (.int (f i j)) H
def b2p(c:TT)(tb:TS):TS:=λD σ H=>∃W:Nat->St->Hp->Prop,(∃m,W m σ H)/\∀m σ H,W m σ H ->
 c σ H λb H1=>if b=true then ∃N:St->Hp->Prop,(∀σ' H',N σ' H'->∃m',m'<m/\W m' σ' H')/\tb {D with nx:=N,ct:=N,bk:=D.nx} σ H1 else D.nx σ H1
def b3f{tc:TT}(hp:PassesOwn (model X.prog X.w) X.A X.env X.xe)(t:PT X c tc)(r:PSs X body tb):PS X (.While c body [] pos) (b2p tc tb):=by
 intro qK s σ H D I h;obtain⟨W,⟨u,w⟩,d⟩:=h;refine wpAny_While (codeAny_whileLoop (λn s'=>∃σ' H',Inv X qK σ' H' s'/\W n σ' H') ?_ u ⟨σ,H,I,w⟩);rintro n s1 ⟨σ1,H1,q,x⟩;refine dG hp (thn (t qK s1 σ1 H1 _ q (d n σ1 H1 x)) λb s2 ⟨H2,o,e⟩=>?_);cases b with
 |true =>
  obtain⟨N,p,e⟩:=e;rw[az rfl];refine dG hp (thn (r qK s2 σ1 H2 _ o e) λf y g=>?_);cases f with
  |next =>
   obtain⟨σ3,a,i,l⟩:=g;obtain⟨k,j,m⟩:=p σ3 a l;exact⟨k,j,σ3,a,i,m⟩
  |cont =>
   obtain⟨σ3,a,i,l⟩:=g;obtain⟨k,j,m⟩:=p σ3 a l;exact⟨k,j,σ3,a,i,m⟩
  |brk=>exact g
  |ret v=>exact g
 |false =>
  rw[au aY];exact ed ⟨σ1,H2,o,e⟩
structure It where
 go:Nat->Hp->Prop
 yld:Nat->Hp->V->Hp->Prop
 stop:Nat->Hp->Prop
def a2l(X:Cx)(qK:qA (qE×Obj))(H:Hp)(b:qE):Prop :=
 H b=none/\b≠X.env.locals/\b∉X.fs/\(b∈X.ex∨X.s₀.heap.objs.size<=b)/\(∀x c,X.env.cells.lookup x=some c->c≠b)/\∀p∈X.pn++qK,p.1≠b
def Inv.fpOk(I:Inv X qK σ H s)(a:s.heap.objs.size<=b)(d:H' b=none):a2l X qK H' b:=by
 refine⟨d,cR (aL I.lt a),I.nofs a,.inr (ba I.sz a),λx c e z=>?_,λp f z=>?_⟩
 .obtain⟨v,q⟩:=I.cell x c e;exact absurd (aL q.lt (by rw[z];exact a)) (bR _)
 .exact absurd (aL (aI (I.pin p f).1) (by rw[z];exact a)) (bR _)
structure Turn(P:qG)(w:World)(K:qF)(tg:Expr)(J:It)(fp:qA qE)(it:qE)(tn:Nat->Heap->Prop):Prop where
 mem:it∈fp
 obj:∀i h,tn i h->∀b∈fp,∃o,h.get? b=some o/\∀v,o.data≠.cell v
 keep:∀i h h',tn i h->(∀b∈fp,∀o,h.get? b=some o->h'.get? b=some o)->tn i h'
 item:∀(X:Cx),X.prog=P->X.w=w->X.K=K->X.calm=true->∀(i:Nat) (qK:qA (qE×Obj)) (s:qC) (σ:St) (H:Hp) (E:qH),Inv X qK σ H s->(∀b∈fp,a2l X qK H b)->tn i s.heap->J.go i H ->
  wpAny (model P w) X.A (pyNext (.ref it)) (λr s1=>∃u,r=some u /\
   wpAny (model P w) X.A (letOwnedTupleGo tg (.ref it) u) (λ_ s2=>∃x H',Inv X qK σ H' s2/\RelV x u/\J.yld i H x H'/\tn (i+1) s2.heap/\∀b∈fp,H' b=none) E s1) E s
 done:∀(X:Cx),X.prog=P->X.w=w->X.K=K->X.calm=true->∀(i:Nat) (qK:qA (qE×Obj)) (s:qC) (σ:St) (H:Hp) (E:qH),Inv X qK σ H s->(∀b∈fp,a2l X qK H b)->tn i s.heap->J.stop i H ->
  wpAny (model P w) X.A (pyNext (.ref it)) (λr s1=>r=none/\Inv X qK σ H s1) E s
 self:∀(A:Around) (i:Nat) (s:qC) (Q:qH) (E:qH),tn i s.heap->Q (.ref it) s->wpAny (model P w) A (pyIter (.ref it)) Q E s
abbrev TI:=St->Hp->(It->Hp->Prop)->Prop
def PIE(X:Cx)(qK:qA (qE×Obj))(σ:St)(tg:Expr)(R:It->Hp->Prop)(itv:qB)(s2:qC):Prop :=
 ∃(it:qE) (fp:qA qE) (tn:Nat->Heap->Prop) (J:It) (H':Hp),itv=.ref it/\Inv X qK σ H' s2/\Turn X.prog X.w X.K tg J fp it tn/\tn 0 s2.heap/\(∀b∈fp,a2l X qK H' b)/\R J H'
def PI(X:Cx)(tg iter:Expr)(wi:TI):Prop :=
 ∀(qK:qA (qE×Obj)) (s:qC) (σ:St) (H:Hp) (R:It->Hp->Prop),Inv X qK σ H s->wi σ H R ->
  wpAny (model X.prog X.w) X.A (eval iter X.env) (λv s1=>wpAny (model X.prog X.w) X.A (pyIter v) (PIE X qK σ tg R) X.xe s1) X.xe s
def b0a{it:qE}{o:Obj}{n:String}{vs:Array qB}{Q:Unit->qC->Prop}(d:s.heap.get? it=some o)(b:o.cls=.type n)(hd:o.data=.fields vs)
  (c:["enumerate","zip","dict_itemiterator","dict_reverseitemiterator","odict_iterator","itertools.zip_longest","itertools.pairwise"].contains n=false) (a:Q () s):wpAny M A (letOwnedTupleGo tg (.ref it) u) Q E s:=by
 unfold letOwnedTupleGo;cases tg<;>first
  |exact ae a
  | (cases u <;> first
    |exact ae a
    | (refine aa (wpAny_load d ?_)
       rw[b,hd];show wpAny M A (if (["enumerate","zip","dict_itemiterator","dict_reverseitemiterator","odict_iterator","itertools.zip_longest","itertools.pairwise"].contains n && vs[0]? == some (rawInt _))=true then _ else _) Q E s;rw[au (by intro h;rw[c,Bool.false_and]at h;cases h)];exact ae a))
def Itl(K:qF)(a:qE):It :=
 ⟨λi H=>∃xs x,SqL K H a xs/\xs[i]?=some x,λi H x H'=>H'=H/\∀xs,SqL K H a xs->xs[i]?=some x,λi H=>∃xs,SqL K H a xs/\xs.length<=i⟩
def Itt(K:qF)(a:qE):It :=
 ⟨λi H=>∃xs x,SqT K H a xs/\xs[i]?=some x,λi H x H'=>H'=H/\∀xs,SqT K H a xs->xs[i]?=some x,λi H=>∃xs,SqT K H a xs/\xs.length<=i⟩
def Itr(lo:Int)(n:Nat):It:=⟨λi _=>i<n,λi H x H'=>H'=H/\x=.int (lo+i),λi _=>n<=i⟩
def b0D(a it:qE):Turn P w K tg (Itl K a) [it] it (λi h=>h.IsListIter it a i) where
 mem:=by simp
 obj:=λi h st b f=>by
  have e:b=it:=by simpa using f
  subst e;obtain⟨o,e,c,d⟩:=st;exact⟨o,e,λv z=>by rw[d]at z;cases z⟩
 keep:=λi h h' st k=>st.at λo e=>k it (by simp) o e
 item:=by
  intro X t hw r C i qK s σ H E I g st y;subst t hw r;obtain⟨xs,x,j,A⟩:=y;obtain⟨its,B,p,L⟩:=I.list j;obtain⟨u,G,M⟩:=B.get A;obtain⟨l,f1,f2,m,n,q⟩:=g it (by simp);refine wpAny_pyNext_list_item st p.isList (x:=u) (by simpa using G) λh' st' N=>?_;have D:Inv X qK σ H {s with heap:=h'}:=I.turned (t':=s.toks) (λb o f e=>(N.2 b f).trans e) l f1 m n q;obtain⟨o,e,c,d⟩:=id st';exact⟨u,rfl,b0a (s:={s with heap:=h'}) e c d (by decide) ⟨x,H,D,M,⟨rfl,λys J=>by rw[I.list_inj J j];exact A⟩,st',λb f=>(g b f).1⟩⟩
 done:=by
  intro X t hw r C i qK s σ H E I g st y;subst t hw r;obtain⟨xs,j,A⟩:=y;obtain⟨its,B,p,L⟩:=I.list j;obtain⟨l,f1,f2,m,n,q⟩:=g it (by simp);have O:=B.length;exact wpAny_pyNext_list_end (I.ok.hd C) st p.isList (by simp;omega) λh' F=>⟨rfl,I.turned (t':=s.toks) (λb o f e=>F b o f e) l f1 m n q⟩
 self:=λ_ _ _ _ _ st h=>wpAny_pyIter_listiter st h
def a7Q(a it:qE):Turn P w K tg (Itt K a) [it] it (λi h=>h.IsTupleIter it a i) where
 mem:=by simp
 obj:=λi h st b f=>by
  have e:b=it:=by simpa using f
  subst e;obtain⟨o,e,c,d⟩:=st;exact⟨o,e,λv z=>by rw[d]at z;cases z⟩
 keep:=λi h h' st k=>st.at λo e=>k it (by simp) o e
 item:=by
  intro X t hw r C i qK s σ H E I g st y;subst t hw r;obtain⟨xs,x,j,A⟩:=y;obtain⟨its,B,p,L⟩:=I.tuple j;obtain⟨u,G,M⟩:=B.get A;obtain⟨l,f1,f2,m,n,q⟩:=g it (by simp);refine wpAny_pyNext_tuple_item st (show s.heap.IsTuple a its.toArray from p) (x:=u) (by simpa using G) λh' st' N=>?_;have D:Inv X qK σ H {s with heap:=h'}:=I.turned (t':=s.toks) (λb o f e=>(N.2 b f).trans e) l f1 m n q;obtain⟨o,e,c,d⟩:=id st';exact⟨u,rfl,b0a (s:={s with heap:=h'}) e c d (by decide) ⟨x,H,D,M,⟨rfl,λys J=>by rw[I.tuple_inj J j];exact A⟩,st',λb f=>(g b f).1⟩⟩
 done:=by
  intro X t hw r C i qK s σ H E I g st y;subst t hw r;obtain⟨xs,j,A⟩:=y;obtain⟨its,B,p,L⟩:=I.tuple j;obtain⟨l,f1,f2,m,n,q⟩:=g it (by simp);have O:=B.length;exact wpAny_pyNext_tuple_end (I.ok.hd C) st (show s.heap.IsTuple a its.toArray from p) (by simp;omega) λh' F=>⟨rfl,I.turned (t':=s.toks) (λb o f e=>F b o f e) l f1 m n q⟩
 self:=λ_ _ _ _ _ st h=>wpAny_pyIter_tupleiter st h
def a7R(it:qE)(lo:Int)(n:Nat):Turn P w K tg (Itr lo n) [it] it (λi h=>IsRangeIter h it (lo+(i:Nat)*1) ((n:Int)-(i:Nat)) 1) where
 mem:=by simp
 obj:=λi h st b a=>by
  have e:b=it:=by simpa using a
  subst e;exact⟨_,st,λv z=>by
   have y:Data.fields _=Data.cell v:=z;cases y⟩
 keep:=λi h h' st k=>k it (by simp) _ st
 item:=by
  intro X m hw l p i qK s σ H E I c st q;subst m hw l;obtain⟨d,f1,f2,f,g,j⟩:=c it (by simp);have W:=Walks.range (prog:=X.prog) (w:=X.w) (I.ok.hd p) it lo 1 n;refine W.item i s _ _ q st λv h' tk x st' kk=>?_;obtain⟨t,rfl⟩:=x;have r:Inv X qK σ H {s with heap:=h',toks:=tk}:=I.turned (λb o a e=>kk b o (by simpa using a) e) d f1 f g j;refine⟨_,rfl,b0a (s:={s with heap:=h',toks:=tk}) (n:="range_iterator") st' rfl rfl (by decide) ⟨.int (lo+i),H,r,⟨t,?_⟩,⟨rfl,rfl⟩,st',λb a=>(c b a).1⟩⟩;rw[Int.mul_one]
 done:=by
  intro X m hw l p i qK s σ H E I c st q;subst m hw l;obtain⟨d,f1,f2,f,g,j⟩:=c it (by simp);exact wpAny_pyNext_range_end (I.ok.hd p) st (by have:n<=i:=q;omega) λh' u=>⟨rfl,I.turned (t':=s.toks) (λb o a e=>u b o a e) d f1 f g j⟩
 self:=λ_ _ _ _ _ st h=>wpAny_pyIter_rangeiter st h
def b4k(K:qF)(tl:TE):TI:=λσ H R=>tl σ H λx H1=>∃a,x=.ref a/\(∃xs,SqL K H1 a xs)/\R (Itl K a) H1
def b9u(K:qF)(tl:TE):TI:=λσ H R=>tl σ H λx H1=>∃a,x=.ref a/\(∃xs,SqT K H1 a xs)/\R (Itt K a) H1
def b5K{tl:TE}(f:PE X l tl):PI X tg l (b4k X.K tl):=by
 intro qK s σ H R I h;refine thn (f qK s σ H _ I h) λv s1 ⟨x,H1,c,j,i⟩=>?_;obtain⟨a,e,⟨xs,g⟩,q⟩:=i;subst e;cases j;obtain⟨its,m,p,k⟩:=c.list g;refine fA p.isList ?_;refine⟨s1.heap.objs.size,[s1.heap.objs.size],_,_,H1,rfl,c.kept (t':=s1.toks) λb o e=>ag _ e,b0D a _,⟨_,aF _ rfl,rfl,rfl⟩,λb d=>?_,q⟩;have e:b=s1.heap.objs.size:=by simpa using d
 subst e;exact c.fpOk (ao _) (c.hok.fresh (ao _))
def b8l{tl:TE}(f:PE X l tl):PI X tg l (b9u X.K tl):=by
 intro qK s σ H R I h;refine thn (f qK s σ H _ I h) λv s1 ⟨x,H1,c,j,i⟩=>?_;obtain⟨a,e,⟨xs,g⟩,q⟩:=i;subst e;cases j;obtain⟨its,m,p,k⟩:=c.tuple g;refine wpAny_pyIter_tuple (show s1.heap.IsTuple a its.toArray from p) ?_;refine⟨s1.heap.objs.size,[s1.heap.objs.size],_,_,H1,rfl,c.kept (t':=s1.toks) λb o e=>ag _ e,a7Q a _,⟨_,aF _ rfl,rfl,rfl⟩,λb d=>?_,q⟩;have e:b=s1.heap.objs.size:=by simpa using d
 subst e;exact c.fpOk (ao _) (c.hok.fresh (ao _))
def b2V{R:It->Hp->Prop}{lo hi:Int}{t u v:Tok}{tk:Nat}(I:Inv X qK σ H s)(h1 : -(2 ^ 62)<=lo)(h2:lo<2 ^ 62)(d : -(2 ^ 62)<=hi)(f:hi<2 ^ 62)
  (q:R (Itr lo (hi-lo).toNat) H):wpAny (model X.prog X.w) X.A (pyIter (.ref s.heap.objs.size)) (PIE X qK σ tg R) E {s with heap:=s.heap.push {cls:=.type "range",data:=.fields #[.int lo t,.int hi u,.int 1 v]},toks:=tk}:=by
 refine wpAny_pyIter_range (IsRange.new ..) (small_one h1 h2 d f) ?_;have a:Inv X qK σ H {s with heap:=s.heap.push {cls:=.type "range",data:=.fields #[.int lo t,.int hi u,.int 1 v]},toks:=tk}:=I.kept λb o e=>ag _ e;refine⟨(s.heap.push {cls:=.type "range",data:=.fields #[.int lo t,.int hi u,.int 1 v]}).objs.size,[(s.heap.push {cls:=.type "range",data:=.fields #[.int lo t,.int hi u,.int 1 v]}).objs.size],_,_,H,rfl,
  a.kept (t':=tk) λb o e=>ag _ e,a7R _ lo (hi-lo).toNat,?_,λb g=>?_,q⟩
 .have e1:lo+((0:Nat):Int)*1=lo:=by simp
  have c:(((hi-lo).toNat:Nat):Int)-((0:Nat):Int)=Builtin.Range.rangeSize lo hi 1:=by rw[rangeSize_one];split<;>omega
  show IsRangeIter _ _ (lo+((0:Nat):Int)*1) ((((hi-lo).toNat:Nat):Int)-((0:Nat):Int)) 1;rw[e1,c];exact aF _ rfl
 .have e:b=(s.heap.push {cls:=.type "range",data:=.fields #[.int lo t,.int hi u,.int 1 v]}).objs.size:=by simpa using g
  subst e;exact a.fpOk (ao _) (a.hok.fresh (ao _))
def b7C(ta:TA):TI:=λσ H R=>ta σ H λvs H1=>∃j:Int,vs=[.int j] /\ -(2 ^ 62)<=j/\j<2 ^ 62/\R (Itr 0 j.toNat) H1
def b1b{a:Expr}{ta:TA}{p:Pos}(f:Gl X "range")(g:X.mg "range"=none)(d:PA X [a] ta)(hs:starEach [a] X.env=[(false,eval a X.env)]:=by rfl):PI X tg (.Call (.Name "range" p) [a] [] pos) (b7C ta):=by
 intro qK s σ H R I h;refine Call_ (a1R I f g boot_range (dw (thn (d pos qK s σ H _ I h) λl s1 ⟨vs,H1,c,k,b⟩=>?_) hs rfl));obtain⟨j,e,b,i,q⟩:=b;subst e;cases k with
 |cons r rr =>
  cases rr;obtain⟨t,rfl⟩:=r;exact call_range_1 (b2V c (by omega) (by omega) b i (by simpa using q))
def c0c(wi:TI)(g:TG)(tb:TS):TS:=λD σ H=>wi σ H λJ H1=>∃W:Nat->Nat->St->Hp->Prop,(∃m,W 0 m σ H1)/\∀i m σ H,W i m σ H ->
 (J.stop i H/\D.nx σ H)∨(J.go i H/\∃N:St->Hp->Prop,(∀σ' H',N σ' H'->∃m',m'<m/\W (i+1) m' σ' H')/\∀x H',J.yld i H x H'->g x σ H' λσ2 H2=>tb {D with nx:=N,ct:=N,bk:=D.nx} σ2 H2)
def a3w(fp:qA qE)(h:Heap):qA (qE×Obj):=fp.filterMap λb=>(h.get? b).map λo=>(b,o)
def X1{o:Obj}(a:b∈fp)(e:h.get? b=some o):(b,o)∈a3w fp h:=cj.mpr ⟨b,a,by rw[e];rfl⟩
def b1k{p:qE×Obj}(hp:p∈a3w fp h):p.1∈fp/\h.get? p.1=some p.2:=by
 obtain⟨b,c,e⟩:=cj.mp hp;cases q:h.get? b with
 |none=>rw[q]at e;cases e
 |some o =>
  rw[q]at e;have a:(b,o)=p:=bK e;subst a;exact⟨c,q⟩
def Inv.pinned(I:Inv X qK σ H s)(g:∀b∈fp,a2l X qK H b)(h:∀b∈fp,∃o,s.heap.get? b=some o/\∀v,o.data≠.cell v):Inv X (qK++a3w fp s.heap) σ H s :=
 I.pins_of λp i=>(aA.mp i).elim (λz=>I.pin p (aX _ z)) λz=>by
  obtain⟨c,e⟩:=b1k z;obtain⟨f,f1,f2,_⟩:=g p.1 c;obtain⟨o,a,d⟩:=h p.1 c;rw[e]at a;cases a;exact⟨e,f,f1,f2,d⟩
def Inv.unpinned{pl:qA (qE×Obj)}(I:Inv X (qK++pl) σ H s):Inv X qK σ H s:=I.pins_of λp a=>I.pin p (aX _ (aK _ a))
def b8h{S:TI}{g:TG}(hp:PassesOwn (model X.prog X.w) X.A X.env X.xe)(O:X.calm=true)(hi:PI X tg l S)(hg:PG X tg g)(k:PSs X body tb)
  (hs:∀x,foldedSetIterable l X.env x=pure x:=by intro _;rfl):PS X (.For tg l body [] pos) (c0c S g tb):=by
 intro qK s σ H D I h;refine wpAny_For (thn (hi qK s σ H _ I h) λv s1 h1=>thn h1 λa0 s2 h2=>?_) hs;obtain⟨it,fp,R,J,H2,e,V,T,K,f2,W,⟨m0,w0⟩,A⟩:=h2;subst e;have p:∀{H':Hp},(∀b∈fp,H' b=none)->∀b∈fp,a2l X qK H' b:=λhn b k=>⟨hn b k,(f2 b k).2⟩;refine codeAny_forLoop_any (λn s'=>∃i σ' H',Inv X qK σ' H' s'/\R i s'.heap/\(∀b∈fp,H' b=none)/\W i n σ' H') ?_ m0 ⟨0,σ,H2,V,K,λb k=>(f2 b k).1,w0⟩;rintro n P ⟨i,σ3,B,M,z,w,w3⟩;rcases A i n σ3 B w3 with⟨stop,qn⟩|⟨go,N,hN,step⟩
 .refine dG hp (thn (T.done X rfl rfl rfl O i qK P σ3 B X.xe M (p w) z stop) λr s4 ⟨F,Y⟩=>?_);subst F;exact ed ⟨σ3,B,Y,qn⟩
 .refine dG hp (thn (T.item X rfl rfl rfl O i qK P σ3 B X.xe M (p w) z go) λr s4 ⟨u,F,h4⟩=>?_);subst F;refine dG hp (thn h4 λ_ Q ⟨x,L,Z,r5,y5,t,E⟩=>?_);have C:=Z.pinned (p E) (T.obj _ _ t);refine dG hp (thn (hg _ Q σ3 L x u _ C r5 (step x L y5)) λ_ s6 ⟨σ6,U,I6,q6⟩=>?_);refine dG hp (thn (k _ s6 σ6 U _ I6 q6) λf G q=>?_);have j:∀{σ7:St}{a:Hp},Inv X (qK++a3w fp Q.heap) σ7 a G->N σ7 a->∃m,m<n/\∃i σ' H',Inv X qK σ' H' G/\R i G.heap/\(∀b∈fp,H' b=none)/\W i m σ' H':=λ{σ7 a} c y=>by
   obtain⟨m',hm,w7⟩:=hN σ7 a y;refine⟨m',hm,i+1,σ7,a,c.unpinned,T.keep _ _ _ t λb k o e=>(c.pin (b,o) (aX _ (aX _ (X1 k e)))).1,λb k=>?_,w7⟩;obtain⟨o,e,d⟩:=T.obj _ _ t b k;exact(c.pin (b,o) (aX _ (aX _ (X1 k e)))).2.1
  cases f with
  |next=>obtain⟨σ7,a,c,y⟩:=q;exact j c y
  |cont=>obtain⟨σ7,a,c,y⟩:=q;exact j c y
  |brk=>obtain⟨σ7,a,c,q⟩:=q;exact⟨σ7,a,c.unpinned,q⟩
  |ret v=>obtain⟨x7,σ7,a,c,r7,q⟩:=q;exact⟨x7,σ7,a,c.unpinned,r7,q⟩
def V3{g:TG}(b:Nat->St->Hp->Prop)(h0:b 0 σ H)(f:∀i σ H,i<=xs.length->b i σ H->SqL K H a xs)
  (hs:∀i x σ H,xs[i]?=some x->b i σ H->g x σ H λσ2 H2=>tb {D with nx:=b (i+1),ct:=b (i+1),bk:=D.nx} σ2 H2) (hd:∀σ H,b xs.length σ H->D.nx σ H) :
  ∃W:Nat->Nat->St->Hp->Prop,(∃m,W 0 m σ H)/\∀i m σ H,W i m σ H ->
   ((Itl K a).stop i H/\D.nx σ H)∨((Itl K a).go i H/\∃N:St->Hp->Prop,(∀σ' H',N σ' H'->∃d,d<m/\W (i+1) d σ' H')/\∀x H',(Itl K a).yld i H x H'->g x σ H' λσ2 H2=>tb {D with nx:=N,ct:=N,bk:=D.nx} σ2 H2):=by
 refine⟨λi m σ H=>m=xs.length-i/\i<=xs.length/\b i σ H,⟨xs.length,by simp,bq _,h0⟩,?_⟩;rintro i m σ H ⟨rfl,hi,p⟩;have q:=f i σ H hi p;by_cases c:i<xs.length
 .refine .inr ⟨⟨xs,xs[i],q,by simp[c]⟩,b (i+1),λσ' H' h=>⟨xs.length-(i+1),by omega,rfl,c,h⟩,λx H' y=>?_⟩;obtain⟨e,y⟩:=y;subst e;exact hs i x σ _ (y xs q) p
 .have e:i=xs.length:=by omega
  subst e;exact .inl ⟨⟨xs,q,ao _⟩,hd σ H p⟩
def a2Y{g:TG}(b:Nat->St->Hp->Prop)(h0:b 0 σ H)(f:∀i σ H,i<=xs.length->b i σ H->SqT K H a xs)
  (hs:∀i x σ H,xs[i]?=some x->b i σ H->g x σ H λσ2 H2=>tb {D with nx:=b (i+1),ct:=b (i+1),bk:=D.nx} σ2 H2) (hd:∀σ H,b xs.length σ H->D.nx σ H) :
  ∃W:Nat->Nat->St->Hp->Prop,(∃m,W 0 m σ H)/\∀i m σ H,W i m σ H ->
   ((Itt K a).stop i H/\D.nx σ H)∨((Itt K a).go i H/\∃N:St->Hp->Prop,(∀σ' H',N σ' H'->∃d,d<m/\W (i+1) d σ' H')/\∀x H',(Itt K a).yld i H x H'->g x σ H' λσ2 H2=>tb {D with nx:=N,ct:=N,bk:=D.nx} σ2 H2):=by
 refine⟨λi m σ H=>m=xs.length-i/\i<=xs.length/\b i σ H,⟨xs.length,by simp,bq _,h0⟩,?_⟩;rintro i m σ H ⟨rfl,hi,p⟩;have q:=f i σ H hi p;by_cases c:i<xs.length
 .refine .inr ⟨⟨xs,xs[i],q,by simp[c]⟩,b (i+1),λσ' H' h=>⟨xs.length-(i+1),by omega,rfl,c,h⟩,λx H' y=>?_⟩;obtain⟨e,y⟩:=y;subst e;exact hs i x σ _ (y xs q) p
 .have e:i=xs.length:=by omega
  subst e;exact .inl ⟨⟨xs,q,ao _⟩,hd σ H p⟩
def a2a{lo:Int}{g:TG}(a:Nat->St->Hp->Prop)(h0:a 0 σ H)
  (hs:∀i σ H,i<n->a i σ H->g (.int (lo+i)) σ H λσ2 H2=>tb {D with nx:=a (i+1),ct:=a (i+1),bk:=D.nx} σ2 H2) (hd:∀σ H,a n σ H->D.nx σ H) :
  ∃W:Nat->Nat->St->Hp->Prop,(∃m,W 0 m σ H)/\∀i m σ H,W i m σ H ->
   ((Itr lo n).stop i H/\D.nx σ H)∨((Itr lo n).go i H/\∃N:St->Hp->Prop,(∀σ' H',N σ' H'->∃c,c<m/\W (i+1) c σ' H')/\∀x H',(Itr lo n).yld i H x H'->g x σ H' λσ2 H2=>tb {D with nx:=N,ct:=N,bk:=D.nx} σ2 H2):=by
 refine⟨λi m σ H=>m=n-i/\i<=n/\a i σ H,⟨n,by simp,bq _,h0⟩,?_⟩;rintro i m σ H ⟨rfl,hi,p⟩;by_cases b:i<n
 .refine .inr ⟨b,a (i+1),λσ' H' d=>⟨n-(i+1),by omega,rfl,b,d⟩,λx H' y=>?_⟩;obtain⟨e,y⟩:=y;subst e y;exact hs i σ _ b p
 .have e:i=n:=by omega
  subst e;exact .inl ⟨ao _,hd σ H p⟩
abbrev R2:=V->V->Hp->VK->Prop
def OpR(X:Cx)(f:qB->qB->Sem qB)(r:R2):Prop :=
 ∀(qK:qA (qE×Obj)) (s:qC) (σ:St) (H:Hp) (x y:V) (v u:qB) (Q:VK),Inv X qK σ H s->RelV x v->RelV y u->r x y H Q ->
  wpAny (model X.prog X.w) X.A (f v u) (EP X qK σ Q) X.xe s
def UnR(X:Cx)(f:qB->Sem qB)(r:V->Hp->VK->Prop):Prop :=
 ∀(qK:qA (qE×Obj)) (s:qC) (σ:St) (H:Hp) (x:V) (v:qB) (Q:VK),Inv X qK σ H s->RelV x v->r x H Q ->
  wpAny (model X.prog X.w) X.A (f v) (EP X qK σ Q) X.xe s
def E2(X:Cx)(f:qB)(r:qA V->Hp->VK->Prop):Prop :=
 ∀(qK:qA (qE×Obj)) (s:qC) (σ:St) (H:Hp) (xs:qA V) (us:qA qB) (Q:VK),Inv X qK σ H s->Vals xs us->r xs H Q ->
  wpAny (model X.prog X.w) X.A (call f us) (EP X qK σ Q) X.xe s
def c0Y(X:Cx)(r:V->Hp->(Bool->Hp->Prop)->Prop):Prop :=
 ∀(qK:qA (qE×Obj)) (s:qC) (σ:St) (H:Hp) (x:V) (v:qB) (Q:Bool->Hp->Prop),Inv X qK σ H s->RelV x v->r x H Q ->
  wpAny (model X.prog X.w) X.A (truthy v) (TP X qK σ Q) X.xe s
def tOp(r:R2)(ta tb:TE):TE:=λσ H Q=>ta σ H λx H1=>tb σ H1 λy H2=>r x y H2 Q
def tUn(r:V->Hp->VK->Prop)(ta:TE):TE:=λσ H Q=>ta σ H λx H1=>r x H1 Q
def rI(C:Int->Int->Prop)(g:Int->Int->V):R2:=λx y H Q=>∃i j,x=.int i/\y=.int j/\C i j/\Q (g i j) H
def rI0(g:Int->Int->V):R2:=λx y H Q=>∃i j,x=.int i/\y=.int j/\Q (g i j) H
def rU(g:Int->V):V->Hp->VK->Prop:=λx H Q=>∃i,x=.int i/\Q (g i) H
section
variable {a b:Expr}{tb tc:TE}
def b9C(e:PE X a ta)(g:PE X b tb){R:V->V->Hp->Prop}(I:Inv X qK σ H s)
  (h:ta σ H λx H1=>tb σ H1 λy H2=>R x y H2)
  (i:∀v u s2 x y H2,Inv X qK σ H2 s2->RelV x v->RelV y u->R x y H2->wpAny (model X.prog X.w) X.A (f v u) Q X.xe s2) :
  wpAny (model X.prog X.w) X.A (eval a X.env) (λv s₁=>wpAny (model X.prog X.w) X.A (eval b X.env) (λu s₂=>wpAny (model X.prog X.w) X.A (f v u) Q X.xe s₂) X.xe s₁) X.xe s:=by
 refine thn (e qK s σ H _ I h) λv s1 ⟨x,H1,c,l,j⟩=>?_;refine thn (g qK s1 σ H1 _ c j) λu s2 ⟨y,H2,d,m,k⟩=>?_;exact i v u s2 x y H2 d l m k
def Y8{c:Operator}{r:R2}(g:OpR X (binaryOp c) r)(e:PE X a ta)(f:PE X b tb):PE X (.BinOp a c b pos) (tOp r ta tb):=by
 intro qK s σ H Q I h;exact wpAny_BinOp (b9C e f I h λv u s2 x y H2 d i j q=>g qK s2 σ H2 x y v u Q d i j q)
def c0q{b:UnaryOp}{r:V->Hp->VK->Prop}(e:UnR X (unaryOp b) r)(d:PE X a ta):PE X (.UnaryOp b a pos) (tUn r ta):=by
 intro qK s σ H Q I h;exact UnaryOp_ (thn (d qK s σ H _ I h) λv s1 ⟨x,H1,c,g,f⟩=>e qK s1 σ H1 x v Q c g f)
def opI{C:Int->Int->Prop}{g:Int->Int->Int}
  (rule:∀(i j:Int) (t u:Tok) (s:qC) (Q:qH) (E:qH),C i j->Q (.int (g i j) s.toks) {s with toks:=s.toks+1}->wpAny (model X.prog X.w) X.A (f (.int i t) (.int j u)) Q E s) :
  OpR X f (rI C λi j=>.int (g i j)):=by
 intro qK s σ H x y v u Q I b c h;obtain⟨i,j,rfl,rfl,a,q⟩:=h;obtain⟨t,rfl⟩:=b;obtain⟨t',rfl⟩:=c;exact rule i j t t' s _ _ a ⟨.int (g i j),H,I.tok _,⟨_,rfl⟩,q⟩
def c0z{g:Int->Int->Int}
  (rule:∀(i j:Int) (t u:Tok) (s:qC) (Q:qH) (E:qH),Q (.int (g i j) s.toks) {s with toks:=s.toks+1}->wpAny (model X.prog X.w) X.A (f (.int i t) (.int j u)) Q E s) :
  OpR X f (rI0 λi j=>.int (g i j)):=by
 intro qK s σ H x y v u Q I a b h;obtain⟨i,j,rfl,rfl,q⟩:=h;obtain⟨t,rfl⟩:=a;obtain⟨t',rfl⟩:=b;exact rule i j t t' s _ _ ⟨.int (g i j),H,I.tok _,⟨_,rfl⟩,q⟩
def b6b{g:Int->Int->Bool}
  (rule:∀(i j:Int) (t u:Tok) (s:qC) (Q:qH) (E:qH),Q (.bool (g i j)) s->wpAny (model X.prog X.w) X.A (f (.int i t) (.int j u)) Q E s) :
  OpR X f (rI0 λi j=>.bl (g i j)):=by
 intro qK s σ H x y v u Q I a b h;obtain⟨i,j,rfl,rfl,q⟩:=h;obtain⟨t,rfl⟩:=a;obtain⟨t',rfl⟩:=b;exact rule i j t t' s _ _ ⟨.bl (g i j),H,I,rfl,q⟩
def c0Q(i j:Int):Prop:=0<j/\j<1073741824
def c0P(i j:Int):Prop:=0<=j/\j<=1000000/\i.natAbs<2 ^ 64
def CMul(i j:Int):Prop:=(-(2 ^ 64)<i/\i<2 ^ 64)∨(-(2 ^ 64)<j/\j<2 ^ 64)
def CMul.ok{i j:Int}(h:CMul i j):IntMulOk i j:=by
 rcases h with⟨h1,h2⟩|⟨h1,h2⟩
 .exact .of_left (intBits_le_64 h1 h2)
 .exact .of_right (intBits_le_64 h1 h2)
def b8K:OpR X (binaryOp .Add) (rI0 λi j=>.int (i+j)):=c0z λ_ _ _ _ _ _ _ q=>add_int q
def b8B:OpR X (binaryOp .Sub) (rI0 λi j=>.int (i-j)):=c0z λ_ _ _ _ _ _ _ q=>sub_int q
def b8F:OpR X (binaryOp .Mult) (rI CMul λi j=>.int (i*j)):=opI λ_ _ _ _ _ _ _ a q=>mul_int q a.ok
def b5Z:OpR X (binaryOp .FloorDiv) (rI c0Q λi j=>.int (i / j)):=opI λi j _ _ _ _ _ a q=>by
 have h1:(0:Int)<j:=a.1;have h2:j<1073741824:=a.2;exact floordiv_int (by omega) (by rw[Int.fdiv_eq_ediv_of_nonneg i (by omega)];exact q) (.inl (PyProof.noPylong_small (by omega)))
def b8G:OpR X (binaryOp .Mod) (rI (λ_ j=>0<j) λi j=>.int (i % j)):=opI λi j _ _ _ _ _ a q=>by
 have h1:(0:Int)<j:=a;exact mod_int' (by omega) (by rw[Int.fmod_eq_emod_of_nonneg i (by omega)];exact q)
def b8C:OpR X (binaryOp .Pow) (rI c0P λi j=>.int (i ^ j.toNat)):=opI λ_ _ _ _ _ _ _ a q=>pow_int_small a.1 a.2.1 a.2.2 q
def unI{f:qB->Sem qB}{g:Int->Int}
  (rule:∀(i:Int) (t:Tok) (s:qC) (Q:qH) (E:qH),Q (.int (g i) s.toks) {s with toks:=s.toks+1}->wpAny (model X.prog X.w) X.A (f (.int i t)) Q E s) :
  UnR X f (rU λi=>.int (g i)):=by
 intro qK s σ H x v Q I a h;obtain⟨i,rfl,q⟩:=h;obtain⟨t,rfl⟩:=a;exact rule i t s _ _ ⟨.int (g i),H,I.tok _,⟨_,rfl⟩,q⟩
def b7L:UnR X (unaryOp .USub) (rU λi=>.int (-i)):=unI λ_ _ _ _ _ q=>neg_int q
end
def c0g:V->V->Bool
 |.non,.non=>true | .non,.int _=>true | .int _,.non=>true | .non,.bl _=>true | .bl _,.non=>true | .non,.str _=>true | .str _,.non=>true
 |.int _,.int _=>true | .bl _,.bl _=>true | .str _,.str _=>true | .byt _,.byt _=>true
 |.int _,.str _=>true | .str _,.int _=>true | .bl _,.str _=>true | .str _,.bl _=>true
 |_,_=>false
def rEq:R2:=λx y H Q=>c0g x y=true/\Q (.bl (decide (x=y))) H
def rNe:R2:=λx y H Q=>c0g x y=true/\Q (.bl (!decide (x=y))) H
def b0m{i j:Int}:decide (V.int i=V.int j)=(i==j):=by
 rw[cz];simp
def b4C{i j:Bool}:decide (V.bl i=V.bl j)=(i==j):=by
 rw[cz];simp
def b0l{i j:Str}:decide (V.str i=V.str j)=(i==j):=by
 rw[cz];simp
def b0n{i j:Array UInt8}:decide (V.byt i=V.byt j)=(i.toList==j.toList):=by
 rw[cz];cases i;cases j;simp
section
variable {a b:Expr}{tb tc:TE}
def B8{Q:VK}{k a:Bool}(I:Inv X qK σ H s)(q:Q (.bl k) H)(e:k=a):EP X qK σ Q (.bool a) s:=by
 subst e;exact⟨.bl k,H,I,rfl,q⟩
def b7w:OpR X (compareOp .Eq) rEq:=by
 intro qK s σ H x y v u Q I b a h;obtain⟨hs,q⟩:=h;cases x with
 |non =>
  cases b;cases y with
  |non=>cases a;exact PySem.EqNone.eq_none_none (B8 I q (by simp))
  |bl j=>cases a;exact PySem.EqNone.eq_none_bool (B8 I q (by simp))
  |int j=>obtain⟨t',rfl⟩:=a;exact PySem.EqNone.eq_none_int (B8 I q (by simp))
  |str j=>obtain⟨t',rfl⟩:=a;exact PySem.EqNone.eq_none_str (B8 I q (by simp))
  |_=>exact absurd (show false=true from hs) aY
 |bl i =>
  cases b;cases y with
  |non=>cases a;exact PySem.EqNone.eq_bool_none (B8 I q (by simp))
  |bl j=>cases a;exact eq_bool (B8 I q b4C)
  |str j=>obtain⟨t',rfl⟩:=a;exact PySem.EqMixed.eq_bool_str (B8 I q (by simp))
  |_=>exact absurd (show false=true from hs) aY
 |int i =>
  obtain⟨t,rfl⟩:=b;cases y with
  |non=>cases a;exact PySem.EqNone.eq_int_none (B8 I q (by simp))
  |int j=>obtain⟨t',rfl⟩:=a;exact eq_int (B8 I q b0m)
  |str j=>obtain⟨t',rfl⟩:=a;exact PySem.EqMixed.eq_int_str (B8 I q (by simp))
  |_=>exact absurd (show false=true from hs) aY
 |str i =>
  obtain⟨t,rfl⟩:=b;cases y with
  |non=>cases a;exact PySem.EqNone.eq_str_none (B8 I q (by simp))
  |bl j=>cases a;exact PySem.EqMixed.eq_str_bool (B8 I q (by simp))
  |int j=>obtain⟨t',rfl⟩:=a;exact PySem.EqMixed.eq_str_int (B8 I q (by simp))
  |str j=>obtain⟨t',rfl⟩:=a;exact eq_str (B8 I q b0l)
  |_=>exact absurd (show false=true from hs) aY
 |byt i =>
  obtain⟨t,rfl⟩:=b;cases y with
  |byt j=>obtain⟨t',rfl⟩:=a;exact PySem.W.eq_bytes (B8 I q b0n)
  |_=>exact absurd (show false=true from hs) aY
 |_=>cases y<;>exact absurd (show false=true from hs) aY
def c0v:OpR X (compareOp .NotEq) rNe:=by
 intro qK s σ H x y v u Q I b a h;obtain⟨hs,q⟩:=h;cases x with
 |non =>
  cases b;cases y with
  |non=>cases a;exact PySem.EqNone.ne_none_none (B8 I q (by simp))
  |bl j=>cases a;exact PySem.EqNone.ne_none_bool (B8 I q (by simp))
  |int j=>obtain⟨t',rfl⟩:=a;exact PySem.EqNone.ne_none_int (B8 I q (by simp))
  |str j=>obtain⟨t',rfl⟩:=a;exact PySem.EqNone.ne_none_str (B8 I q (by simp))
  |_=>exact absurd (show false=true from hs) aY
 |bl i =>
  cases b;cases y with
  |non=>cases a;exact PySem.EqNone.ne_bool_none (B8 I q (by simp))
  |bl j=>cases a;exact ne_bool (B8 I q (aR not b4C))
  |str j=>obtain⟨t',rfl⟩:=a;exact PySem.EqMixed.ne_bool_str (B8 I q (by simp))
  |_=>exact absurd (show false=true from hs) aY
 |int i =>
  obtain⟨t,rfl⟩:=b;cases y with
  |non=>cases a;exact PySem.EqNone.ne_int_none (B8 I q (by simp))
  |int j=>obtain⟨t',rfl⟩:=a;exact ne_int (B8 I q (aR not b0m))
  |str j=>obtain⟨t',rfl⟩:=a;exact PySem.EqMixed.ne_int_str (B8 I q (by simp))
  |_=>exact absurd (show false=true from hs) aY
 |str i =>
  obtain⟨t,rfl⟩:=b;cases y with
  |non=>cases a;exact PySem.EqNone.ne_str_none (B8 I q (by simp))
  |bl j=>cases a;exact PySem.EqMixed.ne_str_bool (B8 I q (by simp))
  |int j=>obtain⟨t',rfl⟩:=a;exact PySem.EqMixed.ne_str_int (B8 I q (by simp))
  |str j=>obtain⟨t',rfl⟩:=a;exact ne_str (B8 I q (aR not b0l))
  |_=>exact absurd (show false=true from hs) aY
 |byt i =>
  obtain⟨t,rfl⟩:=b;cases y with
  |byt j=>obtain⟨t',rfl⟩:=a;exact PySem.W.ne_bytes (B8 I q (aR not b0n))
  |_=>exact absurd (show false=true from hs) aY
 |_=>cases y<;>exact absurd (show false=true from hs) aY
def c0w:OpR X (compareOp .Lt) (rI0 λi j=>.bl (decide (i<j))):=b6b λ_ _ _ _ _ _ _ q=>lt_int q
def c0x:OpR X (compareOp .LtE) (rI0 λi j=>.bl (decide (i<=j))):=b6b λ_ _ _ _ _ _ _ q=>le_int q
def c0y:OpR X (compareOp .Gt) (rI0 λi j=>.bl (decide (j<i))):=b6b λ_ _ _ _ _ _ _ q=>gt_int q
def b7v:OpR X (compareOp .GtE) (rI0 λi j=>.bl (decide (j<=i))):=b6b λ_ _ _ _ _ _ _ q=>ge_int q
def b3x:OpR X (compareOp .Is) (λx y H Q=>y=.non/\Q (.bl (decide (x=.non))) H):=by
 intro qK s σ H x y v u Q I a b h;obtain⟨rfl,q⟩:=h;cases b;refine is_none_gen (B8 I q ?_);cases x<;>first
  |(cases a;rfl)
  |(obtain⟨t,rfl⟩:=a;rfl)
def b5X:OpR X (compareOp .IsNot) (λx y H Q=>y=.non/\Q (.bl (!decide (x=.non))) H):=by
 intro qK s σ H x y v u Q I a b h;obtain⟨rfl,q⟩:=h;cases b;refine isnot_none_gen (B8 I q ?_);cases x<;>first
  |(cases a;rfl)
  |(obtain⟨t,rfl⟩:=a;rfl)
def K6(b:Expr){a:CmpOp}(h:a≠.In:=by decide)(h2:a≠.NotIn:=by decide):behindInMarks a b=false:=by
 have c:(a==CmpOp.In)=false:=by cases a<;>first|rfl|exact absurd rfl h
 have d:(a==CmpOp.NotIn)=false:=by cases a<;>first|rfl|exact absurd rfl h2
 cases b with
 |Set elts k p=>show(k==0 && (a==CmpOp.In || a==CmpOp.NotIn) && elts.all (constantsAlone 8))=false;rw[c,d,Bool.or_false,ft,Bool.false_and]
 |_=>rfl
def a1t{c:CmpOp}{r:R2}(i:OpR X (compareOp c) r)(e:PE X a ta)(f:PE X b tb)(g:behindInMarks c b=false):PE X (.Compare a [c] [b] pos) (tOp r ta tb):=by
 intro qK s σ H Q I h;exact wpAny_Compare1 (b9C e f I h λv u s2 x y H2 d j k q=>i qK s2 σ H2 x y v u Q d j k q) g
def Z4(t:TE):TT:=λσ H Q=>t σ H λx H'=>∃k,x=.bl k/\Q k H'
def O3{d:CmpOp}{r:R2}(o:OpR X (compareOp d) r)(l:PE X a ta)(m:PE X b tb)(n:behindInMarks d b=false):PT X (.Compare a [d] [b] pos) (Z4 (tOp r ta tb)):=by
 intro qK s σ H Q I h;refine wpAny_isTrue_Compare1 (thn (l qK s σ H _ I h) λv s1 ⟨x,H1,g,w,p⟩=>thn (m qK s1 σ H1 _ g p) λu s2 ⟨y,H2,i,A,q⟩ =>
  thn (o qK s2 σ H2 x y v u _ i w A q) λc C ⟨z,f,j,B,k,e,t⟩=>?_) n
 subst e;cases B;exact dm ⟨f,j,t⟩
def b9M(K:qF)(x:V)(H:Hp)(k:Bool):Prop :=
 match x with
 |.non=>k=false
 |.bl b=>k=b
 |.int i=>k=(i != 0)
 |.str y=>y.length<=sizeLine/\k=((y.length:Int) != 0)
 |.byt y=>y.size<=sizeLine/\k=((y.size:Int) != 0)
 |.ref p=>(∃xs,SqL K H p xs/\k=!xs.isEmpty)∨(∃xs,SqT K H p xs/\k=!xs.isEmpty)∨∃qL,H p=some (.dK qL)/\k=!qL.isEmpty
 |_=>False
def a8D{κ:Type}{qL:qA (κ×V)}{vs:qA (κ×qB)}(r:KV qL vs):(!vs.isEmpty)=!qL.isEmpty:=by
 cases r<;>rfl
def a3R{its:qA qB}(r:Vals xs its):(!its.toArray.isEmpty)=!xs.isEmpty:=by
 cases r<;>simp
def a3F:(sizeLine:Nat)<2 ^ 63:=by rw[a'];decide
def b7N:c0Y X (λx H Q=>∃k,b9M X.K x H k/\Q k H):=by
 intro qK s σ H x v Q I d h;obtain⟨k,e,q⟩:=h;have o:=a3F;have hs:sizeLine=16777216:=a';cases x with
 |non =>
  cases d;have a:k=false:=e;subst a;exact truthy_none ⟨H,I,q⟩
 |bl b =>
  cases d;have a:k=b:=e;subst a;exact dm ⟨H,I,q⟩
 |int i =>
  obtain⟨t,rfl⟩:=d;have a:k=(i != 0):=e;subst a;exact PySem.P.truthy_int ⟨H,I,q⟩
 |str y =>
  obtain⟨t,rfl⟩:=d;obtain⟨n,a⟩:y.length<=sizeLine/\k=((y.length:Int) != 0):=e;subst a;exact PySem.P.truthy_str (by omega) ⟨H,I.tok _,q⟩
 |byt y =>
  obtain⟨t,rfl⟩:=d;obtain⟨n,a⟩:y.size<=sizeLine/\k=((y.size:Int) != 0):=e;subst a;exact PySem.W.truthy_bytes (by omega) ⟨H,I.tok _,q⟩
 |ref p =>
  cases d;have a:(∃xs,SqL X.K H p xs/\k=!xs.isEmpty)∨(∃xs,SqT X.K H p xs/\k=!xs.isEmpty)∨∃qL,H p=some (.dK qL)/\k=!qL.isEmpty:=e;rcases a with⟨xs,f,a⟩|⟨xs,f,a⟩|⟨qL,f,a⟩
  .subst a;obtain⟨its,r,g,j⟩:=I.list f;have c:=r.length;exact wpAny_truthy_list g.isList (by simp only[aC];omega) ⟨H,I.tok _,by rw[a3R r];exact q⟩
  .subst a;obtain⟨its,r,g,j⟩:=I.tuple f;have c:=r.length;exact truthy_tuple g (by simp only[aC];omega) ⟨H,I.tok _,by rw[a3R r];exact q⟩
  .subst a;obtain⟨j,l,vs,r,m⟩:qL.length<=sizeLine/\(p==sysModules)=false/\∃vs,KV qL vs/\s.heap.DictOf (C1 X.prog X.w) p vs:=I.hok p _ f;have c:qL.length=vs.length:=Paired.length r;exact wpAny_truthy_dict l m (by omega) ⟨H,I.tok _,by rw[a8D r];exact q⟩
 |_=>exact(show False from e).elim
def b3d(d:PE X a ta)(e:∀b,isTrue a X.env b=(do let v <-b;standAt a.pos;holding [v] (truthy v))) :
  PT X a (λσ H Q=>ta σ H λx H'=>∃k,b9M X.K x H' k/\Q k H'):=by
 intro qK s σ H Q I h;exact isTrue_plain (thn (d qK s σ H _ I h) λv s1 ⟨x,H1,c,g,f⟩=>b7N qK s1 σ H1 x v Q c g f) (e _)
def a6o{x:V}(r:Vals [x] us):∃u,us=[u]/\RelV x u:=by
 cases r with
 |cons r1 r2=>cases r2;exact⟨_,rfl,r1⟩
def b9T{x y:V}(r:Vals [x,y] us):∃u a,us=[u,a]/\RelV x u/\RelV y a:=by
 cases r with
 |cons r1 r2 =>
  cases r2 with
  |cons r3 r4=>cases r4;exact⟨_,_,rfl,r1,r3⟩
def b1W:E2 X (.type "int") (λxs H Q=>(∃i,xs=[.int i]/\Q (.int i) H)∨∃k,xs=[.bl k]/\Q (.int (if k then 1 else 0)) H):=by
 intro qK s σ H xs a Q I r h;rcases h with⟨i,rfl,q⟩|⟨k,rfl,q⟩
 .obtain⟨u,rfl,t,rfl⟩:=a6o r;exact call_int_int ⟨.int i,H,I,⟨_,rfl⟩,q⟩
 .obtain⟨u,rfl,r1⟩:=a6o r;cases r1;exact call_int_bool ⟨.int (if k then 1 else 0),H,I.tok _,⟨_,rfl⟩,q⟩
end
structure ObjM(h:Heap)(x dx C:qE)(mA:Str->qD qB):Prop where
 obj:h.get? x=some (PySem.W.instObj C dx)
 ns:h.Ns1 dx mA
 ne:dx≠x
def b1s(n:h.Ns1 dx mA):∃od,h.get? dx=some od/\∀name,PySem.W.lookIn name od=some (mA name):=by
 obtain⟨o,es,ep,g,hd,d,_,f⟩:=n;refine⟨o,g,λname=>?_⟩;have e:=f name;unfold nsFind findBy at e;rw[<-Array.find?_toList]at e;unfold PySem.W.lookIn;rw[hd];dsimp only;split
 .rename_i y q;rw[q]at e;exact aR some e
 .rename_i q;rw[q]at e;have a:es.toList.any (·.refKey)=false:=by
   rw[dN];intro y i;obtain⟨z,t,b⟩:=d y (eS.mp i);simp[DictEntry.refKey,b]
  have c:¬es.toList.any (·.refKey)=true:=by rw[a];exact aY
  rw[au c];exact aR some e
def ObjM.look{x:qE}(I:ObjM h x dx C mA):∃od,PySem.W.InstAt h x (PySem.W.instObj C dx) C (some od)/\∀name,PySem.W.lookIn name od=some (mA name) :=
 let ⟨od,ho,hl⟩:=b1s I.ns
 ⟨od,⟨I.obj,rfl,rfl,ho⟩,hl⟩
section
variable {prog:qG}{x f:qE}{name:Str}{v:qB}
def b6A{a:Bool}(X:K.In s.heap)(I:ObjM s.heap x dx C mA)(d:PySem.W.plainGet K C name=true)(e:PySem.W.hasDictIn K C=true)
  (c:PySem.W.findIn K (.ref C) name=some none) (g:mA name=some v) (b:PySem.W.handedIn v=true) (h:Q v {s with toks:=s.toks+1}) :
  wpAny (model prog w) A (getAttr (.ref x) name a) Q E s:=by
 obtain⟨od,J,f⟩:=I.look;exact PySem.W.get_value X J (PySem.W.plainGet_of d).1 (PySem.W.findObj_own e c rfl (by rw[f,g])) b h
def b4o{Q:qB×qA qB->qC->Prop}(X:K.In s.heap)(I:ObjM s.heap x dx C mA)(a:PySem.W.plainGet K C name=true)
  (b:PySem.W.findIn K (.ref C) name=some (some (.ref f))) (d:PySem.W.isFn K (.ref f)=true) (e:mA name=none) (h:Q (.ref f,[.ref x]) s) :
  wpAny (model prog w) A (getMethod (.ref x) name pl) Q E s:=by
 obtain⟨od,J,c⟩:=I.look;exact PySem.W.method_fn X J (PySem.W.plainGet_of a).1 (PySem.W.plainGet_of a).2 b (bj.mp d) (by show(PySem.W.lookIn name od).map (·.isSome)=some false;rw[c,e];rfl) h
def b5j{ns:qA Str}{Q:Unit->qC->Prop}(X:K.In s.heap)(I:ObjM s.heap x dx C mA)
  (hs:PySem.W.findIn K (.ref C) "__setattr__"=some (some (.builtin "object.__setattr__"))) (hp:PySem.W.plainOver K C=true) (n:PySem.W.takerIn K C name=some none) (m:PySem.W.hasDictIn K C=true)
  (hw:PySem.Within mA ns) (hsz:ns.length<=sizeLine)
  (h:∀h',ObjM h' x dx C (λy=>if y=name then some v else mA y)->Heap.SameBut dx s.heap h'->Q () {s with heap:=h',toks:=s.toks+2}) :
  wpAny (model prog w) A (setAttr (.ref x) name v) Q E s:=by
 obtain⟨od,J,p⟩:=I.look;refine PySem.W.set_plain X J hs (PySem.W.osa_open (s:={s with toks:=s.toks+1}) (r:=none) X J hp n λb=>?_);obtain⟨cd,l,f⟩:=PySem.W.any_some m;have o:s.heap.get? x=some ⟨.ref C,some dx,.plain,#[]⟩:=I.obj;refine aa (ae (aa (aa (wpAny_loadPart o (aa (PySem.W.Looks.here (s:={s with toks:=s.toks+1}) (PySem.W.looks_clsIn X l) ?_))))));rw[f];refine ae (a:=some dx) (aa (ae (aa ?_)));refine wpAny_nsSet1 (s:={s with toks:=s.toks+1}) I.ns λh' c d=>?_;obtain⟨q,k,j,i,g,e⟩:=c.count (PySem.Within.cons name v hw);refine aa (wpAny_lookBehind i (by rw[g];exact pastItsLine_dict (ba e (by rw[aT];omega))) ?_);exact ae (h _ ⟨(d.2 _ (du I.ne)).trans I.obj,c,I.ne⟩ d)
def b3N{R:Result->qC->Prop}{vs:qA qB}{a:qA (Str×qB)}(X:K.In s.heap)(c:PySem.W.makesIn K C=true)
  (hi:PySem.W.findIn K (.ref C) "__init__"=some (some (.ref f))) (b:PySem.W.typeIn K (.ref f)=some (.type "function"))
  (h:codeAny (model prog w) (A.under (.builtin "type.__call__" ⟨.ref C::vs,a⟩)) (.call (.ref f) ⟨.ref (s.heap.objs.size+1)::vs,a⟩) (PySem.W.InitBack (s.heap.objs.size+1) R)
   {s with heap:=(s.heap.push PySem.W.emptyDict).push (PySem.W.instObj C s.heap.objs.size)}) :
  codeAny (model prog w) A (.call (.ref C) ⟨vs,a⟩) R s:=by
 obtain⟨e,g,d,t,os⟩:=s;exact PySem.W.make_core (PySem.W.makes_of X c) (PySem.W.looks_findIn X hi) (λself=>PySem.W.bind_fn X self b) (.inl rfl) h
end
def K5(f:Str)(v:V):qA (Str×V)->qA (Str×V)
 |[]=>[(f,v)]
 |(g,x)::r=>if g=f then(g,v)::r else(g,x)::K5 f v r
def a2s(f g:Str)(v:V):∀fs:qA (Str×V),(K5 f v fs).lookup g=if g=f then some v else fs.lookup g
 |[]=>by
  show List.lookup g [(f,v)]=_;by_cases h:g=f
  .have hb:(g==f)=true:=bj.mpr h;simp only[List.lookup,hb,az h]
  .have hb:(g==f)=false:=cO.mpr h;simp only[List.lookup,hb,au h]
 |(k,x)::r=>by
  have b:=a2s f g v r;rw[show K5 f v ((k,x)::r)=(if k=f then(k,v)::r else(k,x)::K5 f v r)from rfl];by_cases a:k=f
  .rw[az a];by_cases h:g=k
   .have hb:(g==k)=true:=bj.mpr h;simp only[List.lookup,hb,az (h.trans a)]
   .have hb:(g==k)=false:=cO.mpr h;simp only[List.lookup,hb,au (λe:g=f=>h (e.trans a.symm))]
  .rw[au a];by_cases h:g=k
   .have hb:(g==k)=true:=bj.mpr h;simp only[List.lookup,hb,au (λe:g=f=>a (h.symm.trans e))]
   .have hb:(g==k)=false:=cO.mpr h;simp only[List.lookup,hb];exact b
def a1U(f:Str)(v:V):∀fs:qA (Str×V),f∈(K5 f v fs).map (·.1)/\∀g,g∈fs.map (·.1)->g∈(K5 f v fs).map (·.1)
 |[]=>⟨by simp[K5],λg h=>by simp at h⟩
 |(k,x)::r=>by
  obtain⟨b,c⟩:=a1U f v r;rw[show K5 f v ((k,x)::r)=(if k=f then(k,v)::r else(k,x)::K5 f v r)from rfl];by_cases a:k=f
  .rw[az a];subst a;exact⟨by simp,λg h=>by simpa using h⟩
  .rw[au a];refine⟨?_,λg h=>?_⟩
   .rw[aW];exact aq _ b
   .rw[aW]at h⊢;rcases aD.mp h with e|e
    .exact aD.mpr (.inl e)
    .exact aq _ (c g e)
def a2t(f:Str)(v:V):∀fs:qA (Str×V),(K5 f v fs).length<=fs.length+1
 |[]=>by simp[K5]
 |(k,x)::r=>by
  have b:=a2t f v r;rw[show K5 f v ((k,x)::r)=(if k=f then(k,v)::r else(k,x)::K5 f v r)from rfl];by_cases a:k=f
  .rw[az a,aT,aT];omega
  .rw[au a,aT,aT];omega
def RelO.some_of{o:qD qB}(r:RelO (some v) o):∃u,o=some u/\RelV v u:=by
 cases o with
 |none=>exact(show False from r).elim
 |some u=>exact⟨u,rfl,r⟩
def RelO.none_of{o:qD qB}(r:RelO none o):o=none:=by
 cases o with
 |none=>rfl
 |some u=>exact(show False from r).elim
def b1D(r:RelV v u):PySem.W.handedIn u=true:=by
 cases v with
 |non=>cases(show u=Value.none from r);rfl
 |bl b=>cases(show u=Value.bool b from r);rfl
 |int i=>obtain⟨t,e⟩:=(show ∃t,u=Value.int i t from r);cases e;rfl
 |str x=>obtain⟨t,e⟩:=(show ∃t,u=Value.str x t from r);cases e;rfl
 |byt b=>obtain⟨t,e⟩:=(show ∃t,u=Value.bytes b t from r);cases e;rfl
 |flt b=>obtain⟨t,e⟩:=(show ∃t,u=Value.float b t from r);cases e;rfl
 |ref a=>cases(show u=Value.ref a from r);rfl
 |ty n=>cases(show u=Value.type n from r);rfl
section
variable {fs fs':qA (Str×V)}
def a2X(b:HOk P w H h)(e:H a=some (.ins C dx fs)):∃mA,ObjM h a dx C mA/\(∀f,RelO (fs.lookup f) (mA f))/\PySem.Within mA (fs.map (·.1))/\fs.length<=1000/\H dx=some (.own a):=by
 obtain⟨d,z,ne,c,mA,n,r,q⟩:=(show ObjOk P w H h a (.ins C dx fs)from b a _ e);exact⟨mA,⟨c,n,ne⟩,r,q,z,d⟩
end
structure Cls(K:qF)(C:qE):Prop where
 pg:PySem.W.plainGet K C Str.empty=true
 hd:PySem.W.hasDictIn K C=true
 po:PySem.W.plainOver K C=true
 sa:PySem.W.findIn K (.ref C) "__setattr__"=some (some (.builtin "object.__setattr__"))
def Cls.get(c:Cls K C)(f:Str):PySem.W.plainGet K C f=true:=c.pg
def NoAttr(K:qF)(C:qE)(f:Str):Prop:=PySem.W.findIn K (.ref C) f=some none
def NoAttr.taker{f:Str}(n:NoAttr K C f):PySem.W.takerIn K C f=some none:=by
 unfold PySem.W.takerIn;rw[show PySem.W.findIn K (.ref C) f=some none from n];rfl
structure Meth(K:qF)(C:qE)(m:Str)(f:qE):Prop where
 at_:PySem.W.findIn K (.ref C) m=some (some (.ref f))
 fn:PySem.W.isFn K (.ref f)=true
 kp:PySem.W.keepIn K (.ref f)=true
section
variable {fs:qA (Str×V)}{f:Str}
def a8F{b:Bool}(I:Inv X qK σ H s)(e:H a=some (.ins C dx fs))(c:Cls X.K C)(n:NoAttr X.K C f)(l:fs.lookup f=some v)
  (h:∀u s',Inv X qK σ H s'->RelV v u->Q u s'):wpAny (model X.prog X.w) A (getAttr (.ref a) f b) Q E s:=by
 obtain⟨mA,O,r,_,_,_⟩:=a2X I.hok e;obtain⟨u,g,d⟩:=RelO.some_of (v:=v) (o:=mA f) (by rw[<-l];exact r f);exact b6A I.kIn O (c.get f) c.hd n g (b1D d) (h u _ (I.tok _) d)
def a3S{m:Str}{g:qE}{Q:qB×qA qB->qC->Prop}(I:Inv X qK σ H s)(e:H a=some (.ins C dx fs))(c:Cls X.K C)(k:Meth X.K C m g)(l:fs.lookup m=none)
  (h:Q (.ref g,[.ref a]) s):wpAny (model X.prog X.w) A (getMethod (.ref a) m pl) Q E s:=by
 obtain⟨mA,O,r,_,_,_⟩:=a2X I.hok e;have b:mA m=none:=RelO.none_of (by rw[<-l];exact r m);exact b4o I.kIn O (c.get m) k.at_ k.fn b h
def a8e{y:V}{Q:Unit->qC->Prop}(I:Inv X qK σ H s)(e:H a=some (.ins C dx fs))(c:Cls X.K C)(n:NoAttr X.K C f)(v:fs.length<1000)(p:RelV y u)
  (h:∀s',Inv X qK σ (upd H a (.ins C dx (K5 f y fs))) s'->Q () s'):wpAny (model X.prog X.w) A (setAttr (.ref a) f u) Q E s:=by
 obtain⟨mA,O,r,j,_,i⟩:=a2X I.hok e;have m:(fs.map (·.1)).length<=sizeLine:=by rw[aj,a'];omega
 refine b5j I.kIn O c.sa c.po n.taker c.hd j m λh' d t=>h _ ?_;have hd:∃o,h'.get? dx=some o:=let ⟨o,_,_,e',_⟩:=d.ns;⟨o,e'⟩
 refine I.write (x:=a) (e:=dx) (by rw[e];exact True.intro) (.inr i) (λb q k z=>(t.2 b k).trans z) hd ?_;refine⟨by rw[A3 O.ne];exact i,?_,O.ne,d.obj,_,d.ns,λg=>?_,λg l=>?_⟩
 .have:=a2t f y fs;omega
 .show RelO ((K5 f y fs).lookup g) (if g=f then some u else mA g);rw[a2s];by_cases q:g=f
  .rw[az q,az q];exact p
  .rw[au q,au q];exact r g
 .by_cases q:g=f
  .rw[q];exact(a1U f y fs).1
  .refine(a1U f y fs).2 g (j g λz=>l ?_);show(if g=f then some u else mA g)=none;rw[au q];exact z
def Inv.made(I:Inv X qK σ H s):Inv X qK σ (upd (upd H s.heap.objs.size (.own (s.heap.objs.size+1))) (s.heap.objs.size+1) (.ins C s.heap.objs.size []))
  {s with heap:=(s.heap.push PySem.W.emptyDict).push (PySem.W.instObj C s.heap.objs.size)}:=by
 have c:(s.heap.push PySem.W.emptyDict).get? s.heap.objs.size=some PySem.W.emptyDict:=aF s.heap rfl;have f:((s.heap.push PySem.W.emptyDict).push (PySem.W.instObj C s.heap.objs.size)).get? (s.heap.objs.size+1)=some (PySem.W.instObj C s.heap.objs.size):=by
  have:=aF (s.heap.push PySem.W.emptyDict) (o:=PySem.W.instObj C s.heap.objs.size) rfl;rwa[bt]at this
 have g:(s.heap.push PySem.W.emptyDict).Ns s.heap.objs.size (λ_=>none):=⟨PySem.W.emptyDict,#[],_,c,rfl,(λe h=>absurd h (by simp)),λ_=>rfl⟩;have d:=I.laid (a:=s.heap.objs.size) (o:=.own (s.heap.objs.size+1)) (h':=s.heap.push PySem.W.emptyDict) (t':=s.toks) (λb u q=>ag _ q) (ao _) ⟨_,c⟩;refine d.laid (a:=s.heap.objs.size+1) (o:=.ins C s.heap.objs.size []) (t':=s.toks) (λb u q=>ag _ q) (Nat.le_of_eq (bt _ _)) ?_;have ne:s.heap.objs.size≠s.heap.objs.size+1:=aQ (cm _);refine⟨by rw[A3 ne,A0],bq _,ne,f,λ_=>none,(Heap.Ns1.of_empty g).at λo q=>ag _ q,λ_=>True.intro,λy i=>absurd rfl i⟩
def b6R{prog:qG}{env:Env}{f:Str}(a:attributeBase e f env (eval e env)=eval e env)
  (h:wpAny (model prog w) A (eval e env) (λo s₁=>wpAny (model prog w) A (getAttr o f true) Q E s₁) E s):wpAny (model prog w) A (eval (.Attribute e f pos) env) Q E s :=
 Attribute_any_ h (by rw[arm_eval_Attribute,a])
end
def c0d(K:qF)(ta:TE)(f:Str):TE:=λσ H Q=>ta σ H λx H1=>∃a C dx fs v,x=.ref a/\H1 a=some (.ins C dx fs)/\Cls K C/\NoAttr K C f/\fs.lookup f=some v/\Q v H1
def c0i(K:qF)(ta tv:TE)(f:Str):TS:=λD σ H=>tv σ H λy H1=>ta σ H1 λx H2=>∃a C dx fs,x=.ref a/\H2 a=some (.ins C dx fs)/\Cls K C/\NoAttr K C f/\fs.length<1000 /\
 D.nx σ (upd H2 a (.ins C dx (K5 f y fs)))
section
variable {o value:Expr}{f:Str}{pos' tpos:Pos}{tv:TE}
def b8v(j:PE X e ta)(i:attributeBase e f X.env (eval e X.env)=eval e X.env):PE X (.Attribute e f pos) (c0d X.K ta f):=by
 intro qK s σ H Q I h;refine b6R i (thn (j qK s σ H _ I h) λu s1 ⟨x,H1,b,m,a,C,dx,fs,v,ex,g,c,n,l,q⟩=>?_);subst ex;obtain rfl:u=Value.ref a:=m;exact a8F b g c n l λo s2 d k=>⟨v,H1,d,k,q⟩
def b8i(i:PE X o ta)(j:PE X value tv)(hs:swapsWith value (some (.Attribute o f pos')) pos.line X.env=pure false):PS X (.Assign [.Attribute o f pos'] value pos) (c0i X.K ta tv f):=by
 intro qK s σ H D I h;refine plainObj_wpAny_Assign_Attribute (thn (j qK s σ H _ I h) λu s1 ⟨y,H1,b,r,q⟩=>thn (i qK s1 σ H1 _ b q) λk s2 ⟨x,H2,d,p,a,C,dx,fs,ex,g,c,n,l,m⟩=>?_) hs;subst ex;obtain rfl:k=Value.ref a:=p;exact a8e d g c n l r λt e=>⟨σ,_,e,m⟩
end
section
variable {c:qB}{b:Bool}
inductive TyOf(K:qF)(H:Hp):V->qB->Prop where
 |non:TyOf K H .non (.type "NoneType")
 |bl (x:Bool):TyOf K H (.bl x) (.type "bool")
 |int (i:Int):TyOf K H (.int i) (.type "int")
 |str (x:Str):TyOf K H (.str x) (.type "str")
 |flt (x:UInt64):TyOf K H (.flt x) (.type "float")
 |lst {a:qE}{xs:qA V}(e:H a=some (.lst xs)):TyOf K H (.ref a) (.type "list")
 |frz {a:qE}{o:Obj}{xs:qA V}(e:H a=some (.frz o (.lst xs))):TyOf K H (.ref a) (.type "list")
 |tup {a:qE}{xs:qA V}(e:H a=some (.tup xs)):TyOf K H (.ref a) (.type "tuple")
 |dK {a:qE}{qL:qA (Key×V)}(e:H a=some (.dK qL)):TyOf K H (.ref a) (.type "dict")
 |dT {a:qE}{qL:qA (qA Key×V)}(e:H a=some (.dT qL)):TyOf K H (.ref a) (.type "dict")
 |ins {a C dx:qE}{fs:qA (Str×V)}(e:H a=some (.ins C dx fs)) (cl:Cls K C) (ha:PySem.W.findIn K (.ref C) "__class__"=some (some (.builtin "object.__class__")))
   (hn:PySem.W.specialIn K (.builtin "object.__class__") "__get__"=some (some (.builtin "getset_descriptor.__get__"))) (htk:PySem.W.takesIn K (.builtin "object.__class__")=some true)
   (hm:PySem.W.mroIn K C (.type "object")=some true):TyOf K H (.ref a) (.ref C)
def b1A{x:V}{t:qB}(I:Inv X qK σ H s)(d:RelV x u)(ty:TyOf X.K H x t)(e:PySem.W.kitOne X.K t c=some b)(h:∀tk,Q (.bool b) {s with toks:=tk}) :
  wpAny (model X.prog X.w) A (call (.builtin "isinstance") [u,c]) Q E s:=by
 cases ty with
 |non=>cases(show u=Value.none from d);exact PySem.W.kia_one PySem.W.kitx_none I.kIn True.intro e (λz=>nomatch z) h
 |bl y=>cases(show u=Value.bool y from d);exact PySem.W.kia_one PySem.W.kitx_bool I.kIn True.intro e (λz=>nomatch z) h
 |int i=>obtain⟨t,q⟩:=(show ∃t,u=Value.int i t from d);cases q;exact PySem.W.kia_one PySem.W.kitx_int I.kIn True.intro e (λz=>nomatch z) h
 |str y=>obtain⟨t,q⟩:=(show ∃t,u=Value.str y t from d);cases q;exact PySem.W.kia_one PySem.W.kitx_str I.kIn True.intro e (λz=>nomatch z) h
 |flt y=>obtain⟨t,q⟩:=(show ∃t,u=Value.float y t from d);cases q;exact PySem.W.kia_one PySem.W.kitx_float I.kIn True.intro e (λz=>nomatch z) h
 |@lst a xs ea =>
  cases(show u=Value.ref a from d);obtain⟨_,_,n,_,h1⟩:=(show ObjOk X.prog X.w H s.heap a (.lst xs)from I.hok a _ ea);exact PySem.W.kia_one PySem.W.kitx_list I.kIn ⟨_,h1,rfl⟩ e (λz=>nomatch z) h
 |@frz a ob xs ea =>
  cases(show u=Value.ref a from d);obtain⟨_,_,_,n,_,h1⟩:=(show ObjOk X.prog X.w H s.heap a (.frz ob (.lst xs))from I.hok a _ ea);exact PySem.W.kia_one PySem.W.kitx_list I.kIn ⟨_,h1,rfl⟩ e (λz=>nomatch z) h
 |@tup a xs ea =>
  cases(show u=Value.ref a from d);obtain⟨_,_,_,p⟩:=(show ObjOk X.prog X.w H s.heap a (.tup xs)from I.hok a _ ea);obtain⟨o,h1,h2,_⟩:=p;exact PySem.W.kia_one PySem.W.kitx_tuple I.kIn ⟨o,h1,h2⟩ e (λz=>nomatch z) h
 |@dK a qL ea =>
  cases(show u=Value.ref a from d);obtain⟨_,_,vs,_,p⟩:=(show ObjOk X.prog X.w H s.heap a (.dK qL)from I.hok a _ ea);obtain⟨o,es,ep,h1,h2,_⟩:=p;exact PySem.W.kia_one PySem.W.kitx_dict I.kIn ⟨o,h1,h2.1⟩ e (λz=>nomatch z) h
 |@dT a qL ea =>
  cases(show u=Value.ref a from d);obtain⟨_,_,xs,_,o,es,ep,h1,h2,_⟩:=(show ObjOk X.prog X.w H s.heap a (.dT qL)from I.hok a _ ea);exact PySem.W.kia_one PySem.W.kitx_dict I.kIn ⟨o,h1,h2.1⟩ e (λz=>nomatch z) h
 |@ins a C dx fs ea cl g k f j =>
  cases(show u=Value.ref a from d);obtain⟨mA,O,_⟩:=a2X I.hok ea;obtain⟨od,J,_⟩:=O.look;exact PySem.W.kia_one (PySem.W.kitx_own (cl.get _) cl.hd g k f j) I.kIn J e (λz=>nomatch z) h
end
structure Room(k:Nat)(A:Around):Prop where
 hd:A.handled=none
 dp:A.depth+3*k+5<recursionLimit
 un:A.units+16*k+200<cLine
def Room.mono{j:Nat}(r:Room k A)(h:j<=k):Room j A:=⟨r.hd,by have:=r.dp;omega,by have:=r.un;omega⟩
def Room.deeper(r:Room (k+1) A)(env:Env):Room k (A.deeper env) :=
 ⟨r.hd,by have:=r.dp;show A.depth+1+3*k+5<_;omega,by have:=r.un;show A.units+3+16*k+200<_;omega⟩
def a8x{a:qA (Str×qB)}:(A.under (.builtin "type.__call__" ⟨.ref C::us,a⟩)).depth=A.depth+1:=by
 first|rfl|simp[Around.under,Code.weight,Code.isCreation,Code.isGuard,Code.isCaller,Code.frames,Code.isFrame,guardIds]
def a8w{a:qA (Str×qB)}:(A.under (.builtin "type.__call__" ⟨.ref C::us,a⟩)).units=A.units+1:=by
 first|rfl|simp[Around.under,Code.cUnits,Code.frames,Code.isFrame]
def Room.make(r:Room (k+1) A)(C:qE)(us:qA qB)(a:qA (Str×qB)):Room k (A.under (.builtin "type.__call__" ⟨.ref C::us,a⟩)) :=
 ⟨r.hd,by have:=r.dp;rw[a8x];omega,by have:=r.un;rw[a8w];omega⟩
def Room.depth(r:Room k A):A.depth<recursionLimit:=by have:=r.dp;omega
def a2v:TA:=λ_ H Q=>Q [] H
def a6t(ta:TE)(tr:TA):TA:=λσ H Q=>ta σ H λx H1=>tr σ H1 λxs H2=>Q (x::xs) H2
def b8z:PA X [] a2v:=λ_ _ _ _ H Q I h=>Calls.spliced_nil ⟨[],H,I,.nil,h⟩
def b5V(c:PE X e te)(d:PA X es t)(hs:starEach (e::es) X.env=(false,eval e X.env)::starEach es X.env:=by rfl):PA X (e::es) (a6t te t):=by
 intro pos qK s σ H Q I h;rw[hs];show wpAny _ _ (spliced ((false,eval e X.env)::backTo pos (starEach es X.env))) _ _ s;refine Calls.spliced_cons (thn (c qK s σ H _ I h) λu s1 ⟨x,H1,a,i,f⟩=>?_);exact thn (d pos qK s1 σ H1 _ a f) λk s2 ⟨xs,H2,b,j,g⟩=>⟨x::xs,H2,b,.cons i j,g⟩
def b7P(t:TA):TE:=λσ H Q=>t σ H λxs H1=>xs.length<=sizeLine/\∀p,H1 p=none->Q (.ref p) (upd H1 p (.tup xs))
def b4Z(t:TA):TE:=λσ H Q=>t σ H λxs H1=>xs.length<=sizeLine/\∀p,H1 p=none->Q (.ref p) (upd H1 p (.lst xs))
def b8o{x1}(h:PA X es t):PE X (.Tuple es x1 pos) (b7P t):=by
 intro qK s σ H Q I d;refine wpAny_Tuple_spliced (thn (h pos qK s σ H _ I d) λf s1 ⟨xs,H1,a,r,z,q⟩=>⟨by rw[<-r.length];exact z,?_⟩);have c:H1 s1.heap.objs.size=none:=a.hok.fresh (ao _);refine⟨.ref s1.heap.objs.size,upd H1 s1.heap.objs.size (.tup xs),a.laid (t':=s1.toks) (λb u e=>ag _ e) (ao _) ?_,rfl,q _ c⟩;exact⟨z,f,r,⟨_,aF _ rfl,rfl,_,rfl⟩⟩
def b8t(h:PA X es t):PE X (.List es pos) (b4Z t):=by
 intro qK s σ H Q I d;refine wpAny_List_spliced (thn (h pos qK s σ H _ I d) λf s1 ⟨xs,H1,a,r,z,q⟩=>⟨by rw[<-r.length];exact z,?_⟩);have c:H1 s1.heap.objs.size=none:=a.hok.fresh (ao _);refine⟨.ref s1.heap.objs.size,upd H1 s1.heap.objs.size (.lst xs),a.laid (t':=s1.toks) (λb u e=>ag _ e) (ao _) ?_,rfl,q _ c⟩;exact⟨z,f,0,r,aF _ rfl⟩
abbrev Sp:=qA V->Hp->VK->XK->Prop
variable {sp:Sp}
abbrev CXT:=qA Env->Hp->qC->XK->qH
variable {CX:CXT}
structure Env0(P:qG)(w:World)(K:qF)(mg:Str->qD qB)(base:Heap)(A:Around)(outer:qA Env)(s:qC)(H:Hp):Prop where
 frames:A.frames=some outer
 mod:Mod K mg base
 bs:∀b o,base.get? b=some o->s.heap.get? b=some o/\H b=none
 bsz:base.objs.size<=s.heap.objs.size
 funs:s.heap.FunFrames base outer
 frf:∀b∈frs outer,H b=none
 hok:HOk P w H s.heap
 bare:AllBare s.gens
def CE(outer:qA Env)(P:qG)(w:World)(H:Hp)(s:qC)(Q:VK)(u:qB)(s':qC):Prop :=
 ∃v H',s'.os=s.os/\AllBare s'.gens/\Un (frs outer) [] H H' s.heap s'.heap/\HOk P w H' s'.heap/\RelV v u/\Q v H'
def CR(CX:CXT)(outer:qA Env)(P:qG)(w:World)(H:Hp)(s:qC)(Q:VK)(E:XK)(r:Result)(s':qC):Prop :=
 match r with
 |.ok (.ret u)=>CE outer P w H s Q u s'
 |.ok _=>False
 |.error e=>CX outer H s E e s'
structure FnOk(P:qG)(w:World)(K:qF)(mg:Str->qD qB)(base:Heap)(CX:CXT)(k:Nat)(f:qE)(fd:FuncData)(ps:qA Str)(sp:Sp):Prop where
 len:∀vs H Q E,sp vs H Q E->vs.length=ps.length
 run:∀(A:Around) (outer:qA Env) (s:qC) (H:Hp) (args:Args) (us:qA qB) (vs:qA V) (Q:VK) (E:XK),Room k A->Env0 P w K mg base A outer s H->BindsTo s fd args (ps.zip us)->Vals vs us->sp vs H Q E ->
  codeAny (model P w) A (.call (.ref f) args) (CR CX outer P w H s Q E) s
def FnOk.imp{f:qE}{sp':Sp}(F:FnOk P w K mg base CX k f fd ps sp)
  (h:∀vs H Q E,sp' vs H Q E->sp vs H Q E):FnOk P w K mg base CX k f fd ps sp' :=
 ⟨λvs H Q E q=>F.len vs H Q E (h _ _ _ _ q),λA a s H b i vs Q E e d c g hs=>F.run A a s H b i vs Q E e d c g (h _ _ _ _ hs)⟩
def Env0.make{outer:qA Env}(e:Env0 P w K mg base A outer s H)(C:qE)(us:qA qB)(a:qA (Str×qB)) :
  Env0 P w K mg base (A.under (.builtin "type.__call__" ⟨.ref C::us,a⟩)) outer s H:=⟨by first|exact e.frames | (simpa[Around.under,Code.envs,Code.isFrame,pushEnvs]using e.frames),e.mod,e.bs,e.bsz,e.funs,e.frf,e.hok,e.bare⟩
section
variable {s':qC}
def Inv.env0(I:Inv X qK σ H s):Env0 X.prog X.w X.K X.mg X.base X.A X.stack s H :=
 ⟨I.ok.frames,I.ok.mod,I.bs,ba I.ok.bsz I.sz,I.stack,I.stkFree,I.hok,I.bare⟩
def Inv.after{Q:VK}(I:Inv X qK σ H s)(h:CE X.stack X.prog X.w H s Q u s'):EP X qK σ Q u s':=by
 obtain⟨v,H',os,a,un,c,r,q⟩:=h;obtain⟨f,g,d,t,e⟩:=s';obtain rfl:e=s.os:=os;exact⟨v,H',I.call (h':=f) (g':=g) (d':=d) (t':=t) (ch:=[]) un c a (λb z=>absurd z (by simp)),r,q⟩
end
def a4y(sp:Sp)(dvs:qA V)(E:XK)(t:TA):TE:=λσ H Q=>t σ H λvs H1=>sp (vs++dvs) H1 Q E
def a2p(C:qE)(m:Str)(sp:Sp)(dvs:qA V)(E:XK)(ta:TE)(t:TA):TE:=λσ H Q=>ta σ H λx H1=>∃a dx fs,x=.ref a/\H1 a=some (.ins C dx fs)/\fs.lookup m=none /\
 t σ H1 λvs H2=>sp (x::(vs++dvs)) H2 Q E
def b7a(C:qE)(sp:Sp)(dvs:qA V)(E:XK)(t:TA):TE:=λσ H Q=>t σ H λvs H1=>∀x dx,H1 x=none->H1 dx=none->dx≠x ->
 sp (.ref x::(vs++dvs)) (upd (upd H1 dx (.own x)) x (.ins C dx [])) (λv H2=>v=.non/\Q (.ref x) H2) E
def Binds(K:qF)(fd:FuncData)(ps:qA Str)(ds:qA qB):Prop :=
 ∀(s:qC) (us:qA qB),K.In s.heap->(us++ds).length=ps.length->BindsTo s fd ⟨us,[]⟩ (ps.zip (us++ds))
def Binds.all(h:∀us:qA qB,us.length=ps.length->bindArgs fd ⟨us,[]⟩=pure (ps.zip us)):Binds K fd ps []:=λs us _ a=>by
 rw[di]at a⊢;exact .of_eq (h us a)
def a0o(CX:CXT)(X:Cx)(E:XK):Prop:=∀(qK:qA (qE×Obj)) (σ:St) (H:Hp) (s:qC) (e:qB) (s':qC),Inv X qK σ H s->CX X.stack H s E e s'->X.xe e s'
section
variable {f:qE}{dvs:qA V}{ds:qA qB}{E:XK}{m:Str}{p qP:Pos}{o:Expr}
def a8l{Q:VK}(F:FnOk X.prog X.w X.K X.mg X.base CX k f fd ps sp)(g:Room k X.A)(c:Binds X.K fd ps ds)(hd:Vals dvs ds)(i:a0o CX X E)
  (I:Inv X qK σ H s) (r:Vals vs us) (h:sp (vs++dvs) H Q E):wpAny (model X.prog X.w) X.A (call (.ref f) us) (EP X qK σ Q) X.xe s:=by
 have b:Vals (vs++dvs) (us++ds):=r.append hd;have d:(us++ds).length=ps.length:=by rw[<-b.length];exact F.len _ _ _ _ h
 refine wpAny_call (dy (F.run X.A X.stack s H ⟨us,[]⟩ (us++ds) (vs++dvs) Q E g I.env0 (c s us I.kIn d) b h) λr s' a=>?_);cases r with
 |error e=>exact i qK σ H s e s' I a
 |ok fl =>
  cases fl with
  |ret u=>exact I.after a
  |next=>exact False.elim a
  |brk=>exact False.elim a
  |cont=>exact False.elim a
def a9H(F:FnOk X.prog X.w X.K X.mg X.base CX k f fd ps sp)(n:Room k X.A)(j:Gl X x)(m:X.mg x=some (.ref f))(l:PySem.W.keepIn X.K (.ref f)=true)(g:Binds X.K fd ps ds)(hd:Vals dvs ds)(o:a0o CX X E)
  (d:PA X (e::es) t) (a:(x==("__debug__" : Str))=false:=by decide) (i:starEach (e::es) X.env=(false,eval e X.env)::starEach es X.env:=by rfl) (b:(backTo pos (starEach es X.env)).any (·.1)=false:=by rfl) :
  PE X (.Call (.Name x p) (e::es) [] pos) (a4y sp dvs E t):=by
 intro qK s σ H Q I h;refine eh (a1u I j m ?_ a);refine PySem.W.callWith_K (h₀:=X.base) I.ok.mod.kin l (thn (d pos qK s σ H _ I h) λu s1 ⟨vs,H1,c,r,q⟩=>⟨c.kIn,?_⟩) i b;exact a8l F n g hd o c r q
def b5Q(w:PE X o ta)(c:Cls X.K C)(j:Meth X.K C m f)(F:FnOk X.prog X.w X.K X.mg X.base CX k f fd ps sp)(y:Room k X.A)(v:Binds X.K fd ps ds)(hd:Vals dvs ds)(A:a0o CX X E)(p:PA X (e::es) t)
  (d:starEach (e::es) X.env=(false,eval e X.env)::starEach es X.env:=by rfl) (b:(backTo pos (starEach es X.env)).any (·.1)=false:=by rfl)
  (z:eval (.Call (.Attribute o m qP) (e::es) [] pos) X.env=(do
   let ov <-eval o X.env
   standAt qP.atName
   let (f,first) <-holding [ov] (getMethod ov m pl)
   callWith pos f first (backTo pos (starEach (e::es) X.env)) (backToKw pos (keywordEach [] X.env))):=by rfl) :
  PE X (.Call (.Attribute o m qP) (e::es) [] pos) (a2p C m sp dvs E ta t):=by
 intro qK s σ H Q I h;refine PySem.W.methodCall_KW (pl:=pl) (thn (w qK s σ H _ I h) λu s1 ⟨x,H1,g,D,a,dx,fs,ex,n,l,q⟩=>?_) z;subst ex;obtain rfl:u=Value.ref a:=D;refine a3S g n c j l ?_;refine PySem.W.callWith_K (first:=[.ref a]) (h₀:=X.base) I.ok.mod.kin j.kp (thn (p pos qK s1 σ H1 _ g q) λG s2 ⟨vs,H2,i,r,B⟩=>⟨i.kIn,?_⟩) d b;exact a8l (us:=.ref a::G) (vs:=.ref a::vs) F y v hd A i (.cons rfl r) B
def b3q(i:PE X o ta)(c:Cls X.K C)(d:Meth X.K C m f)(F:FnOk X.prog X.w X.K X.mg X.base CX k f fd ps sp)(j:Room k X.A)(g:Binds X.K fd ps ds)(hd:Vals dvs ds)(p:a0o CX X E)
  (n:eval (.Call (.Attribute o m qP) [] [] pos) X.env=(do
   let ov <-eval o X.env
   standAt qP.atName
   let (f,first) <-holding [ov] (getMethod ov m pl)
   callWith pos f first (backTo pos (starEach [] X.env)) (backToKw pos (keywordEach [] X.env))):=by rfl) :
  PE X (.Call (.Attribute o m qP) [] [] pos) (a2p C m sp dvs E ta a2v):=by
 intro qK s σ H Q I h;refine PySem.W.methodCall_KW (pl:=pl) (thn (i qK s σ H _ I h) λu s1 ⟨x,H1,b,r,a,dx,fs,ex,e,l,q⟩=>?_) n;subst ex;obtain rfl:u=Value.ref a:=r;refine a3S b e c d l ?_;exact PySem.W.callWith_K0 (first:=[.ref a]) b.kIn d.kp (a8l (us:=[.ref a]) (vs:=[.ref a]) F j g hd p b (.cons rfl .nil) q)
structure Mk(K:qF)(C f:qE):Prop where
 makes:PySem.W.makesIn K C=true
 init:PySem.W.findIn K (.ref C) "__init__"=some (some (.ref f))
 fn:PySem.W.isFn K (.ref f)=true
 kp:PySem.W.keepIn K (.ref C)=true
def b2Q{Q:VK}(M:Mk X.K C f)(F:FnOk X.prog X.w X.K X.mg X.base CX k f fd ps sp)(m:Room (k+1) X.A)(j:Binds X.K fd ps ds)(hd:Vals dvs ds)
  (n:a0o CX X E) (I:Inv X qK σ H s) (r:Vals vs us)
  (h:∀x dx,H x=none->H dx=none->dx≠x->sp (.ref x::(vs++dvs)) (upd (upd H dx (.own x)) x (.ins C dx [])) (λv H2=>v=.non/\Q (.ref x) H2) E) :
  wpAny (model X.prog X.w) X.A (call (.ref C) us) (EP X qK σ Q) X.xe s:=by
 have c:=h (s.heap.objs.size+1) s.heap.objs.size (I.hok.fresh (ez _)) (I.hok.fresh (ao _)) (aQ (cm _));have b:=Inv.made (C:=C) I;have d:Vals (V.ref (s.heap.objs.size+1)::(vs++dvs)) (Value.ref (s.heap.objs.size+1)::(us++ds)):=.cons rfl (r.append hd);have l:(Value.ref (s.heap.objs.size+1)::us++ds).length=ps.length:=by
  have e:=d.length;rw[F.len _ _ _ _ c]at e;exact e.symm
 refine wpAny_call (b3N (f:=f) I.kIn M.makes M.init (bj.mp M.fn) (dy (F.run _ X.stack _ _ ⟨Value.ref (s.heap.objs.size+1)::us,[]⟩ (Value.ref (s.heap.objs.size+1)::(us++ds)) _ _ E (m.make C us [])
  (b.env0.make C us []) (j _ (Value.ref (s.heap.objs.size+1)::us) b.kIn l) d c) λr s' a=>?_))
 cases r with
 |error e=>exact n qK σ _ _ e s' b a
 |ok fl =>
  cases fl with
  |ret u =>
   obtain⟨v,H',g,p,i,o⟩:=b.after a;subst i;exact⟨p,⟨V.ref (s.heap.objs.size+1),H',g,rfl,o⟩⟩
  |next=>exact False.elim a
  |brk=>exact False.elim a
  |cont=>exact False.elim a
def b5R(M:Mk X.K C f)(F:FnOk X.prog X.w X.K X.mg X.base CX k f fd ps sp)(m:Room (k+1) X.A)(j:Gl X x)(l:X.mg x=some (.ref C))(g:Binds X.K fd ps ds)(hd:Vals dvs ds)(n:a0o CX X E)
  (d:PA X (e::es) t) (a:(x==("__debug__" : Str))=false:=by decide) (i:starEach (e::es) X.env=(false,eval e X.env)::starEach es X.env:=by rfl) (b:(backTo pos (starEach es X.env)).any (·.1)=false:=by rfl) :
  PE X (.Call (.Name x p) (e::es) [] pos) (b7a C sp dvs E t):=by
 intro qK s σ H Q I h;refine eh (a1u I j l ?_ a);refine PySem.W.callWith_K (h₀:=X.base) I.ok.mod.kin M.kp (thn (d pos qK s σ H _ I h) λo s1 ⟨vs,H1,c,r,q⟩=>⟨c.kIn,?_⟩) i b;exact b2Q M F m g hd n c r q
end
section
variable {f:qE}{ks:qA Str}{E:XK}{m:Str}{p qP kpos:Pos}{o:Expr}{kws:qA Keyword}{tk:TA}{nm:qD Str}
variable {g:qA qB->qA qB->qA qB}{gV:qA V->qA V->qA V}
end
structure FnScope(N P:qA Str)(sc:Scope):Prop where
 kind:sc.kind=.function:=by rfl
 co:sc.isCoroutine=false:=by rfl
 gen:sc.isGenerator=false:=by rfl
 nd:N.Nodup:=by decide +kernel
 pre:N.take P.length=P:=by rfl
 par:∀x∈P,sc.names.lookup x=some .local∨sc.names.lookup x=some .cell:=by decide +kernel
 nofree:∀y∈sc.names,y.2≠.free:=by decide +kernel
def a5a{kindOf:Str->qD NameKind}{x:Str}:∀{binds:qA (Str×qB)}{m:Str->qD qB},(∀v,(x,v)∉binds)->bindL kindOf binds m x=m x
 |[],_,_=>rfl
 |(n,v)::r,m,h=>by
  unfold bindL;rw[a5a λw hw=>h w (aq _ hw)];split
  .have:x≠n:=by rintro rfl;exact h v ar
   simp[this]
  .rfl
def a5c{kindOf:Str->qD NameKind}{x:Str}:∀{binds:qA (Str×qB)}{m:Str->qD qB},(∀v,(x,v)∉binds)->bindC kindOf binds m x=m x
 |[],_,_=>rfl
 |(n,v)::r,m,h=>by
  unfold bindC;rw[a5c λw hw=>h w (aq _ hw)];split
  .rfl
  .have:x≠n:=by rintro rfl;exact h v ar
   simp[this]
def a5b{kindOf:Str->qD NameKind}{x:Str}{v:qB}:∀{P:qA Str}{vs:qA qB}{i:Nat}{m:Str->qD qB},P.Nodup->P[i]?=some x->vs[i]?=some v->kindOf x=some .local ->
  bindL kindOf (P.zip vs) m x=some v
 |[],_,_,_,_,h,_,_=>by simp at h
 |_::_,[],_,_,_,_,h,_=>by simp at h
 |p::P,w::vs,0,m,nd,h1,h2,a=>by
  simp at h1 h2;subst h1;subst h2;show bindL kindOf ((p,w)::P.zip vs) m p=_;unfold bindL;rw[a5a λv b=>(cq.mp nd).1 (List.of_mem_zip b).1,az a];simp
 |p::P,w::vs,i+1,m,nd,h1,h2,a=>by
  show bindL kindOf ((p,w)::P.zip vs) m x=_;unfold bindL;exact a5b (i:=i) (cq.mp nd).2 (by simpa using h1) (by simpa using h2) a
def a5d{kindOf:Str->qD NameKind}{x:Str}{v:qB}:∀{P:qA Str}{vs:qA qB}{i:Nat}{m:Str->qD qB},P.Nodup->P[i]?=some x->vs[i]?=some v->kindOf x≠some .local ->
  bindC kindOf (P.zip vs) m x=some v
 |[],_,_,_,_,h,_,_=>by simp at h
 |_::_,[],_,_,_,_,h,_=>by simp at h
 |p::P,w::vs,0,m,nd,h1,h2,a=>by
  simp at h1 h2;subst h1;subst h2;show bindC kindOf ((p,w)::P.zip vs) m p=_;unfold bindC;rw[a5c λv b=>(cq.mp nd).1 (List.of_mem_zip b).1,au a];simp
 |p::P,w::vs,i+1,m,nd,h1,h2,a=>by
  show bindC kindOf ((p,w)::P.zip vs) m x=_;unfold bindC;exact a5d (i:=i) (cq.mp nd).2 (by simpa using h1) (by simpa using h2) a
def start(N:qA Str)(vs:qA V):St:=vs.map some++List.replicate (N.length-vs.length) none
def L8(CX:CXT)(P:qG)(w:World)(K:qF)(mg:Str->qD qB)(base:Heap)(N:qA Str)(qual:Str)(scope:Scope)(f:qE)(cd:qB)(A:Around)(outer:qA Env)(s:qC)(H:Hp)(E:XK):Cx where
 prog:=P
 w:=w
 K:=K
 mg:=mg
 base:=base
 A:=A.deeper (envOfC qual scope s.heap.objs.size f cd)
 N:=N
 s₀:=s
 H₀:=H
 env:=envOfC qual scope s.heap.objs.size f cd
 outer:=outer
 stack:=envOfC qual scope s.heap.objs.size f cd::outer
 ex:=[]
 calm:=true
 fn:=λ_=>true
 pn:=[]
 xe:=λe s'=>wpAny (model P w) (A.deeper (envOfC qual scope s.heap.objs.size f cd)) (leaving (envOfC qual scope s.heap.objs.size f cd) e) (λ_ s''=>CX outer H s E e s'') (λe' s''=>CX outer H s E e' s'') s'
def a7D{a:Scope}(h:a.names.lookup x=some .cell):∃c,(cellsFrom n a.names []).lookup x=some c:=by
 have q:=PySem.W.cellsFrom_some a.names n [] (.inl h);exact Option.isSome_iff_exists.mp q
def b1B{N:qA Str}{qual:Str}{scope:Scope}{f:qE}{cd:qB}{outer:qA Env}{s1:qC}{E:XK}
  (S:FnScope N ps scope) (hd:A.handled=none) (d:Env0 P w K mg base A outer s H) (G:vs.length=ps.length) (r:Vals vs us)
  (x:InCallC s s.heap.objs.size (bindL (envOfC qual scope s.heap.objs.size f cd).kindOf (ps.zip us) λ_=>none) (cellsFrom (s.heap.objs.size+1) scope.names []) (bindC (envOfC qual scope s.heap.objs.size f cd).kindOf (ps.zip us) λ_=>none) s1) :
  Inv (L8 CX P w K mg base N qual scope f cd A outer s H E) [] (start N vs) H s1:=by
 have C:ps.length<=N.length:=by have:=aR List.length S.pre;rw[aU]at this;omega
 obtain⟨h1,tk,rfl,o⟩:=x.done;have j:∀b:qE,b∉(L8 CX P w K mg base N qual scope f cd A outer s H E).ex:=λb z=>absurd (show b∈([]:qA qE)from z) (by simp);refine⟨⟨d.mod,S.kind,rfl,rfl,ao _,λy z c h1 h2=>?_,λy g=>?_,λy c _ h=>?_,λ_=>hd,Around.frames_deeper d.frames,.inr ⟨rfl,rfl⟩,λb z=>absurd z (j b),d.bs,d.bsz,λb _ _=>j b,λb z=>absurd z (j b),d.funs,d.frf⟩,
  rfl,d.bare,Un.kept o,⟨_,x.toInCall.ns,λi y v h1 h2 F=>?_⟩,λy c h=>⟨_,x.cell y c h⟩,d.hok.fresh (ao _),λy c h=>?_,λp l=>absurd (show p∈([]:qA (qE×Obj))from l) (by simp),d.hok.kept o,?_⟩
 .exact name_of_addr x.apart (PySem.mem_of_lookup h1) (PySem.mem_of_lookup h2)
 .have g:scope.names.lookup y=some .cell∨scope.names.lookup y=some .free:=g;rcases g with g|g
  .exact a7D g
  .exact absurd rfl (S.nofree _ (PySem.mem_of_lookup g))
 .exact cG (x.above y c (PySem.mem_of_lookup h))
 .have hi:i<vs.length:=by
   unfold start at h2;by_cases hi:i<vs.length
   .exact hi
   .rw[bh (by simpa using hi)]at h2;rw[fz]at h2;split at h2<;>cases h2
  have B:vs[i]?=some v:=by
   unfold start at h2;rw[bx (by simpa using hi),aV]at h2;cases e:vs[i]? with
   |none=>rw[e]at h2;cases h2
   |some a=>rw[e]at h2;cases h2;rfl
  obtain⟨u,t,D⟩:=r.get B;have l:ps[i]?=some y:=by
   rw[<-S.pre,dj (by omega)];exact h1
  have m:ps.Nodup:=by rw[<-S.pre];exact S.nd.sublist (List.take_sublist _ _)
  refine⟨u,D,?_⟩;rcases S.par y (aH l)with k|k
  .exact .inl ⟨k,a5b m l t k⟩
  .obtain⟨c,e⟩:=a7D (n:=s.heap.objs.size+1) k;refine .inr ⟨.inl k,c,e,?_⟩;have q:=x.cell y c e;rw[a5d m l t (by show scope.names.lookup y≠_;rw[k];decide)]at q;exact q
 .exact d.hok.fresh (cG (x.above y c (PySem.mem_of_lookup h)))
 .unfold start;show _=N.length;rw[ax,aj,bw];omega
def b7G{f:qE}{name qual:Str}{c:Arguments}{scope:Scope}{G kV h pm a ct oc:qB}{an od:qD qE}
  {B:Array (qD qB)}{N:qA Str}(W:K.lookup f=some ⟨oc,od,.func (PySem.W.fnOf name qual c body scope G kV h pm an a ct),B⟩) (m:PySem.W.codeIn K a qual=true) (S:FnScope N ps scope)
  (l:∀vs H Q E,sp vs H Q E->vs.length=ps.length)
  (d:∀(A:Around) (outer:qA Env) (s:qC) (H:Hp) (vs:qA V) (Q:VK) (E:XK),Room k (A.deeper (envOfC qual scope s.heap.objs.size f a))->sp vs H Q E ->
   ∃t,PSs (L8 CX P w K mg base N qual scope f a A outer s H E) body t/\t {nx:=λ_ H'=>Q .non H',rt:=Q} (start N vs) H) :
  FnOk P w K mg base CX (k+1) f (PySem.W.fnOf name qual c body scope G kV h pm an a ct) ps sp:=by
 refine⟨l,λA outer s H F X vs Q E p i L r j=>?_⟩;have O:=l _ _ _ _ j;have D:K.In s.heap:=i.mod.kin.keeps λb o e=>(i.bs b o e).1;have z:s.heap.NoLimit:=i.mod.nolimit.keeps λb o e=>(i.bs b o e).1;have g:∀y∈ps.zip X,scope.names.lookup y.1=some .local∨(scope.names.lookup y.1=some .cell/\((cellsFrom (s.heap.objs.size+1) scope.names []).lookup y.1).isSome=true):=λ⟨n,v⟩ U=>by
  rcases S.par n (List.of_mem_zip U).1 with q|q
  .exact .inl q
  .exact .inr ⟨q,PySem.W.cellsFrom_some _ _ _ (.inl q)⟩
 refine codeAny_call_function p.depth (D _ _ W) rfl S.co S.gen rfl (PySem.W.codeRec_of D m) (L _ _ _ _ ?_);refine wpAny_newFunctionEnv_cells S.kind g λenv M s1 x=>?_;subst M;refine⟨z.keeps x.toInCall.keep,codeAny_func ?_⟩;obtain⟨t,T,R⟩:=d A outer s H vs Q E (p.deeper _) j;have I:Inv (L8 CX P w K mg base N qual scope f a A outer s H E) [] (start N vs) H s1:=b1B S p.hd i O r x;refine cX (T [] s1 (start N vs) H _ I R) (λfl s' hs=>?_) λe s' hs=>hs;have fin:∀{σ':St}{H':Hp}{v:V}{u:qB},Inv (L8 CX P w K mg base N qual scope f a A outer s H E) [] σ' H' s'->RelV v u->Q v H'->CE outer P w H s Q u s' :=
  λ{σ' H' v u} J C q=>⟨v,H',J.os,J.bare,J.base,J.hok,C,q⟩
 cases fl with
 |ret u =>
  obtain⟨v,σ',H',J,C,q⟩:=hs;exact fin J C q
 |next =>
  obtain⟨σ',H',J,q⟩:=hs;exact fin (v:=V.non) (u:=Value.none) J rfl q
 |brk =>
  obtain⟨_,_,_,q⟩:=hs;exact False.elim q
 |cont =>
  obtain⟨_,_,_,q⟩:=hs;exact False.elim q
section
variable {p:Pos}{id T:String}{r:qA V->Hp->VK->Prop}
def tCB(r:qA V->Hp->VK->Prop)(t:TA):TE:=λσ H Q=>t σ H λvs H1=>r vs H1 Q
def J4(f:E2 X (.builtin id) r)(i:Gl X x)(j:X.mg x=none)(l:bootBuiltins x=some (.builtin id))(d:PA X (e::es) t)(k:x≠"__name__":=by decide)(a:(x==("__debug__" : Str))=false:=by decide)
  (g:starEach (e::es) X.env=(false,eval e X.env)::starEach es X.env:=by rfl) (b:(backTo pos (starEach es X.env)).any (·.1)=false:=by rfl):PE X (.Call (.Name x p) (e::es) [] pos) (tCB r t):=by
 intro qK s σ H Q I h;refine eh (a1R I i j l ?_ k a);exact PyProof.Rows.callWith_builtin1 (thn (d pos qK s σ H _ I h) λo s1 ⟨vs,H1,c,n,m⟩=>f qK s1 σ H1 vs o Q c n m) g b
def O8(f:E2 X (.type T) r)(i:Gl X x)(j:X.mg x=none)(l:bootBuiltins x=some (.type T))(d:PA X (e::es) t)(k:x≠"__name__":=by decide)(a:(x==("__debug__" : Str))=false:=by decide)
  (g:starEach (e::es) X.env=(false,eval e X.env)::starEach es X.env:=by rfl) (b:(backTo pos (starEach es X.env)).any (·.1)=false:=by rfl):PE X (.Call (.Name x p) (e::es) [] pos) (tCB r t):=by
 intro qK s σ H Q I h;refine eh (a1R I i j l ?_ k a);exact dw (thn (d pos qK s σ H _ I h) λo s1 ⟨vs,H1,c,n,m⟩=>f qK s1 σ H1 vs o Q c n m) g b
end
end L2
namespace HT
open PySem PyProof.Rows
def lexLt:qI->qI->Bool
 |[],[]=>false
 |[],_::_=>true
 |_::_,[]=>false
 |x::xs,y::ys=>if x=y then lexLt xs ys else decide (x<y)
def lexLt_cons(x y:Int)(xs ys:qI):lexLt (x::xs) (y::ys)=if x=y then lexLt xs ys else decide (x<y):=rfl
section
open PySem.SeqAt
open PySem.AutoSeq1 (wpAny_loadPart')
open PySem.MeetsSeq PySem.MeetsSeq2 PySem.MeetsSeq3
end
section
variable {prog:qG}{w:World}{A:Around}{E:qH}{s:qC}
def cat_tup{t b:qE}{vs a:qA qB}{Q:qH}(r:IsTup s.heap t vs.toArray)(q:IsTup s.heap b a.toArray)(o:vs≠[])
  (h1:a=[]->Q (.ref t) s) (h2:a≠[]->Q (.ref s.heap.objs.size) {s with heap:=s.heap.push {cls:=.type "tuple",data:=.seq (vs++a).toArray}})
  (k:vs.length+a.length<=sizeLine):wpAny (model prog w) A (binaryOp .Add (.ref t) (.ref b)) Q E s:=by
 obtain⟨⟨cls,dd,data,sl⟩,i,m,n,hd⟩:=id r;obtain⟨⟨l,d,j,h⟩,c,f,p,g⟩:=id q;simp only at m hd f g;subst m hd f g;have e:vs.toArray++a.toArray=(vs++a).toArray:=by simp
 by_cases hw:a=[]
 .exact concat_meets ⟨_,i,rfl⟩ ⟨_,c,rfl⟩ noFill_tuple_add seq_tuple_add PySem.F.slot_tuple_add PySem.F.entry_tuple_add (PySem.F.args_tuple_add_2 _ _)
   (tuple_addW1 t b vs.toArray a.toArray n p dd d sl h (by simpa using o) (by simp[hw])) ⟨i,c,h1 hw⟩
 .refine concat_meets ⟨_,i,rfl⟩ ⟨_,c,rfl⟩ noFill_tuple_add seq_tuple_add PySem.F.slot_tuple_add PySem.F.entry_tuple_add (PySem.F.args_tuple_add_2 _ _)
   (tuple_addW2 t b vs.toArray a.toArray n p dd d sl h (by simpa using o) (by simpa using hw) (by rw[aC,aC];exact k)) ⟨i,c,?_⟩
  rw[e];exact h2 hw
def sIx(n d:Nat):qD Int->Nat
 |none=>d
 |some v=>if v<0 then(v+(n:Int)).toNat else min v.toNat n
def sIx_none(n d:Nat):sIx n d none=d:=rfl
def sIx_nat(n d k:Nat):sIx n d (some (k:Int))=min k n:=by
 show(if (k:Int)<0 then((k:Int)+(n:Int)).toNat else min (k:Int).toNat n)=min k n;rw[au (by omega),bf]
def b7U(n d:Nat)(hd:d<=n)(o:qD Int):sIx n d o<=n:=by
 cases o with
 |none=>exact hd
 |some v =>
  show(if v<0 then(v+(n:Int)).toNat else min v.toNat n)<=n;by_cases a:v<0
  .rw[az a];omega
  .rw[au a];exact Nat.min_le_right _ _
def b0q(v:Int)(n d:Nat):(if v<0 then max (v+(n:Int)) 0 else min v (n:Int))=((sIx n d (some v):Nat):Int):=by
 show(if v<0 then max (v+(n:Int)) 0 else min v (n:Int))=(((if v<0 then(v+(n:Int)).toNat else min v.toNat n):Nat):Int);by_cases a:v<0
 .simp only[az a];omega
 .simp only[au a];omega
def a8W(lo hi:qD Int)(n:Nat):Builtin.Slice.sliceAdjust lo hi 1 (n:Int)=(((sIx n 0 lo:Nat):Int),((sIx n n hi:Nat):Int)):=by
 have h1:¬((1:Int)<0):=by omega
 unfold Builtin.Slice.sliceAdjust;simp only[h1,if_false];refine Prod.ext ?_ ?_
 .cases lo with
  |none=>rfl
  |some v=>exact b0q v n 0
 .cases hi with
  |none=>rfl
  |some v=>exact b0q v n n
def a8p(i j:Nat):Builtin.Slice.slicePlaces (i:Int) (j:Int) 1=j-i:=by
 unfold Builtin.Slice.slicePlaces;have h1:(1:Int) > 0:=by omega
 simp only[h1,e_,Int.ediv_one];split<;>omega
def a3j{v:qB}{o:qD Int}{Q:qD Int->qC->Prop}(p:IsPart v o)(h:Q o s):wpAny (model prog w) A (Builtin.Slice.slicePartIndex v) Q E s:=by
 cases p with
 |none=>exact slicePart_none h
 |int i t=>exact slicePart_int h
def V1{sl:qE}{c d:qB}{lo hi:qD Int}{n:Nat}{Q:Int×Int×Nat->qC->Prop}(hs:s.heap.IsSliceOf sl c d .none)(pl:IsPart c lo)(f:IsPart d hi)
  (h:Q (((sIx n 0 lo:Nat):Int),1,sIx n n hi-sIx n 0 lo) s):wpAny (model prog w) A (Builtin.Slice.sliceApplied (.ref sl) (pure (n:Int))) Q E s:=by
 obtain⟨os,b,e,a⟩:=id hs;unfold Builtin.Slice.sliceApplied Builtin.Slice.sliceFields;refine aa (aa (bQ b a (x:=c) rfl (aa (bQ b a (x:=d) rfl (aa (bQ b a (x:=.none) rfl (ae ?_)))))));refine aa (slicePart_none ?_);show wpAny _ _ (if ((1:Int)==0)=true then _ else _) _ _ s;rw[au (by decide)];refine aa (a3j pl (aa (a3j f (aa (ae ?_)))));show wpAny _ _ (match Builtin.Slice.sliceAdjust lo hi 1 (n:Int)with | (lo,hi)=>pure (lo,(1:Int),Builtin.Slice.slicePlaces lo hi 1)) _ _ s;rw[a8W lo hi n];show wpAny _ _ (pure (((sIx n 0 lo:Nat):Int),(1:Int),Builtin.Slice.slicePlaces ((sIx n 0 lo:Nat):Int) ((sIx n n hi:Nat):Int) 1)) _ _ s;rw[a8p];exact ae h
def b3m(xs:Array qB)(i k:Nat):((List.range k).filterMap λ(m:Nat)=>xs[((i:Int)+(m:Int)*1).toNat]?).toArray=((xs.toList.drop i).take k).toArray:=by
 have e:(λ(m:Nat)=>xs[((i:Int)+(m:Int)*1).toNat]?)=λm=>xs[i+m]?:=by
  funext m;have:((i:Int)+(m:Int)*1).toNat=i+m:=by omega
  rw[this]
 rw[e];have:=pick_run xs i k;rw[List.filterMap_map]at this;have a:((λx=>xs[x]?) ∘ λx=>i+x)=λm=>xs[i+m]?:=rfl;rw[a]at this;rw[this]
def getItem_tuple_cut{t sl:qE}{items:Array qB}{g i:qB}{lo hi:qD Int}{Q:qH}(b:IsTup s.heap t items)(hs:s.heap.IsSliceOf sl g i .none)(pl:IsPart g lo)(l:IsPart i hi)
  (hw:¬(sIx items.size 0 lo=0/\sIx items.size items.size hi=items.size))
  (h:Q (.ref s.heap.objs.size) {s with heap:=s.heap.push {cls:=.type "tuple",data:=.seq ((items.toList.drop (sIx items.size 0 lo)).take (sIx items.size items.size hi-sIx items.size 0 lo)).toArray}})
  (k:items.size<=sizeLine):wpAny (model prog w) A (getItem (.ref t) (.ref sl)) Q E s:=by
 have a:sizeOk (.seq ((items.toList.drop (sIx items.size 0 lo)).take (sIx items.size items.size hi-sIx items.size 0 lo)).toArray):=by
  show((items.toList.drop (sIx items.size 0 lo)).take (sIx items.size items.size hi-sIx items.size 0 lo)).toArray.size<=sizeLine;rw[aC,aU,bI,ay];omega
 have n:sIx items.size items.size hi<=items.size:=b7U _ _ (ao _) hi;obtain⟨os,f,d,j⟩:=id hs;have c:s.TypeIs (.ref sl) "slice":=⟨os,f,d⟩;unfold getItem
 try with_reducible refine bY ?_
 first|refine aa (ae ?_)|skip
 refine aa (wpAny_sequenceKey b.typeIs (by decide) ?_);refine aa (bA (name:=Str.ofString "__getitem__") b.typeIs bM
  (bF bM b.typeIs entry_tuple_getitem ?_ (args_tuple_getitem _ _)))
 show wpAny _ _ (Builtin.Tuple.tupleItemsOf (.ref t)>>=_) _ _ s;refine aa (tupleItemsOf_ b ?_);refine aa (dz c ?_);rw[az (by decide)];refine aa (V1 hs pl l ?_);have e:¬((((sIx items.size 0 lo:Nat):Int)==0 && (1:Int)==1 && (sIx items.size items.size hi-sIx items.size 0 lo)==items.size)=true):=by
  intro q;rw[aO,aO]at q;have o:((sIx items.size 0 lo:Nat):Int)=0:=eq_of_beq q.1.1;have p:sIx items.size items.size hi-sIx items.size 0 lo=items.size:=eq_of_beq q.2;exact hw ⟨by omega,by omega⟩
 show wpAny _ _ (if (((sIx items.size 0 lo:Nat):Int)==0 && (1:Int)==1 && (sIx items.size items.size hi-sIx items.size 0 lo)==items.size)=true then _ else _) _ _ s;rw[au e,b3m]
 first
  |exact aa (m:=Builtin.Tuple.tupleExact _) (bz (ae ⟨_,rfl,ae h⟩) a)
  |exact aa (m:=Builtin.Tuple.tupleExact _) (bz (aa (ae (ae ⟨_,rfl,ae h⟩))) a)
  |exact aa (aa (m:=Builtin.Tuple.tupleExact _) (bz (ae (ae ⟨_,rfl,ae h⟩)) a))
  |exact aa (aa (m:=Builtin.Tuple.tupleExact _) (bz (ae ⟨_,rfl,ae h⟩) a))
end
end HT
namespace L2
open PySem PySem.Spec PyProof.Rows
variable {H:Hp}{X:Cx}{n:Nat}{qK:qA (qE×Obj)}{s:qC}{us:qA qB}{x:V}{xs:qA V}{α:Type}{σ:St}
abbrev TO:=St->Hp->(qD Int->Hp->Prop)->Prop
def PO(X:Cx)(e:qD Expr)(t:TO):Prop :=
 ∀(qK:qA (qE×Obj)) (s:qC) (σ:St) (H:Hp) (Q:qD Int->Hp->Prop),Inv X qK σ H s->t σ H Q ->
  wpAny (model X.prog X.w) X.A (evalPart e X.env) (λu s'=>∃o H',Inv X qK σ H' s'/\IsPart u o/\Q o H') X.xe s
def a1h:TO:=λ_ H Q=>Q none H
def a9j(t:TE):TO:=λσ H Q=>t σ H λx H1=>∃i,x=.int i/\Q (some i) H1
def a8E{ns:qI}:∀{us:qA qB},Vals (ns.map V.int) us->IntsAre us ns:=by
 induction ns with
 |nil=>intro us r;rw[List.map_nil]at r;cases r;exact .nil
 |cons n ns a =>
  intro us r;rw[aW]at r;cases r with
  |cons r1 r2 =>
   obtain⟨t,e⟩:=r1;subst e;exact .cons n t (a r2)
section
variable {e:Expr}{te:TE}{lo hi:qD Expr}{tl th:TO}{pos p2:Pos}
def b5F:PO X none a1h:=by
 intro qK s σ H Q I h;rw[evalPart_none];exact ae ⟨none,H,I,.none,h⟩
def b5E(h:PE X e te):PO X (some e) (a9j te):=by
 intro qK s σ H Q I hw;rw[evalPart_some];refine thn (h qK s σ H _ I hw) λu s1 ⟨x,H1,a,c,b⟩=>?_;obtain⟨i,rfl,q⟩:=b;obtain⟨t,rfl⟩:=c;exact⟨some i,H1,a,.int i t,q⟩
def SlR(X:Cx)(r:V->qD Int->qD Int->Hp->VK->Prop):Prop :=
 ∀(qK:qA (qE×Obj)) (s:qC) (σ:St) (H:Hp) (x:V) (v vl vu:qB) (lo hi:qD Int) (sl:qE) (Q:VK),Inv X qK σ H s->RelV x v->s.heap.IsSliceOf sl vl vu .none->IsPart vl lo->IsPart vu hi->r x lo hi H Q ->
  ∃T id,typeLookup (.type T) "__getitem__"=pure (some (.builtin id))/\s.TypeIs v T/\wpAny (model X.prog X.w) X.A (getItem v (.ref sl)) (EP X qK σ Q) X.xe s
def tSl(r:V->qD Int->qD Int->Hp->VK->Prop)(te:TE)(tl th:TO):TE:=λσ H Q=>te σ H λx H1=>tl σ H1 λl H2=>th σ H2 λu H3=>r x l u H3 Q
def a3x{r:V->qD Int->qD Int->Hp->VK->Prop}(p:SlR X r)(m:PE X e te)(o:PO X lo tl)(w:PO X hi th):PE X (.Subscript e (.Slice lo hi none p2) pos) (tSl r te tl th):=by
 intro qK s σ H Q I h;refine Subscript_ (thn (m qK s σ H _ I h) λv s1 ⟨x,H1,f,D,A⟩=>?_);refine wpAny_Slice (thn (o qK s1 σ H1 _ f A) λc s2 ⟨l,H2,g,y,B⟩=>thn (w qK s2 σ H2 _ g B) λvu a ⟨u,d,i,z,C⟩=>?_);rw[evalPart_none];refine ae ?_;have j:Inv X qK σ d {a with heap:=a.heap.push {cls:=.type "slice",data:=.fields #[c,vu,.none]}}:=i.kept (t':=a.toks) λb E q=>ag _ q;obtain⟨T,id,k,t,n⟩:=p qK {a with heap:=a.heap.push {cls:=.type "slice",data:=.fields #[c,vu,.none]}} σ d x v c vu l u a.heap.objs.size Q j D (Heap.IsSliceOf.new ..) y z C;show wpAny (model X.prog X.w) X.A (subscriptTail e (.Slice lo hi none p2) v (.ref a.heap.objs.size)) (EP X qK σ Q) X.xe {a with heap:=a.heap.push {cls:=.type "slice",data:=.fields #[c,vu,.none]}};exact tail_any (ops:=[.ref a.heap.objs.size,v]) t k n (by with_unfolding_all rfl)
def N1(xs:qA V)(lo hi:qD Int):qA V:=(xs.drop (HT.sIx xs.length 0 lo)).take (HT.sIx xs.length xs.length hi-HT.sIx xs.length 0 lo)
def a0k(xs:qA V)(lo hi:qD Int):(N1 xs lo hi).length<=xs.length:=by
 unfold N1;rw[aU,bI];omega
def b3a(K:qF):V->qD Int->qD Int->Hp->VK->Prop:=λx lo hi H Q=>∃a xs,x=.ref a/\SqT K H a xs /\
 ¬(HT.sIx xs.length 0 lo=0/\HT.sIx xs.length xs.length hi=xs.length)/\∀p,H p=none->Q (.ref p) (upd H p (.tup (N1 xs lo hi)))
def b2G:SlR X (b3a X.K):=by
 intro qK s σ H x v l m lo hi sl Q I j hs g i h;obtain⟨a,xs,rfl,f,hw,q⟩:=h;cases j;obtain⟨its,r,d,e⟩:=I.tuple f;have c:its.toArray.size=xs.length:=by rw[aC];exact r.length.symm
 refine⟨"tuple",_,bM.lookup,d.typeIs,?_⟩;refine HT.getItem_tuple_cut d hs g i (by rw[c];exact hw) ?_ (by rw[c];exact e);rw[c];refine⟨.ref s.heap.objs.size,_,I.laid (t':=s.toks) (o:=.tup (N1 xs lo hi)) (λb k q=>ag _ q) (ao _) ?_,rfl,q _ (I.hok.fresh (ao _))⟩;exact⟨ba (a0k xs lo hi) e,_,(r.drop (HT.sIx xs.length 0 lo)).take (HT.sIx xs.length xs.length hi-HT.sIx xs.length 0 lo),fi _ _⟩
def c0l(K:qF):R2:=λx y H Q=>∃a b xs ys,x=.ref a/\y=.ref b/\SqT K H a xs/\SqT K H b ys/\xs≠[]/\xs.length+ys.length<=sizeLine /\
 (ys=[]->Q (.ref a) H)/\(ys≠[]->∀p,H p=none->Q (.ref p) (upd H p (.tup (xs++ys))))
def Vals.nil_iff(r:Vals xs us):us=[]↔xs=[]:=by
 cases r with
 |nil=>simp
 |cons _ _=>simp
def b6a:OpR X (binaryOp .Add) (c0l X.K):=by
 intro qK s σ H x y v u Q I m n h;obtain⟨a,b,xs,ys,rfl,rfl,g,i,j,e,k,l⟩:=h;cases m;cases n;obtain⟨its,d,p1,_⟩:=I.tuple g;obtain⟨f,c,p2,_⟩:=I.tuple i;refine HT.cat_tup p1 p2 (λz=>j (d.nil_iff.mp z)) (λz=>⟨.ref a,H,I,rfl,k (c.nil_iff.mp z)⟩) (λz=>?_) (by rw[<-d.length,<-c.length];exact e);refine⟨.ref s.heap.objs.size,_,I.laid (t':=s.toks) (o:=.tup (xs++ys)) (λb p q=>ag _ q) (ao _) ?_,rfl,l (λw=>z (c.nil_iff.mpr w)) _ (I.hok.fresh (ao _))⟩;exact⟨by rw[ax];exact e,_,d.append c,fi _ _⟩
end
def ixN(n:Nat)(i:Int):qJ:=if 0<=i then(if i<n then some i.toNat else none)else if -(n:Int)<=i then some (i+n).toNat else none
def atI{α:Type}(xs:qA α)(i:Int):qD α:=(ixN xs.length i).bind λj=>xs[j]?
def a9Y{i:Int}{j:Nat}(h:ixN n i=some j):seqIndex? i n=some j/\j<n /\ -(n:Int)<=i/\i<n:=by
 unfold ixN at h;by_cases a:0<=i
 .rw[az a]at h;by_cases h1:i<n
  .rw[az h1]at h;have e:i.toNat=j:=bK h;exact⟨by rw[seqIndex_of a h1,e],by omega,by omega,h1⟩
  .rw[au h1]at h;cases h
 .rw[au a]at h;by_cases h1 : -(n:Int)<=i
  .rw[az h1]at h;have e:(i+n).toNat=j:=bK h;exact⟨by rw[seqIndex_neg (by omega) h1,e],by omega,h1,by omega⟩
  .rw[au h1]at h;cases h
def b0u{xs:qA α}{i:Int}{v:α}(h:atI xs i=some v):∃j,seqIndex? i xs.length=some j/\xs[j]?=some v/\j<xs.length /\ -(xs.length:Int)<=i/\i<xs.length:=by
 unfold atI at h;cases e:ixN xs.length i with
 |none=>rw[e]at h;cases h
 |some j =>
  rw[e]at h;obtain⟨h1,h2,a,b⟩:=a9Y e;exact⟨j,h1,h,h2,a,b⟩
def a0G{xs:qA α}{j:Nat}{v:α}(h:xs[j]?=some v):atI xs (j:Int)=some v:=by
 have a:j<xs.length:=(aG.mp h).1;have e:ixN xs.length (j:Int)=some j:=by
  unfold ixN;rw[az (by omega),az (by omega)];simp
 unfold atI;rw[e];exact h
def a6e(b:Expr):Prop:=∀o i,subscripted b false o i=operate [o,i] (getItem o i)
def IxR(X:Cx)(r:R2):Prop :=
 ∀(value slice:Expr) (qK:qA (qE×Obj)) (s:qC) (σ:St) (H:Hp) (x y:V) (v u:qB) (Q:VK),Inv X qK σ H s->RelV x v->RelV y u->r x y H Q ->
  subscripted slice false v u=operate [v,u] (getItem v u)->wpAny (model X.prog X.w) X.A (subscriptTail value slice v u) (EP X qK σ Q) X.xe s
def MtR(X:Cx)(id:String)(r:V->qA V->Hp->VK->Prop):Prop :=
 ∀(qK:qA (qE×Obj)) (s:qC) (σ:St) (H:Hp) (x:V) (xs:qA V) (v:qB) (us:qA qB) (Q:VK),Inv X qK σ H s->RelV x v->Vals xs us->r x xs H Q ->
  wpAny (model X.prog X.w) X.A (call (.builtin id) (v::us)) (EP X qK σ Q) X.xe s
section
variable {a b:Expr}{ta tb:TE}{pos:Pos}
def b7u{r:R2}(f:IxR X r)(d:PE X a ta)(e:PE X b tb)(hs:a6e b):PE X (.Subscript a b pos) (tOp r ta tb):=by
 intro qK s σ H Q I h;exact Subscript_ (b9C d e I h λv u s2 x y H2 c g i q=>f a b qK s2 σ H2 x y v u Q c g i q (hs _ _))
def b5w(K:qF):R2:=λx y H Q=>∃p xs i v,x=.ref p/\y=.int i/\SqL K H p xs/\atI xs i=some v/\Q v H
def b7X(K:qF):R2:=λx y H Q=>∃p xs i v,x=.ref p/\y=.int i/\SqT K H p xs/\atI xs i=some v/\Q v H
def b6y:IxR X (b5w X.K):=by
 intro value c qK s σ H x y v u Q I n o h hs;obtain⟨p,xs,i,z,rfl,rfl,m,k,q⟩:=h;cases n;obtain⟨t,rfl⟩:=o;obtain⟨its,r,a,C⟩:=I.list m;obtain⟨j,h1,h2,A,f,g⟩:=b0u k;obtain⟨w,d,b⟩:=r.get h2;have l:=r.length;have B:=a3F;have fin:EP X qK σ Q w s:=⟨z,H,I,b,q⟩;by_cases e:0<=i
 .have hj:i.toNat=j:=by
   rw[seqIndex_of e g]at h1;exact bK h1
  exact item_listR a.isList e (by omega) (by rw[hj];simpa using d) fin hs
 .have hj:(i+(its.toArray.size:Int)).toNat=j:=by
   rw[seqIndex_neg (by omega) f]at h1;rw[aC,<-l];exact bK h1
  exact subscriptTail_builtinR (x:=w) a.isList.typeIs slot_list_getitem.lookup
   (wpAny_getItem_list_neg (Q:=λr s'=>r=w/\EP X qK σ Q r s') a.isList (by omega) (by rw[aC]<;>omega) (by omega) (by rw[hj];simpa using d) ⟨rfl,fin⟩) hs
def b9o:IxR X (b7X X.K):=by
 intro value b qK s σ H x y v u Q I k l h hs;obtain⟨p,xs,i,z,rfl,rfl,g,e,q⟩:=h;cases k;obtain⟨t,rfl⟩:=l;obtain⟨its,r,c,B⟩:=I.tuple g;obtain⟨j,h1,h2,m,n,o⟩:=b0u e;obtain⟨w,d,a⟩:=r.get h2;have f:=r.length;have A:=a3F;have fin:EP X qK σ Q w s:=⟨z,H,I,a,q⟩;exact subscriptTail_builtinR (x:=w) c.typeIs slot_tuple_getitem.lookup
  (getItem_tuple (j:=j) (Q:=λr s'=>r=w/\EP X qK σ Q r s') c (by omega) (by omega) (by rw[aC,<-f];exact h1) (by simpa using d) ⟨rfl,fin⟩) hs
def a8v(its:qA qB)(n j:Nat)(u:qB):Obj.mapSeq (·.setIfInBounds j u) {cls:=.type "list",data:=.seq its.toArray n}={cls:=.type "list",data:=.seq (its.set j u).toArray n}:=by
 simp[Obj.mapSeq]
def Inv.lst{p:qE}(I:Inv X qK σ H s)(h:H p=some (.lst xs)) :
  ∃(its:qA qB) (n:Nat),Vals xs its/\s.heap.get? p=some {cls:=.type "list",data:=.seq its.toArray n}/\xs.length<=sizeLine:=by
 obtain⟨z,its,n,r,e⟩:=I.hok p _ h;exact⟨its,n,r,e,z⟩
def Inv.lstUpd{p:qE}{ys:qA V}{its its':qA qB}{a:Nat}{f:Obj->Obj}(I:Inv X qK σ H s)(h:H p=some (.lst xs))
  (g:s.heap.get? p=some {cls:=.type "list",data:=.seq its.toArray n}) (c:f {cls:=.type "list",data:=.seq its.toArray n}={cls:=.type "list",data:=.seq its'.toArray a}) (r:Vals ys its') (i:ys.length<=sizeLine) (t:Nat) :
  Inv X qK σ (upd H p (.lst ys)) {s with heap:=s.heap.update p f,toks:=t}:=by
 have e:(s.heap.update p f).get? p=some {cls:=.type "list",data:=.seq its'.toArray a}:=by
  rw[cH f g (by rw[c]<;>rfl),c]
 refine I.write (x:=p) (e:=p) (by rw[h];trivial) (.inl rfl) (λb u d q=>(fG _ _ (du d)).trans q) ⟨_,e⟩ ?_;exact⟨i,its',a,r,e⟩
def b7p:V->V->V->Hp->(Hp->Prop)->Prop:=λo i v H Q=>∃p xs k j,o=.ref p/\i=.int k/\H p=some (.lst xs)/\ixN xs.length k=some j/\Q (upd H p (.lst (xs.set j v)))
def b2K:c0O X b7p:=by
 intro qK s σ H o i v B A u Q I x w y h;obtain⟨p,xs,k,j,rfl,rfl,g,l,q⟩:=h;cases x;obtain⟨t,rfl⟩:=w;obtain⟨its,n,r,b,m⟩:=I.lst g;obtain⟨h1,h2,e,f⟩:=a9Y l;have a:=r.length;have z:=a3F;have c:Inv X qK σ (upd H p (.lst (xs.set j v))) {s with heap:=s.heap.update p (Obj.mapSeq (·.setIfInBounds j u))} :=
  I.lstUpd g b (a8v its n j u) (r.set y j) (by rw[fc];exact m) s.toks
 by_cases d:0<=k
 .have hk:k.toNat=j:=by
   rw[seqIndex_of d f]at h1;exact bK h1
  exact PySem.W.ki_setAt b d (by omega) (by rw[aC,<-a];exact f) (by rw[hk];exact⟨_,c,q⟩)
 .have hk:(k+(its.toArray.size:Int)).toNat=j:=by
   rw[seqIndex_neg (by omega) e]at h1;rw[aC,<-a];exact bK h1
  exact PySem.W.ki_setBack b (by omega) (by rw[aC,<-a];exact e) (by omega) (by rw[hk];exact⟨_,c,q⟩)
def a5t(lo hi:qD Int)(n:Nat):(sliceBounds lo hi none n).1=((HT.sIx n 0 lo:Nat):Int)/\(sliceBounds lo hi none n).2.1=((HT.sIx n n hi:Nat):Int)/\(sliceBounds lo hi none n).2.2=1:=by
 refine⟨?_,?_,rfl⟩
 .cases lo with
  |none=>simp[sliceBounds,HT.sIx]
  |some i =>
   simp only[sliceBounds,HT.sIx,Option.getD_none,show(1:Int) > 0 by decide,e_];by_cases h:i<0
   .simp only[h,e_]<;>omega
   .simp only[h,if_false]<;>omega
 .cases hi with
  |none=>simp[sliceBounds,HT.sIx]
  |some i =>
   simp only[sliceBounds,HT.sIx,Option.getD_none,show(1:Int) > 0 by decide,e_];by_cases h:i<0
   .simp only[h,e_]<;>omega
   .simp only[h,if_false]<;>omega
def a4k(its:qA qB)(lo hi:qD Int):slicePick its.toArray lo hi none=((its.drop (HT.sIx its.length 0 lo)).take (HT.sIx its.length its.length hi-HT.sIx its.length 0 lo)).toArray:=by
 obtain⟨h1,h2,a⟩:=a5t lo hi its.toArray.size;unfold slicePick;rw[h1,h2,a];simp only[sliceRange_one,pick_run,aC]<;>rfl
def b7W(K:qF):V->qD Int->qD Int->Hp->VK->Prop:=λx lo hi H Q=>∃a xs,x=.ref a/\SqL K H a xs/\∀p,H p=none->Q (.ref p) (upd H p (.lst (N1 xs lo hi)))
def b5g:SlR X (b7W X.K):=by
 intro qK s σ H x v l m lo hi sl Q I j hs g i h;obtain⟨a,xs,rfl,e,q⟩:=h;cases j;obtain⟨its,r,d,f⟩:=I.list e;have c:=r.length;refine⟨"list",_,slot_list_getitem.lookup,d.isList.typeIs,?_⟩;refine wpAny_getItem_list_slice d.isList hs g i .none (by simp) ?_ (by rw[aC]<;>omega);rw[a4k,<-c];refine⟨.ref s.heap.objs.size,_,I.laid (t':=s.toks) (o:=.lst (N1 xs lo hi)) (λb k q=>ag _ q) (ao _) ?_,rfl,q _ (I.hok.fresh (ao _))⟩;exact⟨ba (a0k xs lo hi) f,_,0,(r.drop (HT.sIx xs.length 0 lo)).take (HT.sIx xs.length xs.length hi-HT.sIx xs.length 0 lo),aF _ rfl⟩
def a7u:V->Bool
 |.non=>true
 |.bl _=>true
 |.int _=>true
 |.str _=>true
 |_=>false
def eqV:V->V->Bool
 |.non,.non=>true
 |.bl a,.bl b=>a==b
 |.bl a,.int b=>(if a then 1 else 0)==b
 |.int a,.bl b=>a==(if b then 1 else 0)
 |.int a,.int b=>a==b
 |.str a,.str b=>a==b
 |_,_=>false
def b9x{A:Around}{y:V}{u v:qB}(d:RelV y u)(c:RelV x v)(fy:a7u y=true)(fx:a7u x=true):SeqAt.EqAt A s u v (eqV y x):=by
 cases y with
 |non =>
  cases d;cases x with
  |non=>cases c;exact SeqAt.EqAt.same _
  |bl b=>cases c;exact SeqAt.EqAt.none_bool b
  |int b=>obtain⟨t,rfl⟩:=c;exact SeqAt.EqAt.none_int b t
  |str b=>obtain⟨t,rfl⟩:=c;exact SeqAt.EqAt.none_str b t
  |_=>exact absurd (show false=true from fx) aY
 |bl a =>
  cases d;cases x with
  |non=>cases c;exact SeqAt.EqAt.bool_none a
  |bl b=>cases c;exact SeqAt.EqAt.bool_bool a b
  |int b=>obtain⟨t,rfl⟩:=c;exact SeqAt.EqAt.bool_int a b t
  |str b=>obtain⟨t,rfl⟩:=c;exact SeqAt.EqAt.bool_str a b t
  |_=>exact absurd (show false=true from fx) aY
 |int a =>
  obtain⟨t',rfl⟩:=d;cases x with
  |non=>cases c;exact SeqAt.EqAt.int_none a t'
  |bl b=>cases c;exact SeqAt.EqAt.int_bool a t' b
  |int b=>obtain⟨t,rfl⟩:=c;exact SeqAt.EqAt.int_int a t' b t
  |str b=>obtain⟨t,rfl⟩:=c;exact SeqAt.EqAt.int_str a t' b t
  |_=>exact absurd (show false=true from fx) aY
 |str a =>
  obtain⟨t',rfl⟩:=d;cases x with
  |non=>cases c;exact SeqAt.EqAt.str_none a t'
  |bl b=>cases c;exact SeqAt.EqAt.str_bool a t' b
  |int b=>obtain⟨t,rfl⟩:=c;exact SeqAt.EqAt.str_int a t' b t
  |str b=>obtain⟨t,rfl⟩:=c;exact SeqAt.EqAt.str_str a t' b t
  |_=>exact absurd (show false=true from fx) aY
 |_=>exact absurd (show false=true from fy) aY
def a6a:E2 X (.builtin "len") (λxs H Q=>∃p ys,xs=[.ref p]/\(SqL X.K H p ys∨SqT X.K H p ys)/\Q (.int ys.length) H):=by
 intro qK s σ H xs e Q I r h;obtain⟨p,ys,rfl,b,q⟩:=h;obtain⟨u,rfl,c⟩:=a6o r;cases c;have d:=a3F;rcases b with b|b
 .obtain⟨its,r',pl,hz⟩:=I.list b;have a:=r'.length;exact Calls.call_len_list pl.isList (by simp only[aC]<;>omega) ⟨.int ys.length,H,I.tok _,⟨s.toks+1,by rw[aC,a]⟩,q⟩
 .obtain⟨its,r',pl,hz⟩:=I.tuple b;have a:=r'.length;exact len_tuple pl (by simp only[aC]<;>omega) ⟨.int ys.length,H,I.tok _,⟨s.toks+1,by rw[aC,a]⟩,q⟩
def a5Z:E2 X (.type "list") (λxs H Q=>∃p ys,xs=[.ref p]/\(SqL X.K H p ys∨SqT X.K H p ys)/\∀l,H l=none->Q (.ref l) (upd H l (.lst ys))):=by
 intro qK s σ H xs m Q I r h;obtain⟨p,ys,rfl,d,q⟩:=h;obtain⟨u,rfl,k⟩:=a6o r;cases k;have fin:∀(its:qA qB),Vals ys its->ys.length<=sizeLine->∀(h':Heap) (c':Nat),(∀b o',s.heap.get? b=some o'->h'.get? b=some o') ->
   h'.get? s.heap.objs.size=some {cls:=.type "list",dict:=none,data:=.seq its.toArray c',slots:=#[]}->EP X qK σ Q (.ref s.heap.objs.size) {s with heap:=h'}:=λits a f h' c' g e =>
  ⟨.ref s.heap.objs.size,_,I.laid (t':=s.toks) g (ao _) (show ObjOk X.prog X.w _ h' _ (.lst ys)from⟨f,its,c',a,e⟩),rfl,q _ (I.hok.fresh (ao _))⟩
 rcases d with d|d
 .obtain⟨its,a,pl,f⟩:=I.list d;have c:=a.length;obtain⟨o,j,i,n,hd⟩:=pl.isList;exact call_list_seq p (.inl rfl) j i hd (λh' c' g e=>fin its a f h' c' g e) (by simp only[aC]<;>omega)
 .obtain⟨its,a,pl,f⟩:=I.tuple d;have c:=a.length;obtain⟨o,j,i,n,hd⟩:=pl;exact call_list_seq p (.inr rfl) j i hd (λh' c' g e=>fin its a f h' c' g e) (by simp only[aC]<;>omega)
def a4r:E2 X (.type "tuple") (λxs H Q=>∃p ys,xs=[.ref p]/\((SqL X.K H p ys/\∀l,H l=none->Q (.ref l) (upd H l (.tup ys)))∨(SqT X.K H p ys/\Q (.ref p) H))):=by
 intro qK s σ H xs j Q I r h;obtain⟨p,ys,rfl,h⟩:=h;obtain⟨u,rfl,i⟩:=a6o r;cases i;rcases h with⟨a,q⟩|⟨a,q⟩
 .obtain⟨its,r',pl,hz⟩:=I.list a;have d:=r'.length;refine call_tuple_list pl.isList (λh' g=>?_) (by simp only[aC]<;>omega);have c:Inv X qK σ H {s with heap:=h'}:=I.kept (t':=s.toks) g;have f:Inv X qK σ (upd H h'.objs.size (.tup ys)) {s with heap:=h'.push {cls:=.type "tuple",data:=.seq its.toArray}} :=
   c.laid (t':=s.toks) (λb o e=>ag _ e) (ao _) (show ObjOk X.prog X.w _ _ _ (.tup ys)from⟨hz,its,r',fi _ _⟩)
  exact⟨.ref h'.objs.size,_,f,rfl,q _ (c.hok.fresh (ao _))⟩
 .obtain⟨its,r',pl,hz⟩:=I.tuple a;exact call_tuple_same pl ⟨.ref p,H,I,rfl,q⟩
def tyV(K:qF)(T:String)(x:V)(H:Hp):Prop:=match x with
 |.str _=>T="str"
 |.int _=>T="int"
 |.ref p=>(T="list" /\ ∃xs,SqL K H p xs)∨(T="tuple" /\ ∃o,K.lookup p=some o/\o.cls=.type "tuple"/\o.dict=none) ∨
   (T="dict"/\((∃qL,H p=some (.dK qL))∨∃qL,H p=some (.dT qL)))∨(T="set" /\ ∃S n,H p=some (.set S n))
 |_=>False
def b7M{T:String}{v:qB}(I:Inv X qK σ H s)(r:RelV x v)(ty:tyV X.K T x H) :
  s.TypeIs v T/\∀a,v=.ref a->∃f,s.heap.get? a=some f/\f.dict=none:=by
 cases x with
 |str z =>
  obtain⟨t,rfl⟩:=r;cases(show T="str" from ty);exact⟨typeIs_str s z t,λ_ e=>nomatch e⟩
 |int i =>
  obtain⟨t,rfl⟩:=r;cases(show T="int" from ty);exact⟨typeIs_int s i t,λ_ e=>nomatch e⟩
 |ref p =>
  cases r;rcases ty with⟨rfl,xs,h⟩|⟨rfl,o,b,g,hd⟩|⟨rfl,b⟩|⟨rfl,S,n,b⟩
  .obtain⟨its,_,pl,_⟩:=I.list h;refine⟨pl.isList.typeIs,λa e=>?_⟩;cases e;obtain⟨o,n,e,c,hd,_⟩:=pl;exact⟨o,e,hd⟩
  .refine⟨⟨o,I.kIn p o b,g⟩,λa e=>?_⟩;cases e;exact⟨o,I.kIn _ o b,hd⟩
  .have z:∃o,s.heap.get? p=some o/\o.ExactDict:=by
    rcases b with⟨qL,b⟩|⟨qL,b⟩
    .obtain⟨_,_,_,_,o,_,_,e,ex,_⟩:=I.hok p _ b;exact⟨o,e,ex⟩
    .obtain⟨_,_,_,_,o,_,_,e,ex,_⟩:=I.hok p _ b;exact⟨o,e,ex⟩
   obtain⟨o,e,ex⟩:=z;refine⟨⟨o,e,ex.1⟩,λa d=>?_⟩;cases d;exact⟨o,e,ex.2.1⟩
  .obtain⟨o,_,_,_,e,ex,_⟩:=I.hok p _ b;refine⟨⟨o,e,ex.1⟩,λa d=>?_⟩;cases d;exact⟨o,e,ex.2.1⟩
 |_=>exact False.elim ty
def tBM(K:qF)(T:String)(r:V->qA V->Hp->VK->Prop)(to:TE)(t:TA):TE:=λσ H Q=>to σ H λx H1=>tyV K T x H1/\t σ H1 λxs H2=>r x xs H2 Q
variable {o e:Expr}{es:qA Expr}{to:TE}{t:TA}{name:Str}{qP qM:Pos}{T id:String}{r:V->qA V->Hp->VK->Prop}
def c0s(q:PlainAttrs T)(f:Slot T name id)(g:typeOf (.builtin id)=pure (.type "method_descriptor"))(n:MtR X id r)(p:PE X o to)(m:PA X (e::es) t)
  (b:attributeBase o name X.env (eval o X.env)=eval o X.env:=by rfl)
  (d:((backTo qM (starEach (e::es) X.env)).all (λx=>!x.1) && (backToKw qM (keywordEach [] X.env)).all (λx=>x.1.isSome)
   && decide ((e::es).length+([]:qA Keyword).length+(if ([]:qA Keyword).isEmpty then 0 else 1)<30))=true:=by rfl)
  (c:(qP.endLine==qM.line)=true:=by rfl) (hs:starEach (e::es) X.env=(false,eval e X.env)::starEach es X.env:=by rfl) (a:(backTo qM (starEach es X.env)).any (·.1)=false:=by rfl) :
  PE X (.Call (.Attribute o name qP) (e::es) [] qM) (tBM X.K T r to t):=by
 intro qK s σ H Q I h;refine wpAny_Call_method_late b d c rfl (thn (p qK s σ H _ I h) λv s1 ⟨x,H1,i,k,ty,u⟩=>?_);obtain⟨h1,h2⟩:=b7M i k ty;refine⟨T,id,q,f,g,h1,h2,?_⟩;have j:=m qM qK s1 σ H1 _ i u;rw[hs]at j⊢;refine Calls.callWith_builtin (by show(false || (backTo qM (starEach es X.env)).any (·.1))=false;rw[a]<;>rfl) (fP ?_);exact thn j λz s2 ⟨vs,H2,l,y,w⟩=>n qK s2 σ H2 x vs v z Q l k y w
end
def MtM(X:Cx)(id:String)(r:V->qA V->Hp->VK->Prop):Prop :=
 ∀(qK:qA (qE×Obj)) (s:qC) (σ:St) (H:Hp) (x:V) (xs:qA V) (v:qB) (us:qA qB) (Q:VK),Inv X qK σ H s->RelV x v->Vals xs us->r x xs H Q ->
  wpAny (model X.prog X.w) X.A (call (.builtin id) (v::us)) (EP X qK σ Q) X.xe s
def Vals.one(h:Vals [x] us):∃u,us=[u]/\RelV x u:=by
 cases h with
 |cons r q=>cases q;exact⟨_,rfl,r⟩
def Vals.two{y:V}(h:Vals [x,y] us):∃u v,us=[u,v]/\RelV x u/\RelV y v:=by
 cases h with
 |cons r h=>obtain⟨v,rfl,q⟩:=Vals.one (x:=y) h;exact⟨_,_,rfl,r,q⟩
def Vals.eraseIdx:∀{xs:qA V}{us:qA qB}(i:Nat),Vals xs us->Vals (xs.eraseIdx i) (us.eraseIdx i)
 |_,_,_,.nil=>.nil
 |_,_,0,.cons _ t=>t
 |_,_,i+1,.cons r t=>.cons r (Vals.eraseIdx i t)
def Vals.reverse(h:Vals xs us):Vals xs.reverse us.reverse:=by
 induction h with
 |nil=>exact .nil
 |cons r t a=>rw[eF,eF];exact Vals.append a (.cons r .nil)
def Vals.rep{xs:qA V}{us:qA qB}(h:Vals xs us):∀k:Nat,Vals (List.replicate k xs).flatten (List.replicate k us).flatten
 |0=>.nil
 |k+1=>by
  rw[bU,bU,cY,cY];exact Vals.append h (Vals.rep h k)
def a4I{α:Type}:∀(l:qA α) (i:Nat),(l.eraseIdx i).length<=l.length
 |[],_=>ao _
 |_::_,0=>ez _
 |_::r,i+1=>Nat.succ_le_succ (a4I r i)
section
variable {l b:qE}{ys zs:qA V}
def Inv.lset{its its':qA qB}{f:Array qB->Array qB}{t':Nat}(I:Inv X qK σ H s)(a:H l=some (.lst xs))
  (e:s.heap.get? l=some {cls:=.type "list",data:=.seq its.toArray n}) (c:f its.toArray=its'.toArray) (g:Vals ys its') (h:ys.length<=sizeLine) :
  Inv X qK σ (upd H l (.lst ys)) {s with heap:=s.heap.update l (Obj.mapSeq f),toks:=t'}:=by
 have q:=PySem.IsL.update e f;rw[c]at q;refine I.write (x:=l) (e:=l) (by rw[a];exact trivial) (.inl rfl) (λb' u b d=>(fG s.heap (Obj.mapSeq f) (du b)).trans d) ⟨_,q⟩ ?_;exact⟨h,its',_,g,q⟩
def Inv.lnew{its:qA qB}{t':Nat}(I:Inv X qK σ H s)(a:Vals ys its)(hz:ys.length<=sizeLine) :
  Inv X qK σ (upd H s.heap.objs.size (.lst ys)) {s with heap:=s.heap.push {cls:=.type "list",data:=.seq its.toArray},toks:=t'} :=
 I.laid (λ_ _ q=>ag _ q) (ao _) ⟨hz,its,0,a,aF _ rfl⟩
def Inv.fresh(I:Inv X qK σ H s):H s.heap.objs.size=none:=I.hok.fresh (ao _)
def Inv.lstM(I:Inv X qK σ H s)(a:H l=some (.lst xs)):xs.length<=sizeLine/\∃(its:qA qB) (n:Nat),Vals xs its/\xs.length=its.length/\s.heap.get? l=some {cls:=.type "list",data:=.seq its.toArray n}:=by
 obtain⟨z,its,n,r,e⟩:=I.hok l _ a;exact⟨z,its,n,r,r.length,e⟩
def b3L(h:n<=sizeLine):Builtin.List.listTooLong n=false:=by
 unfold Builtin.List.listTooLong;exact bT (by omega)
end
def a9E:V->qA V->Hp->VK->Prop:=λx vs H Q=>∃l xs y,x=.ref l/\vs=[y]/\H l=some (.lst xs)/\xs.length<sizeLine/\Q .non (upd H l (.lst (xs++[y])))
def b1q:MtM X "list.append" a9E:=by
 intro qK s σ H x vs v i Q I d c h;obtain⟨l,xs,y,rfl,rfl,a,g,q⟩:=h;cases d;obtain⟨u,rfl,b⟩:=c.one;obtain⟨z,its,n,r,f,e⟩:=I.lstM a;refine dv F.slot_list_append ⟨_,e,rfl⟩ F.entry_list_append (F.args_list_append_2 _ _) (PySem.list_append l its.toArray n u (by rw[aC];omega)) ⟨e,?_⟩;refine⟨.non,_,I.lset (its':=its++[u]) a e (by simp) (r.append (.cons b .nil)) ?_,rfl,q⟩;rw[ax,fL];omega
def a9D:V->qA V->Hp->VK->Prop:=λx vs H Q=>∃l b xs zs,x=.ref l/\vs=[.ref b]/\H l=some (.lst xs)/\H b=some (.lst zs)/\xs.length+zs.length<=sizeLine/\Q .non (upd H l (.lst (xs++zs)))
def b1p:MtM X "list.extend" a9D:=by
 intro qK s σ H x vs v A Q I t p h;obtain⟨l,b,xs,zs,rfl,rfl,f,i,y,q⟩:=h;cases t;obtain⟨u,rfl,o⟩:=p.one;cases o;obtain⟨z,its,n,r,w,e⟩:=I.lstM f;obtain⟨B,a,k,m,j,g⟩:=I.lstM i;have d:its.toArray.size+a.toArray.size<=sizeLine:=by rw[aC,aC];omega
 have c:¬(!its.toArray.isEmpty && Builtin.List.listTooLong (its.toArray.size+a.toArray.size))=true:=by
  rw[b3L d,ft];exact aY
 refine dv F.slot_list_extend ⟨_,e,rfl⟩ F.entry_list_extend (F.args_list_extend_2 _ _)
  (AutoSeq1.list_extend_list_list_0 l its.toArray n b a.toArray k c (by rw[aC];omega) (by omega)) ⟨e,g,?_⟩
 refine⟨.non,_,I.lset (its':=its++a) f e (by simp) (r.append m) ?_,rfl,q⟩;rw[ax];omega
def b3b:V->qA V->Hp->VK->Prop:=λx vs H Q=>∃l xs i k y,x=.ref l/\vs=[.int i]/\H l=some (.lst xs) /\ -(2 ^ 63)<=i/\i<2 ^ 63/\seqIndex? i xs.length=some k/\xs[k]?=some y/\Q y (upd H l (.lst (xs.eraseIdx k)))
def b3M:MtM X "list.pop" b3b:=by
 intro qK s σ H x vs v o Q I m j h;obtain⟨l,xs,i,k,y,rfl,rfl,b,h1,h2,c,f,q⟩:=h;cases m;obtain⟨u,rfl,g⟩:=j.one;obtain⟨t,rfl⟩:=g;obtain⟨z,its,n,r,d,e⟩:=I.lstM b;obtain⟨w,hw,a⟩:=r.get f;refine dv F.slot_list_pop ⟨_,e,rfl⟩ F.entry_list_pop (F.args_list_pop_2 _ _)
  (MeetsSeq.list_pop_at l its.toArray n i t k w (fitsIndex_both h1 h2) (by rw[aC,<-d];exact c) (by rw[<-av];exact hw) (by rw[aC];omega)) ⟨e,?_⟩
 refine⟨y,_,I.lset (its':=its.eraseIdx k) b e ?_ (r.eraseIdx k) ?_,a,q⟩
 .show its.toArray.eraseIdxIfInBounds k=(its.eraseIdx k).toArray;rw[List.eraseIdxIfInBounds_toArray]
 .have:=a4I xs k;omega
def c0m:R2:=λx y H Q=>∃l b xs zs,x=.ref l/\y=.ref b/\H l=some (.lst xs)/\H b=some (.lst zs)/\xs.length+zs.length<=sizeLine/\∀p,H p=none->Q (.ref p) (upd H p (.lst (xs++zs)))
def b8J:OpR X (binaryOp .Add) c0m:=by
 intro qK s σ H x y v u Q I k m h;obtain⟨l,b,xs,zs,rfl,rfl,g,f,p,q⟩:=h;cases k;cases m;obtain⟨z,its,n,r,o,e⟩:=I.lstM g;obtain⟨w,a,t,j,i,c⟩:=I.lstM f;refine PySem.P.add_list e c ?_ (by rw[aC,aC];omega);have d:its.toArray++a.toArray=(its++a).toArray:=by simp
 rw[d];exact⟨.ref _,_,I.lnew (t':=s.toks) (r.append j) (by rw[ax];omega),rfl,q _ I.fresh⟩
def a9N(xs:qA α)(k:Nat):(List.replicate k xs).flatten.length=k*xs.length:=by
 induction k with
 |zero=>simp
 |succ k a=>rw[bU,cY,ax,a,Nat.succ_mul,Nat.add_comm]
section
variable {prog:qG}{w:World}{A:Around}{E:qH}
end
end L2
namespace Att
open PySem PySem.W PySem.Calls PyProof.Rows
def a2D{P:Params}{h:Heap}:∀(ns:qI) (vs:qA qB),WellAll P h vs (ns.map WData.int)->IntsAre vs ns:=by
 intro ns;induction ns with
 |nil =>
  intro vs w;rw[List.map_nil]at w;cases w;exact .nil
 |cons n ns c =>
  intro vs w;rw[aW]at w;cases w with
  |cons a b =>
   cases a;exact .cons _ _ (c _ b)
def b0N{l:OpenLaw}{n:Nat}(o:l.most=some n){P:Params}{h:Heap}{args:qA WData}{c:qA qB}
  (b:l.row.toRowW.claim.pre args=true) (j:WellAll P h c args) :
  ∃a vs ns,c=[Value.ref a]/\args=[WData.list (ns.map WData.int)]/\h.get? a=some {cls:=.type "list",data:=.seq vs.toArray}/\IntsAre vs ns/\ns.length<=n:=by
 have hsh:WShape.hasAll [] args [.list .int]=true:=(pre_splitW b).1;have k:l.pre.holds [] {args:=args}=true:=(pre_splitW b).2;obtain⟨d,r,rfl,h1,h2⟩:=hasAllW_cons hsh;obtain rfl:=hasAllW_nil h2;obtain⟨xs,rfl,m⟩:=hasW_list h1;obtain⟨ns,rfl⟩:=items_int m;have f:ns.length<=n:=by
  unfold OpenLaw.pre at k;have g:(WTm.not (.lt (.lit (.int (n:Int))) (.len (.arg 0)))).holds [] {args:=[.list (ns.map .int)]}=true:=by
   have g:=(holds_andW k).1;rw[o]at g;exact g
  have i:=condW_of g (w_not (w_lt w_lit (w_len_list (w_arg rfl))));rw[aj]at i;refine Nat.le_of_not_lt λq=>?_;have s:(n:Int)<((ns.length:Nat):Int):=by omega
  first
   |(rw[bb s]at i;exact absurd i (by decide))
   |(simp at i;omega)
 cases j with
 |cons w1 w2 =>
  cases w2;cases w1 with
  |list p e=>exact⟨_,_,ns,rfl,rfl,p,a2D ns _ e,f⟩
def b0Z(l:OpenLaw)(args:qA WData):l.row.toRowW.claim.post args (.bool true) args=true :=
 postW_of (r:=l.row.toRowW) (X:=(true==true))
  (show WShape.has [] (.bool true) .bool=true by first|rfl|decide|simp[WShape.has,WShape.arms,WShape.armsAll])
  (show(WTm.eq .res (.lit (.bool true))).value [] {args:=args,res:=some (.bool true),after:=args}=some (.bool (true==true))from w_eq_bool (w_res rfl) w_lit) rfl
def attach_call{l:OpenLaw}{n:Nat}{q:qG}{b:qA Str}{XP:(Str->qD qB)->Heap->Prop}{u:World->Heap->Prop}{d:DefRec}
  (H:l.most=some n) (m:d.params.defaults=[])
  (call:∀(w:World) (s₀ s₁:qC) (mg t:Str->qD qB) (g:qE) (o:Obj) (pm cd c:qB) (a:qE) (vs:qA qB) (ns:qI),
   Ground q b [] XP w s₀ mg t s₁.heap->u w s₁.heap ->
   s₁.heap.get? g=some o->o.data=.func (docDef d.name d.params d.body d.scope pm cd c)->s₁.heap.CodeRec cd d.name->mg d.name=some (.ref g) ->
   s₁.heap.get? a=some {cls:=.type "list",data:=.seq vs.toArray}->IntsAre vs ns->ns.length<=n->s₁.gens=#[] ->
   codeAny (model l.prog w) callerA (.call (.ref g) ⟨[.ref a],[]⟩) (λr s'=>r=.ok (.ret (.bool true))/\OldK s₁.heap s'.heap/\s'.os=s₁.os/\AllBare s'.gens) s₁) :
  WalkO q b XP u l.row.toRowW d [] (λf vs=>PySem.call f vs):=by
 intro w s₀ s₁ mg t G Y g o pm cd c A kV I hd k x p D v z L j y K s E;obtain rfl:A=.none:=Dflts.none x m;obtain rfl:kV=.none:=Dflts.noKw x;obtain⟨a,vs,ns,rfl,rfl,i,e,h⟩:=b0N H j s;refine enter_call (dy (call w s₀ s₁ mg t g o pm cd c a vs ns G Y I (fd_plain hd) k p i e h D) λr s' J=>?_);obtain⟨rfl,h2,B,C⟩:=J;exact⟨.inl ⟨.bool true,.bool true,[],rfl,λ_=>rfl,.bool true,b0Z l _,λ_=>⟨List.Pairwise.nil,λ_ F=>(nomatch F)⟩⟩,h2,B,C⟩
section
variable {prog:qG}{w:World}{A:Around}{E:qH}{s:qC}{K:Frag}
end
end Att
namespace L2
open PySem PySem.Spec PyProof.Rows
def a4w:∀{vs:qA qB}{ns:qI},IntsAre vs ns->Vals (ns.map V.int) vs
 |_,_,.nil=>.nil
 |_,_,.cons n t h=>.cons ⟨t,rfl⟩ (a4w h)
def b9O(H:Hp):Prop:=∀b,H b=none∨∃o xs,H b=some (.frz o (.lst xs))
def b3R{P:qG}{w:World}{K:qF}{mg O:Str->qD qB}{CX:CXT}{k:Nat}{I a:qE}{fd:FuncData}{x:Str}{sp:Sp}{s₁:qC}{vs:qA qB}{ns:qI}
  (R:K.In s₁.heap) (y:s₁.heap.Ns mainGlobals mg) (f:s₁.heap.Ns builtinsNs O) (L:∀x:Str,x≠"__name__"->O x=bootBuiltins x) (t:s₁.heap.NoLimit) (hg:s₁.gens=#[])
  (E:s₁.heap.get? a=some {cls:=.type "list",data:=.seq vs.toArray}) (hi:IntsAre vs ns) (W:ns.length<=sizeLine) (hr:Room k callerA)
  (F:∀base:Heap,K.In base->base.Ns mainGlobals mg->FnOk P w K mg base CX k I fd [x] sp) (j:∀(s:qC) (u:qB),BindsTo s fd ⟨[u],[]⟩ [(x,u)])
  (N:∀H:Hp,b9O H->SqL K H a (ns.map V.int)->sp [.ref a] H (λv _=>v=.bl true) λ_ _ _=>False)
  (J:∀H e s',CX [] H s₁ (λ_ _ _=>False) e s'->False) :
  codeAny (model P w) callerA (.call (.ref I) ⟨[.ref a],[]⟩) (λr s'=>r=.ok (.ret (.bool true))/\OldK s₁.heap s'.heap/\s'.os=s₁.os/\AllBare s'.gens) s₁:=by
 have X:=a4w hi;have C:=hi.length;have i:∀H:Hp,b9O H->SqL K H a (ns.map V.int)->HOk P w H s₁.heap->(∀b,H b≠none->b=a)->(H a≠none->K.lookup a=none) ->
   codeAny (model P w) callerA (.call (.ref I) ⟨[.ref a],[]⟩) (λr s'=>r=.ok (.ret (.bool true))/\OldK s₁.heap s'.heap/\s'.os=s₁.os/\AllBare s'.gens) s₁:=by
  intro H U hS A T hK;have c:∀{b:qE}{o:Obj},s₁.heap.get? b=some o->H b=none->(a5S s₁.heap H).get? b=some o:=λe n=>b4m e n;have Q:∀{b:qE}{o:Obj}{es:Array DictEntry}{ep:Nat},s₁.heap.get? b=some o->o.data=.dict es ep->H b=none:=λ{b o es ep} e d=>by
   cases q:H b with
   |none=>rfl
   |some u =>
    have G:b=a:=T b (by rw[q];simp);subst G;rw[E]at e;cases e;have Y:Data.seq vs.toArray _=Data.dict es ep:=d;cases Y
  have g:∀{b:qE}{m:Str->qD qB},s₁.heap.Ns b m->(a5S s₁.heap H).Ns b m:=λ{b m} ⟨o,es,ep,e,d,r⟩=>⟨o,es,ep,c e (Q e d),d,r⟩;have p:K.In (a5S s₁.heap H):=λb o e=>c (R b o e) (by
   cases q:H b with
   |none=>rfl
   |some u =>
    have G:b=a:=T b (by rw[q];simp);subst G;rw[hK (by rw[q];simp)]at e;cases e)
  have hM:Mod K mg (a5S s₁.heap H):=⟨p,g y,⟨O,g f,L⟩,let ⟨mc,h1,h2⟩:=t;⟨mc,g h1,h2⟩⟩;have Z:Env0 P w K mg (a5S s₁.heap H) callerA [] s₁ H:=⟨rfl,hM,λb o e=>b6l e,Nat.le_of_eq (b1C _ _),trivial,λb f=>absurd (show b∈([]:qA qE)from f) (by simp),A,.of_eq hg⟩;refine dy ((F _ p (g y)).run callerA [] s₁ H ⟨[.ref a],[]⟩ [.ref a] [.ref a] _ _ hr Z (j s₁ (.ref a)) (.cons rfl .nil) (N H U hS)) λr s' h=>?_;cases r with
  |error e=>exact(J H e s' h).elim
  |ok fl =>
   cases fl with
   |next=>exact False.elim h
   |brk=>exact False.elim h
   |cont=>exact False.elim h
   |ret u =>
    obtain⟨v,H',os,l,un,B,r',q⟩:=h;have q':v=.bl true:=q;subst q';obtain rfl:u=Value.bool true:=r';refine⟨rfl,OldK.of_keep λb o e=>?_,os,l⟩;cases q:H b with
    |none=>exact un.keep b o e q (by intro z;exact absurd (show b∈([]:qA qE)from z) (by simp)) (by simp)
    |some u =>
     rcases U b with z|⟨ob,xs,z⟩
     .rw[q]at z;cases z
     .have z2:=un.frzs b ob _ z;obtain⟨S,_⟩:=A b _ z;obtain⟨e2,_⟩:=B b _ z2;rw[e]at S;cases S;exact e2
 cases M:K.lookup a with
 |some o =>
  have e:=R a o M;rw[E]at e;cases e;refine i (λ_=>none) (λ_=>.inl rfl) (.inr ⟨_,vs.toArray,_,M,rfl,rfl,rfl,by rw[aC,C];exact W,by simpa using X⟩) (λb u z=>by have D:(none:qD HO)=some u:=z;cases D) (λb z=>absurd rfl z) λz=>absurd rfl z
 |none =>
  refine i (λb=>if b=a then some (.frz {cls:=.type "list",data:=.seq vs.toArray} (.lst (ns.map V.int)))else none) (λb=>?_) (.inl (.inr ⟨{cls:=.type "list",data:=.seq vs.toArray},az rfl⟩)) (λb u z=>?_) (λb z=>?_) λ_=>M
  .by_cases f:b=a
   .exact .inr ⟨_,_,az f⟩
   .exact .inl (au f)
  .by_cases f:b=a
   .have D:=(az f).symm.trans z;cases D;subst f;exact⟨E,by rw[aj];exact W,vs,_,X,E⟩
   .have D:=(au f).symm.trans z;cases D
  .by_cases f:b=a
   .exact f
   .exact absurd (au f) z
def walk_of{l:PySem.W.OpenLaw}{n k:Nat}{q:qG}{g:qA Str}{XP:(Str->qD qB)->Heap->Prop}{A:World->Heap->Prop}{d:DefRec}{K:Params->qF}{CX:World->CXT}{sp:World->Sp}{x:Str}
  (N:l.most=some n) (t:n<=sizeLine) (p:d.params.defaults=[]) (O:Room k callerA)
  (I:∀(w:World) (h:Heap),A w h->(K w.params).In h)
  (F:∀(w:World) (mg:Str->qD qB) (j:qE) (h:Heap),(K w.params).In h->h.Ns mainGlobals mg->mg d.name=some (.ref j) ->
   ∃fd:FuncData,(∀(s:qC) (u:qB),BindsTo s fd ⟨[u],[]⟩ [(x,u)]) /\
    ∀base:Heap,(K w.params).In base->base.Ns mainGlobals mg->FnOk l.prog w (K w.params) mg base (CX w) k j fd [x] (sp w))
  (y:∀(w:World) (H:Hp) (a:qE) (ns:qI),ns.length<=n->b9O H->SqL (K w.params) H a (ns.map V.int)->sp w [.ref a] H (λv _=>v=.bl true) λ_ _ _=>False)
  (m:∀(w:World) (H:Hp) (s:qC) (e:qB) (s':qC),CX w [] H s (λ_ _ _=>False) e s'->False) :
  PySem.W.WalkO q g XP A l.row.toRowW d [] (λf vs=>PySem.call f vs):=by
 refine Att.attach_call N p λw s₀ s₁ mg Q j o pm cd B a vs ns G Y P hd L r i c b M=>?_;have z:=I w _ Y;obtain⟨fd,J,C⟩:=F w mg j _ z G.T.g r;exact b3R z G.T.g G.T.b G.T.builtins G.T.nolimit M i c (ba b t) O C J (λH D E=>y w H a ns b D E) λH e s'=>m w H s₁ e s'
end L2
namespace L2
open PySem PySem.Spec PyProof.Rows
variable {A:Around}{E Q:qH}{H H1:Hp}{K:qF}{M:Model}{N ps:qA Str}{P prog:qG}{X:Cx}{a b f it l:qE}{env:Env}{es:qA Expr}{g:TG}{h h':Heap}{i n:Nat}{items:Array qB}{k k1 k2:Bool}{qK:qA (qE×Obj)}{pos:Pos}{qual x:Str}{s:qC}{scope:Scope}{src:qA (qJ)}{st:Stmt}{te:TE}{w:World}{xs:qA V}{α:Type}{σ:St}
def X7(s:Stmt)(j:Nat):Stmt:=match s with
 |.ClassDef _ _ _ body _ _ _ _ _ _ _=>body.getD j (.Pass ⟨0,0,0,0⟩)
 |_=>.Pass ⟨0,0,0,0⟩
def U0(s:Stmt):Arguments:=match s with
 |.FunctionDef _ a _ _ _ _ _ _ _ _=>a
 |_=>{posonlyargs:=[],args:=[],vararg:=none,kwonlyargs:=[],kw_defaults:=[],kwarg:=none,defaults:=[]}
def G1(s:Stmt):qA Stmt:=match s with
 |.FunctionDef _ _ b _ _ _ _ _ _ _=>b
 |_=>[]
def A1(s:Stmt):Scope:=match s with
 |.FunctionDef _ _ _ _ _ _ sc _ _ _=>sc
 |_=>{kind:=.function,names:=[],isGenerator:=false,isCoroutine:=false}
abbrev CX0:CXT:=λ_ _ _ _ _ _=>False
abbrev E0:XK:=λ_ _ _=>False
def a9I:a0o CX0 X E0:=λ_ _ _ _ _ _ _ h=>h.elim
structure Fun(K:qF)(x qual:Str)(st:Stmt)(f:qE)(fd:FuncData):Prop where
 ex:∃(oc:qB) (od:qD qE) (kV doc pm:qB) (an:qD qE) (cdv ct:qB) (osl:Array (qD qB)),
  fd=PySem.W.fnOf x qual (U0 st) (G1 st) (A1 st) .none kV doc pm an cdv ct/\K.lookup f=some ⟨oc,od,.func fd,osl⟩/\PySem.W.codeIn K cdv qual=true
 kp:PySem.W.keepIn K (.ref f)=true
section
variable {mg:Str->qD qB}{base:Heap}
def Fun.ok{fd:FuncData}{k:Nat}{sp:Sp}(F:Fun K x qual st f fd)(S:FnScope N ps (A1 st))(e:∀vs H Q E,sp vs H Q E->vs.length=ps.length)
  (b:∀(a:qB) (A:Around) (outer:qA Env) (s:qC) (H:Hp) (vs:qA V) (Q:VK) (E:XK),Room k (A.deeper (envOfC qual (A1 st) s.heap.objs.size f a))->sp vs H Q E ->
   ∃t,PSs (L8 CX0 P w K mg base N qual (A1 st) f a A outer s H E).nox (G1 st) t/\t {nx:=λ_ H'=>Q .non H',rt:=Q} (start N vs) H):FnOk P w K mg base CX0 (k+1) f fd ps sp:=by
 obtain⟨oc,od,kV,g,pm,an,a,ct,l,rfl,j,c⟩:=F.ex;refine b7G j c S e λA outer s H vs Q E i d=>?_;obtain⟨t,h,q⟩:=b a A outer s H vs Q E i d;exact⟨t,h.nox,q⟩
def Fun.binds{fd:FuncData}(F:Fun K x qual st f fd)
  (h:∀(kV b pm:qB) (an:qD qE) (a ct:qB) (us:qA qB),us.length=ps.length->bindArgs (PySem.W.fnOf x qual (U0 st) (G1 st) (A1 st) .none kV b pm an a ct) ⟨us,[]⟩=pure (ps.zip us)):Binds K fd ps []:=by
 obtain⟨oc,od,kV,b,pm,an,a,ct,d,rfl,e,c⟩:=F.ex;exact .all (h kV b pm an a ct)
def a3U{oc:qB}{od an:qD qE}{d:Array (qD qB)}{kV b pm a ct:qB}(l:K.lookup f=some ⟨oc,od,.func (PySem.W.fnOf x qual (U0 st) (G1 st) (A1 st) .none kV b pm an a ct),d⟩)
  (c:PySem.W.codeIn K a qual=true) (k:PySem.W.keepIn K (.ref f)=true):Fun K x qual st f (PySem.W.fnOf x qual (U0 st) (G1 st) (A1 st) .none kV b pm an a ct):=⟨⟨oc,od,kV,b,pm,an,a,ct,d,rfl,l,c⟩,k⟩
end
def pv(i:Nat)(b:X.N[i]?=some x:=by rfl)(c:Vis X.env.scope x:=by first|exact Or.inl rfl|exact Or.inr (Or.inl rfl)|exact Or.inr (Or.inr rfl))(hd:(x==("__debug__" : Str))=false:=by decide)
  (a:(x==("__classdict__" : Str))=false:=by decide):PE X (.Name x pos) (Z2 i):=b3p b c hd a
def D0{A B:Prop}(h:B):if false=true then A else B:=by
 rw[au aY];exact h
def G3{A B:Prop}(h:A):if true=true then A else B:=by
 rw[az rfl];exact h
def a1Y{c A B:Prop}[Decidable c](h1:c->A)(h2:¬c->B):if c then A else B:=by
 by_cases h:c
 .rw[az h];exact h1 h
 .rw[au h];exact h2 h
def Same(H H':Hp):Prop:=∀b o,H b=some o->H' b=some o
def Same.refl(H:Hp):Same H H:=λ_ _ h=>h
def Same.trans{H2:Hp}(a:Same H H1)(b:Same H1 H2):Same H H2:=λc o h=>b c o (a c o h)
def Same.free{H':Hp}(e:Same H H')(h:H' l=Option.none):H l=Option.none:=by
 cases q:H l with
 |none=>rfl
 |some o =>
  rw[e l o q]at h;cases h
def Same.seq{H':Hp}(e:Same H H')(h:SqL K H a xs):SqL K H' a xs:=by
 rcases h with(h|⟨o,h⟩)|h
 .exact .inl (.inl (e _ _ h))
 .exact .inl (.inr ⟨o,e _ _ h⟩)
 .exact .inr h
def J8(env:Env)(cs:qA (Str×qE))(x:Str×NameKind):qA (Str×qE) :=
 if x.2==.free then(match env.cells.lookup x.1 with|some a=>(x.1,a)::cs|none=>cs)else cs
def a2H(scope:Scope)(env:Env):qA (Str×qE):=scope.names.foldl (J8 env) []
def a4d{env:Env}(f:Str×NameKind->qA (Str×qE)->Sem (ForInStep (qA (Str×qE))))
  (c:∀n k r,f (n,k) r=if (k==NameKind.free)=true then(do let a <-cellOf env n;pure (ForInStep.yield ((n,a)::r)))else pure (ForInStep.yield r)) :
  ∀(names:qA (Str×NameKind)) (cs:qA (Str×qE)),(∀x∈names,x.2=.free->∃a,env.cells.lookup x.1=some a)->forIn names cs f=pure (names.foldl (J8 env) cs)
 |[],cs,_=>rfl
 |(n,k)::r,cs,h=>by
  rw[List.forIn_cons,dH,c];have g:=λy j=>h y (aq _ j);by_cases e:k=.free
  .subst e;obtain⟨a,d⟩:=h (n,NameKind.free) ar rfl;have i:cellOf env n=pure a:=by unfold cellOf;rw[d]
   have b:J8 env cs (n,NameKind.free)=(n,a)::cs:=by unfold J8;rw[d];rfl
   rw[b,<-a4d f c r _ g,i];rfl
  .have hb:(k==NameKind.free)=false:=by simpa using e
   have b:J8 env cs (n,k)=cs:=by unfold J8;rw[hb];rfl
   rw[b,<-a4d f c r _ g,hb];rfl
def b4D(h:∀x∈scope.names,x.2=.free->∃a,env.cells.lookup x.1=some a):closureFor scope env=pure (a2H scope env):=by
 simp only[closureFor];rw[a4d (env:=env) _ (λn k r=>by cases b:k==NameKind.free<;>simp[b]) scope.names [] h];rfl
def a4X{env:Env}{x:Str}{c:qE}:∀(names:qA (Str×NameKind)) (cs:qA (Str×qE)),(names.foldl (J8 env) cs).lookup x=some c->env.cells.lookup x=some c∨cs.lookup x=some c
 |[],cs,h=>.inr h
 |y::r,cs,h=>by
  rw[dH]at h;rcases a4X r _ h with z|z
  .exact .inl z
  .unfold J8 at z;split at z
   .split at z
    .rename_i a ha;rw[cc]at z;cases b:x==y.1 with
     |true =>
      rw[b]at z;rw[bj.mp b];exact .inl (ha.trans z)
     |false =>
      rw[b]at z;exact .inr z
    .exact .inr z
   .exact .inr z
def a0F{c:qE}(h:(a2H scope env).lookup x=some c):env.cells.lookup x=some c :=
 (a4X scope.names [] h).elim id λz=>by cases z
def a0W{env:Env}{x:Str}{a:qE}(d:env.cells.lookup x=some a):∀(names:qA (Str×NameKind)) (cs:qA (Str×qE)),((x,NameKind.free)∈names∨cs.lookup x=some a)->(∀c,cs.lookup x=some c->c=a)->(names.foldl (J8 env) cs).lookup x=some a
 |[],cs,h,_=>h.elim (λz=>by cases z) id
 |y::r,cs,h,i=>by
  rw[dH];by_cases b:y.2=.free/\y.1=x
  .have e2:J8 env cs y=(x,a)::cs:=by unfold J8;rw[b.2,d,b.1];rfl
   rw[e2];have f:((x,a)::cs).lookup x=some a:=by rw[cc];simp
   exact a0W d r _ (.inr f) λc z=>by rw[f]at z;exact(bK z).symm
  .have same:(J8 env cs y).lookup x=cs.lookup x:=by
    unfold J8;split
    .rename_i hk;split
     .have hne:(x==y.1)=false:=by
       cases g:x==y.1 with
       |false=>rfl
       |true=>exact absurd ⟨by simpa using hk,(bj.mp g).symm⟩ b
      rw[cc,hne]
     .rfl
    .rfl
   refine a0W d r _ ?_ (by rw[same];exact i);rw[same];rcases h with z|z
   .rcases aD.mp z with e|z
    .exact absurd ⟨by rw[<-e],by rw[<-e]⟩ b
    .exact .inl z
   .exact .inr z
def a7C(b:env.cells.lookup x=some a)(d:(x,NameKind.free)∈scope.names):(a2H scope env).lookup x=some a :=
 a0W b _ _ (.inl d) λc z=>by cases z
def V5{x:Str}{c:qE}:∀(names:qA (Str×NameKind)) (n:Nat) (qN:qA (Str×qE)),(cellsFrom n names qN).lookup x=some c->(n<=c/\(x,NameKind.cell)∈names)∨qN.lookup x=some c
 |[],_,_,h=>.inr h
 |(y,k)::r,n,qN,h=>by
  unfold cellsFrom at h;split at h
  .rename_i hk;have b:k=.cell:=by simpa using hk
   rcases V5 r _ _ h with⟨e,d⟩|z
   .exact .inl ⟨by omega,aq _ d⟩
   .rw[cc]at z;cases a:x==y with
    |true =>
     rw[a]at z;cases z;exact .inl ⟨ao _,by rw[b,bj.mp a];exact ar⟩
    |false =>
     rw[a]at z;exact .inr z
  .rcases V5 r _ _ h with⟨e,d⟩|z
   .exact .inl ⟨e,aq _ d⟩
   .exact .inr z
def a8M:∀(names:qA (Str×NameKind)) (n:Nat) (qN:qA (Str×qE)),(∀x c,qN.lookup x=some c->c<n)->(∀x y c,qN.lookup x=some c->qN.lookup y=some c->x=y) ->
  ∀x y c,(cellsFrom n names qN).lookup x=some c->(cellsFrom n names qN).lookup y=some c->x=y
 |[],_,_,_,h2=>h2
 |(z,k)::r,n,qN,h1,h2=>by
  unfold cellsFrom;split
  .have lk:∀x c,List.lookup x ((z,n)::qN)=some c->(x=z/\c=n)∨qN.lookup x=some c:=λx c e=>by
    rw[cc]at e;cases a:x==z with
    |true=>rw[a]at e;cases e;exact .inl ⟨bj.mp a,rfl⟩
    |false=>rw[a]at e;exact .inr e
   refine a8M r (n+1) _ (λx c e=>?_) λx y c e b=>?_
   .rcases lk x c e with⟨_,q⟩|q
    .rw[q];exact cm _
    .exact cg (h1 x c q)
   .rcases lk x c e with⟨q1,q2⟩|q<;>rcases lk y c b with⟨p1,p2⟩|p
    .rw[q1,p1]
    .exact absurd (h1 y c p) (by rw[q2];exact bR _)
    .exact absurd (h1 x c q) (by rw[p2];exact bR _)
    .exact h2 x y c q p
  .exact a8M r n qN h1 h2
def a5Y{x:Str}:∀(names:qA (Str×NameKind)) (n:Nat) (qN:qA (Str×qE)),((x,NameKind.cell)∈names∨∃c,qN.lookup x=some c)->∃c,(cellsFrom n names qN).lookup x=some c
 |[],_,_,h=>h.elim (λz=>by cases z) id
 |(y,k)::r,n,qN,h=>by
  unfold cellsFrom;split
  .rename_i hk;refine a5Y r _ _ ?_;by_cases a:x=y
   .exact .inr ⟨n,by rw[cc,a];simp⟩
   .have hb:(x==y)=false:=cO.mpr a;rcases h with z|⟨c,z⟩
    .rcases aD.mp z with e|z
     .exact absurd (Prod.mk.inj e).1 a
     .exact .inl z
    .exact .inr ⟨c,by rw[cc,hb];exact z⟩
  .rename_i hk;refine a5Y r _ _ ?_;rcases h with z|z
   .rcases aD.mp z with e|z
    .exact absurd (by rw[<-(Prod.mk.inj e).2];rfl) hk
    .exact .inl z
   .exact .inr z
def a5H{x:Str}{c:qE}:∀(names:qA (Str×NameKind)) (h:Heap) (qN:qA (Str×qE)),(∀x c,qN.lookup x=some c->∃v,h.IsCell c v)->(cellsFrom h.objs.size names qN).lookup x=some c->∃v,(pushCells h names).IsCell c v
 |[],h,qN,d,e=>d x c e
 |(y,k)::r,h,qN,d,e=>by
  unfold cellsFrom at e;unfold pushCells;split at e
  .rename_i hk;rw[az hk];rw[show h.objs.size+1=(h.push {cls:=.type "cell",data:=.cell none}).objs.size from(bt ..).symm]at e;refine a5H r _ _ (λg c' a=>?_) e;rw[cc]at a;cases f:g==y with
   |true=>rw[f]at a;cases a;exact⟨_,_,aF _ rfl,rfl⟩
   |false =>
    rw[f]at a;obtain⟨v,z⟩:=d g c' a;exact⟨v,z.keeps λb o q=>ag _ q⟩
  .rename_i hk;rw[au hk];exact a5H r _ _ d e
def a7L{a:qA (Str×qE)}{outer:Env}{Q:Env->qC->Prop}
  (f:Q (newEnv scope s.heap.objs.size b (cellsFrom (s.heap.objs.size+1) scope.names a) qual none .none (some outer) builtinsNs) {s with heap:=pushCells (s.heap.push {cls:=.type "dict",data:=.dict #[]}) scope.names}) :
  wpAny M A (newFunctionEnv scope b a [] qual none .none (some outer)) Q E s:=by
 simp only[newFunctionEnv,Option.isSome_some,e_];refine aa (wpAny_alloc ?_);refine aa (wpAny_layCells _ (λname c d=>by cases e:c==NameKind.cell<;>simp[e]) _ _ _ _ ?_);rw[show({s with heap:=s.heap.push {cls:=.type "dict",data:=.dict #[]}}:qC).heap.objs.size=s.heap.objs.size+1 from bt ..];exact aa (ae (ae f))
abbrev NoX:qH:=λ_ _=>False
def toE{t:Sem α}{Q b:α->qC->Prop}(h:wpAny M A t Q NoX s)(c:∀a s,Q a s->b a s):wpAny M A t b E s :=
 cX h c λ_ _ z=>z.elim
def a5X{d a b:Expr}{e:qA Expr}{it qN:qB}{R:Result->qC->Prop}(I:Nat->qC->Prop)
  (f:∀n s,I n s->wpAny (model prog w) A (pyNext it) (λr s₁=>match r with
   |none=>R (.ok .next) s₁
   |some v=>wpAny (model prog w) A (letOwnedTupleGo a it v) (λ_ s₂=>wpAny (model prog w) A (assign a env v) (λ_ s₃ =>
     wpAny (model prog w) A (forIn e true λc r=>if r=true then do let ok <-isTrue c env (eval c env);pure (ForInStep.yield ok)else pure (ForInStep.yield r)) (λok s₄ =>
      if ok=true then wpAny (model prog w) A (eval d env) (λx s₅=>wpAny (model prog w) A (call (.builtin "list.append") [qN,x]) (λ_ s₆=>∃m,m<n/\I m s₆) NoX s₅) NoX s₄
      else ∃m,m<n/\I m s₄) NoX s₃) NoX s₂) NoX s₁) NoX s)
  (n:Nat) (h:I n s):codeAny (model prog w) A (.compLoop (.ListComp d [⟨a,b,e,0⟩] scope pos) 0 it qN env) R s:=by
 refine codeAny_loop rfl I (λn s hI=>?_) n h;show wpAny _ A ((compTurn (.ListComp d [⟨a,b,e,0⟩] scope pos) 0 it qN env).onRaise (λx=>do noteFrame x env;theTreesLotGoes x)) _ _ s;refine wpAny_noted ?_;rw[compTurn_list];refine aa (wpAny_standAt (aa (toE (f n s hI) λr s₁ h₁=>?_)));cases r with
 |none=>exact ae h₁
 |some v =>
  refine aa (toE h₁ λ_ s₂ h₂=>aa (toE h₂ λ_ s₃ h₃=>aa (toE h₃ λok s₄ h₄=>?_)));cases ok with
  |false=>exact ae ⟨rfl,h₄⟩
  |true=>exact aa (aa (toE h₄ λx s₅ h₅=>aa (toE h₅ λ_ s₆ h₆=>ae (ae ⟨rfl,h₆⟩))))
def Cx.blk(X:Cx)(N:qA Str)(scope:Scope)(cells:qA (Str×qE))(C:qE)(s:qC)(H:Hp)(ex:qA qE):Cx :=
 {X with N:=N,s₀:=s,H₀:=H,env:=compEnvC scope cells C X.env,outer:=X.stack,stack:=X.stack,ex:=ex,fn:=λx=>scope.names.any λy=>y.1==x && y.2==.cell,pn:=[],xe:=NoX}
def B5(src:qA (qJ))(σ:St):St:=src.map λo=>o.bind λj=>(σ[j]?).join
def C0(sc out:Scope):Bool:=sc.names.all λx=>x.2 != .free || (out.names.lookup x.1==some .cell || out.names.lookup x.1==some .free)
def N7:qA Str->qA (qJ)->qA Str->Scope->Bool
 |[],[],_,_=>true
 |x::N,o::src,M,sc=>(match o with|none=>true|some j=>M[j]? == some x && sc.names.lookup x==some .free) && N7 N src M sc
 |_,_,_,_=>false
def a5A(sc:Scope):Bool:=sc.kind==.function && sc.names.all λx=>sc.names.lookup x.1==some x.2
def a4Y:∀{N:qA Str}{src:qA (qJ)}{M:qA Str}{a:Scope},N7 N src M a=true->src.length=N.length
 |[],[],_,_,_=>rfl
 |_::N,_::src,M,a,h=>by
  unfold N7 at h;rw[aO]at h;rw[aT,aT,a4Y h.2]
 |[],_::_,_,_,h=>by simp[N7]at h
 |_::_,[],_,_,h=>by simp[N7]at h
def a4Z:∀{N:qA Str}{src:qA (qJ)}{M:qA Str}{a:Scope}{i:Nat}{x:Str}{j:Nat},N7 N src M a=true->N[i]?=some x->src[i]?=some (some j)->M[j]?=some x/\a.names.lookup x=some .free
 |[],[],_,_,_,_,_,_,h,_=>by simp at h
 |y::N,o::src,M,a,0,x,j,h,h1,h2=>by
  unfold N7 at h;rw[aO]at h;simp at h1 h2;subst h1 h2;have q:=h.1;rw[aO]at q;exact⟨bj.mp q.1,bj.mp q.2⟩
 |y::N,o::src,M,a,i+1,x,j,h,h1,h2=>by
  unfold N7 at h;rw[aO]at h;exact a4Z h.2 (by simpa using h1) (by simpa using h2)
 |[],_::_,_,_,_,_,_,h,_,_=>by simp[N7]at h
 |_::_,[],_,_,_,_,_,h,_,_=>by simp[N7]at h
def b2a{v:V}(h:(B5 src σ)[i]?=some (some v)):∃j,src[i]?=some (some j)/\σ[j]?=some (some v):=by
 unfold B5 at h;rw[aV]at h;cases e:src[i]? with
 |none=>rw[e]at h;cases h
 |some o =>
  rw[e]at h;cases o with
  |none=>cases h
  |some j =>
   refine⟨j,rfl,?_⟩;have h':(σ[j]?).join=some v:=bK h;cases q:σ[j]? with
   |none=>rw[q]at h';cases h'
   |some z=>rw[q]at h';rw[show z=some v from h']
def a0c{env:Env}:∀{names:qA (Str×NameKind)}{x:Str}{k:NameKind},
  (names.map λ(n,k)=>if (k==NameKind.free && env.scope.kind==.function && env.kindOf n==some .cell)then(n,NameKind.cell)else(n,k)).lookup x=some k ->
  ∃b,names.lookup x=some b/\(k=b∨(b=.free/\k=.cell))
 |[],_,_,h=>by cases h
 |(n,k0)::r,x,k,h=>by
  rw[aW,cc]at h;rw[cc];dsimp only at h;split at h
  .rename_i h0;have a:x==n:=by
    split at h0<;>exact h0
   rw[a];refine⟨k0,rfl,?_⟩;split at h
   .rename_i hc;cases h;simp only[aO]at hc;exact .inr ⟨by simpa using hc.1.1,rfl⟩
   .cases h;exact .inl rfl
  .rename_i h0;have a:(x==n)=false:=by
    split at h0<;>exact h0
   rw[a];exact a0c h
def K7{env:Env}:∀{names:qA (Str×NameKind)}{x:Str}{c:NameKind},names.lookup x=some c ->
  ∃k,(names.map λ(n,k)=>if (k==NameKind.free && env.scope.kind==.function && env.kindOf n==some .cell)then(n,NameKind.cell)else(n,k)).lookup x=some k/\(k=c∨(c=.free/\k=.cell))
 |[],_,_,h=>by cases h
 |(n,k0)::r,x,c,h=>by
  rw[cc]at h;rw[aW];by_cases b:(k0==NameKind.free && env.scope.kind==.function && env.kindOf n==some .cell)=true
  .simp only[b,e_];rw[cc];cases a:x==n with
   |true =>
    rw[a]at h;cases h;simp only[aO]at b;exact⟨_,rfl,.inr ⟨by simpa using b.1.1,rfl⟩⟩
   |false=>rw[a]at h;exact K7 h
  .simp only[au b];rw[cc];cases a:x==n with
   |true=>rw[a]at h;cases h;exact⟨_,rfl,.inl rfl⟩
   |false=>rw[a]at h;exact K7 h
def PIf(X:Cx)(ifs:qA Expr)(t:TT):Prop :=
 ∀(qK:qA (qE×Obj)) (s:qC) (σ:St) (H:Hp) (Q:Bool->Hp->Prop),Inv X qK σ H s->t σ H Q ->
  wpAny (model X.prog X.w) X.A (forIn ifs true λc r=>if r=true then do let ok <-isTrue c X.env (eval c X.env);pure (ForInStep.yield ok)else pure (ForInStep.yield r)) (TP X qK σ Q) X.xe s
def V0:TT:=λ_ H Q=>Q true H
def b5H:PIf X [] V0:=λqK s σ H Q I h=>wpAny_tests_nil ⟨H,I,h⟩
def b5G{c:Expr}{t:TT}(h:PT X c t):PIf X [c] t:=λqK s σ H Q I q=>wpAny_tests_one (h qK s σ H Q I q)
def Sub(σ σ':St):Prop:=σ.length=σ'.length/\∀(i:Nat) (v:V),σ[i]?=some (some v)->σ'[i]?=some (some v)
def I0(src:qA (qJ))(g:TG)(tt:TT)(te:TE)(σ:St)(Q:VK)(J:It)(H1:Hp):Prop :=
 ∃W:Nat->Nat->qA V->Hp->Prop,(∃m,W 0 m [] H1)/\∀i m ys H,W i m ys H ->
  (J.stop i H/\ys.length<=sizeLine/\∀p,H p=none->Q (.ref p) (upd H p (.lst ys))) ∨
  (J.go i H/\ys.length<sizeLine/\∃N:qA V->Hp->Prop,(∀zs H',N zs H'->∃m',m'<m/\W (i+1) m' zs H')/\∀x H',J.yld i H x H'->g x (B5 src σ) H' λσ2 H2=>Sub (B5 src σ) σ2/\tt σ2 H2 λb H3 =>
   if b=true then te σ2 H3 λv H4=>N (ys++[v]) H4 else N ys H3)
def a6u(src:qA (qJ))(wi:TI)(g:TG)(tt:TT)(te:TE):TE:=λσ H Q=>wi σ H (I0 src g tt te σ Q)
def Inv.block{fp:qA qE}(I:Inv X qK σ H s)(P:∀b∈fp,a2l X qK H b)(Y:∀b∈fp,∃o,s.heap.get? b=some o)
  (J:C0 scope X.env.scope=true) (D:N7 N src X.N scope=true) (C:a5A scope=true) {lo:Obj} :
  Inv (X.blk N scope (cellsFrom (s.heap.objs.size+2) scope.names (a2H scope X.env)) (s.heap.objs.size+1) s H fp) [] (B5 src σ) H
   {s with heap:=pushCells ((s.heap.push lo).push {cls:=.type "dict",data:=.dict #[]}) scope.names}:=by
 unfold a5A at C;rw[aO]at C;have E:scope.kind=.function:=by simpa using C.1
 have F:∀x∈scope.names,scope.names.lookup x.1=some x.2:=λx A=>by simpa using aS.mp C.2 x A
 have t:∀x∈scope.names,x.2=.free->X.env.kindOf x.1=some .cell∨X.env.kindOf x.1=some .free:=λx A f=>by
  have q:=aS.mp J x A;rw[f]at q;have U:(X.env.scope.names.lookup x.1==some .cell || X.env.scope.names.lookup x.1==some .free)=true:=by simpa using q
  rw[Bool.or_eq_true]at U;exact U.imp (λz=>bj.mp z) λz=>bj.mp z
 have keep:∀b o,s.heap.get? b=some o->(pushCells ((s.heap.push lo).push {cls:=.type "dict",data:=.dict #[]}) scope.names).get? b=some o:=λb o e =>
  fQ _ _ _ _ (ag _ (ag _ e))
 have Q:∀x c,(a2H scope X.env).lookup x=some c->c<s.heap.objs.size:=λx c e=>by
  obtain⟨v,z⟩:=I.cell x c (a0F e);exact z.lt
 have d:∀x c,(cellsFrom (s.heap.objs.size+2) scope.names (a2H scope X.env)).lookup x=some c->(s.heap.objs.size+2<=c/\(x,NameKind.cell)∈scope.names)∨X.env.cells.lookup x=some c:=λx c e =>
  (V5 _ _ _ e).imp id a0F
 have K:∀x k,(compEnvC scope (cellsFrom (s.heap.objs.size+2) scope.names (a2H scope X.env)) (s.heap.objs.size+1) X.env).kindOf x=some k->∃g,scope.names.lookup x=some g/\(k=g∨(g=.free/\k=.cell)):=λx k e =>
  a0c (env:=X.env) e
 have mem:∀{x k},scope.names.lookup x=some k->(x,k)∈scope.names:=λe=>mem_of_lookup e;refine⟨⟨I.ok.mod,?_,I.ok.glob,I.ok.blt,?_,?_,?_,?_,I.ok.hd,I.ok.frames,.inl rfl,?_,I.bs,ba I.ok.bsz I.sz,?_,?_,I.stack,I.stkFree⟩,rfl,I.bare,Un.kept keep,?_,?_,?_,?_,?_,I.hok.kept keep,?_⟩
 .exact E
 .exact ez _
 .-- inj
  refine a8M _ _ _ (λx c e=>?_) λx y c e R=>I.ok.inj x y c (a0F e) (a0F R);exact aL (Q x c e) (cf _ 2)
 .-- has
  intro x A;refine a5Y _ _ _ ?_;have f:∃g,scope.names.lookup x=some g/\(g=.cell∨g=.free):=by
   rcases A with A|A
   .obtain⟨g,e,z⟩:=K x _ A;exact⟨g,e,z.elim (λz=>.inl z.symm) λz=>.inr z.1⟩
   .obtain⟨g,e,z⟩:=K x _ A;exact⟨g,e,z.elim (λz=>.inr z.symm) λz=>by cases z.2⟩
  obtain⟨g,e,rfl|rfl⟩:=f
  .exact .inl (mem e)
  .obtain⟨a,ha⟩:=I.ok.has x (t _ (mem e) rfl);exact .inr ⟨a,a7C ha (mem e)⟩
 .-- cab
  intro x c A e;rcases d x c e with z|z
  .exact ba (cf _ 2) z.1
  .-- x is the block's own cell, so it is not in the closure's part
   exfalso;obtain⟨y,hy,G⟩:=bP.mp A;rw[aO]at G;have S:y.1=x:=bj.mp G.1;have T:y.2=.cell:=by simpa using G.2
   have l1:scope.names.lookup x=some .cell:=by rw[<-S,<-T];exact F y hy
   rcases V5 _ _ _ e with q|q
   .obtain⟨v,z'⟩:=I.cell x c z;exact absurd (aL z'.lt (ba (cf _ 2) q.1)) (bR _)
   .-- the closure holds free names alone
    have fr:∀(names:qA (Str×NameKind)) (L:qA (Str×qE)),(names.foldl (J8 X.env) L).lookup x=some c->(x,NameKind.free)∈names∨L.lookup x=some c:=by
     intro names;induction names with
     |nil=>intro L h;exact .inr h
     |cons n r ih =>
      intro L h;rw[dH]at h;rcases ih _ h with w|w
      .exact .inl (aq _ w)
      .unfold J8 at w;split at w
       .rename_i f;split at w
        .rw[cc]at w;cases B:x==n.1 with
         |true =>
          have:n=(x,NameKind.free):=Prod.ext (bj.mp B).symm (by simpa using f);exact .inl (by rw[this];exact ar)
         |false=>rw[B]at w;exact .inr w
        .exact .inr w
       .exact .inr w
    rcases fr _ _ q with w|w
    .have:=F _ w;rw[l1]at this;cases this
    .cases w
 .-- exf
  intro b B;obtain⟨o,e⟩:=Y b B;have lt:=aI e;refine⟨aQ (cg lt),λx c O=>?_⟩;rcases d x c O with z|z
  .exact cR (aL lt (ba (cf _ 2) z.1))
  .exact(P b B).2.2.2.2.1 x c z
 .-- noex
  intro b o e B;rcases(P b B).2.2.2.1 with z|z
  .exact I.ok.noex b o e z
  .exact absurd (aL (aI (I.ok.bs b o e).1) z) (bR _)
 .-- exfs
  intro b B z;rcases aD.mp (I.stkSub b z)with q|q
  .exact(P b B).2.1 q
  .exact(P b B).2.2.1 q
 .-- loc
  refine⟨λ_=>none,?_,λi x v S T e3=>?_⟩
  .have:=(Heap.Ns.new (s.heap.push lo) (.type "dict")).keeps (fQ scope.names _);rw[bt]at this;exact this
  .obtain⟨j,e4,e5⟩:=b2a T;obtain⟨V,M⟩:=a4Z D S e4;obtain⟨m,_,W⟩:=I.loc;have f:=t _ (mem M) rfl;have Z:Vis X.env.scope x:=.inr (f.imp id id);obtain⟨u,r,l⟩:=W j x v V e5 Z;refine⟨u,r,.inr ⟨?_,?_⟩⟩
   .obtain⟨k,q,z⟩:=K7 (env:=X.env) M;rcases z with z|z
    .exact .inr (by rw[<-z];exact q)
    .exact .inl (by rw[<-z.2];exact q)
   .rcases l with l|⟨_,c,O,z⟩
    .exfalso;rcases f with f|f<;>rw[l.1]at f<;>cases f
    .refine⟨c,?_,z.keeps keep⟩;have own:¬(x,NameKind.cell)∈scope.names:=λw=>by
      have:=F _ w;rw[M]at this;cases this
     obtain⟨c',q⟩:=a5Y (x:=x) scope.names (s.heap.objs.size+2) (a2H scope X.env) (.inr ⟨c,a7C O (mem M)⟩);rcases d x c' q with w|w
     .exact absurd w.2 own
     .rw[O]at w;cases w;exact q
 .-- cell
  intro x c e;have R:(cellsFrom ((s.heap.push lo).push {cls:=.type "dict",data:=.dict #[]}).objs.size scope.names (a2H scope X.env)).lookup x=some c:=by
   rw[bt,bt];exact e
  refine a5H _ _ _ (λx' c' q=>?_) R;obtain⟨v,z⟩:=I.cell x' c' (a0F q);exact⟨v,z.keeps λb o q=>ag _ (ag _ q)⟩
 .exact I.hok.fresh (ez _)
 .intro x c e;rcases d x c e with z|z
  .exact I.hok.fresh (ba (cf _ 2) z.1)
  .exact I.freeC x c z
 .intro p hp;cases hp
 .show(B5 src σ).length=N.length;unfold B5;rw[aj];exact a4Y D
def Inv.unblock{a:qA (Str×qE)}{C qN:qE}{fp:qA qE}{pins':qA (qE×Obj)}{σ':St}{H':Hp}{s':qC}{ys:qA V}{us:qA qB}
  (I:Inv X qK σ H s) (y:∀b∈fp,a2l X qK H b) (x:s.heap.objs.size<=C) (v:s.heap.objs.size<=qN) (m:qN≠C) (J:Inv (X.blk N scope a C s H fp) pins' σ' H' s')
  (w:H' qN=none) (A:s'.heap.get? qN=some {cls:=.type "list",data:=.seq us.toArray n}) (B:Vals ys us) (D:ys.length<=sizeLine) (l:Heap.SameBut C s'.heap h') :
  Inv X qK σ (upd H' qN (.lst ys)) {s' with heap:=h'}:=by
 have base:Un (frs X.stack) fp H H' s.heap s'.heap:=J.base;have j:∀b o,b≠C->s'.heap.get? b=some o->h'.get? b=some o:=λb o q e=>l.extBut b o q e;have old:∀b o,s.heap.get? b=some o->b≠C/\b≠qN:=λb o e=>by
  have:=aI e;exact⟨aQ (aL this x),aQ (aL this v)⟩
 have f:H' C=none:=J.free;have g:H qN=none:=I.hok.fresh v;have i:HOk X.prog X.w H' s'.heap:=J.hok;have p:HOk X.prog X.w (upd H' qN (.lst ys)) h':=by
  intro b o e;by_cases h:b=qN
  .subst h;rw[A0]at e;cases e;exact⟨D,us,n,B,j _ _ m A⟩
  .rw[A3 h]at e;refine(i b o e).stay (λc u k q=>j c u ?_ q) (λc q=>?_) λc xs q=>?_
   .rintro rfl;rcases k with rfl|k
    .rw[f]at e;cases e
    .rw[f]at k;cases k
   .rw[A3 (by rintro rfl;rw[w]at q;cases q)];exact q
   .rw[A3 (by rintro rfl;rw[w]at q;cases q)];exact q
 have d:∀b u,H b=some u->b≠qN:=λb u e=>by rintro rfl;rw[g]at e;cases e
 refine I.call' (s':={s' with heap:=h'}) (ch:=fp) (J.os) ⟨λb o e q r t=>?_,λb o e q r t=>?_,λb o e q t=>?_,λb o e t=>?_,λb xs e=>?_,λb o u e=>?_,λb ps e=>?_⟩ p J.bare λb l=>?_
 .exact j b o (old b o e).1 (base.keep b o e q r t)
 .obtain⟨sl,z⟩:=base.slot b o e q r t;exact⟨sl,j b _ (old b o e).1 z⟩
 .rw[A3 (old b o e).2];exact base.free b o e q t
 .obtain⟨o',z⟩:=base.there b o e t;exact⟨o',j b _ (old b o e).1 z⟩
 .rw[A3 (d b _ e)];exact base.tups b xs e
 .rw[A3 (d b _ e)];exact base.frzs b o u e
 .rw[A3 (d b _ e)];exact base.tbls b ps e
 .obtain⟨_,h1,_,h3,h4,h5⟩:=y b l;exact⟨h3,h1,h4,h5⟩
set_option maxHeartbeats 4000000 in
def a4W{tg t E:Expr}{K:qA Expr}{wi:TI}{tt:TT}{Q:VK}{RR:qB->qE->Result->qC->Prop}(hc:X.calm=true)(hi:PI X tg t wi)
  (b6:C0 scope X.env.scope=true) (b0:N7 N src X.N scope=true) (d3:a5A scope=true)
  (hg:∀a C s H ex,PG (X.blk N scope a C s H ex) tg g) (ht:∀a C s H ex,PIf (X.blk N scope a C s H ex) K tt) (he:∀a C s H ex,PE (X.blk N scope a C s H ex) E te)
  (I:Inv X qK σ H s) (h:a6u src wi g tt te σ H Q)
  (b7:∀(s2 s4:qC) (H2 H4:Hp) (fp:qA qE) (a:qA (Str×qE)) (pl:qA (qE×Obj)) (σ4:St) (ys:qA V) (us:qA qB) (k:Nat),Inv X qK σ H2 s2->(∀b∈fp,a2l X qK H2 b) ->
   Inv (X.blk N scope a (s2.heap.objs.size+1) s2 H2 fp) pl σ4 H4 s4->H4 s2.heap.objs.size=none->s4.heap.get? s2.heap.objs.size=some {cls:=.type "list",data:=.seq us.toArray k}->Vals ys us->ys.length<=sizeLine ->
   Q (.ref s2.heap.objs.size) (upd H4 s2.heap.objs.size (.lst ys))->RR (.ref s2.heap.objs.size) (s2.heap.objs.size+1) (.ok .next) s4) :
  wpAny (model X.prog X.w) X.A (eval t X.env) (λx s₁=>wpAny (model X.prog X.w) X.A (pyIter x) (λit s₂=>wpAny (model X.prog X.w) X.A (newList []) (λqN s₃ =>
   wpAny (model X.prog X.w) X.A (newFunctionEnv scope X.env.globals (a2H scope X.env) [] X.env.qual none .none (some X.env)) (λO s₄ =>
    codeAny (model X.prog X.w) X.A (.compStart (.ListComp E [⟨tg,t,K,0⟩] scope pos) 0 it qN {O with scope:=relabel scope X.env}) (RR qN O.locals) s₄) X.xe s₃) X.xe s₂) X.xe s₁) X.xe s:=by
 refine thn (hi qK s σ H _ I h) λv s1 h1=>thn h1 λd5 s2 h2=>?_;obtain⟨it,fp,tn,J,H2,e,U,T,c2,f2,W,⟨m0,w0⟩,c4⟩:=h2;subst e;have b8:∀b∈fp,∃o,s2.heap.get? b=some o:=λb l=>(T.obj _ _ c2 b l).imp λ_ q=>q.1;refine bz (a7L ?_);have hB:=U.block (lo:={cls:=.type "list",dict:=none,data:=.seq ([]:qA qB).toArray}) f2 b8 b6 b0 d3;rw[show({s2 with heap:=s2.heap.push {cls:=.type "list",dict:=none,data:=.seq ([]:qA qB).toArray}}:qC).heap.objs.size=s2.heap.objs.size+1 from bt ..];generalize G:cellsFrom (s2.heap.objs.size+1+1) scope.names (a2H scope X.env)=a at hB⊢;generalize B:pushCells ((s2.heap.push {cls:=.type "list",dict:=none,data:=.seq ([]:qA qB).toArray}).push {cls:=.type "dict",data:=.dict #[]}) scope.names=h4 at hB⊢;have a4:∀b o,s2.heap.get? b=some o->h4.get? b=some o:=λb o q=>by
  rw[<-B];exact fQ _ _ _ _ (ag _ (ag _ q))
 have a8:h4.get? s2.heap.objs.size=some {cls:=.type "list",data:=.seq ([]:qA qB).toArray 0}:=by
  rw[<-B];exact fQ _ _ _ _ (ag _ (aF _ rfl))
 have c3:tn 0 h4:=T.keep _ _ _ c2 λb _ o q=>a4 b o q;generalize f:X.blk N scope a (s2.heap.objs.size+1) s2 H2 fp=j at hB;have eA:j.A=X.A:=by rw[<-f];rfl
 have eP:j.prog=X.prog:=by rw[<-f];rfl
 have ew:j.w=X.w:=by rw[<-f];rfl
 have eK:j.K=X.K:=by rw[<-f];rfl
 have ec:j.calm=true:=by rw[<-f];exact hc
 have ee:j.env=compEnvC scope a (s2.heap.objs.size+1) X.env:=by rw[<-f];rfl
 have ex:j.ex=fp:=by rw[<-f];rfl
 have a9:j.pn=[]:=by rw[<-f];rfl
 have c8:j.s₀=s2:=by rw[<-f];rfl
 have Z:j.xe=NoX:=by rw[<-f];rfl
 have eL:j.env.locals=s2.heap.objs.size+1:=by rw[ee];rfl
 have c7:j.fs=frs X.stack:=by rw[<-f];rfl
 have c1:=hB.ok;have cne:∀x c,j.env.cells.lookup x=some c->c≠s2.heap.objs.size:=λx c q=>by
  rw[ee]at q;have q':a.lookup x=some c:=q;rw[<-G]at q';rcases V5 _ _ _ q' with z|z
  .exact cR (aL (cm _) (ba (ez _) z.1))
  .obtain⟨v,z'⟩:=U.cell x c (a0F z);exact aQ z'.lt
 have P:∀b∈fp,b≠s2.heap.objs.size:=λb l=>by
  obtain⟨o,q⟩:=b8 b l;exact aQ (aI q)
 have A:s2.heap.objs.size∉j.fs:=by
  rw[c7];intro z;rcases aD.mp (U.stkSub _ z)with q|q
  .exact absurd U.lt (by rw[<-q];exact bR _)
  .exact U.nofs (ao _) q
 have w:∀{H':Hp}{pl:qA (qE×Obj)},(∀b∈fp,H' b=none)->(∀p∈pl,p.1=s2.heap.objs.size)->∀b∈fp,a2l j pl H' b:=λ{H' pl} hn D b l=>by
  obtain⟨x1,x2⟩:=c1.exf b (by rw[ex];exact l);refine⟨hn b l,x1,c1.exfs b (by rw[ex];exact l),.inl (by rw[ex];exact l),x2,λp b9=>?_⟩;rw[a9,cQ]at b9;rw[D p b9];exact(P b l).symm
 have c0:∀s5:qC,s5={s2 with heap:=h4}->codeAny (model X.prog X.w) X.A (.compLoop (.ListComp E [⟨tg,t,K,0⟩] scope pos) 0 (.ref it) (.ref s2.heap.objs.size) j.env)
   (RR (.ref s2.heap.objs.size) (s2.heap.objs.size+1)) s5:=by
  rintro s5 rfl;refine a5X (λn s'=>∃i H' ys us k,Inv j [] (B5 src σ) H' s'/\tn i s'.heap/\(∀b∈fp,H' b=none)/\H' s2.heap.objs.size=none /\
   s'.heap.get? s2.heap.objs.size=some {cls:=.type "list",data:=.seq (us:qA qB).toArray k}/\Vals ys us/\W i n ys H') ?_ m0
   ⟨0,H2,[],[],0,hB,c3,λb l=>(f2 b l).1,U.hok.fresh (ao _),a8,.nil,w0⟩
  rintro n s3 ⟨i,R,ys,us,k,I3,a5,a0,L,a7,r3,w3⟩;rcases c4 i n ys R w3 with⟨stop,hz,qn⟩|⟨go,hz,Nn,hN,step⟩
  .have d:=T.done j eP ew eK ec i [] s3 (B5 src σ) R NoX I3 (w a0 (λ_ z=>by cases z)) a5 stop;rw[eA]at d;have Y:Inv j [(s2.heap.objs.size,{cls:=.type "list",data:=.seq us.toArray k})] (B5 src σ) R s3:=I3.pins_of λp D=>by
    rw[aB.mp D];exact⟨a7,L,by rw[eL];exact aQ (cm _),A,λv z=>by cases z⟩
   have d:=T.done j eP ew eK ec i _ s3 (B5 src σ) R NoX Y (w a0 (λp z=>by rw[aB.mp z])) a5 stop;rw[eA]at d;refine thn d λr s4 ⟨hr,I4⟩=>?_;subst hr;have c6:=(I4.pin (s2.heap.objs.size,{cls:=.type "list",data:=.seq us.toArray k}) (aX _ ar)).1;rw[<-f]at I4;exact b7 s2 s4 H2 R fp a _ _ ys us k U f2 I4 L c6 r3 hz (qn _ L)
  .have Y:Inv j [(s2.heap.objs.size,{cls:=.type "list",data:=.seq us.toArray k})] (B5 src σ) R s3:=I3.pins_of λp D=>by
    rw[aB.mp D];exact⟨a7,L,by rw[eL];exact aQ (cm _),A,λv z=>by cases z⟩
   have d:=T.item j eP ew eK ec i _ s3 (B5 src σ) R NoX Y (w a0 (λp z=>by rw[aB.mp z])) a5 go;rw[eA]at d;refine thn d λr s4 ⟨u,hr,d0⟩=>?_;subst hr;refine thn d0 λ_ s5 ⟨x,H5,I5,r5,y5,a6,c9⟩=>?_;have c5:=I5.pinned (w c9 (λp z=>by rw[aB.mp z])) (T.obj _ _ a6);have d2:PG j tg g:=by rw[<-f];exact hg _ _ _ _ _
   have d4:PIf j K tt:=by rw[<-f];exact ht _ _ _ _ _
   have d1:PE j E te:=by rw[<-f];exact he _ _ _ _ _
   have a1:=d2 _ s5 _ H5 x u _ c5 r5 (step x H5 y5);rw[eP,ew,eA,Z]at a1;refine thn a1 λ_ s6 ⟨σ6,H6,I6,sb,q6⟩=>?_;have a2:=d4 _ s6 σ6 H6 _ I6 q6;rw[eP,ew,eA,Z]at a2;refine thn a2 λok s7 ⟨H7,I7,q7⟩=>?_;have back:∀{S:Hp}{M:qC}{pl:qA (qE×Obj)},Inv j ([(s2.heap.objs.size,{cls:=.type "list",data:=.seq us.toArray k})]++a3w fp s5.heap) σ6 S M ->
     Inv j [] (B5 src σ) S M/\tn (i+1) M.heap/\(∀b∈fp,S b=none)/\S s2.heap.objs.size=none/\M.heap.get? s2.heap.objs.size=some {cls:=.type "list",data:=.seq us.toArray k}:=λ{S M pl} I8=>by
    have p0:=I8.pin (s2.heap.objs.size,{cls:=.type "list",data:=.seq us.toArray k}) (aX _ (aK _ ar));refine⟨(I8.pins_of (pins':=[]) λp D=>by cases D).weak sb.1 sb.2,T.keep _ _ _ a6 λb l o e=>(I8.pin (b,o) (aX _ (aX _ (X1 l e)))).1,λb l=>?_,p0.2.1,p0.1⟩;obtain⟨o,e,_⟩:=T.obj _ _ a6 b l;exact(I8.pin (b,o) (aX _ (aX _ (X1 l e)))).2.1
   cases ok with
   |false =>
    obtain⟨m',hm,w7⟩:=hN _ _ q7;obtain⟨b1,b2,b3,b4,b5⟩:=back (pl:=[]) I7;exact⟨m',hm,i+1,H7,ys,us,k,b1,b2,b3,b4,b5,r3,w7⟩
   |true =>
    have a3:=d1 _ s7 σ6 H7 _ I7 q7;rw[eP,ew,eA,Z]at a3;refine thn a3 λy M ⟨vy,S,I8,ry,n8⟩=>?_;obtain⟨m',hm,w8⟩:=hN _ _ n8;obtain⟨b1,b2,b3,b4,b5⟩:=back (pl:=[]) I8;refine dv F.slot_list_append ⟨_,b5,rfl⟩ F.entry_list_append (F.args_list_append_2 _ _) (PySem.list_append s2.heap.objs.size us.toArray k y (by rw[aC,<-r3.length];omega)) ⟨b5,?_⟩;have q:=PySem.IsL.update b5 (λxs=>xs.push y);rw[show us.toArray.push y=(us++[y]).toArray by simp]at q;have nb:∀b o,b≠s2.heap.objs.size->M.heap.get? b=some o->(M.heap.update s2.heap.objs.size (Obj.mapSeq λxs=>xs.push y)).get? b=some o:=λb o l e =>
     (fG M.heap _ (du l)).trans e
    refine⟨m',hm,i+1,S,ys++[vy],us++[y],_,?_,?_,b3,b4,q,r3.append (.cons ry .nil),w8⟩
    .exact b1.turned nb b4 (by rw[eL];exact aQ (cm _)) (.inr (by rw[c8];exact ao _)) cne λp D=>by rw[a9]at D;cases D
    .exact T.keep _ _ _ b2 λb l o e=>nb b o (P b l) e
 have m:=c0 _ rfl;rw[ee]at m;exact codeAny_compStart_list m (T.self _ 0 _ _ _ c3 m)
def a4C(a:a5A scope=true):scope.kind=.function/\∀x∈scope.names,scope.names.lookup x.1=some x.2:=by
 unfold a5A at a;rw[aO]at a;exact⟨by simpa using a.1,λx b=>by simpa using aS.mp a.2 x b⟩
def Inv.clos(I:Inv X qK σ H s)(a:C0 scope X.env.scope=true):closureFor scope X.env=pure (a2H scope X.env):=b4D λx d c=>by
 have q:=aS.mp a x d;rw[c]at q;have b:(X.env.scope.names.lookup x.1==some .cell || X.env.scope.names.lookup x.1==some .free)=true:=by simpa using q
 rw[Bool.or_eq_true]at b;exact I.ok.has x.1 (b.imp (λz=>bj.mp z) λz=>bj.mp z)
def b5T{tg b e:Expr}{j:qA Expr}{u:TI}{t:TT}(y:X.calm=true)(hi:PI X tg b u)
  (c:C0 scope X.env.scope=true) (f:N7 N src X.N scope=true) (i:a5A scope=true)
  (A:∀a C s H ex,PG (X.blk N scope a C s H ex) tg g) (D:∀a C s H ex,PIf (X.blk N scope a C s H ex) j t) (z:∀a C s H ex,PE (X.blk N scope a C s H ex) e te)
  (hs:∀x,foldedSetIterable b X.env x=pure x:=by intro _;rfl):PE X (.ListComp e [⟨tg,b,j,0⟩] scope pos) (a6u src u g t te):=by
 intro qK s σ H Q I h;obtain⟨d,n⟩:=a4C i;rw[eval_ListComp];refine wpAny_comprehension_free (use:=none) rfl hs (I.clos c) d (λx E B=>by rw[<-B];exact n x E) (a4W (RR:=compPost (model X.prog X.w) X.A X.xe none (EP X qK σ Q)) y hi c f i A D z I h ?_);intro s2 L H2 J fp a K σ4 ys M k v f2 r p l G F q;obtain⟨m,o,_⟩:=r.loc;exact⟨m,o,λh' w=>⟨.ref s2.heap.objs.size,_,Inv.unblock v f2 (ez _) (ao _) (aQ (cm _)) r p l G F w,rfl,q⟩⟩
def b5A{y:Str}{u r:Pos}{tg f j:Expr}{l:qA Expr}{wi:TI}{tt:TT}
  (hN:X.N.Nodup) (hy:X.N[i]?=some y) (Y:Loc X.env.scope y)
  (hc:X.calm=true) (hi:PI X tg f wi) (n:C0 scope X.env.scope=true) (B:N7 N src X.N scope=true) (F:a5A scope=true)
  (hg:∀d C s H ex,PG (X.blk N scope d C s H ex) tg g) (ht:∀d C s H ex,PIf (X.blk N scope d C s H ex) l tt) (S:∀d C s H ex,PE (X.blk N scope d C s H ex) j te)
  (W:swapsWith (.ListComp j [⟨tg,f,l,0⟩] scope pos) (some (.Name y u)) r.line X.env=pure true:=by rfl) (hs:∀x,foldedSetIterable f X.env x=pure x:=by intro _;rfl)
  (hf:X.fn y=true∨X.env.scope.names.lookup y=some .local:=by first|exact .inl rfl|exact .inr rfl|assumption) :
  PS X (.Assign [.Name y u] (.ListComp j [⟨tg,f,l,0⟩] scope pos) r) (b0I (a6u src wi g tt te) (B0 i)):=by
 intro qK s σ H D I h;obtain⟨t,T⟩:=a4C F;rw[exec_Assign_Name_used _ _ _ _ W];refine aa (wpAny_standAt (aa ?_));show wpAny _ X.A (do let _ <-comprehension (.ListComp j [⟨tg,f,l,0⟩] scope pos) scope X.env _ (newList []) false (eval f X.env) (some (assign (.Name y u) X.env))) _ _ s;refine aa (cX (wpAny_comprehension_free (use:=some (assign (.Name y u) X.env)) (Q:=λ_ s'=>SP X qK D .next s') rfl hs (I.clos n) t (λx Y hk=>by rw[<-hk];exact T x Y)
  (a4W (RR:=compPost (model X.prog X.w) X.A X.xe (some (assign (.Name y u) X.env)) (λ_ s'=>SP X qK D .next s')) hc hi n B F hg ht S I h ?_)) (λ_ s' hq=>ae (ae hq)) λ_ _ e=>e)
 intro s2 s4 H2 H4 fp d pl σ4 ys us k w f2 L Z M r4 hz q;obtain⟨m,V,_⟩:=L.loc;have E:s4.heap.Ns (s2.heap.objs.size+1) m:=V;have O:H4 (s2.heap.objs.size+1)=none:=L.free;have J:=Inv.unblock w f2 (ez _) (ao _) (aQ (cm _)) L Z M r4 hz (Heap.SameBut.refl _ _);have K:s2.heap.objs.size+1≠X.env.locals:=cR (cg w.lt);have G:∀x c,X.env.cells.lookup x=some c->c≠s2.heap.objs.size+1:=λx c e=>by
  obtain⟨v,z⟩:=w.cell x c e;exact aQ (cg z.lt)
 show wpAny _ X.A (assign (.Name y u) X.env (.ref s2.heap.objs.size)) _ _ s4;refine wpAny_assign_Name (a4z (v:=.ref s2.heap.objs.size) J hN hy Y rfl (λs' I' hb=>?_) hf);obtain⟨a,sb,P⟩:=hb;have A:s2.heap.objs.size+1≠a:=by
  rcases P with rfl|P
  .exact K
  .exact(G _ _ P).symm
 refine⟨m,E.sameBut sb A,λh' R=>⟨_,_,I'.turned (t':=s'.toks) (it:=s2.heap.objs.size+1) (λb o U e=>R.extBut b o U e) ?_ K (.inr (ba w.sz (ez _))) G λp hp=>?_,q⟩⟩
 .rw[A3 (cR (cm _))];exact O
 .exact aQ (cg (aI (w.pin p hp).1))
def SqAt(k:Bool)(h:Heap)(l:qE)(xs:Array qB):Prop:=match k with|true=>h.IsTuple l xs|false=>h.IsList l xs
def ItAt(k:Bool)(h:Heap)(i l:qE)(n:Nat):Prop:=match k with|true=>h.IsTupleIter i l n|false=>h.IsListIter i l n
def b9p:Bool->String|true => "tuple_iterator" | false => "list_iterator"
def P7(k:Bool)(l:qE):Obj:={cls:=.type (b9p k),data:=.fields #[.ref l,.int 0 0]}
def ItAt.extBut{k:Bool}{h h':Heap}{i l b:qE}{n:Nat}(x:ItAt k h i l n)(hs:Heap.ExtBut b h h')(a:i≠b):ItAt k h' i l n:=by
 cases k
 .exact Heap.IsListIter.extBut x hs a
 .exact Heap.IsTupleIter.extBut x hs a
def ItAt.at{k:Bool}{h h':Heap}{i l:qE}{n:Nat}(x:ItAt k h i l n)(e:∀o,h.get? i=some o->h'.get? i=some o):ItAt k h' i l n:=by
 cases k
 .exact Heap.IsListIter.at x e
 .exact Heap.IsTupleIter.at x e
def ItAt.get{i:qE}(x:ItAt k h i l n):∃o,h.get? i=some o/\o.data=.fields #[.ref l,.int n 0]:=by
 cases k<;>obtain⟨o,e,c,d⟩:=x<;>exact⟨o,e,d⟩
def SqAt.extBut{k:Bool}{h h':Heap}{l b:qE}{xs:Array qB}(x:SqAt k h l xs)(hs:Heap.ExtBut b h h')(a:l≠b):SqAt k h' l xs:=by
 cases k
 .exact Heap.IsList.extBut x hs a
 .exact Heap.IsTuple.extBut x hs a
def SqAt.at{xs:Array qB}(x:SqAt k h l xs)(e:∀o,h.get? l=some o->h'.get? l=some o):SqAt k h' l xs:=by
 cases k<;>obtain⟨o,q,r⟩:=x<;>exact⟨o,e o q,r⟩
def SqAt.get{xs:Array qB}(x:SqAt k h l xs):∃o,h.get? l=some o:=by
 cases k<;>obtain⟨o,q,r⟩:=x<;>exact⟨o,q⟩
def a2B{t:qE}{x:qB}(a:s.heap.IsTupleIter it t i)(g:s.heap.IsTuple t items)(h:items[i]?=some x)
  (e:∀h',h'.IsTupleIter it t (i+1)->Heap.SameBut it s.heap h'->Q x {s with heap:=h'}):wpAny (model prog w) A (Builtin.SmallTypes.nextOf (.ref it)) Q E s:=by
 obtain⟨o,b,f,hd⟩:=id a;obtain⟨k,d,_,j,c⟩:=g;unfold Builtin.SmallTypes.nextOf;refine aa (bA (name:=Str.ofString "__next__") a.typeIs dJ
  (bF dJ a.typeIs F.entry_tuple_iterator_next ?_ (F.args_tuple_iterator_next_1 _)))
 show wpAny _ _ (field (.ref it) 0>>=_) _ _ s;refine aa (bQ b hd (x:=.ref t) rfl ?_);show wpAny _ _ (if (Value.ref t==Value.none)=true then _ else _) _ _ s;rw[au (show ¬((Value.ref t==Value.none)=true)from aY)];show wpAny _ _ (field (.ref it) 1>>=_) _ _ s;refine aa (bQ b hd (x:=.int i 0) rfl ?_);show wpAny _ _ (seqItems? (.ref t)>>=_) _ _ s;refine aa (cN d c ?_);simp only[bf,h];refine aa (dS b hd (by simp) (ae ⟨x,rfl,ae (e _ ?_ (bZ ..))⟩));exact⟨_,cH _ b (eM (cS hd _)),(fB ..).trans f,by
  rw[cS hd];simp[rawInt]⟩
def a3A{t:qE}(g:A.handled=none)(b:s.heap.IsTupleIter it t i)(j:s.heap.IsTuple t items)(k:items[i]?=none)
  (h:∀h' e,Heap.ExtBut it s.heap h'->(∃o,h'.get? e=some o/\o.cls=.type "StopIteration")->E (.ref e) {s with heap:=h'}) :
  wpAny (model prog w) A (Builtin.SmallTypes.nextOf (.ref it)) Q E s:=by
 obtain⟨o,d,l,hd⟩:=id b;obtain⟨p,f,_,n,c⟩:=j;unfold Builtin.SmallTypes.nextOf;refine aa (bA (name:=Str.ofString "__next__") b.typeIs dJ
  (bF dJ b.typeIs F.entry_tuple_iterator_next ?_ (F.args_tuple_iterator_next_1 _)))
 show wpAny _ _ (field (.ref it) 0>>=_) _ _ s;refine aa (bQ d hd (x:=.ref t) rfl ?_);show wpAny _ _ (if (Value.ref t==Value.none)=true then _ else _) _ _ s;rw[au (show ¬((Value.ref t==Value.none)=true)from aY)];show wpAny _ _ (field (.ref it) 1>>=_) _ _ s;refine aa (bQ d hd (x:=.int i 0) rfl ?_);show wpAny _ _ (seqItems? (.ref t)>>=_) _ _ s;refine aa (cN f c ?_);simp only[bf,k];refine aa (dP (aa (dS d hd (by simp) ?_)));show wpAny _ _ (newExc (.type "StopIteration") []>>=_) _ _ _;refine aa ?_;simp only[newExc,newTuple];refine aa (bz ?_ (by size_fits));refine aa (m:=firstArgMember _ _) (wpAny_of_eq (a:=Value.none) (by first|rfl | (simp only[firstArgMember];rfl)) ?_);refine bz ?_ (by size_fits);simp only[raiseNew];refine aa (wpAny_handled ?_)
 first|rw[show A.in1.handled=none from g]|rw[g]
 refine aa (ae (wpAny_throw ?_));exact h _ _ (((bZ ..).extBut.push _).push _) ⟨_,aF _ rfl,rfl⟩
def a1i{x:qB}(a:ItAt k s.heap it l i)(c:SqAt k s.heap l items)(d:items[i]?=some x)
  (b:∀h',ItAt k h' it l (i+1)->Heap.SameBut it s.heap h'->Q x {s with heap:=h'}):wpAny (model prog w) A (Builtin.SmallTypes.nextOf (.ref it)) Q E s:=by
 cases k
 .exact wpAny_nextOf_list_item a c d b
 .exact a2B a c d b
def a5n(c:A.handled=none)(a:ItAt k s.heap it l i)(d:SqAt k s.heap l items)(f:items[i]?=none)
  (b:∀h' e,Heap.ExtBut it s.heap h'->(∃o,h'.get? e=some o/\o.cls=.type "StopIteration")->E (.ref e) {s with heap:=h'}) :
  wpAny (model prog w) A (Builtin.SmallTypes.nextOf (.ref it)) Q E s:=by
 cases k
 .exact wpAny_nextOf_list_end c a d f b
 .exact a3A c a d f b
def M7(b:SqAt k s.heap l items)(a:Q (.ref s.heap.objs.size) {s with heap:=s.heap.push (P7 k l)}):wpAny (model prog w) A (pyIter (.ref l)) Q E s:=by
 cases k
 .exact fA b a
 .exact wpAny_pyIter_tuple b a
def b2g{z TI TO g k:qE}{p:Nat}{xs ys:Array qB}{x y a b:qB}(D:ZipApart z TI TO f g k l)
  (hz:IsZip s.heap z TI TO .none) (t:IsPair s.heap TI (.ref f) (.ref g)) (u:IsPair s.heap TO a b)
  (h1:ItAt k1 s.heap f k n) (h2:ItAt k2 s.heap g l p) (B:SqAt k1 s.heap k xs) (C:SqAt k2 s.heap l ys) (G:xs[n]?=some x) (H:ys[p]?=some y)
  (F:∀h',IsZip h' z TI TO (rawInt s.heap.objs.size)->IsPair h' TO x y->ItAt k1 h' f k (n+1)->ItAt k2 h' g l (p+1)->IsPair h' s.heap.objs.size x y->h'.objs.size=s.heap.objs.size+1 ->
   (∀c o,c≠z->c≠TO->c≠f->c≠g->s.heap.get? c=some o->h'.get? c=some o)->Q (.ref s.heap.objs.size) {s with heap:=h'}) :
  wpAny (model prog w) A (Builtin.«zip.__next__» ⟨[.ref z],[]⟩) (λfin s'=>∃v,fin=.done (.ret v)/\Q v s') E s:=by
 show wpAny _ _ (field (.ref z) 2>>=_) _ _ _;refine aa (bQ hz rfl (x:=.bool false) rfl ?_);show wpAny _ _ (field (.ref z) 3>>=_) _ _ _;refine aa (bQ hz rfl (x:=.ref TI) rfl ?_);refine aa (cN t rfl ?_);show wpAny _ _ (Builtin.SmallTypes.ownedTupleIsFree (.ref z)>>=_) _ _ _;refine aa ?_;unfold Builtin.SmallTypes.ownedTupleIsFree;refine aa (bQ hz rfl (x:=.none) rfl (ae ?_));simp only[e_];refine aa (dP ?_);refine aa (bQ hz rfl (x:=.ref TO) rfl ?_);refine aa (cp hz (by simp) λh₁ hz₁ hs₁=>?_);replace hz₁:IsZip h₁ z TI TO .ellipsis:=hz₁;refine aa ?_;simp only[List.zipIdx_cons,List.zipIdx_nil,List.forIn_cons,List.forIn_nil];refine aa (aa (wpAny_onRaise ?_));show wpAny _ _ (Builtin.SmallTypes.nextOf (.ref f)>>=_) _ _ _;refine aa (a1i (h1.extBut hs₁.extBut D.i1z) (B.extBut hs₁.extBut D.l1z) G λh₂ h1₂ hs₂=>ae ?_);have hTO₂:IsPair h₂ TO a b:=hs₂.extBut _ _ D.TOi1 (hs₁.extBut _ _ D.TOz u);refine aa (cN hTO₂ rfl ?_);refine aa (fR hTO₂ λh₃ hTO₃ hs₃=>?_);replace hTO₃:IsPair h₃ TO x b:=hTO₃;refine aa (wpAny_letGo (ae ?_));refine aa (aa (wpAny_onRaise ?_));show wpAny _ _ (Builtin.SmallTypes.nextOf (.ref g)>>=_) _ _ _;refine aa (a1i (((h2.extBut hs₁.extBut D.i2z).extBut hs₂.extBut D.i12.symm).extBut hs₃.extBut D.TOi2.symm)
  (((C.extBut hs₁.extBut D.l2z).extBut hs₂.extBut D.l2i1).extBut hs₃.extBut D.l2TO) H λh₄ h2₄ hs₄=>ae ?_)
 have hTO₄:IsPair h₄ TO x b:=hs₄.extBut _ _ D.TOi2 hTO₃;refine aa (cN hTO₄ rfl ?_);refine aa (fR hTO₄ λh₅ hTO₅ hs₅=>?_);replace hTO₅:IsPair h₅ TO x y:=hTO₅;refine aa (wpAny_letGo (ae (ae ?_)));refine aa (cN hTO₅ rfl ?_);refine aa (wpAny_newTuple ?_);have i:h₅.objs.size=s.heap.objs.size:=by rw[hs₅.1,hs₄.1,hs₃.1,hs₂.1,hs₁.1]
 have hz₅:IsZip h₅ z TI TO .ellipsis:=hs₅.extBut _ _ D.TOz.symm (hs₄.extBut _ _ D.i2z.symm (hs₃.extBut _ _ D.TOz.symm (hs₂.extBut _ _ D.i1z.symm hz₁)));have hk₅:∀c o,c≠z->c≠TO->c≠f->c≠g->s.heap.get? c=some o->h₅.get? c=some o:=λc o h m q r e =>
  hs₅.extBut _ _ m (hs₄.extBut _ _ r (hs₃.extBut _ _ m (hs₂.extBut _ _ q (hs₁.extBut _ _ h e))))
 have h1₅:ItAt k1 h₅ f k (n+1):=((h1₂.extBut hs₃.extBut D.TOi1.symm).extBut hs₄.extBut D.i12).extBut hs₅.extBut D.TOi1.symm;have h2₅:ItAt k2 h₅ g l (p+1):=h2₄.extBut hs₅.extBut D.TOi2.symm;have d:z<h₅.objs.size:=aI hz₅;show wpAny _ _ (Builtin.SmallTypes.ownedTupleHandOut (.ref z) (.ref h₅.objs.size)>>=_) _ _ _;refine aa ?_;unfold Builtin.SmallTypes.ownedTupleHandOut;have hz₆:IsZip (h₅.push {cls:=.type "tuple",data:=.seq #[x,y]}) z TI TO .ellipsis:=ag _ hz₅;refine aa (cp hz₆ (by simp) λh₇ hz₇ hs₇=>?_);replace hz₇:IsZip h₇ z TI TO (rawInt h₅.objs.size):=hz₇;refine cp hz₇ (by simp) λh₈ hz₈ hs₈=>?_;replace hz₈:IsZip h₈ z TI TO (rawInt h₅.objs.size):=hz₈;have up:∀c o,c≠z->h₅.get? c=some o->h₈.get? c=some o:=λc o h e=>hs₈.extBut _ _ h (hs₇.extBut _ _ h (ag _ e));have hT₈:IsPair h₈ h₅.objs.size x y:=hs₈.extBut _ _ (cR d) (hs₇.extBut _ _ (cR d) (aF _ rfl));have j:h₈.objs.size=h₅.objs.size+1:=by rw[hs₈.1,hs₇.1,bt]
 rw[i]at hz₈ hT₈ j;refine ae ⟨_,rfl,?_⟩;show Q (.ref h₅.objs.size) _;rw[i];exact F h₈ hz₈ (up _ _ D.TOz hTO₅) (h1₅.at λo e=>up _ o D.i1z e) (h2₅.at λo e=>up _ o D.i2z e) hT₈ j λc o h m q r e=>up c o h (hk₅ c o h m q r e)
def b4U{z TI TO m v y:qE}{B C:Nat}{xs ys:Array qB}{a b:qB}{Q:Fin->qC->Prop}(H:A.handled=none)(D:ZipApart z TI TO l m v y)
  (hz:IsZip s.heap z TI TO .none) (p:IsPair s.heap TI (.ref l) (.ref m)) (q:IsPair s.heap TO a b)
  (h1:ItAt k1 s.heap l v B) (h2:ItAt k2 s.heap m y C) (k:SqAt k1 s.heap v xs) (t:SqAt k2 s.heap y ys) (j:xs[B]?=none∨ys[C]?=none)
  (G:∀h' e,(∀c o,c≠z->c≠TO->c≠l->c≠m->s.heap.get? c=some o->h'.get? c=some o)->(∃o,h'.get? e=some o/\o.cls=.type "StopIteration")->E (.ref e) {s with heap:=h'}) :
  wpAny (model prog w) A (Builtin.«zip.__next__» ⟨[.ref z],[]⟩) Q E s:=by
 show wpAny _ _ (field (.ref z) 2>>=_) _ _ _;refine aa (bQ hz rfl (x:=.bool false) rfl ?_);show wpAny _ _ (field (.ref z) 3>>=_) _ _ _;refine aa (bQ hz rfl (x:=.ref TI) rfl ?_);refine aa (cN p rfl ?_);show wpAny _ _ (Builtin.SmallTypes.ownedTupleIsFree (.ref z)>>=_) _ _ _;refine aa ?_;unfold Builtin.SmallTypes.ownedTupleIsFree;refine aa (bQ hz rfl (x:=.none) rfl (ae ?_));simp only[e_];refine aa (dP ?_);refine aa (bQ hz rfl (x:=.ref TO) rfl ?_);refine aa (cp hz (by simp) λh₁ hz₁ hs₁=>?_);replace hz₁:IsZip h₁ z TI TO .ellipsis:=hz₁;refine aa ?_;simp only[List.zipIdx_cons,List.zipIdx_nil,List.forIn_cons,List.forIn_nil];refine aa (aa (wpAny_onRaise ?_));show wpAny _ _ (Builtin.SmallTypes.nextOf (.ref l)>>=_) _ _ _;cases u:xs[B]? with
 |none =>
  refine aa (a5n H (h1.extBut hs₁.extBut D.i1z) (k.extBut hs₁.extBut D.l1z) u λh₂ e hs₂ r=>?_);obtain⟨F,d,f⟩:=r;have hz₂:IsZip h₂ z TI TO .ellipsis:=hs₂ _ _ D.i1z.symm hz₁;have g:e≠z:=λx=>by subst x;rw[hz₂]at d;cases d;simp at f
  refine cp hz₂ (by simp) λh₃ _ hs₃=>G h₃ e (λc o i _ n _ x=>hs₃.extBut _ _ i (hs₂ _ _ n (hs₁.extBut _ _ i x))) ⟨F,hs₃.extBut _ _ g d,f⟩
 |some x =>
  have K:ys[C]?=none:=by rcases j with h|h;rw[u]at h;cases h;exact h
  refine aa (a1i (h1.extBut hs₁.extBut D.i1z) (k.extBut hs₁.extBut D.l1z) u λh₂ h1₂ hs₂=>ae ?_);have hTO₂:IsPair h₂ TO a b:=hs₂.extBut _ _ D.TOi1 (hs₁.extBut _ _ D.TOz q);refine aa (cN hTO₂ rfl ?_);refine aa (fR hTO₂ λh₃ hTO₃ hs₃=>?_);refine aa (wpAny_letGo (ae ?_));refine aa (aa (wpAny_onRaise ?_));show wpAny _ _ (Builtin.SmallTypes.nextOf (.ref m)>>=_) _ _ _;refine aa (a5n H (((h2.extBut hs₁.extBut D.i2z).extBut hs₂.extBut D.i12.symm).extBut hs₃.extBut D.TOi2.symm)
   (((t.extBut hs₁.extBut D.l2z).extBut hs₂.extBut D.l2i1).extBut hs₃.extBut D.l2TO) K λh₄ e hs₄ r=>?_)
  obtain⟨F,d,f⟩:=r;have hz₄:IsZip h₄ z TI TO .ellipsis:=hs₄ _ _ D.i2z.symm (hs₃.extBut _ _ D.TOz.symm (hs₂.extBut _ _ D.i1z.symm hz₁));have g:e≠z:=λx=>by subst x;rw[hz₄]at d;cases d;simp at f
  refine cp hz₄ (by simp) λh₅ _ hs₅=>G h₅ e (λc o i I n J x=>hs₅.extBut _ _ i (hs₄ _ _ J (hs₃.extBut _ _ I (hs₂.extBut _ _ n (hs₁.extBut _ _ i x))))) ⟨F,hs₅.extBut _ _ g d,f⟩
abbrev zH1(k1:Bool)(h:Heap)(l1:qE):Heap:=h.push (P7 k1 l1)
abbrev zH2(k1 k2:Bool)(h:Heap)(l1 l2:qE):Heap:=(zH1 k1 h l1).push (P7 k2 l2)
abbrev zH3(k1 k2:Bool)(h:Heap)(l1 l2:qE):Heap:=(zH2 k1 k2 h l1 l2).push {cls:=.type "tuple",data:=.seq #[.ref h.objs.size,.ref (zH1 k1 h l1).objs.size]}
abbrev zH4(k1 k2:Bool)(h:Heap)(l1 l2:qE):Heap:=(zH3 k1 k2 h l1 l2).push {cls:=.type "tuple",data:=.seq #[.none,.none]}
abbrev zH5(k1 k2:Bool)(h:Heap)(l1 l2:qE):Heap:=(zH4 k1 k2 h l1 l2).push {cls:=.type "zip",data:=.fields #[.none,.bool false,.bool false,.ref (zH2 k1 k2 h l1 l2).objs.size,.ref (zH3 k1 k2 h l1 l2).objs.size]}
def b4S(a b:qE)(xs ys:Array qB) :
  Meets (Builtin.«zip.__new__» ⟨[.type "zip",.ref a,.ref b],[]⟩) (λ_ R s=>SqAt k1 s.heap a xs/\SqAt k2 s.heap b ys /\
   R (.ok (.ret (.ref (zH4 k1 k2 s.heap a b).objs.size))) {s with heap:=zH5 k1 k2 s.heap a b}) :=
 .of_wp λprog w A R s h=>by
  obtain⟨k,g,d,tk,os⟩:=s;obtain⟨i,j,h⟩:=h;have l:=sub_zip;have c:SqAt k1 (Shared.heap ⟨k,g,d,tk,os⟩) a xs:=i;have f:SqAt k2 (Shared.heap ⟨k.push (P7 k1 a),g,d,tk,os⟩) b ys:=j.at λo e=>ag _ e
  wp_walk using M7 c,M7 f
  exact⟨_,rfl,h⟩
def b2h{xs ys:Array qB}(e:SqAt k1 s.heap a xs)(f:SqAt k2 s.heap b ys)
  (h:∀h',IsZip h' (s.heap.objs.size+4) (s.heap.objs.size+2) (s.heap.objs.size+3) .none->IsPair h' (s.heap.objs.size+2) (.ref s.heap.objs.size) (.ref (s.heap.objs.size+1)) ->
   IsPair h' (s.heap.objs.size+3) .none .none->ItAt k1 h' s.heap.objs.size a 0->ItAt k2 h' (s.heap.objs.size+1) b 0->h'.objs.size=s.heap.objs.size+5 ->
   (∀c o,s.heap.get? c=some o->h'.get? c=some o)->Q (.ref (s.heap.objs.size+4)) {s with heap:=h'}) :
  wpAny (model prog w) A (call (.type "zip") [.ref a,.ref b]) Q E s:=by
 refine callType_new F.called_zip (by decide) (F.typeCall_zip_2 _ _) (F.newCall_zip_2 _ _) (λg=>F.args_object_init_3 g _ _) F.entry_zip_new
  (b4S (k1:=k1) (k2:=k2) a b xs ys) ⟨e,f,?_⟩
 have i:(zH1 k1 s.heap a).objs.size=s.heap.objs.size+1:=bt ..;have j:(zH2 k1 k2 s.heap a b).objs.size=s.heap.objs.size+2:=by rw[bt,i]
 have k:(zH3 k1 k2 s.heap a b).objs.size=s.heap.objs.size+3:=by rw[bt,j]
 have l:(zH4 k1 k2 s.heap a b).objs.size=s.heap.objs.size+4:=by rw[bt,k]
 have r:(zH5 k1 k2 s.heap a b).objs.size=s.heap.objs.size+5:=by rw[bt,l]
 have d:(zH5 k1 k2 s.heap a b).get? (zH4 k1 k2 s.heap a b).objs.size=some _:=aF _ rfl;have p:(zH5 k1 k2 s.heap a b).get? (zH3 k1 k2 s.heap a b).objs.size=some _:=ag _ (aF _ rfl);have n:(zH5 k1 k2 s.heap a b).get? (zH2 k1 k2 s.heap a b).objs.size=some _:=ag _ (ag _ (aF _ rfl));have m:(zH5 k1 k2 s.heap a b).get? (zH1 k1 s.heap a).objs.size=some (P7 k2 b):=ag _ (ag _ (ag _ (aF _ rfl)));have q:(zH5 k1 k2 s.heap a b).get? s.heap.objs.size=some (P7 k1 a):=ag _ (ag _ (ag _ (ag _ (aF _ rfl))));show _/\_;rw[j,k,l]at d;rw[i,j]at n;rw[k]at p;rw[i]at m;rw[l];refine⟨⟨_,d,rfl⟩,h _ d n p ?_ ?_ r λc o x =>
  ag _ (ag _ (ag _ (ag _ (ag _ x))))⟩
 .cases k1<;>exact⟨_,q,rfl,rfl⟩
 .cases k2<;>exact⟨_,m,rfl,rfl⟩
def SqK(k:Bool)(K:qF)(H:Hp)(a:qE)(xs:qA V):Prop:=match k with|true=>SqT K H a xs|false=>SqL K H a xs
def Inv.sqk(I:Inv X qK σ H s)(h:SqK k X.K H a xs):∃its:qA qB,Vals xs its/\SqAt k s.heap a its.toArray/\xs.length<=sizeLine:=by
 cases k
 .obtain⟨its,r,p,z⟩:=I.list h;exact⟨its,r,p.isList,z⟩
 .obtain⟨its,r,p,z⟩:=I.tuple h;exact⟨its,r,p,z⟩
def Inv.sqk_inj{ys:qA V}(I:Inv X qK σ H s)(h:SqK k X.K H a xs)(h':SqK k X.K H a ys):xs=ys:=by
 cases k
 .exact I.list_inj h h'
 .exact I.tuple_inj h h'
def Itz(K:qF)(k1 k2:Bool)(a b:qE):It :=
 ⟨λi H=>∃xs ys x y,SqK k1 K H a xs/\SqK k2 K H b ys/\xs[i]?=some x/\ys[i]?=some y,
  λi H v H'=>∃p x y,v=.ref p/\H p=none/\H'=upd H p (.tup [x,y])/\(∀xs,SqK k1 K H a xs->xs[i]?=some x)/\∀ys,SqK k2 K H b ys->ys[i]?=some y,
  λi H=>∃xs ys,SqK k1 K H a xs/\SqK k2 K H b ys/\(xs.length<=i∨ys.length<=i)⟩
structure ZTurn(k1 k2:Bool)(z TI TO i1 i2 a b:qE)(i:Nat)(f0:qB)(h:Heap):Prop where
 zz:IsZip h z TI TO f0
 ti:IsPair h TI (.ref i1) (.ref i2)
 to:∃u v,IsPair h TO u v
 t1:ItAt k1 h i1 a i
 t2:ItAt k2 h i2 b i
structure ZNe(z TI TO i1 i2:qE):Prop where
 TIz:TI≠z
 TOz:TO≠z
 i1z:i1≠z
 i2z:i2≠z
 TITO:TI≠TO
 TIi1:TI≠i1
 TIi2:TI≠i2
 TOi1:TO≠i1
 TOi2:TO≠i2
 i12:i1≠i2
def Inv.turnedT{ch:qA qE}{p:qE}{o:HO}(I:Inv X qK σ H s)(h:∀b∈ch,a2l X qK H b)(hp:s.heap.objs.size=p)(k:∀b o,b∉ch->s.heap.get? b=some o->h'.get? b=some o)
  (new:ObjOk X.prog X.w (upd H p o) h' p o):Inv X qK σ (upd H p o) {s with heap:=h'}:=by
 have l:H p=none:=I.hok.fresh (Nat.le_of_eq hp);have f:∀b u,H b=some u->b∉ch:=λb u e z=>by rw[(h b z).1]at e;cases e
 have a:∀b u,H b=some u->b≠p:=λb u e z=>by rw[z,l]at e;cases e
 have i:∀b u,s.heap.get? b=some u->b≠p:=λb u e=>by
  rw[<-hp];exact aQ (aI e)
 refine I.step (g':=s.gens) (d':=s.drawn) (t':=s.toks) (ch:=ch) (λb g=>?_) (λb o _ _ d e _=>k b o d e) (λb o _ _ d e _=>⟨o.slots,k b o d e⟩) (λb u _ e n=>by rw[A3 (i b u e)];exact n)
  (λb o d e=>⟨o,k b o d e⟩) (λb xs e=>by rw[A3 (a b _ e)];exact e) (λb u v e=>by rw[A3 (a b _ e)];exact e) (λb ps e=>⟨#[],by rw[A3 (a b _ e),e];simp⟩) (λm j=>?_) (λb u e=>?_) I.bare
 .obtain⟨_,h1,_,h3,h4,h5⟩:=h b g;exact⟨h3,h1,h4,h5⟩
 .obtain⟨o,es,ep,ho,r⟩:=j;exact⟨o,es,ep,k _ o (λz=>(h _ z).2.1 rfl) ho,r⟩
 .by_cases g:b=p
  .subst g;rw[A0]at e;cases e;exact new
  .rw[A3 g]at e;refine(I.hok b u e).stay (λc v d q=>k c v ?_ q) (λc q=>by rw[A3 (a c _ q)];exact q) λc xs q=>by rw[A3 (a c _ q)];exact q
   rcases d with z|z
   .rw[z];exact f b u e
   .exact f c _ z
def Inv.turnedL{ch:qA qE}(I:Inv X qK σ H s)(f:∀b∈ch,a2l X qK H b)(k:∀b o,b∉ch->s.heap.get? b=some o->h'.get? b=some o):Inv X qK σ H {s with heap:=h'}:=by
 have d:∀b u,H b=some u->b∉ch:=λb u e z=>by rw[(f b z).1]at e;cases e
 refine I.step (g':=s.gens) (d':=s.drawn) (t':=s.toks) (ch:=ch) (λb g=>?_) (λb o _ _ a e _=>k b o a e) (λb o _ _ a e _=>⟨o.slots,k b o a e⟩) (λb u _ e n=>n)
  (λb o a e=>⟨o,k b o a e⟩) (λb xs e=>e) (λb u v e=>e) (λb ps e=>⟨#[],by rw[e];simp⟩) (λm h=>?_) (λb u e=>?_) I.bare
 .obtain⟨_,h1,_,h3,h4,h5⟩:=f b g;exact⟨h3,h1,h4,h5⟩
 .obtain⟨o,es,ep,ho,r⟩:=h;exact⟨o,es,ep,k _ o (λz=>(f _ z).2.1 rfl) ho,r⟩
 .refine(I.hok b u e).stay (λc v a q=>k c v ?_ q) (λc q=>q) λc xs q=>q;rcases a with z|z
  .rw[z];exact d b u e
  .exact d c _ z
def Inv.apart{o:Obj}(I:Inv X qK σ H s)(hs:SqK k X.K H a xs)(h:a2l X qK H b):a≠b:=by
 rintro rfl;have c:∀{u:HO},Rd H a u->False:=λr=>by
  rcases r with r|⟨o,r⟩<;>rw[h.1]at r<;>cases r
 have d:∀{f:Obj},X.K.lookup a=some f->False:=λe=>by
  have g:=I.mod.kin a _ e;rcases h.2.2.2.1 with z|z
  .exact I.ok.noex _ _ g z
  .exact absurd (aL (aI (I.ok.bs _ _ g).1) z) (bR _)
 cases k
 .rcases hs with r|⟨f,_,_,e,_⟩
  .exact c r
  .exact d e
 .rcases hs with r|⟨f,_,_,e,_⟩
  .exact c r
  .exact d e
def b2m{kt:Nat}{tp:Pos}{z TI TO j:qE}(D:ZNe z TI TO j l) :
  Turn P w K (.Tuple es kt tp) (Itz K k1 k2 a b) [z,TI,TO,j,l] z (λi h=>ZTurn k1 k2 z TI TO j l a b i .none h) where
 mem:=by simp
 obj:=λi h st c f=>by
  simp only[aD,bB,cL]at f;rcases f with rfl|rfl|rfl|rfl|rfl
  .exact⟨_,st.zz,λv z=>by cases z⟩
  .exact⟨_,st.ti,λv z=>by cases z⟩
  .obtain⟨u,v,q⟩:=st.to;exact⟨_,q,λv z=>by cases z⟩
  .obtain⟨o,e,d⟩:=st.t1.get;exact⟨o,e,λv z=>by rw[d]at z;cases z⟩
  .obtain⟨o,e,d⟩:=st.t2.get;exact⟨o,e,λv z=>by rw[d]at z;cases z⟩
 keep:=λi h h' st k=>⟨k z (by simp) _ st.zz,k TI (by simp) _ st.ti,let ⟨u,v,q⟩:=st.to;⟨u,v,k TO (by simp) _ q⟩,st.t1.at λo e=>k j (by simp) o e,st.t2.at λo e=>k l (by simp) o e⟩
 item:=by
  intro X N hw M f i qK s σ H E I t st O;subst N hw M;obtain⟨xs,ys,x,y,n,p,hx,hy⟩:=O;obtain⟨us,Y,V,zu⟩:=I.sqk n;obtain⟨ws,C,W,zw⟩:=I.sqk p;obtain⟨u,hu,Z⟩:=Y.get hx;obtain⟨v,hv,a0⟩:=C.get hy;have g:∀c∈[z,TI,TO,j,l],a≠c/\b≠c:=λc f=>⟨I.apart (o:=default) n (t c f),I.apart (o:=default) p (t c f)⟩;have L:ZipApart z TI TO j l a b:=⟨D.TIz,D.TOz,D.i1z,D.i2z,D.TITO,D.TIi1,D.TIi2,D.TOi1,D.TOi2,D.i12,(g z (by simp)).1,(g TO (by simp)).1,(g j (by simp)).1,(g l (by simp)).1,(g z (by simp)).2,(g TO (by simp)).2,(g j (by simp)).2,(g l (by simp)).2⟩;obtain⟨ua,ub,r⟩:=st.to;have G:s.TypeIs (.ref z) "zip":=⟨_,st.zz,rfl⟩;unfold pyNext;refine aa (dq (bA (name:=Str.ofString "__next__") G fS
   (bF fS G F.entry_zip_next
    (b2g L st.zz st.ti r st.t1 st.t2 V W (x:=u) (y:=v) (by simpa using hu) (by simpa using hv) λh' a1 a2 a3 a4 a5 a6 a7=>ae ?_) (F.args_zip_next_1 _))))
  refine⟨_,rfl,?_⟩;refine wpAny_letOwnedTupleGo_zip (s:={s with heap:=h'}) a1 λh2 S m=>?_;have ne:∀c∈[z,TI,TO,j,l],c≠s.heap.objs.size:=λc f e=>by
   have:∃o,s.heap.get? c=some o:=by
    simp only[aD,bB,cL]at f;rcases f with rfl|rfl|rfl|rfl|rfl
    .exact⟨_,st.zz⟩
    .exact⟨_,st.ti⟩
    .exact⟨_,r⟩
    .obtain⟨o,e,d⟩:=st.t1.get;exact⟨o,e⟩
    .obtain⟨o,e,d⟩:=st.t2.get;exact⟨o,e⟩
   obtain⟨o,q⟩:=this;exact absurd (aI q) (by rw[e];exact bR _)
  have B:H s.heap.objs.size=none:=I.hok.fresh (ao _);have U:IsPair h2 s.heap.objs.size u v:=m.extBut _ _ (ne z (by simp)).symm a5;have kk:∀c o,c∉[z,TI,TO,j,l]->s.heap.get? c=some o->h2.get? c=some o:=λc o f e=>by
   simp only[aD,bB,cL,not_or]at f;exact m.extBut _ _ f.1 (a7 c o f.1 f.2.2.1 f.2.2.2.1 f.2.2.2.2 e)
  have I2:Inv X qK σ (upd H s.heap.objs.size (.tup [x,y])) {s with heap:=h2} :=
   I.turnedT (ch:=[z,TI,TO,j,l]) t rfl kk ⟨by show 2<=sizeLine;decide,[u,v],.cons Z (.cons a0 .nil),⟨_,U,rfl,0,rfl⟩⟩
  refine⟨.ref s.heap.objs.size,_,I2,rfl,⟨_,x,y,rfl,B,rfl,λzs R=>?_,λzs R=>?_⟩,⟨S,m.extBut _ _ D.TIz (a7 _ _ D.TIz D.TITO D.TIi1 D.TIi2 st.ti),⟨u,v,m.extBut _ _ D.TOz a2⟩,a3.extBut m.extBut D.i1z,a4.extBut m.extBut D.i2z⟩,λc f=>?_⟩
  .rw[I.sqk_inj R n];exact hx
  .rw[I.sqk_inj R p];exact hy
  .rw[A3 (ne c f)];exact(t c f).1
 done:=by
  intro X N hw M f i qK s σ H E I t st O;subst N hw M;obtain⟨xs,ys,n,p,J⟩:=O;obtain⟨us,Y,V,zu⟩:=I.sqk n;obtain⟨ws,C,W,zw⟩:=I.sqk p;have l1:=Y.length;have l2:=C.length;have g:∀c∈[z,TI,TO,j,l],a≠c/\b≠c:=λc f=>⟨I.apart (o:=default) n (t c f),I.apart (o:=default) p (t c f)⟩;have L:ZipApart z TI TO j l a b:=⟨D.TIz,D.TOz,D.i1z,D.i2z,D.TITO,D.TIi1,D.TIi2,D.TOi1,D.TOi2,D.i12,(g z (by simp)).1,(g TO (by simp)).1,(g j (by simp)).1,(g l (by simp)).1,(g z (by simp)).2,(g TO (by simp)).2,(g j (by simp)).2,(g l (by simp)).2⟩;obtain⟨ua,ub,r⟩:=st.to;have G:s.TypeIs (.ref z) "zip":=⟨_,st.zz,rfl⟩;unfold pyNext;refine aa (dq (bA (name:=Str.ofString "__next__") G fS
   (bF fS G F.entry_zip_next (b4U (I.ok.hd f) L st.zz st.ti r st.t1 st.t2 V W ?_ λh' e hk he=>?_) (F.args_zip_next_1 _))))
  .rcases J with q|q
   .exact .inl (by simp;omega)
   .exact .inr (by simp;omega)
  .obtain⟨o,ho,f⟩:=he;refine aa (eT (T:="StopIteration") (b:=true) ⟨o,ho,f⟩ isSubtype_stop ?_);refine ae ⟨rfl,I.turnedL (ch:=[z,TI,TO,j,l]) t λc o f e=>?_⟩;simp only[aD,bB,cL,not_or]at f;exact hk c o f.1 f.2.2.1 f.2.2.2.1 f.2.2.2.2 e
 self:=λA i s Q E st h=>wpAny_pyIter_zip st.zz h
def nne{a b:Nat}(h:a≠b):@Ne qE a b:=h
def zne(n:Nat):ZNe (n+4) (n+2) (n+3) n (n+1) :=
 ⟨nne (by omega),nne (by omega),nne (by omega),nne (by omega),nne (by omega),nne (by omega),nne (by omega),nne (by omega),nne (by omega),nne (by omega)⟩
def b9t(K:qF)(ta:TA):TI:=λσ H R=>ta σ H λvs H1=>∃k1 k2 a b,vs=[.ref a,.ref b]/\(∃xs,SqK k1 K H1 a xs)/\(∃ys,SqK k2 K H1 b ys)/\R (Itz K k1 k2 a b) H1
def b8k{u:Nat}{A:Pos}{a b:Expr}{ta:TA}{p:Pos}(m:Gl X "zip")(n:X.mg "zip"=none)(l:PA X [a,b] ta)(i:bootBuiltins "zip"=some (.type "zip"))
  (hs:starEach [a,b] X.env=[(false,eval a X.env),(false,eval b X.env)]:=by rfl) (g:starEach [b] X.env=[(false,eval b X.env)]:=by rfl) :
  PI X (.Tuple es u A) (.Call (.Name "zip" p) [a,b] [] pos) (b9t X.K ta):=by
 intro qK s σ H R I h;refine Call_ (a1R I m n i (dw (thn (l pos qK s σ H _ I h) λB s1 ⟨vs,H1,d,y,x⟩=>?_) (by rw[hs,g]) (by rw[g];rfl)));obtain⟨k1,k2,J,K,e,⟨xs,o⟩,⟨ys,t⟩,q⟩:=x;subst e;cases y with
 |cons r rr =>
  cases rr with
  |cons r' rr =>
   cases rr;cases r;cases r';obtain⟨B,L,v,O⟩:=d.sqk o;obtain⟨M,z,w,P⟩:=d.sqk t;refine b2h v w λh' k C D E F N G=>?_;refine wpAny_pyIter_zip (s:={s1 with heap:=h'}) k ?_;refine⟨s1.heap.objs.size+4,[s1.heap.objs.size+4,s1.heap.objs.size+2,s1.heap.objs.size+3,s1.heap.objs.size,s1.heap.objs.size+1],_,_,H1,rfl,d.kept (t':=s1.toks) G,b2m (zne _),
    ⟨k,C,⟨_,_,D⟩,E,F⟩,λc j=>?_,q⟩
   have f:s1.heap.objs.size<=c:=by
    simp only[aD,bB,cL]at j;rcases j with rfl|rfl|rfl|rfl|rfl
    .exact cf _ _
    .exact cf _ _
    .exact cf _ _
    .exact ao _
    .exact cf _ _
   exact d.fpOk f (d.hok.fresh f)
def a3c{I:qE}(b:A.handled=none)(a:l≠I) :
  Walks prog w A I [I,l] [I] items.size (λi v=>items[i]?=some v) (λi h=>ItAt k h I l i/\SqAt k h l items):=by
 cases k
 .exact Walks.list b I l a items
 .exact Walks.tuple b I l a items
def trV:V->Bool
 |.bl b=>b
 |.int i=>i != 0
 |.non=>false
 |_=>true
def a4Q:V->Bool
 |.bl _=>true
 |.int _=>true
 |.non=>true
 |_=>false
def a2o{x:V}{v:qB}{Q:Bool->qC->Prop}(r:RelV x v)(f:a4Q x=true)(h:Q (trV x) s):wpAny (model prog w) A (truthy v) Q E s:=by
 cases x with
 |non=>cases r;exact truthy_none h
 |bl b=>cases r;exact dm h
 |int i=>obtain⟨t,rfl⟩:=r;exact PySem.P.truthy_int h
 |_=>cases f
def a4F(xs:qA α)(p:α->Bool)(d:α):(List.range xs.length).all (λi=>p (xs.getD i d))=xs.all p:=by
 rw[cz,aS,aS];constructor
 .intro h x hx;obtain⟨i,hi,rfl⟩:=bS.mp hx;have:=h i (aZ.mpr hi);simpa[ak,hi]using this
 .intro h i hi;have a:=aZ.mp hi;simpa[ak,a]using h xs[i] (cM a)
def b0V(xs:qA α)(p:α->Bool)(d:α):(List.range xs.length).any (λi=>p (xs.getD i d))=xs.any p:=by
 have:=a4F xs (λx=>!p x) d;rw[<-List.not_any_eq_all_not,<-List.not_any_eq_all_not]at this;simpa using this
def a9F(xs:qI):∀n,n<=xs.length->preSum (λi=>xs.getD i 0) n=(xs.take n).sum
 |0,_=>by simp[preSum]
 |n+1,h=>by
  have this:xs[n]?=some xs[n]:=ai (by omega);have e:xs.take (n+1)=xs.take n++[xs[n]]:=by rw[bg,this];rfl
  rw[preSum,a9F xs n (by omega),e,List.sum_append];simp[ak,this]
abbrev RL:=qA V->Hp->VK->Prop
def b8a(K:qF):RL:=λxs H Q=>∃(k:Bool) (p:qE) (ys:qA V),xs=[.ref p]/\SqK k K H p ys/\ys.all a4Q=true/\Q (.bl (ys.all trV)) H
def b7Z(K:qF):RL:=λxs H Q=>∃(k:Bool) (p:qE) (ys:qA V),xs=[.ref p]/\SqK k K H p ys/\ys.all a4Q=true/\Q (.bl (ys.any trV)) H
def b7V(K:qF):RL:=λxs H Q=>∃(k:Bool) (p:qE) (ns:qI),xs=[.ref p]/\SqK k K H p (ns.map V.int)/\Q (.int ns.sum) H
def a8C(h:SqAt k s.heap l items):ItAt k (s.heap.push (P7 k l)) s.heap.objs.size l 0/\SqAt k (s.heap.push (P7 k l)) l items:=by
 refine⟨?_,h.at λo e=>ag _ e⟩;cases k<;>exact⟨_,aF _ rfl,rfl,rfl⟩
def a3G(h:SqAt k s.heap l items):l≠s.heap.objs.size:=by
 obtain⟨o,e⟩:=h.get;exact aQ (aI e)
def a3J{c:Obj}(a:∀b o,b∉[s.heap.objs.size]->(s.heap.push c).get? b=some o->h'.get? b=some o):∀b o,s.heap.get? b=some o->h'.get? b=some o:=λb o e =>
 a b o (λz=>by have:=aI e;rw[aB.mp z]at this;exact bR _ this) (ag _ e)
def b4I(m:X.calm=true):E2 X (.builtin "all") (b8a X.K):=by
 intro qK s σ H xs y Q I w h;obtain⟨k,p,ys,rfl,hs,n,q⟩:=h;obtain⟨u,rfl,t⟩:=w.one;cases t;obtain⟨its,c,d,x⟩:=I.sqk hs;have o:X.A.in1.handled=none:=I.ok.hd m;refine call_all_walk (M7 d ?_);refine⟨s.heap.objs.size,_,_,_,_,_,λi=>trV (ys.getD i .non),rfl,a3c (k:=k) (l:=p) (items:=its.toArray) o (a3G d),a8C d,?_,λh' tk r=>?_⟩
 .intro i v s' Q' E' hv hq;have b:its[i]?=some v:=by simpa using hv
  obtain⟨hi,_⟩:=aG.mp b;have a:i<ys.length:=by rw[c.length];exact hi
  have g:ys[i]?=some ys[i]:=ai a;obtain⟨z,f,j⟩:=c.get g;rw[b]at f;cases f;refine a2o j (aS.mp n _ (cM a)) ?_;simpa[ak,g]using hq
 .have e:(List.range its.toArray.size).all (λi=>trV (ys.getD i .non))=ys.all trV:=by
   rw[aC,<-c.length];exact a4F ys trV .non
  rw[e];exact⟨.bl _,H,I.kept (a3J r),rfl,q⟩
def b4H(m:X.calm=true):E2 X (.builtin "any") (b7Z X.K):=by
 intro qK s σ H xs y Q I w h;obtain⟨k,p,ys,rfl,hs,n,q⟩:=h;obtain⟨u,rfl,t⟩:=w.one;cases t;obtain⟨its,c,d,x⟩:=I.sqk hs;have o:X.A.in1.handled=none:=I.ok.hd m;refine call_any_walk (M7 d ?_);refine⟨s.heap.objs.size,_,_,_,_,_,λi=>trV (ys.getD i .non),rfl,a3c (k:=k) (l:=p) (items:=its.toArray) o (a3G d),a8C d,?_,λh' tk r=>?_⟩
 .intro i v s' Q' E' hv hq;have b:its[i]?=some v:=by simpa using hv
  obtain⟨hi,_⟩:=aG.mp b;have a:i<ys.length:=by rw[c.length];exact hi
  have g:ys[i]?=some ys[i]:=ai a;obtain⟨z,f,j⟩:=c.get g;rw[b]at f;cases f;refine a2o j (aS.mp n _ (cM a)) ?_;simpa[ak,g]using hq
 .have e:(List.range its.toArray.size).any (λi=>trV (ys.getD i .non))=ys.any trV:=by
   rw[aC,<-c.length];exact b0V ys trV .non
  rw[e];exact⟨.bl _,H,I.kept (a3J r),rfl,q⟩
def b4F(w:X.calm=true):E2 X (.builtin "sum") (b7V X.K):=by
 intro qK s σ H xs D Q I B h;obtain⟨k,p,a,rfl,hs,q⟩:=h;obtain⟨u,rfl,A⟩:=B.one;cases A;obtain⟨its,n,d,C⟩:=I.sqk hs;have m:=n.length;rw[aj]at m;have x:X.A.in1.handled=none:=I.ok.hd w;refine call_sum_walkG (M7 d ?_);refine⟨s.heap.objs.size,_,_,_,_,_,λi=>a.getD i 0,rfl,a3c (k:=k) (l:=p) (items:=its.toArray) x (a3G d),a8C d,λb j=>?_,?_,λh' tk t' y=>?_⟩
 .rw[bt];obtain⟨o,e⟩:=d.get;have f:=aI e;simp only[aD,bB,cL]at j;rcases j with rfl|rfl
  .exact cm _
  .exact cg f
 .intro i v hv;have c:its[i]?=some v:=by simpa using hv
  obtain⟨hi,_⟩:=aG.mp c;have z:(a.map V.int)[i]?=some (.int a[i]):=by rw[aV,ai (by omega)];rfl
  obtain⟨E,g,t,r⟩:=n.get z;rw[c]at g;cases g;exact⟨t,by rw[r];show _=Value.int (a.getD i 0) t;rw[ak,ai (by omega)];rfl⟩
 .have e:preSum (λi=>a.getD i 0) its.toArray.size=a.sum:=by
   rw[aC,<-m,a9F a _ (ao _),br]
  rw[e];exact⟨.int a.sum,H,I.kept (a3J y),⟨t',rfl⟩,q⟩
def b7Y(K:qF):RL:=λxs H Q=>∃x n t b,xs=[x,.ty n]/\TyOf K H x t/\PySem.W.kitOne K t (.type n)=some b/\Q (.bl b) H
def b4G:E2 X (.builtin "isinstance") (b7Y X.K):=by
 intro qK s σ H xs f Q I d h;obtain⟨x,n,t,b,rfl,ty,e,q⟩:=h;obtain⟨u,v,rfl,c,a⟩:=d.two;cases a;exact b1A I c ty e λtk=>⟨.bl b,H,I.tok tk,rfl,q⟩
def a9x(x:V)(b:Bool):Bool:=decide (x=.bl b)
def a7p{x:V}{v:qB}{b:Bool}{Q:Bool->qC->Prop}(r:RelV x v)(h:Q (a9x x b) s):wpAny M A (isSame v (.bool b)) Q E s:=by
 unfold isSame;cases x with
 |non=>cases r;exact ae h
 |bl c=>cases r;exact ae (by
   have e:a9x (.bl c) b=(Value.bool c==Value.bool b):=by cases c<;>cases b<;>rfl
   rw[e]at h;exact h)
 |int i=>obtain⟨t,rfl⟩:=r;exact ae h
 |str y=>obtain⟨t,rfl⟩:=r;exact ae h
 |byt y=>obtain⟨t,rfl⟩:=r;exact ae h
 |flt y=>obtain⟨t,rfl⟩:=r;exact ae h
 |ref p=>cases r;exact ae h
 |ty n=>cases r;exact ae h
def b1e{b:Bool}:OpR X (compareOp .IsNot) (λx y H Q=>y=.bl b/\Q (.bl (!a9x x b)) H):=by
 intro qK s σ H x y v u Q I a c h;obtain⟨rfl,q⟩:=h;cases c;unfold compareOp;exact aa (a7p a (ae ⟨.bl _,H,I,rfl,q⟩))
def b4M:bootBuiltins "len"=some (.builtin "len"):=boot_len
def b9D:bootBuiltins "zip"=some (.type "zip"):=by kernel_rfl
def b9H:bootBuiltins "all"=some (.builtin "all"):=by kernel_rfl
def b9G:bootBuiltins "any"=some (.builtin "any"):=by kernel_rfl
def b9E:bootBuiltins "sum"=some (.builtin "sum"):=by kernel_rfl
def b9I:bootBuiltins "abs"=some (.builtin "abs"):=by kernel_rfl
def a4t:bootBuiltins "isinstance"=some (.builtin "isinstance"):=by kernel_rfl
def a2i:bootBuiltins "sorted"=some (.builtin "sorted"):=by kernel_rfl
def Q3:bootBuiltins "tuple"=some (.type "tuple"):=by kernel_rfl
def b6P:bootBuiltins "list"=some (.type "list"):=by kernel_rfl
def a8U:bootBuiltins "int"=some (.type "int"):=by kernel_rfl
def b0t:bootBuiltins "bool"=some (.type "bool"):=by kernel_rfl
def b9F:bootBuiltins "set"=some (.type "set"):=by kernel_rfl
def b6Q:bootBuiltins "dict"=some (.type "dict"):=by kernel_rfl
def a1C{f:TT}{Q:VK}{J:It}(n:Nat)(a:Nat->qA V->Hp->Prop)(h0:a 0 [] H1)
  (hs:∀i ys H,i<n->a i ys H->J.go i H/\ys.length<sizeLine/\∀x H',J.yld i H x H'->g x (B5 src σ) H' λσ2 H2=>Sub (B5 src σ) σ2/\f σ2 H2 λb d=>if b=true then te σ2 d λv h=>a (i+1) (ys++[v]) h else a (i+1) ys d)
  (hd:∀ys H,a n ys H->J.stop n H/\ys.length<=sizeLine/\∀p,H p=none->Q (.ref p) (upd H p (.lst ys))):I0 src g f te σ Q J H1:=by
 refine⟨λi m ys H=>m=n-i/\i<=n/\a i ys H,⟨n,by omega,bq _,h0⟩,?_⟩;rintro i m ys H ⟨rfl,hi,p⟩;by_cases c:i<n
 .obtain⟨q1,q2,q3⟩:=hs i ys H c p;exact .inr ⟨q1,q2,a (i+1),λzs H' j=>⟨n-(i+1),by omega,rfl,c,j⟩,q3⟩
 .have e:i=n:=by omega
  subst e;exact .inl (hd ys H p)
def a8L{f:TT}{Q:VK}{lo:Int}(j:n<=sizeLine)(a:Nat->qA V->Hp->Prop)(h0:a 0 [] H1)
  (d:∀i ys H,a i ys H->ys.length<=i)
  (hs:∀i ys H,i<n->a i ys H->g (.int (lo+i)) (B5 src σ) H λσ2 H2=>Sub (B5 src σ) σ2/\f σ2 H2 λb c=>if b=true then te σ2 c λv h=>a (i+1) (ys++[v]) h else a (i+1) ys c)
  (hd:∀ys H,a n ys H->∀p,H p=none->Q (.ref p) (upd H p (.lst ys))):I0 src g f te σ Q (Itr lo n) H1 :=
 a1C n a h0 (λi ys H hi p=>⟨hi,by have:=d i ys H p;omega,λx H' y=>by obtain⟨e,y⟩:=y;subst e y;exact hs i ys _ hi p⟩)
  λys H p=>⟨ao _,ba (d n ys H p) j,hd ys H p⟩
def a0E{j:TT}{Q:VK}(m:xs.length<=sizeLine)(c:Nat->qA V->Hp->Prop)(h0:c 0 [] H1)
  (h:∀i ys H,i<=xs.length->c i ys H->SqL K H a xs/\ys.length<=i)
  (hs:∀i x ys H,xs[i]?=some x->c i ys H->g x (B5 src σ) H λσ2 H2=>Sub (B5 src σ) σ2/\j σ2 H2 λb f=>if b=true then te σ2 f λv k=>c (i+1) (ys++[v]) k else c (i+1) ys f)
  (hd:∀ys H,c xs.length ys H->∀p,H p=none->Q (.ref p) (upd H p (.lst ys))):I0 src g j te σ Q (Itl K a) H1 :=
 a1C xs.length c h0 (λi ys H hi p=>by
   obtain⟨d,l⟩:=h i ys H (cG hi) p;refine⟨⟨xs,xs[i],d,ai hi⟩,by omega,λx H' y=>?_⟩;obtain⟨e,y⟩:=y;subst e;exact hs i x ys _ (y xs d) p)
  λys H p=>by
   obtain⟨d,l⟩:=h _ ys H (ao _) p;exact⟨⟨xs,d,ao _⟩,by omega,hd ys H p⟩
def Q0{j:TT}{Q:VK}(m:xs.length<=sizeLine)(c:Nat->qA V->Hp->Prop)(h0:c 0 [] H1)
  (h:∀i ys H,i<=xs.length->c i ys H->SqT K H a xs/\ys.length<=i)
  (hs:∀i x ys H,xs[i]?=some x->c i ys H->g x (B5 src σ) H λσ2 H2=>Sub (B5 src σ) σ2/\j σ2 H2 λb f=>if b=true then te σ2 f λv k=>c (i+1) (ys++[v]) k else c (i+1) ys f)
  (hd:∀ys H,c xs.length ys H->∀p,H p=none->Q (.ref p) (upd H p (.lst ys))):I0 src g j te σ Q (Itt K a) H1 :=
 a1C xs.length c h0 (λi ys H hi p=>by
   obtain⟨d,l⟩:=h i ys H (cG hi) p;refine⟨⟨xs,xs[i],d,ai hi⟩,by omega,λx H' y=>?_⟩;obtain⟨e,y⟩:=y;subst e;exact hs i x ys _ (y xs d) p)
  λys H p=>by
   obtain⟨d,l⟩:=h _ ys H (ao _) p;exact⟨⟨xs,d,ao _⟩,by omega,hd ys H p⟩
def a0l{m:TT}{Q:VK}{zs:qA V}(B:xs.length<=sizeLine)(c:Nat->qA V->Hp->Prop)(h0:c 0 [] H1)
  (l:∀i ys H,i<=xs.length->i<=zs.length->c i ys H->SqK k1 K H a xs/\SqK k2 K H b zs/\ys.length<=i)
  (hs:∀i x z ys H p,xs[i]?=some x->zs[i]?=some z->c i ys H->H p=none->g (.ref p) (B5 src σ) (upd H p (.tup [x,z])) λσ2 H2=>Sub (B5 src σ) σ2/\m σ2 H2 λb k=>if b=true then te σ2 k λv n=>c (i+1) (ys++[v]) n else c (i+1) ys k)
  (hd:∀ys H,c (min xs.length zs.length) ys H->∀p,H p=none->Q (.ref p) (upd H p (.lst ys))):I0 src g m te σ Q (Itz K k1 k2 a b) H1 :=
 a1C (min xs.length zs.length) c h0 (λi ys H hi p=>by
   have h:i<xs.length:=by omega
   have j:i<zs.length:=by omega
   obtain⟨d,f,s⟩:=l i ys H (by omega) (by omega) p;refine⟨⟨xs,zs,xs[i],zs[i],d,f,ai h,ai j⟩,by omega,λx H' y=>?_⟩;obtain⟨r,t,A,e,o,q,u,w⟩:=y;subst e q;exact hs i t A ys _ r (u xs d) (w zs f) p o)
  λys H p=>by
   obtain⟨d,f,s⟩:=l _ ys H (by omega) (by omega) p;exact⟨⟨xs,zs,d,f,by omega⟩,by omega,hd ys H p⟩
def b6C{zs:qA V}{tb:TS}{D:Ends}(c:Nat->St->Hp->Prop)(h0:c 0 σ H)
  (o:∀i σ H,i<=xs.length->i<=zs.length->c i σ H->SqK k1 K H a xs/\SqK k2 K H b zs)
  (hs:∀i x z σ H p,xs[i]?=some x->zs[i]?=some z->c i σ H->H p=none->g (.ref p) σ (upd H p (.tup [x,z])) λσ2 H2=>tb {D with nx:=c (i+1),ct:=c (i+1),bk:=D.nx} σ2 H2) (hd:∀σ H,c (min xs.length zs.length) σ H->D.nx σ H) :
  ∃W:Nat->Nat->St->Hp->Prop,(∃m,W 0 m σ H)/\∀i m σ H,W i m σ H ->
   ((Itz K k1 k2 a b).stop i H/\D.nx σ H)∨((Itz K k1 k2 a b).go i H/\∃N:St->Hp->Prop,(∀σ' H',N σ' H'->∃k,k<m/\W (i+1) k σ' H')/\∀x H',(Itz K k1 k2 a b).yld i H x H'->g x σ H' λσ2 H2=>tb {D with nx:=N,ct:=N,bk:=D.nx} σ2 H2):=by
 refine⟨λi m σ H=>m=min xs.length zs.length-i/\i<=min xs.length zs.length/\c i σ H,⟨_,rfl,bq _,h0⟩,?_⟩;rintro i m σ H ⟨rfl,hi,p⟩;obtain⟨h,j⟩:=o i σ H (by omega) (by omega) p;by_cases f:i<min xs.length zs.length
 .have hi1:i<xs.length:=by omega
  have d:i<zs.length:=by omega
  refine .inr ⟨⟨xs,zs,xs[i],zs[i],h,j,ai hi1,ai d⟩,c (i+1),λσ' H' q=>⟨_,by omega,rfl,f,q⟩,λx H' y=>?_⟩;obtain⟨r,s,v,e,l,n,t,u⟩:=y;subst e n;exact hs i s v σ _ r (t xs h) (u zs j) p l
 .have e:i=min xs.length zs.length:=by omega
  subst e;exact .inl ⟨⟨xs,zs,h,j,by omega⟩,hd σ H p⟩
structure Ok(P:qG)(w:World)(K:qF)(mg:Str->qD qB)(base:Heap)(x:Str)(k:Nat)(ps:qA Str)(sp:Sp):Prop where
 ex:∃f fd,mg x=some (.ref f)/\PySem.W.keepIn K (.ref f)=true/\Binds K fd ps []/\FnOk P w K mg base CX0 k f fd ps sp
structure FunAt(K:qF)(mg:Str->qD qB)(x:Str)(st:Stmt)(ps:qA Str):Prop where
 ex:∃f fd,mg x=some (.ref f)/\Fun K x x st f fd/\Binds K fd ps []
section
variable {mg:Str->qD qB}{base:Heap}
def Ok.imp{x:Str}{k:Nat}{ps:qA Str}{sp sp':Sp}(O:Ok P w K mg base x k ps sp)(h:∀vs H Q E,sp' vs H Q E->sp vs H Q E):Ok P w K mg base x k ps sp':=by
 obtain⟨f,fd,h1,h2,a,b⟩:=O.ex;exact⟨f,fd,h1,h2,a,b.imp h⟩
def FunAt.ok{x:Str}{st:Stmt}{N ps:qA Str}{k:Nat}{sp:Sp}(F:FunAt K mg x st ps)(S:FnScope N ps (A1 st))(c:∀vs H Q E,sp vs H Q E->vs.length=ps.length)
  (b:∀(a:qB) (f:qE) (A:Around) (outer:qA Env) (s:qC) (H:Hp) (vs:qA V) (Q:VK) (E:XK),Room k (A.deeper (envOfC x (A1 st) s.heap.objs.size f a))->sp vs H Q E ->
   ∃t,PSs (L8 CX0 P w K mg base N x (A1 st) f a A outer s H E).nox (G1 st) t/\t {nx:=λ_ H'=>Q .non H',rt:=Q} (start N vs) H):Ok P w K mg base x (k+1) ps sp:=by
 obtain⟨f,fd,h1,h2,d⟩:=F.ex;exact⟨f,fd,h1,h2.kp,d,h2.ok S c λa=>b a f⟩
end
section
variable {k:Nat}{sp:Sp}{p:Pos}{e:Expr}{t:TA}
def b3u(O:Ok X.prog X.w X.K X.mg X.base x k ps sp)(j:Room k X.A)(i:Gl X x)(g:PA X (e::es) t)(a:(x==("__debug__" : Str))=false:=by decide)
  (h:starEach (e::es) X.env=(false,eval e X.env)::starEach es X.env:=by rfl) (b:(backTo pos (starEach es X.env)).any (·.1)=false:=by rfl):PE X (.Call (.Name x p) (e::es) [] pos) (a4y sp [] E0 t):=by
 obtain⟨f,fd,h1,h2,c,d⟩:=O.ex;exact a9H d j i h1 h2 c .nil a9I g a h b
end
inductive EqV(K:qF)(H:Hp):Nat->V->V->Bool->Prop
 |flat {n:Nat}{x y:V}(fx:a7u x=true) (fy:a7u y=true):EqV K H n x y (eqV x y)
 |tup {n:Nat}{a b:qE}{xs ys:qA V}(e:Nat->Bool) (ha:SqT K H a xs) (hb:SqT K H b ys) (he:∀j x y,xs[j]?=some x->ys[j]?=some y->EqV K H n x y (e j)) :
   EqV K H (n+1) (.ref a) (.ref b) ((List.range (min xs.length ys.length)).all e && xs.length==ys.length)
 |lst {n:Nat}{a b:qE}{xs ys:qA V}(e:Nat->Bool) (ha:SqL K H a xs) (hb:SqL K H b ys) (he:∀j x y,xs[j]?=some x->ys[j]?=some y->EqV K H n x y (e j)) :
   EqV K H (n+1) (.ref a) (.ref b) ((List.range (min xs.length ys.length)).all e && xs.length==ys.length)
def b4v:∀{x:V},a7u x=true->eqV x x=true
 |.non,_=>rfl
 |.bl b,_=>eU b
 |.int i,_=>eU i
 |.str y,_=>eU y
 |.byt _,h=>by cases h
 |.flt _,h=>by cases h
 |.ref _,h=>by cases h
 |.ty _,h=>by cases h
def EqV.same{x y:V}{b:Bool}(I:Inv X qK σ H s)(h:EqV X.K H n x y b):x=y->b=true:=by
 induction h with
 |flat fx fy=>rintro rfl;exact b4v fx
 |tup e c d g f =>
  intro z;cases z;have q:=I.tuple_inj c d;subst q;simp only[Nat.min_self,aO,eU,and_true,aS,aZ];intro j a;exact f j _ _ (ai a) (ai a) rfl
 |lst e c d g f =>
  intro z;cases z;have q:=I.list_inj c d;subst q;simp only[Nat.min_self,aO,eU,and_true,aS,aZ];intro j a;exact f j _ _ (ai a) (ai a) rfl
def E8{us:qA qB}{j:Nat}{u:qB}(r:Vals xs us)(h:us[j]?=some u):∃x,xs[j]?=some x/\RelV x u:=by
 obtain⟨c,_⟩:=aG.mp h;have a:j<xs.length:=by rw[r.length];exact c
 have b:xs[j]?=some xs[j]:=ai a;obtain⟨d,e,q⟩:=r.get b;rw[h]at e;cases e;exact⟨_,b,q⟩
def EqV.at{n:Nat}{x y:V}{b:Bool}(I:Inv X qK σ H s)(h:EqV X.K H n x y b):∀{A:Around}{u v:qB},A.units+n<cLine->RelV x u->RelV y v->SeqAt.EqAt A s u v b:=by
 induction h with
 |flat fx fy=>intro A u v _ l m;exact b9x l m fx fy
 |@tup n a b xs ys e g i q r =>
  intro A u v B l m;cases l;cases m;by_cases c:a=b
  .have:=(EqV.tup e g i q).same I (by rw[c]);rw[this,c];exact SeqAt.EqAt.same _
  .obtain⟨us,r1,p1,_⟩:=I.tuple g;obtain⟨d,k,p2,_⟩:=I.tuple i;rw[r1.length,k.length];refine SeqAt.EqAt.of_refs c ?_;have:=SeqAt.RcAt.tuples (A:=A) (s:=s) (e:=e) (show s.heap.IsTuple a us.toArray from p1) (show s.heap.IsTuple b d.toArray from p2) (by omega) (λj h1 h2=>?_)
   .simpa using this
   .have h1':us[j]?=some us.toArray[j]:=by simp at h1⊢
    have f:d[j]?=some d.toArray[j]:=by simp at h2⊢
    obtain⟨x,ex,t⟩:=E8 r1 h1';obtain⟨y,p,w⟩:=E8 k f;exact r j x y ex p (by show A.units+1+n<cLine;omega) t w
 |@lst n a b xs ys e g i q r =>
  intro A u v B l m;cases l;cases m;by_cases c:a=b
  .have:=(EqV.lst e g i q).same I (by rw[c]);rw[this,c];exact SeqAt.EqAt.same _
  .obtain⟨us,r1,p1,_⟩:=I.list g;obtain⟨d,k,p2,_⟩:=I.list i;rw[r1.length,k.length];refine SeqAt.EqAt.of_refs c ?_;by_cases o:us.length=d.length
   .have:=SeqAt.RcAt.lists (A:=A) (s:=s) (e:=e) p1.isList p2.isList (by simpa using o) (by omega) (λj h1 h2=>?_)
    .simpa[o]using this
    .have h1':us[j]?=some us.toArray[j]:=by simp at h1⊢
     have f:d[j]?=some d.toArray[j]:=by simp at h2⊢
     obtain⟨x,ex,t⟩:=E8 r1 h1';obtain⟨y,p,w⟩:=E8 k f;exact r j x y ex p (by show A.units+1+n<cLine;omega) t w
   .have:=SeqAt.RcAt.lists_lengths (A:=A) (s:=s) p1.isList p2.isList (by simpa using o) (by omega);have z:(us.length==d.length)=false:=by simpa using o
    rw[z,ft];exact this
def a6N(K:qF)(neg:Bool):R2:=λx y H Q=>∃n b,n<=50/\EqV K H n x y b/\(∃a c,x=.ref a/\y=.ref c)/\Q (.bl (if neg then !b else b)) H
def b8I(C:X.A.units+60<cLine):OpR X (compareOp .Eq) (a6N X.K false):=by
 intro qK s σ H x y v u Q I m o h;obtain⟨n,b,B,i,⟨a,c,rfl,rfl⟩,q⟩:=h;cases m;cases o;show wpAny _ _ (richCompare .Eq (.ref a) (.ref c)) _ _ s;have key:SeqAt.RcAt X.A s (.ref a) (.ref c) b:=by
  cases i with
  |flat fx fy=>cases fx
  |@tup n _ _ xs ys e t w i =>
   obtain⟨d,k,p1,_⟩:=I.tuple t;obtain⟨f,l,p2,_⟩:=I.tuple w;rw[k.length,l.length];have:=SeqAt.RcAt.tuples (A:=X.A) (s:=s) (e:=e) (show s.heap.IsTuple a d.toArray from p1) (show s.heap.IsTuple c f.toArray from p2) (by omega) (λj h1 h2=>?_)
   .simpa using this
   .have h1':d[j]?=some d.toArray[j]:=by simp at h1⊢
    have g:f[j]?=some f.toArray[j]:=by simp at h2⊢
    obtain⟨x,ex,m⟩:=E8 k h1';obtain⟨y,r,o⟩:=E8 l g;exact(i j x y ex r).at I (by show X.A.units+1+n<cLine;omega) m o
  |@lst n _ _ xs ys e t w i =>
   obtain⟨d,k,p1,_⟩:=I.list t;obtain⟨f,l,p2,_⟩:=I.list w;rw[k.length,l.length];by_cases p:d.length=f.length
   .have:=SeqAt.RcAt.lists (A:=X.A) (s:=s) (e:=e) p1.isList p2.isList (by simpa using p) (by omega) (λj h1 h2=>?_)
    .simpa[p]using this
    .have h1':d[j]?=some d.toArray[j]:=by simp at h1⊢
     have g:f[j]?=some f.toArray[j]:=by simp at h2⊢
     obtain⟨x,ex,m⟩:=E8 k h1';obtain⟨y,r,o⟩:=E8 l g;exact(i j x y ex r).at I (by show X.A.units+1+n<cLine;omega) m o
   .have:=SeqAt.RcAt.lists_lengths (A:=X.A) (s:=s) p1.isList p2.isList (by simpa using p) (by omega);have z:(d.length==f.length)=false:=by simpa using p
    rw[z,ft];exact this
 exact key _ _ _ _ ⟨.bl _,H,I,rfl,q⟩
def b8E(C:X.A.units+60<cLine):OpR X (compareOp .NotEq) (a6N X.K true):=by
 intro qK s σ H x y v u Q I m o h;obtain⟨n,b,B,i,⟨a,c,rfl,rfl⟩,q⟩:=h;cases m;cases o;show wpAny _ _ (richCompare .NotEq (.ref a) (.ref c)) _ _ s;have key:SeqAt.RcNeAt X.A s (.ref a) (.ref c) (!b):=by
  cases i with
  |flat fx fy=>cases fx
  |@tup n _ _ xs ys e t w i =>
   obtain⟨d,k,p1,_⟩:=I.tuple t;obtain⟨f,l,p2,_⟩:=I.tuple w;rw[k.length,l.length];have:=SeqAt.RcNeAt.tuples (A:=X.A) (s:=s) (e:=e) (show s.heap.IsTuple a d.toArray from p1) (show s.heap.IsTuple c f.toArray from p2) (by omega) (λj h1 h2=>?_)
   .simpa using this
   .have h1':d[j]?=some d.toArray[j]:=by simp at h1⊢
    have g:f[j]?=some f.toArray[j]:=by simp at h2⊢
    obtain⟨x,ex,m⟩:=E8 k h1';obtain⟨y,r,o⟩:=E8 l g;exact(i j x y ex r).at I (by show X.A.units+1+n<cLine;omega) m o
  |@lst n _ _ xs ys e t w i =>
   obtain⟨d,k,p1,_⟩:=I.list t;obtain⟨f,l,p2,_⟩:=I.list w;rw[k.length,l.length];by_cases p:d.length=f.length
   .have:=SeqAt.RcNeAt.lists (A:=X.A) (s:=s) (e:=e) p1.isList p2.isList (by simpa using p) (by omega) (λj h1 h2=>?_)
    .simpa[p]using this
    .have h1':d[j]?=some d.toArray[j]:=by simp at h1⊢
     have g:f[j]?=some f.toArray[j]:=by simp at h2⊢
     obtain⟨x,ex,m⟩:=E8 k h1';obtain⟨y,r,o⟩:=E8 l g;exact(i j x y ex r).at I (by show X.A.units+1+n<cLine;omega) m o
   .have:=SeqAt.RcNeAt.lists_lengths (A:=X.A) (s:=s) p1.isList p2.isList (by simpa using p) (by omega);have z:(d.length==f.length)=false:=by simpa using p
    rw[z,ft];exact this
 exact key _ _ _ _ ⟨.bl _,H,I,rfl,q⟩
def b6U{ns ms:qI}:((List.range (min ns.length ms.length)).all (λj=>decide (ns.getD j 0=ms.getD j 0)) && ns.length==ms.length)=decide (ns=ms):=by
 rw[cz];simp only[aO,aS,aZ,bH,bj];constructor
 .rintro⟨h1,h2⟩;refine dg h2 λi a b=>?_;have:=h1 i (by omega);simpa[ak,a,b]using this
 .rintro rfl;exact⟨λ_ _=>rfl,rfl⟩
def b4i{ns:qI}{j:Nat}{x:V}(h:(ns.map V.int)[j]?=some x):x=.int (ns.getD j 0)/\j<ns.length:=by
 rw[aV]at h;cases e:ns[j]? with
 |none=>rw[e]at h;cases h
 |some z =>
  rw[e]at h;obtain⟨a,_⟩:=aG.mp e;exact⟨by rw[ak,e];exact(bK h).symm,a⟩
def EqV.ints{ns ms:qI}(c:SqK k K H a (ns.map V.int))(d:SqK k K H b (ms.map V.int)):EqV K H 1 (.ref a) (.ref b) (decide (ns=ms)):=by
 have step:∀j x y,(ns.map V.int)[j]?=some x->(ms.map V.int)[j]?=some y->EqV K H 0 x y (decide (ns.getD j 0=ms.getD j 0)):=λj x y e f=>by
  obtain⟨rfl,_⟩:=b4i e;obtain⟨rfl,_⟩:=b4i f;have:=EqV.flat (K:=K) (H:=H) (n:=0) (x:=.int (ns.getD j 0)) (y:=.int (ms.getD j 0)) rfl rfl;rw[show eqV (.int (ns.getD j 0)) (.int (ms.getD j 0))=decide (ns.getD j 0=ms.getD j 0)from rfl]at this;exact this
 rw[<-b6U];cases k
 .have:=EqV.lst (λj=>decide (ns.getD j 0=ms.getD j 0)) c d step;simpa using this
 .have:=EqV.tup (λj=>decide (ns.getD j 0=ms.getD j 0)) c d step;simpa using this
def a5F:R2:=λx y H Q=>∃a b xs ys,x=.ref a/\y=.ref b/\H a=some (.tup xs)/\H b=some (.tup ys)/\xs.length+ys.length<=sizeLine/\∀p H',Same H H'->H' p=some (.tup (xs++ys))->Q (.ref p) H'
def b3w:OpR X (binaryOp .Add) a5F:=by
 intro qK s σ H x y v u Q I B C h;obtain⟨a,b,xs,ys,rfl,rfl,k,l,E,q⟩:=h;by_cases z:xs=[]
 .subst z;cases B;cases C;obtain⟨its,G,p1,_⟩:=I.tuple (.inl (.inl k));obtain⟨A,J,p2,_⟩:=I.tuple (.inl (.inl l));cases G;obtain⟨⟨cls,dd,data,sl⟩,w,t,n,hd⟩:=id p1;obtain⟨⟨r,j,i,m⟩,g,d,F,f⟩:=id p2;simp only at t hd d f;subst t hd d f;exact concat_meets ⟨_,w,rfl⟩ ⟨_,g,rfl⟩ noFill_tuple_add seq_tuple_add PySem.F.slot_tuple_add PySem.F.entry_tuple_add (PySem.F.args_tuple_add_2 _ _)
   (tuple_addW0 a b _ _ n F dd j sl m (by simp)) ⟨w,g,⟨.ref b,H,I,rfl,q b H (Same.refl H) l⟩⟩
 .refine b6a qK s σ H _ _ v u Q I B C ⟨a,b,xs,ys,rfl,rfl,.inl (.inl k),.inl (.inl l),z,E,λe=>?_,λ_ p D=>?_⟩
  .subst e;exact q a H (Same.refl H) (by rw[di];exact k)
  .exact q p _ (λc o e=>by rw[A3 (A8 e D)];exact e) A0
open PySem.AutoSeq1 (wpAny_loadPart')
def V2:fillsNumberSlot (.type "tuple") "mul"=pure false :=
 PySem.fillsNumberSlot_seq (id:="tuple.__mul__") (r:=some (.builtin "tuple.__rmul__")) eV.lookup (by decide +kernel) F.slot_tuple_rmul.lookup (by decide +kernel)
def a1o:seqRepeat? (.type "tuple")=pure (some (.builtin "tuple.__mul__")):=by
 unfold seqRepeat?;rw[PySem.seqSlot_of (T:="tuple") (name:="__mul__") (id:="tuple.__mul__") eV.lookup (by decide +kernel),PySem.seqSlot_of (T:="tuple") (name:="__rmul__") (id:="tuple.__rmul__") F.slot_tuple_rmul.lookup (by decide +kernel)];rfl
def a3r(a:Int)(t:Tok)(l:qE)(items:Array qB)(n:Nat)(dd:qD qE)(sl:Array (qD qB)) :
  Meets (Builtin.«int.__rmul__» ⟨[.int a t,.ref l],[]⟩) (λ_ R s=>s.heap.get? l=some {cls:=.type "tuple",dict:=dd,data:=.seq items n,slots:=sl}/\R (.ok (.ret Value.notImplemented)) s) :=
 .of_wp λprog w A R s h=>by obtain⟨c,g,d,tk,os⟩:=s;obtain⟨b,h⟩:=h;wp_walk;exact⟨_,rfl,h⟩
def a7U(l:qE)(items:Array qB)(n:Nat)(dd:qD qE)(sl:Array (qD qB))(u:Tok) :
  Meets (Builtin.«tuple.__mul__» ⟨[.ref l,.int 1 u],[]⟩) (λ_ R s=>s.heap.get? l=some {cls:=.type "tuple",dict:=dd,data:=.seq items n,slots:=sl}/\R (.ok (.ret (.ref l))) s) :=
 .of_wp λprog w A R s h=>by
  obtain⟨b,g,d,tk,os⟩:=s;obtain⟨a,h⟩:=h;have f1:=AutoSeq1.idx_int
  wp_walk using wpAny_loadPart' a
  exact⟨_,rfl,h⟩
def a7T(l:qE)(items:Array qB)(n:Nat)(dd:qD qE)(sl:Array (qD qB))(x:Int)(u:Tok)(e:items.isEmpty=false)(h1:1<x)(h2:¬(decide (x < -(2 ^ 63)) || decide (x ≥ 2 ^ 63))=true)
  (j:¬((items.size:Int)*x > (2 ^ 63-1) / 8)) (k:¬Builtin.Tuple.tupleTooMany ((items.size:Int)*x)=true) (hsz:(List.foldl (λb c=>b++c) #[] (List.replicate x.toNat items)).size<=sizeLine) :
  Meets (Builtin.«tuple.__mul__» ⟨[.ref l,.int x u],[]⟩) (λ_ R s=>s.heap.get? l=some {cls:=.type "tuple",dict:=dd,data:=.seq items n,slots:=sl} /\
   R (.ok (.ret (.ref s.heap.objs.size))) {s with heap:=s.heap.push {cls:=.type "tuple",data:=.seq (List.foldl (λb c=>b++c) #[] (List.replicate x.toNat items))}}) :=
 .of_wp λprog w A R s h=>by
  obtain⟨p,g,d,tk,os⟩:=s;obtain⟨a,h⟩:=h;have f1:=AutoSeq1.idx_int;have f:(x==1)=false:=by simp;omega
  have i:decide (x<=0)=false:=by simp;omega
  have m:¬((items.isEmpty || x==1)=true):=by rw[e,f];decide
  have o:¬((decide (x<=0) || items.isEmpty)=true):=by rw[e,i];decide
  wp_walk using wpAny_loadPart' a
  rw[au h2]
  wp_walk using wpAny_loadPart' a
  rw[au j]
  wp_walk using wpAny_loadPart' a
  first
   |exact⟨_,rfl,h⟩
   |(rw[au k];wp_walk using wpAny_loadPart' a;exact⟨_,rfl,h⟩)
def a3V{α:Type}(its:qA α):∀(k:Nat) (qN:qA α),List.foldl (λa b=>a++b) qN.toArray (List.replicate k its.toArray)=(qN++(List.replicate k its).flatten).toArray
 |0,qN=>by simp
 |k+1,qN=>by
  have e:qN.toArray++its.toArray=(qN++its).toArray:=by simp
  rw[bU,dH,e,a3V its k,bU,cY,aJ]
def b7q:R2:=λx y H Q=>∃a xs n,x=.ref a/\y=.int n/\H a=some (.tup xs)/\xs≠[]/\1<=n/\(xs.length:Int)*n<=(sizeLine:Int)/\∀p H',Same H H'->H' p=some (.tup (List.replicate n.toNat xs).flatten)->Q (.ref p) H'
def a9J:OpR X (binaryOp .Mult) b7q:=by
 intro qK s σ H x y v u Q I J K h;obtain⟨a,xs,n,rfl,rfl,l,i,M,N,q⟩:=h;cases J;obtain⟨t,rfl⟩:=K;obtain⟨its,r,p1,G⟩:=I.tuple (.inl (.inl l));obtain⟨⟨cls,dd,data,sl⟩,g,w,m,hd⟩:=id p1;simp only at w hd;subst w hd;have d:=r.length;have f:0<its.length:=by rw[<-d];exact fb.mpr i
 refine wpAny_binaryOp_repeat_ref (T:="tuple") (U:="int") (by decide) ⟨_,g,rfl⟩ (λs'=>typeIs_int s' n t) V2 F.fills_int_mul fT a1o F.slot_int_index.lookup
  (dv fT (typeIs_int s n t) F.entry_int_rmul (F.args_int_rmul_2 _ _) (a3r n t a its.toArray m dd sl) ⟨g,rfl,⟨_,g,rfl⟩,?_⟩)
 by_cases h1:n=1
 .subst h1;refine dv eV ⟨_,g,rfl⟩ F.entry_tuple_mul (F.args_tuple_mul_2 _ _) (a7U a its.toArray m dd sl t) ⟨g,.ref a,H,I,rfl,q a H (Same.refl H) ?_⟩;rw[l];simp
 .have e0:=a3V its n.toNat [];rw[cQ]at e0;have C:((List.replicate n.toNat its).flatten).length=n.toNat*its.length:=a9N its n.toNat;have p:n.toNat*its.length<=sizeLine:=by
   have L:((n.toNat*its.length:Nat):Int)=(xs.length:Int)*n:=by
    rw[d];push_cast;rw[Int.toNat_of_nonneg (by omega),fU]
   omega
  have hs:sizeLine=16777216:=a';have E:(its.toArray.size:Int)*n<=16777216:=by rw[aC,<-d];omega
  have D:n<=(its.toArray.size:Int)*n:=by
   have A:(1:Int)<=(its.toArray.size:Int):=by rw[aC];omega
   have:=cA A (show(0:Int)<=n by omega);omega
  refine dv eV ⟨_,g,rfl⟩ F.entry_tuple_mul (F.args_tuple_mul_2 _ _) (a7T a its.toArray m dd sl n t (by simp;intro z;rw[z]at f;exact bR _ f) (by omega) ?_ ?_ ?_ ?_) ⟨g,?_⟩
  .simp only[Bool.or_eq_true,bH,not_or];omega
  .omega
  .simp only[Builtin.Tuple.tupleTooMany,bH];omega
  .have e0':List.foldl (λj k=>j++k) #[] (List.replicate n.toNat its.toArray)=(List.replicate n.toNat its).flatten.toArray:=e0;rw[e0',aC,C];exact p
  .have e0':List.foldl (λj k=>j++k) #[] (List.replicate n.toNat its.toArray)=(List.replicate n.toNat its).flatten.toArray:=e0;rw[e0'];have B:H s.heap.objs.size=none:=I.hok.fresh (ao _);refine⟨.ref s.heap.objs.size,_,I.laid (t':=s.toks) (o:=.tup (List.replicate n.toNat xs).flatten) (λb O q=>ag _ q) (ao _) ?_,rfl,q _ _ (λc o e=>by rw[A3 (A8 e B)];exact e) A0⟩;exact⟨by rw[a9N,d];exact p,_,r.rep n.toNat,fi _ _⟩
end L2
namespace L2
open PySem PySem.Spec PyProof.Rows
variable {B:qA Stmt}{H H':Hp}{K:qF}{N:qA Str}{Q:VK}{X:Cx}{a b p:qE}{caps σ:St}{es:qA Expr}{g:TG}{i k n:Nat}{l:qA qE}{o:HO}{pos:Pos}{rss:LLI}{sp:Sp}{src:qA (qJ)}{st:Stmt}{ta te tl:TE}{tg:Expr}{v:V}{vs:qA V}{x:Str}{xs:qI}
section
def b5O(K:qF){t:TGs}(c:X.calm=true)(h:PGs X es t)(b:X.K=K:=by rfl)
  (d:(assignEach es X.env).length=n:=by rfl) (a:(assignEach es X.env).findIdx? (·.1)=none:=by rfl):PG X (.Tuple es k pos) (a7q K n t):=by
 subst b;exact b8m c h d a
def b3n(K:qF){l:Expr}(b:PE X l tl)(a:X.K=K:=by rfl):PI X tg l (b4k K tl):=by subst a;exact b5K b
def b5J(K:qF){l:Expr}(b:PE X l tl)(a:X.K=K:=by rfl):PI X tg l (b9u K tl):=by subst a;exact b8l b
def b5I(K:qF){h:Nat}{i:Pos}{a b:Expr}{ta:TA}{p:Pos}(f:Gl X "zip")(g:X.mg "zip"=none)(e:PA X [a,b] ta)(d:X.K=K:=by rfl)
  (hs:starEach [a,b] X.env=[(false,eval a X.env),(false,eval b X.env)]:=by rfl) (c:starEach [b] X.env=[(false,eval b X.env)]:=by rfl) :
  PI X (.Tuple es h i) (.Call (.Name "zip" p) [a,b] [] pos) (b9t K ta):=by subst d;exact b8k f g e b9D hs c
def b9W(K:qF)(ta:TE):TT:=λσ H Q=>ta σ H λx H'=>∃k,b9M K x H' k/\Q k H'
def b0Y(K:qF){a:Expr}(d:PE X a ta)(e:∀b,isTrue a X.env b=(do let v <-b;standAt a.pos;holding [v] (truthy v)))(c:X.K=K:=by rfl):PT X a (b9W K ta):=by
 subst c;exact b3d d e
def b4f(K:qF)(a:X.K=K:=by rfl):IxR X (b5w K):=by subst a;exact b6y
def b6x(K:qF)(a:X.K=K:=by rfl):IxR X (b7X K):=by subst a;exact b9o
def b2H(K:qF)(a:X.K=K:=by rfl):SlR X (b7W K):=by subst a;exact b5g
def b5f(K:qF)(a:X.K=K:=by rfl):SlR X (b3a K):=by subst a;exact b2G
def b8H(K:qF)(b:X.A.units+60<cLine)(a:X.K=K:=by rfl):OpR X (compareOp .Eq) (a6N K false):=by subst a;exact b8I b
def b8D(K:qF)(b:X.A.units+60<cLine)(a:X.K=K:=by rfl):OpR X (compareOp .NotEq) (a6N K true):=by subst a;exact b8E b
def b1Y(K:qF)(b:X.calm=true)(a:X.K=K:=by rfl):E2 X (.builtin "all") (b8a K):=by subst a;exact b4I b
def b1X(K:qF)(b:X.calm=true)(a:X.K=K:=by rfl):E2 X (.builtin "any") (b7Z K):=by subst a;exact b4H b
def b1Q(K:qF)(b:X.calm=true)(a:X.K=K:=by rfl):E2 X (.builtin "sum") (b7V K):=by subst a;exact b4F b
def b1U(K:qF)(a:X.K=K:=by rfl):E2 X (.builtin "isinstance") (b7Y K):=by subst a;exact b4G
def c0j(K:qF):RL:=λxs H Q=>∃p ys,xs=[.ref p]/\(SqL K H p ys∨SqT K H p ys)/\Q (.int ys.length) H
def b7s(K:qF):RL:=λxs H Q=>∃p ys,xs=[.ref p]/\(SqL K H p ys∨SqT K H p ys)/\∀l,H l=none->Q (.ref l) (upd H l (.lst ys))
def b2X(K:qF):RL:=λxs H Q=>∃p ys,xs=[.ref p]/\((SqL K H p ys/\∀l,H l=none->Q (.ref l) (upd H l (.tup ys)))∨(SqT K H p ys/\Q (.ref p) H))
def b1T(K:qF)(a:X.K=K:=by rfl):E2 X (.builtin "len") (c0j K):=by subst a;exact a6a
def a8Q(K:qF)(a:X.K=K:=by rfl):E2 X (.type "list") (b7s K):=by subst a;exact a5Z
def a7E(K:qF)(a:X.K=K:=by rfl):E2 X (.type "tuple") (b2X K):=by subst a;exact a4r
def c1b:RL:=λxs H Q=>∃i j,xs=[.int i,.int j]/\Q (.int (if j<i then j else i)) H
def c1c:RL:=λxs H Q=>∃i j,xs=[.int i,.int j]/\Q (.int (if j > i then j else i)) H
def c0k:RL:=λxs H Q=>(∃i,xs=[.int i]/\Q (.int i) H)∨∃k,xs=[.bl k]/\Q (.int (if k then 1 else 0)) H
def b1V:E2 X (.type "int") c0k:=b1W
variable {o e:Expr}{to:TE}{t:TA}{name:Str}{qP qM:Pos}{T id:String}{r:V->qA V->Hp->VK->Prop}
def a5G(K:qF)(l:PlainAttrs T)(f:Slot T name id)(g:typeOf (.builtin id)=pure (.type "method_descriptor"))(j:MtR X id r)(k:PE X o to)(i:PA X (e::es) t)(h:X.K=K:=by rfl)
  (b:attributeBase o name X.env (eval o X.env)=eval o X.env:=by rfl)
  (d:((backTo qM (starEach (e::es) X.env)).all (λx=>!x.1) && (backToKw qM (keywordEach [] X.env)).all (λx=>x.1.isSome)
   && decide ((e::es).length+([]:qA Keyword).length+(if ([]:qA Keyword).isEmpty then 0 else 1)<30))=true:=by rfl)
  (c:(qP.endLine==qM.line)=true:=by rfl) (hs:starEach (e::es) X.env=(false,eval e X.env)::starEach es X.env:=by rfl) (a:(backTo qM (starEach es X.env)).any (·.1)=false:=by rfl) :
  PE X (.Call (.Attribute o name qP) (e::es) [] qM) (tBM K T r to t):=by subst h;exact c0s l f g j k i b d c hs a
end
def IT(H:Hp)(v:V)(ns:qI):Prop:=∃a,v=.ref a/\H a=some (.tup (ns.map V.int))
def IT.same{ns:qI}(h:IT H v ns)(s:Same H H')   : IT H' v ns:=let ⟨a,e,q⟩:=h;⟨a,e,s a _ q⟩
def Same.upd(s:Same H H')(hp:H' p=none):Same H (upd H' p o):=λb u e=>by
 rw[A3 (A8 (s b u e) hp)];exact s b u e
def U8{u:HO}(a:H b=some u)(hp:H p=none):upd H p o b=some u:=by rw[A3 (A8 a hp)];exact a
def Off(l:qA qE)(H H':Hp):Prop:=∀b o,b∉l->H b=some o->H' b=some o
def Off.refl(l:qA qE)(H:Hp):Off l H H:=λ_ _ _ e=>e
def Off.trans{H1 H2:Hp}(a:Off l H H1)(b:Off l H1 H2):Off l H H2:=λc o d e=>b c o d (a c o d e)
def Same.off(s:Same H H'):Off l H H':=λb o _ e=>s b o e
def Off.upd(s:Off l H H')(hp:H' p=none):Off l H (upd H' p o):=λb u a e=>by
 rw[A3 (A8 (s b u a e) hp)];exact s b u a e
def Off.set(s:Off l H H')(hp:p∈l):Off l H (L2.upd H' p o):=λb u a e=>by
 rw[A3 (by rintro rfl;exact a hp)];exact s b u a e
def M5(ns:qI):(ns.map V.int).length=ns.length:=aj _
def T8{ns:qI}{x:V}(h:(ns.map V.int)[i]?=some x):∃z,ns[i]?=some z/\x=.int z:=by
 rw[aV]at h;cases e:ns[i]? with
 |none=>rw[e]at h;cases h
 |some z=>rw[e]at h;exact⟨z,rfl,(bK h).symm⟩
def N8{α β γ:Type}(f:α->β->γ){xs:qA α}{ys:qA β}{x:α}{y:β}(a:xs[i]?=some x)(b:ys[i]?=some y):(List.zipWith f xs ys).take (i+1)=(List.zipWith f xs ys).take i++[f x y]:=by
 have:(List.zipWith f xs ys)[i]?=some (f x y):=by rw[fM,a,b]
 rw[bg,this];rfl
def a6h{k1 k2:Bool}{ys:qI}(f:Int->Int->V)(t:SqK k1 K H a (xs.map V.int))(u:SqK k2 K H b (ys.map V.int))(w:xs.length<=1000)
  (c:∀H',Same H H'->SqK k1 K H' a (xs.map V.int)/\SqK k2 K H' b (ys.map V.int))
  (g:B5 src σ=none::none::caps) (l:∀x y H1 o,Same H H1->o (f x y) H1->te (some (.int x)::some (.int y)::caps) H1 o)
  (hd:∀H1 p,Same H H1->H1 p=none->Q (.ref p) (upd H1 p (.lst (List.zipWith f xs ys)))) :
  I0 src (a7q K 2 (Y9 (B0 0) (Y9 (B0 1) a8I))) V0 te σ Q (Itz K k1 k2 a b) H:=by
 have A:(1000:Nat)<=sizeLine:=by rw[a'];decide
 refine a0l (xs:=xs.map V.int) (zs:=ys.map V.int) (by rw[M5];omega) (λi zs H'=>Same H H'/\zs=(List.zipWith f xs ys).take i) ⟨Same.refl H,by simp⟩ (λi zs H' _ _ h=>⟨(c H' h.1).1,(c H' h.1).2,by rw[h.2];exact bL _ _⟩) ?_ ?_
 .rintro i x z zs H' p hx hy ⟨s,rfl⟩ hp;obtain⟨k,m,q⟩:=T8 hx;obtain⟨d,n,r⟩:=T8 hy;subst q r;clear hx hy;have s':Same H (upd H' p (.tup [.int k,.int d])):=s.upd hp;refine⟨p,[.int k,.int d],rfl,SqT.of A0,rfl,.int k,[.int d],rfl,.int d,[],rfl,rfl,?_⟩;rw[g];show Sub _ (some (.int k)::some (.int d)::caps)/\_;refine⟨⟨rfl,λj v e=>?_⟩,?_⟩
  .match j,e with
   |0,e=>cases e
   |1,e=>cases e
   |j+2,e=>exact e
  .exact l k d _ _ s' ⟨s',(N8 f m n).symm⟩
 .rintro zs H' ⟨s,rfl⟩ p hp;have e:(List.zipWith f xs ys).take (min (xs.map V.int).length (ys.map V.int).length)=List.zipWith f xs ys:=by
   rw[M5,M5,bJ];rw[cP];exact ao _
  rw[e];exact hd H' p s hp
def Sub.one:Sub (none::caps) (some v::caps):=⟨rfl,λj u e=>by
 match j,e with
 |0,e=>cases e
 |j+1,e=>exact e⟩
def a1p{e:TT}(h:n<=1000)(c:B5 src σ=none::caps)(a:Nat->qA V->Hp->Prop)(h0:a 0 [] H)(g:∀i ys H,a i ys H->ys.length<=i)
  (hs:∀i ys H,i<n->a i ys H->e (some (.int i)::caps) H λb d=>if b=true then te (some (.int i)::caps) d λv f=>a (i+1) (ys++[v]) f else a (i+1) ys d)
  (hd:∀ys H,a n ys H->∀p,H p=none->Q (.ref p) (upd H p (.lst ys))):I0 src (B0 0) e te σ Q (Itr 0 n) H:=by
 have j:(1000:Nat)<=sizeLine:=by rw[a'];decide
 refine a8L (by omega) a h0 g (λi ys H hi p=>?_) hd;show Sub _ ((B5 src σ).set 0 (some (.int (0+(i:Int)))))/\_;rw[c,eN];exact⟨Sub.one,hs i ys H hi p⟩
def a1f(f:Int->V)(j:xs.length<=1000)(b:∀H',Same H H'->SqT K H' a (xs.map V.int))(c:B5 src σ=none::caps)
  (e:∀x H1 g,x∈xs->Same H H1->g (f x) H1->te (some (.int x)::caps) H1 g) (hd:∀H1 p,Same H H1->H1 p=none->Q (.ref p) (upd H1 p (.lst (xs.map f)))):I0 src (B0 0) V0 te σ Q (Itt K a) H:=by
 have k:(1000:Nat)<=sizeLine:=by rw[a'];decide
 refine Q0 (xs:=xs.map V.int) (by rw[M5];omega) (λi ys H'=>Same H H'/\ys=(xs.take i).map f) ⟨Same.refl H,by simp⟩ (λi ys H' _ h=>⟨b H' h.1,by rw[h.2,aj];exact bL _ _⟩) ?_ ?_
 .rintro i x ys H' hx ⟨s,rfl⟩;obtain⟨z,d,rfl⟩:=T8 hx;show Sub _ ((B5 src σ).set 0 (some (.int z)))/\_;rw[c];refine⟨Sub.one,e z H' _ (aH d) s ⟨s,?_⟩⟩;rw[bg,d];simp
 .rintro ys H' ⟨s,rfl⟩ p hp;rw[M5,br];exact hd H' p s hp
def W8(f:Nat->V)(c:n<=1000)(a:B5 src σ=none::caps)(b:∀(i:Nat) H1 Q1,i<n->Same H H1->Q1 (f i) H1->te (some (.int i)::caps) H1 Q1)
  (hd:∀H1 p,Same H H1->H1 p=none->Q (.ref p) (upd H1 p (.lst ((List.range n).map f)))):I0 src (B0 0) V0 te σ Q (Itr 0 n) H:=by
 refine a1p c a (λi ys H'=>Same H H'/\ys=(List.range i).map f) ⟨Same.refl H,rfl⟩ (λi ys H' h=>by rw[h.2];simp) ?_ ?_
 .rintro i ys H' hi ⟨s,rfl⟩;refine b i H' _ hi s ⟨s,?_⟩;rw[List.range_succ,cu];rfl
 .rintro ys H' ⟨s,rfl⟩ p hp;exact hd H' p s hp
def Room.u60{A:Around}(r:Room k A):A.units+60<cLine:=by have:=r.un;omega
def V8{t u:TS}{D:Ends}(a:St->Hp->Prop)(fin:∀σ H,a σ H->u D σ H)(h:(∀σ H,a σ H->u D σ H)->t {D with nx:=u D} σ H):b7Q t u D σ H:=h fin
def b9U{a:Bool}{cs:qI}(c:∀d:VK,d (.ref b) H->te σ H d)(f:H b=some (.lst (cs.map V.int)))
  (q:∀p,H p=none->Q (.bl (if a then !decide (cs=[])else decide (cs=[]))) (upd H p (.lst []))):tOp (a6N K a) te (b4Z a2v) σ H Q :=
 c _ ⟨bq _,λp e=>⟨1,_,by decide,EqV.ints (k:=false) (ms:=[]) (SqL.of (U8 f e)) (SqL.of A0),⟨_,_,rfl,rfl⟩,q p e⟩⟩
def b9V{a:Bool}{Q:Bool->Hp->Prop}{cs:qI}(c:∀d:VK,d (.ref b) H->te σ H d)(e:H b=some (.lst (cs.map V.int)))
  (q:∀p,H p=none->Q (if a then !decide (cs=[])else decide (cs=[])) (upd H p (.lst []))):Z4 (tOp (a6N K a) te (b4Z a2v)) σ H Q :=
 b9U c e λp f=>⟨_,rfl,q p f⟩
def ixL{tb:TE}{xs:qA V}{i:Int}(b:∀a:VK,a (.ref p) H->ta σ H a)(c:∀a:VK,a (.int i) H->tb σ H a)(hp:H p=some (.lst xs))(e:atI xs i=some v)(q:Q v H):tOp (b5w K) ta tb σ H Q :=
 b _ (c _ ⟨p,xs,i,v,rfl,rfl,SqL.of hp,e,q⟩)
def b9A(xs:qI)(k:Nat)(a:k<=xs.length):N1 (xs.map V.int) none (some (k:Int))=(xs.take k).map V.int:=by
 unfold N1;rw[HT.sIx_none,HT.sIx_nat,aj,c_ a,dh,Nat.sub_zero,List.map_take]
def b9B(xs:qI)(k:Nat)(a:k<=xs.length):N1 (xs.map V.int) (some (k:Int)) none=(xs.drop k).map V.int:=by
 unfold N1;rw[HT.sIx_none,HT.sIx_nat,aj,c_ a,bJ (by simp),List.map_drop]
def b0M(xs:qI)(k:Nat)(z:Int)(a:k<xs.length):xs.take k++[z]++xs.drop (k+1)=xs.set k z:=by
 rw[List.set_eq_take_append_cons_drop,az a,aJ];rfl
def b8b{j:Nat}{tx:TE}{z:Int}(hi:σ[i]?=some (some (.ref a)))(l:σ[j]?=some (some (.int k)))(h:H a=some (.tup (xs.map V.int)))(s:k<xs.length)(B:xs.length<=1000)
  (e:∀H' (N:VK),Same H H'->N (.int z) H'->tx σ H' N) (q:∀v H',Same H H'->IT H' v (xs.set k z)->Q v H') :
  tOp a5F (tOp a5F (tSl (b3a K) (Z2 i) a1h (a9j (Z2 j))) (b7P (a6t tx a2v))) (tSl (b3a K) (Z2 i) (a9j (tOp (rI0 λi j=>.int (i+j)) (Z2 j) (tC (.int 1)))) a1h) σ H Q:=by
 have C:(3000:Nat)<=sizeLine:=by rw[a'];decide
 refine⟨_,hi,_,l,k,rfl,a,_,rfl,SqT.of h,?_,λp t=>?_⟩
 .rw[HT.sIx_none,HT.sIx_nat,aj];omega
 .rw[b9A xs k (by omega)];have s1:Same H (upd H p (.tup ((xs.take k).map V.int))):=(Same.refl H).upd t;have f:upd H p (.tup ((xs.take k).map V.int)) p=some (.tup ((xs.take k).map V.int)):=A0;generalize upd H p (.tup ((xs.take k).map V.int))=H1 at s1 f;refine e H1 _ s1 ⟨by show 1<=sizeLine;omega,λp2 c=>?_⟩;have s2:Same H1 (upd H1 p2 (.tup [.int z])):=(Same.refl H1).upd c;have g:upd H1 p2 (.tup [.int z]) p2=some (.tup [.int z]):=A0;generalize upd H1 p2 (.tup [.int z])=H2 at s2 g;refine⟨p,p2,_,_,rfl,rfl,s2 _ _ f,g,?_,λu b x o=>?_⟩
  .rw[aj,aU];show min k xs.length+1<=_;omega
  .have s13:Same H b:=(s1.trans s2).trans x;refine⟨_,hi,_,l,_,_,rfl,rfl,_,rfl,a,_,rfl,SqT.of (s13 _ _ h),?_,λm d=>?_⟩
   .rw[show((k:Int)+1)=((k+1:Nat):Int) by push_cast;rfl,HT.sIx_nat,aj];omega
   .rw[show((k:Int)+1)=((k+1:Nat):Int) by push_cast;rfl,b9B xs (k+1) (by omega)];have n:Same b (upd b m (.tup ((xs.drop (k+1)).map V.int))):=(Same.refl b).upd d;refine⟨u,m,_,_,rfl,rfl,n _ _ o,A0,?_,λw A y r=>?_⟩
    .rw[ax,aj,aU,aj,bI];show min k xs.length+1+_<=_;omega
    .refine q _ _ ((s13.trans n).trans y) ⟨w,rfl,?_⟩;rw[r,<-b0M xs k z s];simp
def var(e:σ[i]?=some (some v)):∀Q:VK,Q v H->Z2 i σ H Q:=λQ q=>⟨v,e,q⟩
def con:∀Q:VK,Q v H->tC v σ H Q:=λQ q=>q
structure JE(X:Cx)(e:Expr)(t:TE):Prop where
 h:PE X e t
structure JT(X:Cx)(e:Expr)(t:TT):Prop where
 h:PT X e t
structure JW(X:Cx)(e:Expr)(t:TT):Prop where
 h:PW X e t
structure JA(X:Cx)(es:qA Expr)(t:TA):Prop where
 h:PA X es t
structure JS(X:Cx)(st:Stmt)(t:TS):Prop where
 h:PS X st t
structure JB(X:Cx)(st:qA Stmt)(t:TS):Prop where
 h:PSs X st t
structure JG(X:Cx)(tg:Expr)(t:TG):Prop where
 h:PG X tg t
structure JGs(X:Cx)(ts:qA Expr)(t:TGs):Prop where
 h:PGs X ts t
structure JI(X:Cx)(tg iter:Expr)(t:TI):Prop where
 h:PI X tg iter t
structure JF(X:Cx)(ifs:qA Expr)(t:TT):Prop where
 h:PIf X ifs t
structure JO(X:Cx)(e:qD Expr)(t:TO):Prop where
 h:PO X e t
section
variable {a b c e o:Expr}{rest:qA Expr}{tb tc to:TE}{tA tB:TT}{t:TA}{p qP qM p2:Pos}
def jv(i:Nat)(b:X.N[i]?=some x:=by rfl)(c:Vis X.env.scope x:=by first|exact Or.inl rfl|exact Or.inr (Or.inl rfl)|exact Or.inr (Or.inr rfl))(hd:(x==("__debug__" : Str))=false:=by decide)
  (a:(x==("__classdict__" : Str))=false:=by decide):JE X (.Name x pos) (Z2 i):=⟨b3p b c hd a⟩
def A6{i j}:JE X (.Constant (.int i) j pos) (tC (.int i)):=⟨b8u⟩
def M9{i j}:JE X (.Constant (.bool i) j pos) (tC (.bl i)):=⟨c0t⟩
def T5{j}:JE X (.Constant .none j pos) (tC .non):=⟨b8s⟩
def c0E{x j}:JE X (.Constant (.str x) j pos) (tC (.str x)):=⟨b8p⟩
def X6{u:qB}(a:Gl X x)(b:X.mg x=none)(d:bootBuiltins x=some u)(r:RelV v u)(c:x≠"__name__":=by decide)(hd:(x==("__debug__" : Str))=false:=by decide):JE X (.Name x pos) (tC v):=⟨b5U a b d r c hd⟩
def P6(c:JE X a ta)(d:JE X b tb):JE X (.BinOp a .Add b pos) (tOp (rI0 λi j=>.int (i+j)) ta tb):=⟨Y8 b8K c.h d.h⟩
def a9U(c:JE X a ta)(d:JE X b tb):JE X (.BinOp a .Sub b pos) (tOp (rI0 λi j=>.int (i-j)) ta tb):=⟨Y8 b8B c.h d.h⟩
def a0M(c:JE X a ta)(d:JE X b tb):JE X (.BinOp a .Mult b pos) (tOp (rI CMul λi j=>.int (i*j)) ta tb):=⟨Y8 b8F c.h d.h⟩
def a3O(c:JE X a ta)(d:JE X b tb):JE X (.BinOp a .Mod b pos) (tOp (rI (λ_ j=>0<j) λi j=>.int (i % j)) ta tb):=⟨Y8 b8G c.h d.h⟩
def b4e(c:JE X a ta)(d:JE X b tb):JE X (.BinOp a .FloorDiv b pos) (tOp (rI c0Q λi j=>.int (i / j)) ta tb):=⟨Y8 b5Z c.h d.h⟩
def b4d(c:JE X a ta)(d:JE X b tb):JE X (.BinOp a .Pow b pos) (tOp (rI c0P λi j=>.int (i ^ j.toNat)) ta tb):=⟨Y8 b8C c.h d.h⟩
def a2W(c:JE X a ta)(d:JE X b tb):JE X (.BinOp a .Add b pos) (tOp (a5F) ta tb):=⟨Y8 b3w c.h d.h⟩
def c0H(c:JE X a ta)(d:JE X b tb):JE X (.BinOp a .Add b pos) (tOp (c0m) ta tb):=⟨Y8 b8J c.h d.h⟩
def a5O(c:JE X a ta)(d:JE X b tb):JE X (.BinOp a .Mult b pos) (tOp (b7q) ta tb):=⟨Y8 a9J c.h d.h⟩
def a3N(b:JE X a ta):JE X (.UnaryOp .USub a pos) (tUn (rU λi=>.int (-i)) ta):=⟨c0q b7L b.h⟩
def b7B(b:JE X a ta):JE X (.UnaryOp .Not a pos) (b6Y ta):=⟨b8r b.h⟩
def a1w{op}(h:JE X a ta):JE X (.BoolOp op [a] pos) ta:=⟨b8q h.h⟩
def a0N(c:JE X a ta)(d:JE X (.BoolOp .And (b::rest) pos) tb):JE X (.BoolOp .And (a::b::rest) pos) (b7d ta tb):=⟨b8x c.h d.h⟩
def c0F(c:JE X a ta)(d:JE X (.BoolOp .Or (b::rest) pos) tb):JE X (.BoolOp .Or (a::b::rest) pos) (b9Z ta tb):=⟨c0r c.h d.h⟩
def c0G(f:JT X c tA)(d:JE X a ta)(e:JE X b tb):JE X (.IfExp c a b pos) (tIf tA ta tb):=⟨b3r f.h d.h e.h⟩
def a7k(c:JE X a ta)(d:JE X b tb):JE X (.Compare a [.Eq] [b] pos) (tOp (rEq) ta tb):=⟨a1t b7w c.h d.h (K6 _)⟩
def a3L(c:JE X a ta)(d:JE X b tb):JT X (.Compare a [.Eq] [b] pos) (Z4 (tOp (rEq) ta tb)):=⟨O3 b7w c.h d.h (K6 _)⟩
def b3U(c:JE X a ta)(d:JE X b tb):JT X (.Compare a [.NotEq] [b] pos) (Z4 (tOp (rNe) ta tb)):=⟨O3 c0v c.h d.h (K6 _)⟩
def b3V(c:JE X a ta)(d:JE X b tb):JT X (.Compare a [.Lt] [b] pos) (Z4 (tOp (rI0 λi j=>.bl (decide (i<j))) ta tb)):=⟨O3 c0w c.h d.h (K6 _)⟩
def b3T(c:JE X a ta)(d:JE X b tb):JE X (.Compare a [.LtE] [b] pos) (tOp (rI0 λi j=>.bl (decide (i<=j))) ta tb):=⟨a1t c0x c.h d.h (K6 _)⟩
def a9Q(c:JE X a ta)(d:JE X b tb):JT X (.Compare a [.Gt] [b] pos) (Z4 (tOp (rI0 λi j=>.bl (decide (j<i))) ta tb)):=⟨O3 c0y c.h d.h (K6 _)⟩
def c0C(c:JE X a ta)(d:JE X b tb):JE X (.Compare a [.GtE] [b] pos) (tOp (rI0 λi j=>.bl (decide (j<=i))) ta tb):=⟨a1t b7v c.h d.h (K6 _)⟩
def c0D(c:JE X a ta)(d:JE X b tb):JT X (.Compare a [.GtE] [b] pos) (Z4 (tOp (rI0 λi j=>.bl (decide (j<=i))) ta tb)):=⟨O3 b7v c.h d.h (K6 _)⟩
def b9d(K:qF)(f:X.A.units+60<cLine)(d:JE X a ta)(e:JE X b tb)(c:X.K=K:=by rfl):JE X (.Compare a [.Eq] [b] pos) (tOp (a6N K false) ta tb):=⟨a1t (b8H K f c) d.h e.h (K6 _)⟩
def a8z(K:qF)(f:X.A.units+60<cLine)(d:JE X a ta)(e:JE X b tb)(c:X.K=K:=by rfl):JT X (.Compare a [.NotEq] [b] pos) (Z4 (tOp (a6N K true) ta tb)):=⟨O3 (b8D K f c) d.h e.h (K6 _)⟩
def b9c(c:JE X a ta)(d:JE X b tb):JE X (.Compare a [.Is] [b] pos) (tOp (λx y H Q=>y=.non/\Q (.bl (decide (x=.non))) H) ta tb):=⟨a1t b3x c.h d.h (K6 _)⟩
def b9f(c:JE X a ta)(d:JE X b tb):JT X (.Compare a [.Is] [b] pos) (Z4 (tOp (λx y H Q=>y=.non/\Q (.bl (decide (x=.non))) H) ta tb)):=⟨O3 b3x c.h d.h (K6 _)⟩
def a1v(c:JE X a ta)(d:JE X b tb):JT X (.Compare a [.IsNot] [b] pos) (Z4 (tOp (λx y H Q=>y=.non/\Q (.bl (!decide (x=.non))) H) ta tb)):=⟨O3 b5X c.h d.h (K6 _)⟩
def a4L(k:Bool)(c:JE X a ta)(d:JE X b tb):JT X (.Compare a [.IsNot] [b] pos) (Z4 (tOp (λx y H Q=>y=.bl k/\Q (.bl (!a9x x k)) H) ta tb)):=⟨O3 (b1e (b:=k)) c.h d.h (K6 _)⟩
def a1W(h:JW X e tA):JT X e tA:=⟨h.h.pt⟩
def X4(b:JT X a tA):JW X (.BoolOp .And [a] pos) tA:=⟨pw_and1 b.h⟩
def a1V(b:JT X a tA):JW X (.BoolOp .Or [a] pos) tA:=⟨pw_or1 b.h⟩
def a0U(c:JT X a tA)(d:JW X (.BoolOp .And (b::rest) pos) tB):JW X (.BoolOp .And (a::b::rest) pos) (c0f tA tB):=⟨pw_and c.h d.h⟩
def a3K(c:JT X a tA)(d:JW X (.BoolOp .Or (b::rest) pos) tB):JW X (.BoolOp .Or (a::b::rest) pos) (tOr tA tB):=⟨pw_or c.h d.h⟩
def L6(b:JT X a tA):JT X (.UnaryOp .Not a pos) (c0a tA):=⟨b8c b.h⟩
def C9(K:qF)(d:JE X a ta)(e:∀b,isTrue a X.env b=(do let v <-b;standAt a.pos;holding [v] (truthy v)):=by intro _;rfl)(c:X.K=K:=by rfl):JT X a (b9W K ta):=⟨b0Y K d.h e c⟩
def jaN:JA X [] a2v:=⟨b8z⟩
def jaC(a:JE X e te)(b:JA X es t)(hs:starEach (e::es) X.env=(false,eval e X.env)::starEach es X.env:=by rfl):JA X (e::es) (a6t te t):=⟨b5V a.h b.h hs⟩
def T4{x1}(h:JA X es t):JE X (.Tuple es x1 pos) (b7P t):=⟨b8o h.h⟩
def T7(h:JA X es t):JE X (.List es pos) (b4Z t):=⟨b8t h.h⟩
def N3(K:qF)(d:JE X a ta)(e:JE X b tb)(hs:a6e b:=by intro _ _;rfl)(c:X.K=K:=by rfl):JE X (.Subscript a b pos) (tOp (b5w K) ta tb):=⟨b7u (b4f K c) d.h e.h hs⟩
def G7(K:qF)(d:JE X a ta)(e:JE X b tb)(hs:a6e b:=by intro _ _;rfl)(c:X.K=K:=by rfl):JE X (.Subscript a b pos) (tOp (b7X K) ta tb):=⟨b7u (b6x K c) d.h e.h hs⟩
def T3:JO X none a1h:=⟨b5F⟩
def T0(h:JE X e te):JO X (some e) (a9j te):=⟨b5E h.h⟩
def b7A(K:qF){lo hi:qD Expr}{tl th:TO}(b:JE X e te)(c:JO X lo tl)(d:JO X hi th)(a:X.K=K:=by rfl):JE X (.Subscript e (.Slice lo hi none p2) pos) (tSl (b7W K) te tl th):=⟨a3x (b2H K a) b.h c.h d.h⟩
def b7z(K:qF){lo hi:qD Expr}{tl th:TO}(b:JE X e te)(c:JO X lo tl)(d:JO X hi th)(a:X.K=K:=by rfl):JE X (.Subscript e (.Slice lo hi none p2) pos) (tSl (b3a K) te tl th):=⟨a3x (b5f K a) b.h c.h d.h⟩
def A7{ps:qA Str}(O:Ok X.prog X.w X.K X.mg X.base x k ps sp)(g:Room k X.A)(f:Gl X x)(c:JA X (e::es) t)(a:(x==("__debug__" : Str))=false:=by decide)
  (d:starEach (e::es) X.env=(false,eval e X.env)::starEach es X.env:=by rfl) (b:(backTo pos (starEach es X.env)).any (·.1)=false:=by rfl):JE X (.Call (.Name x p) (e::es) [] pos) (a4y sp [] E0 t):=⟨b3u O g f c.h a d b⟩
def E5(K:qF)(f:Gl X "len")(g:X.mg "len"=none)(c:JA X (e::es) t)(b:X.K=K:=by rfl)(d:starEach (e::es) X.env=(false,eval e X.env)::starEach es X.env:=by rfl)(a:(backTo pos (starEach es X.env)).any (·.1)=false:=by rfl):JE X (.Call (.Name "len" p) (e::es) [] pos) (tCB (c0j K) t):=⟨J4 (b1T K b) f g b4M c.h (by decide) (by decide) d a⟩
def a8B(K:qF)(g:Gl X "sum")(h:X.mg "sum"=none)(c:JA X (e::es) t)(d:X.calm=true:=by rfl)(b:X.K=K:=by rfl)(f:starEach (e::es) X.env=(false,eval e X.env)::starEach es X.env:=by rfl)(a:(backTo pos (starEach es X.env)).any (·.1)=false:=by rfl):JE X (.Call (.Name "sum" p) (e::es) [] pos) (tCB (b7V K) t):=⟨J4 (b1Q K d b) g h b9E c.h (by decide) (by decide) f a⟩
def N0(K:qF)(g:Gl X "all")(h:X.mg "all"=none)(c:JA X (e::es) t)(d:X.calm=true:=by rfl)(b:X.K=K:=by rfl)(f:starEach (e::es) X.env=(false,eval e X.env)::starEach es X.env:=by rfl)(a:(backTo pos (starEach es X.env)).any (·.1)=false:=by rfl):JE X (.Call (.Name "all" p) (e::es) [] pos) (tCB (b8a K) t):=⟨J4 (b1Y K d b) g h b9H c.h (by decide) (by decide) f a⟩
def b4b(K:qF)(g:Gl X "any")(h:X.mg "any"=none)(c:JA X (e::es) t)(d:X.calm=true:=by rfl)(b:X.K=K:=by rfl)(f:starEach (e::es) X.env=(false,eval e X.env)::starEach es X.env:=by rfl)(a:(backTo pos (starEach es X.env)).any (·.1)=false:=by rfl):JE X (.Call (.Name "any" p) (e::es) [] pos) (tCB (b7Z K) t):=⟨J4 (b1X K d b) g h b9G c.h (by decide) (by decide) f a⟩
def C6(K:qF)(f:Gl X "isinstance")(g:X.mg "isinstance"=none)(c:JA X (e::es) t)(b:X.K=K:=by rfl)(d:starEach (e::es) X.env=(false,eval e X.env)::starEach es X.env:=by rfl)(a:(backTo pos (starEach es X.env)).any (·.1)=false:=by rfl):JE X (.Call (.Name "isinstance" p) (e::es) [] pos) (tCB (b7Y K) t):=⟨J4 (b1U K b) f g a4t c.h (by decide) (by decide) d a⟩
def C7(K:qF)(f:Gl X "tuple")(g:X.mg "tuple"=none)(c:JA X (e::es) t)(b:X.K=K:=by rfl)(d:starEach (e::es) X.env=(false,eval e X.env)::starEach es X.env:=by rfl)(a:(backTo pos (starEach es X.env)).any (·.1)=false:=by rfl):JE X (.Call (.Name "tuple" p) (e::es) [] pos) (tCB (b2X K) t):=⟨O8 (a7E K b) f g Q3 c.h (by decide) (by decide) d a⟩
def a5N(K:qF)(f:Gl X "list")(g:X.mg "list"=none)(c:JA X (e::es) t)(b:X.K=K:=by rfl)(d:starEach (e::es) X.env=(false,eval e X.env)::starEach es X.env:=by rfl)(a:(backTo pos (starEach es X.env)).any (·.1)=false:=by rfl):JE X (.Call (.Name "list" p) (e::es) [] pos) (tCB (b7s K) t):=⟨O8 (a8Q K b) f g b6P c.h (by decide) (by decide) d a⟩
def b9h(d:Gl X "int")(f:X.mg "int"=none)(b:JA X (e::es) t)(c:starEach (e::es) X.env=(false,eval e X.env)::starEach es X.env:=by rfl)(a:(backTo pos (starEach es X.env)).any (·.1)=false:=by rfl):JE X (.Call (.Name "int" p) (e::es) [] pos) (tCB (c0k) t):=⟨O8 b1V d f a8U b.h (by decide) (by decide) c a⟩
def a0A(K:qF)(h:JE X o to)(g:JA X (e::es) t)(f:X.K=K:=by rfl)(b:attributeBase o "append" X.env (eval o X.env)=eval o X.env:=by rfl)
  (d:((backTo qM (starEach (e::es) X.env)).all (λx=>!x.1) && (backToKw qM (keywordEach [] X.env)).all (λx=>x.1.isSome) && decide ((e::es).length+([]:qA Keyword).length+(if ([]:qA Keyword).isEmpty then 0 else 1)<30))=true:=by rfl)
  (c:(qP.endLine==qM.line)=true:=by rfl) (hs:starEach (e::es) X.env=(false,eval e X.env)::starEach es X.env:=by rfl) (a:(backTo qM (starEach es X.env)).any (·.1)=false:=by rfl) :
  JE X (.Call (.Attribute o "append" qP) (e::es) [] qM) (tBM K "list" a9E to t):=⟨a5G K PySem.F.plainAttrs_list PySem.F.slot_list_append PySem.F.type_list_append b1q h.h g.h f b d c hs a⟩
def a7n(K:qF)(h:JE X o to)(g:JA X (e::es) t)(f:X.K=K:=by rfl)(b:attributeBase o "pop" X.env (eval o X.env)=eval o X.env:=by rfl)
  (d:((backTo qM (starEach (e::es) X.env)).all (λx=>!x.1) && (backToKw qM (keywordEach [] X.env)).all (λx=>x.1.isSome) && decide ((e::es).length+([]:qA Keyword).length+(if ([]:qA Keyword).isEmpty then 0 else 1)<30))=true:=by rfl)
  (c:(qP.endLine==qM.line)=true:=by rfl) (hs:starEach (e::es) X.env=(false,eval e X.env)::starEach es X.env:=by rfl) (a:(backTo qM (starEach es X.env)).any (·.1)=false:=by rfl) :
  JE X (.Call (.Attribute o "pop" qP) (e::es) [] qM) (tBM K "list" b3b to t):=⟨a5G K PySem.F.plainAttrs_list PySem.F.slot_list_pop PySem.F.type_list_pop b3M h.h g.h f b d c hs a⟩
def a4M(K:qF)(h:JE X o to)(g:JA X (e::es) t)(f:X.K=K:=by rfl)(b:attributeBase o "extend" X.env (eval o X.env)=eval o X.env:=by rfl)
  (d:((backTo qM (starEach (e::es) X.env)).all (λx=>!x.1) && (backToKw qM (keywordEach [] X.env)).all (λx=>x.1.isSome) && decide ((e::es).length+([]:qA Keyword).length+(if ([]:qA Keyword).isEmpty then 0 else 1)<30))=true:=by rfl)
  (c:(qP.endLine==qM.line)=true:=by rfl) (hs:starEach (e::es) X.env=(false,eval e X.env)::starEach es X.env:=by rfl) (a:(backTo qM (starEach es X.env)).any (·.1)=false:=by rfl) :
  JE X (.Call (.Attribute o "extend" qP) (e::es) [] qM) (tBM K "list" a9D to t):=⟨a5G K PySem.F.plainAttrs_list PySem.F.slot_list_extend PySem.F.type_list_extend b1p h.h g.h f b d c hs a⟩
def A5(a:X.N.Nodup)(hi:X.N[i]?=some x)(c:Loc X.env.scope x)(b:X.fn x=true∨X.env.scope.names.lookup x=some .local:=by first|exact .inl rfl|exact .inr rfl|assumption):JG X (.Name x pos) (B0 i):=⟨b5P a hi c b⟩
def J0:JGs X [] a8I:=⟨b5N⟩
def B3{u:TGs}(h1:JG X e g)(h2:JGs X es u)(hs:(assignEach (e::es) X.env).map (·.2)=assign e X.env::(assignEach es X.env).map (·.2):=by rfl):JGs X (e::es) (Y9 g u):=⟨b3o h1.h h2.h hs⟩
def L7(K:qF)(n:Nat){u:TGs}(h:JGs X es u)(c:X.calm=true:=by rfl)(b:X.K=K:=by rfl)(d:(assignEach es X.env).length=n:=by rfl)(a:(assignEach es X.env).findIdx? (·.1)=none:=by rfl):JG X (.Tuple es k pos) (a7q K n u):=⟨b5O K c h.h b d a⟩
def a8A{i:Expr}{a:TE}(c:JE X o to)(hi:JE X i a)
  (b:∀v,assign (.Subscript o i pos) X.env v=(do
   let ov <-holding [v] (eval o X.env)
   let iv <-holding [v,ov] (eval i X.env)
   standAt pos
   holding [v,ov,iv] (setItem ov iv v)
   release [v,ov,iv] []):=by intro _;rfl):JG X (.Subscript o i pos) (c0K to a b7p):=⟨b8n c.h hi.h b2K b⟩
def K8(K:qF){l:Expr}(b:JE X l tl)(a:X.K=K:=by rfl):JI X tg l (b4k K tl):=⟨b3n K b.h a⟩
def E4(K:qF){l:Expr}(b:JE X l tl)(a:X.K=K:=by rfl):JI X tg l (b9u K tl):=⟨b5J K b.h a⟩
def a0V(K:qF){h:Nat}{i:Pos}(f:Gl X "zip")(g:X.mg "zip"=none)(e:JA X [a,b] t)(d:X.K=K:=by rfl)(hs:starEach [a,b] X.env=[(false,eval a X.env),(false,eval b X.env)]:=by rfl)(c:starEach [b] X.env=[(false,eval b X.env)]:=by rfl) :
  JI X (.Tuple es h i) (.Call (.Name "zip" p) [a,b] [] pos) (b9t K t):=⟨b5I K f g e.h d hs c⟩
def E9(c:Gl X "range")(d:X.mg "range"=none)(b:JA X [a] t)(hs:starEach [a] X.env=[(false,eval a X.env)]:=by rfl):JI X tg (.Call (.Name "range" p) [a] [] pos) (b7C t):=⟨b1b c d b.h hs⟩
def C4:JF X [] V0:=⟨b5H⟩
def a1X(h:JT X c tA):JF X [c] tA:=⟨b5G h.h⟩
def B7{b c:Expr}{f:qA Expr}{scope:Scope}{j:TI}{i:TT}(hi:JI X tg b j)(e:C0 scope X.env.scope=true)(d:N7 N src X.N scope=true)(h:a5A scope=true)
  (m:∀a C s H ex,JG (X.blk N scope a C s H ex) tg g) (n:∀a C s H ex,JF (X.blk N scope a C s H ex) f i) (l:∀a C s H ex,JE (X.blk N scope a C s H ex) c te)
  (k:X.calm=true:=by rfl) (hs:∀x,foldedSetIterable b X.env x=pure x:=by intro _;rfl):JE X (.ListComp c [⟨tg,b,f,0⟩] scope pos) (a6u src j g i te) :=
 ⟨b5T k hi.h e d h (λ_ _ _ _ _=>(m _ _ _ _ _).h) (λ_ _ _ _ _=>(n _ _ _ _ _).h) (λ_ _ _ _ _=>(l _ _ _ _ _).h) hs⟩
variable {sts:qA Stmt}{u v:TS}
def C2:JB X [] b6Z:=⟨b5z⟩
def A2(h1:JS X st u)(h2:JB X sts v):JB X (st::sts) (b7Q u v):=⟨b3e h1.h h2.h⟩
def A4(h1:JS X st u):JB X [st] u:=⟨b5y h1.h⟩
def b3X:JS X (.Break pos) b2u:=⟨b3i⟩
def A9(a:JE X e te):JS X (.Return (some e) pos) (b7R te):=⟨b8f a.h⟩
def O6(a:JE X e te)(hs:swapsWith e none pos.line X.env=pure false:=by rfl):JS X (.Expr e pos) (b7b te):=⟨b5B a.h hs⟩
def D4{A:qA Stmt}(d:JT X c tA)(a:JB X A u)(b:JB X B v):JS X (.If c A B pos) (c0b tA u v):=⟨c0o d.h a.h b.h⟩
def a7l(b:JT X c tA)(a:JB X B v)(hp:PassesOwn (model X.prog X.w) X.A X.env X.xe:=by exact PassesOwn.never):JS X (.While c B [] pos) (b2p tA v):=⟨b3f hp b.h a.h⟩
def J3{a:Expr}{b:TI}(hi:JI X tg a b)(e:JG X tg g)(c:JB X B v)(hp:PassesOwn (model X.prog X.w) X.A X.env X.xe:=by exact PassesOwn.never)(d:X.calm=true:=by rfl)
  (hs:∀x,foldedSetIterable a X.env x=pure x:=by intro _;rfl):JS X (.For tg a B [] pos) (c0c b g v):=⟨b8h hp d hi.h e.h c.h hs⟩
def B4{pos':Pos}(a:X.N.Nodup)(hi:X.N[i]?=some x)(d:Loc X.env.scope x)(b:JE X e te)(hs:swapsWith e (some (.Name x pos')) pos.line X.env=pure false:=by rfl)
  (c:X.fn x=true∨X.env.scope.names.lookup x=some .local:=by first|exact .inl rfl|exact .inr rfl|assumption):JS X (.Assign [.Name x pos'] e pos) (b0I te (B0 i)):=⟨b8e a hi d b.h hs c⟩
def a9R{y:Str}{m c:Pos}{b d:Expr}{e:qA Expr}{scope:Scope}{o:TI}{n:TT}
  (p:X.N.Nodup) (w:X.N[i]?=some y) (v:Loc X.env.scope y) (hi:JI X tg b o) (h:C0 scope X.env.scope=true) (f:N7 N src X.N scope=true) (k:a5A scope=true)
  (t:∀a C s H ex,JG (X.blk N scope a C s H ex) tg g) (u:∀a C s H ex,JF (X.blk N scope a C s H ex) e n) (j:∀a C s H ex,JE (X.blk N scope a C s H ex) d te)
  (q:X.calm=true:=by rfl) (l:swapsWith (.ListComp d [⟨tg,b,e,0⟩] scope pos) (some (.Name y m)) c.line X.env=pure true:=by rfl) (hs:∀x,foldedSetIterable b X.env x=pure x:=by intro _;rfl)
  (r:X.fn y=true∨X.env.scope.names.lookup y=some .local:=by first|exact .inl rfl|exact .inr rfl|assumption) :
  JS X (.Assign [.Name y m] (.ListComp d [⟨tg,b,e,0⟩] scope pos) c) (b0I (a6u src o g n te) (B0 i)) :=
 ⟨b5A p w v q hi.h h f k (λ_ _ _ _ _=>(t _ _ _ _ _).h) (λ_ _ _ _ _=>(u _ _ _ _ _).h) (λ_ _ _ _ _=>(j _ _ _ _ _).h) l hs r⟩
def a3M(a:JE X e te)(b:JG X tg g)(hs:swapsWithSole [tg] e pos.line X.env=pure false:=by rfl)(hw:swappedStores [tg] e X.env=pure none:=by rfl)
  (h1:(assignEach [tg] X.env).map (·.2)=[assign tg X.env]:=by rfl):JS X (.Assign [tg] e pos) (b0I te g):=⟨b8j a.h b.h hs hw h1⟩
end
section
variable {P:qG}{w:World}{mg:Str->qD qB}{base:Heap}
def FunAt.okJ{ps:qA Str}(F:FunAt K mg x st ps)(S:FnScope N ps (A1 st))(c:∀vs H Q E,sp vs H Q E->vs.length=ps.length)
  (b:∀(a:qB) (f:qE) (A:Around) (outer:qA Env) (s:qC) (H:Hp) (vs:qA V) (Q:VK) (E:XK),Room k (A.deeper (envOfC x (A1 st) s.heap.objs.size f a))->sp vs H Q E ->
   ∃t,JB (L8 CX0 P w K mg base N x (A1 st) f a A outer s H E).nox (G1 st) t/\t {nx:=λ_ H'=>Q .non H',rt:=Q} (start N vs) H):Ok P w K mg base x (k+1) ps sp :=
 F.ok S c λa f A outer s H vs Q E e h=>let ⟨t,d,r⟩:=b a f A outer s H vs Q E e h;⟨t,d.h,r⟩
def Fun.okJ{qual:Str}{f:qE}{fd:FuncData}{ps:qA Str}(F:Fun K x qual st f fd)(S:FnScope N ps (A1 st))(c:∀vs H Q E,sp vs H Q E->vs.length=ps.length)
  (b:∀(a:qB) (A:Around) (outer:qA Env) (s:qC) (H:Hp) (vs:qA V) (Q:VK) (E:XK),Room k (A.deeper (envOfC qual (A1 st) s.heap.objs.size f a))->sp vs H Q E ->
   ∃t,JB (L8 CX0 P w K mg base N qual (A1 st) f a A outer s H E).nox (G1 st) t/\t {nx:=λ_ H'=>Q .non H',rt:=Q} (start N vs) H):FnOk P w K mg base CX0 (k+1) f fd ps sp :=
 F.ok S c λa A outer s H vs Q E e h=>let ⟨t,d,r⟩:=b a A outer s H vs Q E e h;⟨t,d.h,r⟩
end
def a9s(K:qF):Sp:=λvs H Q _=>∃(a:qE) (ns:qI),vs=[.ref a]/\SqL K H a (ns.map V.int)/\ns.length<=63/\∀H',Q (.bl true) H'
def law_walk{l:PySem.W.OpenLaw}{q:qG}{b:qA Str}{XP:(Str->qD qB)->Heap->Prop}{e:World->Heap->Prop}{d:DefRec}{K:Params->qF}(k:Nat)(o:l.most=some 63)(c:d.params.defaults=[])(p:Room k callerA)
  (j:∀(w:World) (h:Heap),e w h->(K w.params).In h)
  (F:∀(w:World) (mg:Str->qD qB) (g:qE) (h:Heap),(K w.params).In h->h.Ns mainGlobals mg->mg d.name=some (.ref g) ->
   ∃fd:FuncData,(∀(s:qC) (u:qB),BindsTo s fd ⟨[u],[]⟩ [("_law_script",u)])/\∀base:Heap,(K w.params).In base->base.Ns mainGlobals mg->FnOk l.prog w (K w.params) mg base CX0 k g fd ["_law_script"] (a9s (K w.params))) :
  PySem.W.WalkO q b XP e l.row.toRowW d [] (λf vs=>PySem.call f vs) :=
 L2.walk_of (n:=63) (k:=k) (x:="_law_script") (CX:=λ_=>CX0) (sp:=λw=>a9s (K w.params)) o (by decide) c p j F (λ_ _ a r m _ i=>⟨a,r,rfl,i,m,λ_=>rfl⟩) λ_ _ _ _ _ z=>z
def Its(H:Hp)(vs:qA V)(rss:LLI):Prop:=vs.length=rss.length/\∀(i:Nat) (v:V),vs[i]?=some v->∃r,rss[i]?=some r/\IT H v r
def Its.same{H H':Hp}{vs:qA V}{rss:LLI}(h:Its H vs rss)(s:Same H H'):Its H' vs rss:=⟨h.1,λi v e=>let ⟨r,e1,e2⟩:=h.2 i v e;⟨r,e1,e2.same s⟩⟩
def Its.nil:Its H [] []:=⟨rfl,λi v e=>by simp at e⟩
def Its.snoc{r:qI}(h:Its H vs rss)(d:IT H v r):Its H (vs++[v]) (rss++[r]):=by
 refine⟨by simp[h.1],λi u e=>?_⟩;by_cases hi:i<vs.length
 .rw[bx hi]at e;obtain⟨q,b,c⟩:=h.2 i u e;exact⟨q,by rw[bx (by rw[<-h.1];exact hi)];exact b,c⟩
 .rw[bh (by omega)]at e;have a:i-vs.length=0:=by
   have:=(aG.mp e).1;simp at this;omega
  rw[a]at e;simp at e;subst e;refine⟨r,?_,d⟩;rw[bh (by rw[<-h.1];omega),<-h.1,a];rfl
def Its.mem(h:Its H vs rss)(e:vs[i]?=some v):∃r,r∈rss/\rss[i]?=some r/\IT H v r :=
 let ⟨r,e1,e2⟩:=h.2 i v e
 ⟨r,aH e1,e1,e2⟩
def b0y{k1 k2:Bool}{ys:qI}(f:Int->Int->V)(t:xs.length<=1000)
  (c:∀H',Same H H'->SqK k1 K H' a (xs.map V.int)/\SqK k2 K H' b (ys.map V.int))
  (g:B5 src σ=none::none::caps) (n:∀x y H1 o,x∈xs->y∈ys->Same H H1->o (f x y) H1->te (some (.int x)::some (.int y)::caps) H1 o)
  (hd:∀H1 p,Same H H1->H1 p=none->Q (.ref p) (upd H1 p (.lst (List.zipWith f xs ys)))) :
  I0 src (a7q K 2 (Y9 (B0 0) (Y9 (B0 1) a8I))) V0 te σ Q (Itz K k1 k2 a b) H:=by
 have u:(1000:Nat)<=sizeLine:=by rw[a'];decide
 refine a0l (xs:=xs.map V.int) (zs:=ys.map V.int) (by rw[M5];omega) (λi zs H'=>Same H H'/\zs=(List.zipWith f xs ys).take i) ⟨Same.refl H,by simp⟩ (λi zs H' _ _ h=>⟨(c H' h.1).1,(c H' h.1).2,by rw[h.2];exact bL _ _⟩) ?_ ?_
 .rintro i x z zs H' p hx hy ⟨s,rfl⟩ hp;obtain⟨m,k,q⟩:=T8 hx;obtain⟨d,l,r⟩:=T8 hy;subst q r;clear hx hy;have s':Same H (upd H' p (.tup [.int m,.int d])):=s.upd hp;refine⟨p,[.int m,.int d],rfl,SqT.of A0,rfl,.int m,[.int d],rfl,.int d,[],rfl,rfl,?_⟩;rw[g];show Sub _ (some (.int m)::some (.int d)::caps)/\_;refine⟨⟨rfl,λj v e=>?_⟩,?_⟩
  .match j,e with
   |0,e=>cases e
   |1,e=>cases e
   |j+2,e=>exact e
  .exact n m d _ _ (aH k) (aH l) s' ⟨s',(N8 f k l).symm⟩
 .rintro zs H' ⟨s,rfl⟩ p hp;have e:(List.zipWith f xs ys).take (min (xs.map V.int).length (ys.map V.int).length)=List.zipWith f xs ys:=by
   rw[M5,M5,bJ];rw[cP];exact ao _
  rw[e];exact hd H' p s hp
def a5j(f:qI->V)(l:vs.length<=1000)(b:∀H',Same H H'->SqT K H' a vs)(hI:Its H vs rss)(c:B5 src σ=none::caps)
  (g:∀v r H1 j,r∈rss->IT H1 v r->Same H H1->(∀H2,Same H1 H2->j (f r) H2)->te (some v::caps) H1 j) (hd:∀H1 p,Same H H1->H1 p=none->Q (.ref p) (upd H1 p (.lst (rss.map f)))):I0 src (B0 0) V0 te σ Q (Itt K a) H:=by
 have m:(1000:Nat)<=sizeLine:=by rw[a'];decide
 refine Q0 (xs:=vs) (by omega) (λi ys H'=>Same H H'/\ys=(rss.take i).map f) ⟨Same.refl H,by simp⟩ (λi ys H' _ h=>⟨b H' h.1,by rw[h.2,aj];exact bL _ _⟩) ?_ ?_
 .rintro i x ys H' hx ⟨s,rfl⟩;obtain⟨r,k,d,e⟩:=hI.mem hx;show Sub _ ((B5 src σ).set 0 (some x))/\_;rw[c];refine⟨Sub.one,g x r H' _ k (e.same s) s λH2 s2=>⟨s.trans s2,?_⟩⟩;rw[bg,d];simp
 .rintro ys H' ⟨s,rfl⟩ p hp;rw[hI.1,br];exact hd H' p s hp
def b2f{k1 k2:Bool}{us:qA V}(f:Int->qI->V)(u:xs.length<=1000)
  (c:∀H',Same H H'->SqK k1 K H' a (xs.map V.int)/\SqK k2 K H' b us) (hI:Its H us rss)
  (d:B5 src σ=none::none::caps) (n:∀x v r H1 o,x∈xs->r∈rss->IT H1 v r->Same H H1->o (f x r) H1->te (some (.int x)::some v::caps) H1 o)
  (hd:∀H1 p,Same H H1->H1 p=none->Q (.ref p) (upd H1 p (.lst (List.zipWith f xs rss)))) :
  I0 src (a7q K 2 (Y9 (B0 0) (Y9 (B0 1) a8I))) V0 te σ Q (Itz K k1 k2 a b) H:=by
 have w:(1000:Nat)<=sizeLine:=by rw[a'];decide
 refine a0l (xs:=xs.map V.int) (zs:=us) (by rw[M5];omega) (λi zs H'=>Same H H'/\zs=(List.zipWith f xs rss).take i) ⟨Same.refl H,by simp⟩ (λi zs H' _ _ h=>⟨(c H' h.1).1,(c H' h.1).2,by rw[h.2];exact bL _ _⟩) ?_ ?_
 .rintro i x z zs H' p hx hy ⟨s,rfl⟩ hp;obtain⟨k,g,q⟩:=T8 hx;subst q;obtain⟨r,t,l,m⟩:=hI.mem hy;have s':Same H (upd H' p (.tup [.int k,z])):=s.upd hp;refine⟨p,[.int k,z],rfl,SqT.of A0,rfl,.int k,[z],rfl,z,[],rfl,rfl,?_⟩;rw[d];show Sub _ (some (.int k)::some z::caps)/\_;refine⟨⟨rfl,λj v e=>?_⟩,?_⟩
  .match j,e with
   |0,e=>cases e
   |1,e=>cases e
   |j+2,e=>exact e
  .exact n k z r _ _ (aH g) t (m.same s') s' ⟨s',(N8 f g l).symm⟩
 .rintro zs H' ⟨s,rfl⟩ p hp;have e:(List.zipWith f xs rss).take (min (xs.map V.int).length us.length)=List.zipWith f xs rss:=by
   rw[M5,hI.1,bJ];rw[cP];exact ao _
  rw[e];exact hd H' p s hp
def a8m{d:TT}(t:Nat->Bool)(f:n<=1000)(a:B5 src σ=none::caps)(b:∀(i:Nat) H1 (c:Bool->Hp->Prop),i<n->Same H H1->(∀H2,Same H1 H2->c (t i) H2)->d (some (.int i)::caps) H1 c)
  (hd:∀H1 p,Same H H1->H1 p=none->Q (.ref p) (upd H1 p (.lst ((((List.range n).filter t).map λ(i:Nat)=>(i:Int)).map V.int)))):I0 src (B0 0) d (Z2 0) σ Q (Itr 0 n) H:=by
 refine a1p f a (λi ys H'=>Same H H'/\ys=(((List.range i).filter t).map λ(i:Nat)=>(i:Int)).map V.int) ⟨Same.refl H,rfl⟩ (λi ys H' h=>by rw[h.2,aj,aj];exact ba (bo _ _) (by simp)) ?_ ?_
 .rintro i ys H' hi ⟨s,rfl⟩;refine b i H' _ hi s λH2 s2=>?_;rw[List.range_succ,List.filter_append];cases e:t i with
  |true=>exact⟨_,rfl,s.trans s2,by simp[e]⟩
  |false=>exact⟨s.trans s2,by simp[e]⟩
 .rintro ys H' ⟨s,rfl⟩ p hp;exact hd H' p s hp
def c0R(i j:Int):Prop:=i.natAbs<2 ^ 1000/\j.natAbs<2 ^ 1000
def b5Y:OpR X (binaryOp .Mult) (rI c0R λi j=>.int (i*j)):=opI λ_ _ _ _ _ _ _ a q=>mul_int q (.of_le (intBits_le_iff.mpr a.1) (intBits_le_iff.mpr a.2) (by decide))
def b9k{a b:Expr}{tb:TE}(c:JE X a ta)(d:JE X b tb):JE X (.BinOp a .Mult b pos) (tOp (rI c0R λi j=>.int (i*j)) ta tb):=⟨Y8 b5Y c.h d.h⟩
end L2
namespace L2
open PySem PySem.Spec PyProof.Rows PySem.W
variable {A:Around}{C:qE}{H:Hp}{K:qF}{N ps:qA Str}{P:qG}{X:Cx}{base:Heap}{qM:Pos}{e:Expr}{es:qA Expr}{k:Nat}{mg:Str->qD qB}{sp:Sp}{t:TA}{w:World}{x:Str}
def b4u(p C:qE):HO:=.ext λh=>∃o,h.get? p=some o/\o.cls=.ref C
def ObjOk.there{h:Heap}{a:qE}{o:HO}(x:ObjOk P w H h a o):∃u,h.get? a=some u:=by
 induction o with
 |lst xs=>obtain⟨_,_,_,_,e⟩:=x;exact⟨_,e⟩
 |tup xs=>obtain⟨_,_,_,b,e,_⟩:=x;exact⟨_,e⟩
 |dK qL=>obtain⟨_,_,_,_,o,_,_,e,_⟩:=x;exact⟨_,e⟩
 |dT qL=>obtain⟨_,_,_,_,o,_,_,e,_⟩:=x;exact⟨_,e⟩
 |set S n=>obtain⟨o,_,_,_,e,_⟩:=x;exact⟨_,e⟩
 |ins C dx fs=>obtain⟨_,_,_,e,_⟩:=x;exact⟨_,e⟩
 |own y=>obtain⟨_,e⟩:=x;exact⟨_,e⟩
 |xd fs=>obtain⟨_,⟨_,_,_,e,_⟩,_⟩:=x;exact⟨_,e⟩
 |rng lo hi=>obtain⟨_,_,_,e⟩:=x;exact⟨_,e⟩
 |frz b u c=>obtain⟨e,_⟩:=x;exact⟨_,e⟩
 |tbl ps=>exact⟨_,x⟩
 |met f y=>exact⟨_,x⟩
 |ext φ=>exact x.2.1
def Cov(l:qA Env)(H:Hp)(h0 h B:Heap):Prop:=∀b o,h.get? b=some o->b∉frs l->(H b≠none∨∃o',h0.get? b=some o')->B.get? b=some o
def a1z{l:qA Env}{H':Hp}{h0 h1 h2 B:Heap}(f:Un (frs l) [] H H' h0 h1)(j:HOk P w H' h1)(d:Cov l H' h0 h1 B)(st:B.StaysIn h2)(up:h1.UpToSlots h2)(r:h1.FunFrames base l)(t:∀b∈frs l,H' b=none) :
  Un (frs l) [] H H' h0 h2/\HOk P w H' h2/\Cov l H' h0 h2 B:=by
 have y:∀b,H' b≠none->b∉frs l:=λb n c=>n (t b c);refine⟨⟨?_,?_,f.free,?_,f.tups,f.frzs,f.tbls⟩,?_,?_⟩
 .intro b o e n c hx;exact st b o (d b o (f.keep b o e n c hx) c (.inr ⟨o,e⟩))
 .intro b o e n c hx;obtain⟨sl,q⟩:=f.slot b o e n c hx;obtain⟨_,v,i,p⟩:=r.mem c;rw[q]at i;cases i;obtain⟨k,h⟩:=up b _ q p;exact⟨k,h⟩
 .intro b o e hx;obtain⟨g,q⟩:=f.there b o e hx;by_cases c:b∈frs l
  .obtain⟨_,v,i,p⟩:=r.mem c;rw[q]at i;cases i;obtain⟨k,h⟩:=up b _ q p;exact⟨_,h⟩
  .exact⟨g,st b g (d b g q c (.inr ⟨o,e⟩))⟩
 .intro a o e;refine(j a o e).stay (λb u c q=>?_) (λ_ q=>q) λ_ _ q=>q;have m:H' b≠none:=by
   rcases c with rfl|c
   .rw[e];intro z;cases z
   .rw[c];intro z;cases z
  exact st b u (d b u q (y b m) (.inl m))
 .intro b o e c ho;have ex:∃g,h1.get? b=some g:=by
   rcases ho with m|⟨o',q⟩
   .cases eq:H' b with
    |none=>exact absurd eq m
    |some u=>exact(j b u eq).there
   .exact f.there b o' q (by simp)
  obtain⟨g,x⟩:=ex;have h:=d b g x c ho;have s:=st b g h;rw[e]at s;cases s;exact h
def CXE(P:qG)(w:World):CXT:=λouter H s E e s' =>
 ∃(p C:qE) (H':Hp) (B:Heap) (a0:qB),e=.ref p/\s'.os=s.os/\AllBare s'.gens/\Un (frs outer) [] H H' s.heap s'.heap/\HOk P w H' s'.heap /\
  H' p=none/\Heap.FlyingW B outer p (.ref C) a0 s'.heap/\Cov outer H' s.heap s'.heap B/\E (.ref C) none H'
def b2r(C:qE)(E:XK)(t:TA):TS:=λ_ σ H=>t σ H λvs H1=>vs.length<=sizeLine/\E (.ref C) none H1
def b3h{qual:Str}{scope:Scope}{f:qE}{cd:qB}{outer:qA Env}{s0:qC}{g:Hp}{E:XK}{bmB y:qA qB}{B X newId U d S:String}{np pos:Pos}
  (O:OwnCls x C bmB newId mg base) (Fn:ExcBaseFacts X newId S y) (G:bmB.contains (.type X)=true) (Y:ExcBaseFacts B U d bmB)
  (hg:Gl (L8 (CXE P w) P w K mg base N qual scope f cd A outer s0 g E) x)
  (ha:PA (L8 (CXE P w) P w K mg base N qual scope f cd A outer s0 g E) (e::es) t) (hd:(x==("__debug__" : Str))=false:=by decide)
  (v:starEach (e::es) (envOfC qual scope s0.heap.objs.size f cd)=(false,eval e (envOfC qual scope s0.heap.objs.size f cd))::starEach es (envOfC qual scope s0.heap.objs.size f cd):=by rfl)
  (R:(backTo qM (starEach es (envOfC qual scope s0.heap.objs.size f cd))).any (·.1)=false:=by rfl) :
  PS (L8 (CXE P w) P w K mg base N qual scope f cd A outer s0 g E) (.Raise (some (.Call (.Name x np) (e::es) [] qM)) none pos) (b2r C E t):=by
 intro qK s σ H D I h;obtain⟨tl,NC,nm,q,bs,k,sn,sub,ab,col,dd,k0,k1,k2,k3,k5,mN,hC,hN,Q,T⟩:=O.obj;refine wpAny_Raise_call_subU (C:=C) (nm:=nm) (q:=q) (N:=NC) (bs:=bs) (bm:=tl) (hdct:=k) (sn:=sn) (sub:=sub) (ab:=ab) (col:=col) (dd:=dd) (k0:=k0) (k1:=k1) (k2:=k2) (k3:=k3) (k5:=k5)
  Fn G Y (mN:=mN) (T.hasType Y.hasBase) (I.ok.hd rfl) (by show(backTo qM (starEach (e::es) (envOfC qual scope s0.heap.objs.size f cd))).any _=false;rw[v];show(false || (backTo qM (starEach es (envOfC qual scope s0.heap.objs.size f cd))).any (·.1))=false;rw[R];rfl) Q (a1u I hg O.bound ⟨rfl,?_⟩ hd)
 have j:=ha qM qK s σ H _ I h;have J:starEach (e::es) (L8 (CXE P w) P w K mg base N qual scope f cd A outer s0 g E).env=_:=v;rw[J]at j⊢;refine fP (cX j (λus s2 ⟨vs,H1,a,r,hl,q⟩=>⟨rfl,by rw[<-r.length];exact hl,a.bk _ _ hC,hN.keeps a.bk,T.keeps a.bk,λh' p M=>?_⟩) λ_ _ z=>z);have L:∀env∈(envOfC qual scope s0.heap.objs.size f cd::outer),∀b,env.frame=some b->b∈frs (envOfC qual scope s0.heap.objs.size f cd::outer):=λenv v b c=>cj.mpr ⟨env,v,c⟩;refine wpAny_leaves_madeW (base:=hideAll s2.heap (frs (envOfC qual scope s0.heap.objs.size f cd::outer))) (h:=s2.heap) a.ok.frames rfl (λb o q=>of_hideAll _ q) (funFrames_hide a.stack L) M λh2 t x1 x2 x3 x4=>?_;have n:∀b∈frs outer,b∈frs (envOfC qual scope s0.heap.objs.size f cd::outer):=λb c=>by
  obtain⟨env,h1,h2⟩:=cj.mp c;exact cj.mpr ⟨env,aq _ h1,h2⟩
 have m:∀b,b∉frs outer->b≠s0.heap.objs.size->b∉frs (envOfC qual scope s0.heap.objs.size f cd::outer):=λb h1 h2 h3=>by
  obtain⟨env,W,q2⟩:=cj.mp h3;rcases aD.mp W with rfl|W
  .exact h2 (bK q2).symm
  .exact h1 (cj.mpr ⟨env,W,q2⟩)
 have F:Cov outer H1 s0.heap s2.heap (hideAll s2.heap (frs (envOfC qual scope s0.heap.objs.size f cd::outer))):=λb o eb nb c=>by
  refine hideAll_get _ eb (m b nb λz=>?_);subst z;rcases c with c|⟨o',c⟩
  .exact c a.free
  .exact absurd (aI c) (bR _)
 have hp:H1 p=none:=by
  cases eq:H1 p with
  |none=>rfl
  |some u =>
   obtain⟨o,Z⟩:=(a.hok p u eq).there;rw[M.new]at Z;cases Z
 obtain⟨U2,V,i⟩:=a1z (P:=P) (w:=w) (l:=outer) (H:=g) (H':=H1) (h0:=s0.heap) (h1:=s2.heap) (h2:=h2) a.base a.hok F x1.1 ((Heap.UpToSlots.of_keeps M.keeps).trans x4) a.funs λb c=>a.stkFree b (n b c);exact⟨p,C,H1,_,.ref t,rfl,a.os,a.bare,U2,V,hp,x1,i,q⟩
def XP(X:Cx)(qK:qA (qE×Obj))(R:St->qE->Hp->Prop)(e:qB)(s':qC):Prop :=
 ∃(σ1:St) (H1:Hp) (s1:qC) (p C:qE) (H':Hp) (B:Heap) (a0:qB),e=.ref p/\Inv X qK σ1 H1 s1/\s'.os=s1.os/\AllBare s'.gens/\Un (frs X.stack) [] H1 H' s1.heap s'.heap/\HOk X.prog X.w H' s'.heap /\
  H' p=none/\Heap.FlyingW B X.stack p (.ref C) a0 s'.heap/\Cov X.stack H' s1.heap s'.heap B/\R σ1 C H'
abbrev TX:=Ends->(St->qE->Hp->Prop)->St->Hp->Prop
def PSx(X:Cx)(sts:qA Stmt)(t:TX):Prop :=
 ∀(qK:qA (qE×Obj)) (s:qC) (σ:St) (H:Hp) (D:Ends) (R:St->qE->Hp->Prop),Inv X qK σ H s->t D R σ H->wpAny (model X.prog X.w) X.A (execs sts X.env) (SP X qK D) (XP X qK R) s
structure OkE(P:qG)(w:World)(K:qF)(mg:Str->qD qB)(base:Heap)(x:Str)(k:Nat)(ps:qA Str)(sp:Sp):Prop where
 ex:∃f fd,mg x=some (.ref f)/\PySem.W.keepIn K (.ref f)=true/\Binds K fd ps []/\FnOk P w K mg base (CXE P w) k f fd ps sp
def FunAt.okE{st:Stmt}(F:FunAt K mg x st ps)(S:FnScope N ps (A1 st))(e:∀vs H Q E,sp vs H Q E->vs.length=ps.length)
  (b:∀(a:qB) (f:qE) (A:Around) (outer:qA Env) (s:qC) (H:Hp) (vs:qA V) (Q:VK) (E:XK),Room k (A.deeper (envOfC x (A1 st) s.heap.objs.size f a))->sp vs H Q E ->
   ∃t,JB (L8 (CXE P w) P w K mg base N x (A1 st) f a A outer s H E) (G1 st) t/\t {nx:=λ_ H'=>Q .non H',rt:=Q} (start N vs) H):OkE P w K mg base x (k+1) ps sp:=by
 obtain⟨f,fd,h1,h2,i⟩:=F.ex;refine⟨f,fd,h1,h2.kp,i,?_⟩;obtain⟨oc,od,kV,g,pm,an,a,ct,m,rfl,l,c⟩:=h2.ex;refine b7G l c S e λA outer s H vs Q E j d=>?_;obtain⟨t,h,q⟩:=b a f A outer s H vs Q E j d;exact⟨t,h.h,q⟩
def b6W(i:Nat)(sp:Sp)(t:TA):TX:=λD R σ H=>t σ H λvs H1=>sp vs H1 (λv H2=>D.nx (σ.set i (some v)) H2) λc _ H'=>∃C,c=.ref C/\R σ C H'
def b5x{y:Str}{p pos pos':Pos}{i:Nat}(m:∀e s,¬X.xe e s)(O:OkE X.prog X.w X.K X.mg X.base x k ps sp)(Y:Room k X.A)(T:Gl X x)
  (M:X.N.Nodup) (hi:X.N[i]?=some y) (Z:Loc X.env.scope y) (N:PA X (e::es) t) (j:(x==("__debug__" : Str))=false:=by decide)
  (Q:starEach (e::es) X.env=(false,eval e X.env)::starEach es X.env:=by rfl) (l:(backTo qM (starEach es X.env)).any (·.1)=false:=by rfl)
  (hs:swapsWith (.Call (.Name x p) (e::es) [] qM) (some (.Name y pos')) pos.line X.env=pure false:=by rfl) (S:X.fn y=true∨X.env.scope.names.lookup y=some .local:=by first|exact .inl rfl|exact .inr rfl|assumption) :
  PSx X [.Assign [.Name y pos'] (.Call (.Name x p) (e::es) [] qM) pos] (b6W i sp t):=by
 intro qK s σ H D R I h;obtain⟨f,fd,W,U,P,F⟩:=O.ex;refine wpAny_execs_cons (wpAny_Assign_Name ?_ hs);refine eh (a1u I T W ?_ j);refine PySem.W.callWith_K (h₀:=X.base) I.ok.mod.kin U (cX (N qM qK s σ H _ I h) (λd s1 ⟨vs,H1,a,r,q⟩=>⟨a.kIn,?_⟩) λe s z=>absurd z (m e s)) Q l;have V:d.length=ps.length:=by rw[<-r.length];exact F.len _ _ _ _ q
 have b:=P s1 d a.kIn (by rw[di];exact V);rw[di]at b;refine wpAny_call (dy (F.run X.A X.stack s1 H1 ⟨d,[]⟩ d vs _ _ Y a.env0 b r q) λr s' c=>?_);cases r with
 |error e =>
  obtain⟨p,C,H',B,a0,h1,h2,w,A,E,G,J,K,C',L,g⟩:=c;cases L;exact⟨σ,H1,s1,p,C,H',B,a0,h1,a,h2,w,A,E,G,J,K,g⟩
 |ok fl =>
  cases fl with
  |ret u =>
   obtain⟨v,H2,n,rv,q2⟩:=a.after c;exact Z5 n M hi Z rv (λs2 o=>ed ⟨_,H2,o,q2⟩) S
  |next=>exact False.elim c
  |brk=>exact False.elim c
  |cont=>exact False.elim c
section
variable {M:Model}{E:qH}
structure ClsX(K:qF)(C:qE)(above:qA qB):Prop where
 ex:∃nm q N bs bm hdct sn sub ab col dd k0 k1 k2 k3 k5 newId,K.lookup C=some (excClassObj nm q C N bs bm hdct sn sub ab col dd k0 k1 k2 k3 k5 newId)/\bm.contains (.type "BaseException")=true/\∀v∈above,bm.contains v=true
end
section
variable {qK:qA (qE×Obj)}{σ:St}{H1 H':Hp}{s1 s':qC}{p:qE}{B:Heap}{a0:qB}{h2:Heap}
def Inv.land(a:Inv X qK σ H1 s1)(e:s'.os=s1.os)(k:AllBare s'.gens)(g:Un (frs X.stack) [] H1 H' s1.heap s'.heap)(d:HOk X.prog X.w H' s'.heap)(i:s'.heap.FunFrames B X.stack)(c:Cov X.stack H' s1.heap s'.heap B)(st:B.StaysIn h2)(up:s'.heap.UpToSlots h2) :
  Inv X qK σ H' {s' with heap:=h2}:=by
 have j:∀b∈frs X.stack,H' b=none:=λb h=>by
  obtain⟨_,o,l,_⟩:=a.stack.mem h;exact g.free b o l (a.stkFree b h) (by simp)
 obtain⟨U2,f,_⟩:=a1z g d c st up i j;exact a.call' (ch:=[]) e U2 f k (λb z=>absurd z (by simp))
def Inv.landX(i:Inv X qK σ H1 s1)(v:s'.os=s1.os)(I:AllBare s'.gens)(D:Un (frs X.stack) [] H1 H' s1.heap s'.heap)(t:HOk X.prog X.w H' s'.heap)(hp:H' p=none)(G:s'.heap.FunFrames B X.stack)(j:Cov X.stack H' s1.heap s'.heap B)(c:Heap.FlyingW B X.stack p (.ref C) a0 h2)(up:s'.heap.UpToSlots h2) :
  Inv X qK σ (upd H' p (b4u p C)) {s' with heap:=h2}:=by
 have H:∀b∈frs X.stack,H' b=none:=λb h=>by
  obtain⟨_,o,s,_⟩:=i.stack.mem h;exact D.free b o s (i.stkFree b h) (by simp)
 obtain⟨U2,y,f⟩:=a1z D t j c.1 up G H;obtain⟨x,d,l⟩:=c.there;have w:p∉frs X.stack:=λh=>by
  obtain⟨_,o,s,K⟩:=c.2.2.1.mem h;obtain⟨L,vs,_,_,_,g,_,m,_⟩:=c.2.2.2;rw[s]at g;cases g;exact K vs m
 have r:∀o,s1.heap.get? p≠some o:=λo e=>by
  have:=f p x d w (.inr ⟨o,e⟩);rw[c.2.1]at this;cases this
 have F:Un (frs X.stack) [] H1 (upd H' p (b4u p C)) s1.heap h2:=by
  refine⟨U2.keep,U2.slot,λb o e n J=>?_,U2.there,λb xs e=>?_,λb o u e=>?_,λb ps e=>?_⟩
  .rw[A3 (by rintro rfl;exact r o e)];exact U2.free b o e n J
  .have q:=U2.tups b xs e;rw[A3 (by rintro rfl;rw[hp]at q;cases q)];exact q
  .have q:=U2.frzs b o u e;rw[A3 (by rintro rfl;rw[hp]at q;cases q)];exact q
  .obtain⟨more,q⟩:=U2.tbls b ps e;exact⟨more,by rw[A3 (by rintro rfl;rw[hp]at q;cases q)];exact q⟩
 have A:HOk X.prog X.w (upd H' p (b4u p C)) h2:=λa o e=>by
  by_cases E:a=p
  .subst E;rw[A0]at e;cases e;exact⟨⟨x,d,l⟩,⟨x,d⟩,λO P ⟨o,M,N⟩ k=>⟨o,k o M,N⟩⟩
  .rw[A3 E]at e;refine(y a o e).stay (λb u _ q=>q) (λb q=>?_) λb xs q=>?_
   .rw[A3 (by rintro rfl;rw[hp]at q;cases q)];exact q
   .rw[A3 (by rintro rfl;rw[hp]at q;cases q)];exact q
 exact i.call' (ch:=[]) v F A I (λb z=>absurd z (by simp))
end
section
variable {qK:qA (qE×Obj)}{σ:St}{s:qC}
abbrev Cx.held(X:Cx)(p:qE):Cx:={X with A:=X.A.mark (some (.ref p)),calm:=false,xe:=λ_ _=>False}
def Inv.held(I:Inv X qK σ H s)(p:qE):Inv (X.held p) qK σ H s :=
 ⟨⟨I.ok.mod,I.ok.kind,I.ok.glob,I.ok.blt,I.ok.above,I.ok.inj,I.ok.has,I.ok.cab,(λz=>by cases z),I.ok.frames,I.ok.stk,I.ok.exf,I.ok.bs,I.ok.bsz,I.ok.noex,I.ok.exfs,I.ok.funs,I.ok.frf⟩,I.os,I.bare,I.base,I.loc,I.cell,I.free,I.freeC,I.pin,I.hok,I.len⟩
def Inv.unheld{p:qE}(J:X.Ok)(I:Inv (X.held p) qK σ H s):Inv X qK σ H s :=
 ⟨J,I.os,I.bare,I.base,I.loc,I.cell,I.free,I.freeC,I.pin,I.hok,I.len⟩
end
structure JX(X:Cx)(sts:qA Stmt)(t:TX):Prop where
 h:PSx X sts t
section
variable {y:Str}{p pos pos':Pos}{i:Nat}
def b3S(O:OkE X.prog X.w X.K X.mg X.base x k ps sp)(l:Room k X.A)(j:Gl X x)(d:X.N.Nodup)(hi:X.N[i]?=some y)(m:Loc X.env.scope y)(f:JA X (e::es) t)(c:∀e s,¬X.xe e s:=by exact λ_ _ z=>z)(a:(x==("__debug__" : Str))=false:=by decide)
  (g:starEach (e::es) X.env=(false,eval e X.env)::starEach es X.env:=by rfl) (b:(backTo qM (starEach es X.env)).any (·.1)=false:=by rfl)
  (hs:swapsWith (.Call (.Name x p) (e::es) [] qM) (some (.Name y pos')) pos.line X.env=pure false:=by rfl) (h:X.fn y=true∨X.env.scope.names.lookup y=some .local:=by first|exact .inl rfl|exact .inr rfl|assumption) :
  JX X [.Assign [.Name y pos'] (.Call (.Name x p) (e::es) [] qM) pos] (b6W i sp t):=⟨b5x c O l j d hi m f.h a g b hs h⟩
end
def b3W{qual:Str}{scope:Scope}{f:qE}{cd:qB}{outer:qA Env}{s0:qC}{b:Hp}{E:XK}{bmB c:qA qB}{B j newId i a h:String}{p pos:Pos}
  (O:OwnCls x C bmB newId mg base) (l:ExcBaseFacts j newId h c) (d:bmB.contains (.type j)=true) (k:ExcBaseFacts B i a bmB)
  (o:Gl (L8 (CXE P w) P w K mg base N qual scope f cd A outer s0 b E) x)
  (m:JA (L8 (CXE P w) P w K mg base N qual scope f cd A outer s0 b E) (e::es) t) (hd:(x==("__debug__" : Str))=false:=by decide)
  (n:starEach (e::es) (envOfC qual scope s0.heap.objs.size f cd)=(false,eval e (envOfC qual scope s0.heap.objs.size f cd))::starEach es (envOfC qual scope s0.heap.objs.size f cd):=by rfl)
  (g:(backTo qM (starEach es (envOfC qual scope s0.heap.objs.size f cd))).any (·.1)=false:=by rfl) :
  JS (L8 (CXE P w) P w K mg base N qual scope f cd A outer s0 b E) (.Raise (some (.Call (.Name x p) (e::es) [] qM)) none pos) (b2r C E t):=⟨b3h O l d k o m.h hd n g⟩
end L2
namespace L2
open PySem PySem.Spec PyProof.Rows PySem.W Builtin Builtin.ObjectAttr Builtin.Getset_descriptor
section
variable {K:qF}{prog:qG}{w:World}{A:Around}{E:qH}{h:Heap}{g:Array GenState}{d:Drawn}{t:Nat}{os:OsState}{a:qE}{o:Obj}{nm q:Str}{C N:qE}{bs bm:qA qB}{hdct:Bool}{sn:qA Str}{sub:qA qB}{ab:Bool}{col:qD Bool}{dd:qD qE}{k0 k1 k2 k3 k5:qD qB}{newId:String}
end
section
variable {X:Cx}{es:qA Expr}{e:Expr}{t:TA}{pos p:Pos}
end
end L2
namespace L2
open PySem PySem.Spec PyProof.Rows
variable {A:Around}{H:Hp}{K:qF}{a:qE}{rss:LLI}{src:qA (qJ)}{te:TE}{vs:qA V}{w:World}{α:Type}
def a3T{ca:α->V}{xs:qA α}{i:Nat}{x:V}(h:(xs.map ca)[i]?=some x):∃z,xs[i]?=some z/\x=ca z:=by
 rw[aV]at h;cases e:xs[i]? with
 |none=>rw[e]at h;cases h
 |some z=>rw[e]at h;exact⟨z,rfl,(bK h).symm⟩
def b4T{β:Type}{σ caps:St}{Q:VK}{k1 k2:Bool}{b:qE}(ca:α->V)(d:β->V){xs:qA α}{ys:qA β}(f:α->β->V)(u:xs.length<=1000)
  (c:∀H',Same H H'->SqK k1 K H' a (xs.map ca)/\SqK k2 K H' b (ys.map d))
  (k:B5 src σ=none::none::caps) (o:∀x y H1 q,x∈xs->y∈ys->Same H H1->(∀H2,Same H1 H2->q (f x y) H2)->te (some (ca x)::some (d y)::caps) H1 q)
  (hd:∀H1 p,Same H H1->H1 p=none->Q (.ref p) (upd H1 p (.lst (List.zipWith f xs ys)))) :
  I0 src (a7q K 2 (Y9 (B0 0) (Y9 (B0 1) a8I))) V0 te σ Q (Itz K k1 k2 a b) H:=by
 have w:(1000:Nat)<=sizeLine:=by rw[a'];decide
 refine a0l (xs:=xs.map ca) (zs:=ys.map d) (by rw[aj];omega) (λi zs H'=>Same H H'/\zs=(List.zipWith f xs ys).take i) ⟨Same.refl H,by simp⟩ (λi zs H' _ _ h=>⟨(c H' h.1).1,(c H' h.1).2,by rw[h.2];exact bL _ _⟩) ?_ ?_
 .rintro i x z zs H' p hx hy ⟨s,rfl⟩ hp;obtain⟨n,l,r⟩:=a3T hx;obtain⟨g,m,t⟩:=a3T hy;subst r t;clear hx hy;have s':Same H (upd H' p (.tup [ca n,d g])):=s.upd hp;refine⟨p,[ca n,d g],rfl,SqT.of A0,rfl,ca n,[d g],rfl,d g,[],rfl,rfl,?_⟩;rw[k];show Sub _ (some (ca n)::some (d g)::caps)/\_;refine⟨⟨rfl,λj v e=>?_⟩,?_⟩
  .match j,e with
   |0,e=>cases e
   |1,e=>cases e
   |j+2,e=>exact e
  .exact o n g _ _ (aH l) (aH m) s' λH2 s2=>⟨s'.trans s2,(N8 f l m).symm⟩
 .rintro zs H' ⟨s,rfl⟩ p hp;have e:(List.zipWith f xs ys).take (min (xs.map ca).length (ys.map d).length)=List.zipWith f xs ys:=by
   rw[aj,aj,bJ];rw[cP];exact ao _
  rw[e];exact hd H' p s hp
def b0G{σ caps:St}{Q:VK}(ca:α->V){xs:qA α}{j:TT}(t:α->Bool)(k:xs.length<=1000)(b:∀H',Same H H'->SqT K H' a (xs.map ca))(c:B5 src σ=none::caps)
  (f:∀x H1 (g:Bool->Hp->Prop),x∈xs->Same H H1->(∀H2,Same H1 H2->g (t x) H2)->j (some (ca x)::caps) H1 g) (hd:∀H1 p,Same H H1->H1 p=none->Q (.ref p) (upd H1 p (.lst ((xs.filter t).map ca)))):I0 src (B0 0) j (Z2 0) σ Q (Itt K a) H:=by
 have l:(1000:Nat)<=sizeLine:=by rw[a'];decide
 refine Q0 (xs:=xs.map ca) (by rw[aj];omega) (λi ys H'=>Same H H'/\ys=((xs.take i).filter t).map ca) ⟨Same.refl H,by simp⟩ (λi ys H' _ h=>⟨b H' h.1,by rw[h.2,aj];exact ba (bo _ _) (bL _ _)⟩) ?_ ?_
 .rintro i x ys H' hx ⟨s,rfl⟩;obtain⟨z,d,rfl⟩:=a3T hx;show Sub _ ((B5 src σ).set 0 (some (ca z)))/\_;rw[c];refine⟨Sub.one,f z H' _ (aH d) s λH2 s2=>?_⟩;rw[bg,d];cases e:t z with
  |true=>exact⟨_,rfl,s.trans s2,by simp[e]⟩
  |false=>exact⟨s.trans s2,by simp[e]⟩
 .rintro ys H' ⟨s,rfl⟩ p hp;rw[aj,br];exact hd H' p s hp
def c0u{P:qG}{mg:Str->qD qB}{base:Heap}{N:qA Str}{qual:Str}{scope:Scope}{f:qE}{cd:qB}{outer:qA Env}{s0:qC}{u:Hp}{E:XK} :
  a0o (CXE P w) (L8 (CXE P w) P w K mg base N qual scope f cd A outer s0 u E) E:=by
 intro qK σ H1 s1 e s' I h;obtain⟨p,C,H',B,a0,rfl,r,v,G,m,J,c,g,q⟩:=h;have d:=I.land r v G m c.2.2.1 g c.1 (λb o e _=>⟨o.slots,e⟩);refine wpAny_leaves_onW (base:=B) I.ok.frames rfl c λh' y L=>?_;have n:∀b∈frs outer,b∈frs (envOfC qual scope s0.heap.objs.size f cd::outer):=λb a=>by
  obtain⟨env,h1,h2⟩:=cj.mp a;exact cj.mpr ⟨env,aq _ h1,h2⟩
 have k:∀b,b∉frs outer->b≠s0.heap.objs.size->b∉frs (envOfC qual scope s0.heap.objs.size f cd::outer):=λb h1 h2 F=>by
  obtain⟨env,t,x⟩:=cj.mp F;rcases aD.mp t with rfl|t
  .exact h2 (bK x).symm
  .exact h1 (cj.mpr ⟨env,t,x⟩)
 have i:Cov outer H' s0.heap s'.heap B:=λb o D nb a=>by
  refine g b o D (k b nb λz=>?_) ?_
  .subst z;rcases a with a|⟨o',a⟩
   .exact a d.free
   .exact absurd (aI a) (bR _)
  .rcases a with a|⟨o',a⟩
   .exact .inl a
   .exact .inr (I.base.there b o' a (λz=>nomatch z))
 obtain⟨U2,s,j⟩:=a1z (P:=P) (w:=w) (l:=outer) (H:=u) (H':=H') (h0:=s0.heap) (h1:=s'.heap) (h2:=h') d.base m i y.1 L d.funs λb a=>d.stkFree b (n b a);exact⟨p,C,H',B,a0,rfl,d.os,v,U2,s,J,y,j,q⟩
def a9X{P:qG}{mg:Str->qD qB}{base:Heap}{N:qA Str}{qual:Str}{scope:Scope}{f:qE}{cd:qB}{outer:qA Env}{s0:qC}{a:Hp}{E:XK}
  {k:Nat}{ps:qA Str}{sp:Sp}{x:Str}{e:Expr}{es:qA Expr}{t:TA}{p pos:Pos}(O:OkE P w K mg base x k ps sp) (l:Room k (L8 (CXE P w) P w K mg base N qual scope f cd A outer s0 a E).A) (j:Gl (L8 (CXE P w) P w K mg base N qual scope f cd A outer s0 a E) x)
  (h:JA (L8 (CXE P w) P w K mg base N qual scope f cd A outer s0 a E) (e::es) t) (b:(x==("__debug__" : Str))=false:=by decide)
  (i:starEach (e::es) (L8 (CXE P w) P w K mg base N qual scope f cd A outer s0 a E).env=(false,eval e (L8 (CXE P w) P w K mg base N qual scope f cd A outer s0 a E).env)::starEach es (L8 (CXE P w) P w K mg base N qual scope f cd A outer s0 a E).env:=by rfl)
  (c:(backTo pos (starEach es (L8 (CXE P w) P w K mg base N qual scope f cd A outer s0 a E).env)).any (·.1)=false:=by rfl) :
  JE (L8 (CXE P w) P w K mg base N qual scope f cd A outer s0 a E) (.Call (.Name x p) (e::es) [] pos) (a4y sp [] E t):=by
 obtain⟨m,fd,h1,h2,d,g⟩:=O.ex;exact⟨a9H g l j h1 h2 d .nil c0u h.h b i c⟩
def b6T{c:LLI}:((List.range (min rss.length c.length)).all (λj=>decide (rss.getD j []=c.getD j [])) && rss.length==c.length)=decide (rss=c):=by
 rw[cz];simp only[aO,aS,aZ,bH,bj];constructor
 .rintro⟨h1,h2⟩;refine dg h2 λi a b=>?_;have:=h1 i (by omega);simpa[ak,a,b]using this
 .rintro rfl;exact⟨λ_ _=>rfl,rfl⟩
def EqV.its{k:Bool}{b:qE}{d:qA V}{c:LLI}(e:SqK k K H a vs)(f:SqK k K H b d)(h1:Its H vs rss)(h2:Its H d c):EqV K H 2 (.ref a) (.ref b) (decide (rss=c)):=by
 have step:∀j x y,vs[j]?=some x->d[j]?=some y->EqV K H 1 x y (decide (rss.getD j []=c.getD j [])):=λj x y l m=>by
  obtain⟨r,g,ra,rfl,i⟩:=h1.2 j x l;obtain⟨q,eq,n,rfl,h⟩:=h2.2 j y m;rw[ak,ak,g,eq];exact EqV.ints (k:=true) (SqT.of i) (SqT.of h)
 rw[<-b6T,<-h1.1,<-h2.1];cases k
 .exact EqV.lst (λj=>decide (rss.getD j []=c.getD j [])) e f step
 .exact EqV.tup (λj=>decide (rss.getD j []=c.getD j [])) e f step
def a1e{σ caps:St}{Q:VK}(f:qI->V)(l:vs.length<=sizeLine)(b:∀H',Same H H'->SqT K H' a vs)(hI:Its H vs rss)(c:B5 src σ=none::caps)
  (g:∀v r H1 j,r∈rss->IT H1 v r->Same H H1->(∀H2,Same H1 H2->j (f r) H2)->te (some v::caps) H1 j) (hd:∀H1 p,Same H H1->H1 p=none->Q (.ref p) (upd H1 p (.lst (rss.map f)))):I0 src (B0 0) V0 te σ Q (Itt K a) H:=by
 refine Q0 (xs:=vs) (by omega) (λi ys H'=>Same H H'/\ys=(rss.take i).map f) ⟨Same.refl H,by simp⟩ (λi ys H' _ h=>⟨b H' h.1,by rw[h.2,aj];exact bL _ _⟩) ?_ ?_
 .rintro i x ys H' hx ⟨s,rfl⟩;obtain⟨r,k,d,e⟩:=hI.mem hx;show Sub _ ((B5 src σ).set 0 (some x))/\_;rw[c];refine⟨Sub.one,g x r H' _ k (e.same s) s λH2 s2=>⟨s.trans s2,?_⟩⟩;rw[bg,d];simp
 .rintro ys H' ⟨s,rfl⟩ p hp;rw[hI.1,br];exact hd H' p s hp
def Its.put{c:qE}{xs:qA V}{o:HO}(h:Its H vs rss)(b:H c=some (.lst xs)):Its (upd H c o) vs rss:=⟨h.1,λi v e=>let ⟨r,e1,a,e2,q⟩:=h.2 i v e;⟨r,e1,a,e2,by rw[A3 (K1 q b (by intro z;cases z))];exact q⟩⟩
open _root_.HT
section
variable {prog:qG}{E:qH}{s:qC}
def a8V(n:Nat):Builtin.Slice.sliceAdjust none none (-1) (n:Int)=((n:Int)-1,-1):=by
 unfold Builtin.Slice.sliceAdjust;have h1:((-1:Int)<0):=by omega
 simp only[h1,e_]
def a8o(n:Nat):Builtin.Slice.slicePlaces ((n:Int)-1) (-1) (-1)=n:=by
 unfold Builtin.Slice.slicePlaces;have h1:¬((-1:Int) > 0):=by omega
 simp only[h1,if_false,Int.neg_neg,Int.ediv_one];split<;>omega
def a1L{sl:qE}{t:Tok}{n:Nat}{Q:Int×Int×Nat->qC->Prop}(hs:s.heap.IsSliceOf sl .none .none (.int (-1) t))
  (h:Q ((n:Int)-1,-1,n) s):wpAny (model prog w) A (Builtin.Slice.sliceApplied (.ref sl) (pure (n:Int))) Q E s:=by
 obtain⟨os,b,c,a⟩:=id hs;unfold Builtin.Slice.sliceApplied Builtin.Slice.sliceFields;refine aa (aa (bQ b a (x:=.none) rfl (aa (bQ b a (x:=.none) rfl (aa (bQ b a (x:=.int (-1) t) rfl (ae ?_)))))));refine aa (slicePart_int ?_);show wpAny _ _ (if ((-1:Int)==0)=true then _ else _) _ _ s;rw[au (by decide)];refine aa (slicePart_none (aa (slicePart_none (aa (ae ?_)))));show wpAny _ _ (match Builtin.Slice.sliceAdjust none none (-1) (n:Int)with | (lo,hi)=>pure (lo,(-1:Int),Builtin.Slice.slicePlaces lo hi (-1))) _ _ s;rw[a8V n];show wpAny _ _ (pure ((n:Int)-1,(-1:Int),Builtin.Slice.slicePlaces ((n:Int)-1) (-1) (-1))) _ _ s;rw[a8o];exact ae h
def a7s{α β:Type}{f g:α->qD β}:∀(l:qA α),(∀m∈l,f m=g m)->l.filterMap f=l.filterMap g
 |[],_=>rfl
 |a::l,h=>by
  rw[dX,dX,h a (ar ..),a7s l λm b=>h m (aq _ b)]
def b3l(xs:Array qB):((List.range xs.size).filterMap λ(m:Nat)=>xs[(((xs.size:Int)-1)+(m:Int)*(-1)).toNat]?).toArray=xs.toList.reverse.toArray:=by
 congr 1;have e:∀m∈List.range xs.size,xs[(((xs.size:Int)-1)+(m:Int)*(-1)).toNat]?=some (xs.toList.reverse.getD m .none):=λm c=>by
  have a:m<xs.size:=aZ.mp c;have b:(((xs.size:Int)-1)+(m:Int)*(-1)).toNat=xs.size-1-m:=by omega
  rw[b,ak,List.getElem?_reverse (by simpa using a),ay,av,bG (by omega)];rfl
 rw[a7s _ e];rw[show(List.range xs.size).filterMap (λm=>some (xs.toList.reverse.getD m .none))=(List.range xs.size).map (λm=>xs.toList.reverse.getD m .none)from congrFun (List.filterMap_eq_map (f:=λm=>xs.toList.reverse.getD m .none)) _];refine dg (by simp) λi h1 h2=>?_;simp only[List.getElem_map,List.getElem_range];rw[ak,ai h2];rfl
def a1y{t sl:qE}{items:Array qB}{tk:Tok}{Q:qH}(b:IsTup s.heap t items)(hs:s.heap.IsSliceOf sl .none .none (.int (-1) tk))
  (h:Q (.ref s.heap.objs.size) {s with heap:=s.heap.push {cls:=.type "tuple",data:=.seq items.toList.reverse.toArray}})
  (g:items.size<=sizeLine):wpAny (model prog w) A (getItem (.ref t) (.ref sl)) Q E s:=by
 have a:sizeOk (.seq items.toList.reverse.toArray):=by
  show items.toList.reverse.toArray.size<=sizeLine;rw[aC,List.length_reverse,ay];exact g
 obtain⟨os,f,d,i⟩:=id hs;have c:s.TypeIs (.ref sl) "slice":=⟨os,f,d⟩;unfold getItem
 try with_reducible refine bY ?_
 first|refine aa (ae ?_)|skip
 refine aa (wpAny_sequenceKey b.typeIs (by decide) ?_);refine aa (bA (name:=Str.ofString "__getitem__") b.typeIs bM
  (bF bM b.typeIs entry_tuple_getitem ?_ (args_tuple_getitem _ _)))
 show wpAny _ _ (Builtin.Tuple.tupleItemsOf (.ref t)>>=_) _ _ s;refine aa (tupleItemsOf_ b ?_);refine aa (dz c ?_);rw[az (by decide)];refine aa (a1L hs ?_);have e:¬((((items.size:Int)-1)==0 && (-1:Int)==1 && items.size==items.size)=true):=by
  intro q;rw[aO,aO]at q;exact absurd q.1.2 (by decide)
 show wpAny _ _ (if ((((items.size:Int)-1)==0 && (-1:Int)==1 && items.size==items.size))=true then _ else _) _ _ s;rw[au e,b3l]
 first
  |exact aa (m:=Builtin.Tuple.tupleExact _) (bz (ae ⟨_,rfl,ae h⟩) a)
  |exact aa (m:=Builtin.Tuple.tupleExact _) (bz (aa (ae (ae ⟨_,rfl,ae h⟩))) a)
  |exact aa (aa (m:=Builtin.Tuple.tupleExact _) (bz (ae (ae ⟨_,rfl,ae h⟩)) a))
  |exact aa (aa (m:=Builtin.Tuple.tupleExact _) (bz (ae ⟨_,rfl,ae h⟩) a))
def a0I{t sl:qE}{items:Array qB}{e f:qB}{lo hi:qD Int}{Q:qH}(a:IsTup s.heap t items)(hs:s.heap.IsSliceOf sl e f .none)(pl:IsPart e lo)(i:IsPart f hi)
  (hw:sIx items.size 0 lo=0/\sIx items.size items.size hi=items.size) (h:Q (.ref t) s):wpAny (model prog w) A (getItem (.ref t) (.ref sl)) Q E s:=by
 obtain⟨os,d,c,g⟩:=id hs;have b:s.TypeIs (.ref sl) "slice":=⟨os,d,c⟩;unfold getItem
 try with_reducible refine bY ?_
 first|refine aa (ae ?_)|skip
 refine aa (wpAny_sequenceKey a.typeIs (by decide) ?_);refine aa (bA (name:=Str.ofString "__getitem__") a.typeIs bM
  (bF bM a.typeIs entry_tuple_getitem ?_ (args_tuple_getitem _ _)))
 show wpAny _ _ (Builtin.Tuple.tupleItemsOf (.ref t)>>=_) _ _ s;refine aa (tupleItemsOf_ a ?_);refine aa (dz b ?_);rw[az (by decide)];refine aa (V1 hs pl i ?_);rw[hw.1,hw.2];show wpAny _ _ (if ((((0:Nat):Int)==0 && (1:Int)==1 && (items.size-0)==items.size))=true then _ else _) _ _ s;rw[az (by simp)];refine aa (aa (dz a.typeIs (ae ?_)));rw[az (by decide)];exact aa (dP (ae ⟨_,rfl,ae h⟩))
end
section
variable {X:Cx}{e:Expr}{lo hi:qD Expr}{tl th:TO}{pos p2:Pos}
def b5v(K:qF):V->qD Int->qD Int->Hp->VK->Prop:=λx lo hi H Q=>∃a xs,x=.ref a/\SqT K H a xs /\
 ((HT.sIx xs.length 0 lo=0/\HT.sIx xs.length xs.length hi=xs.length)->Q (.ref a) H)/\(¬(HT.sIx xs.length 0 lo=0/\HT.sIx xs.length xs.length hi=xs.length)->∀p,H p=none->Q (.ref p) (upd H p (.tup (N1 xs lo hi))))
def b5e(K:qF)(i:X.K=K):SlR X (b5v K):=by
 subst i;intro qK s σ H x v l m lo hi sl Q I g hs e f h;obtain⟨a,xs,rfl,d,j,k⟩:=h;by_cases hw:HT.sIx xs.length 0 lo=0/\HT.sIx xs.length xs.length hi=xs.length
 .cases g;obtain⟨its,r,c,n⟩:=I.tuple d;have b:its.toArray.size=xs.length:=by rw[aC];exact r.length.symm
  refine⟨"tuple",_,bM.lookup,c.typeIs,?_⟩;exact a0I c hs e f (by rw[b];exact hw) ⟨.ref a,H,I,rfl,j hw⟩
 .exact b2G qK s σ H (.ref a) v l m lo hi sl Q I g hs e f ⟨a,xs,rfl,d,hw,k hw⟩
def a9V(K:qF)(b:JE X e te)(c:JO X lo tl)(d:JO X hi th)(a:X.K=K:=by rfl):JE X (.Subscript e (.Slice lo hi none p2) pos) (tSl (b5v K) te tl th):=⟨a3x (b5e K a) b.h c.h d.h⟩
def b9X(K:qF)(te ts:TE):TE:=λσ H Q=>te σ H λx H1=>ts σ H1 λy H2=>y=.int (-1)/\∃a xs,x=.ref a/\SqT K H2 a xs/\∀p,H2 p=none->Q (.ref p) (upd H2 p (.tup xs.reverse))
def b9i(K:qF){st:Expr}{j:TE}(p:JE X e te)(hs:JE X st j)(n:X.K=K:=by rfl):JE X (.Subscript e (.Slice none none (some st) p2) pos) (b9X K te j):=by
 subst n;refine⟨λqK s σ H Q I h=>?_⟩;refine Subscript_ (thn (p.h qK s σ H _ I h) λv s1 ⟨x,H1,l,B,z⟩=>?_);refine wpAny_Slice ?_;rw[evalPart_none];refine ae ?_;refine ae ?_;rw[evalPart_some];refine thn (hs.h qK s1 σ H1 _ l z) λu c ⟨y,k,m,C,A⟩=>?_;obtain⟨rfl,a,xs,rfl,t,q⟩:=A;obtain⟨tk,rfl⟩:=C;cases B;have f:Inv X qK σ k {c with heap:=c.heap.push {cls:=.type "slice",data:=.fields #[.none,.none,.int (-1) tk]}}:=m.kept (t':=c.toks) λb w q=>ag _ q;obtain⟨its,r,g,i⟩:=f.tuple t;have d:its.toArray.size=xs.length:=by rw[aC];exact r.length.symm
 show wpAny (model X.prog X.w) X.A (subscriptTail e (.Slice none none (some st) p2) (.ref a) (.ref c.heap.objs.size)) (EP X qK σ Q) X.xe {c with heap:=c.heap.push {cls:=.type "slice",data:=.fields #[.none,.none,.int (-1) tk]}};refine tail_any (ops:=[.ref a,.ref c.heap.objs.size]) g.typeIs bM.lookup ?_ (by with_unfolding_all rfl);refine a1y g (Heap.IsSliceOf.new ..) ?_ (by rw[d];exact i);refine⟨.ref _,_,f.laid (t':=c.toks) (o:=.tup xs.reverse) (λb w q=>ag _ q) (ao _) ?_,rfl,q _ (f.hok.fresh (ao _))⟩;exact⟨by rw[List.length_reverse];exact i,_,r.reverse,fi _ _⟩
def a7V(l:qE)(items:Array qB)(n:Nat)(dd:qD qE)(sl:Array (qD qB))(u:Tok)(a:items.isEmpty=false) :
  Meets (Builtin.«tuple.__mul__» ⟨[.ref l,.int 0 u],[]⟩) (λ_ R s=>s.heap.get? l=some {cls:=.type "tuple",dict:=dd,data:=.seq items n,slots:=sl}/\R (.ok (.ret (.ref s.heap.objs.size))) {s with heap:=s.heap.push {cls:=.type "tuple",data:=.seq #[]}}) :=
 .of_wp λprog w A R s h=>by
  obtain⟨e,g,d,tk,os⟩:=s;obtain⟨b,h⟩:=h;have f1:=AutoSeq1.idx_int;have c:¬((items.isEmpty || (0:Int)==1)=true):=by rw[a];decide
  wp_walk using PySem.AutoSeq1.wpAny_loadPart' b
  exact⟨_,rfl,h⟩
def b7r:R2:=λx y H Q=>∃a xs n,x=.ref a/\y=.int n/\H a=some (.tup xs)/\xs≠[]/\0<=n/\(xs.length:Int)*n<=(sizeLine:Int)/\∀p H',Same H H'->H' p=some (.tup (List.replicate n.toNat xs).flatten)->Q (.ref p) H'
def b5W:OpR X (binaryOp .Mult) b7r:=by
 intro qK s σ H x y v u Q I l p h;obtain⟨a,xs,n,rfl,rfl,j,g,D,B,q⟩:=h;by_cases w:n=0
 .subst w;cases l;obtain⟨t,rfl⟩:=p;obtain⟨its,r,p1,C⟩:=I.tuple (.inl (.inl j));obtain⟨⟨cls,dd,data,sl⟩,i,k,m,hd⟩:=id p1;simp only at k hd;subst k hd;have f:=r.length;have d:0<its.length:=by rw[<-f];exact fb.mpr g
  refine wpAny_binaryOp_repeat_ref (T:="tuple") (U:="int") (by decide) ⟨_,i,rfl⟩ (λs'=>typeIs_int s' 0 t) V2 F.fills_int_mul fT a1o F.slot_int_index.lookup
   (dv fT (typeIs_int s 0 t) F.entry_int_rmul (F.args_int_rmul_2 _ _) (a3r 0 t a its.toArray m dd sl) ⟨i,rfl,⟨_,i,rfl⟩,?_⟩)
  refine dv eV ⟨_,i,rfl⟩ F.entry_tuple_mul (F.args_tuple_mul_2 _ _) (a7V a its.toArray m dd sl t (by simp;intro z;rw[z]at d;exact bR _ d)) ⟨i,?_⟩;have A:H s.heap.objs.size=none:=I.hok.fresh (ao _);refine⟨.ref s.heap.objs.size,_,I.laid (t':=s.toks) (o:=.tup []) (λb E q=>ag _ q) (ao _) ?_,rfl,q _ _ (λc o e=>by rw[A3 (A8 e A)];exact e) A0⟩;exact⟨bq _,[],.nil,fi _ _⟩
 .exact a9J qK s σ H (.ref a) (.int n) v u Q I l p ⟨a,xs,n,rfl,rfl,j,g,by omega,B,q⟩
def b9j{a b:Expr}{ta tb:TE}(c:JE X a ta)(d:JE X b tb):JE X (.BinOp a .Mult b pos) (tOp b7r ta tb):=⟨Y8 b5W c.h d.h⟩
def map_int_inj{a b:qI}:a.map V.int=b.map V.int↔a=b:=by
 constructor
 .intro h;induction a generalizing b with
  |nil=>cases b with
   |nil=>rfl
   |cons _ _=>cases h
  |cons x a c=>cases b with
   |nil=>cases h
   |cons y b =>
    rw[aW,aW]at h;injection h with h1 h2
    injection h1 with h1
    rw[h1,c h2]
 .rintro rfl;rfl
end
end L2
namespace L2
open PySem PySem.Spec PyProof.Rows
variable {A:Around}{C a:qE}{E Q:qH}{H H':Hp}{K:qF}{P prog:qG}{X:Cx}{e:Expr}{es:qA Expr}{h h':Heap}{k:Bool}{qL:qA (qA Key×V)}{o:qD V}{p pos:Pos}{qK:qA (qE×Obj)}{ps:qA Str}{s:qC}{sp:Sp}{ta te:TE}{u:qB}{v y:V}{w:World}{x:Str}{xs:qA (qA Key×qE×qB)}{σ:St}
def c0n:RL:=λxs H Q=>∃i:Int,xs=[.int i]/\Q (.int (if i<0 then -i else i)) H
def b1Z:E2 X (.builtin "abs") c0n:=by
 intro qK s σ H xs c Q I b h;obtain⟨i,rfl,q⟩:=h;obtain⟨u,rfl,a⟩:=b.one;obtain⟨t,rfl⟩:=a;exact call_abs_int λu tk=>⟨.int _,H,I.tok tk,⟨u,rfl⟩,q⟩
def b4c{t:TA}(d:Gl X "abs")(f:X.mg "abs"=none)(b:JA X (e::es) t)(c:starEach (e::es) X.env=(false,eval e X.env)::starEach es X.env:=by rfl)(a:(backTo pos (starEach es X.env)).any (·.1)=false:=by rfl):JE X (.Call (.Name "abs" p) (e::es) [] pos) (tCB c0n t):=⟨J4 b1Z d f b9I b.h (by decide) (by decide) c a⟩
def b1H{e it l:qE}{i:Nat}{items:Array qB}{x old:qB}(L:IsEnum s.heap e it (i:Int) old)(H:ItAt k s.heap it l i)(S:SqAt k s.heap l items)(T:items[i]?=some x)(ne:e≠it)
  (R:∀(h':Heap) (t:Tok) (tk:Nat),IsEnumOut h' e it ((i:Int)+1) x s.heap.objs.size->ItAt k h' it l (i+1)->h'.get? s.heap.objs.size=some {cls:=.type "tuple",data:=.seq #[.int i t,x]}->h'.objs.size=s.heap.objs.size+1 ->
   (∀b o,b≠e->b≠it->s.heap.get? b=some o->h'.get? b=some o)->Q (.ref s.heap.objs.size) {s with heap:=h',toks:=tk}) :
  wpAny (model prog w) A (Builtin.«enumerate.__next__» ⟨[.ref e],[]⟩) (λfin s'=>∃v,fin=.done (.ret v)/\Q v s') E s:=by
 show wpAny _ _ (field (.ref e) 2>>=_) _ _ _;refine aa (bQ L rfl (x:=.ref it) rfl ?_);refine aa (a1i H S T λh1 J r=>?_);have g:IsEnum h1 e it (i:Int) old:=r.extBut _ _ ne L;show wpAny _ _ (field (.ref e) 3>>=_) _ _ _;refine aa (bQ g rfl (x:=rawInt i) rfl ?_);show wpAny _ _ (field (.ref e) 4>>=_) _ _ _;refine aa (bQ g rfl (x:=.none) rfl ?_);show wpAny _ _ (if (Value.none==Value.none)=true then _ else _) _ _ _;rw[az (by decide)];refine aa (wpAny_mkInt ?_);refine aa (cp (s:={s with heap:=h1,toks:=s.toks+1}) g (by simp) λh2 h u=>?_);replace h:IsEnum h2 e it ((i:Int)+1) old:=h;refine aa (cp (s:={s with heap:=h2,toks:=s.toks+1}) h (by simp) λa d y=>?_);replace d:IsEnum a e it ((i:Int)+1) old:=d;refine aa (wpAny_newTuple ?_);have I:a.objs.size=s.heap.objs.size:=by rw[y.1,u.1,r.1]
 have p:e<a.objs.size:=aI d;have j:IsEnum (a.push {cls:=.type "tuple",data:=.seq #[.int i s.toks,x]}) e it ((i:Int)+1) old:=ag _ d;refine aa ?_;unfold Builtin.SmallTypes.ownedTupleIsFree;refine aa (bQ j rfl (x:=.none) rfl (ae ?_));show wpAny _ _ (if (Value.none==Value.none)=true then _ else _) _ _ _;rw[az (by decide)];refine aa (dP ?_);refine aa (bQ j rfl (x:=old) rfl ?_);refine aa (cp j (by simp) λO m z=>?_);replace m:IsEnum O e it ((i:Int)+1) x:=m;refine aa ?_;unfold Builtin.SmallTypes.ownedTupleHandOut;refine aa (cp m (by simp) λP n B=>?_);replace n:IsEnumOut P e it ((i:Int)+1) x a.objs.size:=n;refine cp n (by simp) λD f C=>?_;replace f:IsEnumOut D e it ((i:Int)+1) x a.objs.size:=f;refine aa (wpAny_letGo ?_);have up:∀c o,c≠e->a.get? c=some o->D.get? c=some o:=λc o G q=>C.extBut _ _ G (B.extBut _ _ G (z.extBut _ _ G (ag _ q)));have K:D.get? a.objs.size=some {cls:=.type "tuple",data:=.seq #[.int i s.toks,x]}:=C.extBut _ _ (cR p) (B.extBut _ _ (cR p) (z.extBut _ _ (cR p) (aF _ rfl)));have M:D.objs.size=a.objs.size+1:=by rw[C.1,B.1,z.1,bt]
 refine ae ⟨_,rfl,?_⟩;show Q (.ref a.objs.size) _;rw[I]at K M f⊢;refine R D s.toks (s.toks+1) f ((((J.extBut u.extBut ne.symm).extBut y.extBut ne.symm)).at λo q=>up it o ne.symm q) K M λb o F N q=>up b o F (y.extBut _ _ F (u.extBut _ _ F (r.extBut _ _ N q)))
def b4x{e it l:qE}{i:Nat}{items:Array qB}{old:qB}{Q:Fin->qC->Prop}(j:A.handled=none)(h:IsEnum s.heap e it (i:Int) old)(a:ItAt k s.heap it l i)(m:SqAt k s.heap l items)(n:items[i]?=none)
  (g:∀h' x,(∀c o,c≠e->c≠it->s.heap.get? c=some o->h'.get? c=some o)->(∃o,h'.get? x=some o/\o.cls=.type "StopIteration")->E (.ref x) {s with heap:=h'}) :
  wpAny (model prog w) A (Builtin.«enumerate.__next__» ⟨[.ref e],[]⟩) Q E s:=by
 show wpAny _ _ (field (.ref e) 2>>=_) _ _ _;refine aa (bQ h rfl (x:=.ref it) rfl ?_);exact aa (a5n j a m n λh1 x b d=>g h1 x (λc o _ f q=>b _ _ f q) d)
def b7K{α:Type}{M:Model}{c:Bool}{t u:Sem α}{Q:α->qC->Prop}(h1:wpAny M A t Q E s)(h2:wpAny M A u Q E s):wpAny M A (if c=true then t else u) Q E s:=by
 cases c
 .exact h2
 .exact h1
def b4w(l:qE)(xs:Array qB) :
  Meets (Builtin.«enumerate.__new__» ⟨[.type "enumerate",.ref l],[]⟩) (λ_ R s=>SqAt k s.heap l xs /\
   R (.ok (.ret (.ref (s.heap.push (P7 k l)).objs.size))) {s with heap:=(s.heap.push (P7 k l)).push {cls:=.type "enumerate",data:=.fields #[.none,.bool false,.ref s.heap.objs.size,rawInt 0,.none,.none]}}) :=
 .of_wp λprog w A R s h=>by
  obtain⟨e,g,d,tk,os⟩:=s;obtain⟨b,h⟩:=h;have c:=sub_enumerate;have a:SqAt k (Shared.heap ⟨e,g,d,tk,os⟩) l xs:=b
  wp_walk using M7 a
  intro Γ p f;change wpAny _ _ (pure (_:Bool)) _ _ _;refine ae ?_;refine b7K ?_ ?_
  .wp_walk using M7 a
   exact⟨_,rfl,h⟩
  .wp_walk using M7 a
   exact⟨_,rfl,h⟩
def b1I{l:qE}{xs:Array qB}(b:SqAt k s.heap l xs)
  (h:∀h',IsEnum h' (s.heap.objs.size+1) s.heap.objs.size 0 .none->ItAt k h' s.heap.objs.size l 0->h'.objs.size=s.heap.objs.size+2->(∀c o,s.heap.get? c=some o->h'.get? c=some o)->Q (.ref (s.heap.objs.size+1)) {s with heap:=h'}) :
  wpAny (model prog w) A (call (.type "enumerate") [.ref l]) Q E s:=by
 refine callType_new F.called_enumerate (by decide) (F.typeCall_enumerate_1 _) (F.newCall_enumerate_1 _) (λd=>F.args_object_init_2 d _) F.entry_enumerate_new
  (b4w (k:=k) l xs) ⟨b,?_⟩
 have e:(s.heap.push (P7 k l)).objs.size=s.heap.objs.size+1:=bt ..;have a:((s.heap.push (P7 k l)).push {cls:=.type "enumerate",data:=.fields #[.none,.bool false,.ref s.heap.objs.size,rawInt 0,.none,.none]}).get? (s.heap.push (P7 k l)).objs.size=some _:=aF _ rfl;have f:((s.heap.push (P7 k l)).push {cls:=.type "enumerate",data:=.fields #[.none,.bool false,.ref s.heap.objs.size,rawInt 0,.none,.none]}).get? s.heap.objs.size=some (P7 k l):=ag _ (aF _ rfl);show _/\_;rw[e]at a;rw[e];refine⟨⟨_,a,rfl⟩,h _ a ?_ (by rw[bt,e]) λc o x=>ag _ (ag _ x)⟩;cases k<;>exact⟨_,f,rfl,rfl⟩
def Ite(K:qF)(k:Bool)(a:qE):It :=
 ⟨λi H=>∃xs x,SqK k K H a xs/\xs[i]?=some x,
  λi H v H'=>∃p x,v=.ref p/\H p=none/\H'=upd H p (.tup [.int i,x])/\∀xs,SqK k K H a xs->xs[i]?=some x,
  λi H=>∃xs,SqK k K H a xs/\xs.length<=i⟩
structure ETurn(k:Bool)(e it a:qE)(i:Nat)(h:Heap):Prop where
 en:∃old,IsEnum h e it (i:Int) old
 t1:ItAt k h it a i
def b0E{kt:Nat}{tp:Pos}{e it:qE}(ne:e≠it) :
  Turn P w K (.Tuple es kt tp) (Ite K k a) [e,it] e (λi h=>ETurn k e it a i h) where
 mem:=by simp
 obj:=λi h st c f=>by
  simp only[aD,bB,cL]at f;rcases f with rfl|rfl
  .obtain⟨old,q⟩:=st.en;exact⟨_,q,λv z=>by cases z⟩
  .obtain⟨o,e,d⟩:=st.t1.get;exact⟨o,e,λv z=>by rw[d]at z;cases z⟩
 keep:=λi h h' st k=>⟨let ⟨old,q⟩:=st.en;⟨old,k e (by simp) _ q⟩,st.t1.at λo q=>k it (by simp) o q⟩
 item:=by
  intro X C hw B f i qK s σ H E I r st G;subst C hw B;obtain⟨xs,x,j,y⟩:=G;obtain⟨us,M,L,zu⟩:=I.sqk j;obtain⟨u,hu,N⟩:=M.get y;obtain⟨old,g⟩:=st.en;have n:s.TypeIs (.ref e) "enumerate":=⟨_,g,rfl⟩;unfold pyNext;refine aa (dq (bA (name:=Str.ofString "__next__") n eO
   (bF eO n F.entry_enumerate_next
    (b1H g st.t1 L (x:=u) (by simpa using hu) ne λh' t tk a1 U V a4 W=>ae ?_) (F.args_enumerate_next_1 _))))
  refine⟨_,rfl,?_⟩;refine wpAny_letOwnedTupleGo_enum (s:={s with heap:=h',toks:=tk}) a1 λh2 D m=>?_;have p:∀c∈[e,it],c≠s.heap.objs.size:=λc f q=>by
   have:∃o,s.heap.get? c=some o:=by
    simp only[aD,bB,cL]at f;rcases f with rfl|rfl
    .exact⟨_,g⟩
    .obtain⟨o,e,d⟩:=st.t1.get;exact⟨o,e⟩
   obtain⟨o,z⟩:=this;exact absurd (aI z) (by rw[q];exact bR _)
  have l:H s.heap.objs.size=none:=I.hok.fresh (ao _);have J:=m.extBut _ _ (p e (by simp)).symm V;have kk:∀c o,c∉[e,it]->s.heap.get? c=some o->h2.get? c=some o:=λc o f q=>by
   simp only[aD,bB,cL,not_or]at f;exact m.extBut _ _ f.1 (W c o f.1 f.2 q)
  have R:Inv X qK σ (upd H s.heap.objs.size (.tup [.int i,x])) {s with heap:=h2} :=
   I.turnedT (ch:=[e,it]) r rfl kk ⟨by show 2<=sizeLine;decide,[.int i t,u],.cons ⟨t,rfl⟩ (.cons N .nil),⟨_,J,rfl,0,rfl⟩⟩
  have S:=R.tok tk;refine⟨.ref s.heap.objs.size,_,S,rfl,⟨_,x,rfl,l,rfl,λzs hz=>?_⟩,⟨⟨_,D⟩,U.extBut m.extBut ne.symm⟩,λc f=>?_⟩
  .rw[I.sqk_inj hz j];exact y
  .rw[A3 (p c f)];exact(r c f).1
 done:=by
  intro X C hw B f i qK s σ H E I r st G;subst C hw B;obtain⟨xs,j,O⟩:=G;obtain⟨us,M,L,zu⟩:=I.sqk j;have l1:=M.length;obtain⟨old,g⟩:=st.en;have n:s.TypeIs (.ref e) "enumerate":=⟨_,g,rfl⟩;unfold pyNext;refine aa (dq (bA (name:=Str.ofString "__next__") n eO
   (bF eO n F.entry_enumerate_next (b4x (I.ok.hd f) g st.t1 L (by simp;omega) λh' x Y y=>?_) (F.args_enumerate_next_1 _))))
  obtain⟨o,Z,f⟩:=y;refine aa (eT (T:="StopIteration") (b:=true) ⟨o,Z,f⟩ isSubtype_stop ?_);refine ae ⟨rfl,I.turnedL (ch:=[e,it]) r λc o f q=>?_⟩;simp only[aD,bB,cL,not_or]at f;exact Y c o f.1 f.2 q
 self:=λA i s Q E st h=>let ⟨_,q⟩:=st.en;wpAny_pyIter_enum q h
def b7D(K:qF)(ta:TA):TI:=λσ H R=>ta σ H λvs H1=>∃k a,vs=[.ref a]/\(∃xs,SqK k K H1 a xs)/\R (Ite K k a) H1
def b5L{o:Nat}{w:Pos}{a:Expr}{ta:TA}(l:Gl X "enumerate")(m:X.mg "enumerate"=none)(j:PA X [a] ta)(f:bootBuiltins "enumerate"=some (.type "enumerate"))
  (hs:starEach [a] X.env=[(false,eval a X.env)]:=by rfl) :
  PI X (.Tuple es o w) (.Call (.Name "enumerate" p) [a] [] pos) (b7D X.K ta):=by
 intro qK s σ H R I h;refine Call_ (a1R I l m f (dw (thn (j pos qK s σ H _ I h) λx s1 ⟨vs,H1,d,v,u⟩=>?_) (by rw[hs];rfl) (by rfl)));obtain⟨k,A,e,⟨xs,n⟩,q⟩:=u;subst e;cases v with
 |cons r rr =>
  cases rr;cases r;obtain⟨x,B,t,D⟩:=d.sqk n;refine b1I t λh' i y C z=>?_;refine wpAny_pyIter_enum (s:={s1 with heap:=h'}) i ?_;refine⟨s1.heap.objs.size+1,[s1.heap.objs.size+1,s1.heap.objs.size],_,_,H1,rfl,d.kept (t':=s1.toks) z,b0E (nne (by omega)),
   ⟨⟨_,i⟩,y⟩,λc g=>?_,q⟩
  have b:s1.heap.objs.size<=c:=by
   simp only[aD,bB,cL]at g;rcases g with rfl|rfl
   .exact cf _ _
   .exact ao _
  exact d.fpOk b (d.hok.fresh b)
def a6d:bootBuiltins "enumerate"=some (.type "enumerate"):=by kernel_rfl
def a7r{xs:qA V}{g:TG}{tb:TS}{D:Ends}(b:Nat->St->Hp->Prop)(h0:b 0 σ H)
  (l:∀i σ H,i<=xs.length->b i σ H->SqK k K H a xs)
  (hs:∀i x σ H p,xs[i]?=some x->b i σ H->H p=none->g (.ref p) σ (upd H p (.tup [.int i,x])) λσ2 H2=>tb {D with nx:=b (i+1),ct:=b (i+1),bk:=D.nx} σ2 H2) (hd:∀σ H,b xs.length σ H->D.nx σ H) :
  ∃W:Nat->Nat->St->Hp->Prop,(∃m,W 0 m σ H)/\∀i m σ H,W i m σ H ->
   ((Ite K k a).stop i H/\D.nx σ H)∨((Ite K k a).go i H/\∃N:St->Hp->Prop,(∀σ' H',N σ' H'->∃f,f<m/\W (i+1) f σ' H')/\∀x H',(Ite K k a).yld i H x H'->g x σ H' λσ2 H2=>tb {D with nx:=N,ct:=N,bk:=D.nx} σ2 H2):=by
 refine⟨λi m σ H=>m=xs.length-i/\i<=xs.length/\b i σ H,⟨_,rfl,bq _,h0⟩,?_⟩;rintro i m σ H ⟨rfl,hi,p⟩;have d:=l i σ H hi p;by_cases c:i<xs.length
 .refine .inr ⟨⟨xs,xs[i],d,ai c⟩,b (i+1),λσ' H' n=>⟨_,by omega,rfl,c,n⟩,λx H' y=>?_⟩;obtain⟨o,q,e,h,j,r⟩:=y;subst e j;exact hs i q σ _ o (r xs d) p h
 .have e:i=xs.length:=by omega
  subst e;exact .inl ⟨⟨xs,d,ao _⟩,hd σ H p⟩
def a9T(K:qF){f:Nat}{g:Pos}{a:Expr}{t:TA}(d:Gl X "enumerate")(e:X.mg "enumerate"=none)(c:JA X [a] t)(b:X.K=K:=by rfl)(hs:starEach [a] X.env=[(false,eval a X.env)]:=by rfl) :
  JI X (.Tuple es f g) (.Call (.Name "enumerate" p) [a] [] pos) (b7D K t):=by subst b;exact⟨b5L d e c.h a6d hs⟩
section
variable {M:Model}
def a2F{nm q:Str}{N:qE}{bs bm:qA qB}{hdct:Bool}{sn:qA Str}{sub:qA qB}{ab:Bool}{col:qD Bool}{dd:qD qE}{k0 k1 k2 k3 k5:qD qB}{newId:String}{g:Array GenState}{d:Drawn}{t:Nat}{os:OsState}{e:qE}{k:Obj}{Q:Bool->qC->Prop}
  (j:h.get? C=some (excClassObj nm q C N bs bm hdct sn sub ab col dd k0 k1 k2 k3 k5 newId)) (l:h.get? e=some k) (b:k.cls=.ref C)
  (a:bm.contains (.type "BaseException")=true) (m:Q true ⟨h,g,d,t,os⟩):wpAny M A (excMatches (.ref e) (.ref C)) Q E ⟨h,g,d,t,os⟩:=by
 have c:(Value.ref C::bm).contains (.type "BaseException")=true:=by rw[List.contains_cons,a,Bool.or_true]
 have i:(Value.ref C::bm).contains (.ref C)=true:=by rw[List.contains_cons];simp
 have f:=tc_notTuple;unfold excMatches
 repeat (first | (with_reducible refine wpAny_loadPart_at l ?_;rw[b])|with_reducible refine wpAny_loadPart_at j ?_ | (with_reducible refine wpAny_isSubtype_exc j ?_;first|rw[c]|rw[i])|wp_step)
 exact m
end
def b2q(K:qF)(D:qE)(tx:TX)(ts:TS):TS:=λDe σ H=>tx De (λσ1 C H'=>C=D/\∀p,H' p=none->ts De σ1 (upd H' p (b4u p C))) σ H
def b3g{body:qA Stmt}{tx:TX}{Q:TS}{n:Str}{np m:Pos}{M:Stmt}{b:qA Stmt}{D:qE}(j:X.stack=X.env::X.outer)(x:X.env.frame=some X.env.locals)(hx:PSx X body tx)
  (hg:Gl X n) (hm:X.mg n=some (.ref D)) (hD:ClsX X.K D [])
  (A:∀p,PSs (X.held p) (M::b) Q) (hd:(n==("__debug__" : Str))=false:=by decide) :
  PS X (.Try body [.ExceptHandler (some (.Name n np)) none (M::b) m] [] [] pos) (b2q X.K D tx Q):=by
 intro qK s σ H J I h;refine wpAny_Try_except (cX (hx qK s σ H J _ I h) (λf s1 q=>?_) λe s' q=>?_)
 .cases f with
  |next=>exact ed q
  |brk=>exact q
  |cont=>exact q
  |ret v=>exact q
 .obtain⟨σ1,H1,s1,p,C,H',B,a0,rfl,I1,hos,hbare,hU,hok,hp,fl,cov,hC,k⟩:=q;subst hC;have O:=fl.2.2.1;have l:=fl;rw[j]at l;refine wpAny_looks_onW (L:=X.env.locals) (by rw[<-j];exact I1.ok.frames) x l λh4 i F=>?_;refine wpAny_landsW i λY c d=>?_;rw[<-j]at c;have d:=F.trans d;have K:Inv X qK σ1 H' {s' with heap:=Y}:=I1.land hos hbare hU hok O cov c.1 d;refine wpAny_handleBy_cons (codeAny_handlers_test ?_) (by intro q;cases q);refine a1u (X:=X.held p) (K.held p) hg hm ?_ hd;obtain⟨oe,y,u⟩:=c.there;obtain⟨a1,q',S,V,U,w,a2,P,T,N,W,j0,j1,j2,j3,j5,o,E,t,_⟩:=hD.ex;refine a2F (K.kIn _ _ E) y u t ?_;refine codeAny_handlers_suite ?_;refine lands_againW c λZ r G=>?_;have R:Inv X qK σ1 (upd H' p (b4u p C)) {s' with heap:=Z}:=I1.landX hos hbare hU hok hp O cov r (d.trans G);refine cX (A p qK _ _ _ J (R.held p) (k p hp)) (λf s8 a=>?_) λ_ _ z=>False.elim z;cases f with
  |next=>obtain⟨σ2,H2,g,a⟩:=a;exact⟨σ2,H2,g.unheld I.ok,a⟩
  |brk=>obtain⟨σ2,H2,g,a⟩:=a;exact⟨σ2,H2,g.unheld I.ok,a⟩
  |cont=>obtain⟨σ2,H2,g,a⟩:=a;exact⟨σ2,H2,g.unheld I.ok,a⟩
  |ret v=>obtain⟨v',σ2,H2,g,rv,a⟩:=a;exact⟨v',σ2,H2,g.unheld I.ok,rv,a⟩
section
variable {k:Nat}{qM:Pos}{t:TA}
def a7m(K:qF){body:qA Stmt}{tx:TX}{h:TS}{c:Str}{n b:Pos}{g:Stmt}{a:qA Stmt}{D:qE}(m:JX X body tx)(k:Gl X c)(l:X.mg c=some (.ref D))(i:ClsX K D [])
  (f:∀p,JB (X.held p) (g::a) h) (j:X.K=K:=by rfl) (e:X.stack=X.env::X.outer:=by rfl) (d:X.env.frame=some X.env.locals:=by rfl) (hd:(c==("__debug__" : Str))=false:=by decide) :
  JS X (.Try body [.ExceptHandler (some (.Name c n)) none (g::a) b] [] [] pos) (b2q K D tx h):=by
 subst j;exact⟨b3g e d m.h k l i (λp=>(f p).h) hd⟩
end
section
variable (P:qG)(w:World)
end
section
variable {o:HO}
end
section
variable {x e:qE}{o':HO}
end
section
variable {fs fs' ex ex':qA qE}{H1 H2:Hp}{h1 h2:Heap}{x e:qE}{o:HO}
end
section
variable {σ:qA (qD V)}
end
section
variable {a b:Expr}{tb:TE}
variable {tA tB':TT}{rest:qA Expr}
end
section
variable {xs ys:qA V}
end
section
variable {st:Stmt}{rest:qA Stmt}{t u:TS}
end
section
variable {tg:Expr}
end
section
variable {a b c:Expr}{tb tc:TE}
end
section
variable {x dx f:qE}{mA:Str->qD qB}{name:Str}{v:qB}
end
section
variable {dx:qE}{fs fs':qA (Str×V)}
end
section
variable {dx:qE}{fs:qA (Str×V)}{f:Str}
end
section
variable {o value:Expr}{f:Str}{pos' tpos:Pos}{tv:TE}
end
section
variable {c:qB}{b:Bool}
end
section
variable {t:TA}
end
section
variable {s':qC}
end
section
variable {CX:CXT}{k:Nat}{f:qE}{fd:FuncData}{dvs:qA V}{ds:qA qB}{E:XK}{m:Str}{qP:Pos}{o:Expr}{t:TA}
end
section
variable {CX:CXT}{k:Nat}{f:qE}{fd:FuncData}{ks:qA Str}{E:XK}{m:Str}{qP kpos:Pos}{o:Expr}{kws:qA Keyword}{t tk:TA}{nm:qD Str}
variable {g:qA qB->qA qB->qA qB}{gV:qA V->qA V->qA V}
end
section
variable {t:TA}{id T:String}{r:qA V->Hp->VK->Prop}
end
section
variable {κ:Type}[DecidableEq κ]
def G2(qL:qA (κ×V))(k:κ):qD V:=(qL.find? λkv=>decide (kv.1=k)).map (·.2)
def U5(qL:qA (κ×V))(k:κ)(v:V):qA (κ×V) :=
 if (qL.any λkv=>decide (kv.1=k))=true then qL.map (λkv=>if kv.1=k then(kv.1,v)else kv)else qL++[(k,v)]
def G4{p:κ×V}{r:qA (κ×V)}{k:κ}(e:p.1=k):G2 (p::r) k=some p.2:=by simp[G2,ei,e]
def G5{p:κ×V}{r:qA (κ×V)}{k:κ}(e:¬p.1=k):G2 (p::r) k=G2 r k:=by simp[G2,ei,e]
def M6(k:κ):∀qL:qA (κ×V),(qL.any λa=>decide (a.1=k))=(G2 qL k).isSome
 |[]=>rfl
 |p::r=>by
  rw[List.any_cons];by_cases e:p.1=k
  .simp only[G4 e,bb e,Bool.true_or,Option.isSome_some]
  .rw[G5 e,bT e,eY];exact M6 k r
def a6q(k j:κ)(y:V):∀qL:qA (κ×V),G2 (qL.map λa=>if a.1=k then(a.1,y)else a) j=(G2 qL j).map λx=>if j=k then y else x
 |[]=>rfl
 |p::r=>by
  have b:=a6q k j y r;rw[aW];by_cases h:p.1=k
  .rw[az h];by_cases e:p.1=j
   .rw[G4 (p:=(p.1,y)) e,G4 e,fe,az (e.symm.trans h)]
   .rw[G5 (p:=(p.1,y)) e,G5 e,b]
  .rw[au h];by_cases e:p.1=j
   .rw[G4 (p:=p) e,G4 e,fe,au (λz=>h (e.trans z))]
   .rw[G5 (p:=p) e,G5 e,b]
def a4x(k j:κ)(y:V):∀qL:qA (κ×V),G2 qL k=none->G2 (qL++[(k,y)]) j=if j=k then some y else G2 qL j
 |[],_=>by
  by_cases e:k=j
  .rw[az e.symm];exact G4 (p:=(k,y)) e
  .rw[au (λz=>e z.symm)];exact G5 (p:=(k,y)) e
 |p::r,a=>by
  rw[List.cons_append];have b:¬p.1=k:=λz=>by rw[G4 z]at a;cases a
  rw[G5 b]at a;have c:=a4x k j y r a;by_cases e:p.1=j
  .rw[G4 e,G4 e,au (λz=>b (e.trans z))]
  .rw[G5 e,G5 e,c]
def b2l(qL:qA (κ×V))(k j:κ)(y:V):G2 (U5 qL k y) j=if j=k then some y else G2 qL j:=by
 unfold U5;by_cases a:(qL.any λb=>decide (b.1=k))=true
 .rw[az a,a6q];rw[M6]at a;by_cases e:j=k
  .obtain⟨x,hx⟩:=Option.isSome_iff_exists.mp a;rw[az e,e,hx,fe,az rfl]
  .rw[au e];cases G2 qL j with
   |none=>rfl
   |some x=>rw[fe,au e]
 .rw[au a];refine a4x k j y qL ?_;rw[M6]at a;cases q:G2 qL k with
  |none=>rfl
  |some x=>rw[q]at a;exact(a rfl).elim
def a0d(qL:qA (κ×V))(k:κ)(v:V):(U5 qL k v).length<=qL.length+1:=by
 unfold U5;split
 .rw[aj];omega
 .rw[ax,aT,List.length_nil];omega
def a3t{qL:qA (κ×V)}{k:κ}(v:V)(h:G2 qL k=none):U5 qL k v=qL++[(k,v)]:=by
 unfold U5;rw[M6,h];exact au (by decide)
def RelO.isSome_eq{u:qD qB}(r:RelO o u):o.isSome=u.isSome:=by
 cases o with
 |none=>cases u with
  |none=>rfl
  |some _=>exact(show False from r).elim
 |some _=>cases u with
  |none=>exact(show False from r).elim
  |some _=>rfl
def KV.val{qL:qA (κ×V)}{vs:qA (κ×qB)}(r:KV qL vs)(k:κ):RelO (G2 qL k) (valueAt vs k):=by
 unfold KV at r;induction r with
 |nil=>exact True.intro
 |@cons p q ps qs h t a =>
  obtain⟨h1,h2⟩:=h;by_cases e:p.1=k
  .have e':q.1=k:=h1.symm.trans e;have b:valueAt (q::qs) k=some q.2:=by simp[valueAt,ei,e']
   rw[G4 e,b];exact h2
  .have e':¬q.1=k:=λz=>e (h1.trans z);have b:valueAt (q::qs) k=valueAt qs k:=by simp[valueAt,ei,e']
   rw[G5 e,b];exact a
def KV.any{qL:qA (κ×V)}{vs:qA (κ×qB)}(r:KV qL vs)(k:κ):(qL.any λa=>decide (a.1=k))=vs.any λa=>decide (a.1=k):=by
 unfold KV at r;induction r with
 |nil=>rfl
 |cons h t b=>rw[List.any_cons,List.any_cons,b,h.1]
def KV.repl{qL:qA (κ×V)}{vs:qA (κ×qB)}(r:KV qL vs)(k:κ)(c:RelV y u) :
  KV (qL.map λa=>if a.1=k then(a.1,y)else a) (vs.map λa=>if a.1=k then(a.1,u)else a):=by
 unfold KV at r⊢;induction r with
 |nil=>exact .nil
 |@cons p q ps qs h t b =>
  rw[aW,aW];refine .cons ?_ b;obtain⟨h1,h2⟩:=h;by_cases e:p.1=k
  .rw[az e,az (h1.symm.trans e)];exact⟨h1,c⟩
  .rw[au e,au (λz=>e (h1.trans z))];exact⟨h1,h2⟩
def KV.put{qL:qA (κ×V)}{vs:qA (κ×qB)}(r:KV qL vs)(k:κ)(a:RelV y u):KV (U5 qL k y) (stored vs k u):=by
 unfold U5 stored;rw[r.any k];by_cases e:(vs.any λb=>decide (b.1=k))=true
 .rw[az e,az e];exact r.repl k a
 .rw[au e,au e];exact Paired.snoc r ⟨rfl,a⟩
def KV.length{qL:qA (κ×V)}{vs:qA (κ×qB)}(r:KV qL vs):qL.length=vs.length:=Paired.length r
end
def a7j{k:Key}(r:RelV (kV k) u):(C1 P w).is k u=true:=by
 cases k with
 |inl i=>obtain⟨t,e⟩:=(show ∃t,u=Value.int i t from r);subst e;exact a6Z P w i t
 |inr x=>obtain⟨t,e⟩:=(show ∃t,u=Value.str x t from r);subst e;exact a6Y P w x t
def a4N{P:qG}{w:World}:∀{ks:qA Key}{us:qA qB},Vals (ks.map kV) us->ItemsAre (C1 P w) ks us
 |[],_,r=>by rw[List.map_nil]at r;cases r;exact .nil
 |k::ks,_,r=>by
  rw[aW]at r;cases r with
  |cons h t=>exact .cons (a7j h) (a4N t)
abbrev KT(H:Hp):qA (qA Key×V)->qA (qA Key×qE×qB)->Prop:=Paired λp q=>p.1=q.1/\H q.2.1=some (.tup (p.1.map kV))/\RelV p.2 q.2.2
def KT.val(r:KT H qL xs)(k:qA Key):RelO (G2 qL k) ((atKey xs k).map (·.2)):=by
 induction r with
 |nil=>exact True.intro
 |@cons p q ps qs h t a =>
  obtain⟨h1,_,h2⟩:=h;by_cases e:p.1=k
  .have e':q.1=k:=h1.symm.trans e;have b:atKey (q::qs) k=some q.2:=by simp[atKey,ei,e']
   rw[G4 e,b];exact h2
  .have e':¬q.1=k:=λz=>e (h1.trans z);have b:atKey (q::qs) k=atKey qs k:=by simp[atKey,ei,e']
   rw[G5 e,b];exact a
def KT.repl(r:KT H qL xs)(k:qA Key)(d:RelV y u) :
  KT H (qL.map λa=>if a.1=k then(a.1,y)else a) (xs.map (putAt k u)):=by
 induction r with
 |nil=>exact .nil
 |@cons p q ps qs h t c =>
  rw[aW,aW];refine .cons ?_ c;obtain⟨h1,h2,b⟩:=h;unfold putAt;by_cases e:p.1=k
  .rw[az e,az (h1.symm.trans e)];exact⟨h1,h2,d⟩
  .rw[au e,au (λz=>e (h1.trans z))];exact⟨h1,h2,b⟩
def KT.put(r:KT H qL xs)(k:qA Key){b:qE}(c:H b=some (.tup (k.map kV)))(a:RelV y u) :
  KT H (U5 qL k y) (storedH xs k b u):=by
 have e:(qL.any λd=>decide (d.1=k))=(atKey xs k).isSome:=by
  rw[M6,(r.val k).isSome_eq,Option.isSome_map]
 unfold U5 storedH;rw[e];by_cases q:(atKey xs k).isSome=true
 .rw[az q,az q];exact r.repl k a
 .rw[au q,au q];exact Paired.snoc r ⟨rfl,c,a⟩
def KT.keeps(r:KT H qL xs)(a:∀b ys,H b=some (.tup ys)->H' b=some (.tup ys)):KT H' qL xs :=
 Paired.mapP r λ_ _ z=>⟨z.1,a _ _ z.2.1,z.2.2⟩
def b7n{u:HO}(ok:HOk P w H h)(e:Rd H a u):ObjOk P w H h a u:=e.ok ok
def a4V{qL:qA (Key×V)}(ok:HOk P w H h)(e:Rd H a (.dK qL)):qL.length<=sizeLine/\(a==sysModules)=false/\∃vs,KV qL vs/\h.DictOf (C1 P w) a vs :=
 show ObjOk P w H h a (.dK qL)from b7n ok e
def c0L{qL:qA (Key×V)}(ok:HOk P w H h)(e:H a=some (.dK qL)):qL.length<=sizeLine/\(a==sysModules)=false/\∃vs,KV qL vs/\h.DictOf (C1 P w) a vs:=a4V ok (.inl e)
def a0f{ks:qA Key}(ok:HOk P w H h)(e:H a=some (.tup (ks.map kV))):(tupleKind (C1 P w)).is h ks a:=by
 obtain⟨_,its,r,o,h1,h2,n,b⟩:=(show ObjOk P w H h a (.tup (ks.map kV))from ok a _ e);exact⟨o,its.toArray,n,h1,h2,b,by simpa using a4N r⟩
def a4U(ok:HOk P w H h)(e:Rd H a (.dT qL)):qL.length<=sizeLine/\(a==sysModules)=false /\
  ∃xs,KT H qL xs/\h.DictOfH (tupleKind (C1 P w)) a xs:=by
 obtain⟨z,y,xs,r,o,es,ep,h1,h2,d,f,g⟩:=(show ObjOk P w H h a (.dT qL)from b7n ok e);refine⟨z,y,xs,r,o,es,ep,h1,h2,d,f,λx b=>?_,g⟩;have all:∀{l:qA (qA Key×V)}{m:qA (qA Key×qE×qB)},KT H l m->∀x∈m,(tupleKind (C1 P w)).is h x.1 x.2.1:=by
  intro l m q;induction q with
  |nil=>intro x b;exact nomatch b
  |@cons p q ps qs c t i =>
   intro x b;rcases aD.mp b with e|b
   .subst e;exact a0f ok (by rw[<-c.1];exact c.2.1)
   .exact i x b
 exact all r x b
def b7H(ok:HOk P w H h)(e:H a=some (.dT qL)):qL.length<=sizeLine/\(a==sysModules)=false /\
  ∃xs,KT H qL xs/\h.DictOfH (tupleKind (C1 P w)) a xs:=a4U ok (.inl e)
def DGet(H:Hp)(a:qE)(y:V)(r:qD V):Prop :=
 (∃qL k,Rd H a (.dK qL)/\y=kV k/\r=G2 qL k)∨∃qL k b,Rd H a (.dT qL)/\y=.ref b/\H b=some (.tup (k.map kV))/\r=G2 qL k
def DPut(H:Hp)(a:qE)(y v:V)(H':Hp):Prop :=
 (∃qL k,H a=some (.dK qL)/\y=kV k/\qL.length<sizeLine/\H'=upd H a (.dK (U5 qL k v))) ∨
 ∃qL k b,H a=some (.dT qL)/\y=.ref b/\H b=some (.tup (k.map kV))/\qL.length<sizeLine/\H'=upd H a (.dT (U5 qL k v))
def DGet.t{b:qE}{k:qA Key}(e:H a=some (.dT qL))(c:H b=some (.tup (k.map kV))):DGet H a (.ref b) (G2 qL k):=.inr ⟨qL,k,b,.inl e,rfl,c,rfl⟩
def DPut.t{b:qE}{k:qA Key}(e:H a=some (.dT qL))(c:H b=some (.tup (k.map kV)))(d:qL.length<sizeLine) :
  DPut H a (.ref b) v (upd H a (.dT (U5 qL k v))):=.inr ⟨qL,k,b,e,rfl,c,d,rfl⟩
section
variable {r:qB}
def Inv.big(I:Inv X qK σ H s):sysModules<s.heap.objs.size:=by
 have h:mainGlobals<s.heap.objs.size:=(I.mod.glob.keeps I.bk).lt;exact fV (by decide) h
def b1L(r:A.units+1<cLine)(I:Inv X qK σ H s)(g:DGet H a y (some v))(m:RelV y u)(h:∀f s',Inv X qK σ H s'->RelV v f->Q f s') :
  wpAny (model X.prog X.w) A (getItem (.ref a) u) Q E s:=by
 rcases g with⟨qL,k,e,i,l⟩|⟨qL,k,b,e,i,n,l⟩
 .subst i;obtain⟨z,hd,vs,c,dd⟩:=a4V I.hok e;obtain⟨f,hw,d⟩:=RelO.some_of (v:=v) (o:=valueAt vs k) (by rw[l];exact c.val k);exact wpAny_getItem_of (a7j m) dd.mapOf hw (h f _ (I.tok _) d)
 .subst i;cases(show u=Value.ref b from m);obtain⟨z,hd,xs,c,dd⟩:=a4U I.hok e;obtain⟨f,hw,d⟩:=RelO.some_of (v:=v) (o:=(atKey xs k).map (·.2)) (by rw[l];exact c.val k);obtain⟨p,q,j⟩:=eB.mp hw;refine wpAny_getItem_heap (ek r) (a0f I.hok n) dd q ?_;rw[j];exact h f _ (I.tok _) d
def c0V(j:A.units+1<cLine)(I:Inv X qK σ H s)(g:DGet H a y o)(f:RelV y u)(h:∀s',Inv X qK σ H s'->Q (.bool o.isSome) s') :
  wpAny (model X.prog X.w) A (compareOp .In u (.ref a)) Q E s:=by
 rcases g with⟨qL,k,e,d,l⟩|⟨qL,k,b,e,d,i,l⟩
 .subst d;obtain⟨z,hd,vs,c,dd⟩:=a4V I.hok e;refine wpAny_in_of (a7j f) hd dd.mapOf ?_;rw[<-(c.val k).isSome_eq,<-l];exact h _ (I.tok _)
 .subst d;cases(show u=Value.ref b from f);obtain⟨z,hd,xs,c,dd⟩:=a4U I.hok e;refine wpAny_in_heap (ek j) (a0f I.hok i) hd dd ?_;have q:=(c.val k).isSome_eq;rw[Option.isSome_map]at q;rw[<-q,<-l];exact h _ (I.tok _)
def b6H(j:A.units+1<cLine)(I:Inv X qK σ H s)(g:DGet H a y o)(f:RelV y u)(h:∀s',Inv X qK σ H s'->Q (.bool (!o.isSome)) s') :
  wpAny (model X.prog X.w) A (compareOp .NotIn u (.ref a)) Q E s:=by
 rcases g with⟨qL,k,e,d,l⟩|⟨qL,k,b,e,d,i,l⟩
 .subst d;obtain⟨z,hd,vs,c,dd⟩:=a4V I.hok e;refine wpAny_notIn_of (a7j f) hd dd.mapOf ?_;rw[<-(c.val k).isSome_eq,<-l];exact h _ (I.tok _)
 .subst d;cases(show u=Value.ref b from f);obtain⟨z,hd,xs,c,dd⟩:=a4U I.hok e;refine wpAny_notIn_heap (ek j) (a0f I.hok i) hd dd ?_;have q:=(c.val k).isSome_eq;rw[Option.isSome_map]at q;rw[<-q,<-l];exact h _ (I.tok _)
def a5W{t':Nat}{c:HO}(I:Inv X qK σ H s)(g:Mut (H a))(hs:Heap.SameBut a s.heap h')(f:∃q,h'.get? a=some q)(new:ObjOk X.prog X.w (upd H a c) h' a c) :
  Inv X qK σ (upd H a c) {s with heap:=h',toks:=t'} :=
 I.write (x:=a) (e:=a) g (.inl rfl) (λb q d z=>(hs.2 b d).trans z) f new
def b9y{qL:qA (Key×V)}{vs:qA (Key×qB)}(z:qL.length<=sizeLine)(hd:(a==sysModules)=false)(b:KV qL vs)(dd:h'.DictOf (C1 P w) a vs) :
  ObjOk P w H' h' a (.dK qL):=⟨z,hd,vs,b,dd⟩
def b1K{Q:Unit->qC->Prop}(G:A.units+1<cLine)(I:Inv X qK σ H s)(g:DPut H a y v H')(x:RelV y u)(w:RelV v r)(h:∀s',Inv X qK σ H' s'->Q () s') :
  wpAny (model X.prog X.w) A (setItem (.ref a) u r) Q E s:=by
 rcases g with⟨qL,k,e,m,l,j⟩|⟨qL,k,b,e,m,p,l,j⟩
 .subst m j;obtain⟨z,hd,vs,d,dd⟩:=c0L I.hok e;have o:vs.length<=sizeLine:=by rw[<-d.length];exact z
  have n:(U5 qL k v).length<=sizeLine:=by have:=a0d qL k v;omega
  refine wpAny_setItem_pairs (hsz:=o) (a7j x) dd λh' f hs=>h _ ?_;have F:∃q,h'.get? a=some q:=let ⟨q,_,_,i,_⟩:=f;⟨q,i⟩
  exact a5W I (by rw[e];exact True.intro) hs F (b9y n hd (d.put k w) f)
 .subst m j;cases(show u=Value.ref b from x);obtain⟨z,hd,xs,d,dd⟩:=b7H I.hok e;have o:xs.length<=sizeLine:=by rw[<-Paired.length d];exact z
  have n:(U5 qL k v).length<=sizeLine:=by have:=a0d qL k v;omega
  refine wpAny_setItem_heap (hsz:=o) (ek G) (a0f I.hok p) dd λh' f hs=>h _ ?_;obtain⟨q,es,ep,i,h2,B,C,_,D⟩:=f;refine a5W I (by rw[e];exact True.intro) hs ⟨q,i⟩ ⟨n,hd,_,(d.put k p w).keeps λc ys t=>?_,q,es,ep,i,h2,B,C,D⟩;rw[A3 (K1 t e (λz=>nomatch z))];exact t
end
section
variable {qL:qA (Key×V)}{k:Key}
end
def b9P(i:Expr):Prop:=∀ov iv,subscripted i false ov iv=operate [ov,iv] (getItem ov iv)
def b5b{env:Env}{value a:Expr}{T id:String}
  (c:typeLookup (.type T) "__getitem__"=pure (some (.builtin id))) (hs:b9P a)
  (h:wpAny (model prog w) A (eval value env) (λo s₁=>wpAny (model prog w) A (eval a env) (λi s₂=>s₂.TypeIs o T/\wpAny (model prog w) A (getItem o i) Q E s₂) E s₁) E s) :
  wpAny (model prog w) A (eval (.Subscript value a pos) env) Q E s:=by
 refine Subscript_ (cX h (λo s₁ h₁=>cX h₁ (λi s₂ h₂=>?_) λ_ _ x=>x) λ_ _ x=>x);obtain⟨b,h₂⟩:=h₂;unfold subscriptTail;refine aa ?_;rw[getitemInPython_of_ne b.not_modules];refine aa (wpAny_specialOf b c ?_);have fin:wpAny (model prog w) A (subscripted a false o i) (λr s₃=>wpAny (model prog w) A (letTemporaryGo value o r>>=λ_=>pure r) Q E s₃) E s₂:=by
  rw[hs o i];exact wpAny_operating (cX h₂ (λr s₃ h₃=>aa (wpAny_letTemporaryGo (ae h₃))) λ_ _ x=>x)
 first
  |exact ae (aa fin)
  |exact aa (ae (aa fin))
  |exact aa fin
def a7B(I:Inv X qK σ H s)(g:DGet H a y o):s.TypeIs (.ref a) "dict":=by
 rcases g with⟨qL,k,e,_,_⟩|⟨qL,k,b,e,_,_,_⟩
 .obtain⟨_,_,vs,_,dd⟩:=a4V I.hok e;exact dd.typeIs
 .obtain⟨_,_,xs,_,dd⟩:=a4U I.hok e;exact dd.typeIs
def b7c(td ty:TE):TE:=λσ H Q=>td σ H λx H1=>ty σ H1 λy H2=>∃a v,x=.ref a/\DGet H2 a y (some v)/\Q v H2
def c0e(ty td:TE):TE:=λσ H Q=>ty σ H λy H1=>td σ H1 λx H2=>∃a o,x=.ref a/\DGet H2 a y o/\Q (.bl o.isSome) H2
def a9k(ty td:TE):TE:=λσ H Q=>ty σ H λy H1=>td σ H1 λx H2=>∃a o,x=.ref a/\DGet H2 a y o/\Q (.bl (!o.isSome)) H2
def b7m(td ty tv:TE):TS:=λD σ H=>tv σ H λv H1=>td σ H1 λx H2=>ty σ H2 λy H3=>∃a H4,x=.ref a/\DPut H3 a y v H4/\D.nx σ H4
section
variable {o i value:Expr}{pos' tpos:Pos}{td ty tv:TE}
def b5S(j:X.A.units+1<cLine)(f:PE X o td)(hi:PE X i ty)(hs:b9P i):PE X (.Subscript o i pos) (b7c td ty):=by
 intro qK s σ H Q I h;refine b5b PySem.F.slot_dict_getitem.lookup hs (thn (f qK s σ H _ I h) λu s1 ⟨x,H1,d,m,k⟩=>thn (hi qK s1 σ H1 _ d k) λp s2 ⟨y,H2,c,n,a,v,ex,g,l⟩=>?_);subst ex;obtain rfl:u=Value.ref a:=m;exact⟨a7B c g,b1L j c g n λr q e b=>⟨v,H2,e,b,l⟩⟩
def b8y(f:X.A.units+1<cLine)(hi:PE X i ty)(e:PE X o td):PC X .In i o (c0e ty td):=by
 intro qK s σ H Q I h;refine thn (hi qK s σ H _ I h) λp s1 ⟨y,H1,b,n,k⟩=>thn (e qK s1 σ H1 _ b k) λu s2 ⟨x,H2,c,m,a,j,ex,g,l⟩=>?_;subst ex;obtain rfl:u=Value.ref a:=m;exact c0V f c g n λq d=>⟨.bl j.isSome,H2,d,rfl,l⟩
def b1c(f:X.A.units+1<cLine)(hi:PE X i ty)(e:PE X o td):PC X .NotIn i o (a9k ty td):=by
 intro qK s σ H Q I h;refine thn (hi qK s σ H _ I h) λp s1 ⟨y,H1,b,n,k⟩=>thn (e qK s1 σ H1 _ b k) λu s2 ⟨x,H2,c,m,a,j,ex,g,l⟩=>?_;subst ex;obtain rfl:u=Value.ref a:=m;exact b6H f c g n λq d=>⟨.bl (!j.isSome),H2,d,rfl,l⟩
def b5C(k:X.A.units+1<cLine)(j:PE X o td)(hi:PE X i ty)(l:PE X value tv)(hs:swapsWith value (some (.Subscript o i pos')) pos.line X.env=pure false) :
  PS X (.Assign [.Subscript o i pos'] value pos) (b7m td ty tv):=by
 intro qK s σ H D I h;refine wpAny_Assign_Subscript (thn (l qK s σ H _ I h) λr s1 ⟨v,H1,c,q,m⟩=>thn (j qK s1 σ H1 _ c m) λu s2 ⟨x,H2,d,t,n⟩=>thn (hi qK s2 σ H2 _ d n) λA B ⟨y,z,e,w,a,b,ex,g,p⟩=>?_) hs;subst ex;obtain rfl:u=Value.ref a:=t;exact b1K k e g w q λC f=>⟨σ,b,f,p⟩
end
def b4z(h:Heap)(a:sysModules<h.objs.size):ObjOk P w H (h.push {cls:=.type "dict",data:=.dict #[]}) h.objs.size (.dT []) :=
 ⟨bq _,cO.mpr (du (aQ a)),[],.nil,_,#[],0,aF _ rfl,⟨rfl,rfl,rfl⟩,rfl,rfl,eQ⟩
def b2t:TE:=λ_ H Q=>∀p,H p=none->Q (.ref p) (upd H p (.dT []))
def b3t:PE X (.Dict [] [] pos) b2t:=λqK s σ H Q I h =>
 wpAny_Dict_empty ⟨.ref s.heap.objs.size,_,I.laid (a:=s.heap.objs.size) (o:=.dT []) (t':=s.toks) (λ_ _ q=>ag _ q) (ao _) (b4z s.heap I.big),rfl,h _ (I.hok.fresh (ao _))⟩
structure M2(X:Cx)(o:Expr)(m:Str)(qP:Pos)(e f:Expr)(qM:Pos):Prop where
 base:attributeBase o m X.env (eval o X.env)=eval o X.env
 few:((backTo qM (starEach [e,f] X.env)).all (λx=>!x.1) && (backToKw qM (keywordEach [] X.env)).all (λx=>x.1.isSome)
  && decide (([e,f]:qA Expr).length+([]:qA Keyword).length+(if ([]:qA Keyword).isEmpty then 0 else 1)<30))=true
 line:(qP.endLine==qM.line)=true
 trees:backTo qM (starEach [e,f] X.env)=[(false,eval e X.env),(false,eval f X.env)]
def IsD(H:Hp)(a:qE):Prop:=(∃qL,Rd H a (.dK qL))∨∃qL,Rd H a (.dT qL)
def b9q(I:Inv X qK σ H s)(d:IsD H a) :
  s.TypeIs (.ref a) "dict"/\(∀b,Value.ref a=.ref b->∃c,s.heap.get? b=some c/\c.dict=none)/\(a==sysModules)=false:=by
 rcases d with⟨qL,e⟩|⟨qL,e⟩
 .obtain⟨_,hd,vs,_,dd⟩:=a4V I.hok e;refine⟨dd.typeIs,λb q=>?_,hd⟩;cases q;obtain⟨c,_,_,h1,h2,_⟩:=dd;exact⟨c,h1,h2.2.1⟩
 .obtain⟨_,hd,xs,_,dd⟩:=a4U I.hok e;refine⟨dd.typeIs,λb q=>?_,hd⟩;cases q;obtain⟨c,_,_,h1,h2,_⟩:=dd;exact⟨c,h1,h2.2.1⟩
section
variable {d:V}{r:qB}
end
section
variable {o f:Expr}{qP qM:Pos}{td ty tx:TE}
end
section
variable {qL:qA (Key×V)}
end
end L2
namespace Att
open PySem PySem.W PySem.Calls PyProof.Rows
section
variable {prog:qG}{w:World}{A:Around}{E:qH}{s:qC}{K:Frag}
end
end Att
namespace L2
open PySem PySem.Spec PyProof.Rows
end L2
namespace L2
open PySem PySem.Spec PyProof.Rows
section
variable {P:qG}{w:World}{K:qF}{mg:Str->qD qB}{base:Heap}
end
section
variable {X:Cx}
end
section
variable {κ:Type}[DecidableEq κ]
def a6p{qL:qA (κ×V)}{k:κ}(h:G2 qL k=none):¬k∈qL.map (·.1):=by
 intro m;obtain⟨p,a,e⟩:=aM.mp m;have q:(qL.any λb=>decide (b.1=k))=true:=bP.mpr ⟨p,a,bb e⟩;rw[M6,h]at q;exact absurd q (by simp)
def a9h{qL:qA (κ×V)}{k:κ}{v:V}(h:G2 qL k=some v):k∈qL.map (·.1):=by
 have q:(qL.any λb=>decide (b.1=k))=true:=by
  rw[M6,h]
  all_goals rfl
 obtain⟨p,a,e⟩:=bP.mp q;exact aM.mpr ⟨p,a,bE e⟩
def a5L:∀{l:qA κ}{k:κ},l.Nodup->¬k∈l->(l++[k]).Nodup
 |[],k,_,_=>by simp
 |a::r,k,h,b=>by
  obtain⟨h1,h2⟩:=cq.mp h;show(a::(r++[k])).Nodup;refine cq.mpr ⟨λm=>?_,a5L h2 λm=>b (aD.mpr (Or.inr m))⟩;rcases aA.mp m with q|q
  .exact h1 q
  .exact b (aD.mpr (Or.inl (aB.mp q).symm))
end
end L2
namespace L2
open PySem PySem.Spec PyProof.Rows PySem.W
variable {A:Around}{D:Keyed->Prop}{E:qH}{O:KeyOrd}{Q:qJ->SortSt->Prop}{X:Cx}{a0 qO:Array Keyed}{d:qE}{ep i j k lo n:Nat}{es:Array DictEntry}{h:Heap}{key x:Keyed}{l rest:qA Keyed}{left:Bool}{prog:qG}{rss:LLI}{runs:qA (qA Keyed)}{s:qC}{st st':SortSt}{vs:qA qB}{w:World}{α:Type}{κ:SortKind}
section
variable {key:Nat->O.α}{N:Nat}{p:Array Nat}
def kk(key:Nat->O.α)(p:Array Nat)(i:Nat):O.α:=key (p[i]?.getD 0)
end
def L5:∀a:qI,HT.lexLt a a=false
 |[]=>rfl
 |x::xs=>by rw[HT.lexLt_cons,az rfl];exact L5 xs
def a1P:∀a b c:qI,HT.lexLt a b=true->HT.lexLt b c=true->HT.lexLt a c=true
 |[],[],_,h,_=>by cases h
 |_::_,[],_,h,_=>by cases h
 |_,_::_,[],_,h=>by cases h
 |[],_::_,_::_,_,_=>rfl
 |x::xs,y::ys,z::zs,h1,h2=>by
  rw[HT.lexLt_cons]at h1 h2⊢;by_cases e:x=y
  .rw[az e]at h1;by_cases d:y=z
   .rw[az d]at h2;rw[az (e.trans d)];exact a1P xs ys zs h1 h2
   .rw[au d]at h2;rw[au (by rw[e];exact d),e];exact h2
  .rw[au e]at h1;have h1:=bE h1;by_cases d:y=z
   .rw[au (by rw[<-d];exact e),<-d];exact bb h1
   .rw[au d]at h2;have h2:=bE h2;rw[au (by omega)];exact bb (by omega)
def O9:∀a b:qI,HT.lexLt a b=false->HT.lexLt b a=false->a=b
 |[],[],_,_=>rfl
 |[],_::_,h,_=>by cases h
 |_::_,[],_,h=>by cases h
 |x::xs,y::ys,h1,h2=>by
  rw[HT.lexLt_cons]at h1 h2;by_cases e:x=y
  .subst e;rw[az rfl]at h1 h2;rw[O9 xs ys h1 h2]
  .rw[au e]at h1;rw[au (du e)]at h2;have h1:=of_decide_eq_false h1;have h2:=of_decide_eq_false h2;omega
def b6o(a b c:qI)(h:HT.lexLt a c=true):HT.lexLt a b=true∨HT.lexLt b c=true:=by
 cases h1:HT.lexLt a b with
 |true=>exact .inl rfl
 |false =>
  refine .inr ?_;cases h2:HT.lexLt b a with
  |true=>exact a1P b a c h2 h
  |false=>rw[<-O9 a b h1 h2];exact h
def OL:KeyOrd:=⟨qI,HT.lexLt,L5,a1P,b6o,O9⟩
def C8(tss:LLI):Prop:=tss.Pairwise λa b=>HT.lexLt b a=false
def b6p(fin:Bool):qI->qI->Bool
 |[],_=>fin
 |_::_,[]=>fin
 |x::xs,y::ys=>if x=y then b6p fin xs ys else decide (x<y)
def a7d:∀(xs ys:qI),b6p (decide (xs.length<ys.length)) xs ys=HT.lexLt xs ys
 |[],[]=>rfl
 |[],y::ys=>by
  show decide (0<ys.length+1)=true;exact bb (by omega)
 |x::xs,[]=>by
  show decide (xs.length+1<0)=false;exact bT (by omega)
 |x::xs,y::ys=>by
  rw[HT.lexLt_cons];show(if x=y then _ else _)=_;split
  .rw[<-a7d xs ys];congr 1;simp only[aT];exact decide_eq_decide.mpr (by omega)
  .rfl
def b1f{c:Bool}{a b:Int}{t u:Tok}{Q:Bool->qC->Prop}(h:Q (decide (a<b)) s):wpAny (model prog w) A (oneLt' c (.int a t) (.int b u)) Q E s:=by
 cases c with
 |true=>exact oneLt_int h
 |false=>exact kat_one _ _ (lt_int h)
def a2u{b fin:Bool}{Q:Bool->qC->Prop}:∀{vs a:qA qB}{ns ms:qI}(i:Nat),IntsAre vs ns->IntsAre a ms->Q (b6p fin ns ms) s->KatLex prog w A b fin Q (vs.zip a) i s
 |_,_,_,_,i,.nil,_,h=>h
 |_,_,_,_,i,.cons _ _ _,.nil,h=>h
 |_,_,_,_,i,.cons x t c,.cons y u d,h=>by
  rw[List.zip_cons_cons];refine kat_cons (wpAny_eqBool_int ?_);have h:Q (if x=y then b6p fin _ _ else decide (x<y)) s:=h;by_cases e:x=y
  .rw[az e]at h;rw[show(x==y)=true from bj.mpr e];exact kat_yes (a2u (i+1) c d h)
  .rw[au e]at h;rw[show(x==y)=false from cO.mpr e];exact kat_no (b1f h)
def TupsAre(h:Heap)(vs:qA qB)(rss:LLI):Prop:=vs.length=rss.length/\∀(i:Nat) (v:qB),vs[i]?=some v->∃(r:qI) (b:qE) (its:Array qB),rss[i]?=some r/\v=Value.ref b/\IsTup h b its/\IntsAre its.toList r
def TupsAre.keeps{h':Heap}(t:TupsAre h vs rss)(k:∀b its,IsTup h b its->IsTup h' b its):TupsAre h' vs rss :=
 ⟨t.1,λi v e=>let ⟨r,b,its,e1,e2,e3,e4⟩:=t.2 i v e;⟨r,b,its,e1,e2,k _ _ e3,e4⟩⟩
def a6s{h:Heap}:∀{vs:qA qB}{rss:LLI},TupsAre h vs rss->(∀r∈rss,0<r.length)->∃fs,KatTups h vs fs/\fs.length=vs.length/\∀f∈fs,∃n t,f=Value.int n t
 |[],_,_,_=>⟨[],trivial,rfl,λ_ z=>nomatch z⟩
 |v::vs,[],T,_=>by cases T.1
 |v::vs,r::rss,T,hw=>by
  obtain⟨fs,h1,h2,p⟩:=a6s (vs:=vs) (rss:=rss) ⟨by have:=T.1;simpa using this,λi u e=>T.2 (i+1) u e⟩ λr c=>hw r (aq _ c);obtain⟨y,b,its,j,k,⟨o,q,s,n,w⟩,d⟩:=T.2 0 v rfl;cases j;have c:=hw r ar;obtain⟨x,t,g,m⟩:∃x t g,its.toList=Value.int x t::g:=by
   generalize its.toList=l at d;cases d with
   |nil=>simp at c
   |cons x t h=>exact⟨x,t,_,rfl⟩
  refine⟨.int x t::fs,⟨⟨b,o,its,n,k,q,s,w,?_⟩,h1⟩,by simp[h2],λf a=>?_⟩
  .rw[<-av,m];rfl
  .rcases aD.mp a with rfl|a
   .exact⟨x,t,rfl⟩
   .exact p f a
def b0F{Q:SortKind->qC->Prop}(T:TupsAre s.heap vs rss)(hw:∀r∈rss,0<r.length)(a:0<vs.length)(h:Q (tuples' true) s):wpAny (model prog w) A (keyKind' vs.toArray) Q E s:=by
 obtain⟨fs,h1,h2,b⟩:=a6s T hw;refine kat_kind (T:=.type "int") h1 (by omega) (λv a=>?_) rfl ?_
 .obtain⟨n,t,rfl⟩:=b v a;exact .now
 .rw[show(Value.type "int" != Value.type "tuple")=true from rfl];exact h
def Y7{a:qE}{out:Array qB}:∀b o,b≠a->h.get? b=some o->(sortedHeap h a vs out).get? b=some o:=λb o c e=>by
 unfold sortedHeap;rw[Heap.get?_update_ne _ _ _ _ c];exact ag _ (ag _ (by rw[Heap.get?_update_ne _ _ _ _ c];exact e))
def a0J{a:qE}{out:Array qB}(f:h.get? a=some (seqObj "list" vs.toArray n)):∃c,(sortedHeap h a vs out).get? a=some (seqObj "list" out c):=by
 unfold sortedHeap;have g:a<h.objs.size:=aI f;obtain⟨b,d⟩:∃b,(h.update a (Obj.mapSeq λ_=>#[])).get? a=some (seqObj "list" #[] b):=⟨_,get?_update_seq f (λ_=>#[])⟩;have e:(((h.update a (Obj.mapSeq λ_=>#[])).push (seqObj "tuple" vs.toArray 0)).push (seqObj "list" #[] 0)).get? a=some (seqObj "list" #[] b):=ag _ (ag _ d);exact⟨_,get?_update_seq e (λ_=>out)⟩
def a3P{qK:qA (qE×Obj)}{σ:St}{H:Hp}(I:Inv X qK σ H s){ys:qA V}{us:qA qB}(h:Its H ys rss)(r:Vals ys us):TupsAre s.heap us rss:=by
 refine⟨by rw[<-r.length];exact h.1,λi v e=>?_⟩;have hi:i<ys.length:=by rw[r.length];exact(aG.mp e).1
 obtain⟨u,b,c⟩:=r.get (ai hi);rw[e]at b;cases b;obtain⟨row,d,a,f,g⟩:=h.2 i _ (ai hi);rw[f]at c;cases c;obtain⟨its,j,k,_⟩:=I.tuple (SqT.of (K:=X.K) g);exact⟨row,a,its.toArray,d,rfl,k,by simpa using a8E j⟩
def T9:Bool->Keyed->Array Keyed->Nat->Nat->Nat->StateT SortSt Sem (qJ):=sortPriv% PySem.Builtin.gallop
def U4(left:Bool)(key:Keyed)(qO:Array Keyed)(base:Nat)(i:Nat):StateT SortSt Sem (qD Bool):=do
 let x <-elem' qO (base+i)
 if left then lt' x key else return (<-lt' key x).map (!·)
def b6O(left:Bool)(key:Keyed)(qO:Array Keyed)(base n lo₀ hi₀:Nat):StateT SortSt Sem (qJ):=do
 let mut lo:=lo₀
 let mut hi:=hi₀
 for _ in [0:n] do
  if lo ≥ hi then break
  let m:=lo+(hi-lo) / 2
  let some more <-U4 left key qO base m|return none
  if more then lo:=m+1 else hi:=m
 return some hi
def a8H(left:Bool)(key:Keyed)(qO:Array Keyed)(base n a:Nat):T9 left key qO base n a=(U4 left key qO base a>>=λr=>match r with
 |some right=>(if right=true then
   (forIn [:n] ((none,0,1):qD (qJ)×Nat×Nat) (λ_ c=>if c.2.2 ≥ n-a then pure (.done (none,c.2.1,c.2.2))else U4 left key qO base (a+c.2.2)>>=λr=>match r with
     |some more=>(if (!more)=true then pure (.done (none,c.2.1,c.2.2))else pure (.yield (none,c.2.2,2*c.2.2+1)))
     |_=>pure (.done (some none,c.2.1,c.2.2)))>>=λc=>match c.1 with
    |some r=>pure r
    |none=>b6O left key qO base n (a+c.2.1+1) (a+min c.2.2 (n-a)))
  else
   (forIn [:n] ((none,0,1):qD (qJ)×Nat×Nat) (λ_ c=>if c.2.2 ≥ a+1 then pure (.done (none,c.2.1,c.2.2))else U4 left key qO base (a-c.2.2)>>=λr=>match r with
     |some found=>(if found=true then pure (.done (none,c.2.1,c.2.2))else pure (.yield (none,c.2.2,2*c.2.2+1)))
     |_=>pure (.done (some none,c.2.1,c.2.2)))>>=λc=>match c.1 with
    |some r=>pure r
    |none=>b6O left key qO base n (a+1-min c.2.2 (a+1)) (a-c.2.1)))
 |_=>pure none):=by
 show(_>>=_)=(_>>=_);refine aR _ (funext λr=>?_);cases r with
 |none=>rfl
 |some right =>
  dsimp only;refine dR rfl (λ_=>?_) (λ_=>?_)
  .refine congr (aR _ (aR _ (funext λ_=>funext λc=>?_))) (funext λc=>?_)
   .rfl
   .rcases c with⟨_|q,c⟩<;>rfl
  .refine congr (aR _ (aR _ (funext λ_=>funext λc=>?_))) (funext λc=>?_)
   .rfl
   .rcases c with⟨_|q,c⟩<;>rfl
section
def Cmp(prog:qG)(w:World)(A:Around)(s:qC)(κ:SortKind)(D:Keyed->Prop)(lt:Keyed->Keyed->Bool):Prop :=
 ∀x y (C:Bool->qC->Prop),D x->D y->C (lt x y) s->wpAny (model prog w) A (keyLt' κ x.1 y.1) C (λ_ _=>False) s
variable {lt:Keyed->Keyed->Bool}
def a1a{y:Keyed}{Q:qD Bool->SortSt->Prop}(d:Cmp prog w A s κ D lt)(e:kindOf st=κ)(f:D x)(g:D y)(h:Q (some (lt x y)) st):wpS (model prog w) A E s (lt' x y) Q st:=by
 rw[lt'_eq];refine aE (fu ?_);rw[e];refine aE (wpS_lift (dq (cX (d x y (λb s'=>s'=s/\b=lt x y) f g ⟨rfl,rfl⟩) (λb s' ⟨a,c⟩=>?_) λ_ _ z=>z.elim)));rw[a,c];exact⟨rfl,aN h⟩
def b4R(lt:Keyed->Keyed->Bool)(left:Bool)(key x:Keyed):Bool:=if left then lt x key else !(lt key x)
def a7N{base:Nat}{Q:qD Bool->SortSt->Prop}(b:Cmp prog w A s κ D lt)(c:kindOf st=κ)(a:D key)(d:D x)(e:qO[base+i]?=some x)(h:Q (some (b4R lt left key x)) st) :
  wpS (model prog w) A E s (U4 left key qO base i) Q st:=by
 unfold U4;rw[elem'_eq,e];refine aE (aN ?_);unfold b4R at h;cases left with
 |true=>exact a1a b c d a h
 |false=>exact aE (a1a b c a d (aN h))
def a9f{base hi:Nat}(a:Nat->Bool)
  (m:∀i,i<n->∀{R:qD Bool->SortSt->Prop},R (some (a i)) st->wpS (model prog w) A E s (U4 left key qO base i) R st) (mono:∀i j,i<=j->j<n->a j=true->a i=true) (o:∀i j,i<=j->j<n->a i=false->a j=false)
  (h1:lo<=hi) (h2:hi<=n) (u:∀i,i<lo->a i=true) (v:∀i,hi<=i->i<n->a i=false)
  (h:∀k,k<=n->(∀i,i<k->a i=true)->(∀i,k<=i->i<n->a i=false)->Q (some k) st):wpS (model prog w) A E s (b6O left key qO base n lo hi) Q st:=by
 unfold b6O;dsimp only;refine aE (cI (cv (I:=λx c st'=>st'=st/\∃l r,c=(none,l,r)/\l<=r/\r<=n/\r-l<=n-x/\(∀i,i<l->a i=true)/\(∀i,r<=i->i<n->a i=false))
  (Q:=λc st'=>st'=st/\∃l,c=(none,l,l)/\l<=n/\(∀i,i<l->a i=true)/\(∀i,l<=i->i<n->a i=false)) ?step ?fin ⟨rfl,lo,hi,rfl,h1,h2,by omega,u,v⟩) ?post)
 case fin =>
  rintro c st' ⟨rfl,l,r,rfl,a1,b,t,d,f⟩;have e:l=r:=by omega
  subst e;exact⟨rfl,l,rfl,b,d,f⟩
 case step =>
  rintro x c st' _ y ⟨rfl,l,r,rfl,a1,b,t,d,f⟩;dsimp only;by_cases g:l ≥ r
  .rw[az g];have e:l=r:=by omega
   subst e;exact aN ⟨rfl,l,rfl,b,d,f⟩
  .rw[au g];have q:l+(r-l) / 2<n:=by omega
   refine aE (m _ q ?_);dsimp only;cases p:a (l+(r-l) / 2)with
   |true =>
    rw[az rfl];exact aN ⟨rfl,_,r,rfl,by omega,b,by omega,λi hi=>mono i _ (by omega) q p,f⟩
   |false =>
    rw[au (by simp)];exact aN ⟨rfl,l,_,rfl,by omega,by omega,by omega,d,λi h1 h2=>o _ i h1 h2 p⟩
 case post =>
  rintro c st' ⟨rfl,l,rfl,b,d,f⟩;exact aN (h l b d f)
def L4{base a:Nat}(F:Cmp prog w A s κ D lt)(J:kindOf st=κ)(u:D key)(b:Nat->Bool)
  (r:∀i,i<n->∃x,qO[base+i]?=some x/\D x/\b4R lt left key x=b i) (mono:∀i j,i<=j->j<n->b j=true->b i=true) (G:a<n)
  (h:∀k,k<=n->(∀i,i<k->b i=true)->(∀i,k<=i->i<n->b i=false)->Q (some k) st):wpS (model prog w) A E s (T9 left key qO base n a) Q st:=by
 have m:∀i,i<n->∀{R:qD Bool->SortSt->Prop},R (some (b i)) st->wpS (model prog w) A E s (U4 left key qO base i) R st:=λi hi R hR=>by
  obtain⟨x,B,y,C⟩:=r i hi;exact a7N F J u y B (by rw[C];exact hR)
 have q:∀i j,i<=j->j<n->b i=false->b j=false:=λi j z H e=>by
  cases y:b j with
  |false=>rfl
  |true=>rw[mono i j z H y]at e;cases e
 rw[a8H];refine aE (m a G ?_);dsimp only;cases t:b a with
 |true =>
  rw[az rfl];refine aE (cI (cv (I:=λx c st'=>st'=st/\∃l o,c=(none,l,o)/\l<o/\x+1<=o/\a+l<n/\b (a+l)=true)
   (Q:=λc st'=>st'=st/\∃l o,c=(none,l,o)/\l<o/\a+l<n/\b (a+l)=true/\(o ≥ n-a∨b (a+o)=false)) ?step ?fin ⟨rfl,0,1,rfl,by omega,by omega,by omega,t⟩) ?post)
  case fin =>
   rintro c st' ⟨rfl,l,o,rfl,a1,v,g,f⟩;exact⟨rfl,l,o,rfl,a1,g,f,.inl (by omega)⟩
  case step =>
   rintro x c st' _ K ⟨rfl,l,o,rfl,a1,v,g,f⟩;dsimp only;by_cases d:o ≥ n-a
   .rw[az d];exact aN ⟨rfl,l,o,rfl,a1,g,f,.inl d⟩
   .rw[au d];refine aE (m _ (by omega) ?_);dsimp only;cases r:b (a+o)with
    |true =>
     rw[au (by simp)];exact aN ⟨rfl,o,2*o+1,rfl,by omega,by omega,by omega,r⟩
    |false =>
     rw[az (by rfl)];exact aN ⟨rfl,l,o,rfl,a1,g,f,.inr r⟩
  case post =>
   rintro c st' ⟨rfl,l,o,rfl,a1,g,f,p⟩;dsimp only;refine a9f (lo:=a+l+1) (hi:=a+min o (n-a)) b m mono q (by omega) (by omega) (λi hi=>mono i (a+l) (by omega) g f) (λi h1 h2=>?_) h;rcases p with p|p
   .omega
   .exact q (a+o) i (by omega) h2 p
 |false =>
  rw[au (by simp)];refine aE (cI (cv (I:=λx c st'=>st'=st/\∃l o,c=(none,l,o)/\l<o/\x+1<=o/\l<=a/\b (a-l)=false)
   (Q:=λc st'=>st'=st/\∃l o,c=(none,l,o)/\l<o/\l<=a/\b (a-l)=false/\(o ≥ a+1∨b (a-o)=true)) ?step ?fin ⟨rfl,0,1,rfl,by omega,by omega,by omega,t⟩) ?post)
  case fin =>
   rintro c st' ⟨rfl,l,o,rfl,a1,v,g,f⟩;exact⟨rfl,l,o,rfl,a1,g,f,.inl (by omega)⟩
  case step =>
   rintro x c st' _ K ⟨rfl,l,o,rfl,a1,v,g,f⟩;dsimp only;by_cases d:o ≥ a+1
   .rw[az d];exact aN ⟨rfl,l,o,rfl,a1,g,f,.inl d⟩
   .rw[au d];refine aE (m _ (by omega) ?_);dsimp only;cases r:b (a-o)with
    |true =>
     rw[az rfl];exact aN ⟨rfl,l,o,rfl,a1,g,f,.inr r⟩
    |false =>
     rw[au (by simp)];exact aN ⟨rfl,o,2*o+1,rfl,by omega,by omega,by omega,r⟩
  case post =>
   rintro c st' ⟨rfl,l,o,rfl,a1,g,f,p⟩;dsimp only;refine a9f (lo:=a+1-min o (a+1)) (hi:=a-l) b m mono q (by omega) (by omega) (λi hi=>?_) (λi h1 h2=>q (a-l) i h1 h2 f) h;rcases p with p|p
   .omega
   .exact mono i (a-o) (by omega) (by omega) p
end
section
variable {kf:Keyed->O.α}{la lb o:qA Keyed}{ia ib:Nat}
def leK(kf:Keyed->O.α)(x y:Keyed):Prop:=O.kle (kf x) (kf y)
def ltK(kf:Keyed->O.α)(x y:Keyed):Bool:=O.blt (kf x) (kf y)
structure MS(kf:Keyed->O.α)(la lb o:qA Keyed)(ia ib:Nat):Prop where
 perm:o.Perm (la.take ia++lb.take ib)
 sorted:o.Pairwise (leK kf)
 ra:∀x∈o,∀y∈la.drop ia,leK kf x y
 rb:∀x∈o,∀y∈lb.drop ib,leK kf x y
def a0B{l:qA α}{x:α}(h:l[i]?=some x):l.drop i=x::l.drop (i+1):=by
 obtain⟨hi,e⟩:=aG.mp h;rw[cF hi,e]
def Z6(hs:l.Pairwise (leK kf))(h:l[i]?=some x):∀y∈l.drop (i+1),leK kf x y:=by
 have:=hs.drop (i:=i);rw[a0B h]at this;exact(cK.mp this).1
def V7{l:qA α}{x:α}(h:l[i]?=some x):l.take (i+1)=l.take i++[x]:=by
 rw[bg,h];rfl
def MS.stepA(h:MS kf la lb o ia ib)(hs:la.Pairwise (leK kf))(e:la[ia]?=some x)(c:∀y∈lb.drop ib,leK kf x y):MS kf la lb (o++[x]) (ia+1) ib:=by
 have d:x∈la.drop ia:=by rw[a0B e];exact ar
 refine⟨?_,?_,λz b y a=>?_,λz b y a=>?_⟩
 .rw[V7 e];have:=h.perm.append_right [x];refine this.trans ?_;rw[aJ,aJ];exact cw _ cJ
 .rw[bC];exact⟨h.sorted,List.pairwise_singleton _ _,λz b y a=>by rw[aB.mp a];exact h.ra z b x d⟩
 .have hy':y∈la.drop ia:=by rw[a0B e];exact aq _ a
  rcases aA.mp b with q|q
  .exact h.ra z q y hy'
  .rw[aB.mp q];exact Z6 hs e y a
 .rcases aA.mp b with q|q
  .exact h.rb z q y a
  .rw[aB.mp q];exact c y a
def MS.swap(h:MS kf la lb o ia ib):MS kf lb la o ib ia:=⟨h.perm.trans cJ,h.sorted,h.rb,h.ra⟩
def MS.stepB(h:MS kf la lb o ia ib)(hs:lb.Pairwise (leK kf))(e:lb[ib]?=some x)(a:∀y∈la.drop ia,leK kf x y):MS kf la lb (o++[x]) ia (ib+1) :=
 (h.swap.stepA hs e a).swap
def MS.bulkA(hs:la.Pairwise (leK kf)):∀(k:Nat) {o:qA Keyed}{ia:Nat},MS kf la lb o ia ib->ia+k<=la.length->(∀i x,i<k->la[ia+i]?=some x->∀y∈lb.drop ib,leK kf x y)->MS kf la lb (o++(la.drop ia).take k) (ia+k) ib
 |0,o,ia,h,_,_=>by rw[List.take_zero,di];exact h
 |k+1,o,ia,h,c,b=>by
  obtain⟨x,a⟩:∃x,la[ia]?=some x:=⟨_,ai (by omega)⟩;have h1:=h.stepA hs a (b 0 x (by omega) a);have h2:=MS.bulkA hs k h1 (by omega) λi y hi e=>b (i+1) y (by omega) (by rw[<-e];congr 1;omega);rw[a0B a,List.take_succ_cons];rw[aJ]at h2;rw[show ia+(k+1)=ia+1+k by omega];exact h2
def MS.bulkB(hs:lb.Pairwise (leK kf))(h:MS kf la lb o ia ib)(b:ib+k<=lb.length)(a:∀i x,i<k->lb[ib+i]?=some x->∀y∈la.drop ia,leK kf x y):MS kf la lb (o++(lb.drop ib).take k) ia (ib+k) :=
 (MS.bulkA hs k h.swap b a).swap
def a2k(kf:Keyed->O.α)(la lb o:qA Keyed):Prop:=o.Perm (la++lb)/\o.Pairwise (leK kf)
def MS.done(h:MS kf la lb o ia ib)(hs:la.Pairwise (leK kf))(b:ib=lb.length):a2k kf la lb (o++la.drop ia++lb.drop ib):=by
 subst b;rw[fJ,di];have a:=h.perm;rw[br]at a;refine⟨?_,?_⟩
 .refine(a.append_right _).trans ?_;rw[aJ];refine(cw _ cJ).trans ?_;rw[<-aJ,bp]
 .rw[bC];exact⟨h.sorted,hs.drop,h.ra⟩
def MS.lastA(h:MS kf la lb o ia ib)(a:la.Pairwise (leK kf))(hs:lb.Pairwise (leK kf))(c:∀y∈lb.drop ib,∀x∈la.drop ia,leK kf y x):a2k kf la lb (o++lb.drop ib++la.drop ia):=by
 refine⟨?_,?_⟩
 .have hp:=(h.perm.append_right (lb.drop ib)).append_right (la.drop ia);refine hp.trans ?_;rw[aJ (la.take ia),bp,aJ];refine(cw _ cJ).trans ?_;rw[<-aJ,bp]
 .rw[bC];refine⟨?_,a.drop,λx d y b=>?_⟩
  .rw[bC];exact⟨h.sorted,hs.drop,h.rb⟩
  .rcases aA.mp d with q|q
   .exact h.ra x q y b
   .exact c x q y b
end
def a3B:Array Keyed->Array Keyed->StateT SortSt Sem (Array Keyed):=sortPriv% PySem.Builtin.mergeLo
def a0r(g:Nat):StateT SortSt Sem Unit:=modify λs=>SortSt.mk' (kindOf s) (arrOf s) (pendingOf s) g (failedOf s)
def P8(a b out:Array Keyed)(ia ib:Nat):Array Keyed:=out++a.extract ia a.size++b.extract ib b.size
def a0T(a b out:Array Keyed)(ia ib:Nat):Array Keyed:=out++b.extract ib b.size++a.extract ia a.size
abbrev T1:Type:=qD (Array Keyed)×Array Keyed×Nat×Nat×Nat×Nat
abbrev T2:Type:=qD (Array Keyed)×Array Keyed×Nat×Nat×Nat×Nat×Nat
def loD(a b out:Array Keyed)(ia ib mg k k1:Nat):StateT SortSt Sem (ForInStep T2) :=
 elem' a ia>>=λx =>
 if (ia+1+1==a.size)=true then pure (.done (some (a0T a b (out.push x) (ia+1) ib),out.push x,ia+1,ib,mg,k,k1))
 else if (decide (k<7) && decide (k1<7))=true then pure (.done (none,out.push x,ia+1,ib,mg,k,k1))
 else pure (.yield (none,out.push x,ia+1,ib,mg,k,k1))
def loC(a b out:Array Keyed)(ia ib mg k bc:Nat):StateT SortSt Sem (ForInStep T2) :=
 elem' b ib>>=λy =>
 if (ib+1==b.size)=true then pure (.done (some (P8 a b (out.push y) ia (ib+1)),out.push y,ia,ib+1,mg,k,bc))
 else elem' a ia>>=λx=>T9 true x b (ib+1) (b.size-(ib+1)) 0>>=λr =>
  match r with
  |some k1=>(if k1 > 0 then
    (if (ib+1+k1==b.size)=true then pure (.done (some (P8 a b (out.push y++b.extract (ib+1) (ib+1+k1)) ia (ib+1+k1)),out.push y++b.extract (ib+1) (ib+1+k1),ia,ib+1+k1,mg,k,k1))
    else loD a b (out.push y++b.extract (ib+1) (ib+1+k1)) ia (ib+1+k1) mg k k1)
   else loD a b (out.push y) ia (ib+1) mg k k1)
  |_=>pure (.done (some (P8 a b (out.push y) ia (ib+1)),out.push y,ia,ib+1,mg,k,bc))
def loB(a b out:Array Keyed)(ia ib mg ac bc:Nat):StateT SortSt Sem (ForInStep T2) :=
 a0r mg>>=λ_=>elem' b ib>>=λy=>T9 false y a ia (a.size-ia) 0>>=λr =>
 match r with
 |some k=>(if k > 0 then
   (if (ia+k+1==a.size)=true then pure (.done (some (a0T a b (out++a.extract ia (ia+k)) (ia+k) ib),out++a.extract ia (ia+k),ia+k,ib,mg,k,bc))
   else if (ia+k==a.size)=true then pure (.done (some (P8 a b (out++a.extract ia (ia+k)) (ia+k) ib),out++a.extract ia (ia+k),ia+k,ib,mg,k,bc))
   else loC a b (out++a.extract ia (ia+k)) (ia+k) ib mg k bc)
  else loC a b out ia ib mg k bc)
 |_=>pure (.done (some (P8 a b out ia ib),out,ia,ib,mg,ac,bc))
def loA(a b out:Array Keyed)(ia ib ac bc mg:Nat):StateT SortSt Sem (ForInStep T1) :=
 elem' b ib>>=λy=>elem' a ia>>=λx=>lt' y x>>=λr =>
 match r with
 |some bWins=>(if bWins=true then elem' b ib>>=λy =>
   (if (ib+1==b.size)=true then pure (.done (some (P8 a b (out.push y) ia (ib+1)),out.push y,ia,ib+1,0,bc+1))
   else if bc+1 ≥ mg then pure (.done (none,out.push y,ia,ib+1,0,bc+1))
   else pure (.yield (none,out.push y,ia,ib+1,0,bc+1)))
  else elem' a ia>>=λx =>
   (if (ia+1+1==a.size)=true then pure (.done (some (a0T a b (out.push x) (ia+1) ib),out.push x,ia+1,ib,ac+1,0))
   else if ac+1 ≥ mg then pure (.done (none,out.push x,ia+1,ib,ac+1,0))
   else pure (.yield (none,out.push x,ia+1,ib,ac+1,0))))
 |_=>pure (.done (some (P8 a b out ia ib),out,ia,ib,ac,bc))
def a7a(a b:Array Keyed):a3B a b=(do
 rule "list.sort.merge-lo"
 let y <-elem' b 0
 if (1==b.size)=true then pure (P8 a b #[y] 0 1)
 else if (0+1==a.size)=true then pure (a0T a b #[y] 0 1)
 else do
  let g <-get
  let r <-forIn [:a.size+b.size] ((none,#[y],0,1,gallopOf g):qD (Array Keyed)×Array Keyed×Nat×Nat×Nat) λ_ c=>do
   let r <-forIn [:a.size+b.size] ((none,c.2.1,c.2.2.1,c.2.2.2.1,0,0):T1) λ_ d=>loA a b d.2.1 d.2.2.1 d.2.2.2.1 d.2.2.2.2.1 d.2.2.2.2.2 c.2.2.2.2
   match r.1 with
   |some q=>pure (ForInStep.done (some q,r.2.1,r.2.2.1,r.2.2.2.1,c.2.2.2.2))
   |none=>do
    rule "list.sort.gallop"
    let t <-forIn [:a.size+b.size] ((none,r.2.1,r.2.2.1,r.2.2.2.1,c.2.2.2.2+1,r.2.2.2.2.1,r.2.2.2.2.2):T2) λ_ d =>
     if d.2.2.2.2.1 > 1 then loB a b d.2.1 d.2.2.1 d.2.2.2.1 (d.2.2.2.2.1-1) d.2.2.2.2.2.1 d.2.2.2.2.2.2 else loB a b d.2.1 d.2.2.1 d.2.2.2.1 d.2.2.2.2.1 d.2.2.2.2.2.1 d.2.2.2.2.2.2
    match t.1 with
    |some q=>pure (ForInStep.done (some q,t.2.1,t.2.2.1,t.2.2.2.1,t.2.2.2.2.1))
    |none=>do
     a0r (t.2.2.2.2.1+1)
     pure (ForInStep.yield (none,t.2.1,t.2.2.1,t.2.2.2.1,t.2.2.2.2.1+1))
  match r.1 with
  |some q=>pure q
  |none=>unsupported "internal:list.sort.merge-bound"):=by
 show(_>>=_)=(_>>=_);refine aR _ (funext λ_=>?_);dsimp only;refine aR _ (funext λy=>?_);refine dR rfl (λ_=>rfl) (λ_=>dR rfl (λ_=>rfl) λ_=>?_);refine aR _ (funext λg=>?_);refine congr (aR _ (aR _ (funext λ_=>funext λc=>?_))) (funext λr=>?_)
 .refine congr (aR _ (aR _ (funext λ_=>funext λd=>?_))) (funext λr=>?_)
  .rfl
  .rcases r with⟨_|q,r⟩
   .dsimp only;refine aR _ (funext λ_=>?_);refine congr (aR _ (aR _ (funext λ_=>funext λd=>?_))) (funext λr=>?_)
    .rfl
    .rcases r with⟨_|q,r⟩<;>rfl
   .rfl
 .rcases r with⟨_|q,r⟩
  .dsimp only
  .rfl
def a2Z(a:Array α)(i:Nat):(a.extract i a.size).toList=a.toList.drop i:=by
 rw[eW];simp[List.extract_eq_drop_take'];rw[<-ay,br]
def a3Y(a:Array α)(i k:Nat):(a.extract i (i+k)).toList=(a.toList.drop i).take k:=by
 rw[eW];simp[List.extract_eq_drop_take]
def a7z(a b out:Array Keyed)(ia ib:Nat):(P8 a b out ia ib).toList=out.toList++a.toList.drop ia++b.toList.drop ib:=by
 unfold P8;rw[b_,b_,a2Z,a2Z]
def a7g(a b out:Array Keyed)(ia ib:Nat):(a0T a b out ia ib).toList=out.toList++b.toList.drop ib++a.toList.drop ia:=by
 unfold a0T;rw[b_,b_,a2Z,a2Z]
section
variable {kf:Keyed->O.α}{a b out:Array Keyed}{ia ib:Nat}
def Good(st st':SortSt):Prop:=kindOf st'=kindOf st/\arrOf st'=arrOf st/\pendingOf st'=pendingOf st/\failedOf st'=failedOf st
structure Two(D:Keyed->Prop)(kf:Keyed->O.α)(a b:Array Keyed):Prop where
 da:∀(i:Nat) x,a[i]?=some x->D x
 db:∀(i:Nat) x,b[i]?=some x->D x
 sa:a.toList.Pairwise (leK kf)
 sb:b.toList.Pairwise (leK kf)
 last:∀y∈b.toList,∀x,a[a.size-1]?=some x->ltK kf y x=true
def X8{z:Keyed}(hs:l.Pairwise (leK kf))(e:l[i]?=some x)(h:leK kf z x):∀y∈l.drop i,leK kf z y:=λy a=>by
 rw[a0B e]at a;rcases aD.mp a with rfl|a
 .exact h
 .exact bW h (Z6 hs e y a)
def MI(kf:Keyed->O.α)(a b out:Array Keyed)(ia ib:Nat):Prop:=MS kf a.toList b.toList out.toList ia ib/\ia+1<a.size/\ib<b.size
def D7(kf:Keyed->O.α)(a b r:Array Keyed):Prop:=a2k kf a.toList b.toList r.toList
def a0z(T:Two D kf a b)(h:MS kf a.toList b.toList out.toList ia ib)(hi:ia+1=a.size):D7 kf a b (a0T a b out ia ib):=by
 unfold D7;rw[a7g];refine h.lastA T.sa T.sb λy e x d=>?_;have c:ia<a.toList.length:=by rw[ay];omega
 rw[cF c,cE (by rw[ay];omega),aB]at d;refine bX (T.last y (cB e) x ?_);rw[d,show a.size-1=ia by omega,<-av,ai c]
def a0C(T:Two D kf a b)(h:MS kf a.toList b.toList out.toList ia ib)(hi:ib=b.size):D7 kf a b (P8 a b out ia ib):=by
 unfold D7;rw[a7z];exact h.done T.sa (by rw[ay];exact hi)
def B6(hi:i<qO.size){Q:Keyed->SortSt->Prop}(h:∀x,qO[i]?=some x->qO.toList[i]?=some x->Q x st):wpS (model prog w) A E s (elem' qO i) Q st:=by
 rw[elem'_eq];have e:qO[i]?=some qO[i]:=getElem?_pos qO i hi;rw[e];exact aN (h _ e (by rw[av];exact e))
def P2(kf:Keyed->O.α)(st:SortSt)(a b:Array Keyed)(c0:Nat)(c:T2)(st':SortSt):Prop:=Good st st'/\((∃r,c.1=some r/\D7 kf a b r)∨(c.1=none/\MI kf a b c.2.1 c.2.2.1 c.2.2.2.1/\c0<=c.2.2.1+c.2.2.2.1))
def Y2(kf:Keyed->O.α)(st:SortSt)(a b:Array Keyed)(c0:Nat)(c:T2)(st':SortSt):Prop:=Good st st'/\c.1=none/\MI kf a b c.2.1 c.2.2.1 c.2.2.2.1/\c0<=c.2.2.1+c.2.2.2.1
def R2'(kf:Keyed->O.α)(st:SortSt)(a b:Array Keyed)(c0:Nat)(r:ForInStep T2)(st':SortSt):Prop:=match r with | .done c'=>P2 kf st a b c0 c' st' | .yield c'=>Y2 kf st a b c0 c' st'
variable {c0 mg k1 bc ac:Nat}
def a8Y(T:Two D kf a b)(g:Good st st')(h:MI kf a b out ia ib)(j:∀x,a.toList[ia]?=some x->∀y∈b.toList.drop ib,leK kf x y)(i:c0<=ia+ib):wpS (model prog w) A E s (loD a b out ia ib mg k k1) (R2' kf st a b c0) st':=by
 unfold loD;refine aE (B6 (by have:=h.2.1;omega) λx l d=>?_);have c:=h.1.stepA T.sa d (j x d);rw[<-cZ]at c;split
 .rename_i e;exact aN ⟨g,.inl ⟨_,rfl,a0z T c (eq_of_beq e)⟩⟩
 .rename_i e;have e:¬ia+1+1=a.size:=λz=>e (bj.mpr z);have f:MI kf a b (out.push x) (ia+1) ib:=⟨c,by have:=h.2.1;omega,h.2.2⟩;split
  .exact aN ⟨g,.inr ⟨rfl,f,by show c0<=ia+1+ib;omega⟩⟩
  .exact aN ⟨g,rfl,f,by show c0<=ia+1+ib;omega⟩
def gdK(a:Array Keyed)(hi:i<a.size):a[i]?=some (a.getD i (Value.none,Value.none)):=by
 rw[bV,getElem?_pos a i hi];rfl
def a0y(hs:l.Pairwise (leK kf)){y:Keyed}(b:i<=j)(ex:l[i]?=some x)(a:l[j]?=some y):leK kf x y:=by
 by_cases e:i=j
 .subst e;rw[ex]at a;cases a;exact cC _
 .refine Z6 hs ex y ?_;have:(l.drop (i+1))[j-(i+1)]?=some y:=by rw[fj,<-a];congr 1;omega
  exact aH this
def a8Z(T:Two D kf a b)(p:Cmp prog w A s κ D (ltK kf))(G:kindOf st=κ)(g:Good st st')(h:MI kf a b out ia ib)(H:∀y,b.toList[ib]?=some y->∀x∈a.toList.drop ia,leK kf y x)(C:c0<=ia+ib):wpS (model prog w) A E s (loC a b out ia ib mg k bc) (R2' kf st a b c0) st':=by
 unfold loC;obtain⟨r,f,q⟩:=h;refine aE (B6 q λy u l=>?_);have n:=r.stepB T.sb l (H y l);rw[<-cZ]at n;split
 .rename_i e;exact aN ⟨g,.inl ⟨_,rfl,a0C T n (eq_of_beq e)⟩⟩
 .rename_i e;have e:¬ib+1=b.size:=λz=>e (bj.mpr z);refine aE (B6 (by omega) λx f1 f2=>?_);refine aE (L4 p (g.1.trans G) (T.da _ _ f1) (λi=>ltK kf (b.getD (ib+1+i) (Value.none,Value.none)) x) (λi hi=>⟨_,gdK b (by omega),T.db _ _ (gdK b (by omega)),rfl⟩) (λi j F K B=>?_) (by omega) λk1 L I J=>?_)
  .refine fk (a0y T.sb (i:=ib+1+i) (j:=ib+1+j) (by omega) ?_ ?_) B
   .rw[av];exact gdK b (by omega)
   .rw[av];exact gdK b (by omega)
  .dsimp only;have d:∀(c:Nat),c=ib+1+k1->c<b.size->∀t,a.toList[ia]?=some t->∀y∈b.toList.drop c,leK kf t y:=λc u l t ex'=>by
    rw[f2]at ex';cases ex';have o:b.toList[c]?=some (b.getD c (Value.none,Value.none)):=by rw[av];exact gdK b l
    refine X8 T.sb o ?_;have:=J k1 (ao _) (by omega);rw[<-u]at this;exact this
   split
   .have hbk:=MS.bulkB T.sb (k:=k1) n (by rw[ay];omega) λi z hi v=>by
     refine X8 T.sa f2 ?_;have:=I i hi;rw[av,gdK b (by omega)]at v;cases v;exact bX this
    rw[<-a3Y,<-b_]at hbk;split
    .rename_i m;exact aN ⟨g,.inl ⟨_,rfl,a0C T hbk (eq_of_beq m)⟩⟩
    .rename_i m;have m:¬ib+1+k1=b.size:=λz=>m (bj.mpr z);exact a8Y T g ⟨hbk,f,by omega⟩ (d _ rfl (by omega)) (by omega)
   .exact a8Y T g ⟨n,f,by omega⟩ (d _ (by omega) (by omega)) (by omega)
def V6{Q:Unit->SortSt->Prop}(h:∀a,Good st' a->Q () a):wpS (model prog w) A E s (a0r mg) Q st':=by
 unfold a0r;exact wpS_modify (h _ ⟨rfl,rfl,rfl,rfl⟩)
def Good.trans{st st' a:SortSt}(h:Good st st')(h2:Good st' a):Good st a:=⟨h2.1.trans h.1,h2.2.1.trans h.2.1,h2.2.2.1.trans h.2.2.1,h2.2.2.2.trans h.2.2.2⟩
def a9a(T:Two D kf a b)(f:Cmp prog w A s κ D (ltK kf))(u:kindOf st=κ)(g:Good st st')(h:MI kf a b out ia ib)(r:c0<=ia+ib):wpS (model prog w) A E s (loB a b out ia ib mg ac bc) (R2' kf st a b c0) st':=by
 unfold loB;obtain⟨n,t,l⟩:=h;refine aE (V6 λO J=>?_);have g:=g.trans J;refine aE (B6 l λy I p=>?_);refine aE (L4 f (g.1.trans u) (T.db _ _ I) (λi=>!(ltK kf y (a.getD (ia+i) (Value.none,Value.none)))) (λi hi=>⟨_,gdK a (by omega),T.da _ _ (gdK a (by omega)),rfl⟩) (λi j L P G=>?_) (by omega) λk Q H N=>?_)
 .have hle:leK kf (a.getD (ia+j) (Value.none,Value.none)) y:=by
   unfold leK KeyOrd.kle;unfold ltK at G;simpa using G
  have:=bW (a0y T.sa (i:=ia+i) (j:=ia+j) (by omega) (by rw[av];exact gdK a (by omega)) (by rw[av];exact gdK a (by omega))) hle;unfold KeyOrd.kle at this;unfold ltK;rw[this];rfl
 .dsimp only;have m:ltK kf y (a.getD (a.size-1) (Value.none,Value.none))=true:=T.last y (aH p) _ (gdK a (by omega));have M:ia+k<a.size:=by
   refine Nat.lt_of_not_le λK=>?_;have:=H (a.size-1-ia) (by omega);rw[show ia+(a.size-1-ia)=a.size-1 by omega,m]at this;cases this
  have c:∀d,d=ia+k->∀v,b.toList[ib]?=some v->∀x∈a.toList.drop d,leK kf v x:=λd e v C=>by
   rw[p]at C;cases C;have q:a.toList[d]?=some (a.getD d (Value.none,Value.none)):=by rw[av];exact gdK a (by omega)
   refine X8 T.sa q ?_;have:=N k (ao _) (by omega);rw[<-e]at this;refine bX ?_;unfold KeyOrd.klt;unfold ltK at this;simpa using this
  split
  .have hbk:=MS.bulkA T.sa k n (by rw[ay];omega) λi z hi F=>by
    refine X8 T.sb p ?_;have:=H i hi;rw[av,gdK a (by omega)]at F;cases F;unfold leK KeyOrd.kle;unfold ltK at this;simpa using this
   rw[<-a3Y,<-b_]at hbk;split
   .rename_i o;exact aN ⟨g,.inl ⟨_,rfl,a0z T hbk (eq_of_beq o)⟩⟩
   .rename_i o;have o:¬ia+k+1=a.size:=λz=>o (bj.mpr z);split
    .rename_i B;have B:=eq_of_beq B;omega
    .exact a8Z T f u g ⟨hbk,by omega,l⟩ (c _ rfl) (by omega)
  .exact a8Z T f u g ⟨n,t,l⟩ (c _ (by omega)) r
def P1(kf:Keyed->O.α)(st:SortSt)(a b:Array Keyed)(c0:Nat)(c:T1)(st':SortSt):Prop:=Good st st'/\((∃r,c.1=some r/\D7 kf a b r)∨(c.1=none/\MI kf a b c.2.1 c.2.2.1 c.2.2.2.1/\c0<=c.2.2.1+c.2.2.2.1))
def Y1(kf:Keyed->O.α)(st:SortSt)(a b:Array Keyed)(c0:Nat)(c:T1)(st':SortSt):Prop:=Good st st'/\c.1=none/\MI kf a b c.2.1 c.2.2.1 c.2.2.2.1/\c0<=c.2.2.1+c.2.2.2.1
def R1'(kf:Keyed->O.α)(st:SortSt)(a b:Array Keyed)(c0:Nat)(r:ForInStep T1)(st':SortSt):Prop:=match r with | .done c'=>P1 kf st a b c0 c' st' | .yield c'=>Y1 kf st a b c0 c' st'
def b4W(T:Two D kf a b)(m:Cmp prog w A s κ D (ltK kf))(r:kindOf st=κ)(g:Good st st')(h:MI kf a b out ia ib)(q:c0<=ia+ib):wpS (model prog w) A E s (loA a b out ia ib ac bc mg) (R1' kf st a b (c0+1)) st':=by
 unfold loA;obtain⟨i,n,d⟩:=h;refine aE (B6 d λy p l=>?_);refine aE (B6 (by omega) λx f1 f2=>?_);refine aE (a1a m (g.1.trans r) (T.db _ _ p) (T.da _ _ f1) ?_);dsimp only;cases o:ltK kf y x with
 |true =>
  rw[az rfl];refine aE (B6 d λu k c=>?_);rw[l]at c;cases c;have f:=i.stepB T.sb l (X8 T.sa f2 (bX o));rw[<-cZ]at f;split
  .rename_i e;exact aN ⟨g,.inl ⟨_,rfl,a0C T f (eq_of_beq e)⟩⟩
  .rename_i e;have e:¬ib+1=b.size:=λz=>e (bj.mpr z);have j:MI kf a b (out.push y) ia (ib+1):=⟨f,n,by omega⟩;split
   .exact aN ⟨g,.inr ⟨rfl,j,by show c0+1<=ia+(ib+1);omega⟩⟩
   .exact aN ⟨g,rfl,j,by show c0+1<=ia+(ib+1);omega⟩
 |false =>
  rw[au (by simp)];refine aE (B6 (by omega) λt k c=>?_);rw[f2]at c;cases c;have f:=i.stepA T.sa f2 (X8 T.sb l o);rw[<-cZ]at f;split
  .rename_i e;exact aN ⟨g,.inl ⟨_,rfl,a0z T f (eq_of_beq e)⟩⟩
  .rename_i e;have e:¬ia+1+1=a.size:=λz=>e (bj.mpr z);have j:MI kf a b (out.push x) (ia+1) ib:=⟨f,by omega,d⟩;split
   .exact aN ⟨g,.inr ⟨rfl,j,by show c0+1<=ia+1+ib;omega⟩⟩
   .exact aN ⟨g,rfl,j,by show c0+1<=ia+1+ib;omega⟩
def U6{n:String}{Q:Unit->SortSt->Prop}(h:Q () st):wpS (model prog w) A E s (liftM (rule n):StateT SortSt Sem Unit) Q st:=wpS_lift (dP ⟨rfl,h⟩)
def a6j(T:Two D kf a b)(k:Cmp prog w A s κ D (ltK kf))(t:kindOf st=κ)(O:0<a.size)(F:0<b.size)(h0:∀y,b.toList[0]?=some y->∀x∈a.toList,leK kf y x){Q:Array Keyed->SortSt->Prop}
  (q:∀r st',D7 kf a b r->Good st st'->Q r st'):wpS (model prog w) A E s (a3B a b) Q st:=by
 rw[a7a];refine aE (U6 ?_);refine aE (B6 F λy f j=>?_);have l:MS kf a.toList b.toList (#[y]:Array Keyed).toList 0 1:=by
  have z:MS kf a.toList b.toList [] 0 0:=⟨.nil,.nil,(λ_ h=>nomatch h),λ_ h=>nomatch h⟩;exact z.stepB T.sb j (λx u=>h0 y j x u)
 have o:Good st st:=⟨rfl,rfl,rfl,rfl⟩;split
 .rename_i e;exact aN (q _ _ (a0C T l (eq_of_beq e)) o)
 .rename_i e;have e:¬1=b.size:=λz=>e (bj.mpr z);split
  .rename_i n;exact aN (q _ _ (a0z T l (eq_of_beq n)) o)
  .rename_i n;have n:¬0+1=a.size:=λz=>n (bj.mpr z);refine aE (fu ?_);refine aE (cI (cv (I:=λx c st'=>Good st st'/\c.1=none/\MI kf a b c.2.1 c.2.2.1 c.2.2.2.1/\x+1<=c.2.2.1+c.2.2.2.1)
    (Q:=λc st'=>Good st st'/\∃r,c.1=some r/\D7 kf a b r) ?step ?fin ⟨o,rfl,⟨l,by show 0+1<a.size;omega,by show 1<b.size;omega⟩,ao _⟩) ?post)
   case post =>
    rintro c st' ⟨g,r,f,j⟩;obtain⟨L,M⟩:=c;dsimp only at f;subst f;exact aN (q _ _ j g)
   case fin =>
    rintro c st' ⟨g,f,⟨_,h1,h2⟩,N⟩;exfalso;omega
   case step =>
    rintro x c J _ u ⟨g,f,p,G⟩;refine aE (cI (cv (I:=λz d st'=>Y1 kf st a b (x+1+min z 1) d st') (Q:=λd st'=>P1 kf st a b (x+2) d st') ?s1 ?f1 ⟨g,rfl,p,by show x+1+min 0 1<=c.2.2.1+c.2.2.2.1;omega⟩) ?p1)
    case f1 =>
     rintro d st' ⟨g,f,h1,h2⟩;exact⟨g,.inr ⟨f,h1,by omega⟩⟩
    case s1 =>
     rintro z d st' _ H ⟨g,f,h1,h2⟩;refine cI (b4W T k t g h1 (c0:=x+1) (by omega)) λr m i=>?_;cases r with
     |done c'=>exact i
     | «yield» c'=>exact⟨i.1,i.2.1,i.2.2.1,by have:=i.2.2.2;omega⟩
    case p1 =>
     rintro d st' ⟨g,hd⟩;obtain⟨v,B⟩:=d;rcases hd with⟨r,f,j⟩|⟨f,h1,h2⟩
     .dsimp only at f;subst f;exact aN ⟨g,r,rfl,j⟩
     .dsimp only at f;subst f;refine aE (U6 ?_);refine aE (cI (cv (I:=λz d st'=>Y2 kf st a b (x+2) d st') (Q:=λd st'=>P2 kf st a b (x+2) d st') ?s2 ?f2 ⟨g,rfl,h1,h2⟩) ?p2)
      case f2 =>
       rintro d st' ⟨g,f,h1,h2⟩;exact⟨g,.inr ⟨f,h1,h2⟩⟩
      case s2 =>
       rintro z d st' _ H ⟨g,f,h1,h2⟩;split
       .refine cI (a9a T k t g h1 h2) λr m i=>?_;cases r<;>exact i
       .refine cI (a9a T k t g h1 h2) λr m i=>?_;cases r<;>exact i
      case p2 =>
       rintro d st' ⟨g,hd⟩;obtain⟨v,B⟩:=d;rcases hd with⟨r,f,j⟩|⟨f,h1,h2⟩
       .dsimp only at f;subst f;exact aN ⟨g,r,rfl,j⟩
       .dsimp only at f;subst f;refine aE (V6 λK C=>?_);exact aN ⟨g.trans C,rfl,h1,h2⟩
end
section
variable {kf:Keyed->O.α}{la lb o:qA Keyed}{na nb:Nat}
structure MH(kf:Keyed->O.α)(la lb o:qA Keyed)(na nb:Nat):Prop where
 perm:o.Perm (la.drop na++lb.drop nb)
 sorted:o.Pairwise (leK kf)
 ra:∀x∈la.take na,∀y∈o,leK kf x y
 rb:∀x∈lb.take nb,∀y∈o,leK kf x y
def a2q(hs:l.Pairwise (leK kf))(h:l[i]?=some x):∀y∈l.take i,leK kf y x:=λy a=>by
 have:=hs.take (i:=i+1);rw[V7 h,bC]at this;exact this.2.2 y a x (aB.mpr rfl)
def MH.stepA(h:MH kf la lb o (na+1) nb)(hs:la.Pairwise (leK kf))(e:la[na]?=some x)(c:∀y∈lb.take nb,leK kf y x):MH kf la lb (x::o) na nb:=by
 have d:x∈la.take (na+1):=by rw[V7 e];exact aX _ (aB.mpr rfl)
 refine⟨?_,?_,λz b y a=>?_,λz b y a=>?_⟩
 .rw[a0B e,List.cons_append];exact h.perm.cons x
 .rw[cK];exact⟨λy a=>h.ra x d y a,h.sorted⟩
 .rcases aD.mp a with rfl|a
  .exact a2q hs e z b
  .exact h.ra z (by rw[V7 e];exact aK _ b) y a
 .rcases aD.mp a with rfl|a
  .exact c z b
  .exact h.rb z b y a
def MH.swap(h:MH kf la lb o na nb):MH kf lb la o nb na:=⟨h.perm.trans cJ,h.sorted,h.rb,h.ra⟩
def MH.stepB(h:MH kf la lb o na (nb+1))(hs:lb.Pairwise (leK kf))(e:lb[nb]?=some x)(a:∀y∈la.take na,leK kf y x):MH kf la lb (x::o) na nb:=(h.swap.stepA hs e a).swap
def MH.bulkA(hs:la.Pairwise (leK kf)){at_:Nat}:∀(k:Nat) {o:qA Keyed},MH kf la lb o (at_+k) nb->at_+k<=la.length->(∀i x,at_<=i->i<at_+k->la[i]?=some x->∀y∈lb.take nb,leK kf y x)->MH kf la lb ((la.take (at_+k)).drop at_++o) at_ nb
 |0,o,h,c,_=>by
  rw[Nat.add_zero,cE (by rw[aU];omega),cQ];exact h
 |k+1,o,h,c,b=>by
  obtain⟨x,a⟩:∃x,la[at_+k]?=some x:=⟨_,ai (by omega)⟩;have h1:=MH.stepA (na:=at_+k) h hs a (b _ x (by omega) (by omega) a);have h2:=MH.bulkA hs k h1 (by omega) λi y h1 h2 e=>b i y h1 (by omega) e;rw[show at_+(k+1)=at_+k+1 by omega,V7 a,dr (by rw[aU];omega),aJ];exact h2
def MH.bulkB(hs:lb.Pairwise (leK kf)){at_:Nat}(h:MH kf la lb o na (at_+k))(b:at_+k<=lb.length)(a:∀i x,at_<=i->i<at_+k->lb[i]?=some x->∀y∈la.take na,leK kf y x):MH kf la lb ((lb.take (at_+k)).drop at_++o) na at_ :=
 (MH.bulkA hs k h.swap b a).swap
def MH.done(h:MH kf la lb o 0 nb)(hs:lb.Pairwise (leK kf)):a2k kf la lb (la.take 0++lb.take nb++o):=by
 rw[List.take_zero,cQ];have a:=h.perm;rw[dh]at a;refine⟨?_,?_⟩
 .refine(cw _ a).trans ?_;rw[<-aJ];refine(List.Perm.append_right _ cJ).trans ?_;rw[aJ,bp]
 .rw[bC];exact⟨hs.take,h.sorted,h.rb⟩
def MH.firstB(h:MH kf la lb o na nb)(a:la.Pairwise (leK kf))(hs:lb.Pairwise (leK kf))(c:∀y∈lb.take nb,∀x∈la.take na,leK kf y x):a2k kf la lb (lb.take nb++la.take na++o):=by
 refine⟨?_,?_⟩
 .refine(cw _ h.perm).trans ?_;rw[aJ,<-aJ (la.take na),bp];refine cJ.trans ?_;rw[aJ];refine cw _ (cJ.trans ?_);rw[bp]
 .rw[bC];refine⟨?_,h.sorted,λx d y b=>?_⟩
  .rw[bC];exact⟨hs.take,a.take,c⟩
  .rcases aA.mp d with q|q
   .exact h.rb x q y b
   .exact h.ra x q y b
end
def a3C:Array Keyed->Array Keyed->StateT SortSt Sem (Array Keyed):=sortPriv% PySem.Builtin.mergeHi
def P9(a b out:Array Keyed)(na nb:Nat):Array Keyed:=a.extract 0 na++b.extract 0 nb++out.reverse
def Y5(a b out:Array Keyed)(na nb:Nat):Array Keyed:=b.extract 0 nb++a.extract 0 na++out.reverse
abbrev U1:Type:=qD (Array Keyed)×Nat×Nat×Array Keyed×Nat×Nat
abbrev U2:Type:=qD (Array Keyed)×Nat×Nat×Array Keyed×Nat×Nat×Nat
def hiD(a b:Array Keyed)(na nb:Nat)(out:Array Keyed)(mg k k1:Nat):StateT SortSt Sem (ForInStep U2) :=
 elem' a (na-1)>>=λx =>
 if (na-1==0)=true then pure (.done (some (P9 a b (out.push x) (na-1) nb),na-1,nb,out.push x,mg,k,k1))
 else if (decide (k<7) && decide (k1<7))=true then pure (.done (none,na-1,nb,out.push x,mg,k,k1))
 else pure (.yield (none,na-1,nb,out.push x,mg,k,k1))
def hiC(a b:Array Keyed)(na nb:Nat)(out:Array Keyed)(mg k bc:Nat):StateT SortSt Sem (ForInStep U2) :=
 elem' b (nb-1)>>=λy =>
 if (nb-1==1)=true then pure (.done (some (Y5 a b (out.push y) na (nb-1)),na,nb-1,out.push y,mg,k,bc))
 else elem' a (na-1)>>=λx=>T9 true x b 0 (nb-1) (nb-1-1)>>=λr =>
  match r with
  |some at_=>(if nb-1-at_ > 0 then
    (if (at_==1)=true then pure (.done (some (Y5 a b (out.push y++(b.extract at_ (nb-1)).reverse) na at_),na,at_,out.push y++(b.extract at_ (nb-1)).reverse,mg,k,nb-1-at_))
    else if (at_==0)=true then pure (.done (some (P9 a b (out.push y++(b.extract at_ (nb-1)).reverse) na at_),na,at_,out.push y++(b.extract at_ (nb-1)).reverse,mg,k,nb-1-at_))
    else hiD a b na at_ (out.push y++(b.extract at_ (nb-1)).reverse) mg k (nb-1-at_))
   else hiD a b na (nb-1) (out.push y) mg k (nb-1-at_))
  |_=>pure (.done (some (P9 a b (out.push y) na (nb-1)),na,nb-1,out.push y,mg,k,bc))
def hiB(a b:Array Keyed)(na nb:Nat)(out:Array Keyed)(mg ac bc:Nat):StateT SortSt Sem (ForInStep U2) :=
 a0r mg>>=λ_=>elem' b (nb-1)>>=λy=>T9 false y a 0 na (na-1)>>=λr =>
 match r with
 |some at_=>(if na-at_ > 0 then
   (if (at_==0)=true then pure (.done (some (P9 a b (out++(a.extract at_ na).reverse) at_ nb),at_,nb,out++(a.extract at_ na).reverse,mg,na-at_,bc))
   else hiC a b at_ nb (out++(a.extract at_ na).reverse) mg (na-at_) bc)
  else hiC a b na nb out mg (na-at_) bc)
 |_=>pure (.done (some (P9 a b out na nb),na,nb,out,mg,ac,bc))
def hiA(a b:Array Keyed)(na nb:Nat)(out:Array Keyed)(ac bc mg:Nat):StateT SortSt Sem (ForInStep U1) :=
 elem' b (nb-1)>>=λy=>elem' a (na-1)>>=λx=>lt' y x>>=λr =>
 match r with
 |some aWins=>(if aWins=true then elem' a (na-1)>>=λx =>
   (if (na-1==0)=true then pure (.done (some (P9 a b (out.push x) (na-1) nb),na-1,nb,out.push x,ac+1,0))
   else if ac+1 ≥ mg then pure (.done (none,na-1,nb,out.push x,ac+1,0))
   else pure (.yield (none,na-1,nb,out.push x,ac+1,0)))
  else elem' b (nb-1)>>=λy =>
   (if (nb-1==1)=true then pure (.done (some (Y5 a b (out.push y) na (nb-1)),na,nb-1,out.push y,0,bc+1))
   else if bc+1 ≥ mg then pure (.done (none,na,nb-1,out.push y,0,bc+1))
   else pure (.yield (none,na,nb-1,out.push y,0,bc+1))))
 |_=>pure (.done (some (P9 a b out na nb),na,nb,out,ac,bc))
def a7b(a b:Array Keyed):a3C a b=(do
 rule "list.sort.merge-hi"
 let y <-elem' a (a.size-1)
 if (a.size-1==0)=true then pure (P9 a b #[y] (a.size-1) b.size)
 else if (b.size==1)=true then pure (Y5 a b #[y] (a.size-1) b.size)
 else do
  let g <-get
  let r <-forIn [:a.size+b.size] ((none,a.size-1,b.size,#[y],gallopOf g):qD (Array Keyed)×Nat×Nat×Array Keyed×Nat) λ_ c=>do
   let r <-forIn [:a.size+b.size] ((none,c.2.1,c.2.2.1,c.2.2.2.1,0,0):U1) λ_ d=>hiA a b d.2.1 d.2.2.1 d.2.2.2.1 d.2.2.2.2.1 d.2.2.2.2.2 c.2.2.2.2
   match r.1 with
   |some q=>pure (ForInStep.done (some q,r.2.1,r.2.2.1,r.2.2.2.1,c.2.2.2.2))
   |none=>do
    rule "list.sort.gallop"
    let t <-forIn [:a.size+b.size] ((none,r.2.1,r.2.2.1,r.2.2.2.1,c.2.2.2.2+1,r.2.2.2.2.1,r.2.2.2.2.2):U2) λ_ d =>
     if d.2.2.2.2.1 > 1 then hiB a b d.2.1 d.2.2.1 d.2.2.2.1 (d.2.2.2.2.1-1) d.2.2.2.2.2.1 d.2.2.2.2.2.2 else hiB a b d.2.1 d.2.2.1 d.2.2.2.1 d.2.2.2.2.1 d.2.2.2.2.2.1 d.2.2.2.2.2.2
    match t.1 with
    |some q=>pure (ForInStep.done (some q,t.2.1,t.2.2.1,t.2.2.2.1,t.2.2.2.2.1))
    |none=>do
     a0r (t.2.2.2.2.1+1)
     pure (ForInStep.yield (none,t.2.1,t.2.2.1,t.2.2.2.1,t.2.2.2.2.1+1))
  match r.1 with
  |some q=>pure q
  |none=>unsupported "internal:list.sort.merge-bound"):=by
 show(_>>=_)=(_>>=_);refine aR _ (funext λ_=>?_);dsimp only;refine aR _ (funext λy=>?_);refine dR rfl (λ_=>rfl) (λ_=>dR rfl (λ_=>rfl) λ_=>?_);refine aR _ (funext λg=>?_);refine congr (aR _ (aR _ (funext λ_=>funext λc=>?_))) (funext λr=>?_)
 .refine congr (aR _ (aR _ (funext λ_=>funext λd=>?_))) (funext λr=>?_)
  .rfl
  .rcases r with⟨_|q,r⟩
   .dsimp only;refine aR _ (funext λ_=>?_);refine congr (aR _ (aR _ (funext λ_=>funext λd=>?_))) (funext λr=>?_)
    .rfl
    .rcases r with⟨_|q,r⟩<;>rfl
   .rfl
 .rcases r with⟨_|q,r⟩
  .dsimp only
  .rfl
def a2e(a:Array α)(i n:Nat):(a.extract i n).toList=(a.toList.take n).drop i:=by
 rw[eW];simp[List.extract_eq_drop_take']
def a7A(a b out:Array Keyed)(na nb:Nat):(P9 a b out na nb).toList=a.toList.take na++b.toList.take nb++out.toList.reverse:=by
 unfold P9;rw[b_,b_,a2e,a2e,fW,dh,dh]
def a5U(a b out:Array Keyed)(na nb:Nat):(Y5 a b out na nb).toList=b.toList.take nb++a.toList.take na++out.toList.reverse:=by
 unfold Y5;rw[b_,b_,a2e,a2e,fW,dh,dh]
def a1q(out:Array Keyed)(x:Keyed):(out.push x).toList.reverse=x::out.toList.reverse:=by
 rw[cZ,List.reverse_append];rfl
def b0v(out a:Array Keyed)(i n:Nat):(out++(a.extract i n).reverse).toList.reverse=(a.toList.take n).drop i++out.toList.reverse:=by
 rw[b_,List.reverse_append,fW,List.reverse_reverse,a2e]
section
variable {kf:Keyed->O.α}{a b out:Array Keyed}{na nb:Nat}
def a5f(kf:Keyed->O.α)(a b:Array Keyed):Prop:=∀y,b.toList[0]?=some y->∀x∈a.toList,ltK kf y x=true
def X2{z:Keyed}(hs:l.Pairwise (leK kf))(e:l[i]?=some x)(h:leK kf x z):∀y∈l.take (i+1),leK kf y z:=λy a=>by
 rw[V7 e]at a;rcases aA.mp a with a|a
 .exact bW (a2q hs e y a) h
 .rw[aB.mp a];exact h
def MJ(kf:Keyed->O.α)(a b out:Array Keyed)(na nb:Nat):Prop:=MH kf a.toList b.toList out.toList.reverse na nb/\1<=na/\2<=nb/\na<=a.size/\nb<=b.size
def a0D(T:Two D kf a b)(h:MH kf a.toList b.toList out.toList.reverse na nb)(hi:na=0):D7 kf a b (P9 a b out na nb):=by
 subst hi;unfold D7;rw[a7A];exact h.done T.sb
def Y0(T:Two D kf a b)(F:a5f kf a b)(h:MH kf a.toList b.toList out.toList.reverse na nb)(hi:nb=1)(d:0<b.size):D7 kf a b (Y5 a b out na nb):=by
 subst hi;unfold D7;rw[a5U];refine h.firstB T.sa T.sb λy c x f=>?_;have e:b.toList[0]?=some (b.getD 0 (Value.none,Value.none)):=by rw[av];exact gdK b d
 rw[V7 e,List.take_zero,cQ,aB]at c;rw[c];exact bX (F _ e x (bD f))
def P4(kf:Keyed->O.α)(st:SortSt)(a b:Array Keyed)(c0:Nat)(c:U2)(st':SortSt):Prop:=Good st st'/\((∃r,c.1=some r/\D7 kf a b r)∨(c.1=none/\MJ kf a b c.2.2.2.1 c.2.1 c.2.2.1/\c.2.1+c.2.2.1+c0<=a.size+b.size))
def Y4(kf:Keyed->O.α)(st:SortSt)(a b:Array Keyed)(c0:Nat)(c:U2)(st':SortSt):Prop:=Good st st'/\c.1=none/\MJ kf a b c.2.2.2.1 c.2.1 c.2.2.1/\c.2.1+c.2.2.1+c0<=a.size+b.size
def R4(kf:Keyed->O.α)(st:SortSt)(a b:Array Keyed)(c0:Nat)(r:ForInStep U2)(st':SortSt):Prop:=match r with | .done c'=>P4 kf st a b c0 c' st' | .yield c'=>Y4 kf st a b c0 c' st'
variable {c0 mg k1 bc ac:Nat}
def a9b(T:Two D kf a b)(g:Good st st')(h:MJ kf a b out na nb)(j:∀x,a.toList[na-1]?=some x->∀y∈b.toList.take nb,leK kf y x)(o:na+nb+c0<=a.size+b.size):wpS (model prog w) A E s (hiD a b na nb out mg k k1) (R4 kf st a b c0) st':=by
 unfold hiD;obtain⟨f,h1,h2,p,m⟩:=h;refine aE (B6 (by omega) λx l c=>?_);obtain⟨n,rfl⟩:∃n,na=n+1:=⟨na-1,by omega⟩;rw[fm]at l c j⊢;have d:=f.stepA T.sa c (j x c);rw[<-a1q]at d;split
 .rename_i e;exact aN ⟨g,.inl ⟨_,rfl,a0D T d (eq_of_beq e)⟩⟩
 .rename_i e;have e:¬n=0:=λz=>e (bj.mpr z);have i:MJ kf a b (out.push x) n nb:=⟨d,by omega,h2,by omega,m⟩;split
  .exact aN ⟨g,.inr ⟨rfl,i,by show n+nb+c0<=_;omega⟩⟩
  .exact aN ⟨g,rfl,i,by show n+nb+c0<=_;omega⟩
def a9c(T:Two D kf a b)(F:a5f kf a b)(t:Cmp prog w A s κ D (ltK kf))(Q:kindOf st=κ)(g:Good st st')(h:MJ kf a b out na nb)(I:∀y,b.toList[nb-1]?=some y->∀x∈a.toList.take na,leK kf x y)(O:na+nb+c0<=a.size+b.size):wpS (model prog w) A E s (hiC a b na nb out mg k bc) (R4 kf st a b c0) st':=by
 unfold hiC;obtain⟨B,h1,h2,H,W⟩:=h;refine aE (B6 (by omega) λy K q=>?_);obtain⟨m,rfl⟩:∃m,nb=m+1:=⟨nb-1,by omega⟩;rw[fm]at K q I⊢;have o:=B.stepB T.sb q (I y q);rw[<-a1q]at o;split
 .rename_i e;exact aN ⟨g,.inl ⟨_,rfl,Y0 T F o (eq_of_beq e) (by omega)⟩⟩
 .rename_i e;have e:¬m=1:=λz=>e (bj.mpr z);refine aE (B6 (by omega) λx f1 f2=>?_);refine aE (L4 t (g.1.trans Q) (T.da _ _ f1) (λi=>ltK kf (b.getD (0+i) (Value.none,Value.none)) x) (λi hi=>⟨_,gdK b (by omega),T.db _ _ (gdK b (by omega)),rfl⟩) (λi j P u N=>?_) (by omega) λat_ Y U J=>?_)
  .refine fk (a0y T.sb (i:=0+i) (j:=0+j) (by omega) ?_ ?_) N
   .rw[av];exact gdK b (by omega)
   .rw[av];exact gdK b (by omega)
  .dsimp only;have M:1<=at_:=by
    refine Nat.pos_of_ne_zero λz=>?_;have:=J 0 (by omega) (by omega);have L:=F (b.getD 0 (Value.none,Value.none)) (by rw[av];exact gdK b (by omega)) x (aH f2);rw[dC]at this;rw[L]at this;cases this
   have c:∀l,a.toList[na-1]?=some l->∀d,d=at_->∀y∈b.toList.take d,leK kf y l:=λl ex' d V=>by
    rw[f2]at ex';cases ex';obtain⟨n,R⟩:∃n,d=n+1:=⟨d-1,by omega⟩;rw[R];have r:b.toList[n]?=some (b.getD n (Value.none,Value.none)):=by rw[av];exact gdK b (by omega)
    refine X2 T.sb r (bX ?_);have:=U n (by omega);rw[dC]at this;exact this
   split
   .obtain⟨j,u⟩:∃j,m=at_+j:=⟨m-at_,by omega⟩;have f:MH kf a.toList b.toList ((b.toList.take (at_+j)).drop at_++(out.push y).toList.reverse) na at_:=by
     rw[u]at o;refine MH.bulkB T.sb o (by rw[ay];omega) λi z S X G=>?_;have:=J i S (by omega);rw[dC]at this;rw[av,gdK b (by omega)]at G;cases G;have v:leK kf x (b.getD i (Value.none,Value.none)):=this;have:=X2 T.sa f2 v;rwa[show na-1+1=na by omega]at this
    rw[<-u,<-b0v]at f;split
    .rename_i p;exact aN ⟨g,.inl ⟨_,rfl,Y0 T F f (eq_of_beq p) (by omega)⟩⟩
    .rename_i p;have p:¬at_=1:=λz=>p (bj.mpr z);split
     .rename_i C;have C:=eq_of_beq C;omega
     .exact a9b T g ⟨f,h1,by omega,H,by omega⟩ (λl ex'=>c l ex' _ rfl) (by omega)
   .exact a9b T g ⟨o,h1,by omega,H,by omega⟩ (λl ex'=>c l ex' _ (by omega)) (by omega)
def a9d(T:Two D kf a b)(F:a5f kf a b)(k:Cmp prog w A s κ D (ltK kf))(r:kindOf st=κ)(g:Good st st')(h:MJ kf a b out na nb)(p:na+nb+c0<=a.size+b.size):wpS (model prog w) A E s (hiB a b na nb out mg ac bc) (R4 kf st a b c0) st':=by
 unfold hiB;obtain⟨l,h1,h2,K,G⟩:=h;refine aE (V6 λR J=>?_);have g:=g.trans J;refine aE (B6 (by omega) λy I v=>?_);refine aE (L4 k (g.1.trans r) (T.db _ _ I) (λi=>!(ltK kf y (a.getD (0+i) (Value.none,Value.none)))) (λi hi=>⟨_,gdK a (by omega),T.da _ _ (gdK a (by omega)),rfl⟩) (λi j L q H=>?_) (by omega) λat_ U P Q=>?_)
 .have hle:leK kf (a.getD (0+j) (Value.none,Value.none)) y:=by
   unfold leK KeyOrd.kle;unfold ltK at H;simpa using H
  have:=bW (a0y T.sa (i:=0+i) (j:=0+j) (by omega) (by rw[av];exact gdK a (by omega)) (by rw[av];exact gdK a (by omega))) hle;unfold KeyOrd.kle at this;unfold ltK;rw[this];rfl
 .dsimp only;have d:∀c,c=at_->∀u,b.toList[nb-1]?=some u->∀x∈a.toList.take c,leK kf x u:=λc e u B=>by
   rw[v]at B;cases B;subst e;by_cases M:c=0
   .rw[M,List.take_zero];exact λ_ z=>nomatch z
   obtain⟨n,rfl⟩:∃n,c=n+1:=⟨c-1,by omega⟩;have o:a.toList[n]?=some (a.getD n (Value.none,Value.none)):=by rw[av];exact gdK a (by omega)
   refine X2 T.sa o ?_;have:=P n (by omega);rw[dC]at this;unfold leK KeyOrd.kle;unfold ltK at this;simpa using this
  split
  .obtain⟨j,q⟩:∃j,na=at_+j:=⟨na-at_,by omega⟩;have f:MH kf a.toList b.toList ((a.toList.take (at_+j)).drop at_++out.toList.reverse) at_ nb:=by
    rw[q]at l;refine MH.bulkA T.sa j l (by rw[ay];omega) λi z N S C=>?_;have:=Q i N (by omega);rw[dC]at this;rw[av,gdK a (by omega)]at C;cases C;have t:O.klt (kf y) (kf (a.getD i (Value.none,Value.none))):=by
     unfold KeyOrd.klt;unfold ltK at this;simpa using this
    have:=X2 T.sb v (bX t);rwa[show nb-1+1=nb by omega]at this
   rw[<-q,<-b0v]at f;split
   .rename_i m;exact aN ⟨g,.inl ⟨_,rfl,a0D T f (eq_of_beq m)⟩⟩
   .rename_i m;have m:¬at_=0:=λz=>m (bj.mpr z);exact a9c T F k r g ⟨f,by omega,h2,by omega,G⟩ (d _ rfl) (by omega)
  .exact a9c T F k r g ⟨l,h1,h2,K,G⟩ (d _ (by omega)) p
def P3(kf:Keyed->O.α)(st:SortSt)(a b:Array Keyed)(c0:Nat)(c:U1)(st':SortSt):Prop:=Good st st'/\((∃r,c.1=some r/\D7 kf a b r)∨(c.1=none/\MJ kf a b c.2.2.2.1 c.2.1 c.2.2.1/\c.2.1+c.2.2.1+c0<=a.size+b.size))
def Y3(kf:Keyed->O.α)(st:SortSt)(a b:Array Keyed)(c0:Nat)(c:U1)(st':SortSt):Prop:=Good st st'/\c.1=none/\MJ kf a b c.2.2.2.1 c.2.1 c.2.2.1/\c.2.1+c.2.2.1+c0<=a.size+b.size
def R3(kf:Keyed->O.α)(st:SortSt)(a b:Array Keyed)(c0:Nat)(r:ForInStep U1)(st':SortSt):Prop:=match r with | .done c'=>P3 kf st a b c0 c' st' | .yield c'=>Y3 kf st a b c0 c' st'
def b4X(T:Two D kf a b)(F:a5f kf a b)(l:Cmp prog w A s κ D (ltK kf))(u:kindOf st=κ)(g:Good st st')(h:MJ kf a b out na nb)(t:na+nb+c0<=a.size+b.size):wpS (model prog w) A E s (hiA a b na nb out ac bc mg) (R3 kf st a b (c0+1)) st':=by
 unfold hiA;obtain⟨f,h1,h2,q,r⟩:=h;refine aE (B6 (by omega) λy o j=>?_);refine aE (B6 (by omega) λx f1 f2=>?_);refine aE (a1a l (g.1.trans u) (T.db _ _ o) (T.da _ _ f1) ?_);dsimp only;obtain⟨n,rfl⟩:∃n,na=n+1:=⟨na-1,by omega⟩;obtain⟨m,rfl⟩:∃m,nb=m+1:=⟨nb-1,by omega⟩;rw[fm]at o j f1 f2⊢;rw[fm];cases p:ltK kf y x with
 |true =>
  rw[az rfl];refine aE (B6 (by omega) λv k c=>?_);rw[f2]at c;cases c;have d:=f.stepA T.sa f2 (X2 T.sb j (bX p));rw[<-a1q]at d;split
  .rename_i e;exact aN ⟨g,.inl ⟨_,rfl,a0D T d (eq_of_beq e)⟩⟩
  .rename_i e;have e:¬n=0:=λz=>e (bj.mpr z);have i:MJ kf a b (out.push x) n (m+1):=⟨d,by omega,h2,by omega,r⟩;split
   .exact aN ⟨g,.inr ⟨rfl,i,by show n+(m+1)+(c0+1)<=_;omega⟩⟩
   .exact aN ⟨g,rfl,i,by show n+(m+1)+(c0+1)<=_;omega⟩
 |false =>
  rw[au (by simp)];refine aE (B6 (by omega) λB k c=>?_);rw[j]at c;cases c;have d:=f.stepB T.sb j (X2 T.sa f2 p);rw[<-a1q]at d;split
  .rename_i e;exact aN ⟨g,.inl ⟨_,rfl,Y0 T F d (eq_of_beq e) (by omega)⟩⟩
  .rename_i e;have e:¬m=1:=λz=>e (bj.mpr z);have i:MJ kf a b (out.push y) (n+1) m:=⟨d,h1,by omega,q,by omega⟩;split
   .exact aN ⟨g,.inr ⟨rfl,i,by show n+1+m+(c0+1)<=_;omega⟩⟩
   .exact aN ⟨g,rfl,i,by show n+1+m+(c0+1)<=_;omega⟩
def a6k(T:Two D kf a b)(F:a5f kf a b)(k:Cmp prog w A s κ D (ltK kf))(t:kindOf st=κ)(P:0<a.size)(G:0<b.size){Q:Array Keyed->SortSt->Prop}
  (q:∀r st',D7 kf a b r->Good st st'->Q r st'):wpS (model prog w) A E s (a3C a b) Q st:=by
 rw[a7b];refine aE (U6 ?_);refine aE (B6 (by omega) λy f j=>?_);have l:MH kf a.toList b.toList (#[y]:Array Keyed).toList.reverse (a.size-1) b.size:=by
  have z:MH kf a.toList b.toList [] (a.size-1+1) b.size:=by
   refine⟨?_,.nil,(λ_ _ _ h=>nomatch h),λ_ _ _ h=>nomatch h⟩;rw[cE (by rw[ay];omega),cE (by rw[ay];omega)];exact .nil
  exact z.stepA T.sa j (λx u=>bX (T.last x (bD u) y f))
 have o:Good st st:=⟨rfl,rfl,rfl,rfl⟩;split
 .rename_i e;exact aN (q _ _ (a0D T l (eq_of_beq e)) o)
 .rename_i e;have e:¬a.size-1=0:=λz=>e (bj.mpr z);split
  .rename_i n;exact aN (q _ _ (Y0 T F l (eq_of_beq n) G) o)
  .rename_i n;have n:¬b.size=1:=λz=>n (bj.mpr z);refine aE (fu ?_);refine aE (cI (cv (I:=λx c st'=>Good st st'/\c.1=none/\MJ kf a b c.2.2.2.1 c.2.1 c.2.2.1/\c.2.1+c.2.2.1+(x+1)<=a.size+b.size)
    (Q:=λc st'=>Good st st'/\∃r,c.1=some r/\D7 kf a b r) ?step ?fin ⟨o,rfl,⟨l,by show 1<=a.size-1;omega,by show 2<=b.size;omega,by show a.size-1<=a.size;omega,ao _⟩,by show a.size-1+b.size+(0+1)<=_;omega⟩) ?post)
   case post =>
    rintro c st' ⟨g,r,f,j⟩;obtain⟨M,N⟩:=c;dsimp only at f;subst f;exact aN (q _ _ j g)
   case fin =>
    rintro c st' ⟨g,f,⟨_,h1,h2,_⟩,O⟩;exfalso;omega
   case step =>
    rintro x c K _ u ⟨g,f,p,H⟩;refine aE (cI (cv (I:=λz d st'=>Y3 kf st a b (x+1+min z 1) d st') (Q:=λd st'=>P3 kf st a b (x+2) d st') ?s1 ?f1 ⟨g,rfl,p,by show c.2.1+c.2.2.1+(x+1+min 0 1)<=_;omega⟩) ?p1)
    case f1 =>
     rintro d st' ⟨g,f,h1,h2⟩;exact⟨g,.inr ⟨f,h1,by omega⟩⟩
    case s1 =>
     rintro z d st' _ J ⟨g,f,h1,h2⟩;refine cI (b4X T F k t g h1 (c0:=x+1) (by omega)) λr m i=>?_;cases r with
     |done c'=>exact i
     | «yield» c'=>exact⟨i.1,i.2.1,i.2.2.1,by have:=i.2.2.2;omega⟩
    case p1 =>
     rintro d st' ⟨g,hd⟩;obtain⟨v,B⟩:=d;rcases hd with⟨r,f,j⟩|⟨f,h1,h2⟩
     .dsimp only at f;subst f;exact aN ⟨g,r,rfl,j⟩
     .dsimp only at f;subst f;refine aE (U6 ?_);refine aE (cI (cv (I:=λz d st'=>Y4 kf st a b (x+2) d st') (Q:=λd st'=>P4 kf st a b (x+2) d st') ?s2 ?f2 ⟨g,rfl,h1,h2⟩) ?p2)
      case f2 =>
       rintro d st' ⟨g,f,h1,h2⟩;exact⟨g,.inr ⟨f,h1,h2⟩⟩
      case s2 =>
       rintro z d st' _ J ⟨g,f,h1,h2⟩;split
       .refine cI (a9d T F k t g h1 h2) λr m i=>?_;cases r<;>exact i
       .refine cI (a9d T F k t g h1 h2) λr m i=>?_;cases r<;>exact i
      case p2 =>
       rintro d st' ⟨g,hd⟩;obtain⟨v,B⟩:=d;rcases hd with⟨r,f,j⟩|⟨f,h1,h2⟩
       .dsimp only at f;subst f;exact aN ⟨g,r,rfl,j⟩
       .dsimp only at f;subst f;refine aE (V6 λL C=>?_);exact aN ⟨g.trans C,rfl,h1,h2⟩
end
def a8f(qO merged:Array Keyed)(sa:Nat):Array Keyed:=merged.toList.zipIdx.foldl (λa (p,j)=>a.setIfInBounds (sa+j) p) qO
def mgC(sa:Nat)(merged:Array Keyed):StateT SortSt Sem Bool :=
 (modify λs=>SortSt.mk' (kindOf s) (a8f (arrOf s) merged sa) (pendingOf s) (gallopOf s) (failedOf s))>>=λ_=>get>>=λs=>pure (failedOf s).isNone
def mgB(s:SortSt)(sa na sb nb:Nat):StateT SortSt Sem Bool :=
 elem' (arrOf s) (sa+na-1)>>=λx=>T9 true x (arrOf s) sb nb (nb-1)>>=λr=>match r with
 |some n=>(if (n==0)=true then pure true
  else if na<=n then a3B ((arrOf s).extract sa sb) ((arrOf s).extract sb (sb+n))>>=mgC sa
  else a3C ((arrOf s).extract sa sb) ((arrOf s).extract sb (sb+n))>>=mgC sa)
 |_=>pure false
def mgA(s:SortSt)(sa na sb nb:Nat):StateT SortSt Sem Bool :=
 elem' (arrOf s) sb>>=λy=>T9 false y (arrOf s) sa na 0>>=λr=>match r with
 |some k=>(if (na-k==0)=true then pure true else mgB s (sa+k) (na-k) sb nb)
 |_=>pure false
def a7c(i:Nat):mergeAt' i=(get>>=λs=>match ((pendingOf s)[i]?,(pendingOf s)[i+1]?)with
 |(some (sa,na,pw),some (sb,nb,_))=>set (SortSt.mk' (kindOf s) (arrOf s) (((pendingOf s).setIfInBounds i (sa,na+nb,pw)).eraseIdxIfInBounds (i+1)) (gallopOf s) (failedOf s))>>=λ_=>mgA s sa na sb nb
 |_=>liftM (unsupported "internal:list.sort.pending" : Sem Bool)):=by
 show(_>>=_)=(_>>=_);refine aR _ (funext λs=>?_);dsimp only;rcases(pendingOf s)[i]? with _|⟨sa,na,pw⟩
 .rfl
 rcases(pendingOf s)[i+1]? with _|⟨sb,nb,pw2⟩
 .rfl
 dsimp only;refine aR _ (funext λ_=>?_);unfold mgA;refine aR _ (funext λy=>?_);refine aR _ (funext λr=>?_);rcases r with _|k
 .rfl
 dsimp only;refine dR rfl (λ_=>rfl) λ_=>?_;unfold mgB;refine aR _ (funext λx=>?_);refine aR _ (funext λr=>?_);rcases r with _|n
 .rfl
 rfl
def a4P:∀(l:qA Keyed) (qO:Array Keyed) (b j:Nat),b+j+l.length<=qO.size ->
  ((l.zipIdx j).foldl (λa (p:Keyed×Nat)=>a.setIfInBounds (b+p.2) p.1) qO).toList=qO.toList.take (b+j)++l++qO.toList.drop (b+j+l.length)
 |[],qO,b,j,h=>by simp
 |x::l,qO,b,j,h=>by
  rw[aT]at h;rw[List.zipIdx_cons,dH,a4P l _ b (j+1) (by rw[fo];omega)];rw[Array.toList_setIfInBounds];have c:b+j<qO.toList.length:=by rw[ay];omega
  rw[aT,show b+(j+1)=b+j+1 by omega];rw[List.take_set,List.drop_set_of_lt (by omega)];rw[List.take_succ_eq_append_getElem c,List.set_append_right _ _ (by rw[aU];omega)];rw[aU,show b+j-min (b+j) qO.toList.length=0 by omega];simp[aJ];congr 1;omega
def a6I(qO a:Array Keyed)(b:Nat)(h:b+a.size<=qO.size):(a8f qO a b).toList=qO.toList.take b++a.toList++qO.toList.drop (b+a.size):=by
 have:=a4P a.toList qO b 0 (by rw[ay];omega);rw[Nat.add_zero,ay]at this;exact this
def b4V{M:Model}{σ:Type}{st a:σ}{Q:PUnit->σ->Prop}(h:Q ⟨⟩ a):wpS M A E s (set a:StateT σ Sem PUnit) Q st:=by
 unfold wpS;rw[StateT.run_set];exact ae ⟨rfl,h⟩
section
variable {kf:Keyed->O.α}
structure Runs2(kf:Keyed->O.α)(D:Keyed->Prop)(qO:Array Keyed)(P LA LB R:qA Keyed):Prop where
 eq:qO.toList=P++LA++LB++R
 d:∀x∈qO.toList,D x
 sa:LA.Pairwise (leK kf)
 sb:LB.Pairwise (leK kf)
 na:0<LA.length
 nb:0<LB.length
variable {P LA LB R:qA Keyed}
def Runs2.atA(h:Runs2 kf D qO P LA LB R)(hi:i<LA.length):qO[P.length+i]?=LA[i]?:=by
 rw[<-av,h.eq,aJ,aJ,bh (by omega),bx (by omega)];congr 1;omega
def Runs2.atB(h:Runs2 kf D qO P LA LB R)(hi:i<LB.length):qO[P.length+LA.length+i]?=LB[i]?:=by
 rw[<-av,h.eq,aJ,bh (by rw[ax];omega),bx (by rw[ax];omega)];congr 1;rw[ax];omega
def Runs2.dA(h:Runs2 kf D qO P LA LB R):∀x∈LA,D x:=λx a=>h.d x (by rw[h.eq];simp[a])
def Runs2.dB(h:Runs2 kf D qO P LA LB R):∀x∈LB,D x:=λx a=>h.d x (by rw[h.eq];simp[a])
def Runs2.size(h:Runs2 kf D qO P LA LB R):qO.size=P.length+LA.length+LB.length+R.length:=by
 rw[<-ay,h.eq];simp[d_]
def Runs2.extA(h:Runs2 kf D qO P LA LB R)(k:Nat):(qO.extract (P.length+k) (P.length+LA.length)).toList=LA.drop k:=by
 rw[a2e,h.eq,aJ (P++LA),eD (by simp)];rw[bJ (by simp),List.drop_append,cE (by omega),cQ];congr 1;omega
def Runs2.extB(h:Runs2 kf D qO P LA LB R)(a:k<=LB.length):(qO.extract (P.length+LA.length) (P.length+LA.length+k)).toList=LB.take k:=by
 rw[a3Y,h.eq,aJ,dr (by simp),cE (by simp),cQ,eD a]
def a6l{pw a9:Nat}{Q:Bool->SortSt->Prop}(G:Cmp prog w A s κ D (ltK kf))(hk:kindOf st=κ)(h:Runs2 kf D (arrOf st) P LA LB R)(hp:(pendingOf st)[i]?=some (P.length,LA.length,pw))(a7:(pendingOf st)[i+1]?=some (P.length+LA.length,LB.length,a9))(hf:failedOf st=none)
  (q:∀(st':SortSt) (M:qA Keyed),kindOf st'=κ->failedOf st'=none->pendingOf st'=((pendingOf st).setIfInBounds i (P.length,LA.length+LB.length,pw)).eraseIdxIfInBounds (i+1)->a2k kf LA LB M->(arrOf st').toList=P++M++R->Q true st'):wpS (model prog w) A E s (mergeAt' i) Q st:=by
 rw[a7c];refine aE (fu ?_);rw[hp,a7];dsimp only;refine aE (b4V ?_);unfold mgA;have m:=heq_of_eq h.size;have a0:=h.na;have S:=h.nb;generalize f:SortSt.mk' (kindOf st) (arrOf st) (((pendingOf st).setIfInBounds i (P.length,LA.length+LB.length,pw)).eraseIdxIfInBounds (i+1)) (gallopOf st) (failedOf st)=d;have k2:kindOf d=κ:=by rw[<-f];exact hk
 have a2:arrOf d=arrOf st:=by rw[<-f]
 have p2:pendingOf d=((pendingOf st).setIfInBounds i (P.length,LA.length+LB.length,pw)).eraseIdxIfInBounds (i+1):=by rw[<-f]
 have f2:failedOf d=none:=by rw[<-f];exact hf
 have B:LA++LB=LA++LB->(∀x∈LA,∀y∈LB,leK kf x y)->Q true d:=λ_ a6=>by
  refine q d (LA++LB) k2 f2 p2 ⟨.refl _,bC.mpr ⟨h.sa,h.sb,a6⟩⟩ ?_;rw[a2,h.eq];simp[aJ]
 refine aE (B6 (by have:=cT m;omega) λy e1 _=>?_);have ey:LB[0]?=some y:=by rw[<-h.atB S];exact e1
 have a3:∀z∈LB,leK kf y z:=X8 h.sb ey (cC _);have W:∀i,i<LA.length->(arrOf st)[P.length+i]?=some (LA.getD i (Value.none,Value.none))/\LA[i]?=some (LA.getD i (Value.none,Value.none)):=λi hi=>by
  have:LA[i]?=some (LA.getD i (Value.none,Value.none)):=by rw[ak,ai hi];rfl
  exact⟨by rw[h.atA hi];exact this,this⟩
 have X:∀i,i<LB.length->(arrOf st)[P.length+LA.length+i]?=some (LB.getD i (Value.none,Value.none))/\LB[i]?=some (LB.getD i (Value.none,Value.none)):=λi hi=>by
  have:LB[i]?=some (LB.getD i (Value.none,Value.none)):=by rw[ak,ai hi];rfl
  exact⟨by rw[h.atB hi];exact this,this⟩
 have t:∀{u v:Keyed},(!(ltK kf u v))=true->leK kf v u:=λ{u v} z=>by
  unfold leK KeyOrd.kle;unfold ltK at z;simpa using z
 refine aE (L4 G k2 (h.dB _ (aH ey)) (λi=>!(ltK kf y (LA.getD i (Value.none,Value.none)))) (λi hi=>⟨_,(W i hi).1,h.dA _ (aH (W i hi).2),rfl⟩) (λi j N c hb=>?_) a0 λk q1 q2 q3=>?_)
 .have:=bW (a0y h.sa N (W i (by omega)).2 (W j c).2) (t hb);unfold KeyOrd.kle at this;unfold ltK;rw[this];rfl
 .dsimp only;have Z:∀x∈LA.take k,leK kf x y:=λx hx=>by
   obtain⟨j,c,e⟩:=bS.mp hx;rw[aU]at c;have o:=aL c (Nat.min_le_right _ _);have:=t (q2 j (aL c (Nat.min_le_left _ _)));have a:=(W j o).2;rw[fC]at e;rw[ai o,e]at a;injection a with a
   rw[a];exact this
  split
  .rename_i e;have e:=eq_of_beq e;refine aN (B rfl λx hx z l=>bW (Z x ?_) (a3 z l));rw[bJ (by omega)];exact hx
  .rename_i e;replace e:k<LA.length:=Nat.lt_of_sub_ne_zero λz=>e (bj.mpr z);clear q1;have a4:∀x∈LA.drop k,ltK kf y x=true:=λx hx=>by
    obtain⟨j,c,e⟩:=bS.mp hx;rw[bI]at c;rw[fD]at e;clear m S;have O:k+j<LA.length:=by omega
    have:=q3 (k+j) (cf _ _) O;have a:=(W (k+j) O).2;rw[ai O,e]at a;injection a with a
    rw[a];simpa using this
   unfold mgB;refine aE (B6 (by have:=cT m;omega) λx f1 _=>?_);rw[show P.length+k+(LA.length-k)-1=P.length+(LA.length-1) by omega]at f1;have ex:LA[LA.length-1]?=some x:=by rw[<-h.atA (by omega)];exact f1
   have V:∀z∈LA,leK kf z x:=λz l=>by
    have:=X2 h.sa ex (cC _) z;rw[show LA.length-1+1=LA.length by omega,br]at this;exact this l
   refine aE (L4 G k2 (h.dA _ (aH ex)) (λi=>ltK kf (LB.getD i (Value.none,Value.none)) x) (λi hi=>⟨_,(X i hi).1,h.dB _ (aH (X i hi).2),rfl⟩) (λi j N c hb=>?_) (by omega) λn r1 r2 r3=>?_)
   .exact fk (a0y h.sb N (X i (by omega)).2 (X j c).2) hb
   .dsimp only;have L:∀z∈LB.drop n,leK kf x z:=λz l=>by
     obtain⟨j,c,e⟩:=bS.mp l;rw[bI]at c;rw[fD]at e;have U:n+j<LB.length:=by clear m a0 S;omega
     have:=r3 (n+j) (cf _ _) U;have a:=(X (n+j) U).2;rw[ai U,e]at a;injection a with a
     rw[a];exact this
    have a5:∀z∈LB.take n,ltK kf z x=true:=λz l=>by
     obtain⟨j,c,e⟩:=bS.mp l;rw[aU]at c;rw[fC]at e;have o:=aL c (Nat.min_le_right _ _);have:=r2 j (aL c (Nat.min_le_left _ _));have a:=(X j o).2;rw[ai o,e]at a;injection a with a
     rw[a];exact this
    split
    .rename_i e;have e:=eq_of_beq e;refine aN (B rfl λu p z l=>bW (V u p) (L z ?_));rw[e,dh];exact l
    .rename_i Y;replace Y:0<n:=Nat.pos_of_ne_zero λz=>Y (bj.mpr z);have J:=h.extA k;have K:=h.extB r1;generalize b1:(arrOf st).extract (P.length+k) (P.length+LA.length)=Xa at J;generalize b2:(arrOf st).extract (P.length+LA.length) (P.length+LA.length+n)=Ya at K;have sX:=heq_of_eq (show Xa.size=LA.length-k by rw[<-ay,J,bI]);have sY:=heq_of_eq (show Ya.size=n by rw[<-ay,K,aU,c_ r1]);have T:Two D kf Xa Ya:=by
      refine⟨λi z C=>?_,λi z C=>?_,by rw[J];exact h.sa.drop,by rw[K];exact h.sb.take,λz l u eu=>?_⟩
      .refine h.dA z (cB (i:=k) ?_);rw[<-J];rw[<-av]at C;exact aH C
      .refine h.dB z (bD (i:=n) ?_);rw[<-K];rw[<-av]at C;exact aH C
      .rw[K]at l;rw[<-av,J,fj,cT sX,show k+(LA.length-k-1)=LA.length-1 by omega,ex]at eu;cases eu;exact a5 z l
     have F:a5f kf Xa Ya:=λz C u p=>by
      rw[K,dj Y,ey]at C;cases C;rw[J]at p;exact a4 u p
     have fin:∀(r:Array Keyed) (b:SortSt),D7 kf Xa Ya r->Good d b->wpS (model prog w) A E s (mgC (P.length+k) r) Q b:=λr b hr g=>by
      unfold mgC;obtain⟨H,a8⟩:=hr;rw[J,K]at H;have a1:=heq_of_eq (show r.size=LA.length-k+n by
       have:=H.length_eq;rw[ax,bI,aU,ay,c_ r1]at this;exact this)
      refine aE (wpS_modify (aE (fu (aN ?_))));show Q (failedOf b).isNone _;rw[g.2.2.2,f2];have I:∀z∈r.toList,z∈LA.drop k∨z∈LB.take n:=λz l=>aA.mp (H.mem_iff.mp l);refine q _ (LA.take k++r.toList++LB.drop n) (g.1.trans k2) rfl (g.2.2.1.trans p2) ⟨?_,?_⟩ ?_
      .refine((cw _ H).append_right _).trans ?_;rw[<-aJ (LA.take k),bp,aJ,bp]
      .have sAk:∀u∈LA.take k,∀v∈LA.drop k,leK kf u v:=by
        have:=h.sa;rw[<-bp k LA,bC]at this;exact this.2.2
       have b0:∀u∈LB.take n,∀v∈LB.drop n,leK kf u v:=by
        have:=h.sb;rw[<-bp n LB,bC]at this;exact this.2.2
       rw[bC,bC];refine⟨⟨h.sa.take,a8,λu p v hv=>?_⟩,h.sb.drop,λu p v hv=>?_⟩
       .rcases I v hv with z|z
        .exact sAk u p v z
        .exact bW (Z u p) (a3 v (bD z))
       .rcases aA.mp p with z|z
        .exact bW (V u (bD z)) (L v hv)
        .rcases I u z with z|z
         .exact bW (V u (cB z)) (L v hv)
         .exact b0 u z v hv
      .show(a8f (arrOf b) r (P.length+k)).toList=_;rw[g.2.1,a2,a6I _ _ _ (by rw[cT a1,cT m];clear m;omega),h.eq,cT a1];have e1:(P++LA++LB++R).take (P.length+k)=P++LA.take k:=by
        rw[aJ,aJ,List.take_append,bJ (by omega),show P.length+k-P.length=k by omega,eD (by omega)]
       have a:(P++LA++LB++R).drop (P.length+k+(LA.length-k+n))=LB.drop n++R:=by
        rw[aJ (P++LA),List.drop_append,cE (by rw[ax];omega),cQ,ax,show P.length+k+(LA.length-k+n)-(P.length+LA.length)=n by omega,dr r1]
       rw[e1,a];simp[aJ]
     split
     .exact aE (a6j T G k2 (by rw[cT sX];omega) (by rw[cT sY];exact Y) (λz C u p=>bX (F z C u p)) λr b hr g=>fin r b hr g)
     .exact aE (a6k T F G k2 (by rw[cT sX];omega) (by rw[cT sY];exact Y) λr b hr g=>fin r b hr g)
end
section
variable {kf:Keyed->O.α}
def kx(kf:Keyed->O.α)(qO:Array Keyed)(i:Nat):O.α:=kf (qO.getD i (Value.none,Value.none))
def SoO(kf:Keyed->O.α)(qO:Array Keyed)(lo m:Nat):Prop:=∀i j,i<=j->j<m->O.kle (kx kf qO (lo+i)) (kx kf qO (lo+j))
def NiO(kf:Keyed->O.α)(qO:Array Keyed)(lo m:Nat):Prop:=∀i j,i<=j->j<m->O.kle (kx kf qO (lo+j)) (kx kf qO (lo+i))
def Kept(lo:Nat)(st st':SortSt):Prop:=kindOf st'=kindOf st/\pendingOf st'=pendingOf st/\failedOf st'=failedOf st/\(arrOf st').Perm (arrOf st)/\∀i,i<lo->(arrOf st')[i]?=(arrOf st)[i]?
def Kept.refl{lo:Nat}:Kept lo st st:=⟨rfl,rfl,rfl,.refl _,λ_ _=>rfl⟩
def Kept.trans{lo:Nat}{st' a:SortSt}(h:Kept lo st st')(h2:Kept lo st' a):Kept lo st a:=⟨h2.1.trans h.1,h2.2.1.trans h.2.1,h2.2.2.1.trans h.2.2.1,h2.2.2.2.1.trans h.2.2.2.1,λi hi=>(h2.2.2.2.2 i hi).trans (h.2.2.2.2 i hi)⟩
def AllD(D:Keyed->Prop)(qO:Array Keyed):Prop:=∀x∈qO.toList,D x
def AllD.perm{a b:Array Keyed}(h:AllD D a)(p:b.Perm a):AllD D b:=λx c=>h x ((dM.mp p).mem_iff.mp c)
def a0e{a b:Array Keyed}(h:a[i]?=b[j]?):kx kf a i=kx kf b j:=by
 unfold kx;rw[bV,bV,h]
def U7{Q:qD Bool->SortSt->Prop}(a:Cmp prog w A s κ D (ltK kf))(f:kindOf st=κ)(d:AllD D (arrOf st))(hi:i<(arrOf st).size)(e:j<(arrOf st).size)(h:Q (some (O.blt (kx kf (arrOf st) i) (kx kf (arrOf st) j))) st):wpS (model prog w) A E s (ltAt' i j) Q st:=by
 rw[ltAt'_eq];refine aE (fu ?_);refine aE (B6 hi λx b f1=>aE (B6 e λy c f2=>?_));rw[gdK _ hi]at b;rw[gdK _ e]at c;cases b;cases c;exact a1a a f (d _ (aH f1)) (d _ (aH f2)) h
def b2i{src a:Nat}{Q:Unit->SortSt->Prop}(h:Q () (setArr st (bubble (arrOf st) src (src-a)))):wpS (model prog w) A E s (moveDown' src a) Q st:=by
 rw[moveDown'_eq];exact wpS_modify h
def a1T{src a:Nat}(hs:src<qO.size)(hd:a<=src)(i:Nat):kx kf (bubble qO src (src-a)) i=if i=a then kx kf qO src else if a<i/\i<=src then kx kf qO (i-1)else kx kf qO i:=by
 have e:=getElem?_bubble hs (src-a) (by omega) i;rw[show src-(src-a)=a by omega]at e;split
 .rename_i c;rw[az c]at e;exact a0e e
 .rename_i c;rw[au c]at e;split
  .rename_i c2;rw[az c2]at e;exact a0e e
  .rename_i c2;rw[au c2]at e;exact a0e e
def a3u{l:Nat}(h:l<j)(h2:j<=k):j-1<k:=by omega
section
variable {l:Nat}(hs:lo+k<qO.size)(hd:l<=k)
include hs hd
theorem b4K(h:i<l):kx kf (bubble qO (lo+k) (lo+k-(lo+l))) (lo+i)=kx kf qO (lo+i):=by
 rw[a1T hs (by omega),au (by omega),au (by omega)]
theorem a8S:kx kf (bubble qO (lo+k) (lo+k-(lo+l))) (lo+l)=kx kf qO (lo+k):=by
 rw[a1T hs (by omega),az rfl]
theorem a6b(h:l<i)(h2:i<=k):kx kf (bubble qO (lo+k) (lo+k-(lo+l))) (lo+i)=kx kf qO (lo+(i-1)):=by
 rw[a1T hs (by omega),au (by omega),az (by omega),Nat.add_sub_assoc (by omega)]
end
def b2j{ok:Nat}{Q:Bool->SortSt->Prop}(C:Cmp prog w A s κ D (ltK kf))(L:kindOf st=κ)(J:AllD D (arrOf st))(N:lo+n<=(arrOf st).size)(H:ok<=n)(hs:SoO kf (arrOf st) lo ok)
  (h:∀st',Kept lo st st'->SoO kf (arrOf st') lo n->Q true st'):wpS (model prog w) A E s (binarySort' lo n ok) Q st:=by
 rw[binarySort'_eq];refine aE (cI (cv (I:=λk c st'=>c=(none,())/\Kept lo st st'/\SoO kf (arrOf st') lo (min k n))
  (Q:=λc st'=>c=(none,())/\Kept lo st st'/\SoO kf (arrOf st') lo n) ?step ?fin ?init) ?post)
 case post =>
  rintro c st' ⟨rfl,f,e⟩;exact aN (h st' f e)
 case init =>
  refine⟨rfl,Kept.refl,λi j g q=>?_⟩;by_cases h1:ok=0
  .have:i=j:=by omega
   subst this;exact cC _
  .exact hs i j g (by omega)
 case fin =>
  rintro c st' ⟨K,f,e⟩;refine⟨K,f,?_⟩;rwa[show min (max (max ok 1) n) n=n by omega]at e
 case step =>
  rintro k c st' B F ⟨rfl,f,e⟩;rw[show min k n=k by omega]at e;have t:lo+k<(arrOf st').size:=by have:=f.2.2.2.1.size_eq;omega
  have z:=J.perm f.2.2.2.1;have u:min (k+1) n=k+1:=by omega
  clear N H B F;refine aE (cI (cv (I:=λx c a=>a=st'/\∃l r,c=(none,l,r)/\l<=r/\r<=k/\r-l<=k-x /\
    (∀i,i<l->O.kle (kx kf (arrOf st') (lo+i)) (kx kf (arrOf st') (lo+k)))/\(∀i,r<=i->i<k->O.kle (kx kf (arrOf st') (lo+k)) (kx kf (arrOf st') (lo+i))))
   (Q:=λc a=>a=st'/\∃l r,c=(none,l,r)/\l<=k /\
    (∀i,i<l->O.kle (kx kf (arrOf st') (lo+i)) (kx kf (arrOf st') (lo+k)))/\(∀i,l<=i->i<k->O.kle (kx kf (arrOf st') (lo+k)) (kx kf (arrOf st') (lo+i)))) ?istep ?ifin ?iinit) ?ipost)
  case iinit=>exact⟨rfl,0,k,rfl,by omega,by omega,by omega,λi hi=>by omega,λi h1 h2=>by omega⟩
  case ifin =>
   rintro c a ⟨rfl,l,r,rfl,G,v,M,o,m⟩;have:l=r:=by omega
   subst this;exact⟨rfl,l,l,rfl,v,o,m⟩
  case istep =>
   rintro x c a _ P ⟨rfl,l,r,rfl,G,v,M,o,m⟩;dsimp only;by_cases y:l ≥ r
   .rw[az y];have:l=r:=by omega
    subst this;exact aN ⟨rfl,l,l,rfl,v,o,m⟩
   .rw[au y];refine aE (U7 C (f.1.trans L) z (by omega) (by omega) ?_);dsimp only;cases p:O.blt (kx kf (arrOf a) (lo+k)) (kx kf (arrOf a) (lo+(l+r) / 2))with
    |true =>
     rw[az rfl];refine aN ⟨rfl,l,(l+r) / 2,rfl,by omega,by omega,by omega,o,λi h1 h2=>?_⟩;exact bW (bX p) (e _ _ h1 h2)
    |false =>
     rw[au (by simp)];refine aN ⟨rfl,(l+r) / 2+1,r,rfl,by omega,by omega,by omega,λi h1=>?_,m⟩;exact bW (e i ((l+r) / 2) (by omega) (by omega)) p
  case ipost =>
   rintro c a ⟨rfl,l,r,rfl,b,o,m⟩;refine aE (b2i (aN ⟨rfl,f.trans ⟨rfl,rfl,rfl,bubble_perm _ _ _,λi hi=>?_⟩,?_⟩))
   .show(bubble (arrOf a) (lo+k) (lo+k-(lo+l)))[i]?=_;rw[getElem?_bubble t _ (by omega),au (by omega),au (by omega)]
   rw[u];clear u;intro i j g q;replace q:j<=k:=eG q;show O.kle (kx kf (bubble (arrOf a) (lo+k) (lo+k-(lo+l))) (lo+i)) (kx kf (bubble (arrOf a) (lo+k) (lo+k-(lo+l))) (lo+j));rcases dn i l with c|rfl|c
   .rw[b4K t b c];rcases dn j l with d|rfl|d
    .rw[b4K t b d];exact e i j g (aL d b)
    .rw[a8S t b];exact o i c
    .rw[a6b t b d q];exact e i (j-1) (Nat.le_sub_one_of_lt (fV c d)) (a3u d q)
   .rw[a8S t b];rcases Nat.lt_or_eq_of_le g with d|rfl
    .rw[a6b t b d q];exact m (j-1) (Nat.le_sub_one_of_lt d) (a3u d q)
    .rw[a8S t b];exact cC _
   .have d:=aL c g;rw[a6b t b c (ba g q),a6b t b d q];exact e (i-1) (j-1) (Nat.sub_le_sub_right g 1) (a3u d q)
end
def b4P(lo a nrem:Nat):StateT SortSt Sem AscSt:=forIn [a:nrem] ((none,a):AscSt) λ_ c=>ltAt' (lo+c.2) (lo+c.2-1)>>=λr=>match r with
 |some sm=>(if sm=true then pure (.done (none,c.2))else pure (.yield (none,c.2+1)))
 |_=>pure (.done (some none,c.2))
def a0P(lo n nrem:Nat):StateT SortSt Sem (qJ):=reverseSlice' lo (lo+n)>>=λ_=>b4P lo n nrem>>=λc=>match c.1 with
 |some r=>pure r
 |none=>pure (some c.2)
def b0k(lo n nrem:Nat):StateT SortSt Sem DescSt:=forIn [n:nrem] ((none,n,0):DescSt) λ_ c=>ltAt' (lo+c.2.1) (lo+c.2.1-1)>>=λr=>match r with
 |some sm=>(if sm=true then(if c.2.2 > 0 then reverseSlice' (lo+c.2.1-(c.2.2+1)) (lo+c.2.1)>>=λ_=>pure (.yield (none,c.2.1+1,0))else pure (.yield (none,c.2.1+1,0)))
  else ltAt' (lo+c.2.1-1) (lo+c.2.1)>>=λr=>match r with
   |some lg=>(if lg=true then pure (.done (none,c.2.1,c.2.2))else pure (.yield (none,c.2.1+1,c.2.2+1)))
   |_=>pure (.done (some none,c.2.1,c.2.2)))
 |_=>pure (.done (some none,c.2.1,c.2.2))
def dpO(lo n nrem:Nat):StateT SortSt Sem (qJ):=liftM (rule "list.sort.descending-run")>>=λ_=>b0k lo (n+1) nrem>>=λc=>match c.1 with
 |some r=>pure r
 |none=>(if c.2.2 > 0 then reverseSlice' (lo+c.2.1-(c.2.2+1)) (lo+c.2.1)>>=λ_=>a0P lo c.2.1 nrem else a0P lo c.2.1 nrem)
def b1M(lo a:Nat):countRun' lo a=(b4P lo 1 a>>=λc=>match c.1 with
 |some r=>pure r
 |none=>(if (c.2==a)=true then pure (some c.2)else if c.2 > 1 then ltAt' lo (lo+c.2-1)>>=λr=>match r with
   |some rose=>(if rose=true then pure (some c.2)else reverseSlice' lo (lo+c.2)>>=λ_=>dpO lo c.2 a)
   |_=>pure none
  else dpO lo c.2 a)):=by
 have e:∀(n:Nat),(reverseSlice' lo (lo+n)>>=λ_=>b4P lo n a>>=λc=>match c.1 with|some r=>pure r|none=>pure (some c.2))=a0P lo n a:=λn=>rfl;rw[countRun'_eq];dsimp only;refine congr (aR _ ?_) (funext λc=>?_)
 .rfl
 rcases c with⟨_|q,n⟩
 .dsimp only;have d:∀n:Nat,(liftM (rule "list.sort.descending-run")>>=λ_=>b0k lo (n+1) a>>=λc=>match c.1 with
    |some r=>pure r
    |none=>(if c.2.2 > 0 then reverseSlice' (lo+c.2.1-(c.2.2+1)) (lo+c.2.1)>>=λ_=>a0P lo c.2.1 a else a0P lo c.2.1 a))=dpO lo n a:=λn=>rfl
  have b:∀{β:Type}{m:StateT SortSt Sem β}{f g:β->StateT SortSt Sem (qJ)},(∀c,f c=g c)->(m>>=f)=(m>>=g):=λh=>aR _ (funext h);refine dR rfl (λ_=>rfl) λ_=>dR rfl (λ_=>?_) λ_=>?_
  .refine b λr=>?_;rcases r with _|r
   .rfl
   .dsimp only;refine dR rfl (λ_=>rfl) λ_=>?_;refine b λ_=>?_;rw[<-d];refine b λ_=>?_;refine congr (aR _ ?_) (funext λc=>?_)
    .rfl
    .rcases c with⟨_|q,n,z⟩
     .dsimp only;refine dR rfl (λ_=>?_) λ_=>?_
      .refine b λ_=>?_;refine b λ_=>?_;refine congr (aR _ ?_) (funext λc=>?_)
       .rfl
       .rcases c with⟨_|q,n⟩<;>rfl
      .refine b λ_=>?_;refine congr (aR _ ?_) (funext λc=>?_)
       .rfl
       .rcases c with⟨_|q,n⟩<;>rfl
     .rfl
  .rw[<-d];refine b λ_=>?_;refine congr (aR _ ?_) (funext λc=>?_)
   .rfl
   .rcases c with⟨_|q,n,z⟩
    .dsimp only;refine dR rfl (λ_=>?_) λ_=>?_
     .refine b λ_=>?_;refine b λ_=>?_;refine congr (aR _ ?_) (funext λc=>?_)
      .rfl
      .rcases c with⟨_|q,n⟩<;>rfl
     .refine b λ_=>?_;refine congr (aR _ ?_) (funext λc=>?_)
      .rfl
      .rcases c with⟨_|q,n⟩<;>rfl
    .rfl
 .rfl
section
variable {kf:Keyed->O.α}
def a1S(a:j<=qO.size)(k:Nat):kx kf (mirror qO i j ((j-i) / 2)) k=if i<=k/\k<j then kx kf qO (i+j-1-k)else kx kf qO k:=by
 have e:=getElem?_mirror_all (i:=i) a k;split
 .rename_i c;rw[az c]at e;exact a0e e
 .rename_i c;rw[au c]at e;exact a0e e
def O5(b:j<=qO.size)(a:∀k,i<=k->k<j->kx kf qO k=kx kf qO (j-1))(k:Nat):kx kf (mirror qO i j ((j-i) / 2)) k=kx kf qO k:=by
 rw[a1S b];split
 .rw[a _ (by omega) (by omega),a k (by omega) (by omega)]
 .rfl
def Kept.rev(hi:lo<=i)(a:j<=(arrOf st).size):Kept lo st (setArr st (mirror (arrOf st) i j ((j-i) / 2))):=⟨rfl,rfl,rfl,mirror_perm _ _ _ _,λk b=>by
 show(mirror (arrOf st) i j ((j-i) / 2))[k]?=_;rw[getElem?_mirror_all a,au (by omega)]⟩
def a6n{a b:Nat}{Q:AscSt->SortSt->Prop}(k:Cmp prog w A s κ D (ltK kf))(u:kindOf st=κ)(t:AllD D (arrOf st))(r:lo+b<=(arrOf st).size)(q:1<=a)(f:a<=b)(hs:SoO kf (arrOf st) lo a)
  (h:∀n,a<=n->n<=b->SoO kf (arrOf st) lo n->(n=b∨O.klt (kx kf (arrOf st) (lo+n)) (kx kf (arrOf st) (lo+(n-1))))->Q (none,n) st):wpS (model prog w) A E s (b4P lo a b) Q st:=by
 unfold b4P;refine cv (I:=λx c st'=>st'=st/\c=(none,x)/\SoO kf (arrOf st) lo x) ?step ?fin ⟨rfl,rfl,hs⟩
 case fin =>
  rintro c st' ⟨rfl,rfl,d⟩;rw[Nat.max_eq_right f]at d⊢;exact h b f (ao _) d (.inl rfl)
 case step =>
  rintro x c st' g p ⟨rfl,rfl,d⟩;dsimp only;replace q:1<=x:=ba q g;rw[show lo+x-1=lo+(x-1) by clear r f g p;omega];refine aE (U7 k u t (by omega) (by omega) ?_);clear r f;dsimp only;cases e:O.blt (kx kf (arrOf st') (lo+x)) (kx kf (arrOf st') (lo+(x-1)))with
  |true =>
   rw[az rfl];exact aN (h x g (by omega) d (.inr e))
  |false =>
   rw[au (by simp)];refine aN ⟨rfl,rfl,λi j m v=>?_⟩;by_cases o:j<x
   .exact d i j m o
   .have hj':j=x:=by omega
    subst hj';by_cases l:i=j
    .subst l;exact cC _
    .exact bW (d i (j-1) (by omega) (by omega)) e
def a3a{a:Nat}(d:Cmp prog w A s κ D (ltK kf))(l:kindOf st=κ)(g:AllD D (arrOf st))(f:lo+a<=(arrOf st).size)(h1:1<=n)(b:n<=a)(hs:NiO kf (arrOf st) lo n)
  (h:∀m st',Kept lo st st'->1<=m->m<=a->SoO kf (arrOf st') lo m->Q (some m) st'):wpS (model prog w) A E s (a0P lo n a) Q st:=by
 unfold a0P;refine aE (wpS_reverse ?_);have c:Kept lo st (setArr st (mirror (arrOf st) lo (lo+n) ((lo+n-lo) / 2))):=Kept.rev (ao _) (by omega);refine aE (a6n d (c.1.trans l) (g.perm c.2.2.2.1) (by rw[c.2.2.2.1.size_eq];exact f) h1 b (λi j k q=>?_) λm r o p _=>aN (h m _ c (by omega) o p));show O.kle (kx kf (mirror (arrOf st) lo (lo+n) ((lo+n-lo) / 2)) (lo+i)) (kx kf (mirror (arrOf st) lo (lo+n) ((lo+n-lo) / 2)) (lo+j));have e:lo+n<=(arrOf st).size:=by omega
 rw[a1S e,a1S e];clear f h1 b e;rw[az (by omega),az (by omega),show lo+(lo+n)-1-(lo+i)=lo+(n-1-i) by omega,show lo+(lo+n)-1-(lo+j)=lo+(n-1-j) by omega];exact hs _ _ (by omega) (by omega)
def b0z{d:Nat}{Q:DescSt->SortSt->Prop}(H:Cmp prog w A s κ D (ltK kf))(J:kindOf st=κ)(M:AllD D (arrOf st))(L:lo+d<=(arrOf st).size)(h1:1<=n)(u:n<=d)(hs:NiO kf (arrOf st) lo n)
  (h:∀m a st',Kept lo st st'->n<=m->m<=d->NiO kf (arrOf st') lo m->a+1<=m->(∀i,lo+m-(a+1)<=i->i<lo+m->kx kf (arrOf st') i=kx kf (arrOf st') (lo+m-1))->Q (none,m,a) st'):wpS (model prog w) A E s (b0k lo n d) Q st:=by
 unfold b0k;refine cv (I:=λx c st'=>∃a,c=(none,x,a)/\Kept lo st st'/\NiO kf (arrOf st') lo x/\a+1<=x /\
   (∀i,lo+x-(a+1)<=i->i<lo+x->kx kf (arrOf st') i=kx kf (arrOf st') (lo+x-1))) ?step ?fin ⟨0,rfl,Kept.refl,hs,by omega,λi h1 h2=>by congr 1;omega⟩
 case fin =>
  rintro c st' ⟨a,rfl,b,g,F,y⟩;rw[Nat.max_eq_right u]at g F y⊢;exact h d a st' b u (ao _) g F y
 case step =>
  rintro x c st' o e ⟨a,rfl,b,g,F,y⟩;dsimp only;have t:lo+x<(arrOf st').size:=by rw[b.2.2.2.1.size_eq];exact aL (Nat.add_lt_add_left e lo) L
  have G:=M.perm b.2.2.2.1;replace e:x<=d:=cG e;have ex:HEq (lo+x-1) (lo+(x-1)):=heq_of_eq (by clear L h1 u o e t;omega);have l:lo+x-1<(arrOf st').size:=dD (Nat.sub_le _ _) t;clear L h1 u;refine aE (U7 H (b.1.trans J) G t l ?_);dsimp only;rw[cT ex]at y l⊢;cases q:O.blt (kx kf (arrOf st') (lo+x)) (kx kf (arrOf st') (lo+(x-1)))with
  |true =>
   rw[az rfl];have r:∀xs:Array Keyed,(∀k,kx kf xs k=kx kf (arrOf st') k)->NiO kf xs lo (x+1):=by
    intro xs J i j B N;rw[J,J];by_cases C:j<x
    .exact g i j B C
    .have hj':j=x:=by omega
     subst hj';by_cases z:i=j
     .subst z;exact cC _
     .exact bW (bX q) (g i (j-1) (by omega) (by omega))
   by_cases f:a > 0
   .rw[az f];refine aE (wpS_reverse (aN ⟨0,rfl,b.trans (Kept.rev (by clear t l ex o e f;omega) (cG t)),r _ (O5 (cG t) (λk P R=>by rw[cT ex];exact y k P R)),eR _,λi h1 h2=>by clear t l ex o e f F;congr 1;omega⟩))
   .rw[au f];exact aN ⟨0,rfl,b,r _ (λ_=>rfl),eR _,λi h1 h2=>by clear t l ex o e f F;congr 1;omega⟩
  |false =>
   rw[au (by simp)];refine aE (U7 H (b.1.trans J) G l t ?_);dsimp only;clear t l;cases p:O.blt (kx kf (arrOf st') (lo+(x-1))) (kx kf (arrOf st') (lo+x))with
   |true =>
    rw[az rfl];exact aN (h x a st' b o e g F (by rw[cT ex];exact y))
   |false =>
    rw[au (by simp)];have v:kx kf (arrOf st') (lo+x)=kx kf (arrOf st') (lo+(x-1)):=KeyOrd.kle_antisymm p q;clear o e;refine aN ⟨a+1,rfl,b,λi j B N=>?_,by omega,λi h1 h2=>?_⟩
    .by_cases C:j<x
     .exact g i j B C
     .have hj':j=x:=by omega
      subst hj';by_cases z:i=j
      .subst z;exact cC _
      .rw[v];exact g i (j-1) (by omega) (by omega)
    .rw[show lo+(x+1)-1=lo+x by omega];by_cases K:i=lo+x
     .subst K;rfl
     .rw[v];exact y i (by omega) (by omega)
def a9e{a:Nat}(e:Cmp prog w A s κ D (ltK kf))(t:kindOf st=κ)(y:AllD D (arrOf st))(q:lo+a<=(arrOf st).size)(u:n+1<=a)(hs:NiO kf (arrOf st) lo (n+1))
  (h:∀m st',Kept lo st st'->1<=m->m<=a->SoO kf (arrOf st') lo m->Q (some m) st'):wpS (model prog w) A E s (dpO lo n a) Q st:=by
 unfold dpO;refine aE (U6 ?_);refine aE (b0z e t y q (by omega) u hs λm k st' b C f p F z=>?_);dsimp only;have v:=heq_of_eq (b.2.2.2.1.size_eq:(arrOf st').size=(arrOf st).size);have g:lo+m<=(arrOf st').size:=by rw[cT v];exact ba (Nat.add_le_add_left f lo) q
 have o:=y.perm b.2.2.2.1;by_cases d:k > 0
 .rw[az d];have c:Kept lo st' (setArr st' (mirror (arrOf st') (lo+m-(k+1)) (lo+m) ((lo+m-(lo+m-(k+1))) / 2))):=Kept.rev (by omega) g;refine aE (wpS_reverse (a3a e (c.1.trans (b.1.trans t)) (o.perm c.2.2.2.1) (by rw[c.2.2.2.1.size_eq,cT v];exact q) (by omega) f (λi j r B=>?_) λx l k2=>h x l (b.trans (c.trans k2))));show O.kle (kx kf (mirror (arrOf st') _ _ _) _) (kx kf (mirror (arrOf st') _ _ _) _);rw[O5 g z,O5 g z];exact p i j r B
 .rw[au d];exact a3a e (b.1.trans t) o (by rw[cT v];exact q) (by omega) f p λx l k2=>h x l (b.trans k2)
def a7M{b:Nat}(f:Cmp prog w A s κ D (ltK kf))(v:kindOf st=κ)(F:AllD D (arrOf st))(q:lo+b<=(arrOf st).size)(h1:1<=b)
  (h:∀m st',Kept lo st st'->1<=m->m<=b->SoO kf (arrOf st') lo m->Q (some m) st'):wpS (model prog w) A E s (countRun' lo b) Q st:=by
 rw[b1M];refine aE (a6n f v F q (ao 1) h1 (λi j x J=>by have:i=j:=(by omega);subst this;exact cC _) λn g c l C=>?_);dsimp only;by_cases a:n=b
 .rw[az (by simpa using a)];exact aN (h n st Kept.refl g c l)
 .rw[au (by simpa using a)];have y:O.klt (kx kf (arrOf st) (lo+n)) (kx kf (arrOf st) (lo+(n-1))):=C.resolve_left a;replace a:n+1<=b:=by omega
  clear C c h1;replace c:=Nat.le_of_succ_le a;have u:lo+n<(arrOf st).size:=aL (Nat.add_lt_add_left a lo) q;by_cases o:n > 1
  .rw[az o];refine aE (U7 f v F (by omega) (by omega) ?_);dsimp only;have ex:lo+n-1=lo+(n-1):=by clear q a c u;omega
   rw[ex];cases t:O.blt (kx kf (arrOf st) lo) (kx kf (arrOf st) (lo+(n-1)))with
   |true =>
    rw[az rfl];exact aN (h n st Kept.refl g c l)
   |false =>
    rw[au (by simp)];have r:=q;clear q;have d:∀k,k<n->kx kf (arrOf st) (lo+k)=kx kf (arrOf st) (lo+(n-1)):=by
     intro k v;clear u a c ex;have a1:=l 0 k (bq _) v;have K:=l k (n-1) (by omega) (by omega);exact KeyOrd.kle_antisymm K (bW t a1)
    have z:∀k,kx kf (mirror (arrOf st) lo (lo+n) ((lo+n-lo) / 2)) k=kx kf (arrOf st) k:=O5 (cG u) λk M N=>by
     rw[ex];clear u a c ex r;have:=d (k-lo) (by omega);rwa[show lo+(k-lo)=k by omega]at this
    have e:Kept lo st (setArr st (mirror (arrOf st) lo (lo+n) ((lo+n-lo) / 2))):=Kept.rev (ao _) (cG u);refine aE (wpS_reverse (a9e f (e.1.trans v) (F.perm e.2.2.2.1) (by rw[e.2.2.2.1.size_eq];exact r) a (λi j x J=>?_) λL I k2=>h L I (e.trans k2)));show O.kle (kx kf (mirror (arrOf st) _ _ _) _) (kx kf (mirror (arrOf st) _ _ _) _);rw[z,z];clear u a c ex r g;by_cases H:j<n
    .rw[d i (by omega),d j H];exact cC _
    .have hj':j=n:=by omega
     subst hj';by_cases p:i=j
     .subst p;exact cC _
     .rw[d i (by omega)];exact bX y
  .rw[au o];have B:n=1:=by omega
   subst B;refine a9e f v F q a (λi j x J=>?_) h;clear u a c q g o;by_cases p:i=j
   .subst p;exact cC _
   .have hi0:i=0:=by omega
    have G:j=1:=by omega
    subst hi0;subst G;exact bX y
end
def a2A:Nat->qA (qA Keyed)->qA (Nat×Nat)
 |_,[]=>[]
 |o,r::rs=>(o,r.length)::a2A (o+r.length) rs
def S9:∀(o:Nat) (X Y:qA (qA Keyed)),a2A o (X++Y)=a2A o X++a2A (o+X.flatten.length) Y
 |o,[],Y=>by simp[a2A]
 |o,r::X,Y=>by
  simp only[List.cons_append,a2A,S9 (o+r.length) X Y,cY,ax,d_]
def a3z:∀(o:Nat) (X:qA (qA Keyed)),(a2A o X).length=X.length
 |_,[]=>rfl
 |o,r::X=>by simp only[a2A,aT,a3z (o+r.length) X]
abbrev ent(e:Nat×Nat×Nat):Nat×Nat:=(e.1,e.2.1)
section
variable {kf:Keyed->O.α}
structure RI(kf:Keyed->O.α)(κ:SortKind)(a0:Array Keyed)(st:SortSt)(runs:qA (qA Keyed))(rest:qA Keyed):Prop where
 kind:kindOf st=κ
 failed:failedOf st=none
 perm:(arrOf st).Perm a0
 eq:(arrOf st).toList=runs.flatten++rest
 sorted:∀r∈runs,r.Pairwise (leK kf)
 ne:∀r∈runs,0<r.length
 pend:(pendingOf st).toList.map ent=a2A 0 runs
def RI.size(h:RI kf κ a0 st runs rest):(pendingOf st).size=runs.length:=by
 rw[<-ay,<-aj (f:=ent),h.pend,a3z]
def a2n{X Y:qA (qA Keyed)}{ra b:qA Keyed}{Q:Bool->SortSt->Prop}(j:Cmp prog w A s κ D (ltK kf))(I:AllD D a0)(h:RI kf κ a0 st (X++ra::b::Y) rest)
  (q:∀(st':SortSt) (M:qA Keyed),RI kf κ a0 st' (X++M::Y) rest->M.length=ra.length+b.length->Q true st'):wpS (model prog w) A E s (mergeAt' X.length) Q st:=by
 have p:=h.pend;rw[S9,a2A,a2A]at p;obtain⟨c,R,i,n,v⟩:=List.map_eq_append_iff.mp p;obtain⟨x,S,B,e,C⟩:=List.map_eq_cons_iff.mp v;obtain⟨y,K,F,g,o⟩:=List.map_eq_cons_iff.mp C;subst B F;obtain⟨L,N,u⟩:=x;obtain⟨O,P,m⟩:=y;rw[dC]at e g o;have e:(L,N)=(X.flatten.length,ra.length):=e;have g:(O,P)=(X.flatten.length+ra.length,b.length):=g;cases e;cases g;have J:c.length=X.length:=by rw[<-aj (f:=ent),n,a3z]
 have G:(pendingOf st)[X.length]?=some (X.flatten.length,ra.length,u):=by
  rw[<-av,i,bh (by omega),show X.length-c.length=0 by omega];rfl
 have H:(pendingOf st)[X.length+1]?=some (X.flatten.length+ra.length,b.length,m):=by
  rw[<-av,i,bh (by omega),show X.length+1-c.length=1 by omega];rfl
 have a:Runs2 kf D (arrOf st) X.flatten ra b (Y.flatten++rest):=by
  refine⟨?_,λz t=>(I.perm h.perm) z t,h.sorted _ (by simp),h.sorted _ (by simp),h.ne _ (by simp),h.ne _ (by simp)⟩;rw[h.eq];simp[aJ]
 refine a6l j h.kind a G H h.failed λst' M k1 k2 k3 l k5=>?_;have d:M.length=ra.length+b.length:=by rw[l.1.length_eq,ax]
 refine q st' M ⟨k1,k2,?_,?_,λr k=>?_,λr k=>?_,?_⟩ d
 .refine dM.mpr ?_;refine List.Perm.trans ?_ (dM.mp h.perm);rw[k5,a.eq];refine List.Perm.append_right _ ?_;rw[aJ X.flatten];exact cw _ l.1
 .rw[k5];simp[aJ]
 .rcases aA.mp k with z|z
  .exact h.sorted r (aK _ z)
  .rcases aD.mp z with rfl|z
   .exact l.2
   .exact h.sorted r (aX _ (aq _ (aq _ z)))
 .rcases aA.mp k with z|z
  .exact h.ne r (aK _ z)
  .rcases aD.mp z with rfl|z
   .have:=h.ne ra (by simp);omega
   .exact h.ne r (aX _ (aq _ (aq _ z)))
 .rw[k3,Array.eraseIdxIfInBounds];have t:(pendingOf st).size=X.length+(Y.length+2):=by rw[h.size];simp
  rw[dif_pos (by rw[fo];omega),Array.toList_eraseIdx,Array.toList_setIfInBounds,i];rw[List.set_append_right _ _ (by omega),show X.length-c.length=0 by omega,List.set_cons_zero];rw[List.eraseIdx_append_of_length_le (by omega),show X.length+1-c.length=1 by omega];show(c++(X.flatten.length,ra.length+b.length,u)::K).map ent=_;rw[cu,aW,n,o,S9,a2A,dC,d];show _++(X.flatten.length,ra.length+b.length)::_=_;rw[d_]
end
def a2U(lo n:Nat):StateT SortSt Sem (ForInStep (qD Unit×Nat)) :=
 (modify λs=>setPending s ((pendingOf s).push (lo,n,0)))>>=λ_=>pure (.yield (none,lo+n))
def a0g(sz pw:Nat):StateT SortSt Sem (qD Unit×Unit) :=
 forIn [:sz] ((none,()):qD Unit×Unit) λ_ _=>get>>=λg=>match (if (pendingOf g).size > 1 then(pendingOf g)[(pendingOf g).size-2]? else none)with
  |some (_,_,older)=>(if older<=pw then pure (.done (none,()))else mergeAt' ((pendingOf g).size-2)>>=λb=>if (!b)=true then pure (.done (some (),()))else pure (.yield (none,())))
  |_=>pure (.done (none,()))
def a0Y(sz lo n:Nat):StateT SortSt Sem (ForInStep (qD Unit×Nat)):=get>>=λg=>match (pendingOf g).back? with
 |some (s1,n1,_)=>a0g sz (power' sz (2*s1+n1) (2*s1+n1+n1+n) sz)>>=λc=>match c.1 with
  |some r=>pure (.done (some r,lo))
  |none=>(modify λs=>setPending s ((pendingOf s).modify ((pendingOf s).size-1) λx=>(x.1,x.2.1,power' sz (2*s1+n1) (2*s1+n1+n1+n) sz)))>>=λ_=>a2U lo n
 |_=>a2U lo n
def a9S(sz:Nat):StateT SortSt Sem (qD Unit×Unit) :=
 forIn [:sz] ((none,()):qD Unit×Unit) λ_ _=>get>>=λg=>if (pendingOf g).size<=1 then pure (.done (none,()))
  else mergeAt' (if Option.any (λx=>decide (x<(pendingOf g)[(pendingOf g).size-2+1]?.elim 0 λx=>x.2.1)) (if (pendingOf g).size-2 > 0 then Option.map (λx=>x.2.1) (pendingOf g)[(pendingOf g).size-2-1]? else none)=true then(pendingOf g).size-2-1 else(pendingOf g).size-2)>>=λb=>if (!b)=true then pure (.done (some (),()))else pure (.yield (none,()))
section
variable {kf:Keyed->O.α}
def two_last{l:qA α}(h:2<=l.length):∃X a b,l=X++[a,b]/\X.length=l.length-2:=by
 refine⟨l.take (l.length-2),l[l.length-2],l[l.length-1],?_,by rw[aU];omega⟩;have c:l.drop (l.length-2)=[l[l.length-2],l[l.length-1]]:=by
  rw[cF (by omega),cF (by omega),cE (by omega)];congr 2;congr 1;omega
 rw[<-c,bp]
def a5h{sz:Nat}{Q:qD Unit×Unit->SortSt->Prop}(g:Cmp prog w A s κ D (ltK kf))(i:AllD D a0)(h:RI kf κ a0 st runs rest)
  (q:∀st' a,RI kf κ a0 st' a rest->a.flatten.length=runs.flatten.length->a.length<=runs.length->Q (none,()) st'):wpS (model prog w) A E s (a0g sz j) Q st:=by
 unfold a0g;refine cv (I:=λ_ c st'=>c=(none,())/\∃a,RI kf κ a0 st' a rest/\a.flatten.length=runs.flatten.length/\a.length<=runs.length) ?step (λc st' ⟨e,d,h1,h2,b⟩=>by rw[e];exact q st' d h1 h2 b) ⟨rfl,runs,h,rfl,ao _⟩;rintro x c st' _ _ ⟨rfl,d,h1,h2,b⟩;refine aE (fu ?_);split
 .rename_i older heq;split
  .exact aN (q st' d h1 h2 b)
  .have hz:(pendingOf st').size > 1:=by
    refine Nat.lt_of_not_le λz=>?_;rw[au (by omega)]at heq;cases heq
   have hs:=h1.size;obtain⟨X,ra,n,f,m⟩:=two_last (l:=d) (by omega);rw[f]at h1;rw[show(pendingOf st').size-2=X.length by omega];refine aE (a2n g i h1 λk M k1 k2=>?_);rw[au (by simp)];refine aN ⟨rfl,_,k1,?_,?_⟩
   .rw[<-h2,f];simp[k2]
   .rw[f]at b;simp at b⊢;omega
 .exact aN (q st' d h1 h2 b)
def a2m{Q:ForInStep (qD Unit×Nat)->SortSt->Prop}{r:qA Keyed}(h:RI kf κ a0 st runs (r++rest))(e:r.Pairwise (leK kf))(d:0<n)(c:r.length=n)(a:lo=runs.flatten.length)
  (q:∀st',RI kf κ a0 st' (runs++[r]) rest->Q (.yield (none,lo+n)) st'):wpS (model prog w) A E s (a2U lo n) Q st:=by
 unfold a2U;refine aE (wpS_modify (aN (q _ ⟨h.kind,h.failed,h.perm,?_,λz b=>?_,λz b=>?_,?_⟩)))
 .show(arrOf st).toList=_;rw[h.eq];simp
 .rcases aA.mp b with y|y
  .exact h.sorted z y
  .rw[aB.mp y];exact e
 .rcases aA.mp b with y|y
  .exact h.ne z y
  .rw[aB.mp y,c];exact d
 .show((pendingOf st).push (lo,n,0)).toList.map ent=_;rw[cZ,cu,h.pend,S9,dC,a,<-c];rfl
def map_modify{p:Array (Nat×Nat×Nat)}{a:Nat}:(p.modify i λx=>(x.1,x.2.1,a)).toList.map ent=p.toList.map ent:=by
 rw[Array.toList_modify];refine eH λj=>?_;rw[aV,aV,List.getElem?_modify];cases p.toList[j]? with
 |none=>rfl
 |some x =>
  by_cases e:i=j
  .simp[e]
  .simp[e]
def a7O{sz:Nat}{Q:ForInStep (qD Unit×Nat)->SortSt->Prop}{r:qA Keyed}(e:Cmp prog w A s κ D (ltK kf))(j:AllD D a0)(h:RI kf κ a0 st runs (r++rest))(i:r.Pairwise (leK kf))(g:0<n)(d:r.length=n)(b:lo=runs.flatten.length)
  (q:∀st' a,RI kf κ a0 st' a rest->a.flatten.length=lo+n->a.length<=runs.length+1->Q (.yield (none,lo+n)) st'):wpS (model prog w) A E s (a0Y sz lo n) Q st:=by
 unfold a0Y;refine aE (fu ?_);split
 .refine aE (a5h e j h λst' a k1 k2 k3=>?_);dsimp only;refine aE (wpS_modify ?_);refine a2m (runs:=a) (rest:=rest) ⟨k1.kind,k1.failed,k1.perm,k1.eq,k1.sorted,k1.ne,map_modify.trans k1.pend⟩ i g d (by rw[k2];exact b) λc f=>q c _ f ?_ ?_
  .simp[k2,d,b]
  .simp;omega
 .refine a2m h i g d b λc f=>q c _ f ?_ ?_
  .simp[d,b]
  .simp
end
section
variable {kf:Keyed->O.α}
def b4N{l:qA α}(h:i+1<l.length):∃X a b Y,l=X++a::b::Y/\X.length=i:=by
 refine⟨l.take i,l[i],l[i+1],l.drop (i+1+1),?_,by rw[aU];omega⟩;rw[<-cF (by omega),<-cF (by omega),bp]
def a6m{sz:Nat}{Q:qD Unit×Unit->SortSt->Prop}(j:Cmp prog w A s κ D (ltK kf))(n:AllD D a0)(h:RI kf κ a0 st runs rest)(t:runs.length<=sz)
  (q:∀st' a,RI kf κ a0 st' a rest->a.length<=1->Q (none,()) st'):wpS (model prog w) A E s (a9S sz) Q st:=by
 unfold a9S;refine cv (I:=λx c st'=>c=(none,())/\∃a,RI kf κ a0 st' a rest/\a.length+x<=sz+1) ?step (λc st' ⟨e,g,h1,h2⟩=>by rw[e];exact q st' g h1 (by omega)) ⟨rfl,runs,h,by omega⟩;rintro x c st' _ _ ⟨rfl,g,h1,h2⟩;refine aE (fu ?_);have hs:=h1.size;split
 .exact aN (q st' g h1 (by omega))
 .rename_i hz;have m:∀i,i+1<g.length->wpS (model prog w) A E s ((mergeAt' i>>=λb=>if (!b)=true then pure (ForInStep.done (some (),()))else pure (ForInStep.yield (none,()))):StateT SortSt Sem (ForInStep (qD Unit×Unit))) (λr d=>match r with|ForInStep.done c'=>Q c' d|ForInStep.yield c'=>c'=(none,())/\∃a,RI kf κ a0 d a rest/\a.length+(x+1)<=sz+1) st':=λi hi=>by
   obtain⟨X,ra,u,Y,k,l⟩:=b4N hi;rw[k]at h1 h2;rw[<-l];refine aE (a2n j n h1 λp M k1 k2=>?_);rw[au (by simp)];refine aN ⟨rfl,_,k1,?_⟩;simp at h2⊢;omega
  refine cI (m _ ?_) (λr d o=>by cases r<;>exact o);by_cases f:(pendingOf st').size-2 > 0
  .rw[az f];split<;>omega
  .rw[au f,au (by simp)];omega
def RI.kept(h:RI kf κ a0 st runs rest)(k:Kept runs.flatten.length st st'):RI kf κ a0 st' runs ((arrOf st').toList.drop runs.flatten.length):=by
 refine⟨k.1.trans h.kind,k.2.2.1.trans h.failed,k.2.2.2.1.trans h.perm,?_,h.sorted,h.ne,by rw[k.2.1];exact h.pend⟩;have e:(arrOf st').toList.take runs.flatten.length=runs.flatten:=by
  have a:(arrOf st).toList.take runs.flatten.length=runs.flatten:=by rw[h.eq,List.take_left'];rfl
  rw[<-a];refine eH λi=>?_;rw[aU];by_cases hi:i<runs.flatten.length
  .have hle:runs.flatten.length<=(arrOf st).toList.length:=by rw[h.eq,ax];omega
   rw[dj (by omega),dj hi,av,av];exact k.2.2.2.2 i hi
  .rw[bO (by rw[aU];omega),bO (by rw[aU];omega)]
 rw[<-bp runs.flatten.length (arrOf st').toList,e];congr 1;rw[dr (ao _),fJ,cQ]
def b5c(h:SoO kf qO lo n)(c:lo+n<=qO.size):((qO.toList.drop lo).take n).Pairwise (leK kf):=by
 rw[ff];intro i j hi b a;rw[aU,bI,ay]at hi b;have q:=h i j (cG a) (by omega);unfold leK;have g:∀k,k<n->kx kf qO (lo+k)=kf (qO[lo+k]?.getD (Value.none,Value.none)):=λk _=>by unfold kx;rw[bV]
 rw[g i (by omega),g j (by omega),getElem?_pos qO _ (by omega),getElem?_pos qO _ (by omega)]at q;simp only[fC,fD,Array.getElem_toList];exact q
def a3p:∀{runs:qA (qA Keyed)},(∀r∈runs,0<r.length)->runs.length<=runs.flatten.length
 |[],_=>ao _
 |r::runs,h=>by
  have:=a3p (runs:=runs) λz a=>h z (aq _ a);have:=h r ar;simp only[aT,cY,ax];omega
def a4u{m m':StateT SortSt Sem α}{Q:α->SortSt->Prop}(e:m=m')(h:wpS (model prog w) A E s m' Q st):wpS (model prog w) A E s m Q st:=by rw[e];exact h
def a6i{Q:Unit->SortSt->Prop}(f:Cmp prog w A s κ D (ltK kf))(P:kindOf st=κ)(y:AllD D (arrOf st))(hp:pendingOf st=#[])(O:failedOf st=none)
  (q:∀st':SortSt,(arrOf st').Perm (arrOf st)->failedOf st'=none->(arrOf st').toList.Pairwise (leK kf)->Q () st'):wpS (model prog w) A E s sortRuns' Q st:=by
 rw[sortRuns'_eq];refine aE (fu ?_);dsimp only;generalize F:(arrOf st).size=sz;have N:RI kf κ (arrOf st) st [] (arrOf st).toList:=⟨P,O,.refl _,rfl,(λ_ z=>nomatch z),(λ_ z=>nomatch z),by rw[hp];rfl⟩;have J:∀{st':SortSt}{runs:qA (qA Keyed)}{rest:qA Keyed},RI kf κ (arrOf st) st' runs rest->(arrOf st').size=sz:=λh=>by rw[h.perm.size_eq];exact F
 have L:∀{st':SortSt}{runs:qA (qA Keyed)}{rest:qA Keyed},RI kf κ (arrOf st) st' runs rest->runs.flatten.length+rest.length=sz:=λh=>by
  have:=aR List.length h.eq;rw[ay,J h,ax]at this;omega
 refine aE (cI (cv (I:=λx c st'=>c.1=none/\∃runs rest,RI kf κ (arrOf st) st' runs rest/\c.2=runs.flatten.length/\x<=c.2)
  (Q:=λc st'=>c.1=none/\∃runs,RI kf κ (arrOf st) st' runs []/\runs.length<=sz) ?step ?fin ⟨rfl,[],_,N,rfl,ao _⟩) ?post)
 case fin =>
  rintro c st' ⟨k,runs,rest,h1,h2,K⟩;have:=L h1;have l:rest=[]:=eE (by omega);subst l;exact⟨k,runs,h1,by have:=a3p h1.ne;omega⟩
 case step =>
  rintro x c st' _ X ⟨k,runs,rest,h1,h2,K⟩;obtain⟨M,lo⟩:=c;dsimp only at k h2 K⊢;subst k;have R:=L h1;have H:=J h1;by_cases t:lo ≥ sz
  .rw[az t];have l:rest=[]:=eE (by omega);subst l;exact aN ⟨rfl,runs,h1,by have:=a3p h1.ne;omega⟩
  .rw[au t];have p:=y.perm h1.perm;have add:∀(n:Nat) (d:SortSt),Kept lo st' d->0<n->lo+n<=sz->SoO kf (arrOf d) lo n->wpS (model prog w) A E s (a0Y sz lo n) (λr e=>match r with|ForInStep.done c'=>c'.1=none/\∃runs,RI kf κ (arrOf st) e runs []/\runs.length<=sz|ForInStep.yield c'=>c'.1=none/\∃runs rest,RI kf κ (arrOf st) e runs rest/\c'.2=runs.flatten.length/\x+1<=c'.2) d:=λn d j C U i=>by
    rw[h2]at j;have hR:=h1.kept j;rw[<-h2]at hR;have G:=J hR;rw[<-bp n ((arrOf d).toList.drop lo)]at hR;refine a7O f y hR (b5c i (by omega)) C (by rw[aU,bI,ay];omega) h2 λv W k1 k2 k3=>⟨rfl,W,_,k1,k2.symm,by show x+1<=lo+n;omega⟩
   refine aE (a7M f h1.kind p (by omega) (by omega) λm d j S T i=>?_);dsimp only;split
   .refine aE (U6 ?_);have G:(arrOf d).size=sz:=by rw[j.2.2.2.1.size_eq];exact H
    refine aE (b2j f (j.1.trans h1.kind) (p.perm j.2.2.2.1) (by omega) (by omega) i λv B u=>?_);rw[au (by simp)];refine a4u (m':=a0Y sz lo (min (sz-lo) (minRun' sz sz 0))) (by
     unfold a0Y;refine aR _ (funext λg=>?_);rcases(pendingOf g).back? with _|⟨s1,n1,z⟩
     .rfl
     .dsimp only;refine congr (aR _ ?_) (funext λc=>?_)
      .unfold a0g;refine aR _ (funext λ_=>funext λ_=>aR _ (funext λg=>?_));generalize (if (pendingOf g).size > 1 then(pendingOf g)[(pendingOf g).size-2]? else none)=o;rcases o with _|⟨a,b,o⟩<;>rfl
      .rcases c with⟨_|q,c⟩<;>rfl) (cI (add _ v (j.trans B) (by omega) (by omega) u) λr e l=>by cases r<;>exact l)
   .refine a4u (m':=a0Y sz lo m) (by
     unfold a0Y;refine aR _ (funext λg=>?_);rcases(pendingOf g).back? with _|⟨s1,n1,z⟩
     .rfl
     .dsimp only;refine congr (aR _ ?_) (funext λc=>?_)
      .unfold a0g;refine aR _ (funext λ_=>funext λ_=>aR _ (funext λg=>?_));generalize (if (pendingOf g).size > 1 then(pendingOf g)[(pendingOf g).size-2]? else none)=o;rcases o with _|⟨a,b,o⟩<;>rfl
      .rcases c with⟨_|q,c⟩<;>rfl) (cI (add _ d j (by omega) (by omega) i) λr e l=>by cases r<;>exact l)
 case post =>
  rintro c st' ⟨k,runs,h1,h2⟩;obtain⟨M,lo⟩:=c;dsimp only at k;subst k;dsimp only;refine aE (a6m (sz:=sz) f y h1 h2 λd V k1 k2=>?_);dsimp only;refine aN (q d k1.perm k1.failed ?_);rw[k1.eq,di]
  match V,k2,k1.sorted with
  |[],_,_=>exact .nil
  |[r],_,hs=>simpa using hs r (by simp)
  |_::_::_,k2,_=>simp at k2
end
def J2(h:Heap)(v:qB):qI:=match v with
 |.ref b=>match h.get? b with
  |some o=>match o.data with
   |.seq xs _=>xs.toList.map numOf
   |_=>[]
  |none=>[]
 |_=>[]
def D8{b:qE}{its:Array qB}{r:qI}(t:IsTup h b its)(i:IntsAre its.toList r):J2 h (.ref b)=r:=by
 obtain⟨o,h1,h2,n,a⟩:=t;unfold J2;simp only[h1,a];exact i.nums
def O4{β:Type}{f:α->β}{os i:qA β}(h:os.Perm i):∀{T:qA α},i=T.map f->∃c:qA α,c.Perm T/\c.map f=os:=by
 induction h with
 |nil=>intro T e;cases T with|nil=>exact⟨[],.nil,rfl⟩|cons _ _=>cases e
 |cons x _ m =>
  intro T e;cases T with
  |nil=>cases e
  |cons t T =>
   injection e with e1 e2
   obtain⟨c,h1,h2⟩:=m e2;exact⟨t::c,h1.cons t,by rw[aW,h2,e1]⟩
 |swap x y l =>
  intro T e
  match T,e with
  |a::b::T,e =>
   injection e with e1 e2
   injection e2 with e2 e3
   exact⟨b::a::T,.swap a b T,by rw[aW,aW,e1,e2,e3]⟩
 |trans _ _ d g =>
  intro T e;obtain⟨c,h1,h2⟩:=g e;obtain⟨T2,j,k⟩:=d h2.symm;exact⟨T2,j.trans h1,k⟩
def kfH(h:Heap):Keyed->OL.α:=λx=>(J2 h x.1:qI)
def DH(h:Heap)(x:Keyed):Prop:=∃b its r,x.1=Value.ref b/\IsTup h b its/\IntsAre its.toList r
def c0W:Cmp prog w A s (tuples' true) (DH s.heap) (ltK (kfH s.heap)):=by
 rintro⟨x,B⟩ ⟨y,D⟩ C ⟨b,its,r,h,j,d⟩ ⟨b',a,u,i,k,e⟩ c;dsimp only at h i;subst h i;have c:C (HT.lexLt (J2 s.heap (.ref b)) (J2 s.heap (.ref b'))) s:=c;rw[D8 j d,D8 k e]at c;obtain⟨o,p,z,n,t⟩:=j;obtain⟨o',f,q,v,g⟩:=k;refine kat_lt p t f g (a2u 0 d e ?_);have l:its.size=r.length:=by rw[<-ay];exact d.length
 have m:a.size=u.length:=by rw[<-ay];exact e.length
 rw[l,m,a7d];exact c
def a0L{a:qE}{P:Fin->qC->Prop}(m:s.heap.get? a=some (seqObj "list" vs.toArray n))(T:TupsAre s.heap vs rss)(hw:∀r∈rss,0<r.length)(hz:vs.length<=sizeLine)
  (h:∀os:qA qB,os.Perm vs->os.Pairwise (λx y=>HT.lexLt (J2 s.heap y) (J2 s.heap x)=false)->P (.done (.ret .none)) {s with heap:=sortedHeap s.heap a vs os.toArray}) :
  wpAny (model prog w) A (Builtin.«list.sort» ⟨[.ref a],[]⟩) P E s:=by
 rw[list_sort_plain];have O:a<s.heap.objs.size:=aI m;refine aa (listItems_at m rfl ?_);refine aa (listUpdate_at m rfl ?_ (by rw[aC];omega) (bq _));obtain⟨H,p⟩:∃H,(s.heap.update a (Obj.mapSeq λ_=>#[])).get? a=some (seqObj "list" #[] H):=⟨_,get?_update_seq m (λ_=>#[])⟩;refine aa (seqEpoch_at p rfl ?_);refine aa (wpAny_newTuple ?_ (by show vs.length<=_;omega));refine aa (wpAny_newList ?_ (bq _));refine bY ?_;have d:(((s.heap.update a (Obj.mapSeq λ_=>#[])).push (seqObj "tuple" vs.toArray 0)).push (seqObj "list" #[] 0)).get? a=some (seqObj "list" #[] H):=by
  rw[Heap.get?_push_ne _ _ _ (by rw[size_push',Heap.size_update];exact aQ (cg O)),Heap.get?_push_ne _ _ _ (by rw[Heap.size_update];exact aQ O)];exact p
 have g:∀b its,IsTup s.heap b its->IsTup (((s.heap.update a (Obj.mapSeq λ_=>#[])).push (seqObj "tuple" vs.toArray 0)).push (seqObj "list" #[] 0)) b its:=λb its ⟨o,B,l,N⟩=>by
  have U:b≠a:=λz=>by
   rw[z,m]at B;cases B;have l:Value.type "list"=Value.type "tuple":=l;injection l with l
   exact absurd l (by decide)
  refine⟨o,?_,l,N⟩;exact ag _ (ag _ (by rw[Heap.get?_update_ne _ _ _ _ U];exact B))
 have G:=T.keeps g;show wpAny (model prog w) A _ P E {s with heap:=((s.heap.update a (Obj.mapSeq λ_=>#[])).push (seqObj "tuple" vs.toArray 0)).push (seqObj "list" #[] 0)};have c:∀v∈vs,J2 (((s.heap.update a (Obj.mapSeq λ_=>#[])).push (seqObj "tuple" vs.toArray 0)).push (seqObj "list" #[] 0)) v=J2 s.heap v:=λv X=>by
  obtain⟨i,hi⟩:=ck.mp X;obtain⟨r,b,its,_,I,C,F⟩:=T.2 i v hi;rw[I,D8 C F,D8 (g b its C) F]
 generalize K:((s.heap.update a (Obj.mapSeq λ_=>#[])).push (seqObj "tuple" vs.toArray 0)).push (seqObj "list" #[] 0)=k at d G c;dsimp only;have fin:∀os:qA qB,os.Perm vs->os.Pairwise (λx y=>HT.lexLt (J2 s.heap y) (J2 s.heap x)=false)->P (.done (.ret .none)) {s with heap:=k.update a (Obj.mapSeq λ_=>os.toArray)}:=λos h1 h2=>by
  have:=h os h1 h2;unfold sortedHeap at this;rw[K]at this;exact this
 by_cases h2:vs.toArray.size<2
 .have h2':vs.length<2:=by simpa using h2
  rw[az h2,az h2];refine aa (ae ?_);rw[StateT.run_pure];refine aa (ae ?_);dsimp only;refine aa (seqEpoch_at d rfl ?_);refine aa (listUpdate_at d rfl ?_ (bq _) (by rw[Array.size_map];show(pairsOf vs).size<=_;rw[pairsOf_size];omega));simp only[bne_self_eq_false,Bool.false_eq_true,if_false];have e:((vs.toArray.zip vs.toArray).map (·.2))=vs.toArray:=by
   apply Array.toList_inj.mp;simp[List.map_snd_zip]
  show wpAny _ _ _ _ _ {s with heap:=k.update a (Obj.mapSeq λ_=>(vs.toArray.zip vs.toArray).map (·.2))};rw[e];refine ae (fin vs (.refl _) ?_);rw[ff];intro i j hi Z V;omega
 .have h2':2<=vs.length:=by
   have:¬vs.length<2:=by simpa using h2
   omega
  rw[au h2,au h2];refine aa (b0F G hw (by omega) ?_);have J:AllD (DH k) (vs.toArray.zip vs.toArray):=λx u=>by
   have L:x∈vs.zip vs:=by simpa using u
   obtain⟨_,W⟩:=mem_zip_self L;obtain⟨i,hi⟩:=ck.mp W;obtain⟨r,b,its,_,I,C,F⟩:=G.2 i _ hi;exact⟨b,its,r,I,C,F⟩
  refine aa (cX (a6i (s:={s with heap:=k}) (st:=SortSt.mk' (tuples' true) (vs.toArray.zip vs.toArray) #[] 7 none) (kf:=kfH k) (D:=DH k) (c0W (s:={s with heap:=k})) rfl J rfl rfl
   (Q:=λ_ st'=>(arrOf st').Perm (vs.toArray.zip vs.toArray)/\failedOf st'=none/\(arrOf st').toList.Pairwise (leK (kfH k))) λst' B l N=>⟨B,l,N⟩) ?_ λ_ _ e=>e)
  rintro⟨⟨⟩,st'⟩ s' ⟨rfl,S,R,hs⟩;dsimp only at S R hs⊢;have t:(arrOf st').toList.Perm (vs.zip vs):=by
   have:=dM.mp S;simpa using this
  have q:((arrOf st').toList.map (·.2)).Perm vs:=by
   have:=t.map Prod.snd;rwa[List.map_snd_zip (ao _)]at this
  have f:∀x∈(arrOf st').toList,x.1=x.2/\x.1∈vs:=λx u=>mem_zip_self (t.mem_iff.mp u);have e:(arrOf st').map (·.2)=((arrOf st').toList.map (·.2)).toArray:=by
   apply Array.toList_inj.mp;simp
  refine aa (seqEpoch_at d rfl ?_);rw[e];refine aa (listUpdate_at d rfl ?_ (bq _) (by rw[aC,q.length_eq];omega));rw[R];simp only[bne_self_eq_false,Bool.false_eq_true,if_false];refine ae (fin _ q ?_);rw[cx];refine hs.imp_of_mem λ{x y} u Y M=>?_;have h1:=f x u;have h2:=f y Y;rw[<-h1.1,<-h2.1,<-c _ h1.2,<-c _ h2.2];exact M
def a2I{x:qB}{Q:qH}(g:∀(q:Around) (t:qH) (l:qA qB->qC->Prop),(∀h1:Heap,(∀b o,s.heap.get? b=some o->h1.get? b=some o)->l vs {s with heap:=h1})->wpAny (model prog w) q (collect x) l t s)
  (T:TupsAre s.heap vs rss) (hw:∀r∈rss,0<r.length) (F:vs.length<=sizeLine)
  (h:∀(h1 h':Heap) (os:qA qB) (c:Nat),(∀b o,s.heap.get? b=some o->h1.get? b=some o)->(∀b o,h1.get? b=some o->h'.get? b=some o)->h'.get? h1.objs.size=some (seqObj "list" os.toArray c)->os.Perm vs->os.Pairwise (λx y=>HT.lexLt (J2 s.heap y) (J2 s.heap x)=false)->Q (.ref h1.objs.size) {s with heap:=h'}) :
  wpAny (model prog w) A (call (.builtin "sorted") [x]) Q E s:=by
 refine fg kind_sorted plain_sorted entry_sorted (args_sorted1 _) ?_;unfold Builtin.«sorted»;refine aa (m:=checkCount "sorted" 1 1 _) (ae ?_);refine aa (g _ _ _ λh1 k1=>?_);refine aa (wpAny_newList ?_ (by omega));have f:(h1.push (seqObj "list" vs.toArray 0)).get? h1.objs.size=some (seqObj "list" vs.toArray 0):=aF _ rfl;have a:∀b its,IsTup s.heap b its->IsTup (h1.push (seqObj "list" vs.toArray 0)) b its:=λb its ⟨o,G,H⟩=>⟨o,ag _ (k1 _ _ G),H⟩;have T2:=T.keeps a;have d:∀v∈vs,J2 (h1.push (seqObj "list" vs.toArray 0)) v=J2 s.heap v:=λv B=>by
  obtain⟨i,hi⟩:=ck.mp B;obtain⟨r,b,its,_,u,n,p⟩:=T.2 i v hi;rw[u,D8 n p,D8 (a b its n) p]
 show wpAny _ _ _ _ _ {s with heap:=h1.push (seqObj "list" vs.toArray 0)};refine aa (bY (bF slot_list_sort ⟨_,f,rfl⟩ entry_list_sort (a0L (s:={s with heap:=h1.push (seqObj "list" vs.toArray 0)}) f T2 hw F λos j hs=>⟨_,rfl,?_⟩) (args_list_sort _)));obtain⟨c,z⟩:=a0J (out:=os.toArray) f;refine ae ⟨_,rfl,h h1 _ os c k1 (λb o e=>?_) z j (hs.imp_of_mem λ{x y} C D k=>?_)⟩
 .exact Y7 b o (aQ (aI e)) (ag _ e)
 .rw[<-d _ (j.mem_iff.mp C),<-d _ (j.mem_iff.mp D)];exact k
def b2Z(K:qF):RL:=λxs H Q=>∃(p:qE) (ys:qA V) (rss:LLI),xs=[.ref p]/\(SqL K H p ys∨SqT K H p ys)/\Its H ys rss/\(∀r∈rss,0<r.length) /\
 ∀l zs tss,H l=none->Its H zs tss->tss.Perm rss->C8 tss->zs.Perm ys->Q (.ref l) (upd H l (.lst zs))
def a0p:∀{ys:qA V}{us:qA qB}{rss:LLI},Vals ys us->ys.length=rss.length->∃T:qA (qB×V×qI),T.map (·.1)=us/\T.map (·.2.1)=ys/\T.map (·.2.2)=rss/\∀(i:Nat) t,T[i]?=some t->RelV t.2.1 t.1/\ys[i]?=some t.2.1/\rss[i]?=some t.2.2
 |[],us,rss,r,e=>by
  cases r;cases rss with
  |nil=>exact⟨[],rfl,rfl,rfl,λi t h=>by simp at h⟩
  |cons _ _=>cases e
 |y::ys,us,rss,r,e=>by
  cases r with
  |cons h hs =>
   cases rss with
   |nil=>cases e
   |cons r rss =>
    obtain⟨T,b,c,d,f⟩:=a0p hs (by simpa using e);refine⟨(_,y,r)::T,by rw[aW,b],by rw[aW,c],by rw[aW,d],λi t a=>?_⟩;cases i with
    |zero=>cases a;exact⟨h,rfl,rfl⟩
    |succ i=>exact f i t a
def Q9:∀{T:qA (qB×V×qI)},(∀t∈T,RelV t.2.1 t.1)->Vals (T.map (·.2.1)) (T.map (·.1))
 |[],_=>.nil
 |t::T,h=>.cons (h t ar) (Q9 λu a=>h u (aq _ a))
def a8P(K:qF)(hK:X.K=K:=by rfl):E2 X (.builtin "sorted") (b2Z K):=by
 subst hK;intro qK s σ H xs us Q I rv h;obtain⟨p,ys,rss,rfl,r,hI,hw,q⟩:=h;obtain⟨u,rfl,ru⟩:=rv.one;cases ru;obtain⟨its,N,z,l⟩:∃its:qA qB,Vals ys its/\ys.length<=sizeLine/\∀(D:Around) (E:qH) (B:qA qB->qC->Prop),(∀h1:Heap,(∀b o,s.heap.get? b=some o->h1.get? b=some o)->B its {s with heap:=h1})->wpAny (model X.prog X.w) D (collect (.ref p)) B E s:=by
  rcases r with r|r
  .obtain⟨its,g,pl,z⟩:=I.list r;obtain⟨o,J,G,n,hd⟩:=pl.isList;have m:=g.length;exact⟨its,g,z,λD E B k=>wpAny_collect_seq p (.inl rfl) J G hd (λh' M=>k h' M) (by simp only[aC];omega)⟩
  .obtain⟨its,g,pl,z⟩:=I.tuple r;obtain⟨o,J,G,n,hd⟩:=pl;have m:=g.length;exact⟨its,g,z,λD E B k=>wpAny_collect_seq p (.inr rfl) J G hd (λh' M=>k h' M) (by simp only[aC];omega)⟩
 have hl:=N.length;have TT:=a3P I hI N;obtain⟨T,U,t2,t3,t4⟩:=a0p N hI.1;refine a2I l TT hw (by omega) λh1 h' os c k1 k2 e hp hs=>?_;obtain⟨d,p1,p2⟩:=O4 (f:=λt:qB×V×qI=>t.1) hp U.symm;have O:=I.kept (t':=s.toks) k1;have C:∀t∈d,RelV t.2.1 t.1/\IT H t.2.1 t.2.2/\J2 s.heap t.1=t.2.2:=λt L=>by
  obtain⟨i,hi⟩:=ck.mp (p1.mem_iff.mp L);obtain⟨r1,r2,S⟩:=t4 i t hi;obtain⟨row,R,q2⟩:=hI.2 i _ r2;rw[S]at R;cases R;have Y:its[i]?=some t.1:=by rw[<-U,aV,hi];rfl
  obtain⟨g,b,P,f1,f2,Z,f4⟩:=TT.2 i _ Y;rw[S]at f1;cases f1;exact⟨r1,q2,by rw[f2];exact D8 Z f4⟩
 have A:(d.map (·.2.1)).Perm ys:=by rw[<-t2];exact p1.map _
 have hv:Vals (d.map (·.2.1)) os:=by rw[<-p2];exact Q9 λt L=>(C t L).1
 have W:=O.laid (h':=h') (a:=h1.objs.size) (o:=.lst (d.map (·.2.1))) (t':=s.toks) k2 (ao _) ⟨by rw[A.length_eq];exact z,os,c,hv,e⟩;refine⟨.ref h1.objs.size,_,W,rfl,q _ _ (d.map (·.2.2)) (O.hok.fresh (ao _)) ⟨by rw[aj,aj],λi v j=>?_⟩ (by rw[<-t3];exact p1.map _) ?_ A⟩
 .rw[aV]at j⊢;cases F:d[i]? with
  |none=>rw[F]at j;cases j
  |some t =>
   rw[F]at j;cases j;exact⟨t.2.2,rfl,(C t (aH F)).2.1⟩
 .unfold C8;rw[cx];rw[<-p2,cx]at hs;refine hs.imp_of_mem λ{x y} hx hy w=>?_;rw[(C x hx).2.2,(C y hy).2.2]at w;exact w
def a7o(K:qF){e:Expr}{t:TA}{p pos:Pos}(f:Gl X "sorted")(g:X.mg "sorted"=none)(c:JA X [e] t)(b:X.K=K:=by rfl)(d:starEach [e] X.env=(false,eval e X.env)::starEach [] X.env:=by rfl)(a:(backTo pos (starEach [] X.env)).any (·.1)=false:=by rfl):JE X (.Call (.Name "sorted" p) [e] [] pos) (tCB (b2Z K) t):=⟨J4 (a8P K b) f g a2i c.h (by decide) (by decide) d a⟩
def DRaw(h:Heap)(d:qE)(es:Array DictEntry)(ep:Nat):Prop:=∃ob:Obj,h.get? d=some ob/\ob.ExactDict/\ob.data=.dict es ep
def DRaw.typ(x:DRaw s.heap d es ep):s.TypeIs (.ref d) "dict":=by
 obtain⟨c,a,b,_⟩:=x;exact⟨c,a,b.1⟩
def DRaw.lt(x:DRaw h d es ep):d<h.objs.size:=by
 obtain⟨b,a,_⟩:=x;exact aI a
def DRaw.to{h':Heap}(x:DRaw h d es ep)(k:∀a,h.get? d=some a->h'.get? d=some a):DRaw h' d es ep:=by
 obtain⟨a,b,q⟩:=x;exact⟨a,k _ b,q⟩
section
variable {it:qE}
def a6L{Q:qH}(hs:(d==sysModules)=false)(D:DRaw s.heap d es ep)
  (q:Q (.ref s.heap.objs.size) {s with heap:=s.heap.push {cls:=.type "dict_keyiterator",data:=.fields #[.ref d,.int 0 0,.int es.size 0,.int ep 0]}}):wpAny (model prog w) A (pyIter (.ref d)) Q E s:=by
 have ty:=D.typ;obtain⟨c,a,_,b⟩:=D;refine wpAny_pyIter_slot ty PySem.F.slot_dict_iter (bF PySem.F.slot_dict_iter ty PySem.F.entry_dict_iter ?body (PySem.F.args_dict_iter_1 _))
 case body =>
  unfold Builtin.«dict.__iter__» Builtin.Dict.dictSlotNone;refine aa (aa (fN ty (ae ?_)));show wpAny _ _ (Builtin.Dict.showsAll d>>=λ_=>_) _ _ _;unfold Builtin.Dict.showsAll;rw[au (λz=>by rw[hs]at z;cases z)];refine aa (ae (aa (eI a b (aa (wpAny_dictEpoch a b ?_)))));refine aa (bz (ae ⟨_,rfl,"dict_keyiterator",_,⟨_,aF _ rfl,rfl⟩,PySem.F.slot_dict_keyiterator_next.lookup,?_⟩));exact q
def a6M{Q:qD qB->qC->Prop}(I:s.heap.IsKeyIter it d i es.size ep)(D:DRaw s.heap d es ep)(hi:i<es.size)
  (q:∀h',h'.IsKeyIter it d (i+1) es.size ep->Heap.SameBut it s.heap h'->Q (some es[i].key) {s with heap:=h'}):wpAny (model prog w) A (pyNext (.ref it)) Q E s:=by
 obtain⟨h,f1,f2,a⟩:=id I;obtain⟨od,e,g,f⟩:=D;unfold pyNext;refine aa (dq (bA (name:=Str.ofString "__next__") I.typeIs PySem.F.slot_dict_keyiterator_next (bF PySem.F.slot_dict_keyiterator_next I.typeIs PySem.F.entry_dict_keyiterator_next ?body (PySem.F.args_dict_keyiterator_next_1 _))))
 case body =>
  refine aa (ae (aa (aa ?_)))
  first|refine aa (dt I.typeIs (ae ?_))|refine aa (dW I.typeIs (ae ?_))
  refine aa (wpAny_fieldsOf f1 a ?_);rw[show Builtin.Dict_items.ownsTuple "dict_keyiterator"=false by decide,au aY];show wpAny _ _ (if (Value.ref d==Value.none)=true then _ else _) _ _ _;have b:¬((Value.ref d==Value.none)=true):=aY;rw[au b];refine aa (ae (aa (eI e f ?_)));rw[au (by simp)];refine aa (ae (aa (wpAny_dictEpoch e f ?_)));rw[au (by simp)];refine ae ?_;dsimp only;rw[show(if (i:Int)<0 then(none:qD DictEntry)else es[(i:Int).toNat]?)=some es[i] by rw[au (by omega),bf,bG hi]];dsimp only;refine aa ?_
  first|refine aa (dt I.typeIs (ae ?_))|refine aa (dW I.typeIs (ae ?_))
  refine aa (wpAny_isOneOf_keyiter I.typeIs ?_);show wpAny _ _ (setField (.ref it) 1 (rawInt ((i:Int)+1))>>=λ_=>_) _ _ _;have c:(s.heap.update it (Obj.mapFields λz=>z.setIfInBounds 1 (rawInt ((i:Int)+1)))).IsKeyIter it d (i+1) es.size ep :=
   ⟨_,cH _ f1 (eM (cS a _)),(fB ..).trans f2,by rw[cS a];simp[rawInt]⟩
  refine aa (dS f1 a (by simp) (aa (bY ?_)));refine aa (wpAny_isOneOf_keyiter (s:={s with heap:=s.heap.update it (Obj.mapFields λz=>z.setIfInBounds 1 (rawInt ((i:Int)+1)))}) c.typeIs ?_);exact ae (ae ⟨_,rfl,ae (q _ c (bZ ..))⟩)
def a9A{Q:qD qB->qC->Prop}(h:A.handled=none)(I:s.heap.IsKeyIter it d i es.size ep)(D:DRaw s.heap d es ep)(hi:es.size<=i)
  (q:∀h',Heap.ExtBut it s.heap h'->Q none {s with heap:=h'}):wpAny (model prog w) A (pyNext (.ref it)) Q E s:=by
 obtain⟨k,f1,f2,g⟩:=id I;obtain⟨od,e,j,f⟩:=D;unfold pyNext;refine aa (dq (bA (name:=Str.ofString "__next__") I.typeIs PySem.F.slot_dict_keyiterator_next (bF PySem.F.slot_dict_keyiterator_next I.typeIs PySem.F.entry_dict_keyiterator_next ?body (PySem.F.args_dict_keyiterator_next_1 _))))
 case body =>
  refine aa (ae (aa (aa ?_)))
  first|refine aa (dt I.typeIs (ae ?_))|refine aa (dW I.typeIs (ae ?_))
  refine aa (wpAny_fieldsOf f1 g ?_);rw[show Builtin.Dict_items.ownsTuple "dict_keyiterator"=false by decide,au aY];show wpAny _ _ (if (Value.ref d==Value.none)=true then _ else _) _ _ _;have c:¬((Value.ref d==Value.none)=true):=aY;rw[au c];refine aa (ae (aa (eI e f ?_)));rw[au (by simp)];refine aa (ae (aa (wpAny_dictEpoch e f ?_)));rw[au (by simp)];refine ae ?_;dsimp only;rw[show(if (i:Int)<0 then(none:qD DictEntry)else es[(i:Int).toNat]?)=none by rw[au (by omega),bf,de hi]];dsimp only;refine aa ?_
  first|refine aa (dt I.typeIs (ae ?_))|refine aa (dW I.typeIs (ae ?_))
  show wpAny _ _ (setField (.ref it) 0 .none>>=λ_=>_) _ _ _;refine aa (dS f1 g (by simp) ?_);show wpAny _ _ (newExc (.type "StopIteration") []>>=λ_=>_) _ _ _;refine aa ?_;simp only[newExc,newTuple];refine aa (bz ?_ (by size_fits));refine aa (m:=firstArgMember _ _) (wpAny_of_eq (a:=Value.none) (by first|rfl | (simp only[firstArgMember];rfl)) ?_);refine bz ?_ (by size_fits);simp only[raiseNew];refine aa (wpAny_handled ?_);rw[show A.in1.handled=none from h];refine aa (ae (wpAny_throw ?_));refine aa (eT (T:="StopIteration") (b:=true) ⟨_,aF _ rfl,rfl⟩ isSubtype_stop ?_);exact ae (q _ (((bZ ..).extBut.push _).push _))
def b0T(m:A.handled=none)(J d:qE)(f:d≠J)(es:Array DictEntry)(ep:Nat) :
  Walks prog w A J [J,d] [J] es.size (λi v=>∃e,es[i]?=some e/\v=e.key) (λi h=>h.IsKeyIter J d i es.size ep/\DRaw h d es ep) where
 sub:=λb c=>by rw[aB.mp c];exact ar
 frame:=λi h h' st g=>⟨st.1.at λo e=>g J ar o e,st.2.to λo e=>g d (aq _ ar) o e⟩
 item:=λi s Q E hi st a=>a6M st.1 st.2 hi λh' k j=>a _ h' s.toks ⟨es[i],by simp[hi],rfl⟩ ⟨k,st.2.to λo e=>j.extBut d o f e⟩ λb o c e=>j.extBut b o (λz=>c (by rw[z];exact ar)) e
 done:=λs Q E st a=>a9A m st.1 st.2 (ao _) λh' l=>a h' s.toks λb o c e=>l b o (λz=>c (by rw[z];exact ar)) e
 self:=λ_ _ _ _ st a=>wpAny_pyIter_keyiter st.1 a
def a9z(hs:(d==sysModules)=false)(es:Array DictEntry)(ep:Nat):KdlSrc prog w "dict" d d es.size (λi v=>∃e,es[i]?=some e/\v=e.key) (λh=>DRaw h d es ep) where
 type:=λ_ D=>D.typ
 there:=λ_ D=>⟨D.lt,D.lt⟩
 keep:=λ_ _ D b=>D.to λo e=>b d (.inl rfl) o e
 notList:=by decide
 notTuple:=by decide
 hint:=λ_ _ _ _ D q=>kdl_hint_dict D.typ q
 iter:=λ_ _ a D=>⟨_,_,λ_ _ q=>a6L hs D q,b0T a _ d (aQ D.lt) es ep,⟨⟨_,aF _ rfl,rfl,rfl⟩,D.to λo e=>ag _ e⟩⟩
end
def Z1{x:qB}{Q:qH}(g:∀(q:qH) (l:qA qB->qC->Prop),(∀(h1:Heap) (tk:Nat),(∀b o,s.heap.get? b=some o->h1.get? b=some o)->l vs {s with heap:=h1,toks:=tk})->wpAny (model prog w) A.in1 (collect x) l q s)
  (T:TupsAre s.heap vs rss) (hw:∀r∈rss,0<r.length) (D:vs.length<=sizeLine)
  (h:∀(h1 h':Heap) (os:qA qB) (c tk:Nat),(∀b o,s.heap.get? b=some o->h1.get? b=some o)->(∀b o,h1.get? b=some o->h'.get? b=some o)->h'.get? h1.objs.size=some (seqObj "list" os.toArray c)->os.Perm vs->os.Pairwise (λx y=>HT.lexLt (J2 s.heap y) (J2 s.heap x)=false)->Q (.ref h1.objs.size) {s with heap:=h',toks:=tk}) :
  wpAny (model prog w) A (call (.builtin "sorted") [x]) Q E s:=by
 refine fg kind_sorted plain_sorted entry_sorted (args_sorted1 _) ?_;unfold Builtin.«sorted»;refine aa (m:=checkCount "sorted" 1 1 _) (ae ?_);refine aa (g _ _ λh1 tk k1=>?_);refine aa (wpAny_newList ?_ (by omega));have f:(h1.push (seqObj "list" vs.toArray 0)).get? h1.objs.size=some (seqObj "list" vs.toArray 0):=aF _ rfl;have a:∀b its,IsTup s.heap b its->IsTup (h1.push (seqObj "list" vs.toArray 0)) b its:=λb its ⟨o,F,G⟩=>⟨o,ag _ (k1 _ _ F),G⟩;have T2:=T.keeps a;have d:∀v∈vs,J2 (h1.push (seqObj "list" vs.toArray 0)) v=J2 s.heap v:=λv z=>by
  obtain⟨i,hi⟩:=ck.mp z;obtain⟨r,b,its,_,t,n,p⟩:=T.2 i v hi;rw[t,D8 n p,D8 (a b its n) p]
 show wpAny _ _ _ _ _ {s with heap:=h1.push (seqObj "list" vs.toArray 0),toks:=tk};refine aa (bY (bF slot_list_sort ⟨_,f,rfl⟩ entry_list_sort (a0L (s:={s with heap:=h1.push (seqObj "list" vs.toArray 0),toks:=tk}) f T2 hw D λos j hs=>⟨_,rfl,?_⟩) (args_list_sort _)));obtain⟨c,u⟩:=a0J (out:=os.toArray) f;refine ae ⟨_,rfl,h h1 _ os c tk k1 (λb o e=>?_) u j (hs.imp_of_mem λ{x y} B C k=>?_)⟩
 .exact Y7 b o (aQ (aI e)) (ag _ e)
 .rw[<-d _ (j.mem_iff.mp B),<-d _ (j.mem_iff.mp C)];exact k
def IK(rss:LLI):qA (qA Key):=rss.map λr=>r.map Sum.inl
def a8n:RL:=λxs H Q=>∃(d:qE) (qL:qA (qA Key×V)) (rss:LLI),xs=[.ref d]/\H d=some (.dT qL)/\qL.map (·.1)=IK rss/\(∀r∈rss,0<r.length) /\
 ∀l zs tss,H l=none->Its H zs tss->tss.Perm rss->C8 tss->Q (.ref l) (upd H l (.lst zs))
def a9O{H:Hp}:∀{qL:qA (qA Key×V)}{xs:qA (qA Key×qE×qB)}{rss:LLI},KT H qL xs->qL.map (·.1)=IK rss->Its H (xs.map λx=>V.ref x.2.1) rss/\xs.length=rss.length:=by
 intro qL xs rss r e;induction r generalizing rss with
 |nil =>
  cases rss with
  |nil=>exact⟨⟨rfl,λi v z=>by simp at z⟩,rfl⟩
  |cons _ _=>cases e
 |@cons p q ps qs h _ d =>
  cases rss with
  |nil=>cases e
  |cons r rss =>
   injection e with a e2
   obtain⟨h1,h2⟩:=d e2;refine⟨⟨by rw[aj,aT,aT,h2],λi v c=>?_⟩,by rw[aT,aT,h2]⟩;cases i with
   |zero =>
    cases c;refine⟨r,rfl,q.2.1,rfl,?_⟩;have b:=h.2.1;have a:p.1=r.map Sum.inl:=a;rw[a,cD]at b;exact b
   |succ i=>exact h1.2 i v c
def a0q{α:Type}(f:α->qE):∀xs:qA α,Vals (xs.map λx=>V.ref (f x)) (xs.map λx=>Value.ref (f x))
 |[]=>.nil
 |x::xs=>.cons rfl (a0q f xs)
def a8O(hc:X.calm=true):E2 X (.builtin "sorted") a8n:=by
 intro qK s σ H xs us Q I rv h;obtain⟨d,qL,rss,rfl,hd,hk,hw,q⟩:=h;obtain⟨u,rfl,ru⟩:=rv.one;cases ru;obtain⟨hz,z,j,S,ob,es,ep,e1,n,e3,M,N⟩:=I.hok _ _ hd;obtain⟨hI,P⟩:=a9O S hk;have a0:qL.length=j.length:=Paired.length S;have r:es.size=j.length:=by rw[<-ay,M,aj]
 have D:DRaw s.heap d es ep:=⟨ob,e1,n,e3⟩;have J:Vals (j.map λx=>V.ref x.2.1) (j.map λx=>Value.ref x.2.1):=a0q (λx:qA Key×qE×qB=>x.2.1) j;have w:∀(K:qH) (C:qA qB->qC->Prop),(∀(h1:Heap) (tk:Nat),(∀b o,s.heap.get? b=some o->h1.get? b=some o)->C (j.map λx=>Value.ref x.2.1) {s with heap:=h1,toks:=tk})->wpAny (model X.prog X.w) X.A.in1 (collect (.ref d)) C K s:=λK C k=>by
  refine kdu_collect (a9z z es ep) (show X.A.in1.handled=none from I.ok.hd hc) D (by omega) λh' tk qN kp l=>?_;have:qN.toList=j.map λx=>Value.ref x.2.1:=by
   refine eH λi=>?_;rw[av,aV];by_cases hi:i<j.length
   .have hia:i<qN.size:=by rw[l.1,r];exact hi
    obtain⟨e,he,F⟩:=l.2 i qN[i] (by simp[hia]);have g:es.toList[i]?=some e:=by rw[av];exact he
    rw[M,aV,ai hi]at g;injection g with g
    rw[bG hia,ai hi,F,<-g];rfl
   .rw[de (by rw[l.1,r];omega),bO (by omega)];rfl
  rw[this];exact k h' tk kp
 have hl:=J.length;have TT:=a3P I hI J;obtain⟨T,Y,t2,t3,t4⟩:=a0p J hI.1;refine Z1 w TT hw (by rw[aj];omega) λh1 h' os c tk k1 k2 e hp hs=>?_;obtain⟨m,p1,p2⟩:=O4 (f:=λt:qB×V×qI=>t.1) hp Y.symm;have L:=I.kept (t':=tk) k1;have B:∀t∈m,RelV t.2.1 t.1/\IT H t.2.1 t.2.2/\J2 s.heap t.1=t.2.2:=λt E=>by
  obtain⟨i,hi⟩:=ck.mp (p1.mem_iff.mp E);obtain⟨r1,r2,W⟩:=t4 i t hi;obtain⟨row,U,q2⟩:=hI.2 i _ r2;rw[W]at U;cases U;have N:(j.map λx=>Value.ref x.2.1)[i]?=some t.1:=by rw[<-Y,aV,hi];rfl
  obtain⟨r',b,R,f1,f2,f3,f4⟩:=TT.2 i _ N;rw[W]at f1;cases f1;exact⟨r1,q2,by rw[f2];exact D8 f3 f4⟩
 have G:(m.map (·.2.1)).length<=sizeLine:=by
  have O:=(p1.map (λt:qB×V×qI=>t.2.1)).length_eq;rw[t2]at O;simp only[aj]at O⊢;omega
 have F:Vals (m.map (·.2.1)) os:=by rw[<-p2];exact Q9 λt E=>(B t E).1
 have Z:=L.laid (h':=h') (a:=h1.objs.size) (o:=.lst (m.map (·.2.1))) (t':=tk) k2 (ao _) ⟨G,os,c,F,e⟩;refine⟨.ref h1.objs.size,_,Z,rfl,q _ _ (m.map (·.2.2)) (L.hok.fresh (ao _)) ⟨by rw[aj,aj],λi v p=>?_⟩ (by rw[<-t3];exact p1.map _) ?_⟩
 .rw[aV]at p⊢;cases n:m[i]? with
  |none=>rw[n]at p;cases p
  |some t =>
   rw[n]at p;cases p;exact⟨t.2.2,rfl,(B t (aH n)).2.1⟩
 .unfold C8;rw[cx];rw[<-p2,cx]at hs;refine hs.imp_of_mem λ{x y} hx hy A=>?_;rw[(B x hx).2.2,(B y hy).2.2]at A;exact A
end L2
namespace L2
open PySem PySem.Spec PyProof.Rows
def b7J(i j:Int):Prop:=0<j/\j<2 ^ 64
variable {X:Cx}
def b3y:OpR X (binaryOp .FloorDiv) (rI b7J λi j=>.int (i / j)):=opI λi j _ _ _ _ _ a q=>by
 have h1:(0:Int)<j:=a.1;have h2:j<2 ^ 64:=a.2;refine floordiv_int (by omega) (by rw[Int.fdiv_eq_ediv_of_nonneg i (by omega)];exact q) (.inl (PyProof.noPylong_of_log2 ?_));have:j.natAbs.log2<64:=(Nat.log2_lt (by omega)).mpr (by omega);omega
def b6v{a b:Expr}{ta tb:TE}{pos:Pos}(c:JE X a ta)(d:JE X b tb):JE X (.BinOp a .FloorDiv b pos) (tOp (rI b7J λi j=>.int (i / j)) ta tb):=⟨Y8 b3y c.h d.h⟩
end L2
namespace L2
open PySem PySem.Spec PyProof.Rows PySem.W
section
variable {prog:qG}{w:World}{A:Around}{E:qH}{s:qC}{d:qE}{ep:Nat}{es:Array DictEntry}
def b5u{Q:qH}(hs:(d==sysModules)=false)(D:DRaw s.heap d es ep)(hz:(es.size:Int)<2 ^ 63)
  (q:Q (.int es.size (s.toks+1)) {s with toks:=s.toks+1+1}):wpAny (model prog w) A (call (.builtin "len") [.ref d]) Q E s:=by
 refine fg kind_len plain_len entry_len (args_len1 _) ?_;have ty:=D.typ;obtain⟨c,a,_,b⟩:=D;unfold Builtin.«len»;refine aa (m:=oneArg "len" _) (ae ?_);refine aa (m:=callSpecial? (.ref d) (Str.ofString "__len__")) (bA (name:=Str.ofString "__len__") ty PySem.F.slot_dict_len (bF PySem.F.slot_dict_len ty PySem.F.entry_dict_len ?body (PySem.F.args_dict_len_1 _)))
 case body =>
  show wpAny _ _ (dictSize d>>=λn=>_) _ _ _;unfold dictSize;refine aa (aa (eI a b (ae ?_)));show wpAny _ _ (Builtin.Dict.pendingCount d>>=λn=>_) _ _ _;refine aa (wpAny_pendingCount_other hs (wpAny_ret_mkInt ?_));show wpAny _ _ _ _ _ {s with toks:=s.toks+1};rw[show((es.size:Nat):Int)+((0:Nat):Int)=(es.size:Int) by simp];refine aa (bY (ae (aa (wpAny_letGo ?_))));show wpAny _ _ (if ((es.size:Nat):Int)<0 then _ else _) _ _ _;rw[au (by omega)];show wpAny _ _ (if ((es.size:Nat):Int) ≥ 2 ^ 63 then _ else _) _ _ _;rw[au (by omega)];exact aa (wpAny_mkInt (ae ⟨_,rfl,q⟩))
end
def b7t:RL:=λxs H Q=>∃(a:qE) (qL:qA (qA Key×V)),xs=[V.ref a]/\H a=some (.dT qL)/\Q (.int qL.length) H
section
variable {X:Cx}
def b1S:E2 X (.builtin "len") b7t:=by
 intro qK s σ H xs v Q I r h;obtain⟨a,qL,rfl,l,q⟩:=h;obtain⟨u,rfl,p⟩:=r.one;cases p;obtain⟨m,b,f,n,o,es,ep,g,i,j,k,t⟩:=I.hok _ _ l;have d:qL.length=f.length:=Paired.length n;have c:es.size=f.length:=by rw[<-ay,k,aj]
 have e:=m;rw[a']at e;refine b5u b ⟨o,g,i,j⟩ (by omega) ?_;rw[c,<-d];exact⟨.int qL.length,H,I.tok _,⟨_,rfl⟩,q⟩
variable {a b c e o i value:Expr}{es rest:qA Expr}{ta tb tc te to td ty tv:TE}{t:TA}{pos p qP qM p2 pos' tpos:Pos}
def b6u(d:Gl X "len")(f:X.mg "len"=none)(b:JA X [e] t)(c:starEach [e] X.env=(false,eval e X.env)::starEach [] X.env:=by rfl)(a:(backTo pos (starEach [] X.env)).any (·.1)=false:=by rfl):JE X (.Call (.Name "len" p) [e] [] pos) (tCB b7t t):=⟨J4 b1S d f b4M b.h (by decide) (by decide) c a⟩
def b3Z(f:Gl X "sorted")(g:X.mg "sorted"=none)(b:JA X [e] t)(c:X.calm=true:=by rfl)(d:starEach [e] X.env=(false,eval e X.env)::starEach [] X.env:=by rfl)(a:(backTo pos (starEach [] X.env)).any (·.1)=false:=by rfl):JE X (.Call (.Name "sorted" p) [e] [] pos) (tCB a8n t):=⟨J4 (a8O c) f g a2i b.h (by decide) (by decide) d a⟩
def a9W:JE X (.Dict [] [] pos) b2t:=⟨b3t⟩
def b9e(c:X.A.units+60<cLine)(hi:JE X i ty)(b:JE X o td)(a:behindInMarks .In o=false):JE X (.Compare i [.In] [o] pos) (c0e ty td):=⟨b8w (b8y (by omega) hi.h b.h) a⟩
def b1w(c:X.A.units+60<cLine)(hi:JE X i ty)(b:JE X o td)(a:behindInMarks .NotIn o=false):JT X (.Compare i [.NotIn] [o] pos) (tB (a9k ty td)):=⟨b8d (b1c (by omega) hi.h b.h) a⟩
def b6r(c:X.A.units+60<cLine)(a:JE X o td)(hi:JE X i ty)(b:JE X value tv)(hs:swapsWith value (some (.Subscript o i pos')) pos.line X.env=pure false:=by rfl):JS X (.Assign [.Subscript o i pos'] value pos) (b7m td ty tv):=⟨b5C (by omega) a.h hi.h b.h hs⟩
def N5(K:qF){f:Str}(c:JE X e ta)(a:X.K=K:=by rfl)(b:attributeBase e f X.env (eval e X.env)=eval e X.env:=by rfl):JE X (.Attribute e f pos) (c0d K ta f):=by
 subst a;exact⟨b8v c.h b⟩
def X5(K:qF){f:Str}(b:JE X o ta)(c:JE X value tv)(a:X.K=K:=by rfl)(hs:swapsWith value (some (.Attribute o f pos')) pos.line X.env=pure false:=by rfl):JS X (.Assign [.Attribute o f pos'] value pos) (c0i K ta tv f):=by
 subst a;exact⟨b8i b.h c.h hs⟩
end
structure MethOk(P:qG)(w:World)(K:qF)(mg:Str->qD qB)(base:Heap)(C:qE)(m:Str)(k:Nat)(ps:qA Str)(sp:Sp):Prop where
 ex:∃f fd,Meth K C m f/\Binds K fd ps []/\FnOk P w K mg base CX0 k f fd ps sp
structure MethAt(K:qF)(C:qE)(m qual:Str)(st:Stmt)(ps:qA Str):Prop where
 ex:∃f fd,Meth K C m f/\Fun K m qual st f fd/\Binds K fd ps []
structure MakeOk(P:qG)(w:World)(K:qF)(mg:Str->qD qB)(base:Heap)(x:Str)(C:qE)(k:Nat)(ps:qA Str)(sp:Sp):Prop where
 ex:∃f fd,mg x=some (.ref C)/\Mk K C f/\Binds K fd ps []/\FnOk P w K mg base CX0 k f fd ps sp
section
variable {P:qG}{w:World}{K:qF}{mg:Str->qD qB}{base:Heap}{C:qE}{m qual:Str}{st:Stmt}{N ps:qA Str}{k:Nat}{sp:Sp}
def MethAt.fnJ(F:MethAt K C m qual st ps)(S:FnScope N ps (A1 st))(c:∀vs H Q E,sp vs H Q E->vs.length=ps.length)
  (b:∀(a:qB) (f:qE) (A:Around) (outer:qA Env) (s:qC) (H:Hp) (vs:qA V) (Q:VK) (E:XK),Room k (A.deeper (envOfC qual (A1 st) s.heap.objs.size f a))->sp vs H Q E ->
   ∃t,JB (L8 CX0 P w K mg base N qual (A1 st) f a A outer s H E).nox (G1 st) t/\t {nx:=λ_ H'=>Q .non H',rt:=Q} (start N vs) H):MethOk P w K mg base C m (k+1) ps sp:=by
 obtain⟨f,fd,h1,h2,d⟩:=F.ex;exact⟨f,fd,h1,d,h2.okJ S c λa=>b a f⟩
def MethOk.make{x:Str}(O:MethOk P w K mg base C "__init__" k ps sp)(d:mg x=some (.ref C))(c:PySem.W.makesIn K C=true)(b:PySem.W.keepIn K (.ref C)=true):MakeOk P w K mg base x C k ps sp:=by
 obtain⟨f,fd,h1,h2,a⟩:=O.ex;exact⟨f,fd,d,⟨c,h1.at_,h1.fn,b⟩,h2,a⟩
end
section
variable {X:Cx}{C:qE}{m x:Str}{k:Nat}{ps:qA Str}{sp:Sp}{o e:Expr}{es:qA Expr}{ta:TE}{t:TA}{pos qP p:Pos}
def b9l{pl:Sem Bool}(O:MethOk X.prog X.w X.K X.mg X.base C m k ps sp)(c:Cls X.K C)(j:Room k X.A)(i:JE X o ta)(h:JA X (e::es) t)
  (b:starEach (e::es) X.env=(false,eval e X.env)::starEach es X.env:=by rfl) (a:(backTo pos (starEach es X.env)).any (·.1)=false:=by rfl)
  (l:eval (.Call (.Attribute o m qP) (e::es) [] pos) X.env=(eval o X.env>>=λd=>standAt qP.atName>>=λ_=>holding [d] (getMethod d m pl)>>=λp=>match p with | (f,first)=>callWith pos f first (backTo pos (starEach (e::es) X.env)) (backToKw pos (keywordEach [] X.env))):=by rfl) :
  JE X (.Call (.Attribute o m qP) (e::es) [] pos) (a2p C m sp [] E0 ta t):=by
 obtain⟨f,fd,h1,h2,g⟩:=O.ex;exact⟨b5Q (pl:=pl) i.h c h1 g j h2 .nil a9I h.h b a l⟩
def a5P{pl:Sem Bool}(O:MethOk X.prog X.w X.K X.mg X.base C m k ps sp)(c:Cls X.K C)(e:Room k X.A)(d:JE X o ta)
  (g:eval (.Call (.Attribute o m qP) [] [] pos) X.env=(eval o X.env>>=λa=>standAt qP.atName>>=λ_=>holding [a] (getMethod a m pl)>>=λp=>match p with | (f,first)=>callWith pos f first (backTo pos (starEach [] X.env)) (backToKw pos (keywordEach [] X.env))):=by rfl) :
  JE X (.Call (.Attribute o m qP) [] [] pos) (a2p C m sp [] E0 ta a2v):=by
 obtain⟨f,fd,h1,h2,b⟩:=O.ex;exact⟨b3q (pl:=pl) d.h c h1 b e h2 .nil a9I g⟩
def b9m(O:MakeOk X.prog X.w X.K X.mg X.base x C k ps sp)(j:Room (k+1) X.A)(i:Gl X x)(g:JA X (e::es) t)(a:(x==("__debug__" : Str))=false:=by decide)
  (h:starEach (e::es) X.env=(false,eval e X.env)::starEach es X.env:=by rfl) (b:(backTo pos (starEach es X.env)).any (·.1)=false:=by rfl) :
  JE X (.Call (.Name x p) (e::es) [] pos) (b7a C sp [] E0 t):=by
 obtain⟨f,fd,c,h1,h2,d⟩:=O.ex;exact⟨b5R h1 d j i c h2 .nil a9I g.h a h b⟩
end
end L2
namespace L2
open PySem PySem.Spec PyProof.Rows
variable {H:Hp}
def a3E{K:qF}{src:qA (qJ)}{σ caps:St}{Q:VK}{a:qE}{vs:qA V}{rss:LLI}{k:TT}(t:qI->Bool)(n:vs.length<=sizeLine)(b:∀H',Same H H'->SqL K H' a vs)(hI:Its H vs rss)(d:B5 src σ=none::caps)
  (g:∀v r H1 j,r∈rss->IT H1 v r->Same H H1->(∀H2,Same H1 H2->j (t r) H2)->k (some v::caps) H1 j) (hd:∀H1 p l,Same H H1->H1 p=none->Its H1 l (rss.filter t)->Q (.ref p) (upd H1 p (.lst l))):I0 src (B0 0) k (Z2 0) σ Q (Itl K a) H:=by
 refine a0E (xs:=vs) (by omega) (λi ys H'=>Same H H'/\Its H' ys ((rss.take i).filter t)) ⟨Same.refl H,by simpa using Its.nil⟩ (λi ys H' _ h=>⟨b H' h.1,by rw[h.2.1];exact ba (bo _ _) (bL _ _)⟩) ?_ ?_
 .rintro i x ys H' hx ⟨s,hy⟩;obtain⟨r,m,f,c⟩:=hI.mem hx;show Sub _ ((B5 src σ).set 0 (some x))/\_;rw[d];refine⟨Sub.one,g x r H' _ m (c.same s) s λH2 s2=>?_⟩;rw[bg,f];cases e:t r with
  |true=>exact⟨_,rfl,s.trans s2,by simpa[e]using(hy.same s2).snoc ((c.same s).same s2)⟩
  |false=>exact⟨s.trans s2,by simpa[e]using hy.same s2⟩
 .rintro ys H' ⟨s,hy⟩ p hp;rw[hI.1,br]at hy;exact hd H' p ys s hp hy
def b0H{K:qF}{src:qA (qJ)}{σ caps:St}{Q:VK}{a:qE}{vs:qA V}{rss:LLI}{k:TT}(t:qI->Bool)(n:vs.length<=sizeLine)(b:∀H',Same H H'->SqT K H' a vs)(hI:Its H vs rss)(d:B5 src σ=none::caps)
  (g:∀v r H1 j,r∈rss->IT H1 v r->Same H H1->(∀H2,Same H1 H2->j (t r) H2)->k (some v::caps) H1 j) (hd:∀H1 p l,Same H H1->H1 p=none->Its H1 l (rss.filter t)->Q (.ref p) (upd H1 p (.lst l))):I0 src (B0 0) k (Z2 0) σ Q (Itt K a) H:=by
 refine Q0 (xs:=vs) (by omega) (λi ys H'=>Same H H'/\Its H' ys ((rss.take i).filter t)) ⟨Same.refl H,by simpa using Its.nil⟩ (λi ys H' _ h=>⟨b H' h.1,by rw[h.2.1];exact ba (bo _ _) (bL _ _)⟩) ?_ ?_
 .rintro i x ys H' hx ⟨s,hy⟩;obtain⟨r,m,f,c⟩:=hI.mem hx;show Sub _ ((B5 src σ).set 0 (some x))/\_;rw[d];refine⟨Sub.one,g x r H' _ m (c.same s) s λH2 s2=>?_⟩;rw[bg,f];cases e:t r with
  |true=>exact⟨_,rfl,s.trans s2,by simpa[e]using(hy.same s2).snoc ((c.same s).same s2)⟩
  |false=>exact⟨s.trans s2,by simpa[e]using hy.same s2⟩
 .rintro ys H' ⟨s,hy⟩ p hp;rw[hI.1,br]at hy;exact hd H' p ys s hp hy
def Prs(H:Hp)(ps:qA V)(f:Nat->qI)(js:qA Nat):Prop:=ps.length=js.length/\∀(i:Nat) (q:V),ps[i]?=some q->∃(j:Nat) (b:qE) (v:V),js[i]?=some j/\q=.ref b/\H b=some (.tup [.int j,v])/\IT H v (f j)
def Prs.same{H H':Hp}{ps:qA V}{f:Nat->qI}{a:qA Nat}(h:Prs H ps f a)(s:Same H H'):Prs H' ps f a :=
 ⟨h.1,λi q e=>let ⟨j,b,v,e1,e2,e3,e4⟩:=h.2 i q e;⟨j,b,v,e1,e2,s _ _ e3,e4.same s⟩⟩
def Prs.nil{f:Nat->qI}:Prs H [] f []:=⟨rfl,λi q e=>by simp at e⟩
def Prs.snoc{ps:qA V}{f:Nat->qI}{c:qA Nat}{j:Nat}{b:qE}{v:V}(h:Prs H ps f c)(k:H b=some (.tup [.int j,v]))(l:IT H v (f j)):Prs H (ps++[.ref b]) f (c++[j]):=by
 refine⟨by rw[ax,ax,h.1];rfl,λi q e=>?_⟩;rcases Nat.lt_or_ge i ps.length with hi|hi
 .rw[bx hi]at e;obtain⟨m,b',n,d,g⟩:=h.2 i q e;exact⟨m,b',n,by rw[bx (by rw[<-h.1];exact hi)];exact d,g⟩
 .rw[bh hi]at e;have a:i-ps.length=0:=by
   rcases Nat.eq_zero_or_pos (i-ps.length)with z|z
   .exact z
   .rw[bO (by simp;omega)]at e;cases e
  rw[a]at e;cases e;exact⟨j,b,v,by rw[bh (by rw[<-h.1];exact hi),<-h.1,a];rfl,rfl,k,l⟩
section
variable {X:Cx}{k:Nat}{ps:qA Str}{sp:Sp}{x y:Str}{p pos qM pos' ip sp':Pos}{e:Expr}{es:qA Expr}{t:TA}{i:Nat}{z:Int}{jj:Nat}
end
end L2
namespace L2
open PySem PySem.Spec PyProof.Rows PySem.W
variable {X:Cx}{qL:qA (qA Key×V)}{rss:LLI}
def Itd(d:qE)(ob:Obj)(qL:qA (qA Key×V)):It:=⟨λi H=>H d=some (.frz ob (.dT qL))/\i<qL.length,λi H v H'=>H'=H/\∃p a,qL[i]?=some p/\v=.ref a/\H a=some (.tup (p.1.map kV)),λi H=>H d=some (.frz ob (.dT qL))/\qL.length<=i⟩
def b1d{α β:Type}{F:α->β->Prop}{c:qA α}{d:qA β}(r:Paired F c d):∀{i:Nat}{a:α},c[i]?=some a->∃b,d[i]?=some b/\F a b:=by
 induction r with
 |nil=>intro i a e;simp at e
 |cons h _ f =>
  intro i a e;cases i with
  |zero=>cases e;exact⟨_,rfl,h⟩
  |succ i=>exact f e
def a7S{P:qG}{w:World}{K:qF}{tg:Expr}(d it:qE)(a:Obj)(es:Array DictEntry)(ep:Nat)(qL:qA (qA Key×V))(F:a.ExactDict)(hd:a.data=.dict es ep)(Y:es.size=qL.length):Turn P w K tg (Itd d a qL) [it] it (λi h=>h.IsKeyIter it d i es.size ep) where
 mem:=by simp
 obj:=λi h st b f=>by
  have e:b=it:=by simpa using f
  subst e;obtain⟨o,e,c,d⟩:=st;exact⟨o,e,λv z=>by rw[d]at z;cases z⟩
 keep:=λi h h' st k=>st.at λo e=>k it (by simp) o e
 item:=by
  intro X y hw x C i qK s σ H E I m st A;subst y hw x;obtain⟨g,hi⟩:=A;obtain⟨l,Z,D,ts,S,B,O,N,T,q2,n,G,q5⟩:=(show ObjOk X.prog X.w H s.heap d (.frz a (.dT qL))from I.hok d _ g);have M:B=a:=bK (T.symm.trans l);rw[M,hd]at n;injection n with n _
  obtain⟨p,f1,f2,r,t,u⟩:=m it (by simp);have j:i<es.size:=by omega
  refine a6M st ⟨a,l,F,hd⟩ j λh' st' W=>?_;have J:Inv X qK σ H {s with heap:=h'}:=I.turned (t':=s.toks) (λb o f e=>W.extBut b o f e) p f1 r t u;obtain⟨o,e,c,dd⟩:=id st';obtain⟨q,R,r1,U,r3⟩:=b1d S (ai hi);have Q:es[i].key=.ref q.2.1:=by
   have h1:es.toList[i]?=some es[i]:=by simp[j]
   rw[<-n]at G;rw[G,aV,R]at h1;injection h1 with h1
   rw[<-h1];rfl
  exact⟨_,rfl,b0a (s:={s with heap:=h'}) e c dd (by decide) ⟨.ref q.2.1,H,J,by rw[Q];rfl,⟨rfl,_,_,ai hi,rfl,U⟩,st',λb f=>(m b f).1⟩⟩
 done:=by
  intro X y hw x C i qK s σ H E I m st A;subst y hw x;obtain⟨g,hi⟩:=A;obtain⟨l,_⟩:=(show ObjOk X.prog X.w H s.heap d (.frz a (.dT qL))from I.hok d _ g);obtain⟨p,f1,f2,r,t,u⟩:=m it (by simp);exact a9A (I.ok.hd C) st ⟨a,l,F,hd⟩ (by omega) λh' L=>⟨rfl,I.turned (t':=s.toks) (λb o f e=>L b o f e) p f1 r t u⟩
 self:=λ_ _ _ _ _ st h=>wpAny_pyIter_keyiter st h
def b7E(tl:TE):TI:=λσ H R=>tl σ H λx H1=>∃d qL,x=.ref d/\H1 d=some (.dT qL)/\∀ob,R (Itd d ob qL) (upd H1 d (.frz ob (.dT qL)))
section
variable {tg:Expr}
def b5M{l:Expr}{tl:TE}(B:PE X l tl):PI X tg l (b7E tl):=by
 intro qK s σ H R I h;refine thn (B qK s σ H _ I h) λv s1 ⟨x,H1,r,F,E⟩=>?_;obtain⟨d,qL,rfl,hd,q⟩:=E;cases F;obtain⟨D,c,p,u,f,es,ep,g,j,k,t,y⟩:=(show ObjOk X.prog X.w H1 s1.heap d (.dT qL)from r.hok _ _ hd);have m:qL.length=p.length:=Paired.length u;have C:es.size=qL.length:=by rw[m,<-ay,t,aj]
 have n:KT (upd H1 d (.frz f (.dT qL))) qL p:=Paired.imp' (λa b ⟨G,w,J⟩=>⟨G,by rw[A3 (K1 w hd (by intro z;cases z))];exact w,J⟩) u;have i:Inv X qK σ (upd H1 d (.frz f (.dT qL))) s1:=r.write (x:=d) (e:=d) (t':=s1.toks) (by rw[hd];trivial) (.inl rfl) (λ_ _ _ q=>q) ⟨_,g⟩ ⟨g,D,c,p,n,f,es,ep,g,j,k,t,y⟩;refine a6L c ⟨f,g,j,k⟩ ?_;refine⟨s1.heap.objs.size,[s1.heap.objs.size],_,_,_,rfl,i.kept (t':=s1.toks) λb o e=>ag _ e,a7S d _ f es ep qL j k C,⟨_,aF _ rfl,rfl,rfl⟩,λb A=>?_,q f⟩;have e:b=s1.heap.objs.size:=by simpa using A
 subst e;exact i.fpOk (ao _) (i.hok.fresh (ao _))
def b6s{l:Expr}{tl:TE}(a:JE X l tl):JI X tg l (b7E tl):=⟨b5M a.h⟩
end
def b1N{src:qA (qJ)}{g:TG}{l:TT}{te:TE}{σ:St}{Q:VK}{d:qE}{k:Obj}{H1:Hp}(t:qL.length<=sizeLine)(c:Nat->qA V->Hp->Prop)(h0:c 0 [] H1)
  (j:∀i ys H,i<=qL.length->c i ys H->H d=some (.frz k (.dT qL))/\ys.length<=i)
  (hs:∀i p a ys H,qL[i]?=some p->H a=some (.tup (p.1.map kV))->c i ys H->g (.ref a) (B5 src σ) H λσ2 H2=>Sub (B5 src σ) σ2/\l σ2 H2 λb h=>if b=true then te σ2 h λv m=>c (i+1) (ys++[v]) m else c (i+1) ys h)
  (hd:∀ys H,c qL.length ys H->∀p,H p=none->Q (.ref p) (upd H p (.lst ys))):I0 src g l te σ Q (Itd d k qL) H1 :=
 a1C qL.length c h0 (λi ys H hi p=>by
   obtain⟨f,o⟩:=j i ys H (cG hi) p;refine⟨⟨f,hi⟩,by omega,λx H' y=>?_⟩;obtain⟨e,n,a,q,r,s⟩:=y;subst e r;exact hs i n a ys _ q s p)
  λys H p=>by
   obtain⟨f,o⟩:=j _ ys H (ao _) p;exact⟨⟨f,ao _⟩,by omega,hd ys H p⟩
def c0J{i:Nat}{p:qA Key×V}(b:qL.map (·.1)=IK rss)(e:qL[i]?=some p):∃r,rss[i]?=some r/\p.1=r.map Sum.inl:=by
 have h1:(qL.map (·.1))[i]?=some p.1:=by rw[aV,e];rfl
 rw[b,IK,aV]at h1;cases a:rss[i]? with
 |none=>rw[a]at h1;cases h1
 |some r=>rw[a]at h1;injection h1 with h1;exact⟨r,rfl,h1.symm⟩
def b4j(a:qL.map (·.1)=IK rss):qL.length=rss.length:=by
 have:=aR List.length a;simpa[IK]using this
def b1J{src:qA (qJ)}{σ caps:St}{Q:VK}{d:qE}{o:Obj}{H:Hp}{te:TE}(f:qI->V)(t:qL.length<=sizeLine)(g:H d=some (.frz o (.dT qL)))(n:qL.map (·.1)=IK rss)(c:B5 src σ=none::caps)
  (l:∀v r H1 m,r∈rss->IT H1 v r->Same H H1->(∀H2,Same H1 H2->m (f r) H2)->te (some v::caps) H1 m) (hd:∀H1 p,Same H H1->H1 p=none->Q (.ref p) (upd H1 p (.lst (rss.map f)))):I0 src (B0 0) V0 te σ Q (Itd d o qL) H:=by
 have j:=b4j n;refine b1N (by omega) (λi ys H'=>Same H H'/\ys=(rss.take i).map f) ⟨Same.refl H,by simp⟩ (λi ys H' _ h=>⟨h.1 _ _ g,by rw[h.2,aj];exact bL _ _⟩) ?_ ?_
 .rintro i p a ys H' hx ha ⟨s,rfl⟩;obtain⟨r,b,k⟩:=c0J n hx;have q:=aH b;have e:IT H' (.ref a) r:=⟨a,rfl,by rw[ha,k,cD];rfl⟩;show Sub _ ((B5 src σ).set 0 (some (.ref a)))/\_;rw[c];refine⟨Sub.one,(l _ r H' _ q e s λH2 s2=>⟨s.trans s2,?_⟩)⟩;rw[bg,b,cu];rfl
 .rintro ys H' ⟨s,rfl⟩ p hp;rw[j,br];exact hd H' p s hp
section
variable {o e:Expr}{es:qA Expr}{to:TE}{t:TA}{qP qM:Pos}
end
def b0X{κ:Type}[DecidableEq κ]{qL:qA (κ×V)}{k:κ}(v:V)(h:k∈qL.map (·.1)):(U5 qL k v).map (·.1)=qL.map (·.1):=by
 unfold U5;obtain⟨p,a,rfl⟩:=aM.mp h;rw[az (bP.mpr ⟨p,a,bb rfl⟩),cD];refine List.map_congr_left λq _=>?_;show(if q.1=p.1 then(q.1,v)else q).1=q.1;split<;>rfl
section
variable {k:Nat}{ps:qA Str}{sp:Sp}{x:Str}{p pos qM:Pos}{e:Expr}{es:qA Expr}{t:TA}
end
end L2
namespace L2
open PySem PySem.Spec PyProof.Rows
section
variable {prog:qG}{w:World}{A:Around}{E:qH}{s:qC}
end
section
variable {X:Cx}{pos:Pos}
end
section
variable {X:Cx}{es:qA Expr}{pos:Pos}
end
end L2
namespace L2
open PySem PySem.Spec PyProof.Rows PySem.W
variable {X:Cx}
section
variable {e:Expr}{es:qA Expr}{t:TA}{p pos:Pos}
end
section
variable {k v:Expr}{tk tv:TE}{pos:Pos}
end
end L2
section
open PySem PyProof.Rows
def L2.ins_call{prog:qG}{w:World}{A:Around}{E:qH}{s:qC}{Q:qH}(l:qE)(its:Array qB)(n:Nat)(x:Int)(t:Tok)(a:qB)(b:¬(!Builtin.List.listFitsIndex x)=true)(hz:its.size<=sizeLine)
  (e:s.heap.get? l=some {cls:=.type "list",data:=.seq its n}) (h:Q .none {s with heap:=s.heap.update l (Obj.mapSeq λxs=>(xs.extract 0 (if x<0 then(x+(xs.size:Int)).toNat else min x.toNat xs.size)).push a++xs.extract (if x<0 then(x+(xs.size:Int)).toNat else min x.toNat xs.size))}) :
  wpAny (model prog w) A (call (.builtin "list.insert") [.ref l,.int x t,a]) Q E s :=
 dv PySem.F.slot_list_insert ⟨_,e,rfl⟩ PySem.F.entry_list_insert (PySem.F.args_list_insert_3 _ _ _) (PySem.AutoSeq1.list_insert_list_int_val_1 l its n x t a b hz) ⟨e,h⟩
end
namespace L2
open PySem PySem.Spec PyProof.Rows
def a9C:V->qA V->Hp->VK->Prop:=λx vs H Q=>∃l xs k y,x=.ref l/\vs=[.int (k:Nat),y]/\H l=some (.lst xs)/\k<=xs.length/\xs.length<sizeLine/\Q .non (upd H l (.lst (xs.take k++y::xs.drop k)))
section
variable {X:Cx}
def b1o:MtM X "list.insert" a9C:=by
 intro qK s σ H x vs v A Q I i g h;obtain⟨l,xs,k,y,rfl,rfl,b,o,u,q⟩:=h;cases i;obtain⟨w,a,rfl,⟨t,rfl⟩,f⟩:=b9T g;obtain⟨z,its,n,r,p,e⟩:=I.lstM b;have d:¬(!Builtin.List.listFitsIndex (k:Int))=true:=by
  have hs:=a';rw[fitsIndex_both (by omega) (by omega)];decide
 have j:=F.args_list_insert_3 (.ref l) (.int (k:Int) t) a;have m:s.TypeIs (.ref l) "list":=⟨_,e,rfl⟩;have c:min k its.length=k:=c_ (by omega);have hi:(λxs:Array qB=>((xs.extract 0 (if (k:Int)<0 then((k:Int)+xs.size).toNat else min (k:Int).toNat xs.size)).push a++xs.extract (if (k:Int)<0 then((k:Int)+xs.size).toNat else min (k:Int).toNat xs.size) xs.size)) its.toArray=(its.take k++a::its.drop k).toArray:=by
  simp only[aC,bf,au (show ¬(k:Int)<0 by omega),c];apply Array.toList_inj.mp;simp[List.extract_eq_drop_take,c,bJ]
 refine ins_call l its.toArray n (k:Int) t a d (by rw[aC];omega) e ?_;refine⟨.non,_,I.lset (its':=its.take k++a::its.drop k) b e ?_ ((Vals.take k r).append (.cons f (Vals.drop k r))) ?_,rfl,q⟩
 .exact hi
 .rw[ax,aT,aU,bI];omega
variable {o e:Expr}{es:qA Expr}{to:TE}{t:TA}{pos qP qM:Pos}
def b1x(K:qF)(h:JE X o to)(g:JA X (e::es) t)(f:X.K=K:=by rfl)(b:attributeBase o "insert" X.env (eval o X.env)=eval o X.env:=by rfl)
  (d:((backTo qM (starEach (e::es) X.env)).all (λx=>!x.1) && (backToKw qM (keywordEach [] X.env)).all (λx=>x.1.isSome) && decide ((e::es).length+([]:qA Keyword).length+(if ([]:qA Keyword).isEmpty then 0 else 1)<30))=true:=by rfl)
  (c:(qP.endLine==qM.line)=true:=by rfl) (hs:starEach (e::es) X.env=(false,eval e X.env)::starEach es X.env:=by rfl) (a:(backTo qM (starEach es X.env)).any (·.1)=false:=by rfl) :
  JE X (.Call (.Attribute o "insert" qP) (e::es) [] qM) (tBM K "list" a9C to t):=⟨a5G K PySem.F.plainAttrs_list PySem.F.slot_list_insert PySem.F.type_list_insert b1o h.h g.h f b d c hs a⟩
end
end L2
namespace L2
variable {α:Type}
def c0S{us:qA α}(h:us.length=0):us=[]:=dZ.mp h
def a2C{us:qA α}(h:us.length=1):∃a,us=[a]:=by
 cases us with
 |nil=>cases h
 |cons a us=>exact⟨a,by rw[c0S (us:=us) (fq h)]⟩
def P5{us:qA α}(h:us.length=2):∃a b,us=[a,b]:=by
 cases us with
 |nil=>cases h
 |cons a us=>obtain⟨b,e⟩:=a2C (us:=us) (fq h);exact⟨a,b,by rw[e]⟩
def a1Q{us:qA α}(h:us.length=3):∃a b c,us=[a,b,c]:=by
 cases us with
 |nil=>cases h
 |cons a us=>obtain⟨b,c,e⟩:=P5 (us:=us) (fq h);exact⟨a,b,c,by rw[e]⟩
def b8X{us:qA α}(h:us.length=4):∃a b c d,us=[a,b,c,d]:=by
 cases us with
 |nil=>cases h
 |cons a us=>obtain⟨b,c,d,e⟩:=a1Q (us:=us) (fq h);exact⟨a,b,c,d,by rw[e]⟩
def c0B{us:qA α}(h:us.length=5):∃a b c d e,us=[a,b,c,d,e]:=by
 cases us with
 |nil=>cases h
 |cons a us=>obtain⟨b,c,d,e,q⟩:=b8X (us:=us) (fq h);exact⟨a,b,c,d,e,by rw[q]⟩
section
open PySem PySem.Spec PyProof.Rows PySem.W
abbrev FnL(K:qF)(f:qE)(nm qn:Str)(st:Stmt)(oc:qB)(od:qD qE)(sl:Array (qD qB))(kV dc pm:qB)(an:qD qE)(cd ct:qB):Prop:=K.lookup f=some ⟨oc,od,.func (PySem.W.fnOf nm qn (U0 st) (G1 st) (A1 st) .none kV dc pm an cd ct),sl⟩
variable {K:qF}{h:Heap}{mg:Str->qD qB}{x qn:Str}{st:Stmt}{f:qE}{od an:qD qE}{sl:Array (qD qB)}{oc kV dc pm cd ct:qB}{C:qE}{m:Str}
def B9(X:K.In h)(G:h.Ns mainGlobals mg)(a:nsIn K mainGlobals x=some (some (.ref f)))(l:FnL K f x x st oc od sl kV dc pm an cd ct)(c:codeIn K cd x=true)(k:keepIn K (.ref f)=true){ps:qA Str}
  (e:∀(kV d pm:qB) (an:qD qE) (b ct:qB) (us:qA qB),us.length=ps.length->bindArgs (fnOf x x (U0 st) (G1 st) (A1 st) .none kV d pm an b ct) ⟨us,[]⟩=pure (ps.zip us):=by intro _ _ _ _ _ _ _ b;first|(obtain⟨_,rfl⟩:=a2C b;rfl)|(obtain⟨_,_,rfl⟩:=P5 b;rfl)|(obtain⟨_,_,_,rfl⟩:=a1Q b;rfl)|(obtain⟨_,_,_,_,rfl⟩:=b8X b;rfl)|(obtain⟨_,_,_,_,_,rfl⟩:=c0B b;rfl)):FunAt K mg x st ps:=⟨f,_,mg_of X G a,a3U (st:=st) l c k,(a3U (st:=st) l c k).binds e⟩
def a3D(a:findIn K (.ref C) m=some (some (.ref f)))(i:isFn K (.ref f)=true)(l:FnL K f m qn st oc od sl kV dc pm an cd ct)(c:codeIn K cd qn=true)(k:keepIn K (.ref f)=true){ps:qA Str}
  (e:∀(kV d pm:qB) (an:qD qE) (b ct:qB) (us:qA qB),us.length=ps.length->bindArgs (fnOf m qn (U0 st) (G1 st) (A1 st) .none kV d pm an b ct) ⟨us,[]⟩=pure (ps.zip us):=by intro _ _ _ _ _ _ _ b;first|(obtain⟨_,rfl⟩:=a2C b;rfl)|(obtain⟨_,_,rfl⟩:=P5 b;rfl)|(obtain⟨_,_,_,rfl⟩:=a1Q b;rfl)|(obtain⟨_,_,_,_,rfl⟩:=b8X b;rfl)|(obtain⟨_,_,_,_,_,rfl⟩:=c0B b;rfl)):MethAt K C m qn st ps:=⟨f,_,⟨a,i,k⟩,a3U (st:=st) l c k,(a3U (st:=st) l c k).binds e⟩
end
section
open PySem PySem.Spec PyProof.Rows PySem.W
variable {K:qF}{h:Heap}{mg:Str->qD qB}{x nm qn:Str}{C N:qE}{bs bm sub bmB above:qA qB}{hd ab:Bool}{sn:qA Str}{col:qD Bool}{dd:qD qE}{k0 k1 k2 k3 k5:qD qB}{newId:String}
def b8A(X:K.In h)(b:mg x=some (.ref C))(c:K.lookup C=some (excClassObj nm qn C N bs bm hd sn sub ab col dd k0 k1 k2 k3 k5 newId))(tx:tailIn K bmB bm=true)(ok:nsOkIn K N=true)(a:nsIn K N "__init__"=some none):OwnCls x C bmB newId mg h :=
 ⟨b,bm,N,nm,qn,bs,hd,sn,sub,ab,col,dd,k0,k1,k2,k3,k5,_,X _ _ c,.of_isNs (isNs_of_in X ok),nsMap_none_of_in X ok a,tail_of_in X tx⟩
def b6K(b:K.lookup C=some (excClassObj nm qn C N bs bm hd sn sub ab col dd k0 k1 k2 k3 k5 newId))(a:bm.contains (.type "BaseException")=true):ClsX K C [] :=
 ⟨nm,qn,N,bs,bm,hd,sn,sub,ab,col,dd,k0,k1,k2,k3,k5,newId,b,a,λ_ z=>nomatch z⟩
end
inductive Ex1{α0:Type}(p:α0->Prop):Prop
 |mk (a0:α0) (h:p a0):Ex1 p
inductive Ex2{α0 α1:Type}(p:α0->α1->Prop):Prop
 |mk (a0:α0) (a1:α1) (h:p a0 a1):Ex2 p
inductive Ex3{α0 α1 α2:Type}(p:α0->α1->α2->Prop):Prop
 |mk (a0:α0) (a1:α1) (a2:α2) (h:p a0 a1 a2):Ex3 p
inductive Ex4{α0 α1 α2 α3:Type}(p:α0->α1->α2->α3->Prop):Prop
 |mk (a0:α0) (a1:α1) (a2:α2) (a3:α3) (h:p a0 a1 a2 a3):Ex4 p
inductive Ex5{α0 α1 α2 α3 α4:Type}(p:α0->α1->α2->α3->α4->Prop):Prop
 |mk (a0:α0) (a1:α1) (a2:α2) (a3:α3) (a4:α4) (h:p a0 a1 a2 a3 a4):Ex5 p
inductive Ex9{α0 α1 α2 α3 α4 α5 α6 α7 α8:Type}(p:α0->α1->α2->α3->α4->α5->α6->α7->α8->Prop):Prop
 |mk (a0:α0) (a1:α1) (a2:α2) (a3:α3) (a4:α4) (a5:α5) (a6:α6) (a7:α7) (a8:α8) (h:p a0 a1 a2 a3 a4 a5 a6 a7 a8):Ex9 p
inductive An2(a0 a1:Prop):Prop
 |mk (h0:a0) (h1:a1):An2 a0 a1
inductive An3(a0 a1 a2:Prop):Prop
 |mk (h0:a0) (h1:a1) (h2:a2):An3 a0 a1 a2
inductive An4(a0 a1 a2 a3:Prop):Prop
 |mk (h0:a0) (h1:a1) (h2:a2) (h3:a3):An4 a0 a1 a2 a3
inductive An5(a0 a1 a2 a3 a4:Prop):Prop
 |mk (h0:a0) (h1:a1) (h2:a2) (h3:a3) (h4:a4):An5 a0 a1 a2 a3 a4
inductive An6(a0 a1 a2 a3 a4 a5:Prop):Prop
 |mk (h0:a0) (h1:a1) (h2:a2) (h3:a3) (h4:a4) (h5:a5):An6 a0 a1 a2 a3 a4 a5
inductive An7(a0 a1 a2 a3 a4 a5 a6:Prop):Prop
 |mk (h0:a0) (h1:a1) (h2:a2) (h3:a3) (h4:a4) (h5:a5) (h6:a6):An7 a0 a1 a2 a3 a4 a5 a6
inductive An8(a0 a1 a2 a3 a4 a5 a6 a7:Prop):Prop
 |mk (h0:a0) (h1:a1) (h2:a2) (h3:a3) (h4:a4) (h5:a5) (h6:a6) (h7:a7):An8 a0 a1 a2 a3 a4 a5 a6 a7
inductive An9(a0 a1 a2 a3 a4 a5 a6 a7 a8:Prop):Prop
 |mk (h0:a0) (h1:a1) (h2:a2) (h3:a3) (h4:a4) (h5:a5) (h6:a6) (h7:a7) (h8:a8):An9 a0 a1 a2 a3 a4 a5 a6 a7 a8
inductive An10(a0 a1 a2 a3 a4 a5 a6 a7 a8 a9:Prop):Prop
 |mk (h0:a0) (h1:a1) (h2:a2) (h3:a3) (h4:a4) (h5:a5) (h6:a6) (h7:a7) (h8:a8) (h9:a9):An10 a0 a1 a2 a3 a4 a5 a6 a7 a8 a9
end L2
namespace L2
variable {i j k mask:Nat}{owner:Array (qJ)}{t:SetTable}{xs:Array Nat}{α:Type}
namespace Tab
open PySem
def gI:Nat->Nat->Nat
 |0,x=>x
 |n+1,x=>5*gI n x+1
def gS:Nat->Nat
 |0=>0
 |n+1=>5*gS n+1
def b7F:∀n x,gI n x=5 ^ n*x+gS n
 |0,x=>by simp[gI,gS]
 |n+1,x=>by
  rw[gI,b7F n x,gS,dk,Nat.mul_add,<-Nat.mul_assoc,fX 5 (5 ^ n)];omega
def b0c:∀n,4*gS n+1=5 ^ n
 |0=>rfl
 |n+1=>by
  have:=b0c n;rw[gS,dk];omega
def a3W:∀k,∃u,5 ^ (2 ^ k)=1+2 ^ (k+2)*(2*u+1)
 |0=>⟨0,rfl⟩
 |k+1=>by
  obtain⟨u,h⟩:=a3W k;refine⟨u+2 ^ k*(2*u+1)*(2*u+1),?_⟩;rw[dk 2 k,Nat.pow_mul,h,Nat.pow_two];have a:2 ^ (k+1+2)=8*2 ^ k:=by rw[Nat.pow_add,dk];omega
  have c:2 ^ (k+2)=4*2 ^ k:=by rw[Nat.pow_add,fX]
  rw[a,c];generalize 2 ^ k=b
  grind
def b9v(k:Nat):∃u,gS (2 ^ k)=2 ^ k*(2*u+1):=by
 obtain⟨u,h⟩:=a3W k;refine⟨u,?_⟩;have:=b0c (2 ^ k);have a:2 ^ (k+2)=4*2 ^ k:=by rw[Nat.pow_add,fX]
 rw[h,a,Nat.mul_assoc]at this;omega
def b6B(k y:Nat):gI (2 ^ k) y % 2 ^ (k+1)=(y+2 ^ k) % 2 ^ (k+1):=by
 obtain⟨u,h⟩:=a3W k;obtain⟨v,h2⟩:=b9v k;rw[b7F,h,h2];have e:(1+2 ^ (k+2)*(2*u+1))*y+2 ^ k*(2*v+1)=(y+2 ^ k)+2 ^ (k+1)*(2*(2*u+1)*y+v):=by
  have a:2 ^ (k+1)=2*2 ^ k:=by rw[dk];omega
  have c:2 ^ (k+2)=4*2 ^ k:=by rw[Nat.pow_add,fX]
  rw[a,c];generalize 2 ^ k=b
  grind
 rw[e,Nat.add_mul_mod_self_left]
def fI(M:Nat):Nat->Nat->Nat
 |0,x=>x
 |n+1,x=>(fI M n x*5+1) % M
def b4t(M:Nat)(x:Nat)(a:x<M):∀n,fI M n x=gI n x % M
 |0=>(cU a).symm
 |n+1=>by
  rw[fI,b4t M x a n,gI,fX,Nat.add_mod,Nat.mul_mod,Nat.mod_mod,<-Nat.mul_mod,<-Nat.add_mod]
def b4q(m:Nat):∀n x,gI (n+m) x=gI n (gI m x)
 |0,x=>by rw[dC];rfl
 |n+1,x=>by rw[Nat.add_right_comm,gI,b4q m n x,gI]
def b4p:∀(k x s:Nat),∃n,n<2 ^ k/\gI n x % 2 ^ k=s % 2 ^ k
 |0,x,s=>⟨0,by decide,by rw[Nat.pow_zero,Nat.mod_one,Nat.mod_one]⟩
 |k+1,x,s=>by
  obtain⟨n,l,h⟩:=b4p k x s;have f:2 ^ (k+1)=2*2 ^ k:=by rw[dk];omega
  have m:0<2 ^ k:=Nat.pow_pos (by decide);by_cases a:gI n x % 2 ^ (k+1)=s % 2 ^ (k+1)
  .exact⟨n,by omega,a⟩
  .refine⟨2 ^ k+n,by omega,?_⟩;rw[b4q,b6B];generalize gI n x=y at *;rw[f]at a⊢;generalize 2 ^ k=M at *;have a1:=Nat.mod_add_div y (2*M);have g:=Nat.mod_add_div s (2*M);have i:=fv y (show 0<2*M by omega);have j:=fv s (show 0<2*M by omega);have b:y % M=y % (2*M) % M:=(Nat.mod_mul_left_mod y 2 M).symm;have c:s % M=s % (2*M) % M:=(Nat.mod_mul_left_mod s 2 M).symm;rw[Nat.add_mod,cU (show M<2*M by omega)];generalize y % (2*M)=p at *;generalize s % (2*M)=q at *;rw[b,c]at h;have d:p % M=if p<M then p else p-M:=by
    split
    .exact cU (by assumption)
    .rw[Nat.mod_eq_sub_mod (by omega)];exact cU (by omega)
   have e:q % M=if q<M then q else q-M:=by
    split
    .exact cU (by assumption)
    .rw[Nat.mod_eq_sub_mod (by omega)];exact cU (by omega)
   rw[d,e]at h;split at h<;>split at h
   .omega
   .rw[cU (by omega)];omega
   .rw[show p+M=p-M+2*M by omega,Nat.add_mod_right,cU (by omega)];omega
   .omega
abbrev Pr:=SetTable.Probe
def adv(mask:Nat)(p:Pr):Pr :=
 if p.more > 0 then {p with j:=p.j+1,more:=p.more-1} else
 {p with j:=(SetTable.leap mask p.i p.perturb).1,more:=SetTable.runEnd mask (SetTable.leap mask p.i p.perturb).1-(SetTable.leap mask p.i p.perturb).1,i:=(SetTable.leap mask p.i p.perturb).1,perturb:=(SetTable.leap mask p.i p.perturb).2}
def b9K(t:SetTable)(p:Pr):t.advance p=adv t.mask p:=rfl
def C5(mask:Nat)(p:Pr):Nat->Pr
 |0=>p
 |n+1=>adv mask (C5 mask p n)
def K2(mask:Nat)(p:Pr):∀n,C5 mask p (n+1)=C5 mask (adv mask p) n
 |0=>rfl
 |n+1=>by rw[C5,K2 mask p n];rfl
def a1b(mask:Nat)(p:Pr)(m:Nat):∀n,C5 mask p (m+n)=C5 mask (C5 mask p m) n
 |0=>rfl
 |n+1=>by rw[<-d_,C5,a1b mask p m n];rfl
def a1H(mask:Nat)(p:Pr):∀n,(C5 mask p n).dummy=p.dummy
 |0=>rfl
 |n+1=>by
  rw[C5,<-a1H mask p n];unfold adv;split<;>rfl
def a1M(mask i pt:Nat):Pr:={j:=i,more:=SetTable.runEnd mask i-i,i,perturb:=pt,dummy:=none}
def st0(mask:Nat)(h:Int):Pr:=a1M mask (SetTable.bits h % (mask+1)) (SetTable.bits h)
def a1Z(mask i pt:Nat):∀c,c<=SetTable.runEnd mask i-i->C5 mask (a1M mask i pt) c={j:=i+c,more:=SetTable.runEnd mask i-i-c,i,perturb:=pt,dummy:=none}
 |0,_=>rfl
 |c+1,h=>by
  rw[C5,a1Z mask i pt c (by omega)];unfold adv;rw[az (show SetTable.runEnd mask i-i-c > 0 by omega)];simp only[SetTable.Probe.mk.injEq,and_true];omega
def b5p(mask i:Nat):SetTable.runEnd mask i-i<=9:=by
 unfold SetTable.runEnd;split<;>omega
def a6X(mask i pt:Nat):C5 mask (a1M mask i pt) (SetTable.runEnd mask i-i+1)=a1M mask (SetTable.leap mask i pt).1 (SetTable.leap mask i pt).2:=by
 rw[C5,a1Z mask i pt _ (ao _)];unfold adv;rw[au (by show ¬SetTable.runEnd mask i-i-(SetTable.runEnd mask i-i) > 0;omega)];rfl
def O2(mask:Nat)(i pt:Nat):Nat->Nat×Nat
 |0=>(i,pt)
 |k+1=>SetTable.leap mask (O2 mask i pt k).1 (O2 mask i pt k).2
def b2R(mask i pt:Nat):∀k,∃n,n<=10*k/\C5 mask (a1M mask i pt) n=a1M mask (O2 mask i pt k).1 (O2 mask i pt k).2
 |0=>⟨0,ao _,rfl⟩
 |k+1=>by
  obtain⟨n,h1,h2⟩:=b2R mask i pt k;have:=b5p mask (O2 mask i pt k).1;refine⟨n+(SetTable.runEnd mask (O2 mask i pt k).1-(O2 mask i pt k).1+1),by omega,?_⟩;rw[a1b,h2,a6X];rfl
def b2P(mask i pt:Nat):∀k,(O2 mask i pt k).2=pt / 32 ^ k
 |0=>by simp[O2]
 |k+1=>by
  rw[O2,dk,<-Nat.div_div_eq_div_mul,<-b2P mask i pt k];rfl
def a3q(mask i pt a:Nat):∀b,O2 mask i pt (a+b)=O2 mask (O2 mask i pt a).1 (O2 mask i pt a).2 b
 |0=>rfl
 |b+1=>by rw[<-d_,O2,a3q mask i pt a b];rfl
def a6J(mask i:Nat):∀k,O2 mask i 0 k=(fI (mask+1) k i,0)
 |0=>rfl
 |k+1=>by
  rw[O2,a6J mask i k];show((fI (mask+1) k i*5+1+0 / 32) % (mask+1),0 / 32)=_;rw[Nat.zero_div,Nat.add_zero];rfl
def b6N(h:Int):SetTable.bits h<2 ^ 64:=by
 unfold SetTable.bits;have h1:=el h (show(2:Int) ^ 64≠0 by decide);have h2:=dE h (show(0:Int)<2 ^ 64 by decide);omega
def b5q(mask i pt:Nat)(hi:i<=mask):∀k,(O2 mask i pt k).1<=mask
 |0=>hi
 |k+1=>by
  rw[O2];exact eG (fv _ (eR _))
def a6K(c:mask+1=2 ^ k)(h:Int)(s:Nat)(hs:s<=mask):∃r,r<mask+14/\(O2 mask (SetTable.bits h % (mask+1)) (SetTable.bits h) r).1=s:=by
 have b:=b6N h;have hi:=b5q mask (SetTable.bits h % (mask+1)) (SetTable.bits h) (eG (fv _ (eR _))) 13;have a:=b2P mask (SetTable.bits h % (mask+1)) (SetTable.bits h) 13;rw[Nat.div_eq_of_lt (aL b (by decide))]at a;obtain⟨n,d,e⟩:=b4p k (O2 mask (SetTable.bits h % (mask+1)) (SetTable.bits h) 13).1 s;refine⟨13+n,by omega,?_⟩;rw[<-c]at e;rw[a3q,a,a6J];show fI _ _ _=s;rw[b4t _ _ (by omega),e];exact cU (by omega)
def pos(mask:Nat)(h:Int)(n:Nat):Nat:=(C5 mask (st0 mask h) n).j
def b3j(b:mask+1=2 ^ k)(h:Int)(s:Nat)(hs:s<=mask):∃n,n<10*SetTable.turns mask/\pos mask h n=s:=by
 obtain⟨r,d,e⟩:=a6K b h s hs;obtain⟨n,c,a⟩:=b2R mask (SetTable.bits h % (mask+1)) (SetTable.bits h) r;refine⟨n,by unfold SetTable.turns;omega,?_⟩;unfold pos st0;rw[a,<-e];rfl
def a4g(xs:Array Nat)(j:Nat)(k:∀a b:Nat,a<b->b<xs.size->xs.getD a 0<xs.getD b 0):∀(fuel lo hi:Nat),hi-lo<=fuel->lo<=hi->hi<=xs.size->(∀i,i<lo->xs.getD i 0<j)->(∀i,hi<=i->i<xs.size->j<=xs.getD i 0) ->
  SetTable.below.go xs j fuel lo hi<=xs.size/\(∀i,i<SetTable.below.go xs j fuel lo hi->xs.getD i 0<j)/\∀i,SetTable.below.go xs j fuel lo hi<=i->i<xs.size->j<=xs.getD i 0
 |0,lo,hi,h1,h2,c,d,f=>by
  have:hi=lo:=by omega
  subst this;exact⟨c,d,f⟩
 |fuel+1,lo,hi,h1,h2,c,d,f=>by
  unfold SetTable.below.go;by_cases h:lo<hi
  .rw[az h];have n:(lo+hi) / 2<hi/\lo<=(lo+hi) / 2:=by omega
   have m:xs.getD ((lo+hi) / 2) j=xs.getD ((lo+hi) / 2) 0:=by
    have:(lo+hi) / 2<xs.size:=by omega
    simp[Array.getD,this]
   dsimp only;rw[m];by_cases g:xs.getD ((lo+hi) / 2) 0<j
   .rw[az g];refine a4g xs j k fuel _ _ (by omega) (by omega) c (λi l=>?_) f;by_cases e:i=(lo+hi) / 2
    .rw[e];exact g
    .exact fV (k i _ (by omega) (by omega)) g
   .rw[au g];refine a4g xs j k fuel _ _ (by omega) (by omega) (by omega) d (λi l hs=>?_);by_cases e:i=(lo+hi) / 2
    .rw[e];omega
    .have:=k ((lo+hi) / 2) i (by omega) hs;omega
  .rw[au h];have:hi=lo:=by omega
   subst this;exact⟨c,d,f⟩
def Ris(xs:Array Nat):Prop:=∀a b:Nat,a<b->b<xs.size->xs.getD a 0<xs.getD b 0
def J9(a:Ris xs)(j:Nat):SetTable.below xs j<=xs.size/\(∀i,i<SetTable.below xs j->xs.getD i 0<j)/\∀i,SetTable.below xs j<=i->i<xs.size->j<=xs.getD i 0 :=
 a4g xs j a xs.size 0 xs.size (by omega) (by omega) (ao _) (λi h=>absurd h (by omega)) (λi h1 h2=>absurd h2 (by omega))
def a1x(h:i<xs.size):xs[i]?=some (xs.getD i 0):=by simp[Array.getD,h]
def a1E(a:Ris xs)(h:xs[i]?=some j):SetTable.below xs j=i:=by
 obtain⟨d,b,c⟩:=J9 a j;have hi:i<xs.size:=(df.mp h).1;have e:xs.getD i 0=j:=by have:=a1x hi;rw[h]at this;injection this with this;exact this.symm
 rcases dn (SetTable.below xs j) i with z|z|z
 .have h1:=c _ (ao _) (by omega);have h2:=a _ _ z hi;omega
 .exact z
 .have:=b i z;omega
def a2h(a:Ris xs)(j:Nat):xs[SetTable.below xs j]?=some j↔j∈xs:=by
 constructor
 .intro h;exact Array.mem_of_getElem? h
 .intro h;obtain⟨i,hi⟩:=Array.mem_iff_getElem?.mp h;rw[a1E a hi];exact hi
def a9v(a:Ris t.place)(hd:t.dummies=#[])(j:Nat):t.slot j=if j∈t.place then .live (SetTable.below t.place j)else .empty:=by
 unfold SetTable.slot;dsimp only;by_cases h:j∈t.place
 .rw[az h,az];rw[(a2h a j).mpr h];simp
 .rw[au h,au,hd]
  .rw[au];unfold SetTable.has;simp
  .intro z;exact h ((a2h a j).mp (by simpa using z))
def a6Q{t:SetTable}(i:Ris t.place)(hd:t.dummies=#[])(a:Nat->Int)(h:Int):∀(fuel:Nat) (p:Pr),p.dummy=none->(∃n,n<fuel/\(C5 t.mask p n).j∉t.place) ->
  (∃n,(C5 t.mask p n).j∉t.place/\(∀m,m<n->(C5 t.mask p m).j∈t.place/\a (SetTable.below t.place (C5 t.mask p m).j)≠h)/\SetTable.probe.go t a h fuel p=some (.empty (C5 t.mask p n).j none)) ∨
  ∃n,(C5 t.mask p n).j∈t.place/\a (SetTable.below t.place (C5 t.mask p n).j)=h/\(∀m,m<n->(C5 t.mask p m).j∈t.place/\a (SetTable.below t.place (C5 t.mask p m).j)≠h)/\SetTable.probe.go t a h fuel p=some (.candidate (C5 t.mask p n).j (SetTable.below t.place (C5 t.mask p n).j) (C5 t.mask p (n+1)))
 |0,p,_,⟨n,g,_⟩=>absurd g (by omega)
 |fuel+1,p,c,⟨n,g,f⟩=>by
  unfold SetTable.probe.go;rw[a9v i hd];by_cases b:p.j∈t.place
  .rw[az b];dsimp only;by_cases d:a (SetTable.below t.place p.j)=h
   .right;refine⟨0,b,d,λm e=>absurd e (by omega),?_⟩;rw[az (by simpa using d)];rfl
   .have hn0:n≠0:=λz=>f (by rw[z];exact b);obtain⟨n,rfl⟩:∃k,n=k+1:=⟨n-1,by omega⟩;rw[K2]at f;rw[au (by simpa using d),b9K];have first:∀N,(∀m,m<N->(C5 t.mask (adv t.mask p) m).j∈t.place/\a (SetTable.below t.place (C5 t.mask (adv t.mask p) m).j)≠h)->∀m,m<N+1->(C5 t.mask p m).j∈t.place/\a (SetTable.below t.place (C5 t.mask p m).j)≠h:=λN j m e=>by
     cases m with
     |zero=>exact⟨b,d⟩
     |succ m=>rw[K2];exact j m (by omega)
    rcases a6Q i hd a h fuel (adv t.mask p) (by rw[<-c];exact a1H t.mask p 1) ⟨n,by omega,f⟩with⟨N,h1,h2,h3⟩|⟨N,h1,h2,h3,h4⟩
    .left;exact⟨N+1,by rw[K2];exact h1,first N h2,by rw[K2];exact h3⟩
    .right;exact⟨N+1,by rw[K2];exact h1,by rw[K2];exact h2,first N h3,by rw[K2,K2];exact h4⟩
  .rw[au b];left;refine⟨0,b,λm e=>absurd e (by omega),?_⟩;show some (SetTable.Met.empty p.j p.dummy)=_;rw[c];rfl
def a0h(xs:Array α)(p:Nat)(x:α)(hp:p<=xs.size):(SetTable.insertAt xs p x).toList=xs.toList.take p++x::xs.toList.drop p:=by
 unfold SetTable.insertAt;simp only[b_,cZ,eW,List.extract_eq_take_drop,dh,Nat.sub_zero,aJ,List.singleton_append];rw[bJ (l:=List.drop p xs.toList) (by simp)]
def ris_list:Ris xs↔xs.toList.Pairwise (· < ·):=by
 rw[ff];unfold Ris;constructor
 .intro h i j hi hj hij;have:=h i j hij (by simpa using hj);simpa[Array.getD,show i<xs.size by simpa using hi,show j<xs.size by simpa using hj]using this
 .intro h a b hab hb;have:=h a b (by simp;omega) (by simpa using hb) hab;simpa[Array.getD,show a<xs.size by omega,hb]using this
def a4O(h:i<xs.toList.length):xs.getD i 0=xs.toList[i]:=by
 have h':i<xs.size:=by simpa using h
 simp[Array.getD,h']
def b4Y(b:Ris xs){x:Nat}(h:x∈xs.toList.take (SetTable.below xs j)):x<j:=by
 obtain⟨c,a,d⟩:=J9 b j;obtain⟨i,hi,rfl⟩:=bS.mp h;rw[aU]at hi;rw[fC,<-a4O];exact a i (by omega)
def b0g(d:Ris xs){x:Nat}(c:j∉xs)(h:x∈xs.toList.drop (SetTable.below xs j)):j<x:=by
 obtain⟨e,f,b⟩:=J9 d j;have a:x∈xs:=by simpa using cB h
 obtain⟨i,hi,rfl⟩:=bS.mp h;rw[bI]at hi;rw[fD,<-a4O]at a⊢;have:=b (SetTable.below xs j+i) (by omega) (by simp at hi;omega);rcases Nat.lt_or_eq_of_le this with z|z
 .exact z
 .exact absurd (z ▸ a) c
def b5r(a:Ris xs)(c:j∉xs):Ris (SetTable.insertAt xs (SetTable.below xs j) j):=by
 rw[ris_list,a0h _ _ _ (J9 a j).1];have d:=ris_list.mp a;rw[bC,cK];refine⟨d.take,⟨λy b=>b0g a c b,d.drop⟩,λx e y b=>?_⟩;have h1:=b4Y a e;rcases aD.mp b with z|z
 .rw[z];exact h1
 .exact fV h1 (b0g a c z)
def a5M{p x:Nat}(hp:p<=xs.size):x∈SetTable.insertAt xs p j↔x=j∨x∈xs:=by
 rw[<-eS,a0h _ _ _ hp,aA,aD,<-eS];constructor
 .rintro(h|h|h)
  .exact .inr (bD h)
  .exact .inl h
  .exact .inr (cB h)
 .rintro(h|h)
  .exact .inr (.inl h)
  .rw[<-bp p xs.toList]at h;rcases aA.mp h with z|z
   .exact .inl z
   .exact .inr (.inr z)
def nodup_le{α:Type}[DecidableEq α]:∀(a b:qA α),a.Nodup->(∀x∈a,x∈b)->a.length<=b.length
 |[],b,_,_=>bq _
 |x::a,b,e,h=>by
  obtain⟨h1,h2⟩:=cq.mp e;have c:=h x ar;have:=nodup_le a (b.erase x) h2 λy d=>(List.mem_erase_of_ne (λz:y=x=>h1 (z ▸ d))).mpr (h y (aq _ d));rw[List.length_erase_of_mem c]at this;have:=List.length_pos_of_mem c;rw[aT];omega
structure TabOk{α:Type}(t:SetTable)(es:Array (Int×α)):Prop where
 size:t.place.size=es.size
 dum:t.dummies=#[]
 ris:Ris t.place
 le:∀j∈t.place,j<=t.mask
 pow:∃k,3<=k/\t.mask+1=2 ^ k
 room:es.size<=t.mask
 reach:∀(i j:Nat) (e:Int×α),t.place[i]?=some j->es[i]?=some e->∃n,pos t.mask e.1 n=j/\∀m,m<n->pos t.mask e.1 m∈t.place
def TabOk.free{es:Array (Int×α)}(h:TabOk t es)(x:Int):∃n,n<10*SetTable.turns t.mask/\pos t.mask x n∉t.place:=by
 obtain⟨k,_,e⟩:=h.pow;have:∃s,s<=t.mask/\s∉t.place:=by
  refine bN λd=>?_;have a:∀s,s<t.mask+1->s∈t.place.toList:=λs hs=>by
   refine bN λz=>d ⟨s,by omega,λq=>z (by simpa using q)⟩
  have:=nodup_le (List.range (t.mask+1)) t.place.toList fK λs hs=>a s (aZ.mp hs);rw[dO,ay,h.size]at this;have:=h.room;omega
 obtain⟨s,hs,f⟩:=this;obtain⟨n,b,c⟩:=b3j e x s hs;exact⟨n,b,by rw[c];exact f⟩
def TabOk.first{es:Array (Int×α)}(h:TabOk t es)(x:Int):∃N,N<10*SetTable.turns t.mask/\pos t.mask x N∉t.place/\∀m,m<N->pos t.mask x m∈t.place:=by
 obtain⟨n,d,c⟩:=h.free x;induction n using Nat.strongRecOn with
 |ind n e =>
  by_cases b:∃m,m<n/\pos t.mask x m∉t.place
  .obtain⟨m,a,hm2⟩:=b;exact e m a (by omega) hm2
  .exact⟨n,d,c,λm a=>bN λz=>b ⟨m,a,z⟩⟩
def b0b{xs:Array α}{p:Nat}{x:α}(hp:p<=xs.size)(i:Nat):(SetTable.insertAt xs p x)[i]?=if i<p then xs[i]? else if i=p then some x else xs[i-1]?:=by
 rw[<-av,a0h _ _ _ hp];by_cases h1:i<p
 .rw[az h1,bx (by rw[aU,ay];omega),dj h1,av]
 .rw[au h1,bh (by rw[aU,ay];omega),aU,ay,c_ hp];by_cases h2:i=p
  .rw[az h2,h2,Nat.sub_self];rfl
  .rw[au h2];obtain⟨c,a⟩:∃c,i-p=c+1:=⟨i-p-1,by omega⟩;rw[a,List.getElem?_cons_succ,fj,av];congr 1;omega
def TabOk.add{es:Array (Int×α)}(h:TabOk t es){x:Int}{v:α}{N:Nat}(h1:pos t.mask x N∉t.place)(h2:∀m,m<N->pos t.mask x m∈t.place)(l:pos t.mask x N<=t.mask)(d:es.size<t.mask) :
  TabOk (t.put (pos t.mask x N)).1 (SetTable.insertAt es (t.put (pos t.mask x N)).2 (x,v)):=by
 have g:=(J9 h.ris (pos t.mask x N)).1;have hd:(t.put (pos t.mask x N)).1.dummies=#[]:=by
  show(if SetTable.has t.dummies (pos t.mask x N)=true then _ else t.dummies)=#[];rw[h.dum,au];unfold SetTable.has;simp
 have c:SetTable.below t.place (pos t.mask x N)<=es.size:=by rw[<-h.size];exact g
 have f:∀{β:Type}(xs:Array β) (p:Nat) (y:β),p<=xs.size->(SetTable.insertAt xs p y).size=xs.size+1:=λxs p y u=>by
  rw[<-ay,a0h _ _ _ u,ax,aT,aU,bI,ay];omega
 refine⟨?_,hd,b5r h.ris h1,λj s=>?_,h.pow,?_,λi j e b a=>?_⟩
 .show(SetTable.insertAt t.place (SetTable.below t.place (pos t.mask x N)) _).size=(SetTable.insertAt es (SetTable.below t.place (pos t.mask x N)) _).size;rw[f _ _ _ g,f _ _ _ c,h.size]
 .rcases(a5M g).mp s with z|z
  .rw[z];exact l
  .exact h.le j z
 .show(SetTable.insertAt es (SetTable.below t.place (pos t.mask x N)) _).size<=t.mask;rw[f _ _ _ c];exact d
 .change (SetTable.insertAt t.place (SetTable.below t.place (pos t.mask x N)) (pos t.mask x N))[i]?=some j at b;change (SetTable.insertAt es (SetTable.below t.place (pos t.mask x N)) (x,v))[i]?=some e at a;rw[b0b g]at b;rw[b0b c]at a;show ∃n,pos t.mask e.1 n=j/\∀m,m<n->pos t.mask e.1 m∈SetTable.insertAt t.place (SetTable.below t.place (pos t.mask x N)) (pos t.mask x N);have old:∀k,t.place[k]?=some j->es[k]?=some e->∃n,pos t.mask e.1 n=j/\∀m,m<n->pos t.mask e.1 m∈SetTable.insertAt t.place (SetTable.below t.place (pos t.mask x N)) (pos t.mask x N):=λk B C=>by
   obtain⟨n,w,A⟩:=h.reach k j e B C;exact⟨n,w,λm o=>(a5M g).mpr (.inr (A m o))⟩
  by_cases q:i<SetTable.below t.place (pos t.mask x N)
  .rw[az q]at b a;exact old i b a
  .rw[au q]at b a;by_cases r:i=SetTable.below t.place (pos t.mask x N)
   .rw[az r]at b a;cases b;cases a;exact⟨N,rfl,λm o=>(a5M g).mpr (.inr (h2 m o))⟩
   .rw[au r]at b a;exact old _ b a
def a4D(hi:i<=mask):SetTable.runEnd mask i<=mask:=by
 unfold SetTable.runEnd;split<;>omega
def b2k(mask:Nat)(p:Pr)(h:p.j+p.more<=mask):∀n,(C5 mask p n).j+(C5 mask p n).more<=mask
 |0=>h
 |n+1=>by
  have b:=b2k mask p h n;rw[C5];unfold adv;split
  .dsimp only;omega
  .dsimp only;have h1:(SetTable.leap mask (C5 mask p n).i (C5 mask p n).perturb).1<=mask:=eG (fv _ (eR _));have h2:=a4D h1;have a:(SetTable.leap mask (C5 mask p n).i (C5 mask p n).perturb).1<=SetTable.runEnd mask (SetTable.leap mask (C5 mask p n).i (C5 mask p n).perturb).1:=by
    unfold SetTable.runEnd;split<;>omega
   omega
def a1N(mask:Nat)(h:Int)(n:Nat):pos mask h n<=mask:=by
 have h1:SetTable.bits h % (mask+1)<=mask:=eG (fv _ (eR _));have h2:=a4D h1;have a:SetTable.bits h % (mask+1)<=SetTable.runEnd mask (SetTable.bits h % (mask+1)):=by
  unfold SetTable.runEnd;split<;>omega
 have:=b2k mask (st0 mask h) (by show SetTable.bits h % (mask+1)+(SetTable.runEnd mask (SetTable.bits h % (mask+1))-SetTable.bits h % (mask+1))<=mask;omega) n;unfold pos;omega
def fr(owner:Array (qJ))(j:Nat):Bool:=(owner.getD j (some 0)).isNone
def b0d(mask:Nat)(owner:Array (qJ)):∀(fuel i pt:Nat),(∃r,r<fuel/\fr owner (O2 mask i pt r).1=true) ->
  ∃n,fr owner (C5 mask (a1M mask i pt) n).j=true/\(∀m,m<n->fr owner (C5 mask (a1M mask i pt) m).j=false)/\SetTable.layClean.free mask owner fuel i pt=some (C5 mask (a1M mask i pt) n).j
 |0,_,_,⟨r,h,_⟩=>absurd h (by omega)
 |fuel+1,i,pt,⟨r,h,b⟩=>by
  unfold SetTable.layClean.free;have q:i<=SetTable.runEnd mask i:=by
   unfold SetTable.runEnd;split<;>omega
  cases e:(List.range (SetTable.runEnd mask i+1-i)).find? (λk=>(owner.getD (i+k) (some 0)).isNone)with
  |some k =>
   dsimp only;rw[List.find?_range_eq_some]at e;obtain⟨j,l,o⟩:=e;have s:=aZ.mp l;refine⟨k,?_,λm d=>?_,?_⟩
   .rw[a1Z mask i pt k (by omega)];exact j
   .rw[a1Z mask i pt m (by omega)];have:=o m d;simpa[fr]using this
   .rw[a1Z mask i pt k (by omega)]
  |none =>
   dsimp only;rw[List.find?_range_eq_none]at e;have a:∀m,m<SetTable.runEnd mask i-i+1->fr owner (C5 mask (a1M mask i pt) m).j=false:=λm d=>by
    rw[a1Z mask i pt m (by omega)];have:=e m (by omega);simpa[fr]using this
   cases r with
   |zero =>
    have:=a 0 (by omega);rw[show(C5 mask (a1M mask i pt) 0).j=(O2 mask i pt 0).1 from rfl,b]at this;cases this
   |succ r =>
    have c:fr owner (O2 mask (SetTable.leap mask i pt).1 (SetTable.leap mask i pt).2 r).1=true:=by
     rw[Nat.add_comm,a3q]at b;exact b
    obtain⟨n,h1,h2,p⟩:=b0d mask owner fuel (SetTable.leap mask i pt).1 (SetTable.leap mask i pt).2 ⟨r,by omega,c⟩;have key:∀m,C5 mask (a1M mask i pt) (SetTable.runEnd mask i-i+1+m)=C5 mask (a1M mask (SetTable.leap mask i pt).1 (SetTable.leap mask i pt).2) m:=λm=>by
     rw[a1b,a6X]
    refine⟨SetTable.runEnd mask i-i+1+n,by rw[key];exact h1,λm d=>?_,by rw[key];exact p⟩;by_cases f:m<SetTable.runEnd mask i-i+1
    .exact a m f
    .obtain⟨g,rfl⟩:∃g,m=SetTable.runEnd mask i-i+1+g:=⟨m-(SetTable.runEnd mask i-i+1),by omega⟩;rw[key];exact h2 g (by omega)
structure Lay(mask:Nat)(owner:Array (qJ))(hs:qI):Prop where
 size:owner.size=mask+1
 val:∀j q:Nat,owner[j]?=some (some q)->∃h,hs[q]?=some h/\∃n,pos mask h n=j/\∀m,m<n->fr owner (pos mask h m)=false
 ex:∀q,q<hs.length->∃j:Nat,owner[j]?=some (some q)
 uniq:∀j j' q:Nat,owner[j]?=some (some q)->owner[j']?=some (some q)->j=j'
def a0i(hs:owner.size=mask+1)(a:j<=mask):fr owner j=false↔∃q,owner[j]?=some (some q):=by
 have h:j<owner.size:=by omega
 unfold fr;rw[bG h,show owner.getD j (some 0)=owner[j] by simp[Array.getD,h]];cases owner[j]with
 |none=>simp
 |some q=>simp
def Lay.start(mask:Nat):Lay mask (Array.replicate (mask+1) none) []:=by
 refine⟨by simp,λj q h=>?_,λq h=>absurd h (by simp),λj a q h=>?_⟩<;>
 .rw[Array.getElem?_replicate]at h;split at h
  .cases h
  .cases h
def Lay.free(z:mask+1=2 ^ k){hs:qI}(L:Lay mask owner hs)(A:hs.length<=mask)(h:Int):∃n,fr owner (pos mask h n)=true/\(∀m,m<n->fr owner (pos mask h m)=false)/\SetTable.layClean.free mask owner (SetTable.turns mask) (SetTable.bits h % (mask+1)) (SetTable.bits h)=some (pos mask h n):=by
 have:∃s,s<=mask/\fr owner s=true:=by
  refine bN λl=>?_;have c:∀s:Nat,s<=mask->∃q,owner[s]?=some (some q):=λs hs=>by
   rw[<-a0i L.size hs];cases e:fr owner s with
   |false=>rfl
   |true=>exact absurd ⟨s,hs,e⟩ l
  have:=nodup_le ((List.range (mask+1)).map λj=>(owner.getD j none).getD 0) (List.range hs.length) ?_ ?_
  .rw[aj,dO,dO]at this;omega
  .rw[eZ,cx];refine(eZ.mp fK).imp_of_mem λ{a b} v w i e=>i ?_;obtain⟨q,d⟩:=c a (by have:=aZ.mp v;omega);obtain⟨t,f⟩:=c b (by have:=aZ.mp w;omega);have g:owner.getD a none=some q:=by rw[bV,d];rfl
   have u:owner.getD b none=some t:=by rw[bV,f];rfl
   rw[g,u]at e;change q=t at e;exact L.uniq a b q d (e ▸ f)
  .intro x hx;obtain⟨j,y,rfl⟩:=aM.mp hx;obtain⟨q,d⟩:=c j (by have:=aZ.mp y;omega);obtain⟨h',h1,_⟩:=L.val j q d;have g:owner.getD j none=some q:=by rw[bV,d];rfl
   rw[g];exact aZ.mpr (aG.mp h1).1
 obtain⟨s,o,p⟩:=this;obtain⟨r,B,e⟩:=a6K z h s o;exact b0d mask owner _ _ _ ⟨r,by unfold SetTable.turns;omega,by rw[e];exact p⟩
def Lay.put{hs:qI}(L:Lay mask owner hs){h:Int}{n:Nat}(h1:fr owner (pos mask h n)=true)(h2:∀m,m<n->fr owner (pos mask h m)=false):Lay mask (owner.setIfInBounds (pos mask h n) (some hs.length)) (hs++[h]):=by
 have p:pos mask h n<owner.size:=by have:=a1N mask h n;rw[L.size];omega
 have i:∀q,owner[pos mask h n]?≠some (some q):=λq z=>by
  have:=(a0i L.size (a1N mask h n)).mpr ⟨q,z⟩;rw[h1]at this;cases this
 have get:∀j:Nat,(owner.setIfInBounds (pos mask h n) (some hs.length))[j]?=if j=pos mask h n then some (some hs.length)else owner[j]?:=λj=>by
  rw[Array.getElem?_setIfInBounds];by_cases e:pos mask h n=j
  .rw[az e,az e.symm,az p]
  .rw[au e,au λz=>e z.symm]
 have d:(owner.setIfInBounds (pos mask h n) (some hs.length)).size=mask+1:=by rw[fo,L.size]
 have keep:∀j,j<=mask->fr owner j=false->fr (owner.setIfInBounds (pos mask h n) (some hs.length)) j=false:=λj b e=>by
  rw[a0i d b,get];split
  .exact⟨_,rfl⟩
  .exact(a0i L.size b).mp e
 refine⟨d,λj q e=>?_,λq r=>?_,λj k q e a=>?_⟩
 .rw[get]at e;by_cases c:j=pos mask h n
  .rw[az c]at e;cases e;exact⟨h,by rw[bh (ao _),Nat.sub_self];rfl,n,c.symm,λm g=>keep _ (a1N mask h m) (h2 m g)⟩
  .rw[au c]at e;obtain⟨h',f,s,l,o⟩:=L.val j q e;exact⟨h',by rw[bx (aG.mp f).1];exact f,s,l,λm g=>keep _ (a1N mask h' m) (o m g)⟩
 .by_cases c:q=hs.length
  .exact⟨pos mask h n,by rw[get,az rfl,c]⟩
  .rw[ax,fL]at r;obtain⟨j,b⟩:=L.ex q (by omega);refine⟨j,?_⟩;rw[get,au]
   .exact b
   .intro z;exact i q (z ▸ b)
 .rw[get]at e a;have lt:∀j:Nat,owner[j]?=some (some q)->q<hs.length:=λj z=>by
   obtain⟨_,f,_⟩:=L.val j q z;exact(aG.mp f).1
  by_cases c:j=pos mask h n
  .by_cases c':k=pos mask h n
   .rw[c,c']
   .rw[az c]at e;rw[au c']at a;cases e;exact absurd (lt _ a) (by omega)
  .by_cases c':k=pos mask h n
   .rw[au c]at e;rw[az c']at a;cases a;exact absurd (lt _ e) (by omega)
   .rw[au c]at e;rw[au c']at a;exact L.uniq j k q e a
def a7e{mask k:Nat}(d:mask+1=2 ^ k):∀(rest done:qI) (owner:Array (qJ)),Lay mask owner done->done.length+rest.length<=mask ->
  ∃a,rest.foldl (λqN h=>do
   let (owner,k) <-qN
   let j <-SetTable.layClean.free mask owner (SetTable.turns mask) (SetTable.bits h % (mask+1)) (SetTable.bits h)
   pure (owner.setIfInBounds j (some k),k+1)) (some (owner,done.length))=some (a,(done++rest).length)/\Lay mask a (done++rest)
 |[],done,owner,L,_=>⟨owner,by simp,by simpa using L⟩
 |h::rest,done,owner,L,f=>by
  rw[aT]at f;obtain⟨n,h1,h2,e⟩:=L.free d (by omega) h;obtain⟨a,b,c⟩:=a7e d rest (done++[h]) _ (L.put h1 h2) (by rw[ax,fL];omega);refine⟨a,?_,by rw[aJ]at c;exact c⟩;rw[dH];rw[aJ]at b;refine Eq.trans (aR (λz=>List.foldl _ z rest) ?_) b;show(Option.bind (SetTable.layClean.free mask owner (SetTable.turns mask) (SetTable.bits h % (mask+1)) (SetTable.bits h)) λj=>some (owner.setIfInBounds j (some done.length),done.length+1))=_;rw[e,ax];rfl
def a7f(d:mask+1=2 ^ k)(a:Array Int)(e:a.size<=mask):∃owner,SetTable.layClean mask a=some owner/\Lay mask owner a.toList:=by
 obtain⟨owner,b,c⟩:=a7e d a.toList [] _ (Lay.start mask) (by simpa using e);refine⟨owner,?_,c⟩;unfold SetTable.layClean;rw[<-Array.foldl_toList];exact aR (Option.map (·.1)) b
def a8J{α β:Type}(f:α->qD β):∀l:qA α,(∀x∈l,(f x).isSome=true)->(l.filterMap f).map some=l.map f
 |[],_=>rfl
 |x::l,h=>by
  have c:=a8J f l λy b=>h y (aq _ b);have a:=h x ar;cases e:f x with
  |none=>rw[e]at a;cases a
  |some y=>rw[List.filterMap_cons_some e,aW,aW,c,e]
def b2W(es:Array α):(List.range es.size).filterMap (es[·]?)=es.toList:=by
 have h1:((List.range es.size).filterMap (es[·]?)).map some=(List.range es.size).map (es[·]?):=a8J _ _ λq a=>by
  have:=aZ.mp a;simp[this]
 have h2:es.toList.map some=(List.range es.size).map (es[·]?):=by
  refine dg (by simp) λi h1 h2=>?_;simp at h1;simp[h1]
 exact(List.map_inj_right (λ_ _ h=>bK h)).mp (h1.trans h2.symm)
def D9(mask:Nat)(owner:Array (qJ)):qA (Nat×Nat):=(List.range (mask+1)).filterMap λj=>(owner.getD j none).map (j,·)
def P0(hs:owner.size=mask+1)(j q:Nat):(j,q)∈D9 mask owner↔owner[j]?=some (some q):=by
 unfold D9;rw[cj];constructor
 .rintro⟨j',a,e⟩;have a:=aZ.mp a;rw[eB]at e;obtain⟨f,b,c⟩:=e;cases c;rw[bV,bG (by omega)]at b;rw[bG (by omega)];exact aR some b
 .intro e;have d:j<owner.size:=(df.mp e).1;exact⟨j,aZ.mpr (by omega),by rw[bV,e];rfl⟩
def b3O(mask:Nat)(owner:Array (qJ)):(D9 mask owner).Pairwise λa b=>a.1<b.1:=by
 unfold D9;refine List.Pairwise.filterMap _ (λa b c p d q e=>?_) List.pairwise_lt_range;rw[eB]at d e;obtain⟨_,_,rfl⟩:=d;obtain⟨_,_,rfl⟩:=e;exact c
def b6q(F:mask+1=2 ^ k)(J:3<=k)(es:Array (Int×α))(G:es.size<=mask)(finger moves:Nat)(led plain:Bool) :
  ∃t' d,SetTable.laid mask finger moves led plain (es.map (·.1))=some (t',d)/\t'.mask=mask/\t'.led=led/\t'.plain=plain/\TabOk t' (d.filterMap (es[·]?))/\(d.filterMap (es[·]?)).toList.Perm es.toList:=by
 obtain⟨c,e,L⟩:=a7f F (es.map (·.1)) (by simpa using G);refine⟨{mask,place:=((D9 mask c).map (·.1)).toArray,dummies:=#[],finger,led,moves,plain},((D9 mask c).map (·.2)).toArray,?_,rfl,rfl,rfl,?_⟩
 .unfold SetTable.laid;rw[e];rfl
 have B:∀p∈D9 mask c,p.2<es.size:=λp o=>by
  obtain⟨h,h1,_⟩:=L.val p.1 p.2 ((P0 L.size p.1 p.2).mp o);have:=(aG.mp h1).1;simpa using this
 have w:=b3O mask c;have nd:((D9 mask c).map (·.2)).Nodup:=by
  rw[eZ,cx];refine w.imp_of_mem λ{a b} K N M z=>?_;have h1:=(P0 L.size a.1 a.2).mp K;have h2:=(P0 L.size b.1 b.2).mp N;rw[z]at h1;have:=L.uniq _ _ _ h1 h2;omega
 have g:∀q,q∈(D9 mask c).map (·.2)↔q∈List.range es.size:=λq=>by
  rw[aZ];constructor
  .intro u;obtain⟨p,o,rfl⟩:=aM.mp u;exact B p o
  .intro u;obtain⟨j,s⟩:=L.ex q (by simpa using u);exact aM.mpr ⟨(j,q),(P0 L.size j q).mpr s,rfl⟩
 have perm:((D9 mask c).map (·.2)).Perm (List.range es.size):=(List.perm_ext_iff_of_nodup nd fK).mpr g;have r:∀l:qA Nat,(l.toArray.filterMap (es[·]?)).toList=l.filterMap (es[·]?):=λl=>by simp
 have f:(((D9 mask c).map (·.2)).filterMap (es[·]?)).map some=((D9 mask c).map (·.2)).map (es[·]?):=a8J _ _ λq u=>by
  have:=aZ.mp ((g q).mp u);simp[this]
 have v:(((D9 mask c).map (·.2)).toArray.filterMap (es[·]?)).size=(D9 mask c).length:=by
  have:=aR List.length f;rw[aj,aj,aj]at this;rw[<-ay,r];exact this
 have t:(D9 mask c).length=es.size:=by
  have:=perm.length_eq;rw[aj,dO]at this;exact this
 refine⟨⟨?_,rfl,?_,λj s=>?_,⟨k,J,F⟩,by rw[v,t];exact G,λi j A x E=>?_⟩,?_⟩
 .rw[v];simp
 .rw[ris_list];show((D9 mask c).map (·.1)).Pairwise (· < ·);rw[cx];exact w
 .have s:j∈(D9 mask c).map (·.1):=by simpa using s
  obtain⟨p,o,rfl⟩:=aM.mp s;have:=(df.mp ((P0 L.size p.1 p.2).mp o)).1;rw[L.size]at this;show p.1<=mask;omega
 .have x:((D9 mask c).map (·.1))[i]?=some j:=by simpa using x
  rw[<-av,r]at E;rw[aV,eB]at x;obtain⟨p,o,rfl⟩:=x;have h1:=aR (λl=>l[i]?) f;simp only[aV,E,o,fe]at h1;injection h1 with h1
  have C:=(P0 L.size p.1 p.2).mp (aH o);obtain⟨h,y,n,H,I⟩:=L.val p.1 p.2 C;have O:h=A.1:=by
   rw[av,Array.getElem?_map,<-h1]at y;injection y with y
   exact y.symm
  rw[O]at H I;refine⟨n,H,λm P=>?_⟩;obtain⟨Q,D⟩:=(a0i L.size (a1N mask _ m)).mp (I m P);have:pos mask A.1 m∈(D9 mask c).map (·.1):=aM.mpr ⟨_,(P0 L.size _ Q).mpr D,rfl⟩;show pos mask A.1 m∈((D9 mask c).map (·.1)).toArray;simpa using this
 .rw[r];refine(perm.filterMap _).trans (List.Perm.of_eq ?_);exact b2W es
def a9w(n:Nat):∀(fuel a:Nat),3<=a->n<2 ^ (a+fuel)->∃b,3<=b/\SetTable.sizeAbove.go n fuel (2 ^ a)=2 ^ b/\n<2 ^ b/\(b=a∨2 ^ b<=2*n)
 |0,a,c,h=>⟨a,c,rfl,h,.inl rfl⟩
 |fuel+1,a,c,h=>by
  unfold SetTable.sizeAbove.go;by_cases d:2 ^ a<=n
  .rw[az d,<-dk];obtain⟨b,e,f,g,i⟩:=a9w n fuel (a+1) (by omega) (by rw[d_,Nat.add_comm 1];exact h);refine⟨b,e,f,g,.inr ?_⟩;rcases i with z|z
   .rw[z,dk];omega
   .exact z
  .rw[au d];exact⟨a,c,rfl,by omega,.inl rfl⟩
def a1j(n:Nat)(h:n<2 ^ 60):∃b,3<=b/\SetTable.sizeAbove n=2 ^ b/\n<2 ^ b/\(b=3∨2 ^ b<=2*n) :=
 a9w n 64 3 (ao _) (aL h (by decide))
def b0S(t:SetTable)(es:Array (Int×α))(a:Nat)(hw:a<2 ^ 60)(m:es.size<a) :
  ∃t' c,t.relaid (es.map (·.1)) a=some (t',c)/\a<=t'.mask/\t'.mask<=2*a+7/\t'.led=t.led/\t'.plain=t.plain/\TabOk t' (c.filterMap (es[·]?))/\(c.filterMap (es[·]?)).toList.Perm es.toList:=by
 obtain⟨b,d,e,l,f⟩:=a1j a hw;have n:0<2 ^ b:=Nat.pow_pos (by decide);unfold SetTable.relaid;rw[e];obtain⟨t',c,h1,h2,g,h,i,j⟩:=b6q (mask:=2 ^ b-1) (k:=b) (by omega) d es (by omega) t.finger (t.movedTo (2 ^ b-1)) t.led t.plain;refine⟨t',c,h1,by rw[h2];omega,?_,g,h,i,j⟩;rw[h2];rcases f with z|z
 .rw[z];omega
 .omega
end Tab
end L2
namespace L2
variable {Q:Bool->qC->Prop}{a:qE}{r:qI}
namespace Tab
open PySem
section
variable {prog:qG}{w:World}{A:Around}{E:qH}{s:qC}
abbrev TK(prog:qG)(w:World)(h:Heap)(r:qI)(a:qE):Prop:=IsTupleKey (intKind prog w) h r a
def TK.keep{h h':Heap}(x:TK prog w h r a)(k:∀b o,h.get? b=some o->h'.get? b=some o):TK prog w h' r a:=by
 obtain⟨o,its,n,h1,h2⟩:=x;exact⟨o,its,n,k _ _ h1,h2⟩
def items_int{vs:qA qB}(h:ItemsAre (intKind prog w) r vs):∀v∈vs,∃i t,v=.int i t:=by
 induction h with
 |nil=>intro v b;cases b
 |@cons k v ks vs h1 _ c =>
  intro u a;rcases aD.mp a with e|a
  .obtain⟨t,ht⟩:=Value.isInt_shape h1;exact⟨k,t,e.trans ht⟩
  .exact c u a
def a6V(e:TK prog w s.heap r a)(h:Q false s):wpAny (model prog w) A (ofAClassStatement 8 (.ref a)) Q E s:=by
 have f:=e.typeIs;obtain⟨o,d,n,g,_,hd,hi⟩:=e;have c:=items_int hi;unfold ofAClassStatement;refine aa (dz f ?_);dsimp only;rw[az (by decide)];refine aa (ae ?_);rw[au (by decide)];refine aa (cN g hd ?_);dsimp only;refine aa ?_;rw[<-Array.forIn_toList];refine wpAny_forIn_list _ (λrest b s'=>s'=s/\b.1=none/\∀v∈rest,∃i t,v=Value.int i t) _ ?_ ?_ _ _ ⟨rfl,rfl,c⟩
 .rintro x rest b s' ⟨rfl,hb,hr⟩;obtain⟨i,t,rfl⟩:=hr x ar;refine aa (m:=ofAClassStatement 7 (.int i t)) (ae ?_);rw[au (by decide)];exact ae ⟨rfl,rfl,λv j=>hr v (aq _ j)⟩
 .rintro b s' ⟨rfl,hb,_⟩;rw[hb];exact ae h
def b4J(e:TK prog w s.heap r a)(h:Q true s):wpAny (model prog w) A (hashByValue 8 (.ref a)) Q E s:=by
 have f:=e.typeIs;obtain⟨o,c,n,g,_,hd,hi⟩:=e;have d:=items_int hi;unfold hashByValue;refine aa (wpAny_specialOf f F.slot_tuple_hash.lookup ?_);dsimp only;refine aa (cN g hd ?_);refine aa ?_;show wpAny _ _ (forIn c _ _) _ _ _;rw[<-Array.forIn_toList];refine wpAny_forIn_list _ (λrest b s'=>s'=s/\b.1=none/\∀v∈rest,∃i t,v=Value.int i t) _ ?_ ?_ _ _ ⟨rfl,rfl,d⟩
 .rintro x rest b s' ⟨rfl,hb,hr⟩;obtain⟨i,t,rfl⟩:=hr x ar;refine aa (m:=hashByValue 7 (.int i t)) (ae ?_);rw[au (by decide)];exact ae ⟨rfl,rfl,λv j=>hr v (aq _ j)⟩
 .rintro b s' ⟨rfl,hb,_⟩;rw[hb];exact ae h
def b3K{b:qE}{l:qA qB}(f:TK prog w s.heap r b)(g:∀y∈l,∃a b',y=.ref b'/\TK prog w s.heap a b')(h:Q false s):wpAny (model prog w) A (searchCouldBeSeen (.ref b) l) Q E s:=by
 unfold searchCouldBeSeen;refine aa ?_;refine wpAny_forIn_list _ (λrest c s'=>s'=s/\c.1=none/\∀y∈rest,∃a b',y=.ref b'/\TK prog w s.heap a b') _ ?_ ?_ _ _ ⟨rfl,rfl,g⟩
 .rintro x rest c s' ⟨rfl,hc,hr⟩;obtain⟨a,b',rfl,d⟩:=hr x ar;have e:∀y∈rest,∃a b',y=.ref b'/\TK prog w s'.heap a b':=λv i=>hr v (aq _ i);dsimp only;split
  .exact ae ⟨rfl,rfl,e⟩
  .refine aa ((tupleKind (intKind prog w)).quiet f ?_);rw[au (by decide)];refine aa ((tupleKind (intKind prog w)).quiet d ?_);rw[au (by decide)];refine aa (a6V f ?_);rw[au (by decide)];refine aa (a6V d ?_);rw[au (by decide)];exact ae ⟨rfl,rfl,e⟩
 .rintro c s' ⟨rfl,hc,_⟩;dsimp only;rw[hc];exact ae h
def hsh(prog:qG)(w:World)(r:qI):Int:=tupleKeyHash (intKind prog w) r
def ent(prog:qG)(w:World)(x:qI×qE):Int×qB:=(hsh prog w x.1,Value.ref x.2)
def J7{α:Type}{t:SetTable}{es:Array (Int×α)}(ok:TabOk t es):t.fits es.size=true:=by
 unfold SetTable.fits SetTable.fill;have:=ok.room;simp[ok.size,ok.dum,this]
def b8S{α:Type}{t:SetTable}{es:Array (Int×α)}(ok:TabOk t es):t.gaveWay=false:=by
 obtain⟨k,b,a⟩:=ok.pow;obtain⟨c,rfl⟩:∃c,k=c+1:=⟨k-1,by omega⟩;rw[dk]at a;unfold SetTable.gaveWay;have:t.mask % 2=1:=by omega
 rw[this];rfl
def b3Q{c:Bool}{m:Sem Bool}{X Y:Sem SetFound}{Q:SetFound->qC->Prop}(b:∀a:Bool->qC->Prop,a false s->wpAny (model prog w) A m a E s)(h:wpAny (model prog w) A Y Q E s):wpAny (model prog w) A (if c=true then m>>=λz=>if z=true then X else Y else Y) Q E s:=by
 split
 .refine aa (b _ ?_);rw[au (by decide)];exact h
 .exact h
def a4B{a b:qE}{r:qI}{o:Obj}{es:Array (Int×qB)}{ep:Nat}{t:SetTable}{xs:qA (qI×qE)}{Q:SetFound->qC->Prop}(S:s.heap.get? a=some o)(hd:o.data=.set es ep t)(ok:TabOk t es)
  (F:∀e∈es.toList,∃x∈xs,e=ent prog w x) (M:∀x∈xs,ent prog w x∈es.toList) (g:∀x∈xs,TK prog w s.heap x.1 x.2) (R:TK prog w s.heap r b) (X:A.units<cLine) {N:Nat}(hN:N<10*SetTable.turns t.mask) (j:pos t.mask (hsh prog w r) N∉t.place) (q:∀m,m<N->pos t.mask (hsh prog w r) m∈t.place)
  (J:r∈xs.map (·.1)->Q (.there none) s) (B:r∉xs.map (·.1)->Q (.free (pos t.mask (hsh prog w r) N) false) s) :
  ∀(fuel d:Nat) (st:qD SetTable.Probe),N-d<fuel->d<=N->st.getD (t.probeStart (hsh prog w r))=C5 t.mask (st0 t.mask (hsh prog w r)) d->(∀m,m<d->∀(i:Nat) (x:qI×qE),x∈xs->t.place[i]?=some (pos t.mask (hsh prog w r) m)->es[i]?=some (ent prog w x)->x.1≠r) ->
   wpAny (model prog w) A (setSearchFrom a (.ref b) (hsh prog w r) true fuel st) Q E s
 |0,d,st,h,_,_,_=>absurd h (by omega)
 |fuel+1,d,st,hf,a2,U,L=>by
  unfold setSearchFrom;refine aa (cy S hd (J7 ok) ?_);dsimp only;rw[b8S ok,au (by decide),U];have f:∀m,(C5 t.mask (C5 t.mask (st0 t.mask (hsh prog w r)) d) m).j=pos t.mask (hsh prog w r) (d+m):=λm=>by rw[<-a1b];rfl
  have W:∀(i:Nat) (e:Int×qB),es[i]?=some e->(es[i]?.map (·.1)).getD 0=e.1:=λi e z=>by rw[z];rfl
  have O:∀n,d+n<N↔pos t.mask (hsh prog w r) (d+n)∈t.place/\∀m,m<n->pos t.mask (hsh prog w r) (d+m)∈t.place:=λn=>by
   constructor
   .intro h;exact⟨q _ h,λm K=>q _ (by omega)⟩
   .rintro⟨h1,h2⟩;rcases dn (d+n) N with z|z|z
    .exact z
    .rw[z]at h1;exact absurd h1 j
    .have:=h2 (N-d) (by omega);rw[show d+(N-d)=N by omega]at this;exact absurd this j
  rcases a6Q ok.ris ok.dum (λi=>(es[i]?.map (·.1)).getD 0) (hsh prog w r) (10*SetTable.turns t.mask) (C5 t.mask (st0 t.mask (hsh prog w r)) d) (by rw[a1H];rfl) ⟨N-d,by omega,by rw[f,show d+(N-d)=N by omega];exact j⟩with⟨n,h1,h2,h3⟩|⟨n,h1,h2,h3,h4⟩
  .have h3:t.probe (λi=>(es[i]?.map (·.1)).getD 0) (hsh prog w r) (C5 t.mask (st0 t.mask (hsh prog w r)) d)=_:=h3;erw [h3];dsimp only;rw[f]at h1⊢;have e:d+n=N:=by
    rcases dn (d+n) N with z|z|z
    .exact absurd (q _ z) h1
    .exact z
    .have:=(h2 (N-d) (by omega)).1;rw[f,show d+(N-d)=N by omega]at this;exact absurd this j
   rw[e];refine ae (B λK=>?_);obtain⟨x,H,rfl⟩:=aM.mp K;obtain⟨i,hi⟩:=ck.mp (M x H);rw[av]at hi;have u:i<t.place.size:=by rw[ok.size];exact(df.mp hi).1
   obtain⟨p,Y,Z⟩:=ok.reach i _ _ (a1x u) hi;change pos t.mask (hsh prog w x.1) p=_ at Y;change ∀m,m<p->pos t.mask (hsh prog w x.1) m∈t.place at Z;have k:t.place[i]?=some (pos t.mask (hsh prog w x.1) p):=by rw[Y];exact a1x u
   have a1:p<N:=by
    rcases dn p N with z|z|z
    .exact z
    .rw[z]at k;exact absurd (Array.mem_of_getElem? k) j
    .exact absurd (Z N z) j
   by_cases c:p<d
   .exact L p c i x H k hi rfl
   .have C:=(h2 (p-d) (by omega)).2;rw[f,show d+(p-d)=p by omega,a1E ok.ris k,W i _ hi]at C;exact C rfl
  .have h4:t.probe (λi=>(es[i]?.map (·.1)).getD 0) (hsh prog w r) (C5 t.mask (st0 t.mask (hsh prog w r)) d)=_:=h4;erw [h4];dsimp only;rw[f]at h1 h2⊢;have a0:d+n<N:=(O n).mpr ⟨h1,λm K=>by have:=(h3 m K).1;rw[f]at this;exact this⟩;have k:=(a2h ok.ris _).mpr h1;generalize I:SetTable.below t.place (pos t.mask (hsh prog w r) (d+n))=ib at h2 k⊢;have u:ib<es.size:=by rw[<-ok.size];exact(df.mp k).1
   obtain⟨x,H,ex⟩:=F es[ib] (by simp);have D:es[ib]?=some (ent prog w x):=by rw[bG u,ex]
   rw[D];dsimp only;refine b3Q (λQ' hq=>b3K R (λy hy=>?_) hq) ?_
   .obtain⟨e,P,rfl⟩:=aM.mp hy;have P:e∈es:=by
     have:=eS.mp P;exact(Array.mem_filter.mp this).1
    obtain⟨G,v,ex'⟩:=F e (by simpa using P);exact⟨G.1,G.2,by rw[ex'];rfl,g G v⟩
   refine aa (bY ((tupleKind (intKind prog w)).eqBool X (g x H) R ?_));refine aa (cy S hd (J7 ok) ?_);dsimp only;by_cases l:x.1=r
   .rw[az (by rw[bb l];rfl)];exact ae (J (aM.mpr ⟨x,H,l⟩))
   .rw[au (by rw[bT l];decide)];have sm:t.sameMemory t.moves t.mask=some true:=by unfold SetTable.sameMemory;simp
    rw[sm];dsimp only;rw[az rfl,a9v ok.ris ok.dum,az h1];dsimp only;rw[I,D];dsimp only;refine aa (wpAny_isSame_ref_self ?_);rw[az rfl];refine aa (ae ?_);dsimp only;rw[au (by rw[bT l];decide)];refine a4B S hd ok F M g R X hN j q J B fuel (d+n+1) _ (by omega) (by omega) (by rw[<-a1b];rfl) λm K i G v T hi=>?_;by_cases c:m<d
    .exact L m c i G v T hi
    .by_cases c2:m=d+n
     .subst c2;have:ib=i:=by rw[<-I];exact a1E ok.ris T
      subst this;rw[D]at hi;injection hi with hi
      have C:x.2=G.2:=by
       have:=aR Prod.snd hi;injection this
      intro z;have V:=g x H;rw[C]at V;exact l ((V.inj (g G v)).trans z)
     .have C:=(h3 (m-d) (by omega)).2;rw[f,show d+(m-d)=m by omega,a1E ok.ris T,W i _ hi]at C;intro z;exact C (by rw[<-z];rfl)
def a0n(prog:qG)(w:World)(ld:Bool)(h:Heap)(a:qE)(xs:qA (qI×qE)):Prop :=
 ∃o es ep t,h.get? a=some o/\o.ExactSet/\o.data=.set es ep t/\es.toList.Perm (xs.map (ent prog w))/\TabOk t es/\t.plain=true/\es.size*5<t.mask*3/\t.mask<=8*xs.length+7/\t.led=ld
def b9L{ld:Bool}{b:qE}{xs:qA (qI×qE)}(hS:a0n prog w ld s.heap a xs)(L:∀x∈xs,TK prog w s.heap x.1 x.2)(Z:TK prog w s.heap r b)(hu:A.units<cLine)(hl:xs.length<1000)
  (h:∀h' H c,Heap.SameBut a s.heap h'->a0n prog w ld h' a H->((r∈xs.map (·.1)/\H=xs)∨(r∉xs.map (·.1)/\H=(r,b)::xs))->Q c {s with heap:=h',toks:=s.toks+(r.length+1)}):wpAny (model prog w) A (setAdd a (.ref b)) Q E s:=by
 obtain⟨o,es,ep,t,I,C,hd,q,ok,F,a1,a0,O⟩:=hS;have a2:es.size=xs.length:=by rw[<-ay,q.length_eq,aj]
 unfold setAdd;refine bY (aa (wpAny_pyHash_tuple hu Z ?_));unfold setAddHashed;refine bY ?_;unfold setAddHashedIn;refine aa (cy (s:={s with toks:=s.toks+(r.length+1)}) I hd (J7 ok) ?_);dsimp only;rw[show byScan (.ref b) es=false from rfl,au (by decide)];unfold setSearch;obtain⟨N,hN,J,K⟩:=ok.first (hsh prog w r);have a6:N<100000:=by unfold SetTable.turns at hN;omega
 refine aa (a4B (s:={s with toks:=s.toks+(r.length+1)}) (xs:=xs) I hd ok (λe he=>?_) (λx hx=>q.mem_iff.mpr (aM.mpr ⟨x,hx,rfl⟩)) L Z hu hN J K (λY=>?_) (λB=>?_) 100000 0 none (by omega) (bq _) rfl (λm hm=>absurd hm (by omega)))
 .obtain⟨x,hx,rfl⟩:=aM.mp (q.mem_iff.mp he);exact⟨x,hx,rfl⟩
 .refine ae ?_;exact h s.heap xs false (Heap.SameBut.refl a s.heap) ⟨o,es,ep,t,I,C,hd,q,ok,F,a1,a0,O⟩ (.inl ⟨Y,rfl⟩)
 .dsimp only;refine aa (cy (s:={s with toks:=s.toks+(r.length+1)}) I hd (J7 ok) ?_);dsimp only;rw[az (show(t.put (pos t.mask (hsh prog w r) N)).1.plain=true from F)];refine aa (b4J (s:={s with toks:=s.toks+(r.length+1)}) Z ?_);simp only[↓reduceIte,Bool.not_false,Bool.true_and];have k:=ok.add (v:=Value.ref b) J K (a1N _ _ _) (by omega);have P:(t.put (pos t.mask (hsh prog w r) N)).1.mask=t.mask:=rfl;have p:(t.put (pos t.mask (hsh prog w r) N)).1.plain=true:=F;have n:(t.put (pos t.mask (hsh prog w r) N)).1.led=ld:=O;have V:(t.put (pos t.mask (hsh prog w r) N)).2<=es.size:=by
   have:=(J9 ok.ris (pos t.mask (hsh prog w r) N)).1;rw[ok.size]at this;exact this
  have M:=a0h es (t.put (pos t.mask (hsh prog w r) N)).2 (hsh prog w r,Value.ref b) V;change wpAny _ _ (storeSet a (SetTable.insertAt es (t.put (pos t.mask (hsh prog w r) N)).2 (hsh prog w r,Value.ref b)) _>>=_) _ _ _;generalize (t.put (pos t.mask (hsh prog w r) N)).1=l at k P p n⊢;generalize SetTable.insertAt es (t.put (pos t.mask (hsh prog w r) N)).2 (hsh prog w r,Value.ref b)=d at k M⊢;have u:d.toList.Perm (((r,b)::xs).map (ent prog w)):=by
   rw[M];refine List.perm_middle.trans ?_;rw[bp,aW];exact List.Perm.cons _ q
  have R:d.size=xs.length+1:=by rw[<-ay,u.length_eq,aj,aT]
  have S:d.size<=sizeLine:=by rw[a'];omega
  refine aa (wpAny_storeSet_of (s:={s with toks:=s.toks+(r.length+1)}) I hd ?_ S);have y:(s.heap.update a (Obj.putSet d l)).get? a=some {o with data:=.set d (ep+1) l}:=by
   have:=cH (Obj.putSet d l) I (by rw[putSet_of d l hd];rfl);rw[putSet_of d l hd]at this;exact this
  have U:=bZ s.heap a (Obj.putSet d l);have hf1:l.fill=d.size:=by unfold SetTable.fill;rw[k.size,k.dum];rfl
  by_cases f:l.tooFull=true
  .rw[az f];unfold SetTable.tooFull at f;rw[hf1,bH]at f;refine aa ?_;unfold setRelay;refine aa (cy (s:={s with heap:=s.heap.update a (Obj.putSet d l),toks:=s.toks+(r.length+1)}) y rfl (J7 k) ?_);dsimp only;have X:SetTable.grown (es.size+1)=4*(xs.length+1):=by
    unfold SetTable.grown;rw[au (by omega),a2];omega
   rw[X];obtain⟨sb,a5,a3,a8,a4⟩:=a1j (4*(xs.length+1)) (by omega);have a7:SetTable.sizeAbove (4*(xs.length+1))<=16000:=by
    rw[a3];rcases a4 with z|z
    .rw[z];decide
    .omega
   rw[au (by rw[a'];omega)];obtain⟨G,g,r1,r2,r3,r4,r5,T,D⟩:=b0S l d (4*(xs.length+1)) (by omega) (by omega);rw[r1];have i:(g.filterMap (d[·]?)).size=d.size:=by rw[<-ay,D.length_eq,ay]
   refine aa ?_;show wpAny _ _ (if ((g.filterMap (d[·]?)).size != d.size)=true then _ else pure (g.filterMap (d[·]?),G)) _ _ _;rw[au (by rw[i];simp)];refine ae ?_;dsimp only;generalize g.filterMap (d[·]?)=j at T D i⊢;refine wpAny_storeSet_of (s:={s with heap:=s.heap.update a (Obj.putSet d l),toks:=s.toks+(r.length+1)}) y rfl ?_ (by rw[i];exact S);have W:((s.heap.update a (Obj.putSet d l)).update a (Obj.putSet j G)).get? a=some {o with data:=.set j (ep+1+1) G}:=by
    have:=cH (Obj.putSet j G) y (by rw[putSet_of j G rfl];rfl);rw[putSet_of j G rfl]at this;exact this
   refine ae (h _ ((r,b)::xs) true (U.trans (bZ _ a _)) ⟨_,j,_,G,W,C,rfl,D.trans u,T,by rw[r5];exact p,?_,?_,by rw[r4];exact n⟩ (.inr ⟨B,rfl⟩))
   .rw[i,R];omega
   .rw[aT];omega
  .rw[au f];unfold SetTable.tooFull at f;rw[hf1,bH]at f;refine ae (h _ ((r,b)::xs) true U ⟨_,d,_,l,y,C,rfl,u,k,p,by omega,?_,n⟩ (.inr ⟨B,rfl⟩));rw[aT,P];omega
end
end Tab
end L2
namespace L2
namespace Tab
open PySem
structure Came(rows:Nat->qI×qE)(i:Nat)(xs:qA (qI×qE)):Prop where
 len:xs.length<=i
 nd:(xs.map (·.1)).Nodup
 from_:∀x∈xs,∃j,j<i/\x=rows j
 all:∀j,j<i->(rows j).1∈xs.map (·.1)
section
variable {prog:qG}{w:World}{A:Around}{R:Result->qC->Prop}{I:qE}{fp wr:qA qE}{G:Array GenState->Array GenState->Prop}{n:Nat}{P:Nat->qB->Prop}{St:Nat->qC->Prop}
def a6x(W:WalksS prog w A.in1 I fp wr G n P St)(S:qE)(C:S∉fp){ld:Bool}{h0:Heap}(K:∀b o,h0.get? b=some o->b∉wr/\b≠S)(a:Nat->qI×qE)
  (J:∀i v,i<n->P i v->v=.ref (a i).2) (hrow:∀i,i<n->TK prog w h0 (a i).1 (a i).2) (hn:n<=1000) (hu:A.units+10<cLine) :
  ∀(k i:Nat) (s:qC) (xs:qA (qI×qE)),n-i=k->i<=n->St i s->(∀b o,h0.get? b=some o->s.heap.get? b=some o)->a0n prog w ld s.heap S xs->Came a i xs ->
   (∀s' f,Moved (S::wr) G s s'->a0n prog w ld s'.heap S f->Came a n f->R (.ok (.ret .none)) s') ->
   codeAny (model prog w) A (.builtin "set.update.loop" ⟨[.ref S,.ref I],[]⟩) R s:=by
 have D:S∉wr:=λh=>C (W.sub _ h);have l:∀b∈wr,b∈S::wr:=λb E=>aq _ E;intro k;induction k with
 |zero =>
  intro i s xs hk hi q u Q d hR;have V:i=n:=by omega
  subst V;refine dI PyProof.Rows.F.entry_set_update_loop ?_;rw[dQ dF _];show wpAny _ A.in1 (pyNext (.ref I)>>=_) _ _ s;refine aa (W.done s _ _ q λs' r=>?_);show wpAny _ A.in1 (ret Value.none) _ _ s';refine ae (hR s' xs (r.mono l) ?_ d);obtain⟨o,es,ep,t,X,rest⟩:=Q;exact⟨o,es,ep,t,r.heap S _ D X,rest⟩
 |succ k ih =>
  intro i s xs hk hi q u Q d hR;have g:i<n:=by omega
  refine dI PyProof.Rows.F.entry_set_update_loop ?_;rw[dQ dF _];show wpAny _ A.in1 (pyNext (.ref I)>>=_) _ _ s;refine aa (W.item i s _ _ g q λv s' hP H r=>?_);obtain rfl:=J i v g hP;have T:a0n prog w ld s'.heap S xs:=by
   obtain⟨o,es,ep,tb,X,rest⟩:=Q;exact⟨o,es,ep,tb,r.heap S _ D X,rest⟩
  have m:∀b o,h0.get? b=some o->s'.heap.get? b=some o:=λb o e=>r.heap b o (K b o e).1 (u b o e);show wpAny _ A.in1 (holding [Value.ref (a i).2] (setAdd S (.ref (a i).2))>>=_) _ _ s';refine aa (bY (b9L T (λx L=>?_) ((hrow i g).keep m) (show A.units+1<cLine by omega) (by have:=d.len;omega) λh' f c p U Y=>?_))
  .obtain⟨j,N,rfl⟩:=d.from_ x L;exact(hrow j (by omega)).keep m
  have O:Came a (i+1) f:=by
   rcases Y with⟨h1,rfl⟩|⟨h1,rfl⟩
   .refine⟨by have:=d.len;omega,d.nd,λx L=>?_,λj N=>?_⟩
    .obtain⟨j,N,e⟩:=d.from_ x L;exact⟨j,by omega,e⟩
    .by_cases c:j=i
     .rw[c];exact h1
     .exact d.all j (by omega)
   .refine⟨by have:=d.len;rw[aT];omega,by rw[aW,cq];exact⟨h1,d.nd⟩,λx L=>?_,λj N=>?_⟩
    .rcases aD.mp L with z|z
     .exact⟨i,by omega,z⟩
     .obtain⟨j,N,e⟩:=d.from_ x z;exact⟨j,by omega,e⟩
    .rw[aW];by_cases c:j=i
     .rw[c];exact ar
     .exact aq _ (d.all j (by omega))
  refine ae ⟨plainId_quiet dF _,ih (i+1) _ f (by omega) g (W.frame _ s' _ _ H (cf _ _) λb E o e=>?_) (λb o e=>?_) U O λZ M F B y=>?_⟩
  .rw[p.2 b (λh:b=S=>C (by rw[<-h];exact E))];exact e
  .show h'.get? b=some o;rw[p.2 b (K b o e).2];exact m b o e
  .refine hR Z M (Moved.trans W.gtrans ((r.mono l).then_heap (cf _ _) λb o E e=>?_) F) B y;rw[p.2 b (λh:b=S=>E (by rw[h];exact ar))];exact e
end
section
variable {prog:qG}{w:World}{A:Around}{E:qH}{s:qC}
def a0O(a:qB){Q₁:qH}
  (h:Q₁ (.ref s.heap.objs.size) {s with heap:=s.heap.push {cls:=.type "set",dict:=none,data:=.set #[] 0 (.fresh 0 0 (!w.params.followText "set-order"))}}) :
  codeAny (model prog w) A (.call (.builtin "set.__new__") ⟨[.type "set",a],[]⟩) (wants Q₁ E) s:=by
 refine codeAny_of_tree ?_;show wpAny _ A.in1 (do checkBuiltinCall "set.__new__" ⟨[.type "set",a],[]⟩;again (.builtin "set.__new__" ⟨[.type "set",a],[]⟩)) _ _ s;refine aa (wpAny_of_eq (PySem.F.newCall_set_1 a) (ae ⟨plainId_quiet PySem.F.plain_set_new _,dI PySem.F.entry_set_new ?_⟩));rw[dQ PySem.F.plain_set_new _];unfold Builtin.«set.__new__» Builtin.Frozenset.newClass;have b:=sub_set_self;obtain⟨c,g,d,tk,os⟩:=s;dsimp only
 wp_walk
 refine eX (ae ?_);dsimp only;simp only[newObj];refine aa (wpAny_alloc (ae ?_));exact ae h
def a4A{c:Bool}{h:Heap}{a:qE}(e:h.get? a=some {cls:=.type "set",dict:=none,data:=.set #[] 0 (.fresh 0 0 c)}):a0n prog w c h a [] :=
 ⟨_,#[],0,_,e,⟨rfl,rfl,rfl⟩,rfl,List.Perm.nil,⟨rfl,rfl,λa b h1 h2=>absurd h2 (by simp[SetTable.fresh]),λj d=>by simp[SetTable.fresh]at d,⟨3,ao _,rfl⟩,bq _,λi j e h1 h2=>by simp at h2⟩,rfl,by show 0*5<7*3;decide,by show 7<=8*0+7;decide,rfl⟩
def a5m:isSubtype (.type "list") (.type "set")=pure false:=by rw[dU];kernel_rfl
def a0Q:isSubtype (.type "list") (.type "frozenset")=pure false:=by rw[dU];kernel_rfl
def a4s{l:qE}{items:Array qB}{d:Nat->qI×qE}{Q:qH}
  (hh:A.handled=none) (hl:s.heap.IsList l items) (y:∀i v,i<items.size->items[i]?=some v->v=.ref (d i).2) (hrow:∀i,i<items.size->TK prog w s.heap (d i).1 (d i).2) (hn:items.size<=1000) (hu:A.units+20<cLine)
  (h:∀(h':Heap) (tk:Nat) (xs:qA (qI×qE)),a0n prog w (!w.params.followText "set-order") h' s.heap.objs.size xs->Came d items.size xs ->
   (∀b o,b<s.heap.objs.size->s.heap.get? b=some o->h'.get? b=some o)->Q (.ref s.heap.objs.size) {s with heap:=h',toks:=tk}) :
  wpAny (model prog w) A (call (.type "set") [.ref l]) Q E s:=by
 obtain⟨c,tl,T⟩:=PySem.F.called_set.mro;have J:=PySem.F.called_set.made;have W:=PySem.F.called_set.sub;refine wpAny_call (codeAny_of_tree ?_);show wpAny _ _ (callAny (.type "set") _) _ _ _;refine ae ⟨Code.quiet_builtin _ (by decide +kernel),dI PySem.F.entry_type_call ?_⟩;rw[Around.under_plain (weight_type_call_type "set" [.ref l] []) rfl];have h1:=PySem.F.called_set.notType;have h2:=PySem.F.called_set.canCreate;have a1:=PySem.F.typeCall_set_1 (.ref l)
 repeat (any_goals (first|assumption|wp_step))
 refine dy (a0O (.ref l) (E:=E) (Q₁:=λz s₁=>z=.ref s.heap.objs.size/\s₁={s with heap:=s.heap.push {cls:=.type "set",dict:=none,data:=.set #[] 0 (.fresh 0 0 (!w.params.followText "set-order"))}}) ⟨rfl,rfl⟩) λr s₁ K=>?_;cases r with
 |error e=>exact K
 |ok fl =>
  cases fl with
  |ret z =>
   obtain⟨rfl,rfl⟩:=K;generalize a2:(!w.params.followText "set-order")=a at h;have P:(s.heap.push {cls:=.type "set",dict:=none,data:=.set #[] 0 (.fresh 0 0 a)}).get? s.heap.objs.size=some {cls:=.type "set",dict:=none,data:=.set #[] 0 (.fresh 0 0 a)}:=aF _ rfl;have hT:Shared.TypeIs {s with heap:=s.heap.push {cls:=.type "set",dict:=none,data:=.set #[] 0 (.fresh 0 0 a)}} (.ref s.heap.objs.size) "set":=⟨_,P,rfl⟩;have a3:=PySem.F.called_set.init.lookup;have a0:=PySem.F.called_set.init.bind (.ref s.heap.objs.size)
   repeat (any_goals (first|assumption|wp_step))
   refine dy (codeAny_call_builtin (R:=wants (λr s₂=>r=.none/\∃h' tk xs,s₂={s with heap:=h',toks:=tk}/\a0n prog w a h' s.heap.objs.size xs/\Came d items.size xs /\
     (∀b o,b<s.heap.objs.size->s.heap.get? b=some o->h'.get? b=some o)) E) PySem.F.called_set.init.plain PySem.F.entry_set_init (check_set_init_1 hT ?_)) λr₂ s₂ hr₂=>?_
   .obtain⟨ol,hol,hcl,nl,hdl⟩:=hl;obtain⟨X,m,L,f⟩:=ol;simp only at hcl hdl;subst hcl;subst hdl;have u:(s.heap.push {cls:=.type "set",dict:=none,data:=.set #[] 0 (.fresh 0 0 a)}).get? l=some {cls:=.type "list",dict:=m,data:=.seq items nl,slots:=f}:=ag _ hol;have V:=a5m;have U:=a0Q;have a4:(Value.type "list"==Value.type "dict")=false:=by decide
    have p:(s.heap.push {cls:=.type "set",dict:=none,data:=.set #[] 0 (.fresh 0 0 a)}).IsList l items:=⟨_,u,rfl,nl,rfl⟩;unfold Builtin.«set.__init__» noKeywords Builtin.Frozenset.updateFrom;generalize C:pyIter=PI
    wp_walk
    subst C;refine fA p ?_;refine aa (wpAny_runValue ?_);have q:l<s.heap.objs.size:=aI hol;have H:A.in1.in1.in1.handled=none:=by simp[hh]
    have t:l≠(s.heap.push {cls:=.type "set",dict:=none,data:=.set #[] 0 (.fresh 0 0 a)}).objs.size:=by
     rw[bt];exact aQ (cg q)
    have D:s.heap.objs.size∉[(s.heap.push {cls:=.type "set",dict:=none,data:=.set #[] 0 (.fresh 0 0 a)}).objs.size,l]:=by
     rw[bt];simp only[aD,aB,bB,cL,not_or];exact⟨aQ (cm _),cR q⟩
    have n:((s.heap.push {cls:=.type "set",dict:=none,data:=.set #[] 0 (.fresh 0 0 a)}).push {cls:=.type "list_iterator",data:=.fields #[.ref l,.int 0 0]}).get? s.heap.objs.size
       = some {cls:=.type "set",dict:=none,data:=.set #[] 0 (.fresh 0 0 a)}:=ag _ P
    refine a6x (ld:=a) (h0:=s.heap) ((Walks.list H _ l t items).toS) s.heap.objs.size D (λb o e=>?_) d y hrow hn (show A.units+2+10<cLine by omega) (items.size-0) 0 _ [] (by omega) (bq _)
     ⟨⟨_,aF _ rfl,rfl,rfl⟩,(p.push _)⟩ (λb o e=>ag _ (ag _ e)) (a4A n) ⟨ao _,eQ,(λx hx=>nomatch hx),λj hj=>absurd hj (Nat.not_lt_zero j)⟩ ?hR
    .have:=aI e;rw[bt];simp only[aD,bB,cL];exact⟨aQ (cg this),aQ this⟩
    case hR =>
     intro s' O B k g;obtain⟨h',g',Y,N,M⟩:=s';have eg:g'=s.gens:=B.gens;have Z:Y=s.drawn:=B.drawn;have eo:M=s.os:=B.os;subst eg;subst Z;subst eo;show wpAny _ _ _ _ _ _;refine ae ?_;show wpAny _ _ (ret Value.none) _ _ _;refine ae ⟨rfl,h',N,O,rfl,k,g,λb o S e=>?_⟩;have F:b≠s.heap.objs.size:=aQ S;have G:b≠(s.heap.push {cls:=.type "set",dict:=none,data:=.set #[] 0 (.fresh 0 0 a)}).objs.size:=by
      rw[bt];exact aQ (cg S)
     exact B.heap b o (by simp only[aD,aB,bB,cL,not_or];exact⟨F,G⟩) (ag _ (ag _ e))
   .cases r₂ with
    |error e=>exact hr₂
    |ok fl₂ =>
     cases fl₂ with
     |ret r =>
      obtain⟨rfl,h',tk,xs,rfl,k,g,I⟩:=hr₂
      repeat (any_goals (first|assumption|wp_step))
      exact h _ _ _ k g I
     |_=>exact hr₂.elim
  |_=>exact K.elim
def a4j:isSubtype (.type "tuple") (.type "set")=pure false:=by rw[dU];kernel_rfl
def a0H:isSubtype (.type "tuple") (.type "frozenset")=pure false:=by rw[dU];kernel_rfl
def a4e{l:qE}{items:Array qB}{d:Nat->qI×qE}{Q:qH}
  (hh:A.handled=none) (hl:s.heap.IsTuple l items) (y:∀i v,i<items.size->items[i]?=some v->v=.ref (d i).2) (hrow:∀i,i<items.size->TK prog w s.heap (d i).1 (d i).2) (hn:items.size<=1000) (hu:A.units+20<cLine)
  (h:∀(h':Heap) (tk:Nat) (xs:qA (qI×qE)),a0n prog w (!w.params.followText "set-order") h' s.heap.objs.size xs->Came d items.size xs ->
   (∀b o,b<s.heap.objs.size->s.heap.get? b=some o->h'.get? b=some o)->Q (.ref s.heap.objs.size) {s with heap:=h',toks:=tk}) :
  wpAny (model prog w) A (call (.type "set") [.ref l]) Q E s:=by
 obtain⟨c,tl,T⟩:=PySem.F.called_set.mro;have J:=PySem.F.called_set.made;have W:=PySem.F.called_set.sub;refine wpAny_call (codeAny_of_tree ?_);show wpAny _ _ (callAny (.type "set") _) _ _ _;refine ae ⟨Code.quiet_builtin _ (by decide +kernel),dI PySem.F.entry_type_call ?_⟩;rw[Around.under_plain (weight_type_call_type "set" [.ref l] []) rfl];have h1:=PySem.F.called_set.notType;have h2:=PySem.F.called_set.canCreate;have a1:=PySem.F.typeCall_set_1 (.ref l)
 repeat (any_goals (first|assumption|wp_step))
 refine dy (a0O (.ref l) (E:=E) (Q₁:=λz s₁=>z=.ref s.heap.objs.size/\s₁={s with heap:=s.heap.push {cls:=.type "set",dict:=none,data:=.set #[] 0 (.fresh 0 0 (!w.params.followText "set-order"))}}) ⟨rfl,rfl⟩) λr s₁ K=>?_;cases r with
 |error e=>exact K
 |ok fl =>
  cases fl with
  |ret z =>
   obtain⟨rfl,rfl⟩:=K;generalize a2:(!w.params.followText "set-order")=a at h;have P:(s.heap.push {cls:=.type "set",dict:=none,data:=.set #[] 0 (.fresh 0 0 a)}).get? s.heap.objs.size=some {cls:=.type "set",dict:=none,data:=.set #[] 0 (.fresh 0 0 a)}:=aF _ rfl;have hT:Shared.TypeIs {s with heap:=s.heap.push {cls:=.type "set",dict:=none,data:=.set #[] 0 (.fresh 0 0 a)}} (.ref s.heap.objs.size) "set":=⟨_,P,rfl⟩;have a3:=PySem.F.called_set.init.lookup;have a0:=PySem.F.called_set.init.bind (.ref s.heap.objs.size)
   repeat (any_goals (first|assumption|wp_step))
   refine dy (codeAny_call_builtin (R:=wants (λr s₂=>r=.none/\∃h' tk xs,s₂={s with heap:=h',toks:=tk}/\a0n prog w a h' s.heap.objs.size xs/\Came d items.size xs /\
     (∀b o,b<s.heap.objs.size->s.heap.get? b=some o->h'.get? b=some o)) E) PySem.F.called_set.init.plain PySem.F.entry_set_init (check_set_init_1 hT ?_)) λr₂ s₂ hr₂=>?_
   .obtain⟨ol,hol,hcl,nl,hdl⟩:=hl;obtain⟨X,m,L,f⟩:=ol;simp only at hcl hdl;subst hcl;subst hdl;have u:(s.heap.push {cls:=.type "set",dict:=none,data:=.set #[] 0 (.fresh 0 0 a)}).get? l=some {cls:=.type "tuple",dict:=m,data:=.seq items nl,slots:=f}:=ag _ hol;have V:=a4j;have U:=a0H;have a4:(Value.type "tuple"==Value.type "dict")=false:=by decide
    have p:(s.heap.push {cls:=.type "set",dict:=none,data:=.set #[] 0 (.fresh 0 0 a)}).IsTuple l items:=⟨_,u,rfl,nl,rfl⟩;unfold Builtin.«set.__init__» noKeywords Builtin.Frozenset.updateFrom;generalize C:pyIter=PI
    wp_walk
    subst C;refine wpAny_pyIter_tuple p ?_;refine aa (wpAny_runValue ?_);have q:l<s.heap.objs.size:=aI hol;have H:A.in1.in1.in1.handled=none:=by simp[hh]
    have t:l≠(s.heap.push {cls:=.type "set",dict:=none,data:=.set #[] 0 (.fresh 0 0 a)}).objs.size:=by
     rw[bt];exact aQ (cg q)
    have D:s.heap.objs.size∉[(s.heap.push {cls:=.type "set",dict:=none,data:=.set #[] 0 (.fresh 0 0 a)}).objs.size,l]:=by
     rw[bt];simp only[aD,aB,bB,cL,not_or];exact⟨aQ (cm _),cR q⟩
    have n:((s.heap.push {cls:=.type "set",dict:=none,data:=.set #[] 0 (.fresh 0 0 a)}).push {cls:=.type "tuple_iterator",data:=.fields #[.ref l,.int 0 0]}).get? s.heap.objs.size
       = some {cls:=.type "set",dict:=none,data:=.set #[] 0 (.fresh 0 0 a)}:=ag _ P
    refine a6x (ld:=a) (h0:=s.heap) ((Walks.tuple H _ l t items).toS) s.heap.objs.size D (λb o e=>?_) d y hrow hn (show A.units+2+10<cLine by omega) (items.size-0) 0 _ [] (by omega) (bq _)
     ⟨⟨_,aF _ rfl,rfl,rfl⟩,(p.push _)⟩ (λb o e=>ag _ (ag _ e)) (a4A n) ⟨ao _,eQ,(λx hx=>nomatch hx),λj hj=>absurd hj (Nat.not_lt_zero j)⟩ ?hR
    .have:=aI e;rw[bt];simp only[aD,bB,cL];exact⟨aQ (cg this),aQ this⟩
    case hR =>
     intro s' O B k g;obtain⟨h',g',Y,N,M⟩:=s';have eg:g'=s.gens:=B.gens;have Z:Y=s.drawn:=B.drawn;have eo:M=s.os:=B.os;subst eg;subst Z;subst eo;show wpAny _ _ _ _ _ _;refine ae ?_;show wpAny _ _ (ret Value.none) _ _ _;refine ae ⟨rfl,h',N,O,rfl,k,g,λb o S e=>?_⟩;have F:b≠s.heap.objs.size:=aQ S;have G:b≠(s.heap.push {cls:=.type "set",dict:=none,data:=.set #[] 0 (.fresh 0 0 a)}).objs.size:=by
      rw[bt];exact aQ (cg S)
     exact B.heap b o (by simp only[aD,aB,bB,cL,not_or];exact⟨F,G⟩) (ag _ (ag _ e))
   .cases r₂ with
    |error e=>exact hr₂
    |ok fl₂ =>
     cases fl₂ with
     |ret r =>
      obtain⟨rfl,h',tk,xs,rfl,k,g,I⟩:=hr₂
      repeat (any_goals (first|assumption|wp_step))
      exact h _ _ _ k g I
     |_=>exact hr₂.elim
  |_=>exact K.elim
end
end Tab
end L2
namespace L2
variable {i:Nat}{it:qE}{t:SetTable}
namespace Tab
open PySem PySem.W
def a4a{α:Type}:∀(l:qA α) (i:Nat) (h:i<l.length),([l[i]]++l.eraseIdx i).Perm l
 |x::l,0,_=>by simp
 |x::l,i+1,h=>by
  have a:=a4a l i (by simpa using h);simp only[List.getElem_cons_succ,List.eraseIdx_cons_succ,List.singleton_append];exact(List.Perm.swap x (l[i]'(by simpa using h)) _).trans (List.Perm.cons x a)
def a9G{α:Type}(next:Nat->Nat):∀(fuel k:Nat) (left:qA α) (out:Array α),left.length=fuel->(pickOrder.go next fuel k left out).toList.Perm (out.toList++left)
 |0,k,left,out,h=>by
  rw[dZ.mp h,di];exact List.Perm.refl _
 |fuel+1,k,left,out,h=>by
  unfold pickOrder.go;have hi:next k % left.length<left.length:=fv _ (by omega)
  rw[ai hi];dsimp only;refine(a9G next fuel (k+1) _ _ (by rw[List.length_eraseIdx_of_lt hi];omega)).trans ?_;rw[cZ,aJ];exact cw _ (a4a left _ hi)
def b1a{α:Type}(next:Nat->Nat)(xs:Array α):(pickOrder next xs).toList.Perm xs.toList:=by
 have:=a9G next xs.size 0 xs.toList #[] (by simp)
 rw[show(#[]:Array α).toList=[] from rfl,cQ]at this;exact this
def slot_seti_next:Slot "set_iterator" "__next__" "set_iterator.__next__" :=
 .of (owner:="set_iterator") (n:="__next__") (by rw[typeLookup_type,fO];kernel_rfl) (by decide +kernel) (by decide +kernel) (by decide +kernel)
  (by first|exact .inl (by decide +kernel)|exact .inr (by decide +kernel)) (by rw[dU];kernel_rfl)
def Z0:entryFor table "set_iterator.__next__"=some Builtin.«set_iterator.__next__»:=entryFor_of_tree (by kernel_rfl)
def a0m(a:qB):argsOk "set_iterator.__next__" ⟨[a],[]⟩:=by
 unfold argsOk;kernel_rfl
def Z7:Slot "set_iterator" "__iter__" "set_iterator.__iter__" :=
 .of (owner:="set_iterator") (n:="__iter__") (by rw[typeLookup_type,fO];kernel_rfl) (by decide +kernel) (by decide +kernel) (by decide +kernel)
  (by first|exact .inl (by decide +kernel)|exact .inr (by decide +kernel)) (by rw[dU];kernel_rfl)
def a4b:entryFor table "set.__iter__"=some Builtin.«frozenset.__iter__» :=
 entryFor_alias (id':="frozenset.__iter__") (by kernel_rfl) rfl (by decide +kernel) (by kernel_rfl)
structure SRaw(h:Heap)(a:qE)(es:Array (Int×qB))(ep:Nat)(t:SetTable):Prop where
 ex:∃o,h.get? a=some o/\o.ExactSet/\o.data=.set es ep t
 ok:TabOk t es
 plain:t.plain=true
section
variable {prog:qG}{w:World}{A:Around}{E:qH}{s:qC}{a:qE}{es:Array (Int×qB)}{ep:Nat}
def SRaw.typ(x:SRaw s.heap a es ep t):s.TypeIs (.ref a) "set":=let ⟨o,h1,h2,_⟩:=x.ex;⟨o,h1,h2.1⟩
def b4l{Q:Bool->qC->Prop}(e:s.TypeIs (.ref a) "set")(h:Q false s):wpAny (model prog w) A (Builtin.List.listLengthHint (.ref a)) Q E s:=by
 unfold Builtin.List.listLengthHint;refine aa (wpAny_specialOf e PySem.F.slot_set_len.lookup ?_);generalize d:("set.__len__" : String)=f
 wp_delta
 rw[show splitId f=some ("set","__len__")from by subst d;decide +kernel];subst d;refine aa (eT (T:="set") (b:=true) e (by rw[dU];kernel_rfl) ?_);refine wpAny_ite_split (λc=>absurd c (by decide)) (λ_=>?_);refine wpAny_ite_split (λ_=>?_) (λc=>absurd (by decide +kernel) c);refine aa (dz e ?_);exact ae h
def a0a(w:World)(a:qE)(ep:Nat)(es:Array (Int×qB)):Array (Int×qB):=if w.params.followText "set-order"=true then pickOrder (w.params.setOrder a ep) es else es
def ord_perm:(a0a w a ep es).toList.Perm es.toList:=by
 unfold a0a;split
 .exact b1a _ _
 .exact List.Perm.refl _
def a2w(w:World)(t:SetTable):Nat->Nat
 |0=>0
 |i+1=>if w.params.followText "set-order"=true then 0 else t.place.getD i 0+1
def SetIt(w:World)(h:Heap)(it a:qE)(i n ep:Nat)(t:SetTable):Prop:=∃o,h.get? it=some o/\o.cls=.type "set_iterator"/\o.data=.fields #[rawInt (a2w w t i),rawInt i,.ref a,rawInt n,rawInt ep]
def b2L{Q:qH}(D:SRaw s.heap a es ep t)
  (q:Q (.ref s.heap.objs.size) {s with heap:=s.heap.push {cls:=.type "set_iterator",data:=.fields #[rawInt 0,rawInt 0,.ref a,rawInt es.size,rawInt ep]}}):wpAny (model prog w) A (pyIter (.ref a)) Q E s:=by
 have ty:=D.typ;obtain⟨o,b,_,c⟩:=D.ex;refine wpAny_pyIter_slot ty PySem.F.slot_set_iter (bF PySem.F.slot_set_iter ty a4b ?body (PySem.F.args_set_iter_1 _))
 case body =>
  unfold Builtin.«frozenset.__iter__» Builtin.Frozenset.slot0;refine aa (aa (ae (ae ?_)));unfold Builtin.Frozenset.sizeOf setEntries;refine aa (aa (aa (cy b c (J7 D.ok) (ae (ae ?_)))));unfold setDrawn setsByText;refine aa (aa (cy b c (J7 D.ok) ?_));dsimp only;refine aa (aa (eX (ae (ae ?_))));dsimp only;rw[au (λz=>by
   have d:=(aO _ _ ▸ z).2;change (!t.plain && decide (es.size > 1))=true at d;rw[D.plain]at d;cases d)]
  refine aa (ae ?_);refine aa (wpAny_setEpoch_of b c (J7 D.ok) ?_);refine aa (bz (ae ⟨_,rfl,"set_iterator",_,⟨_,aF _ rfl,rfl⟩,slot_seti_next.lookup,?_⟩));exact q
def SetIt.typ{a:qE}{n ep:Nat}(x:SetIt w s.heap it a i n ep t):s.TypeIs (.ref it) "set_iterator":=let ⟨o,h1,h2,_⟩:=x;⟨o,h1,h2⟩
def b2I(D:SRaw s.heap a es ep t)(e:w.params.followText "set-order"=false)(hi:i<=es.size):SetTable.below t.place (a2w w t i)=i:=by
 obtain⟨d,b,c⟩:=J9 D.ok.ris (a2w w t i);have f:=D.ok.size;cases i with
 |zero =>
  rcases Nat.eq_zero_or_pos (SetTable.below t.place (a2w w t 0))with z|z
  .exact z
  .have:=b 0 z;exact absurd this (Nat.not_lt_zero _)
 |succ i =>
  have hs:a2w w t (i+1)=t.place.getD i 0+1:=by
   show(if w.params.followText "set-order"=true then 0 else t.place.getD i 0+1)=_;rw[e,au (by decide)]
  rw[hs]at d b c⊢;rcases dn (SetTable.below t.place (t.place.getD i 0+1)) (i+1)with z|z|z
  .have:=c i (by omega) (by omega);omega
  .exact z
  .have h1:=b (i+1) z;have h2:=D.ok.ris i (i+1) (by omega) (by omega);omega
def a6H(D:SRaw s.heap a es ep t)(d:t.led=!w.params.followText "set-order"){Q:qD (qB×Nat)->qC->Prop}(hi:i<=es.size)
  (h:Q ((a0a w a ep es)[i]?.map λe=>(e.2,a2w w t (i+1))) s):wpAny (model prog w) A (setNext a (a2w w t i) i ep) Q E s:=by
 obtain⟨o,f,_,g⟩:=D.ex;unfold setNext setsByText;refine aa (cy f g (J7 D.ok) ?_);dsimp only;refine aa (aa (eX (ae ?_)));dsimp only;by_cases b:w.params.followText "set-order"=true
 .rw[az (show(model prog w).w.params.followText "set-order"=true from b),au (by simp)];unfold setWalk setsByText;refine aa (aa (cy f g (J7 D.ok) ?_));dsimp only;refine aa (aa (eX (ae ?_)));rw[az (show(model prog w).w.params.followText "set-order"=true from b)];refine aa (eX (ae (ae ?_)));have k:∀j,a2w w t j=0:=λj=>by
   cases j with
   |zero=>rfl
   |succ j=>show(if w.params.followText "set-order"=true then 0 else _)=0;rw[az b]
  rw[k]at h⊢;unfold a0a at h;rw[az b]at h;exact h
 .have hf':w.params.followText "set-order"=false:=by simpa using b
  rw[au (show ¬(model prog w).w.params.followText "set-order"=true from b)];rw[au (λz=>by
   change (!t.plain && decide (es.size > 1))=true at z;rw[D.plain]at z;cases z)]
  refine aa ?_;show wpAny _ _ (if (!t.led && !es.isEmpty)=true then _ else pure ()) _ _ _;rw[au (by rw[d,hf'];simp)];refine ae (ae ?_);rw[b2I D hf' hi];unfold a0a at h;rw[au b]at h;by_cases c:i<es.size
  .have hp:=a1x (xs:=t.place) (i:=i) (by rw[D.ok.size];exact c);rw[hp];have hs:a2w w t (i+1)=t.place.getD i 0+1:=by
    show(if w.params.followText "set-order"=true then 0 else t.place.getD i 0+1)=_;rw[hf',au (by decide)]
   rw[hs]at h;rw[bG c]at h⊢;exact h
  .rw[de (by omega)]at h⊢;exact h
def b0K{Q:qD qB->qC->Prop}(I:SetIt w s.heap it a i es.size ep t)(D:SRaw s.heap a es ep t)(d:t.led=!w.params.followText "set-order")(hi:i<es.size){v:Int×qB}(h:(a0a w a ep es)[i]?=some v)
  (q:∀h',SetIt w h' it a (i+1) es.size ep t->Heap.SameBut it s.heap h'->Q (some v.2) {s with heap:=h'}):wpAny (model prog w) A (pyNext (.ref it)) Q E s:=by
 obtain⟨j,f1,f2,b⟩:=id I;obtain⟨od,f,k,g⟩:=D.ex;unfold pyNext;refine aa (dq (bA (name:=Str.ofString "__next__") I.typ slot_seti_next (bF slot_seti_next I.typ Z0 ?body (a0m _))))
 case body =>
  unfold Builtin.«set_iterator.__next__»;refine aa (ae (aa (wpAny_fieldsOf f1 b ?_)));dsimp only[rawInt];unfold setEntries;refine aa (aa (cy f g (J7 D.ok) (ae ?_)));rw[au (by simp)];simp only[bf];refine aa (a6H D d (cG hi) ?_);rw[h];dsimp only[Option.map];have e:(s.heap.update it (Obj.mapFields λz=>z.setIfInBounds 0 (.int (a2w w t (i+1)) 0))).get? it=some (Obj.mapFields (λz=>z.setIfInBounds 0 (.int (a2w w t (i+1)) 0)) j):=cH _ f1 (eM (cS b _));have c:=cS b (λz=>z.setIfInBounds 0 (.int (a2w w t (i+1)) 0));refine aa (dS f1 b (by simp) ?_);refine aa (dS (s:={s with heap:=_}) e c (by simp) ?_);refine ae ⟨_,rfl,ae (q _ ⟨_,cH _ e (eM (cS c _)),?_,?_⟩ ((bZ ..).trans (bZ ..)))⟩
  .rw[fB,fB];exact f2
  .rw[cS c];simp[rawInt]
def b2J{Q:qD qB->qC->Prop}(g:A.handled=none)(I:SetIt w s.heap it a es.size es.size ep t)(D:SRaw s.heap a es ep t)(c:t.led=!w.params.followText "set-order")
  (q:∀h',Heap.ExtBut it s.heap h'->Q none {s with heap:=h'}):wpAny (model prog w) A (pyNext (.ref it)) Q E s:=by
 obtain⟨j,f1,f2,d⟩:=id I;obtain⟨od,e,i,f⟩:=D.ex;unfold pyNext;refine aa (dq (bA (name:=Str.ofString "__next__") I.typ slot_seti_next (bF slot_seti_next I.typ Z0 ?body (a0m _))))
 case body =>
  unfold Builtin.«set_iterator.__next__»;refine aa (ae (aa (wpAny_fieldsOf f1 d ?_)));dsimp only[rawInt];unfold setEntries;refine aa (aa (cy e f (J7 D.ok) (ae ?_)));rw[au (by simp)];simp only[bf];refine aa (a6H D c (ao _) ?_);have h:(a0a w a ep es).size=es.size:=by rw[<-ay,ord_perm.length_eq,ay]
  rw[de (by omega)];dsimp only[Option.map];refine aa (dS f1 d (by simp) ?_);show wpAny _ _ (newExc (.type "StopIteration") []>>=λ_=>_) _ _ _;refine aa ?_;simp only[newExc,newTuple];refine aa (bz ?_ (by size_fits));refine aa (m:=firstArgMember _ _) (wpAny_of_eq (a:=Value.none) (by first|rfl | (simp only[firstArgMember];rfl)) ?_);refine bz ?_ (by size_fits);simp only[raiseNew];refine aa (wpAny_handled ?_);rw[show A.in1.handled=none from g];refine aa (ae (wpAny_throw ?_));refine aa (eT (T:="StopIteration") (b:=true) ⟨_,aF _ rfl,rfl⟩ isSubtype_stop ?_);exact ae (q _ (((bZ ..).extBut.push _).push _))
def SetIt.at{h h':Heap}{a:qE}{n ep:Nat}(x:SetIt w h it a i n ep t)(k:∀o,h.get? it=some o->h'.get? it=some o):SetIt w h' it a i n ep t:=let ⟨o,h1,h2⟩:=x;⟨o,k o h1,h2⟩
def SRaw.to{h h':Heap}(x:SRaw h a es ep t)(k:∀o,h.get? a=some o->h'.get? a=some o):SRaw h' a es ep t:=⟨let ⟨o,h1,h2⟩:=x.ex;⟨o,k o h1,h2⟩,x.ok,x.plain⟩
def a2G:entryFor table "set_iterator.__iter__"=some Builtin.«dict_keyiterator.__iter__» :=
 entryFor_alias (id':="dict_keyiterator.__iter__") (by kernel_rfl) rfl (by decide +kernel) (by kernel_rfl)
def a4i(a:qB):argsOk "set_iterator.__iter__" ⟨[a],[]⟩:=by
 unfold argsOk;kernel_rfl
def b0J{n:Nat}{Q:qH}(I:SetIt w s.heap it a i n ep t)(h:Q (.ref it) s):wpAny (model prog w) A (pyIter (.ref it)) Q E s:=by
 refine wpAny_pyIter_slot I.typ Z7 (bF Z7 I.typ a2G ?_ (a4i _));show wpAny _ _ (ret (.ref it)) _ _ s;exact ae ⟨_,rfl,"set_iterator",_,I.typ,slot_seti_next.lookup,h⟩
def b3v:(a0a w a ep es).size=es.size:=by rw[<-ay,ord_perm.length_eq,ay]
def b0L(p:A.handled=none)(J:qE)(j:a≠J)(g:t.led=!w.params.followText "set-order") :
  Walks prog w A J [J,a] [J] es.size (λi v=>∃e,(a0a w a ep es)[i]?=some e/\v=e.2) (λi h=>SetIt w h J a i es.size ep t/\SRaw h a es ep t) where
 sub:=λb d=>by rw[aB.mp d];exact ar
 frame:=λi h h' st k=>⟨st.1.at λo e=>k J ar o e,st.2.to λo e=>k a (aq _ ar) o e⟩
 item:=λi s Q E hi st c=>by
  have f:i<(a0a w a ep es).size:=by rw[b3v];exact hi
  exact b0K st.1 st.2 g hi (bG f) λh' m l=>c _ h' s.toks ⟨_,bG f,rfl⟩ ⟨m,st.2.to λo e=>l.extBut a o j e⟩ λb o d e=>l.extBut b o (λz=>d (by rw[z];exact ar)) e
 done:=λs Q E st c=>b2J p st.1 st.2 g λh' n=>c h' s.toks λb o d e=>n b o (λz=>d (by rw[z];exact ar)) e
 self:=λ_ _ _ _ st c=>b0J st.1 c
def SRaw.lt{h:Heap}(x:SRaw h a es ep t):a<h.objs.size:=let ⟨_,h1,_⟩:=x.ex;aI h1
def b5i(b:t.led=!w.params.followText "set-order"):KdlSrc prog w "set" a a es.size (λi v=>∃e,(a0a w a ep es)[i]?=some e/\v=e.2) (λh=>SRaw h a es ep t) where
 type:=λ_ D=>D.typ
 there:=λ_ D=>⟨D.lt,D.lt⟩
 keep:=λ_ _ D d=>D.to λo e=>d a (.inl rfl) o e
 notList:=by decide
 notTuple:=by decide
 hint:=λ_ _ _ _ D q=>b4l D.typ q
 iter:=λ_ _ c D=>⟨_,_,λ_ _ q=>b2L D q,b0L c _ (aQ D.lt) b,⟨⟨_,aF _ rfl,rfl,rfl⟩,D.to λo e=>ag _ e⟩⟩
end
end Tab
end L2
namespace L2
open PySem PySem.Spec PyProof.Rows PySem.W Tab
def a5u(P:qG)(w:World)(a:qE)(xs:qA (qI×qE)):HO:=.ext λh=>∃es ep t,SRaw h a es ep t/\es.toList.Perm (xs.map (Tab.ent P w))/\t.led=!w.params.followText "set-order"
def b6X{P:qG}{w:World}{H:Hp}{h:Heap}(ok:HOk P w H h){r:qI}{b:qE}(x:IT H (.ref b) r):TK P w h r b:=by
 obtain⟨a,e,q⟩:=x;cases e;obtain⟨_,its,c,o,h1,h2,n,d⟩:=(show ObjOk P w H h b (.tup (r.map V.int))from ok b _ q);refine⟨o,its.toArray,n,h1,h2,d,?_⟩;have:∀{r:qI}{its:qA qB},Vals (r.map V.int) its->ItemsAre (intKind P w) r its:=by
  intro r;induction r with
  |nil=>intro its c;cases c;exact .nil
  |cons x r f =>
   intro its c;cases c with
   |cons h t =>
    obtain⟨tk,rfl⟩:=h;exact .cons (intKind_is _ _ _ _) (f t)
 simpa using this c
def b7o(K:qF)(P:qG)(w:World):RL:=λys H Q=>∃(k:Bool) (p:qE) (vs:qA V) (rss:LLI),ys=[.ref p]/\SqK k K H p vs/\Its H vs rss/\vs.length<=1000 /\
 ∀a xs,H a=none->(xs.map (·.1)).Nodup->(∀r,r∈xs.map (·.1)↔r∈rss)->(∀x∈xs,IT H (.ref x.2) x.1)->Q (.ref a) (upd H a (a5u P w a xs))
def b2Y(P:qG)(w:World):RL:=λys H Q=>∃(a:qE) (xs:qA (qI×qE)),ys=[.ref a]/\H a=some (a5u P w a xs)/\(∀x∈xs,IT H (.ref x.2) x.1)/\(∀x∈xs,0<x.1.length)/\xs.length<=1000 /\
 ∀l zs tss,H l=none->Its H zs tss->tss.Perm (xs.map (·.1))->C8 tss->Q (.ref l) (upd H l (.lst zs))
section
variable {X:Cx}
def b1R(K:qF)(P:qG)(w:World)(hu:X.A.units+60<cLine)(hc:X.calm=true)(hK:X.K=K:=by rfl)(hP:X.prog=P:=by rfl)(hw:X.w=w:=by rfl):E2 X (.type "set") (b7o K P w):=by
 subst hK hP hw;intro qK s σ H ys us Q I rv h;obtain⟨k,p,vs,rss,rfl,O,hI,hn,q⟩:=h;obtain⟨u,rfl,D⟩:=rv.one;cases D;have N:X.A.handled=none:=I.ok.hd hc;have step:∀(its:qA qB),Vals vs its->∀(h':Heap) (tk:Nat) (xs:qA (qI×qE)) (c:Nat->qI×qE),(∀i,i<its.toArray.size->rss[i]?=some (c i).1/\IT H (.ref (c i).2) (c i).1) ->
   a0n X.prog X.w (!X.w.params.followText "set-order") h' s.heap.objs.size xs->Came c its.toArray.size xs->(∀b o,b<s.heap.objs.size->s.heap.get? b=some o->h'.get? b=some o)->EP X qK σ Q (.ref s.heap.objs.size) {s with heap:=h',toks:=tk}:=by
  intro its r h' tk xs c d n l A;obtain⟨o,es,ep,t,M,R,S,T,U,V,e7,e8,W⟩:=n;have B:its.toArray.size=rss.length:=by rw[<-hI.1,r.length];simp
  have F:H s.heap.objs.size=none:=I.hok.fresh (ao _);have E:∀x∈xs,IT H (.ref x.2) x.1:=λx J=>by
   obtain⟨j,m,rfl⟩:=l.from_ x J;exact(d j m).2
  refine⟨.ref s.heap.objs.size,_,I.laid (h':=h') (a:=s.heap.objs.size) (o:=a5u X.prog X.w s.heap.objs.size xs) (t':=tk) (λb o e=>A b o (aI e) e) (ao _) ⟨⟨es,ep,t,⟨⟨o,M,R,S⟩,U,V⟩,T,W⟩,⟨o,M⟩,λh1 h2 ⟨es,ep,t,q1,q2⟩ kk=>⟨es,ep,t,q1.to kk,q2⟩⟩,rfl,q _ xs F l.nd (λr=>?_) E⟩;constructor
  .intro hr;obtain⟨x,J,rfl⟩:=aM.mp hr;obtain⟨j,m,rfl⟩:=l.from_ x J;exact aH (d j m).1
  .intro hr;obtain⟨j,m⟩:=ck.mp hr;have y:j<its.toArray.size:=by rw[B];exact(aG.mp m).1
   have h1:=(d j y).1;rw[m]at h1;injection h1 with h1
   rw[h1];exact l.all j y
 have f:∀(its:qA qB),Vals vs its->∃c:Nat->qI×qE,(∀i v,i<its.toArray.size->its.toArray[i]?=some v->v=.ref (c i).2)/\∀i,i<its.toArray.size->rss[i]?=some (c i).1/\IT H (.ref (c i).2) (c i).1:=by
  intro its r;have g:∀i,∃x:qI×qE,i<its.toArray.size->(∀v,its.toArray[i]?=some v->v=.ref x.2)/\rss[i]?=some x.1/\IT H (.ref x.2) x.1:=λi=>by
   by_cases hi:i<its.toArray.size
   .have hi':i<vs.length:=by rw[r.length];simpa using hi
    obtain⟨u,eu,D⟩:=r.get (ai hi');obtain⟨row,Z,b,Y,hb⟩:=hI.2 i _ (ai hi');rw[Y]at D;cases D;refine⟨(row,b),λ_=>⟨λv G=>?_,Z,b,rfl,hb⟩⟩;have:its[i]?=some v:=by simpa using G
    rw[eu]at this;injection this with this
    exact this.symm
   .exact⟨([],0),λz=>absurd z hi⟩
  exact⟨λi=>Classical.choose (g i),λi v hi G=>(Classical.choose_spec (g i) hi).1 v G,λi hi=>(Classical.choose_spec (g i) hi).2⟩
 cases k
 .obtain⟨its,r,pl,hz⟩:=I.list O;obtain⟨c,L,C⟩:=f its r;exact a4s N pl.isList L (λi hi=>b6X I.hok (C i hi).2) (by have:=r.length;simp;omega) (by omega) λh' tk xs n l A=>step its r h' tk xs c C n l A
 .obtain⟨its,r,pl,hz⟩:=I.tuple O;obtain⟨c,L,C⟩:=f its r;exact a4e N pl L (λi hi=>b6X I.hok (C i hi).2) (by have:=r.length;simp;omega) (by omega) λh' tk xs n l A=>step its r h' tk xs c C n l A
def a8N(P:qG)(w:World)(hc:X.calm=true)(hP:X.prog=P:=by rfl)(hw:X.w=w:=by rfl):E2 X (.builtin "sorted") (b2Y P w):=by
 subst hP hw;intro qK s σ H ys us Q I rv h;obtain⟨a,xs,rfl,ha,K,O,hn,q⟩:=h;obtain⟨u,rfl,ru⟩:=rv.one;cases ru;obtain⟨⟨es,ep,t,D,z,L⟩,_⟩:=(show ObjOk X.prog X.w H s.heap a (a5u X.prog X.w a xs)from I.hok _ _ ha);obtain⟨d,G,te⟩:=O4 (f:=Tab.ent X.prog X.w) ((ord_perm (w:=X.w) (a:=a) (ep:=ep)).trans z) rfl;have A:∀x∈d,x∈xs:=λx B=>G.mem_iff.mp B;have g:es.size=d.length:=by rw[<-ay,z.length_eq,aj,G.length_eq]
 have hI:Its H (d.map λx=>V.ref x.2) (d.map (·.1)):=⟨by rw[aj,aj],λi v e=>by
  rw[aV]at e⊢;cases j:d[i]? with
  |none=>rw[j]at e;cases e
  |some x =>
   rw[j]at e;cases e;exact⟨x.1,rfl,K x (A x (aH j))⟩⟩
 have S:Vals (d.map λx=>V.ref x.2) (d.map λx=>Value.ref x.2):=a0q (λx:qI×qE=>x.2) d;have hz:(1000:Nat)<=sizeLine:=by rw[a'];decide
 have a0:d.length<=1000:=by rw[G.length_eq];exact hn
 have p:∀(U:qH) (J:qA qB->qC->Prop),(∀(h1:Heap) (tk:Nat),(∀b o,s.heap.get? b=some o->h1.get? b=some o)->J (d.map λx=>Value.ref x.2) {s with heap:=h1,toks:=tk})->wpAny (model X.prog X.w) X.A.in1 (collect (.ref a)) J U s:=λU J k=>by
  refine kdu_collect (b5i L) (show X.A.in1.handled=none from I.ok.hd hc) D (by omega) λh' tk qN kp l=>?_;have:qN.toList=d.map λx=>Value.ref x.2:=by
   refine eH λi=>?_;rw[av,aV];by_cases hi:i<d.length
   .have hia:i<qN.size:=by rw[l.1,g];exact hi
    obtain⟨e,F,N⟩:=l.2 i qN[i] (by simp[hia]);rw[<-av,<-te,aV,ai hi]at F;injection F with F
    rw[bG hia,ai hi,N,<-F];rfl
   .rw[de (by rw[l.1,g];omega),bO (by omega)];rfl
  rw[this];exact k h' tk kp
 have hl:=S.length;have TT:=a3P I hI S;obtain⟨T,t1,t2,t3,t4⟩:=a0p S hI.1;refine Z1 p TT (λr hr=>by obtain⟨x,B,rfl⟩:=aM.mp hr;exact O x (A x B)) (by rw[aj];omega) λh1 h' os c tk k1 k2 e hp hs=>?_;obtain⟨m,p1,p2⟩:=O4 (f:=λt:qB×V×qI=>t.1) hp t1.symm;have W:=I.kept (t':=tk) k1;have E:∀t∈m,RelV t.2.1 t.1/\IT H t.2.1 t.2.2/\J2 s.heap t.1=t.2.2:=λt M=>by
  obtain⟨i,hi⟩:=ck.mp (p1.mem_iff.mp M);obtain⟨r1,r2,r3⟩:=t4 i t hi;obtain⟨row,q1,q2⟩:=hI.2 i _ r2;rw[r3]at q1;cases q1;have e5:(d.map λx=>Value.ref x.2)[i]?=some t.1:=by rw[<-t1,aV,hi];rfl
  obtain⟨r',b,Z,f1,f2,f3,f4⟩:=TT.2 i _ e5;rw[r3]at f1;cases f1;exact⟨r1,q2,by rw[f2];exact D8 f3 f4⟩
 have R:(m.map (·.2.1)).length<=sizeLine:=by
  have Y:=(p1.map (λt:qB×V×qI=>t.2.1)).length_eq;rw[t2]at Y;simp only[aj]at Y⊢;omega
 have N:Vals (m.map (·.2.1)) os:=by rw[<-p2];exact Q9 λt M=>(E t M).1
 have I2:=W.laid (h':=h') (a:=h1.objs.size) (o:=.lst (m.map (·.2.1))) (t':=tk) k2 (ao _) ⟨R,os,c,N,e⟩;refine⟨.ref h1.objs.size,_,I2,rfl,q _ _ (m.map (·.2.2)) (W.hok.fresh (ao _)) ⟨by rw[aj,aj],λi v n=>?_⟩ (by have:=p1.map (λt:qB×V×qI=>t.2.2);rw[t3]at this;exact this.trans (G.map _)) ?_⟩
 .rw[aV]at n⊢;cases j:m[i]? with
  |none=>rw[j]at n;cases n
  |some t =>
   rw[j]at n;cases n;exact⟨t.2.2,rfl,(E t (aH j)).2.1⟩
 .unfold C8;rw[cx];rw[<-p2,cx]at hs;refine hs.imp_of_mem λ{x y} B hy C=>?_;rw[(E x B).2.2,(E y hy).2.2]at C;exact C
variable {e:Expr}{es:qA Expr}{t:TA}{p pos:Pos}
def b6t(K:qF)(P:qG)(w:World)(j:X.A.units+60<cLine)(h:Gl X "set")(i:X.mg "set"=none)(d:JA X (e::es) t)(f:X.calm=true:=by rfl)(b:X.K=K:=by rfl)(c:X.prog=P:=by rfl)(hw:X.w=w:=by rfl)(g:starEach (e::es) X.env=(false,eval e X.env)::starEach es X.env:=by rfl)(a:(backTo pos (starEach es X.env)).any (·.1)=false:=by rfl):JE X (.Call (.Name "set" p) (e::es) [] pos) (tCB (b7o K P w) t):=⟨O8 (b1R K P w j f b c hw) h i b9F d.h (by decide) (by decide) g a⟩
def b3Y(P:qG)(w:World)(g:Gl X "sorted")(h:X.mg "sorted"=none)(c:JA X (e::es) t)(d:X.calm=true:=by rfl)(b:X.prog=P:=by rfl)(hw:X.w=w:=by rfl)(f:starEach (e::es) X.env=(false,eval e X.env)::starEach es X.env:=by rfl)(a:(backTo pos (starEach es X.env)).any (·.1)=false:=by rfl):JE X (.Call (.Name "sorted" p) (e::es) [] pos) (tCB (b2Y P w) t):=⟨J4 (a8N P w d b hw) g h a2i c.h (by decide) (by decide) f a⟩
end
end L2
namespace L2
open PySem PySem.Spec PyProof.Rows
variable {r:qI}{rss:LLI}
def a3H:typeLookup (.type "list") "keys"=pure none:=by rw[typeLookup_type,fO];kernel_rfl
def a4T:entryFor table "dict.update.loop"=some Builtin.«dict.update.loop»:=entryFor_of_tree (by kernel_rfl)
def a0x:plainId "dict.update.loop"=true:=by decide +kernel
section
variable {prog:qG}{w:World}{A:Around}{E:qH}{s:qC}
def b6n{a:qE}{o:Obj}{xs:Array qB}{k:Nat}{Q:qD qB->qC->Prop}
  (q:s.heap.get? a=some o) (p:o.cls=.type "list") (f:o.data=.seq xs k) (hd:o.dict=none) (v:A.handled=none)
  (h:∀h' tk,(∀b r,s.heap.get? b=some r->h'.get? b=some r)->Q none {s with heap:=h',toks:=tk}):wpAny (model prog w) A (getAttr? (.ref a) "keys") Q E s:=by
 obtain⟨c,u,t,sl⟩:=o;simp only at p f hd;subst p f hd;obtain⟨x,g,d,tk,os⟩:=s;have n:∀l,(⟨x,g,d,l,os⟩:qC).TypeIs (.ref a) "list":=λ_=>⟨_,q,rfl⟩;have f1:=sub_AttributeError;have y:=PySem.F.slot_list_getattribute.lookup;have z:=PySem.F.slot_list_getattribute.bind (.ref a);have B:=am_list_getattr_none;have m:(Str.ofString "keys").length+100<=sizeLine:=by rw[a'];decide
 have i:(["__module__","__name__","__qualname__","__doc__","__annotations__"]:qA Str).contains "keys"=false:=by decide +kernel
 unfold getAttr? getAttrBy? getAttrBy
 repeat (any_goals (first|assumption|exact n _ | ((with_reducible show wpAny _ _ (call (Value.builtin "list.__getattribute__") _ _) _ _ _);refine dv PySem.F.slot_list_getattribute (n _) am_entry_list_getattribute (PySem.F.args_list_getattribute_2 _ _) (meets_getattribute_miss_list a xs k sl "keys" _ a3H i m) ⟨q,v,λh' l e j=>?_⟩)|wp_step))
 obtain⟨t',D,C⟩:=j.there;show wpAny _ _ (getattributeRaised _ _ _ _ _ _ _) _ _ _;unfold getattributeRaised
 repeat (any_goals (first|assumption|wp_step))
 exact h _ _ j.keeps
def a7i{h h':Heap}{ks:qA Key}{a:qE}(k:∀b o,h.get? b=some o->h'.get? b=some o)(x:(tupleKind (C1 prog w)).is h ks a):(tupleKind (C1 prog w)).is h' ks a:=by
 obtain⟨o,its,n,h1,r⟩:=x;exact⟨o,its,n,k _ _ h1,r⟩
def b7I(prog:qG)(w:World)(h:Heap)(d:qE)(xs:qA (qA Key×qE×qB)):Prop :=
 ∃o es ep,h.get? d=some o/\o.ExactDict/\o.data=.dict es ep/\es.toList=xs.map (entryOfKey (tupleKind (C1 prog w)))/\(xs.map (·.1)).Nodup
def b4y{R:Result->qC->Prop}{s0:Heap}{d it l:qE}{items:Array qB}(h:d≠it)(K:s0.get? d=none)(m:s0.get? it=none)(W:s0.IsList l items)(hh:A.handled=none)(S:A.units+10<cLine)(hz:items.size<=sizeLine)
  (J:Nat->qA (qA Key×qE×qB)->Prop)
  (M:∀i,i<items.size->∃p k a v,items[i]?=some (.ref p)/\IsTup s0 p #[.ref a,v]/\(tupleKind (C1 prog w)).is s0 k a/\∀xs,J i xs->xs.length<=i/\(∀x∈xs,(tupleKind (C1 prog w)).is s0 x.1 x.2.1)/\J (i+1) (storedH xs k a v)) :
  ∀(n i:Nat) (s:qC) (xs:qA (qA Key×qE×qB)),items.size-i=n->i<=items.size->(∀b o,s0.get? b=some o->s.heap.get? b=some o)->s.heap.IsListIter it l i->b7I prog w s.heap d xs->J i xs ->
  (∀h' tk g,(∀b o,s0.get? b=some o->h'.get? b=some o)->b7I prog w h' d g->J items.size g->R (.ok (.ret .none)) {s with heap:=h',toks:=tk}) ->
  codeAny (model prog w) A (.builtin "dict.update.loop" ⟨[.ref d,.ref it,rawInt i,.none],[]⟩) R s:=by
 intro n;induction n with
 |zero =>
  intro i s xs hn hi q c F N hR;have L:i=items.size:=by omega
  subst L;refine dI a4T ?_;rw[dQ a0x _];show wpAny _ A.in1 (pyNext (.ref it)>>=_) _ _ s;have j:s.heap.IsList l items:=let ⟨o,h1,h2⟩:=W;⟨o,q _ _ h1,h2⟩
  refine aa (wpAny_pyNext_list_end hh c j (by simp) λh' V=>?_);show wpAny _ _ (Builtin.Dict.addKeywords d []>>=_) _ _ _;refine aa (ae (ae ?_));obtain⟨o,es,ep,D,E⟩:=F;exact hR h' s.toks xs (λb X e=>V b X (λz=>by rw[z,m]at e;cases e) (q b X e)) ⟨o,es,ep,V _ _ h D,E⟩ N
 |succ n ih =>
  intro i s xs hn hi q c F N hR;have r:i<items.size:=by omega
  obtain⟨p,k,a,v,hp,hT,hK,I⟩:=M i r;obtain⟨a0,T,I⟩:=I xs N;refine dI a4T ?_;rw[dQ a0x _];show wpAny _ A.in1 (pyNext (.ref it)>>=_) _ _ s;have j:s.heap.IsList l items:=let ⟨o,h1,h2⟩:=W;⟨o,q _ _ h1,h2⟩
  refine aa (wpAny_pyNext_list_item c j hp λh1 U u=>?_);have f:∀b o,s0.get? b=some o->h1.get? b=some o:=λb o e=>u.extBut b o (λz=>by rw[z,m]at e;cases e) (q b o e);obtain⟨o,es,ep,D,E,g3,g4,g5⟩:=F;have G:h1.DictOfH (tupleKind (C1 prog w)) d xs:=⟨o,es,ep,u.extBut _ _ h D,E,g3,g4,λx hx=>a7i f (T x hx),g5⟩;obtain⟨op,t,P,np,Q⟩:=hT;show wpAny _ A.in1 (holding [.ref p] _>>=_) _ _ _;refine aa (bY (aa (wpAny_tryCatch ?_)));unfold Builtin.Dict.pairItems;refine aa (dz (s:={s with heap:=h1}) ⟨op,f _ _ t,P⟩ ?_);rw[az (by decide)];refine aa (cN (s:={s with heap:=h1}) (f _ _ t) Q (ae ?_));show wpAny _ _ (holding [.ref a,v] (dictSet d (.ref a) v)) _ _ _;refine bY (wpAny_dictSet_heap (s:={s with heap:=h1}) (knd:=tupleKind (C1 prog w)) (hsz:=by omega) (show A.units+1<cLine by omega) (a7i f hK) G λh2 H y=>?_);refine ae ⟨plainId_quiet a0x _,?_⟩;have O:∀b o,s0.get? b=some o->h2.get? b=some o:=λb o e=>y.extBut b o (λz=>by rw[z,K]at e;cases e) (f b o e);obtain⟨o',C,B,q1,q2,q3,q4,_,q5⟩:=H;exact ih (i+1) _ _ (by omega) r O (U.extBut y.extBut (du h)) ⟨o',C,B,q1,q2,q3,q4,q5⟩ I λh' tk g Y Z e3=>hR h' tk g Y Z e3
end
def PrT(H:Hp)(ps:qA V)(rss:LLI):Prop:=ps.length=rss.length/\∀(i:Nat) (q:V),ps[i]?=some q->∃(r:qI) (b:qE) (v y:V),rss[i]?=some r/\q=.ref b/\H b=some (.tup [v,y])/\IT H v r
def PrT.same{H H':Hp}{ps:qA V}{rss:LLI}(h:PrT H ps rss)(s:Same H H'):PrT H' ps rss :=
 ⟨h.1,λi q e=>let ⟨r,b,v,y,e1,e2,e3,e4⟩:=h.2 i q e;⟨r,b,v,y,e1,e2,s _ _ e3,e4.same s⟩⟩
def PrT.nil{H:Hp}:PrT H [] []:=⟨rfl,λi q e=>by simp at e⟩
def PrT.snoc{H:Hp}{ps:qA V}{b:qE}{v y:V}(h:PrT H ps rss)(c:H b=some (.tup [v,y]))(d:IT H v r):PrT H (ps++[.ref b]) (rss++[r]):=by
 refine⟨by simp[h.1],λi q e=>?_⟩;rw[fY]at e;rw[fY,<-h.1];split at e
 .rename_i hi;rw[az hi];exact h.2 i q e
 .rename_i hi;rw[au hi];cases a:i-ps.length with
  |zero =>
   rw[a]at e;cases e;exact⟨r,b,v,y,rfl,rfl,c,d⟩
  |succ j=>rw[a]at e;simp at e
def a2V(r:qI):(r.map (Sum.inl:Int->Key)).map kV=r.map V.int:=by
 rw[cD];rfl
def b9r{qL:qA (qA Key×V)}(f:qL.map (·.1)=IK rss)(g:r∉rss):G2 qL (r.map Sum.inl)=none:=by
 rw[<-Option.not_isSome_iff_eq_none,Bool.not_eq_true,<-M6,dN];intro d c e;have e:=bE e;have:d.1∈IK rss:=by rw[<-f];exact aM.mpr ⟨d,c,rfl⟩
 obtain⟨h,h1,h2⟩:=aM.mp this;rw[e]at h2;have inj:∀{a b:qI},a.map (Sum.inl:Int->Key)=b.map Sum.inl->a=b:=λ{a b} z=>by
  have:=aR (List.map kV) z;rw[a2V,a2V]at this;exact map_int_inj.mp this
 exact g (inj h2 ▸ h1)
section
variable {X:Cx}
variable {e:Expr}{es:qA Expr}{t:TA}{p pos:Pos}
end
structure Onc(mss rss:LLI):Prop where
 nd:mss.Nodup
 mem:∀r,r∈mss↔r∈rss
 le:mss.length<=rss.length
def Onc.new{c:LLI}(h:Onc c rss)(g:r∉c):Onc (c++[r]) (rss++[r]):=by
 refine⟨eJ.mpr ⟨h.nd,by simp,λa d b f e=>?_⟩,λq=>?_,?_⟩
 .rw[aB.mp f]at e;rw[e]at d;exact g d
 .rw[aA,aA,h.mem]
 .rw[ax,ax];have:=h.le;show _+1<=_+1;omega
def Onc.old{a:LLI}(h:Onc a rss)(b:r∈a):Onc a (rss++[r]):=by
 refine⟨h.nd,λq=>?_,?_⟩
 .rw[aA,aB,h.mem];exact⟨.inl,λz=>z.elim id λe=>by rw[e];exact(h.mem r).mp b⟩
 .rw[ax];have:=h.le;omega
def b3c:RL:=λxs H Q=>∃(l:qE) (ps:qA V) (rss:LLI),xs=[.ref l]/\H l=some (.lst ps)/\PrT H ps rss/\∀d qL mss,H d=none->qL.map (·.1)=IK mss->Onc mss rss->Q (.ref d) (upd H d (.dT qL))
section
variable {X:Cx}
def a8R(hu:X.A.units+60<cLine)(hc:X.calm=true):E2 X (.type "dict") b3c:=by
 intro qK s σ H xs us Q I rv h;obtain⟨l,ps,rss,rfl,hl,Z,q⟩:=h;obtain⟨u,rfl,K⟩:=rv.one;cases K;obtain⟨hz,its,n,r,e⟩:=(show ObjOk X.prog X.w H s.heap l (.lst ps)from I.hok _ _ hl);have hh:X.A.handled=none:=I.ok.hd hc;have E:its.toArray.size=ps.length:=by simpa using r.length.symm
 have hbig:sysModules<s.heap.objs.size:=fV (by decide) (I.mod.glob.keeps I.bk).lt;refine callType_codes (Q₁:=λF s₁=>F=.ref s.heap.objs.size/\s₁={s with heap:=s.heap.push {cls:=.type "dict",data:=.dict #[]}}) PySem.F.kt_called_dict (PySem.F.kt_typeCall_dict_1 _) PySem.F.entry_dict_init (kt_code_dict_new _ ⟨rfl,rfl⟩) ?_;rintro F s₁ ⟨rfl,rfl⟩;have J:(s.heap.push {cls:=.type "dict",data:=.dict #[]}).get? s.heap.objs.size=some {cls:=.type "dict",data:=.dict #[]}:=aF _ rfl;have k0:∀b o,s.heap.get? b=some o->(s.heap.push {cls:=.type "dict",data:=.dict #[]}).get? b=some o:=λb o e=>ag _ e;generalize s.heap.push {cls:=.type "dict",data:=.dict #[]}=Y at J k0;refine⟨⟨_,J,rfl⟩,PySem.F.args_dict_init_2 _ _,?_⟩;unfold Builtin.«dict.__init__»;refine aa ?_;unfold Builtin.Dict.selfAndRest;refine aa (fN ⟨_,J,rfl⟩ ?_);show wpAny _ _ (pure (s.heap.objs.size,[Value.ref l])) _ _ _;refine ae ?_;show wpAny _ _ (Builtin.Dict.updateFrom "dict.__init__" s.heap.objs.size (.ref l) [] .none) _ _ _;unfold Builtin.Dict.updateFrom;refine aa (dz (s:={s with heap:=Y}) ⟨_,k0 _ _ e,rfl⟩ ?_);rw[az (by decide)];refine aa (b6n (s:={s with heap:=Y}) (k0 _ _ e) rfl rfl rfl hh λh1 G k1=>?_);rw[az (show(none:qD qB).isNone=true from rfl)];refine aa (dP ?_);have j:∀b o,s.heap.get? b=some o->h1.get? b=some o:=λb o e=>k1 _ _ (k0 _ _ e);refine aa (fA (s:={s with heap:=h1,toks:=G}) ⟨_,j _ _ e,rfl,n,rfl⟩ ?_);have M:(h1.push {cls:=.type "list_iterator",data:=.fields #[.ref l,.int 0 0]}).IsListIter h1.objs.size l 0:=⟨_,aF _ rfl,rfl,rfl⟩;have k2:∀b o,h1.get? b=some o->(h1.push {cls:=.type "list_iterator",data:=.fields #[.ref l,.int 0 0]}).get? b=some o:=λb o e=>ag _ e;have T:=k1 _ _ J;refine ae ⟨plainId_quiet a0x _,?_⟩;refine b4y (prog:=X.prog) (w:=X.w) (A:=X.A.in1) (s0:=s.heap) (l:=l) (items:=its.toArray) (aQ (aI T)) ?_ ?_ ⟨_,e,rfl,n,rfl⟩ hh (show X.A.units+1+10<cLine by omega) (by omega)
  (λi xs=>∃qL d,KT H qL xs/\qL.map (·.1)=IK d/\Onc d (rss.take i)) (λi hi=>?_) _ 0 {s with heap:=h1.push {cls:=.type "list_iterator",data:=.fields #[.ref l,.int 0 0]},toks:=G} [] rfl (bq _) (λb o e=>k2 _ _ (j _ _ e)) M ⟨{cls:=.type "dict",data:=.dict #[]},#[],0,k2 _ _ T,⟨rfl,rfl,rfl⟩,rfl,rfl,eQ⟩ ⟨[],[],.nil,rfl,⟨.nil,λ_=>Iff.rfl,ao _⟩⟩ λh' tk S e1 e2 ⟨qL,d,e3,U,L⟩=>?_
 .cases z:s.heap.get? s.heap.objs.size with
  |none=>rfl
  |some o=>exact absurd (aI z) (bR _)
 .cases z:s.heap.get? h1.objs.size with
  |none=>rfl
  |some o=>exact absurd (aI (j _ _ z)) (bR _)
 .have hi':i<ps.length:=by omega
  obtain⟨u,eu,K⟩:=r.get (ai hi');obtain⟨row,b,v,y,er,eb,hb,a,rfl,ha⟩:=Z.2 i _ (ai hi');rw[eb]at K;cases K;obtain⟨_,a0,r2,N⟩:=(show ObjOk X.prog X.w H s.heap b (.tup [.ref a,y])from I.hok _ _ hb);obtain⟨u1,u2,rfl,P,R⟩:=r2.two;cases P;refine⟨b,row.map Sum.inl,a,u2,by simpa using eu,N,a0f I.hok (by rw[a2V];exact ha),?_⟩;rintro xs ⟨qL,d,O,C,f⟩;have D:xs.length=d.length:=by
   have h1:=Paired.length O;have h2:=aR List.length C;rw[IK,aj,aj]at h2;omega
  refine⟨by rw[D];exact ba f.le (bL _ _),λx g=>?_,U5 qL (row.map Sum.inl) y,if row∈d then d else d++[row],O.put _ (by rw[a2V];exact ha) R,?_⟩
  .have all:∀{l:qA (qA Key×V)}{m:qA (qA Key×qE×qB)},KT H l m->∀x∈m,(tupleKind (C1 X.prog X.w)).is s.heap x.1 x.2.1:=by
    intro l m q;induction q with
    |nil=>intro x g;exact nomatch g
    |@cons p q ps qs hq t ih =>
     intro x g;rcases aD.mp g with e|g
     .subst e;exact a0f I.hok (by rw[<-hq.1];exact hq.2.1)
     .exact ih x g
   exact all O x g
  .have et:rss.take (i+1)=rss.take i++[row]:=by rw[bg,er];rfl
   rw[et];by_cases k:row∈d
   .rw[az k,b0X _ (by rw[C];exact aM.mpr ⟨row,k,rfl⟩)];exact⟨C,f.old k⟩
   .rw[au k,a3t _ (b9r C k),cu,C];refine⟨?_,f.new k⟩;unfold IK;rw[cu];rfl
 .have hil:ps.length=rss.length:=Z.1;rw[E,hil,br]at L;obtain⟨o,es,ep,g1,g2,g3,g4,g5⟩:=e2;have B:H s.heap.objs.size=none:=I.hok.fresh (ao _);have D:qL.length<=rss.length:=by
   have h2:=aR List.length U;rw[IK,aj,aj]at h2;rw[h2];exact L.le
  refine⟨rfl,.ref s.heap.objs.size,_,I.laid (h':=h') (a:=s.heap.objs.size) (o:=.dT qL) (t':=tk) e1 (ao _) ⟨by omega,cO.mpr (du (aQ hbig)),S,e3.keeps λc ys W=>?_,o,es,ep,g1,g2,g3,g4,g5⟩,rfl,q _ qL d B U L⟩;rw[A3 (A8 W B)];exact W
variable {e:Expr}{es:qA Expr}{t:TA}{p pos:Pos}
def b4a(h:X.A.units+60<cLine)(f:Gl X "dict")(g:X.mg "dict"=none)(b:JA X (e::es) t)(c:X.calm=true:=by rfl)(d:starEach (e::es) X.env=(false,eval e X.env)::starEach es X.env:=by rfl)(a:(backTo pos (starEach es X.env)).any (·.1)=false:=by rfl):JE X (.Call (.Name "dict" p) (e::es) [] pos) (tCB b3c t):=⟨O8 (a8R h c) f g b6Q b.h (by decide) (by decide) d a⟩
end
end L2
namespace L2
open PySem PySem.Spec PyProof.Rows PySem.W
variable {X:Cx}{prog:qG}{w:World}
section
variable {κ:Type}[DecidableEq κ]{knd:HeapKind prog w κ}{A:Around}{E:qH}{s:qC}
def b5k{d a:qE}{xs:qA (κ×qE×qB)}{k:κ}{v:qB}{Q:qH}(t:knd.room A)(c:knd.is s.heap k a)(z:s.heap.DictOfH knd d xs)(hz:xs.length<=sizeLine)
  (h1:∀p,atKey xs k=some p->Q p.2 {s with toks:=s.toks+knd.draws k})
  (h2:atKey xs k=none->∀h',h'.DictOfH knd d (storedH xs k a v)->Heap.SameBut d s.heap h'->Q v {s with heap:=h',toks:=s.toks+knd.draws k}):wpAny (model prog w) A (dictSetDefault d (.ref a) v) Q E s:=by
 obtain⟨o,es,ep,f,u,hd,i,g,l⟩:=z;unfold dictSetDefault
 try with_reducible refine bY ?_
 refine aa (knd.pyHash t c ?_);refine aa (wpAny_dictFind_heap (s:={s with toks:=s.toks+knd.draws k}) t c f hd i g l (λh=>?_) λj p r=>?_)
 .have hnot:k∉xs.map (·.1):=not_mem_keys_of_get h;have b:=atKey_none_of_get h;refine aa (dP (aa (wpAny_updateDictKeys (hz:=by have e:=size_of_entries i;omega) (s:={s with toks:=s.toks+knd.draws k}) f hd (ae (h2 b _ ⟨_,_,ep+1,cH _ f (Obj.isFreed_of_dict (Obj.data_mapDictKeys hd _)),u.mapDictKeys _,Obj.data_mapDictKeys hd _,?e,?k,?n⟩ (bZ ..))))))
  case e =>
   rw[storedH_new b];simp[i,entryOfKey]
  case k =>
   rw[storedH_new b];intro x m;rcases aA.mp m with q|q
   .exact knd.keeps (g x q) f hd (bZ ..)
   .rw[aB.mp q];exact knd.keeps c f hd (bZ ..)
  case n =>
   rw[storedH_new b,cu,eJ];refine⟨l,by simp,λx m y B e=>hnot ?_⟩;have:y=k:=by simpa using B
   rw[<-this,<-e];exact m
 .refine aa (eI (s:={s with toks:=s.toks+knd.draws k}) f hd ?_);rw[entry_at i j,r];exact aa (dP (ae (h1 p (atKey_of_get l r))))
end
section
variable {κ:Type}[DecidableEq κ](knd:HeapKind prog w κ)
def b2M(d a:qE)(hd:(d==sysModules)=false)(b:qB) :
  MeetsIn prog w (Builtin.«dict.setdefault» ⟨[.ref d,.ref a,b],[]⟩) (λA R s=>knd.room A.in1/\∃k xs,knd.is s.heap k a/\s.heap.DictOfH knd d xs/\xs.length<=sizeLine /\
   (∀p,atKey xs k=some p->R (.ok (.ret p.2)) {s with toks:=s.toks+knd.draws k}) /\
   (atKey xs k=none->∀h',h'.DictOfH knd d (storedH xs k a b)->Heap.SameBut d s.heap h'->R (.ok (.ret b)) {s with heap:=h',toks:=s.toks+knd.draws k})) :=
 .of_wp λA R s ⟨j,k,xs,c,g,l,h1,h2⟩=>by
  unfold Builtin.«dict.setdefault» Builtin.Dict.keyAndDefault;refine aa (aa (fN g.typeIs ?_));show wpAny _ _ (pure (d,Value.ref a,some b)) _ _ s;refine ae ?_;change wpAny _ _ (if (d==sysModules)=true then _ else(dictSetDefault d (.ref a) b>>=_)) _ _ s;rw[au (by rw[hd];decide)];exact aa (b5k j c g l (λp i=>ae ⟨p.2,rfl,h1 p i⟩) λh h' e f=>ae ⟨b,rfl,h2 h h' e f⟩)
end
section
variable {qK:qA (qE×Obj)}{σ:St}{H:Hp}{s:qC}{a b:qE}{z:V}{r:qB}{qL:qA (qA Key×V)}{k:qA Key}{A:Around}{E:qH}
def RelO.sdv{o:qD V}{p:qE×qB}(h:RelO o (Option.map (·.2) (some p))):∃v,o=some v/\RelV v p.2:=by
 cases o with
 |none=>exact h.elim
 |some v=>exact⟨v,rfl,h⟩
def b9z{Q:qH}(F:A.units+1<cLine)(I:Inv X qK σ H s)(e:H a=some (.dT qL))(m:H b=some (.tup (k.map kV)))(K:qL.length<sizeLine)(J:RelV z r)
  (h1:∀v t s',G2 qL k=some v->Inv X qK σ H s'->RelV v t->Q t s') (h2:∀s',G2 qL k=none->Inv X qK σ (upd H a (.dT (U5 qL k z))) s'->Q r s') :
  wpAny (model X.prog X.w) A (call (.builtin "dict.setdefault") [.ref a,.ref b,r]) Q E s:=by
 obtain⟨G,hd,xs,f,dd⟩:=b7H I.hok e;have l:xs.length<=sizeLine:=by rw[<-Paired.length f];exact G
 have g:=f.val k;have j:(U5 qL k z).length<=sizeLine:=by have:=a0d qL k z;omega
 refine call_meetsIn PySem.F.slot_dict_setdefault dd.typeIs PySem.F.entry_dict_setdefault (PySem.F.args_dict_setdefault_3 _ _ _) (b2M (tupleKind (C1 X.prog X.w)) a b hd r) ⟨ek F,k,xs,a0f I.hok m,dd,l,λp D=>?_,λC h' h hs=>?_⟩
 .rw[D]at g;obtain⟨v,i,u⟩:=RelO.sdv g;exact h1 v _ _ i (I.tok _) u
 .rw[C]at g;have d:G2 qL k=none:=by
   cases i:G2 qL k with
   |none=>rfl
   |some v=>rw[i]at g;exact g.elim
  refine h2 _ d ?_;obtain⟨q,es,ep,o,w,x,y,_,B⟩:=h;refine a5W I (by rw[e];exact True.intro) hs ⟨q,o⟩ ⟨j,hd,_,(f.put k m J).keeps λc ys n=>?_,q,es,ep,o,w,x,y,B⟩;rw[A3 (K1 n e (λz=>nomatch z))];exact n
end
def b2s(td ty tx:TE):TE:=λσ H Q=>td σ H λx H1=>∃a,x=.ref a/\IsD H1 a/\ty σ H1 λy H2=>tx σ H2 λz H3=>∃qL k b,H3 a=some (.dT qL)/\y=.ref b/\H3 b=some (.tup (k.map kV))/\qL.length<sizeLine /\
 (∀v,G2 qL k=some v->Q v H3)/\(G2 qL k=none->Q z (upd H3 a (.dT (U5 qL k z))))
section
variable {o e f:Expr}{qP qM:Pos}{td ty tx:TE}
def b3s(G:X.A.units+1<cLine)(F:PE X o td)(D:PE X e ty)(E:PE X f tx)(m:M2 X o "setdefault" qP e f qM):PE X (.Call (.Attribute o "setdefault" qP) [e,f] [] qM) (b2s td ty tx):=by
 intro qK s σ H Q I h;refine wpAny_Call_method m.base m.few m.line PySem.F.plainAttrs_dict PySem.F.slot_dict_setdefault PySem.F.type_dict_setdefault (thn (F qK s σ H _ I h) λu s1 ⟨x,H1,j,M,a,ex,d,K⟩=>?_);subst ex;obtain rfl:u=Value.ref a:=M;obtain⟨P,R,_⟩:=b9q j d;refine⟨P,R,?_⟩;rw[m.trees];refine Calls.callWith_builtin rfl (fP (Calls.spliced_cons (thn (D qK s1 σ H1 _ j K) λJ s2 ⟨y,H2,p,N,L⟩ =>
  Calls.spliced_cons (thn (E qK s2 σ H2 _ p L) λS T ⟨z,n,q,l,qL,k,b,r,t,w,A,B,C⟩=>Calls.spliced_nil ?_))))
 subst t;obtain rfl:J=Value.ref b:=N;exact b9z G q r w A l (λv U O g c i=>⟨_,n,c,i,B v g⟩) λO g c=>⟨_,_,c,l,C g⟩
def b6w(d:X.A.units+60<cLine)(c:JE X o td)(a:JE X e ty)(b:JE X f tx)(m:M2 X o "setdefault" qP e f qM:=by exact⟨rfl,rfl,rfl,rfl⟩):JE X (.Call (.Attribute o "setdefault" qP) [e,f] [] qM) (b2s td ty tx):=⟨b3s (by omega) c.h a.h b.h m⟩
end
def b2o{d:qE}(hs:(d==sysModules)=false)(es:Array DictEntry)(ep:Nat)(c:Obj)(n:c.ExactDict)(hd:c.data=.dict es ep) :
  MeetsIn prog w (Builtin.«tuple.__new__» ⟨[.type "tuple",.ref d],[]⟩) (λA R s=>A.handled=none/\s.heap.get? d=some c/\es.size<=sizeLine /\
   ∀(h':Heap) (tk:Nat) (qN:Array qB),(∀b o,s.heap.get? b=some o->h'.get? b=some o)->ItemsOf (λi v=>∃e,es[i]?=some e/\v=e.key) qN es.size->R (.ok (.ret (.ref h'.objs.size))) {s with heap:=h'.push {cls:=.type "tuple",data:=.seq qN},toks:=tk}) :=
 .of_wp λA R s h=>by
  obtain⟨l,g,dd,tk,os⟩:=s;obtain⟨r,j,p,h⟩:=h;have m:=sub_tuple_self;have f:=init_tuple_lookup;have u:=madeHere_tuple;have q:Shared.TypeIs ⟨l,g,dd,tk,os⟩ (.ref d) "dict":=⟨c,j,n.1⟩;have D:DRaw l d es ep:=⟨c,j,n,hd⟩
  wp_walk using wpAny_loadPart' j,dz q,kdu_collect (a9z hs es ep) (show A.in1.handled=none from r) D p
  intro h' k qN t a;show wpAny _ _ (Builtin.Tuple.tupleExact qN.toList.toArray>>=λv=>ret v) _ _ _;unfold Builtin.Tuple.tupleExact;have e:qN.toList.toArray=qN:=by simp
  rw[e];refine aa (bz ?_ (by show qN.size<=sizeLine;rw[a.1];exact p));exact ae ⟨_,rfl,h h' k qN t a⟩
def a9B:RL:=λxs H Q=>∃(d:qE) (qL:qA (qA Key×V)) (rss:LLI),xs=[.ref d]/\H d=some (.dT qL)/\qL.map (·.1)=IK rss/\∀l zs,H l=none->Its H zs rss->Q (.ref l) (upd H l (.tup zs))
section
def a7F(A:X.calm=true):E2 X (.type "tuple") a9B:=by
 intro qK s σ H xs N Q I K h;obtain⟨d,qL,rss,rfl,hd,C,q⟩:=h;obtain⟨u,rfl,J⟩:=K.one;cases J;obtain⟨M,k,c,r,G,es,ep,v,w,y,n,L⟩:=(show ObjOk X.prog X.w H s.heap d (.dT qL)from I.hok _ _ hd);obtain⟨hI,p⟩:=a9O r C;have D:qL.length=c.length:=Paired.length r;have j:es.size=c.length:=by rw[<-ay,n,aj]
 refine callType_newIn PySem.F.called_tuple (by decide) (PySem.F.typeCall_tuple_1 _) (PySem.F.newCall_tuple_1 _) (λl=>PySem.F.args_object_init_2 l _) PySem.F.entry_tuple_new (b2o k es ep G w y) ⟨show X.A.in1.handled=none from I.ok.hd A,v,by omega,λh' tk qN F f=>?_⟩;have z:qN.toList=c.map λx=>Value.ref x.2.1:=by
  refine eH λi=>?_;rw[av,aV];by_cases hi:i<c.length
  .have hia:i<qN.size:=by rw[f.1,j];exact hi
   obtain⟨e,B,E⟩:=f.2 i qN[i] (by simp[hia]);have a:es.toList[i]?=some e:=by rw[av];exact B
   rw[n,aV,ai hi]at a;injection a with a
   rw[bG hia,ai hi,E,<-a];rfl
  .rw[de (by rw[f.1,j];omega),bO (by omega)];rfl
 have g:qN=(c.map λx=>Value.ref x.2.1).toArray:=by rw[<-z,Array.toArray_toList]
 have m:Inv X qK σ H {s with heap:=h',toks:=tk}:=I.kept (t':=tk) F;have t:Inv X qK σ (upd H h'.objs.size (.tup (c.map λx=>V.ref x.2.1))) {s with heap:=h'.push {cls:=.type "tuple",data:=.seq qN},toks:=tk}:=by
  rw[g];exact m.laid (t':=tk) (λb o e=>ag _ e) (ao _) (show ObjOk X.prog X.w _ _ _ (.tup (c.map λx=>V.ref x.2.1))from⟨by rw[aj];omega,_,a0q (λx:qA Key×qE×qB=>x.2.1) c,fi _ _⟩)
 exact⟨⟨_,aF _ rfl,rfl⟩,.ref h'.objs.size,_,t,rfl,q _ _ (m.hok.fresh (ao _)) hI⟩
variable {e:Expr}{es:qA Expr}{t:TA}{p pos:Pos}
def b1y(f:Gl X "tuple")(g:X.mg "tuple"=none)(b:JA X (e::es) t)(c:X.calm=true:=by rfl)(d:starEach (e::es) X.env=(false,eval e X.env)::starEach es X.env:=by rfl)(a:(backTo pos (starEach es X.env)).any (·.1)=false:=by rfl):JE X (.Call (.Name "tuple" p) (e::es) [] pos) (tCB a9B t):=⟨O8 (a7F c) f g Q3 b.h (by decide) (by decide) d a⟩
end
end L2
namespace K38
open PySem PySem.Spec PyProof.Rows L2
variable {C a b c p:qE}{F L W rss:LLI}{H H':Hp}{P:qG}{Q:VK}{base:Heap}{cs:qA (qD Int)}{i j k n:Nat}{qL:qA (qA Key×V)}{mg:Str->qD qB}{ns r u v xs:qI}{o:HO}{vs:qA V}{w:World}{x:V}{σ:L2.St}
def top(i:Nat):Stmt:=PySem.Challenge.pw_leastlays_k38_whole_rows_in_any_order.main.body.getD i (.Pass ⟨0,0,0,0⟩)
abbrev a5E:Stmt:=top 1
abbrev a1k:Stmt:=top 2
abbrev a0s:Stmt:=top 7
abbrev a5C:Stmt:=top 8
abbrev R8:Stmt:=top 9
abbrev a0t:Stmt:=top 10
abbrev a2S:Stmt:=top 11
abbrev a2T:Stmt:=top 13
abbrev a5D:Stmt:=top 14
abbrev a2O:Stmt:=top 15
abbrev a1m:Stmt:=top 16
abbrev a5B:Stmt:=top 17
abbrev W4:Stmt:=top 18
abbrev M8:Stmt:=top 19
abbrev L9:Stmt:=top 21
abbrev a1l:Stmt:=top 22
abbrev a2P:Stmt:=top 23
abbrev R7:Stmt:=top 25
abbrev N9:Stmt:=top 26
abbrev a2R:Stmt:=top 28
abbrev R1:Stmt:=top 30
abbrev R0:Stmt:=top 31
abbrev M0:Stmt:=top 32
abbrev V9:Stmt:=top 34
abbrev W3:Stmt:=top 36
abbrev a0v:Stmt:=top 37
abbrev a0w:Stmt:=top 39
abbrev R9:Stmt:=top 40
abbrev a1n:Stmt:=top 41
abbrev a0u:Stmt:=top 42
abbrev a2Q:Stmt:=top 43
abbrev W5:Stmt:=top 45
abbrev S5:Stmt:=top 46
abbrev M3:Stmt:=top 47
abbrev M1:Stmt:=top 48
abbrev O1:Stmt:=top 49
abbrev S6:Stmt:=top 50
abbrev J5:Stmt:=top 51
abbrev O0:Stmt:=top 52
abbrev J6:Stmt:=top 53
abbrev I9:Stmt:=top 54
abbrev E3:Stmt:=top 55
abbrev a3o:Stmt:=top 56
abbrev G0:Stmt:=X7 (top 27) 0
abbrev a0K:Stmt:=X7 (top 27) 1
abbrev D5:Stmt:=X7 (top 27) 2
abbrev Z8:Stmt:=X7 (top 27) 3
abbrev M4:Stmt:=X7 (top 27) 4
abbrev K3:Stmt:=X7 (top 27) 5
abbrev K4:Stmt:=X7 (top 27) 6
structure Tx(mg:Str->qD qB):Prop where
 b_ValueError:mg "ValueError"=none
 b_abs:mg "abs"=none
 b_all:mg "all"=none
 b_any:mg "any"=none
 b_bool:mg "bool"=none
 b_dict:mg "dict"=none
 b_enumerate:mg "enumerate"=none
 b_int:mg "int"=none
 b_isinstance:mg "isinstance"=none
 b_len:mg "len"=none
 b_list:mg "list"=none
 b_range:mg "range"=none
 b_set:mg "set"=none
 b_sorted:mg "sorted"=none
 b_sum:mg "sum"=none
 b_tuple:mg "tuple"=none
 b_zip:mg "zip"=none
structure PotAt(H:Hp)(a b:qE)(n:Nat):Prop where
 ne:a≠b
 ex:∃(cs:qI) (t k:Int),H a=some (.lst [.ref b,.int t])/\H b=some (.lst (cs.map V.int))/\cs.length<=63/\(∀c∈cs,0<=c)/\0<=t/\t<2 ^ 61/\0<=k/\k<=n
def PotAt.same(h:PotAt H a b n)(s:Same H H'):PotAt H' a b n:=by
 obtain⟨ne,c,t,k,h1,h2,d⟩:=h;exact⟨ne,c,t,k,s _ _ h1,s _ _ h2,d⟩
def PotAt.mono{m:Nat}(h:PotAt H a b n)(l:n<=m):PotAt H a b m:=by
 obtain⟨ne,c,t,k,h1,h2,d,e,f,g,i,j⟩:=h;exact⟨ne,c,t,k,h1,h2,d,e,f,g,i,by omega⟩
def b0o{hi:qD Int}(h:(N1 (ns.map V.int) none hi)[i]?=some x):∃z,x=V.int z:=by
 unfold N1 at h;have b:=aH h;have a:=cB (bD b);obtain⟨z,_,e⟩:=aM.mp a;exact⟨z,e.symm⟩
def b6I{hi:qD Int}:(N1 (ns.map V.int) none hi).length<=ns.length:=by
 have:=a0k (ns.map V.int) none hi;rwa[aj]at this
section
variable {K:qF}
inductive IspPot(K:qF)(vs:qA V)(H:Hp)(Q:VK)(E:XK):Prop
 |mk (a:qE) (ns:qI) (_:vs=[.ref a]) (_:SqL K H a (ns.map V.int)) (_:ns.length<=63) (_:∀p b H',H p=none->H b=none->PotAt H' p b 0->Same H H'->Q (.ref p) H'):IspPot K vs H Q E
def b7i(K:qF):Sp:=λvs H Q E=>IspPot K vs H Q E
def sc__law_pot:FnScope ["_law_script","_law_seed","_law_cell"] ["_law_script"] (A1 W5):={}
def b8N(F:FunAt K mg "_law_pot" W5 ["_law_script"])(T:Tx mg):Ok P w K mg base "_law_pot" 1 ["_law_script"] (b7i K):=by
 refine F.okJ sc__law_pot (λvs H Q E h=>?_) (λy f A m s H vs Q E I h=>?_)
 .obtain⟨a,ns,rfl,_⟩:=h;rfl
 .obtain⟨a,ns,rfl,hS,hl,k⟩:=h;refine⟨_,(A2 (B4 (i:=1) sc__law_pot.nd rfl (Or.inl rfl) A6)
 (A2 (J3 (K8 K (b7A K (jv 0) T3 (T0 A6))) (A5 (i:=2) sc__law_pot.nd rfl (Or.inl rfl))
 (A4 (B4 (i:=1) sc__law_pot.nd rfl (Or.inl rfl) (a3O (P6 (P6 (a0M (jv 1) A6) (a3O (jv 2) (b4d A6 A6))) A6) A6))))
 (A4 (A9 (T7 (jaC (B7 (N:=["_law_cell"]) (src:=[none]) (K8 K (b7A K (jv 0) T3 (T0 A6))) (by show C0 _ _=true;rfl) (by rfl) (by rfl)
 (λ_ _ _ _ _=>(A5 (i:=0) (L2.nd ["_law_cell"]) rfl (Or.inl rfl))) (λ_ _ _ _ _=>(a1X (c0D (b4c rfl T.b_abs (jaC (jv 0) jaN)) (b4d A6 A6)))) (λ_ _ _ _ _=>(b4c rfl T.b_abs (jaC (jv 0) jaN)))) (jaC (jv 1) jaN))))))),?_⟩
  refine⟨_,rfl,63,rfl,a,_,rfl,hS,λp D=>?_⟩;refine⟨p,rfl,⟨_,SqL.of A0⟩,?_⟩;refine V3 (K:=K) (a:=p) (xs:=N1 (ns.map V.int) none (some 63)) (λi σ H2=>Ex2 λ(t:Int) (v:qD V)=>An4 (σ=[some (.ref a),some (.int t),v]) (0<=t) (t<2 ^ 61) (H2=upd H p (.lst (N1 (ns.map V.int) none (some 63)))))
   ⟨29,none,rfl,by decide,by decide,rfl⟩ (λi σ H2 _ ⟨_,_,_,_,_,e⟩=>by rw[e];exact SqL.of A0) ?_ ?_
  .rintro i x σ H2 hx ⟨t,v,rfl,h0,h1,rfl⟩;obtain⟨z,rfl⟩:=b0o hx;dsimp only[B0];refine⟨_,rfl,_,_,rfl,rfl,.inl ⟨by omega,by omega⟩,_,rfl,_,_,rfl,rfl,⟨by decide,by decide,by decide⟩,_,_,rfl,rfl,(show(0:Int)<10 ^ Int.toNat 30 by decide),_,_,rfl,rfl,_,_,rfl,rfl,_,_,rfl,rfl,(show(0:Int)<2305843009213693951 by decide),?_⟩;refine⟨_,_,rfl,el _ (by decide),?_,rfl⟩;have:=dE (t*6364136223846793005+z % 10 ^ Int.toNat 30+1442695040888963407) (show(0:Int)<2305843009213693951 by decide);omega
  .rintro σ H2 ⟨t,v,rfl,h0,h1,rfl⟩;have n:Same H (upd H p (.lst (N1 (ns.map V.int) none (some 63)))):=(Same.refl H).upd D;generalize upd H p (.lst (N1 (ns.map V.int) none (some 63)))=H1 at n;refine⟨_,rfl,63,rfl,a,_,rfl,n.seq hS,λp2 l=>?_⟩;have s2:Same H (upd H1 p2 (.lst (N1 (ns.map V.int) none (some 63)))):=n.upd l;refine⟨p2,rfl,⟨_,SqL.of A0⟩,?_⟩;have r:(1000:Nat)<=sizeLine:=by rw[a'];decide
   have C:=b6I (ns:=ns) (hi:=some 63);refine a0E (K:=K) (a:=p2) (xs:=N1 (ns.map V.int) none (some 63)) (by omega) (λi ys g=>g=upd H1 p2 (.lst (N1 (ns.map V.int) none (some 63)))/\ys.length<=i/\∃b:qI,ys=b.map V.int/\∀c∈b,0<=c)
    ⟨rfl,ao _,[],rfl,λ_ h=>nomatch h⟩ (λi ys g _ ⟨e,B,_⟩=>⟨by rw[e];exact SqL.of A0,B⟩) ?_ ?_
   .rintro i x ys g hx ⟨rfl,hy,b,rfl,hc⟩;obtain⟨z,rfl⟩:=b0o hx;refine⟨Sub.one,?_⟩;refine⟨_,rfl,z,rfl,_,_,rfl,rfl,⟨by decide,by decide,by decide⟩,_,_,rfl,rfl,_,rfl,a1Y (λr=>?_) (λr=>?_)⟩
    .refine⟨_,rfl,z,rfl,rfl,by rw[ax];simpa using hy,b++[if z<0 then -z else z],by simp,λc j=>?_⟩;rcases aA.mp j with q|q
     .exact hc c q
     .rw[aB.mp q];split<;>omega
    .exact⟨rfl,by omega,b,rfl,hc⟩
   .rintro ys g ⟨rfl,hy,b,rfl,hc⟩ p3 hp3;refine⟨_,rfl,by show 2<=sizeLine;omega,λG d=>?_⟩;have u:=s2.upd (o:=.lst (b.map V.int)) hp3;refine k G p3 _ (u.free d) (s2.free hp3) ⟨?_,b,t,0,A0,?_,?_,hc,h0,h1,by decide,by decide⟩ (u.upd d)
    .exact(A8 (o:=.lst (b.map V.int)) A0 d).symm
    .exact U8 A0 d
    .rw[aj]at hy;omega
def at0{y:V}:atI [x,y] 0=some x:=rfl
def at1{y:V}:atI [x,y] 1=some y:=rfl
def atc{xs:qA V}:atI (x::xs) 0=some x:=a0G (j:=0) rfl
def c0U{x:Int}:ixN ((x::xs).map V.int).length 0=some 0:=by
 rw[aj,aT];unfold ixN;rw[az (by decide),az (by omega)];rfl
inductive IspTake(vs:qA V)(H:Hp)(Q:VK)(E:XK):Prop
 |mk (a b:qE) (n:Nat) (m:Int) (_:vs=[.ref a,.int m]) (_:PotAt H a b n) (_:n<2 ^ 60) (_:0<m) (_:m<2 ^ 60) (_:∀r H',0<=r->r<m->PotAt H' a b (n+1)->Off [a,b] H H'->Q (.int r) H'):IspTake  vs H Q E
def a0R:Sp:=λvs H Q E=>IspTake  vs H Q E
def sc__law_take:FnScope ["_law_pot_here","_law_many","_law_number_here","_law_mixed"] ["_law_pot_here","_law_many"] (A1 S5):={}
def b6f(F:FunAt K mg "_law_take" S5 ["_law_pot_here","_law_many"])(T:Tx mg):Ok P w K mg base "_law_take" 1 ["_law_pot_here","_law_many"] a0R:=by
 refine F.okJ sc__law_take (λvs H Q E h=>?_) (λL f A J s H vs Q E N h=>?_)
 .obtain⟨a,b,n,m,rfl,_⟩:=h;rfl
 .obtain⟨a,b,n,m,rfl,⟨ne,cs,t,k,ha,hb,hlen,hpos,ht0,ht1,hk0,hk1⟩,hn,hm0,hm1,kk⟩:=h;have O:=N.u60;refine⟨_,(A2 (D4 (a8z K O (N3 K (jv 0) A6) (T7 jaN))
 (A2 (B4 (i:=2) sc__law_take.nd rfl (Or.inl rfl) (N3 K (N3 K (jv 0) A6) A6))
 (A2 (a3M (b6v (jv 2) (jv 1)) (a8A (N3 K (jv 0) A6) A6))
 (A2 (D4 (a3L (N3 K (N3 K (jv 0) A6) A6) A6)
 (A4 (O6 (a7n K (N3 K (jv 0) A6) (jaC A6 jaN))))
 C2)
 (A4 (A9 (a3O (jv 2) (jv 1)))))))
 C2)
 (A2 (a3M (a3O (P6 (a0M (N3 K (jv 0) A6) A6) A6) A6) (a8A (jv 0) A6))
 (A2 (B4 (i:=3) sc__law_take.nd rfl (Or.inl rfl) (a3O (a0M (P6 (a3O (N3 K (jv 0) A6) A6) A6) (P6 (b4e (N3 K (jv 0) A6) A6) A6)) A6))
 (A4 (A9 (a3O (b4e (jv 3) A6) (jv 1))))))),?_⟩
  refine b9V (b:=b) (cs:=cs) (λS q=>ixL (var rfl) con ha at0 q) hb λp D=>?_;have j:=U8 (o:=.lst []) ha D;have r:=U8 (o:=.lst []) hb D;have l:Off [a,b] H (upd H p (.lst [])):=(Off.refl _ _).upd D;generalize upd H p (.lst [])=H1 at j r l;cases cs with
  |nil =>
   refine D0 ?_;refine⟨_,rfl,a,_,1,_,rfl,rfl,SqL.of j,at1,_,_,rfl,rfl,.inl ⟨by omega,by omega⟩,_,_,rfl,rfl,_,_,rfl,rfl,(show(0:Int)<2305843009213693951 by decide),?_⟩;dsimp only;generalize v:(t*3935559000370003845+2691343689449507681) % 2305843009213693951=x;have I:0<=x:=by rw[<-v];exact el _ (by decide)
   have R:x<2305843009213693951:=by rw[<-v];exact dE _ (by decide)
   refine⟨_,rfl,a,_,1,1,rfl,rfl,j,rfl,?_⟩;have y:PotAt (upd H1 a (.lst [.ref b,.int x])) a b (n+1):=⟨ne,[],x,0,A0,by rw[A3 ne.symm];exact r,by decide,(λ_ z=>nomatch z),I,by omega,by decide,by omega⟩;have g:Off [a,b] H (upd H1 a (.lst [.ref b,.int x])):=l.set (by simp);have d:upd H1 a (.lst [.ref b,.int x]) a=some (.lst [.ref b,.int x]):=A0;dsimp only[List.set_cons_succ,List.set_cons_zero];generalize upd H1 a (.lst [.ref b,.int x])=H2 at y g d⊢;have U:0<=x % 1000000007:=el _ (by decide);have W:x % 1000000007<1000000007:=dE _ (by decide);refine⟨_,rfl,a,_,1,_,rfl,rfl,SqL.of d,at1,_,_,rfl,rfl,(show(0:Int)<1000000007 by decide),_,_,rfl,rfl,_,rfl,a,_,1,_,rfl,rfl,SqL.of d,at1,_,_,rfl,rfl,⟨by decide,by decide⟩,_,_,rfl,rfl,_,_,rfl,rfl,.inl ⟨by omega,by omega⟩,_,_,rfl,rfl,(show(0:Int)<2305843009213693921 by decide),?_⟩;dsimp only[B0];refine⟨_,rfl,_,_,rfl,rfl,⟨by decide,by decide⟩,_,rfl,_,_,rfl,rfl,hm0,?_⟩;exact kk _ _ (el _ (by omega)) (dE _ hm0) y g
  |cons c cs =>
   refine G3 ?_;have C:0<=c:=hpos c ar;have M:cs.length+1<=63:=hlen;refine⟨_,rfl,a,_,0,_,rfl,rfl,SqL.of j,at0,b,_,0,_,rfl,rfl,SqL.of r,atc,?_⟩;dsimp only[B0];refine⟨_,rfl,_,rfl,_,_,rfl,rfl,⟨hm0,by omega⟩,?_⟩;refine⟨_,rfl,a,_,0,_,rfl,rfl,SqL.of j,at0,b,_,0,0,rfl,rfl,r,c0U,?_⟩;have G:0<=c / m:=Int.ediv_nonneg C (by omega);dsimp only;generalize B:upd H1 b _=H2;have u:H2 b=some (.lst ((c / m::cs).map V.int)):=by rw[<-B];exact A0
   have d:H2 a=some (.lst [.ref b,.int t]):=by rw[<-B,A3 ne];exact j
   have g:Off [a,b] H H2:=by rw[<-B];exact l.set (by simp)
   refine V8 (λσ H'=>Ex1 λo=>An3 (σ=[some (.ref a),some (.int m),some (.int c),o]) (PotAt H' a b (n+1)) (Off [a,b] H H')) ?fin λfin=>?_
   case fin =>
    rintro σ H' ⟨o,rfl,y,off⟩;refine⟨_,rfl,_,rfl,_,_,rfl,rfl,hm0,?_⟩;exact kk _ _ (el _ (by omega)) (dE _ hm0) y off
   refine⟨_,rfl,a,_,0,_,rfl,rfl,SqL.of d,at0,b,_,0,_,rfl,rfl,SqL.of u,atc,rfl,_,rfl,a1Y (λe=>?_) (λe=>?_)⟩
   .refine⟨_,rfl,a,_,0,_,rfl,rfl,SqL.of d,at0,.inl ⟨rfl,_,SqL.of u⟩,b,_,0,0,_,rfl,rfl,u,by decide,by decide,seqIndex_of (by decide) (by simp),rfl,?_⟩;exact fin _ _ ⟨none,rfl,⟨ne,cs,t,0,by rw[A3 ne];exact d,A0,by omega,λx v=>hpos x (aq _ v),ht0,ht1,by decide,by omega⟩,g.set (by simp)⟩
   .refine fin _ _ ⟨none,rfl,⟨ne,c / m::cs,t,0,d,u,hlen,λx v=>?_,ht0,ht1,by decide,by omega⟩,g⟩;rcases aD.mp v with rfl|v
    .exact G
    .exact hpos x (aq _ v)
end
def N2(h:k<ns.length):atI (ns.map V.int) (k:Int)=some (.int (ns.getD k 0)):=by
 refine a0G ?_;rw[aV,ai h];simp[ak,h]
def a1r(h:PotAt H a b n){xs:qA V}(d:H c=some (.tup xs)):c∉[a,b]:=by
 obtain⟨_,e,t,k,h1,h2,_⟩:=h;simp only[aD,bB,cL,not_or];exact⟨K1 d h1 (by intro z;cases z),K1 d h2 (by intro z;cases z)⟩
def IT.off{v:V}(h:IT H v ns)(d:PotAt H a b n)(o:Off [a,b] H H'):IT H' v ns:=by
 obtain⟨c,e,q⟩:=h;exact⟨c,e,o c _ (a1r d q) q⟩
def sqt{K:qF}{xs:qA V}(h:H a=some (.tup xs)):SqK true K H a xs:=SqT.of h
def Bel(xs ys:qI):Bool:=(List.zipWith (λa b=>decide (a<=b)) xs ys).all id
def b9Q(xs ys:qI):(List.zipWith (λa b=>V.bl (decide (a<=b))) xs ys).all trV=Bel xs ys:=by
 unfold Bel;induction xs generalizing ys with
 |nil=>rfl
 |cons x xs c =>
  cases ys with
  |nil=>rfl
  |cons y ys=>simp only[a_,cW,c ys];rfl
def a5g{γ:Type}(f:Int->Int->Int)(g:Int->γ):∀xs ys:qI,List.zipWith (λa b=>g (f a b)) xs ys=(List.zipWith f xs ys).map g
 |[],_=>rfl
 |_::_,[]=>rfl
 |x::xs,y::ys=>by rw[a_,a_,aW,a5g f g xs ys]
section
variable {K:qF}
end
def a7t(n:Nat):(List.replicate n [V.int 0]).flatten=(List.replicate n (0:Int)).map V.int:=by
 induction n with
 |zero=>rfl
 |succ n a=>rw[bU,cY,a,bU];rfl
def dot(xs ys:qI):Int:=(List.zipWith (λa b=>a*b) xs ys).sum
def Ans(rss:LLI)(ys:qI):Bool:=rss.all λr=>decide (dot r ys=0)
def Sm(ys:qI):Prop:=∀z∈ys,-2 ^ 64<z/\z<2 ^ 64
section
variable {K:qF}
inductive IspRowSum(vs:qA V)(H:Hp)(Q:VK)(E:XK):Prop
 |mk (x:_) (y:_) (xs:_) (ys:_) (_:vs=[x,y]) (_:IT H x xs) (_:IT H y ys) (_:xs.length<=1000) (_:Sm ys) (_:∀H',Same H H'->Q (.int (dot xs ys)) H'):IspRowSum  vs H Q E
def a3g:Sp:=λvs H Q E=>IspRowSum  vs H Q E
def a8g:FnScope ["row","one"] ["row","one"] (A1 a0s):={}
def a8q(F:FunAt K mg "row_sum" a0s ["row","one"])(T:Tx mg):Ok P w K mg base "row_sum" 1 ["row","one"] a3g:=by
 refine F.okJ a8g (λvs H Q E h=>?_) (λd f A c s H vs Q E l h=>?_)
 .obtain⟨x,y,xs,ys,rfl,_⟩:=h;rfl
 .obtain⟨_,_,xs,ys,rfl,⟨a,rfl,ha⟩,⟨b,rfl,hb⟩,hl,hs,k⟩:=h;refine⟨_,(A4 (A9 (a8B K rfl T.b_sum (jaC (B7 (N:=["a","b"]) (src:=[none,none]) (a0V K rfl T.b_zip (jaC (jv 0) (jaC (jv 1) jaN))) (by show C0 _ _=true;rfl) (by rfl) (by rfl)
 (λ_ _ _ _ _=>(L7 K 2 (B3 (A5 (i:=0) (L2.nd ["a","b"]) rfl (Or.inl rfl)) (B3 (A5 (i:=1) (L2.nd ["a","b"]) rfl (Or.inl rfl)) J0)))) (λ_ _ _ _ _=>C4) (λ_ _ _ _ _=>(a0M (jv 0) (jv 1)))) jaN)))),?_⟩
  refine⟨_,rfl,_,rfl,true,true,a,b,rfl,⟨_,SqT.of ha⟩,⟨_,SqT.of hb⟩,?_⟩;refine b0y (caps:=[]) (λx y=>V.int (x*y)) hl (λH' s=>⟨sqt (s _ _ ha),sqt (s _ _ hb)⟩) rfl (λx y H1 j _ g _ q=>⟨_,rfl,_,rfl,_,_,rfl,rfl,.inr (hs y g),q⟩) λH1 p s e=>?_;rw[a5g (λx y=>x*y) V.int];exact⟨false,p,_,rfl,SqL.of A0,k _ (s.upd e)⟩
inductive IspSums(vs:qA V)(H:Hp)(Q:VK)(E:XK):Prop
 |mk (a:qE) (y:V) (us:qA V) (rss:LLI) (ys:qI) (_:vs=[.ref a,y]) (_:H a=some (.tup us)) (_:Its H us rss) (_:IT H y ys) (_:us.length<=1000) (_:(∀r∈rss,r.length<=1000)) (_:Sm ys) (_:∀v H',Same H H'->IT H' v (rss.map λr=>dot r ys)->Q v H'):IspSums  vs H Q E
def a8a:Sp:=λvs H Q E=>IspSums  vs H Q E
def b5m:FnScope ["rows","one"] ["rows","one"] (A1 a5C):={}
def b6g(F:FunAt K mg "sums" a5C ["rows","one"])(T:Tx mg)(b:Ok P w K mg base "row_sum" 1 ["row","one"] a3g):Ok P w K mg base "sums" 2 ["rows","one"] a8a:=by
 refine F.okJ b5m (λvs H Q E h=>?_) (λg f A e s H vs Q E d h=>?_)
 .obtain⟨a,y,us,rss,ys,rfl,_⟩:=h;rfl
 .obtain⟨a,y,us,rss,ys,rfl,ha,hI,hy,c,hl2,hs,k⟩:=h;refine⟨_,(A4 (A9 (C7 K rfl T.b_tuple (jaC (B7 (N:=["row","one"]) (src:=[none,some 1]) (E4 K (jv 0)) (by show C0 _ _=true;rfl) (by rfl) (by rfl)
 (λ_ _ _ _ _=>(A5 (i:=0) (L2.nd ["row","one"]) rfl (Or.inl rfl))) (λ_ _ _ _ _=>C4) (λ_ _ _ _ _=>(A7 b (d.mono (by omega)) rfl (jaC (jv 0) (jaC (jv 1) jaN))))) jaN)))),?_⟩
  refine⟨_,rfl,a,rfl,⟨_,SqT.of ha⟩,?_⟩;refine a5j (caps:=[some y]) (λr=>V.int (dot r ys)) c (λH' s=>SqT.of (s _ _ ha)) hI rfl (λv r H1 n d m s1 q=>⟨_,rfl,_,rfl,v,y,r,ys,rfl,m,hy.same s1,hl2 r d,hs,q⟩) λH1 p s j=>?_;rw[show(rss.map λr=>V.int (dot r ys))=(rss.map λr=>dot r ys).map V.int by rw[cD];rfl];refine⟨p,_,rfl,.inl ⟨SqL.of A0,λl c=>?_⟩⟩;exact k _ _ ((s.upd j).upd c) ⟨l,rfl,A0⟩
inductive IspIsAns(vs:qA V)(H:Hp)(Q:VK)(E:XK):Prop
 |mk (a:qE) (y:V) (us:qA V) (rss:LLI) (ys:qI) (_:vs=[.ref a,y]) (_:H a=some (.tup us)) (_:Its H us rss) (_:IT H y ys) (_:us.length<=1000) (_:(∀r∈rss,r.length<=1000)) (_:Sm ys) (_:∀H',Same H H'->Q (.bl (Ans rss ys)) H'):IspIsAns  vs H Q E
def a2L:Sp:=λvs H Q E=>IspIsAns  vs H Q E
def a5x:FnScope ["rows","one"] ["rows","one"] (A1 R8):={}
def a5J(F:FunAt K mg "is_answer" R8 ["rows","one"])(T:Tx mg)(b:Ok P w K mg base "sums" 2 ["rows","one"] a8a):Ok P w K mg base "is_answer" 3 ["rows","one"] a2L:=by
 refine F.okJ a5x (λvs H Q E h=>?_) (λj f A d s H vs Q E m h=>?_)
 .obtain⟨a,y,us,rss,ys,rfl,_⟩:=h;rfl
 .obtain⟨a,y,us,rss,ys,rfl,ha,hI,hy,hl,hl2,hs,k⟩:=h;refine⟨_,(A4 (A9 (N0 K rfl T.b_all (jaC (B7 (N:=["total"]) (src:=[none]) (E4 K (A7 b (m.mono (by omega)) rfl (jaC (jv 0) (jaC (jv 1) jaN)))) (by show C0 _ _=true;rfl) (by rfl) (by rfl)
 (λ_ _ _ _ _=>(A5 (i:=0) (L2.nd ["total"]) rfl (Or.inl rfl))) (λ_ _ _ _ _=>C4) (λ_ _ _ _ _=>(a7k (jv 0) A6))) jaN)))),?_⟩
  refine⟨_,rfl,_,rfl,a,y,us,rss,ys,rfl,ha,hI,hy,hl,hl2,hs,λv H1 s1 c=>?_⟩;obtain⟨q,rfl,g⟩:=c;refine⟨q,rfl,⟨_,SqT.of g⟩,?_⟩;refine a1f (caps:=[]) (λx=>V.bl (decide (V.int x=V.int 0))) (by rw[aj,<-hI.1];exact hl) (λH' s=>SqT.of (s _ _ g)) rfl (λx H2 n _ _ q=>⟨_,rfl,rfl,q⟩) λH2 p s2 l=>?_;refine⟨false,p,_,rfl,SqL.of A0,?_,?_⟩
  .rw[aS];intro v c;obtain⟨x,_,rfl⟩:=aM.mp c;rfl
  .have e:((rss.map λr=>dot r ys).map λx=>V.bl (decide (V.int x=V.int 0))).all trV=Ans rss ys:=by
    rw[List.all_map,List.all_map];unfold Ans;congr 1;funext r;show decide (V.int (dot r ys)=V.int 0)=decide (dot r ys=0);simp
   rw[e];exact k _ (s1.trans (s2.upd l))
end
def a6g{α β γ:Type}(f:α->β->Int)(g:Int->γ):∀(xs:qA α) (ys:qA β),List.zipWith (λa b=>g (f a b)) xs ys=(List.zipWith f xs ys).map g
 |[],_=>rfl
 |_::_,[]=>rfl
 |x::xs,y::ys=>by rw[a_,a_,aW,a6g f g xs ys]
def S7(rss:LLI)(ts:qI)(j:Nat):Int:=(List.zipWith (λt r=>t*r.getD j 0) ts rss).sum
def a2j(rss:LLI)(ys:qI)(j:Nat):Int:=S7 rss (rss.map λr=>dot r ys) j
def Sb(ys:qI):Prop:=∀z∈ys,z.natAbs<2 ^ 200
def Rs(n:Nat)(rss:LLI):Prop:=∀r∈rss,r.length=n/\Sb r
def Sb.at(h:Sb r)(a:j<r.length):(r.getD j 0).natAbs<2 ^ 200:=by
 refine h _ ?_;rw[ak,ai a];exact cM _
def b0i:∀(r ys:qI),Sb r->Sm ys->(dot r ys).natAbs<=ys.length*(2 ^ 200*2 ^ 64)
 |[],ys,_,_=>by simp[dot]
 |_::_,[],_,_=>by simp[dot]
 |x::r,y::ys,b,hs=>by
  have e:dot (x::r) (y::ys)=x*y+dot r ys:=by unfold dot;rw[a_,bu]
  have g:=b0i r ys (λz a=>b z (aq _ a)) (λz a=>hs z (aq _ a));have h1:=b x ar;have h2:=hs y ar;have c:y.natAbs<=2 ^ 64:=by omega
  have d:(x*y).natAbs<=2 ^ 200*2 ^ 64:=by rw[Int.natAbs_mul];exact Nat.mul_le_mul (cG h1) c
  have f:=Int.natAbs_add_le (x*y) (dot r ys);rw[e,aT,Nat.add_mul,Nat.one_mul];omega
def b6G{ys:qI}(b:Sb r)(hs:Sm ys)(a:ys.length<=1000):(dot r ys).natAbs<2 ^ 400 :=
 dD (b0i r ys b hs) (dD (fZ _ a) (by decide))
def Sm.at(h:Sm r)(a:j<r.length) : -2 ^ 64<r.getD j 0/\r.getD j 0<2 ^ 64:=by
 refine h _ ?_;rw[ak,ai a];exact cM _
section
variable {K:qF}
inductive IspPullOf(vs:qA V)(H:Hp)(Q:VK)(E:XK):Prop
 |mk (a:qE) (y:V) (us:qA V) (rss:LLI) (ts:qI) (j n:Nat) (_:vs=[.ref a,y,.int j]) (_:H a=some (.tup us)) (_:Its H us rss) (_:IT H y ts) (_:ts.length<=1000) (_:j<n) (_:n<=1000) (_:Rs n rss) (_:(∀t∈ts,t.natAbs<2 ^ 400)) (_:∀H',Same H H'->Q (.int (S7 rss ts j)) H'):IspPullOf  vs H Q E
def a6z:Sp:=λvs H Q E=>IspPullOf  vs H Q E
def a8h:FnScope ["rows","totals","j"] ["rows","totals","j"] (A1 a0t):={}
def a8r(F:FunAt K mg "pull_of" a0t ["rows","totals","j"])(T:Tx mg):Ok P w K mg base "pull_of" 1 ["rows","totals","j"] a6z:=by
 refine F.okJ a8h (λvs H Q E h=>?_) (λe f A c s H vs Q E d h=>?_)
 .obtain⟨a,y,us,rss,ts,j,n,rfl,_⟩:=h;rfl
 .obtain⟨a,_,us,rss,ts,j,n,rfl,ha,hI,⟨b,rfl,hb⟩,hl,hj,hn,hR,hts,k⟩:=h;refine⟨_,(A4 (A9 (a8B K rfl T.b_sum (jaC (B7 (N:=["total","row","j"]) (src:=[none,none,some 2]) (a0V K rfl T.b_zip (jaC (jv 1) (jaC (jv 0) jaN))) (by show C0 _ _=true;rfl) (by rfl) (by rfl)
 (λ_ _ _ _ _=>(L7 K 2 (B3 (A5 (i:=0) (L2.nd ["total","row","j"]) rfl (Or.inl rfl)) (B3 (A5 (i:=1) (L2.nd ["total","row","j"]) rfl (Or.inl rfl)) J0)))) (λ_ _ _ _ _=>C4) (λ_ _ _ _ _=>(b9k (jv 0) (G7 K (jv 1) (jv 2))))) jaN)))),?_⟩
  refine⟨_,rfl,_,rfl,true,true,b,a,rfl,⟨_,SqT.of hb⟩,⟨_,SqT.of ha⟩,?_⟩;refine b2f (caps:=[some (.int j)]) (λt r=>V.int (t*r.getD j 0)) hl (λH' s=>⟨sqt (s _ _ hb),sqt (s _ _ ha)⟩) hI rfl (λx v r H1 u o d m _ q=>?_) λH1 p s l=>?_
  .obtain⟨va,rfl,hva⟩:=m;obtain⟨z,g⟩:=hR r d;exact⟨_,rfl,_,rfl,_,rfl,va,_,_,_,rfl,rfl,SqT.of hva,N2 (by omega),_,_,rfl,rfl,⟨aL (hts x o) (Nat.pow_le_pow_right (by decide) (by decide)),aL (g.at (by omega)) (Nat.pow_le_pow_right (by decide) (by decide))⟩,q⟩
  .rw[a6g (λt r=>t*List.getD r j 0) V.int];exact⟨false,p,_,rfl,SqL.of A0,k _ (s.upd l)⟩
inductive IspFalls(vs:qA V)(H:Hp)(Q:VK)(E:XK):Prop
 |mk (a:qE) (y:V) (us:qA V) (rss:LLI) (ys:qI) (_:vs=[.ref a,y]) (_:H a=some (.tup us)) (_:Its H us rss) (_:IT H y ys) (_:us.length<=1000) (_:ys.length<=1000) (_:Rs ys.length rss) (_:Sm ys) (_:∀v H',Same H H'->IT H' v (((List.range ys.length).filter λj=>decide (a2j rss ys j<0)).map λ(i:Nat)=>(i:Int))->Q v H'):IspFalls  vs H Q E
def a9t:Sp:=λvs H Q E=>IspFalls  vs H Q E
def sc_falls:FnScope ["rows","one","totals"] ["rows","one"] (A1 a2S):={}
def b3G(F:FunAt K mg "falls" a2S ["rows","one"])(T:Tx mg)(b:Ok P w K mg base "pull_of" 1 ["rows","totals","j"] a6z)(c:Ok P w K mg base "sums" 2 ["rows","one"] a8a):Ok P w K mg base "falls" 3 ["rows","one"] a9t:=by
 refine F.okJ sc_falls (λvs H Q E h=>?_) (λn f A m s H vs Q E d h=>?_)
 .obtain⟨a,y,us,rss,ts,rfl,_⟩:=h;rfl
 .obtain⟨a,y,us,rss,ys,rfl,ha,hI,hy,e,hn,hR,hs,k⟩:=h;refine⟨_,(A2 (B4 (i:=2) sc_falls.nd rfl (Or.inr rfl) (A7 c (d.mono (by omega)) rfl (jaC (jv 0) (jaC (jv 1) jaN))))
 (A4 (A9 (C7 K rfl T.b_tuple (jaC (B7 (N:=["j","rows","totals"]) (src:=[none,some 0,some 2]) (E9 rfl T.b_range (jaC (E5 K rfl T.b_len (jaC (jv 1) jaN)) jaN)) (by show C0 _ _=true;rfl) (by rfl) (by rfl)
 (λ_ _ _ _ _=>(A5 (i:=0) (L2.nd ["j","rows","totals"]) rfl (Or.inl rfl))) (λ_ _ _ _ _=>(a1X (b3V (A7 b (d.mono (by omega)) rfl (jaC (jv 1) (jaC (jv 2) (jaC (jv 0) jaN)))) A6))) (λ_ _ _ _ _=>(jv 0))) jaN))))),?_⟩
  refine⟨_,rfl,_,rfl,a,y,us,rss,ys,rfl,ha,hI,hy,e,λr d=>by rw[(hR r d).1];exact hn,hs,λv H1 s1 x=>?_⟩;dsimp only[B0];obtain⟨B,rfl,g⟩:=hy.same s1;refine⟨_,rfl,B,_,rfl,.inr (SqT.of g),_,rfl,by omega,by rw[aj];omega,?_⟩;rw[bf,aj];refine a8m (caps:=[some (.ref a),some v]) (λj=>decide (a2j rss ys j<0)) hn rfl (λi H2 D hi s2 q=>?_) λH2 p s2 o=>?_
  .refine⟨_,rfl,_,rfl,_,rfl,a,v,us,rss,_,i,ys.length,rfl,(s1.trans s2) _ _ ha,hI.same (s1.trans s2),x.same s2,by rw[aj,<-hI.1];exact e,hi,hn,hR,λt u=>by
    obtain⟨r,d,rfl⟩:=aM.mp u;exact b6G (hR r d).2 hs hn,λC z=>?_⟩
   exact⟨_,_,rfl,rfl,_,rfl,q _ z⟩
  .refine⟨p,_,rfl,.inl ⟨SqL.of A0,λl e=>?_⟩⟩;exact k _ _ (s1.trans ((s2.upd o).upd e)) ⟨l,rfl,A0⟩
end
def C3(x y:Int)(xs ys:qI):dot (x::xs) (y::ys)=x*y+dot xs ys:=by unfold dot;rw[a_,bu]
def a1A:∀(xs:qI) (n:Nat),dot xs (List.replicate n 0)=0
 |[],_=>rfl
 |_::_,0=>rfl
 |x::xs,n+1=>by rw[bU,C3,a1A xs n];omega
def a2g:∀(xs ys:qI),xs.length=ys.length->dot xs ys=((List.range ys.length).map λj=>xs.getD j 0*ys.getD j 0).sum
 |[],[],_=>rfl
 |x::xs,y::ys,h=>by
  rw[C3,a2g xs ys (by simpa using h),aT,List.range_succ_eq_map,aW,bu,cD];rfl
def a9n(l:qA Nat)(f g:Nat->Int):(l.map λj=>f j+g j).sum=(l.map f).sum+(l.map g).sum:=by
 induction l with
 |nil=>rfl
 |cons x l a=>simp only[aW,bu,a];omega
def a5k(l:qA Nat)(c:Int)(f:Nat->Int):(l.map λj=>c*f j).sum=c*(l.map f).sum:=by
 induction l with
 |nil=>simp
 |cons x l a=>simp only[aW,bu,a,fH]
def bump(now:qI)(j:Nat):qI:=now.set j (now.getD j 0+1)
def Pl(rss:LLI)(now xs:qI):qA Nat:=(List.range xs.length).filter λj=>decide (now.getD j 0<xs.getD j 0) && (Ans rss now || decide (a2j rss now j<0))
def Under(now xs:qI):Prop:=now.length=xs.length/\∀j,j<xs.length->now.getD j 0<=xs.getD j 0
def G8(a:qI)(j:Nat):(bump a j).length=a.length:=fc
def b3k{a:qI}(h:j∈Pl rss a xs):j<xs.length/\a.getD j 0<xs.getD j 0:=by
 unfold Pl at h;rw[aP,aZ,aO,bH]at h;exact⟨h.1,h.2.1⟩
def a1D(a:qI)(j k:Nat)(b:j<a.length):(bump a j).getD k 0=if k=j then a.getD j 0+1 else a.getD k 0:=by
 unfold bump;rw[ak,fE];by_cases e:j=k
 .subst e;rw[az rfl,az b,az rfl];rfl
 .rw[au e,au (du e),ak]
def Under.bump{a:qI}(h:Under a xs)(b:j∈Pl rss a xs):Under (bump a j) xs:=by
 obtain⟨h1,h2⟩:=b3k b;refine⟨by rw[G8];exact h.1,λk c=>?_⟩;rw[a1D _ _ _ (by rw[h.1];exact h1)];by_cases e:k=j
 .rw[az e,e];omega
 .rw[au e];exact h.2 k c
def a9l:∀(xs:qI) (k:Nat) (z:Int),k<xs.length->(xs.set k z).sum=xs.sum-xs.getD k 0+z
 |[],_,_,h=>by simp at h
 |x::xs,0,z,_=>by rw[List.set_cons_zero,bu,bu,List.getD_cons_zero];omega
 |x::xs,k+1,z,h=>by rw[List.set_cons_succ,bu,bu,List.getD_cons_succ,a9l xs k z (by simpa using h)];omega
def a7G(a:qI)(j:Nat)(h:j<a.length):(bump a j).sum=a.sum+1:=by
 unfold bump;rw[a9l _ _ _ h];omega
def Under.tail{x y:Int}{ys:qI}(h:Under (x::xs) (y::ys)):x<=y/\Under xs ys :=
 ⟨by simpa using h.2 0 (by simp),by simpa using h.1,λj a=>by simpa using h.2 (j+1) (by simpa using a)⟩
def Under.sum:∀{xs ys:qI},Under xs ys->xs.sum<=ys.sum/\(xs≠ys->xs.sum<ys.sum)
 |[],[],_=>⟨eC _,λh=>absurd rfl h⟩
 |[],_::_,h=>by have:=h.1;simp at this
 |_::_,[],h=>by have:=h.1;simp at this
 |x::xs,y::ys,h=>by
  obtain⟨h1,h2⟩:=h.tail;obtain⟨b,a⟩:=Under.sum h2;rw[bu,bu];refine⟨by omega,λne=>?_⟩;by_cases e:xs=ys
  .subst e;have:x≠y:=λq=>ne (by rw[q]);omega
  .have:=a e;omega
def Under.ne:∀{xs ys:qI},Under xs ys->xs≠ys->∃j,j<ys.length/\xs.getD j 0<ys.getD j 0
 |[],[],_,h=>absurd rfl h
 |[],_::_,h,_=>by have:=h.1;simp at this
 |_::_,[],h,_=>by have:=h.1;simp at this
 |x::xs,y::ys,h,ne=>by
  obtain⟨h1,h2⟩:=h.tail;by_cases e:xs=ys
  .subst e;have:x≠y:=λq=>ne (by rw[q]);exact⟨0,by simp,by simp;omega⟩
  .obtain⟨j,q1,q2⟩:=Under.ne h2 e;exact⟨j+1,by simpa using q1,by simpa using q2⟩
def b2v(l:qI)(h:∀x∈l,0<=x):0<=l.sum:=by
 induction l with
 |nil=>exact eC _
 |cons x l b =>
  rw[bu];have:=h x (ar ..);have:=b λy a=>h y (aq _ a);omega
def a9m(l:qI)(h:∀x∈l,0<=x)(y:Int)(b:y∈l)(hp:0<y):0<l.sum:=by
 induction l with
 |nil=>cases b
 |cons x l c =>
  rw[bu];have e:=h x (ar ..);have d:=b2v l λz a=>h z (aq _ a);rcases aD.mp b with q|q
  .omega
  .have:=c (λz a=>h z (aq _ a)) q;omega
def a2r(t:Int):0<=t*t:=by
 rcases Int.le_total 0 t with h|h
 .exact dV h h
 .have:=dV (a := -t) (b := -t) (by omega) (by omega);rwa[Int.neg_mul_neg]at this
def a3d(ys:qI):∀(rss:LLI) (a:qI),(∀r∈rss,r.length=ys.length)->a.length=rss.length ->
  ((List.range ys.length).map λj=>S7 rss a j*ys.getD j 0).sum=(List.zipWith (λt r=>t*dot r ys) a rss).sum
 |[],[],_,_=>by
  have e:((List.range ys.length).map λj=>S7 [] [] j*ys.getD j 0)=(List.range ys.length).map λj=>0*ys.getD j 0:=rfl;rw[e,a5k,Int.zero_mul];rfl
 |[],_::_,_,h=>by simp at h
 |_::_,[],_,h=>by simp at h
 |r::rss,t::a,h,b=>by
  have d:=a3d ys rss a (λq c=>h q (aq _ c)) (by simpa using b);rw[a_,bu,<-d];have e:(λj=>S7 (r::rss) (t::a) j*ys.getD j 0)=λj=>t*(r.getD j 0*ys.getD j 0)+S7 rss a j*ys.getD j 0:=by
   funext j;unfold S7;rw[a_,bu,Int.add_mul,Int.mul_assoc]
  rw[e,a9n,a5k,<-a2g r ys (h r (ar ..))]
def a9o:∀(rss:LLI) (a xs:qI),Ans rss xs=true->(List.zipWith (λt r=>t*dot r xs) (rss.map λr=>dot r a) rss).sum=0
 |[],_,_,_=>rfl
 |r::rss,a,xs,h=>by
  unfold Ans at h;rw[cW,aO,bH]at h;rw[aW,a_,bu,h.1,a9o rss a xs h.2];omega
def b7S(rss:LLI)(a:qI)(h:Ans rss a=false):0<(List.zipWith (λt r=>t*dot r a) (rss.map λr=>dot r a) rss).sum:=by
 have e:List.zipWith (λt r=>t*dot r a) (rss.map λr=>dot r a) rss=rss.map λr=>dot r a*dot r a:=by
  clear h;induction rss with
  |nil=>rfl
  |cons r rss f=>rw[aW,a_,aW,f]
 rw[e];have:∃r∈rss,dot r a≠0:=by
  refine bN λq=>?_;have:Ans rss a=true:=by
   unfold Ans;rw[aS];intro r c;rw[bH];exact bN λz=>q ⟨r,c,z⟩
  rw[this]at h;cases h
 obtain⟨r,c,b⟩:=this;refine a9m _ (λx d=>?_) (dot r a*dot r a) (aM.mpr ⟨r,c,rfl⟩) ?_
 .obtain⟨q,_,rfl⟩:=aM.mp d;exact a2r _
 .have h1:=a2r (dot r a);have h2:dot r a*dot r a≠0:=λz=>by
   rcases Int.mul_eq_zero.mp z with q|q<;>exact b q
  omega
def c0p(rss:LLI)(a xs:qI)(hR:∀r∈rss,r.length=xs.length)(c:Under a xs)(h:a≠xs)(m:Ans rss xs=true):Pl rss a xs≠[]:=by
 intro b;unfold Pl at b;rw[List.filter_eq_nil_iff]at b;cases d:Ans rss a with
 |true =>
  obtain⟨j,h1,h2⟩:=c.ne h;refine b j (aZ.mpr h1) ?_;rw[d,aO,bH];exact⟨h2,rfl⟩
 |false =>
  have p1:=a3d a rss (rss.map λr=>dot r a) (λr o=>by rw[hR r o,c.1]) (by simp);have p2:=a3d xs rss (rss.map λr=>dot r a) hR (by simp);have w:=b7S rss a d;have u:=a9o rss a xs m;rw[c.1]at p1;have v:((List.range xs.length).map λj=>S7 rss (rss.map λr=>dot r a) j*a.getD j 0+(-1)*(S7 rss (rss.map λr=>dot r a) j*xs.getD j 0)).sum<=0:=by
   have hs:∀(l:qI),(∀x∈l,x<=0)->l.sum<=0:=λl k=>by
    induction l with
    |nil=>exact eC _
    |cons x l t =>
     rw[bu];have:=k x (ar ..);have:=t λy s=>k y (aq _ s);omega
   refine hs _ λx p=>?_;obtain⟨j,i,rfl⟩:=aM.mp p;have f:=aZ.mp i;have n:=c.2 j f;have e:S7 rss (rss.map λr=>dot r a) j*a.getD j 0+(-1)*(S7 rss (rss.map λr=>dot r a) j*xs.getD j 0) = -(S7 rss (rss.map λr=>dot r a) j*(xs.getD j 0-a.getD j 0)):=by
    rw[Int.mul_sub];omega
   rw[e];by_cases g:a.getD j 0<xs.getD j 0
   .have hp:0<=S7 rss (rss.map λr=>dot r a) j:=by
     have q:=b j i;rw[d]at q;have A:¬a2j rss a j<0:=λz=>q (by simp only[eY,aO,bH];exact⟨g,z⟩);show 0<=a2j rss a j;omega
    have:=dV hp (show 0<=xs.getD j 0-a.getD j 0 by omega);omega
   .have:xs.getD j 0-a.getD j 0=0:=by omega
    rw[this,Int.mul_zero];exact eC _
  rw[a9n,a5k,p1,p2,u]at v;omega
section
variable {K:qF}
inductive IspBelow(vs:qA V)(H:Hp)(Q:VK)(E:XK):Prop
 |mk (x:_) (y:_) (xs:_) (ys:_) (_:vs=[x,y]) (_:IT H x xs) (_:IT H y ys) (_:xs.length<=1000) (_:∀H',Same H H'->Q (.bl (Bel xs ys)) H'):IspBelow  vs H Q E
def a2N:Sp:=λvs H Q E=>IspBelow  vs H Q E
def b2O:FnScope ["one","other"] ["one","other"] (A1 a2T):={}
def b3I(F:FunAt K mg "below" a2T ["one","other"])(T:Tx mg):Ok P w K mg base "below" 1 ["one","other"] a2N:=by
 refine F.okJ b2O (λvs H Q E h=>?_) (λd f A c s H vs Q E l h=>?_)
 .obtain⟨x,y,xs,ys,rfl,_⟩:=h;rfl
 .obtain⟨_,_,xs,ys,rfl,⟨a,rfl,ha⟩,⟨b,rfl,hb⟩,hl,k⟩:=h;refine⟨_,(A4 (A9 (N0 K rfl T.b_all (jaC (B7 (N:=["a","b"]) (src:=[none,none]) (a0V K rfl T.b_zip (jaC (jv 0) (jaC (jv 1) jaN))) (by show C0 _ _=true;rfl) (by rfl) (by rfl)
 (λ_ _ _ _ _=>(L7 K 2 (B3 (A5 (i:=0) (L2.nd ["a","b"]) rfl (Or.inl rfl)) (B3 (A5 (i:=1) (L2.nd ["a","b"]) rfl (Or.inl rfl)) J0)))) (λ_ _ _ _ _=>C4) (λ_ _ _ _ _=>(b3T (jv 0) (jv 1)))) jaN)))),?_⟩
  refine⟨_,rfl,_,rfl,true,true,a,b,rfl,⟨_,SqT.of ha⟩,⟨_,SqT.of hb⟩,?_⟩;refine a6h (caps:=[]) (λx y=>V.bl (decide (x<=y))) (sqt ha) (sqt hb) hl (λH' s=>⟨sqt (s _ _ ha),sqt (s _ _ hb)⟩) rfl (λx y H1 j _ q=>⟨_,rfl,_,rfl,_,_,rfl,rfl,q⟩) λH1 p s e=>?_;refine⟨false,p,_,rfl,SqL.of A0,?_,?_⟩
  .rw[aS];intro v g;obtain⟨i,hi,rfl⟩:=bS.mp g;rw[List.getElem_zipWith];rfl
  .rw[b9Q];exact k _ (s.upd e)
inductive IspUnit(vs:qA V)(H:Hp)(Q:VK)(E:XK):Prop
 |mk (wd:Int) (n j:Nat) (_:vs=[.int wd,.int j]) (_:wd=n) (_:n<=1000) (_:j<n) (_:∀v H',Same H H'->IT H' v ((List.range n).map λi=>if i=j then 1 else 0)->Q v H'):IspUnit  vs H Q E
def b2x:Sp:=λvs H Q E=>IspUnit  vs H Q E
def b5l:FnScope ["width","j"] ["width","j"] (A1 a5B):={}
def b6d(F:FunAt K mg "unit" a5B ["width","j"])(T:Tx mg):Ok P w K mg base "unit" 1 ["width","j"] b2x:=by
 refine F.okJ b5l (λvs H Q E h=>?_) (λc f A b s H vs Q E o h=>?_)
 .obtain⟨_,n,j,rfl,_⟩:=h;rfl
 .obtain⟨_,n,j,rfl,rfl,hn,hj,k⟩:=h;refine⟨_,(A4 (A9 (C7 K rfl T.b_tuple (jaC (B7 (N:=["k","j"]) (src:=[none,some 1]) (E9 rfl T.b_range (jaC (jv 0) jaN)) (by show C0 _ _=true;rfl) (by rfl) (by rfl)
 (λ_ _ _ _ _=>(A5 (i:=0) (L2.nd ["k","j"]) rfl (Or.inl rfl))) (λ_ _ _ _ _=>C4) (λ_ _ _ _ _=>(c0G (a3L (jv 0) (jv 1)) A6 A6))) jaN)))),?_⟩
  refine⟨_,rfl,n,rfl,by omega,by omega,?_⟩;rw[bf];refine W8 (caps:=[some (.int j)]) (λi=>V.int (if i=j then 1 else 0)) hn rfl (λi H1 m hi _ q=>?_) λH1 p s g=>?_
  .refine⟨_,rfl,_,rfl,rfl,_,rfl,a1Y (λe=>?_) (λe=>?_)⟩
   .have e1:(i:Int)=(j:Int):=by simpa using e
    have a:i=j:=by omega
    rw[az a]at q;exact q
   .have e1:¬(i:Int)=(j:Int):=by simpa using e
    have a:i≠j:=by omega
    rw[au a]at q;exact q
  .rw[show((List.range n).map λi=>V.int (if i=j then 1 else 0))=((List.range n).map λi=>if i=j then(1:Int)else 0).map V.int by rw[cD];rfl];refine⟨p,_,rfl,.inl ⟨SqL.of A0,λl d=>?_⟩⟩;exact k _ _ ((s.upd g).upd d) ⟨l,rfl,A0⟩
def cV:qD Int->V
 |none=>.non
 |some c=>.int c
def b1P(c:qD Int)(x:Int):Bool:=match c with|none=>true|some c=>decide (x<=c)
def Wi(cs:qA (qD Int))(xs:qI):Bool:=(List.zipWith b1P cs xs).all id
def b9S(cs:qA (qD Int))(xs:qI):(List.zipWith (λc x=>V.bl (b1P c x)) cs xs).all trV=Wi cs xs:=by
 unfold Wi;induction cs generalizing xs with
 |nil=>rfl
 |cons c cs a =>
  cases xs with
  |nil=>rfl
  |cons x xs=>rw[a_,a_,cW,cW,a];rfl
inductive IspWithin(vs:qA V)(H:Hp)(Q:VK)(E:XK):Prop
 |mk (a b:qE) (cs:qA (qD Int)) (xs:qI) (_:vs=[.ref a,.ref b]) (_:H a=some (.tup (cs.map cV))) (_:H b=some (.tup (xs.map V.int))) (_:cs.length<=1000) (_:∀H',Same H H'->Q (.bl (Wi cs xs)) H'):IspWithin  vs H Q E
def a3f:Sp:=λvs H Q E=>IspWithin  vs H Q E
def b0O:FnScope ["caps","one"] ["caps","one"] (A1 a1k):={}
def a4G(F:FunAt K mg "within" a1k ["caps","one"])(T:Tx mg):Ok P w K mg base "within" 1 ["caps","one"] a3f:=by
 refine F.okJ b0O (λvs H Q E h=>?_) (λe f A d s H vs Q E m h=>?_)
 .obtain⟨a,b,cs,xs,rfl,_⟩:=h;rfl
 .obtain⟨a,b,cs,xs,rfl,ha,hb,hl,k⟩:=h;refine⟨_,(A4 (A9 (N0 K rfl T.b_all (jaC (B7 (N:=["cap","number"]) (src:=[none,none]) (a0V K rfl T.b_zip (jaC (jv 0) (jaC (jv 1) jaN))) (by show C0 _ _=true;rfl) (by rfl) (by rfl)
 (λ_ _ _ _ _=>(L7 K 2 (B3 (A5 (i:=0) (L2.nd ["cap","number"]) rfl (Or.inl rfl)) (B3 (A5 (i:=1) (L2.nd ["cap","number"]) rfl (Or.inl rfl)) J0)))) (λ_ _ _ _ _=>C4) (λ_ _ _ _ _=>(c0F (b9c (jv 0) T5) (a1w (b3T (jv 1) (jv 0)))))) jaN)))),?_⟩
  refine⟨_,rfl,_,rfl,true,true,a,b,rfl,⟨_,SqT.of ha⟩,⟨_,SqT.of hb⟩,?_⟩;refine b4T (caps:=[]) cV V.int (λc x=>V.bl (b1P c x)) hl (λH' s=>⟨sqt (s _ _ ha),sqt (s _ _ hb)⟩) rfl (λc x H1 l _ _ _ q=>?_) λH1 p s g=>?_
  .cases c with
   |none=>exact⟨_,rfl,rfl,true,rfl,G3 (q _ (Same.refl _))⟩
   |some c=>exact⟨_,rfl,rfl,false,rfl,D0 ⟨_,rfl,_,rfl,_,_,rfl,rfl,q _ (Same.refl _)⟩⟩
  refine⟨false,p,_,rfl,SqL.of A0,?_,?_⟩
  .rw[aS];intro v j;obtain⟨i,hi,rfl⟩:=bS.mp j;rw[List.getElem_zipWith];rfl
  .rw[b9S];exact k _ (s.upd g)
end
def L3(n j:Nat):qI:=(List.range n).map λi=>if i=j then(1:Int)else 0
def K9(cs:qA (qD Int)):LLI:=((List.range cs.length).map (L3 cs.length)).filter λu=>Wi cs u
def b0r(c:qD Int)(x:Int):Bool:=match c with|none=>true|some c=>decide (x<c)
def StP(rss:LLI)(cs:qA (qD Int))(ys:qI):qA Nat:=((List.range ys.length).filter λj=>decide (a2j rss ys j<0)).filter λj=>b0r (cs.getD j none) (ys.getD j 0)
section
variable {K:qF}
inductive IspFirst(vs:qA V)(H:Hp)(Q:VK)(E:XK):Prop
 |mk (a:qE) (cs:qA (qD Int)) (_:vs=[.ref a]) (_:H a=some (.tup (cs.map cV))) (_:0<=cs.length) (_:cs.length<=100) (_:∀p zs tss H',Same H H'->H' p=some (.tup zs)->Its H' zs tss->tss.Perm (K9 cs)->C8 tss->Q (.ref p) H'):IspFirst  vs H Q E
def a2M:Sp:=λvs H Q E=>IspFirst  vs H Q E
def sc_first_steps:FnScope ["caps","units"] ["caps"] (A1 L9):={}
def a3y(F:FunAt K mg "first_steps" L9 ["caps"])(T:Tx mg)(c:Ok P w K mg base "unit" 1 ["width","j"] b2x)(b:Ok P w K mg base "within" 1 ["caps","one"] a3f):Ok P w K mg base "first_steps" 2 ["caps"] a2M:=by
 refine F.okJ sc_first_steps (λvs H Q E h=>?_) (λS f A L s H vs Q E n h=>?_)
 .obtain⟨a,cs,rfl,_⟩:=h;rfl
 .obtain⟨a,cs,rfl,ha,h1,h2,k⟩:=h;have X:(3000:Nat)<=sizeLine:=by rw[a'];decide
  refine⟨_,(A2 (a9R (i:=1) sc_first_steps.nd rfl (Or.inl rfl) (N:=["j","caps"]) (src:=[none,some 0]) (E9 rfl T.b_range (jaC (E5 K rfl T.b_len (jaC (jv 0) jaN)) jaN)) (by show C0 _ _=true;rfl) (by rfl) (by rfl)
 (λ_ _ _ _ _=>(A5 (i:=0) (L2.nd ["j","caps"]) rfl (Or.inl rfl))) (λ_ _ _ _ _=>C4) (λ_ _ _ _ _=>(A7 c (n.mono (by omega)) rfl (jaC (E5 K rfl T.b_len (jaC (jv 1) jaN)) (jaC (jv 0) jaN)))))
 (A4 (A9 (C7 K rfl T.b_tuple (jaC (a7o K rfl T.b_sorted (jaC (B7 (N:=["one","caps"]) (src:=[none,some 0]) (K8 K (jv 1)) (by show C0 _ _=true;rfl) (by rfl) (by rfl)
 (λ_ _ _ _ _=>(A5 (i:=0) (L2.nd ["one","caps"]) rfl (Or.inl rfl))) (λ_ _ _ _ _=>(a1X (C9 K (A7 b (n.mono (by omega)) rfl (jaC (jv 1) (jaC (jv 0) jaN)))))) (λ_ _ _ _ _=>(jv 0))) jaN)) jaN))))),?_⟩
  refine⟨_,rfl,a,_,rfl,.inr (SqT.of ha),_,rfl,by rw[aj];omega,by rw[aj];omega,?_⟩;rw[bf,aj];refine a1p (caps:=[some (.ref a)]) (by omega) rfl (λi ys H'=>Same H H'/\Its H' ys ((List.range i).map (L3 cs.length))) ⟨Same.refl H,.nil⟩ (λi ys H' h=>by rw[h.2.1];simp) ?_ ?_
  .rintro i ys H' hi ⟨s',hI⟩;refine⟨_,rfl,a,_,rfl,.inr (SqT.of (s' _ _ ha)),_,rfl,_,cs.length,i,rfl,by rw[aj],by omega,hi,λv H2 s2 J=>⟨s'.trans s2,?_⟩⟩;rw[List.range_succ,cu];exact(hI.same s2).snoc J
  .rintro ys H' ⟨s',hI⟩ p hp;dsimp only[B0];have s1:=s'.upd (o:=.lst ys) hp;have e:=hI.same ((Same.refl H').upd (o:=.lst ys) hp);have y:upd H' p (.lst ys) p=some (.lst ys):=A0;generalize upd H' p (.lst ys)=H1 at s1 e y;refine⟨_,rfl,p,rfl,⟨_,SqL.of y⟩,?_⟩;have U:ys.length=cs.length:=by rw[hI.1];simp
   refine a3E (caps:=[some (.ref a)]) (λu=>Wi cs u) (by omega) (λH2 s2=>SqL.of (s2 _ _ y)) e rfl (λv r H2 W n J s2 q=>?_) λH2 p2 d s2 m z=>?_
   .obtain⟨va,rfl,hva⟩:=J;exact⟨_,rfl,_,rfl,a,va,cs,r,rfl,(s1.trans s2) _ _ ha,hva,by omega,λt x=>⟨Wi cs r,rfl,q t x⟩⟩
   have x:=(s1.trans s2).upd (o:=.lst d) m;have g:=z.same ((Same.refl H2).upd (o:=.lst d) m);have M:upd H2 p2 (.lst d) p2=some (.lst d):=A0;generalize upd H2 p2 (.lst d)=t at x g M;refine⟨p2,d,_,rfl,.inl (SqL.of M),g,λr n=>?_,λl zs tss C B G I _=>?_⟩
   .obtain⟨j,hj,rfl⟩:=aM.mp (aP.mp n).1;have:=aZ.mp hj;simp[L3];omega
   refine⟨l,_,rfl,.inl ⟨SqL.of A0,λV D=>?_⟩⟩;have O:=(Same.refl t).upd (o:=.lst zs) C;have R:=(Same.refl (upd t l (.lst zs))).upd (o:=.tup zs) D;exact k V zs tss _ ((x.trans O).trans R) A0 ((B.same O).same R) G I
inductive IspRaised(vs:qA V)(H:Hp)(Q:VK)(E:XK):Prop
 |mk (y:V) (ys:qI) (j:Nat) (_:vs=[y,.int j]) (_:IT H y ys) (_:j<ys.length) (_:ys.length<=1000) (_:∀v H',Same H H'->IT H' v (bump ys j)->Q v H'):IspRaised  vs H Q E
def a6y:Sp:=λvs H Q E=>IspRaised  vs H Q E
def b0P:FnScope ["one","j"] ["one","j"] (A1 a1l):={}
def b1g(F:FunAt K mg "raised" a1l ["one","j"]):Ok P w K mg base "raised" 1 ["one","j"] a6y:=by
 refine F.okJ b0P (λvs H Q E h=>?_) (λc f A b s H vs Q E d h=>?_)
 .obtain⟨y,ys,j,rfl,_⟩:=h;rfl
 .obtain⟨_,ys,j,rfl,⟨a,rfl,ha⟩,hj,hl,k⟩:=h;refine⟨_,(A4 (A9 (a2W (a2W (b7z K (jv 0) T3 (T0 (jv 1))) (T4 (jaC (P6 (G7 K (jv 0) (jv 1)) A6) jaN))) (b7z K (jv 0) (T0 (P6 (jv 1) A6)) T3)))),?_⟩;exact b8b (i:=0) (j:=1) (a:=a) (xs:=ys) (k:=j) (z:=ys.getD j 0+1) rfl rfl ha hj hl (λH' N s' q=>⟨_,rfl,_,rfl,a,_,_,_,rfl,rfl,SqT.of (s' _ _ ha),N2 hj,_,_,rfl,rfl,q⟩) k
inductive IspSteps(vs:qA V)(H:Hp)(Q:VK)(E:XK):Prop
 |mk (a c:qE) (y:V) (us:qA V) (rss:LLI) (cs:qA (qD Int)) (ys:qI) (_:vs=[.ref a,.ref c,y]) (_:H a=some (.tup us)) (_:Its H us rss) (_:H c=some (.tup (cs.map cV))) (_:IT H y ys) (_:us.length<=1000) (_:ys.length<=100) (_:cs.length=ys.length) (_:Rs ys.length rss) (_:Sm ys) (_:∀p ps H',Same H H'->H' p=some (.lst ps)->Prs H' ps (bump ys) (StP rss cs ys)->Q (.ref p) H'):IspSteps  vs H Q E
def a5o:Sp:=λvs H Q E=>IspSteps  vs H Q E
def b4E(h:j<cs.length):atI (cs.map cV) (j:Int)=some (cV (cs.getD j none)):=by
 refine a0G ?_;rw[aV,ai h];simp[ak,h]
def sc_steps:FnScope ["rows","caps","one","places"] ["rows","caps","one"] (A1 a2P):={}
def b3B(F:FunAt K mg "steps" a2P ["rows","caps","one"])(T:Tx mg)(d:Ok P w K mg base "falls" 3 ["rows","one"] a9t)(b:Ok P w K mg base "raised" 1 ["one","j"] a6y):Ok P w K mg base "steps" 4 ["rows","caps","one"] a5o:=by
 refine F.okJ sc_steps (λvs H Q E h=>?_) (λR f A G s H vs Q E L h=>?_)
 .obtain⟨a,c,y,us,rss,cs,ys,rfl,_⟩:=h;rfl
 .obtain⟨a,c,_,us,rss,cs,ys,rfl,ha,hI,hc,⟨y,rfl,hy⟩,hl,hn,hcl,hR,hs,k⟩:=h;have Y:(3000:Nat)<=sizeLine:=by rw[a'];decide
  refine⟨_,(A2 (a9R (i:=3) sc_steps.nd rfl (Or.inl rfl) (N:=["j","caps","one"]) (src:=[none,some 1,some 2]) (E4 K (A7 d (L.mono (by omega)) rfl (jaC (jv 0) (jaC (jv 2) jaN)))) (by show C0 _ _=true;rfl) (by rfl) (by rfl)
 (λ_ _ _ _ _=>(A5 (i:=0) (L2.nd ["j","caps","one"]) rfl (Or.inl rfl))) (λ_ _ _ _ _=>(a1X (a1W (a3K (b9f (G7 K (jv 1) (jv 0)) T5) (a1V (b3V (G7 K (jv 2) (jv 0)) (G7 K (jv 1) (jv 0)))))))) (λ_ _ _ _ _=>(jv 0)))
 (A4 (A9 (B7 (N:=["j","one"]) (src:=[none,some 2]) (K8 K (jv 3)) (by show C0 _ _=true;rfl) (by rfl) (by rfl)
 (λ_ _ _ _ _=>(A5 (i:=0) (L2.nd ["j","one"]) rfl (Or.inl rfl))) (λ_ _ _ _ _=>C4) (λ_ _ _ _ _=>(T4 (jaC (jv 0) (jaC (A7 b (L.mono (by omega)) rfl (jaC (jv 1) (jaC (jv 0) jaN))) jaN)))))))),?_⟩
  refine⟨_,rfl,_,rfl,a,_,us,rss,ys,rfl,ha,hI,⟨y,rfl,hy⟩,hl,by omega,hR,hs,λv H1 s1 D=>?_⟩;obtain⟨W,rfl,l⟩:=D;refine⟨W,rfl,⟨_,SqT.of l⟩,?_⟩;rw[cD]at l;have n:∀j∈(List.range ys.length).filter (λj=>decide (a2j rss ys j<0)),j<ys.length:=λj g=>aZ.mp (aP.mp g).1;have t:((List.range ys.length).filter (λj=>decide (a2j rss ys j<0))).length<=ys.length:=ba (bo _ _) (by simp);refine b0G (caps:=[some (.ref c),some (.ref y)]) (λ(j:Nat)=>V.int j) (λj=>b0r (cs.getD j none) (ys.getD j 0)) (by omega) (λH' s=>SqT.of (s _ _ l)) rfl (λj H2 X g s2 q=>?_) λH2 p2 s2 u=>?_
  .have hj':=n j g;refine⟨_,rfl,_,rfl,c,_,_,_,rfl,rfl,SqT.of ((s1.trans s2) _ _ hc),b4E (by omega),rfl,_,rfl,?_⟩;cases e:cs.getD j none with
   |none =>
    rw[e]at q;exact G3 (q _ (Same.refl _))
   |some z =>
    rw[e]at q;refine D0 ⟨_,rfl,_,rfl,y,_,_,_,rfl,rfl,SqT.of ((s1.trans s2) _ _ hy),N2 hj',_,rfl,_,rfl,c,_,_,_,rfl,rfl,SqT.of ((s1.trans s2) _ _ hc),b4E (by omega),?_⟩;rw[e];exact⟨_,_,rfl,rfl,_,rfl,q _ (Same.refl _)⟩
  have I:=(s1.trans s2).upd (o:=.lst ((StP rss cs ys).map λ(j:Nat)=>V.int j)) u;have r:upd H2 p2 (.lst ((StP rss cs ys).map λ(j:Nat)=>V.int j)) p2=some (.lst ((StP rss cs ys).map λ(j:Nat)=>V.int j)):=A0;have C:∀j∈StP rss cs ys,j<ys.length:=λj g=>n j (aP.mp g).1;have U:(StP rss cs ys).length<=ys.length:=ba (bo _ _) t;have S:((List.range ys.length).filter λj=>decide (a2j rss ys j<0)).filter (λj=>b0r (cs.getD j none) (ys.getD j 0))=StP rss cs ys:=rfl;rw[S];dsimp only[B0];generalize upd H2 p2 (.lst ((StP rss cs ys).map λ(j:Nat)=>V.int j))=J at I r;refine⟨_,rfl,p2,rfl,⟨_,SqL.of r⟩,?_⟩;refine a0E (xs:=(StP rss cs ys).map λ(j:Nat)=>V.int j) (by rw[aj];omega) (λi qs H'=>Same J H'/\Prs H' qs (bump ys) ((StP rss cs ys).take i)) ⟨Same.refl J,Prs.nil⟩ (λi qs H' _ h=>⟨SqL.of (h.1 _ _ r),by rw[h.2.1];exact bL _ _⟩) ?_ ?_
  .rintro i x qs H' hx ⟨s',hP⟩;rw[aV]at hx;cases p:(StP rss cs ys)[i]? with
   |none=>rw[p]at hx;cases hx
   |some j =>
    rw[p]at hx;cases hx;have g:=C j (aH p);refine⟨Sub.one,_,rfl,_,rfl,_,rfl,_,ys,j,rfl,⟨y,rfl,(I.trans s') _ _ hy⟩,g,by omega,λv O M D=>?_⟩;refine⟨by show 2<=sizeLine;omega,λZ B=>?_⟩;have m:=(Same.refl O).upd (o:=.tup [.int j,v]) B;refine⟨(s'.trans M).trans m,?_⟩;rw[bg,p];exact((hP.same M).same m).snoc A0 (D.same m)
  .rintro qs H' ⟨s',hP⟩ p4 hp4;rw[aj,br]at hP;have m:=(Same.refl H').upd (o:=.lst qs) hp4;exact k p4 qs _ ((I.trans s').trans m) A0 (hP.same m)
def Bar(fss:LLI)(ys:qI)(j:Nat):Bool:=fss.any λf=>decide (f.getD j 0=ys.getD j 0) && Bel f ys
inductive IspBarred(vs:qA V)(H:Hp)(Q:VK)(E:XK):Prop
 |mk (l:qE) (y:V) (fs:qA V) (fss:LLI) (ys:qI) (j:Nat) (_:vs=[.ref l,y,.int j]) (_:H l=some (.lst fs)) (_:Its H fs fss) (_:IT H y ys) (_:j<ys.length) (_:ys.length<=1000) (_:(∀f∈fss,f.length=ys.length)) (_:∀H',Same H H'->Q (.bl (Bar fss ys j)) H'):IspBarred  vs H Q E
def a6E:Sp:=λvs H Q E=>IspBarred  vs H Q E
def sc_is_barred:FnScope ["found","one","j","answer"] ["found","one","j"] (A1 R7):={}
def a5I(F:FunAt K mg "is_barred" R7 ["found","one","j"])(T:Tx mg)(b:Ok P w K mg base "below" 1 ["one","other"] a2N):Ok P w K mg base "is_barred" 2 ["found","one","j"] a6E:=by
 refine F.okJ sc_is_barred (λvs H Q E h=>?_) (λv f A q s H vs Q E m h=>?_)
 .obtain⟨l,y,fs,fss,ys,j,rfl,_⟩:=h;rfl
 .obtain⟨l,_,fs,fss,ys,j,rfl,hl,hI,⟨y,rfl,hy⟩,hj,hn,hL,k⟩:=h;refine⟨_,(A2 (J3 (K8 K (jv 0)) (A5 (i:=3) sc_is_barred.nd rfl (Or.inl rfl))
 (A4 (D4 (a1W (a0U (a3L (G7 K (jv 3) (jv 2)) (G7 K (jv 1) (jv 2))) (X4 (C9 K (A7 b (m.mono (by omega)) rfl (jaC (jv 3) (jaC (jv 1) jaN)))))))
 (A4 (A9 M9))
 C2)))
 (A4 (A9 M9))),?_⟩
  refine⟨_,rfl,l,rfl,⟨_,SqL.of hl⟩,?_⟩;refine V3 (K:=K) (a:=l) (xs:=fs) (λi σ H'=>Ex1 λo=>An3 (σ=[some (.ref l),some (.ref y),some (.int j),o]) (Same H H') (Bar (fss.take i) ys j=false)) ⟨none,rfl,Same.refl H,rfl⟩ (λi σ H' _ ⟨_,_,s',_⟩=>SqL.of (s' _ _ hl)) ?_ ?_
  .rintro i x σ H' hx ⟨o,rfl,s',hB⟩;obtain⟨r,m,n,p⟩:=hI.mem hx;obtain⟨u,rfl,g⟩:=p.same s';have B:=hL r m;have d:Bar (fss.take (i+1)) ys j=(decide (r.getD j 0=ys.getD j 0) && Bel r ys):=by
    unfold Bar at hB⊢;rw[bg,n,List.any_append,hB];simp
   have c:(decide (r.getD j 0=ys.getD j 0) && Bel r ys)=true->Bar fss ys j=true:=λe=>by
    unfold Bar;rw[bP];exact⟨r,m,e⟩
   dsimp only[B0];refine⟨_,rfl,_,rfl,u,_,_,_,rfl,rfl,SqT.of g,N2 (by omega),_,rfl,_,rfl,y,_,_,_,rfl,rfl,SqT.of (s' _ _ hy),N2 hj,rfl,_,rfl,?_⟩;have z:decide (V.int (r.getD j 0)=V.int (ys.getD j 0))=decide (r.getD j 0=ys.getD j 0):=by simp
   rw[z];cases e:decide (r.getD j 0=ys.getD j 0)with
   |false =>
    rw[e]at d;refine D0 (D0 ?_);exact⟨_,rfl,s',d⟩
   |true =>
    rw[e]at d c;refine G3 ⟨_,rfl,_,rfl,_,_,r,ys,rfl,⟨u,rfl,g⟩,⟨y,rfl,s' _ _ hy⟩,by omega,λH2 s2=>⟨_,rfl,?_⟩⟩;cases t:Bel r ys with
    |false =>
     rw[t]at d;exact D0 ⟨_,rfl,s'.trans s2,d⟩
    |true =>
     rw[t]at c;refine G3 ?_;have:=k H2 (s'.trans s2);rw[c rfl]at this;exact this
  .rintro σ H' ⟨o,rfl,s',hB⟩;rw[hI.1,br]at hB;have:=k H' s';rw[hB]at this;exact this
end
def a0Z(rss:LLI)(cs:qA (qD Int))(F:LLI)(u v:qI):Prop:=∃j,j∈StP rss cs u/\v=bump u j/\Bar F v j=false
def a5R{a b:qI}(h:a.map (Sum.inl:Int->Key)=b.map Sum.inl):a=b:=by
 induction a generalizing b with
 |nil=>cases b with|nil=>rfl|cons _ _=>cases h
 |cons x a c =>
  cases b with
  |nil=>cases h
  |cons y b =>
   injection h with h1 h2
   injection h1 with h1
   rw[h1,c h2]
def a3I{a:LLI}(e:qL.map (·.1)=IK a):G2 qL (r.map Sum.inl)=none↔r∉a:=by
 constructor
 .intro h hm;refine a6p h ?_;rw[e];exact aM.mpr ⟨r,hm,rfl⟩
 .intro h;cases d:G2 qL (r.map Sum.inl)with
  |none=>rfl
  |some v =>
   have:=a9h d;rw[e]at this;obtain⟨q,c,b⟩:=aM.mp this;exact absurd (a5R b ▸ c) h
def a7h{a:LLI}(e:qL.map (·.1)=IK a):(G2 qL (r.map Sum.inl)).isSome=decide (r∈a):=by
 by_cases h:r∈a
 .rw[bb h];cases b:G2 qL (r.map Sum.inl)with
  |none=>exact absurd h ((a3I e).mp b)
  |some v=>rfl
 .rw[bT h,(a3I e).mpr h];rfl
def a8y(r:qI):(r.map (Sum.inl:Int->Key)).map kV=r.map V.int:=by rw[cD];rfl
def b6z{d:qE}(h:Its H vs rss)(hd:H d=some (.dT qL))(o:Off [d] H H'):Its H' vs rss :=
 ⟨h.1,λi v e=>let ⟨r,e1,a,e2,q⟩:=h.2 i v e;⟨r,e1,a,e2,o _ _ (by simpa using K1 q hd (by intro z;cases z)) q⟩⟩
def a3n{H1 H2:Hp}(s:Same H H1)(c:H a=none)(o:Off [a] H1 H2):Same H H2:=λb u e=>o b u (by simpa using A8 e c) (s b u e)
structure NxPre(H:Hp)(a c f l:qE)(us:qA V)(rss:LLI)(cs:qA (qD Int))(fs:qA V)(F:LLI)(ls:qA V)(L:LLI):Prop where
 ha:H a=some (.tup us)
 hI:Its H us rss
 hc:H c=some (.tup (cs.map cV))
 hf:H f=some (.lst fs)
 hF:Its H fs F
 hl:H l=some (.lst ls)
 hL:Its H ls L
 us1:us.length<=1000
 n1:0<=cs.length
 n2:cs.length<=100
 hR:Rs cs.length rss
 fw:∀v∈F,v.length=cs.length
 lw:∀v∈L,v.length=cs.length/\Sm v
 big:L.length*cs.length+100<=100000
section
variable {K:qF}
inductive IspNext(vs:qA V)(H:Hp)(Q:VK)(E:XK):Prop
 |mk (a c f l:qE) (r:V) (us:qA V) (rss:LLI) (cs:qA (qD Int)) (fs:qA V) (F:LLI) (ls:qA V) (L:LLI) (_:vs=[.ref a,.ref c,.ref f,.ref l,r]) (_:NxPre H a c f l us rss cs fs F ls L) (_:(r=.non∨∃m:Int,r=.int m/\0<=m)) (_:∀p zs tss H',Same H H'->H p=none->H' p=some (.lst zs)->Its H' zs tss->C8 tss->tss.Nodup->(∀v∈tss,∃u∈L,a0Z rss cs F u v)->((∀u∈L,∀v,a0Z rss cs F u v->v∈tss)∨∃m:Int,r=.int m/\m<tss.length)->tss.length<=L.length*cs.length->(∀m:Int,r=.int m->(tss.length:Int)<=m+cs.length)->Q (.ref p) H'):IspNext  vs H Q E
def b2z:Sp:=λvs H Q E=>IspNext  vs H Q E
def sc_next_level:FnScope ["rows","caps","found","level","room","met","one","j","more"] ["rows","caps","found","level","room"] (A1 N9):={}
def a4m(F':FunAt K mg "next_level" N9 ["rows","caps","found","level","room"])(T:Tx mg)(I:Ok P w K mg base "steps" 4 ["rows","caps","one"] a5o)(n:Ok P w K mg base "is_barred" 2 ["found","one","j"] a6E):Ok P w K mg base "next_level" 5 ["rows","caps","found","level","room"] b2z:=by
 refine F'.okJ sc_next_level (λvs H Q E h=>?_) (λc5 f A c2 s H vs Q E hr h=>?_)
 .obtain⟨a,c,f,l,r,us,rss,cs,fs,F,ls,L,rfl,_⟩:=h;rfl
 .obtain⟨a,c,f,l,r,us,rss,cs,fs,F,ls,L,rfl,N,hroom,k⟩:=h;have R:=hr.u60;have hz:(100000:Nat)<=sizeLine:=by rw[a'];decide
  have hbig:=N.big;refine⟨_,(A2 (B4 (i:=5) sc_next_level.nd rfl (Or.inl rfl) a9W)
 (A2 (J3 (K8 K (jv 3)) (A5 (i:=6) sc_next_level.nd rfl (Or.inl rfl))
 (A2 (J3 (K8 K (A7 I (hr.mono (by omega)) rfl (jaC (jv 0) (jaC (jv 1) (jaC (jv 6) jaN))))) (L7 K 2 (B3 (A5 (i:=7) sc_next_level.nd rfl (Or.inl rfl)) (B3 (A5 (i:=8) sc_next_level.nd rfl (Or.inl rfl)) J0)))
 (A4 (D4 (a1W (a0U (b1w R (jv 8) (jv 5) (by with_unfolding_all rfl)) (X4 (L6 (C9 K (A7 n (hr.mono (by omega)) rfl (jaC (jv 2) (jaC (jv 8) (jaC (jv 7) jaN)))))))))
 (A4 (b6r R (jv 5) (jv 8) M9))
 C2)))
 (A4 (D4 (a1W (a0U (a1v (jv 4) T5) (X4 (a9Q (b6u rfl T.b_len (jaC (jv 5) jaN)) (jv 4)))))
 (A4 b3X)
 C2))))
 (A4 (A9 (b3Z rfl T.b_sorted (jaC (jv 5) jaN)))))),?_⟩
  intro d hd;dsimp only[B0];have s0:=(Same.refl H).upd (o:=.dT []) hd;have e0:upd H d (.dT []) d=some (.dT []):=A0;generalize upd H d (.dT [])=H0 at s0 e0;have fin:∀(qL:qA (qA Key×V)) (g:LLI) (σ:L2.St) (H':Hp),σ[5]?=some (some (.ref d))->Same H H'->H' d=some (.dT qL)->qL.map (·.1)=IK g->g.Nodup->(∀v∈g,∃u∈L,a0Z rss cs F u v)->((∀u∈L,∀v,a0Z rss cs F u v->v∈g)∨∃m:Int,r=.int m/\m<g.length)->g.length<=L.length*cs.length->(∀m:Int,r=.int m->(g.length:Int)<=m+cs.length) ->
    b7R (tCB a8n (a6t (Z2 5) a2v)) {nx:=λx H'=>Q V.non H',rt:=Q} σ H':=by
   intro qL g σ H' hσ s' M y D h1 h2 S J;refine⟨_,hσ,d,qL,g,rfl,M,y,λv t=>?_,λp zs tss hp hI G b9=>?_⟩
   .obtain⟨u,R,j,hj,rfl,_⟩:=h1 v t;rw[G8];have:=aZ.mp (aP.mp (aP.mp hj).1).1;omega
   refine k p zs tss _ (s'.upd hp) (s'.free hp) A0 (hI.same ((Same.refl H').upd hp)) b9 (G.symm.nodup D) (λv t=>h1 v (G.mem_iff.mp t)) ?_ (by rw[G.length_eq];exact S) λm e=>by rw[G.length_eq];exact J m e
   rcases h2 with h2|⟨m,e,h2⟩
   .exact .inl λu R v t=>G.mem_iff.mpr (h2 u R v t)
   .exact .inr ⟨m,e,by rw[G.length_eq];exact h2⟩
  refine⟨_,rfl,l,rfl,⟨_,SqL.of (s0 _ _ N.hl)⟩,?_⟩;refine V3 (K:=K) (a:=l) (xs:=ls) (λi σ H'=>Ex5 λo6 W X qL g=>An9 (σ=[some (.ref a),some (.ref c),some (.ref f),some (.ref l),some r,some (.ref d),o6,W,X]) (Same H H') (H' d=some (.dT qL)) (qL.map (·.1)=IK g) (g.Nodup) ((∀v∈g,∃u∈L,a0Z rss cs F u v)) ((∀u∈L.take i,∀v,a0Z rss cs F u v->v∈g)) (g.length<=i*cs.length) (∀m:Int,r=.int m->(g.length:Int)<=m))
   ⟨none,none,none,[],[],rfl,s0,e0,rfl,eQ,(λ_ z=>nomatch z),(λ_ z=>by simp at z),by simp,λm e=>?_⟩ (λi σ H' _ h=>by obtain⟨_,_,_,_,_,_,s',_⟩:=h;exact SqL.of (s' _ _ N.hl)) ?_ ?_
  .rcases hroom with e'|⟨m',e',hm'⟩
   .rw[e']at e;cases e
   .rw[e']at e;cases e;simpa using hm'
  .rintro i x σ H' hx ⟨o6,W,X,qL,g,rfl,s',M,y,D,h1,h2,S,J⟩;obtain⟨ys,a9,b0,c1⟩:=N.hL.mem hx;obtain⟨yw,c3⟩:=N.lw ys a9;have b6:i<L.length:=(aG.mp b0).1;have c8:(i+1)*cs.length<=L.length*cs.length:=fZ _ b6;have c4:(i+1)*cs.length=i*cs.length+cs.length:=by rw[Nat.add_mul,Nat.one_mul]
   dsimp only[B0];have b2:Rs ys.length rss:=by rw[yw];exact N.hR
   refine⟨_,rfl,_,rfl,_,rfl,a,c,x,us,rss,cs,ys,rfl,s' _ _ N.ha,N.hI.same s',s' _ _ N.hc,c1.same s',N.us1,by rw[yw];exact N.n2,yw.symm,b2,c3,λp1 ps H1 s1 a0 Z=>?_⟩;have C:=s1 _ _ M;have a1:=s'.trans s1;refine⟨p1,rfl,⟨_,SqL.of a0⟩,?_⟩;have c0:∀j∈StP rss cs ys,j<ys.length:=λj hj=>aZ.mp (aP.mp (aP.mp hj).1).1;have d1:(StP rss cs ys).length<=cs.length:=by rw[<-yw];exact ba (bo _ _) (ba (bo _ _) (by simp))
   have b4:d≠p1:=K1 C a0 (by intro z;cases z);refine V3 (K:=K) (a:=p1) (xs:=ps) (λU σ H2=>Ex4 λW X qL g=>An10 (σ=[some (.ref a),some (.ref c),some (.ref f),some (.ref l),some r,some (.ref d),some x,W,X]) (Off [d] H1 H2) (H2 d=some (.dT qL)) (qL.map (·.1)=IK g) (g.Nodup) ((∀v∈g,∃u∈L,a0Z rss cs F u v)) ((∀u∈L.take i,∀v,a0Z rss cs F u v->v∈g)) ((∀j∈(StP rss cs ys).take U,Bar F (bump ys j) j=false->bump ys j∈g)) (g.length<=i*cs.length+U) (∀m:Int,r=.int m->(g.length:Int)<=m+U))
    ⟨W,X,qL,g,rfl,Off.refl _ _,C,y,D,h1,h2,(λ_ z=>by simp at z),S,λm e=>by have:=J m e;omega⟩ (λU σ H2 _ h=>by obtain⟨_,_,_,_,_,o2,_⟩:=h;exact SqL.of (o2 _ _ (by simpa using b4.symm) a0)) ?_ ?_
   .rintro U q σ H2 hq ⟨W,X,qL,g,rfl,off2,hd2,y,D,h1,h2,h5,S,J⟩;obtain⟨j,b,v,ej,rfl,hb,t⟩:=Z.2 U q hq;obtain⟨va,rfl,a8⟩:=t;have a6:=aH ej;have hj:=c0 j a6;have b3:=off2 _ _ (by simpa using K1 hb C (by intro z;cases z)) hb;have O:=off2 _ _ (by simpa using K1 a8 C (by intro z;cases z)) a8;have hf1:=a1 _ _ N.hf;have b5:=off2 _ _ (by simpa using K1 hf1 C (by intro z;cases z)) hf1;have b1:=b6z (N.hF.same a1) C off2;have c7:U<(StP rss cs ys).length:=(aG.mp ej).1;have b8:qL.length=g.length:=by
     have:=aR List.length y;simpa[IK]using this
    have Y:∀B:LLI,(∀v∈g,v∈B)->(Bar F (bump ys j) j=false->bump ys j∈B)->∀j'∈(StP rss cs ys).take (U+1),Bar F (bump ys j') j'=false->bump ys j'∈B:=λB a7 b7 j' a5 a3=>by
     rw[bg,ej]at a5;rcases aA.mp a5 with z|z
     .exact a7 _ (h5 j' z a3)
     .have:j'=j:=by simpa using z
      subst this;exact b7 a3
    refine⟨b,[.int j,.ref va],rfl,SqT.of b3,rfl,.int j,[.ref va],rfl,.ref va,[],rfl,rfl,?_⟩;refine⟨_,rfl,_,rfl,d,_,rfl,DGet.t hd2 (by rw[a8y];exact O),_,rfl,?_⟩;rw[a7h y];by_cases hm:bump ys j∈g
    .rw[bb hm];refine D0 (D0 ?_);exact⟨_,_,qL,g,rfl,off2,hd2,y,D,h1,h2,Y g (λ_ z=>z) (λ_=>hm),by omega,λm e=>by have:=J m e;omega⟩
    .rw[bT hm];refine G3 ⟨_,rfl,_,rfl,_,rfl,f,.ref va,fs,F,bump ys j,j,rfl,b5,b1,⟨va,rfl,O⟩,by rw[G8];exact hj,by rw[G8,yw];have:=N.n2;omega,λv t=>by rw[G8,yw];exact N.fw v t,λH3 s3=>⟨_,rfl,?_⟩⟩;have a4:=s3 _ _ hd2;cases e:Bar F (bump ys j) j with
     |true =>
      refine D0 ?_;exact⟨_,_,qL,g,rfl,off2.trans s3.off,a4,y,D,h1,h2,Y g (λ_ z=>z) (λz=>by rw[e]at z;cases z),by omega,λm e=>by have:=J m e;omega⟩
     |false =>
      refine G3 ?_;refine⟨_,rfl,_,rfl,d,_,rfl,DPut.t a4 (by rw[a8y];exact s3 _ _ O) (by omega),?_⟩;rw[a3t _ ((a3I y).mpr hm)];refine⟨_,_,_,g++[bump ys j],rfl,(off2.trans s3.off).set (by simp),A0,by rw[cu,y];simp[IK],a5L D hm,λv t=>?_,λu R v t=>aK _ (h2 u R v t),Y _ (λv t=>aK _ t) (λ_=>by simp),by rw[ax];simp;omega,λm e=>by have:=J m e;rw[ax];simp;omega⟩;rcases aA.mp t with z|z
      .exact h1 v z
      .rw[aB.mp z];exact⟨ys,a9,j,a6,rfl,e⟩
   .rintro σ H2 ⟨W,X,qL,g,rfl,off2,hd2,y,D,h1,h2,h5,S,J⟩;rw[Z.1,br]at h5;have b8:qL.length=g.length:=by
     have:=aR List.length y;simpa[IK]using this
    have d0:=Z.1;have s2:Same H H2:=a3n a1 hd off2;have a2:∀u∈L.take (i+1),∀v,a0Z rss cs F u v->v∈g:=λu R v t=>by
     rw[bg,b0]at R;rcases aA.mp R with z|z
     .exact h2 u z v t
     .have:u=ys:=by simpa using z
      subst this;obtain⟨j,hj,rfl,hb⟩:=t;exact h5 j hj hb
    rcases hroom with rfl|⟨m,rfl,c9⟩
    .refine⟨_,rfl,rfl,_,rfl,D0 (D0 ?_)⟩;exact⟨_,_,_,qL,g,rfl,s2,hd2,y,D,h1,a2,by omega,λm e=>by cases e⟩
    .refine⟨_,rfl,rfl,_,rfl,G3 ?_⟩;refine⟨_,rfl,d,qL,rfl,hd2,_,rfl,_,_,rfl,rfl,_,rfl,a1Y (λe=>?_) (λe=>?_)⟩
     .have e':m<(qL.length:Int):=bE e;have c6:=J m rfl;exact fin qL g _ H2 rfl s2 hd2 y D h1 (.inr ⟨m,rfl,by omega⟩) (by omega) λm' e2=>by cases e2;omega
     .have e':¬m<(qL.length:Int):=λz=>e (bb z);exact⟨_,_,_,qL,g,rfl,s2,hd2,y,D,h1,a2,by omega,λm' e2=>by cases e2;omega⟩
  .rintro σ H' ⟨o6,W,X,qL,g,rfl,s',M,y,D,h1,h2,S,J⟩;rw[N.hL.1,br]at h2;exact fin qL g _ H' rfl s' M y D h1 (.inl h2) (by rw[N.hL.1]at S;exact S) λm e=>by have:=J m e;omega
end
def ffl(ra ca:qE)(b:Bool)(ah af aw:qE):qA (Str×V):=[("rows",.ref ra),("caps",.ref ca),("begun",.bl b),("here",.ref ah),("found",.ref af),("walked",.ref aw)]
section
variable (ra ca ah ah' af aw:qE)(b b':Bool)
def a7v:(ffl ra ca b ah af aw).lookup ("rows" : Str)=some (.ref ra):=by with_unfolding_all rfl
def a7w:(ffl ra ca b ah af aw).lookup ("caps" : Str)=some (.ref ca):=by with_unfolding_all rfl
def a4S:(ffl ra ca b ah af aw).lookup ("begun" : Str)=some (.bl b):=by with_unfolding_all rfl
def a0j:(ffl ra ca b ah af aw).lookup ("here" : Str)=some (.ref ah):=by with_unfolding_all rfl
def a2d:(ffl ra ca b ah af aw).lookup ("found" : Str)=some (.ref af):=by with_unfolding_all rfl
def a3X:(ffl ra ca b ah af aw).lookup ("walked" : Str)=some (.ref aw):=by with_unfolding_all rfl
def a6P:K5 "here" (.ref ah') (ffl ra ca b ah af aw)=ffl ra ca b ah' af aw:=by with_unfolding_all rfl
def b0W:K5 "begun" (.bl b') (ffl ra ca b ah af aw)=ffl ra ca b' ah af aw:=by with_unfolding_all rfl
def a6O:K5 "walked" (.ref aw) (K5 "found" (.ref af) (K5 "here" (.ref ah) (K5 "begun" (.bl b) (K5 "caps" (.ref ca) (K5 "rows" (.ref ra) [])))))=ffl ra ca b ah af aw:=by with_unfolding_all rfl
def b4s:(ffl ra ca b ah af aw).lookup ("told" : Str)=none:=by with_unfolding_all rfl
def b1F:(ffl ra ca b ah af aw).lookup ("paper" : Str)=none:=by with_unfolding_all rfl
def b1G:(ffl ra ca b ah af aw).lookup ("ended" : Str)=none:=by with_unfolding_all rfl
def a2E:(ffl ra ca b ah af aw).lookup ("step_within" : Str)=none:=by with_unfolding_all rfl
end
structure FiTx(K:qF)(C:qE):Prop where
 cl:Cls K C
 n1:NoAttr K C "rows"
 n2:NoAttr K C "caps"
 n3:NoAttr K C "begun"
 n4:NoAttr K C "here"
 n5:NoAttr K C "found"
 n6:NoAttr K C "walked"
structure FAt(C:qE)(H:Hp)(p ra ca af aw:qE)(b:Bool)(L F W:LLI):Prop where
 ob:∃dx ah hs,H p=some (.ins C dx (ffl ra ca b ah af aw))/\H ah=some (.lst hs)/\Its H hs L/\ah≠af/\ah≠aw
 hf:∃fs,H af=some (.lst fs)/\Its H fs F
 hw:∃ws,H aw=some (.lst ws)/\Its H ws W
 ne:af≠aw
def FAt.same{C:qE}{H H':Hp}{p ra ca af aw:qE}{b:Bool}{L F W:LLI}(h:FAt C H p ra ca af aw b L F W)(s:Same H H'):FAt C H' p ra ca af aw b L F W:=by
 obtain⟨⟨dx,ah,hs,h1,h2,a,c,d⟩,⟨fs,f1,f2⟩,⟨g,e,f⟩,ne⟩:=h;exact⟨⟨dx,ah,hs,s _ _ h1,s _ _ h2,a.same s,c,d⟩,⟨fs,s _ _ f1,f2.same s⟩,⟨g,s _ _ e,f.same s⟩,ne⟩
structure SyAt(H:Hp)(a c:qE)(rss:LLI)(cs:qA (qD Int)):Prop where
 ex:∃us,H a=some (.tup us)/\Its H us rss/\us.length<=1000
 hc:H c=some (.tup (cs.map cV))
 n1:0<=cs.length
 n2:cs.length<=100
 hR:Rs cs.length rss
def SyAt.same{H H':Hp}{a c:qE}{rss:LLI}{cs:qA (qD Int)}(h:SyAt H a c rss cs)(s:Same H H'):SyAt H' a c rss cs:=by
 obtain⟨⟨g,h1,h2,b⟩,d,e,f,hR⟩:=h;exact⟨⟨g,s _ _ h1,h2.same s,b⟩,s _ _ d,e,f,hR⟩
structure StR(rss:LLI)(cs:qA (qD Int))(b:Bool)(L F:LLI)(r:V)(L':LLI):Prop where
 ri:C8 L'
 nd:L'.Nodup
 fst:b=false->∀v,v∈L'↔v∈K9 cs
 snd:b=true->∀v∈L',∃u∈L,a0Z rss cs F u v
 all:b=true->(∀u∈L,∀v,a0Z rss cs F u v->v∈L')∨∃m:Int,r=.int m/\m<L'.length
 len:L'.length<=cs.length+L.length*cs.length
 few:∀m:Int,r=.int m->(L'.length:Int)<=m+cs.length
def U9(n j i:Nat)(hi:i<n):(L3 n j).getD i 0=if i=j then 1 else 0:=by
 unfold L3;simp[ak,hi]
def K0(n j:Nat):(L3 n j).length=n:=by simp[L3]
def a4R(cs:qA (qD Int)):(K9 cs).Nodup:=by
 unfold K9;refine List.Nodup.sublist (dY) ?_;unfold List.Nodup;rw[cx];refine(fK (n:=cs.length)).imp_of_mem λ{i j} hi b a e=>?_;have h1:(L3 cs.length i).getD i 0=(L3 cs.length j).getD i 0:=aR (λl:qI=>l.getD i 0) e;rw[U9 _ _ _ (aZ.mp hi),U9 _ _ _ (aZ.mp hi),az rfl,au a]at h1;omega
def lp{f:Str}{v:V}{fs:qA (Str×V)}(h:fs.length<=k):(K5 f v fs).length<=k+1:=by
 refine ba ?_ (Nat.succ_le_succ h);clear h;induction fs with
 |nil=>exact ao _
 |cons p r a =>
  obtain⟨g,x⟩:=p;show(if g=f then(g,v)::r else(g,x)::K5 f v r).length<=_;split
  .simp
  .simpa using a
section
variable {K:qF}
inductive IspFInit(C:qE)(vs:qA V)(H:Hp)(Q:VK)(E:XK):Prop
 |mk (p dx ra ca:qE) (_:vs=[.ref p,.ref ra,.ref ca]) (_:H p=some (.ins C dx [])) (_:∀(af aw:qE) (H':Hp),H af=none->H aw=none->FAt C H' p ra ca af aw false [] [] []->(∃dx ah,H' p=some (.ins C dx (ffl ra ca false ah af aw))/\H ah=none)->(∀b o,H b=some o->b≠p->H' b=some o)->Q .non H'):IspFInit C vs H Q E
def a9u(C:qE):Sp:=λvs H Q E=>IspFInit C vs H Q E
def a0S:FnScope ["self","rows","caps"] ["self","rows","caps"] (A1 G0):={}
def b3F(J:MethAt K C "__init__" "Finder.__init__" G0 ["self","rows","caps"])(U:FiTx K C):MethOk P w K mg base C "__init__" 1 ["self","rows","caps"] (a9u C):=by
 refine J.fnJ a0S (λvs H Q E h=>?_) (λL f A G s H vs Q E M h=>?_)
 .obtain⟨p,dx,ra,ca,rfl,_⟩:=h;rfl
 .obtain⟨p,dx,ra,ca,rfl,hp,k⟩:=h;refine⟨_,(A2 (X5 K (jv 0) (jv 1))
 (A2 (X5 K (jv 0) (jv 2))
 (A2 (X5 K (jv 0) M9)
 (A2 (X5 K (jv 0) (T7 jaN))
 (A2 (X5 K (jv 0) (T7 jaN))
 (A4 (X5 K (jv 0) (T7 jaN)))))))),?_⟩
  have t:([]:qA (Str×V)).length<=0:=ao _;refine⟨_,rfl,_,rfl,p,C,dx,_,rfl,hp,U.cl,U.n1,dD t (by decide),?_⟩;refine⟨_,rfl,_,rfl,p,C,dx,_,rfl,A0,U.cl,U.n2,dD (lp t) (by decide),?_⟩;rw[a5i];refine⟨_,rfl,p,C,dx,_,rfl,A0,U.cl,U.n3,dD (lp (lp t)) (by decide),?_⟩;rw[a5i];generalize F:K5 "begun" (V.bl false) (K5 "caps" (.ref ca) (K5 "rows" (.ref ra) []))=r;have I:r.length<=3:=by rw[<-F];exact lp (lp (lp t))
  have k1:∀b o,H b=some o->b≠p->upd H p (.ins C dx r) b=some o:=λb o e c=>by rw[A3 c];exact e
  have D:upd H p (.ins C dx r) p=some (.ins C dx r):=A0;have u:∀b,upd H p (.ins C dx r) b=none->H b=none:=λb e=>by
   by_cases c:b=p
   .subst c;rw[A0]at e;cases e
   .rwa[A3 c]at e
  generalize upd H p (.ins C dx r)=H1 at k1 D u;refine⟨bq _,λah n=>?_⟩;have x:p≠ah:=A8 D n;refine⟨_,rfl,p,C,dx,_,rfl,by rw[A3 x];exact D,U.cl,U.n4,by omega,?_⟩;refine⟨bq _,λaf m=>?_⟩;have y:p≠af:=λz=>by subst z;rw[A0]at m;cases m
  have g:upd H1 ah (.lst []) af=none:=by rwa[A3 y.symm]at m
  have j:ah≠af:=A8 (o:=.lst []) A0 g;have d:H1 af=none:=by rwa[A3 j.symm]at g
  refine⟨_,rfl,p,C,dx,_,rfl,by rw[A3 y];exact A0,U.cl,U.n5,by have:=lp (f:="here") (v:=.ref ah) I;omega,?_⟩;refine⟨bq _,λaw q=>?_⟩;have B:p≠aw:=λz=>by subst z;rw[A0]at q;cases q
  have a:=q;rw[A3 B.symm]at a;have i:af≠aw:=A8 (o:=.lst []) A0 a;rw[A3 i.symm,A3 B.symm]at a;have l:ah≠aw:=A8 (o:=.lst []) A0 a;rw[A3 l.symm]at a;refine⟨_,rfl,p,C,dx,_,rfl,by rw[A3 B];exact A0,U.cl,U.n6,by have:=lp (f:="found") (v:=.ref af) (lp (f:="here") (v:=.ref ah) I);omega,?_⟩;refine k af aw _ (u _ d) (u _ a) ⟨⟨dx,ah,[],?_,?_,.nil,j,l⟩,⟨[],?_,.nil⟩,⟨[],?_,.nil⟩,i⟩ ⟨dx,ah,by rw[A0,<-F,<-a6O],u _ n⟩ λb o e c=>?_
  .rw[A0,<-F,<-a6O]
  .rw[A3 x.symm,A3 l,A3 x.symm,A3 j,A3 x.symm,A0]
  .rw[A3 y.symm,A3 i,A3 y.symm,A0]
  .rw[A3 B.symm,A0]
  .have e2:=k1 b o e c;rw[A3 c,A3 (A8 e2 a),A3 c,A3 (A8 e2 d),A3 c,A3 (A8 e2 n)];exact e2
def a5Q:∀{vs c:qA V}{rss tss:LLI},Its H vs rss->Its H c tss->Its H (vs++c) (rss++tss):=by
 intro vs c rss tss h g;refine⟨by rw[ax,ax,h.1,g.1],λi v e=>?_⟩;rcases Nat.lt_or_ge i vs.length with hi|hi
 .rw[bx hi]at e;obtain⟨r,a,b⟩:=h.2 i v e;exact⟨r,by rw[bx (by rw[<-h.1];exact hi)];exact a,b⟩
 .rw[bh hi]at e;obtain⟨r,a,b⟩:=g.2 _ v e;exact⟨r,by rw[bh (by rw[<-h.1];exact hi),<-h.1];exact a,b⟩
def O7{o':HO}(h:Its H vs rss)(b:H c=some o)(d:∀xs,HO.tup xs≠o):Its (upd H c o') vs rss :=
 ⟨h.1,λi v e=>let ⟨r,e1,a,e2,q⟩:=h.2 i v e;⟨r,e1,a,e2,by rw[A3 (K1 q b (d _))];exact q⟩⟩
def a3Q(h:Its H vs rss)(b:H c=some o)(d:∀xs,HO.tup xs≠o)(off:Off [c] H H'):Its H' vs rss :=
 ⟨h.1,λi v e=>let ⟨r,e1,a,e2,q⟩:=h.2 i v e;⟨r,e1,a,e2,off _ _ (by simpa using K1 q b (d _)) q⟩⟩
def b5a(h:SyAt H a c rss cs)(d:H b=some o)(e:∀xs,HO.tup xs≠o)(off:Off [b] H H'):SyAt H' a c rss cs:=by
 obtain⟨⟨k,h1,h2,g⟩,f,i,j,hR⟩:=h;exact⟨⟨k,off _ _ (by simpa using K1 h1 d (e _)) h1,a3Q h2 d e off,g⟩,off _ _ (by simpa using K1 f d (e _)) f,i,j,hR⟩
def b5d{B:Int}(h:∀x∈u,0<=x/\x<=B)(b:B<=2 ^ 60):∀x∈bump u j,0<=x/\x<=2 ^ 60+1:=by
 intro x a;unfold bump at a;rcases fh a with z|z
 .have:=h x z;omega
 .by_cases hj:j<u.length
  .have:=h _ (cM (h:=hj));rw[ak,ai hj]at z;simp at z;omega
  .rw[ak,bO (by omega)]at z;simp at z;omega
inductive IspStepW(C:qE)(vs:qA V)(H:Hp)(Q:VK)(E:XK):Prop
 |mk (p ra ca af aw:qE) (b:Bool) (L F W rss:LLI) (cs:qA (qD Int)) (r:V) (B:Int) (_:vs=[.ref p,r]) (_:FAt C H p ra ca af aw b L F W) (_:SyAt H ra ca rss cs) (_:(r=.non∨∃m:Int,r=.int m/\0<=m)) (_:(∀v∈L,v.length=cs.length/\∀x∈v,0<=x/\x<=B)) (_:B<=2 ^ 60) (_:(∀v∈F,v.length=cs.length)) (_:L.length*cs.length+100<=100000) (_:F.length<=100000) (_:W.length<=100000) (_:∀L' H',StR rss cs b L F r L'->FAt C H' p ra ca af aw true L' (F++L'.filter λv=>Ans rss v) (W++L')->(∃dx ah,H' p=some (.ins C dx (ffl ra ca true ah af aw))/\H ah=none)->Off [p,af,aw] H H'->Q (.int L'.length) H'):IspStepW C vs H Q E
def a5p(C:qE):Sp:=λvs H Q E=>IspStepW C vs H Q E
def b2S{ra ca af aw:qE}{b:Bool}{r:V}{B:Int}(hi:σ[i]?=some (some (.ref p)))(l:σ[j]?=some (some r))(D:FAt C H p ra ca af aw b L F W)(Y:SyAt H ra ca rss cs)(h1:r=.non∨∃m:Int,r=.int m/\0<=m)(h2:∀v∈L,v.length=cs.length/\∀x∈v,0<=x/\x<=B)(d:B<=2 ^ 60)(e:∀v∈F,v.length=cs.length)(f:L.length*cs.length+100<=100000)(g:F.length<=100000)(h:W.length<=100000)
  (k:∀a H',StR rss cs b L F r a->FAt C H' p ra ca af aw true a (F++a.filter λv=>Ans rss v) (W++a)->(∃dx ah,H' p=some (.ins C dx (ffl ra ca true ah af aw))/\H ah=none)->Off [p,af,aw] H H'->Q (.int a.length) H'):a2p C "step_within" (a5p C) [] E0 (Z2 i) (a6t (Z2 j) a2v) σ H Q:=by
 obtain⟨⟨dx,ah,hs,c,_⟩,_,_,_⟩:=id D;exact⟨_,hi,p,dx,_,rfl,c,a2E _ _ _ _ _ _,_,l,p,ra,ca,af,aw,b,L,F,W,rss,cs,r,B,rfl,D,Y,h1,h2,d,e,f,g,h,k⟩
def Z3:FnScope ["self","room"] ["self","room"] (A1 D5):={}
def b3A(FM:MethAt K C "step_within" "Finder.step_within" D5 ["self","room"])(U:FiTx K C)(T:Tx mg)(d:Ok P w K mg base "next_level" 5 ["rows","caps","found","level","room"] b2z)(a:Ok P w K mg base "first_steps" 2 ["caps"] a2M)(n:Ok P w K mg base "is_answer" 3 ["rows","one"] a2L) :
  MethOk P w K mg base C "step_within" 6 ["self","room"] (a5p C):=by
 refine FM.fnJ Z3 (λvs H Q E h=>?_) (λc8 f A c4 s H vs Q E hr h=>?_)
 .obtain⟨p,ra,ca,af,aw,b,L,F,W,rss,cs,r,B,rfl,_⟩:=h;rfl
 .obtain⟨p,ra,ca,af,aw,b,L,F,W,rss,cs,r,B,rfl,D,Y,hroom,hL,hB,hF,hbig,hF1,hW1,k⟩:=h;have hz:(300000:Nat)<=sizeLine:=by rw[a'];decide
  obtain⟨⟨dx,ah,hs,h1,h2,h3,h4,h5⟩,⟨fs,f1,f2⟩,⟨ws,w1,w2⟩,ne⟩:=id D;have b4:p≠af:=K1 h1 f1 (by intro z;cases z);have b5:p≠aw:=K1 h1 w1 (by intro z;cases z);refine⟨_,(A2 (D4 (C9 K (N5 K (jv 0)))
 (A4 (X5 K (jv 0) (A7 d (hr.mono (by omega)) rfl (jaC (N5 K (jv 0)) (jaC (N5 K (jv 0)) (jaC (N5 K (jv 0)) (jaC (N5 K (jv 0)) (jaC (jv 1) jaN))))))))
 (A2 (X5 K (jv 0) (a5N K rfl T.b_list (jaC (A7 a (hr.mono (by omega)) rfl (jaC (N5 K (jv 0)) jaN)) jaN)))
 (A4 (X5 K (jv 0) M9))))
 (A2 (O6 (a4M K (N5 K (jv 0)) (jaC (B7 (N:=["one","self"]) (src:=[none,some 0]) (K8 K (N5 K (jv 0))) (by show C0 _ _=true;rfl) (by rfl) (by rfl)
 (λ_ _ _ _ _=>(A5 (i:=0) (L2.nd ["one","self"]) rfl (Or.inl rfl))) (λ_ _ _ _ _=>(a1X (C9 K (A7 n (hr.mono (by omega)) rfl (jaC (N5 K (jv 1)) (jaC (jv 0) jaN)))))) (λ_ _ _ _ _=>(jv 0))) jaN)))
 (A2 (O6 (a4M K (N5 K (jv 0)) (jaC (N5 K (jv 0)) jaN)))
 (A4 (A9 (E5 K rfl T.b_len (jaC (N5 K (jv 0)) jaN))))))),?_⟩
  refine V8 (λσ H'=>σ=[some (.ref p),some r]/\∃ah' c S,H' p=some (.ins C dx (ffl ra ca true ah' af aw))/\H' ah'=some (.lst c)/\Its H' c S/\H ah'=none/\StR rss cs b L F r S/\Off [p] H H'/\∀v∈S,v.length=cs.length/\Sm v) ?fin λfin=>?_
  case fin =>
   rintro σ H1 ⟨rfl,ah',c,S,p1,a1,i1,a0,R,g,b9⟩;have c1:=Y.n2;have b2:S.length<=100000:=by have:=R.len;omega
   have a7:=g _ _ (by simpa using b4.symm) f1;have c6:=g _ _ (by simpa using b5.symm) w1;have b7:=a3Q f2 h1 (λ_ z=>by cases z) g;have c7:=a3Q w2 h1 (λ_ z=>by cases z) g;have Y1:=b5a Y h1 (λ_ z=>by cases z) g;have a8:ah'≠af:=(A8 f1 a0).symm;have b0:ah'≠aw:=(A8 w1 a0).symm;have c9:p≠ah':=A8 h1 a0;refine⟨_,rfl,p,C,dx,_,_,rfl,p1,U.cl,U.n5,a2d _ _ _ _ _ _,.inl ⟨rfl,_,SqL.of a7⟩,?_⟩;refine⟨_,rfl,p,C,dx,_,_,rfl,p1,U.cl,U.n4,a0j _ _ _ _ _ _,ah',rfl,⟨_,SqL.of a1⟩,?_⟩;refine a3E (caps:=[some (.ref p)]) (λv=>Ans rss v) (by rw[i1.1];omega) (λH2 s2=>SqL.of (s2 _ _ a1)) i1 rfl (λv r' H2 Q2 c3 Z s2 q=>?_) λH2 p2 zs s2 b3 M=>?_
   .obtain⟨⟨us,u1,u2,u3⟩,_,_,_,hR⟩:=Y1.same s2;refine⟨_,rfl,p,C,dx,_,_,rfl,s2 _ _ p1,U.cl,U.n1,a7v _ _ _ _ _ _,_,rfl,ra,v,us,rss,r',rfl,u1,u2,Z,u3,λr hr=>by rw[(hR r hr).1];omega,(b9 r' c3).2,λJ t=>⟨_,rfl,q J t⟩⟩
   have c0:(S.filter λv=>Ans rss v).length<=S.length:=bo _ _;have t:=s2.upd (o:=.lst zs) b3;have c5:=(Same.refl H2).upd (o:=.lst zs) b3;have e3:upd H2 p2 (.lst zs) p2=some (.lst zs):=A0;have y:=M.same c5;generalize upd H2 p2 (.lst zs)=J at t e3 y;have f3:=t _ _ a7;refine⟨af,p2,fs,zs,rfl,rfl,f3,e3,by rw[f2.1,M.1];omega,?_⟩;have p4:upd J af (.lst (fs++zs)) p=some (.ins C dx (ffl ra ca true ah' af aw)):=by rw[A3 b4];exact t _ _ p1
   have w4:upd J af (.lst (fs++zs)) aw=some (.lst ws):=by rw[A3 ne.symm];exact t _ _ c6
   have a4:upd J af (.lst (fs++zs)) ah'=some (.lst c):=by rw[A3 a8];exact t _ _ a1
   refine⟨_,rfl,p,C,dx,_,_,rfl,p4,U.cl,U.n6,a3X _ _ _ _ _ _,.inl ⟨rfl,_,SqL.of w4⟩,?_⟩;refine⟨_,rfl,p,C,dx,_,_,rfl,p4,U.cl,U.n4,a0j _ _ _ _ _ _,aw,ah',ws,c,rfl,rfl,w4,a4,by rw[w2.1,i1.1];omega,?_⟩;have p5:upd (upd J af (.lst (fs++zs))) aw (.lst (ws++c)) p=some (.ins C dx (ffl ra ca true ah' af aw)):=by rw[A3 b5];exact p4
   have a5:upd (upd J af (.lst (fs++zs))) aw (.lst (ws++c)) ah'=some (.lst c):=by rw[A3 b0];exact a4
   refine⟨_,rfl,p,C,dx,_,_,rfl,p5,U.cl,U.n4,a0j _ _ _ _ _ _,ah',_,rfl,.inl (SqL.of a5),?_⟩;rw[i1.1];have I:∀{vs:qA V}{rss:LLI},Its J vs rss->Its (upd (upd J af (.lst (fs++zs))) aw (.lst (ws++c))) vs rss:=λh=>O7 (O7 h f3 (λ_ z=>by cases z)) w4 (λ_ z=>by cases z);refine k S _ R ⟨⟨dx,ah',c,p5,a5,I (i1.same t),a8,b0⟩,⟨fs++zs,by rw[A3 ne];exact A0,I (a5Q (b7.same t) y)⟩,⟨ws++c,A0,I (a5Q (c7.same t) (i1.same t))⟩,ne⟩ ⟨dx,ah',p5,a0⟩ λb o hb e=>?_;have a2:b≠p/\b≠af/\b≠aw:=by simpa using hb
   rw[A3 a2.2.2,A3 a2.2.1];exact t _ _ (g _ _ (by simpa using a2.1) e)
  refine⟨_,rfl,p,C,dx,_,_,rfl,h1,U.cl,U.n3,a4S _ _ _ _ _ _,b,rfl,?_⟩;obtain⟨us,u1,u2,u3⟩:=Y.ex;have c1:=Y.n2;cases b with
  |true =>
   refine G3 ?_;refine⟨_,rfl,p,C,dx,_,_,rfl,h1,U.cl,U.n1,a7v _ _ _ _ _ _,_,rfl,p,C,dx,_,_,rfl,h1,U.cl,U.n2,a7w _ _ _ _ _ _,_,rfl,p,C,dx,_,_,rfl,h1,U.cl,U.n5,a2d _ _ _ _ _ _,_,rfl,p,C,dx,_,_,rfl,h1,U.cl,U.n4,a0j _ _ _ _ _ _,_,rfl,?_⟩;refine⟨ra,ca,af,ah,r,us,rss,cs,fs,F,hs,L,rfl,⟨u1,u2,Y.hc,f1,f2,h2,h3,u3,Y.n1,Y.n2,Y.hR,hF,λv Z=>⟨(hL v Z).1,λx hx=>by have:=(hL v Z).2 x hx;omega⟩,hbig⟩,hroom,λp9 zs tss H9 s9 G h9 b8 a6 c2 X a9 b2 b1=>?_⟩;have b6:=s9 _ _ h1;have a3:p≠p9:=A8 h1 G;refine⟨_,rfl,p,C,dx,_,rfl,b6,U.cl,U.n4,by show 6<1000;decide,?_⟩;rw[a6P];refine fin _ _ ⟨rfl,p9,zs,tss,A0,by rw[A3 a3.symm];exact h9,O7 b8 b6 (λ_ z=>by cases z),G,⟨a6,c2,(λz=>by cases z),λ_=>X,λ_=>a9,by omega,b1⟩,s9.off.set (by simp),λv Z=>?_⟩;obtain⟨u,hu,j,_,rfl,_⟩:=X v Z;have:=b5d (j:=j) (hL u hu).2 hB;exact⟨by rw[G8];exact(hL u hu).1,λx hx=>by have:=this x hx;omega⟩
  |false =>
   refine D0 ?_;refine⟨_,rfl,p,C,dx,_,_,rfl,h1,U.cl,U.n2,a7w _ _ _ _ _ _,ca,cs,rfl,Y.hc,Y.n1,Y.n2,λq zs tss H2 s2 hq M O a6=>?_⟩;refine⟨q,zs,rfl,.inr (SqT.of hq),λl hl=>?_⟩;have p3:=U8 (o:=.lst zs) (s2 _ _ h1) hl;have t:=s2.upd (o:=.lst zs) hl;have y:=M.same ((Same.refl H2).upd (o:=.lst zs) hl);have e3:upd H2 l (.lst zs) l=some (.lst zs):=A0;have G:=s2.free hl;generalize upd H2 l (.lst zs)=J at p3 t y e3;refine⟨_,rfl,p,C,dx,_,rfl,p3,U.cl,U.n4,by show 6<1000;decide,?_⟩;rw[a6P];refine⟨_,rfl,p,C,dx,_,rfl,A0,U.cl,U.n3,by show 6<1000;decide,?_⟩;rw[a5i,b0W];have a3:p≠l:=A8 h1 G;have c0:(K9 cs).length<=cs.length:=ba (bo _ _) (by simp);have d0:=O.length_eq;refine fin _ _ ⟨rfl,l,zs,tss,A0,by rw[A3 a3.symm];exact e3,O7 y p3 (λ_ z=>by cases z),G,⟨a6,O.symm.nodup (a4R cs),λ_ v=>O.mem_iff,(λz=>by cases z),(λz=>by cases z),by omega,λm e=>?_⟩,t.off.set (by simp),λv Z=>?_⟩
   .rcases hroom with z|⟨m',z,hm'⟩
    .rw[z]at e;cases e
    .rw[z]at e;cases e;omega
   .obtain⟨j,_,rfl⟩:=aM.mp (aP.mp (O.mem_iff.mp Z)).1;refine⟨K0 _ _,λx hx=>?_⟩;unfold L3 at hx;obtain⟨i,_,rfl⟩:=aM.mp hx;split<;>omega
inductive IspEnded(C:qE)(vs:qA V)(H:Hp)(Q:VK)(E:XK):Prop
 |mk (p ra ca af aw:qE) (b:Bool) (L F W:LLI) (_:vs=[.ref p]) (_:FAt C H p ra ca af aw b L F W) (_:Q (.bl (b && decide (L=[]))) H):IspEnded C vs H Q E
def a5s(C:qE):Sp:=λvs H Q E=>IspEnded C vs H Q E
def b2U{ra ca af aw:qE}{b:Bool}(hi:σ[i]?=some (some (.ref p)))(D:FAt C H p ra ca af aw b L F W)(k:Q (.bl (b && decide (L=[]))) H):a2p C "ended" (a5s C) [] E0 (Z2 i) a2v σ H Q:=by
 obtain⟨⟨dx,ah,hs,a,_⟩,_,_,_⟩:=id D;exact⟨_,hi,p,dx,_,rfl,a,b1G _ _ _ _ _ _,p,ra,ca,af,aw,b,L,F,W,rfl,D,k⟩
def a2y:FnScope ["self"] ["self"] (A1 K4):={}
def b3H(c:MethAt K C "ended" "Finder.ended" K4 ["self"])(U:FiTx K C)(T:Tx mg):MethOk P w K mg base C "ended" 1 ["self"] (a5s C):=by
 refine c.fnJ a2y (λvs H Q E h=>?_) (λd f A a s H vs Q E l h=>?_)
 .obtain⟨p,ra,ca,af,aw,b,L,F,W,rfl,_⟩:=h;rfl
 .obtain⟨p,ra,ca,af,aw,b,L,F,W,rfl,D,k⟩:=h;obtain⟨⟨dx,ah,hs,h1,h2,g,i,j⟩,⟨fs,f1,f2⟩,⟨o,m,n⟩,ne⟩:=id D;refine⟨_,(A4 (A9 (a0N (N5 K (jv 0)) (a1w (a7k (E5 K rfl T.b_len (jaC (N5 K (jv 0)) jaN)) A6))))),?_⟩;refine⟨_,rfl,p,C,dx,_,_,rfl,h1,U.cl,U.n3,a4S _ _ _ _ _ _,?_⟩;refine⟨b,rfl,?_⟩;cases b with
  |false=>exact D0 k
  |true =>
   refine G3 ⟨_,rfl,p,C,dx,_,_,rfl,h1,U.cl,U.n4,a0j _ _ _ _ _ _,ah,_,rfl,.inl (SqL.of h2),rfl,?_⟩;have e:decide (V.int (hs.length:Int)=V.int 0)=decide (L=[]):=by
    rw[g.1];cases L with
    |nil=>simp
    |cons x L=>simp;omega
   rw[e];exact k
inductive IspTold(C:qE)(vs:qA V)(H:Hp)(Q:VK)(E:XK):Prop
 |mk (p ra ca af aw:qE) (b:Bool) (L F W:LLI) (_:vs=[.ref p]) (_:FAt C H p ra ca af aw b L F W) (_:(∀v∈F,0<v.length)) (_:∀q zs tss H',Same H H'->H' q=some (.tup zs)->Its H' zs tss->tss.Perm F->C8 tss->Q (.ref q) H'):IspTold C vs H Q E
def a7Z(C:qE):Sp:=λvs H Q E=>IspTold C vs H Q E
def b5s{ra ca af aw:qE}{b:Bool}(hi:σ[i]?=some (some (.ref p)))(D:FAt C H p ra ca af aw b L F W)(h:∀v∈F,0<v.length)(k:∀q zs tss H',Same H H'->H' q=some (.tup zs)->Its H' zs tss->tss.Perm F->C8 tss->Q (.ref q) H'):a2p C "told" (a7Z C) [] E0 (Z2 i) a2v σ H Q:=by
 obtain⟨⟨dx,ah,hs,a,_⟩,_,_,_⟩:=id D;exact⟨_,hi,p,dx,_,rfl,a,b4s _ _ _ _ _ _,p,ra,ca,af,aw,b,L,F,W,rfl,D,h,k⟩
def a3m:FnScope ["self"] ["self"] (A1 M4):={}
def b6e(e:MethAt K C "told" "Finder.told" M4 ["self"])(U:FiTx K C)(T:Tx mg):MethOk P w K mg base C "told" 1 ["self"] (a7Z C):=by
 refine e.fnJ a3m (λvs H Q E h=>?_) (λg f A d s H vs Q E t h=>?_)
 .obtain⟨p,ra,ca,af,aw,b,L,F,W,rfl,_⟩:=h;rfl
 .obtain⟨p,ra,ca,af,aw,b,L,F,W,rfl,D,hF,k⟩:=h;obtain⟨⟨dx,ah,hs,h1,h2,m,n,r⟩,⟨fs,f1,f2⟩,⟨x,u,v⟩,ne⟩:=id D;refine⟨_,(A4 (A9 (C7 K rfl T.b_tuple (jaC (a7o K rfl T.b_sorted (jaC (N5 K (jv 0)) jaN)) jaN)))),?_⟩;refine⟨_,rfl,p,C,dx,_,_,rfl,h1,U.cl,U.n5,a2d _ _ _ _ _ _,af,fs,F,rfl,.inl (SqL.of f1),f2,hF,λl zs tss i hI a c _=>?_⟩;refine⟨l,_,rfl,.inl ⟨SqL.of A0,λq j=>?_⟩⟩;have s2:=((Same.refl H).upd (o:=.lst zs) i).upd (o:=.tup zs) j;exact k q zs tss _ s2 A0 (hI.same s2) a c
inductive IspPaper(C:qE)(vs:qA V)(H:Hp)(Q:VK)(E:XK):Prop
 |mk (p ra ca af aw:qE) (b:Bool) (L F W:LLI) (_:vs=[.ref p]) (_:FAt C H p ra ca af aw b L F W) (_:∀q zs H',Same H H'->H' q=some (.tup zs)->Its H' zs W->Q (.ref q) H'):IspPaper C vs H Q E
def a5q(C:qE):Sp:=λvs H Q E=>IspPaper C vs H Q E
def b2T{ra ca af aw:qE}{b:Bool}(hi:σ[i]?=some (some (.ref p)))(D:FAt C H p ra ca af aw b L F W)(k:∀q zs H',Same H H'->H' q=some (.tup zs)->Its H' zs W->Q (.ref q) H'):a2p C "paper" (a5q C) [] E0 (Z2 i) a2v σ H Q:=by
 obtain⟨⟨dx,ah,hs,a,_⟩,_,_,_⟩:=id D;exact⟨_,hi,p,dx,_,rfl,a,b1F _ _ _ _ _ _,p,ra,ca,af,aw,b,L,F,W,rfl,D,k⟩
def a2x:FnScope ["self"] ["self"] (A1 K3):={}
def b3D(d:MethAt K C "paper" "Finder.paper" K3 ["self"])(U:FiTx K C)(T:Tx mg):MethOk P w K mg base C "paper" 1 ["self"] (a5q C):=by
 refine d.fnJ a2x (λvs H Q E h=>?_) (λe f A a s H vs Q E r h=>?_)
 .obtain⟨p,ra,ca,af,aw,b,L,F,W,rfl,_⟩:=h;rfl
 .obtain⟨p,ra,ca,af,aw,b,L,F,W,rfl,D,k⟩:=h;obtain⟨⟨dx,ah,hs,h1,h2,l,m,n⟩,⟨fs,f1,f2⟩,⟨c,i,j⟩,ne⟩:=id D;refine⟨_,(A4 (A9 (C7 K rfl T.b_tuple (jaC (N5 K (jv 0)) jaN)))),?_⟩;refine⟨_,rfl,p,C,dx,_,_,rfl,h1,U.cl,U.n6,a3X _ _ _ _ _ _,aw,_,rfl,.inl ⟨SqL.of i,λq g=>?_⟩⟩;have s2:=(Same.refl H).upd (o:=.tup c) g;exact k q c _ s2 A0 (j.same s2)
end
inductive Wk(rss:LLI)(cs:qA (qD Int)):LLI->LLI->LLI->Nat->Prop
 |one {L:LLI}(ri:C8 L) (nd:L.Nodup) (h:∀v,v∈L↔v∈K9 cs):Wk rss cs (L.filter λv=>Ans rss v) L L 1
 |more {F W L L':LLI}{k:Nat}(h:Wk rss cs F W L k) (ne:L≠[]) (ri:C8 L') (nd:L'.Nodup) (hm:∀v,v∈L'↔∃u∈L,a0Z rss cs F u v):Wk rss cs (F++L'.filter λv=>Ans rss v) (W++L') L' (k+1)
def a7J(rss:LLI)(cs:qA (qD Int))(most:Int):Prop:=∃F W L k,Wk rss cs F W L k/\(most<W.length∨(L≠[]/\∃L':LLI,L'.Nodup/\(∀v∈L',∃u∈L,a0Z rss cs F u v)/\most<W.length+L'.length))
def a9M(h:∀x∈v,0<=x):∀x∈v,x<=v.sum:=by
 induction v with
 |nil=>intro x a;cases a
 |cons y v c =>
  intro x a;have h1:=h y ar;have h2:=b2v v λz b=>h z (aq _ b);rw[bu];rcases aD.mp a with rfl|a
  .omega
  .have:=c (λz b=>h z (aq _ b)) x a;omega
def b6L(h:∀x∈u,0<=x):∀x∈bump u j,0<=x:=by
 intro x a;unfold bump at a;rcases fh a with z|z
 .exact h x z
 .by_cases hj:j<u.length
  .have:=h _ (cM (h:=hj));rw[ak,ai hj]at z;simp at z;omega
  .rw[ak,bO (by omega)]at z;simp at z;omega
def a6r(n j:Nat):∀x∈L3 n j,0<=x:=by
 intro x a;unfold L3 at a;obtain⟨i,_,rfl⟩:=aM.mp a;split<;>omega
def a7P(n j:Nat)(c:j<n):L3 n j=bump (List.replicate n 0) j:=by
 refine dg (by rw[K0,G8,bw]) λi h1 h2=>?_;rw[K0]at h1;have a:=U9 n j i h1;have b:=a1D (List.replicate n 0) j i (by simpa using c);rw[ak,ai (by rw[K0];exact h1)]at a;rw[ak,ai h2]at b;simp only[Option.getD_some]at a b;rw[a,b];simp only[ak,fz,c,h1,e_];by_cases e:i=j<;>simp[e]
def a3s(n:Nat):(List.replicate n (0:Int)).sum=0:=by
 induction n with
 |zero=>rfl
 |succ n a=>rw[bU,bu,a];rfl
def a1J(n j:Nat)(a:j<n):(L3 n j).sum=1:=by
 rw[a7P n j a,a7G _ _ (by simpa using a),a3s];rfl
def a7Y(h:j∈StP rss cs u):j<u.length/\a2j rss u j<0/\b0r (cs.getD j none) (u.getD j 0)=true:=by
 unfold StP at h;rw[aP,aP,aZ,bH]at h;exact⟨h.1.1,h.1.2,h.2⟩
structure LvF(n k:Nat)(v:qI):Prop where
 len:v.length=n
 nn:∀x∈v,0<=x
 sum:v.sum=k
def a2c(h:v∈K9 cs):LvF cs.length 1 v:=by
 obtain⟨j,a,rfl⟩:=aM.mp (aP.mp h).1;exact⟨K0 _ _,a6r _ _,a1J _ _ (aZ.mp a)⟩
def a9L(a:LvF n k u)(h:a0Z rss cs F u v):LvF n (k+1) v:=by
 obtain⟨j,b,rfl,_⟩:=h;have:=(a7Y b).1;exact⟨by rw[G8];exact a.len,b6L a.nn,by rw[a7G _ _ this,a.sum];omega⟩
def Wk.lv(h:Wk rss cs F W L k):(∀v∈L,LvF cs.length k v)/\(∀v∈W,∃i,1<=i/\i<=k/\LvF cs.length i v)/\(∀v∈F,v∈W/\Ans rss v=true)/\F.length<=W.length/\L.length<=W.length/\1<=k/\k<=W.length+1/\(L≠[]->k<=W.length):=by
 induction h with
 |@one L ri nd h =>
  refine⟨λv a=>a2c ((h v).mp a),λv a=>⟨1,by omega,by omega,a2c ((h v).mp a)⟩,λv a=>aP.mp a,bo _ _,ao _,by omega,by omega,λne=>?_⟩;cases L with
  |nil=>exact absurd rfl ne
  |cons x L=>simp
 |@more F W L L' k h ne ri nd e n =>
  obtain⟨j,l,d,o,p,q,r,m⟩:=n;have b:∀v∈L',LvF cs.length (k+1) v:=λv a=>by
   obtain⟨u,f,g⟩:=(e v).mp a;exact a9L (j u f) g
  have:=bo (λv=>Ans rss v) L';have s:=m ne;refine⟨b,λv a=>?_,λv a=>?_,by rw[ax,ax];omega,by rw[ax];omega,by omega,by rw[ax];omega,λc=>?_⟩
  .rcases aA.mp a with z|z
   .obtain⟨i,q1,q2,q3⟩:=l v z;exact⟨i,q1,by omega,q3⟩
   .exact⟨k+1,by omega,by omega,b v z⟩
  .rcases aA.mp a with z|z
   .exact⟨aK _ (d v z).1,(d v z).2⟩
   .exact⟨aX _ (aP.mp z).1,(aP.mp z).2⟩
  .rw[ax];have:0<L'.length:=fb.mpr c;omega
section
variable {K:qF}
inductive IspLeast(D:qE)(vs:qA V)(H:Hp)(Q:VK)(E:XK):Prop
 |mk (ra ca:qE) (rss:LLI) (cs:qA (qD Int)) (most:Nat) (mi:Int) (_:vs=[.ref ra,.ref ca,.int mi]) (_:mi=most) (_:SyAt H ra ca rss cs) (_:(most+1)*(cs.length+1)+200<=100000) (_:(∀q t pp zs tss ws F W k H',Same H H'->H' q=some (.tup [.ref t,.ref pp])->H' t=some (.tup zs)->Its H' zs tss->tss.Perm F->C8 tss->H' pp=some (.tup ws)->Its H' ws W->Wk rss cs F W [] k->W.length<=most->Q (.ref q) H')) (_:(∀H',Same H H'->a7J rss cs most->E (.ref D) none H')):IspLeast D vs H Q E
def a5r(D:qE):Sp:=λvs H Q E=>IspLeast D vs H Q E
def sc_least:FnScope ["rows","caps","most","finder","room"] ["rows","caps","most"] (A1 a2R):={}
def b3E{r:qE}(X:FunAt K mg "least" a2R ["rows","caps","most"])(T:Tx mg)(U:FiTx K C)(a:Cls K C)(I:MakeOk P w K mg base "Finder" C 1 ["self","rows","caps"] (a9u C))(g:MethOk P w K mg base C "step_within" 6 ["self","room"] (a5p C))(n:MethOk P w K mg base C "ended" 1 ["self"] (a5s C))(t:MethOk P w K mg base C "told" 1 ["self"] (a7Z C))(p:MethOk P w K mg base C "paper" 1 ["self"] (a5q C))
  (D:OwnCls "TooMany" r [.type "ValueError",.type "Exception",.type "BaseException",.type "object"] "ValueError.__new__" mg base):OkE P w K mg base "least" 7 ["rows","caps","most"] (a5r r):=by
 refine X.okE sc_least (λvs H Q E h=>?_) (λc0 f A b8 s H vs Q E hr h=>?_)
 .obtain⟨ra,ca,rss,cs,most,mi,rfl,_⟩:=h;rfl
 .obtain⟨ra,ca,rss,cs,most,_,rfl,rfl,Y,hbig,kq,ke⟩:=h;refine⟨_,(A2 (B4 (i:=3) sc_least.nd rfl (Or.inl rfl) (b9m I (hr.mono (by omega)) rfl (jaC (jv 0) (jaC (jv 1) jaN))))
 (A2 (B4 (i:=4) sc_least.nd rfl (Or.inl rfl) (jv 2))
 (A2 (a7l (L6 (C9 K (a5P n a (hr.mono (by omega)) (jv 3))))
 (A2 (B4 (i:=4) sc_least.nd rfl (Or.inl rfl) (a9U (jv 4) (b9l g a (hr.mono (by omega)) (jv 3) (jaC (jv 4) jaN))))
 (A4 (D4 (b3V (jv 4) A6)
 (A4 (b3W D PySem.F.excBase_ValueError rfl PySem.F.excBase_ValueError rfl (jaC c0E jaN)))
 C2))) (hp:=PassesOwn.leaving))
 (A4 (A9 (T4 (jaC (a5P t a (hr.mono (by omega)) (jv 3)) (jaC (a5P p a (hr.mono (by omega)) (jv 3)) jaN)))))))),?_⟩
  refine⟨_,rfl,_,rfl,λx dx hx b0 N=>?_⟩;have b7:upd H dx (.own x) x=none:=by rw[A3 N.symm];exact hx
  have s0:Same H (upd (upd H dx (.own x)) x (.ins C dx [])):=((Same.refl H).upd b0).upd b7;refine⟨x,dx,ra,ca,rfl,A0,λaf aw H1 a8 a9 D1 _ kp=>⟨rfl,?_⟩⟩;have a0:H af=none:=s0.free a8;have a1:H aw=none:=s0.free a9;have s1:Same H H1:=λb o e=>kp b o (s0 b o e) (A8 e hx);dsimp only[B0];refine⟨_,rfl,?_⟩;dsimp only[B0];have hz:(300000:Nat)<=sizeLine:=by rw[a'];decide
  refine V8 (λσ H'=>σ=[some (.ref ra),some (.ref ca),some (.int most),some (.ref x),σ.getD 4 none]/\Same H H'/\∃F W k,FAt C H' x ra ca af aw true [] F W/\Wk rss cs F W [] k/\W.length<=most) ?fin λfin=>?_
  case fin =>
   rintro σ H2 ⟨hσ,s2,F,W,k,O,J,S⟩;obtain⟨⟨a4,ah,hs,h1,h2,h3,h4,h5⟩,_,_,_⟩:=id O;have a2:=J.lv;rw[hσ];refine b5s rfl O (λv M=>?_) λq1 zs tss H3 s3 b4 a5 b3 b6=>?_
   .obtain⟨i,i1,_,lv⟩:=a2.2.1 v (a2.2.2.1 v M).1;cases v with
    |nil=>have:=lv.sum;simp at this;omega
    |cons _ _=>simp
   have D3:=O.same s3;obtain⟨⟨c1,b9,c8,g1,_⟩,_,_,_⟩:=id D3;refine b2T rfl D3 λq2 ws H4 s4 b5 a6=>?_;refine⟨by show 2<=sizeLine;omega,λq hq=>?_⟩;have s5:=(Same.refl H4).upd (o:=.tup [.ref q1,.ref q2]) hq;exact kq q q1 q2 zs tss ws F W k _ (((s2.trans s3).trans s4).trans s5) A0 (s5 _ _ (s4 _ _ b4)) ((a5.same s4).same s5) b3 b6 (s5 _ _ b5) (a6.same s5) J S
  refine⟨λm σ H'=>∃(b:Bool) (L F W:LLI) (d:Int),σ=[some (.ref ra),some (.ref ca),some (.int most),some (.ref x),some (.int d)]/\Same H H'/\FAt C H' x ra ca af aw b L F W/\0<=d/\m=d.toNat+(if b=true/\L=[] then 0 else 1)/\((b=false/\L=[]/\F=[]/\W=[]/\d=most)∨(b=true/\∃k,Wk rss cs F W L k/\d=most-W.length)),
   ⟨_,false,[],[],[],_,rfl,s1,D1,by omega,rfl,.inl ⟨rfl,rfl,rfl,rfl,rfl⟩⟩,?_⟩
  rintro m σ H2 ⟨b,L,F,W,d,rfl,s2,O,r0,rfl,V⟩;obtain⟨⟨a4,ah,hs,h1,h2,h3,h4,h5⟩,_,_,_⟩:=id O;refine b2U rfl O ⟨_,rfl,?_⟩;have c5:most+1<=(most+1)*(cs.length+1):=Nat.le_mul_of_pos_right _ (eR _);have c6:(most+1)*(cs.length+1)=(most+1)*cs.length+(most+1):=by rw[Nat.mul_add,Nat.mul_one]
  by_cases he:b=true/\L=[]
  .obtain⟨rfl,rfl⟩:=he;refine D0 ?_;rcases V with⟨z,_⟩|⟨_,k,J,j⟩
   .cases z
   .exact fin _ _ ⟨rfl,s2,F,W,k,O,J,by omega⟩
  .have hb:(b && decide (L=[]))=false:=by
    cases b with
    |false=>rfl
    |true =>
     have:L≠[]:=λz=>he ⟨rfl,z⟩;simpa using this
   rw[hb,au he];refine G3 ⟨λσ' H'=>∃(G X Z:LLI) (k:Nat) (l:Int),σ'=[some (.ref ra),some (.ref ca),some (.int most),some (.ref x),some (.int l)]/\Same H H'/\FAt C H' x ra ca af aw true G X Z/\0<=l/\Wk rss cs X Z G k/\l=most-Z.length/\l.toNat+(if G=[] then 0 else 1)<d.toNat+1,λσ' H' ⟨G,X,Z,k,l,e1,e2,e3,e4,e5,e6,e7⟩=>⟨_,e7,true,G,X,Z,l,e1,e2,e3,e4,by simp,.inr ⟨rfl,k,e5,e6⟩⟩,?_⟩;obtain⟨B,hB,hL,hF,c4,a7,c2⟩:∃B:Int,B<=2 ^ 60/\(∀v∈L,v.length=cs.length/\∀y∈v,0<=y/\y<=B)/\(∀v∈F,v.length=cs.length)/\W.length<=most/\L.length<=most/\F.length<=most:=by
    rcases V with⟨rfl,rfl,rfl,rfl,_⟩|⟨rfl,k,J,j⟩
    .exact⟨0,by omega,(λ_ z=>nomatch z),(λ_ z=>nomatch z),by simp,by simp,by simp⟩
    .obtain⟨i1,i2,i3,i4,i5,i6,i7,i8⟩:=J.lv;refine⟨k,by omega,λv M=>⟨(i1 v M).len,λy hy=>⟨(i1 v M).nn y hy,?_⟩⟩,λv M=>?_,by omega,by omega,by omega⟩
     .have:=a9M (i1 v M).nn y hy;rw[(i1 v M).sum]at this;exact this
     .obtain⟨i,_,_,lv⟩:=i2 v (i3 v M).1;exact lv.len
   have c3:L.length*cs.length<=most*cs.length:=fZ _ a7;have c7:(most+1)*cs.length=most*cs.length+cs.length:=by rw[Nat.add_mul,Nat.one_mul]
   refine⟨_,rfl,b2S rfl rfl O (Y.same s2) (.inr ⟨d,rfl,r0⟩) hL hB hF (by omega) (by omega) (by omega) λG H3 R D3 _ a3=>?_⟩;refine⟨_,_,rfl,rfl,?_⟩;dsimp only[B0];have s3:Same H H3:=λc o e=>a3 c o (by simpa using⟨A8 e hx,A8 e a0,A8 e a1⟩) (s2 c o e);have key:(∃k,Wk rss cs (F++G.filter λv=>Ans rss v) (W++G) G k/\d=most-W.length)∨(d<G.length/\a7J rss cs most):=by
    rcases V with⟨rfl,rfl,rfl,rfl,j⟩|⟨rfl,k,J,j⟩
    .exact .inl ⟨1,by simpa using Wk.one R.ri R.nd (R.fst rfl),by simpa using j⟩
    .have N:L≠[]:=λz=>he ⟨rfl,z⟩;rcases R.all rfl with ha|⟨m',e',b2⟩
     .exact .inl ⟨k+1,.more J N R.ri R.nd λv=>⟨R.snd rfl v,λ⟨u,hu,M⟩=>ha u hu v M⟩,j⟩
     .cases e';exact .inr ⟨b2,F,W,L,k,J,.inr ⟨N,G,R.nd,R.snd rfl,by omega⟩⟩
   refine⟨_,rfl,_,_,rfl,rfl,_,rfl,a1Y (λe=>?_) (λe=>?_)⟩
   .have e':d-(G.length:Int)<0:=bE e;refine⟨by rw[a'];decide,ke _ s3 ?_⟩;rcases key with⟨k,J,j⟩|⟨_,ho⟩
    .exact⟨_,_,_,k,J,.inl (by rw[ax];omega)⟩
    .exact ho
   .have e':¬d-(G.length:Int)<0:=λz=>e (bb z);rcases key with⟨k,J,j⟩|⟨b1,_⟩
    .refine⟨G,_,_,k,_,rfl,s3,D3,by omega,J,by rw[ax];omega,?_⟩;cases G with
     |nil=>simp
     |cons y G=>simp only[aT]at e'⊢;rw[au (by simp)];omega
    .exact absurd b1 (by omega)
end
structure Answer(rss:LLI)(n:Nat)(v:qI):Prop where
 len:v.length=n
 nn:∀x∈v,0<=x
 ans:Ans rss v=true
 pos:0<v.sum
structure Least(rss:LLI)(cs:qA (qD Int))(v:qI):Prop where
 an:Answer rss cs.length v
 wi:Wi cs v=true
 min:∀u,Answer rss cs.length u->Under u v->u=v
def Under.refl(v:qI):Under v v:=⟨rfl,λ_ _=>eC _⟩
def Under.trans{a b c:qI}(h:Under a b)(g:Under b c):Under a c :=
 ⟨h.1.trans g.1,λj d=>Int.le_trans (h.2 j (by rw[g.1];exact d)) (g.2 j d)⟩
def Under.eq{a b:qI}(h:Under a b)(hs:b.sum<=a.sum):a=b:=by
 refine bN λne=>?_;have:=h.sum.2 ne;omega
def a3b(h:v.length=cs.length):Wi cs v=true↔∀j,j<cs.length->b1P (cs.getD j none) (v.getD j 0)=true:=by
 unfold Wi;induction cs generalizing v with
 |nil=>simp
 |cons c cs b =>
  cases v with
  |nil=>cases h
  |cons x v =>
   rw[a_,cW,aO,b (by simpa using h)];constructor
   .rintro⟨h1,h2⟩ j a;cases j with
    |zero=>exact h1
    |succ j=>exact h2 j (by simpa using a)
   .intro h1;exact⟨h1 0 (by simp),λj a=>h1 (j+1) (by simpa using a)⟩
def b1O{c:qD Int}{x y:Int}(h:b1P c y=true)(a:x<=y):b1P c x=true:=by
 cases c with
 |none=>rfl
 |some c =>
  have:y<=c:=bE h;exact bb (by omega)
def a2K(a:v.length=cs.length)(h:Wi cs v=true)(c:Under u v):Wi cs u=true:=by
 rw[a3b a]at h;rw[a3b (by rw[c.1];exact a)];intro j b;exact b1O (h j b) (c.2 j (by rw[a];exact b))
def b4Q(h:Ans rss v=true)(j:Nat):a2j rss v j=0:=by
 unfold a2j S7;unfold Ans at h;induction rss with
 |nil=>rfl
 |cons r rss a =>
  rw[cW,aO,bH]at h;rw[aW,a_,bu,a h.2,h.1];omega
def E1{f:qI}(a:f.length=v.length):Bel f v=true↔Under f v:=by
 constructor
 .intro h;refine⟨a,?_⟩;unfold Bel at h;induction f generalizing v with
  |nil =>
   intro j b;rw[<-a]at b;simp at b
  |cons x f c =>
   cases v with
   |nil=>cases a
   |cons y v =>
    rw[a_,cW,aO]at h;intro j b;cases j with
    |zero=>exact bE h.1
    |succ j=>exact c (by simpa using a) h.2 j (by simpa using b)
 .intro h;unfold Bel;induction f generalizing v with
  |nil=>rfl
  |cons x f c =>
   cases v with
   |nil=>cases a
   |cons y v =>
    obtain⟨h1,h2⟩:=h.tail;rw[a_,cW,c (by simpa using a) h2,Bool.and_true];exact bb h1
def J1{rss:LLI}{cs:qA (qD Int)}:∀(m:Nat) {u:qI},u.sum<=m->Answer rss cs.length u->Wi cs u=true->∃a,Least rss cs a/\Under a u
 |0,u,e,h,_=>absurd h.pos (by omega)
 |m+1,u,e,h,hw=>by
  by_cases c:∃t,Answer rss cs.length t/\Under t u/\t≠u
  .obtain⟨t,h1,h2,h3⟩:=c;have:=h2.sum.2 h3;obtain⟨a,d,b⟩:=J1 m (u:=t) (by omega) h1 (a2K h.len hw h2);exact⟨a,d,b.trans h2⟩
  .exact⟨u,⟨h,hw,λt f b=>bN λne=>c ⟨t,f,b,ne⟩⟩,Under.refl u⟩
def a3v:∀{v:qI},(∀x∈v,0<=x)->0<v.sum->∃j,j<v.length/\1<=v.getD j 0
 |[],_,h=>by simp at h
 |x::v,a,h=>by
  by_cases b:1<=x
  .exact⟨0,by simp,by simpa using b⟩
  .have h0:=a x ar;rw[bu]at h;obtain⟨j,h1,h2⟩:=a3v (v:=v) (λy c=>a y (aq _ c)) (by omega);exact⟨j+1,by simpa using h1,by simpa using h2⟩
def a6W(h:∀x∈v,0<=x)(j:Nat):0<=v.getD j 0:=by
 rw[ak];cases e:v[j]? with
 |none=>simp
 |some x=>simpa using h x (aH e)
structure WkOk(rss:LLI)(cs:qA (qD Int))(F L:LLI)(k:Nat):Prop where
 wi:∀v∈L,Wi cs v=true
 bar:∀v∈L,∀f∈F,Under f v->f=v
 snd:∀f∈F,Least rss cs f
 all:∀a,Least rss cs a->a.sum<=k->a∈F
 up:∀a,Least rss cs a->k<=a.sum->∃v∈L,Under v a
def Wk.ok(hR:∀r∈rss,r.length=cs.length)(h:Wk rss cs F W L k):WkOk rss cs F L k:=by
 induction h with
 |@one L ri nd h =>
  have l:∀v∈L,LvF cs.length 1 v:=λv g=>a2c ((h v).mp g);have o:∀v∈L,Wi cs v=true:=λv g=>(aP.mp ((h v).mp g)).2;have s:∀a,Least rss cs a->((1:Nat):Int)<=a.sum->∃v∈L,Under v a:=λa b _=>by
   obtain⟨j,h1,h2⟩:=a3v b.an.nn b.an.pos;rw[b.an.len]at h1;have d:Under (L3 cs.length j) a:=⟨by rw[K0,b.an.len],λi hi=>by
    rw[b.an.len]at hi;rw[U9 _ _ _ hi];by_cases e:i=j
    .rw[az e,e];exact h2
    .rw[au e];exact a6W b.an.nn i⟩
   exact⟨_,(h _).mpr (aP.mpr ⟨aM.mpr ⟨j,aZ.mpr h1,rfl⟩,a2K b.an.len b.wi d⟩),d⟩
  refine⟨o,λv g f m d=>?_,λf m=>?_,λa b hs=>?_,s⟩
  .have h1:=(l v g).sum;have h2:=(l f (aP.mp m).1).sum;exact d.eq (by omega)
  .obtain⟨hf1,n⟩:=aP.mp m;have lv:=l f hf1;refine⟨⟨lv.len,lv.nn,n,by rw[lv.sum];decide⟩,o f hf1,λu p d=>d.eq ?_⟩;have:=p.pos;rw[lv.sum];omega
  .obtain⟨v,g,d⟩:=s a b (by have:=b.an.pos;omega);have h1:=(l v g).sum;have:v=a:=d.eq (by omega);subst this;exact aP.mpr ⟨g,b.an.ans⟩
 |@more F W L L' k h ne ri nd K C =>
  obtain⟨M,Z,T,i4,i5,i6,i7,i8⟩:=h.lv;have l:∀v∈L',LvF cs.length (k+1) v:=λv g=>by
   obtain⟨u,p,Y⟩:=(K v).mp g;exact a9L (M u p) Y
  have y:∀f∈F,f.length=cs.length/\f.sum<=k:=λf m=>by
   obtain⟨i,q1,q2,lv⟩:=Z f (T f m).1;exact⟨lv.len,by rw[lv.sum];omega⟩
  have s:∀a,Least rss cs a->((k+1:Nat):Int)<=a.sum->∃v∈L',Under v a:=λa b hs=>by
   obtain⟨v,g,d⟩:=C.up a b (by omega);have lv:=M v g;have I:v≠a:=λz=>by rw[<-z,lv.sum]at hs;omega
   have Q:Ans rss v=false:=by
    cases e:Ans rss v with
    |false=>rfl
    |true=>exact absurd (b.min v ⟨lv.len,lv.nn,e,by rw[lv.sum];omega⟩ d) I
   have V:=c0p rss v a (λr X=>by rw[hR r X,b.an.len]) d I b.an.ans;obtain⟨j,t⟩:=List.exists_mem_of_ne_nil _ V;have H:=b3k t;have O:a2j rss v j<0:=by
    unfold Pl at t;rw[aP,Q,eY,aO]at t;exact bE t.2.2
   have D:Under (bump v j) a:=d.bump t;have hw:=(a3b b.an.len).mp b.wi j (by rw[<-b.an.len];exact H.1);refine⟨bump v j,(K _).mpr ⟨v,g,j,?_,rfl,?_⟩,D⟩
   .unfold StP;rw[aP,aP,aZ,bH];refine⟨⟨by rw[d.1];exact H.1,O⟩,?_⟩;cases e:cs.getD j none with
    |none=>rfl
    |some c =>
     rw[e]at hw;have:a.getD j 0<=c:=bE hw;exact bb (by omega)
   .cases e:Bar F (bump v j) j with
    |false=>rfl
    |true =>
     unfold Bar at e;obtain⟨f,m,n⟩:=bP.mp e;rw[aO]at n;have A:=(y f m).1;have B:Under f a:=((E1 (by rw[A,G8,lv.len])).mp n.2).trans D;have:=b.min f (C.snd f m).an B;have h2:=(y f m).2;rw[this]at h2;omega
  have o:∀v∈L',Wi cs v=true:=λv g=>by
   obtain⟨u,p,j,t,rfl,_⟩:=(K v).mp g;have w:=(M u p).len;have q:=a7Y t;have hw:=C.wi u p;rw[a3b w]at hw;rw[a3b (by rw[G8];exact w)];intro i hi;rw[a1D _ _ _ q.1];by_cases e:i=j
   .rw[az e,e];have J:=q.2.2;cases U:cs.getD j none with
    |none=>rfl
    |some c =>
     rw[U]at J;have:u.getD j 0<c:=bE J;exact bb (by omega)
   .rw[au e];exact hw i hi
  have x:∀v∈L',∀f∈F++L'.filter (λv=>Ans rss v),Under f v->f=v:=λv g f m d=>by
   rcases aA.mp m with z|z
   .obtain⟨u,p,j,t,rfl,hb⟩:=(K v).mp g;have w:=(M u p).len;have q:=a7Y t;have A:=(y f z).1;exfalso;by_cases e:f.getD j 0=(bump u j).getD j 0
    .have:Bar F (bump u j) j=true:=by
      unfold Bar;exact bP.mpr ⟨f,z,by rw[aO];exact⟨bb e,(E1 d.1).mpr d⟩⟩
     rw[this]at hb;cases hb
    .have B:Under f u:=⟨by rw[A,w],λi hi=>by
      have h1:=d.2 i (by rw[G8];exact hi);rw[a1D _ _ _ q.1]at h1;by_cases S:i=j
      .subst S;rw[a1D _ _ _ q.1,az rfl]at e;rw[az rfl]at h1;omega
      .rw[au S]at h1;exact h1⟩
     have h2:=C.bar u p f z B;have J:=b4Q (T f z).2 j;rw[h2]at J;omega
   .have h1:=(l v g).sum;have h2:=(l f (aP.mp z).1).sum;exact d.eq (by omega)
  have E:∀a,Least rss cs a->a.sum<=((k+1:Nat):Int)->a∈F++L'.filter (λv=>Ans rss v):=λa b hs=>by
   by_cases h1:a.sum<=(k:Int)
   .exact aK _ (C.all a b h1)
   .obtain⟨v,g,d⟩:=s a b (by omega);have h2:=(l v g).sum;have:v=a:=d.eq (by omega);subst this;exact aX _ (aP.mpr ⟨g,b.an.ans⟩)
  refine⟨o,x,λf m=>?_,E,s⟩;rcases aA.mp m with z|z
  .exact C.snd f z
  .obtain⟨hf1,n⟩:=aP.mp z;have lv:=l f hf1;refine⟨⟨lv.len,lv.nn,n,by rw[lv.sum];omega⟩,o f hf1,λu p d=>?_⟩;refine bN λR=>?_;have P:=d.sum.2 R;rw[lv.sum]at P;obtain⟨a,b,G⟩:=J1 (rss:=rss) (cs:=cs) u.sum.toNat (by have:=p.pos;omega) p (a2K lv.len (o f hf1) d);have hs:=G.sum.1;have N:=C.all a b (by omega);have:=x f hf1 a (aK _ N) (G.trans d);rw[this,lv.sum]at hs;omega
def Wk.least(hR:∀r∈rss,r.length=cs.length)(h:Wk rss cs F W [] k)(v:qI):v∈F↔Least rss cs v:=by
 have o:=h.ok hR;refine⟨o.snd v,λa=>?_⟩;by_cases hs:v.sum<=(k:Int)
 .exact o.all v a hs
 .obtain⟨u,hu,_⟩:=o.up v a (by omega);cases hu
def Wk.nd{rss:LLI}{cs:qA (qD Int)}{F W L:LLI}{k:Nat}(h:Wk rss cs F W L k):W.Nodup/\F.Nodup:=by
 induction h with
 |@one L ri nd h=>exact⟨nd,nd.sublist dY⟩
 |@more F W L L' k h ne ri nd f d =>
  obtain⟨l,m,n,o,p,q,r,s⟩:=h.lv;have a:∀v∈W,∀u∈L',v≠u:=λv c u b e=>by
   obtain⟨i,w,x,lv⟩:=m v c;obtain⟨t,g,j⟩:=(f u).mp b;have:=(a9L (l t g) j).sum;rw[<-e,lv.sum]at this;omega
  refine⟨eJ.mpr ⟨d.1,nd,a⟩,eJ.mpr ⟨d.2,nd.sublist dY,λv c u b=>a v (n v c).1 u (aP.mp b).1⟩⟩
def Z9:∀{a b:LLI},C8 a->C8 b->a.Nodup->b.Nodup->(∀v,v∈a↔v∈b)->a=b
 |[],[],_,_,_,_,_=>rfl
 |[],y::b,_,_,_,_,h=>by have:=(h y).mpr ar;cases this
 |x::a,[],_,_,_,_,h=>by have:=(h x).mp ar;cases this
 |x::a,y::b,ra,rb,na,nb,h=>by
  obtain⟨k,l⟩:=cK.mp ra;obtain⟨i,j⟩:=cK.mp rb;obtain⟨f,g⟩:=cq.mp na;obtain⟨c,d⟩:=cq.mp nb;have e:x=y:=by
   refine O9 x y ?_ ?_
   .rcases aD.mp ((h x).mp ar)with z|z
    .rw[z];exact L5 y
    .exact i x z
   .rcases aD.mp ((h y).mpr ar)with z|z
    .rw[z];exact L5 x
    .exact k y z
  subst e;rw[Z9 l j g d λv=>?_];constructor
  .intro hv;rcases aD.mp ((h v).mp (aq _ hv))with z|z
   .exact absurd (z ▸ hv) f
   .exact z
  .intro hv;rcases aD.mp ((h v).mpr (aq _ hv))with z|z
   .exact absurd (z ▸ hv) c
   .exact z
def X0(h:PotAt H a b n)(d:H c=none):c∉[a,b]:=by
 obtain⟨_,e,t,k,h1,h2,_⟩:=h;simp only[aD,bB,cL,not_or];exact⟨(A8 h1 d).symm,(A8 h2 d).symm⟩
def a1s(h:PotAt H a b n)(d:c∉[a,b]):PotAt (upd H c o) a b n:=by
 simp only[aD,bB,cL,not_or]at d;obtain⟨ne,e,t,j,f,g,i⟩:=h;exact⟨ne,e,t,j,by rw[A3 (du d.1)];exact f,by rw[A3 (du d.2)];exact g,i⟩
section
variable {K:qF}
def c0I(h:k<n):ixN n (k:Int)=some k:=by
 unfold ixN;rw[az (by omega),az (by omega)];rfl
def b0U{src:qA (qJ)}{caps:L2.St}{f c:Nat}{te:TE}(R:Int->Prop)(s:n<=1000)(k:B5 src σ=none::caps)(o:PotAt H a b f)
  (m:∀(i:Nat) (H':Hp) (N:VK),i<n->PotAt H' a b (f+c*i)->(∀r d,R r->PotAt d a b (f+c*i+c)->Off [a,b] H' d->N (.int r) d)->te (some (.int i)::caps) H' N)
  (hd:∀H' p (xs:qI),xs.length=n->(∀x∈xs,R x)->PotAt H' a b (f+c*n)->Off [a,b] H H'->H' p=none->Q (.ref p) (upd H' p (.lst (xs.map V.int)))):I0 src (B0 0) V0 te σ Q (Itr 0 n) H:=by
 refine a1p s k (λi ys H'=>Ex1 λ(xs:qI)=>An5 (ys=xs.map V.int) (xs.length=i) ((∀x∈xs,R x)) (PotAt H' a b (f+c*i)) (Off [a,b] H H')) ⟨[],rfl,rfl,(λ_ z=>nomatch z),o,Off.refl _ _⟩ (λi ys H' h=>by obtain⟨xs,e,g,_⟩:=h;rw[e,aj,g];exact ao _) ?_ ?_
 .rintro i ys H' hi ⟨xs,rfl,g,hR,hP',off⟩;refine m i H' _ hi hP' λr d t j l=>⟨xs++[r],by simp,by simp[g],λx u=>?_,?_,off.trans l⟩
  .rcases aA.mp u with q|q
   .exact hR x q
   .rw[aB.mp q];exact t
  .have:f+c*(i+1)=f+c*i+c:=by rw[Nat.mul_add,Nat.mul_one,d_]
   rw[this];exact j
 .rintro ys H' ⟨xs,rfl,g,hR,hP',off⟩ p hp;exact hd H' p xs g hR hP' off hp
def a1O{l:qA qE}(s:Off l H H')(hp:H p=none):Off l H (upd H' p o):=λb u a e=>by
 rw[A3 (A8 e hp)];exact s b u a e
def b3J(o:Off [a,b] H H')(c:PotAt H' a b n)(hp:H' p=none):H p=none:=by
 rcases e:H p with _|u
 .rfl
 .have:=o _ _ (X0 c hp) e;rw[hp]at this;cases this
def E6(h:Its H vs rss)(c:PotAt H a b n)(o:Off [a,b] H H'):Its H' vs rss:=⟨h.1,λi v e=>let ⟨r,e1,e2⟩:=h.2 i v e;⟨r,e1,IT.off e2 c o⟩⟩
end
def SD(H:Hp):Nat->V->V->Prop
 |0,_,_=>False
 |n+1,x,y=>(∃i,x=.int i/\y=.int i)∨∃a b xs ys,x=.ref a/\y=.ref b/\H a=some (.tup xs)/\H b=some (.tup ys)/\xs.length=ys.length/\xs.length<=1000/\∀(i:Nat) x' y',xs[i]?=some x'->ys[i]?=some y'->SD H n x' y'
def SD.same{H H':Hp}(s:Same H H'):∀{n:Nat}{x y:V},SD H n x y->SD H' n x y
 |0,_,_,h=>h
 |n+1,x,y,h=>by
  rcases h with h|⟨a,b,xs,ys,h1,h2,d,f,g,j,k⟩
  .exact .inl h
  .exact .inr ⟨a,b,xs,ys,h1,h2,s _ _ d,s _ _ f,g,j,λi l m e c=>SD.same s (k i l m e c)⟩
def SD.ints{y:V}(h:IT H x ns)(j:IT H y ns)(g:ns.length<=1000):SD H 2 x y:=by
 obtain⟨a,rfl,d⟩:=h;obtain⟨b,rfl,f⟩:=j;refine .inr ⟨a,b,_,_,rfl,rfl,d,f,rfl,by rw[aj];exact g,λi k l e c=>?_⟩;rw[e]at c;cases c;obtain⟨z,_,rfl⟩:=T8 e;exact .inl ⟨z,rfl,rfl⟩
section
variable {K:qF}
inductive IspSame(n:Nat)(vs:qA V)(H:Hp)(Q:VK)(E:XK):Prop
 |mk (x:_) (y:_) (_:vs=[x,y]) (_:SD H n x y) (_:∀H',Same H H'->Q (.bl true) H'):IspSame n vs H Q E
def a8b(n:Nat):Sp:=λvs H Q E=>IspSame n vs H Q E
def b6c{x:Str}{st:Stmt}{ps:qA Str}(F:FunAt K mg x st ps):Ok P w K mg base x k ps (λ_ _ _ _=>False):=by
 obtain⟨f,fd,h1,h2,a⟩:=F.ex;exact⟨f,fd,h1,h2.kp,a,⟨λ_ _ _ _ z=>z.elim,λ_ _ _ _ _ _ _ _ _ _ _ _ _ z=>z.elim⟩⟩
def a5z:FnScope ["_law_found","_law_due"] ["_law_found","_law_due"] (A1 S6):={}
def a9K(F:FunAt K mg "_law_same" S6 ["_law_found","_law_due"])(T:Tx mg):∀n:Nat,Ok P w K mg base "_law_same" (n+1) ["_law_found","_law_due"] (a8b n)
 |0=>(b6c F).imp λvs H Q E ⟨_,_,_,z,_⟩=>z
 |n+1=>by
  have c:=a9K F T n;refine F.okJ a5z (λvs H Q E h=>?_) (λm f A k s H vs Q E q h=>?_)
  .obtain⟨x,y,rfl,_⟩:=h;rfl
  .obtain⟨x,y,rfl,hS,kk⟩:=h;refine⟨_,(A2 (D4 (C9 K (C6 K rfl T.b_isinstance (jaC (jv 1) (jaC (X6 (v:=.ty "tuple") rfl T.b_tuple Q3 rfl) jaN))))
 (A2 (D4 (a1W (a3K (L6 (C9 K (C6 K rfl T.b_isinstance (jaC (jv 0) (jaC (X6 (v:=.ty "tuple") rfl T.b_tuple Q3 rfl) jaN))))) (a1V (b3U (E5 K rfl T.b_len (jaC (jv 0) jaN)) (E5 K rfl T.b_len (jaC (jv 1) jaN))))))
 (A4 (A9 M9))
 C2)
 (A4 (A9 (N0 K rfl T.b_all (jaC (B7 (N:=["_law_one","_law_other"]) (src:=[none,none]) (a0V K rfl T.b_zip (jaC (jv 0) (jaC (jv 1) jaN))) (by show C0 _ _=true;rfl) (by rfl) (by rfl)
 (λ_ _ _ _ _=>(L7 K 2 (B3 (A5 (i:=0) (L2.nd ["_law_one","_law_other"]) rfl (Or.inl rfl)) (B3 (A5 (i:=1) (L2.nd ["_law_one","_law_other"]) rfl (Or.inl rfl)) J0)))) (λ_ _ _ _ _=>C4) (λ_ _ _ _ _=>(A7 c (q.mono (by omega)) rfl (jaC (jv 0) (jaC (jv 1) jaN))))) jaN)))))
 C2)
 (A4 (A9 (a0N (C6 K rfl T.b_isinstance (jaC (jv 0) (jaC (X6 (v:=.ty "int") rfl T.b_int a8U rfl) jaN))) (a0N (b7B (C6 K rfl T.b_isinstance (jaC (jv 0) (jaC (X6 (v:=.ty "bool") rfl T.b_bool b0t rfl) jaN)))) (a1w (a7k (jv 0) (jv 1)))))))),?_⟩
   rcases hS with⟨i,rfl,rfl⟩|⟨a,b,xs,ys,rfl,rfl,d,g,o,l,hi⟩
   .refine⟨_,rfl,_,_,_,false,rfl,.int i,rfl,_,rfl,D0 ?_⟩;refine⟨_,rfl,_,_,_,true,rfl,.int i,rfl,_,rfl,G3 ?_⟩;refine⟨_,rfl,_,_,_,false,rfl,.int i,rfl,_,rfl,_,rfl,G3 ?_⟩;refine⟨_,rfl,_,rfl,rfl,?_⟩;rw[show decide (V.int i=V.int i)=true from bb rfl];exact kk H (Same.refl H)
   .refine⟨_,rfl,_,_,_,true,rfl,.tup g,rfl,_,rfl,G3 ?_⟩;refine⟨_,rfl,_,_,_,true,rfl,.tup d,rfl,_,rfl,D0 ?_⟩;refine⟨_,rfl,_,_,rfl,.inr (SqT.of d),_,rfl,_,_,rfl,.inr (SqT.of g),rfl,_,rfl,?_⟩;rw[show decide (V.int (xs.length:Int)=V.int (ys.length:Int))=true from bb (by rw[o])];refine D0 ?_;refine⟨_,rfl,_,rfl,true,true,a,b,rfl,⟨_,SqT.of d⟩,⟨_,SqT.of g⟩,?_⟩;have u:(1000:Nat)<=sizeLine:=by rw[a'];decide
    refine a0l (K:=K) (k1:=true) (k2:=true) (a:=a) (b:=b) (xs:=xs) (zs:=ys) (by omega) (λi zs H'=>Same H H'/\zs=List.replicate i (.bl true)) ⟨Same.refl H,rfl⟩
     (λi zs H' _ _ h=>⟨SqT.of (h.1 _ _ d),SqT.of (h.1 _ _ g),by rw[h.2,bw];exact ao _⟩) ?_ ?_
    .rintro i x z zs H' p hx hy ⟨s',rfl⟩ hp;have s2:Same H (upd H' p (.tup [x,z])):=s'.upd hp;refine⟨p,[x,z],rfl,SqT.of A0,rfl,x,[z],rfl,z,[],rfl,rfl,⟨rfl,λj v e=>?_⟩,?_⟩
     .match j,e with
      |0,e=>cases e
      |1,e=>cases e
     .refine⟨_,rfl,_,rfl,x,z,rfl,(hi i x z hx hy).same s2,λt r=>⟨s2.trans r,?_⟩⟩;rw[List.replicate_succ']
    .rintro zs H' ⟨s',rfl⟩ p hp;refine⟨false,p,_,rfl,SqL.of A0,?_,?_⟩
     .simp[a4Q]
     .rw[show(List.replicate (min xs.length ys.length) (V.bl true)).all trV=true by simp[trV]];exact kk _ (s'.upd hp)
def a2b(n:Nat)(v:V):(List.replicate n [v]).flatten=List.replicate n v:=by
 induction n with
 |zero=>rfl
 |succ n a=>rw[bU,cY,a,bU];rfl
inductive IspFree(vs:qA V)(H:Hp)(Q:VK)(E:XK):Prop
 |mk (n:Int) (_:vs=[.int n]) (_:0<=n) (_:n<=1000) (_:∀p H',Same H H'->H' p=some (.tup ((List.replicate n.toNat (none:qD Int)).map cV))->Q (.ref p) H'):IspFree  vs H Q E
def a8c:Sp:=λvs H Q E=>IspFree  vs H Q E
def b5o:FnScope ["width"] ["width"] (A1 a5E):={}
def b6i(F:FunAt K mg "free" a5E ["width"]):Ok P w K mg base "free" 1 ["width"] a8c:=by
 refine F.okJ b5o (λvs H Q E h=>?_) (λb f A a s H vs Q E d h=>?_)
 .obtain⟨n,rfl,_⟩:=h;rfl
 .obtain⟨n,rfl,h1,h2,k⟩:=h;refine⟨_,(A4 (A9 (b9j (T4 (jaC T5 jaN)) (jv 0)))),?_⟩;have g:(1000:Nat)<=sizeLine:=by rw[a'];decide
  refine⟨by show 1<=sizeLine;omega,λp c=>⟨_,rfl,p,[.non],n,rfl,rfl,A0,by simp,h1,?_,λq H' s e=>?_⟩⟩
  .show(1:Int)*n<=_;omega
  .rw[a2b]at e;exact k _ _ (((Same.refl H).upd c).trans s) (by rw[e,List.map_replicate];rfl)
end
def Lst(rss:LLI)(v:qI):Bool:=!(rss.any λu=>!decide (u=v) && Bel u v)
structure Srt(rss srt:LLI):Prop where
 ri:C8 srt
 nd:srt.Nodup
 mem:∀r,r∈srt↔r∈rss
def Srt.eq{a b:LLI}(h:Srt rss a)(g:Srt rss b):a=b:=Z9 h.ri g.ri h.nd g.nd λv=>(h.mem v).trans (g.mem v).symm
def b1r{a:LLI}(h:∀r,r∈rss↔r∈a)(v:qI):Lst rss v=Lst a v:=by
 unfold Lst;congr 1;rw[cz,bP,bP];exact⟨λ⟨u,b,e⟩=>⟨u,(h u).mp b,e⟩,λ⟨u,b,e⟩=>⟨u,(h u).mpr b,e⟩⟩
def b0s:∀{u v:qI},u.length=v.length->Bel u v=true->u≠v->HT.lexLt v u=false
 |[],[],_,_,ne=>absurd rfl ne
 |[],_::_,h,_,_=>by cases h
 |_::_,[],h,_,_=>by cases h
 |x::u,y::v,h,a,ne=>by
  unfold Bel at a;rw[a_,cW,aO]at a;have h1:x<=y:=bE a.1;by_cases e:x=y
  .subst e;have c:=b0s (u:=u) (v:=v) (by simpa using h) a.2 λz=>ne (by rw[z]);simp[HT.lexLt,c]
  .have:¬y<x:=by omega
   have b:¬y=x:=λz=>e z.symm;simp[HT.lexLt,this,b]
def a9y{α:Type}{m:qA α->Prop}(l:qA α)(nil:m [])(snoc:∀(l:qA α) (v:α),m l->m (l++[v])):m l:=by
 have:∀r:qA α,m r.reverse:=λr=>by
  induction r with
  |nil=>exact nil
  |cons x r a=>rw[eF];exact snoc _ x a
 have:=this l.reverse;rwa[List.reverse_reverse]at this
def LO(l:LLI):LLI:=l.foldl (λqN v=>if qN.any (λu=>Bel u v)then qN else qN++[v]) []
def a6f(l:LLI)(v:qI):LO (l++[v])=if (LO l).any (λu=>Bel u v)then LO l else LO l++[v]:=by
 unfold LO;rw[List.foldl_append];rfl
def b4L(v:qI):Bel v v=true:=(E1 rfl).mpr (Under.refl v)
def b2b{a b c:qI}(h1:a.length=b.length)(h2:b.length=c.length)(d:Bel a b=true)(e:Bel b c=true):Bel a c=true :=
 (E1 (h1.trans h2)).mpr (((E1 h1).mp d).trans ((E1 h2).mp e))
def b0x:∀(l:LLI),(∀r∈l,r.length=n)->(∀x∈LO l,x∈l)/\∀u∈l,∃x∈LO l,Bel x u=true:=by
 intro l;induction l using a9y with
 |nil=>intro _;exact⟨λ_ z=>z,λ_ z=>nomatch z⟩
 |snoc l v h =>
  intro f;obtain⟨c,d⟩:=h λr g=>f r (aK _ g);rw[a6f];cases e:(LO l).any (λu=>Bel u v)with
  |true =>
   rw[az rfl];refine⟨λx b=>aK _ (c x b),λu a=>?_⟩;rcases aA.mp a with z|z
   .exact d u z
   .rw[aB.mp z];exact bP.mp e
  |false =>
   rw[au (by decide)];refine⟨λx b=>?_,λu a=>?_⟩
   .rcases aA.mp b with z|z
    .exact aK _ (c x z)
    .exact aX _ z
   .rcases aA.mp a with z|z
    .obtain⟨x,h1,h2⟩:=d u z;exact⟨x,aK _ h1,h2⟩
    .rw[aB.mp z];exact⟨v,aX _ ar,b4L v⟩
def b2e(a:LLI)(f:∀r∈a,r.length=n)(m:C8 a)(nd:a.Nodup):∀(l rest:LLI),a=l++rest->LO l=l.filter (λv=>Lst a v):=by
 intro l;induction l using a9y with
 |nil=>intro _ _;rfl
 |snoc l v t =>
  intro rest e;have c:a=l++(v::rest):=by rw[e,aJ];rfl
  have k:v∈a:=by rw[c];simp
  have b:∀r∈l,r.length=n:=λr o=>f r (by rw[c];exact aK _ o);obtain⟨i,s⟩:=b0x l b;rw[a6f,List.filter_append,<-t _ c];have key:(LO l).any (λu=>Bel u v)=!Lst a v:=by
   rw[cz];unfold Lst;rw[Bool.not_not,bP,bP];constructor
   .rintro⟨u,hu,hb⟩;refine⟨u,by rw[c];exact aK _ (i u hu),?_⟩;have g:u≠v:=λz=>by
     rw[c]at nd;exact(eJ.mp nd).2.2 u (i u hu) v ar z
    rw[hb,bT g];rfl
   .rintro⟨u,hu,hb⟩;rw[aO,fF,decide_eq_false_iff_not]at hb;have d:u∈l:=by
     rw[c]at hu;rcases aA.mp hu with z|z
     .exact z
     .rcases aD.mp z with q|q
      .exact absurd q hb.1
      .exfalso;have h:HT.lexLt u v=false:=by
        rw[c]at m;have:=(bC.mp m).2.1;exact(cK.mp this).1 u q
       have h2:=b0s (by rw[f u (by rw[c];exact aX _ z),f v k]) hb.2 hb.1;exact hb.1 (O9 u v h h2)
    obtain⟨x,h1,h2⟩:=s u d;exact⟨x,h1,b2b (by rw[b x (i x h1),b u d]) (by rw[b u d,f v k]) h2 hb.2⟩
  rw[key];cases j:Lst a v with
  |true=>rw[au (by decide),List.filter_cons_of_pos (p:=λv=>Lst a v) j];rfl
  |false=>rw[az (by decide),List.filter_cons_of_neg (p:=λv=>Lst a v) (by rw[j];decide)];simp
section
variable {K:qF}
inductive IspAboveL(vs:qA V)(H:Hp)(Q:VK)(E:XK):Prop
 |mk (l:qE) (y:V) (fs:qA V) (fss:LLI) (ys:qI) (_:vs=[.ref l,y]) (_:H l=some (.lst fs)) (_:Its H fs fss) (_:IT H y ys) (_:(∀f∈fss,f.length<=1000)) (_:∀H',Same H H'->Q (.bl (fss.any λf=>Bel f ys)) H'):IspAboveL  vs H Q E
def a6G:Sp:=λvs H Q E=>IspAboveL  vs H Q E
inductive IspAboveT(vs:qA V)(H:Hp)(Q:VK)(E:XK):Prop
 |mk (l:qE) (y:V) (fs:qA V) (fss:LLI) (ys:qI) (_:vs=[.ref l,y]) (_:H l=some (.tup fs)) (_:Its H fs fss) (_:IT H y ys) (_:(∀f∈fss,f.length<=1000)) (_:∀H',Same H H'->Q (.bl (fss.any λf=>Bel f ys)) H'):IspAboveT  vs H Q E
def a3i:Sp:=λvs H Q E=>IspAboveT  vs H Q E
def sc_above_any:FnScope ["some","one","other"] ["some","one"] (A1 M8):={}
def a4q(F:FunAt K mg "above_any" M8 ["some","one"])(T:Tx mg)(b:Ok P w K mg base "below" 1 ["one","other"] a2N):Ok P w K mg base "above_any" 2 ["some","one"] a6G:=by
 refine F.okJ sc_above_any (λvs H Q E h=>?_) (λn f A j s H vs Q E c h=>?_)
 .obtain⟨l,y,fs,fss,ys,rfl,_⟩:=h;rfl
 .obtain⟨l,y,fs,fss,ys,rfl,hl,hI,hy,hL,k⟩:=h;refine⟨_,(A2 (J3 (K8 K (jv 0)) (A5 (i:=2) sc_above_any.nd rfl (Or.inl rfl))
 (A4 (D4 (C9 K (A7 b (c.mono (by omega)) rfl (jaC (jv 2) (jaC (jv 1) jaN))))
 (A4 (A9 M9))
 C2)))
 (A4 (A9 M9))),?_⟩
  refine⟨_,rfl,l,rfl,⟨_,SqL.of hl⟩,?_⟩;refine V3 (K:=K) (a:=l) (xs:=fs) (λi σ H'=>Ex1 λo=>An3 (σ=[some (.ref l),some y,o]) (Same H H') (((fss.take i).any λf=>Bel f ys)=false)) ⟨none,rfl,Same.refl H,rfl⟩ (λi σ H' _ h=>by obtain⟨_,_,s',_⟩:=h;exact SqL.of (s' _ _ hl)) ?_ ?_
  .rintro i x σ H' hx ⟨o,rfl,s',hB⟩;obtain⟨r,c,d,g⟩:=hI.mem hx;have m:((fss.take (i+1)).any λf=>Bel f ys)=Bel r ys:=by
    rw[bg,d,List.any_append,hB];simp
   dsimp only[B0];refine⟨_,rfl,_,rfl,x,y,r,ys,rfl,g.same s',hy.same s',hL r c,λH2 s2=>⟨_,rfl,?_⟩⟩;cases e:Bel r ys with
   |false =>
    rw[e]at m;exact D0 ⟨_,rfl,s'.trans s2,m⟩
   |true =>
    refine G3 ?_;have:=k H2 (s'.trans s2);rw[show(fss.any λf=>Bel f ys)=true from bP.mpr ⟨r,c,e⟩]at this;exact this
  .rintro σ H' ⟨o,rfl,s',hB⟩;rw[hI.1,br]at hB;have:=k H' s';rw[hB]at this;exact this
def a4p(F:FunAt K mg "above_any" M8 ["some","one"])(T:Tx mg)(b:Ok P w K mg base "below" 1 ["one","other"] a2N):Ok P w K mg base "above_any" 2 ["some","one"] a3i:=by
 refine F.okJ sc_above_any (λvs H Q E h=>?_) (λn f A j s H vs Q E c h=>?_)
 .obtain⟨l,y,fs,fss,ys,rfl,_⟩:=h;rfl
 .obtain⟨l,y,fs,fss,ys,rfl,hl,hI,hy,hL,k⟩:=h;refine⟨_,(A2 (J3 (E4 K (jv 0)) (A5 (i:=2) sc_above_any.nd rfl (Or.inl rfl))
 (A4 (D4 (C9 K (A7 b (c.mono (by omega)) rfl (jaC (jv 2) (jaC (jv 1) jaN))))
 (A4 (A9 M9))
 C2)))
 (A4 (A9 M9))),?_⟩
  refine⟨_,rfl,l,rfl,⟨_,SqT.of hl⟩,?_⟩;refine a2Y (K:=K) (a:=l) (xs:=fs) (λi σ H'=>Ex1 λo=>An3 (σ=[some (.ref l),some y,o]) (Same H H') (((fss.take i).any λf=>Bel f ys)=false)) ⟨none,rfl,Same.refl H,rfl⟩ (λi σ H' _ h=>by obtain⟨_,_,s',_⟩:=h;exact SqT.of (s' _ _ hl)) ?_ ?_
  .rintro i x σ H' hx ⟨o,rfl,s',hB⟩;obtain⟨r,c,d,g⟩:=hI.mem hx;have m:((fss.take (i+1)).any λf=>Bel f ys)=Bel r ys:=by
    rw[bg,d,List.any_append,hB];simp
   dsimp only[B0];refine⟨_,rfl,_,rfl,x,y,r,ys,rfl,g.same s',hy.same s',hL r c,λH2 s2=>⟨_,rfl,?_⟩⟩;cases e:Bel r ys with
   |false =>
    rw[e]at m;exact D0 ⟨_,rfl,s'.trans s2,m⟩
   |true =>
    refine G3 ?_;have:=k H2 (s'.trans s2);rw[show(fss.any λf=>Bel f ys)=true from bP.mpr ⟨r,c,e⟩]at this;exact this
  .rintro σ H' ⟨o,rfl,s',hB⟩;rw[hI.1,br]at hB;have:=k H' s';rw[hB]at this;exact this
inductive IspLeastOf(vs:qA V)(H:Hp)(Q:VK)(E:XK):Prop
 |mk (p:qE) (us:qA V) (rss:LLI) (n:Nat) (_:vs=[.ref p]) (_:H p=some (.tup us)) (_:Its H us rss) (_:us.length<=1000) (_:1<=n) (_:n<=1000) (_:(∀r∈rss,r.length=n)) (_:∀q zs srt H',Same H H'->Srt rss srt->H' q=some (.tup zs)->Its H' zs (srt.filter λv=>Lst rss v)->Q (.ref q) H'):IspLeastOf  vs H Q E
def a1K:Sp:=λvs H Q E=>IspLeastOf  vs H Q E
def sc_least_of:FnScope ["some","found","one"] ["some"] (A1 W4):={}
def a6T(F:FunAt K mg "least_of" W4 ["some"])(T:Tx mg)(c:Ok P w K mg base "above_any" 2 ["some","one"] a6G):Ok P w K mg base "least_of" 3 ["some"] a1K:=by
 refine F.okJ sc_least_of (λvs H Q E h=>?_) (λa6 f A a5 s H vs Q E m h=>?_)
 .obtain⟨p,us,rss,n,rfl,_⟩:=h;rfl
 .obtain⟨p,us,rss,n,rfl,hp,hI,hl,hn1,hn2,hR,k⟩:=h;have hu:=m.u60;have hz:(3000:Nat)<=sizeLine:=by rw[a'];decide
  refine⟨_,(A2 (B4 (i:=1) sc_least_of.nd rfl (Or.inl rfl) (T7 jaN))
 (A2 (J3 (K8 K (b3Y P w rfl T.b_sorted (jaC (b6t K P w hu rfl T.b_set (jaC (jv 0) jaN)) jaN))) (A5 (i:=2) sc_least_of.nd rfl (Or.inl rfl))
 (A4 (D4 (L6 (C9 K (A7 c (m.mono (by omega)) rfl (jaC (jv 1) (jaC (jv 2) jaN)))))
 (A4 (O6 (a0A K (jv 1) (jaC (jv 2) jaN))))
 C2)))
 (A4 (A9 (C7 K rfl T.b_tuple (jaC (jv 1) jaN)))))),?_⟩
  refine⟨bq _,λg M=>?_⟩;have s1:=(Same.refl H).upd (o:=.lst []) M;have V:upd H g (.lst []) g=some (.lst []):=A0;generalize upd H g (.lst [])=H1 at s1 V;dsimp only[B0];refine⟨_,rfl,true,p,us,rss,rfl,SqT.of (s1 _ _ hp),hI.same s1,hl,λa xs ha L j X=>?_⟩;have s2:=s1.upd (o:=a5u P w a xs) ha;have B:=(Same.refl H1).upd (o:=a5u P w a xs) ha;have U:upd H1 a (a5u P w a xs) a=some (a5u P w a xs):=A0;generalize upd H1 a (a5u P w a xs)=H2 at s2 B U;have a3:xs.length<=1000:=by
   have:=Tab.nodup_le (xs.map (·.1)) rss L λr m=>(j r).mp m;rw[aj,<-hI.1]at this;omega
  refine⟨a,xs,rfl,U,λx J=>(X x J).same B,λx J=>by rw[hR x.1 ((j x.1).mp (aM.mpr ⟨x,J,rfl⟩))];exact hn1,a3,λl zs b y d N a2=>?_⟩;have S:Srt rss b:=⟨a2,N.symm.nodup L,λr=>(N.mem_iff).trans (j r)⟩;have s3:=s2.upd (o:=.lst zs) y;have W:upd H2 l (.lst zs) l=some (.lst zs):=A0;have C:upd H2 l (.lst zs) g=some (.lst []):=U8 (B _ _ V) y;have d:=d.same ((Same.refl H2).upd (o:=.lst zs) y);have a4:l≠g:=(A8 (B _ _ V) y).symm;generalize upd H2 l (.lst zs)=H3 at s3 W C d;have I:∀r∈b,r.length=n:=λr m=>hR r ((S.mem r).mp m);have a8:zs.length<=1000:=by
   have:=Tab.nodup_le b rss S.nd λr m=>(S.mem r).mp m;rw[d.1];rw[<-hI.1]at this;omega
  have Z:H g=none:=M;refine⟨l,rfl,⟨_,SqL.of W⟩,?_⟩;refine V3 (K:=K) (a:=l) (xs:=zs) (λi σ H'=>Ex2 λo2 fs=>An5 (σ=[some (.ref p),some (.ref g),o2]) (Off [g] H3 H') (H' g=some (.lst fs)) (Its H' fs (LO (b.take i))) (fs.length<=i)) ⟨none,[],rfl,Off.refl _ _,C,.nil,ao _⟩ (λi σ H' _ h=>by obtain⟨_,_,_,o',_⟩:=h;exact SqL.of (o' _ _ (by simpa using a4) W)) ?_ ?_
  .rintro i x σ H' J ⟨o2,fs,rfl,off,D,hIf,hfl⟩;obtain⟨r,m,a0,a1⟩:=d.mem J;have a7:i<zs.length:=(aG.mp J).1;have O:IT H' x r:=by
    obtain⟨xa,rfl,R⟩:=a1;exact⟨xa,rfl,off _ _ (by simpa using K1 R C (by intro z;cases z)) R⟩
   have Y:∀f∈LO (b.take i),f.length<=1000:=λf D=>by
    have:=(b0x (n:=n) (b.take i) λr m=>I r (bD m)).1 f D;rw[I f (bD this)];exact hn2
   have t:LO (b.take (i+1))=if (LO (b.take i)).any (λu=>Bel u r)then LO (b.take i)else LO (b.take i)++[r]:=by
    rw[bg,a0];exact a6f _ _
   dsimp only[B0];refine⟨_,rfl,_,rfl,g,x,fs,_,r,rfl,D,hIf,O,Y,λH2 s2=>⟨_,rfl,?_⟩⟩;cases e:(LO (b.take i)).any (λu=>Bel u r)with
   |true =>
    rw[e,az rfl]at t;refine D0 ⟨_,fs,rfl,off.trans s2.off,s2 _ _ D,?_,by omega⟩;rw[t];exact hIf.same s2
   |false =>
    rw[e,au (by decide)]at t;have G:=s2 _ _ D;refine G3 ⟨_,rfl,.inl ⟨rfl,_,SqL.of G⟩,_,rfl,g,_,_,rfl,rfl,G,by omega,?_⟩;refine⟨_,fs++[x],rfl,(off.trans s2.off).set (by simp),A0,?_,by simp;omega⟩;rw[t];exact Its.put ((hIf.same s2).snoc (O.same s2)) G
  .rintro σ H' ⟨o2,fs,rfl,off,D,hIf,_⟩;rw[d.1,br]at hIf;refine⟨_,rfl,g,fs,rfl,.inl ⟨SqL.of D,λq hq=>?_⟩⟩;have s4:=(Same.refl H').upd (o:=.tup fs) hq;refine k q fs b _ ((a3n s3 Z off).trans s4) S A0 ?_;have e:=b2e (n:=n) b I S.ri S.nd b [] (by simp);rw[e]at hIf;have U:(b.filter λv=>Lst b v)=b.filter λv=>Lst rss v:=by
    congr 1;funext v;exact b1r S.mem v
   rw[U]at hIf;exact hIf.same s4
end
def Wk.inv1(h:Wk rss cs F W L k)(e:k=1):C8 L/\L.Nodup/\(∀v,v∈L↔v∈K9 cs)/\(F=L.filter λv=>Ans rss v)/\W=L:=by
 induction h with
 |one ri nd h=>exact⟨ri,nd,h,rfl,rfl⟩
 |more h _ _ _ _ _=>have:=h.lv.2.2.2.2.2.1;omega
def Wk.inv2{d:Nat}(h:Wk rss cs F W L d):∀k,d=k+1->1<=k->∃a c b,Wk rss cs a c b k/\b≠[]/\C8 L/\L.Nodup/\(∀v,v∈L↔∃u∈b,a0Z rss cs a u v)/\(F=a++L.filter λv=>Ans rss v)/\W=c++L:=by
 cases h with
 |one ri nd h=>intro k e f;omega
 |more h ne ri nd g =>
  intro k e f;obtain rfl:_=k:=fq e;exact⟨_,_,_,h,ne,ri,nd,g,rfl,rfl⟩
def Wk.det{rss:LLI}{cs:qA (qD Int)}:∀(k:Nat) {F W L b c a:LLI},Wk rss cs F W L k->Wk rss cs b c a k->F=b/\W=c/\L=a
 |0,_,_,_,_,_,_,h,_=>by have:=h.lv.2.2.2.2.2.1;omega
 |1,F,W,L,b,c,a,h,g=>by
  obtain⟨a1,d,e,f,i⟩:=h.inv1 rfl;obtain⟨j,l,m,n,o⟩:=g.inv1 rfl;have:L=a:=Z9 a1 j d l λv=>(e v).trans (m v).symm;subst this;exact⟨f.trans n.symm,i.trans o.symm,rfl⟩
 |k+2,F,W,L,b,c,a,h,g=>by
  obtain⟨q,u,s,a0,_,a1,d,e,f,i⟩:=h.inv2 (k+1) rfl (by omega);obtain⟨r,w,t,p,_,j,l,m,n,o⟩:=g.inv2 (k+1) rfl (by omega);obtain⟨rfl,rfl,rfl⟩:=Wk.det (k+1) a0 p;have:L=a:=Z9 a1 j d l λv=>(e v).trans (m v).symm;subst this;exact⟨f.trans n.symm,i.trans o.symm,rfl⟩
def Wk.back(h:Wk rss cs F W L k):∀st,1<=st->st<=k->∃a c b G R,Wk rss cs a c b st/\W=c++R/\F=a++G/\(∀v∈G,(st:Int)<v.sum)/\(st<k->b≠[]):=by
 induction h with
 |@one L ri nd h =>
  intro st h1 h2;have:st=1:=by omega
  subst this;exact⟨_,_,_,[],[],.one ri nd h,by simp,by simp,(λ_ z=>nomatch z),λz=>by omega⟩
 |@more F W L L' k h ne ri nd d i =>
  intro st h1 h2;by_cases e:st=k+1
  .subst e;exact⟨_,_,_,[],[],.more h ne ri nd d,by simp,by simp,(λ_ z=>nomatch z),λz=>by omega⟩
  .obtain⟨a,c,b,G,R,g1,g2,g3,g4,g5⟩:=i st h1 (by omega);refine⟨a,c,b,G++L'.filter (λv=>Ans rss v),R++L',g1,by rw[g2,aJ],by rw[g3,aJ],λv g=>?_,λ_=>?_⟩
   .rcases aA.mp g with z|z
    .exact g4 v z
    .obtain⟨u,hu,hx⟩:=(d v).mp (aP.mp z).1;have:=(a9L (h.lv.1 u hu) hx).sum;rw[this];omega
   .by_cases e2:st=k
    .subst e2;obtain⟨_,_,f⟩:=Wk.det _ h g1;rw[<-f];exact ne
    .exact g5 (by omega)
def Wk.stop{a c b:LLI}{st:Nat}(h:Wk rss cs F W [] k)(g:Wk rss cs a c b st):st<=k:=by
 refine bN λl=>?_;obtain⟨i,j,L2,G,R,d,_,_,_,f⟩:=g.back k h.lv.2.2.2.2.2.1 (by omega);obtain⟨_,_,e⟩:=Wk.det _ h d;exact f (by omega) e.symm
def b9R{b a c:LLI}{st:Nat}(h:Wk rss cs F W [] k)(g:Wk rss cs b a c st):a.length<=W.length:=by
 obtain⟨i,j,L2,G,R,d,f,_,_,_⟩:=h.back st g.lv.2.2.2.2.2.1 (h.stop g);obtain⟨_,e,_⟩:=Wk.det _ d g;rw[f,e,ax];omega
def b7y{α:Type}[DecidableEq α]:∀(a b:qA α),a.Nodup->(∀x∈a,x∈b)->a.length<=b.length
 |[],b,_,_=>bq _
 |x::a,b,e,h=>by
  obtain⟨h1,h2⟩:=cq.mp e;have c:=h x ar;have:=b7y a (b.erase x) h2 λy d=>(List.mem_erase_of_ne (λz:y=x=>h1 (z ▸ d))).mpr (h y (aq _ d));rw[List.length_erase_of_mem c]at this;have:=List.length_pos_of_mem c;rw[aT];omega
def b1l{most:Int}(h:Wk rss cs F W [] k)(B:(W.length:Int)<=most):¬a7J rss cs most:=by
 rintro⟨r,w,u,st,g,n⟩;have l:=b9R h g;rcases n with q|⟨ne,b,nd,m,q⟩
 .omega
 .have hst:=h.stop g;have a:st<k:=by
   rcases Nat.lt_or_ge st k with z|z
   .exact z
   .have e:st=k:=Nat.le_antisymm hst z;subst e;obtain⟨_,_,e⟩:=Wk.det _ g h;exact absurd e ne
  obtain⟨s,x,L2,G,R,i,j,_,_,_⟩:=h.back (st+1) (by omega) a;obtain⟨p,c,t,a0,_,_,_,d,_,f⟩:=i.inv2 st rfl g.lv.2.2.2.2.2.1;obtain⟨rfl,rfl,rfl⟩:=Wk.det _ a0 g;have y:b.length<=L2.length:=b7y b L2 nd λv o=>(d v).mpr (m v o);have A:W.length=c.length+L2.length+R.length:=by rw[j,f,ax,ax]
  omega
end K38
namespace K38
open PySem PySem.Spec PyProof.Rows L2
variable {H:Hp}{cs:qA (qD Int)}{rss:LLI}
structure Pap(rss:LLI)(cs:qA (qD Int))(F W L:LLI):Prop where
 wi:∀v∈W,Wi cs v=true
 fst:∀u∈K9 cs,u∈W
 an:∀v∈W,Ans rss v=true->v∈F
 nx:∀v∈W,v∉L->∀j∈StP rss cs v,bump v j∈W∨∃f∈F,Bel f (bump v j)=true
def Wk.pap{F W L:LLI}{k:Nat}(hR:∀r∈rss,r.length=cs.length)(h:Wk rss cs F W L k):Pap rss cs F W L:=by
 induction h with
 |@one L ri nd h=>exact⟨(Wk.one ri nd h).ok hR |>.wi,λu i=>(h u).mpr i,λv a e=>aP.mpr ⟨a,e⟩,λv a g=>absurd a g⟩
 |@more F W L L' k h ne ri nd m c =>
  have o:=(Wk.more h ne ri nd m).ok hR;refine⟨λv a=>?_,λu i=>aK _ (c.fst u i),λv a e=>?_,λv a g j l=>?_⟩
  .rcases aA.mp a with z|z
   .exact c.wi v z
   .exact o.wi v z
  .rcases aA.mp a with z|z
   .exact aK _ (c.an v z e)
   .exact aX _ (aP.mpr ⟨z,e⟩)
  .have hvW:v∈W:=(aA.mp a).resolve_right g;by_cases hL:v∈L
   .cases e:Bar F (bump v j) j with
    |true =>
     unfold Bar at e;obtain⟨f,d,b⟩:=bP.mp e;rw[aO]at b;exact .inr ⟨f,aK _ d,b.2⟩
    |false=>exact .inl (aX _ ((m _).mpr ⟨v,hL,j,l,rfl,e⟩))
   .rcases c.nx v hvW hL j l with z|⟨f,d,hb⟩
    .exact .inl (aK _ z)
    .exact .inr ⟨f,aK _ d,hb⟩
def a1I(n:Nat)(v:qI):Bool:=decide (v.length=n) && v.all λx=>decide (0<=x)
def a8K(cs:qA (qD Int))(v:qI):Bool:=(v.any λx=>!decide (x=0)) && Wi cs v
def a0b(tss mss:LLI)(v:qI):Bool:=decide (v∈mss) || tss.any λt=>Bel t v
def goI(rss:LLI)(cs:qA (qD Int))(tss mss:LLI)(v:qI):Bool:=(tss.any λt=>Bel t v) || (!Ans rss v && (StP rss cs v).all λj=>a0b tss mss (bump v j))
structure Anti(rss tss:LLI):Prop where
 ri:C8 tss
 nd:tss.Nodup
 lst:∀v∈tss,Lst tss v=true
 ans:∀v∈tss,Ans rss v=true
def a0X{α:Type}(l:qA α)(f:α->Bool):(l.map λx=>V.bl (f x)).all trV=l.all f:=by rw[List.all_map];rfl
def X9{α:Type}(l:qA α)(f:α->Bool):(l.map λx=>V.bl (f x)).all a4Q=true:=by
 rw[aS];intro v a;obtain⟨_,_,rfl⟩:=aM.mp a;rfl
def b1E(l:qI):(l.map V.int).all a4Q=true:=by
 rw[aS];intro v a;obtain⟨_,_,rfl⟩:=aM.mp a;rfl
def b9J(l:qI):(l.map V.int).any trV=l.any λx=>!decide (x=0):=by
 rw[List.any_map];rfl
section
variable {P:qG}{w:World}{K:qF}{mg:Str->qD qB}{base:Heap}
inductive IspNumI(vs:qA V)(H:Hp)(Q:VK)(E:XK):Prop
 |mk (z:Int) (_:vs=[.int z]) (_:Q (.bl (decide (0<=z))) H):IspNumI  vs H Q E
def b2y:Sp:=λvs H Q E=>IspNumI  vs H Q E
def a5w:FnScope ["value"] ["value"] (A1 R1):={}
def a4o(F:FunAt K mg "is_number" R1 ["value"])(T:Tx mg):Ok P w K mg base "is_number" 1 ["value"] b2y:=by
 refine F.okJ a5w (λvs H Q E h=>?_) (λb f A a s H vs Q E c h=>?_)
 .obtain⟨z,rfl,_⟩:=h;rfl
 .obtain⟨z,rfl,k⟩:=h;refine⟨_,(A4 (A9 (a0N (C6 K rfl T.b_isinstance (jaC (jv 0) (jaC (X6 (v:=.ty "int") rfl T.b_int a8U rfl) jaN))) (a0N (b7B (C6 K rfl T.b_isinstance (jaC (jv 0) (jaC (X6 (v:=.ty "bool") rfl T.b_bool b0t rfl) jaN)))) (a1w (c0C (jv 0) A6)))))),?_⟩;refine⟨_,rfl,.int z,"int",_,true,rfl,.int z,by with_unfolding_all rfl,true,rfl,G3 ?_⟩;refine⟨_,rfl,.int z,"bool",_,false,rfl,.int z,by with_unfolding_all rfl,false,rfl,_,rfl,G3 ?_⟩;exact⟨_,rfl,_,_,rfl,rfl,k⟩
inductive IspVecI(vs:qA V)(H:Hp)(Q:VK)(E:XK):Prop
 |mk (y:V) (xs:qI) (n:Nat) (wi:Int) (_:vs=[y,.int wi]) (_:wi=n) (_:IT H y xs) (_:xs.length<=1000) (_:∀H',Same H H'->Q (.bl (a1I n xs)) H'):IspVecI  vs H Q E
def b2w:Sp:=λvs H Q E=>IspVecI  vs H Q E
def a5v:FnScope ["value","width"] ["value","width"] (A1 R0):={}
def a4n(F:FunAt K mg "is_vector" R0 ["value","width"])(T:Tx mg)(b:Ok P w K mg base "is_number" 1 ["value"] b2y):Ok P w K mg base "is_vector" 2 ["value","width"] b2w:=by
 refine F.okJ a5v (λvs H Q E h=>?_) (λd f A c s H vs Q E j h=>?_)
 .obtain⟨y,xs,n,wi,rfl,_⟩:=h;rfl
 .obtain⟨_,xs,n,_,rfl,rfl,⟨a,rfl,ha⟩,hl,k⟩:=h;refine⟨_,(A4 (A9 (a0N (C6 K rfl T.b_isinstance (jaC (jv 0) (jaC (X6 (v:=.ty "tuple") rfl T.b_tuple Q3 rfl) jaN))) (a0N (a7k (E5 K rfl T.b_len (jaC (jv 0) jaN)) (jv 1)) (a1w (N0 K rfl T.b_all (jaC (B7 (N:=["part"]) (src:=[none]) (E4 K (jv 0)) (by show C0 _ _=true;rfl) (by rfl) (by rfl)
 (λ_ _ _ _ _=>(A5 (i:=0) (L2.nd ["part"]) rfl (Or.inl rfl))) (λ_ _ _ _ _=>C4) (λ_ _ _ _ _=>(A7 b (j.mono (by omega)) rfl (jaC (jv 0) jaN)))) jaN))))))),?_⟩
  refine⟨_,rfl,.ref a,"tuple",_,true,rfl,.tup ha,by with_unfolding_all rfl,true,rfl,G3 ?_⟩;refine⟨_,rfl,a,_,rfl,.inr (SqT.of ha),_,rfl,rfl,_,rfl,?_⟩;by_cases e:xs.length=n
  .rw[show decide (V.int ((xs.map V.int).length:Int)=V.int (n:Int))=true by rw[aj,e];simp];refine G3 ⟨_,rfl,a,rfl,⟨_,SqT.of ha⟩,?_⟩;refine a1f (caps:=[]) (λx=>V.bl (decide (0<=x))) hl (λH' s=>SqT.of (s _ _ ha)) rfl (λx H2 l _ _ q=>⟨_,rfl,x,rfl,q⟩) λH2 p s2 g=>?_;refine⟨false,p,_,rfl,SqL.of A0,X9 _ _,?_⟩;rw[a0X];have:=k _ (s2.upd (o:=.lst (xs.map λx=>V.bl (decide (0<=x)))) g);unfold a1I at this;rw[bb e,Bool.true_and]at this;exact this
  .rw[show decide (V.int ((xs.map V.int).length:Int)=V.int (n:Int))=false by rw[aj,decide_eq_false_iff_not];intro z;injection z with z;exact e (by omega)];refine D0 ?_;have:=k H (Same.refl H);unfold a1I at this;rw[bT e,Bool.false_and]at this;exact this
inductive IspVecsI(vs:qA V)(H:Hp)(Q:VK)(E:XK):Prop
 |mk (a:qE) (us:qA V) (rss:LLI) (n:Nat) (wi:Int) (_:vs=[.ref a,.int wi]) (_:wi=n) (_:H a=some (.tup us)) (_:Its H us rss) (_:us.length<=100000) (_:(∀r∈rss,r.length<=1000)) (_:∀H',Same H H'->Q (.bl (rss.all (a1I n))) H'):IspVecsI  vs H Q E
def a9p:Sp:=λvs H Q E=>IspVecsI  vs H Q E
def a3k:FnScope ["value","width"] ["value","width"] (A1 M0):={}
def a2z(F:FunAt K mg "are_vectors" M0 ["value","width"])(T:Tx mg)(b:Ok P w K mg base "is_vector" 2 ["value","width"] b2w):Ok P w K mg base "are_vectors" 3 ["value","width"] a9p:=by
 refine F.okJ a3k (λvs H Q E h=>?_) (λe f A d s H vs Q E c h=>?_)
 .obtain⟨a,us,rss,n,wi,rfl,_⟩:=h;rfl
 .obtain⟨a,us,rss,n,_,rfl,rfl,ha,hI,hl,hw,k⟩:=h;have m:(300000:Nat)<=sizeLine:=by rw[a'];decide
  refine⟨_,(A4 (A9 (a0N (C6 K rfl T.b_isinstance (jaC (jv 0) (jaC (X6 (v:=.ty "tuple") rfl T.b_tuple Q3 rfl) jaN))) (a1w (N0 K rfl T.b_all (jaC (B7 (N:=["part","width"]) (src:=[none,some 1]) (E4 K (jv 0)) (by show C0 _ _=true;rfl) (by rfl) (by rfl)
 (λ_ _ _ _ _=>(A5 (i:=0) (L2.nd ["part","width"]) rfl (Or.inl rfl))) (λ_ _ _ _ _=>C4) (λ_ _ _ _ _=>(A7 b (c.mono (by omega)) rfl (jaC (jv 0) (jaC (jv 1) jaN))))) jaN)))))),?_⟩
  refine⟨_,rfl,.ref a,"tuple",_,true,rfl,.tup ha,by with_unfolding_all rfl,true,rfl,G3 ?_⟩;refine⟨_,rfl,a,rfl,⟨_,SqT.of ha⟩,?_⟩;refine a1e (caps:=[some (.int n)]) (λr=>V.bl (a1I n r)) (by omega) (λH' s=>SqT.of (s _ _ ha)) hI rfl (λv r H1 l c j s1 q=>?_) λH1 p s1 g=>?_
  .exact⟨_,rfl,_,rfl,v,r,n,_,rfl,rfl,j,hw r c,q⟩
  .refine⟨false,p,_,rfl,SqL.of A0,X9 _ _,?_⟩;rw[a0X];exact k _ (s1.upd g)
inductive IspAllFit(vs:qA V)(H:Hp)(Q:VK)(E:XK):Prop
 |mk (c a:qE) (us:qA V) (rss:LLI) (cs:qA (qD Int)) (_:vs=[.ref c,.ref a]) (_:H c=some (.tup (cs.map cV))) (_:cs.length<=1000) (_:H a=some (.tup us)) (_:Its H us rss) (_:us.length<=200000) (_:∀H',Same H H'->Q (.bl (rss.all (a8K cs))) H'):IspAllFit  vs H Q E
def a6F:Sp:=λvs H Q E=>IspAllFit  vs H Q E
def a8j:FnScope ["caps","some"] ["caps","some"] (A1 a0w):={}
def a8u(F:FunAt K mg "all_fit" a0w ["caps","some"])(T:Tx mg)(b:Ok P w K mg base "within" 1 ["caps","one"] a3f):Ok P w K mg base "all_fit" 2 ["caps","some"] a6F:=by
 refine F.okJ a8j (λvs H Q E h=>?_) (λj f A d s H vs Q E g h=>?_)
 .obtain⟨c,a,us,rss,cs,rfl,_⟩:=h;rfl
 .obtain⟨c,a,us,rss,cs,rfl,hc,hcl,ha,hI,hl,k⟩:=h;have o:(300000:Nat)<=sizeLine:=by rw[a'];decide
  refine⟨_,(A4 (A9 (N0 K rfl T.b_all (jaC (B7 (N:=["one","caps"]) (src:=[none,some 0]) (E4 K (jv 1)) (by show C0 _ _=true;rfl) (by rfl) (by rfl)
 (λ_ _ _ _ _=>(A5 (i:=0) (L2.nd ["one","caps"]) rfl (Or.inl rfl))) (λ_ _ _ _ _=>C4) (λ_ _ _ _ _=>(a0N (b4b K rfl T.b_any (jaC (jv 0) jaN)) (a1w (A7 b (g.mono (by omega)) rfl (jaC (jv 1) (jaC (jv 0) jaN))))))) jaN)))),?_⟩
  refine⟨_,rfl,a,rfl,⟨_,SqT.of ha⟩,?_⟩;refine a1e (caps:=[some (.ref c)]) (λr=>V.bl (a8K cs r)) (by omega) (λH' s=>SqT.of (s _ _ ha)) hI rfl (λv r H1 n g m s1 q=>?_) λH1 p s1 l=>?_
  .obtain⟨va,rfl,hva⟩:=id m;refine⟨_,rfl,true,va,_,rfl,SqT.of hva,b1E _,_,rfl,?_⟩;rw[b9J];unfold a8K at q;cases e:r.any λx=>!decide (x=0)with
   |false =>
    rw[e,Bool.false_and]at q;exact D0 (q _ (Same.refl _))
   |true =>
    rw[e,Bool.true_and]at q;exact G3 ⟨_,rfl,_,rfl,c,va,cs,r,rfl,s1 _ _ hc,hva,hcl,q⟩
  .refine⟨false,p,_,rfl,SqL.of A0,X9 _ _,?_⟩;rw[a0X];exact k _ (s1.upd l)
end
def b5D{K:qF}{src:qA (qJ)}{σ caps:L2.St}{Q:VK}{a:qE}{ps:qA V}{f:Nat->qI}{d:qA Nat}{te:TE}(g:Nat->Bool)(t:ps.length<=1000)(o:H a=some (.lst ps))(n:Prs H ps f d)(c:B5 src σ=none::none::caps)
  (l:∀(j:Nat) v H1 Q1,j∈d->IT H1 v (f j)->Same H H1->(∀H2,Same H1 H2->Q1 (.bl (g j)) H2)->te (some (.int j)::some v::caps) H1 Q1)
  (hd:∀H1 p,Same H H1->H1 p=none->Q (.ref p) (upd H1 p (.lst (d.map λj=>V.bl (g j))))) :
  I0 src (a7q K 2 (Y9 (B0 0) (Y9 (B0 1) a8I))) V0 te σ Q (Itl K a) H:=by
 have w:(3000:Nat)<=sizeLine:=by rw[a'];decide
 refine a0E (xs:=ps) (by omega) (λi ys H'=>Same H H'/\ys=(d.take i).map λj=>V.bl (g j)) ⟨Same.refl H,by simp⟩ (λi ys H' _ h=>⟨SqL.of (h.1 _ _ o),by rw[h.2,aj];exact bL _ _⟩) ?_ ?_
 .rintro i x ys H' hx ⟨s,rfl⟩;obtain⟨j,b,v,m,rfl,q,r⟩:=n.2 i x hx;refine⟨b,[.int j,v],rfl,SqT.of (s _ _ q),rfl,.int j,[v],rfl,v,[],rfl,rfl,?_⟩;rw[c];show Sub _ (some (.int j)::some v::caps)/\_;refine⟨⟨rfl,λk u e=>?_⟩,?_⟩
  .match k,e with
   |0,e=>cases e
   |1,e=>cases e
   |k+2,e=>exact e
  .refine l j v H' _ (aH m) (r.same s) s λH2 s2=>⟨s.trans s2,?_⟩;rw[bg,m,cu];rfl
 .rintro ys H' ⟨s,rfl⟩ p hp;rw[n.1,br];exact hd H' p s hp
def b5t{H':Hp}{d:qE}{o:HO}(h:Rd H d o)(s:Same H H'):Rd H' d o:=by
 rcases h with h|⟨a,h⟩
 .exact .inl (s _ _ h)
 .exact .inr ⟨a,s _ _ h⟩
def DGet.rd{a b:qE}{qL:qA (qA Key×V)}{k:qA Key}(e:Rd H a (.dT qL))(c:H b=some (.tup (k.map kV))):DGet H a (.ref b) (G2 qL k):=.inr ⟨qL,k,b,e,rfl,c,rfl⟩
section
variable {P:qG}{w:World}{K:qF}{mg:Str->qD qB}{base:Heap}
inductive IspAreLeast(vs:qA V)(H:Hp)(Q:VK)(E:XK):Prop
 |mk (ra t:qE) (us zs:qA V) (rss tss:LLI) (n:Nat) (_:vs=[.ref ra,.ref t]) (_:H ra=some (.tup us)) (_:Its H us rss) (_:us.length<=1000) (_:(∀r∈rss,r.length<=1000)) (_:H t=some (.tup zs)) (_:Its H zs tss) (_:zs.length<=1000) (_:1<=n) (_:n<=1000) (_:(∀v∈tss,v.length=n/\Sm v)) (_:∀b H',Same H H'->(b=true↔Anti rss tss)->Q (.bl b) H'):IspAreLeast  vs H Q E
def a3h:Sp:=λvs H Q E=>IspAreLeast  vs H Q E
def a5y:FnScope ["rows","told"] ["rows","told"] (A1 R9):={}
def a5K(F:FunAt K mg "are_least" R9 ["rows","told"])(T:Tx mg)(b:Ok P w K mg base "least_of" 3 ["some"] a1K)(a:Ok P w K mg base "is_answer" 3 ["rows","one"] a2L):Ok P w K mg base "are_least" 4 ["rows","told"] a3h:=by
 refine F.okJ a5y (λvs H Q E h=>?_) (λo f A m s H vs Q E d h=>?_)
 .obtain⟨ra,t,us,zs,rss,tss,n,rfl,_⟩:=h;rfl
 .obtain⟨ra,t,us,zs,rss,tss,n,rfl,hra,hI,hul,hRl,ht,hJ,hzl,n1,n2,hT,k⟩:=h;have G:(3000:Nat)<=sizeLine:=by rw[a'];decide
  have B:=d.u60;refine⟨_,(A4 (A9 (a0N (b9d K B (A7 b (d.mono (by omega)) rfl (jaC (jv 1) jaN)) (jv 1)) (a1w (N0 K rfl T.b_all (jaC (B7 (N:=["one","rows"]) (src:=[none,some 0]) (E4 K (jv 1)) (by show C0 _ _=true;rfl) (by rfl) (by rfl)
 (λ_ _ _ _ _=>(A5 (i:=0) (L2.nd ["one","rows"]) rfl (Or.inl rfl))) (λ_ _ _ _ _=>C4) (λ_ _ _ _ _=>(A7 a (d.mono (by omega)) rfl (jaC (jv 1) (jaC (jv 0) jaN))))) jaN)))))),?_⟩
  refine⟨_,rfl,t,zs,tss,n,rfl,ht,hJ,hzl,n1,n2,λr d=>(hT r d).1,λq I g H1 s1 S y j=>?_⟩;have u:C8 tss->tss.Nodup->g=tss:=λh1 h2=>S.eq ⟨h1,h2,λ_=>Iff.rfl⟩;refine⟨_,rfl,2,_,by decide,EqV.its (k:=true) (SqT.of y) (SqT.of (s1 _ _ ht)) j (hJ.same s1),⟨_,_,rfl,rfl⟩,_,rfl,?_⟩;by_cases e:(g.filter λv=>Lst tss v)=tss
  .rw[bb e];refine G3 ⟨_,rfl,t,rfl,⟨_,SqT.of (s1 _ _ ht)⟩,?_⟩;refine a1e (caps:=[some (.ref ra)]) (λr=>V.bl (Ans rss r)) (by omega) (λH' s=>SqT.of (s _ _ (s1 _ _ ht))) (hJ.same s1) rfl (λv r H2 D l c s2 C=>?_) λH2 p s2 x=>?_
   .have s12:=s1.trans s2;exact⟨_,rfl,_,rfl,ra,v,us,rss,r,rfl,s12 _ _ hra,hI.same s12,c,hul,hRl,(hT r l).2,C⟩
   .refine⟨false,p,_,rfl,SqL.of A0,X9 _ _,?_⟩;rw[a0X];refine k _ _ (s1.trans (s2.upd x)) ?_;rw[aS];refine⟨λh=>⟨?_,?_,λv c=>?_,h⟩,λh=>h.ans⟩
    .rw[<-e];exact List.Pairwise.filter _ S.ri
    .rw[<-e];exact S.nd.filter _
    .rw[<-e]at c;exact(aP.mp c).2
  .rw[bT e];refine D0 (k _ _ s1 ⟨(λz=>nomatch z),λh=>absurd ?_ e⟩);rw[u h.ri h.nd];exact List.filter_eq_self.mpr λv c=>h.lst v c
inductive IspMet(vs:qA V)(H:Hp)(Q:VK)(E:XK):Prop
 |mk (t d:qE) (y:V) (zs:qA V) (tss:LLI) (qL:qA (qA Key×V)) (mss:LLI) (ys:qI) (_:vs=[.ref t,.ref d,y]) (_:H t=some (.tup zs)) (_:Its H zs tss) (_:Rd H d (.dT qL)) (_:qL.map (·.1)=IK mss) (_:IT H y ys) (_:(∀f∈tss,f.length<=1000)) (_:∀H',Same H H'->Q (.bl (a0b tss mss ys)) H'):IspMet  vs H Q E
def b2A:Sp:=λvs H Q E=>IspMet  vs H Q E
def b0R:FnScope ["told","listed","one"] ["told","listed","one"] (A1 a1n):={}
def b1j(F:FunAt K mg "is_met" a1n ["told","listed","one"])(T:Tx mg)(a:Ok P w K mg base "above_any" 2 ["some","one"] a3i):Ok P w K mg base "is_met" 3 ["told","listed","one"] b2A:=by
 refine F.okJ b0R (λvs H Q E h=>?_) (λg f A c s H vs Q E e h=>?_)
 .obtain⟨t,d,y,zs,tss,qL,mss,ys,rfl,_⟩:=h;rfl
 .obtain⟨t,d,_,zs,tss,qL,mss,ys,rfl,ht,hI,hd,hk,⟨y,rfl,hy⟩,hL,k⟩:=h;have i:=e.u60;refine⟨_,(A4 (A9 (c0F (b9e i (jv 2) (jv 1) (by with_unfolding_all rfl)) (a1w (A7 a (e.mono (by omega)) rfl (jaC (jv 0) (jaC (jv 2) jaN))))))),?_⟩;refine⟨_,rfl,_,rfl,d,_,rfl,DGet.rd hd (by rw[a8y];exact hy),_,rfl,?_⟩;rw[a7h hk];unfold a0b at k;by_cases b:ys∈mss
  .rw[bb b]at k⊢;exact G3 (k _ (Same.refl _))
  .rw[bT b,eY]at k;rw[bT b];exact D0 ⟨_,rfl,_,rfl,t,_,zs,tss,ys,rfl,ht,hI,⟨y,rfl,hy⟩,hL,k⟩
structure Ps(H:Hp)(ra c t d:qE)(us zs:qA V)(qL:qA (qA Key×V))(rss tss mss:LLI)(cs:qA (qD Int)):Prop where
 r:H ra=some (.tup us)
 I:Its H us rss
 c:H c=some (.tup (cs.map cV))
 t:H t=some (.tup zs)
 J:Its H zs tss
 d:Rd H d (.dT qL)
def Ps.same{H H':Hp}{ra c t d:qE}{us zs:qA V}{qL:qA (qA Key×V)}{rss tss a:LLI}{cs:qA (qD Int)}(h:Ps H ra c t d us zs qL rss tss a cs)(s:Same H H'):Ps H' ra c t d us zs qL rss tss a cs:=⟨s _ _ h.r,h.I.same s,s _ _ h.c,s _ _ h.t,h.J.same s,b5t h.d s⟩
structure Pk(us:qA V)(qL:qA (qA Key×V))(rss tss mss:LLI)(cs:qA (qD Int)):Prop where
 ul:us.length<=1000
 R:Rs cs.length rss
 n1:1<=cs.length
 n2:cs.length<=100
 k:qL.map (·.1)=IK mss
 T:∀v∈tss,v.length=cs.length
 M:∀v∈mss,v.length=cs.length/\Sm v
inductive IspGoes(vs:qA V)(H:Hp)(Q:VK)(E:XK):Prop
 |mk (ra c t d:qE) (y:V) (us zs:qA V) (qL:qA (qA Key×V)) (rss tss mss:LLI) (cs:qA (qD Int)) (ys:qI) (_:vs=[.ref ra,.ref c,.ref t,.ref d,y]) (_:Ps H ra c t d us zs qL rss tss mss cs) (_:Pk us qL rss tss mss cs) (_:IT H y ys) (_:ys∈mss) (_:∀H',Same H H'->Q (.bl (goI rss cs tss mss ys)) H'):IspGoes  vs H Q E
def b2D:Sp:=λvs H Q E=>IspGoes  vs H Q E
def a8i:FnScope ["rows","caps","told","listed","one"] ["rows","caps","told","listed","one"] (A1 a0u):={}
def a8s(F:FunAt K mg "goes_on" a0u ["rows","caps","told","listed","one"])(T:Tx mg)(a:Ok P w K mg base "above_any" 2 ["some","one"] a3i)(b:Ok P w K mg base "is_answer" 3 ["rows","one"] a2L)(l:Ok P w K mg base "steps" 4 ["rows","caps","one"] a5o)(g:Ok P w K mg base "is_met" 3 ["told","listed","one"] b2A):Ok P w K mg base "goes_on" 5 ["rows","caps","told","listed","one"] b2D:=by
 refine F.okJ a8i (λvs H Q E h=>?_) (λU f A D s H vs Q E x h=>?_)
 .obtain⟨ra,c,t,d,y,us,zs,qL,rss,tss,mss,cs,ys,rfl,_⟩:=h;rfl
 .obtain⟨ra,c,t,d,y,us,zs,qL,rss,tss,mss,cs,ys,rfl,S,W,hy,hm,k⟩:=h;have n:∀f∈tss,f.length<=1000:=λf V=>by rw[W.T f V];have:=W.n2;omega
  obtain⟨o,u⟩:=W.M ys hm;have X:=W.n2;refine⟨_,(A2 (D4 (C9 K (A7 a (x.mono (by omega)) rfl (jaC (jv 2) (jaC (jv 4) jaN))))
 (A4 (A9 M9))
 C2)
 (A2 (D4 (C9 K (A7 b (x.mono (by omega)) rfl (jaC (jv 0) (jaC (jv 4) jaN))))
 (A4 (A9 M9))
 C2)
 (A4 (A9 (N0 K rfl T.b_all (jaC (B7 (N:=["j","more","told","listed"]) (src:=[none,none,some 2,some 3]) (K8 K (A7 l (x.mono (by omega)) rfl (jaC (jv 0) (jaC (jv 1) (jaC (jv 4) jaN))))) (by show C0 _ _=true;rfl) (by rfl) (by rfl)
 (λ_ _ _ _ _=>(L7 K 2 (B3 (A5 (i:=0) (L2.nd ["j","more","told","listed"]) rfl (Or.inl rfl)) (B3 (A5 (i:=1) (L2.nd ["j","more","told","listed"]) rfl (Or.inl rfl)) J0)))) (λ_ _ _ _ _=>C4) (λ_ _ _ _ _=>(A7 g (x.mono (by omega)) rfl (jaC (jv 2) (jaC (jv 3) (jaC (jv 1) jaN)))))) jaN)))))),?_⟩
  refine⟨_,rfl,_,rfl,t,y,zs,tss,ys,rfl,S.t,S.J,hy,n,λH1 s1=>⟨_,rfl,?_⟩⟩;unfold goI at k;cases e:tss.any λt=>Bel t ys with
  |true =>
   rw[e,Bool.true_or]at k;exact G3 (k _ s1)
  |false =>
   rw[e,eY]at k;have I:=S.same s1;refine D0 ⟨_,rfl,_,rfl,ra,y,us,rss,ys,rfl,I.r,I.I,hy.same s1,W.ul,λr C=>by rw[(W.R r C).1];omega,u,λH2 s2=>⟨_,rfl,?_⟩⟩;have m:=s1.trans s2;cases J:Ans rss ys with
   |true =>
    rw[J]at k;exact G3 (k _ m)
   |false =>
    rw[J,Bool.not_false,Bool.true_and]at k;have z:=S.same m;refine D0 ⟨_,rfl,_,rfl,_,rfl,ra,c,y,us,rss,cs,ys,rfl,z.r,z.I,z.c,hy.same m,W.ul,by omega,o.symm,by rw[o];exact W.R,u,λp ps H3 O M L=>?_⟩;refine⟨p,rfl,⟨_,SqL.of M⟩,?_⟩;have Y:(StP rss cs ys).length<=ys.length:=ba (bo _ _) (ba (bo _ _) (by simp));refine b5D (caps:=[some (.ref t),some (.ref d)]) (λj=>a0b tss mss (bump ys j)) (by rw[L.1];omega) M L rfl (λj v R Q4 hj Z G q=>?_) λR p4 G B=>?_
    .have S4:=S.same (m.trans (O.trans G));exact⟨_,rfl,_,rfl,_,rfl,t,d,v,zs,tss,qL,mss,bump ys j,rfl,S4.t,S4.J,S4.d,W.k,Z,n,q⟩
    .refine⟨false,p4,_,rfl,SqL.of A0,X9 _ _,?_⟩;rw[a0X];exact k _ (m.trans (O.trans (G.upd B)))
structure Shw(rss:LLI)(cs:qA (qD Int))(tss pss:LLI):Prop where
 tv:tss.all (a1I cs.length)=true
 pv:pss.all (a1I cs.length)=true
 fit:(tss++pss).all (a8K cs)=true
 an:Anti rss tss
 fst:(K9 cs).all (a0b tss pss)=true
 go:pss.all (goI rss cs tss pss)=true
inductive IspShows(vs:qA V)(H:Hp)(Q:VK)(E:XK):Prop
 |mk (ra c t p:qE) (us zs ws:qA V) (rss tss pss:LLI) (cs:qA (qD Int)) (_:vs=[.ref ra,.ref c,.ref t,.ref p]) (_:H ra=some (.tup us)) (_:Its H us rss) (_:us.length<=1000) (_:H c=some (.tup (cs.map cV))) (_:1<=cs.length) (_:cs.length<=100) (_:Rs cs.length rss) (_:H t=some (.tup zs)) (_:Its H zs tss) (_:zs.length<=1000) (_:H p=some (.tup ws)) (_:Its H ws pss) (_:ws.length<=100000) (_:(∀v∈tss++pss,v.length<=1000/\Sm v)) (_:∀b H',Same H H'->(b=true↔Shw rss cs tss pss)->Q (.bl b) H'):IspShows  vs H Q E
def a9r:Sp:=λvs H Q E=>IspShows  vs H Q E
def a4H{tss a b:LLI}(h:∀r,r∈a↔r∈b):a0b tss a=a0b tss b:=by
 funext v;unfold a0b;congr 1;rw[cz,bH,bH];exact h v
def b4n{tss a b:LLI}(h:∀r,r∈a↔r∈b):goI rss cs tss a=goI rss cs tss b:=by
 funext v;unfold goI;rw[a4H h]
def a9g{n:Nat}{l:LLI}(h:l.all (a1I n)=true):∀v∈l,v.length=n:=λv a=>by
 have:=aS.mp h v a;unfold a1I at this;rw[aO]at this;exact bE this.1
def sc_shows:FnScope ["rows","caps","told","paper","listed"] ["rows","caps","told","paper"] (A1 a2Q):={}
def b3C(F:FunAt K mg "shows" a2Q ["rows","caps","told","paper"])(T:Tx mg)(a:Ok P w K mg base "are_vectors" 3 ["value","width"] a9p)(m:Ok P w K mg base "all_fit" 2 ["caps","some"] a6F)(l:Ok P w K mg base "are_least" 4 ["rows","told"] a3h)(y:Ok P w K mg base "is_met" 3 ["told","listed","one"] b2A)(e:Ok P w K mg base "first_steps" 2 ["caps"] a2M)(n:Ok P w K mg base "goes_on" 5 ["rows","caps","told","listed","one"] b2D):Ok P w K mg base "shows" 6 ["rows","caps","told","paper"] a9r:=by
 refine F.okJ sc_shows (λvs H Q E h=>?_) (λd7 f A c7 s H vs Q E R h=>?_)
 .obtain⟨ra,c,t,p,us,zs,ws,rss,tss,pss,cs,rfl,_⟩:=h;rfl
 .obtain⟨ra,c,t,p,us,zs,ws,rss,tss,pss,cs,rfl,hra,hI,hul,hc,n1,n2,hR,ht,hJ,hzl,hp,hM,hwl,hV,k⟩:=h;have hu:=R.u60;have hz:(300000:Nat)<=sizeLine:=by rw[a'];decide
  have Z:∀v∈tss,v.length<=1000/\Sm v:=λv j=>hV v (aK _ j);have a5:∀v∈pss,v.length<=1000/\Sm v:=λv j=>hV v (aX _ j);refine⟨_,(A2 (D4 (a1W (a3K (L6 (C9 K (A7 a (R.mono (by omega)) rfl (jaC (jv 2) (jaC (E5 K rfl T.b_len (jaC (jv 1) jaN)) jaN))))) (a1V (L6 (C9 K (A7 a (R.mono (by omega)) rfl (jaC (jv 3) (jaC (E5 K rfl T.b_len (jaC (jv 1) jaN)) jaN))))))))
 (A4 (A9 M9))
 C2)
 (A2 (D4 (a1W (a3K (L6 (C9 K (A7 m (R.mono (by omega)) rfl (jaC (jv 1) (jaC (a2W (jv 2) (jv 3)) jaN))))) (a1V (L6 (C9 K (A7 l (R.mono (by omega)) rfl (jaC (jv 0) (jaC (jv 2) jaN))))))))
 (A4 (A9 M9))
 C2)
 (A2 (B4 (i:=4) sc_shows.nd rfl (Or.inr rfl) (b4a hu rfl T.b_dict (jaC (B7 (N:=["one"]) (src:=[none]) (E4 K (jv 3)) (by show C0 _ _=true;rfl) (by rfl) (by rfl)
 (λ_ _ _ _ _=>(A5 (i:=0) (L2.nd ["one"]) rfl (Or.inl rfl))) (λ_ _ _ _ _=>C4) (λ_ _ _ _ _=>(T4 (jaC (jv 0) (jaC M9 jaN))))) jaN)))
 (A2 (D4 (L6 (C9 K (N0 K rfl T.b_all (jaC (B7 (N:=["one","told","listed"]) (src:=[none,some 2,some 4]) (E4 K (A7 e (R.mono (by omega)) rfl (jaC (jv 1) jaN))) (by show C0 _ _=true;rfl) (by rfl) (by rfl)
 (λ_ _ _ _ _=>(A5 (i:=0) (L2.nd ["one","told","listed"]) rfl (Or.inl rfl))) (λ_ _ _ _ _=>C4) (λ_ _ _ _ _=>(A7 y (R.mono (by omega)) rfl (jaC (jv 1) (jaC (jv 2) (jaC (jv 0) jaN)))))) jaN))))
 (A4 (A9 M9))
 C2)
 (A4 (A9 (N0 K rfl T.b_all (jaC (B7 (N:=["one","rows","caps","told","listed"]) (src:=[none,some 0,some 1,some 2,some 4]) (b6s (jv 4)) (by show C0 _ _=true;rfl) (by rfl) (by rfl)
 (λ_ _ _ _ _=>(A5 (i:=0) (L2.nd ["one","rows","caps","told","listed"]) rfl (Or.inl rfl))) (λ_ _ _ _ _=>C4) (λ_ _ _ _ _=>(A7 n (R.mono (by omega)) rfl (jaC (jv 1) (jaC (jv 2) (jaC (jv 3) (jaC (jv 4) (jaC (jv 0) jaN)))))))) jaN)))))))),?_⟩
  refine⟨_,rfl,_,rfl,c,_,rfl,.inr (SqT.of hc),t,zs,tss,cs.length,_,rfl,by rw[aj],ht,hJ,by omega,λr D=>(Z r D).1,λH1 s1=>⟨_,rfl,?_⟩⟩;cases e1:tss.all (a1I cs.length)with
  |false=>exact G3 (k _ _ s1 ⟨(λz=>nomatch z),λh=>by rw[h.tv]at e1;cases e1⟩)
  |true =>
  refine D0 ⟨_,rfl,_,rfl,c,_,rfl,.inr (SqT.of (s1 _ _ hc)),p,ws,pss,cs.length,_,rfl,by rw[aj],s1 _ _ hp,hM.same s1,by omega,λr D=>(a5 r D).1,λH2 s2=>⟨_,rfl,?_⟩⟩;have M:=s1.trans s2;cases e2:pss.all (a1I cs.length)with
  |false=>exact G3 (k _ _ M ⟨(λz=>nomatch z),λh=>by rw[h.pv]at e2;cases e2⟩)
  |true =>
  have a4:=a9g e1;have c2:=a9g e2;refine D0 ?_;refine⟨_,rfl,_,rfl,_,rfl,t,p,zs,ws,rfl,rfl,M _ _ ht,M _ _ hp,by omega,λq H3 s3 hq=>?_⟩;have O:=M.trans s3;have c0:Its H3 (zs++ws) (tss++pss):=a5Q (hJ.same O) (hM.same O);refine⟨c,q,_,_,cs,rfl,O _ _ hc,by omega,hq,c0,by rw[ax];omega,λH4 s4=>⟨_,rfl,?_⟩⟩;have B:=O.trans s4;cases e3:(tss++pss).all (a8K cs)with
  |false=>exact G3 (k _ _ B ⟨(λz=>nomatch z),λh=>by rw[h.fit]at e3;cases e3⟩)
  |true =>
  refine D0 ⟨_,rfl,_,rfl,ra,t,us,zs,rss,tss,cs.length,rfl,B _ _ hra,hI.same B,hul,λr D=>by rw[(hR r D).1];omega,B _ _ ht,hJ.same B,hzl,n1,by omega,λv j=>⟨a4 v j,(Z v j).2⟩,λb5 H5 s5 h5=>⟨_,rfl,?_⟩⟩;have I:=B.trans s5;cases b5 with
  |false=>exact G3 (k _ _ I ⟨(λz=>nomatch z),λh=>by have:=h5.mpr h.an;cases this⟩)
  |true =>
  have b9:=h5.mp rfl;refine D0 ?_;have a8:=I _ _ hp;have c1:=hM.same I;refine⟨_,rfl,p,rfl,⟨_,SqT.of a8⟩,?_⟩;refine Q0 (K:=K) (xs:=ws) (by omega) (λi qs H'=>Same H5 H'/\PrT H' qs (pss.take i)) ⟨Same.refl H5,PrT.nil⟩ (λi qs H' _ h=>⟨SqT.of (h.1 _ _ a8),by rw[h.2.1];exact bL _ _⟩) ?_ ?_
  .rintro i x qs H' hx ⟨s',hP'⟩;obtain⟨r,e5,c5,c6⟩:=c1.mem hx;refine⟨Sub.one,_,rfl,by show 2<=sizeLine;omega,λp8 c4=>?_⟩;have J:=(Same.refl H').upd (o:=.tup [x,.bl true]) c4;refine⟨s'.trans J,?_⟩;rw[bg,c5];exact(hP'.same J).snoc A0 ((c6.same s').same J)
  rintro qs H6 ⟨s6,Y⟩ p6 a9;rw[hM.1,br]at Y;have s7:=(Same.refl H6).upd (o:=.lst qs) a9;refine⟨p6,qs,pss,rfl,A0,Y.same s7,λd qL b hd hk u=>?_⟩;have J:=I.trans ((s6.trans s7).upd (o:=.dT qL) hd);have e8:upd (upd H6 p6 (.lst qs)) d (.dT qL) d=some (.dT qL):=A0;have c3:H d=none:=I.free ((s6.trans s7).free hd);generalize upd (upd H6 p6 (.lst qs)) d (.dT qL)=H8 at J e8;clear hd s7 Y s6 a9;dsimp only[B0];have em:=a4H (tss:=tss) u.mem;have b8:=b4n (rss:=rss) (tss:=tss) (cs:=cs) u.mem;have W:Pk us qL rss tss b cs:=⟨hul,hR,n1,n2,hk,a4,λv j=>⟨c2 v ((u.mem v).mp j),(a5 v ((u.mem v).mp j)).2⟩⟩;have S8:Ps H8 ra c t d us zs qL rss tss b cs:=⟨J _ _ hra,hI.same J,J _ _ hc,J _ _ ht,hJ.same J,.inl e8⟩;refine⟨_,rfl,c,cs,rfl,S8.c,bq _,n2,λq9 d1 X H9 s9 b0 a3 a0 d3=>?_⟩;have d8:d1.length<=100:=by
   rw[a3.1,a0.length_eq];exact ba (bo _ _) (by simp;omega)
  refine⟨q9,rfl,⟨_,SqT.of b0⟩,?_⟩;refine a1e (caps:=[some (.ref t),some (.ref d)]) (λr=>V.bl (a0b tss b r)) (by omega) (λH' s=>SqT.of (s _ _ b0)) a3 rfl (λv r a2 d4 d2 j a1 c9=>?_) λa2 b2 a1 a6=>?_
  .have S10:=S8.same (s9.trans a1);exact⟨_,rfl,_,rfl,_,rfl,t,d,v,zs,tss,qL,b,r,rfl,S10.t,S10.J,S10.d,hk,j,λf hf=>(Z f hf).1,c9⟩
  have L:=(s9.trans a1).upd (o:=.lst (X.map λr=>V.bl (a0b tss b r))) a6;refine⟨false,b2,_,rfl,SqL.of A0,X9 _ _,?_⟩;rw[a0X];have ef:X.all (a0b tss b)=(K9 cs).all (a0b tss pss):=by
   rw[em];rw[cz,aS,aS];exact⟨λh v j=>h v (a0.mem_iff.mpr j),λh v j=>h v (a0.mem_iff.mp j)⟩
  rw[ef];generalize upd a2 b2 (.lst (X.map λr=>V.bl (a0b tss b r)))=C at L;have S:=J.trans L;refine⟨_,rfl,?_⟩;cases e4:(K9 cs).all (a0b tss pss)with
  |false=>exact G3 (k _ _ S ⟨(λz=>nomatch z),λh=>by rw[h.fst]at e4;cases e4⟩)
  |true =>
  refine D0 ?_;have b7:=L _ _ e8;have d6:=S8.same L;refine⟨_,rfl,d,qL,rfl,b7,λob=>?_⟩;have off:Off [d] C (upd C d (.frz ob (.dT qL))):=(Off.refl _ _).set (by simp);have U:upd C d (.frz ob (.dT qL)) d=some (.frz ob (.dT qL)):=A0;have g:Same H (upd C d (.frz ob (.dT qL))):=a3n S c3 off;generalize upd C d (.frz ob (.dT qL))=b3 at g U;have b6:Ps b3 ra c t d us zs qL rss tss b cs:=⟨g _ _ hra,hI.same g,g _ _ hc,g _ _ ht,hJ.same g,.inr ⟨ob,U⟩⟩;have d9:=b4j hk;have e0:b.length<=100000:=by have:=u.le;rw[<-hM.1]at this;omega
  refine b1J (caps:=[some (.ref ra),some (.ref c),some (.ref t),some (.ref d)]) (λr=>V.bl (goI rss cs tss b r)) (by omega) U hk rfl (λv r b4 d5 b1 j G d0=>?_) λb4 c8 G a7=>?_
  .have S13:=b6.same G;exact⟨_,rfl,_,rfl,_,rfl,_,rfl,_,rfl,ra,c,t,d,v,us,zs,qL,rss,tss,b,cs,r,rfl,S13,W,j,b1,d0⟩
  .refine⟨false,c8,_,rfl,SqL.of A0,X9 _ _,?_⟩;rw[a0X];have ea:b.all (goI rss cs tss b)=pss.all (goI rss cs tss pss):=by
    rw[b8];rw[cz,aS,aS];exact⟨λh v j=>h v ((u.mem v).mpr j),λh v j=>h v ((u.mem v).mp j)⟩
   rw[ea];refine k _ _ (g.trans (G.upd a7)) ⟨λh=>⟨e1,e2,e3,b9,e4,h⟩,λh=>h.go⟩
end
def b0e{v:qI}(a:∀x∈v,0<=x):a8K cs v=true↔0<v.sum/\Wi cs v=true:=by
 unfold a8K;rw[aO];refine and_congr_left λ_=>?_;rw[bP];constructor
 .rintro⟨x,hx,h⟩;have h1:¬x=0:=by simpa using h
  have h2:=a x hx;exact a9m v a x hx (by omega)
 .intro h;obtain⟨j,b,h1⟩:=a3v a h;rw[ak,ai b]at h1;have h1:1<=v[j]:=h1;exact⟨v[j],cM _,by simp;omega⟩
def vecI_iff{n:Nat}{v:qI}:a1I n v=true↔v.length=n/\∀x∈v,0<=x:=by
 unfold a1I;rw[aO,bH,aS];exact and_congr_right λ_=>⟨λh x a=>bE (h x a),λh x a=>bb (h x a)⟩
def b5h{F W tss c:LLI}{k:Nat}(hR:∀r∈rss,r.length=cs.length)(h:Wk rss cs F W [] k)(d:tss.Perm F)(n:C8 tss)(i:∀v∈c,v.length=cs.length/\(∀x∈v,0<=x)/\0<v.sum/\Wi cs v=true)(m:∀v∈c,v∈W∨(tss.any λt=>Bel t v)=true)(p:∀v∈W,v∈c∨(tss.any λt=>Bel t v)=true):Shw rss cs tss c:=by
 have hL:∀v,v∈tss↔Least rss cs v:=λv=>d.mem_iff.trans (h.least hR v);have l:tss.Nodup:=d.symm.nodup h.nd.2;have pap:=h.pap hR;have met:∀v,v∈W->a0b tss c v=true:=λv b=>by
  unfold a0b;rcases p v b with z|z
  .rw[bb z,Bool.true_or]
  .rw[z,Bool.or_true]
 refine⟨aS.mpr λv b=>?_,aS.mpr λv b=>?_,aS.mpr λv b=>?_,⟨n,l,λv b=>?_,λv b=>((hL v).mp b).an.ans⟩,aS.mpr λv b=>met v (pap.fst v b),aS.mpr λv b=>?_⟩
 .exact vecI_iff.mpr ⟨((hL v).mp b).an.len,((hL v).mp b).an.nn⟩
 .exact vecI_iff.mpr ⟨(i v b).1,(i v b).2.1⟩
 .rcases aA.mp b with z|z
  .have:=(hL v).mp z;exact(b0e this.an.nn).mpr ⟨this.an.pos,this.wi⟩
  .have:=i v z;exact(b0e this.2.1).mpr this.2.2
 .unfold Lst;rw[fF,dN];intro u B g;rw[aO]at g;have h1:=(hL u).mp B;have h2:=(hL v).mp b;have:=h2.min u h1.an ((E1 (by rw[h1.an.len,h2.an.len])).mp g.2);rw[this]at g;simp at g
 .obtain⟨h1,h2,h3,h4⟩:=i v b;unfold goI;cases q:tss.any λt=>Bel t v with
  |true=>rfl
  |false =>
   have o:v∈W:=(m v b).resolve_right (by rw[q];decide);rw[eY,aO,fF];constructor
   .cases e:Ans rss v with
    |false=>rfl
    |true =>
     obtain⟨a,s,w⟩:=J1 v.sum.toNat (by omega) ⟨h1,h2,e,h3⟩ h4;have:=dN.mp q a ((hL a).mpr s);rw[(E1 (by rw[s.an.len,h1])).mpr w]at this;exact absurd rfl this
   .rw[aS];intro j A;rcases pap.nx v o (by simp) j A with z|⟨f,y,g⟩
    .exact met _ z
    .unfold a0b;rw[bP.mpr ⟨f,d.mem_iff.mpr y,g⟩,Bool.or_true]
end K38
namespace L2
open PySem PySem.Spec PyProof.Rows
variable {H:Hp}{rss:LLI}{vs:qA V}
section
variable {X:Cx}{a b:Expr}{ta tb:TE}{pos:Pos}
def b9g{i j:Nat}{x y:Str}{ta:TA}{d e pt:Pos}{kt k2 pt2}(h:X.calm=true)(f:X.N.Nodup)(hi:X.N[i]?=some x)(k:X.N[j]?=some y)(c:i≠j)
  (l:X.env.scope.names.lookup x=some .local) (m:X.env.scope.names.lookup y=some .local) (g:JA X [a,b] ta)
  (hw:swappedStores [.Tuple [.Name x d,.Name y e] kt pt] (.Tuple [a,b] k2 pt2) X.env=pure (some [x,y]))
  (hs:swapsWithSole [.Tuple [.Name x d,.Name y e] kt pt] (.Tuple [a,b] k2 pt2) pos.line X.env=pure false:=by rfl) :
  JS X (.Assign [.Tuple [.Name x d,.Name y e] kt pt] (.Tuple [a,b] k2 pt2) pos) (b9Y i j ta):=⟨b8g h f hi k c l m g.h hw hs⟩
end
def Its.take(h:Its H vs rss)(n:Nat):Its H (vs.take n) (rss.take n):=by
 refine⟨by rw[aU,aU,h.1],λi v e=>?_⟩;rw[List.getElem?_take]at e;split at e
 .rename_i hi;obtain⟨r,a,b⟩:=h.2 i v e;exact⟨r,by rw[List.getElem?_take,az hi];exact a,b⟩
 .cases e
def Its.drop(h:Its H vs rss)(n:Nat):Its H (vs.drop n) (rss.drop n):=by
 refine⟨by rw[bI,bI,h.1],λi v e=>?_⟩;rw[fj]at e⊢;exact h.2 _ v e
def Its.app{b:qA V}{a:LLI}(h:Its H vs rss)(g:Its H b a):Its H (vs++b) (rss++a):=by
 refine⟨by rw[ax,ax,h.1,g.1],λi v e=>?_⟩;rcases Nat.lt_or_ge i vs.length with hi|hi
 .rw[bx hi]at e;rw[bx (by rw[<-h.1];exact hi)];exact h.2 i v e
 .rw[bh hi]at e;rw[bh (by rw[<-h.1];exact hi),<-h.1];exact g.2 _ v e
def Its.one{v:V}{r:qI}(h:IT H v r):Its H [v] [r]:=Its.nil.snoc h
def c0M{xs:qA V}{n:Nat}(h:n<=xs.length):N1 xs none (some (n:Int))=xs.take n:=by
 unfold N1;rw[HT.sIx_none,HT.sIx_nat,c_ h,dh,Nat.sub_zero]
def c0N{xs:qA V}{n:Nat}(h:n<=xs.length):N1 xs (some (n:Int)) none=xs.drop n:=by
 unfold N1;rw[HT.sIx_none,HT.sIx_nat,c_ h,bJ (by rw[bI];omega)]
def a4E:∀{a b:LLI},C8 a->C8 b->a.Nodup->b.Nodup->(∀v,v∈a↔v∈b)->a=b
 |[],[],_,_,_,_,_=>rfl
 |[],y::b,_,_,_,_,h=>by have:=(h y).mpr ar;cases this
 |x::a,[],_,_,_,_,h=>by have:=(h x).mp ar;cases this
 |x::a,y::b,ra,rb,na,nb,h=>by
  obtain⟨k,l⟩:=cK.mp ra;obtain⟨i,j⟩:=cK.mp rb;obtain⟨f,g⟩:=cq.mp na;obtain⟨c,d⟩:=cq.mp nb;have e:x=y:=by
   refine O9 x y ?_ ?_
   .rcases aD.mp ((h x).mp ar)with z|z
    .rw[z];exact L5 y
    .exact i x z
   .rcases aD.mp ((h y).mpr ar)with z|z
    .rw[z];exact L5 x
    .exact k y z
  subst e;rw[a4E l j g d λv=>?_];constructor
  .intro hv;rcases aD.mp ((h v).mp (aq _ hv))with z|z
   .exact absurd (z ▸ hv) f
   .exact z
  .intro hv;rcases aD.mp ((h v).mpr (aq _ hv))with z|z
   .exact absurd (z ▸ hv) c
   .exact z
structure Srt(rss srt:LLI):Prop where
 ri:C8 srt
 nd:srt.Nodup
 mem:∀r,r∈srt↔r∈rss
def Srt.eq{a b:LLI}(h:Srt rss a)(g:Srt rss b):a=b:=a4E h.ri g.ri h.nd g.nd λv=>(h.mem v).trans (g.mem v).symm
end L2
namespace L2
open PySem PySem.Spec PyProof.Rows PySem.Builtin PySem.Builtin.Str PySem.StrLaws
section
variable {X:Cx}
end
section
variable {X:Cx}
end
end L2
namespace L2
open PySem PySem.Spec PyProof.Rows PySem.NumText
section
variable {X:Cx}{e:Expr}{t:TA}{p pos:Pos}
end
section
variable {X:Cx}{o e:Expr}{es:qA Expr}{to:TE}{t:TA}{qP qM:Pos}
end
end L2
namespace L2
open PySem PySem.Spec PyProof.Rows
variable {X:Cx}
section
variable {tg:Expr}
end
section
variable {prog:qG}{w:World}{A:Around}{E:qH}{s:qC}
end
section
variable {M:Model}{A:Around}{E:qH}{s:qC}{env:Env}
end
section
variable {a b c e o i:Expr}{ta tb tc td ty te tv:TE}{t:TA}{p pos:Pos}
def b9n(b:X.A.units+60<cLine)(a:JE X o td)(hi:JE X i ty)(hs:b9P i:=by intro _ _;rfl):JE X (.Subscript o i pos) (b7c td ty):=⟨b5S (by omega) a.h hi.h hs⟩
end
section
variable {pos:Pos}{k v:Expr}{ks:qA (qD Expr)}{vs:qA Expr}{tk tv:TE}{trs:qA (TE×TE)}
end
end L2
namespace K38
open PySem PySem.Spec PyProof.Rows L2
variable {H H':Hp}{c t u v:qI}{k n:Nat}{rss tss:LLI}
def a2J(u t:qI):qI:=List.zipWith (λa b=>a+b) u t
def addk(u:qI)(k:Nat)(t:qI):qI:=List.zipWith (λa b=>a+(k:Int)*b) u t
def Q5(h:u.length=t.length):(a2J u t).length=u.length:=by unfold a2J;rw[cP];omega
def G9(h:u.length=t.length):(addk u k t).length=u.length:=by unfold addk;rw[cP];omega
def a7K{g:Int->Int->Int}(h:u.length=t.length)(h0:g 0 0=0)(j:Nat):(List.zipWith g u t).getD j 0=g (u.getD j 0) (t.getD j 0):=by
 rw[ak,ak,ak,fM];by_cases a:j<u.length
 .rw[ai a,ai (by omega)];rfl
 .rw[bO (by omega),bO (by omega)];exact h0.symm
def a1F(h:u.length=t.length)(j:Nat):(a2J u t).getD j 0=u.getD j 0+t.getD j 0:=a7K h rfl j
def Y6(h:u.length=t.length)(j:Nat):(addk u k t).getD j 0=u.getD j 0+(k:Int)*t.getD j 0:=a7K (g:=λa b=>a+(k:Int)*b) h (by simp) j
def a3Z(h:u.length=v.length)(a:∀j,j<u.length->u.getD j 0=v.getD j 0):u=v:=by
 refine dg h λj h1 h2=>?_;have:=a j h1;rw[ak,ak,ai h1,ai h2]at this;exact this
def b2c(h:u.length=t.length):addk u 0 t=u:=a3Z (G9 h) λj _=>by rw[Y6 h];simp
def b2d(h:u.length=t.length):addk u (k+1) t=a2J (addk u k t) t:=a3Z (by rw[G9 h,Q5 (by rw[G9 h];exact h),G9 h]) λj _=>by
 rw[Y6 h,a1F (by rw[G9 h];exact h),Y6 h,Int.natCast_succ,Int.add_mul];omega
def Nv(n:Nat)(v:qI):Prop:=v.length=n/\∀x∈v,0<=x
def Nv.at_(h:Nv n v)(j:Nat):0<=v.getD j 0:=a6W h.2 j
def b7x(a:v.length=n)(h:∀j,j<n->0<=v.getD j 0):Nv n v:=by
 refine⟨a,λx b=>?_⟩;obtain⟨i,hi,rfl⟩:=bS.mp b;have:=h i (by omega);rwa[ak,ai hi]at this
def Nv.addk(a:Nv n u)(b:Nv n t):Nv n (addk u k t):=b7x (by rw[G9 (by rw[a.1,b.1]),a.1]) λj _=>by
 rw[Y6 (by rw[a.1,b.1])];have:=a.at_ j;have:=dV (Int.natCast_nonneg k) (b.at_ j);omega
def b0C(b:Nv n u)(a:Nv n t):Under u (a2J u t):=⟨by rw[Q5 (by rw[b.1,a.1])],λj _=>by
 rw[a1F (by rw[b.1,a.1])];have:=a.at_ j;omega⟩
inductive SumOf(n:Nat):LLI->qI->Prop
 |nil:SumOf n [] (List.replicate n 0)
 |snoc {tss:LLI}{u t:qI}(k:Nat) (h:SumOf n tss u):SumOf n (tss++[t]) (addk u k t)
def b6m(n:Nat):Nv n (List.replicate n 0):=⟨bw,λx a=>by rw[(List.mem_replicate.mp a).2];omega⟩
def SumOf.nv(h:SumOf n tss v)(a:∀t∈tss,Nv n t):Nv n v:=by
 induction h with
 |nil=>exact b6m n
 |snoc k h b=>exact(b λt z=>a t (aK _ z)).addk (a _ (by simp))
def SumOf.more{a:qI}(h:SumOf n tss v)(m:∀t∈tss,Nv n t)(l:a∈tss):SumOf n tss (a2J v a):=by
 induction h with
 |nil=>cases l
 |@snoc tss u t k h o =>
  have b:∀x∈tss,Nv n x:=λx z=>m x (aK _ z);have i:=h.nv b;have f:=m t (by simp);by_cases e:a=t
  .subst e;rw[<-b2d (by rw[i.1,f.1])];exact .snoc _ h
  .have ha':a∈tss:=by
    rcases aA.mp l with z|z
    .exact z
    .exact absurd (aB.mp z) e
   have g:=b a ha';have:a2J (addk u k t) a=addk (a2J u a) k t:=by
    have c:u.length=t.length:=by rw[i.1,f.1]
    have d:u.length=a.length:=by rw[i.1,g.1]
    refine a3Z (by rw[Q5 (by rw[G9 c];exact d),G9 c,G9 (by rw[Q5 d];exact c),Q5 d]) λj _=>?_;rw[a1F (by rw[G9 c];exact d),Y6 c,Y6 (by rw[Q5 d];exact c),a1F d];omega
   rw[this];exact .snoc k (o b ha')
def SumOf.zeroN{n:Nat}:∀(m:Nat) (tss:LLI),tss.length=m->(∀t∈tss,Nv n t)->SumOf n tss (List.replicate n 0)
 |0,tss,h,_=>by
  rw[dZ.mp h];exact .nil
 |m+1,tss,h,b=>by
  have a:tss≠[]:=λz=>by rw[z]at h;cases h
  have e:=List.dropLast_concat_getLast a;have h1:=SumOf.zeroN m tss.dropLast (by rw[List.length_dropLast];omega) λx z=>b x ((List.dropLast_sublist tss).subset z);have h2:=SumOf.snoc (t:=tss.getLast a) 0 h1;rw[b2c (by rw[bw,(b _ (List.getLast_mem a)).1]),e]at h2;exact h2
def SumOf.zero(a:∀t∈tss,Nv n t):SumOf n tss (List.replicate n 0):=SumOf.zeroN _ tss rfl a
def a4c:∀{r u t:qI},u.length=t.length->dot r (a2J u t)=dot r u+dot r t
 |[],_,_,_=>by simp[dot]
 |_::_,[],[],_=>by simp[dot,a2J]
 |a::r,x::u,y::t,h=>by
  have b:=a4c (r:=r) (u:=u) (t:=t) (by simpa using h);unfold a2J at b⊢;rw[a_,C3,C3,C3,b,fH];omega
def ans_iff:Ans rss v=true↔∀r∈rss,dot r v=0:=by
 unfold Ans;rw[aS];exact⟨λh r a=>bE (h r a),λh r a=>bb (h r a)⟩
def a3e(h:Nv n v)(hs:¬0<v.sum):v=List.replicate n 0:=by
 refine List.eq_replicate_iff.mpr ⟨h.1,λx a=>?_⟩;have h1:=h.2 x a;have h2:=a9M h.2 x a;omega
def a7X{cs:qA (qD Int)}(hR:∀r∈rss,r.length=cs.length)(hL:∀v,v∈tss↔Least rss cs v):∀(m:Nat) (v:qI),v.sum<=m->Nv cs.length v->Ans rss v=true->Wi cs v=true->SumOf cs.length tss v:=by
 have l:∀t∈tss,Nv cs.length t:=λt z=>⟨((hL t).mp z).an.len,((hL t).mp z).an.nn⟩;intro m;induction m with
 |zero =>
  intro v u d _ _;rw[a3e d (by omega)];exact SumOf.zero l
 |succ m w =>
  intro v u d n hw;by_cases hs:0<v.sum
  .obtain⟨a,hla,hU⟩:=J1 (rss:=rss) (cs:=cs) v.sum.toNat (by omega) ⟨d.1,d.2,n,hs⟩ hw;have c:Nv cs.length a:=⟨hla.an.len,hla.an.nn⟩;have o:v.length=a.length:=by rw[d.1,c.1]
   have hd:∀j,(List.zipWith (λx y=>x-y) v a).getD j 0=v.getD j 0-a.getD j 0:=λj=>a7K (g:=λx y=>x-y) o rfl j;have b:(List.zipWith (λx y:Int=>x-y) v a).length=cs.length:=by rw[cP,<-o,Nat.min_self,d.1]
   have h:Nv cs.length (List.zipWith (λx y=>x-y) v a):=b7x b λj q=>by
    rw[hd];have:=hU.2 j (by rw[d.1];exact q);omega
   have e:v=a2J (List.zipWith (λx y=>x-y) v a) a:=a3Z (by rw[Q5 (by rw[b,c.1]),b,d.1]) λj _=>by
    rw[a1F (by rw[b,c.1]),hd];omega
   have f:Under (List.zipWith (λx y=>x-y) v a) v:=by
    have:=b0C h c;rwa[<-e]at this
   have i:Ans rss (List.zipWith (λx y=>x-y) v a)=true:=by
    rw[ans_iff];intro r p;have h1:=ans_iff.mp n r p;rw[e,a4c (by rw[b,c.1]),ans_iff.mp hla.an.ans r p]at h1;omega
   have k:List.zipWith (λx y=>x-y) v a≠v:=λz=>by
    obtain⟨j,A,B⟩:=a3v hla.an.nn hla.an.pos;have:=hd j;rw[z]at this;omega
   have s:=f.sum.2 k;have:=w _ (by omega) h i (a2K d.1 hw f);rw[e];exact this.more l ((hL a).mpr hla)
  .rw[a3e d hs];exact SumOf.zero l
def b3P{ns:qI}{r:Int}(h0:0<=r)(h1:r<ns.length):∃z,atI (ns.map V.int) r=some (.int z)/\z∈ns:=by
 obtain⟨k,rfl⟩:∃k:Nat,r=k:=⟨r.toNat,by omega⟩;have a:k<ns.length:=by omega
 refine⟨_,N2 a,?_⟩;rw[ak,ai a];exact cM a
def gdx{a b:qI}(h:a.length=b.length)(e:∀j,j<b.length->a.getD j 0=b.getD j 0):a=b:=by
 refine dg h λi h1 h2=>?_;have:=e i h2;rw[ak,ak,ai h1,ai h2]at this;exact this
def a8G{xs:qI}{j:Nat}(h:j<xs.length):xs.getD j 0∈xs:=by
 rw[ak,ai h];exact cM h
def Q6(a b:qI):qI:=List.zipWith (λa b=>a+b) a b
def E7(c:Int)(r:qI):qI:=r.map λz=>c*z
def TgA:qI->LLI->qI->qI
 |qN,r::rss,c::cs=>TgA (Q6 qN (E7 c r)) rss cs
 |qN,_,_=>qN
def G6(a b:qI)(h:a.length=b.length):(Q6 a b).length=b.length:=by unfold Q6;rw[cP];omega
def B1(c:Int)(r:qI):(E7 c r).length=r.length:=aj ..
def a1d(a b:qI)(h:a.length=b.length)(j:Nat):(Q6 a b).getD j 0=a.getD j 0+b.getD j 0:=by
 unfold Q6;rw[ak,ak,ak,fM];by_cases c:j<a.length
 .rw[ai c,ai (by omega)];rfl
 .rw[bO (by omega),bO (by omega)];rfl
def a1c(c:Int)(r:qI)(j:Nat):(E7 c r).getD j 0=c*r.getD j 0:=by
 unfold E7;rw[ak,aV,ak];cases r[j]? with
 |none=>show(0:Int)=c*0;omega
 |some z=>rfl
def b0B(a r:qI)(h:a.length=r.length):Q6 a (E7 0 r)=a:=by
 refine gdx (by rw[G6 _ _ (by rw[B1];exact h),B1];exact h.symm) λj _=>?_;rw[a1d _ _ (by rw[B1];exact h),a1c];omega
def b0w{n:Nat}:∀(rss:LLI) (cs qN:qI),(∀r∈rss,r.length=n)->qN.length=n->(TgA qN rss cs).length=n
 |[],cs,qN,_,h=>by cases cs<;>exact h
 |r::rss,[],qN,_,h=>h
 |r::rss,c::cs,qN,a,h=>by
  have h1:=a r (ar ..);exact b0w rss cs _ (λq b=>a q (aq _ b)) (by rw[G6 _ _ (by rw[B1];omega),B1,h1])
def a2f{α:Type}{xs:qA α}{i:Nat}{x:α}(h:xs[i]?=some x):xs.drop i=x::xs.drop (i+1):=by
 obtain⟨h1,h2⟩:=aG.mp h;rw[cF h1,h2]
def a7I:∀(tss:LLI) (cs qN t:qI) (c:Int),tss.length=cs.length->TgA qN (tss++[t]) (cs++[c])=Q6 (TgA qN tss cs) (E7 c t)
 |[],[],qN,t,c,_=>rfl
 |r::tss,d::cs,qN,t,c,h=>a7I tss cs _ t c (by simpa using h)
def a7x:∀(r u t:qI),u.length=t.length->dot r (Q6 u t)=dot r u+dot r t:=λr u t h=>a4c (r:=r) (u:=u) (t:=t) h
def a1B:∀(r t:qI) (c:Int),dot r (E7 c t)=c*dot r t
 |[],_,c=>by simp[dot]
 |_::_,[],c=>by simp[dot,E7]
 |a::r,y::t,c=>by
  show dot (a::r) ((c*y)::E7 c t)=_;rw[C3,C3,a1B r t c,fH,Int.mul_left_comm]
def a5V{n:Nat}(r:qI):∀(tss:LLI) (cs qN:qI),qN.length=n->(∀t∈tss,t.length=n)->dot r (TgA qN tss cs)=dot r qN+dot (tss.map (dot r)) cs
 |[],cs,qN,_,_=>by cases cs<;>simp[TgA,dot]
 |t::tss,[],qN,_,_=>by simp[TgA,dot]
 |t::tss,c::cs,qN,a,b=>by
  have h1:=b t ar;show dot r (TgA (Q6 qN (E7 c t)) tss cs)=_;rw[a5V r tss cs _ (by rw[G6 _ _ (by rw[B1,a,h1]),B1,h1]) (λq d=>b q (aq _ d)),a7x _ _ _ (by rw[B1,a,h1]),a1B,aW,C3,fU c];omega
def a6w:∀(u t:qI),u.length=t.length->(Q6 u t).sum=u.sum+t.sum
 |[],[],_=>rfl
 |x::u,y::t,h=>by
  show((x+y)::Q6 u t).sum=_;rw[bu,bu,bu,a6w u t (by simpa using h)];omega
def a6v(c:Int):∀(t:qI),(E7 c t).sum=c*t.sum
 |[]=>by simp[E7]
 |y::t=>by
  show((c*y)::E7 c t).sum=_;rw[bu,bu,a6v c t,fH]
def a5l{n:Nat}:∀(tss:LLI) (cs qN:qI),qN.length=n->(∀t∈tss,t.length=n)->(TgA qN tss cs).sum=qN.sum+dot (tss.map List.sum) cs
 |[],cs,qN,_,_=>by cases cs<;>simp[TgA,dot]
 |t::tss,[],qN,_,_=>by simp[TgA,dot]
 |t::tss,c::cs,qN,a,b=>by
  have h1:=b t ar;show(TgA (Q6 qN (E7 c t)) tss cs).sum=_;rw[a5l tss cs _ (by rw[G6 _ _ (by rw[B1,a,h1]),B1,h1]) (λq d=>b q (aq _ d)),a6w _ _ (by rw[B1,a,h1]),a6v,aW,C3,fU c];omega
def a4h{n:Nat}(j:Nat):∀(tss:LLI) (cs qN:qI),qN.length=n->(∀t∈tss,t.length=n)->(TgA qN tss cs).getD j 0=qN.getD j 0+dot (tss.map λt=>t.getD j 0) cs
 |[],cs,qN,_,_=>by cases cs<;>simp[TgA,dot]
 |t::tss,[],qN,_,_=>by simp[TgA,dot]
 |t::tss,c::cs,qN,a,b=>by
  have h1:=b t ar;show(TgA (Q6 qN (E7 c t)) tss cs).getD j 0=_;rw[a4h j tss cs _ (by rw[G6 _ _ (by rw[B1,a,h1]),B1,h1]) (λq d=>b q (aq _ d)),a1d _ _ (by rw[B1,a,h1]),a1c,aW,C3,fU c];omega
def b4A:∀(a c:qI),(∀x∈a,0<=x)->(∀x∈c,0<=x)->0<=dot a c
 |[],_,_,_=>by simp[dot]
 |_::_,[],_,_=>by simp[dot]
 |x::a,y::c,d,e=>by
  rw[C3];have:=b4A a c (λz b=>d z (aq _ b)) (λz b=>e z (aq _ b));have:=dV (d x ar) (e y ar);omega
def b4B:∀(a c d:qI),(∀x∈a,0<=x)->Under c d->dot a c<=dot a d
 |[],_,_,_,_=>by simp[dot]
 |_::_,[],[],_,_=>eC _
 |_::_,[],_::_,_,h=>by cases h.1
 |_::_,_::_,[],_,h=>by cases h.1
 |x::a,y::c,z::d,b,h=>by
  rw[C3,C3];have h1:=b4B a c d (λq f=>b q (aq _ f)) ⟨by have:=h.1;simpa using this,λj e=>by have:=h.2 (j+1) (by simpa using e);simpa using this⟩;have h2:y<=z:=by have:=h.2 0 (by simp);simpa using this
  have g:=cn h2 (b x ar);omega
def b0h:∀(a c:qI),a.length=c.length->(∀x∈a,1<=x)->(∀x∈c,0<=x)->c.sum<=dot a c
 |[],[],_,_,_=>by simp[dot]
 |x::a,y::c,h,d,e=>by
  rw[C3,bu];have h1:=b0h a c (by simpa using h) (λz b=>d z (aq _ b)) (λz b=>e z (aq _ b));have h2:=cA (d x ar) (e y ar);omega
def b0j{B:Int}:∀(a c:qI),(∀x∈a,x<=B)->(∀x∈c,0<=x)->a.length=c.length->dot a c<=B*c.sum
 |[],[],_,_,_=>by simp[dot]
 |x::a,y::c,d,e,h=>by
  rw[C3,bu,fH];have h1:=b0j a c (λz b=>d z (aq _ b)) (λz b=>e z (aq _ b)) (by simpa using h);have h2:=cA (d x ar) (e y ar);omega
def c0A(h:∀j,j<v.length->0<=v.getD j 0):∀x∈v,0<=x:=λx b=>by
 obtain⟨j,a,rfl⟩:=bS.mp b;have:=h j a;rwa[ak,ai a]at this
def a1G:∀(n:Nat) (ys:qI),dot (List.replicate n 0) ys=0
 |0,_=>by simp[dot]
 |n+1,[]=>by simp[dot]
 |n+1,y::ys=>by rw[bU,C3,a1G n ys];omega
def a4v(n:Nat)(xs:qI):Wi (List.replicate n none) xs=true:=by
 unfold Wi;induction n generalizing xs with
 |zero=>rfl
 |succ n a =>
  cases xs with
  |nil=>rfl
  |cons x xs=>rw[bU,a_,cW,a];rfl
abbrev tgl(n:Nat)(tss:LLI)(c:qI):qI:=TgA (List.replicate n 0) tss c
abbrev fre(m:Nat):qA (qD Int):=List.replicate m none
def B2(m:Nat):(fre m).length=m:=bw
def a8X(n j:Nat):(List.replicate n (0:Int)).getD j 0=0:=by
 rw[ak,fz];split<;>rfl
abbrev Cnt(tss:LLI)(row c:qI):Prop:=Least [tss.map (dot row)] (fre tss.length) c
structure NarR(tss:LLI)(row:qI)(most:Nat)(fss:LLI):Prop where
 ri:C8 fss
 nd:fss.Nodup
 len:fss.length<=most
 mem:∀v,v∈fss↔(∃c,Cnt tss row c/\tgl row.length tss c=v)/\∀u,(∃c,Cnt tss row c/\tgl row.length tss c=u)->Under u v->u=v
 bd:∀v∈fss,∃c,Cnt tss row c/\tgl row.length tss c=v/\c.sum<=(most:Int)+1
section
variable {row:qI}
def a1g(h:∀t∈tss,t.length=n)(c:qI):(tgl n tss c).length=n:=b0w tss c _ h bw
def b7O(h:∀t∈tss,t.length=n/\∀x∈t,0<=x)(b:∀x∈c,0<=x):∀x∈tgl n tss c,0<=x:=c0A λj e=>by
 rw[a4h j tss c _ bw λt a=>(h t a).1,a8X,eN];refine b4A _ _ (λx d=>?_) b;obtain⟨t,a,rfl⟩:=aM.mp d;exact a6W (h t a).2 j
def b2n(h:∀t∈tss,t.length=n/\∀x∈t,0<=x){d:qI}(b:Under c d):Under (tgl n tss c) (tgl n tss d):=⟨by rw[a1g (λt a=>(h t a).1),a1g (λt a=>(h t a).1)],λj _=>by
 rw[a4h j tss c _ bw λt a=>(h t a).1,a4h j tss d _ bw λt a=>(h t a).1];have:=b4B (tss.map λt=>t.getD j 0) c d (λx e=>by
  obtain⟨t,a,rfl⟩:=aM.mp e;exact a6W (h t a).2 j) b
 omega⟩
def a7W(h:SumOf n tss u)(d:∀t∈tss,Nv n t):∃c,c.length=tss.length/\(∀x∈c,0<=x)/\tgl n tss c=u:=by
 induction h with
 |nil=>exact⟨[],rfl,(λ_ z=>nomatch z),rfl⟩
 |@snoc tss u t k h g =>
  obtain⟨c,h1,h2,e⟩:=g λx z=>d x (aK _ z);have a:=d t (by simp);have b:=h.nv λx z=>d x (aK _ z);refine⟨c++[(k:Int)],by simp[h1],λx f=>?_,?_⟩
  .rcases aA.mp f with z|z
   .exact h2 x z
   .rw[aB.mp z];omega
  .show TgA _ _ _=_;rw[a7I _ _ _ _ _ h1.symm];rw[show TgA (List.replicate n 0) tss c=u from e];refine a3Z (by rw[G6 _ _ (by rw[B1,b.1,a.1]),B1,G9 (by rw[b.1,a.1]),b.1,a.1]) λj _=>?_;rw[a1d _ _ (by rw[B1,b.1,a.1]),a1c,Y6 (by rw[b.1,a.1])]
variable (hR:∀r∈rss,r.length=n)(hrow:row.length=n)(hL:∀v,v∈tss↔Least rss (fre n) v)
include hL in
theorem a9i:∀t∈tss,t.length=n/\∀x∈t,0<=x:=λt a=>⟨by have:=((hL t).mp a).an.len;rwa[B2]at this,((hL t).mp a).an.nn⟩
include hL hrow in
theorem b0p(h:c.length=tss.length)(f:∀x∈c,0<=x)(g:dot (tss.map (dot row)) c=0)(hp:0<c.sum):Answer (rss++[row]) n (tgl n tss c):=by
 have e:=a9i hL;have a:∀t∈tss,t.length=n:=λt b=>(e t b).1;refine⟨a1g a c,b7O e f,ans_iff.mpr λr i=>?_,?_⟩
 .rw[a5V r tss c _ bw a,a1A,eN];rcases aA.mp i with z|z
  .have:tss.map (dot r)=List.replicate tss.length 0:=List.eq_replicate_iff.mpr ⟨aj ..,λx d=>by
    obtain⟨t,b,rfl⟩:=aM.mp d;exact ans_iff.mp ((hL t).mp b).an.ans r z⟩
   rw[this];exact a1G _ _
  .rw[aB.mp z];exact g
 .rw[a5l tss c _ bw a,a3s,eN];have:=b0h (tss.map List.sum) c (by rw[aj,h]) (λx d=>by
   obtain⟨t,b,rfl⟩:=aM.mp d;have:=((hL t).mp b).an.pos;omega) f
  omega
include hR hrow hL in
theorem a4J{a:qI}(h:Least (rss++[row]) (fre n) a):∃c,Cnt tss row c/\tgl n tss c=a:=by
 have k:=a9i hL;have f:∀t∈tss,t.length=n:=λt x=>(k t x).1;have e:=h.an;rw[B2]at e;have b:=ans_iff.mp e.ans;have u:=a7X (rss:=rss) (tss:=tss) (cs:=fre n) (by rw[B2];exact hR) hL a.sum.toNat a (by omega) (by rw[B2];exact⟨e.len,e.nn⟩) (ans_iff.mpr λr p=>b r (aK _ p)) (a4v _ _);rw[B2]at u;obtain⟨c,q,s,i⟩:=a7W u k;have m:dot (tss.map (dot row)) c=0:=by
  have:=a5V row tss c (List.replicate n 0) bw f;rw[show TgA (List.replicate n 0) tss c=a from i,a1A,eN,b row (by simp)]at this;exact this.symm
 have l:0<c.sum:=by
  refine bN λz=>?_;have v:=a3e (n:=tss.length) ⟨q,s⟩ z;have hs:=a5l tss c (List.replicate n 0) bw f;rw[show TgA (List.replicate n 0) tss c=a from i,a3s,v,a1A]at hs;have:=e.pos;omega
 obtain⟨d,hd,w⟩:=J1 (rss:=[tss.map (dot row)]) (cs:=fre tss.length) c.sum.toNat (by omega) ⟨by rw[B2,q],s,ans_iff.mpr λr p=>by rw[aB.mp p];exact m,l⟩ (a4v _ _);have o:d.length=tss.length:=by have:=hd.an.len;rwa[B2]at this
 have j:=b0p hrow hL o hd.an.nn (ans_iff.mp hd.an.ans _ (by simp)) hd.an.pos;have g:=b2n k w;rw[i]at g;exact⟨d,hd,h.min _ (by rw[B2];exact j) g⟩
include hR hrow hL in
theorem b1n{most:Nat}{d:LLI}(h:NarR tss row most d)(v:qI):v∈d↔Least (rss++[row]) (fre n) v:=by
 have j:∀{c:qI},Cnt tss row c->Answer (rss++[row]) n (tgl n tss c):=λ{c} b=>b0p hrow hL (by have:=b.an.len;rwa[B2]at this) b.an.nn (ans_iff.mp b.an.ans _ (by simp)) b.an.pos;rw[h.mem v,hrow];constructor
 .rintro⟨⟨c,b,rfl⟩,hm⟩;refine⟨by rw[B2];exact j b,a4v _ _,λu i f=>?_⟩;obtain⟨a,k,g⟩:=J1 (rss:=rss++[row]) (cs:=fre n) u.sum.toNat (by have:=i.pos;omega) i (a4v _ _);have e:=hm a (a4J hR hrow hL k) (g.trans f);rw[<-e]at f⊢;have:=g.sum.1;exact f.eq this
 .intro hv;refine⟨a4J hR hrow hL hv,λu i f=>?_⟩;obtain⟨c,b,rfl⟩:=i;exact hv.min _ (by rw[B2];exact j b) f
end
section
variable {P:qG}{w:World}{K:qF}{mg:Str->qD qB}{base:Heap}
inductive IspNought(vs:qA V)(H:Hp)(Q:VK)(E:XK):Prop
 |mk (n:Int) (_:vs=[.int n]) (_:1<=n) (_:n<=1000) (_:∀v H',Same H H'->IT H' v (List.replicate n.toNat 0)->Q v H'):IspNought  vs H Q E
def a6B:Sp:=λvs H Q E=>IspNought  vs H Q E
def b0Q:FnScope ["width"] ["width"] (A1 a1m):={}
def b1i(F:FunAt K mg "nought" a1m ["width"]):Ok P w K mg base "nought" 1 ["width"] a6B:=by
 refine F.okJ b0Q (λvs H Q E h=>?_) (λb f A a s H vs Q E d h=>?_)
 .obtain⟨n,rfl,_⟩:=h;rfl
 .obtain⟨n,rfl,h1,h2,k⟩:=h;refine⟨_,(A4 (A9 (a5O (T4 (jaC A6 jaN)) (jv 0)))),?_⟩;have g:(1000:Nat)<=sizeLine:=by rw[a'];decide
  refine⟨by show 1<=sizeLine;omega,λp c=>⟨_,rfl,p,[.int 0],n,rfl,rfl,A0,by simp,h1,?_,λq H' s e=>?_⟩⟩
  .show(1:Int)*n<=_;omega
  .rw[a7t]at e;exact k _ _ (((Same.refl H).upd c).trans s) ⟨q,rfl,e⟩
inductive IspZip(g:Int->Int->Int)(vs:qA V)(H:Hp)(Q:VK)(E:XK):Prop
 |mk (x:_) (y:_) (xs:_) (ys:_) (_:vs=[x,y]) (_:IT H x xs) (_:IT H y ys) (_:xs.length<=1000) (_:∀v H',Same H H'->IT H' v (List.zipWith g xs ys)->Q v H'):IspZip g vs H Q E
def b7e(g:Int->Int->Int):Sp:=λvs H Q E=>IspZip g vs H Q E
def b5n:FnScope ["one","other"] ["one","other"] (A1 a5D):={}
def b6h(F:FunAt K mg "plus" a5D ["one","other"])(T:Tx mg):Ok P w K mg base "plus" 1 ["one","other"] (b7e λa b=>a+b):=by
 refine F.okJ b5n (λvs H Q E h=>?_) (λe f A d s H vs Q E m h=>?_)
 .obtain⟨x,y,xs,ys,rfl,_⟩:=h;rfl
 .obtain⟨_,_,xs,ys,rfl,⟨a,rfl,ha⟩,⟨b,rfl,hb⟩,c,k⟩:=h;refine⟨_,(A4 (A9 (C7 K rfl T.b_tuple (jaC (B7 (N:=["a","b"]) (src:=[none,none]) (a0V K rfl T.b_zip (jaC (jv 0) (jaC (jv 1) jaN))) (by show C0 _ _=true;rfl) (by rfl) (by rfl)
 (λ_ _ _ _ _=>(L7 K 2 (B3 (A5 (i:=0) (L2.nd ["a","b"]) rfl (Or.inl rfl)) (B3 (A5 (i:=1) (L2.nd ["a","b"]) rfl (Or.inl rfl)) J0)))) (λ_ _ _ _ _=>C4) (λ_ _ _ _ _=>(P6 (jv 0) (jv 1)))) jaN)))),?_⟩
  refine⟨_,rfl,_,rfl,true,true,a,b,rfl,⟨_,SqT.of ha⟩,⟨_,SqT.of hb⟩,?_⟩;refine a6h (caps:=[]) (λx y=>V.int (x+y)) (sqt ha) (sqt hb) c (λH' s=>⟨sqt (s _ _ ha),sqt (s _ _ hb)⟩) rfl (λx y H1 j _ q=>⟨_,rfl,_,rfl,_,_,rfl,rfl,q⟩) λH1 p s g=>?_;rw[a5g (λx y=>x+y) V.int];refine⟨p,_,rfl,.inl ⟨SqL.of A0,λl c=>?_⟩⟩;exact k _ _ ((s.upd g).upd c) ⟨l,rfl,A0⟩
inductive IspTimes(vs:qA V)(H:Hp)(Q:VK)(E:XK):Prop
 |mk (m:Int) (x:V) (xs:qI) (_:vs=[.int m,x]) (_:IT H x xs) (_:xs.length<=1000) (_:0<=m) (_:m<2 ^ 63) (_:∀v H',Same H H'->IT H' v (xs.map λz=>m*z)->Q v H'):IspTimes  vs H Q E
def a9q:Sp:=λvs H Q E=>IspTimes  vs H Q E
def b2N:FnScope ["many","one"] ["many","one"] (A1 a2O):={}
def b3z(F:FunAt K mg "times" a2O ["many","one"])(T:Tx mg):Ok P w K mg base "times" 1 ["many","one"] a9q:=by
 refine F.okJ b2N (λvs H Q E h=>?_) (λd f A c s H vs Q E j h=>?_)
 .obtain⟨m,x,xs,rfl,_⟩:=h;rfl
 .obtain⟨m,_,xs,rfl,⟨a,rfl,ha⟩,b,m0,m1,k⟩:=h;refine⟨_,(A4 (A9 (C7 K rfl T.b_tuple (jaC (B7 (N:=["a","many"]) (src:=[none,some 0]) (E4 K (jv 1)) (by show C0 _ _=true;rfl) (by rfl) (by rfl)
 (λ_ _ _ _ _=>(A5 (i:=0) (L2.nd ["a","many"]) rfl (Or.inl rfl))) (λ_ _ _ _ _=>C4) (λ_ _ _ _ _=>(a0M (jv 1) (jv 0)))) jaN)))),?_⟩
  refine⟨_,rfl,a,rfl,⟨_,SqT.of ha⟩,?_⟩;refine a1f (caps:=[some (.int m)]) (λz=>V.int (m*z)) b (λH' s=>SqT.of (s _ _ ha)) rfl (λx H1 g _ _ q=>⟨_,rfl,_,rfl,_,_,rfl,rfl,.inl ⟨by omega,by omega⟩,q⟩) λH1 p s e=>?_;rw[show(xs.map λx=>V.int (m*x))=(xs.map λx=>m*x).map V.int by rw[cD];rfl];refine⟨p,_,rfl,.inl ⟨SqL.of A0,λl b=>?_⟩⟩;exact k _ _ ((s.upd e).upd b) ⟨l,rfl,A0⟩
inductive IspTog(vs:qA V)(H:Hp)(Q:VK)(E:XK):Prop
 |mk (t c:qE) (us:qA V) (rss:LLI) (cs:qI) (n:Nat) (_:vs=[.ref t,.ref c,.int n]) (_:H t=some (.tup us)) (_:Its H us rss) (_:H c=some (.tup (cs.map V.int))) (_:1<=n) (_:n<=1000) (_:(∀r∈rss,r.length=n)) (_:(∀c∈cs,0<=c/\c<2 ^ 63)) (_:∀v H',Same H H'->IT H' v (TgA (List.replicate n 0) rss cs)->Q v H'):IspTog  vs H Q E
def b7f:Sp:=λvs H Q E=>IspTog  vs H Q E
def sc_together:FnScope ["told","counts","width","whole","one","many"] ["told","counts","width"] (A1 V9):={}
def a6R(F:FunAt K mg "together" V9 ["told","counts","width"])(T:Tx mg)(d:Ok P w K mg base "nought" 1 ["width"] a6B)(g:Ok P w K mg base "times" 1 ["many","one"] a9q)(k:Ok P w K mg base "plus" 1 ["one","other"] (b7e λa b=>a+b)):Ok P w K mg base "together" 2 ["told","counts","width"] b7f:=by
 refine F.okJ sc_together (λvs H Q E h=>?_) (λO f A M s H vs Q E u h=>?_)
 .obtain⟨t,c,us,rss,cs,n,rfl,_⟩:=h;rfl
 .obtain⟨t,c,us,rss,cs,n,rfl,ht,hI,hc,hn1,hn,hR,hC,kk⟩:=h;refine⟨_,(A2 (B4 (i:=3) sc_together.nd rfl (Or.inl rfl) (A7 d (u.mono (by omega)) rfl (jaC (jv 2) jaN)))
 (A2 (J3 (a0V K rfl T.b_zip (jaC (jv 0) (jaC (jv 1) jaN))) (L7 K 2 (B3 (A5 (i:=4) sc_together.nd rfl (Or.inl rfl)) (B3 (A5 (i:=5) sc_together.nd rfl (Or.inl rfl)) J0)))
 (A4 (D4 (a9Q (jv 5) A6)
 (A4 (B4 (i:=3) sc_together.nd rfl (Or.inl rfl) (A7 k (u.mono (by omega)) rfl (jaC (jv 3) (jaC (A7 g (u.mono (by omega)) rfl (jaC (jv 5) (jaC (jv 4) jaN))) jaN)))))
 C2)))
 (A4 (A9 (jv 3))))),?_⟩
  refine⟨_,rfl,_,rfl,by omega,by omega,λS H1 s1 y=>?_⟩;rw[bf]at y;dsimp only[B0];refine⟨_,rfl,_,rfl,true,true,t,c,rfl,⟨_,SqT.of (s1 _ _ ht)⟩,⟨_,SqT.of (s1 _ _ hc)⟩,?_⟩;refine b6C (k1:=true) (k2:=true) (xs:=us) (zs:=cs.map V.int) (λi σ H'=>Ex4 λv J L qN=>An5 (σ=[some (.ref t),some (.ref c),some (.int n),some v,J,L]) (Same H H') (IT H' v qN) (qN.length=n) (TgA qN (rss.drop i) (cs.drop i)=TgA (List.replicate n 0) rss cs))
   ⟨S,none,none,_,rfl,s1,y,bw,rfl⟩ (λi σ H' _ _ h=>by obtain⟨_,_,_,_,_,s',_⟩:=h;exact⟨SqT.of (s' _ _ ht),SqT.of (s' _ _ hc)⟩) ?_ ?_
  .rintro i x z σ H' q hx hz' ⟨v,J,L,qN,rfl,s',hv',hal,hT⟩ hq;obtain⟨j,p,rfl⟩:=T8 hz';obtain⟨r,u,C,ra,rfl,hra⟩:=hI.mem hx;have D:=hR r u;have m:=hC j (aH p);rw[a2f C,a2f p]at hT;refine⟨q,[.ref ra,.int j],rfl,SqT.of A0,rfl,.ref ra,[.int j],rfl,.int j,[],rfl,rfl,?_⟩;have B:=s'.upd (o:=.tup [.ref ra,.int j]) hq;have l:=hv'.same ((Same.refl H').upd (o:=.tup [.ref ra,.int j]) hq);generalize upd H' q (.tup [.ref ra,.int j])=X at B l;dsimp only[B0];refine⟨_,rfl,_,_,rfl,rfl,_,rfl,a1Y (λe=>?_) (λe=>?_)⟩
   .refine⟨_,rfl,_,rfl,_,rfl,j,.ref ra,r,rfl,⟨ra,rfl,B _ _ hra⟩,by omega,m.1,m.2,λU Y N G=>?_⟩;refine⟨v,U,qN,_,rfl,l.same N,G,by omega,λW Z R I=>?_⟩;exact⟨W,_,_,Q6 qN (E7 j r),rfl,(B.trans N).trans R,I,by rw[G6 _ _ (by rw[B1];omega),B1];exact D,hT⟩
   .have e0:j=0:=by
     have:¬0<j:=λz=>e (bb z);omega
    subst e0;change TgA (Q6 qN (E7 0 r)) _ _=_ at hT;rw[b0B qN r (by omega)]at hT;exact⟨v,_,_,qN,rfl,B,l,hal,hT⟩
  .rintro σ H' ⟨v,J,L,qN,rfl,s',hv',hal,hT⟩;have e:qN=TgA (List.replicate n 0) rss cs:=by
    rw[<-hT,aj,hI.1];by_cases h:rss.length<=cs.length
    .rw[c_ h,fJ];cases cs.drop rss.length<;>rfl
    .rw[Nat.min_eq_right (by omega),fJ];cases rss.drop cs.length<;>rfl
   subst e;exact⟨_,rfl,kk _ _ s' hv'⟩
end
def Tk(H H':Hp):Prop:=∀c xs,H c=some (HO.tup xs)->H' c=some (.tup xs)
def Tk.trans{a:Hp}(h:Tk H H')(g:Tk H' a):Tk H a:=λc xs e=>g c xs (h c xs e)
def Tk.same(s:Same H H'):Tk H H':=λc xs e=>s c _ e
def Tk.put{c:qE}{xs:qA V}{o:HO}(e:H c=some (.lst xs)):Tk H (upd H c o):=λd ys q=>by rw[A3 (K1 q e (by intro z;cases z))];exact q
def Tk.it(h:Tk H H'){v:V}{r:qI}(g:IT H v r):IT H' v r:=let ⟨a,e,q⟩:=g;⟨a,e,h _ _ q⟩
def Tk.its(h:Tk H H'){vs:qA V}(g:Its H vs rss):Its H' vs rss:=⟨g.1,λi v e=>let ⟨r,e1,e2⟩:=g.2 i v e;⟨r,e1,h.it e2⟩⟩
def a9Z{H:Hp}:∀{vs:qA V}{rss:LLI},Its H vs rss->Its H vs.reverse rss.reverse
 |[],[],_=>.nil
 |[],_::_,h=>by cases h.1
 |_::_,[],h=>by cases h.1
 |v::vs,r::rss,h=>by
  obtain⟨c,a,b⟩:=h.2 0 v rfl;have a:r=c:=by injection a
  rw[eF,eF];exact(a9Z (vs:=vs) (rss:=rss) (h.drop 1)).app (Its.one (by rw[a];exact b))
section
variable {P:qG}{w:World}{K:qF}{mg:Str->qD qB}{base:Heap}
def b9s(a:LLI):(IK a).length=a.length:=aj ..
def a9P(v:qI):(v.map (Sum.inl:Int->Key)).map kV=v.map V.int:=by rw[cD];rfl
def mem_IK{a:LLI}:v.map (Sum.inl:Int->Key)∈IK a↔v∈a:=by
 unfold IK;rw[aM];constructor
 .rintro⟨u,hu,e⟩;rw[<-a5R e];exact hu
 .intro h;exact⟨v,h,rfl⟩
def fir(n:Nat)(tss cts:LLI)(v:qI):qI:=(cts.find? λc=>decide (tgl n tss c=v)).getD []
def b0f{a:LLI}(d:qI)(h:∃c∈a,tgl n tss c=v):fir n tss (a++[d]) v=fir n tss a v:=by
 obtain⟨c,b,e⟩:=h;unfold fir;rw[List.find?_append];cases q:a.find? λc=>decide (tgl n tss c=v)with
 |some x=>rfl
 |none=>exact absurd (bb e) (List.find?_eq_none.mp q c b)
def b6F{a:LLI}{d:qI}(h:¬∃c∈a,tgl n tss c=v)(e:tgl n tss d=v):fir n tss (a++[d]) v=d:=by
 unfold fir;rw[List.find?_append,List.find?_eq_none.mpr λc b z=>h ⟨c,b,bE z⟩];simp[e]
structure NarC(tss:LLI)(row:qI)(most:Nat)(cts fss:LLI):Prop where
 ri:C8 cts
 wk:∃F W k,cts.Perm F/\Wk [tss.map (dot row)] (fre tss.length) F W [] k/\W.length<=most
 ex:∃mss srt,mss.Nodup/\(∀v,v∈mss↔∃c∈cts,tgl row.length tss c=v)/\Srt mss srt/\fss=srt.filter λv=>Lst mss v
inductive IspNarrow(D:qE)(vs:qA V)(H:Hp)(Q:VK)(E:XK):Prop
 |mk (t r:qE) (zs:qA V) (tss:LLI) (row:qI) (most:Nat) (mi:Int) (_:vs=[.ref t,.ref r,.int mi]) (_:mi=most) (_:H t=some (.tup zs)) (_:Its H zs tss) (_:H r=some (.tup (row.map V.int))) (_:1<=row.length) (_:row.length<=100) (_:zs.length<=100) (_:most<=900) (_:(∀v∈tss,v.length=row.length/\Sm v)) (_:Sb (tss.map (dot row))) (_:(∀q f g fs fss gs cts H',Same H H'->H' q=some (.tup [.ref f,.ref g])->H' f=some (.tup fs)->Its H' fs fss->H' g=some (.tup gs)->Its H' gs (fss.map (fir row.length tss cts))->NarC tss row most cts fss->Q (.ref q) H')) (_:∀H',Same H H'->a7J [tss.map (dot row)] (fre tss.length) most->E (.ref D) none H'):IspNarrow D vs H Q E
def a6C(D:qE):Sp:=λvs H Q E=>IspNarrow D vs H Q E
def sc_narrowed:FnScope ["told","row","most","totals","first","counts","found"] ["told","row","most"] (A1 W3):={}
def a6S{j:qE}(F':FunAt K mg "narrowed" W3 ["told","row","most"])(T:Tx mg)(p:Ok P w K mg base "row_sum" 1 ["row","one"] a3g)(O:Ok P w K mg base "free" 1 ["width"] a8c)(n:Ok P w K mg base "together" 2 ["told","counts","width"] b7f)(m:Ok P w K mg base "least_of" 3 ["some"] a1K)(B:OkE P w K mg base "least" 7 ["rows","caps","most"] (a5r j)):OkE P w K mg base "narrowed" 8 ["told","row","most"] (a6C j):=by
 refine F'.okE sc_narrowed (λvs H Q E h=>?_) (λf4 f A e7 s H vs Q E hr h=>?_)
 .obtain⟨t,r,zs,tss,row,most,mi,rfl,_⟩:=h;rfl
 .obtain⟨t,r,zs,tss,row,most,_,rfl,rfl,ht,hI,hrw,r1,r2,hzl,hmo,hT,hS,kq,ke⟩:=h;have hu:=hr.u60;have hz:(30000:Nat)<=sizeLine:=by rw[a'];decide
  refine⟨_,(A2 (B4 (i:=3) sc_narrowed.nd rfl (Or.inl rfl) (C7 K rfl T.b_tuple (jaC (B7 (N:=["one","row"]) (src:=[none,some 1]) (E4 K (jv 0)) (by show C0 _ _=true;rfl) (by rfl) (by rfl)
 (λ_ _ _ _ _=>(A5 (i:=0) (L2.nd ["one","row"]) rfl (Or.inl rfl))) (λ_ _ _ _ _=>C4) (λ_ _ _ _ _=>(A7 p (hr.mono (by omega)) rfl (jaC (jv 1) (jaC (jv 0) jaN))))) jaN)))
 (A2 (B4 (i:=4) sc_narrowed.nd rfl (Or.inr rfl) a9W)
 (A2 (J3 (E4 K (G7 K (a9X B (hr.mono (by omega)) rfl (jaC (T4 (jaC (jv 3) jaN)) (jaC (A7 O (hr.mono (by omega)) rfl (jaC (E5 K rfl T.b_len (jaC (jv 0) jaN)) jaN)) (jaC (jv 2) jaN)))) A6)) (A5 (i:=5) sc_narrowed.nd rfl (Or.inl rfl))
 (A4 (O6 (b6w hu (jv 4) (A7 n (hr.mono (by omega)) rfl (jaC (jv 0) (jaC (jv 5) (jaC (E5 K rfl T.b_len (jaC (jv 1) jaN)) jaN)))) (jv 5)))) (hp:=PassesOwn.leaving))
 (A2 (B4 (i:=6) sc_narrowed.nd rfl (Or.inl rfl) (A7 m (hr.mono (by omega)) rfl (jaC (b1y rfl T.b_tuple (jaC (jv 4) jaN)) jaN)))
 (A4 (A9 (T4 (jaC (jv 6) (jaC (C7 K rfl T.b_tuple (jaC (B7 (N:=["one","first"]) (src:=[none,some 4]) (E4 K (jv 6)) (by show C0 _ _=true;rfl) (by rfl) (by rfl)
 (λ_ _ _ _ _=>(A5 (i:=0) (L2.nd ["one","first"]) rfl (Or.inl rfl))) (λ_ _ _ _ _=>C4) (λ_ _ _ _ _=>(b9n hu (jv 1) (jv 0)))) jaN)) jaN))))))))),?_⟩
  refine⟨_,rfl,t,rfl,⟨_,SqT.of ht⟩,?_⟩;refine a5j (caps:=[some (.ref r)]) (λv=>V.int (dot row v)) (by omega) (λH' s=>SqT.of (s _ _ ht)) hI rfl (λv u H1 Q1 d5 D s1 q=>?_) λH1 p1 s1 d1=>?_
  .exact⟨_,rfl,_,rfl,.ref r,v,row,u,rfl,⟨r,rfl,s1 _ _ hrw⟩,D,by omega,(hT u d5).2,λH2 s2=>q H2 s2⟩
  rw[show(tss.map λv=>V.int (dot row v))=(tss.map (dot row)).map V.int by rw[cD];rfl];refine⟨p1,_,rfl,.inl ⟨SqL.of A0,λpt d4=>?_⟩⟩;have s2:=(s1.upd (o:=.lst ((tss.map (dot row)).map V.int)) d1).upd (o:=.tup ((tss.map (dot row)).map V.int)) d4;have e2:upd (upd H1 p1 (.lst ((tss.map (dot row)).map V.int))) pt (.tup ((tss.map (dot row)).map V.int)) pt=some (.tup ((tss.map (dot row)).map V.int)):=A0;generalize upd (upd H1 p1 (.lst ((tss.map (dot row)).map V.int))) pt (.tup ((tss.map (dot row)).map V.int))=H2 at s2 e2
  try dsimp only[B0,List.set]
  intro d hd
  try dsimp only[B0,List.set]
  have c8:H d=none:=s2.free hd;have a4:=(Same.refl H2).upd (o:=.dT []) hd;have s3:=s2.trans a4;have e3:upd H2 d (.dT []) d=some (.dT []):=A0;have e2:=a4 _ _ e2;generalize upd H2 d (.dT [])=H3 at s3 a4 e3 e2;refine⟨_,rfl,by show 1<=sizeLine;omega,λp4 d2=>?_⟩;have a0:=(Same.refl H3).upd (o:=.tup [.ref pt]) d2;have s4:=s3.trans a0;have e4:upd H3 p4 (.tup [.ref pt]) p4=some (.tup [.ref pt]):=A0;have e2:=a0 _ _ e2;have a8:=a0 _ _ e3;generalize upd H3 p4 (.tup [.ref pt])=H4 at s4 a0 e4 e2 a8;refine⟨_,rfl,t,_,rfl,.inr (SqT.of (s4 _ _ ht)),_,rfl,by omega,by omega,λca H5 s5 b3=>?_⟩;rw[bf,hI.1]at b3;have c9:tss.length<=100:=by rw[<-hI.1];exact hzl
  have Y:SyAt H5 p4 ca [tss.map (dot row)] (fre tss.length):=⟨⟨[.ref pt],s5 _ _ e4,Its.nil.snoc ⟨pt,rfl,s5 _ _ e2⟩,by simp⟩,b3,bq _,by rw[B2];exact c9,λr' a1=>by
   rw[aB.mp a1,B2,aj];exact⟨rfl,hS⟩⟩
  have f3:(most+1)*(tss.length+1)<=901*101:=Nat.mul_le_mul (by omega) (by omega);refine⟨_,rfl,p4,ca,_,fre tss.length,most,_,rfl,rfl,Y,by rw[B2];omega,λq t0 pp ys l ws Fl W k H6 s6 hq b9 R X d6 f9 f5 hW b6=>?_,λH6 s6 ho=>ke H6 ((s4.trans s5).trans s6) ho⟩;have c1:=s5.trans s6;have f1:=s4.trans c1;have c4:=c1 _ _ a8;have c6:∀c,c∈l↔Cnt tss row c:=λc=>X.mem_iff.trans (hW.least (λr' a1=>(Y.hR r' a1).1) c);have f2:l.length<=most:=by rw[X.length_eq];have:=hW.lv;omega
  have b5:∀c∈l,c.sum<=(most:Int)+1:=λc hc=>by
   obtain⟨i1,i2,i3,i4,i5,i6,i7,i8⟩:=hW.lv;obtain⟨i,q1,q2,lv⟩:=i2 c (i3 c (X.mem_iff.mp hc)).1;rw[lv.sum];omega
  have b0:∀v∈tss,v.length=row.length:=λv D=>(hT v D).1;refine⟨q,_,0,_,rfl,rfl,SqT.of hq,rfl,t0,rfl,⟨_,SqT.of b9⟩,?_⟩;refine a2Y (K:=K) (a:=t0) (xs:=ys) (λi σ H'=>Ex3 λ(o5:qD V) (qL:qA (qA Key×V)) (g:LLI)=>An9 (σ=[some (.ref t),some (.ref r),some (.int most),some (.ref pt),some (.ref d),o5,none]) (Same H H') (Tk H6 H') (H' d=some (.dT qL)) (qL.map (·.1)=IK g) (g.Nodup) (g.length<=i) ((∀v,v∈g↔∃c∈l.take i,tgl row.length tss c=v)) (∀v∈g,∃y,G2 qL (v.map Sum.inl)=some y/\IT H6 y (fir row.length tss (l.take i) v)))
   ⟨none,[],[],rfl,f1,λ_ _ e=>e,c4,rfl,eQ,ao _,by simp,(λ_ z=>nomatch z)⟩ (λi σ H' _ h=>by obtain⟨_,_,_,_,_,tk,_⟩:=h;exact SqT.of (tk _ _ b9)) ?_ ?_
  .rintro i x σ H7 hx ⟨o5,qL,g,rfl,s7,tk7,ed7,hk,hnd,hml7,hmem,hfir⟩;obtain⟨c,b1,c7,b2⟩:=R.mem hx;obtain⟨xa,rfl,a2⟩:=id b2;have f7:i<ys.length:=(aG.mp hx).1;have g0:=R.1;have b4:=((c6 c).mp b1).an;have Z:l.take (i+1)=l.take i++[c]:=by rw[bg,c7];rfl
   have f8:qL.length=g.length:=by rw[<-b9s g,<-hk,aj]
   try dsimp only[B0,List.set]
   refine⟨_,rfl,d,rfl,.inr ⟨qL,.inl ed7⟩,_,rfl,_,rfl,_,rfl,r,_,rfl,.inr (SqT.of (s7 _ _ hrw)),t,xa,zs,tss,c,row.length,by rw[aj];rfl,s7 _ _ ht,hI.same s7,tk7 _ _ a2,r1,by omega,b0,λy hy=>?_,λv8 H8 s8 e0=>?_⟩
   .have h1:=b4.nn y hy;have h2:=a9M b4.nn y hy;have:=b5 c b1;omega
   obtain⟨va,rfl,e1⟩:=e0;have C:=s8 _ _ ed7;have c2:=s7.trans s8;have a6:=tk7.trans (Tk.same s8);refine⟨_,rfl,qL,(tgl row.length tss c).map Sum.inl,va,C,rfl,by rw[a9P];exact e1,by omega,λv' d7=>?_,λhn=>?_⟩
   .have hin:tgl row.length tss c∈g:=mem_IK.mp (by rw[<-hk];exact a9h d7);refine⟨_,qL,g,rfl,c2,a6,C,hk,hnd,by omega,λv=>?_,λv D=>by rw[Z,b0f c ((hmem v).mp D)];exact hfir v D⟩;rw[hmem v,Z];constructor
    .rintro⟨c',h1,h2⟩;exact⟨c',aK _ h1,h2⟩
    .rintro⟨c',h1,rfl⟩;rcases aA.mp h1 with z|z
     .exact⟨c',z,rfl⟩
     .rw[aB.mp z];exact(hmem _).mp hin
   .have hni:tgl row.length tss c∉g:=λz=>a6p hn (by rw[hk];exact mem_IK.mpr z);refine⟨_,_,g++[tgl row.length tss c],rfl,λb o e=>by rw[A3 (A8 e c8)];exact c2 b o e,λb xs e=>by rw[A3 (K1 (a6 _ _ e) C (λz=>nomatch z))];exact a6 _ _ e,A0,by rw[a3t _ hn,cu,hk];unfold IK;rw[cu];rfl,a5L hnd hni,by rw[ax];show _+1<=_;omega,λv=>?_,λv D=>?_⟩
    rotate_left
    .rw[Z,b2l];by_cases ev:v=tgl row.length tss c
     .rw[az (by rw[ev]),b6F (λz=>hni (by rw[<-ev];exact(hmem v).mpr z)) ev.symm];exact⟨_,rfl,b2⟩
     .have D:v∈g:=by
       rcases aA.mp D with z|z
       .exact z
       .exact absurd (aB.mp z) ev
      rw[au (λz=>ev (a5R z)),b0f c ((hmem v).mp D)];exact hfir v D
    rw[aA,hmem v,Z,aB];constructor
    .rintro(⟨c',h1,h2⟩|rfl)
     .exact⟨c',aK _ h1,h2⟩
     .exact⟨c,by simp,rfl⟩
    .rintro⟨c',h1,rfl⟩;rcases aA.mp h1 with z|z
     .exact .inl ⟨c',z,rfl⟩
     .rw[aB.mp z];exact .inr rfl
  .rintro σ H7 ⟨o5,qL,g,rfl,s7,tk7,ed7,hk,hnd,hml7,hmem,hfir⟩;rw[R.1,br]at hmem hfir;rw[R.1]at hml7;have d0:∀v∈g,v.length=row.length:=λv D=>by
    obtain⟨c,_,rfl⟩:=(hmem v).mp D;exact a1g b0 c
   refine⟨_,rfl,d,qL,g,rfl,ed7,hk,λp8 ms d3 F=>?_⟩;have L:=(Same.refl H7).upd (o:=.tup ms) d3;have e8:upd H7 p8 (.tup ms) p8=some (.tup ms):=A0;have s8:=s7.trans L;have F:=F.same L;have C:=L _ _ ed7;generalize upd H7 p8 (.tup ms)=H8 at s8 L e8 F C;refine⟨p8,ms,g,row.length,rfl,e8,F,by rw[F.1];omega,r1,by omega,d0,λp9 fs M H9 a5 S e9 U=>?_⟩;have s9:=s8.trans a5;have c5:=a5 _ _ C
   try dsimp only[B0,List.set]
   have a9:NarC tss row most l (M.filter λv=>Lst g v):=⟨d6,⟨Fl,W,k,X,hW,b6⟩,g,M,hnd,hmem,S,rfl⟩;have f6:fs.length<=most:=by
    rw[U.1];have:=Tab.nodup_le M g S.nd λr hr=>(S.mem r).mp hr;exact Nat.le_trans (bo _ _) (by omega)
   refine⟨_,rfl,_,rfl,p9,rfl,⟨_,SqT.of e9⟩,?_⟩;refine Q0 (K:=K) (a:=p9) (xs:=fs) (by omega) (λi zs H'=>Same H9 H'/\zs.length<=i/\Its H' zs (((M.filter λv=>Lst g v).take i).map (fir row.length tss l))) ⟨Same.refl _,ao _,.nil⟩ (λi zs H' _ h=>⟨SqT.of (h.1 _ _ e9),h.2.1⟩) ?_ ?_
   .rintro i x zs' H10 hx ⟨s10,hzl',hIz⟩;obtain⟨v,d8,d9,xa,rfl,a2⟩:=U.mem hx;have e5:v∈g:=(S.mem v).mp (aP.mp d8).1;obtain⟨y,hy,e6⟩:=hfir v e5;refine⟨Sub.one,?_⟩;refine⟨_,rfl,_,rfl,d,y,rfl,?_,s10,by simp;omega,?_⟩
    .have:=DGet.t (k:=v.map Sum.inl) (s10 _ _ c5) (b:=xa) (by rw[a9P];exact s10 _ _ a2);rw[hy]at this;exact this
    .rw[bg,d9,cu];exact hIz.snoc ((((tk7.trans (Tk.same L)).trans (Tk.same a5)).trans (Tk.same s10)).it e6)
   .rintro zs' H10 ⟨s10,hzl',hIz⟩ p10 hp10;rw[U.1,br]at hIz;refine⟨p10,_,rfl,.inl ⟨SqL.of A0,λG b7=>?_⟩⟩;have I:=((Same.refl H10).upd (o:=.lst zs') hp10).upd (o:=.tup zs') b7;have c0:=s10.trans I;have a7:upd (upd H10 p10 (.lst zs')) G (.tup zs') G=some (.tup zs'):=A0;generalize upd (upd H10 p10 (.lst zs')) G (.tup zs')=c3 at c0 I a7;refine⟨by show 2<=sizeLine;omega,λf0 b8=>?_⟩;have J:=(Same.refl c3).upd (o:=.tup [.ref p9,.ref G]) b8;have a3:=c0.trans J;exact kq f0 p9 G fs _ _ _ _ (s9.trans a3) A0 (a3 _ _ e9) (U.same a3) (J _ _ a7) ((hIz.same I).same J) a9
end
end K38
namespace K38
open PySem PySem.Spec PyProof.Rows L2
variable {B:Int}{K:qF}{P:qG}{base:Heap}{mg:Str->qD qB}{most n:Nat}{rss tss:LLI}{w:World}
def a5T(v:qI):v∈K9 (fre n)↔Least [] (fre n) v:=by
 have c:(fre n).length=n:=B2 n;have a:∀j,j<n->Answer [] (fre n).length (L3 n j):=λj b=>⟨by rw[c,K0],a6r n j,rfl,by rw[a1J n j b];decide⟩;constructor
 .intro h;obtain⟨h1,_⟩:=aP.mp h;obtain⟨j,b,rfl⟩:=aM.mp h1;rw[c]at b⊢;have b:=aZ.mp b;refine⟨a j b,a4v _ _,λu g f=>f.eq ?_⟩;rw[a1J n j b];have:=g.pos;omega
 .intro h;obtain⟨j,h1,h2⟩:=a3v h.an.nn h.an.pos;have d:j<n:=by have:=h.an.len;rw[c]at this;omega
  have f:Under (L3 n j) v:=⟨by rw[K0,h.an.len,c],λi hi=>by
   rw[h.an.len,c]at hi;rw[U9 _ _ _ hi];by_cases e:i=j
   .rw[az e,e];exact h2
   .rw[au e];exact a6W h.an.nn i⟩
  rw[<-h.min _ (a j d) f];exact aP.mpr ⟨aM.mpr ⟨j,aZ.mpr (by rw[c];exact d),by rw[c]⟩,a4v _ _⟩
def b4O{xs:qA V}{v:V}(h:xs[xs.length-1]?=some v):atI xs (-1)=some v:=by
 have a:0<xs.length:=by
  have:=(aG.mp h).1;omega
 unfold atI ixN;rw[au (by decide),az (by omega),Option.bind_some,show((-1:Int)+(xs.length:Int)).toNat=xs.length-1 by omega];exact h
def NarC.toR{row:qI}{b m:LLI}(w:∀v∈tss,v.length=row.length)(h:NarC tss row most b m):NarR tss row most m:=by
 obtain⟨F,W,k,j,x,B⟩:=h.wk;obtain⟨s,t,D,a,S,rfl⟩:=h.ex;have hR:∀C∈[tss.map (dot row)],C.length=(fre tss.length).length:=λC y=>by rw[aB.mp y,B2,aj]
 have f:∀c,c∈b↔Cnt tss row c:=λc=>j.mem_iff.trans (x.least hR c);have A:b.length<=most:=by rw[j.length_eq];have:=x.lv;omega
 have n:∀c∈b,c.sum<=(most:Int)+1:=λc l=>by
  obtain⟨I,G,H,J,K,L,M,N⟩:=x.lv;obtain⟨i,O,P,lv⟩:=G c (H c (j.mem_iff.mp l)).1;rw[lv.sum];omega
 have g:∀v∈s,v.length=row.length:=λv p=>by
  obtain⟨c,_,rfl⟩:=(a v).mp p;exact a1g w c
 have d:∀v,v∈s↔∃c,Cnt tss row c/\tgl row.length tss c=v:=λv=>(a v).trans ⟨λ⟨c,h1,h2⟩=>⟨c,(f c).mp h1,h2⟩,λ⟨c,h1,h2⟩=>⟨c,(f c).mpr h1,h2⟩⟩;have z:t.length<=most:=by
  have h1:=Tab.nodup_le t (b.map (tgl row.length tss)) S.nd λr E=>by
   obtain⟨c,l,e⟩:=(a r).mp ((S.mem r).mp E);exact aM.mpr ⟨c,l,e⟩
  rw[aj]at h1;omega
 refine⟨?_,S.nd.sublist dY,ba (bo _ _) z,λv=>?_,λv p=>?_⟩
 .exact List.Pairwise.sublist dY S.ri
 .rw[aP,S.mem v,d v];refine and_congr_right λp=>?_;have q:=g v ((d v).mpr p);unfold Lst;rw[fF,dN];constructor
  .intro h u hu hU;have o:=(d u).mpr hu;have:=h u o;rw[(E1 (by rw[g u o,q])).mpr hU,Bool.and_true]at this;simpa using this
  .intro h u hu hb;rw[aO]at hb;have:=h u ((d u).mp hu) ((E1 (by rw[g u hu,q])).mp hb.2);rw[this]at hb;simp at hb
 .obtain⟨c,l,e⟩:=(a v).mp ((S.mem v).mp (aP.mp p).1);exact⟨c,(f c).mp l,e,n c l⟩
structure StO(n:Nat)(rss tss:LLI):Prop where
 ri:C8 tss
 nd:tss.Nodup
 mem:∀v,v∈tss↔Least rss (fre n) v
def StO.eq{a b:LLI}(h:StO n rss a)(g:StO n rss b):a=b:=Z9 h.ri g.ri h.nd g.nd λv=>(h.mem v).trans (g.mem v).symm
def OvB(n most:Nat)(rss:LLI):Prop:=∃i row tss,rss[i]?=some row/\StO n (rss.take i) tss/\a7J [tss.map (dot row)] (fre tss.length) most
def NoB(n most i:Nat)(rss:LLI):Prop:=∀j row tss,j<i->rss[j]?=some row->StO n (rss.take j) tss->¬a7J [tss.map (dot row)] (fre tss.length) most
def NoB.all(h:NoB n most rss.length rss):¬OvB n most rss:=λ⟨i,row,tss,h1,h2,a⟩=>h i row tss (aG.mp h1).1 h1 h2 a
def NoB.next{i:Nat}{row:qI}(h:NoB n most i rss)(d:rss[i]?=some row)(S:StO n (rss.take i) tss)(c:¬a7J [tss.map (dot row)] (fre tss.length) most):NoB n most (i+1) rss:=λj a b f h1 h2=>by
 by_cases e:j=i
 .subst e;rw[d]at h1;cases h1;rw[h2.eq S];exact c
 .exact h j a b (by omega) h1 h2
structure Stg(H:Hp)(n:Nat)(rss:LLI)(B:Int)(x:V)(tss:LLI):Prop where
 ex:∃(a:qE) (zs:qA V),x=.ref a/\H a=some (.tup zs)/\Its H zs tss
 ri:C8 tss
 nd:tss.Nodup
 len:tss.length<=100
 bd:∀v∈tss,∀y∈v,y<=B
 mem:∀v,v∈tss↔Least rss (fre n) v
def Stg.o{H:Hp}{x:V}(h:Stg H n rss B x tss):StO n rss tss:=⟨h.ri,h.nd,h.mem⟩
def Stg.tk{H H':Hp}{x:V}(h:Stg H n rss B x tss)(k:Tk H H'):Stg H' n rss B x tss:=let ⟨a,zs,e1,e2,e3⟩:=h.ex;⟨⟨a,zs,e1,k _ _ e2,k.its e3⟩,h.ri,h.nd,h.len,h.bd,h.mem⟩
def a7y{R B:Int}(hR:0<=R)(c:0<=B):∀(r v:qI),(∀z∈r,-R<=z/\z<=R)->(∀y∈v,0<=y/\y<=B) -> -(R*B*(v.length:Int))<=dot r v/\dot r v<=R*B*(v.length:Int)
 |[],v,_,_=>by
  have:=dV (dV hR c) (Int.natCast_nonneg v.length);simp only[dot,List.zipWith_nil_left,List.sum_nil];omega
 |z::r,[],_,_=>by simp[dot]
 |z::r,y::v,d,e=>by
  have h1:=a7y hR c r v (λq a=>d q (aq _ a)) (λq a=>e q (aq _ a));have f:=d z ar;have b:=e y ar;have h:z*y<=R*y:=cA f.2 b.1;have g : -R*y<=z*y:=cA f.1 b.1;have i:R*y<=R*B:=cn b.2 hR;rw[Int.neg_mul]at g;rw[C3,aT,Int.natCast_succ,fH,Int.mul_one];omega
def b8T{c:qI}{M:Int}(g:∀t∈tss,t.length=n/\∀x∈t,0<=x/\x<=B)(f:0<=B)(h:c.length=tss.length)(a:∀x∈c,0<=x)(hs:c.sum<=M):∀y∈tgl n tss c,y<=B*M:=λy l=>by
 obtain⟨j,i,rfl⟩:=bS.mp l;have e:=a4h j tss c (List.replicate n 0) bw λt d=>(g t d).1;rw[ak,ai i,a8X,eN]at e;have e:(tgl n tss c)[j]=dot (tss.map λt=>t.getD j 0) c:=e;rw[e];have h1:=b0j (B:=B) (tss.map λt=>t.getD j 0) c (λx k=>by
  obtain⟨t,d,rfl⟩:=aM.mp k;by_cases b:j<t.length
  .exact((g t d).2 _ (a8G b)).2
  .rw[ak,bO (by omega)];exact f) a (by rw[aj,h])
 have h2:=cn hs f;omega
def bnd(most i:Nat):Int:=((most+1:Nat):Int) ^ i
def a4f(most i:Nat):bnd most (i+1)=bnd most i*((most:Int)+1):=by unfold bnd;rw[Int.pow_succ];rfl
def a6c(most i:Nat):1<=bnd most i:=by
 induction i with
 |zero=>show(1:Int)<=_ ^ 0;rw[Int.pow_zero];exact eC _
 |succ i a =>
  rw[a4f];have:=cn (show(1:Int)<=(most:Int)+1 by omega) (show 0<=bnd most i by omega);omega
def a7H{i j:Nat}(h:i<=j):bnd most i<=bnd most j:=by
 induction h with
 |refl=>exact eC _
 |step _ a =>
  rw[a4f];have:=a6c most ‹_›;have:=cn (show(1:Int)<=(most:Int)+1 by omega) (show 0<=bnd most ‹_› by omega);omega
inductive IspByRows(D:qE)(vs:qA V)(H:Hp)(Q:VK)(E:XK):Prop
 |mk (ra:qE) (us:qA V) (rss:LLI) (n most:Nat) (wi mi R:Int) (_:vs=[.ref ra,.int wi,.int mi]) (_:wi=n) (_:mi=most) (_:H ra=some (.tup us)) (_:Its H us rss) (_:us.length<=1000) (_:1<=n) (_:n<=100) (_:most<=100) (_:1<=R) (_:(∀r∈rss,r.length=n/\∀z∈r,-R<=z/\z<=R)) (_:R*bnd most rss.length*(n:Int)<2 ^ 190) (_:bnd most rss.length<2 ^ 60) (_:(∀q ss H',Same H H'->H' q=some (.tup ss)->ss.length=rss.length+1->(∀i x,ss[i]?=some x->∃tss,Stg H' n (rss.take i) (bnd most i) x tss)->¬OvB n most rss->Q (.ref q) H')) (_:∀H',Same H H'->OvB n most rss->E (.ref D) none H'):IspByRows D vs H Q E
def a6D(D:qE):Sp:=λvs H Q E=>IspByRows D vs H Q E
def sc_by_rows:FnScope ["rows","width","most","stages","row"] ["rows","width","most"] (A1 a0v):={}
def a8t{d:qE}(F':FunAt K mg "by_rows" a0v ["rows","width","most"])(T:Tx mg)(G:Ok P w K mg base "free" 1 ["width"] a8c)(k:Ok P w K mg base "first_steps" 2 ["caps"] a2M)(p:OkE P w K mg base "narrowed" 8 ["told","row","most"] (a6C d)):OkE P w K mg base "by_rows" 9 ["rows","width","most"] (a6D d):=by
 refine F'.okE sc_by_rows (λvs H Q E h=>?_) (λc0 f A b9 s H vs Q E U h=>?_)
 .obtain⟨ra,us,rss,n,most,wi,mi,R,rfl,_⟩:=h;rfl
 .obtain⟨ra,us,rss,n,most,_,_,R,rfl,rfl,rfl,hra,hI,hul,n1,n2,hmo,hR0,hR,hbig,hbig2,kq,ke⟩:=h;have hu:=U.u60;have hz:(30000:Nat)<=sizeLine:=by rw[a'];decide
  refine⟨_,(A2 (B4 (i:=3) sc_by_rows.nd rfl (Or.inl rfl) (T7 (jaC (A7 k (U.mono (by omega)) rfl (jaC (A7 G (U.mono (by omega)) rfl (jaC (jv 1) jaN)) jaN)) jaN)))
 (A2 (J3 (E4 K (jv 0)) (A5 (i:=4) sc_by_rows.nd rfl (Or.inl rfl))
 (A4 (O6 (a0A K (jv 3) (jaC (G7 K (a9X p (U.mono (by omega)) rfl (jaC (N3 K (jv 3) (a3N A6)) (jaC (jv 4) (jaC (jv 2) jaN)))) A6) jaN)))) (hp:=PassesOwn.leaving))
 (A4 (A9 (C7 K rfl T.b_tuple (jaC (jv 3) jaN)))))),?_⟩
  refine⟨_,rfl,_,rfl,by omega,by omega,λca H1 s1 X=>?_⟩;rw[bf]at X;refine⟨ca,fre n,rfl,X,bq _,by rw[B2];exact n2,λp2 zs tss H2 s2 e2 a3 I b4=>?_⟩;have Z:=s1.trans s2;refine⟨by show 1<=sizeLine;omega,λl hl=>?_⟩;have b1:H l=none:=Z.free hl;have O:=(Same.refl H2).upd (o:=.lst [.ref p2]) hl;have s3:=Z.trans O;have e3:upd H2 l (.lst [.ref p2]) l=some (.lst [.ref p2]):=A0;have S0:Stg (upd H2 l (.lst [.ref p2])) n (rss.take 0) (bnd most 0) (.ref p2) tss:=⟨⟨p2,zs,rfl,O _ _ e2,a3.same O⟩,b4,I.symm.nodup (a4R _),by
   rw[I.length_eq];have:(K9 (fre n)).length<=(fre n).length:=ba (bo _ _) (by simp);rw[B2]at this;omega,λv C y F=>by
   obtain⟨j,_,rfl⟩:=aM.mp (aP.mp (I.mem_iff.mp C)).1;unfold L3 at F;obtain⟨i,_,rfl⟩:=aM.mp F;show _<=((most+1:Nat):Int) ^ 0;rw[Int.pow_zero];split<;>omega,λv=>I.mem_iff.trans (a5T v)⟩
  generalize upd H2 l (.lst [.ref p2])=H3 at s3 e3 S0
  try dsimp only[B0,List.set]
  refine⟨_,rfl,ra,rfl,⟨_,SqT.of (s3 _ _ hra)⟩,?_⟩;refine a2Y (K:=K) (a:=ra) (xs:=us) (λi σ H'=>Ex2 λ(o4:qD V) (B:qA V)=>An6 (σ=[some (.ref ra),some (.int n),some (.int most),some (.ref l),o4]) (Same H H') (H' l=some (.lst B)) (B.length=i+1) (NoB n most i rss) (∀j x,B[j]?=some x->∃tss,Stg H' n (rss.take j) (bnd most j) x tss))
   ⟨none,[.ref p2],rfl,s3,e3,rfl,(λ_ _ _ z=>by omega),λj x t=>by
    match j,t with
    |0,t=>cases t;exact⟨tss,S0⟩
    |j+1,t=>exact nomatch t⟩ (λi σ H' _ h=>by obtain⟨_,_,_,s',_⟩:=h;exact SqT.of (s' _ _ hra)) ?_ ?_
  .rintro i x σ H4 t ⟨o4,B,rfl,s4,e4,hsl,hNo,hst⟩;obtain⟨row,b3,J,xa,rfl,b7⟩:=hI.mem t;have c6:i<rss.length:=(aG.mp J).1;obtain⟨y,F⟩:∃y,B[B.length-1]?=some y:=⟨_,ai (by omega)⟩;have b8:B[i]?=some y:=by rw[show i=B.length-1 by omega];exact F
   obtain⟨m,M⟩:=hst i y b8;obtain⟨ya,ws,rfl,a1,W⟩:=M.ex
   try dsimp only[B0,List.set]
   have u:=hR row b3;have D:∀v∈m,v.length=n/\∀y∈v,0<=y/\y<=bnd most i:=λv C=>by
    have:=((M.mem v).mp C).an;exact⟨by have h:=this.len;rwa[B2]at h,λy F=>⟨this.nn y F,M.bd v C y F⟩⟩
   have c3:=a6c most i;have a7:bnd most i<=bnd most rss.length:=a7H (by omega);have c4:R*bnd most i*(n:Int)<2 ^ 190:=by
    have h1:=cn a7 (show 0<=R by omega);have h2:=cA h1 (Int.natCast_nonneg n);omega
   have c5:bnd most i<2 ^ 60:=by omega
   have b5:Sb (m.map (dot row)):=λz hz=>by
    obtain⟨v,C,rfl⟩:=aM.mp hz;have h:=a7y (by omega) (show 0<=bnd most i by omega) row v u.2 (D v C).2;rw[(D v C).1]at h;omega
   refine⟨_,rfl,.inl ⟨rfl,_,SqL.of e4⟩,?_⟩;refine⟨_,rfl,_,rfl,l,_,_,_,rfl,rfl,SqL.of e4,b4O F,_,rfl,_,rfl,ya,xa,ws,m,row,most,_,rfl,rfl,a1,W,s4 _ _ b7,by rw[u.1];exact n1,by rw[u.1];exact n2,by rw[W.1];exact M.len,by omega,λv C=>⟨by rw[(D v C).1,u.1],λy F=>by have:=(D v C).2 y F;omega⟩,b5,λq f g fs a2 gs c1 H5 L hq hf a4 hg c2 N=>?_,λH5 L ho=>ke H5 (s4.trans L) ⟨i,row,m,J,M.o,ho⟩⟩;have b2:¬a7J [m.map (dot row)] (fre m.length) most:=by
    obtain⟨F9,W9,k9,_,a6,c7⟩:=N.wk;exact b1l a6 (by omega)
   have N:=N.toR λv C=>by rw[(D v C).1,u.1]
   refine⟨q,_,0,_,rfl,rfl,SqT.of hq,rfl,?_⟩;have e5:=L _ _ e4;refine⟨l,_,_,rfl,rfl,e5,by have:=hI.1;omega,?_⟩;have S:Tk H5 (upd H5 l (.lst (B++[.ref f]))):=Tk.put e5;refine⟨_,B++[.ref f],rfl,λb o e=>by rw[A3 (A8 e b1)];exact(s4.trans L) b o e,A0,by simp[hsl],hNo.next J M.o b2,λj x t=>?_⟩;rw[fY]at t;by_cases hj:j<B.length
   .rw[az hj]at t;obtain⟨t',S'⟩:=hst j x t;exact⟨t',(S'.tk (Tk.same L)).tk S⟩
   .rw[au hj]at t;have a9:j-B.length=0:=by
     have:=(aG.mp t).1;simp at this;omega
    rw[a9]at t;cases t;have b0:j=i+1:=by omega
    subst b0;have b6:rss.take (i+1)=rss.take i++[row]:=by rw[bg,J];rfl
    have a5:∀r∈rss.take i,r.length=n:=λr U=>(hR r (bD U)).1;have Y:=b1n a5 u.1 M.mem N;refine⟨a2,⟨f,fs,rfl,S _ _ hf,S.its a4⟩,N.ri,N.nd,by have:=N.len;omega,λv C y F=>?_,λv=>by rw[b6];exact Y v⟩;obtain⟨c,hc,rfl,a8⟩:=N.bd v C;rw[a4f];rw[u.1]at F;exact b8T D (by omega) (by have:=hc.an.len;rwa[B2]at this) hc.an.nn a8 y F
  .rintro σ H4 ⟨o4,B,rfl,s4,e4,hsl,hNo,hst⟩;refine⟨_,rfl,l,_,rfl,.inl ⟨SqL.of e4,λq hq=>?_⟩⟩;have L:=(Same.refl H4).upd (o:=.tup B) hq;rw[hI.1]at hNo;refine kq q B _ (s4.trans L) A0 (by rw[hsl,hI.1]) (λi x t=>?_) hNo.all;obtain⟨a0,S'⟩:=hst i x t;exact⟨a0,S'.tk (Tk.same L)⟩
def Bd(B:Int)(r:qI):Prop:=∀z∈r,-B<=z/\z<=B
inductive IspNumber(vs:qA V)(H:Hp)(Q:VK)(E:XK):Prop
 |mk (a b:qE) (n:Nat) (far:Int) (_:vs=[.ref a,.int far]) (_:0<=far) (_:far<=1000000000000) (_:PotAt H a b n) (_:n+10<2 ^ 60) (_:∀r H',-(far+3)<=r->r<=far+3->PotAt H' a b (n+3)->Off [a,b] H H'->Q (.int r) H'):IspNumber  vs H Q E
def a6A:Sp:=λvs H Q E=>IspNumber  vs H Q E
def a3l:FnScope ["_law_pot_here","_law_far"] ["_law_pot_here","_law_far"] (A1 M3):={}
def b1h(F:FunAt K mg "_law_number" M3 ["_law_pot_here","_law_far"])(T:Tx mg)(c:Ok P w K mg base "_law_take" 1 ["_law_pot_here","_law_many"] a0R):Ok P w K mg base "_law_number" 2 ["_law_pot_here","_law_far"] a6A:=by
 refine F.okJ a3l (λvs H Q E h=>?_) (λp f A m s H vs Q E l h=>?_)
 .obtain⟨a,b,n,far,rfl,_⟩:=h;rfl
 .obtain⟨a,b,n,far,rfl,hf0,hf1,hP,hn,k⟩:=h;refine⟨_,(A2 (D4 (a1W (a0U (a9Q (jv 1) A6) (X4 (a3L (A7 c (l.mono (by omega)) rfl (jaC (jv 0) (jaC A6 jaN))) A6))))
 (A4 (A9 (a9U (A7 c (l.mono (by omega)) rfl (jaC (jv 0) (jaC (P6 (a0M A6 (jv 1)) A6) jaN))) (jv 1))))
 C2)
 (A4 (A9 (a9U (A7 c (l.mono (by omega)) rfl (jaC (jv 0) (jaC A6 jaN))) A6)))),?_⟩
  refine⟨_,rfl,_,_,rfl,rfl,_,rfl,a1Y (λe=>?_) (λe=>?_)⟩
  .have e':0<far:=bE e;refine⟨_,rfl,a,b,_,4,rfl,hP,by omega,by decide,by decide,λy H1 t u j i=>?_⟩;refine⟨rfl,_,rfl,a1Y (λe=>?_) (λe=>⟨_,rfl,a,b,_,7,rfl,j,by omega,by decide,by decide,λr H2 q h1 g d=>⟨_,_,rfl,rfl,k _ _ (by show _<=r-3;omega) (by show r-3<=_;omega) (g.mono (by omega)) (i.trans d)⟩⟩)⟩;refine⟨_,rfl,_,rfl,_,_,rfl,rfl,.inl ⟨by omega,by omega⟩,_,_,rfl,rfl,a,b,_,_,rfl,j,by omega,by omega,by omega,λo H2 v x g d=>?_⟩;exact⟨_,rfl,_,_,rfl,rfl,k _ _ (by show _<=o-far;omega) (by show o-far<=_;omega) (g.mono (by omega)) (i.trans d)⟩
  .exact D0 (⟨_,rfl,a,b,_,7,rfl,hP,by omega,by decide,by decide,λr H2 q h1 g d=>⟨_,_,rfl,rfl,k _ _ (by show _<=r-3;omega) (by show r-3<=_;omega) (g.mono (by omega)) ((Off.refl _ _).trans d)⟩⟩)
inductive IspSys(vs:qA V)(H:Hp)(Q:VK)(E:XK):Prop
 |mk (a b:qE) (n:Nat) (wide far:Int) (_:vs=[.ref a,.int wide,.int far]) (_:1<=wide) (_:wide<=8) (_:0<=far) (_:far<=1000000000000) (_:PotAt H a b n) (_:n+1000<2 ^ 60) (_:∀q qr us rss (m:Nat) H',H' q=some (.tup [.ref qr,.int m])->H' qr=some (.tup us)->Its H' us rss->us.length<=6->(∀r∈rss,r.length=m/\Bd (far+3) r)->1<=m->m<=8->(m:Int)<=max 4 wide->PotAt H' a b (n+200)->Off [a,b] H H'->Q (.ref q) H'):IspSys  vs H Q E
def b7g:Sp:=λvs H Q E=>IspSys  vs H Q E
def sc__law_system:FnScope ["_law_pot_here","_law_wide","_law_far","_law_width","_law_many","_law_great","_law_rows","_law_k"] ["_law_pot_here","_law_wide","_law_far"] (A1 M1):={}
def b8L(F:FunAt K mg "_law_system" M1 ["_law_pot_here","_law_wide","_law_far"])(T:Tx mg)(d:Ok P w K mg base "_law_take" 1 ["_law_pot_here","_law_many"] a0R)(p:Ok P w K mg base "_law_number" 2 ["_law_pot_here","_law_far"] a6A):Ok P w K mg base "_law_system" 3 ["_law_pot_here","_law_wide","_law_far"] b7g:=by
 refine F.okJ sc__law_system (λvs H Q E h=>?_) (λf6 f A f4 s H vs Q E S h=>?_)
 .obtain⟨a,b,n,wide,far,rfl,_⟩:=h;rfl
 .obtain⟨a,b,n,wide,far,rfl,hw1,hw8,hf0,hf1,hP,hn,k⟩:=h;have hz:(3000:Nat)<=sizeLine:=by rw[a'];decide
  refine⟨_,(A2 (B4 (i:=3) sc__law_system.nd rfl (Or.inl rfl) (P6 A6 (A7 d (S.mono (by omega)) rfl (jaC (jv 0) (jaC A6 jaN)))))
 (A2 (D4 (a3L (A7 d (S.mono (by omega)) rfl (jaC (jv 0) (jaC A6 jaN))) A6)
 (A4 (B4 (i:=3) sc__law_system.nd rfl (Or.inl rfl) (P6 A6 (A7 d (S.mono (by omega)) rfl (jaC (jv 0) (jaC (jv 1) jaN))))))
 C2)
 (A2 (B4 (i:=4) sc__law_system.nd rfl (Or.inl rfl) (A7 d (S.mono (by omega)) rfl (jaC (jv 0) (jaC A6 jaN))))
 (A2 (D4 (a3L (A7 d (S.mono (by omega)) rfl (jaC (jv 0) (jaC A6 jaN))) A6)
 (A4 (B4 (i:=4) sc__law_system.nd rfl (Or.inl rfl) (A7 d (S.mono (by omega)) rfl (jaC (jv 0) (jaC A6 jaN)))))
 C2)
 (A2 (B4 (i:=5) sc__law_system.nd rfl (Or.inr rfl) (a0M (jv 2) (b9h rfl T.b_int (jaC (a7k (A7 d (S.mono (by omega)) rfl (jaC (jv 0) (jaC A6 jaN))) A6) jaN))))
 (A2 (B4 (i:=6) sc__law_system.nd rfl (Or.inl rfl) (T7 jaN))
 (A2 (J3 (E9 rfl T.b_range (jaC (jv 4) jaN)) (A5 (i:=7) sc__law_system.nd rfl (Or.inl rfl))
 (A2 (O6 (a0A K (jv 6) (jaC (C7 K rfl T.b_tuple (jaC (B7 (N:=["_law_j","_law_pot_here","_law_great"]) (src:=[none,some 0,some 5]) (E9 rfl T.b_range (jaC (jv 3) jaN)) (by show C0 _ _=true;rfl) (by rfl) (by rfl)
 (λ_ _ _ _ _=>(A5 (i:=0) (L2.nd ["_law_j","_law_pot_here","_law_great"]) rfl (Or.inl rfl))) (λ_ _ _ _ _=>C4) (λ_ _ _ _ _=>(A7 p (S.mono (by omega)) rfl (jaC (jv 1) (jaC (jv 2) jaN))))) jaN)) jaN)))
 (A4 (D4 (a1W (a0U (a9Q (jv 7) A6) (X4 (a3L (A7 d (S.mono (by omega)) rfl (jaC (jv 0) (jaC A6 jaN))) A6))))
 (A4 (a3M (N3 K (jv 6) (a9U (jv 7) A6)) (a8A (jv 6) (jv 7))))
 C2))))
 (A4 (A9 (T4 (jaC (C7 K rfl T.b_tuple (jaC (jv 6) jaN)) (jaC (jv 3) jaN)))))))))))),?_⟩
  refine⟨_,rfl,a,b,_,4,rfl,hP,by omega,by decide,by decide,λr1 H1 d5 d6 c9 Z=>?_⟩;refine⟨_,_,rfl,rfl,?_⟩;dsimp only[B0];refine V8 (λσ H'=>Ex1 λ(m:Nat)=>An6 (σ=[some (.ref a),some (.int wide),some (.int far),some (.int m),none,none,none,none]) (1<=m) (m<=8) ((m:Int)<=max 4 wide) (PotAt H' a b (n+3)) (Off [a,b] H H')) ?fin λfin=>?_
  case fin =>
   rintro σ H3 ⟨m,rfl,e2,e3,e4,a6,G⟩;clear d5 d6 c9 Z hP;refine⟨_,rfl,a,b,_,3,rfl,a6,by omega,by decide,by decide,λr4 H4 d7 d8 d1 a2=>?_⟩;dsimp only[B0];refine V8 (λσ H'=>Ex1 λ(N:Nat)=>An4 (σ=[some (.ref a),some (.int wide),some (.int far),some (.int m),some (.int N),none,none,none]) (N<=6) (PotAt H' a b (n+6)) (Off [a,b] H H')) ?fin2 λfin2=>?_
   case fin2 =>
    rintro σ H5 ⟨N,rfl,hN,X,I⟩;clear d7 d8 d1 a2 a6 G;refine⟨_,rfl,_,rfl,a,b,_,8,rfl,X,by omega,by decide,by decide,λr6 H6 _ _ R u=>?_⟩;refine⟨rfl,.inr ⟨_,rfl,?_⟩⟩;have u:=I.trans u;generalize decide (V.int r6=V.int 0)=cb;refine⟨_,_,rfl,rfl,.inr ⟨by cases cb<;>decide,by cases cb<;>decide⟩,?_⟩;obtain⟨g,hg,e1,g1⟩:∃g:Int,far*(if cb=true then 1 else 0)=g/\0<=g/\g<=far:=by
     cases cb
     .exact⟨0,by simp,by omega,by omega⟩
     .exact⟨far,by simp,by omega,by omega⟩
    dsimp only[B0];rw[hg];refine⟨bq _,λU c3=>?_⟩;have O:=X0 R c3;have c1:=b3J u R c3;have s7:=(Same.refl H6).upd (o:=.lst []) c3;have e7:upd H6 U (.lst []) U=some (.lst []):=A0;have c0:=R.same s7;have b5:=a1O (o:=.lst []) u c1;generalize upd H6 U (.lst [])=H7 at s7 e7 c0 b5;dsimp only[B0];refine⟨_,rfl,_,rfl,by omega,by omega,?_⟩;rw[bf];refine a2a (lo:=0) (n:=N) (λi σ H'=>Ex3 λo7 y rss=>An7 (σ=[some (.ref a),some (.int wide),some (.int far),some (.int m),some (.int N),some (.int g),some (.ref U),o7]) (PotAt H' a b (n+7+30*i)) (Off [a,b] H H') (H' U=some (.lst y)) (Its H' y rss) (y.length=i) (∀r∈rss,r.length=m/\Bd (far+3) r)) ⟨none,[],[],rfl,c0.mono (by omega),b5,e7,.nil,rfl,λ_ z=>nomatch z⟩ ?_ ?_
    .rintro i σ H8 hi ⟨o7,y,rss,rfl,hP8,off8,e8,hI8,hul,hR8⟩;obtain⟨nn,d2⟩:∃nn,nn=n+7+30*i:=⟨_,rfl⟩;rw[<-d2]at hP8;have hb:nn+100<2 ^ 60:=by omega
     have en:nn+30=n+7+30*(i+1):=by omega
     clear d2 X I R c0 hn;dsimp only[B0];refine⟨_,rfl,.inl ⟨rfl,_,SqL.of e8⟩,?_⟩;refine⟨_,rfl,_,rfl,by omega,by omega,?_⟩;rw[bf];refine b0U (caps:=[some (.ref a),some (.int g)]) (c:=3) (λz => -(far+3)<=z/\z<=far+3) (by omega) rfl hP8 (λi' H' N' g2 hP' q=>⟨_,rfl,_,rfl,a,b,_,g,rfl,e1,by omega,hP',by omega,λr d3 h0 h1 c8 f3=>q r d3 ⟨by omega,by omega⟩ c8 f3⟩) ?_;intro H9 pw xs f0 f2 e0 a3 e5;have e9:=a3 _ _ O e8;have d9:=E6 hI8 hP8 a3;have c4:=off8.trans a3;have J:=(Same.refl H9).upd (o:=.lst (xs.map V.int)) e5;have a8:upd H9 pw (.lst (xs.map V.int)) pw=some (.lst (xs.map V.int)):=A0;have c6:=J _ _ e9;have a9:=d9.same J;have b1:=e0.same J;have a0:=c4.trans (J.off (l:=[a,b]));generalize upd H9 pw (.lst (xs.map V.int))=b6 at J a8 c6 a9 b1 a0;refine⟨pw,_,rfl,.inl ⟨SqL.of a8,λq hq=>?_⟩⟩;have a4:=(Same.refl b6).upd (o:=.tup (xs.map V.int)) hq;have b8:=a4 _ _ c6;have a7:upd b6 q (.tup (xs.map V.int)) q=some (.tup (xs.map V.int)):=A0;have b2:=b1.same a4;have b0:=a9.same a4;have a1:=a0.trans (a4.off (l:=[a,b]));generalize upd b6 q (.tup (xs.map V.int))=b7 at a4 b8 a7 b2 b0 a1;refine⟨U,_,_,rfl,rfl,b8,by omega,?_⟩;have W:Its (upd b7 U (.lst (y++[.ref q]))) (y++[.ref q]) (rss++[xs]):=O7 (b0.snoc ⟨q,rfl,a7⟩) b8 (λ_ z=>by cases z);have b9:upd b7 U (.lst (y++[.ref q])) U=some (.lst (y++[.ref q])):=A0;have L:=a1s (o:=.lst (y++[.ref q])) b2 O;have B:=a1O (o:=.lst (y++[.ref q])) a1 c1;generalize upd b7 U (.lst (y++[.ref q]))=f5 at W b9 L B;have M:∀r∈rss++[xs],r.length=m/\Bd (far+3) r:=λr S=>by
      rcases aA.mp S with z|z
      .exact hR8 r z
      .rw[aB.mp z];exact⟨f0,f2⟩
     have Y:(y++[V.ref q]).length=i+1:=by simp[hul]
     refine⟨_,rfl,_,_,rfl,rfl,_,rfl,a1Y (λe=>?_) (λe=>?_)⟩
     .have hi0:0<i:=by have:=bE e;omega
      refine⟨_,rfl,a,b,_,8,rfl,L,by omega,by decide,by decide,λg4 d4 _ _ b3 C=>?_⟩;have a5:=C _ _ O b9;have D:=E6 W L C;refine⟨rfl,_,rfl,a1Y (λe=>?_) (λe=>?_)⟩
      .obtain⟨x,hx⟩:∃x,(y++[V.ref q])[i-1]?=some x:=⟨_,ai (by omega)⟩;obtain⟨r,S,g3,f1⟩:=D.mem hx;refine⟨_,rfl,_,rfl,_,_,rfl,rfl,U,_,_,x,rfl,rfl,SqL.of a5,?_,?_⟩
       .rw[show(0+(i:Int)-1)=((i-1:Nat):Int) by omega];exact a0G hx
       refine⟨_,rfl,_,rfl,U,_,_,i,rfl,rfl,a5,?_,?_⟩
       .rw[eN];exact c0I (by omega)
       have c7:Its d4 ((y++[V.ref q]).set i x) ((rss++[xs]).set i r):=by
        refine⟨by rw[fc,fc,D.1],λj v ej=>?_⟩;rw[fE]at ej;by_cases c2:i=j
        .subst c2;rw[az rfl,az (by omega)]at ej;cases ej;exact⟨r,by rw[fE,az rfl,az (by rw[<-D.1];omega)],f1⟩
        .rw[au c2]at ej;obtain⟨q,q1,q2⟩:=D.2 j v ej;exact⟨q,by rw[fE,au c2];exact q1,q2⟩
       refine⟨_,_,_,rfl,en ▸ a1s (b3.mono (by omega)) O,a1O (B.trans C) c1,A0,O7 c7 a5 (λ_ z=>by cases z),by rw[fc];exact Y,λq hq=>?_⟩;rcases fh hq with z|z
       .exact M q z
       .rw[z];exact M r S
      .exact⟨_,_,_,rfl,en ▸ b3.mono (by omega),B.trans C,a5,D,Y,M⟩
     .exact⟨_,_,_,rfl,en ▸ L.mono (by omega),B,b9,W,Y,M⟩
    .rintro σ H8 ⟨o7,y,rss,rfl,hP8,off8,e8,hI8,hul,hR8⟩;refine⟨_,rfl,U,_,rfl,.inl ⟨SqL.of e8,λq hq=>?_⟩⟩;have s9:=(Same.refl H8).upd (o:=.tup y) hq;have e9:upd H8 q (.tup y) q=some (.tup y):=A0;generalize upd H8 q (.tup y)=H9 at s9 e9;refine⟨_,rfl,by show 2<=sizeLine;omega,λq2 e6=>?_⟩;have J:=(Same.refl H9).upd (o:=.tup [.ref q,.int m]) e6;have c5:=s9.trans J;exact k q2 q y rss m _ A0 (J _ _ e9) (hI8.same c5) (by omega) hR8 e2 e3 e4 ((hP8.same c5).mono (by omega)) (off8.trans c5.off)
   obtain⟨N4,rfl⟩:∃t:Nat,r4=t:=⟨r4.toNat,by omega⟩;refine⟨_,rfl,a,b,_,8,rfl,d1,by omega,by decide,by decide,λr5 H5 _ _ X I=>?_⟩;refine⟨rfl,_,rfl,a1Y (λe=>?_) (λe=>fin2 _ _ ⟨N4,rfl,by omega,X.mono (by omega),(G.trans a2).trans I⟩)⟩;refine⟨_,rfl,a,b,_,7,rfl,X,by omega,by decide,by decide,λr6 H6 f9 g0 R u=>?_⟩;obtain⟨N6,rfl⟩:∃t:Nat,r6=t:=⟨r6.toNat,by omega⟩;exact fin2 _ _ ⟨N6,rfl,by omega,R.mono (by omega),((G.trans a2).trans I).trans u⟩
  obtain⟨t1,rfl⟩:∃t:Nat,r1=t:=⟨r1.toNat,by omega⟩;refine⟨_,rfl,a,b,_,8,rfl,c9,by omega,by decide,by decide,λr2 H2 _ _ d0 b4=>?_⟩;refine⟨rfl,_,rfl,a1Y (λe=>?_) (λe=>fin _ _ ⟨t1+1,?_,by omega,by omega,by omega,d0.mono (by omega),Z.trans b4⟩)⟩
  .refine⟨_,rfl,_,rfl,a,b,_,_,rfl,d0,by omega,by omega,by omega,λr3 H3 f7 f8 a6 G=>?_⟩;obtain⟨t3,rfl⟩:∃t:Nat,r3=t:=⟨r3.toNat,by omega⟩;refine⟨_,_,rfl,rfl,fin _ _ ⟨t3+1,?_,by omega,by omega,by omega,a6.mono (by omega),(Z.trans b4).trans G⟩⟩;rw[show((t3+1:Nat):Int)=1+(t3:Int) by omega];rfl
  .rw[show((t1+1:Nat):Int)=1+(t1:Int) by omega];rfl
def a5e:∀(xs ys:qI),xs.length=ys.length->((List.range xs.length).map λj=>V.bl (decide (xs.getD j 0<=ys.getD j 0))).all trV=Bel xs ys
 |[],[],_=>rfl
 |x::xs,y::ys,h=>by
  have a:=a5e xs ys (by simpa using h);rw[aT,List.range_succ_eq_map,aW,cW,cD];have e:((λj=>V.bl (decide ((x::xs).getD j 0<=(y::ys).getD j 0))) ∘ Nat.succ)=λj=>V.bl (decide (xs.getD j 0<=ys.getD j 0)):=rfl;rw[e,a];rfl
inductive IspBelL(vs:qA V)(H:Hp)(Q:VK)(E:XK):Prop
 |mk (x:_) (y:_) (xs:_) (ys:_) (_:vs=[x,y]) (_:IT H x xs) (_:IT H y ys) (_:xs.length=ys.length) (_:xs.length<=1000) (_:∀H',Same H H'->Q (.bl (Bel xs ys)) H'):IspBelL  vs H Q E
def b2F:Sp:=λvs H Q E=>IspBelL  vs H Q E
def a4l:FnScope ["_law_one","_law_other"] ["_law_one","_law_other"] (A1 O1):={}
def b6k(F:FunAt K mg "_law_below" O1 ["_law_one","_law_other"])(T:Tx mg):Ok P w K mg base "_law_below" 1 ["_law_one","_law_other"] b2F:=by
 refine F.okJ a4l (λvs H Q E h=>?_) (λd f A c s H vs Q E n h=>?_)
 .obtain⟨x,y,xs,ys,rfl,_⟩:=h;rfl
 .obtain⟨_,_,xs,ys,rfl,⟨a,rfl,ha⟩,⟨b,rfl,hb⟩,hl,hl2,k⟩:=h;refine⟨_,(A4 (A9 (N0 K rfl T.b_all (jaC (B7 (N:=["_law_j","_law_one","_law_other"]) (src:=[none,some 0,some 1]) (E9 rfl T.b_range (jaC (E5 K rfl T.b_len (jaC (jv 0) jaN)) jaN)) (by show C0 _ _=true;rfl) (by rfl) (by rfl)
 (λ_ _ _ _ _=>(A5 (i:=0) (L2.nd ["_law_j","_law_one","_law_other"]) rfl (Or.inl rfl))) (λ_ _ _ _ _=>C4) (λ_ _ _ _ _=>(b3T (G7 K (jv 1) (jv 0)) (G7 K (jv 2) (jv 0))))) jaN)))),?_⟩
  refine⟨_,rfl,a,_,rfl,.inr (SqT.of ha),_,rfl,by omega,by rw[aj];omega,?_⟩;rw[bf,aj];refine W8 (caps:=[some (.ref a),some (.ref b)]) (λj=>V.bl (decide (xs.getD j 0<=ys.getD j 0))) hl2 rfl (λj H1 m e s1 q=>?_) λH1 p s1 g=>?_
  .exact⟨_,rfl,_,rfl,a,_,_,_,rfl,rfl,SqT.of (s1 _ _ ha),N2 e,_,rfl,_,rfl,b,_,_,_,rfl,rfl,SqT.of (s1 _ _ hb),N2 (by omega),_,_,rfl,rfl,q⟩
  refine⟨false,p,_,rfl,SqL.of A0,?_,?_⟩
  .rw[aS];intro v l;obtain⟨_,_,rfl⟩:=aM.mp l;rfl
  .rw[a5e xs ys hl];exact k _ (s1.upd g)
end K38
namespace K38
open PySem PySem.Spec PyProof.Rows L2
variable {H:Hp}{a:qE}{n:Nat}{r:qI}{rss:LLI}
section
variable {P:qG}{w:World}{K:qF}{mg:Str->qD qB}{base:Heap}
structure RwP(H:Hp)(ra:qE)(us:qA V)(rss:LLI)(n:Nat):Prop where
 ha:H ra=some (.tup us)
 hI:Its H us rss
 ul:us.length<=6
 n1:1<=n
 n8:n<=8
 hR:∀r∈rss,r.length=n/\∀z∈r,-1000000000003<=z/\z<=1000000000003
def RwP.same{H H':Hp}{ra:qE}{us:qA V}{rss:LLI}{n:Nat}(h:RwP H ra us rss n)(s:Same H H'):RwP H' ra us rss n:=⟨s _ _ h.ha,h.hI.same s,h.ul,h.n1,h.n8,h.hR⟩
def c0h{B:Int}(h:∀z∈r,-B<=z/\z<=B)(b:B<2 ^ 190):Sb r:=λz a=>by
 have:=h z a;omega
def a8k(h:∀z∈r,-1000000000003<=z/\z<=1000000000003):Sb r:=c0h h (by decide)
def a8T{most i:Nat}(a:most<=40)(hi:i<=6):bnd most i<=4750104241:=by
 refine Int.le_trans (a7H hi) ?_;unfold bnd;rw[<-Int.natCast_pow];have:(most+1) ^ 6<=41 ^ 6:=Nat.pow_le_pow_left (by omega) 6;have h2:(41:Nat) ^ 6=4750104241:=by decide
 omega
def b6M{most i:Nat}(a:most<=40)(hi:i<=6)(c:n<=8):1000000000003*bnd most i*(n:Int)<2 ^ 190:=by
 have h1:=a8T a hi;have b:=a6c most i;have h2:1000000000003*bnd most i*(n:Int)<=1000000000003*bnd most i*8:=cn (by omega) (by omega);omega
def b4g{b:qE}{us vs:qA V}(h:H a=some (.tup us))(j:H b=some (.tup vs))(hI:Its H us rss)(d:Its H vs rss)(k:us.length<=1000)(l:∀r∈rss,r.length<=1000):SD H 3 (.ref a) (.ref b) :=
 .inr ⟨a,b,us,vs,rfl,rfl,h,j,by rw[hI.1,d.1],k,λi x y ex e=>by
  obtain⟨r,h1,h2,g⟩:=hI.mem ex;obtain⟨n,m,c,f⟩:=d.mem e;rw[h2]at c;cases c;exact SD.ints g f (l r h1)⟩
def SD.up{H:Hp}:∀{n:Nat}{x y:V},SD H n x y->SD H (n+1) x y
 |0,_,_,h=>h.elim
 |n+1,x,y,h=>by
  rcases h with h|⟨a,b,xs,ys,h1,h2,d,f,g,j,k⟩
  .exact .inl h
  .exact .inr ⟨a,b,xs,ys,h1,h2,d,f,g,j,λi l m e c=>(k i l m e c).up⟩
def a8d{Q:VK}{t:qE}{zs:qA V}{k:Nat}(a:H t=some (.tup zs))(q:∀p H',Same H H'->H' p=some (.tup (zs.take k))->Q (.ref p) H'):b5v K (.ref t) none (some (k:Int)) H Q:=by
 refine⟨t,zs,rfl,SqT.of a,λh=>?_,λh p b=>?_⟩
 .have h1:=h.2;rw[HT.sIx_nat]at h1;exact q t H (Same.refl _) (by rw[bJ (by omega)];exact a)
 .rw[HT.sIx_none,HT.sIx_nat]at h;refine q p _ ((Same.refl H).upd b) ?_;rw[A0,c0M (by omega)]
def RwP.take{H:Hp}{ra p:qE}{us:qA V}{rss:LLI}{n:Nat}(h:RwP H ra us rss n)(k:Nat)(hp:H p=some (.tup (us.take k))):RwP H p (us.take k) (rss.take k) n :=
 ⟨hp,h.hI.take k,by have:=h.ul;rw[aU];omega,h.n1,h.n8,λr a=>h.hR r (bD a)⟩
def Stg.sd{B:Int}{x y:V}{tss:LLI}(h:Stg H n rss B x tss)(l:n<=100){b:qE}{vs:qA V}{c:LLI}(d:y=.ref b)(i:H b=some (.tup vs))(f:Its H vs c)(j:StO n rss c):SD H 3 x y:=by
 obtain⟨a,zs,rfl,g,hI⟩:=h.ex;have e:=h.o.eq j;subst e d;exact b4g g i hI f (by rw[hI.1];have:=h.len;omega) λr k=>by
  have:=((h.mem r).mp k).an.len;rw[this,B2];omega
inductive IspLLo(vs:qA V)(H:Hp)(Q:VK)(E:XK):Prop
 |mk (ra:qE) (us:qA V) (rss:LLI) (n:Nat) (wi:Int) (_:vs=[.ref ra,.int wi]) (_:wi=n) (_:RwP H ra us rss n) (_:(∀H',Same H H'->Q .non H')) (_:∀q t pp zs tss ws F W k H',Same H H'->H' q=some (.tup [.ref t,.ref pp])->H' t=some (.tup zs)->Its H' zs tss->tss.Perm F->C8 tss->H' pp=some (.tup ws)->Its H' ws W->Wk rss (fre n) F W [] k->W.length<=100->Q (.ref q) H'):IspLLo  vs H Q E
def b7l:Sp:=λvs H Q E=>IspLLo  vs H Q E
def sc__law_least_of:FnScope ["_law_rows","_law_width","_law_told"] ["_law_rows","_law_width"] (A1 J5):={}
def b8Q(I:FunAt K mg "_law_least_of" J5 ["_law_rows","_law_width"])(T:Tx mg)(d:OkE P w K mg base "least" 7 ["rows","caps","most"] (a5r a))(b:mg "TooMany"=some (.ref a))(c:ClsX K a []):Ok P w K mg base "_law_least_of" 8 ["_law_rows","_law_width"] b7l:=by
 refine I.okJ sc__law_least_of (λvs H Q E h=>?_) (λM f A z s H vs Q E U h=>?_)
 .obtain⟨ra,us,rss,n,wi,rfl,_⟩:=h;rfl
 .obtain⟨ra,us,rss,n,_,rfl,rfl,R,kn,kq⟩:=h;have hz:(3000:Nat)<=sizeLine:=by rw[a'];decide
  have n1:=R.n1;have n8:=R.n8;have V:=R.ul;refine⟨_,(A2 (B4 (i:=2) sc__law_least_of.nd rfl (Or.inl rfl) T5)
 (A2 (a7m K (b3S (i:=2) d (U.mono (by omega)) rfl sc__law_least_of.nd rfl (Or.inl rfl) (jaC (jv 0) (jaC (a5O (T4 (jaC T5 jaN)) (jv 1)) (jaC A6 jaN)))) rfl b c (λ_=>(A4 (B4 (i:=2) sc__law_least_of.nd rfl (Or.inl rfl) T5))))
 (A4 (A9 (jv 2))))),?_⟩
  try dsimp only[B0,List.set]
  refine⟨_,rfl,by show 1<=sizeLine;omega,λp2 t=>⟨_,rfl,p2,[.non],_,rfl,rfl,A0,by simp,by omega,?_,λca L j D=>?_⟩⟩
  .show(1:Int)*_<=_;omega
  rw[bf,a2b]at D;have j:=((Same.refl H).upd (o:=.tup [.non]) t).trans j;have R3:=R.same j;have Y:SyAt L ra ca rss (fre n):=⟨⟨us,R3.ha,R3.hI,by omega⟩,by rw[D,List.map_replicate];rfl,bq _,by rw[B2];omega,λG g=>by
   rw[B2];exact⟨(R.hR G g).1,a8k (R.hR G g).2⟩⟩
  have F:(100+1)*(n+1)<=101*9:=Nat.mul_le_mul (by omega) (by omega);refine⟨ra,ca,_,fre n,100,_,rfl,rfl,Y,by rw[B2];omega,λq Z X ys l ws J W k C B S y m u x v r N e=>?_,λC B ho=>⟨a,rfl,rfl,λp O=>?_⟩⟩
  .exact⟨_,rfl,kq q Z X ys l ws J W k C (j.trans B) S y m u x v r N e⟩
  .exact⟨_,rfl,kn _ ((j.trans B).upd O)⟩
inductive IspLSt(vs:qA V)(H:Hp)(Q:VK)(E:XK):Prop
 |mk (ra:qE) (us:qA V) (rss:LLI) (n:Nat) (wi:Int) (_:vs=[.ref ra,.int wi]) (_:wi=n) (_:RwP H ra us rss n) (_:(∀H',Same H H'->Q .non H')) (_:∀q ss H',Same H H'->H' q=some (.tup ss)->ss.length=rss.length+1->(∀i x,ss[i]?=some x->∃tss,Stg H' n (rss.take i) (bnd 40 i) x tss)->Q (.ref q) H'):IspLSt  vs H Q E
def b7k:Sp:=λvs H Q E=>IspLSt  vs H Q E
def sc__law_steps:FnScope ["_law_rows","_law_width","_law_steps_here"] ["_law_rows","_law_width"] (A1 O0):={}
def b8P(l:FunAt K mg "_law_steps" O0 ["_law_rows","_law_width"])(T:Tx mg)(b:OkE P w K mg base "by_rows" 9 ["rows","width","most"] (a6D a))(c:mg "TooMany"=some (.ref a))(d:ClsX K a []):Ok P w K mg base "_law_steps" 10 ["_law_rows","_law_width"] b7k:=by
 refine l.okJ sc__law_steps (λvs H Q E h=>?_) (λm f A k s H vs Q E t h=>?_)
 .obtain⟨ra,us,rss,n,wi,rfl,_⟩:=h;rfl
 .obtain⟨ra,us,rss,n,_,rfl,rfl,R,kn,kq⟩:=h;have e:rss.length<=6:=by rw[<-R.hI.1];exact R.ul
  have u:=R.n8;refine⟨_,(A2 (B4 (i:=2) sc__law_steps.nd rfl (Or.inl rfl) T5)
 (A2 (a7m K (b3S (i:=2) b (t.mono (by omega)) rfl sc__law_steps.nd rfl (Or.inl rfl) (jaC (jv 0) (jaC (jv 1) (jaC A6 jaN)))) rfl c d (λ_=>(A4 (B4 (i:=2) sc__law_steps.nd rfl (Or.inl rfl) T5))))
 (A4 (A9 (jv 2))))),?_⟩
  try dsimp only[B0,List.set]
  refine⟨_,rfl,_,rfl,ra,us,rss,n,40,_,_,1000000000003,rfl,rfl,rfl,R.ha,R.hI,by have:=R.ul;omega,R.n1,by omega,by decide,by decide,R.hR,b6M (by decide) e u,by have:=a8T (most:=40) (by decide) e;omega,λq v H' s' r g j _=>?_,λH' s' _=>⟨a,rfl,rfl,λp o=>?_⟩⟩
  .exact⟨_,rfl,kq q v H' s' r g j⟩
  .exact⟨_,rfl,kn _ (s'.upd o)⟩
def Fol(rss:LLI)(n:Nat)(c:qI):Prop:=∀v:qI,v.length=n->(∀r∈rss,dot r v=0)->dot c v=0
def b6J(one a:qI)(b:Int)(n:Nat)(h1:one.length=n)(h2:a.length=n):((List.range n).map λj=>V.int (one.getD j 0+b*a.getD j 0))=(Q6 one (E7 b a)).map V.int:=by
 subst h2;refine dg (by rw[aj,aj,dO,G6 _ _ (by rw[B1,h1]),B1]) λi c d=>?_;rw[aj,dO]at c;rw[List.getElem_map,List.getElem_map,List.getElem_range];have:=a1d one (E7 b a) (by rw[B1,h1]) i;rw[a1c]at this;rw[<-this,ak,ai (by rw[G6 _ _ (by rw[B1,h1]),B1];exact c)];rfl
def V4:∀(xs ys:qI),dot xs ys=dot ys xs
 |[],[]=>rfl
 |[],_::_=>by simp[dot]
 |_::_,[]=>by simp[dot]
 |x::xs,y::ys=>by rw[C3,C3,V4 xs ys,fU]
def b6E{one a:qI}{b:Int}(i:one.length=n)(j:a.length=n)(h1:Fol rss n one)(h2:Fol rss n a):Fol rss n (Q6 one (E7 b a)):=λv c h=>by
 have f:=h1 v c h;have g:=h2 v c h;have a1:=V4 (Q6 one (E7 b a)) v;have d:=V4 one v;have e:=V4 a v;rw[a1,a7x _ _ _ (by rw[B1,i,j]),a1B,<-d,<-e,f,g];simp
def b6D(h:r∈rss):Fol rss n r:=λv _ g=>g r h
def b4r(rss:LLI)(n:Nat):Fol rss n (List.replicate n 0):=λv _ _=>a1G _ _
inductive IspComb(vs:qA V)(H:Hp)(Q:VK)(E:XK):Prop
 |mk (a b ra:qE) (us:qA V) (rss:LLI) (N n:Nat) (wi:Int) (_:vs=[.ref a,.ref ra,.int wi]) (_:wi=n) (_:H ra=some (.tup us)) (_:Its H us rss) (_:us.length<=4) (_:1<=n) (_:n<=8) (_:(∀r∈rss,r.length=n/\∀z∈r,-100000000003<=z/\z<=100000000003)) (_:PotAt H a b N) (_:N+100<2 ^ 60) (_:∀q c H',H' q=some (.tup (c.map V.int))->c.length=n->(∀z∈c,-300000000009<=z/\z<=300000000009)->Fol rss n c->PotAt H' a b (N+3)->Off [a,b] H H'->Q (.ref q) H'):IspComb  vs H Q E
def b2E:Sp:=λvs H Q E=>IspComb  vs H Q E
def sc__law_combined:FnScope ["_law_pot_here","_law_rows","_law_width","_law_some","_law_one","_law_other","_law_by"] ["_law_pot_here","_law_rows","_law_width"] (A1 J6):={}
def b6j(F:FunAt K mg "_law_combined" J6 ["_law_pot_here","_law_rows","_law_width"])(T:Tx mg)(c:Ok P w K mg base "_law_take" 1 ["_law_pot_here","_law_many"] a0R):Ok P w K mg base "_law_combined" 2 ["_law_pot_here","_law_rows","_law_width"] b2E:=by
 refine F.okJ sc__law_combined (λvs H Q E h=>?_) (λf2 f A d8 s H vs Q E hr h=>?_)
 .obtain⟨a,b,ra,us,rss,N,n,wi,rfl,_⟩:=h;rfl
 .obtain⟨a,b,ra,us,rss,N,n,_,rfl,rfl,hra,hI,hul,n1,n8,hR,hP,hN,k⟩:=h;have hz:(3000:Nat)<=sizeLine:=by rw[a'];decide
  have hu:=hr.u60;refine⟨_,(A2 (B4 (i:=3) sc__law_combined.nd rfl (Or.inl rfl) (c0H (a5N K rfl T.b_list (jaC (jv 1) jaN)) (T7 (jaC (a5O (T4 (jaC A6 jaN)) (jv 2)) jaN))))
 (A2 (a3M (T4 (jaC (N3 K (jv 3) (A7 c (hr.mono (by omega)) rfl (jaC (jv 0) (jaC (E5 K rfl T.b_len (jaC (jv 3) jaN)) jaN)))) (jaC (N3 K (jv 3) (A7 c (hr.mono (by omega)) rfl (jaC (jv 0) (jaC (E5 K rfl T.b_len (jaC (jv 3) jaN)) jaN)))) jaN))) (L7 K 2 (B3 (A5 (i:=4) sc__law_combined.nd rfl (Or.inr rfl)) (B3 (A5 (i:=5) sc__law_combined.nd rfl (Or.inr rfl)) J0))))
 (A2 (B4 (i:=6) sc__law_combined.nd rfl (Or.inr rfl) (N3 K (T7 (jaC A6 (jaC (a3N A6) (jaC A6 jaN)))) (A7 c (hr.mono (by omega)) rfl (jaC (jv 0) (jaC A6 jaN)))))
 (A4 (A9 (C7 K rfl T.b_tuple (jaC (B7 (N:=["_law_j","_law_one","_law_by","_law_other"]) (src:=[none,some 4,some 6,some 5]) (E9 rfl T.b_range (jaC (jv 2) jaN)) (by show C0 _ _=true;rfl) (by rfl) (by rfl)
 (λ_ _ _ _ _=>(A5 (i:=0) (L2.nd ["_law_j","_law_one","_law_by","_law_other"]) rfl (Or.inl rfl))) (λ_ _ _ _ _=>C4) (λ_ _ _ _ _=>(P6 (G7 K (jv 1) (jv 0)) (a0M (jv 2) (G7 K (jv 3) (jv 0)))))) jaN))))))),?_⟩
  refine⟨_,rfl,ra,us,rfl,.inr (SqT.of hra),λl1 c9=>?_⟩;have s1:=(Same.refl H).upd (o:=.lst us) c9;have e1:upd H l1 (.lst us) l1=some (.lst us):=A0;generalize upd H l1 (.lst us)=H1 at s1 e1;refine⟨by show 1<=sizeLine;omega,λp2 d1=>⟨_,rfl,p2,[.int 0],_,rfl,rfl,A0,by simp,by omega,?_,λg H3 s3 e3=>?_⟩⟩
  .show(1:Int)*_<=_;omega
  rw[bf,a7t]at e3;have s3:=((Same.refl H1).upd (o:=.tup [.int 0]) d1).trans s3;refine⟨by show 1<=sizeLine;omega,λl4 d0=>?_⟩;have s4:=(Same.refl H3).upd (o:=.lst [.ref g]) d0;have e4:upd H3 l4 (.lst [.ref g]) l4=some (.lst [.ref g]):=A0;generalize upd H3 l4 (.lst [.ref g])=H4 at s4 e4;have a3:=s3.trans s4;refine⟨l1,l4,us,[.ref g],rfl,rfl,a3 _ _ e1,e4,by simp;omega,λO Z=>?_⟩;have a2:=s1.trans a3;have b0:=hP.same a2;have a6:=X0 b0 Z;have s5:=a2.upd (o:=.lst (us++[.ref g])) Z;have e5:upd H4 O (.lst (us++[.ref g])) O=some (.lst (us++[.ref g])):=A0;have a7:Its (upd H4 O (.lst (us++[.ref g]))) (us++[.ref g]) (rss++[List.replicate n 0]):=(hI.same s5).snoc ⟨g,rfl,(s4.upd (o:=.lst (us++[.ref g])) Z) _ _ e3⟩;have W:=hP.same s5;generalize upd H4 O (.lst (us++[.ref g]))=H5 at s5 e5 a7 W;clear b0 a2 a3 s4 s3 e4 e3 e1 s1;have G:(us++[V.ref g]).length=us.length+1:=by simp
  have hG:∀r∈rss++[List.replicate n (0:Int)],r.length=n/\(∀z∈r,-100000000003<=z/\z<=100000000003)/\Fol rss n r:=λr hr=>by
   rcases aA.mp hr with z|z
   .exact⟨(hR r z).1,(hR r z).2,b6D z⟩
   .rw[aB.mp z];exact⟨bw,λy hy=>by rw[(List.mem_replicate.mp hy).2];decide,b4r rss n⟩
  dsimp only[B0,List.set];refine⟨_,rfl,_,rfl,_,rfl,O,_,rfl,.inl (SqL.of e5),a,b,_,_,rfl,W,by omega,by rw[G];omega,by rw[G];omega,λr6 H6 f3 f4 X u=>?_⟩;obtain⟨t6,rfl⟩:∃t:Nat,r6=t:=⟨r6.toNat,by omega⟩;have e6:=u _ _ a6 e5;have a8:=E6 a7 W u;obtain⟨x6,b6⟩:∃x,(us++[V.ref g])[t6]?=some x:=⟨_,ai (by omega)⟩;obtain⟨v,d3,_,J,rfl,b8⟩:=a8.mem b6;refine⟨O,_,_,_,rfl,rfl,SqL.of e6,a0G b6,?_⟩;refine⟨_,rfl,_,rfl,_,rfl,O,_,rfl,.inl (SqL.of e6),a,b,_,_,rfl,X,by omega,by rw[G];omega,by rw[G];omega,λr7 H7 f5 f6 c8 m=>?_⟩;obtain⟨t7,rfl⟩:∃t:Nat,r7=t:=⟨r7.toNat,by omega⟩;have e7:=m _ _ a6 e6;have c7:=E6 a8 X m;have b9:=m _ _ (a1r X b8) b8;obtain⟨x7,b7⟩:∃x,(us++[V.ref g])[t7]?=some x:=⟨_,ai (by omega)⟩;obtain⟨B,d4,_,C,rfl,d5⟩:=c7.mem b7;refine⟨O,_,_,_,rfl,rfl,SqL.of e7,a0G b7,?_⟩;refine⟨by show 2<=sizeLine;omega,λp8 d2=>?_⟩;have s8:=(Same.refl H7).upd (o:=.tup [.ref J,.ref C]) d2;have e8:upd H7 p8 (.tup [.ref J,.ref C]) p8=some (.tup [.ref J,.ref C]):=A0;have Y:=c8.same s8;have R:Off [a,b] H5 (upd H7 p8 (.tup [.ref J,.ref C])):=(u.trans m).trans s8.off;have L:=s8 _ _ b9;have M:=s8 _ _ d5;generalize upd H7 p8 (.tup [.ref J,.ref C])=H8 at e8 Y R L M;refine⟨p8,[.ref J,.ref C],rfl,SqT.of e8,rfl,.ref J,[.ref C],rfl,.ref C,[],rfl,rfl,?_⟩;dsimp only[B0,List.set];refine⟨_,rfl,by show 3<=sizeLine;omega,λp9 b5=>?_⟩;have c6:=X0 Y b5;have s9:=(Same.refl H8).upd (o:=.lst ([1,-1,0].map V.int)) b5;have e9:upd H8 p9 (.lst ([1,-1,0].map V.int)) p9=some (.lst ([1,-1,0].map V.int)):=A0;have D:=Y.same s9;have S:=R.trans (s9.off (l:=[a,b]));have p:=s9 _ _ L;have q:=s9 _ _ M;show a4y a0R [] E0 _ _ (upd H8 p9 (.lst ([1,-1,0].map V.int))) _;generalize upd H8 p9 (.lst ([1,-1,0].map V.int))=H9 at e9 D S p q;refine⟨_,rfl,a,b,_,3,rfl,D,by omega,by decide,by decide,λf9 f0 a4 a5 a9 d=>?_⟩;obtain⟨z,d6,d7⟩:=b3P (ns:=[1,-1,0]) a4 a5;refine⟨p9,_,_,_,rfl,rfl,SqL.of (d _ _ c6 e9),d6,?_⟩;have a0:=d _ _ (a1r D p) p;have a1:=d _ _ (a1r D q) q;have f8 : -1<=z/\z<=1:=by simp at d7;omega
  obtain⟨g1,c2,c3⟩:=hG v d3;obtain⟨U,c4,c5⟩:=hG B d4;dsimp only[B0,List.set];refine⟨_,rfl,_,rfl,by omega,by omega,?_⟩;rw[bf];refine W8 (caps:=[some (.ref J),some (.int z),some (.ref C)]) (λj=>V.int (v.getD j 0+z*B.getD j 0)) (by omega) rfl (λj c1 f1 hj I e2=>?_) λc1 d9 I b3=>?_
  .exact⟨_,rfl,_,rfl,J,_,_,_,rfl,rfl,SqT.of (I _ _ a0),N2 (by omega),_,rfl,_,rfl,_,rfl,C,_,_,_,rfl,rfl,SqT.of (I _ _ a1),N2 (by omega),_,_,rfl,rfl,.inl ⟨by omega,by omega⟩,_,_,rfl,rfl,e2⟩
  rw[b6J v B z n g1 U];refine⟨d9,_,rfl,.inl ⟨SqL.of A0,λe0 b4=>?_⟩⟩;have c0:=(I.upd (o:=.lst ((Q6 v (E7 z B)).map V.int)) b3).upd (o:=.tup ((Q6 v (E7 z B)).map V.int)) b4;refine k e0 (Q6 v (E7 z B)) _ A0 (by rw[G6 _ _ (by rw[B1,g1,U]),B1,U]) (λy hy=>?_) (b6E g1 U c3 c5) ((a9.same c0).mono (by omega)) (((s5.off (l:=[a,b])).trans (S.trans d)).trans c0.off);obtain⟨j,hj,rfl⟩:=bS.mp hy;have e:=a1d v (E7 z B) (by rw[B1,g1,U]) j;rw[ak,ai hj,a1c]at e;have e:(Q6 v (E7 z B))[j]=v.getD j 0+z*B.getD j 0:=e;rw[e];have f7:j<n:=by rw[G6 _ _ (by rw[B1,g1,U]),B1,U]at hj;exact hj
  have b1:=c2 _ (a8G (xs:=v) (j:=j) (by omega));have b2:=c4 _ (a8G (xs:=B) (j:=j) (by omega));obtain rfl|rfl|rfl:z=1∨z = -1∨z=0:=by omega
  .omega
  .omega
  .omega
end
end K38
namespace K38
open PySem PySem.Spec PyProof.Rows L2
section
variable {P:qG}{w:World}{K:qF}{mg:Str->qD qB}{base:Heap}
def b1z{H:Hp}{vs:qA V}{rss:LLI}(h:Its H vs rss)(k:Nat):Its H (vs.eraseIdx k) (rss.eraseIdx k):=by
 rw[List.eraseIdx_eq_take_drop_succ,List.eraseIdx_eq_take_drop_succ];exact(h.take k).app (h.drop (k+1))
def b4h{H:Hp}{vs:qA V}{rss:LLI}{v:V}{r:qI}(h:Its H vs rss)(k:Nat)(a:IT H v r):Its H (vs.take k++v::vs.drop k) (rss.take k++r::rss.drop k):=(h.take k).app ((Its.one a).app (h.drop k))
def b8U{α:Type}{l:qA α}{k:Nat}{v:α}(h:l[k]?=some v)(P:α->Prop):(∀r∈l,P r)↔P v/\∀r∈l.eraseIdx k,P r:=by
 constructor
 .intro g;exact⟨g v (aH h),λr a=>g r (List.mem_of_mem_eraseIdx a)⟩
 .rintro⟨g1,g2⟩ r a;obtain⟨i,hi⟩:=ck.mp a;by_cases e:i=k
  .subst e;rw[hi]at h;cases h;exact g1
  .exact g2 r (List.mem_eraseIdx_iff_getElem?.mpr ⟨i,e,hi⟩)
def EqA(n:Nat)(qss rss:LLI):Prop:=∀v:qI,v.length=n->((∀r∈qss,dot r v=0)↔∀r∈rss,dot r v=0)
inductive IspOth(vs:qA V)(H:Hp)(Q:VK)(E:XK):Prop
 |mk (a b ra:qE) (us:qA V) (rss:LLI) (N n:Nat) (wi:Int) (_:vs=[.ref a,.ref ra,.int wi]) (_:wi=n) (_:H ra=some (.tup us)) (_:Its H us rss) (_:us.length<=4) (_:1<=n) (_:n<=8) (_:(∀r∈rss,r.length=n/\∀z∈r,-100000000003<=z/\z<=100000000003)) (_:PotAt H a b N) (_:N+1000<2 ^ 60) (_:∀q ws qss H',H' q=some (.tup ws)->Its H' ws qss->ws.length<=6->(∀r∈qss,r.length=n/\∀z∈r,-300000000009<=z/\z<=300000000009)->EqA n qss rss->PotAt H' a b (N+100)->Off [a,b] H H'->Q (.ref q) H'):IspOth  vs H Q E
def b7j:Sp:=λvs H Q E=>IspOth  vs H Q E
def sc__law_otherwise:FnScope ["_law_pot_here","_law_rows","_law_width","_law_left","_law_some","_law_one","_law_by","_law_k"] ["_law_pot_here","_law_rows","_law_width"] (A1 I9):={}
def b8O(F:FunAt K mg "_law_otherwise" I9 ["_law_pot_here","_law_rows","_law_width"])(T:Tx mg)(j:Ok P w K mg base "_law_take" 1 ["_law_pot_here","_law_many"] a0R)(C:Ok P w K mg base "_law_combined" 2 ["_law_pot_here","_law_rows","_law_width"] b2E):Ok P w K mg base "_law_otherwise" 3 ["_law_pot_here","_law_rows","_law_width"] b7j:=by
 refine F.okJ sc__law_otherwise (λvs H Q E h=>?_) (λj5 f A i8 s H vs Q E R h=>?_)
 .obtain⟨a,b,ra,us,rss,N,n,wi,rfl,_⟩:=h;rfl
 .obtain⟨a,b,ra,us,rss,N,n,_,rfl,rfl,hra,hI,hul,n1,n8,hR,hP,hN,k⟩:=h;have hz:(3000:Nat)<=sizeLine:=by rw[a'];decide
  have hu:=R.u60;refine⟨_,(A2 (B4 (i:=3) sc__law_otherwise.nd rfl (Or.inl rfl) (a5N K rfl T.b_list (jaC (jv 1) jaN)))
 (A2 (B4 (i:=4) sc__law_otherwise.nd rfl (Or.inl rfl) (T7 jaN))
 (A2 (a7l (a8z K hu (jv 3) (T7 jaN))
 (A2 (B4 (i:=5) sc__law_otherwise.nd rfl (Or.inl rfl) (a7n K (jv 3) (jaC (A7 j (R.mono (by omega)) rfl (jaC (jv 0) (jaC (E5 K rfl T.b_len (jaC (jv 3) jaN)) jaN))) jaN)))
 (A2 (B4 (i:=6) sc__law_otherwise.nd rfl (Or.inr rfl) (N3 K (T7 (jaC A6 (jaC (a3N A6) (jaC A6 (jaC (a3N A6) (jaC A6 (jaC (a3N A6) jaN))))))) (A7 j (R.mono (by omega)) rfl (jaC (jv 0) (jaC A6 jaN)))))
 (A4 (O6 (a0A K (jv 4) (jaC (C7 K rfl T.b_tuple (jaC (B7 (N:=["_law_number_here","_law_by"]) (src:=[none,some 6]) (E4 K (jv 5)) (by show C0 _ _=true;rfl) (by rfl) (by rfl)
 (λ_ _ _ _ _=>(A5 (i:=0) (L2.nd ["_law_number_here","_law_by"]) rfl (Or.inl rfl))) (λ_ _ _ _ _=>C4) (λ_ _ _ _ _=>(a0M (jv 1) (jv 0)))) jaN)) jaN)))))))
 (A2 (J3 (E9 rfl T.b_range (jaC (A7 j (R.mono (by omega)) rfl (jaC (jv 0) (jaC A6 jaN))) jaN)) (A5 (i:=7) sc__law_otherwise.nd rfl (Or.inl rfl))
 (A4 (O6 (b1x K (jv 4) (jaC (A7 j (R.mono (by omega)) rfl (jaC (jv 0) (jaC (P6 (E5 K rfl T.b_len (jaC (jv 4) jaN)) A6) jaN))) (jaC (A7 C (R.mono (by omega)) rfl (jaC (jv 0) (jaC (jv 1) (jaC (jv 2) jaN)))) jaN))))))
 (A4 (A9 (C7 K rfl T.b_tuple (jaC (jv 4) jaN)))))))),?_⟩
  refine⟨_,rfl,ra,us,rfl,.inr (SqT.of hra),λl hl=>?_⟩;have f6:=hl;have c0:=X0 hP hl;have s1:=(Same.refl H).upd (o:=.lst us) hl;have e1:upd H l (.lst us) l=some (.lst us):=A0;generalize upd H l (.lst us)=H1 at s1 e1;dsimp only[B0,List.set];refine⟨bq _,λS a4=>?_⟩;have c7:H S=none:=s1.free a4;have U:=X0 (hP.same s1) a4;have d4:l≠S:=A8 e1 a4;have b2:=(Same.refl H1).upd (o:=.lst []) a4;have s2:=s1.trans b2;have e2:upd H1 S (.lst []) S=some (.lst []):=A0;have b3:=b2 _ _ e1;generalize upd H1 S (.lst [])=H2 at s2 b2 e2 b3;dsimp only[B0,List.set];refine V8 (λσ H'=>Ex4 λ(o5 o6:qD V) (B:qA V) (d:LLI)=>An8 (σ=[some (.ref a),some (.ref ra),some (.int n),some (.ref l),some (.ref S),o5,o6,none]) (Off [a,b] H H') (PotAt H' a b (N+20)) (H' S=some (.lst B)) (Its H' B d) (B.length<=4) ((∀r∈d,r.length=n/\∀z∈r,-300000000009<=z/\z<=300000000009)) (EqA n d rss)) ?fin λfin=>?_
  case fin =>
   clear e2 b3 s2 b2 s1 e1 hl a4 c0 f6 d4;rintro σ H3 ⟨o5,o6,B,d,rfl,J,a3,e3,a1,d3,a5,a0⟩;have g3:=J _ _ (a1r hP hra) hra;have f2:=E6 hI hP J;refine⟨_,rfl,a,b,_,3,rfl,a3,by omega,by decide,by decide,λr4 H4 j6 j7 f5 Y=>?_⟩;obtain⟨t4,rfl⟩:∃t:Nat,r4=t:=⟨r4.toNat,by omega⟩;refine⟨_,rfl,by omega,by omega,?_⟩;rw[bf];refine a2a (lo:=0) (n:=t4) (λi σ H'=>Ex3 λ(o7:qD V) (B:qA V) (d:LLI)=>An8 (σ=[some (.ref a),some (.ref ra),some (.int n),some (.ref l),some (.ref S),o5,o6,o7]) (Off [a,b] H H') (PotAt H' a b (N+21+4*i)) (H' S=some (.lst B)) (Its H' B d) (B.length<=4+i) ((∀r∈d,r.length=n/\∀z∈r,-300000000009<=z/\z<=300000000009)) (EqA n d rss))
    ⟨none,B,d,rfl,J.trans Y,f5,Y _ _ U e3,E6 a1 a3 Y,by omega,a5,a0⟩ ?_ ?_
   .clear f5 Y a3 J a1 e3 a5 a0 d3 g3 f2;rintro i σ H5 hi ⟨o7,B,d,rfl,D,I,e5,a2,d3,b5,b6⟩;have c6:=D _ _ (a1r hP hra) hra;have f3:=E6 hI hP D;dsimp only[B0,List.set];refine⟨_,rfl,.inl ⟨rfl,_,SqL.of e5⟩,?_⟩;refine⟨_,rfl,_,rfl,S,_,rfl,.inl (SqL.of e5),_,_,rfl,rfl,a,b,_,_,rfl,I,by omega,?_,?_,λr6 H6 g9 f0 a7 p=>?_⟩
    .show(0:Int)<(B.length:Int)+1;omega
    .show(B.length:Int)+1<2 ^ 60;omega
    have j0:r6<(B.length:Int)+1:=f0;obtain⟨t,rfl⟩:∃t:Nat,r6=t:=⟨r6.toNat,by omega⟩;have g4:=p _ _ (a1r I c6) c6;have f4:=E6 f3 I p;have e6:=p _ _ U e5;have a6:=E6 a2 I p;refine⟨_,rfl,_,rfl,_,rfl,a,b,ra,us,rss,_,n,_,rfl,rfl,g4,f4,hul,n1,n8,hR,a7,by omega,λq c H7 i0 h7 h5 h6 a8 O=>?_⟩;have e7:=O _ _ U e6;have b7:=E6 a6 a7 O;refine⟨S,_,t,_,rfl,rfl,e7,by omega,by omega,?_⟩;refine⟨_,B.take t++.ref q::B.drop t,d.take t++c::d.drop t,rfl,a1O ((D.trans p).trans O) c7,a1s (a8.mono (by omega)) U,A0,O7 (b4h b7 t ⟨q,rfl,i0⟩) e7 (λ_ z=>by cases z),by rw[ax,aT,aU,bI];omega,λr' i1=>?_,λv hv=>?_⟩
    .rcases aA.mp i1 with z|z
     .exact b5 r' (bD z)
     .rcases aD.mp z with rfl|z
      .exact⟨h7,h5⟩
      .exact b5 r' (cB z)
    .rw[<-b6 v hv];constructor
     .intro g r R;rw[<-bp t d]at R;rcases aA.mp R with z|z
      .exact g r (aK _ z)
      .exact g r (aX _ (aq _ z))
     .intro g r R;rcases aA.mp R with z|z
      .exact g r (bD z)
      .rcases aD.mp z with rfl|z
       .exact h6 v hv ((b6 v hv).mp g)
       .exact g r (cB z)
   .rintro σ H5 ⟨o7,B,d,rfl,D,I,e5,a2,d3,b5,b6⟩;refine⟨_,rfl,S,_,rfl,.inl ⟨SqL.of e5,λq hq=>?_⟩⟩;have s6:=(Same.refl H5).upd (o:=.tup B) hq;exact k q B d _ A0 (a2.same s6) (by omega) b5 b6 ((I.same s6).mono (by omega)) (D.trans s6.off)
  refine⟨λm σ H'=>∃(o5 o6:qD V) (G B:qA V) (M d:LLI),σ=[some (.ref a),some (.ref ra),some (.int n),some (.ref l),some (.ref S),o5,o6,none]/\Off [a,b] H H'/\PotAt H' a b (N+2*(4-m))/\m<=4/\H' l=some (.lst G)/\Its H' G M/\H' S=some (.lst B)/\Its H' B d/\G.length+B.length<=4/\m=G.length/\(∀r∈M,r.length=n/\∀z∈r,-100000000003<=z/\z<=100000000003)/\(∀r∈d,r.length=n/\∀z∈r,-300000000009<=z/\z<=300000000009)/\∀v:qI,v.length=n->(((∀r∈M,dot r v=0)/\∀r∈d,dot r v=0)↔∀r∈rss,dot r v=0),
   ⟨_,none,none,us,[],_,[],rfl,s2.off,(hP.same s2).mono (by omega),hul,b3,hI.same s2,e2,.nil,by simpa using hul,rfl,hR,(λ_ z=>nomatch z),λv _=>⟨λg=>g.1,λg=>⟨g,λ_ z=>nomatch z⟩⟩⟩,?_⟩
  clear e2 b3 s2 b2 s1 e1 hl a4;rintro m σ H3 ⟨o5,o6,G,B,M,d,rfl,J,a3,j8,e9,a1,e3,c2,j1,rfl,d2,a5,a0⟩;refine⟨_,rfl,bq _,λp5 h9=>?_⟩;have Z:=(Same.refl H3).upd (o:=.lst []) h9;have e5:upd H3 p5 (.lst []) p5=some (.lst []):=A0;generalize upd H3 p5 (.lst [])=H5 at Z e5;refine⟨2,_,by decide,EqV.its (k:=false) (SqL.of (Z _ _ e9)) (SqL.of e5) (a1.same Z) .nil,⟨_,_,rfl,rfl⟩,_,rfl,a1Y (λe=>?_) (λe=>?_)⟩
  .have hqne:M≠[]:=by simpa using e
   have j9:0<G.length:=by rw[a1.1];exact fb.mpr hqne
   refine⟨λσ' H'=>∃m',m'<G.length/\∃(o5 o6:qD V) (G B:qA V) (M d:LLI),σ'=[some (.ref a),some (.ref ra),some (.int n),some (.ref l),some (.ref S),o5,o6,none]/\Off [a,b] H H'/\PotAt H' a b (N+2*(4-m'))/\m'<=4/\H' l=some (.lst G)/\Its H' G M/\H' S=some (.lst B)/\Its H' B d/\G.length+B.length<=4/\m'=G.length/\(∀r∈M,r.length=n/\∀z∈r,-100000000003<=z/\z<=100000000003)/\(∀r∈d,r.length=n/\∀z∈r,-300000000009<=z/\z<=300000000009)/\∀v:qI,v.length=n->(((∀r∈M,dot r v=0)/\∀r∈d,dot r v=0)↔∀r∈rss,dot r v=0),λσ' H' h=>h,?_⟩;have I:=a3.same Z;have b4:=Z _ _ e9;have d8:=Z _ _ e3;have a2:=a1.same Z;have c3:=c2.same Z;have D:=J.trans (Z.off (l:=[a,b]));refine⟨_,rfl,.inl ⟨rfl,_,SqL.of b4⟩,_,rfl,_,rfl,l,_,rfl,.inl (SqL.of b4),a,b,_,_,rfl,I,by omega,by omega,by omega,λr6 H6 g9 f0 a7 p=>?_⟩;obtain⟨X,rfl⟩:∃k:Nat,r6=k:=⟨r6.toNat,by omega⟩;have b9:X<G.length:=by omega
   have d1:=p _ _ c0 b4;have d9:=p _ _ U d8;have a6:=E6 a2 I p;have c4:=E6 c3 I p;have b0:=D.trans p;obtain⟨v,g5,i2,va,i3,g6⟩:=a6.mem (ai b9);refine⟨l,G,X,X,_,rfl,rfl,d1,by omega,by omega,seqIndex_of (by omega) (by simpa using b9),ai b9,?_⟩;rw[i3];have c1:Tk H6 (upd H6 l (.lst (G.eraseIdx X))):=Tk.put d1;have b7:=c1.its (b1z a6 X);have c5:=c1.its c4;have e7:upd H6 l (.lst (G.eraseIdx X)) l=some (.lst (G.eraseIdx X)):=A0;have e0:upd H6 l (.lst (G.eraseIdx X)) S=some (.lst B):=by rw[A3 d4.symm];exact d9
   have a9:=c1 _ _ g6;have a8:=a1s (o:=.lst (G.eraseIdx X)) a7 c0;have O:=a1O (o:=.lst (G.eraseIdx X)) b0 f6;generalize upd H6 l (.lst (G.eraseIdx X))=H7 at b7 c5 e7 e0 a9 a8 O;clear c1 a6 c4 d1 d9 g6 a7 b0 p D a2 c3 I b4 d8 Z e5;dsimp only[B0,List.set];refine⟨_,rfl,_,rfl,_,rfl,by show 6<=sizeLine;omega,λp8 f8=>?_⟩;have h0:=X0 a8 f8;have s8:=(Same.refl H7).upd (o:=.lst ([1,-1,2,-2,3,-3].map V.int)) f8;have e8:upd H7 p8 (.lst ([1,-1,2,-2,3,-3].map V.int)) p8=some (.lst ([1,-1,2,-2,3,-3].map V.int)):=A0;show a4y a0R [] E0 _ _ (upd H7 p8 (.lst ([1,-1,2,-2,3,-3].map V.int))) _;generalize upd H7 p8 (.lst ([1,-1,2,-2,3,-3].map V.int))=H8 at s8 e8;have b8:=a8.same s8;refine⟨_,rfl,a,b,_,6,rfl,b8,by omega,by decide,by decide,λr9 H9 h1 h2 h4 L=>?_⟩;obtain⟨z,i5,i6⟩:=b3P (ns:=[1,-1,2,-2,3,-3]) h1 h2;refine⟨p8,_,_,_,rfl,rfl,SqL.of (L _ _ h0 e8),i5,?_⟩;have i7:z≠0 /\ -3<=z/\z<=3:=by simp at i6;omega
   have g7:=L _ _ c0 (s8 _ _ e7);have e4:=L _ _ U (s8 _ _ e0);have h3:=E6 (b7.same s8) b8 L;have f1:=E6 (c5.same s8) b8 L;have c8:=L _ _ (a1r b8 (s8 _ _ a9)) (s8 _ _ a9);have d5:=(O.trans (s8.off (l:=[a,b]))).trans L;dsimp only[B0,List.set];refine⟨_,rfl,.inl ⟨rfl,_,SqL.of e4⟩,?_⟩;refine⟨_,rfl,va,rfl,⟨_,SqT.of c8⟩,?_⟩;have i4:=(d2 v g5).1;refine a1f (caps:=[some (.int z)]) (λx=>V.int (z*x)) (by omega) (λj2 s=>SqT.of (s _ _ c8)) rfl (λx c9 j4 _ _ q=>⟨_,rfl,_,rfl,_,_,rfl,rfl,.inl ⟨by omega,by omega⟩,q⟩) λc9 d6 i9 f7=>?_;rw[show(v.map λx=>V.int (z*x))=(E7 z v).map V.int by unfold E7;rw[cD];rfl];refine⟨d6,_,rfl,.inl ⟨SqL.of A0,λb1 f9=>?_⟩⟩;have W:=(i9.upd (o:=.lst ((E7 z v).map V.int)) f7).upd (o:=.tup ((E7 z v).map V.int)) f9;have d7:upd (upd c9 d6 (.lst ((E7 z v).map V.int))) b1 (.tup ((E7 z v).map V.int)) b1=some (.tup ((E7 z v).map V.int)):=A0;generalize upd (upd c9 d6 (.lst ((E7 z v).map V.int))) b1 (.tup ((E7 z v).map V.int))=j3 at W d7;have d0:=W _ _ e4;have g8:=W _ _ g7;refine⟨S,_,_,rfl,rfl,d0,by omega,?_⟩;have h8:(G.eraseIdx X).length=G.length-1:=List.length_eraseIdx_of_lt b9;refine⟨_,by omega,_,_,G.eraseIdx X,B++[.ref b1],M.eraseIdx X,d++[E7 z v],rfl,a1O (d5.trans W.off) c7,a1s ((h4.same W).mono (by omega)) U,by omega,by rw[A3 d4];exact g8,O7 (h3.same W) d0 (λ_ z=>by cases z),A0,O7 ((f1.same W).snoc ⟨b1,rfl,d7⟩) d0 (λ_ z=>by cases z),by rw[h8,ax];simp;omega,rfl,λr R=>d2 r (List.mem_of_mem_eraseIdx R),λr R=>?_,λu hu=>?_⟩
   .rcases aA.mp R with y|y
    .exact a5 r y
    .rw[aB.mp y];refine⟨by rw[B1];exact i4,λx hx=>?_⟩;unfold E7 at hx;obtain⟨y,hy,rfl⟩:=aM.mp hx;have hb:=(d2 v g5).2 y hy;have:z=1∨z = -1∨z=2∨z = -2∨z=3∨z = -3:=by omega
     rcases this with rfl|rfl|rfl|rfl|rfl|rfl<;>omega
   .rw[<-a0 u hu,b8U i2 (λr=>dot r u=0)];have hd:dot (E7 z v) u=0↔dot v u=0:=by
     rw[V4,a1B,V4 u v];constructor
     .intro g;rcases Int.mul_eq_zero.mp g with g|g
      .exact absurd g i7.1
      .exact g
     .intro g;rw[g,Int.mul_zero]
    constructor
    .rintro⟨g1,g2⟩;exact⟨⟨hd.mp (g2 _ (by simp)),g1⟩,λr R=>g2 r (aK _ R)⟩
    .rintro⟨⟨g0,g1⟩,g2⟩;refine⟨g1,λr R=>?_⟩;rcases aA.mp R with y|y
     .exact g2 r y
     .rw[aB.mp y];exact hd.mpr g0
  .have hq:M=[]:=by simpa using e
   subst hq;refine fin _ _ ⟨_,_,B,d,rfl,J.trans Z.off,(a3.same Z).mono (by omega),Z _ _ e3,c2.same Z,by omega,a5,λv hv=>⟨λg=>(a0 v hv).mp ⟨(λ_ z=>nomatch z),g⟩,λg=>((a0 v hv).mpr g).2⟩⟩
end
end K38
namespace K38
open PySem PySem.Spec PyProof.Rows L2
section
variable {P:qG}{w:World}{K:qF}{mg:Str->qD qB}{base:Heap}
def b1m{α:Type}{xs:qA α}{k:Nat}{t r:α}(c:xs.Nodup)(b:xs[k]?=some t)(d:r∈xs.take k++xs.drop (k+1)):r∈xs/\r≠t:=by
 have hd:=a2f b;have a:List.Pairwise (·≠·) (xs.take k++xs.drop k):=by rw[bp];exact c
 rw[bC,hd,cK]at a;rcases aA.mp d with q|q
 .exact⟨bD q,a.2.2 r q t ar⟩
 .exact⟨cB q,(a.2.1.1 r q).symm⟩
def row_sum(row v:qI):(((List.range v.length).map λj=>row.getD j 0*v.getD j 0).map V.int)=((List.range v.length).map λj=>V.int (row.getD j 0*v.getD j 0)):=by
 rw[cD];rfl
def b7T{H:Hp}{Q:VK}{t:qE}{zs:qA V}{k:Nat}(a:H t=some (.tup zs))(b:k<=zs.length)(q:∀p H',Same H H'->H' p=some (.tup (zs.drop k))->Q (.ref p) H'):b5v K (.ref t) (some (k:Int)) none H Q:=by
 refine⟨t,zs,rfl,SqT.of a,λh=>?_,λ_ p c=>?_⟩
 .have h1:=h.1;rw[HT.sIx_nat]at h1;have:zs.drop k=zs:=by
   by_cases e:k=0
   .rw[e];rfl
   .have:zs.length=0:=by omega
    rw[dZ.mp this];simp
  exact q t H (Same.refl _) (by rw[this];exact a)
 .refine q p _ ((Same.refl H).upd c) ?_;rw[A0,c0N b]
inductive IspStR(vs:qA V)(H:Hp)(Q:VK)(E:XK):Prop
 |mk (ra q t:qE) (us ss zs:qA V) (rss tss:LLI) (n:Nat) (wi:Int) (_:vs=[.ref ra,.int wi,.ref q,.ref t]) (_:wi=n) (_:RwP H ra us rss n) (_:H q=some (.tup ss)) (_:ss.length=rss.length+1) (_:(∀i x,ss[i]?=some x->∃tss,Stg H n (rss.take i) (bnd 40 i) x tss)) (_:H t=some (.tup zs)) (_:Its H zs tss) (_:StO n rss tss) (_:∀H',Same H H'->Q (.bl true) H'):IspStR  vs H Q E
def b7h:Sp:=λvs H Q E=>IspStR  vs H Q E
def sc__law_steps_right:FnScope ["_law_rows","_law_width","_law_steps_here","_law_told","_law_k","_law_some","_law_at","_law_one"] ["_law_rows","_law_width","_law_steps_here","_law_told"] (A1 E3):={}
def b8M(F:FunAt K mg "_law_steps_right" E3 ["_law_rows","_law_width","_law_steps_here","_law_told"])(T:Tx mg)(d:Ok P w K mg base "_law_same" 5 ["_law_found","_law_due"] (a8b 4))(b:Ok P w K mg base "_law_below" 1 ["_law_one","_law_other"] b2F):Ok P w K mg base "_law_steps_right" 6 ["_law_rows","_law_width","_law_steps_here","_law_told"] b7h:=by
 refine F.okJ sc__law_steps_right (λvs H Q E h=>?_) (λe3 f A d0 s H vs Q E p h=>?_)
 .obtain⟨ra,q,t,us,ss,zs,rss,tss,n,wi,rfl,_⟩:=h;rfl
 .obtain⟨ra,q,t,us,ss,zs,rss,tss,n,_,rfl,rfl,R,hq,hsl,hst,ht,hI,hO,k⟩:=h;have hz:(3000:Nat)<=sizeLine:=by rw[a'];decide
  have hu:=p.u60;have e7:=R.ul;have n8:=R.n8;have c5:=R.hI.1;refine⟨_,(A2 (D4 (a1W (a3K (L6 (C9 K (C6 K rfl T.b_isinstance (jaC (jv 2) (jaC (X6 (v:=.ty "tuple") rfl T.b_tuple Q3 rfl) jaN))))) (a3K (b3U (E5 K rfl T.b_len (jaC (jv 2) jaN)) (P6 (E5 K rfl T.b_len (jaC (jv 0) jaN)) A6)) (a1V (L6 (C9 K (A7 d (p.mono (by omega)) rfl (jaC (G7 K (jv 2) (a3N A6)) (jaC (jv 3) jaN)))))))))
 (A4 (A9 M9))
 C2)
 (A2 (J3 (a9T K rfl T.b_enumerate (jaC (jv 2) jaN)) (L7 K 2 (B3 (A5 (i:=4) sc__law_steps_right.nd rfl (Or.inl rfl)) (B3 (A5 (i:=5) sc__law_steps_right.nd rfl (Or.inl rfl)) J0)))
 (A4 (J3 (a9T K rfl T.b_enumerate (jaC (jv 5) jaN)) (L7 K 2 (B3 (A5 (i:=6) sc__law_steps_right.nd rfl (Or.inl rfl)) (B3 (A5 (i:=7) sc__law_steps_right.nd rfl (Or.inr rfl)) J0)))
 (A2 (D4 (a8z K hu (B7 (N:=["_law_row","_law_width","_law_one"]) (src:=[none,some 1,some 7]) (E4 K (a9V K (jv 0) T3 (T0 (jv 4)))) (by show C0 _ _=true;rfl) (by rfl) (by rfl)
 (λ_ _ _ _ _=>(A5 (i:=0) (L2.nd ["_law_row","_law_width","_law_one"]) rfl (Or.inr rfl))) (λ_ _ _ _ _=>(a1X (b3U (a8B K rfl T.b_sum (jaC (B7 (N:=["_law_j","_law_row","_law_one"]) (src:=[none,some 0,some 2]) (E9 rfl T.b_range (jaC (jv 1) jaN)) (by show C0 _ _=true;rfl) (by rfl) (by rfl)
 (λ_ _ _ _ _=>(A5 (i:=0) (L2.nd ["_law_j","_law_row","_law_one"]) rfl (Or.inl rfl))) (λ_ _ _ _ _=>C4) (λ_ _ _ _ _=>(a0M (G7 K (jv 1) (jv 0)) (G7 K (jv 2) (jv 0))))) jaN)) A6))) (λ_ _ _ _ _=>(jv 0))) (T7 jaN))
 (A4 (A9 M9))
 C2)
 (A4 (D4 (C9 K (b4b K rfl T.b_any (jaC (B7 (N:=["_law_other","_law_one"]) (src:=[none,some 7]) (E4 K (a2W (a9V K (jv 5) T3 (T0 (jv 6))) (a9V K (jv 5) (T0 (P6 (jv 6) A6)) T3))) (by show C0 _ _=true;rfl) (by rfl) (by rfl)
 (λ_ _ _ _ _=>(A5 (i:=0) (L2.nd ["_law_other","_law_one"]) rfl (Or.inl rfl))) (λ_ _ _ _ _=>C4) (λ_ _ _ _ _=>(A7 b (p.mono (by omega)) rfl (jaC (jv 0) (jaC (jv 1) jaN))))) jaN)))
 (A4 (A9 M9))
 C2))))))
 (A4 (A9 M9)))),?_⟩
  obtain⟨x,hx⟩:∃x,ss[ss.length-1]?=some x:=⟨_,ai (by omega)⟩;obtain⟨tx,Sx⟩:=hst _ x hx;refine⟨_,rfl,_,_,_,true,rfl,.tup hq,rfl,_,rfl,D0 ?_⟩;refine⟨_,rfl,q,_,rfl,.inr (SqT.of hq),_,rfl,ra,_,rfl,.inr (SqT.of R.ha),_,_,rfl,rfl,rfl,_,rfl,?_⟩;rw[show decide (V.int (ss.length:Int)=V.int ((us.length:Int)+1))=true from bb (by rw[hsl,c5];rfl)];refine D0 ?_;have c0:SD H 4 x (.ref t):=(Sx.sd (by omega) rfl ht hI (by rw[bJ (by omega)];exact hO)).up;refine⟨_,rfl,_,rfl,q,_,_,_,rfl,rfl,SqT.of hq,b4O hx,_,rfl,_,_,rfl,c0,λH1 s1=>⟨true,rfl,D0 ?_⟩⟩;refine⟨_,rfl,true,q,rfl,⟨_,SqT.of (s1 _ _ hq)⟩,?_⟩;refine a7r (K:=K) (k:=true) (a:=q) (xs:=ss) (λi σ H'=>Ex4 λ(o4 o5 I J:qD V)=>An2 (σ=[some (.ref ra),some (.int n),some (.ref q),some (.ref t),o4,o5,I,J]) (Same H H')) ⟨none,none,none,none,rfl,s1⟩ (λi σ H' _ ⟨_,_,_,_,_,s'⟩=>SqT.of (s' _ _ hq)) ?_ ?_
  .rintro i x2 σ H2 p2 hx2 ⟨o4,o5,I,J,rfl,s2⟩ hp2;obtain⟨c,S2⟩:=hst i x2 hx2;have s3:=s2.upd (o:=.tup [.int i,x2]) hp2;refine⟨p2,[.int i,x2],rfl,SqT.of A0,rfl,.int i,[x2],rfl,x2,[],rfl,rfl,?_⟩;generalize upd H2 p2 (.tup [.int i,x2])=H3 at s3;have W:=S2.tk (Tk.same s3);obtain⟨xa,ws,rfl,O,L⟩:=W.ex;have f0:ws.length<=100:=by rw[L.1];exact W.len
   dsimp only[B0,List.set];refine⟨_,rfl,true,xa,rfl,⟨_,SqT.of O⟩,?_⟩;refine a7r (K:=K) (k:=true) (a:=xa) (xs:=ws) (λj σ H'=>Ex2 λ(I J:qD V)=>An2 (σ=[some (.ref ra),some (.int n),some (.ref q),some (.ref t),some (.int i),some (.ref xa),I,J]) (Same H3 H')) ⟨I,J,rfl,Same.refl _⟩ (λj σ H' _ ⟨_,_,_,s'⟩=>SqT.of (s' _ _ O)) ?_ ?_
   .rintro j x4 σ H4 p4 hx4 ⟨I,J,rfl,s4⟩ hp4;obtain⟨v,a9,c6,c9⟩:=L.mem hx4;have hL:=(W.mem v).mp a9;have M:v.length=n:=by have:=hL.an.len;rwa[B2]at this
    have e5:j<ws.length:=(aG.mp hx4).1;have b9:Sm v:=λy G=>by
     have h1:=hL.an.nn y G;have h2:=W.bd v a9 y G;have h3:=a8T (most:=40) (i:=i) (by decide) (by have:=(aG.mp hx2).1;omega);omega
    have s5:=s4.upd (o:=.tup [.int j,x4]) hp4;refine⟨p4,[.int j,x4],rfl,SqT.of A0,rfl,.int j,[x4],rfl,x4,[],rfl,rfl,?_⟩;generalize upd H4 p4 (.tup [.int j,x4])=H5 at s5;obtain⟨X,rfl,C⟩:=c9;have c7:=s5 _ _ C;have R5:=R.same (s3.trans s5);dsimp only[B0,List.set];refine⟨_,rfl,_,rfl,_,rfl,a8d R5.ha λp6 H6 s6 e6=>?_⟩;have R6:=(R5.same s6).take i e6;have a8:∀r∈rss.take i,r.length=n/\dot r v=0:=λr p=>⟨(R6.hR r p).1,ans_iff.mp hL.an.ans r p⟩;have b0:=s6 _ _ c7;refine⟨p6,rfl,⟨_,SqT.of e6⟩,?_⟩;refine b0H (caps:=[some (.int n),some (.ref X)]) (λr=>!decide (V.int (dot r v)=V.int 0)) (by have:=R6.ul;omega) (λH' s=>SqT.of (s _ _ e6)) R6.hI rfl (λy r H7 Q7 c4 G s7 q7=>?_) λH7 p7 d8 s7 c1 a2=>?_
    .obtain⟨ya,rfl,hya⟩:=G;have d9:=(a8 r c4).1;refine⟨_,rfl,_,rfl,by omega,by omega,?_⟩;rw[bf];refine W8 (caps:=[some (.ref ya),some (.ref X)]) (λj=>V.int (r.getD j 0*v.getD j 0)) (by omega) rfl (λj' Y Q8 e4 U q8=>?_) λY p8 U c2=>?_
     .exact⟨_,rfl,_,rfl,ya,_,_,_,rfl,rfl,SqT.of (U _ _ hya),N2 (by omega),_,rfl,_,rfl,X,_,_,_,rfl,rfl,SqT.of ((s7.trans U) _ _ b0),N2 (by omega),_,_,rfl,rfl,.inr (b9.at (by omega)),q8⟩
     rw[<-M,<-row_sum r v];refine⟨false,p8,_,rfl,SqL.of A0,?_⟩;rw[<-a2g r v (by omega)];exact⟨rfl,_,rfl,q7 _ (U.upd c2)⟩
    have a6:((rss.take i).filter λr=>!decide (V.int (dot r v)=V.int 0))=[]:=List.filter_eq_nil_iff.mpr λr p=>by
     rw[(a8 r p).2];simp
    rw[a6]at a2;have c8:d8=[]:=eE a2.1;subst c8;have U:=(Same.refl H7).upd (o:=.lst []) c1;have e8:upd H7 p7 (.lst []) p7=some (.lst []):=A0;generalize upd H7 p7 (.lst [])=Y at U e8;refine⟨bq _,λp9 c3=>?_⟩;have s9:=(Same.refl Y).upd (o:=.lst []) c3;have e9:upd Y p9 (.lst []) p9=some (.lst []):=A0;have a0:=s9 _ _ e8;generalize upd Y p9 (.lst [])=H9 at s9 e9 a0;refine⟨2,_,by decide,EqV.its (k:=false) (SqL.of a0) (SqL.of e9) .nil .nil,⟨_,_,rfl,rfl⟩,_,rfl,D0 ?_⟩;have m:=((s5.trans s6).trans s7).trans (U.trans s9);have D:=m _ _ O;have b1:=m _ _ C;have a3:=L.same m;refine⟨_,rfl,_,rfl,_,rfl,a8d (k:=j) D λd1 e0 b2 b7=>?_⟩;refine⟨_,rfl,_,rfl,_,_,rfl,rfl,_,rfl,?_⟩;rw[show((j:Int)+1)=((j+1:Nat):Int) by omega];dsimp only[a1h];refine b7T (k:=j+1) (b2 _ _ D) (by omega) λd2 e1 b3 b8=>?_;refine⟨d1,d2,_,_,rfl,rfl,b3 _ _ b7,b8,by rw[aU,bI];omega,λd3 b4 d6 Z=>?_⟩;have l:=(b2.trans b3).trans d6;have a1:Its b4 (ws.take j++ws.drop (j+1)) (c.take j++c.drop (j+1)):=((a3.take j).app (a3.drop (j+1))).same l;refine⟨d3,rfl,⟨_,SqT.of Z⟩,?_⟩;have g:∀u∈c.take j++c.drop (j+1),u.length=n/\Bel u v=false:=λu hu=>by
     obtain⟨u1,u2⟩:=b1m W.nd c6 hu;have a4:=(W.mem u).mp u1;have B:u.length=n:=by have:=a4.an.len;rwa[B2]at this
     refine⟨B,?_⟩;cases e:Bel u v with
     |false=>rfl
     |true=>exact absurd (hL.min u a4.an ((E1 (by rw[B,M])).mp e)) u2
    refine a5j (caps:=[some (.ref X)]) (λu=>V.bl (Bel u v)) (by rw[ax,aU,bI];omega) (λH' s=>SqT.of (s _ _ Z)) a1 rfl (λy u b5 e2 z G S d5=>?_) λb5 d4 S a7=>?_
    .exact⟨_,rfl,_,rfl,y,.ref X,u,v,rfl,G,⟨X,rfl,(l.trans S) _ _ b1⟩,by rw[(g u z).1,M],by rw[(g u z).1];omega,λb6 d7=>d5 b6 d7⟩
    refine⟨false,d4,_,rfl,SqL.of A0,?_,_,rfl,?_⟩
    .rw[aS];intro v hv;obtain⟨_,_,rfl⟩:=aM.mp hv;rfl
    have a5:(((c.take j++c.drop (j+1)).map λu=>V.bl (Bel u v)).any trV)=false:=by
     rw[dN];intro y G;obtain⟨u,hu,rfl⟩:=aM.mp G;rw[(g u hu).2];decide
    rw[a5];exact D0 ⟨_,_,rfl,m.trans (l.trans (S.upd a7))⟩
   .rintro σ H4 ⟨I,J,rfl,s4⟩;exact⟨_,_,_,_,rfl,s3.trans s4⟩
  .rintro σ H2 ⟨o4,o5,I,J,rfl,s2⟩;exact k H2 s2
end
end K38
namespace K38
open PySem PySem.Spec PyProof.Rows L2
variable {H:Hp}{n:Nat}{rss:LLI}
section
variable {P:qG}{w:World}{K:qF}{mg:Str->qD qB}{base:Heap}
def b0A{cs:qA (qD Int)}{F W:LLI}{k:Nat}(h:Wk rss cs F W [] k)(d:W.length<=150):∀v∈W,v.length=cs.length/\(∀x∈v,0<=x/\x<=1000)/\0<v.sum:=λv b=>by
 obtain⟨e,c,f,g,j,l,m,n⟩:=h.lv;obtain⟨i,o,p,lv⟩:=c v b;refine⟨lv.len,λx a=>⟨lv.nn x a,?_⟩,by rw[lv.sum];omega⟩;have:=a9M lv.nn x a;rw[lv.sum]at this;omega
def b6S{a:LLI}(h:EqA n a rss)(v:qI):Answer a n v↔Answer rss n v:=by
 constructor
 .intro g;exact⟨g.len,g.nn,ans_iff.mpr ((h v g.len).mp (ans_iff.mp g.ans)),g.pos⟩
 .intro g;exact⟨g.len,g.nn,ans_iff.mpr ((h v g.len).mpr (ans_iff.mp g.ans)),g.pos⟩
def b1t{a:LLI}(h:EqA n a rss)(v:qI):Least a (fre n) v↔Least rss (fre n) v:=by
 have e:∀u,Answer a (fre n).length u↔Answer rss (fre n).length u:=λu=>by rw[B2];exact b6S h u
 constructor
 .intro g;exact⟨(e v).mp g.an,g.wi,λu c b=>g.min u ((e u).mpr c) b⟩
 .intro g;exact⟨(e v).mpr g.an,g.wi,λu c b=>g.min u ((e u).mp c) b⟩
def StO.eqv{a tss:LLI}(h:EqA n a rss)(o:StO n rss tss):StO n a tss:=⟨o.ri,o.nd,λv=>(o.mem v).trans (b1t h v).symm⟩
structure Fnd(H:Hp)(n:Nat)(rss:LLI)(q t pp:qE)(zs ws:qA V)(tss W:LLI):Prop where
 hq:H q=some (.tup [.ref t,.ref pp])
 ht:H t=some (.tup zs)
 hI:Its H zs tss
 hp:H pp=some (.tup ws)
 hW:Its H ws W
 o:StO n rss tss
 sh:Shw rss (fre n) tss W
 sm:∀v∈tss++W,v.length<=1000/\Sm v
 zl:zs.length<=100
 wl:ws.length<=100
def Fnd.same{H H':Hp}{n:Nat}{rss:LLI}{q t a:qE}{zs b:qA V}{tss W:LLI}(h:Fnd H n rss q t a zs b tss W)(s:Same H H'):Fnd H' n rss q t a zs b tss W:=⟨s _ _ h.hq,s _ _ h.ht,h.hI.same s,s _ _ h.hp,h.hW.same s,h.o,h.sh,h.sm,h.zl,h.wl⟩
def b9w{q t i:qE}{zs j:qA V}{tss F W:LLI}{k:Nat}(w:n<=8)(hR:∀r∈rss,r.length=n)(m:H q=some (.tup [.ref t,.ref i]))(p:H t=some (.tup zs))(hI:Its H zs tss)(a:tss.Perm F)(g:C8 tss)(hp:H i=some (.tup j))(l:Its H j W)(d:Wk rss (fre n) F W [] k)(f:W.length<=100):Fnd H n rss q t i zs j tss W:=by
 have c:∀r∈rss,r.length=(fre n).length:=λr o=>by rw[B2];exact hR r o
 have e:=b0A d (by omega);have h:∀v∈tss,v∈W:=λv b=>(d.lv.2.2.1 v (a.mem_iff.mp b)).1;have pap:=d.pap c;refine⟨m,p,hI,hp,l,⟨g,a.symm.nodup d.nd.2,λv=>a.mem_iff.trans (d.least c v)⟩,b5h c d a g (λv b=>?_) (λv b=>.inl b) (λv b=>.inl b),λv b=>?_,?_,by rw[l.1];exact f⟩
 .have:=e v b;exact⟨this.1,λx s=>(this.2.1 x s).1,this.2.2,pap.wi v b⟩
 .have hv':v∈W:=(aA.mp b).elim (h v) id;have:=e v hv';exact⟨by rw[this.1,B2];omega,λz u=>by have:=this.2.1 z u;omega⟩
 .rw[hI.1,a.length_eq];have:=d.lv.2.2.2;omega
def FdV(H:Hp)(n:Nat)(rss:LLI)(x:V):Prop:=x=.non∨∃q t pp zs ws tss W,x=.ref q/\Fnd H n rss q t pp zs ws tss W
def FdV.same{H H':Hp}{n:Nat}{rss:LLI}{x:V}(h:FdV H n rss x)(s:Same H H'):FdV H' n rss x:=h.imp id λ⟨q,t,a,zs,b,tss,W,e,f⟩=>⟨q,t,a,zs,b,tss,W,e,f.same s⟩
def RwP.rev{ra p:qE}{us:qA V}(h:RwP H ra us rss n)(hp:H p=some (.tup us.reverse)):RwP H p us.reverse rss.reverse n :=
 ⟨hp,a9Z h.hI,by rw[List.length_reverse];exact h.ul,h.n1,h.n8,λr a=>h.hR r (List.mem_reverse.mp a)⟩
inductive IspLL1(vs:qA V)(H:Hp)(Q:VK)(E:XK):Prop
 |mk (ra:qE) (us:qA V) (rss:LLI) (n:Nat) (wi:Int) (_:vs=[.ref ra,.int wi]) (_:wi=n) (_:RwP H ra us rss n) (_:∀x H',Same H H'->FdV H' n rss x->Q x H'):IspLL1  vs H Q E
def b2C:Sp:=λvs H Q E=>IspLL1  vs H Q E
def b8W{vs:qA V}{Q:VK}{E:XK}(h:b2C vs H Q E):b7l vs H Q E:=by
 obtain⟨ra,l,rss,n,m,h1,h2,R,k⟩:=h;exact⟨ra,l,rss,n,m,h1,h2,R,λH' s=>k _ H' s (.inl rfl),λq t j zs tss p F W kk H' s f i hI a b e c o d=>k _ H' s (.inr ⟨q,t,j,zs,p,tss,W,rfl,b9w R.n8 (λr g=>(R.hR r g).1) f i hI a b e c o d⟩)⟩
def StV(H:Hp)(n:Nat)(rss:LLI)(x:V):Prop:=x=.non∨∃q ss,x=.ref q/\H q=some (.tup ss)/\ss.length=rss.length+1/\∀i y,ss[i]?=some y->∃tss,Stg H n (rss.take i) (bnd 40 i) y tss
inductive IspLS1(vs:qA V)(H:Hp)(Q:VK)(E:XK):Prop
 |mk (ra:qE) (us:qA V) (rss:LLI) (n:Nat) (wi:Int) (_:vs=[.ref ra,.int wi]) (_:wi=n) (_:RwP H ra us rss n) (_:∀x H',Same H H'->StV H' n rss x->Q x H'):IspLS1  vs H Q E
def b2B:Sp:=λvs H Q E=>IspLS1  vs H Q E
def b8V{vs:qA V}{Q:VK}{E:XK}(h:b2B vs H Q E):b7k vs H Q E:=by
 obtain⟨ra,e,rss,n,f,h1,h2,R,k⟩:=h;exact⟨ra,e,rss,n,f,h1,h2,R,λH' s=>k _ H' s (.inl rfl),λq d H' s c b a=>k _ H' s (.inr ⟨q,d,rfl,c,b,a⟩)⟩
def sc_law:FnScope ["_law_script","_law_pot_here","_law_turn","_law_rows","_law_width","_law_others","_law_one","_law_other","_law_caps","_law_some","_law_steps_here"] ["_law_script"] (A1 a3o):={}
def b8R{f:qE}{fd:FuncData}(F':Fun K "law" "law" a3o f fd)(T:Tx mg)(I:Ok P w K mg base "_law_pot" 1 ["_law_script"] (b7i K))(u:Ok P w K mg base "_law_system" 3 ["_law_pot_here","_law_wide","_law_far"] b7g)(l:Ok P w K mg base "_law_otherwise" 3 ["_law_pot_here","_law_rows","_law_width"] b7j)(c:Ok P w K mg base "_law_least_of" 8 ["_law_rows","_law_width"] b2C)(G:Ok P w K mg base "_law_same" 5 ["_law_found","_law_due"] (a8b 4))(J:Ok P w K mg base "shows" 6 ["rows","caps","told","paper"] a9r)(C:Ok P w K mg base "_law_steps" 10 ["_law_rows","_law_width"] b2B)(d:Ok P w K mg base "_law_steps_right" 6 ["_law_rows","_law_width","_law_steps_here","_law_told"] b7h):FnOk P w K mg base CX0 11 f fd ["_law_script"] (a9s K):=by
 refine F'.okJ sc_law (λvs H Q E h=>?_) (λg2 A f1 s H vs Q E e h=>?_)
 .obtain⟨a,ns,rfl,_⟩:=h;rfl
 .obtain⟨a,ns,rfl,hS,hl,k⟩:=h;have hz:(3000:Nat)<=sizeLine:=by rw[a'];decide
  have hu:=e.u60;refine⟨_,(A2 (B4 (i:=1) sc_law.nd rfl (Or.inl rfl) (A7 I (e.mono (by omega)) rfl (jaC (jv 0) jaN)))
 (A2 (J3 (E9 rfl T.b_range (jaC A6 jaN)) (A5 (i:=2) sc_law.nd rfl (Or.inl rfl))
 (A2 (a3M (A7 u (e.mono (by omega)) rfl (jaC (jv 1) (jaC A6 (jaC (b4d A6 A6) jaN)))) (L7 K 2 (B3 (A5 (i:=3) sc_law.nd rfl (Or.inl rfl)) (B3 (A5 (i:=4) sc_law.nd rfl (Or.inl rfl)) J0))))
 (A2 (B4 (i:=3) sc_law.nd rfl (Or.inl rfl) (a9V K (jv 3) T3 (T0 A6)))
 (A2 (B4 (i:=5) sc_law.nd rfl (Or.inl rfl) (A7 l (e.mono (by omega)) rfl (jaC (jv 1) (jaC (jv 3) (jaC (jv 4) jaN)))))
 (A2 (b9g (i:=6) (j:=7) rfl sc_law.nd rfl rfl (by decide) rfl rfl (jaC (A7 c (e.mono (by omega)) rfl (jaC (jv 3) (jaC (jv 4) jaN))) (jaC (A7 c (e.mono (by omega)) rfl (jaC (jv 5) (jaC (jv 4) jaN))) jaN)) rfl)
 (A2 (D4 (a1W (a0U (a1v (jv 6) T5) (X4 (a1v (jv 7) T5))))
 (A2 (D4 (L6 (C9 K (A7 G (e.mono (by omega)) rfl (jaC (G7 K (jv 7) A6) (jaC (G7 K (jv 6) A6) jaN)))))
 (A4 (A9 M9))
 C2)
 (A2 (B4 (i:=8) sc_law.nd rfl (Or.inl rfl) (a5O (T4 (jaC T5 jaN)) (jv 4)))
 (A4 (D4 (a1W (a3K (a4L true (A7 J (e.mono (by omega)) rfl (jaC (jv 3) (jaC (jv 8) (jaC (G7 K (jv 7) A6) (jaC (G7 K (jv 6) A6) jaN))))) M9) (a1V (a4L true (A7 J (e.mono (by omega)) rfl (jaC (jv 5) (jaC (jv 8) (jaC (G7 K (jv 6) A6) (jaC (G7 K (jv 7) A6) jaN))))) M9))))
 (A4 (A9 M9))
 C2))))
 C2)
 (A4 (D4 (a1v (jv 6) T5)
 (A4 (J3 (E4 K (T4 (jaC (jv 3) (jaC (b9i K (jv 3) (a3N A6)) (jaC (jv 5) jaN))))) (A5 (i:=9) sc_law.nd rfl (Or.inl rfl))
 (A2 (B4 (i:=10) sc_law.nd rfl (Or.inl rfl) (A7 C (e.mono (by omega)) rfl (jaC (jv 9) (jaC (jv 4) jaN))))
 (A4 (D4 (a1W (a0U (a1v (jv 10) T5) (X4 (L6 (C9 K (A7 d (e.mono (by omega)) rfl (jaC (jv 9) (jaC (jv 4) (jaC (jv 10) (jaC (G7 K (jv 6) A6) jaN))))))))))
 (A4 (A9 M9))
 C2)))))
 C2))))))))
 (A4 (A9 M9)))),?_⟩
  refine⟨_,rfl,a,ns,rfl,hS,hl,λp b H1 _ _ d8 s1=>?_⟩;dsimp only[B0,List.set];refine⟨_,rfl,by decide,by decide,?_⟩;refine a2a (lo:=0) (n:=2) (λi σ H'=>Ex9 λo2 o3 o4 o5 o6 o7 o8 o9 L=>An2 (σ=[some (.ref a),some (.ref p),o2,o3,o4,o5,o6,o7,o8,o9,L]) (PotAt H' p b (5000*i))) ⟨none,none,none,none,none,none,none,none,none,rfl,d8⟩ ?_ ?_
  .rintro i σ H2 hi ⟨o2,o3,o4,o5,o6,o7,o8,o9,L,rfl,hP2⟩;obtain⟨nn,c8⟩:∃nn,nn=5000*i:=⟨_,rfl⟩;rw[<-c8]at hP2;have hb:nn+20000<2 ^ 60:=by omega
   have en:nn+5000=5000*(i+1):=by omega
   clear c8;dsimp only[B0,List.set];refine⟨_,rfl,_,_,rfl,rfl,⟨by decide,by decide,by decide⟩,p,b,_,8,_,rfl,by decide,by decide,by decide,by decide,hP2,by omega,λq qr us rss m H3 hq d0 hI e8 hR W c1 _ c5 d2=>?_⟩;rw[show(10:Int) ^ Int.toNat 11=100000000000 by decide]at hR;refine⟨q,[.ref qr,.int m],rfl,SqT.of hq,rfl,.ref qr,[.int m],rfl,.int m,[],rfl,rfl,?_⟩;dsimp only[B0,List.set];refine⟨_,rfl,_,rfl,a8d (k:=4) d0 λra H4 s4 hra=>?_⟩;have U:=(hI.take 4).same s4;have a4:=c5.same s4;have c0:(us.take 4).length<=4:=by rw[aU];omega
   have V:∀r∈rss.take 4,r.length=m/\∀z∈r,-100000000003<=z/\z<=100000000003:=λr e=>⟨(hR r (bD e)).1,λz hz=>(hR r (bD e)).2 z hz⟩;generalize us.take 4=F at hra U c0;generalize rss.take 4=B at U V;clear hq d0 hI e8 hR s4 c5 d2;dsimp only[B0,List.set];refine⟨_,rfl,_,rfl,_,rfl,p,b,ra,F,B,_,m,_,rfl,rfl,hra,U,c0,W,c1,V,a4,by omega,λro os Y H5 d1 c4 c9 c2 hE a5 X=>?_⟩;have a5:PotAt H5 p b (nn+5000):=a5.mono (by omega);have Rr:RwP H5 ra F B m:=⟨X _ _ (a1r a4 hra) hra,E6 U a4 X,by omega,W,c1,λr e=>⟨(V r e).1,λz hz=>by have:=(V r e).2 z hz;omega⟩⟩;have Ro:RwP H5 ro os Y m:=⟨d1,c4,c9,W,c1,λr e=>⟨(c2 r e).1,λz hz=>by have:=(c2 r e).2 z hz;omega⟩⟩;clear hra U c0 V a4 d1 c4 c9 c2 X;dsimp only[B0,List.set];refine⟨_,rfl,_,rfl,ra,F,B,m,_,rfl,rfl,Rr,λx6 H6 s6 a8=>?_⟩;refine⟨_,rfl,_,rfl,ro,os,Y,m,_,rfl,rfl,Ro.same s6,λx7 H7 s7 f0=>?_⟩;have a8:=a8.same s7;have b0:=s6.trans s7;have a2:=Rr.same b0;have R:=Ro.same b0;have c6:=a5.same b0;clear Rr Ro a5 b0 s6 s7;refine⟨_,_,rfl,?_⟩;dsimp only[B0,List.set];refine V8 (λσ H'=>Ex1 λo8=>An2 (σ=[some (.ref a),some (.ref p),some (.int (0+(i:Int))),some (.ref ra),some (.int m),some (.ref ro),some x6,some x7,o8,o9,L]) (Same H7 H')) ?fin λfin=>?_
   case fin =>
    rintro σ H8 ⟨o8,rfl,s8⟩;rcases a8 with rfl|⟨q6,t6,d3,c3,d4,a0,W6,rfl,f6⟩
    .exact⟨_,rfl,rfl,_,rfl,D0 ⟨_,_,_,_,_,_,_,_,_,rfl,en ▸ c6.same s8⟩⟩
    refine⟨_,rfl,rfl,_,rfl,G3 ?_⟩;have d6:=a2.same s8;have g1:=R.same s8;refine⟨_,rfl,_,rfl,_,rfl,rfl,ra,F,rfl,SqT.of d6.ha,λpv e4=>?_⟩;have s9:=s8.upd (o:=.tup F.reverse) e4;have e9:upd H8 pv (.tup F.reverse) pv=some (.tup F.reverse):=A0;generalize upd H8 pv (.tup F.reverse)=H9 at s9 e9;refine⟨_,rfl,by show 3<=sizeLine;omega,λpt e3=>?_⟩;have b4:=(Same.refl H9).upd (o:=.tup [.ref ra,.ref pv,.ref ro]) e3;have t:=s9.trans b4;have O:upd H9 pt (.tup [.ref ra,.ref pv,.ref ro]) pt=some (.tup [.ref ra,.ref pv,.ref ro]):=A0;have b3:=b4 _ _ e9;generalize upd H9 pt (.tup [.ref ra,.ref pv,.ref ro])=b5 at t O b3;refine⟨pt,rfl,⟨_,SqT.of O⟩,?_⟩;refine a2Y (K:=K) (a:=pt) (xs:=[.ref ra,.ref pv,.ref ro]) (λj σ H'=>Ex3 λo8 o9 L=>An2 (σ=[some (.ref a),some (.ref p),some (.int (0+(i:Int))),some (.ref ra),some (.int m),some (.ref ro),some (.ref q6),some x7,o8,o9,L]) (Same b5 H')) ⟨_,_,_,rfl,Same.refl _⟩ (λj σ H' _ h=>by obtain⟨_,_,_,_,s'⟩:=h;exact SqT.of (s' _ _ O)) ?_ ?_
    .rintro j x σ b8 hx ⟨o8,o9,L,rfl,D⟩;obtain⟨rr,uu,Z,rfl,Rx,d7⟩:∃rr uu Z,x=.ref rr/\RwP b8 rr uu Z m/\EqA m Z B:=by
      match j,hx with
      |0,hx=>cases hx;exact⟨ra,F,B,rfl,a2.same (t.trans D),λv _=>Iff.rfl⟩
      |1,hx=>cases hx;exact⟨pv,_,_,rfl,(a2.same (t.trans D)).rev (D _ _ b3),λv _=>⟨λg r e=>g r (List.mem_reverse.mpr e),λg r e=>g r (List.mem_reverse.mp e)⟩⟩
      |2,hx=>cases hx;exact⟨ro,os,Y,rfl,R.same (t.trans D),hE⟩
     dsimp only[B0,List.set];refine⟨_,rfl,_,rfl,rr,uu,Z,m,_,rfl,rfl,Rx,λy d5 a9 hy=>?_⟩;dsimp only[B0,List.set];have M:=D.trans a9;rcases hy with rfl|⟨qs,ss,rfl,e5,e6,e7⟩
     .exact⟨_,rfl,rfl,_,rfl,D0 (D0 ⟨_,_,_,rfl,M⟩)⟩
     refine⟨_,rfl,rfl,_,rfl,G3 ?_⟩;have a3:=f6.same (t.trans M);refine⟨_,rfl,_,rfl,_,rfl,_,rfl,q6,_,0,_,rfl,rfl,SqT.of a3.hq,rfl,rr,qs,t6,uu,ss,c3,Z,a0,m,_,rfl,rfl,Rx.same a9,e5,e6,e7,a3.ht,a3.hI,a3.o.eqv d7,λg0 f5=>⟨true,rfl,D0 ⟨_,_,_,rfl,M.trans f5⟩⟩⟩
    .rintro σ b8 ⟨o8,o9,L,rfl,D⟩;exact⟨_,_,_,_,_,_,_,_,_,rfl,en ▸ c6.same (t.trans D)⟩
   rcases a8 with rfl|⟨q6,t6,d3,c3,d4,a0,W6,rfl,f6⟩
   .exact⟨_,rfl,rfl,_,rfl,D0 (D0 (fin _ _ ⟨_,rfl,Same.refl _⟩))⟩
   refine⟨_,rfl,rfl,_,rfl,G3 ?_⟩;rcases f0 with rfl|⟨q7,t7,f2,f9,f8,a1,W7,rfl,f7⟩
   .exact⟨_,rfl,rfl,_,rfl,D0 (fin _ _ ⟨_,rfl,Same.refl _⟩)⟩
   refine⟨_,rfl,rfl,_,rfl,G3 ?_⟩;have et:a1=a0:=f7.o.eq (f6.o.eqv hE);subst et;have d9:SD H7 4 (.ref t7) (.ref t6):=(b4g f7.ht f6.ht f7.hI f6.hI (by have:=f7.zl;omega) (λr e=>(f7.sm r (aK _ e)).1)).up;refine⟨_,rfl,q7,_,0,_,rfl,rfl,SqT.of f7.hq,rfl,_,rfl,q6,_,0,_,rfl,rfl,SqT.of f6.hq,rfl,_,_,rfl,d9,λH8 s8=>⟨true,rfl,D0 ?_⟩⟩;refine⟨by show 1<=sizeLine;omega,λp9 e2=>⟨_,rfl,p9,[.non],_,rfl,rfl,A0,by simp,by omega,?_,λca b5 t O=>?_⟩⟩
   .show(1:Int)*_<=_;omega
   rw[bf,a2b]at O;have t:=s8.trans (((Same.refl H8).upd (o:=.tup [.non]) e2).trans t);have c7:b5 ca=some (.tup ((fre m).map cV)):=by rw[O,List.map_replicate];rfl
   dsimp only[B0,List.set];have a6:=f6.same t;have a7:=f7.same t;have S:=a2.same t;have f4:Rs (fre m).length B:=λr e=>by rw[B2];exact⟨(S.hR r e).1,a8k (S.hR r e).2⟩
   have f3:Rs (fre m).length Y:=λr e=>by rw[B2];exact⟨(R.hR r e).1,a8k (R.hR r e).2⟩
   refine⟨_,rfl,_,rfl,_,rfl,q7,_,0,_,rfl,rfl,SqT.of a7.hq,rfl,_,rfl,q6,_,1,_,rfl,rfl,SqT.of a6.hq,rfl,ra,ca,t7,d3,F,f9,d4,B,a1,W6,fre m,rfl,S.ha,S.hI,by have:=S.ul;omega,c7,by rw[B2];exact W,by rw[B2];omega,f4,a7.ht,a7.hI,by have:=a7.zl;omega,a6.hp,a6.hW,by have:=a6.wl;omega,f6.sm,λb1 b8 D e0=>?_⟩;rw[e0.mpr f6.sh];refine⟨rfl,_,rfl,D0 ?_⟩;have N:=t.trans D;have b6:=f6.same N;have b7:=f7.same N;have b9:=R.same N;refine⟨_,rfl,_,rfl,_,rfl,q6,_,0,_,rfl,rfl,SqT.of b6.hq,rfl,_,rfl,q7,_,1,_,rfl,rfl,SqT.of b7.hq,rfl,ro,ca,t6,f2,os,c3,f8,Y,a1,W7,fre m,rfl,b9.ha,b9.hI,by have:=b9.ul;omega,D _ _ c7,by rw[B2];exact W,by rw[B2];omega,f3,b6.ht,b6.hI,by have:=b6.zl;omega,b7.hp,b7.hW,by have:=b7.wl;omega,f7.sm,λb2 d5 a9 e1=>?_⟩;rw[e1.mpr f7.sh];exact⟨rfl,_,rfl,D0 (fin _ _ ⟨_,rfl,N.trans a9⟩)⟩
  .rintro σ H2 ⟨o2,o3,o4,o5,o6,o7,o8,o9,L,rfl,hP2⟩;exact k H2
end
open PySem.W
def nI(K:qF)(x:Str)(f:qE):Prop:=nsIn K mainGlobals x=some (some (.ref f))
def all_mk{l:PySem.W.OpenLaw}{w:World}{K:qF}{h:Heap}{mg:Str->qD qB}{fa:qE}(X:K.In h)(G:h.Ns mainGlobals mg)(I4:mg "law"=some (.ref fa))
 (a1:nI K "free" f1) (l1:FnL K f1 "free" "free" a5E o1 d1 s1 v1 x1 p1 n1 c1 t1) (H4:codeIn K c1 "free"=true) (k1:keepIn K (.ref f1)=true)
 (a2:nI K "within" f2) (l2:FnL K f2 "within" "within" a1k o2 d2 s2 v2 x2 p2 n2 c2 t2) (H5:codeIn K c2 "within"=true) (k2:keepIn K (.ref f2)=true)
 (a3:nI K "row_sum" f3) (l3:FnL K f3 "row_sum" "row_sum" a0s o3 d3 s3 v3 x3 p3 n3 c3 t3) (H6:codeIn K c3 "row_sum"=true) (k3:keepIn K (.ref f3)=true)
 (a4:nI K "sums" f4) (l4:FnL K f4 "sums" "sums" a5C o4 d4 s4 v4 x4 p4 n4 c4 t4) (H7:codeIn K c4 "sums"=true) (k4:keepIn K (.ref f4)=true)
 (a5:nI K "is_answer" f5) (l5:FnL K f5 "is_answer" "is_answer" R8 o5 d5 s5 v5 x5 p5 n5 c5 t5) (H8:codeIn K c5 "is_answer"=true) (k5:keepIn K (.ref f5)=true)
 (a6:nI K "pull_of" f6) (l6:FnL K f6 "pull_of" "pull_of" a0t o6 d6 s6 v6 x6 p6 n6 c6 t6) (H9:codeIn K c6 "pull_of"=true) (k6:keepIn K (.ref f6)=true)
 (a7:nI K "falls" f7) (l7:FnL K f7 "falls" "falls" a2S o7 d7 s7 v7 x7 p7 n7 c7 t7) (I1:codeIn K c7 "falls"=true) (k7:keepIn K (.ref f7)=true)
 (a8:nI K "below" f8) (l8:FnL K f8 "below" "below" a2T o8 d8 s8 v8 x8 p8 n8 c8 t8) (I2:codeIn K c8 "below"=true) (k8:keepIn K (.ref f8)=true)
 (a9:nI K "plus" f9) (l9:FnL K f9 "plus" "plus" a5D o9 d9 s9 v9 x9 p9 n9 c9 t9) (I3:codeIn K c9 "plus"=true) (k9:keepIn K (.ref f9)=true)
 (u7:nI K "times" f10) (l10:FnL K f10 "times" "times" a2O o10 d10 s10 v10 x10 p10 n10 c10 t10) (h8:codeIn K c10 "times"=true) (I5:keepIn K (.ref f10)=true)
 (u8:nI K "nought" f11) (l11:FnL K f11 "nought" "nought" a1m o11 d11 s11 v11 x11 p11 n11 c11 t11) (h9:codeIn K c11 "nought"=true) (I6:keepIn K (.ref f11)=true)
 (u9:nI K "unit" f12) (l12:FnL K f12 "unit" "unit" a5B o12 d12 s12 v12 x12 p12 n12 c12 t12) (i0:codeIn K c12 "unit"=true) (I7:keepIn K (.ref f12)=true)
 (v0:nI K "least_of" f13) (l13:FnL K f13 "least_of" "least_of" W4 o13 d13 s13 v13 x13 p13 n13 c13 t13) (i1:codeIn K c13 "least_of"=true) (I8:keepIn K (.ref f13)=true)
 (w0:nI K "above_any" f14) (l14:FnL K f14 "above_any" "above_any" M8 o14 d14 s14 v14 x14 p14 n14 c14 t14) (i2:codeIn K c14 "above_any"=true) (L0:keepIn K (.ref f14)=true)
 (w1:nI K "first_steps" f15) (l15:FnL K f15 "first_steps" "first_steps" L9 o15 d15 s15 v15 x15 p15 n15 c15 t15) (i3:codeIn K c15 "first_steps"=true) (L1:keepIn K (.ref f15)=true)
 (w2:nI K "raised" f16) (l16:FnL K f16 "raised" "raised" a1l o16 d16 s16 v16 x16 p16 n16 c16 t16) (i4:codeIn K c16 "raised"=true) (L2:keepIn K (.ref f16)=true)
 (w3:nI K "steps" f17) (l17:FnL K f17 "steps" "steps" a2P o17 d17 s17 v17 x17 p17 n17 c17 t17) (i5:codeIn K c17 "steps"=true) (N4:keepIn K (.ref f17)=true)
 (w4:nI K "is_barred" f18) (l18:FnL K f18 "is_barred" "is_barred" R7 o18 d18 s18 v18 x18 p18 n18 c18 t18) (i6:codeIn K c18 "is_barred"=true) (N6:keepIn K (.ref f18)=true)
 (w5:nI K "next_level" f19) (l19:FnL K f19 "next_level" "next_level" N9 o19 d19 s19 v19 x19 p19 n19 c19 t19) (i7:codeIn K c19 "next_level"=true) (Q1:keepIn K (.ref f19)=true)
 (w6:nI K "least" f20) (l20:FnL K f20 "least" "least" a2R o20 d20 s20 v20 x20 p20 n20 c20 t20) (i8:codeIn K c20 "least"=true) (Q2:keepIn K (.ref f20)=true)
 (w7:nI K "is_number" f21) (l21:FnL K f21 "is_number" "is_number" R1 o21 d21 s21 v21 x21 p21 n21 c21 t21) (i9:codeIn K c21 "is_number"=true) (Q4:keepIn K (.ref f21)=true)
 (w8:nI K "is_vector" f22) (l22:FnL K f22 "is_vector" "is_vector" R0 o22 d22 s22 v22 x22 p22 n22 c22 t22) (j0:codeIn K c22 "is_vector"=true) (Q7:keepIn K (.ref f22)=true)
 (w9:nI K "are_vectors" f23) (l23:FnL K f23 "are_vectors" "are_vectors" M0 o23 d23 s23 v23 x23 p23 n23 c23 t23) (j1:codeIn K c23 "are_vectors"=true) (Q8:keepIn K (.ref f23)=true)
 (x0:nI K "together" f24) (l24:FnL K f24 "together" "together" V9 o24 d24 s24 v24 x24 p24 n24 c24 t24) (j2:codeIn K c24 "together"=true) (R5:keepIn K (.ref f24)=true)
 (y0:nI K "narrowed" f25) (l25:FnL K f25 "narrowed" "narrowed" W3 o25 d25 s25 v25 x25 p25 n25 c25 t25) (j3:codeIn K c25 "narrowed"=true) (R6:keepIn K (.ref f25)=true)
 (y1:nI K "by_rows" f26) (l26:FnL K f26 "by_rows" "by_rows" a0v o26 d26 s26 v26 x26 p26 n26 c26 t26) (j4:codeIn K c26 "by_rows"=true) (S0:keepIn K (.ref f26)=true)
 (y2:nI K "all_fit" f27) (l27:FnL K f27 "all_fit" "all_fit" a0w o27 d27 s27 v27 x27 p27 n27 c27 t27) (j5:codeIn K c27 "all_fit"=true) (S1:keepIn K (.ref f27)=true)
 (y3:nI K "are_least" f28) (l28:FnL K f28 "are_least" "are_least" R9 o28 d28 s28 v28 x28 p28 n28 c28 t28) (j6:codeIn K c28 "are_least"=true) (S2:keepIn K (.ref f28)=true)
 (y4:nI K "is_met" f29) (l29:FnL K f29 "is_met" "is_met" a1n o29 d29 s29 v29 x29 p29 n29 c29 t29) (j7:codeIn K c29 "is_met"=true) (S3:keepIn K (.ref f29)=true)
 (y5:nI K "goes_on" f30) (l30:FnL K f30 "goes_on" "goes_on" a0u o30 d30 s30 v30 x30 p30 n30 c30 t30) (j8:codeIn K c30 "goes_on"=true) (S4:keepIn K (.ref f30)=true)
 (y6:nI K "shows" f31) (l31:FnL K f31 "shows" "shows" a2Q o31 d31 s31 v31 x31 p31 n31 c31 t31) (j9:codeIn K c31 "shows"=true) (S8:keepIn K (.ref f31)=true)
 (y7:nI K "_law_pot" f32) (l32:FnL K f32 "_law_pot" "_law_pot" W5 o32 d32 s32 v32 x32 p32 n32 c32 t32) (k0:codeIn K c32 "_law_pot"=true) (T6:keepIn K (.ref f32)=true)
 (y8:nI K "_law_take" f33) (l33:FnL K f33 "_law_take" "_law_take" S5 o33 d33 s33 v33 x33 p33 n33 c33 t33) (l0:codeIn K c33 "_law_take"=true) (U3:keepIn K (.ref f33)=true)
 (y9:nI K "_law_number" f34) (l34:FnL K f34 "_law_number" "_law_number" M3 o34 d34 s34 v34 x34 p34 n34 c34 t34) (m0:codeIn K c34 "_law_number"=true) (W0:keepIn K (.ref f34)=true)
 (z0:nI K "_law_system" f35) (l35:FnL K f35 "_law_system" "_law_system" M1 o35 d35 s35 v35 x35 p35 n35 c35 t35) (m1:codeIn K c35 "_law_system"=true) (W1:keepIn K (.ref f35)=true)
 (D1:nI K "_law_below" f36) (l36:FnL K f36 "_law_below" "_law_below" O1 o36 d36 s36 v36 x36 p36 n36 c36 t36) (m2:codeIn K c36 "_law_below"=true) (W2:keepIn K (.ref f36)=true)
 (D2:nI K "_law_same" f37) (l37:FnL K f37 "_law_same" "_law_same" S6 o37 d37 s37 v37 x37 p37 n37 c37 t37) (m3:codeIn K c37 "_law_same"=true) (W6:keepIn K (.ref f37)=true)
 (D3:nI K "_law_least_of" f38) (l38:FnL K f38 "_law_least_of" "_law_least_of" J5 o38 d38 s38 v38 x38 p38 n38 c38 t38) (m4:codeIn K c38 "_law_least_of"=true) (W7:keepIn K (.ref f38)=true)
 (F0:nI K "_law_steps" f39) (l39:FnL K f39 "_law_steps" "_law_steps" O0 o39 d39 s39 v39 x39 p39 n39 c39 t39) (m5:codeIn K c39 "_law_steps"=true) (W9:keepIn K (.ref f39)=true)
 (H0:nI K "_law_combined" f40) (l40:FnL K f40 "_law_combined" "_law_combined" J6 o40 d40 s40 v40 x40 p40 n40 c40 t40) (m6:codeIn K c40 "_law_combined"=true) (X3:keepIn K (.ref f40)=true)
 (H1:nI K "_law_otherwise" f41) (l41:FnL K f41 "_law_otherwise" "_law_otherwise" I9 o41 d41 s41 v41 x41 p41 n41 c41 t41) (m7:codeIn K c41 "_law_otherwise"=true) (k41:keepIn K (.ref f41)=true)
 (H2:nI K "_law_steps_right" f42) (l42:FnL K f42 "_law_steps_right" "_law_steps_right" E3 o42 d42 s42 v42 x42 p42 n42 c42 t42) (m8:codeIn K c42 "_law_steps_right"=true) (k42:keepIn K (.ref f42)=true)
 (H3:nI K "law" f43) (l43:FnL K f43 "law" "law" a3o o43 d43 s43 v43 x43 p43 n43 c43 t43) (m9:codeIn K c43 "law"=true) (k43:keepIn K (.ref f43)=true)
  (z1:PySem.W.nsIn K mainGlobals "ValueError"=some none) (z2:PySem.W.nsIn K mainGlobals "abs"=some none) (z3:PySem.W.nsIn K mainGlobals "all"=some none) (z4:PySem.W.nsIn K mainGlobals "any"=some none) (z5:PySem.W.nsIn K mainGlobals "bool"=some none) (z6:PySem.W.nsIn K mainGlobals "dict"=some none) (z7:PySem.W.nsIn K mainGlobals "enumerate"=some none) (z8:PySem.W.nsIn K mainGlobals "int"=some none) (z9:PySem.W.nsIn K mainGlobals "isinstance"=some none) (z10:PySem.W.nsIn K mainGlobals "len"=some none) (z11:PySem.W.nsIn K mainGlobals "list"=some none) (z12:PySem.W.nsIn K mainGlobals "range"=some none) (z13:PySem.W.nsIn K mainGlobals "set"=some none) (z14:PySem.W.nsIn K mainGlobals "sorted"=some none) (z15:PySem.W.nsIn K mainGlobals "sum"=some none) (z16:PySem.W.nsIn K mainGlobals "tuple"=some none) (z17:PySem.W.nsIn K mainGlobals "zip"=some none)
  {o:qE}(e2:nI K "TooMany" o) {a:qE}(g8:nI K "Finder" a) {g3 g5:Str}{q:qE}{e5 m e1:qA qB}{e7 e3:Bool}{g6:qA Str}{e0:qD Bool}{e6:qD qE}{e9 f0 g0 g1 g2:qD qB}(lx_TooMany:K.lookup o=some (excClassObj g3 g5 o q e5 m e7 g6 e1 e3 e0 e6 e9 f0 g0 g1 g2 "ValueError.__new__")) (g7:PySem.W.tailIn K [.type "ValueError",.type "Exception",.type "BaseException",.type "object"] m=true) (g4:PySem.W.nsOkIn K q=true) (e8:PySem.W.nsIn K q "__init__"=some none) (e4:m.contains (.type "BaseException")=true) (pg_Finder:PySem.W.plainGet K a Str.empty=true) (g9:PySem.W.hasDictIn K a=true) (h2:PySem.W.plainOver K a=true) (h3:PySem.W.findIn K (.ref a) "__setattr__"=some (some (.builtin "object.__setattr__"))) (h1:PySem.W.makesIn K a=true) (h0:PySem.W.keepIn K (.ref a)=true) (d0:PySem.W.findIn K (.ref a) "rows"=some none) (b9:PySem.W.findIn K (.ref a) "caps"=some none) (W:PySem.W.findIn K (.ref a) "begun"=some none) (c0:PySem.W.findIn K (.ref a) "here"=some none) (Y:PySem.W.findIn K (.ref a) "found"=some none) (B:PySem.W.findIn K (.ref a) "walked"=some none) (r:findIn K (.ref a) "__init__"=some (some (.ref f_Finder___init__))) (u:isFn K (.ref f_Finder___init__)=true) (y:FnL K f_Finder___init__ "__init__" "Finder.__init__" G0 o_Finder___init__ d_Finder___init__ s0_Finder___init__ v_Finder___init__ x_Finder___init__ p_Finder___init__ n0_Finder___init__ c0_Finder___init__ t_Finder___init__) (t:codeIn K c0_Finder___init__ "Finder.__init__"=true) (x:keepIn K (.ref f_Finder___init__)=true) (a0:findIn K (.ref a) "step"=some (some (.ref f_Finder_step))) (b3:isFn K (.ref f_Finder_step)=true) (b7:FnL K f_Finder_step "step" "Finder.step" a0K o_Finder_step d_Finder_step s0_Finder_step v_Finder_step x_Finder_step p_Finder_step n0_Finder_step c0_Finder_step t_Finder_step) (b1:codeIn K c0_Finder_step "Finder.step"=true) (b5:keepIn K (.ref f_Finder_step)=true) (f:findIn K (.ref a) "step_within"=some (some (.ref f_Finder_step_within))) (i:isFn K (.ref f_Finder_step_within)=true) (k:FnL K f_Finder_step_within "step_within" "Finder.step_within" D5 o_Finder_step_within d_Finder_step_within s0_Finder_step_within v_Finder_step_within x_Finder_step_within p_Finder_step_within n0_Finder_step_within c0_Finder_step_within t_Finder_step_within) (g:codeIn K c0_Finder_step_within "Finder.step_within"=true) (j:keepIn K (.ref f_Finder_step_within)=true) (E:findIn K (.ref a) "level"=some (some (.ref f_Finder_level))) (M:isFn K (.ref f_Finder_level)=true) (U:FnL K f_Finder_level "level" "Finder.level" Z8 o_Finder_level d_Finder_level s0_Finder_level v_Finder_level x_Finder_level p_Finder_level n0_Finder_level c0_Finder_level t_Finder_level) (I:codeIn K c0_Finder_level "Finder.level"=true) (Q:keepIn K (.ref f_Finder_level)=true) (b0:findIn K (.ref a) "told"=some (some (.ref f_Finder_told))) (b4:isFn K (.ref f_Finder_told)=true) (b8:FnL K f_Finder_told "told" "Finder.told" M4 o_Finder_told d_Finder_told s0_Finder_told v_Finder_told x_Finder_told p_Finder_told n0_Finder_told c0_Finder_told t_Finder_told) (b2:codeIn K c0_Finder_told "Finder.told"=true) (b6:keepIn K (.ref f_Finder_told)=true) (F:findIn K (.ref a) "paper"=some (some (.ref f_Finder_paper))) (N:isFn K (.ref f_Finder_paper)=true) (V:FnL K f_Finder_paper "paper" "Finder.paper" K3 o_Finder_paper d_Finder_paper s0_Finder_paper v_Finder_paper x_Finder_paper p_Finder_paper n0_Finder_paper c0_Finder_paper t_Finder_paper) (J:codeIn K c0_Finder_paper "Finder.paper"=true) (R:keepIn K (.ref f_Finder_paper)=true) (D:findIn K (.ref a) "ended"=some (some (.ref f_Finder_ended))) (L:isFn K (.ref f_Finder_ended)=true) (S:FnL K f_Finder_ended "ended" "Finder.ended" K4 o_Finder_ended d_Finder_ended s0_Finder_ended v_Finder_ended x_Finder_ended p_Finder_ended n0_Finder_ended c0_Finder_ended t_Finder_ended) (H:codeIn K c0_Finder_ended "Finder.ended"=true) (O:keepIn K (.ref f_Finder_ended)=true) :
  ∃fd:FuncData,(∀(s:qC) (v:qB),BindsTo s fd ⟨[v],[]⟩ [("_law_script",v)])/\∀base:Heap,K.In base->base.Ns mainGlobals mg->FnOk l.prog w K mg base CX0 11 fa fd ["_law_script"] (a9s K):=by
 have e:=I4.symm.trans (PySem.W.mg_of X G H3);cases e;have T:Tx mg:=⟨PySem.W.mg_none_of X G z1,PySem.W.mg_none_of X G z2,PySem.W.mg_none_of X G z3,PySem.W.mg_none_of X G z4,PySem.W.mg_none_of X G z5,PySem.W.mg_none_of X G z6,PySem.W.mg_none_of X G z7,PySem.W.mg_none_of X G z8,PySem.W.mg_none_of X G z9,PySem.W.mg_none_of X G z10,PySem.W.mg_none_of X G z11,PySem.W.mg_none_of X G z12,PySem.W.mg_none_of X G z13,PySem.W.mg_none_of X G z14,PySem.W.mg_none_of X G z15,PySem.W.mg_none_of X G z16,PySem.W.mg_none_of X G z17⟩;have F1:FunAt K mg "free" a5E ["width"]:=B9 X G a1 l1 H4 k1
 have F2:FunAt K mg "within" a1k ["caps","one"]:=B9 X G a2 l2 H5 k2
 have F3:FunAt K mg "row_sum" a0s ["row","one"]:=B9 X G a3 l3 H6 k3
 have F4:FunAt K mg "sums" a5C ["rows","one"]:=B9 X G a4 l4 H7 k4
 have F5:FunAt K mg "is_answer" R8 ["rows","one"]:=B9 X G a5 l5 H8 k5
 have F6:FunAt K mg "pull_of" a0t ["rows","totals","j"]:=B9 X G a6 l6 H9 k6
 have F7:FunAt K mg "falls" a2S ["rows","one"]:=B9 X G a7 l7 I1 k7
 have F8:FunAt K mg "below" a2T ["one","other"]:=B9 X G a8 l8 I2 k8
 have F9:FunAt K mg "plus" a5D ["one","other"]:=B9 X G a9 l9 I3 k9
 have n0:FunAt K mg "times" a2O ["many","one"]:=B9 X G u7 l10 h8 I5
 have o0:FunAt K mg "nought" a1m ["width"]:=B9 X G u8 l11 h9 I6
 have p0:FunAt K mg "unit" a5B ["width","j"]:=B9 X G u9 l12 i0 I7
 have q0:FunAt K mg "least_of" W4 ["some"]:=B9 X G v0 l13 i1 I8
 have h7:FunAt K mg "above_any" M8 ["some","one"]:=B9 X G w0 l14 i2 L0
 have q1:FunAt K mg "first_steps" L9 ["caps"]:=B9 X G w1 l15 i3 L1
 have q2:FunAt K mg "raised" a1l ["one","j"]:=B9 X G w2 l16 i4 L2
 have q3:FunAt K mg "steps" a2P ["rows","caps","one"]:=B9 X G w3 l17 i5 N4
 have q4:FunAt K mg "is_barred" R7 ["found","one","j"]:=B9 X G w4 l18 i6 N6
 have q5:FunAt K mg "next_level" N9 ["rows","caps","found","level","room"]:=B9 X G w5 l19 i7 Q1
 have q6:FunAt K mg "least" a2R ["rows","caps","most"]:=B9 X G w6 l20 i8 Q2
 have q7:FunAt K mg "is_number" R1 ["value"]:=B9 X G w7 l21 i9 Q4
 have q8:FunAt K mg "is_vector" R0 ["value","width"]:=B9 X G w8 l22 j0 Q7
 have q9:FunAt K mg "are_vectors" M0 ["value","width"]:=B9 X G w9 l23 j1 Q8
 have r0:FunAt K mg "together" V9 ["told","counts","width"]:=B9 X G x0 l24 j2 R5
 have r1:FunAt K mg "narrowed" W3 ["told","row","most"]:=B9 X G y0 l25 j3 R6
 have r2:FunAt K mg "by_rows" a0v ["rows","width","most"]:=B9 X G y1 l26 j4 S0
 have r3:FunAt K mg "all_fit" a0w ["caps","some"]:=B9 X G y2 l27 j5 S1
 have r4:FunAt K mg "are_least" R9 ["rows","told"]:=B9 X G y3 l28 j6 S2
 have r5:FunAt K mg "is_met" a1n ["told","listed","one"]:=B9 X G y4 l29 j7 S3
 have r6:FunAt K mg "goes_on" a0u ["rows","caps","told","listed","one"]:=B9 X G y5 l30 j8 S4
 have r7:FunAt K mg "shows" a2Q ["rows","caps","told","paper"]:=B9 X G y6 l31 j9 S8
 have r8:FunAt K mg "_law_pot" W5 ["_law_script"]:=B9 X G y7 l32 k0 T6
 have r9:FunAt K mg "_law_take" S5 ["_law_pot_here","_law_many"]:=B9 X G y8 l33 l0 U3
 have s0:FunAt K mg "_law_number" M3 ["_law_pot_here","_law_far"]:=B9 X G y9 l34 m0 W0
 have t0:FunAt K mg "_law_system" M1 ["_law_pot_here","_law_wide","_law_far"]:=B9 X G z0 l35 m1 W1
 have u0:FunAt K mg "_law_below" O1 ["_law_one","_law_other"]:=B9 X G D1 l36 m2 W2
 have u1:FunAt K mg "_law_same" S6 ["_law_found","_law_due"]:=B9 X G D2 l37 m3 W6
 have u2:FunAt K mg "_law_least_of" J5 ["_law_rows","_law_width"]:=B9 X G D3 l38 m4 W7
 have u3:FunAt K mg "_law_steps" O0 ["_law_rows","_law_width"]:=B9 X G F0 l39 m5 W9
 have u4:FunAt K mg "_law_combined" J6 ["_law_pot_here","_law_rows","_law_width"]:=B9 X G H0 l40 m6 X3
 have u5:FunAt K mg "_law_otherwise" I9 ["_law_pot_here","_law_rows","_law_width"]:=B9 X G H1 l41 m7 k41
 have u6:FunAt K mg "_law_steps_right" E3 ["_law_rows","_law_width","_law_steps_here","_law_told"]:=B9 X G H2 l42 m8 k42
 refine⟨fnOf "law" "law" (U0 a3o) (G1 a3o) (A1 a3o) .none v43 x43 p43 n43 c43 t43,λs v=>.of_eq rfl,λbase XB GB=>?_⟩;have p:=PySem.W.mg_of X G e2;have h5:=PySem.W.mg_of X G g8;have Z:Cls K a:=⟨pg_Finder,g9,h2,h3⟩;have n:MethAt K a "__init__" "Finder.__init__" G0 ["self","rows","caps"]:=a3D r u y t x
 have h6:MethAt K a "step" "Finder.step" a0K ["self"]:=a3D a0 b3 b7 b1 b5
 have d:MethAt K a "step_within" "Finder.step_within" D5 ["self","room"]:=a3D f i k g j
 have h4:MethAt K a "level" "Finder.level" Z8 ["self"]:=a3D E M U I Q
 have C:MethAt K a "told" "Finder.told" M4 ["self"]:=a3D b0 b4 b8 b2 b6
 have A:MethAt K a "paper" "Finder.paper" K3 ["self"]:=a3D F N V J R
 have z:MethAt K a "ended" "Finder.ended" K4 ["self"]:=a3D D L S H O
 have FL:=a3U (st:=a3o) l43 m9 k43;have RS:=a8q (base:=base) (P:=l.prog) (w:=w) F3 T;have SU:=b6g F4 T RS;have IA:=a5J F5 T SU;have FA:=b3G F7 T (a8r F6 T) SU;have BE:=b3I (base:=base) (P:=l.prog) (w:=w) F8 T;have ST:=b3B q3 T FA (b1g q2);have NX:=a4m q5 T ST (a5I q4 T BE);have FS:=a3y (base:=base) (P:=l.prog) (w:=w) q1 T (b6d p0 T) (a4G F2 T);have UF:FiTx K a:=⟨Z,d0,b9,W,c0,Y,B⟩;have MI:=(b3F (base:=base) (P:=l.prog) (w:=w) (mg:=mg) n UF).make h5 h1 h0;have MS:=b3A d UF T NX FS IA;have ME:=b3H (base:=base) (P:=l.prog) (w:=w) z UF T;have MT:=b6e (base:=base) (P:=l.prog) (w:=w) C UF T;have MP:=b3D (base:=base) (P:=l.prog) (w:=w) A UF T;have LE:=b3E q6 T UF Z MI MS ME MT MP (b8A XB p lx_TooMany g7 g4 e8);have TK:=b6f (base:=base) (P:=l.prog) (w:=w) r9 T;have SY:=b8L t0 T TK (b1h s0 T TK);have FR:=b6i (base:=base) (P:=l.prog) (w:=w) F1;have TG:=a6R r0 T (b1i o0) (b3z (base:=base) (P:=l.prog) (w:=w) n0 T) (b6h F9 T);have LO:=a6T q0 T (a4q h7 T BE);have NR:=a6S r1 T RS FR TG LO LE;have BR:=a8t r2 T FR FS NR;have SM:=a9K (base:=base) (P:=l.prog) (w:=w) u1 T 4;have XT:=b6K lx_TooMany e4;have AT:=a4p h7 T BE;have AV:=a2z q9 T (a4n q8 T (a4o (base:=base) (P:=l.prog) (w:=w) q7 T));have AF:=a8u r3 T (a4G (base:=base) (P:=l.prog) (w:=w) F2 T);have AL:=a5K r4 T LO IA;have MM:=b1j r5 T AT;have GO:=a8s r6 T AT IA ST MM;have SH:=b3C r7 T AV AF AL MM FS GO;have OT:=b8O u5 T TK (b6j u4 T TK);have LL:=(b8Q u2 T LE p XT).imp (sp':=b2C) λ_ _ _ _ h=>b8W h;have LS:=(b8P u3 T BR p XT).imp (sp':=b2B) λ_ _ _ _ h=>b8V h;exact b8R FL T (b8N r8 T) SY OT LL SM SH LS (b8M u6 T SM (b6k u0 T))
end K38
end
namespace PySem.W.Fast
theorem tw4354893791077391054:True:=⟨⟩
theorem tw13283384895750251981:True:=⟨⟩
theorem tw2954757337367326275:True:=⟨⟩
theorem tw13799570492927604360:True:=⟨⟩
theorem tw16255762684508283876:True:=⟨⟩
theorem tw14549911639285804332:True:=⟨⟩
theorem tw12727910942767465205:True:=⟨⟩
theorem tw5505308381761307873:True:=⟨⟩
theorem tw6498418904942698952:True:=⟨⟩
theorem tw4628206994414149646:True:=⟨⟩
theorem tw14030650764732513516:True:=⟨⟩
theorem tw1068183117732775298:True:=⟨⟩
theorem tw3603572118312842532:True:=⟨⟩
theorem tw2215382621162490507:True:=⟨⟩
theorem tw2420533334579533435:True:=⟨⟩
theorem tw11264749463304042699:True:=⟨⟩
theorem tw3371104560470928174:True:=⟨⟩
theorem tw17771132868260674813:True:=⟨⟩
theorem tw13281343305772973748:True:=⟨⟩
theorem tw12824371427161383937:True:=⟨⟩
theorem tw13519873779780600117:True:=⟨⟩
theorem tw7641427361565573969:True:=⟨⟩
theorem tw864651763118171690:True:=⟨⟩
theorem tw7579960267621111422:True:=⟨⟩
theorem tw14874812743293645030:True:=⟨⟩
theorem tw1924958405684172642:True:=⟨⟩
theorem tw4918776703838120230:True:=⟨⟩
theorem tw6719680944495483096:True:=⟨⟩
theorem tw8781131657548807195:True:=⟨⟩
theorem tw16942096156160165921:True:=⟨⟩
theorem tw8528288783366604457:True:=⟨⟩
theorem tw12080791779408386830:True:=⟨⟩
theorem tw13286854481953936458:True:=⟨⟩
theorem tw4799282825068382847:True:=⟨⟩
theorem tw4899598017422427089:True:=⟨⟩
theorem tw4125629028049000393:True:=⟨⟩
theorem tw7431998914544678744:True:=⟨⟩
theorem tw12618901744219465430:True:=⟨⟩
theorem tw12971623134199581453:True:=⟨⟩
theorem tw6908347083755629132:True:=⟨⟩
theorem tw5091284446764685371:True:=⟨⟩
theorem tw12076963250950484312:True:=⟨⟩
theorem tw14533592927931873852:True:=⟨⟩
theorem tw7148885607428223929:True:=⟨⟩
theorem tw4592083705252173213:True:=⟨⟩
theorem tw9111779427473789324:True:=⟨⟩
theorem tw3443387132516057414:True:=⟨⟩
theorem tw5521467219479792431:True:=⟨⟩
theorem tw17345636774706969121:True:=⟨⟩
theorem tw9229442109152283871:True:=⟨⟩
theorem tw10851250367728411590:True:=⟨⟩
theorem tw14061165435395435917:True:=⟨⟩
theorem tw1040876045782700990:True:=⟨⟩
theorem tw2643092651272877913:True:=⟨⟩
theorem tw18115650894798458082:True:=⟨⟩
theorem tw5345717573216481769:True:=⟨⟩
theorem tw6374208626626666854:True:=⟨⟩
theorem tw3837589327841857100:True:=⟨⟩
theorem tw11422586699832764354:True:=⟨⟩
theorem tw15851581751979956973:True:=⟨⟩
theorem tw11429935594080785040:True:=⟨⟩
theorem tw14095131125347224730:True:=⟨⟩
theorem tw2322651497681926575:True:=⟨⟩
theorem tw10284469116658029897:True:=⟨⟩
theorem tw7366740114291131224:True:=⟨⟩
theorem tw17914437412963031688:True:=⟨⟩
theorem tw18081067530247595802:True:=⟨⟩
theorem tw12576155722517367645:True:=⟨⟩
theorem tw6817732259295981753:True:=⟨⟩
theorem tw3857480503915456211:True:=⟨⟩
theorem tw4857760774575270224:True:=⟨⟩
theorem tw6661129401089436774:True:=⟨⟩
theorem tw16308674464636553690:True:=⟨⟩
theorem tw8427379452163451698:True:=⟨⟩
theorem tw1346796024907403638:True:=⟨⟩
theorem tw6261780970669993531:True:=⟨⟩
theorem tw460144854814907819:True:=⟨⟩
theorem tw17217489464183834826:True:=⟨⟩
theorem tw15710957239557039185:True:=⟨⟩
theorem tw11892633217431473799:True:=⟨⟩
theorem tw2256669627333268191:True:=⟨⟩
theorem tw17302157249363255317:True:=⟨⟩
theorem tw7709740283900344549:True:=⟨⟩
theorem tw8029785923291949045:True:=⟨⟩
theorem tw10869003577484565377:True:=⟨⟩
theorem tw15333763043186216934:True:=⟨⟩
theorem tw11821097277311746600:True:=⟨⟩
theorem tw10829712013759761260:True:=⟨⟩
theorem tw11816273522976961185:True:=⟨⟩
theorem tw13286308397440582591:True:=⟨⟩
theorem tw8707898388999517305:True:=⟨⟩
theorem tw14254059244119350210:True:=⟨⟩
theorem tw17157332015920006509:True:=⟨⟩
theorem tw2565122405851065893:True:=⟨⟩
theorem tw2767001941233994174:True:=⟨⟩
theorem tw6596030799875099005:True:=⟨⟩
theorem tw9638406841807465089:True:=⟨⟩
theorem tw365880767574807091:True:=⟨⟩
theorem tw1114273033335114825:True:=⟨⟩
theorem tw5100963010374297823:True:=⟨⟩
theorem tw282991298566682648:True:=⟨⟩
theorem tw7566474897102001191:True:=⟨⟩
theorem tw5249451946839215547:True:=⟨⟩
theorem tw4726955042213727128:True:=⟨⟩
theorem tw3486624792537572731:True:=⟨⟩
theorem tw1656903951907749353:True:=⟨⟩
theorem tw18020767063824933124:True:=⟨⟩
theorem tw16667583383529699243:True:=⟨⟩
end PySem.W.Fast
open PySem PySem.W PyProof.Rows
set_option maxRecDepth 100000 in
set_option maxHeartbeats 0 in
theorem PySem.Challenge.cw_leastlays_k38_whole_rows_in_any_order_holds : PySem.Challenge.rw_leastlays_k38_whole_rows_in_any_order.Holds := by
 w_on;o_law;k_head;(case hw=>w_witness2)
 k_fill
 refine L2.law_walk (l:=PySem.Challenge.rw_leastlays_k38_whole_rows_in_any_order) 11 rfl rfl ⟨rfl,by decide,by decide⟩ (λw h Y=>PySem.W.kIn_of Y) ?F
 case F =>
  intro w mg fa h KX G hmg
  refine' K38.all_mk KX G hmg ?a1 ?l1 ?c_1 ?k1 ?a2 ?l2 ?c_2 ?k2 ?a3 ?l3 ?c_3 ?k3 ?a4 ?l4 ?c_4 ?k4 ?a5 ?l5 ?c_5 ?k5 ?a6 ?l6 ?c_6 ?k6 ?a7 ?l7 ?c_7 ?k7 ?a8 ?l8 ?c_8 ?k8 ?a9 ?l9 ?c_9 ?k9 ?a10 ?l10 ?c_10 ?k10 ?a11 ?l11 ?c_11 ?k11 ?a12 ?l12 ?c_12 ?k12 ?a13 ?l13 ?c_13 ?k13 ?a14 ?l14 ?c_14 ?k14 ?a15 ?l15 ?c_15 ?k15 ?a16 ?l16 ?c_16 ?k16 ?a17 ?l17 ?c_17 ?k17 ?a18 ?l18 ?c_18 ?k18 ?a19 ?l19 ?c_19 ?k19 ?a20 ?l20 ?c_20 ?k20 ?a21 ?l21 ?c_21 ?k21 ?a22 ?l22 ?c_22 ?k22 ?a23 ?l23 ?c_23 ?k23 ?a24 ?l24 ?c_24 ?k24 ?a25 ?l25 ?c_25 ?k25 ?a26 ?l26 ?c_26 ?k26 ?a27 ?l27 ?c_27 ?k27 ?a28 ?l28 ?c_28 ?k28 ?a29 ?l29 ?c_29 ?k29 ?a30 ?l30 ?c_30 ?k30 ?a31 ?l31 ?c_31 ?k31 ?a32 ?l32 ?c_32 ?k32 ?a33 ?l33 ?c_33 ?k33 ?a34 ?l34 ?c_34 ?k34 ?a35 ?l35 ?c_35 ?k35 ?a36 ?l36 ?c_36 ?k36 ?a37 ?l37 ?c_37 ?k37 ?a38 ?l38 ?c_38 ?k38 ?a39 ?l39 ?c_39 ?k39 ?a40 ?l40 ?c_40 ?k40 ?a41 ?l41 ?c_41 ?k41 ?a42 ?l42 ?c_42 ?k42 ?a43 ?l43 ?c_43 ?k43 ?z1 ?z2 ?z3 ?z4 ?z5 ?z6 ?z7 ?z8 ?z9 ?z10 ?z11 ?z12 ?z13 ?z14 ?z15 ?z16 ?z17 ?aD_TooMany ?aD_Finder ?lx_TooMany ?tx_TooMany ?ok_TooMany ?in_TooMany ?be_TooMany ?pg_Finder ?hd_Finder ?po_Finder ?sa_Finder ?mk_Finder ?kc_Finder ?n_Finder_rows ?n_Finder_caps ?n_Finder_begun ?n_Finder_here ?n_Finder_found ?n_Finder_walked ?a_Finder___init__ ?i_Finder___init__ ?l_Finder___init__ ?c_Finder___init__ ?k_Finder___init__ ?a_Finder_step ?i_Finder_step ?l_Finder_step ?c_Finder_step ?k_Finder_step ?a_Finder_step_within ?i_Finder_step_within ?l_Finder_step_within ?c_Finder_step_within ?k_Finder_step_within ?a_Finder_level ?i_Finder_level ?l_Finder_level ?c_Finder_level ?k_Finder_level ?a_Finder_told ?i_Finder_told ?l_Finder_told ?c_Finder_told ?k_Finder_told ?a_Finder_paper ?i_Finder_paper ?l_Finder_paper ?c_Finder_paper ?k_Finder_paper ?a_Finder_ended ?i_Finder_ended ?l_Finder_ended ?c_Finder_ended ?k_Finder_ended
  (case a1|l1|c_1|k1|a2|l2|c_2|k2|a3|l3|c_3|k3|a4|l4|c_4|k4|a5|l5|c_5|k5|a6|l6|c_6|k6|a7|l7|c_7|k7|a8|l8|c_8|k8|a9|l9|c_9|k9|a10|l10|c_10|k10|a11|l11|c_11|k11|a12|l12|c_12|k12|a13|l13|c_13|k13|a14|l14|c_14|k14|a15|l15|c_15|k15|a16|l16|c_16|k16|a17|l17|c_17|k17|a18|l18|c_18|k18|a19|l19|c_19|k19|a20|l20|c_20|k20|a21|l21|c_21|k21|a22|l22|c_22|k22|a23|l23|c_23|k23|a24|l24|c_24|k24|a25|l25|c_25|k25|a26|l26|c_26|k26|a27|l27|c_27|k27|a28|l28|c_28|k28|a29|l29|c_29|k29|a30|l30|c_30|k30|a31|l31|c_31|k31|a32|l32|c_32|k32|a33|l33|c_33|k33|a34|l34|c_34|k34|a35|l35|c_35|k35|a36|l36|c_36|k36|a37|l37|c_37|k37|a38|l38|c_38|k38|a39|l39|c_39|k39|a40|l40|c_40|k40|a41|l41|c_41|k41|a42|l42|c_42|k42|a43|l43|c_43|k43|z1|z2|z3|z4|z5|z6|z7|z8|z9|z10|z11|z12|z13|z14|z15|z16|z17|aD_TooMany|aD_Finder=>(try unfold L2.FnL);(try unfold K38.nI);k_is)
  (case lx_TooMany|tx_TooMany|ok_TooMany|in_TooMany|be_TooMany=>first|k_is|kernel_rfl|rfl)
  (case pg_Finder|hd_Finder|po_Finder|sa_Finder|mk_Finder|kc_Finder|n_Finder_rows|n_Finder_caps|n_Finder_begun|n_Finder_here|n_Finder_found|n_Finder_walked|a_Finder___init__|i_Finder___init__|l_Finder___init__|c_Finder___init__|k_Finder___init__|a_Finder_step|i_Finder_step|l_Finder_step|c_Finder_step|k_Finder_step|a_Finder_step_within|i_Finder_step_within|l_Finder_step_within|c_Finder_step_within|k_Finder_step_within|a_Finder_level|i_Finder_level|l_Finder_level|c_Finder_level|k_Finder_level|a_Finder_told|i_Finder_told|l_Finder_told|c_Finder_told|k_Finder_told|a_Finder_paper|i_Finder_paper|l_Finder_paper|c_Finder_paper|k_Finder_paper|a_Finder_ended|i_Finder_ended|l_Finder_ended|c_Finder_ended|k_Finder_ended=>(try unfold L2.FnL);(try unfold K38.nI);k_is)
#print axioms PySem.Challenge.cw_leastlays_k38_whole_rows_in_any_order_holds
