import PyProof.Rows.All
import Wide.All
import OpenK.AllK
import Wide.FinOn
import Lean
import PyProof.EqAt
import PyProof.EqKinds
import PyProof.TupleCall
import PyProof.ZipIter
import PyProof.ExcArgsOwn
import PyProof.ExcAttrAll.ValueError
import KE.KSortTup
import PyProof.AutoSeq1
import PySem.SetTable
import PyProof.SetNew
import PyProof.TupleKey
import PyProof.DictRoadsH
import PyProof.DictKinds
import PyProof.IsRules
import PyProof.Rows.SetFrom
import PyProof.WalksMore
import KE.KDictSum
import KE.KDictOf
import PyProof.AttrMissHeap
import PyProof.TupleOfSeq
import PyProof.MeetsStr
import PyProof.MeetsStr2
import PyProof.StrLawsJoin
import PyProof.StrLawsChain
import PyProof.Rows.StrItems
import KE.KIntText
import PyProof.Rows.ReprOcc
import PyProof.StrWalks
import PyProof.CallType
import PyProof.StrOps
import PyProof.StrLawsIn
import PyProof.Rows.CallKwBuiltin
import PyProof.MinMaxWalk
import PyProof.ListRange
import PySem.Challenge.RW_leastlays_k34_narrowed_by_all_or_none
set_option compiler.extract_closed false
set_option bootstrap.genMatcherCode false
set_option genSizeOf false
set_option Elab.async false
set_option linter.all false
set_option maxRecDepth 100000
set_option maxHeartbeats 4000000
def aa:=@PySem.wpAny_bind
def ae:=@PySem.wpAny_pure
def ag:=@PySem.Heap.get?_push_of_some
def ai:=@List.getElem?_eq_getElem
def aj:=@List.length_map
def ak:=@List.getD_eq_getElem?_getD
def ao:=@Nat.le_refl
def aq:=@if_neg
def ar:=@List.mem_cons_of_mem
def au:=@List.mem_cons_self
def av:=@Array.getElem?_toList
def ax:=@List.length_append
def ay:=@Array.length_toList
def az:=@if_pos
def aA:=@List.mem_singleton
def aB:=@List.size_toArray
def aC:=@PyProof.Rows.wpS_bind
def aD:=@PySem.Heap.get?_push_size
def aE:=@List.mem_cons
def aF:=@List.mem_of_getElem?
def aG:=@List.append_assoc
def aH:=@List.getElem?_eq_some_iff
def aI:=@PySem.Heap.lt_size
def aJ:=@PyProof.Rows.wpS_pure
def aK:=@List.length_replicate
def aL:=@congrArg
def aM:=@Nat.lt_of_lt_of_le
def aN:=@List.length_cons
def aO:=@List.mem_append
def aP:=@List.map_cons
def aQ:=@List.getElem?_map
def aR:=@Nat.ne_of_lt
def aS:=@Bool.false_ne_true
def aT:=@List.mem_map
def aU:=@List.mem_filter
def aV:=@Bool.and_eq_true
def aW:=@List.mem_range
def aX:=@List.getElem?_append_right
def aY:=@List.zipWith_cons_cons
def aZ:=@List.mem_append_right
def a':=@List.length_take
def a_:=@PySem.sizeLine_eq
def ba:=@List.mem_append_left
def bb:=@Int.toNat_natCast
def bf:=@Nat.le_trans
def bg:=@beq_iff_eq
def bh:=@decide_eq_true
def bj:=@List.take_add_one
def bp:=@Nat.zero_le
def bq:=@List.take_length
def br:=@List.getElem?_append_left
def bt:=@PySem.wpAny_newObj_type
def bu:=@PySem.Heap.size_push
def bw:=@List.take_append_drop
def bz:=@List.not_mem_nil
def bC:=@List.mem_iff_getElem
def bD:=@Array.getElem?_eq_getElem
def bE:=@List.pairwise_append
def bF:=@List.sum_cons
def bG:=@Option.some.inj
def bH:=@List.replicate_succ
def bI:=@PyProof.Rows.slot_tuple_getitem
def bJ:=@PySem.wpAny_callSpecial?_slot
def bK:=@List.length_filter_le
def bL:=@List.getElem?_eq_none
def bM:=@PySem.wpAny_call_entry
def bN:=@List.all_eq_true
def bO:=@of_decide_eq_true
def bP:=@List.length_take_le
def bQ:=@Nat.lt_succ_self
def bR:=@Array.getD_eq_getD_getElem?
def bT:=@decide_eq_false
def bU:=@Int.mul_le_mul_of_nonneg_right
def bV:=@List.map_append
def bW:=@PyProof.Rows.KeyOrd.kle_trans
def bX:=@Nat.lt_succ_of_lt
def bY:=@decide_eq_true_eq
def bZ:=@PyProof.Rows.KeyOrd.kle_of_klt
def b_:=@PySem.wpAny_holding
def cb:=@PySem.Heap.SameBut.update
def cc:=@Array.toList_append
def cf:=@Classical.byContradiction
def cg:=@List.lookup_cons
def cj:=@Nat.lt_irrefl
def ck:=@List.take_of_length_le
def cm:=@List.mem_of_mem_take
def cn:=@List.mem_filterMap
def cp:=@PySem.Heap.get?_update_self
def cq:=@List.length_drop
def cu:=@Nat.le_add_right
def cv:=@List.any_eq_true
def cw:=@List.pairwise_map
def cx:=@List.map_map
def cy:=@PySem.wpAny_field
def cz:=@List.getElem_mem
def cA:=@PyProof.Rows.wpS_forRange
def cB:=@List.Perm.append_left
def cC:=@List.mem_iff_getElem?
def cD:=@PySem.wpAny_setState_of
def cE:=@PySem.wpAny_seqItems
def cF:=@PyProof.Rows.KeyOrd.kle_refl
def cG:=@List.drop_eq_nil_of_le
def cH:=@List.drop_eq_getElem_cons
def cI:=@Int.mul_le_mul_of_nonneg_left
def cJ:=@PyProof.Rows.wpS_mono
def cK:=@List.perm_append_comm
def cL:=@List.nodup_cons
def cM:=@List.nil_append
def cN:=@or_false
def cO:=@PySem.Heap.get?_update_other
def cP:=@List.flatten_cons
def cQ:=@Nat.le_of_lt
def cR:=@PySem.Obj.data_mapFields
def cS:=@eq_of_heq
def cT:=@Nat.mod_eq_of_lt
def cU:=@List.all_cons
def cW:=@PySem.wpAny_truthy_bool
def cX:=@Array.toList_push
def cY:=@Bool.eq_iff_iff
def cZ:=@beq_eq_false_iff_ne
def c_:=@Array.getElem?_eq_none
def de:=@Array.getElem?_eq_some_iff
def df:=@List.drop_zero
def dg:=@List.pairwise_cons
def dh:=@Int.emod_lt_of_pos
def di:=@Nat.ne_of_gt
def dj:=@List.append_nil
def dk:=@List.getElem?_take_of_lt
def dm:=@List.foldl_cons
def dn:=@PySem.call_meets
def dq:=@List.mem_of_mem_drop
def dr:=@Nat.pow_succ
def dt:=@PySem.codeAny_builtin
def du:=@PySem.Around.under_plainId
def dv:=@Nat.lt_trichotomy
def dw:=@List.length_range
def dy:=@List.drop_append_of_le_length
def dz:=@List.eq_nil_of_length_eq_zero
def dC:=@PySem.wpAny_typeNameOfWhole_keyiter
def dD:=@List.getElem?_replicate
def dE:=@PySem.wpAny_mono
def dF:=@PySem.codeAny_mono
def dG:=@PySem.wpAny_setField_rec
def dH:=@Nat.zero_add
def dI:=@PyProof.Rows.F.plain_set_update_loop
def dJ:=@Ne.symm
def dM:=@PySem.wpAny_passesOwn
def dN:=@List.length_set
def dO:=@Nat.min_eq_left
def dP:=@Int.emod_nonneg
def dQ:=@PySem.F.slot_tuple_iterator_next
def dR:=@Array.perm_iff_toList_perm
def dS:=@List.mem_or_eq_of_mem_set
def dU:=@Nat.le_succ
def dV:=@ite_congr
def dW:=@PySem.wpAny_setField
def dX:=@PySem.isSubtype_type
def dY:=@PySem.wpAny_typeNameOf_keyiter
def dZ:=@List.filterMap_cons
def d_:=@List.length_zipWith
def eh:=@List.map_congr_left
def ei:=@if_true
def ek:=@PySem.wpAny_attempt
def el:=@Nat.add_assoc
def eC:=@PySem.F.slot_int_rmul
def eD:=@List.find?_cons
def eE:=@PySem.tupleKind_room_in1
def eF:=@List.eq_nil_iff_forall_not_mem
def eG:=@PySem.wpAny_letGo
def eH:=@Option.map_eq_some_iff
def eI:=@Int.neg_mul
def eJ:=@List.take_append_of_le_length
def eM:=@List.reverse_cons
def eN:=@Nat.le_of_lt_succ
def eO:=@List.ext_getElem?
def eQ:=@PySem.wpAny_dictEntries
def eS:=@PySem.wpAny_typeOf
def eT:=@PySem.Obj.isFreed_of_fields
def eV:=@List.nodup_nil
def eW:=@Nat.succ_pos
def eX:=@Int.mul_nonneg
def eY:=@PyProof.Rows.callWith_type1
def eZ:=@Array.mem_toList_iff
def e_:=@PySem.Calls.evalArgs_plain
def fb:=@beq_self_eq_true
def fc:=@List.ext_getElem
def fe:=@PySem.F.slot_tuple_mul
def ff:=@List.cons_append
def fg:=@Array.toList_extract
def fh:=@PySem.wpAny_askSetting
def fi:=@List.nodup_iff_pairwise_ne
def fj:=@PySem.plainId_quiet
def fk:=@Int.le_refl
def fm:=@PySem.wpAny_binaryOp_repeat_ref
def fo:=@Option.map_some
def fq:=@List.pairwise_iff_getElem
def ft:=@PySem.Calls.call_function_entry
def fu:=@PySem.wpAny_pyIter_tuple
def fv:=@PySem.wpAny_Call_Name_kw
def fz:=@List.map_nil
def fA:=@Nat.mul_comm
def fB:=@List.getElem?_drop
def fC:=@PyProof.Rows.KeyOrd.klt_of_kle_of_klt
def fD:=@Nat.add_sub_cancel
def fE:=@Array.size_setIfInBounds
def fF:=@Nat.lt_of_le_of_lt
def fG:=@Bool.false_eq_true
def fH:=@Bool.and_false
def fJ:=@PySem.typeIs_int
def fK:=@PySem.wpAny_rule
def fL:=@PyProof.Rows.wpS_get
def fM:=@Nat.mod_lt
def fN:=@List.pairwise_singleton
def fO:=@List.filter_cons_of_pos
def fP:=@PySem.Obj.cls_mapFields
def fQ:=@List.getElem_take
def fR:=@List.getElem_drop
def fS:=@List.nodup_append
def fT:=@PySem.Calls.callWith_builtin
def fU:=@Int.mul_add
def fV:=@PySem.wpAny_forIn_list
def fW:=@if_false
def fX:=@PySem.wpAny_isInstance
def fY:=@List.drop_length
def fZ:=@List.nodup_range
def f':=@List.length_singleton
def f_:=@PySem.Heap.get?_none_of_le
def gb:=@PySem.wpAny_execs_nil
def gc:=@List.length_nil
def gd:=@List.forIn_cons
def gf:=@PySem.pushCells_keeps
def gg:=@PySem.wpAny_updateSeq_pair
def gh:=@PySem.F.slot_zip_next
def gi:=@Nat.lt_trans
def gj:=@Array.toList_reverse
def gk:=@Nat.succ.inj
def gm:=@Int.zero_mul
abbrev LLI:=List (List Int)
namespace L2
open PySem PySem.Spec PyProof.Rows
abbrev Key:=Sum Int Str
noncomputable def a3M:Key->Value->Bool
 |.inl k,v=>Value.isInt k v
 |.inr x,v=>Value.isStrOf x v
noncomputable def b8Y(w:World):Key->Int
 |.inl k=>hashInt k
 |.inr x=>hashStr w x
theorem D4:∀{k:Key}{v:Value},a3M k v=true->(∃i t,k=Sum.inl i/\v=Value.int i t)∨(∃x t,k=Sum.inr x/\v=Value.str x t)
 |.inl i,v,h=>by
  obtain⟨t,e⟩:=Value.isInt_shape (k:=i) (v:=v) h;exact .inl ⟨i,t,rfl,e⟩
 |.inr x,v,h=>by
  obtain⟨t,e⟩:=Value.isStrOf_shape (x:=x) (v:=v) h;exact .inr ⟨x,t,rfl,e⟩
theorem a9T(i:Int)(t:Tok):a3M (.inl i) (.int i t)=true:=by simp[a3M,Value.isInt]
theorem a9S(x:Str)(t:Tok):a3M (.inr x) (.str x t)=true:=by simp[a3M,Value.isStrOf]
theorem b7i(a b:Int):decide ((Sum.inl a:Key)=Sum.inl b)=(a==b):=by
 by_cases e:a=b
 .subst e;simp
 .have h:¬(Sum.inl a:Key)=Sum.inl b:=λq=>e (Sum.inl.inj q);rw[bT h];exact(cZ.mpr e).symm
theorem b7f(a b:Str):decide ((Sum.inr a:Key)=Sum.inr b)=decide (a=b):=by
 by_cases e:a=b
 .subst e;simp
 .have h:¬(Sum.inr a:Key)=Sum.inr b:=λq=>e (Sum.inr.inj q);rw[bT h,bT e]
theorem b7h(a:Int)(b:Str):decide ((Sum.inl a:Key)=Sum.inr b)=false:=bT (λq=>nomatch q)
theorem b7g(a:Str)(b:Int):decide ((Sum.inr a:Key)=Sum.inl b)=false:=bT (λq=>nomatch q)
noncomputable def E3(prog:Program)(w:World):PySem.KeyKind prog w Key where
 is:=a3M
 hash:=b8Y w
 inj:=λv a b ha hb=>by
  rcases D4 ha with⟨i,t,rfl,rfl⟩|⟨x,t,rfl,rfl⟩
  .rcases D4 hb with⟨j,u,rfl,e⟩|⟨y,u,rfl,e⟩
   .injection e with e1 _;rw[e1]
   .exact nomatch e
  .rcases D4 hb with⟨j,u,rfl,e⟩|⟨y,u,rfl,e⟩
   .exact nomatch e
   .injection e with e1 _;rw[e1]
 byValue:=λk v h=>by
  rcases D4 h with⟨i,t,rfl,rfl⟩|⟨x,t,rfl,rfl⟩<;>rfl
 pyHash:=λhv h=>by
  rcases D4 hv with⟨i,t,rfl,rfl⟩|⟨x,t,rfl,rfl⟩
  .exact wpAny_pyHash_int h
  .exact wpAny_pyHash_str h
 eqBool:=λhu hv h=>by
  rcases D4 hu with⟨i,t,rfl,rfl⟩|⟨x,t,rfl,rfl⟩
  .rcases D4 hv with⟨j,u,rfl,rfl⟩|⟨y,u,rfl,rfl⟩
   .rw[b7i]at h;exact wpAny_eqBool_int h
   .rw[b7h]at h;exact SeqAt.EqAt.int_str i t y u _ _ _ _ h
  .rcases D4 hv with⟨j,u,rfl,rfl⟩|⟨y,u,rfl,rfl⟩
   .rw[b7g]at h;exact SeqAt.EqAt.str_int x t j u _ _ _ _ h
   .rw[b7f]at h;exact wpAny_eqBool_str h
 «strs»:=λk x t v h=>by
  rcases D4 h with⟨i,u,rfl,e⟩|⟨y,u,rfl,e⟩
  .exact nomatch e
  .injection e with e1 _
   subst e1;cases v<;>rfl
theorem a5Z(prog:Program)(w:World)(i:Int)(t:Tok):(E3 prog w).is (.inl i) (.int i t)=true:=a9T i t
theorem a5Y(prog:Program)(w:World)(x:Str)(t:Tok):(E3 prog w).is (.inr x) (.str x t)=true:=a9S x t
inductive V where
 |non|bl (b:Bool)|int (i:Int)|str (x:Str)|byt (b:Array UInt8)|flt (b:UInt64)|ref (a:Addr)|ty (n:String)
 deriving DecidableEq
def RelV:V->Value->Prop
 |.non,u=>u=Value.none
 |.bl b,u=>u=Value.bool b
 |.int i,u=>∃t,u=Value.int i t
 |.str x,u=>∃t,u=Value.str x t
 |.byt b,u=>∃t,u=Value.bytes b t
 |.flt b,u=>∃t,u=Value.float b t
 |.ref a,u=>u=Value.ref a
 |.ty n,u=>u=Value.type n
abbrev Vals:List V->List Value->Prop:=Paired RelV
theorem Vals.length{xs:List V}{us:List Value}(r:Vals xs us):xs.length=us.length:=Paired.length r
theorem Vals.get:∀{xs:List V}{us:List Value}{i:Nat}{x:V},Vals xs us->xs[i]?=some x->∃u,us[i]?=some u/\RelV x u
 |_,_,_,_,.nil,e=>by simp at e
 |_,_,0,_,.cons r _,e=>by simp at e;subst e;exact⟨_,rfl,r⟩
 |_,_,i+1,x,.cons _ t,e=>by
  obtain⟨u,h1,h2⟩:=Vals.get (i:=i) (x:=x) t (by simpa using e);exact⟨u,by simpa using h1,h2⟩
theorem Vals.set{x:V}{u:Value}(r:RelV x u):∀{xs:List V}{us:List Value}(i:Nat),Vals xs us->Vals (xs.set i x) (us.set i u)
 |_,_,_,.nil=>.nil
 |_,_,0,.cons _ t=>.cons r t
 |_,_,i+1,.cons q t=>.cons q (Vals.set r i t)
theorem Vals.append:∀{xs ys:List V}{us a:List Value},Vals xs us->Vals ys a->Vals (xs++ys) (us++a)
 |_,_,_,_,.nil,s=>s
 |_,_,_,_,.cons r t,s=>.cons r (Vals.append t s)
theorem Vals.take:∀{xs:List V}{us:List Value}(n:Nat),Vals xs us->Vals (xs.take n) (us.take n)
 |_,_,0,_=>.nil
 |_,_,_+1,.nil=>.nil
 |_,_,n+1,.cons r t=>.cons r (Vals.take n t)
theorem Vals.drop:∀{xs:List V}{us:List Value}(n:Nat),Vals xs us->Vals (xs.drop n) (us.drop n)
 |_,_,0,r=>r
 |_,_,_+1,.nil=>.nil
 |_,_,n+1,.cons _ t=>Vals.drop n t
def RelO:Option V->Option Value->Prop
 |some v,some u=>RelV v u
 |none,none=>True
 |_,_=>False
def KV{κ:Type}:List (κ×V)->List (κ×Value)->Prop:=Paired λ(p:κ×V) (q:κ×Value)=>p.1=q.1/\RelV p.2 q.2
noncomputable def kV:Key->V
 |.inl i=>.int i
 |.inr x=>.str x
inductive HO where
 |lst (xs:List V)
 |tup (xs:List V)
 |dK (kvs:List (Key×V))|dT (kvs:List (List Key×V))
 |set (S:Int->Bool) (n:Nat)
 |ins (C dx:Addr) (fs:List (Str×V))
 |own (x:Addr)
 |xd (fs:List (Str×V))
 |met (f x:Addr)
 |rng (lo hi:Int)
 |frz (o:Obj) (u:HO)
 |tbl (ps:Array Value)
 |ext (φ:Heap->Prop)
abbrev Hp:=Addr->Option HO
noncomputable def upd(H:Hp)(a:Addr)(o:HO):Hp:=λb=>if b=a then some o else H b
theorem A1{H:Hp}{a:Addr}{o:HO}:upd H a o a=some o:=by unfold upd;rw[az rfl]
theorem A5{H:Hp}{a b:Addr}{o:HO}(h:b≠a):upd H a o b=H b:=by unfold upd;rw[aq h]
theorem a4l{H:Hp}{a:Addr}{o u:HO}:upd (upd H a o) a u=upd H a u:=by
 funext b;unfold upd;split<;>rfl
theorem K0{H:Hp}{a b:Addr}{o u:HO}(h:H a=some o)(h':H b=some u)(d:o≠u):a≠b:=by
 intro e;subst e;rw[h]at h';exact d (bG h')
theorem A6{H:Hp}{a b:Addr}{o:HO}(h:H a=some o)(h':H b=none):a≠b:=by
 intro e;subst e;rw[h]at h';cases h'
def IsTp(h:Heap)(a:Addr)(items:Array Value):Prop:=∃o:Obj,h.get? a=some o/\(o.cls,o.dict)=(.type "tuple",none)/\∃n,o.data=.seq items n
theorem IsTp.tup{h:Heap}{a:Addr}{items:Array Value}(x:IsTp h a items):IsTup h a items:=let ⟨o,e,c,d⟩:=x;⟨o,e,aL Prod.fst c,d⟩
theorem IsTp.new(h:Heap)(items:Array Value):IsTp (h.push {cls:=.type "tuple",data:=.seq items}) h.objs.size items:=⟨_,aD _ rfl,rfl,_,rfl⟩
section
variable (P:Program) (w:World)
def ObjOk(H:Hp)(h:Heap)(a:Addr):HO->Prop
 |.lst xs=>xs.length<=sizeLine/\∃(its:List Value) (n:Nat),Vals xs its/\h.get? a=some {cls:=.type "list",data:=.seq its.toArray n}
 |.tup xs=>xs.length<=sizeLine/\∃its:List Value,Vals xs its/\IsTp h a its.toArray
 |.dK kvs=>kvs.length<=sizeLine/\(a==sysModules)=false/\∃vs,KV kvs vs/\h.DictOf (E3 P w) a vs
 |.dT kvs=>kvs.length<=sizeLine/\(a==sysModules)=false/\∃xs:List (List Key×Addr×Value),
   Paired (λ(p:List Key×V) (q:List Key×Addr×Value)=>p.1=q.1/\H q.2.1=some (.tup (p.1.map kV))/\RelV p.2 q.2.2) kvs xs /\
   ∃o es ep,h.get? a=some o/\o.ExactDict/\o.data=.dict es ep/\es.toList=xs.map (entryOfKey (tupleKind (E3 P w)))/\(xs.map (·.1)).Nodup
 |.set S n=>h.SetOf (intKind P w) a S n
 |.ins C dx fs=>H dx=some (.own a)/\fs.length<=1000/\dx≠a/\h.get? a=some (PySem.W.instObj C dx) /\
   ∃mA,h.Ns1 dx mA/\(∀f,RelO (fs.lookup f) (mA f))/\PySem.Within mA (fs.map (·.1))
 |.own _=>∃o,h.get? a=some o
 |.xd fs=>∃mA,h.Ns1 a mA/\∀f,RelO (fs.lookup f) (mA f)
 |.rng lo hi=>∃t u v,h.get? a=some {cls:=.type "range",data:=.fields #[.int lo t,.int hi u,.int 1 v]}
 |.frz o u=>h.get? a=some o/\ObjOk H h a u
 |.tbl ps=>h.get? a=some {cls:=.none,data:=.fields ps}
 |.met f x=>h.get? a=some (PySem.W.methodObj (.ref f) (.ref x))
 |.ext φ=>φ h/\(∃o,h.get? a=some o)/\∀h1 h2:Heap,φ h1->(∀o,h1.get? a=some o->h2.get? a=some o)->φ h2
def HOk(H:Hp)(h:Heap):Prop:=∀a o,H a=some o->ObjOk P w H h a o
end
section
variable {P:Program}{w:World}{H H':Hp}{h h':Heap}{a:Addr}{o:HO}
theorem ObjOk.lt(x:ObjOk P w H h a o):a<h.objs.size:=by
 cases o with
 |lst xs=>obtain⟨_,_,_,_,e⟩:=x;exact aI e
 |tup xs=>obtain⟨_,_,_,p⟩:=x;exact p.tup.lt
 |dK kvs=>obtain⟨_,_,_,_,o,_,_,e,_⟩:=x;exact aI e
 |dT kvs=>obtain⟨_,_,_,_,o,_,_,e,_⟩:=x;exact aI e
 |set S n=>obtain⟨o,_,_,_,e,_⟩:=x;exact aI e
 |ins C dx fs=>obtain⟨_,_,_,e,_⟩:=x;exact aI e
 |own y=>obtain⟨_,e⟩:=x;exact aI e
 |xd fs=>obtain⟨_,⟨_,_,_,e,_⟩,_⟩:=x;exact aI e
 |rng lo hi=>obtain⟨_,_,_,e⟩:=x;exact aI e
 |frz ob u=>obtain⟨e,_⟩:=x;exact aI e
 |tbl ps=>exact aI (show h.get? a=some _ from x)
 |met f y=>exact aI (show h.get? a=some _ from x)
 |ext φ=>obtain⟨_,⟨_,e⟩,_⟩:=x;exact aI e
theorem Paired.mapP{α β:Type}{F G:α->β->Prop}:∀{l₁:List α}{l₂:List β},Paired F l₁ l₂->(∀a b,F a b->G a b)->Paired G l₁ l₂
 |_,_,.nil,_=>.nil
 |_,_,.cons r t,f=>.cons (f _ _ r) (Paired.mapP t f)
theorem ObjOk.stay(x:ObjOk P w H h a o)(k:∀b u,(b=a∨H b=some (.own a))->h.get? b=some u->h'.get? b=some u)
  (j:∀b,H b=some (.own a)->H' b=some (.own a)) (l:∀b xs,H b=some (.tup xs)->H' b=some (.tup xs)):ObjOk P w H' h' a o:=by
 induction o with
 |lst xs=>obtain⟨z,its,n,r,e⟩:=x;exact⟨z,its,n,r,k _ _ (.inl rfl) e⟩
 |tup xs=>obtain⟨z,its,r,g,e,c⟩:=x;exact⟨z,its,r,g,k _ _ (.inl rfl) e,c⟩
 |dK kvs=>obtain⟨z,y,vs,r,g,es,ep,e,c⟩:=x;exact⟨z,y,vs,r,g,es,ep,k _ _ (.inl rfl) e,c⟩
 |dT kvs =>
  obtain⟨z,y,xs,r,g,es,ep,e,c⟩:=x;exact⟨z,y,xs,Paired.mapP r λp q z=>⟨z.1,l _ _ z.2.1,z.2.2⟩,g,es,ep,k _ _ (.inl rfl) e,c⟩
 |set S n=>obtain⟨g,es,ep,t,e,c⟩:=x;exact⟨g,es,ep,t,k _ _ (.inl rfl) e,c⟩
 |ins C dx fs =>
  obtain⟨d,z,ne,e,mA,⟨od,es,ep,i,c⟩,r⟩:=x;exact⟨j _ d,z,ne,k _ _ (.inl rfl) e,mA,⟨od,es,ep,k _ _ (.inr d) i,c⟩,r⟩
 |own y=>obtain⟨g,e⟩:=x;exact⟨g,k _ _ (.inl rfl) e⟩
 |xd fs=>obtain⟨mA,⟨od,es,ep,e,c⟩,r⟩:=x;exact⟨mA,⟨od,es,ep,k _ _ (.inl rfl) e,c⟩,r⟩
 |rng lo hi=>obtain⟨t,u,v,e⟩:=x;exact⟨t,u,v,k _ _ (.inl rfl) e⟩
 |frz g u m=>obtain⟨e,q⟩:=x;exact⟨k _ _ (.inl rfl) e,m q⟩
 |tbl ps =>
  have e:h.get? a=some {cls:=.none,data:=.fields ps}:=x;show h'.get? a=some {cls:=.none,data:=.fields ps};exact k a _ (.inl rfl) e
 |met f y =>
  have e:h.get? a=some (PySem.W.methodObj (.ref f) (.ref y)):=x;show h'.get? a=some (PySem.W.methodObj (.ref f) (.ref y));exact k a _ (.inl rfl) e
 |ext φ=>obtain⟨p,⟨o,e⟩,st⟩:=x;exact⟨st _ _ p λo q=>k _ _ (.inl rfl) q,⟨o,k _ _ (.inl rfl) e⟩,st⟩
theorem HOk.lt(x:HOk P w H h)(e:H a=some o):a<h.objs.size:=(x a o e).lt
theorem HOk.fresh(x:HOk P w H h)(e:h.objs.size<=a):H a=none:=by
 cases q:H a with
 |none=>rfl
 |some u=>exact absurd (aM (x.lt q) e) (cj _)
theorem HOk.kept(x:HOk P w H h)(k:∀b u,h.get? b=some u->h'.get? b=some u):HOk P w H h':=λa o e =>
 (x a o e).stay (λb u _ q=>k b u q) (λ_ q=>q) λ_ _ q=>q
theorem HOk.laid(x:HOk P w H h)(k:∀b u,h.get? b=some u->h'.get? b=some u)(hp:h.objs.size<=a)(new:ObjOk P w (upd H a o) h' a o):HOk P w (upd H a o) h':=λb u e=>by
 have f:=x.fresh hp;by_cases d:b=a
 .subst d;rw[A1]at e;cases e;exact new
 .rw[A5 d]at e;exact(x b u e).stay (λc v _ q=>k c v q) (λc q=>by rw[A5 (A6 q f)];exact q) λc xs q=>by rw[A5 (A6 q f)];exact q
end
def Rd(H:Hp)(a:Addr)(u:HO):Prop:=H a=some u∨∃o,H a=some (.frz o u)
theorem Rd.ok{P:Program}{w:World}{H:Hp}{h:Heap}{a:Addr}{u:HO}(r:Rd H a u)(x:HOk P w H h):ObjOk P w H h a u:=by
 rcases r with r|⟨o,r⟩
 .exact x a u r
 .obtain⟨_,q⟩:=x a _ r;exact q
def Mut:Option HO->Prop
 |some (.lst _)=>True
 |some (.dK _)=>True
 |some (.dT _)=>True
 |some (.set _ _)=>True
 |some (.ins _ _ _)=>True
 |some (.ext _)=>True
 |_=>False
section
variable {P:Program}{w:World}{H:Hp}{h h':Heap}{x e:Addr}{o':HO}
theorem HOk.write(ok:HOk P w H h)(j:Mut (H x))(m:e=x∨H e=some (.own x))(k:∀b u,b≠e->h.get? b=some u->h'.get? b=some u)(l:∃u,h'.get? e=some u)
  (new:ObjOk P w (upd H x o') h' x o'):HOk P w (upd H x o') h':=λb u q=>by
 have d:∀c y,H c=some (.own y)->c≠x:=λc y r z=>by subst z;rw[r]at j;exact j
 have f:∀c xs,H c=some (.tup xs)->c≠x:=λc xs r z=>by subst z;rw[r]at j;exact j
 by_cases g:b=x
 .subst g;rw[A1]at q;cases q;exact new
 .rw[A5 g]at q;by_cases a:b=e
  .have q':H b=some (.own x):=by
    rcases m with z|z
    .exact absurd (a.trans z) g
    .rw[a];exact z
   rw[q]at q';cases q';obtain⟨v,n⟩:=l;exact⟨v,by rw[a];exact n⟩
  .refine(ok b u q).stay (λc v i r=>k c v ?_ r) (λc r=>by rw[A5 (d c b r)];exact r) λc xs r=>by rw[A5 (f c xs r)];exact r
   rcases i with rfl|i
   .exact a
   .rintro rfl;rcases m with z|z
    .exact d c b i z
    .rw[i]at z;cases z;exact g rfl
end
structure Un(fs ex:List Addr)(H H':Hp)(h h':Heap):Prop where
 keep:∀b o,h.get? b=some o->H b=none->b∉fs->b∉ex->h'.get? b=some o
 slot:∀b o,h.get? b=some o->H b=none->b∈fs->b∉ex->∃sl,h'.get? b=some {o with slots:=sl}
 free:∀b o,h.get? b=some o->H b=none->b∉ex->H' b=none
 there:∀b o,h.get? b=some o->b∉ex->∃o',h'.get? b=some o'
 tups:∀b xs,H b=some (.tup xs)->H' b=some (.tup xs)
 frzs:∀b o u,H b=some (.frz o u)->H' b=some (.frz o u)
 tbls:∀b ps,H b=some (.tbl ps)->∃more,H' b=some (.tbl (ps++more))
section
variable {fs fs' ex ex':List Addr}{H H1 H2:Hp}{h h1 h2 h':Heap}{a x e:Addr}{o:HO}
theorem Un.any(u:Un fs ex H H1 h h1){b:Addr}{a:Obj}(q:h.get? b=some a)(n:H b=none)(d:b∉ex):∃sl,h1.get? b=some {a with slots:=sl}:=by
 by_cases c:b∈fs
 .exact u.slot b a q n c d
 .exact⟨a.slots,u.keep b a q n c d⟩
theorem Un.kept(k:∀b u,h.get? b=some u->h'.get? b=some u):Un fs ex H H h h' :=
 ⟨λb a q _ _ _=>k b a q,λb a q _ _ _=>⟨a.slots,k b a q⟩,λ_ _ _ n _=>n,λb a q _=>⟨a,k b a q⟩,λ_ _ q=>q,λ_ _ _ q=>q,λ_ ps q=>⟨#[],by rw[q];simp⟩⟩
theorem Un.refl:Un fs ex H H h h:=Un.kept λ_ _ q=>q
theorem Un.laid(k:∀b u,h.get? b=some u->h'.get? b=some u)(hp:h.objs.size<=a)(c:H a=none):Un fs ex H (upd H a o) h h' where
 keep:=λb u q _ _ _=>k b u q
 slot:=λb u q _ _ _=>⟨u.slots,k b u q⟩
 free:=λb u q n _=>by rw[A5 (aR (aM (aI q) hp))];exact n
 there:=λb u q _=>⟨u,k b u q⟩
 tups:=λb xs q=>by rw[A5 (A6 q c)];exact q
 frzs:=λb u xs q=>by rw[A5 (A6 q c)];exact q
 tbls:=λb ps q=>⟨#[],by rw[A5 (A6 q c),q];simp⟩
theorem Un.write(c:Mut (H x))(j:e=x∨H e=some (.own x))(k:∀b u,b≠e->h.get? b=some u->h'.get? b=some u)(d:∃u,h'.get? e=some u):Un fs ex H (upd H x o) h h':=by
 have i:∀b,H b=none->b≠x:=λb n z=>by subst z;rw[n]at c;exact c
 have g:∀b,H b=none->b≠e:=λb n z=>by
  subst z;rcases j with r|r
  .exact i b n r
  .rw[n]at r;cases r
 have f:∀b u,H b=some u->¬Mut (some u)->b≠x:=λb u q nm z=>by subst z;rw[q]at c;exact nm c
 refine⟨λb u q n _ _=>k b u (g b n) q,λb u q n _ _=>⟨u.slots,k b u (g b n) q⟩,λb u q n _=>by rw[A5 (i b n)];exact n,λb u q _=>?_,
  λb xs q=>by rw[A5 (f b _ q λz=>z)];exact q,λb u xs q=>by rw[A5 (f b _ q λz=>z)];exact q,λb ps q=>⟨#[],by rw[A5 (f b _ q λz=>z),q];simp⟩⟩
 by_cases a:b=e
 .subst a;exact d
 .exact⟨u,k b u a q⟩
end
noncomputable def trk(h:Heap)(H:Hp):List Addr:=(List.range h.objs.size).filter λa=>(H a).isSome
noncomputable def a4T(h:Heap)(H:Hp):Heap:=PySem.W.hideAll h (trk h H)
theorem b0b(h:Heap)(H:Hp):(a4T h H).objs.size=h.objs.size:=PySem.W.hideAll_size _ _
theorem b2W{h:Heap}{H:Hp}{b:Addr}{o:Obj}(e:h.get? b=some o)(n:H b=none):(a4T h H).get? b=some o :=
 PySem.W.hideAll_get _ e λa=>by
  have q:(H b).isSome=true:=(aU.mp a).2;rw[n]at q;simp at q
theorem b4M{h:Heap}{H:Hp}{b:Addr}{o:Obj}(e:(a4T h H).get? b=some o):h.get? b=some o/\H b=none:=by
 have a:h.get? b=some o:=PySem.W.of_hideAll (trk h H) e;refine⟨a,?_⟩;cases q:H b with
 |none=>rfl
 |some x =>
  have c:b∈trk h H:=aU.mpr ⟨aW.mpr (aI a),by simp[q]⟩;have z:(a4T h H).get? b=none:=PySem.W.hideAll_none (trk h H) c;rw[z]at e;cases e
noncomputable def b5r(g h:Heap)(L:Addr):List (Addr×Obj):=(List.range h.objs.size).filterMap λa=>if a=L∨(g.get? a).isSome=true then none else(h.get? a).map λo=>(a,o)
noncomputable def rest(g h:Heap)(L d:Addr):List (Addr×Obj):=(b5r g h L).filter λp=>decide (p.1≠d)
structure Mod(K:PySem.W.Frag)(mg:Str->Option Value)(base:Heap):Prop where
 kin:K.In base
 glob:base.Ns mainGlobals mg
 blt:∃mb,base.Ns builtinsNs mb/\∀x:Str,x≠"__name__"->mb x=bootBuiltins x
 nolimit:base.NoLimit
structure Cx where
 prog:Program
 w:World
 K:PySem.W.Frag
 mg:Str->Option Value
 base:Heap
 A:Around
 N:List Str
 s₀:Shared
 H₀:Hp
 env:Env
 outer:List Env
 stack:List Env
 ex:List Addr
 fn:Str->Bool
 calm:Bool
 pn:List (Addr×Obj)
 xe:Value->Shared->Prop
noncomputable def frs(l:List Env):List Addr:=l.filterMap (·.frame)
noncomputable abbrev Cx.fs(X:Cx):List Addr:=frs X.outer
def Vis(sc:Scope)(x:Str):Prop:=sc.names.lookup x=some .local∨sc.names.lookup x=some .cell∨sc.names.lookup x=some .free
def Loc(sc:Scope)(x:Str):Prop:=sc.names.lookup x=some .local∨sc.names.lookup x=some .cell
def b9g(env:Env)(h:Heap)(m:Str->Option Value)(x:Str)(u:Value):Prop :=
 (env.kindOf x=some .local/\m x=some u)∨((env.kindOf x=some .cell∨env.kindOf x=some .free)/\∃c,env.cells.lookup x=some c/\h.IsCell c (some u))
structure Cx.Ok(X:Cx):Prop where
 mod:Mod X.K X.mg X.base
 kind:X.env.scope.kind=.function
 glob:X.env.globals=mainGlobals
 blt:X.env.builtins=builtinsNs
 above:X.s₀.heap.objs.size<=X.env.locals
 inj:∀x y c,X.env.cells.lookup x=some c->X.env.cells.lookup y=some c->x=y
 has:∀x,(X.env.kindOf x=some .cell∨X.env.kindOf x=some .free)->∃c,X.env.cells.lookup x=some c
 cab:∀x c,X.fn x=true->X.env.cells.lookup x=some c->X.s₀.heap.objs.size<=c
 hd:X.calm=true->X.A.handled=none
 frames:X.A.frames=some X.stack
 stk:X.stack=X.outer∨(X.stack=X.env::X.outer/\X.env.frame=some X.env.locals)
 exf:∀b∈X.ex,b≠X.env.locals/\∀x c,X.env.cells.lookup x=some c->c≠b
 bs:∀b o,X.base.get? b=some o->X.s₀.heap.get? b=some o/\X.H₀ b=none
 bsz:X.base.objs.size<=X.s₀.heap.objs.size
 noex:∀b o,X.base.get? b=some o->b∉X.ex
 exfs:∀b∈X.ex,b∉X.fs
 funs:X.s₀.heap.FunFrames X.base X.outer
 frf:∀b∈X.fs,X.H₀ b=none
structure Inv(X:Cx)(pins:List (Addr×Obj))(σ:List (Option V))(H:Hp)(s:Shared):Prop where
 ok:X.Ok
 os:s.os=X.s₀.os
 bare:AllBare s.gens
 base:Un X.fs X.ex X.H₀ H X.s₀.heap s.heap
 loc:∃m,s.heap.Ns X.env.locals m/\∀(i:Nat) (x:Str) (v:V),X.N[i]?=some x->σ[i]?=some (some v)->Vis X.env.scope x->∃u,RelV v u/\b9g X.env s.heap m x u
 cell:∀x c,X.env.cells.lookup x=some c->∃v,s.heap.IsCell c v
 free:H X.env.locals=none
 freeC:∀x c,X.env.cells.lookup x=some c->H c=none
 pin:∀p∈X.pn++pins,s.heap.get? p.1=some p.2/\H p.1=none/\p.1≠X.env.locals/\p.1∉X.fs/\∀v,p.2.data≠.cell v
 hok:HOk X.prog X.w H s.heap
 len:σ.length=X.N.length
section
variable {X:Cx}{pins:List (Addr×Obj)}{σ:List (Option V)}{H H':Hp}{s:Shared}{h':Heap}
theorem Cx.Ok.nofr(ok:X.Ok){b:Addr}{o:Obj}(e:X.base.get? b=some o):b∉X.fs:=λa=>by
 have:=(ok.funs.mem a).1;rw[e]at this;cases this
theorem Inv.bs(I:Inv X pins σ H s):∀b o,X.base.get? b=some o->s.heap.get? b=some o/\H b=none:=λb o e =>
 ⟨I.base.keep b o (I.ok.bs b o e).1 (I.ok.bs b o e).2 (I.ok.nofr e) (I.ok.noex b o e),I.base.free b o (I.ok.bs b o e).1 (I.ok.bs b o e).2 (I.ok.noex b o e)⟩
theorem Inv.bk(I:Inv X pins σ H s):∀b o,X.base.get? b=some o->s.heap.get? b=some o:=λb o e=>(I.bs b o e).1
theorem Inv.mod(I:Inv X pins σ H s):Mod X.K X.mg X.base:=I.ok.mod
theorem Inv.kIn(I:Inv X pins σ H s):X.K.In s.heap:=I.ok.mod.kin.keeps I.bk
theorem Inv.lt(I:Inv X pins σ H s):X.env.locals<s.heap.objs.size:=let ⟨_,hn,_⟩:=I.loc;hn.lt
theorem Inv.sz(I:Inv X pins σ H s):X.s₀.heap.objs.size<=s.heap.objs.size:=bf I.ok.above (cQ I.lt)
theorem Inv.nofs(I:Inv X pins σ H s){a:Addr}(h:s.heap.objs.size<=a):a∉X.fs:=λb=>by
 obtain⟨_,o,c,_⟩:=I.ok.funs.mem b;exact absurd (aM (aI c) (bf I.sz h)) (cj _)
theorem Inv.cne(I:Inv X pins σ H s):∀x c,X.env.cells.lookup x=some c->c≠X.env.locals:=λx c e z=>by
 obtain⟨v,o,d,hd⟩:=I.cell x c e;obtain⟨m,⟨o',es,ep,b,a,_⟩,_⟩:=I.loc;rw[z,b]at d;cases d;rw[a]at hd;cases hd
theorem Inv.funs(I:Inv X pins σ H s):s.heap.FunFrames X.base X.outer:=by
 have all:∀(l:List Env),(∀b∈frs l,b∈X.fs)->X.s₀.heap.FunFrames X.base l->s.heap.FunFrames X.base l:=by
  intro l;induction l with
  |nil=>intro _ _;trivial
  |cons env r j =>
   intro hs f;obtain⟨d,⟨L,o,c,g,h,hd⟩,i⟩:=f;have hL:L∈X.fs:=hs L (by unfold frs;rw[dZ,c];exact au);obtain⟨sl,e⟩:=I.base.slot L o h (I.ok.frf L hL) hL λz=>I.ok.exfs L z hL;exact⟨d,⟨L,_,c,g,e,hd⟩,j (λb a=>hs b (by unfold frs;rw[dZ,c];exact ar _ a)) i⟩
 exact all X.outer (λ_ a=>a) I.ok.funs
theorem Inv.stack(I:Inv X pins σ H s):s.heap.FunFrames X.base X.stack:=by
 rcases I.ok.stk with e|⟨e,a⟩
 .rw[e];exact I.funs
 .rw[e];obtain⟨m,b,_⟩:=I.loc;refine .cons (by rw[I.ok.kind];decide) a b ?_ I.funs;exact f_ (bf I.ok.bsz I.ok.above)
theorem Inv.stkSub(I:Inv X pins σ H s):∀b∈frs X.stack,b∈X.env.locals::X.fs:=λb a=>by
 rcases I.ok.stk with e|⟨e,c⟩
 .rw[e]at a;exact ar _ a
 .rw[e]at a;unfold frs at a;rw[dZ,c]at a;exact a
theorem Inv.stkFree(I:Inv X pins σ H s):∀b∈frs X.stack,H b=none:=λb a=>by
 rcases aE.mp (I.stkSub b a)with e|a
 .rw[e];exact I.free
 .obtain⟨_,o,ho,_⟩:=I.ok.funs.mem a;exact I.base.free b o ho (I.ok.frf b a) λz=>I.ok.exfs b z a
theorem Inv.step{g':Array GenState}{t':Nat}{d':Drawn}{ch:List Addr}(I:Inv X pins σ H s)
  (g:∀b∈ch,(b∈X.ex∨X.s₀.heap.objs.size<=b)/\b≠X.env.locals/\(∀x c,X.env.cells.lookup x=some c->c≠b)/\∀p∈X.pn++pins,p.1≠b)
  (keep:∀b o,b≠X.env.locals->b∉X.fs->b∉ch->s.heap.get? b=some o->H b=none->h'.get? b=some o)
  (w:∀b o,b≠X.env.locals->b∈X.fs->b∉ch->s.heap.get? b=some o->H b=none->∃sl,h'.get? b=some {o with slots:=sl}) (free:∀b o,b∉ch->s.heap.get? b=some o->H b=none->H' b=none)
  (there:∀b o,b∉ch->s.heap.get? b=some o->∃o',h'.get? b=some o')
  (F:∀b xs,H b=some (.tup xs)->H' b=some (.tup xs)) (C:∀b o u,H b=some (.frz o u)->H' b=some (.frz o u)) (E:∀b ps,H b=some (.tbl ps)->∃more,H' b=some (.tbl (ps++more)))
  (P:∀m,s.heap.Ns X.env.locals m->h'.Ns X.env.locals m) (G:HOk X.prog X.w H' h') (N:AllBare g') :
  Inv X pins σ H' {s with heap:=h',gens:=g',drawn:=d',toks:=t'}:=by
 have D:∀b o,X.s₀.heap.get? b=some o->b≠X.env.locals:=λb o e=>aR (aM (aI e) I.ok.above);have t:∀b o,X.s₀.heap.get? b=some o->b∉X.ex->b∉ch:=λb o e a y=>by
  rcases(g b y).1 with z|z
  .exact a z
  .exact absurd (aM (aI e) z) (cj _)
 have f:∀x c,X.env.cells.lookup x=some c->∀v,s.heap.IsCell c v->h'.IsCell c v:=λx c e v ⟨o,A,hd⟩=>by
  have h:c∉ch:=λz=>(g c z).2.2.1 x c e rfl;by_cases K:c∈X.fs
  .obtain⟨sl,q⟩:=w c o (I.cne x c e) K h A (I.freeC x c e);exact⟨_,q,hd⟩
  .exact⟨o,keep c o (I.cne x c e) K h A (I.freeC x c e),hd⟩
 refine⟨I.ok,I.os,N,⟨λb o e n y a=>?_,λb o e n y a=>?_,λb o e n a=>?_,λb o e a=>?_,λb xs e=>F b xs (I.base.tups b xs e),λb o xs e=>C b o xs (I.base.frzs b o xs e),λb ps e=>?_⟩,?_,λx c e=>?_,?_,λx c e=>?_,λp L=>?_,G,I.len⟩
 .exact keep b o (D b o e) y (t b o e a) (I.base.keep b o e n y a) (I.base.free b o e n a)
 .obtain⟨sl,j⟩:=I.base.slot b o e n y a;obtain⟨J,B⟩:=w b _ (D b o e) y (t b o e a) j (I.base.free b o e n a);exact⟨J,B⟩
 .obtain⟨o',j⟩:=I.base.there b o e a;exact free b o' (t b o e a) j (I.base.free b o e n a)
 .obtain⟨o',j⟩:=I.base.there b o e a;exact there b o' (t b o e a) j
 .obtain⟨m1,j⟩:=I.base.tbls b ps e;obtain⟨O,B⟩:=E b _ j;exact⟨m1++O,by rw[B,Array.append_assoc]⟩
 .obtain⟨m,hn,hl⟩:=I.loc;refine⟨m,P m hn,λi x v j B M=>?_⟩;obtain⟨u,r,l⟩:=hl i x v j B M;refine⟨u,r,?_⟩;rcases l with l|⟨k,c,e,z⟩
  .exact .inl l
  .exact .inr ⟨k,c,e,f x c e _ z⟩
 .obtain⟨v,z⟩:=I.cell x c e;exact⟨v,f x c e v z⟩
 .obtain⟨m,⟨o,_,_,A,_⟩,_⟩:=I.loc;exact free _ o (λz=>(g _ z).2.1 rfl) A I.free
 .obtain⟨v,o,A,hd⟩:=I.cell x c e;exact free c o (λz=>(g c z).2.2.1 x c e rfl) A (I.freeC x c e)
 .obtain⟨e,n,ne,nf,d⟩:=I.pin p L;have h:p.1∉ch:=λz=>(g p.1 z).2.2.2 p L rfl;exact⟨keep p.1 p.2 ne nf h e n,free p.1 p.2 h e n,ne,nf,d⟩
theorem Inv.un{t':Nat}(I:Inv X pins σ H s)(u:Un X.fs [] H H' s.heap h')(g:HOk X.prog X.w H' h'):Inv X pins σ H' {s with heap:=h',toks:=t'}:=by
 obtain⟨m,⟨o,es,ep,h,r⟩,_⟩:=id I.loc;obtain⟨sl,hL⟩:=u.any h I.free (by simp);exact I.step (g':=s.gens) (d':=s.drawn) (ch:=[]) (λ_ z=>nomatch z) (λb o _ f _ e n=>u.keep b o e n f (by simp)) (λb o _ f _ e n=>u.slot b o e n f (by simp)) (λb o _ e n=>u.free b o e n (by simp)) (λb o _ e=>u.there b o e (by simp)) u.tups u.frzs u.tbls (λk i=>by
  obtain⟨o',d,c,a,j⟩:=i;rw[h]at a;cases a;exact⟨_,d,c,hL,j⟩) g I.bare
theorem Inv.call{g':Array GenState}{t':Nat}{d':Drawn}{ch:List Addr}(I:Inv X pins σ H s)(u:Un (frs X.stack) ch H H' s.heap h')(i:HOk X.prog X.w H' h')(l:AllBare g')
  (d:∀b∈ch,(b∈X.ex∨X.s₀.heap.objs.size<=b)/\b≠X.env.locals/\(∀x c,X.env.cells.lookup x=some c->c≠b)/\∀p∈X.pn++pins,p.1≠b) :
  Inv X pins σ H' {s with heap:=h',gens:=g',drawn:=d',toks:=t'}:=by
 obtain⟨m,⟨o,es,ep,j,r⟩,_⟩:=id I.loc;obtain⟨sl,hL⟩:=u.any j I.free λz=>(d _ z).2.1 rfl;exact I.step (ch:=ch) d (λb o hL k a e n=>u.keep b o e n (λz=>(aE.mp (I.stkSub b z)).elim hL k) a) (λb o _ _ a e n=>u.any e n a) (λb o a e n=>u.free b o e n a) (λb o a e=>u.there b o e a) u.tups u.frzs u.tbls (λv q=>by
  obtain⟨o',h,g,f,t⟩:=q;rw[j]at f;cases f;exact⟨_,h,g,hL,t⟩) i l
theorem Inv.turned{t':Nat}{it:Addr}(I:Inv X pins σ H s)(k:∀b o,b≠it->s.heap.get? b=some o->h'.get? b=some o)(i:H it=none)(hL:it≠X.env.locals)
  (h1:it∈X.ex∨X.s₀.heap.objs.size<=it) (h2:∀x c,X.env.cells.lookup x=some c->c≠it) (f:∀p∈X.pn++pins,p.1≠it):Inv X pins σ H {s with heap:=h',toks:=t'}:=by
 have d:∀b u,H b=some u->b≠it:=λb u e z=>by rw[z,i]at e;cases e
 refine I.step (g':=s.gens) (d':=s.drawn) (ch:=[it]) (λb g=>?_) (λb o _ _ a e _=>k b o (λz=>a (by simp[z])) e) (λb o _ _ a e _=>⟨o.slots,k b o (λz=>a (by simp[z])) e⟩) (λ_ _ _ _ n=>n)
  (λb o a e=>⟨o,k b o (λz=>a (by simp[z])) e⟩) (λ_ _ e=>e) (λ_ _ _ e=>e) (λb ps e=>⟨#[],by rw[e];simp⟩) (λm h=>?_) (λb u e=>?_) I.bare
 .have e:b=it:=by simpa using g
  subst e;exact⟨h1,hL,h2,f⟩
 .obtain⟨o,es,ep,ho,r⟩:=h;exact⟨o,es,ep,k _ o (dJ hL) ho,r⟩
 .refine(I.hok b u e).stay (λc v a q=>k c v ?_ q) (λ_ q=>q) λ_ _ q=>q;rcases a with z|z
  .rw[z];exact d b u e
  .exact d c _ z
theorem Inv.tok(I:Inv X pins σ H s)(t:Nat):Inv X pins σ H {s with toks:=t}:=I.un (h':=s.heap) (t':=t) Un.refl I.hok
theorem Inv.kept{t':Nat}(I:Inv X pins σ H s)(k:∀b u,s.heap.get? b=some u->h'.get? b=some u):Inv X pins σ H {s with heap:=h',toks:=t'}:=I.un (Un.kept k) (I.hok.kept k)
theorem Inv.laid{a:Addr}{o:HO}{t':Nat}(I:Inv X pins σ H s)(k:∀b u,s.heap.get? b=some u->h'.get? b=some u)(hp:s.heap.objs.size<=a)(new:ObjOk X.prog X.w (upd H a o) h' a o) :
  Inv X pins σ (upd H a o) {s with heap:=h',toks:=t'}:=I.un (Un.laid k hp (I.hok.fresh hp)) (I.hok.laid k hp new)
theorem Inv.write{x e:Addr}{o:HO}{t':Nat}(I:Inv X pins σ H s)(d:Mut (H x))(c:e=x∨H e=some (.own x))(k:∀b u,b≠e->s.heap.get? b=some u->h'.get? b=some u)(a:∃u,h'.get? e=some u)
  (new:ObjOk X.prog X.w (upd H x o) h' x o):Inv X pins σ (upd H x o) {s with heap:=h',toks:=t'}:=I.un (Un.write d c k a) (I.hok.write d c k a new)
theorem Inv.weak{σ':List (Option V)}(I:Inv X pins σ H s)(d:σ'.length=σ.length)(w:∀(i:Nat) v,σ'[i]?=some (some v)->σ[i]?=some (some v)):Inv X pins σ' H s :=
 ⟨I.ok,I.os,I.bare,I.base,let ⟨m,hn,hl'⟩:=I.loc;⟨m,hn,λi x v a b c=>hl' i x v a (w i v b) c⟩,I.cell,I.free,I.freeC,I.pin,I.hok,d.trans I.len⟩
theorem Inv.pins_of{pins':List (Addr×Obj)}(I:Inv X pins σ H s)(h:∀p∈pins',s.heap.get? p.1=some p.2/\H p.1=none/\p.1≠X.env.locals/\p.1∉X.fs/\∀v,p.2.data≠.cell v):Inv X pins' σ H s :=
 ⟨I.ok,I.os,I.bare,I.base,I.loc,I.cell,I.free,I.freeC,λp a=>(aO.mp a).elim (λz=>I.pin p (ba _ z)) (h p),I.hok,I.len⟩
theorem a5U{N:List Str}(e:N.Nodup){i j:Nat}{x:Str}(a:N[i]?=some x)(b:N[j]?=some x):i=j:=by
 obtain⟨h1,c⟩:=aH.mp a;obtain⟨h2,d⟩:=aH.mp b;exact(List.getElem_inj e).mp (c.trans d.symm)
theorem a3C{M:Model}{A:Around}{E:Value->Shared->Prop}{i:Nat}{x:Str}{v:V}{u:Value}{Q:Unit->Shared->Prop}(I:Inv X pins σ H s)(Y:X.N.Nodup)(hi:X.N[i]?=some x)(t:Loc X.env.scope x)(r:RelV v u)
  (h:∀s',Inv X pins (σ.set i (some v)) H s'->(∃a,Heap.SameBut a s.heap s'.heap/\(a=X.env.locals∨X.env.cells.lookup x=some a))->Q () s') (hf:X.fn x=true∨X.env.scope.names.lookup x=some .local:=by first|exact .inl rfl|exact .inr rfl|assumption):wpAny M A (storeName X.env x u) Q E s:=by
 obtain⟨m,O,Z⟩:=id I.loc;have G:(X.env.scope.kind==.class || (X.env.scope.kind==.module && X.env.locals != X.env.globals))=false:=by rw[I.ok.kind];rfl
 have hiσ:i<σ.length:=by rw[I.len];exact(aH.mp hi).1
 have cne:=I.cne;have g:∀{a:Addr}{h':Heap},(∃o,s.heap.get? a=some o/\H a=none)->Heap.SameBut a s.heap h'->HOk X.prog X.w H h':=λ{a h'} ha hs b ob e=>by
  obtain⟨_,_,w⟩:=ha;refine(I.hok b ob e).stay (λc L l q=>(hs.2 c ?_).trans q) (λ_ q=>q) λ_ _ q=>q;rintro rfl;rcases l with rfl|l
  .rw[w]at e;cases e
  .rw[w]at l;cases l
 rcases t with C|C
 .refine wpAny_storeName_local C O (λh' P hs=>?_) G;obtain⟨oL,_,_,R,_⟩:=id O;refine h _ ⟨I.ok,I.os,I.bare,⟨λb o e n D t=>?_,λb o e n D t=>?_,I.base.free,λb o e t=>?_,I.base.tups,I.base.frzs,I.base.tbls⟩,⟨_,P,λj y W f B N=>?_⟩,λy c e=>?_,I.free,I.freeC,λp S=>?_,g ⟨oL,R,I.free⟩ hs,by simpa using I.len⟩ ⟨_,hs,.inl rfl⟩
  .exact(hs.2 b (aR (aM (aI e) I.ok.above))).trans (I.base.keep b o e n D t)
  .obtain⟨sl,f⟩:=I.base.slot b o e n D t;exact⟨sl,(hs.2 b (aR (aM (aI e) I.ok.above))).trans f⟩
  .obtain⟨o',f⟩:=I.base.there b o e t;exact⟨o',(hs.2 b (aR (aM (aI e) I.ok.above))).trans f⟩
  .by_cases hj:j=i
   .subst hj;rw[hi]at f;cases f;rw[List.getElem?_set_self hiσ]at B;cases B;exact⟨u,r,.inl ⟨C,by simp⟩⟩
   .rw[List.getElem?_set_ne (dJ hj)]at B;obtain⟨U,T,q⟩:=Z j y W f B N;refine⟨U,T,?_⟩;rcases q with⟨k,e⟩|⟨k,c,e,z⟩
    .refine .inl ⟨k,?_⟩;have:y≠x:=λe=>hj (a5U Y f (e ▸ hi));simp[this,e]
    .exact .inr ⟨k,c,e,z.sameBut hs (cne y c e)⟩
  .obtain⟨L,z⟩:=I.cell y c e;exact⟨L,z.sameBut hs (cne y c e)⟩
  .obtain⟨e,n,ne,nf,d⟩:=I.pin p S;exact⟨(hs.2 p.1 ne).trans e,n,ne,nf,d⟩
 .have hfn:X.fn x=true:=by
   rcases hf with z|z
   .exact z
   .rw[z]at C;cases C
  obtain⟨c,l⟩:=I.ok.has x (.inl C);obtain⟨L,z⟩:=I.cell x c l;refine wpAny_storeName_cell I.ok.kind C l z (λh' F hs=>?_);obtain⟨oc,J,K⟩:=id z;refine h {s with heap:=h'} ⟨I.ok,I.os,I.bare,⟨λb o e n D t=>?_,λb o e n D t=>?_,I.base.free,λb o e t=>?_,I.base.tups,I.base.frzs,I.base.tbls⟩,⟨m,O.sameBut hs (dJ (cne x c l)),λj y W f B N=>?_⟩,λy c' e=>?_,I.free,I.freeC,λp S=>?_,g ⟨oc,J,I.freeC x c l⟩ hs,by simpa using I.len⟩ ⟨c,hs,.inr l⟩
  .exact(hs.2 b (aR (aM (aI e) (I.ok.cab x c hfn l)))).trans (I.base.keep b o e n D t)
  .obtain⟨sl,f⟩:=I.base.slot b o e n D t;exact⟨sl,(hs.2 b (aR (aM (aI e) (I.ok.cab x c hfn l)))).trans f⟩
  .obtain⟨o',f⟩:=I.base.there b o e t;exact⟨o',(hs.2 b (aR (aM (aI e) (I.ok.cab x c hfn l)))).trans f⟩
  .by_cases hj:j=i
   .subst hj;rw[hi]at f;cases f;rw[List.getElem?_set_self hiσ]at B;cases B;exact⟨u,r,.inr ⟨.inl C,c,l,F⟩⟩
   .rw[List.getElem?_set_ne (dJ hj)]at B;obtain⟨U,T,q⟩:=Z j y W f B N;refine⟨U,T,?_⟩;rcases q with q|⟨k,c',e,z'⟩
    .exact .inl q
    .refine .inr ⟨k,c',e,z'.sameBut hs ?_⟩;rintro rfl;exact hj (a5U Y f (I.ok.inj _ _ _ e l ▸ hi))
  .by_cases hcc:c'=c
   .subst hcc;exact⟨_,F⟩
   .obtain⟨w2,z2⟩:=I.cell y c' e;exact⟨w2,z2.sameBut hs hcc⟩
  .obtain⟨e,n,ne,nf,d⟩:=I.pin p S;refine⟨(hs.2 p.1 ?_).trans e,n,ne,nf,d⟩;intro q;rw[q,J]at e;have q':oc=p.2:=bG e;exact d L (by rw[<-q'];exact K)
theorem a5y{M:Model}{A:Around}{E:Value->Shared->Prop}{i:Nat}{x:Str}{v:V}{u:Value}{Q:Unit->Shared->Prop}(I:Inv X pins σ H s)(b:X.N.Nodup)(hi:X.N[i]?=some x)(d:Loc X.env.scope x)(r:RelV v u)
  (h:∀s',Inv X pins (σ.set i (some v)) H s'->Q () s') (c:X.fn x=true∨X.env.scope.names.lookup x=some .local:=by first|exact .inl rfl|exact .inr rfl|assumption):wpAny M A (storeName X.env x u) Q E s :=
 a3C I b hi d r (λs' a _=>h s' a) c
theorem Inv.call'{s':Shared}{ch:List Addr}(I:Inv X pins σ H s)(i:s'.os=s.os)(u:Un (frs X.stack) ch H H' s.heap s'.heap)(d:HOk X.prog X.w H' s'.heap)(h:AllBare s'.gens)
  (a:∀b∈ch,(b∈X.ex∨X.s₀.heap.objs.size<=b)/\b≠X.env.locals/\(∀x c,X.env.cells.lookup x=some c->c≠b)/\∀p∈X.pn++pins,p.1≠b):Inv X pins σ H' s':=by
 obtain⟨h',g,f,t',o'⟩:=s';have e:o'=s.os:=i;subst e;exact I.call (g':=g) (t':=t') (d':=f) u d h a
end
abbrev XK:=Value->Option Addr->Hp->Prop
abbrev St:=List (Option V)
abbrev VK:=V->Hp->Prop
abbrev TE:=St->Hp->VK->Prop
abbrev TT:=St->Hp->(Bool->Hp->Prop)->Prop
abbrev TA:=St->Hp->(List V->Hp->Prop)->Prop
structure Ends where
 nx:St->Hp->Prop
 rt:VK
 bk:St->Hp->Prop:=λ_ _=>False
 ct:St->Hp->Prop:=λ_ _=>False
abbrev TS:=Ends->St->Hp->Prop
def EP(X:Cx)(pins:List (Addr×Obj))(σ:St)(Q:VK)(u:Value)(s':Shared):Prop:=∃v H',Inv X pins σ H' s'/\RelV v u/\Q v H'
def TP(X:Cx)(pins:List (Addr×Obj))(σ:St)(Q:Bool->Hp->Prop)(b:Bool)(s':Shared):Prop:=∃H',Inv X pins σ H' s'/\Q b H'
def AP(X:Cx)(pins:List (Addr×Obj))(σ:St)(Q:List V->Hp->Prop)(us:List Value)(s':Shared):Prop:=∃vs H',Inv X pins σ H' s'/\Vals vs us/\Q vs H'
def SP(X:Cx)(pins:List (Addr×Obj))(D:Ends)(f:Flow)(s':Shared):Prop :=
 match f with
 |.next=>∃σ' H',Inv X pins σ' H' s'/\D.nx σ' H'
 |.brk=>∃σ' H',Inv X pins σ' H' s'/\D.bk σ' H'
 |.cont=>∃σ' H',Inv X pins σ' H' s'/\D.ct σ' H'
 |.ret u=>∃v σ' H',Inv X pins σ' H' s'/\RelV v u/\D.rt v H'
def PE(X:Cx)(e:Expr)(t:TE):Prop :=
 ∀(pins:List (Addr×Obj)) (s:Shared) (σ:St) (H:Hp) (Q:VK),Inv X pins σ H s->t σ H Q->wpAny (model X.prog X.w) X.A (eval e X.env) (EP X pins σ Q) X.xe s
def PT(X:Cx)(e:Expr)(t:TT):Prop :=
 ∀(pins:List (Addr×Obj)) (s:Shared) (σ:St) (H:Hp) (Q:Bool->Hp->Prop),Inv X pins σ H s->t σ H Q->wpAny (model X.prog X.w) X.A (isTrue e X.env (eval e X.env)) (TP X pins σ Q) X.xe s
def PW(X:Cx)(e:Expr)(t:TT):Prop :=
 ∀(whole:Sem Value) (pins:List (Addr×Obj)) (s:Shared) (σ:St) (H:Hp) (Q:Bool->Hp->Prop),Inv X pins σ H s->t σ H Q->wpAny (model X.prog X.w) X.A (isTrue e X.env whole) (TP X pins σ Q) X.xe s
theorem PW.pt{X:Cx}{e:Expr}{t:TT}(h:PW X e t):PT X e t:=h _
def PA(X:Cx)(es:List Expr)(t:TA):Prop :=
 ∀(pos:Pos) (pins:List (Addr×Obj)) (s:Shared) (σ:St) (H:Hp) (Q:List V->Hp->Prop),Inv X pins σ H s->t σ H Q->wpAny (model X.prog X.w) X.A (spliced (backTo pos (starEach es X.env))) (AP X pins σ Q) X.xe s
def PS(X:Cx)(st:Stmt)(t:TS):Prop :=
 ∀(pins:List (Addr×Obj)) (s:Shared) (σ:St) (H:Hp) (D:Ends),Inv X pins σ H s->t D σ H->wpAny (model X.prog X.w) X.A (exec st X.env) (SP X pins D) X.xe s
def PSs(X:Cx)(st:List Stmt)(t:TS):Prop :=
 ∀(pins:List (Addr×Obj)) (s:Shared) (σ:St) (H:Hp) (D:Ends),Inv X pins σ H s->t D σ H->wpAny (model X.prog X.w) X.A (execs st X.env) (SP X pins D) X.xe s
theorem thn{α:Type}{t:Sem α}{Q b:α->Shared->Prop}{M:Model}{A:Around}{E:Value->Shared->Prop}{s:Shared}(h:wpAny M A t Q E s)(c:∀a s,Q a s->b a s):wpAny M A t b E s:=dE h c λ_ _ x=>x
section
variable {X:Cx}
def Z4(i:Nat):TE:=λσ H Q=>∃v,σ[i]?=some (some v)/\Q v H
def tC(v:V):TE:=λ_ H Q=>Q v H
theorem b6D{i:Nat}{x:Str}{pos:Pos}(g:X.N[i]?=some x)(o:Vis X.env.scope x)(hd:(x==("__debug__" : Str))=false:=by decide)(d:(x==("__classdict__" : Str))=false:=by decide):PE X (.Name x pos) (Z4 i):=by
 intro pins s σ H Q I h;obtain⟨v,e,h⟩:=h;obtain⟨m,n,j⟩:=I.loc;obtain⟨u,r,l⟩:=j i x v g e o;have fin:EP X pins σ Q u s:=⟨v,H,I,r,h⟩;rcases l with⟨b,k⟩|⟨b,c,f,a⟩
 .exact wpAny_Name (wpAny_loadName_local I.ok.kind b n k fin) hd
 .rcases b with b|b
  .exact wpAny_Name (wpAny_loadName_cell I.ok.kind b f a fin) hd
  .exact wpAny_Name (wpAny_loadName_free I.ok.kind b f a fin d) hd
theorem b6K{i j pos}:PE X (.Constant (.int i) j pos) (tC (.int i)):=λ_ _ _ H _ I h=>wpAny_Constant_int ⟨.int i,H,I.tok _,⟨_,rfl⟩,h⟩
theorem b8w{b j pos}:PE X (.Constant (.bool b) j pos) (tC (.bl b)):=λ_ _ _ H _ I h=>Constant_bool ⟨.bl b,H,I,rfl,h⟩
theorem b6I{j pos}:PE X (.Constant .none j pos) (tC .non):=λ_ _ _ H _ I h=>Constant_none ⟨.non,H,I,rfl,h⟩
theorem b6F{x j pos}:PE X (.Constant (.str x) j pos) (tC (.str x)):=λ_ _ _ H _ I h=>Calls.Constant_str ⟨.str x,H,I.tok _,⟨_,rfl⟩,h⟩
def Gl(X:Cx)(x:Str):Prop:=X.env.kindOf x=some .globalImplicit
theorem a4L{E:Value->Shared->Prop}{pins:List (Addr×Obj)}{s:Shared}{σ:St}{H:Hp}{x:Str}{u:Value}{pos:Pos}{Q:Value->Shared->Prop}(I:Inv X pins σ H s)(a:Gl X x)(b:X.mg x=some u)(h:Q u s)
  (hd:(x==("__debug__" : Str))=false:=by decide):wpAny (model X.prog X.w) X.A (eval (.Name x pos) X.env) Q E s :=
 Calls.Name_function_global I.ok.kind a (Calls.loadGlobal_global (by rw[I.ok.glob];exact I.mod.glob.keeps I.bk) b h) hd
theorem a2N{E:Value->Shared->Prop}{pins:List (Addr×Obj)}{s:Shared}{σ:St}{H:Hp}{x:Str}{u:Value}{pos:Pos}{Q:Value->Shared->Prop}(I:Inv X pins σ H s)(a:Gl X x)(b:X.mg x=none)(d:bootBuiltins x=some u)(h:Q u s)
  (c:x≠"__name__":=by decide) (hd:(x==("__debug__" : Str))=false:=by decide):wpAny (model X.prog X.w) X.A (eval (.Name x pos) X.env) Q E s:=by
 obtain⟨e,h1,h2⟩:=I.mod.blt;exact Calls.Name_function_global I.ok.kind a (Calls.loadGlobal_builtin (by rw[I.ok.glob];exact I.mod.glob.keeps I.bk) b (by rw[I.ok.blt];exact h1.keeps I.bk) ((h2 x c).trans d) h) hd
theorem b4x{x:Str}{v:V}{u:Value}{pos:Pos}(a:Gl X x)(b:X.mg x=none)(d:bootBuiltins x=some u)(r:RelV v u)(c:x≠"__name__":=by decide)(hd:(x==("__debug__" : Str))=false:=by decide):PE X (.Name x pos) (tC v) :=
 λ_ _ _ H _ I h=>a2N I a b d ⟨v,H,I,r,h⟩ c hd
variable {a b:Expr}{ta tb:TE}{pos:Pos}
def PC(X:Cx)(op:CmpOp)(a b:Expr)(t:TE):Prop :=
 ∀(pins:List (Addr×Obj)) (s:Shared) (σ:St) (H:Hp) (Q:VK),Inv X pins σ H s->t σ H Q ->
  wpAny (model X.prog X.w) X.A (eval a X.env) (λv s₁=>wpAny (model X.prog X.w) X.A (eval b X.env) (λu s₂=>wpAny (model X.prog X.w) X.A (compareOp op v u) (EP X pins σ Q) X.xe s₂) X.xe s₁) X.xe s
def tB(t:TE):TT:=λσ H Q=>t σ H λx H1=>∃c,x=.bl c/\Q c H1
theorem b6M{op:CmpOp}{t:TE}(h:PC X op a b t)(h1:behindInMarks op b=false:=by first|exact nobehind _ (by decide) (by decide)|rfl):PE X (.Compare a [op] [b] pos) t:=λpins s σ H Q I hw=>wpAny_Compare1 (h pins s σ H Q I hw) h1
theorem b6t{op:CmpOp}{t:TE}(h:PC X op a b t)(h1:behindInMarks op b=false:=by first|exact nobehind _ (by decide) (by decide)|rfl):PT X (.Compare a [op] [b] pos) (tB t):=by
 intro pins s σ H Q I hw;refine wpAny_isTrue_Compare1 (thn (h pins s σ H _ I hw) λv s1 h1=>thn h1 λu s2 h2=>thn h2 λc i ⟨x,H1,e,g,f⟩=>?_) h1;obtain⟨d,rfl,q⟩:=f;cases g;exact cW ⟨H1,e,q⟩
variable {tA tB':TT}{rest:List Expr}
def b8j(t u:TT):TT:=λσ H Q=>t σ H λc H1=>if c=true then u σ H1 Q else Q false H1
def tOr(t u:TT):TT:=λσ H Q=>t σ H λc H1=>if c=true then Q true H1 else u σ H1 Q
def b8d(t:TT):TT:=λσ H Q=>t σ H λc H1=>Q (!c) H1
theorem pw_and1(b:PT X a tA):PW X (.BoolOp .And [a] pos) tA:=by
 intro d pins s σ H Q I h;refine isTrue_and (thn (b pins s σ H Q I h) λc s1 e=>?_);cases c with
 |true=>exact isTrue_and_nil e
 |false=>exact e
theorem pw_or1(b:PT X a tA):PW X (.BoolOp .Or [a] pos) tA:=by
 intro d pins s σ H Q I h;refine isTrue_or (thn (b pins s σ H Q I h) λc s1 e=>?_);cases c with
 |false=>exact isTrue_or_nil e
 |true=>exact e
theorem pw_and(f:PT X a tA)(g:PW X (.BoolOp .And (b::rest) pos) tB'):PW X (.BoolOp .And (a::b::rest) pos) (b8j tA tB'):=by
 intro i pins s σ H Q I h;refine isTrue_and (thn (f pins s σ H _ I h) λc s1 ⟨H1,d,e⟩=>?_);cases c with
 |true=>exact g i pins s1 σ H1 Q d e
 |false=>exact⟨H1,d,e⟩
theorem pw_or(f:PT X a tA)(g:PW X (.BoolOp .Or (b::rest) pos) tB'):PW X (.BoolOp .Or (a::b::rest) pos) (tOr tA tB'):=by
 intro i pins s σ H Q I h;refine isTrue_or (thn (f pins s σ H _ I h) λc s1 ⟨H1,d,e⟩=>?_);cases c with
 |true=>exact⟨H1,d,e⟩
 |false=>exact g i pins s1 σ H1 Q d e
theorem b6s(b:PT X a tA):PT X (.UnaryOp .Not a pos) (b8d tA):=by
 intro pins s σ H Q I h;exact isTrue_not (b pins s σ H (λc H1=>Q (!c) H1) I h)
def b5z(ta tb:TE):TE:=λσ H Q=>ta σ H λx H1=>∃c,x=.bl c/\if c=true then tb σ H1 Q else Q (.bl false) H1
def b8c(ta tb:TE):TE:=λσ H Q=>ta σ H λx H1=>∃c,x=.bl c/\if c=true then Q (.bl true) H1 else tb σ H1 Q
def b5u(ta:TE):TE:=λσ H Q=>ta σ H λx H1=>∃c,x=.bl c/\Q (.bl (!c)) H1
theorem b6G{op}{t:TE}(h:PE X a t):PE X (.BoolOp op [a] pos) t:=λpins s σ H Q I hw=>BoolOp_one (h pins s σ H Q I hw)
theorem b6O(f:PE X a ta)(g:PE X (.BoolOp .And (b::rest) pos) tb):PE X (.BoolOp .And (a::b::rest) pos) (b5z ta tb):=by
 intro pins s σ H Q I h;refine BoolOp_and (thn (f pins s σ H _ I h) λv s1 ⟨x,H1,e,i,d⟩=>?_);obtain⟨c,rfl,d⟩:=d;cases i;refine cW ?_;cases c with
 |true=>exact g pins s1 σ H1 Q e d
 |false=>exact⟨.bl false,H1,e,rfl,d⟩
theorem b8u(f:PE X a ta)(g:PE X (.BoolOp .Or (b::rest) pos) tb):PE X (.BoolOp .Or (a::b::rest) pos) (b8c ta tb):=by
 intro pins s σ H Q I h;refine BoolOp_or (thn (f pins s σ H _ I h) λv s1 ⟨x,H1,e,i,d⟩=>?_);obtain⟨c,rfl,d⟩:=d;cases i;refine cW ?_;cases c with
 |false=>exact g pins s1 σ H1 Q e d
 |true=>exact⟨.bl true,H1,e,rfl,d⟩
theorem b6H(e:PE X a ta):PE X (.UnaryOp .Not a pos) (b5u ta):=by
 intro pins s σ H Q I h;refine UnaryOp_ (thn (e pins s σ H _ I h) λv s1 ⟨x,H1,d,f,b⟩=>?_);obtain⟨c,rfl,b⟩:=b;cases f;exact not_of (cW ⟨.bl (!c),H1,d,rfl,b⟩)
def tIf(t:TT)(ta tb:TE):TE:=λσ H Q=>t σ H λc H1=>if c=true then ta σ H1 Q else tb σ H1 Q
theorem b1R{c:Expr}(j:PT X c tA)(g:PE X a ta)(i:PE X b tb):PE X (.IfExp c a b pos) (tIf tA ta tb):=by
 intro pins s σ H Q I h;refine wpAny_IfExp (thn (j pins s σ H _ I h) λd s1 ⟨H1,e,f⟩=>?_);cases d with
 |true=>exact g pins s1 σ H1 Q e f
 |false=>exact i pins s1 σ H1 Q e f
end
def SqL(K:PySem.W.Frag)(H:Hp)(a:Addr)(xs:List V):Prop :=
 Rd H a (.lst xs) ∨
  ∃(o:Obj) (its:Array Value) (n:Nat),K.lookup a=some o/\o.cls=.type "list"/\o.dict=none/\o.data=.seq its n/\its.size<=sizeLine/\Vals xs its.toList
def SqT(K:PySem.W.Frag)(H:Hp)(a:Addr)(xs:List V):Prop :=
 Rd H a (.tup xs) ∨
  ∃(o:Obj) (its:Array Value) (n:Nat),K.lookup a=some o/\o.cls=.type "tuple"/\o.data=.seq its n/\its.size<=sizeLine/\Vals xs its.toList
noncomputable def b9e:Value->Option V
 |.none=>some .non
 |.bool b=>some (.bl b)
 |.int i _=>some (.int i)
 |.str x _=>some (.str x)
 |.bytes b _=>some (.byt b)
 |.float b _=>some (.flt b)
 |.ref a=>some (.ref a)
 |.type n=>some (.ty n)
 |_=>none
theorem RelV.abs{x:V}{u:Value}(r:RelV x u):b9e u=some x:=by
 cases x with
 |non=>cases r;rfl
 |bl _=>cases r;rfl
 |int _=>obtain⟨t,rfl⟩:=r;rfl
 |str _=>obtain⟨t,rfl⟩:=r;rfl
 |byt _=>obtain⟨t,rfl⟩:=r;rfl
 |flt _=>obtain⟨t,rfl⟩:=r;rfl
 |ref _=>cases r;rfl
 |ty _=>cases r;rfl
theorem RelV.inj{x y:V}{u:Value}(r:RelV x u)(q:RelV y u):x=y:=bG (r.abs.symm.trans q.abs)
theorem Vals.inj:∀{xs ys:List V}{us:List Value},Vals xs us->Vals ys us->xs=ys
 |_,_,_,.nil,.nil=>rfl
 |_,_,_,.cons r t,.cons r' t'=>by rw[r.inj r',Vals.inj t t']
section
variable {X:Cx}{pins:List (Addr×Obj)}{σ:St}{H:Hp}{s:Shared}{a:Addr}{xs ys:List V}
theorem SqL.of{K:PySem.W.Frag}(h:H a=some (.lst xs)):SqL K H a xs:=.inl (.inl h)
theorem SqT.of{K:PySem.W.Frag}(h:H a=some (.tup xs)):SqT K H a xs:=.inl (.inl h)
theorem Inv.list(I:Inv X pins σ H s)(h:SqL X.K H a xs):∃its:List Value,Vals xs its/\PlainL s.heap a its.toArray/\xs.length<=sizeLine:=by
 rcases h with h|⟨o,its,n,c,b,hd,hs,d,r⟩
 .obtain⟨z,its,n,r,e⟩:=h.ok I.hok;exact⟨its,r,⟨_,n,e,rfl,rfl,rfl⟩,z⟩
 .refine⟨its.toList,r,⟨o,n,I.kIn a o c,b,hd,by simpa using hs⟩,?_⟩;have e:=r.length;simp only[ay]at e;omega
theorem Inv.tuple(I:Inv X pins σ H s)(h:SqT X.K H a xs):∃its:List Value,Vals xs its/\IsTup s.heap a its.toArray/\xs.length<=sizeLine:=by
 rcases h with h|⟨o,its,n,c,b,hs,d,r⟩
 .obtain⟨z,its,r,p⟩:=h.ok I.hok;exact⟨its,r,p.tup,z⟩
 .refine⟨its.toList,r,⟨o,I.kIn a o c,b,n,by simpa using hs⟩,?_⟩;have e:=r.length;simp only[ay]at e;omega
theorem Inv.list_inj(I:Inv X pins σ H s)(h:SqL X.K H a xs)(h':SqL X.K H a ys):xs=ys:=by
 obtain⟨its,r,⟨o,n,e,_,_,d⟩,_⟩:=I.list h;obtain⟨b,g,⟨o',i,f,_,_,c⟩,_⟩:=I.list h';rw[e]at f;cases f;rw[d]at c;injection c with d1 _
 have:its=b:=by simpa using aL Array.toList d1
 subst this;exact r.inj g
theorem Inv.tuple_inj(I:Inv X pins σ H s)(h:SqT X.K H a xs)(h':SqT X.K H a ys):xs=ys:=by
 obtain⟨its,r,⟨o,e,_,n,d⟩,_⟩:=I.tuple h;obtain⟨b,g,⟨o',f,_,i,c⟩,_⟩:=I.tuple h';rw[e]at f;cases f;rw[d]at c;injection c with d1 _
 have:its=b:=by simpa using aL Array.toList d1
 subst this;exact r.inj g
end
noncomputable abbrev Cx.wish(X:Cx)(E:Value->Shared->Prop):Cx:={X with xe:=E}
noncomputable abbrev Cx.nox(X:Cx):Cx:=X.wish λ_ _=>False
theorem Cx.Ok.wish{X:Cx}(ok:X.Ok)(E:Value->Shared->Prop):(X.wish E).Ok :=
 ⟨ok.mod,ok.kind,ok.glob,ok.blt,ok.above,ok.inj,ok.has,ok.cab,ok.hd,ok.frames,ok.stk,ok.exf,ok.bs,ok.bsz,ok.noex,ok.exfs,ok.funs,ok.frf⟩
theorem Cx.Ok.unwish{X:Cx}{E:Value->Shared->Prop}(ok:(X.wish E).Ok):X.Ok :=
 ⟨ok.mod,ok.kind,ok.glob,ok.blt,ok.above,ok.inj,ok.has,ok.cab,ok.hd,ok.frames,ok.stk,ok.exf,ok.bs,ok.bsz,ok.noex,ok.exfs,ok.funs,ok.frf⟩
section
variable {X:Cx}{pins:List (Addr×Obj)}{σ:St}{H:Hp}{s:Shared}{E:Value->Shared->Prop}
theorem Inv.wish(I:Inv X pins σ H s)(E:Value->Shared->Prop):Inv (X.wish E) pins σ H s:=⟨I.ok.wish E,I.os,I.bare,I.base,I.loc,I.cell,I.free,I.freeC,I.pin,I.hok,I.len⟩
theorem Inv.unwish(I:Inv (X.wish E) pins σ H s):Inv X pins σ H s:=⟨I.ok.unwish,I.os,I.bare,I.base,I.loc,I.cell,I.free,I.freeC,I.pin,I.hok,I.len⟩
theorem SP.unwish{D:Ends}{f:Flow}{s':Shared}(h:SP (X.wish E) pins D f s'):SP X pins D f s':=by
 cases f with
 |next=>obtain⟨σ',H',I,q⟩:=h;exact⟨σ',H',I.unwish,q⟩
 |brk=>obtain⟨σ',H',I,q⟩:=h;exact⟨σ',H',I.unwish,q⟩
 |cont=>obtain⟨σ',H',I,q⟩:=h;exact⟨σ',H',I.unwish,q⟩
 |ret u=>obtain⟨v,σ',H',I,r,q⟩:=h;exact⟨v,σ',H',I.unwish,r,q⟩
theorem PSs.nox{st:List Stmt}{t:TS}(h:PSs X.nox st t):PSs X st t:=λpins s σ H D I hw =>
 dE (h pins s σ H D (I.wish _) hw) (λ_ _ q=>q.unwish) λ_ _ z=>False.elim z
end
section
variable {X:Cx}{st:Stmt}{rest:List Stmt}{t u:TS}{e:Expr}{te:TE}{pos:Pos}
def b5v:TS:=λD σ H=>D.nx σ H
def b6e(t u:TS):TS:=λD σ H=>t {D with nx:=u D} σ H
theorem b4f:PSs X [] b5v:=λ_ _ σ H _ I h=>gb ⟨σ,H,I,h⟩
theorem b1E(h1:PS X st t)(h2:PSs X rest u):PSs X (st::rest) (b6e t u):=by
 intro pins s σ H D I h;refine wpAny_execs_cons (thn (h1 pins s σ H {D with nx:=u D} I h) λf s1 q=>?_);cases f with
 |next =>
  obtain⟨σ',H',a,q⟩:=q;exact h2 pins s1 σ' H' D a q
 |ret v=>exact q
 |brk=>exact q
 |cont=>exact q
theorem b4e(h1:PS X st t):PSs X [st] t:=by
 intro pins s σ H D I h;refine wpAny_execs_cons (thn (h1 pins s σ H D I h) λf s1 q=>?_);cases f with
 |next=>exact gb q
 |ret v=>exact q
 |brk=>exact q
 |cont=>exact q
def b0V:TS:=λD σ H=>D.bk σ H
theorem b1H:PS X (.Break pos) b0V:=λ_ _ σ H _ I h=>wpAny_Break ⟨σ,H,I,h⟩
theorem Inv.quiet{pins:List (Addr×Obj)}{σ:St}{H:Hp}{s:Shared}(I:Inv X pins σ H s):interactive X.env=false:=by simp[interactive,I.ok.kind]
def b5x(te:TE):TS:=λD σ H=>te σ H λ_ H1=>D.nx σ H1
theorem b4h(b:PE X e te)(hs:swapsWith e none pos.line X.env=pure false:=by rfl):PS X (.Expr e pos) (b5x te):=by
 intro pins s σ H D I h;exact wpAny_Expr_any (thn (b pins s σ H _ I h) λv s1 ⟨x,H1,a,d,c⟩=>⟨σ,H1,a,c⟩) I.quiet hs
def b6f(te:TE):TS:=λD σ H=>te σ H D.rt
theorem b6v(b:PE X e te):PS X (.Return (some e) pos) (b6f te):=by
 intro pins s σ H D I h;exact wpAny_Return_some (thn (b pins s σ H _ I h) λv s1 ⟨x,H1,a,d,c⟩=>⟨x,σ,H1,a,d,c⟩)
def b9h:TS:=λD _ H=>D.rt .non H
def b8e(c:TT)(t u:TS):TS:=λD σ H=>c σ H λb H1=>if b=true then t D σ H1 else u D σ H1
theorem b8r{c:Expr}{a b:List Stmt}{tc:TT}(j:PT X c tc)(g:PSs X a t)(i:PSs X b u):PS X (.If c a b pos) (b8e tc t u):=by
 intro pins s σ H D I h;refine wpAny_If (thn (j pins s σ H _ I h) λd s1 ⟨H1,e,f⟩=>?_);cases d with
 |true=>exact g pins s1 σ H1 D e f
 |false=>exact i pins s1 σ H1 D e f
end
abbrev TG:=V->St->Hp->(St->Hp->Prop)->Prop
abbrev TGs:=List V->St->Hp->(St->Hp->Prop)->Prop
def PG(X:Cx)(target:Expr)(t:TG):Prop :=
 ∀(pins:List (Addr×Obj)) (s:Shared) (σ:St) (H:Hp) (v:V) (u:Value) (Q:St->Hp->Prop),Inv X pins σ H s->RelV v u->t v σ H Q ->
  wpAny (model X.prog X.w) X.A (assign target X.env u) (λ_ s'=>∃σ' H',Inv X pins σ' H' s'/\Q σ' H') X.xe s
def PGs(X:Cx)(ts:List Expr)(t:TGs):Prop :=
 ∀(pins:List (Addr×Obj)) (s:Shared) (σ:St) (H:Hp) (vs:List V) (us:List Value) (Q:St->Hp->Prop),Inv X pins σ H s->Vals vs us->t vs σ H Q ->
  wpAny (model X.prog X.w) X.A (assignInOrder ((assignEach ts X.env).map (·.2)) us) (λ_ s'=>∃σ' H',Inv X pins σ' H' s'/\Q σ' H') X.xe s
abbrev b7R:=V->V->V->Hp->(Hp->Prop)->Prop
def b8P(X:Cx)(t:b7R):Prop :=
 ∀(pins:List (Addr×Obj)) (s:Shared) (σ:St) (H:Hp) (o i v:V) (ov iv u:Value) (Q:Hp->Prop),Inv X pins σ H s->RelV o ov->RelV i iv->RelV v u->t o i v H Q ->
  wpAny (model X.prog X.w) X.A (setItem ov iv u) (λ_ s'=>∃H',Inv X pins σ H' s'/\Q H') X.xe s
abbrev TIp:=V->V->Hp->VK->Prop
section
variable {X:Cx}{pos:Pos}
def A9(i:Nat):TG:=λv σ H Q=>Q (σ.set i (some v)) H
theorem b4s{i:Nat}{x:Str}(b:X.N.Nodup)(hi:X.N[i]?=some x)(d:Loc X.env.scope x)(c:X.fn x=true∨X.env.scope.names.lookup x=some .local:=by first|exact .inl rfl|exact .inr rfl|assumption):PG X (.Name x pos) (A9 i):=by
 intro pins s σ H v u Q I r h;exact wpAny_assign_Name (a5y I b hi d r (λs' a=>⟨_,H,a,h⟩) c)
def b0d:TGs:=λvs σ H Q=>vs=[]/\Q σ H
def a0c(t:TG)(u:TGs):TGs:=λvs σ H Q=>∃v r,vs=v::r/\t v σ H λσ' H'=>u r σ' H' Q
theorem b4q:PGs X [] b0d:=by
 intro pins s σ H vs a Q I r h;obtain⟨e,h⟩:=h;subst e;cases r;exact assignInOrder_nil ⟨σ,H,I,h⟩
theorem b1P{e:Expr}{es:List Expr}{t:TG}{u:TGs}(h1:PG X e t)(h2:PGs X es u)
  (hs:(assignEach (e::es) X.env).map (·.2)=assign e X.env::(assignEach es X.env).map (·.2):=by rfl):PGs X (e::es) (a0c t u):=by
 intro pins s σ H vs d Q I r h;obtain⟨v,f,b,h⟩:=h;subst b;cases r with
 |cons r rr =>
  rw[hs];refine assignInOrder_cons (thn (h1 pins s σ H _ _ _ I r h) λ_ s1 ⟨σ1,H1,a,c⟩=>?_);exact h2 pins s1 σ1 H1 _ _ Q a rr c
def a7o(K:PySem.W.Frag)(n:Nat)(t:TGs):TG:=λv σ H Q=>∃a xs,v=.ref a/\SqT K H a xs/\xs.length=n/\t xs σ H Q
theorem b6B{es:List Expr}{k:Nat}{t:TGs}{n:Nat}(i:X.calm=true)(h:PGs X es t)
  (l:(assignEach es X.env).length=n:=by rfl) (c:(assignEach es X.env).findIdx? (·.1)=none:=by rfl):PG X (.Tuple es k pos) (a7o X.K n t):=by
 intro pins s σ H v u Q I r hw;obtain⟨a,xs,g,m,j,hw⟩:=hw;subst g;cases r;obtain⟨its,d,p,w⟩:=I.tuple m;refine assign_Tuple_tuple (I.ok.hd i) p (by simp[l,<-j,d.length]) c λh' q=>?_;have f:Inv X pins σ H {s with heap:=h'}:=I.kept (t':=s.toks) λb o e=>q b o (aR (aI e)) e;exact h pins _ σ H xs _ Q f (by simpa using d) hw
def b8M(to ti:TE)(t:b7R):TG:=λv σ H Q=>to σ H λo H1=>ti σ H1 λi H2=>t o i v H2 λH3=>Q σ H3
theorem b6C{o i:Expr}{to c:TE}{t:b7R}(k:PE X o to)(hi:PE X i c)(hs:b8P X t)
  (j:∀v,assign (.Subscript o i pos) X.env v=(do
   let a <-holding [v] (eval o X.env)
   let b <-holding [v,a] (eval i X.env)
   standAt pos
   holding [v,a,b] (setItem a b v)
   release [v,a,b] []):=by intro _;rfl):PG X (.Subscript o i pos) (b8M to c t):=by
 intro pins s σ H v u Q I r h;rw[j];refine aa (b_ (thn (k pins s σ H _ I h) λa s1 ⟨x,H1,e,p,l⟩=>?_));refine aa (b_ (thn (hi pins s1 σ H1 _ e l) λb s2 ⟨y,H2,f,q,m⟩=>?_));refine aa (wpAny_standAt (aa (b_ (thn (hs pins s2 σ H2 x y v a b u _ f p q r m) λ_ w ⟨d,g,n⟩=>?_))));exact wpAny_release ⟨σ,d,g,n⟩
def a9k(te:TE)(g:TG):TS:=λD σ H=>te σ H λx H1=>g x σ H1 D.nx
theorem b6y{tg e:Expr}{te:TE}{g:TG}(b:PE X e te)(c:PG X tg g)(hs:swapsWithSole [tg] e pos.line X.env=pure false:=by rfl)(hw:swappedStores [tg] e X.env=pure none:=by rfl)
  (h1:(assignEach [tg] X.env).map (·.2)=[assign tg X.env]:=by rfl):PS X (.Assign [tg] e pos) (a9k te g):=by
 intro pins s σ H D I h;refine wpAny_Assign_stores (thn (b pins s σ H _ I h) λv s1 ⟨x,H1,a,f,d⟩=>?_) hs hw;rw[h1];exact thn (c pins s1 σ H1 x v _ a f d) λ_ s2 q=>q
theorem b6u{i:Nat}{x:Str}{e:Expr}{te:TE}{pos':Pos}(c:X.N.Nodup)(hi:X.N[i]?=some x)(g:Loc X.env.scope x)(d:PE X e te)(hs:swapsWith e (some (.Name x pos')) pos.line X.env=pure false:=by rfl)(f:X.fn x=true∨X.env.scope.names.lookup x=some .local:=by first|exact .inl rfl|exact .inr rfl|assumption) :
  PS X (.Assign [.Name x pos'] e pos) (a9k te (A9 i)):=by
 intro pins s σ H D I h;refine wpAny_Assign_Name (thn (d pins s σ H _ I h) λv s1 ⟨y,H1,a,k,j⟩=>?_) hs;exact a5y a c hi g k (λs2 b=>⟨_,H1,b,j⟩) f
def ipI(f:Int->Int->Int):TIp:=λx y H Q=>∃i j,x=.int i/\y=.int j/\Q (.int (f i j)) H
def b0R(c:TT)(tb:TS):TS:=λD σ H=>∃W:Nat->St->Hp->Prop,(∃m,W m σ H)/\∀m σ H,W m σ H ->
 c σ H λb H1=>if b=true then ∃N:St->Hp->Prop,(∀σ' H',N σ' H'->∃m',m'<m/\W m' σ' H')/\tb {D with nx:=N,ct:=N,bk:=D.nx} σ H1 else D.nx σ H1
theorem b1F{c:Expr}{body:List Stmt}{tc:TT}{tb:TS}(hp:PassesOwn (model X.prog X.w) X.A X.env X.xe)(r:PT X c tc)(q:PSs X body tb):PS X (.While c body [] pos) (b0R tc tb):=by
 intro pins s σ H D I h;obtain⟨W,⟨t,u⟩,turn⟩:=h;refine wpAny_While (codeAny_whileLoop (λn s'=>∃σ' H',Inv X pins σ' H' s'/\W n σ' H') ?_ t ⟨σ,H,I,u⟩);rintro n s1 ⟨σ1,H1,p,w⟩;refine dM hp (thn (r pins s1 σ1 H1 _ p (turn n σ1 H1 w)) λb s2 ⟨H2,m,d⟩=>?_);cases b with
 |true =>
  obtain⟨N,o,d⟩:=d;rw[az rfl];refine dM hp (thn (q pins s2 σ1 H2 _ m d) λf x e=>?_);cases f with
  |next =>
   obtain⟨σ3,a,g,k⟩:=e;obtain⟨j,i,l⟩:=o σ3 a k;exact⟨j,i,σ3,a,g,l⟩
  |cont =>
   obtain⟨σ3,a,g,k⟩:=e;obtain⟨j,i,l⟩:=o σ3 a k;exact⟨j,i,σ3,a,g,l⟩
  |brk=>exact e
  |ret v=>exact e
 |false =>
  rw[aq aS];exact gb ⟨σ1,H2,m,d⟩
end
structure It where
 go:Nat->Hp->Prop
 yld:Nat->Hp->V->Hp->Prop
 stop:Nat->Hp->Prop
def a1o(X:Cx)(pins:List (Addr×Obj))(H:Hp)(b:Addr):Prop :=
 H b=none/\b≠X.env.locals/\b∉X.fs/\(b∈X.ex∨X.s₀.heap.objs.size<=b)/\(∀x c,X.env.cells.lookup x=some c->c≠b)/\∀p∈X.pn++pins,p.1≠b
theorem Inv.fpOk{X:Cx}{pins:List (Addr×Obj)}{σ:St}{H H':Hp}{s:Shared}{b:Addr}(I:Inv X pins σ H s)(a:s.heap.objs.size<=b)(d:H' b=none):a1o X pins H' b:=by
 refine⟨d,di (aM I.lt a),I.nofs a,.inr (bf I.sz a),λx c e z=>?_,λp f z=>?_⟩
 .obtain⟨v,q⟩:=I.cell x c e;exact absurd (aM q.lt (by rw[z];exact a)) (cj _)
 .exact absurd (aM (aI (I.pin p f).1) (by rw[z];exact a)) (cj _)
structure Turn(P:Program)(w:World)(K:PySem.W.Frag)(tg:Expr)(J:It)(fp:List Addr)(it:Addr)(tn:Nat->Heap->Prop):Prop where
 mem:it∈fp
 obj:∀i h,tn i h->∀b∈fp,∃o,h.get? b=some o/\∀v,o.data≠.cell v
 keep:∀i h h',tn i h->(∀b∈fp,∀o,h.get? b=some o->h'.get? b=some o)->tn i h'
 item:∀(X:Cx),X.prog=P->X.w=w->X.K=K->X.calm=true->∀(i:Nat) (pins:List (Addr×Obj)) (s:Shared) (σ:St) (H:Hp) (E:Value->Shared->Prop),Inv X pins σ H s->(∀b∈fp,a1o X pins H b)->tn i s.heap->J.go i H ->
  wpAny (model P w) X.A (pyNext (.ref it)) (λr s1=>∃u,r=some u /\
   wpAny (model P w) X.A (letOwnedTupleGo tg (.ref it) u) (λ_ s2=>∃x H',Inv X pins σ H' s2/\RelV x u/\J.yld i H x H'/\tn (i+1) s2.heap/\∀b∈fp,H' b=none) E s1) E s
 done:∀(X:Cx),X.prog=P->X.w=w->X.K=K->X.calm=true->∀(i:Nat) (pins:List (Addr×Obj)) (s:Shared) (σ:St) (H:Hp) (E:Value->Shared->Prop),Inv X pins σ H s->(∀b∈fp,a1o X pins H b)->tn i s.heap->J.stop i H ->
  wpAny (model P w) X.A (pyNext (.ref it)) (λr s1=>r=none/\Inv X pins σ H s1) E s
 self:∀(A:Around) (i:Nat) (s:Shared) (Q:Value->Shared->Prop) (E:Value->Shared->Prop),tn i s.heap->Q (.ref it) s->wpAny (model P w) A (pyIter (.ref it)) Q E s
abbrev TI:=St->Hp->(It->Hp->Prop)->Prop
def PIE(X:Cx)(pins:List (Addr×Obj))(σ:St)(tg:Expr)(R:It->Hp->Prop)(itv:Value)(s2:Shared):Prop :=
 ∃(it:Addr) (fp:List Addr) (tn:Nat->Heap->Prop) (J:It) (H':Hp),itv=.ref it/\Inv X pins σ H' s2/\Turn X.prog X.w X.K tg J fp it tn/\tn 0 s2.heap/\(∀b∈fp,a1o X pins H' b)/\R J H'
def PI(X:Cx)(tg iter:Expr)(wi:TI):Prop :=
 ∀(pins:List (Addr×Obj)) (s:Shared) (σ:St) (H:Hp) (R:It->Hp->Prop),Inv X pins σ H s->wi σ H R ->
  wpAny (model X.prog X.w) X.A (eval iter X.env) (λv s1=>wpAny (model X.prog X.w) X.A (pyIter v) (PIE X pins σ tg R) X.xe s1) X.xe s
theorem b2X{M:Model}{A:Around}{E:Value->Shared->Prop}{s:Shared}{tg:Expr}{it:Addr}{u:Value}{o:Obj}{n:String}{vs:Array Value}{Q:Unit->Shared->Prop}(d:s.heap.get? it=some o)(b:o.cls=.type n)(hd:o.data=.fields vs)
  (c:["enumerate","zip","dict_itemiterator","dict_reverseitemiterator","odict_iterator","itertools.zip_longest","itertools.pairwise"].contains n=false) (a:Q () s):wpAny M A (letOwnedTupleGo tg (.ref it) u) Q E s:=by
 unfold letOwnedTupleGo;cases tg<;>first
  |exact ae a
  | (cases u <;> first
    |exact ae a
    | (refine aa (wpAny_load d ?_)
       rw[b,hd];show wpAny M A (if (["enumerate","zip","dict_itemiterator","dict_reverseitemiterator","odict_iterator","itertools.zip_longest","itertools.pairwise"].contains n && vs[0]? == some (rawInt _))=true then _ else _) Q E s;rw[aq (by intro h;rw[c,Bool.false_and]at h;cases h)];exact ae a))
noncomputable def Itl(K:PySem.W.Frag)(a:Addr):It :=
 ⟨λi H=>∃xs x,SqL K H a xs/\xs[i]?=some x,λi H x H'=>H'=H/\∀xs,SqL K H a xs->xs[i]?=some x,λi H=>∃xs,SqL K H a xs/\xs.length<=i⟩
noncomputable def Itt(K:PySem.W.Frag)(a:Addr):It :=
 ⟨λi H=>∃xs x,SqT K H a xs/\xs[i]?=some x,λi H x H'=>H'=H/\∀xs,SqT K H a xs->xs[i]?=some x,λi H=>∃xs,SqT K H a xs/\xs.length<=i⟩
noncomputable def Itr(lo:Int)(n:Nat):It:=⟨λi _=>i<n,λi H x H'=>H'=H/\x=.int (lo+i),λi _=>n<=i⟩
theorem a9g{P:Program}{w:World}{K:PySem.W.Frag}{tg:Expr}(a it:Addr):Turn P w K tg (Itl K a) [it] it (λi h=>h.IsListIter it a i) where
 mem:=by simp
 obj:=λi h st b f=>by
  have e:b=it:=by simpa using f
  subst e;obtain⟨o,e,c,d⟩:=st;exact⟨o,e,λv z=>by rw[d]at z;cases z⟩
 keep:=λi h h' st k=>st.at λo e=>k it (by simp) o e
 item:=by
  intro X t hw r C i pins s σ H E I g st y;subst t hw r;obtain⟨xs,x,j,A⟩:=y;obtain⟨its,B,p,L⟩:=I.list j;obtain⟨u,G,M⟩:=B.get A;obtain⟨l,f1,f2,m,n,q⟩:=g it (by simp);refine wpAny_pyNext_list_item st p.isList (x:=u) (by simpa using G) λh' st' N=>?_;have D:Inv X pins σ H {s with heap:=h'}:=I.turned (t':=s.toks) (λb o f e=>(N.2 b f).trans e) l f1 m n q;obtain⟨o,e,c,d⟩:=id st';exact⟨u,rfl,b2X (s:={s with heap:=h'}) e c d (by decide) ⟨x,H,D,M,⟨rfl,λys J=>by rw[I.list_inj J j];exact A⟩,st',λb f=>(g b f).1⟩⟩
 done:=by
  intro X t hw r C i pins s σ H E I g st y;subst t hw r;obtain⟨xs,j,A⟩:=y;obtain⟨its,B,p,L⟩:=I.list j;obtain⟨l,f1,f2,m,n,q⟩:=g it (by simp);have O:=B.length;exact wpAny_pyNext_list_end (I.ok.hd C) st p.isList (by simp;omega) λh' F=>⟨rfl,I.turned (t':=s.toks) (λb o f e=>F b o f e) l f1 m n q⟩
 self:=λ_ _ _ _ _ st h=>wpAny_pyIter_listiter st h
theorem a6H{P:Program}{w:World}{K:PySem.W.Frag}{tg:Expr}(a it:Addr):Turn P w K tg (Itt K a) [it] it (λi h=>h.IsTupleIter it a i) where
 mem:=by simp
 obj:=λi h st b f=>by
  have e:b=it:=by simpa using f
  subst e;obtain⟨o,e,c,d⟩:=st;exact⟨o,e,λv z=>by rw[d]at z;cases z⟩
 keep:=λi h h' st k=>st.at λo e=>k it (by simp) o e
 item:=by
  intro X t hw r C i pins s σ H E I g st y;subst t hw r;obtain⟨xs,x,j,A⟩:=y;obtain⟨its,B,p,L⟩:=I.tuple j;obtain⟨u,G,M⟩:=B.get A;obtain⟨l,f1,f2,m,n,q⟩:=g it (by simp);refine wpAny_pyNext_tuple_item st (show s.heap.IsTuple a its.toArray from p) (x:=u) (by simpa using G) λh' st' N=>?_;have D:Inv X pins σ H {s with heap:=h'}:=I.turned (t':=s.toks) (λb o f e=>(N.2 b f).trans e) l f1 m n q;obtain⟨o,e,c,d⟩:=id st';exact⟨u,rfl,b2X (s:={s with heap:=h'}) e c d (by decide) ⟨x,H,D,M,⟨rfl,λys J=>by rw[I.tuple_inj J j];exact A⟩,st',λb f=>(g b f).1⟩⟩
 done:=by
  intro X t hw r C i pins s σ H E I g st y;subst t hw r;obtain⟨xs,j,A⟩:=y;obtain⟨its,B,p,L⟩:=I.tuple j;obtain⟨l,f1,f2,m,n,q⟩:=g it (by simp);have O:=B.length;exact wpAny_pyNext_tuple_end (I.ok.hd C) st (show s.heap.IsTuple a its.toArray from p) (by simp;omega) λh' F=>⟨rfl,I.turned (t':=s.toks) (λb o f e=>F b o f e) l f1 m n q⟩
 self:=λ_ _ _ _ _ st h=>wpAny_pyIter_tupleiter st h
theorem a6I{P:Program}{w:World}{K:PySem.W.Frag}{tg:Expr}(it:Addr)(lo:Int)(n:Nat):Turn P w K tg (Itr lo n) [it] it (λi h=>IsRangeIter h it (lo+(i:Nat)*1) ((n:Int)-(i:Nat)) 1) where
 mem:=by simp
 obj:=λi h st b a=>by
  have e:b=it:=by simpa using a
  subst e;exact⟨_,st,λv z=>by
   have y:Data.fields _=Data.cell v:=z;cases y⟩
 keep:=λi h h' st k=>k it (by simp) _ st
 item:=by
  intro X m hw l p i pins s σ H E I c st q;subst m hw l;obtain⟨d,f1,f2,f,g,j⟩:=c it (by simp);have W:=Walks.range (prog:=X.prog) (w:=X.w) (I.ok.hd p) it lo 1 n;refine W.item i s _ _ q st λv h' tk x st' kk=>?_;obtain⟨t,rfl⟩:=x;have r:Inv X pins σ H {s with heap:=h',toks:=tk}:=I.turned (λb o a e=>kk b o (by simpa using a) e) d f1 f g j;refine⟨_,rfl,b2X (s:={s with heap:=h',toks:=tk}) (n:="range_iterator") st' rfl rfl (by decide) ⟨.int (lo+i),H,r,⟨t,?_⟩,⟨rfl,rfl⟩,st',λb a=>(c b a).1⟩⟩;rw[Int.mul_one]
 done:=by
  intro X m hw l p i pins s σ H E I c st q;subst m hw l;obtain⟨d,f1,f2,f,g,j⟩:=c it (by simp);exact wpAny_pyNext_range_end (I.ok.hd p) st (by have:n<=i:=q;omega) λh' u=>⟨rfl,I.turned (t':=s.toks) (λb o a e=>u b o a e) d f1 f g j⟩
 self:=λ_ _ _ _ _ st h=>wpAny_pyIter_rangeiter st h
section
variable {X:Cx}{tg:Expr}
def b2U(K:PySem.W.Frag)(tl:TE):TI:=λσ H R=>tl σ H λx H1=>∃a,x=.ref a/\(∃xs,SqL K H1 a xs)/\R (Itl K a) H1
def b7w(K:PySem.W.Frag)(tl:TE):TI:=λσ H R=>tl σ H λx H1=>∃a,x=.ref a/\(∃xs,SqT K H1 a xs)/\R (Itt K a) H1
theorem b4p{l:Expr}{tl:TE}(f:PE X l tl):PI X tg l (b2U X.K tl):=by
 intro pins s σ H R I h;refine thn (f pins s σ H _ I h) λv s1 ⟨x,H1,c,j,i⟩=>?_;obtain⟨a,e,⟨xs,g⟩,q⟩:=i;subst e;cases j;obtain⟨its,m,p,k⟩:=c.list g;refine wpAny_pyIter_list p.isList ?_;refine⟨s1.heap.objs.size,[s1.heap.objs.size],_,_,H1,rfl,c.kept (t':=s1.toks) λb o e=>ag _ e,a9g a _,⟨_,aD _ rfl,rfl,rfl⟩,λb d=>?_,q⟩;have e:b=s1.heap.objs.size:=by simpa using d
 subst e;exact c.fpOk (ao _) (c.hok.fresh (ao _))
theorem b6A{l:Expr}{tl:TE}(f:PE X l tl):PI X tg l (b7w X.K tl):=by
 intro pins s σ H R I h;refine thn (f pins s σ H _ I h) λv s1 ⟨x,H1,c,j,i⟩=>?_;obtain⟨a,e,⟨xs,g⟩,q⟩:=i;subst e;cases j;obtain⟨its,m,p,k⟩:=c.tuple g;refine fu (show s1.heap.IsTuple a its.toArray from p) ?_;refine⟨s1.heap.objs.size,[s1.heap.objs.size],_,_,H1,rfl,c.kept (t':=s1.toks) λb o e=>ag _ e,a6H a _,⟨_,aD _ rfl,rfl,rfl⟩,λb d=>?_,q⟩;have e:b=s1.heap.objs.size:=by simpa using d
 subst e;exact c.fpOk (ao _) (c.hok.fresh (ao _))
theorem b1u{pins:List (Addr×Obj)}{σ:St}{H:Hp}{s:Shared}{R:It->Hp->Prop}{E:Value->Shared->Prop}{lo hi:Int}{t u v:Tok}{tk:Nat}(I:Inv X pins σ H s)(h1 : -(2 ^ 62)<=lo)(h2:lo<2 ^ 62)(d : -(2 ^ 62)<=hi)(f:hi<2 ^ 62)
  (q:R (Itr lo (hi-lo).toNat) H):wpAny (model X.prog X.w) X.A (pyIter (.ref s.heap.objs.size)) (PIE X pins σ tg R) E {s with heap:=s.heap.push {cls:=.type "range",data:=.fields #[.int lo t,.int hi u,.int 1 v]},toks:=tk}:=by
 refine wpAny_pyIter_range (IsRange.new ..) (small_one h1 h2 d f) ?_;have a:Inv X pins σ H {s with heap:=s.heap.push {cls:=.type "range",data:=.fields #[.int lo t,.int hi u,.int 1 v]},toks:=tk}:=I.kept λb o e=>ag _ e;refine⟨(s.heap.push {cls:=.type "range",data:=.fields #[.int lo t,.int hi u,.int 1 v]}).objs.size,[(s.heap.push {cls:=.type "range",data:=.fields #[.int lo t,.int hi u,.int 1 v]}).objs.size],_,_,H,rfl,
  a.kept (t':=tk) λb o e=>ag _ e,a6I _ lo (hi-lo).toNat,?_,λb g=>?_,q⟩
 .have e1:lo+((0:Nat):Int)*1=lo:=by simp
  have c:(((hi-lo).toNat:Nat):Int)-((0:Nat):Int)=Builtin.Range.rangeSize lo hi 1:=by rw[rangeSize_one];split<;>omega
  show IsRangeIter _ _ (lo+((0:Nat):Int)*1) ((((hi-lo).toNat:Nat):Int)-((0:Nat):Int)) 1;rw[e1,c];exact aD _ rfl
 .have e:b=(s.heap.push {cls:=.type "range",data:=.fields #[.int lo t,.int hi u,.int 1 v]}).objs.size:=by simpa using g
  subst e;exact a.fpOk (ao _) (a.hok.fresh (ao _))
def b5T(ta:TA):TI:=λσ H R=>ta σ H λvs H1=>∃j:Int,vs=[.int j] /\ -(2 ^ 62)<=j/\j<2 ^ 62/\R (Itr 0 j.toNat) H1
theorem a9B{a:Expr}{ta:TA}{p pos:Pos}(f:Gl X "range")(g:X.mg "range"=none)(d:PA X [a] ta)(hs:starEach [a] X.env=[(false,eval a X.env)]:=by rfl):PI X tg (.Call (.Name "range" p) [a] [] pos) (b5T ta):=by
 intro pins s σ H R I h;refine Call_ (a2N I f g boot_range (eY (thn (d pos pins s σ H _ I h) λl s1 ⟨vs,H1,c,k,b⟩=>?_) hs rfl));obtain⟨j,e,b,i,q⟩:=b;subst e;cases k with
 |cons r rr =>
  cases rr;obtain⟨t,rfl⟩:=r;exact call_range_1 (b1u c (by omega) (by omega) b i (by simpa using q))
def b8f(wi:TI)(g:TG)(tb:TS):TS:=λD σ H=>wi σ H λJ H1=>∃W:Nat->Nat->St->Hp->Prop,(∃m,W 0 m σ H1)/\∀i m σ H,W i m σ H ->
 (J.stop i H/\D.nx σ H)∨(J.go i H/\∃N:St->Hp->Prop,(∀σ' H',N σ' H'->∃m',m'<m/\W (i+1) m' σ' H')/\∀x H',J.yld i H x H'->g x σ H' λσ2 H2=>tb {D with nx:=N,ct:=N,bk:=D.nx} σ2 H2)
noncomputable def a2x(fp:List Addr)(h:Heap):List (Addr×Obj):=fp.filterMap λb=>(h.get? b).map λo=>(b,o)
theorem T0{fp:List Addr}{h:Heap}{b:Addr}{o:Obj}(a:b∈fp)(e:h.get? b=some o):(b,o)∈a2x fp h:=cn.mpr ⟨b,a,by rw[e];rfl⟩
theorem a9K{fp:List Addr}{h:Heap}{p:Addr×Obj}(hp:p∈a2x fp h):p.1∈fp/\h.get? p.1=some p.2:=by
 obtain⟨b,c,e⟩:=cn.mp hp;cases q:h.get? b with
 |none=>rw[q]at e;cases e
 |some o =>
  rw[q]at e;have a:(b,o)=p:=bG e;subst a;exact⟨c,q⟩
theorem Inv.pinned{pins:List (Addr×Obj)}{σ:St}{H:Hp}{s:Shared}{fp:List Addr}(I:Inv X pins σ H s)(g:∀b∈fp,a1o X pins H b)(h:∀b∈fp,∃o,s.heap.get? b=some o/\∀v,o.data≠.cell v):Inv X (pins++a2x fp s.heap) σ H s :=
 I.pins_of λp i=>(aO.mp i).elim (λz=>I.pin p (aZ _ z)) λz=>by
  obtain⟨c,e⟩:=a9K z;obtain⟨f,f1,f2,_⟩:=g p.1 c;obtain⟨o,a,d⟩:=h p.1 c;rw[e]at a;cases a;exact⟨e,f,f1,f2,d⟩
theorem Inv.unpinned{pins pl:List (Addr×Obj)}{σ:St}{H:Hp}{s:Shared}(I:Inv X (pins++pl) σ H s):Inv X pins σ H s:=I.pins_of λp a=>I.pin p (aZ _ (ba _ a))
theorem b6w{l:Expr}{body:List Stmt}{S:TI}{g:TG}{tb:TS}{pos:Pos}(hp:PassesOwn (model X.prog X.w) X.A X.env X.xe)(O:X.calm=true)(hi:PI X tg l S)(hg:PG X tg g)(k:PSs X body tb)
  (hs:∀x,foldedSetIterable l X.env x=pure x:=by intro _;rfl):PS X (.For tg l body [] pos) (b8f S g tb):=by
 intro pins s σ H D I h;refine wpAny_For (thn (hi pins s σ H _ I h) λv s1 h1=>thn h1 λa0 s2 h2=>?_) hs;obtain⟨it,fp,R,J,H2,e,V,T,K,f2,W,⟨m0,w0⟩,turn⟩:=h2;subst e;have p:∀{H':Hp},(∀b∈fp,H' b=none)->∀b∈fp,a1o X pins H' b:=λhn b k=>⟨hn b k,(f2 b k).2⟩;refine codeAny_forLoop_any (λn s'=>∃i σ' H',Inv X pins σ' H' s'/\R i s'.heap/\(∀b∈fp,H' b=none)/\W i n σ' H') ?_ m0 ⟨0,σ,H2,V,K,λb k=>(f2 b k).1,w0⟩;rintro n P ⟨i,σ3,B,M,z,w,w3⟩;rcases turn i n σ3 B w3 with⟨A,qn⟩|⟨go,N,hN,step⟩
 .refine dM hp (thn (T.done X rfl rfl rfl O i pins P σ3 B X.xe M (p w) z A) λr s4 ⟨F,Y⟩=>?_);subst F;exact gb ⟨σ3,B,Y,qn⟩
 .refine dM hp (thn (T.item X rfl rfl rfl O i pins P σ3 B X.xe M (p w) z go) λr s4 ⟨u,F,h4⟩=>?_);subst F;refine dM hp (thn h4 λ_ Q ⟨x,L,Z,r5,y5,t,E⟩=>?_);have C:=Z.pinned (p E) (T.obj _ _ t);refine dM hp (thn (hg _ Q σ3 L x u _ C r5 (step x L y5)) λ_ s6 ⟨σ6,U,I6,q6⟩=>?_);refine dM hp (thn (k _ s6 σ6 U _ I6 q6) λf G q=>?_);have j:∀{σ7:St}{a:Hp},Inv X (pins++a2x fp Q.heap) σ7 a G->N σ7 a->∃m,m<n/\∃i σ' H',Inv X pins σ' H' G/\R i G.heap/\(∀b∈fp,H' b=none)/\W i m σ' H':=λ{σ7 a} c y=>by
   obtain⟨m',hm,w7⟩:=hN σ7 a y;refine⟨m',hm,i+1,σ7,a,c.unpinned,T.keep _ _ _ t λb k o e=>(c.pin (b,o) (aZ _ (aZ _ (T0 k e)))).1,λb k=>?_,w7⟩;obtain⟨o,e,d⟩:=T.obj _ _ t b k;exact(c.pin (b,o) (aZ _ (aZ _ (T0 k e)))).2.1
  cases f with
  |next=>obtain⟨σ7,a,c,y⟩:=q;exact j c y
  |cont=>obtain⟨σ7,a,c,y⟩:=q;exact j c y
  |brk=>obtain⟨σ7,a,c,q⟩:=q;exact⟨σ7,a,c.unpinned,q⟩
  |ret v=>obtain⟨x7,σ7,a,c,r7,q⟩:=q;exact⟨x7,σ7,a,c.unpinned,r7,q⟩
end
theorem O7{K:PySem.W.Frag}{a:Addr}{xs:List V}{g:TG}{tb:TS}{D:Ends}{σ:St}{H:Hp}(b:Nat->St->Hp->Prop)(h0:b 0 σ H)(f:∀i σ H,i<=xs.length->b i σ H->SqL K H a xs)
  (hs:∀i x σ H,xs[i]?=some x->b i σ H->g x σ H λσ2 H2=>tb {D with nx:=b (i+1),ct:=b (i+1),bk:=D.nx} σ2 H2) (hd:∀σ H,b xs.length σ H->D.nx σ H) :
  ∃W:Nat->Nat->St->Hp->Prop,(∃m,W 0 m σ H)/\∀i m σ H,W i m σ H ->
   ((Itl K a).stop i H/\D.nx σ H)∨((Itl K a).go i H/\∃N:St->Hp->Prop,(∀σ' H',N σ' H'->∃d,d<m/\W (i+1) d σ' H')/\∀x H',(Itl K a).yld i H x H'->g x σ H' λσ2 H2=>tb {D with nx:=N,ct:=N,bk:=D.nx} σ2 H2):=by
 refine⟨λi m σ H=>m=xs.length-i/\i<=xs.length/\b i σ H,⟨xs.length,by simp,bp _,h0⟩,?_⟩;rintro i m σ H ⟨rfl,hi,p⟩;have q:=f i σ H hi p;by_cases c:i<xs.length
 .refine .inr ⟨⟨xs,xs[i],q,by simp[c]⟩,b (i+1),λσ' H' h=>⟨xs.length-(i+1),by omega,rfl,c,h⟩,λx H' y=>?_⟩;obtain⟨e,y⟩:=y;subst e;exact hs i x σ _ (y xs q) p
 .have e:i=xs.length:=by omega
  subst e;exact .inl ⟨⟨xs,q,ao _⟩,hd σ H p⟩
theorem a0K{K:PySem.W.Frag}{a:Addr}{xs:List V}{g:TG}{tb:TS}{D:Ends}{σ:St}{H:Hp}(b:Nat->St->Hp->Prop)(h0:b 0 σ H)(f:∀i σ H,i<=xs.length->b i σ H->SqT K H a xs)
  (hs:∀i x σ H,xs[i]?=some x->b i σ H->g x σ H λσ2 H2=>tb {D with nx:=b (i+1),ct:=b (i+1),bk:=D.nx} σ2 H2) (hd:∀σ H,b xs.length σ H->D.nx σ H) :
  ∃W:Nat->Nat->St->Hp->Prop,(∃m,W 0 m σ H)/\∀i m σ H,W i m σ H ->
   ((Itt K a).stop i H/\D.nx σ H)∨((Itt K a).go i H/\∃N:St->Hp->Prop,(∀σ' H',N σ' H'->∃d,d<m/\W (i+1) d σ' H')/\∀x H',(Itt K a).yld i H x H'->g x σ H' λσ2 H2=>tb {D with nx:=N,ct:=N,bk:=D.nx} σ2 H2):=by
 refine⟨λi m σ H=>m=xs.length-i/\i<=xs.length/\b i σ H,⟨xs.length,by simp,bp _,h0⟩,?_⟩;rintro i m σ H ⟨rfl,hi,p⟩;have q:=f i σ H hi p;by_cases c:i<xs.length
 .refine .inr ⟨⟨xs,xs[i],q,by simp[c]⟩,b (i+1),λσ' H' h=>⟨xs.length-(i+1),by omega,rfl,c,h⟩,λx H' y=>?_⟩;obtain⟨e,y⟩:=y;subst e;exact hs i x σ _ (y xs q) p
 .have e:i=xs.length:=by omega
  subst e;exact .inl ⟨⟨xs,q,ao _⟩,hd σ H p⟩
theorem b0e{lo:Int}{n:Nat}{g:TG}{tb:TS}{D:Ends}{σ:St}{H:Hp}(a:Nat->St->Hp->Prop)(h0:a 0 σ H)
  (hs:∀i σ H,i<n->a i σ H->g (.int (lo+i)) σ H λσ2 H2=>tb {D with nx:=a (i+1),ct:=a (i+1),bk:=D.nx} σ2 H2) (hd:∀σ H,a n σ H->D.nx σ H) :
  ∃W:Nat->Nat->St->Hp->Prop,(∃m,W 0 m σ H)/\∀i m σ H,W i m σ H ->
   ((Itr lo n).stop i H/\D.nx σ H)∨((Itr lo n).go i H/\∃N:St->Hp->Prop,(∀σ' H',N σ' H'->∃c,c<m/\W (i+1) c σ' H')/\∀x H',(Itr lo n).yld i H x H'->g x σ H' λσ2 H2=>tb {D with nx:=N,ct:=N,bk:=D.nx} σ2 H2):=by
 refine⟨λi m σ H=>m=n-i/\i<=n/\a i σ H,⟨n,by simp,bp _,h0⟩,?_⟩;rintro i m σ H ⟨rfl,hi,p⟩;by_cases b:i<n
 .refine .inr ⟨b,a (i+1),λσ' H' d=>⟨n-(i+1),by omega,rfl,b,d⟩,λx H' y=>?_⟩;obtain⟨e,y⟩:=y;subst e y;exact hs i σ _ b p
 .have e:i=n:=by omega
  subst e;exact .inl ⟨ao _,hd σ H p⟩
abbrev R2:=V->V->Hp->VK->Prop
def OpR(X:Cx)(f:Value->Value->Sem Value)(r:R2):Prop :=
 ∀(pins:List (Addr×Obj)) (s:Shared) (σ:St) (H:Hp) (x y:V) (v u:Value) (Q:VK),Inv X pins σ H s->RelV x v->RelV y u->r x y H Q ->
  wpAny (model X.prog X.w) X.A (f v u) (EP X pins σ Q) X.xe s
def UnR(X:Cx)(f:Value->Sem Value)(r:V->Hp->VK->Prop):Prop :=
 ∀(pins:List (Addr×Obj)) (s:Shared) (σ:St) (H:Hp) (x:V) (v:Value) (Q:VK),Inv X pins σ H s->RelV x v->r x H Q ->
  wpAny (model X.prog X.w) X.A (f v) (EP X pins σ Q) X.xe s
def E2(X:Cx)(f:Value)(r:List V->Hp->VK->Prop):Prop :=
 ∀(pins:List (Addr×Obj)) (s:Shared) (σ:St) (H:Hp) (xs:List V) (us:List Value) (Q:VK),Inv X pins σ H s->Vals xs us->r xs H Q ->
  wpAny (model X.prog X.w) X.A (call f us) (EP X pins σ Q) X.xe s
def b9f(X:Cx)(r:V->Hp->(Bool->Hp->Prop)->Prop):Prop :=
 ∀(pins:List (Addr×Obj)) (s:Shared) (σ:St) (H:Hp) (x:V) (v:Value) (Q:Bool->Hp->Prop),Inv X pins σ H s->RelV x v->r x H Q ->
  wpAny (model X.prog X.w) X.A (truthy v) (TP X pins σ Q) X.xe s
def tOp(r:R2)(ta tb:TE):TE:=λσ H Q=>ta σ H λx H1=>tb σ H1 λy H2=>r x y H2 Q
def tUn(r:V->Hp->VK->Prop)(ta:TE):TE:=λσ H Q=>ta σ H λx H1=>r x H1 Q
def rI(C:Int->Int->Prop)(g:Int->Int->V):R2:=λx y H Q=>∃i j,x=.int i/\y=.int j/\C i j/\Q (g i j) H
def rI0(g:Int->Int->V):R2:=λx y H Q=>∃i j,x=.int i/\y=.int j/\Q (g i j) H
def rU(g:Int->V):V->Hp->VK->Prop:=λx H Q=>∃i,x=.int i/\Q (g i) H
section
variable {X:Cx}{a b c:Expr}{ta tb tc:TE}{pos:Pos}
theorem b7E(e:PE X a ta)(g:PE X b tb){pins:List (Addr×Obj)}{s:Shared}{σ:St}{H:Hp}{R:V->V->Hp->Prop}(I:Inv X pins σ H s)
  (h:ta σ H λx H1=>tb σ H1 λy H2=>R x y H2) {Q:Value->Shared->Prop}{f:Value->Value->Sem Value}
  (i:∀v u s2 x y H2,Inv X pins σ H2 s2->RelV x v->RelV y u->R x y H2->wpAny (model X.prog X.w) X.A (f v u) Q X.xe s2) :
  wpAny (model X.prog X.w) X.A (eval a X.env) (λv s₁=>wpAny (model X.prog X.w) X.A (eval b X.env) (λu s₂=>wpAny (model X.prog X.w) X.A (f v u) Q X.xe s₂) X.xe s₁) X.xe s:=by
 refine thn (e pins s σ H _ I h) λv s1 ⟨x,H1,c,l,j⟩=>?_;refine thn (g pins s1 σ H1 _ c j) λu s2 ⟨y,H2,d,m,k⟩=>?_;exact i v u s2 x y H2 d l m k
theorem V8{op:Operator}{r:R2}(f:OpR X (binaryOp op) r)(d:PE X a ta)(e:PE X b tb):PE X (.BinOp a op b pos) (tOp r ta tb):=by
 intro pins s σ H Q I h;exact wpAny_BinOp (b7E d e I h λv u s2 x y H2 c g i q=>f pins s2 σ H2 x y v u Q c g i q)
theorem b8t{op:UnaryOp}{r:V->Hp->VK->Prop}(d:UnR X (unaryOp op) r)(c:PE X a ta):PE X (.UnaryOp op a pos) (tUn r ta):=by
 intro pins s σ H Q I h;exact UnaryOp_ (thn (c pins s σ H _ I h) λv s1 ⟨x,H1,b,f,e⟩=>d pins s1 σ H1 x v Q b f e)
theorem opI{f:Value->Value->Sem Value}{C:Int->Int->Prop}{g:Int->Int->Int}
  (a:∀(i j:Int) (t u:Tok) (s:Shared) (Q:Value->Shared->Prop) (E:Value->Shared->Prop),C i j->Q (.int (g i j) s.toks) {s with toks:=s.toks+1}->wpAny (model X.prog X.w) X.A (f (.int i t) (.int j u)) Q E s) :
  OpR X f (rI C λi j=>.int (g i j)):=by
 intro pins s σ H x y v u Q I c d h;obtain⟨i,j,rfl,rfl,b,q⟩:=h;obtain⟨t,rfl⟩:=c;obtain⟨t',rfl⟩:=d;exact a i j t t' s _ _ b ⟨.int (g i j),H,I.tok _,⟨_,rfl⟩,q⟩
theorem b8C{f:Value->Value->Sem Value}{g:Int->Int->Int}
  (a:∀(i j:Int) (t u:Tok) (s:Shared) (Q:Value->Shared->Prop) (E:Value->Shared->Prop),Q (.int (g i j) s.toks) {s with toks:=s.toks+1}->wpAny (model X.prog X.w) X.A (f (.int i t) (.int j u)) Q E s) :
  OpR X f (rI0 λi j=>.int (g i j)):=by
 intro pins s σ H x y v u Q I b c h;obtain⟨i,j,rfl,rfl,q⟩:=h;obtain⟨t,rfl⟩:=b;obtain⟨t',rfl⟩:=c;exact a i j t t' s _ _ ⟨.int (g i j),H,I.tok _,⟨_,rfl⟩,q⟩
theorem b4D{f:Value->Value->Sem Value}{g:Int->Int->Bool}
  (a:∀(i j:Int) (t u:Tok) (s:Shared) (Q:Value->Shared->Prop) (E:Value->Shared->Prop),Q (.bool (g i j)) s->wpAny (model X.prog X.w) X.A (f (.int i t) (.int j u)) Q E s) :
  OpR X f (rI0 λi j=>.bl (g i j)):=by
 intro pins s σ H x y v u Q I b c h;obtain⟨i,j,rfl,rfl,q⟩:=h;obtain⟨t,rfl⟩:=b;obtain⟨t',rfl⟩:=c;exact a i j t t' s _ _ ⟨.bl (g i j),H,I,rfl,q⟩
def b8R(i j:Int):Prop:=0<j/\j<1073741824
def b8Q(i j:Int):Prop:=0<=j/\j<=1000000/\i.natAbs<2 ^ 64
def CMul(i j:Int):Prop:=(-(2 ^ 64)<i/\i<2 ^ 64)∨(-(2 ^ 64)<j/\j<2 ^ 64)
theorem CMul.ok{i j:Int}(h:CMul i j):IntMulOk i j:=by
 rcases h with⟨h1,h2⟩|⟨h1,h2⟩
 .exact .of_left (intBits_le_64 h1 h2)
 .exact .of_right (intBits_le_64 h1 h2)
theorem b6Z:OpR X (binaryOp .Add) (rI0 λi j=>.int (i+j)):=b8C λ_ _ _ _ _ _ _ q=>add_int q
theorem b6S:OpR X (binaryOp .Sub) (rI0 λi j=>.int (i-j)):=b8C λ_ _ _ _ _ _ _ q=>sub_int q
theorem b6X:OpR X (binaryOp .Mult) (rI CMul λi j=>.int (i*j)):=opI λ_ _ _ _ _ _ _ a q=>mul_int q a.ok
theorem b4B:OpR X (binaryOp .FloorDiv) (rI b8R λi j=>.int (i / j)):=opI λi j _ _ _ _ _ a q=>by
 have h1:(0:Int)<j:=a.1;have h2:j<1073741824:=a.2;exact floordiv_int (by omega) (by rw[Int.fdiv_eq_ediv_of_nonneg i (by omega)];exact q) (.inl (PyProof.noPylong_small (by omega)))
theorem b6Y:OpR X (binaryOp .Mod) (rI (λ_ j=>0<j) λi j=>.int (i % j)):=opI λi j _ _ _ _ _ a q=>by
 have h1:(0:Int)<j:=a;exact mod_int' (by omega) (by rw[Int.fmod_eq_emod_of_nonneg i (by omega)];exact q)
theorem b6U:OpR X (binaryOp .Pow) (rI b8Q λi j=>.int (i ^ j.toNat)):=opI λ_ _ _ _ _ _ _ a q=>pow_int_small a.1 a.2.1 a.2.2 q
theorem unI{f:Value->Sem Value}{g:Int->Int}
  (a:∀(i:Int) (t:Tok) (s:Shared) (Q:Value->Shared->Prop) (E:Value->Shared->Prop),Q (.int (g i) s.toks) {s with toks:=s.toks+1}->wpAny (model X.prog X.w) X.A (f (.int i t)) Q E s) :
  UnR X f (rU λi=>.int (g i)):=by
 intro pins s σ H x v Q I b h;obtain⟨i,rfl,q⟩:=h;obtain⟨t,rfl⟩:=b;exact a i t s _ _ ⟨.int (g i),H,I.tok _,⟨_,rfl⟩,q⟩
theorem b5Z:UnR X (unaryOp .USub) (rU λi=>.int (-i)):=unI λ_ _ _ _ _ q=>neg_int q
end
noncomputable def b8k:V->V->Bool
 |.non,.non=>true | .non,.int _=>true | .int _,.non=>true | .non,.bl _=>true | .bl _,.non=>true | .non,.str _=>true | .str _,.non=>true
 |.int _,.int _=>true | .bl _,.bl _=>true | .str _,.str _=>true | .byt _,.byt _=>true
 |.int _,.str _=>true | .str _,.int _=>true | .bl _,.str _=>true | .str _,.bl _=>true
 |_,_=>false
def rEq:R2:=λx y H Q=>b8k x y=true/\Q (.bl (decide (x=y))) H
def rNe:R2:=λx y H Q=>b8k x y=true/\Q (.bl (!decide (x=y))) H
theorem a8U{i j:Int}:decide (V.int i=V.int j)=(i==j):=by
 rw[cY];simp
theorem b3i{i j:Bool}:decide (V.bl i=V.bl j)=(i==j):=by
 rw[cY];simp
theorem a8T{i j:Str}:decide (V.str i=V.str j)=(i==j):=by
 rw[cY];simp
theorem a8V{i j:Array UInt8}:decide (V.byt i=V.byt j)=(i.toList==j.toList):=by
 rw[cY];cases i;cases j;simp
section
variable {X:Cx}{a b c:Expr}{ta tb tc:TE}{pos:Pos}
theorem B8{pins:List (Addr×Obj)}{σ:St}{H:Hp}{s:Shared}{Q:VK}{k a:Bool}(I:Inv X pins σ H s)(q:Q (.bl k) H)(e:k=a):EP X pins σ Q (.bool a) s:=by
 subst e;exact⟨.bl k,H,I,rfl,q⟩
theorem b5Q:OpR X (compareOp .Eq) rEq:=by
 intro pins s σ H x y v u Q I b a h;obtain⟨hs,q⟩:=h;cases x with
 |non =>
  cases b;cases y with
  |non=>cases a;exact PySem.EqNone.eq_none_none (B8 I q (by simp))
  |bl j=>cases a;exact PySem.EqNone.eq_none_bool (B8 I q (by simp))
  |int j=>obtain⟨t',rfl⟩:=a;exact PySem.EqNone.eq_none_int (B8 I q (by simp))
  |str j=>obtain⟨t',rfl⟩:=a;exact PySem.EqNone.eq_none_str (B8 I q (by simp))
  |_=>exact absurd (show false=true from hs) aS
 |bl i =>
  cases b;cases y with
  |non=>cases a;exact PySem.EqNone.eq_bool_none (B8 I q (by simp))
  |bl j=>cases a;exact eq_bool (B8 I q b3i)
  |str j=>obtain⟨t',rfl⟩:=a;exact PySem.EqMixed.eq_bool_str (B8 I q (by simp))
  |_=>exact absurd (show false=true from hs) aS
 |int i =>
  obtain⟨t,rfl⟩:=b;cases y with
  |non=>cases a;exact PySem.EqNone.eq_int_none (B8 I q (by simp))
  |int j=>obtain⟨t',rfl⟩:=a;exact eq_int (B8 I q a8U)
  |str j=>obtain⟨t',rfl⟩:=a;exact PySem.EqMixed.eq_int_str (B8 I q (by simp))
  |_=>exact absurd (show false=true from hs) aS
 |str i =>
  obtain⟨t,rfl⟩:=b;cases y with
  |non=>cases a;exact PySem.EqNone.eq_str_none (B8 I q (by simp))
  |bl j=>cases a;exact PySem.EqMixed.eq_str_bool (B8 I q (by simp))
  |int j=>obtain⟨t',rfl⟩:=a;exact PySem.EqMixed.eq_str_int (B8 I q (by simp))
  |str j=>obtain⟨t',rfl⟩:=a;exact eq_str (B8 I q a8T)
  |_=>exact absurd (show false=true from hs) aS
 |byt i =>
  obtain⟨t,rfl⟩:=b;cases y with
  |byt j=>obtain⟨t',rfl⟩:=a;exact PySem.W.eq_bytes (B8 I q a8V)
  |_=>exact absurd (show false=true from hs) aS
 |_=>cases y<;>exact absurd (show false=true from hs) aS
theorem b8y:OpR X (compareOp .NotEq) rNe:=by
 intro pins s σ H x y v u Q I b a h;obtain⟨hs,q⟩:=h;cases x with
 |non =>
  cases b;cases y with
  |non=>cases a;exact PySem.EqNone.ne_none_none (B8 I q (by simp))
  |bl j=>cases a;exact PySem.EqNone.ne_none_bool (B8 I q (by simp))
  |int j=>obtain⟨t',rfl⟩:=a;exact PySem.EqNone.ne_none_int (B8 I q (by simp))
  |str j=>obtain⟨t',rfl⟩:=a;exact PySem.EqNone.ne_none_str (B8 I q (by simp))
  |_=>exact absurd (show false=true from hs) aS
 |bl i =>
  cases b;cases y with
  |non=>cases a;exact PySem.EqNone.ne_bool_none (B8 I q (by simp))
  |bl j=>cases a;exact ne_bool (B8 I q (aL not b3i))
  |str j=>obtain⟨t',rfl⟩:=a;exact PySem.EqMixed.ne_bool_str (B8 I q (by simp))
  |_=>exact absurd (show false=true from hs) aS
 |int i =>
  obtain⟨t,rfl⟩:=b;cases y with
  |non=>cases a;exact PySem.EqNone.ne_int_none (B8 I q (by simp))
  |int j=>obtain⟨t',rfl⟩:=a;exact ne_int (B8 I q (aL not a8U))
  |str j=>obtain⟨t',rfl⟩:=a;exact PySem.EqMixed.ne_int_str (B8 I q (by simp))
  |_=>exact absurd (show false=true from hs) aS
 |str i =>
  obtain⟨t,rfl⟩:=b;cases y with
  |non=>cases a;exact PySem.EqNone.ne_str_none (B8 I q (by simp))
  |bl j=>cases a;exact PySem.EqMixed.ne_str_bool (B8 I q (by simp))
  |int j=>obtain⟨t',rfl⟩:=a;exact PySem.EqMixed.ne_str_int (B8 I q (by simp))
  |str j=>obtain⟨t',rfl⟩:=a;exact ne_str (B8 I q (aL not a8T))
  |_=>exact absurd (show false=true from hs) aS
 |byt i =>
  obtain⟨t,rfl⟩:=b;cases y with
  |byt j=>obtain⟨t',rfl⟩:=a;exact PySem.W.ne_bytes (B8 I q (aL not a8V))
  |_=>exact absurd (show false=true from hs) aS
 |_=>cases y<;>exact absurd (show false=true from hs) aS
theorem b5P:OpR X (compareOp .Lt) (rI0 λi j=>.bl (decide (i<j))):=b4D λ_ _ _ _ _ _ _ q=>lt_int q
theorem b8z:OpR X (compareOp .LtE) (rI0 λi j=>.bl (decide (i<=j))):=b4D λ_ _ _ _ _ _ _ q=>le_int q
theorem b8A:OpR X (compareOp .Gt) (rI0 λi j=>.bl (decide (j<i))):=b4D λ_ _ _ _ _ _ _ q=>gt_int q
theorem b8B:OpR X (compareOp .GtE) (rI0 λi j=>.bl (decide (j<=i))):=b4D λ_ _ _ _ _ _ _ q=>ge_int q
theorem b1X:OpR X (compareOp .Is) (λx y H Q=>y=.non/\Q (.bl (decide (x=.non))) H):=by
 intro pins s σ H x y v u Q I a b h;obtain⟨rfl,q⟩:=h;cases b;refine is_none_gen (B8 I q ?_);cases x<;>first
  |(cases a;rfl)
  |(obtain⟨t,rfl⟩:=a;rfl)
theorem b4A:OpR X (compareOp .IsNot) (λx y H Q=>y=.non/\Q (.bl (!decide (x=.non))) H):=by
 intro pins s σ H x y v u Q I a b h;obtain⟨rfl,q⟩:=h;cases b;refine isnot_none_gen (B8 I q ?_);cases x<;>first
  |(cases a;rfl)
  |(obtain⟨t,rfl⟩:=a;rfl)
theorem M5(b:Expr){op:CmpOp}(h:op≠.In:=by decide)(h2:op≠.NotIn:=by decide):behindInMarks op b=false:=by
 have a:(op==CmpOp.In)=false:=by cases op<;>first|rfl|exact absurd rfl h
 have c:(op==CmpOp.NotIn)=false:=by cases op<;>first|rfl|exact absurd rfl h2
 cases b with
 |Set elts k p=>show(k==0 && (op==CmpOp.In || op==CmpOp.NotIn) && elts.all (constantsAlone 8))=false;rw[a,c,Bool.or_false,fH,Bool.false_and]
 |_=>rfl
theorem a1X{op:CmpOp}{r:R2}(g:OpR X (compareOp op) r)(d:PE X a ta)(e:PE X b tb)(f:behindInMarks op b=false):PE X (.Compare a [op] [b] pos) (tOp r ta tb):=by
 intro pins s σ H Q I h;exact wpAny_Compare1 (b7E d e I h λv u s2 x y H2 c i j q=>g pins s2 σ H2 x y v u Q c i j q) f
def V4(t:TE):TT:=λσ H Q=>t σ H λx H'=>∃k,x=.bl k/\Q k H'
theorem N4{op:CmpOp}{r:R2}(n:OpR X (compareOp op) r)(j:PE X a ta)(l:PE X b tb)(m:behindInMarks op b=false):PT X (.Compare a [op] [b] pos) (V4 (tOp r ta tb)):=by
 intro pins s σ H Q I h;refine wpAny_isTrue_Compare1 (thn (j pins s σ H _ I h) λv s1 ⟨x,H1,f,t,o⟩=>thn (l pins s1 σ H1 _ f o) λu s2 ⟨y,H2,g,w,p⟩ =>
  thn (n pins s2 σ H2 x y v u _ g t w p) λc B ⟨z,d,i,A,k,e,q⟩=>?_) m
 subst e;cases A;exact cW ⟨d,i,q⟩
def b7Q(K:PySem.W.Frag)(x:V)(H:Hp)(k:Bool):Prop :=
 match x with
 |.non=>k=false
 |.bl b=>k=b
 |.int i=>k=(i != 0)
 |.str y=>y.length<=sizeLine/\k=((y.length:Int) != 0)
 |.byt y=>y.size<=sizeLine/\k=((y.size:Int) != 0)
 |.ref p=>(∃xs,SqL K H p xs/\k=!xs.isEmpty)∨(∃xs,SqT K H p xs/\k=!xs.isEmpty)∨∃kvs,H p=some (.dK kvs)/\k=!kvs.isEmpty
 |_=>False
theorem a7l{κ:Type}{kvs:List (κ×V)}{vs:List (κ×Value)}(r:KV kvs vs):(!vs.isEmpty)=!kvs.isEmpty:=by
 cases r<;>rfl
theorem a2W{xs:List V}{its:List Value}(r:Vals xs its):(!its.toArray.isEmpty)=!xs.isEmpty:=by
 cases r<;>simp
theorem a2K:(sizeLine:Nat)<2 ^ 63:=by rw[a_];decide
theorem b6b:b9f X (λx H Q=>∃k,b7Q X.K x H k/\Q k H):=by
 intro pins s σ H x v Q I d h;obtain⟨k,e,q⟩:=h;have o:=a2K;have hs:sizeLine=16777216:=a_;cases x with
 |non =>
  cases d;have a:k=false:=e;subst a;exact truthy_none ⟨H,I,q⟩
 |bl b =>
  cases d;have a:k=b:=e;subst a;exact cW ⟨H,I,q⟩
 |int i =>
  obtain⟨t,rfl⟩:=d;have a:k=(i != 0):=e;subst a;exact PySem.P.truthy_int ⟨H,I,q⟩
 |str y =>
  obtain⟨t,rfl⟩:=d;obtain⟨n,a⟩:y.length<=sizeLine/\k=((y.length:Int) != 0):=e;subst a;exact PySem.P.truthy_str (by omega) ⟨H,I.tok _,q⟩
 |byt y =>
  obtain⟨t,rfl⟩:=d;obtain⟨n,a⟩:y.size<=sizeLine/\k=((y.size:Int) != 0):=e;subst a;exact PySem.W.truthy_bytes (by omega) ⟨H,I.tok _,q⟩
 |ref p =>
  cases d;have a:(∃xs,SqL X.K H p xs/\k=!xs.isEmpty)∨(∃xs,SqT X.K H p xs/\k=!xs.isEmpty)∨∃kvs,H p=some (.dK kvs)/\k=!kvs.isEmpty:=e;rcases a with⟨xs,f,a⟩|⟨xs,f,a⟩|⟨kvs,f,a⟩
  .subst a;obtain⟨its,r,g,j⟩:=I.list f;have c:=r.length;exact wpAny_truthy_list g.isList (by simp only[aB];omega) ⟨H,I.tok _,by rw[a2W r];exact q⟩
  .subst a;obtain⟨its,r,g,j⟩:=I.tuple f;have c:=r.length;exact truthy_tuple g (by simp only[aB];omega) ⟨H,I.tok _,by rw[a2W r];exact q⟩
  .subst a;obtain⟨j,l,vs,r,m⟩:kvs.length<=sizeLine/\(p==sysModules)=false/\∃vs,KV kvs vs/\s.heap.DictOf (E3 X.prog X.w) p vs:=I.hok p _ f;have c:kvs.length=vs.length:=Paired.length r;exact wpAny_truthy_dict l m (by omega) ⟨H,I.tok _,by rw[a7l r];exact q⟩
 |_=>exact(show False from e).elim
theorem b1D(d:PE X a ta)(e:∀b,isTrue a X.env b=(do let v <-b;standAt a.pos;holding [v] (truthy v))) :
  PT X a (λσ H Q=>ta σ H λx H'=>∃k,b7Q X.K x H' k/\Q k H'):=by
 intro pins s σ H Q I h;exact isTrue_plain (thn (d pins s σ H _ I h) λv s1 ⟨x,H1,c,g,f⟩=>b6b pins s1 σ H1 x v Q c g f) (e _)
theorem a3A{x:V}{us:List Value}(r:Vals [x] us):∃u,us=[u]/\RelV x u:=by
 cases r with
 |cons r1 r2=>cases r2;exact⟨_,rfl,r1⟩
theorem b7X{x y:V}{us:List Value}(r:Vals [x,y] us):∃u a,us=[u,a]/\RelV x u/\RelV y a:=by
 cases r with
 |cons r1 r2 =>
  cases r2 with
  |cons r3 r4=>cases r4;exact⟨_,_,rfl,r1,r3⟩
theorem b0v:E2 X (.type "int") (λxs H Q=>(∃i,xs=[.int i]/\Q (.int i) H)∨∃k,xs=[.bl k]/\Q (.int (if k then 1 else 0)) H):=by
 intro pins s σ H xs a Q I r h;rcases h with⟨i,rfl,q⟩|⟨k,rfl,q⟩
 .obtain⟨u,rfl,t,rfl⟩:=a3A r;exact call_int_int ⟨.int i,H,I,⟨_,rfl⟩,q⟩
 .obtain⟨u,rfl,r1⟩:=a3A r;cases r1;exact call_int_bool ⟨.int (if k then 1 else 0),H,I.tok _,⟨_,rfl⟩,q⟩
end
structure ObjM(h:Heap)(x dx C:Addr)(mA:Str->Option Value):Prop where
 obj:h.get? x=some (PySem.W.instObj C dx)
 ns:h.Ns1 dx mA
 ne:dx≠x
theorem a9P{h:Heap}{dx:Addr}{mA:Str->Option Value}(n:h.Ns1 dx mA):∃od,h.get? dx=some od/\∀name,PySem.W.lookIn name od=some (mA name):=by
 obtain⟨o,es,ep,g,hd,d,_,f⟩:=n;refine⟨o,g,λname=>?_⟩;have e:=f name;unfold nsFind findBy at e;rw[<-Array.find?_toList]at e;unfold PySem.W.lookIn;rw[hd];dsimp only;split
 .rename_i y q;rw[q]at e;exact aL some e
 .rename_i q;rw[q]at e;have a:es.toList.any (·.refKey)=false:=by
   rw[List.any_eq_false];intro y i;obtain⟨z,t,b⟩:=d y (eZ.mp i);simp[DictEntry.refKey,b]
  have c:¬es.toList.any (·.refKey)=true:=by rw[a];exact aS
  rw[aq c];exact aL some e
theorem ObjM.look{h:Heap}{x dx C:Addr}{mA:Str->Option Value}(I:ObjM h x dx C mA):∃od,PySem.W.InstAt h x (PySem.W.instObj C dx) C (some od)/\∀name,PySem.W.lookIn name od=some (mA name) :=
 let ⟨od,ho,hl⟩:=a9P I.ns
 ⟨od,⟨I.obj,rfl,rfl,ho⟩,hl⟩
section
variable {prog:Program}{w:World}{A:Around}{E:Value->Shared->Prop}{s:Shared}{K:PySem.W.Frag}{x dx C f:Addr}{mA:Str->Option Value}{name:Str}{v:Value}
theorem b5c{a:Bool}{Q:Value->Shared->Prop}(X:K.In s.heap)(I:ObjM s.heap x dx C mA)(d:PySem.W.plainGet K C name=true)(e:PySem.W.hasDictIn K C=true)
  (c:PySem.W.findIn K (.ref C) name=some none) (g:mA name=some v) (b:PySem.W.handedIn v=true) (h:Q v {s with toks:=s.toks+1}) :
  wpAny (model prog w) A (getAttr (.ref x) name a) Q E s:=by
 obtain⟨od,J,f⟩:=I.look;exact PySem.W.get_value X J (PySem.W.plainGet_of d).1 (PySem.W.findObj_own e c rfl (by rw[f,g])) b h
theorem b2Y{pl:Sem Bool}{Q:Value×List Value->Shared->Prop}(X:K.In s.heap)(I:ObjM s.heap x dx C mA)(a:PySem.W.plainGet K C name=true)
  (b:PySem.W.findIn K (.ref C) name=some (some (.ref f))) (d:PySem.W.isFn K (.ref f)=true) (e:mA name=none) (h:Q (.ref f,[.ref x]) s) :
  wpAny (model prog w) A (getMethod (.ref x) name pl) Q E s:=by
 obtain⟨od,J,c⟩:=I.look;exact PySem.W.method_fn X J (PySem.W.plainGet_of a).1 (PySem.W.plainGet_of a).2 b (bg.mp d) (by show(PySem.W.lookIn name od).map (·.isSome)=some false;rw[c,e];rfl) h
theorem b3R{ns:List Str}{Q:Unit->Shared->Prop}(X:K.In s.heap)(I:ObjM s.heap x dx C mA)
  (hs:PySem.W.findIn K (.ref C) "__setattr__"=some (some (.builtin "object.__setattr__"))) (hp:PySem.W.plainOver K C=true) (n:PySem.W.takerIn K C name=some none) (m:PySem.W.hasDictIn K C=true)
  (hw:PySem.Within mA ns) (hsz:ns.length<=sizeLine)
  (h:∀h',ObjM h' x dx C (λy=>if y=name then some v else mA y)->Heap.SameBut dx s.heap h'->Q () {s with heap:=h',toks:=s.toks+2}) :
  wpAny (model prog w) A (setAttr (.ref x) name v) Q E s:=by
 obtain⟨od,J,p⟩:=I.look;refine PySem.W.set_plain X J hs (PySem.W.osa_open (s:={s with toks:=s.toks+1}) (r:=none) X J hp n λb=>?_);obtain⟨cd,l,f⟩:=PySem.W.any_some m;have o:s.heap.get? x=some ⟨.ref C,some dx,.plain,#[]⟩:=I.obj;refine aa (ae (aa (aa (wpAny_loadPart o (aa (PySem.W.Looks.here (s:={s with toks:=s.toks+1}) (PySem.W.looks_clsIn X l) ?_))))));rw[f];refine ae (a:=some dx) (aa (ae (aa ?_)));refine wpAny_nsSet1 (s:={s with toks:=s.toks+1}) I.ns λh' c d=>?_;obtain⟨q,k,j,i,g,e⟩:=c.count (PySem.Within.cons name v hw);refine aa (wpAny_lookBehind i (by rw[g];exact pastItsLine_dict (bf e (by rw[aN];omega))) ?_);exact ae (h _ ⟨(d.2 _ (dJ I.ne)).trans I.obj,c,I.ne⟩ d)
theorem b2q{R:Result->Shared->Prop}{vs:List Value}{kw:List (Str×Value)}(X:K.In s.heap)(b:PySem.W.makesIn K C=true)
  (hi:PySem.W.findIn K (.ref C) "__init__"=some (some (.ref f))) (a:PySem.W.typeIn K (.ref f)=some (.type "function"))
  (h:codeAny (model prog w) (A.under (.builtin "type.__call__" ⟨.ref C::vs,kw⟩)) (.call (.ref f) ⟨.ref (s.heap.objs.size+1)::vs,kw⟩) (PySem.W.InitBack (s.heap.objs.size+1) R)
   {s with heap:=(s.heap.push PySem.W.emptyDict).push (PySem.W.instObj C s.heap.objs.size)}) :
  codeAny (model prog w) A (.call (.ref C) ⟨vs,kw⟩) R s:=by
 obtain⟨c,g,d,t,os⟩:=s;exact PySem.W.make_core (PySem.W.makes_of X b) (PySem.W.looks_findIn X hi) (λself=>PySem.W.bind_fn X self a) (.inl rfl) h
end
noncomputable def K8(f:Str)(v:V):List (Str×V)->List (Str×V)
 |[]=>[(f,v)]
 |(g,x)::r=>if g=f then(g,v)::r else(g,x)::K8 f v r
theorem a1v(f g:Str)(v:V):∀fs:List (Str×V),(K8 f v fs).lookup g=if g=f then some v else fs.lookup g
 |[]=>by
  show List.lookup g [(f,v)]=_;by_cases h:g=f
  .have hb:(g==f)=true:=bg.mpr h;simp only[List.lookup,hb,az h]
  .have hb:(g==f)=false:=cZ.mpr h;simp only[List.lookup,hb,aq h]
 |(k,x)::r=>by
  have b:=a1v f g v r;rw[show K8 f v ((k,x)::r)=(if k=f then(k,v)::r else(k,x)::K8 f v r)from rfl];by_cases a:k=f
  .rw[az a];by_cases h:g=k
   .have hb:(g==k)=true:=bg.mpr h;simp only[List.lookup,hb,az (h.trans a)]
   .have hb:(g==k)=false:=cZ.mpr h;simp only[List.lookup,hb,aq (λe:g=f=>h (e.trans a.symm))]
  .rw[aq a];by_cases h:g=k
   .have hb:(g==k)=true:=bg.mpr h;simp only[List.lookup,hb,aq (λe:g=f=>a (h.symm.trans e))]
   .have hb:(g==k)=false:=cZ.mpr h;simp only[List.lookup,hb];exact b
theorem a1c(f:Str)(v:V):∀fs:List (Str×V),f∈(K8 f v fs).map (·.1)/\∀g,g∈fs.map (·.1)->g∈(K8 f v fs).map (·.1)
 |[]=>⟨by simp[K8],λg h=>by simp at h⟩
 |(k,x)::r=>by
  obtain⟨b,c⟩:=a1c f v r;rw[show K8 f v ((k,x)::r)=(if k=f then(k,v)::r else(k,x)::K8 f v r)from rfl];by_cases a:k=f
  .rw[az a];subst a;exact⟨by simp,λg h=>by simpa using h⟩
  .rw[aq a];refine⟨?_,λg h=>?_⟩
   .rw[aP];exact ar _ b
   .rw[aP]at h⊢;rcases aE.mp h with e|e
    .exact aE.mpr (.inl e)
    .exact ar _ (c g e)
theorem a1w(f:Str)(v:V):∀fs:List (Str×V),(K8 f v fs).length<=fs.length+1
 |[]=>by simp[K8]
 |(k,x)::r=>by
  have b:=a1w f v r;rw[show K8 f v ((k,x)::r)=(if k=f then(k,v)::r else(k,x)::K8 f v r)from rfl];by_cases a:k=f
  .rw[az a,aN,aN];omega
  .rw[aq a,aN,aN];omega
theorem RelO.some_of{v:V}{o:Option Value}(r:RelO (some v) o):∃u,o=some u/\RelV v u:=by
 cases o with
 |none=>exact(show False from r).elim
 |some u=>exact⟨u,rfl,r⟩
theorem RelO.none_of{o:Option Value}(r:RelO none o):o=none:=by
 cases o with
 |none=>rfl
 |some u=>exact(show False from r).elim
theorem b0c{v:V}{u:Value}(r:RelV v u):PySem.W.handedIn u=true:=by
 cases v with
 |non=>cases(show u=Value.none from r);rfl
 |bl b=>cases(show u=Value.bool b from r);rfl
 |int i=>obtain⟨t,e⟩:=(show ∃t,u=Value.int i t from r);cases e;rfl
 |str x=>obtain⟨t,e⟩:=(show ∃t,u=Value.str x t from r);cases e;rfl
 |byt b=>obtain⟨t,e⟩:=(show ∃t,u=Value.bytes b t from r);cases e;rfl
 |flt b=>obtain⟨t,e⟩:=(show ∃t,u=Value.float b t from r);cases e;rfl
 |ref a=>cases(show u=Value.ref a from r);rfl
 |ty n=>cases(show u=Value.type n from r);rfl
section
variable {P:Program}{w:World}{H H':Hp}{h h':Heap}{a C dx:Addr}{fs fs':List (Str×V)}
theorem a2b(b:HOk P w H h)(e:H a=some (.ins C dx fs)):∃mA,ObjM h a dx C mA/\(∀f,RelO (fs.lookup f) (mA f))/\PySem.Within mA (fs.map (·.1))/\fs.length<=1000/\H dx=some (.own a):=by
 obtain⟨d,z,ne,c,mA,n,r,q⟩:=(show ObjOk P w H h a (.ins C dx fs)from b a _ e);exact⟨mA,⟨c,n,ne⟩,r,q,z,d⟩
end
structure Cls(K:PySem.W.Frag)(C:Addr):Prop where
 pg:PySem.W.plainGet K C Str.empty=true
 hd:PySem.W.hasDictIn K C=true
 po:PySem.W.plainOver K C=true
 sa:PySem.W.findIn K (.ref C) "__setattr__"=some (some (.builtin "object.__setattr__"))
theorem Cls.get{K:PySem.W.Frag}{C:Addr}(c:Cls K C)(f:Str):PySem.W.plainGet K C f=true:=c.pg
def NoAttr(K:PySem.W.Frag)(C:Addr)(f:Str):Prop:=PySem.W.findIn K (.ref C) f=some none
theorem NoAttr.taker{K:PySem.W.Frag}{C:Addr}{f:Str}(n:NoAttr K C f):PySem.W.takerIn K C f=some none:=by
 unfold PySem.W.takerIn;rw[show PySem.W.findIn K (.ref C) f=some none from n];rfl
structure Meth(K:PySem.W.Frag)(C:Addr)(m:Str)(f:Addr):Prop where
 at_:PySem.W.findIn K (.ref C) m=some (some (.ref f))
 fn:PySem.W.isFn K (.ref f)=true
 kp:PySem.W.keepIn K (.ref f)=true
section
variable {X:Cx}{pins:List (Addr×Obj)}{σ:St}{H:Hp}{s:Shared}{a C dx:Addr}{fs:List (Str×V)}{f:Str}{v:V}{A:Around}{E:Value->Shared->Prop}
theorem a7m{b:Bool}{Q:Value->Shared->Prop}(I:Inv X pins σ H s)(e:H a=some (.ins C dx fs))(c:Cls X.K C)(n:NoAttr X.K C f)(l:fs.lookup f=some v)
  (h:∀u s',Inv X pins σ H s'->RelV v u->Q u s'):wpAny (model X.prog X.w) A (getAttr (.ref a) f b) Q E s:=by
 obtain⟨mA,O,r,_,_,_⟩:=a2b I.hok e;obtain⟨u,g,d⟩:=RelO.some_of (v:=v) (o:=mA f) (by rw[<-l];exact r f);exact b5c I.kIn O (c.get f) c.hd n g (b0c d) (h u _ (I.tok _) d)
theorem a2X{m:Str}{g:Addr}{pl:Sem Bool}{Q:Value×List Value->Shared->Prop}(I:Inv X pins σ H s)(e:H a=some (.ins C dx fs))(c:Cls X.K C)(k:Meth X.K C m g)(l:fs.lookup m=none)
  (h:Q (.ref g,[.ref a]) s):wpAny (model X.prog X.w) A (getMethod (.ref a) m pl) Q E s:=by
 obtain⟨mA,O,r,_,_,_⟩:=a2b I.hok e;have b:mA m=none:=RelO.none_of (by rw[<-l];exact r m);exact b2Y I.kIn O (c.get m) k.at_ k.fn b h
theorem a6P{y:V}{u:Value}{Q:Unit->Shared->Prop}(I:Inv X pins σ H s)(e:H a=some (.ins C dx fs))(c:Cls X.K C)(n:NoAttr X.K C f)(v:fs.length<1000)(p:RelV y u)
  (h:∀s',Inv X pins σ (upd H a (.ins C dx (K8 f y fs))) s'->Q () s'):wpAny (model X.prog X.w) A (setAttr (.ref a) f u) Q E s:=by
 obtain⟨mA,O,r,j,_,i⟩:=a2b I.hok e;have m:(fs.map (·.1)).length<=sizeLine:=by rw[aj,a_];omega
 refine b3R I.kIn O c.sa c.po n.taker c.hd j m λh' d t=>h _ ?_;have hd:∃o,h'.get? dx=some o:=let ⟨o,_,_,e',_⟩:=d.ns;⟨o,e'⟩
 refine I.write (x:=a) (e:=dx) (by rw[e];exact True.intro) (.inr i) (λb q k z=>(t.2 b k).trans z) hd ?_;refine⟨by rw[A5 O.ne];exact i,?_,O.ne,d.obj,_,d.ns,λg=>?_,λg l=>?_⟩
 .have:=a1w f y fs;omega
 .show RelO ((K8 f y fs).lookup g) (if g=f then some u else mA g);rw[a1v];by_cases q:g=f
  .rw[az q,az q];exact p
  .rw[aq q,aq q];exact r g
 .by_cases q:g=f
  .rw[q];exact(a1c f y fs).1
  .refine(a1c f y fs).2 g (j g λz=>l ?_);show(if g=f then some u else mA g)=none;rw[aq q];exact z
theorem Inv.made(I:Inv X pins σ H s):Inv X pins σ (upd (upd H s.heap.objs.size (.own (s.heap.objs.size+1))) (s.heap.objs.size+1) (.ins C s.heap.objs.size []))
  {s with heap:=(s.heap.push PySem.W.emptyDict).push (PySem.W.instObj C s.heap.objs.size)}:=by
 have c:(s.heap.push PySem.W.emptyDict).get? s.heap.objs.size=some PySem.W.emptyDict:=aD s.heap rfl;have f:((s.heap.push PySem.W.emptyDict).push (PySem.W.instObj C s.heap.objs.size)).get? (s.heap.objs.size+1)=some (PySem.W.instObj C s.heap.objs.size):=by
  have:=aD (s.heap.push PySem.W.emptyDict) (o:=PySem.W.instObj C s.heap.objs.size) rfl;rwa[bu]at this
 have g:(s.heap.push PySem.W.emptyDict).Ns s.heap.objs.size (λ_=>none):=⟨PySem.W.emptyDict,#[],_,c,rfl,(λe h=>absurd h (by simp)),λ_=>rfl⟩;have d:=I.laid (a:=s.heap.objs.size) (o:=.own (s.heap.objs.size+1)) (h':=s.heap.push PySem.W.emptyDict) (t':=s.toks) (λb u q=>ag _ q) (ao _) ⟨_,c⟩;refine d.laid (a:=s.heap.objs.size+1) (o:=.ins C s.heap.objs.size []) (t':=s.toks) (λb u q=>ag _ q) (Nat.le_of_eq (bu _ _)) ?_;have ne:s.heap.objs.size≠s.heap.objs.size+1:=aR (bQ _);refine⟨by rw[A5 ne,A1],bp _,ne,f,λ_=>none,(Heap.Ns1.of_empty g).at λo q=>ag _ q,λ_=>True.intro,λy i=>absurd rfl i⟩
theorem b5o{prog:Program}{w:World}{env:Env}{e:Expr}{f:Str}{pos:Pos}{s:Shared}{Q:Value->Shared->Prop}(a:attributeBase e f env (eval e env)=eval e env)
  (h:wpAny (model prog w) A (eval e env) (λo s₁=>wpAny (model prog w) A (getAttr o f true) Q E s₁) E s):wpAny (model prog w) A (eval (.Attribute e f pos) env) Q E s :=
 Attribute_any_ h (by rw[arm_eval_Attribute,a])
end
def b8g(K:PySem.W.Frag)(ta:TE)(f:Str):TE:=λσ H Q=>ta σ H λx H1=>∃a C dx fs v,x=.ref a/\H1 a=some (.ins C dx fs)/\Cls K C/\NoAttr K C f/\fs.lookup f=some v/\Q v H1
def b8l(K:PySem.W.Frag)(ta tv:TE)(f:Str):TS:=λD σ H=>tv σ H λy H1=>ta σ H1 λx H2=>∃a C dx fs,x=.ref a/\H2 a=some (.ins C dx fs)/\Cls K C/\NoAttr K C f/\fs.length<1000 /\
 D.nx σ (upd H2 a (.ins C dx (K8 f y fs)))
section
variable {X:Cx}{o e value:Expr}{f:Str}{pos pos' tpos:Pos}{ta tv:TE}
theorem b6L(j:PE X e ta)(i:attributeBase e f X.env (eval e X.env)=eval e X.env):PE X (.Attribute e f pos) (b8g X.K ta f):=by
 intro pins s σ H Q I h;refine b5o i (thn (j pins s σ H _ I h) λu s1 ⟨x,H1,b,m,a,C,dx,fs,v,ex,g,c,n,l,q⟩=>?_);subst ex;obtain rfl:u=Value.ref a:=m;exact a7m b g c n l λo s2 d k=>⟨v,H1,d,k,q⟩
theorem b6x(i:PE X o ta)(j:PE X value tv)(hs:swapsWith value (some (.Attribute o f pos')) pos.line X.env=pure false):PS X (.Assign [.Attribute o f pos'] value pos) (b8l X.K ta tv f):=by
 intro pins s σ H D I h;refine plainObj_wpAny_Assign_Attribute (thn (j pins s σ H _ I h) λu s1 ⟨y,H1,b,r,q⟩=>thn (i pins s1 σ H1 _ b q) λk s2 ⟨x,H2,d,p,a,C,dx,fs,ex,g,c,n,l,m⟩=>?_) hs;subst ex;obtain rfl:k=Value.ref a:=p;exact a6P d g c n l r λt e=>⟨σ,_,e,m⟩
end
section
variable {X:Cx}{pins:List (Addr×Obj)}{σ:St}{H:Hp}{s:Shared}{A:Around}{E:Value->Shared->Prop}{Q:Value->Shared->Prop}{c:Value}{b:Bool}
inductive TyOf(K:PySem.W.Frag)(H:Hp):V->Value->Prop where
 |non:TyOf K H .non (.type "NoneType")
 |bl (x:Bool):TyOf K H (.bl x) (.type "bool")
 |int (i:Int):TyOf K H (.int i) (.type "int")
 |str (x:Str):TyOf K H (.str x) (.type "str")
 |flt (x:UInt64):TyOf K H (.flt x) (.type "float")
 |lst {a:Addr}{xs:List V}(e:H a=some (.lst xs)):TyOf K H (.ref a) (.type "list")
 |frz {a:Addr}{o:Obj}{xs:List V}(e:H a=some (.frz o (.lst xs))):TyOf K H (.ref a) (.type "list")
 |tup {a:Addr}{xs:List V}(e:H a=some (.tup xs)):TyOf K H (.ref a) (.type "tuple")
 |dK {a:Addr}{kvs:List (Key×V)}(e:H a=some (.dK kvs)):TyOf K H (.ref a) (.type "dict")
 |dT {a:Addr}{kvs:List (List Key×V)}(e:H a=some (.dT kvs)):TyOf K H (.ref a) (.type "dict")
 |ins {a C dx:Addr}{fs:List (Str×V)}(e:H a=some (.ins C dx fs)) (cl:Cls K C) (ha:PySem.W.findIn K (.ref C) "__class__"=some (some (.builtin "object.__class__")))
   (hn:PySem.W.specialIn K (.builtin "object.__class__") "__get__"=some (some (.builtin "getset_descriptor.__get__"))) (htk:PySem.W.takesIn K (.builtin "object.__class__")=some true)
   (hm:PySem.W.mroIn K C (.type "object")=some true):TyOf K H (.ref a) (.ref C)
theorem a9Y{x:V}{u t:Value}(I:Inv X pins σ H s)(d:RelV x u)(ty:TyOf X.K H x t)(e:PySem.W.kitOne X.K t c=some b)(h:∀tk,Q (.bool b) {s with toks:=tk}) :
  wpAny (model X.prog X.w) A (call (.builtin "isinstance") [u,c]) Q E s:=by
 cases ty with
 |non=>cases(show u=Value.none from d);exact PySem.W.kia_one PySem.W.kitx_none I.kIn True.intro e (λz=>nomatch z) h
 |bl y=>cases(show u=Value.bool y from d);exact PySem.W.kia_one PySem.W.kitx_bool I.kIn True.intro e (λz=>nomatch z) h
 |int i=>obtain⟨t,q⟩:=(show ∃t,u=Value.int i t from d);cases q;exact PySem.W.kia_one PySem.W.kitx_int I.kIn True.intro e (λz=>nomatch z) h
 |str y=>obtain⟨t,q⟩:=(show ∃t,u=Value.str y t from d);cases q;exact PySem.W.kia_one PySem.W.kitx_str I.kIn True.intro e (λz=>nomatch z) h
 |flt y=>obtain⟨t,q⟩:=(show ∃t,u=Value.float y t from d);cases q;exact PySem.W.kia_one PySem.W.kitx_float I.kIn True.intro e (λz=>nomatch z) h
 |@lst a xs ea =>
  cases(show u=Value.ref a from d);obtain⟨_,_,n,_,h1⟩:=(show ObjOk X.prog X.w H s.heap a (.lst xs)from I.hok a _ ea);exact PySem.W.kia_one PySem.W.kitx_list I.kIn ⟨_,h1,rfl⟩ e (λz=>nomatch z) h
 |@frz a ob xs ea =>
  cases(show u=Value.ref a from d);obtain⟨_,_,_,n,_,h1⟩:=(show ObjOk X.prog X.w H s.heap a (.frz ob (.lst xs))from I.hok a _ ea);exact PySem.W.kia_one PySem.W.kitx_list I.kIn ⟨_,h1,rfl⟩ e (λz=>nomatch z) h
 |@tup a xs ea =>
  cases(show u=Value.ref a from d);obtain⟨_,_,_,p⟩:=(show ObjOk X.prog X.w H s.heap a (.tup xs)from I.hok a _ ea);obtain⟨o,h1,h2,_⟩:=p.tup;exact PySem.W.kia_one PySem.W.kitx_tuple I.kIn ⟨o,h1,h2⟩ e (λz=>nomatch z) h
 |@dK a kvs ea =>
  cases(show u=Value.ref a from d);obtain⟨_,_,vs,_,p⟩:=(show ObjOk X.prog X.w H s.heap a (.dK kvs)from I.hok a _ ea);obtain⟨o,es,ep,h1,h2,_⟩:=p;exact PySem.W.kia_one PySem.W.kitx_dict I.kIn ⟨o,h1,h2.1⟩ e (λz=>nomatch z) h
 |@dT a kvs ea =>
  cases(show u=Value.ref a from d);obtain⟨_,_,xs,_,o,es,ep,h1,h2,_⟩:=(show ObjOk X.prog X.w H s.heap a (.dT kvs)from I.hok a _ ea);exact PySem.W.kia_one PySem.W.kitx_dict I.kIn ⟨o,h1,h2.1⟩ e (λz=>nomatch z) h
 |@ins a C dx fs ea cl g k f j =>
  cases(show u=Value.ref a from d);obtain⟨mA,O,_⟩:=a2b I.hok ea;obtain⟨od,J,_⟩:=O.look;exact PySem.W.kia_one (PySem.W.kitx_own (cl.get _) cl.hd g k f j) I.kIn J e (λz=>nomatch z) h
end
structure Room(k:Nat)(A:Around):Prop where
 hd:A.handled=none
 dp:A.depth+3*k+5<recursionLimit
 un:A.units+16*k+200<cLine
theorem Room.mono{j k:Nat}{A:Around}(r:Room k A)(h:j<=k):Room j A:=⟨r.hd,by have:=r.dp;omega,by have:=r.un;omega⟩
theorem Room.deeper{k:Nat}{A:Around}(r:Room (k+1) A)(env:Env):Room k (A.deeper env) :=
 ⟨r.hd,by have:=r.dp;show A.depth+1+3*k+5<_;omega,by have:=r.un;show A.units+3+16*k+200<_;omega⟩
theorem a7i{A:Around}{C:Addr}{us:List Value}{kw:List (Str×Value)}:(A.under (.builtin "type.__call__" ⟨.ref C::us,kw⟩)).depth=A.depth+1:=by
 first|rfl|simp[Around.under,Code.weight,Code.isCreation,Code.isGuard,Code.isCaller,Code.frames,Code.isFrame,guardIds]
theorem a7h{A:Around}{C:Addr}{us:List Value}{kw:List (Str×Value)}:(A.under (.builtin "type.__call__" ⟨.ref C::us,kw⟩)).units=A.units+1:=by
 first|rfl|simp[Around.under,Code.cUnits,Code.frames,Code.isFrame]
theorem Room.make{k:Nat}{A:Around}(r:Room (k+1) A)(C:Addr)(us:List Value)(kw:List (Str×Value)):Room k (A.under (.builtin "type.__call__" ⟨.ref C::us,kw⟩)) :=
 ⟨r.hd,by have:=r.dp;rw[a7i];omega,by have:=r.un;rw[a7h];omega⟩
theorem Room.depth{k:Nat}{A:Around}(r:Room k A):A.depth<recursionLimit:=by have:=r.dp;omega
def a0T:TA:=λ_ H Q=>Q [] H
def a5v(ta:TE)(tr:TA):TA:=λσ H Q=>ta σ H λx H1=>tr σ H1 λxs H2=>Q (x::xs) H2
section
variable {X:Cx}{e:Expr}{es:List Expr}{te:TE}{t:TA}{pos:Pos}
theorem b6Q:PA X [] a0T:=λ_ _ _ _ H Q I h=>Calls.spliced_nil ⟨[],H,I,.nil,h⟩
theorem b4y(c:PE X e te)(d:PA X es t)(hs:starEach (e::es) X.env=(false,eval e X.env)::starEach es X.env:=by rfl):PA X (e::es) (a5v te t):=by
 intro pos pins s σ H Q I h;rw[hs];show wpAny _ _ (spliced ((false,eval e X.env)::backTo pos (starEach es X.env))) _ _ s;refine Calls.spliced_cons (thn (c pins s σ H _ I h) λu s1 ⟨x,H1,a,i,f⟩=>?_);exact thn (d pos pins s1 σ H1 _ a f) λk s2 ⟨xs,H2,b,j,g⟩=>⟨x::xs,H2,b,.cons i j,g⟩
def b6d(t:TA):TE:=λσ H Q=>t σ H λxs H1=>xs.length<=sizeLine/\∀p,H1 p=none->Q (.ref p) (upd H1 p (.tup xs))
def b3G(t:TA):TE:=λσ H Q=>t σ H λxs H1=>xs.length<=sizeLine/\∀p,H1 p=none->Q (.ref p) (upd H1 p (.lst xs))
theorem b6E{x1}(h:PA X es t):PE X (.Tuple es x1 pos) (b6d t):=by
 intro pins s σ H Q I d;refine wpAny_Tuple_spliced (thn (h pos pins s σ H _ I d) λf s1 ⟨xs,H1,a,r,z,q⟩=>⟨by rw[<-r.length];exact z,?_⟩);have c:H1 s1.heap.objs.size=none:=a.hok.fresh (ao _);refine⟨.ref s1.heap.objs.size,upd H1 s1.heap.objs.size (.tup xs),a.laid (t':=s1.toks) (λb u e=>ag _ e) (ao _) ?_,rfl,q _ c⟩;exact⟨z,f,r,⟨_,aD _ rfl,rfl,_,rfl⟩⟩
theorem b6J(h:PA X es t):PE X (.List es pos) (b3G t):=by
 intro pins s σ H Q I d;refine wpAny_List_spliced (thn (h pos pins s σ H _ I d) λf s1 ⟨xs,H1,a,r,z,q⟩=>⟨by rw[<-r.length];exact z,?_⟩);have c:H1 s1.heap.objs.size=none:=a.hok.fresh (ao _);refine⟨.ref s1.heap.objs.size,upd H1 s1.heap.objs.size (.lst xs),a.laid (t':=s1.toks) (λb u e=>ag _ e) (ao _) ?_,rfl,q _ c⟩;exact⟨z,f,0,r,aD _ rfl⟩
end
abbrev Sp:=List V->Hp->VK->XK->Prop
abbrev CXT:=List Env->Hp->Shared->XK->Value->Shared->Prop
structure Env0(P:Program)(w:World)(K:PySem.W.Frag)(mg:Str->Option Value)(base:Heap)(A:Around)(outer:List Env)(s:Shared)(H:Hp):Prop where
 frames:A.frames=some outer
 mod:Mod K mg base
 bs:∀b o,base.get? b=some o->s.heap.get? b=some o/\H b=none
 bsz:base.objs.size<=s.heap.objs.size
 funs:s.heap.FunFrames base outer
 frf:∀b∈frs outer,H b=none
 hok:HOk P w H s.heap
 bare:AllBare s.gens
def CE(outer:List Env)(P:Program)(w:World)(H:Hp)(s:Shared)(Q:VK)(u:Value)(s':Shared):Prop :=
 ∃v H',s'.os=s.os/\AllBare s'.gens/\Un (frs outer) [] H H' s.heap s'.heap/\HOk P w H' s'.heap/\RelV v u/\Q v H'
def CR(CX:CXT)(outer:List Env)(P:Program)(w:World)(H:Hp)(s:Shared)(Q:VK)(E:XK)(r:Result)(s':Shared):Prop :=
 match r with
 |.ok (.ret u)=>CE outer P w H s Q u s'
 |.ok _=>False
 |.error e=>CX outer H s E e s'
structure FnOk(P:Program)(w:World)(K:PySem.W.Frag)(mg:Str->Option Value)(base:Heap)(CX:CXT)(k:Nat)(f:Addr)(fd:FuncData)(ps:List Str)(sp:Sp):Prop where
 len:∀vs H Q E,sp vs H Q E->vs.length=ps.length
 run:∀(A:Around) (outer:List Env) (s:Shared) (H:Hp) (args:Args) (us:List Value) (vs:List V) (Q:VK) (E:XK),Room k A->Env0 P w K mg base A outer s H->BindsTo s fd args (ps.zip us)->Vals vs us->sp vs H Q E ->
  codeAny (model P w) A (.call (.ref f) args) (CR CX outer P w H s Q E) s
theorem FnOk.imp{P:Program}{w:World}{K:PySem.W.Frag}{mg:Str->Option Value}{base:Heap}{CX:CXT}{k:Nat}{f:Addr}{fd:FuncData}{ps:List Str}{sp sp':Sp}(F:FnOk P w K mg base CX k f fd ps sp)
  (h:∀vs H Q E,sp' vs H Q E->sp vs H Q E):FnOk P w K mg base CX k f fd ps sp' :=
 ⟨λvs H Q E q=>F.len vs H Q E (h _ _ _ _ q),λA a s H b i vs Q E e d c g hs=>F.run A a s H b i vs Q E e d c g (h _ _ _ _ hs)⟩
theorem Env0.make{P:Program}{w:World}{K:PySem.W.Frag}{mg:Str->Option Value}{base:Heap}{A:Around}{outer:List Env}{s:Shared}{H:Hp}(e:Env0 P w K mg base A outer s H)(C:Addr)(us:List Value)(kw:List (Str×Value)) :
  Env0 P w K mg base (A.under (.builtin "type.__call__" ⟨.ref C::us,kw⟩)) outer s H:=⟨by first|exact e.frames | (simpa[Around.under,Code.envs,Code.isFrame,pushEnvs]using e.frames),e.mod,e.bs,e.bsz,e.funs,e.frf,e.hok,e.bare⟩
section
variable {X:Cx}{pins:List (Addr×Obj)}{σ:St}{H:Hp}{s s':Shared}
theorem Inv.env0(I:Inv X pins σ H s):Env0 X.prog X.w X.K X.mg X.base X.A X.stack s H :=
 ⟨I.ok.frames,I.ok.mod,I.bs,bf I.ok.bsz I.sz,I.stack,I.stkFree,I.hok,I.bare⟩
theorem Inv.after{Q:VK}{u:Value}(I:Inv X pins σ H s)(h:CE X.stack X.prog X.w H s Q u s'):EP X pins σ Q u s':=by
 obtain⟨v,H',os,a,un,c,r,q⟩:=h;obtain⟨f,g,d,t,e⟩:=s';obtain rfl:e=s.os:=os;exact⟨v,H',I.call (h':=f) (g':=g) (d':=d) (t':=t) (ch:=[]) un c a (λb z=>absurd z (by simp)),r,q⟩
end
def a7R(sp:Sp)(dvs:List V)(E:XK)(t:TA):TE:=λσ H Q=>t σ H λvs H1=>sp (vs++dvs) H1 Q E
def a1s(C:Addr)(m:Str)(sp:Sp)(dvs:List V)(E:XK)(ta:TE)(t:TA):TE:=λσ H Q=>ta σ H λx H1=>∃a dx fs,x=.ref a/\H1 a=some (.ins C dx fs)/\fs.lookup m=none /\
 t σ H1 λvs H2=>sp (x::(vs++dvs)) H2 Q E
def b5w(C:Addr)(sp:Sp)(dvs:List V)(E:XK)(t:TA):TE:=λσ H Q=>t σ H λvs H1=>∀x dx,H1 x=none->H1 dx=none->dx≠x ->
 sp (.ref x::(vs++dvs)) (upd (upd H1 dx (.own x)) x (.ins C dx [])) (λv H2=>v=.non/\Q (.ref x) H2) E
def Binds(K:PySem.W.Frag)(fd:FuncData)(ps:List Str)(ds:List Value):Prop :=
 ∀(s:Shared) (us:List Value),K.In s.heap->(us++ds).length=ps.length->BindsTo s fd ⟨us,[]⟩ (ps.zip (us++ds))
theorem Binds.all{K:PySem.W.Frag}{fd:FuncData}{ps:List Str}(h:∀us:List Value,us.length=ps.length->bindArgs fd ⟨us,[]⟩=pure (ps.zip us)):Binds K fd ps []:=λs us _ a=>by
 rw[dj]at a⊢;exact .of_eq (h us a)
def X5(CX:CXT)(X:Cx)(E:XK):Prop:=∀(pins:List (Addr×Obj)) (σ:St) (H:Hp) (s:Shared) (e:Value) (s':Shared),Inv X pins σ H s->CX X.stack H s E e s'->X.xe e s'
section
variable {X:Cx}{CX:CXT}{k:Nat}{f C:Addr}{fd:FuncData}{ps:List Str}{sp:Sp}{dvs:List V}{ds:List Value}{E:XK}{x m:Str}{p pos apos:Pos}{e o:Expr}{es:List Expr}{ta:TE}{t:TA}
theorem a6U{pins:List (Addr×Obj)}{σ:St}{H:Hp}{s:Shared}{Q:VK}{us:List Value}{vs:List V}(F:FnOk X.prog X.w X.K X.mg X.base CX k f fd ps sp)(g:Room k X.A)(c:Binds X.K fd ps ds)(hd:Vals dvs ds)(i:X5 CX X E)
  (I:Inv X pins σ H s) (r:Vals vs us) (h:sp (vs++dvs) H Q E):wpAny (model X.prog X.w) X.A (call (.ref f) us) (EP X pins σ Q) X.xe s:=by
 have b:Vals (vs++dvs) (us++ds):=r.append hd;have d:(us++ds).length=ps.length:=by rw[<-b.length];exact F.len _ _ _ _ h
 refine wpAny_call (dF (F.run X.A X.stack s H ⟨us,[]⟩ (us++ds) (vs++dvs) Q E g I.env0 (c s us I.kIn d) b h) λr s' a=>?_);cases r with
 |error e=>exact i pins σ H s e s' I a
 |ok fl =>
  cases fl with
  |ret u=>exact I.after a
  |next=>exact False.elim a
  |brk=>exact False.elim a
  |cont=>exact False.elim a
theorem a8r(F:FnOk X.prog X.w X.K X.mg X.base CX k f fd ps sp)(n:Room k X.A)(j:Gl X x)(m:X.mg x=some (.ref f))(l:PySem.W.keepIn X.K (.ref f)=true)(g:Binds X.K fd ps ds)(hd:Vals dvs ds)(o:X5 CX X E)
  (d:PA X (e::es) t) (a:(x==("__debug__" : Str))=false:=by decide) (i:starEach (e::es) X.env=(false,eval e X.env)::starEach es X.env:=by rfl) (b:(backTo pos (starEach es X.env)).any (·.1)=false:=by rfl) :
  PE X (.Call (.Name x p) (e::es) [] pos) (a7R sp dvs E t):=by
 intro pins s σ H Q I h;refine fv (a4L I j m ?_ a);refine PySem.W.callWith_K (h₀:=X.base) I.ok.mod.kin l (thn (d pos pins s σ H _ I h) λu s1 ⟨vs,H1,c,r,q⟩=>⟨c.kIn,?_⟩) i b;exact a6U F n g hd o c r q
theorem b4t{pl:Sem Bool}(w:PE X o ta)(c:Cls X.K C)(j:Meth X.K C m f)(F:FnOk X.prog X.w X.K X.mg X.base CX k f fd ps sp)(y:Room k X.A)(v:Binds X.K fd ps ds)(hd:Vals dvs ds)(A:X5 CX X E)(p:PA X (e::es) t)
  (d:starEach (e::es) X.env=(false,eval e X.env)::starEach es X.env:=by rfl) (b:(backTo pos (starEach es X.env)).any (·.1)=false:=by rfl)
  (z:eval (.Call (.Attribute o m apos) (e::es) [] pos) X.env=(do
   let ov <-eval o X.env
   standAt apos.atName
   let (f,first) <-holding [ov] (getMethod ov m pl)
   callWith pos f first (backTo pos (starEach (e::es) X.env)) (backToKw pos (keywordEach [] X.env))):=by rfl) :
  PE X (.Call (.Attribute o m apos) (e::es) [] pos) (a1s C m sp dvs E ta t):=by
 intro pins s σ H Q I h;refine PySem.W.methodCall_KW (pl:=pl) (thn (w pins s σ H _ I h) λu s1 ⟨x,H1,g,D,a,dx,fs,ex,n,l,q⟩=>?_) z;subst ex;obtain rfl:u=Value.ref a:=D;refine a2X g n c j l ?_;refine PySem.W.callWith_K (first:=[.ref a]) (h₀:=X.base) I.ok.mod.kin j.kp (thn (p pos pins s1 σ H1 _ g q) λG s2 ⟨vs,H2,i,r,B⟩=>⟨i.kIn,?_⟩) d b;exact a6U (us:=.ref a::G) (vs:=.ref a::vs) F y v hd A i (.cons rfl r) B
theorem b1Q{pl:Sem Bool}(i:PE X o ta)(c:Cls X.K C)(d:Meth X.K C m f)(F:FnOk X.prog X.w X.K X.mg X.base CX k f fd ps sp)(j:Room k X.A)(g:Binds X.K fd ps ds)(hd:Vals dvs ds)(p:X5 CX X E)
  (n:eval (.Call (.Attribute o m apos) [] [] pos) X.env=(do
   let ov <-eval o X.env
   standAt apos.atName
   let (f,first) <-holding [ov] (getMethod ov m pl)
   callWith pos f first (backTo pos (starEach [] X.env)) (backToKw pos (keywordEach [] X.env))):=by rfl) :
  PE X (.Call (.Attribute o m apos) [] [] pos) (a1s C m sp dvs E ta a0T):=by
 intro pins s σ H Q I h;refine PySem.W.methodCall_KW (pl:=pl) (thn (i pins s σ H _ I h) λu s1 ⟨x,H1,b,r,a,dx,fs,ex,e,l,q⟩=>?_) n;subst ex;obtain rfl:u=Value.ref a:=r;refine a2X b e c d l ?_;exact PySem.W.callWith_K0 (first:=[.ref a]) b.kIn d.kp (a6U (us:=[.ref a]) (vs:=[.ref a]) F j g hd p b (.cons rfl .nil) q)
structure Mk(K:PySem.W.Frag)(C f:Addr):Prop where
 makes:PySem.W.makesIn K C=true
 init:PySem.W.findIn K (.ref C) "__init__"=some (some (.ref f))
 fn:PySem.W.isFn K (.ref f)=true
 kp:PySem.W.keepIn K (.ref C)=true
theorem b1l{pins:List (Addr×Obj)}{σ:St}{H:Hp}{s:Shared}{Q:VK}{us:List Value}{vs:List V}(M:Mk X.K C f)(F:FnOk X.prog X.w X.K X.mg X.base CX k f fd ps sp)(m:Room (k+1) X.A)(j:Binds X.K fd ps ds)(hd:Vals dvs ds)
  (n:X5 CX X E) (I:Inv X pins σ H s) (r:Vals vs us)
  (h:∀x dx,H x=none->H dx=none->dx≠x->sp (.ref x::(vs++dvs)) (upd (upd H dx (.own x)) x (.ins C dx [])) (λv H2=>v=.non/\Q (.ref x) H2) E) :
  wpAny (model X.prog X.w) X.A (call (.ref C) us) (EP X pins σ Q) X.xe s:=by
 have c:=h (s.heap.objs.size+1) s.heap.objs.size (I.hok.fresh (dU _)) (I.hok.fresh (ao _)) (aR (bQ _));have b:=Inv.made (C:=C) I;have d:Vals (V.ref (s.heap.objs.size+1)::(vs++dvs)) (Value.ref (s.heap.objs.size+1)::(us++ds)):=.cons rfl (r.append hd);have l:(Value.ref (s.heap.objs.size+1)::us++ds).length=ps.length:=by
  have e:=d.length;rw[F.len _ _ _ _ c]at e;exact e.symm
 refine wpAny_call (b2q (f:=f) I.kIn M.makes M.init (bg.mp M.fn) (dF (F.run _ X.stack _ _ ⟨Value.ref (s.heap.objs.size+1)::us,[]⟩ (Value.ref (s.heap.objs.size+1)::(us++ds)) _ _ E (m.make C us [])
  (b.env0.make C us []) (j _ (Value.ref (s.heap.objs.size+1)::us) b.kIn l) d c) λr s' a=>?_))
 cases r with
 |error e=>exact n pins σ _ _ e s' b a
 |ok fl =>
  cases fl with
  |ret u =>
   obtain⟨v,H',g,p,i,o⟩:=b.after a;subst i;exact⟨p,⟨V.ref (s.heap.objs.size+1),H',g,rfl,o⟩⟩
  |next=>exact False.elim a
  |brk=>exact False.elim a
  |cont=>exact False.elim a
theorem b4u(M:Mk X.K C f)(F:FnOk X.prog X.w X.K X.mg X.base CX k f fd ps sp)(m:Room (k+1) X.A)(j:Gl X x)(l:X.mg x=some (.ref C))(g:Binds X.K fd ps ds)(hd:Vals dvs ds)(n:X5 CX X E)
  (d:PA X (e::es) t) (a:(x==("__debug__" : Str))=false:=by decide) (i:starEach (e::es) X.env=(false,eval e X.env)::starEach es X.env:=by rfl) (b:(backTo pos (starEach es X.env)).any (·.1)=false:=by rfl) :
  PE X (.Call (.Name x p) (e::es) [] pos) (b5w C sp dvs E t):=by
 intro pins s σ H Q I h;refine fv (a4L I j l ?_ a);refine PySem.W.callWith_K (h₀:=X.base) I.ok.mod.kin M.kp (thn (d pos pins s σ H _ I h) λo s1 ⟨vs,H1,c,r,q⟩=>⟨c.kIn,?_⟩) i b;exact b1l M F m g hd n c r q
end
section
variable {X:Cx}{CX:CXT}{k:Nat}{f C:Addr}{fd:FuncData}{ps ks:List Str}{sp:Sp}{E:XK}{x m:Str}{p pos apos kpos:Pos}{e o:Expr}{es:List Expr}{kws:List Keyword}{te ta:TE}{t tk:TA}{nm:Option Str}
variable {g:List Value->List Value->List Value}{gV:List V->List V->List V}
end
structure FnScope(N P:List Str)(sc:Scope):Prop where
 kind:sc.kind=.function
 co:sc.isCoroutine=false
 gen:sc.isGenerator=false
 nd:N.Nodup
 pre:N.take P.length=P
 par:∀x∈P,sc.names.lookup x=some .local∨sc.names.lookup x=some .cell
 nofree:∀y∈sc.names,y.2≠.free
theorem a4b{kindOf:Str->Option NameKind}{x:Str}:∀{binds:List (Str×Value)}{m:Str->Option Value},(∀v,(x,v)∉binds)->bindL kindOf binds m x=m x
 |[],_,_=>rfl
 |(n,v)::r,m,h=>by
  unfold bindL;rw[a4b λw hw=>h w (ar _ hw)];split
  .have:x≠n:=by rintro rfl;exact h v au
   simp[this]
  .rfl
theorem a4d{kindOf:Str->Option NameKind}{x:Str}:∀{binds:List (Str×Value)}{m:Str->Option Value},(∀v,(x,v)∉binds)->bindC kindOf binds m x=m x
 |[],_,_=>rfl
 |(n,v)::r,m,h=>by
  unfold bindC;rw[a4d λw hw=>h w (ar _ hw)];split
  .rfl
  .have:x≠n:=by rintro rfl;exact h v au
   simp[this]
theorem a4c{kindOf:Str->Option NameKind}{x:Str}{v:Value}:∀{P:List Str}{vs:List Value}{i:Nat}{m:Str->Option Value},P.Nodup->P[i]?=some x->vs[i]?=some v->kindOf x=some .local ->
  bindL kindOf (P.zip vs) m x=some v
 |[],_,_,_,_,h,_,_=>by simp at h
 |_::_,[],_,_,_,_,h,_=>by simp at h
 |p::P,w::vs,0,m,nd,h1,h2,a=>by
  simp at h1 h2;subst h1;subst h2;show bindL kindOf ((p,w)::P.zip vs) m p=_;unfold bindL;rw[a4b λv b=>(cL.mp nd).1 (List.of_mem_zip b).1,az a];simp
 |p::P,w::vs,i+1,m,nd,h1,h2,a=>by
  show bindL kindOf ((p,w)::P.zip vs) m x=_;unfold bindL;exact a4c (i:=i) (cL.mp nd).2 (by simpa using h1) (by simpa using h2) a
theorem a4e{kindOf:Str->Option NameKind}{x:Str}{v:Value}:∀{P:List Str}{vs:List Value}{i:Nat}{m:Str->Option Value},P.Nodup->P[i]?=some x->vs[i]?=some v->kindOf x≠some .local ->
  bindC kindOf (P.zip vs) m x=some v
 |[],_,_,_,_,h,_,_=>by simp at h
 |_::_,[],_,_,_,_,h,_=>by simp at h
 |p::P,w::vs,0,m,nd,h1,h2,a=>by
  simp at h1 h2;subst h1;subst h2;show bindC kindOf ((p,w)::P.zip vs) m p=_;unfold bindC;rw[a4d λv b=>(cL.mp nd).1 (List.of_mem_zip b).1,aq a];simp
 |p::P,w::vs,i+1,m,nd,h1,h2,a=>by
  show bindC kindOf ((p,w)::P.zip vs) m x=_;unfold bindC;exact a4e (i:=i) (cL.mp nd).2 (by simpa using h1) (by simpa using h2) a
noncomputable def start(N:List Str)(vs:List V):St:=vs.map some++List.replicate (N.length-vs.length) none
noncomputable def L6(CX:CXT)(P:Program)(w:World)(K:PySem.W.Frag)(mg:Str->Option Value)(base:Heap)(N:List Str)(qual:Str)(scope:Scope)(f:Addr)(cd:Value)(A:Around)(outer:List Env)(s:Shared)(H:Hp)(E:XK):Cx where
 prog:=P
 w:=w
 K:=K
 mg:=mg
 base:=base
 A:=A.deeper (envOfC qual scope s.heap.objs.size f cd)
 N:=N
 s₀:=s
 H₀:=H
 env:=envOfC qual scope s.heap.objs.size f cd
 outer:=outer
 stack:=envOfC qual scope s.heap.objs.size f cd::outer
 ex:=[]
 calm:=true
 fn:=λ_=>true
 pn:=[]
 xe:=λe s'=>wpAny (model P w) (A.deeper (envOfC qual scope s.heap.objs.size f cd)) (leaving (envOfC qual scope s.heap.objs.size f cd) e) (λ_ s''=>CX outer H s E e s'') (λe' s''=>CX outer H s E e' s'') s'
theorem a6x{a:Scope}{n:Nat}{x:Str}(h:a.names.lookup x=some .cell):∃c,(cellsFrom n a.names []).lookup x=some c:=by
 have q:=PySem.W.cellsFrom_some a.names n [] (.inl h);exact Option.isSome_iff_exists.mp q
theorem a9Z{CX:CXT}{P:Program}{w:World}{K:PySem.W.Frag}{mg:Str->Option Value}{base:Heap}{N ps:List Str}{qual:Str}{scope:Scope}{f:Addr}{cd:Value}{A:Around}{outer:List Env}{s s1:Shared}{H:Hp}{E:XK}{us:List Value}{vs:List V}
  (S:FnScope N ps scope) (hd:A.handled=none) (d:Env0 P w K mg base A outer s H) (G:vs.length=ps.length) (r:Vals vs us)
  (x:InCallC s s.heap.objs.size (bindL (envOfC qual scope s.heap.objs.size f cd).kindOf (ps.zip us) λ_=>none) (cellsFrom (s.heap.objs.size+1) scope.names []) (bindC (envOfC qual scope s.heap.objs.size f cd).kindOf (ps.zip us) λ_=>none) s1) :
  Inv (L6 CX P w K mg base N qual scope f cd A outer s H E) [] (start N vs) H s1:=by
 have C:ps.length<=N.length:=by have:=aL List.length S.pre;rw[a']at this;omega
 obtain⟨h1,tk,rfl,o⟩:=x.done;have j:∀b:Addr,b∉(L6 CX P w K mg base N qual scope f cd A outer s H E).ex:=λb z=>absurd (show b∈([]:List Addr)from z) (by simp);refine⟨⟨d.mod,S.kind,rfl,rfl,ao _,λy z c h1 h2=>?_,λy g=>?_,λy c _ h=>?_,λ_=>hd,Around.frames_deeper d.frames,.inr ⟨rfl,rfl⟩,λb z=>absurd z (j b),d.bs,d.bsz,λb _ _=>j b,λb z=>absurd z (j b),d.funs,d.frf⟩,
  rfl,d.bare,Un.kept o,⟨_,x.toInCall.ns,λi y v h1 h2 F=>?_⟩,λy c h=>⟨_,x.cell y c h⟩,d.hok.fresh (ao _),λy c h=>?_,λp l=>absurd (show p∈([]:List (Addr×Obj))from l) (by simp),d.hok.kept o,?_⟩
 .exact name_of_addr x.apart (PySem.mem_of_lookup h1) (PySem.mem_of_lookup h2)
 .have g:scope.names.lookup y=some .cell∨scope.names.lookup y=some .free:=g;rcases g with g|g
  .exact a6x g
  .exact absurd rfl (S.nofree _ (PySem.mem_of_lookup g))
 .exact cQ (x.above y c (PySem.mem_of_lookup h))
 .have hi:i<vs.length:=by
   unfold start at h2;by_cases hi:i<vs.length
   .exact hi
   .rw[aX (by simpa using hi)]at h2;rw[dD]at h2;split at h2<;>cases h2
  have B:vs[i]?=some v:=by
   unfold start at h2;rw[br (by simpa using hi),aQ]at h2;cases e:vs[i]? with
   |none=>rw[e]at h2;cases h2
   |some a=>rw[e]at h2;cases h2;rfl
  obtain⟨u,t,D⟩:=r.get B;have l:ps[i]?=some y:=by
   rw[<-S.pre,dk (by omega)];exact h1
  have m:ps.Nodup:=by rw[<-S.pre];exact S.nd.sublist (List.take_sublist _ _)
  refine⟨u,D,?_⟩;rcases S.par y (aF l)with k|k
  .exact .inl ⟨k,a4c m l t k⟩
  .obtain⟨c,e⟩:=a6x (n:=s.heap.objs.size+1) k;refine .inr ⟨.inl k,c,e,?_⟩;have q:=x.cell y c e;rw[a4e m l t (by show scope.names.lookup y≠_;rw[k];decide)]at q;exact q
 .exact d.hok.fresh (cQ (x.above y c (PySem.mem_of_lookup h)))
 .unfold start;show _=N.length;rw[ax,aj,aK];omega
theorem b5V{CX:CXT}{P:Program}{w:World}{K:PySem.W.Frag}{mg:Str->Option Value}{base:Heap}{k:Nat}{f:Addr}{name qual:Str}{c:Arguments}{body:List Stmt}{scope:Scope}{G kV h pm a ct oc:Value}{an od:Option Addr}
  {B:Array (Option Value)}{N ps:List Str}{sp:Sp}(W:K.lookup f=some ⟨oc,od,.func (PySem.W.fnOf name qual c body scope G kV h pm an a ct),B⟩) (m:PySem.W.codeIn K a qual=true) (S:FnScope N ps scope)
  (l:∀vs H Q E,sp vs H Q E->vs.length=ps.length)
  (d:∀(A:Around) (outer:List Env) (s:Shared) (H:Hp) (vs:List V) (Q:VK) (E:XK),Room k (A.deeper (envOfC qual scope s.heap.objs.size f a))->sp vs H Q E ->
   ∃t,PSs (L6 CX P w K mg base N qual scope f a A outer s H E) body t/\t {nx:=λ_ H'=>Q .non H',rt:=Q} (start N vs) H) :
  FnOk P w K mg base CX (k+1) f (PySem.W.fnOf name qual c body scope G kV h pm an a ct) ps sp:=by
 refine⟨l,λA outer s H F X vs Q E p i L r j=>?_⟩;have O:=l _ _ _ _ j;have D:K.In s.heap:=i.mod.kin.keeps λb o e=>(i.bs b o e).1;have z:s.heap.NoLimit:=i.mod.nolimit.keeps λb o e=>(i.bs b o e).1;have g:∀y∈ps.zip X,scope.names.lookup y.1=some .local∨(scope.names.lookup y.1=some .cell/\((cellsFrom (s.heap.objs.size+1) scope.names []).lookup y.1).isSome=true):=λ⟨n,v⟩ U=>by
  rcases S.par n (List.of_mem_zip U).1 with q|q
  .exact .inl q
  .exact .inr ⟨q,PySem.W.cellsFrom_some _ _ _ (.inl q)⟩
 refine codeAny_call_function p.depth (D _ _ W) rfl S.co S.gen rfl (PySem.W.codeRec_of D m) (L _ _ _ _ ?_);refine wpAny_newFunctionEnv_cells S.kind g λenv M s1 x=>?_;subst M;refine⟨z.keeps x.toInCall.keep,codeAny_func ?_⟩;obtain⟨t,T,R⟩:=d A outer s H vs Q E (p.deeper _) j;have I:Inv (L6 CX P w K mg base N qual scope f a A outer s H E) [] (start N vs) H s1:=a9Z S p.hd i O r x;refine dE (T [] s1 (start N vs) H _ I R) (λfl s' hs=>?_) λe s' hs=>hs;have fin:∀{σ':St}{H':Hp}{v:V}{u:Value},Inv (L6 CX P w K mg base N qual scope f a A outer s H E) [] σ' H' s'->RelV v u->Q v H'->CE outer P w H s Q u s' :=
  λ{σ' H' v u} J C q=>⟨v,H',J.os,J.bare,J.base,J.hok,C,q⟩
 cases fl with
 |ret u =>
  obtain⟨v,σ',H',J,C,q⟩:=hs;exact fin J C q
 |next =>
  obtain⟨σ',H',J,q⟩:=hs;exact fin (v:=V.non) (u:=Value.none) J rfl q
 |brk =>
  obtain⟨_,_,_,q⟩:=hs;exact False.elim q
 |cont =>
  obtain⟨_,_,_,q⟩:=hs;exact False.elim q
section
variable {X:Cx}{x:Str}{p pos:Pos}{e:Expr}{es:List Expr}{t:TA}{id T:String}{r:List V->Hp->VK->Prop}
def tCB(r:List V->Hp->VK->Prop)(t:TA):TE:=λσ H Q=>t σ H λvs H1=>r vs H1 Q
theorem E7(f:E2 X (.builtin id) r)(i:Gl X x)(j:X.mg x=none)(l:bootBuiltins x=some (.builtin id))(d:PA X (e::es) t)(k:x≠"__name__":=by decide)(a:(x==("__debug__" : Str))=false:=by decide)
  (g:starEach (e::es) X.env=(false,eval e X.env)::starEach es X.env:=by rfl) (b:(backTo pos (starEach es X.env)).any (·.1)=false:=by rfl):PE X (.Call (.Name x p) (e::es) [] pos) (tCB r t):=by
 intro pins s σ H Q I h;refine fv (a2N I i j l ?_ k a);exact PyProof.Rows.callWith_builtin1 (thn (d pos pins s σ H _ I h) λo s1 ⟨vs,H1,c,n,m⟩=>f pins s1 σ H1 vs o Q c n m) g b
theorem S0(f:E2 X (.type T) r)(i:Gl X x)(j:X.mg x=none)(l:bootBuiltins x=some (.type T))(d:PA X (e::es) t)(k:x≠"__name__":=by decide)(a:(x==("__debug__" : Str))=false:=by decide)
  (g:starEach (e::es) X.env=(false,eval e X.env)::starEach es X.env:=by rfl) (b:(backTo pos (starEach es X.env)).any (·.1)=false:=by rfl):PE X (.Call (.Name x p) (e::es) [] pos) (tCB r t):=by
 intro pins s σ H Q I h;refine fv (a2N I i j l ?_ k a);exact eY (thn (d pos pins s σ H _ I h) λo s1 ⟨vs,H1,c,n,m⟩=>f pins s1 σ H1 vs o Q c n m) g b
end
end L2
namespace HT
open PySem PyProof.Rows
noncomputable def lexLt:List Int->List Int->Bool
 |[],[]=>false
 |[],_::_=>true
 |_::_,[]=>false
 |x::xs,y::ys=>if x=y then lexLt xs ys else decide (x<y)
theorem lexLt_cons(x y:Int)(xs ys:List Int):lexLt (x::xs) (y::ys)=if x=y then lexLt xs ys else decide (x<y):=rfl
theorem a3t:lexLt [] []=false:=rfl
theorem a2L(y:Int)(ys:List Int):lexLt [] (y::ys)=true:=rfl
theorem a2M(x:Int)(xs:List Int):lexLt (x::xs) []=false:=rfl
theorem b3e(A:Around)(s:Shared)(a:Int)(t:Tok)(c:Int)(u:Tok):∃e,SeqAt.EqAt A s (.int a t) (.int c u) e/\(e=true↔a=c) :=
 ⟨(a==c),SeqAt.EqAt.int_int a t c u,by simp⟩
theorem b1r(A:Around)(s:Shared)(a:Int)(t:Tok)(c:Int)(u:Tok)(prog:Program)(w:World)(E:Value->Shared->Prop)(Q:Value->Shared->Prop)(h:Q (.bool (decide (a<c))) s) :
  wpAny (model prog w) A (richCompare .Lt (.int a t) (.int c u)) Q E s :=
 (PyProof.Rows.lt_int h:wpAny (model prog w) A (compareOp .Lt (.int a t) (.int c u)) Q E s)
section
open PySem.SeqAt
open PySem.AutoSeq1 (wpAny_loadPart')
open PySem.MeetsSeq PySem.MeetsSeq2 PySem.MeetsSeq3
theorem a3n(l b:Addr)(items f:Array Value)(n M:Nat)(dd E:Option Addr)(sl G:Array (Option Value))(ns ms:List Int)(hi:IntsAre items.toList ns)(H:IntsAre f.toList ms) :
  Meets (Builtin.«tuple.__lt__» ⟨[.ref l,.ref b],[]⟩)
   (λ_ R s=>s.heap.get? l=some {cls:=.type "tuple",dict:=dd,data:=.seq items n,slots:=sl}/\s.heap.get? b=some {cls:=.type "tuple",dict:=E,data:=.seq f M,slots:=G} /\
    R (.ok (.ret (.bool (lexLt ns ms)))) s) :=
 .of_wp λprog w A R s h=>by
  obtain⟨C,g,d,tk,os⟩:=s;obtain⟨L,J,h⟩:=h;have f2:=AutoSeq1.sub_tuple_tuple;have P:items.size=ns.length:=by rw[<-hi.length];simp
  have Q:f.size=ms.length:=by rw[<-H.length];simp
  wp_walk using wpAny_loadPart' L,wpAny_loadPart' J,fV _ (λrest b s'=>b.1=none/\s'=⟨C,g,d,tk,os⟩/\∃(vs D:List Value) (k j:List Int),rest=vs.zip D /\
   IntsAre vs k/\IntsAre D j/\k.length+f.size=j.length+items.size/\R (.ok (.ret (.bool (lexLt k j)))) ⟨C,g,d,tk,os⟩) _
  case turn =>
   rintro⟨y,x⟩ rest b s' ⟨r,rfl,vs,D,k,j,o,v,m,i,hR⟩;cases v with
   |nil=>rw[List.zip_nil_left]at o;cases o
   |cons a t z =>
    cases m with
    |nil=>rw[List.zip_nil_right]at o;cases o
    |cons c u B =>
     rw[List.zip_cons_cons]at o;injection o with hyx hrest
     injection hyx with hy hx
     subst hy hx;rw[lexLt_cons]at hR;simp only[aN]at i;obtain⟨e,K,p⟩:=b3e A.in1 ⟨C,g,d,tk,os⟩ a t c u;refine aa (K prog w _ _ ?_);cases e with
     |true =>
      rw[az (p.mp rfl)]at hR
      wp_walk
      exact⟨rfl,rfl,_,_,_,_,hrest,z,B,by omega,hR⟩
     |false =>
      rw[aq (λq=>absurd (p.mpr q) aS)]at hR;have F:=b1r A.in1 ⟨C,g,d,tk,os⟩ a t c u prog w
      wp_walk using F
      exact⟨_,rfl,by simpa using hR⟩
  case fin =>
   rintro⟨N,O⟩ s' ⟨r,rfl,vs,D,k,j,o,v,m,i,hR⟩;simp only at r;subst r;have I:lexLt k j=decide (items.size<f.size):=by
    cases v with
    |nil =>
     cases m with
     |nil =>
      simp only[gc]at i;rw[a3t];exact(bT (by omega)).symm
     |cons c u hw =>
      simp only[gc,aN]at i;rw[a2L];exact(bh (by omega)).symm
    |cons a t I =>
     cases m with
     |nil =>
      simp only[gc,aN]at i;rw[a2M];exact(bT (by omega)).symm
     |cons c u hw =>
      rw[List.zip_cons_cons]at o;cases o
   rw[I]at hR
   wp_walk
   exact⟨_,rfl,by simpa[Builtin.Tuple.tupleCompareSizes]using hR⟩
  case h =>
   exact⟨rfl,rfl,items.toList,f.toList,ns,ms,rfl,hi,H,by omega,h⟩
end
section
variable {prog:Program}{w:World}{A:Around}{E:Value->Shared->Prop}{s:Shared}
theorem lt_tupInts{l b:Addr}{items a:Array Value}{ns ms:List Int}{Q:Value->Shared->Prop}(q:IsTup s.heap l items)(o:IsTup s.heap b a)(hi:IntsAre items.toList ns)(p:IntsAre a.toList ms)
  (r:A.units<cLine) (h:Q (.bool (lexLt ns ms)) s):wpAny (model prog w) A (compareOp .Lt (.ref l) (.ref b)) Q E s:=by
 obtain⟨⟨cls,dd,data,sl⟩,m,k,n,hd⟩:=id q;obtain⟨⟨j,g,f,i⟩,e,c,t,d⟩:=id o;simp only at k hd c d;subst k hd c d;exact richCompare_meets_room (op:=.Lt) ⟨_,m,rfl⟩ ⟨_,e,rfl⟩ PySem.F.slot_tuple_lt PySem.F.entry_tuple_lt (PySem.F.args_tuple_lt_2 _ _) (a3n l b items a n t dd g sl i ns ms hi p)
  ⟨m,e,show Value.bool (lexLt ns ms)≠Value.notImplemented/\Q (.bool (lexLt ns ms)) s from⟨(λx=>nomatch x),h⟩⟩ r
theorem cat_tup{t b:Addr}{vs a:List Value}{Q:Value->Shared->Prop}(r:IsTup s.heap t vs.toArray)(q:IsTup s.heap b a.toArray)(o:vs≠[])
  (h1:a=[]->Q (.ref t) s) (h2:a≠[]->Q (.ref s.heap.objs.size) {s with heap:=s.heap.push {cls:=.type "tuple",data:=.seq (vs++a).toArray}})
  (k:vs.length+a.length<=sizeLine):wpAny (model prog w) A (binaryOp .Add (.ref t) (.ref b)) Q E s:=by
 obtain⟨⟨cls,dd,data,sl⟩,i,m,n,hd⟩:=id r;obtain⟨⟨l,d,j,h⟩,c,f,p,g⟩:=id q;simp only at m hd f g;subst m hd f g;have e:vs.toArray++a.toArray=(vs++a).toArray:=by simp
 by_cases hw:a=[]
 .exact concat_meets ⟨_,i,rfl⟩ ⟨_,c,rfl⟩ noFill_tuple_add seq_tuple_add PySem.F.slot_tuple_add PySem.F.entry_tuple_add (PySem.F.args_tuple_add_2 _ _)
   (tuple_addW1 t b vs.toArray a.toArray n p dd d sl h (by simpa using o) (by simp[hw])) ⟨i,c,h1 hw⟩
 .refine concat_meets ⟨_,i,rfl⟩ ⟨_,c,rfl⟩ noFill_tuple_add seq_tuple_add PySem.F.slot_tuple_add PySem.F.entry_tuple_add (PySem.F.args_tuple_add_2 _ _)
   (tuple_addW2 t b vs.toArray a.toArray n p dd d sl h (by simpa using o) (by simpa using hw) (by rw[aB,aB];exact k)) ⟨i,c,?_⟩
  rw[e];exact h2 hw
noncomputable def sIx(n d:Nat):Option Int->Nat
 |none=>d
 |some v=>if v<0 then(v+(n:Int)).toNat else min v.toNat n
theorem sIx_none(n d:Nat):sIx n d none=d:=rfl
theorem sIx_nat(n d k:Nat):sIx n d (some (k:Int))=min k n:=by
 show(if (k:Int)<0 then((k:Int)+(n:Int)).toNat else min (k:Int).toNat n)=min k n;rw[aq (by omega),bb]
theorem b6i(n d:Nat)(hd:d<=n)(o:Option Int):sIx n d o<=n:=by
 cases o with
 |none=>exact hd
 |some v =>
  show(if v<0 then(v+(n:Int)).toNat else min v.toNat n)<=n;by_cases a:v<0
  .rw[az a];omega
  .rw[aq a];exact Nat.min_le_right _ _
theorem a8X(v:Int)(n d:Nat):(if v<0 then max (v+(n:Int)) 0 else min v (n:Int))=((sIx n d (some v):Nat):Int):=by
 show(if v<0 then max (v+(n:Int)) 0 else min v (n:Int))=(((if v<0 then(v+(n:Int)).toNat else min v.toNat n):Nat):Int);by_cases a:v<0
 .simp only[az a];omega
 .simp only[aq a];omega
theorem a7C(lo hi:Option Int)(n:Nat):Builtin.Slice.sliceAdjust lo hi 1 (n:Int)=(((sIx n 0 lo:Nat):Int),((sIx n n hi:Nat):Int)):=by
 have h1:¬((1:Int)<0):=by omega
 unfold Builtin.Slice.sliceAdjust;simp only[h1,fW];refine Prod.ext ?_ ?_
 .cases lo with
  |none=>rfl
  |some v=>exact a8X v n 0
 .cases hi with
  |none=>rfl
  |some v=>exact a8X v n n
theorem a7a(i j:Nat):Builtin.Slice.slicePlaces (i:Int) (j:Int) 1=j-i:=by
 unfold Builtin.Slice.slicePlaces;have h1:(1:Int) > 0:=by omega
 simp only[h1,ei,Int.ediv_one];split<;>omega
theorem a2p{v:Value}{o:Option Int}{Q:Option Int->Shared->Prop}(p:IsPart v o)(h:Q o s):wpAny (model prog w) A (Builtin.Slice.slicePartIndex v) Q E s:=by
 cases p with
 |none=>exact slicePart_none h
 |int i t=>exact slicePart_int h
theorem R9{sl:Addr}{c d:Value}{lo hi:Option Int}{n:Nat}{Q:Int×Int×Nat->Shared->Prop}(hs:s.heap.IsSliceOf sl c d .none)(pl:IsPart c lo)(f:IsPart d hi)
  (h:Q (((sIx n 0 lo:Nat):Int),1,sIx n n hi-sIx n 0 lo) s):wpAny (model prog w) A (Builtin.Slice.sliceApplied (.ref sl) (pure (n:Int))) Q E s:=by
 obtain⟨os,b,e,a⟩:=id hs;unfold Builtin.Slice.sliceApplied Builtin.Slice.sliceFields;refine aa (aa (cy b a (x:=c) rfl (aa (cy b a (x:=d) rfl (aa (cy b a (x:=.none) rfl (ae ?_)))))));refine aa (slicePart_none ?_);show wpAny _ _ (if ((1:Int)==0)=true then _ else _) _ _ s;rw[aq (by decide)];refine aa (a2p pl (aa (a2p f (aa (ae ?_)))));show wpAny _ _ (match Builtin.Slice.sliceAdjust lo hi 1 (n:Int)with | (lo,hi)=>pure (lo,(1:Int),Builtin.Slice.slicePlaces lo hi 1)) _ _ s;rw[a7C lo hi n];show wpAny _ _ (pure (((sIx n 0 lo:Nat):Int),(1:Int),Builtin.Slice.slicePlaces ((sIx n 0 lo:Nat):Int) ((sIx n n hi:Nat):Int) 1)) _ _ s;rw[a7a];exact ae h
theorem b1N(xs:Array Value)(i k:Nat):((List.range k).filterMap λ(m:Nat)=>xs[((i:Int)+(m:Int)*1).toNat]?).toArray=((xs.toList.drop i).take k).toArray:=by
 have e:(λ(m:Nat)=>xs[((i:Int)+(m:Int)*1).toNat]?)=λm=>xs[i+m]?:=by
  funext m;have:((i:Int)+(m:Int)*1).toNat=i+m:=by omega
  rw[this]
 rw[e];have:=pick_run xs i k;rw[List.filterMap_map]at this;have a:((λx=>xs[x]?) ∘ λx=>i+x)=λm=>xs[i+m]?:=rfl;rw[a]at this;rw[this]
theorem getItem_tuple_cut{t sl:Addr}{items:Array Value}{g i:Value}{lo hi:Option Int}{Q:Value->Shared->Prop}(b:IsTup s.heap t items)(hs:s.heap.IsSliceOf sl g i .none)(pl:IsPart g lo)(l:IsPart i hi)
  (hw:¬(sIx items.size 0 lo=0/\sIx items.size items.size hi=items.size))
  (h:Q (.ref s.heap.objs.size) {s with heap:=s.heap.push {cls:=.type "tuple",data:=.seq ((items.toList.drop (sIx items.size 0 lo)).take (sIx items.size items.size hi-sIx items.size 0 lo)).toArray}})
  (k:items.size<=sizeLine):wpAny (model prog w) A (getItem (.ref t) (.ref sl)) Q E s:=by
 have a:sizeOk (.seq ((items.toList.drop (sIx items.size 0 lo)).take (sIx items.size items.size hi-sIx items.size 0 lo)).toArray):=by
  show((items.toList.drop (sIx items.size 0 lo)).take (sIx items.size items.size hi-sIx items.size 0 lo)).toArray.size<=sizeLine;rw[aB,a',cq,ay];omega
 have n:sIx items.size items.size hi<=items.size:=b6i _ _ (ao _) hi;obtain⟨os,f,d,j⟩:=id hs;have c:s.TypeIs (.ref sl) "slice":=⟨os,f,d⟩;unfold getItem
 try with_reducible refine b_ ?_
 first|refine aa (ae ?_)|skip
 refine aa (wpAny_sequenceKey b.typeIs (by decide) ?_);refine aa (bJ (name:=Str.ofString "__getitem__") b.typeIs bI
  (bM bI b.typeIs entry_tuple_getitem ?_ (args_tuple_getitem _ _)))
 show wpAny _ _ (Builtin.Tuple.tupleItemsOf (.ref t)>>=_) _ _ s;refine aa (tupleItemsOf_ b ?_);refine aa (eS c ?_);rw[az (by decide)];refine aa (R9 hs pl l ?_);have e:¬((((sIx items.size 0 lo:Nat):Int)==0 && (1:Int)==1 && (sIx items.size items.size hi-sIx items.size 0 lo)==items.size)=true):=by
  intro q;rw[aV,aV]at q;have o:((sIx items.size 0 lo:Nat):Int)=0:=eq_of_beq q.1.1;have p:sIx items.size items.size hi-sIx items.size 0 lo=items.size:=eq_of_beq q.2;exact hw ⟨by omega,by omega⟩
 show wpAny _ _ (if (((sIx items.size 0 lo:Nat):Int)==0 && (1:Int)==1 && (sIx items.size items.size hi-sIx items.size 0 lo)==items.size)=true then _ else _) _ _ s;rw[aq e,b1N]
 first
  |exact aa (m:=Builtin.Tuple.tupleExact _) (bt (ae ⟨_,rfl,ae h⟩) a)
  |exact aa (m:=Builtin.Tuple.tupleExact _) (bt (aa (ae (ae ⟨_,rfl,ae h⟩))) a)
  |exact aa (aa (m:=Builtin.Tuple.tupleExact _) (bt (ae (ae ⟨_,rfl,ae h⟩)) a))
  |exact aa (aa (m:=Builtin.Tuple.tupleExact _) (bt (ae ⟨_,rfl,ae h⟩) a))
end
end HT
namespace L2
open PySem PySem.Spec PyProof.Rows
abbrev TO:=St->Hp->(Option Int->Hp->Prop)->Prop
def PO(X:Cx)(e:Option Expr)(t:TO):Prop :=
 ∀(pins:List (Addr×Obj)) (s:Shared) (σ:St) (H:Hp) (Q:Option Int->Hp->Prop),Inv X pins σ H s->t σ H Q ->
  wpAny (model X.prog X.w) X.A (evalPart e X.env) (λu s'=>∃o H',Inv X pins σ H' s'/\IsPart u o/\Q o H') X.xe s
def a0s:TO:=λ_ H Q=>Q none H
def a7P(t:TE):TO:=λσ H Q=>t σ H λx H1=>∃i,x=.int i/\Q (some i) H1
theorem a0j{ns:List Int}:∀{us:List Value},Vals (ns.map V.int) us->IntsAre us ns:=by
 induction ns with
 |nil=>intro us r;rw[fz]at r;cases r;exact .nil
 |cons n ns a =>
  intro us r;rw[aP]at r;cases r with
  |cons r1 r2 =>
   obtain⟨t,e⟩:=r1;subst e;exact .cons n t (a r2)
section
variable {X:Cx}{e:Expr}{te:TE}{lo hi:Option Expr}{tl th:TO}{pos p2:Pos}
theorem b4k:PO X none a0s:=by
 intro pins s σ H Q I h;rw[evalPart_none];exact ae ⟨none,H,I,.none,h⟩
theorem b4j(h:PE X e te):PO X (some e) (a7P te):=by
 intro pins s σ H Q I hw;rw[evalPart_some];refine thn (h pins s σ H _ I hw) λu s1 ⟨x,H1,a,c,b⟩=>?_;obtain⟨i,rfl,q⟩:=b;obtain⟨t,rfl⟩:=c;exact⟨some i,H1,a,.int i t,q⟩
def SlR(X:Cx)(r:V->Option Int->Option Int->Hp->VK->Prop):Prop :=
 ∀(pins:List (Addr×Obj)) (s:Shared) (σ:St) (H:Hp) (x:V) (v vl vu:Value) (lo hi:Option Int) (sl:Addr) (Q:VK),Inv X pins σ H s->RelV x v->s.heap.IsSliceOf sl vl vu .none->IsPart vl lo->IsPart vu hi->r x lo hi H Q ->
  ∃T id,typeLookup (.type T) "__getitem__"=pure (some (.builtin id))/\s.TypeIs v T/\wpAny (model X.prog X.w) X.A (getItem v (.ref sl)) (EP X pins σ Q) X.xe s
def tSl(r:V->Option Int->Option Int->Hp->VK->Prop)(te:TE)(tl th:TO):TE:=λσ H Q=>te σ H λx H1=>tl σ H1 λl H2=>th σ H2 λu H3=>r x l u H3 Q
theorem a2y{r:V->Option Int->Option Int->Hp->VK->Prop}(p:SlR X r)(m:PE X e te)(o:PO X lo tl)(w:PO X hi th):PE X (.Subscript e (.Slice lo hi none p2) pos) (tSl r te tl th):=by
 intro pins s σ H Q I h;refine Subscript_ (thn (m pins s σ H _ I h) λv s1 ⟨x,H1,f,D,A⟩=>?_);refine wpAny_Slice (thn (o pins s1 σ H1 _ f A) λc s2 ⟨l,H2,g,y,B⟩=>thn (w pins s2 σ H2 _ g B) λvu a ⟨u,d,i,z,C⟩=>?_);rw[evalPart_none];refine ae ?_;have j:Inv X pins σ d {a with heap:=a.heap.push {cls:=.type "slice",data:=.fields #[c,vu,.none]}}:=i.kept (t':=a.toks) λb E q=>ag _ q;obtain⟨T,id,k,t,n⟩:=p pins {a with heap:=a.heap.push {cls:=.type "slice",data:=.fields #[c,vu,.none]}} σ d x v c vu l u a.heap.objs.size Q j D (Heap.IsSliceOf.new ..) y z C;show wpAny (model X.prog X.w) X.A (subscriptTail e (.Slice lo hi none p2) v (.ref a.heap.objs.size)) (EP X pins σ Q) X.xe {a with heap:=a.heap.push {cls:=.type "slice",data:=.fields #[c,vu,.none]}};exact tail_any (ops:=[.ref a.heap.objs.size,v]) t k n (by with_unfolding_all rfl)
noncomputable def P5(xs:List V)(lo hi:Option Int):List V:=(xs.drop (HT.sIx xs.length 0 lo)).take (HT.sIx xs.length xs.length hi-HT.sIx xs.length 0 lo)
theorem W9(xs:List V)(lo hi:Option Int):(P5 xs lo hi).length<=xs.length:=by
 unfold P5;rw[a',cq];omega
def b1z(K:PySem.W.Frag):V->Option Int->Option Int->Hp->VK->Prop:=λx lo hi H Q=>∃a xs,x=.ref a/\SqT K H a xs /\
 ¬(HT.sIx xs.length 0 lo=0/\HT.sIx xs.length xs.length hi=xs.length)/\∀p,H p=none->Q (.ref p) (upd H p (.tup (P5 xs lo hi)))
theorem b1b:SlR X (b1z X.K):=by
 intro pins s σ H x v l m lo hi sl Q I j hs g i h;obtain⟨a,xs,rfl,f,hw,q⟩:=h;cases j;obtain⟨its,r,d,e⟩:=I.tuple f;have c:its.toArray.size=xs.length:=by rw[aB];exact r.length.symm
 refine⟨"tuple",_,bI.lookup,d.typeIs,?_⟩;refine HT.getItem_tuple_cut d hs g i (by rw[c];exact hw) ?_ (by rw[c];exact e);rw[c];refine⟨.ref s.heap.objs.size,_,I.laid (t':=s.toks) (o:=.tup (P5 xs lo hi)) (λb k q=>ag _ q) (ao _) ?_,rfl,q _ (I.hok.fresh (ao _))⟩;exact⟨bf (W9 xs lo hi) e,_,(r.drop (HT.sIx xs.length 0 lo)).take (HT.sIx xs.length xs.length hi-HT.sIx xs.length 0 lo),IsTp.new _ _⟩
def b8p(K:PySem.W.Frag):R2:=λx y H Q=>∃a b xs ys,x=.ref a/\y=.ref b/\SqT K H a xs/\SqT K H b ys/\xs≠[]/\xs.length+ys.length<=sizeLine /\
 (ys=[]->Q (.ref a) H)/\(ys≠[]->∀p,H p=none->Q (.ref p) (upd H p (.tup (xs++ys))))
theorem Vals.nil_iff{xs:List V}{us:List Value}(r:Vals xs us):us=[]↔xs=[]:=by
 cases r with
 |nil=>simp
 |cons _ _=>simp
theorem b4C:OpR X (binaryOp .Add) (b8p X.K):=by
 intro pins s σ H x y v u Q I m n h;obtain⟨a,b,xs,ys,rfl,rfl,g,i,j,e,k,l⟩:=h;cases m;cases n;obtain⟨its,d,p1,_⟩:=I.tuple g;obtain⟨f,c,p2,_⟩:=I.tuple i;refine HT.cat_tup p1 p2 (λz=>j (d.nil_iff.mp z)) (λz=>⟨.ref a,H,I,rfl,k (c.nil_iff.mp z)⟩) (λz=>?_) (by rw[<-d.length,<-c.length];exact e);refine⟨.ref s.heap.objs.size,_,I.laid (t':=s.toks) (o:=.tup (xs++ys)) (λb p q=>ag _ q) (ao _) ?_,rfl,l (λw=>z (c.nil_iff.mpr w)) _ (I.hok.fresh (ao _))⟩;exact⟨by rw[ax];exact e,_,d.append c,IsTp.new _ _⟩
end
noncomputable def ixN(n:Nat)(i:Int):Option Nat:=if 0<=i then(if i<n then some i.toNat else none)else if -(n:Int)<=i then some (i+n).toNat else none
noncomputable def atI{α:Type}(xs:List α)(i:Int):Option α:=(ixN xs.length i).bind λj=>xs[j]?
theorem a8G{n:Nat}{i:Int}{j:Nat}(h:ixN n i=some j):seqIndex? i n=some j/\j<n /\ -(n:Int)<=i/\i<n:=by
 unfold ixN at h;by_cases a:0<=i
 .rw[az a]at h;by_cases h1:i<n
  .rw[az h1]at h;have e:i.toNat=j:=bG h;exact⟨by rw[seqIndex_of a h1,e],by omega,by omega,h1⟩
  .rw[aq h1]at h;cases h
 .rw[aq a]at h;by_cases h1 : -(n:Int)<=i
  .rw[az h1]at h;have e:(i+n).toNat=j:=bG h;exact⟨by rw[seqIndex_neg (by omega) h1,e],by omega,h1,by omega⟩
  .rw[aq h1]at h;cases h
theorem a9a{α:Type}{xs:List α}{i:Int}{v:α}(h:atI xs i=some v):∃j,seqIndex? i xs.length=some j/\xs[j]?=some v/\j<xs.length /\ -(xs.length:Int)<=i/\i<xs.length:=by
 unfold atI at h;cases e:ixN xs.length i with
 |none=>rw[e]at h;cases h
 |some j =>
  rw[e]at h;obtain⟨h1,h2,a,b⟩:=a8G e;exact⟨j,h1,h,h2,a,b⟩
theorem a5d{α:Type}{xs:List α}{j:Nat}{v:α}(h:xs[j]?=some v):atI xs (j:Int)=some v:=by
 have a:j<xs.length:=(aH.mp h).1;have e:ixN xs.length (j:Int)=some j:=by
  unfold ixN;rw[az (by omega),az (by omega)];simp
 unfold atI;rw[e];exact h
def a5e(b:Expr):Prop:=∀o i,subscripted b false o i=operate [o,i] (getItem o i)
def IxR(X:Cx)(r:R2):Prop :=
 ∀(value slice:Expr) (pins:List (Addr×Obj)) (s:Shared) (σ:St) (H:Hp) (x y:V) (v u:Value) (Q:VK),Inv X pins σ H s->RelV x v->RelV y u->r x y H Q ->
  subscripted slice false v u=operate [v,u] (getItem v u)->wpAny (model X.prog X.w) X.A (subscriptTail value slice v u) (EP X pins σ Q) X.xe s
def MtR(X:Cx)(id:String)(r:V->List V->Hp->VK->Prop):Prop :=
 ∀(pins:List (Addr×Obj)) (s:Shared) (σ:St) (H:Hp) (x:V) (xs:List V) (v:Value) (us:List Value) (Q:VK),Inv X pins σ H s->RelV x v->Vals xs us->r x xs H Q ->
  wpAny (model X.prog X.w) X.A (call (.builtin id) (v::us)) (EP X pins σ Q) X.xe s
section
variable {X:Cx}{a b:Expr}{ta tb:TE}{pos:Pos}
theorem b5O{r:R2}(f:IxR X r)(d:PE X a ta)(e:PE X b tb)(hs:a5e b):PE X (.Subscript a b pos) (tOp r ta tb):=by
 intro pins s σ H Q I h;exact Subscript_ (b7E d e I h λv u s2 x y H2 c g i q=>f a b pins s2 σ H2 x y v u Q c g i q (hs _ _))
def b4d(K:PySem.W.Frag):R2:=λx y H Q=>∃p xs i v,x=.ref p/\y=.int i/\SqL K H p xs/\atI xs i=some v/\Q v H
def b6m(K:PySem.W.Frag):R2:=λx y H Q=>∃p xs i v,x=.ref p/\y=.int i/\SqT K H p xs/\atI xs i=some v/\Q v H
theorem b4Z:IxR X (b4d X.K):=by
 intro value c pins s σ H x y v u Q I n o h hs;obtain⟨p,xs,i,z,rfl,rfl,m,k,q⟩:=h;cases n;obtain⟨t,rfl⟩:=o;obtain⟨its,r,a,C⟩:=I.list m;obtain⟨j,h1,h2,A,f,g⟩:=a9a k;obtain⟨w,d,b⟩:=r.get h2;have l:=r.length;have B:=a2K;have fin:EP X pins σ Q w s:=⟨z,H,I,b,q⟩;by_cases e:0<=i
 .have hj:i.toNat=j:=by
   rw[seqIndex_of e g]at h1;exact bG h1
  exact item_listR a.isList e (by omega) (by rw[hj];simpa using d) fin hs
 .have hj:(i+(its.toArray.size:Int)).toNat=j:=by
   rw[seqIndex_neg (by omega) f]at h1;rw[aB,<-l];exact bG h1
  exact subscriptTail_builtinR (x:=w) a.isList.typeIs slot_list_getitem.lookup
   (wpAny_getItem_list_neg (Q:=λr s'=>r=w/\EP X pins σ Q r s') a.isList (by omega) (by rw[aB]<;>omega) (by omega) (by rw[hj];simpa using d) ⟨rfl,fin⟩) hs
theorem b7r:IxR X (b6m X.K):=by
 intro value b pins s σ H x y v u Q I k l h hs;obtain⟨p,xs,i,z,rfl,rfl,g,e,q⟩:=h;cases k;obtain⟨t,rfl⟩:=l;obtain⟨its,r,c,B⟩:=I.tuple g;obtain⟨j,h1,h2,m,n,o⟩:=a9a e;obtain⟨w,d,a⟩:=r.get h2;have f:=r.length;have A:=a2K;have fin:EP X pins σ Q w s:=⟨z,H,I,a,q⟩;exact subscriptTail_builtinR (x:=w) c.typeIs slot_tuple_getitem.lookup
  (getItem_tuple (j:=j) (Q:=λr s'=>r=w/\EP X pins σ Q r s') c (by omega) (by omega) (by rw[aB,<-f];exact h1) (by simpa using d) ⟨rfl,fin⟩) hs
theorem a7g(its:List Value)(n j:Nat)(u:Value):Obj.mapSeq (·.setIfInBounds j u) {cls:=.type "list",data:=.seq its.toArray n}={cls:=.type "list",data:=.seq (its.set j u).toArray n}:=by
 simp[Obj.mapSeq]
theorem Inv.lst{pins:List (Addr×Obj)}{σ:St}{H:Hp}{s:Shared}{p:Addr}{xs:List V}(I:Inv X pins σ H s)(h:H p=some (.lst xs)) :
  ∃(its:List Value) (n:Nat),Vals xs its/\s.heap.get? p=some {cls:=.type "list",data:=.seq its.toArray n}/\xs.length<=sizeLine:=by
 obtain⟨z,its,n,r,e⟩:=I.hok p _ h;exact⟨its,n,r,e,z⟩
theorem Inv.lstUpd{pins:List (Addr×Obj)}{σ:St}{H:Hp}{s:Shared}{p:Addr}{xs ys:List V}{its its':List Value}{n a:Nat}{f:Obj->Obj}(I:Inv X pins σ H s)(h:H p=some (.lst xs))
  (g:s.heap.get? p=some {cls:=.type "list",data:=.seq its.toArray n}) (c:f {cls:=.type "list",data:=.seq its.toArray n}={cls:=.type "list",data:=.seq its'.toArray a}) (r:Vals ys its') (i:ys.length<=sizeLine) (t:Nat) :
  Inv X pins σ (upd H p (.lst ys)) {s with heap:=s.heap.update p f,toks:=t}:=by
 have e:(s.heap.update p f).get? p=some {cls:=.type "list",data:=.seq its'.toArray a}:=by
  rw[cp f g (by rw[c]<;>rfl),c]
 refine I.write (x:=p) (e:=p) (by rw[h];trivial) (.inl rfl) (λb u d q=>(cO _ _ (dJ d)).trans q) ⟨_,e⟩ ?_;exact⟨i,its',a,r,e⟩
def b5G:V->V->V->Hp->(Hp->Prop)->Prop:=λo i v H Q=>∃p xs k j,o=.ref p/\i=.int k/\H p=some (.lst xs)/\ixN xs.length k=some j/\Q (upd H p (.lst (xs.set j v)))
theorem b1f:b8P X b5G:=by
 intro pins s σ H o i v B A u Q I x w y h;obtain⟨p,xs,k,j,rfl,rfl,g,l,q⟩:=h;cases x;obtain⟨t,rfl⟩:=w;obtain⟨its,n,r,b,m⟩:=I.lst g;obtain⟨h1,h2,e,f⟩:=a8G l;have a:=r.length;have z:=a2K;have c:Inv X pins σ (upd H p (.lst (xs.set j v))) {s with heap:=s.heap.update p (Obj.mapSeq (·.setIfInBounds j u))} :=
  I.lstUpd g b (a7g its n j u) (r.set y j) (by rw[dN];exact m) s.toks
 by_cases d:0<=k
 .have hk:k.toNat=j:=by
   rw[seqIndex_of d f]at h1;exact bG h1
  exact PySem.W.ki_setAt b d (by omega) (by rw[aB,<-a];exact f) (by rw[hk];exact⟨_,c,q⟩)
 .have hk:(k+(its.toArray.size:Int)).toNat=j:=by
   rw[seqIndex_neg (by omega) e]at h1;rw[aB,<-a];exact bG h1
  exact PySem.W.ki_setBack b (by omega) (by rw[aB,<-a];exact e) (by omega) (by rw[hk];exact⟨_,c,q⟩)
theorem a4t(lo hi:Option Int)(n:Nat):(sliceBounds lo hi none n).1=((HT.sIx n 0 lo:Nat):Int)/\(sliceBounds lo hi none n).2.1=((HT.sIx n n hi:Nat):Int)/\(sliceBounds lo hi none n).2.2=1:=by
 refine⟨?_,?_,rfl⟩
 .cases lo with
  |none=>simp[sliceBounds,HT.sIx]
  |some i =>
   simp only[sliceBounds,HT.sIx,Option.getD_none,show(1:Int) > 0 by decide,ei];by_cases h:i<0
   .simp only[h,ei]<;>omega
   .simp only[h,fW]<;>omega
 .cases hi with
  |none=>simp[sliceBounds,HT.sIx]
  |some i =>
   simp only[sliceBounds,HT.sIx,Option.getD_none,show(1:Int) > 0 by decide,ei];by_cases h:i<0
   .simp only[h,ei]<;>omega
   .simp only[h,fW]<;>omega
theorem a3p(its:List Value)(lo hi:Option Int):slicePick its.toArray lo hi none=((its.drop (HT.sIx its.length 0 lo)).take (HT.sIx its.length its.length hi-HT.sIx its.length 0 lo)).toArray:=by
 obtain⟨h1,h2,a⟩:=a4t lo hi its.toArray.size;unfold slicePick;rw[h1,h2,a];simp only[sliceRange_one,pick_run,aB]<;>rfl
def b6l(K:PySem.W.Frag):V->Option Int->Option Int->Hp->VK->Prop:=λx lo hi H Q=>∃a xs,x=.ref a/\SqL K H a xs/\∀p,H p=none->Q (.ref p) (upd H p (.lst (P5 xs lo hi)))
theorem b3O:SlR X (b6l X.K):=by
 intro pins s σ H x v l m lo hi sl Q I j hs g i h;obtain⟨a,xs,rfl,e,q⟩:=h;cases j;obtain⟨its,r,d,f⟩:=I.list e;have c:=r.length;refine⟨"list",_,slot_list_getitem.lookup,d.isList.typeIs,?_⟩;refine wpAny_getItem_list_slice d.isList hs g i .none (by simp) ?_ (by rw[aB]<;>omega);rw[a3p,<-c];refine⟨.ref s.heap.objs.size,_,I.laid (t':=s.toks) (o:=.lst (P5 xs lo hi)) (λb k q=>ag _ q) (ao _) ?_,rfl,q _ (I.hok.fresh (ao _))⟩;exact⟨bf (W9 xs lo hi) f,_,0,(r.drop (HT.sIx xs.length 0 lo)).take (HT.sIx xs.length xs.length hi-HT.sIx xs.length 0 lo),aD _ rfl⟩
noncomputable def a6l:V->Bool
 |.non=>true
 |.bl _=>true
 |.int _=>true
 |.str _=>true
 |_=>false
noncomputable def eqV:V->V->Bool
 |.non,.non=>true
 |.bl a,.bl b=>a==b
 |.bl a,.int b=>(if a then 1 else 0)==b
 |.int a,.bl b=>a==(if b then 1 else 0)
 |.int a,.int b=>a==b
 |.str a,.str b=>a==b
 |_,_=>false
theorem b7z{A:Around}{s:Shared}{y x:V}{u v:Value}(d:RelV y u)(c:RelV x v)(fy:a6l y=true)(fx:a6l x=true):SeqAt.EqAt A s u v (eqV y x):=by
 cases y with
 |non =>
  cases d;cases x with
  |non=>cases c;exact SeqAt.EqAt.same _
  |bl b=>cases c;exact SeqAt.EqAt.none_bool b
  |int b=>obtain⟨t,rfl⟩:=c;exact SeqAt.EqAt.none_int b t
  |str b=>obtain⟨t,rfl⟩:=c;exact SeqAt.EqAt.none_str b t
  |_=>exact absurd (show false=true from fx) aS
 |bl a =>
  cases d;cases x with
  |non=>cases c;exact SeqAt.EqAt.bool_none a
  |bl b=>cases c;exact SeqAt.EqAt.bool_bool a b
  |int b=>obtain⟨t,rfl⟩:=c;exact SeqAt.EqAt.bool_int a b t
  |str b=>obtain⟨t,rfl⟩:=c;exact SeqAt.EqAt.bool_str a b t
  |_=>exact absurd (show false=true from fx) aS
 |int a =>
  obtain⟨t',rfl⟩:=d;cases x with
  |non=>cases c;exact SeqAt.EqAt.int_none a t'
  |bl b=>cases c;exact SeqAt.EqAt.int_bool a t' b
  |int b=>obtain⟨t,rfl⟩:=c;exact SeqAt.EqAt.int_int a t' b t
  |str b=>obtain⟨t,rfl⟩:=c;exact SeqAt.EqAt.int_str a t' b t
  |_=>exact absurd (show false=true from fx) aS
 |str a =>
  obtain⟨t',rfl⟩:=d;cases x with
  |non=>cases c;exact SeqAt.EqAt.str_none a t'
  |bl b=>cases c;exact SeqAt.EqAt.str_bool a t' b
  |int b=>obtain⟨t,rfl⟩:=c;exact SeqAt.EqAt.str_int a t' b t
  |str b=>obtain⟨t,rfl⟩:=c;exact SeqAt.EqAt.str_str a t' b t
  |_=>exact absurd (show false=true from fx) aS
 |_=>exact absurd (show false=true from fy) aS
theorem a5b:E2 X (.builtin "len") (λxs H Q=>∃p ys,xs=[.ref p]/\(SqL X.K H p ys∨SqT X.K H p ys)/\Q (.int ys.length) H):=by
 intro pins s σ H xs e Q I r h;obtain⟨p,ys,rfl,b,q⟩:=h;obtain⟨u,rfl,c⟩:=a3A r;cases c;have d:=a2K;rcases b with b|b
 .obtain⟨its,r',pl,hz⟩:=I.list b;have a:=r'.length;exact Calls.call_len_list pl.isList (by simp only[aB]<;>omega) ⟨.int ys.length,H,I.tok _,⟨s.toks+1,by rw[aB,a]⟩,q⟩
 .obtain⟨its,r',pl,hz⟩:=I.tuple b;have a:=r'.length;exact len_tuple pl (by simp only[aB]<;>omega) ⟨.int ys.length,H,I.tok _,⟨s.toks+1,by rw[aB,a]⟩,q⟩
theorem a5a:E2 X (.type "list") (λxs H Q=>∃p ys,xs=[.ref p]/\(SqL X.K H p ys∨SqT X.K H p ys)/\∀l,H l=none->Q (.ref l) (upd H l (.lst ys))):=by
 intro pins s σ H xs k Q I r h;obtain⟨p,ys,rfl,d,q⟩:=h;obtain⟨u,rfl,j⟩:=a3A r;cases j;have fin:∀(its:List Value),Vals ys its->ys.length<=sizeLine->∀(h':Heap) (c':Nat),(∀b o',s.heap.get? b=some o'->h'.get? b=some o') ->
   h'.get? s.heap.objs.size=some {cls:=.type "list",dict:=none,data:=.seq its.toArray c',slots:=#[]}->EP X pins σ Q (.ref s.heap.objs.size) {s with heap:=h'}:=λits a f h' c' kp e =>
  ⟨.ref s.heap.objs.size,_,I.laid (t':=s.toks) kp (ao _) (show ObjOk X.prog X.w _ h' _ (.lst ys)from⟨f,its,c',a,e⟩),rfl,q _ (I.hok.fresh (ao _))⟩
 rcases d with d|d
 .obtain⟨its,a,pl,f⟩:=I.list d;have c:=a.length;obtain⟨o,i,g,n,hd⟩:=pl.isList;exact call_list_seq p (.inl rfl) i g hd (λh' c' kp e=>fin its a f h' c' kp e) (by simp only[aB]<;>omega)
 .obtain⟨its,a,pl,f⟩:=I.tuple d;have c:=a.length;obtain⟨o,i,g,n,hd⟩:=pl;exact call_list_seq p (.inr rfl) i g hd (λh' c' kp e=>fin its a f h' c' kp e) (by simp only[aB]<;>omega)
theorem a3u:E2 X (.type "tuple") (λxs H Q=>∃p ys,xs=[.ref p]/\((SqL X.K H p ys/\∀l,H l=none->Q (.ref l) (upd H l (.tup ys)))∨(SqT X.K H p ys/\Q (.ref p) H))):=by
 intro pins s σ H xs i Q I r h;obtain⟨p,ys,rfl,h⟩:=h;obtain⟨u,rfl,g⟩:=a3A r;cases g;rcases h with⟨a,q⟩|⟨a,q⟩
 .obtain⟨its,r',pl,hz⟩:=I.list a;have d:=r'.length;refine call_tuple_list pl.isList (λh' kp=>?_) (by simp only[aB]<;>omega);have c:Inv X pins σ H {s with heap:=h'}:=I.kept (t':=s.toks) kp;have f:Inv X pins σ (upd H h'.objs.size (.tup ys)) {s with heap:=h'.push {cls:=.type "tuple",data:=.seq its.toArray}} :=
   c.laid (t':=s.toks) (λb o e=>ag _ e) (ao _) (show ObjOk X.prog X.w _ _ _ (.tup ys)from⟨hz,its,r',IsTp.new _ _⟩)
  exact⟨.ref h'.objs.size,_,f,rfl,q _ (c.hok.fresh (ao _))⟩
 .obtain⟨its,r',pl,hz⟩:=I.tuple a;exact call_tuple_same pl ⟨.ref p,H,I,rfl,q⟩
def tyV(K:PySem.W.Frag)(T:String)(x:V)(H:Hp):Prop:=match x with
 |.str _=>T="str"
 |.int _=>T="int"
 |.ref p=>(T="list" /\ ∃xs,SqL K H p xs)∨(T="tuple" /\ ∃o,K.lookup p=some o/\o.cls=.type "tuple"/\o.dict=none) ∨
   (T="dict"/\((∃kvs,H p=some (.dK kvs))∨∃kvs,H p=some (.dT kvs)))∨(T="set" /\ ∃S n,H p=some (.set S n))
 |_=>False
theorem b6a{pins:List (Addr×Obj)}{σ:St}{H:Hp}{s:Shared}{T:String}{x:V}{v:Value}(I:Inv X pins σ H s)(r:RelV x v)(ty:tyV X.K T x H) :
  s.TypeIs v T/\∀a,v=.ref a->∃f,s.heap.get? a=some f/\f.dict=none:=by
 cases x with
 |str z =>
  obtain⟨t,rfl⟩:=r;cases(show T="str" from ty);exact⟨typeIs_str s z t,λ_ e=>nomatch e⟩
 |int i =>
  obtain⟨t,rfl⟩:=r;cases(show T="int" from ty);exact⟨fJ s i t,λ_ e=>nomatch e⟩
 |ref p =>
  cases r;rcases ty with⟨rfl,xs,h⟩|⟨rfl,o,b,g,hd⟩|⟨rfl,b⟩|⟨rfl,S,n,b⟩
  .obtain⟨its,_,pl,_⟩:=I.list h;refine⟨pl.isList.typeIs,λa e=>?_⟩;cases e;obtain⟨o,n,e,c,hd,_⟩:=pl;exact⟨o,e,hd⟩
  .refine⟨⟨o,I.kIn p o b,g⟩,λa e=>?_⟩;cases e;exact⟨o,I.kIn _ o b,hd⟩
  .have z:∃o,s.heap.get? p=some o/\o.ExactDict:=by
    rcases b with⟨kvs,b⟩|⟨kvs,b⟩
    .obtain⟨_,_,_,_,o,_,_,e,ex,_⟩:=I.hok p _ b;exact⟨o,e,ex⟩
    .obtain⟨_,_,_,_,o,_,_,e,ex,_⟩:=I.hok p _ b;exact⟨o,e,ex⟩
   obtain⟨o,e,ex⟩:=z;refine⟨⟨o,e,ex.1⟩,λa d=>?_⟩;cases d;exact⟨o,e,ex.2.1⟩
  .obtain⟨o,_,_,_,e,ex,_⟩:=I.hok p _ b;refine⟨⟨o,e,ex.1⟩,λa d=>?_⟩;cases d;exact⟨o,e,ex.2.1⟩
 |_=>exact False.elim ty
def tBM(K:PySem.W.Frag)(T:String)(r:V->List V->Hp->VK->Prop)(to:TE)(t:TA):TE:=λσ H Q=>to σ H λx H1=>tyV K T x H1/\t σ H1 λxs H2=>r x xs H2 Q
variable {o e:Expr}{es:List Expr}{to:TE}{t:TA}{name:Str}{apos cpos:Pos}{T id:String}{r:V->List V->Hp->VK->Prop}
theorem b8v(q:PlainAttrs T)(f:Slot T name id)(g:typeOf (.builtin id)=pure (.type "method_descriptor"))(n:MtR X id r)(p:PE X o to)(m:PA X (e::es) t)
  (b:attributeBase o name X.env (eval o X.env)=eval o X.env:=by rfl)
  (d:((backTo cpos (starEach (e::es) X.env)).all (λx=>!x.1) && (backToKw cpos (keywordEach [] X.env)).all (λx=>x.1.isSome)
   && decide ((e::es).length+([]:List Keyword).length+(if ([]:List Keyword).isEmpty then 0 else 1)<30))=true:=by rfl)
  (c:(apos.endLine==cpos.line)=true:=by rfl) (hs:starEach (e::es) X.env=(false,eval e X.env)::starEach es X.env:=by rfl) (a:(backTo cpos (starEach es X.env)).any (·.1)=false:=by rfl) :
  PE X (.Call (.Attribute o name apos) (e::es) [] cpos) (tBM X.K T r to t):=by
 intro pins s σ H Q I h;refine wpAny_Call_method_late b d c rfl (thn (p pins s σ H _ I h) λv s1 ⟨x,H1,i,k,ty,u⟩=>?_);obtain⟨h1,h2⟩:=b6a i k ty;refine⟨T,id,q,f,g,h1,h2,?_⟩;have j:=m cpos pins s1 σ H1 _ i u;rw[hs]at j⊢;refine fT (by show(false || (backTo cpos (starEach es X.env)).any (·.1))=false;rw[a]<;>rfl) (e_ ?_);exact thn j λz s2 ⟨vs,H2,l,y,w⟩=>n pins s2 σ H2 x vs v z Q l k y w
end
def MtM(X:Cx)(id:String)(r:V->List V->Hp->VK->Prop):Prop :=
 ∀(pins:List (Addr×Obj)) (s:Shared) (σ:St) (H:Hp) (x:V) (xs:List V) (v:Value) (us:List Value) (Q:VK),Inv X pins σ H s->RelV x v->Vals xs us->r x xs H Q ->
  wpAny (model X.prog X.w) X.A (call (.builtin id) (v::us)) (EP X pins σ Q) X.xe s
theorem Vals.one{x:V}{us:List Value}(h:Vals [x] us):∃u,us=[u]/\RelV x u:=by
 cases h with
 |cons r q=>cases q;exact⟨_,rfl,r⟩
theorem Vals.two{x y:V}{us:List Value}(h:Vals [x,y] us):∃u v,us=[u,v]/\RelV x u/\RelV y v:=by
 cases h with
 |cons r h=>obtain⟨v,rfl,q⟩:=Vals.one (x:=y) h;exact⟨_,_,rfl,r,q⟩
theorem Vals.eraseIdx:∀{xs:List V}{us:List Value}(i:Nat),Vals xs us->Vals (xs.eraseIdx i) (us.eraseIdx i)
 |_,_,_,.nil=>.nil
 |_,_,0,.cons _ t=>t
 |_,_,i+1,.cons r t=>.cons r (Vals.eraseIdx i t)
theorem Vals.reverse{xs:List V}{us:List Value}(h:Vals xs us):Vals xs.reverse us.reverse:=by
 induction h with
 |nil=>exact .nil
 |cons r t a=>rw[eM,eM];exact Vals.append a (.cons r .nil)
theorem Vals.rep{xs:List V}{us:List Value}(h:Vals xs us):∀k:Nat,Vals (List.replicate k xs).flatten (List.replicate k us).flatten
 |0=>.nil
 |k+1=>by
  rw[bH,bH,cP,cP];exact Vals.append h (Vals.rep h k)
theorem a3L{α:Type}:∀(l:List α) (i:Nat),(l.eraseIdx i).length<=l.length
 |[],_=>ao _
 |_::_,0=>dU _
 |_::r,i+1=>Nat.succ_le_succ (a3L r i)
theorem a3R(its:List Value):∀(k:Nat) (acc:List Value),
  List.foldl (λb c=>b++c) acc.toArray (List.replicate k its.toArray)=(acc++(List.replicate k its).flatten).toArray
 |0,acc=>by simp
 |k+1,acc=>by
  have e:acc.toArray++its.toArray=(acc++its).toArray:=by simp
  have a:(acc++its)++(List.replicate k its).flatten=acc++(List.replicate (k+1) its).flatten:=by
   rw[bH,cP,aG]
  rw[<-a,<-a3R its k (acc++its),<-e,bH,dm]
section
variable {X:Cx}{pins:List (Addr×Obj)}{σ:St}{H:Hp}{s:Shared}{l b:Addr}{xs ys zs:List V}
theorem Inv.lset{its its':List Value}{n:Nat}{f:Array Value->Array Value}{t':Nat}(I:Inv X pins σ H s)(a:H l=some (.lst xs))
  (e:s.heap.get? l=some {cls:=.type "list",data:=.seq its.toArray n}) (c:f its.toArray=its'.toArray) (g:Vals ys its') (h:ys.length<=sizeLine) :
  Inv X pins σ (upd H l (.lst ys)) {s with heap:=s.heap.update l (Obj.mapSeq f),toks:=t'}:=by
 have q:=PySem.IsL.update e f;rw[c]at q;refine I.write (x:=l) (e:=l) (by rw[a];exact trivial) (.inl rfl) (λb' u b d=>(cO s.heap (Obj.mapSeq f) (dJ b)).trans d) ⟨_,q⟩ ?_;exact⟨h,its',_,g,q⟩
theorem Inv.lnew{its:List Value}{t':Nat}(I:Inv X pins σ H s)(a:Vals ys its)(hz:ys.length<=sizeLine) :
  Inv X pins σ (upd H s.heap.objs.size (.lst ys)) {s with heap:=s.heap.push {cls:=.type "list",data:=.seq its.toArray},toks:=t'} :=
 I.laid (λ_ _ q=>ag _ q) (ao _) ⟨hz,its,0,a,aD _ rfl⟩
theorem Inv.fresh(I:Inv X pins σ H s):H s.heap.objs.size=none:=I.hok.fresh (ao _)
theorem Inv.lstM(I:Inv X pins σ H s)(a:H l=some (.lst xs)):xs.length<=sizeLine/\∃(its:List Value) (n:Nat),Vals xs its/\xs.length=its.length/\s.heap.get? l=some {cls:=.type "list",data:=.seq its.toArray n}:=by
 obtain⟨z,its,n,r,e⟩:=I.hok l _ a;exact⟨z,its,n,r,r.length,e⟩
theorem a5T{n:Nat}(h:n<=sizeLine):Builtin.List.listTooLong n=false:=by
 unfold Builtin.List.listTooLong;exact bT (by omega)
end
section
variable {X:Cx}
def a8m:V->List V->Hp->VK->Prop:=λx vs H Q=>∃l xs y,x=.ref l/\vs=[y]/\H l=some (.lst xs)/\xs.length<sizeLine/\Q .non (upd H l (.lst (xs++[y])))
theorem a9N:MtM X "list.append" a8m:=by
 intro pins s σ H x vs v i Q I d c h;obtain⟨l,xs,y,rfl,rfl,a,g,q⟩:=h;cases d;obtain⟨u,rfl,b⟩:=c.one;obtain⟨z,its,n,r,f,e⟩:=I.lstM a;refine dn F.slot_list_append ⟨_,e,rfl⟩ F.entry_list_append (F.args_list_append_2 _ _) (PySem.list_append l its.toArray n u (by rw[aB];omega)) ⟨e,?_⟩;refine⟨.non,_,I.lset (its':=its++[u]) a e (by simp) (r.append (.cons b .nil)) ?_,rfl,q⟩;rw[ax,f'];omega
def a8l:V->List V->Hp->VK->Prop:=λx vs H Q=>∃l b xs zs,x=.ref l/\vs=[.ref b]/\H l=some (.lst xs)/\H b=some (.lst zs)/\xs.length+zs.length<=sizeLine/\Q .non (upd H l (.lst (xs++zs)))
theorem a9M:MtM X "list.extend" a8l:=by
 intro pins s σ H x vs v A Q I t p h;obtain⟨l,b,xs,zs,rfl,rfl,f,i,y,q⟩:=h;cases t;obtain⟨u,rfl,o⟩:=p.one;cases o;obtain⟨z,its,n,r,w,e⟩:=I.lstM f;obtain⟨B,a,k,m,j,g⟩:=I.lstM i;have d:its.toArray.size+a.toArray.size<=sizeLine:=by rw[aB,aB];omega
 have c:¬(!its.toArray.isEmpty && Builtin.List.listTooLong (its.toArray.size+a.toArray.size))=true:=by
  rw[a5T d,fH];exact aS
 refine dn F.slot_list_extend ⟨_,e,rfl⟩ F.entry_list_extend (F.args_list_extend_2 _ _)
  (AutoSeq1.list_extend_list_list_0 l its.toArray n b a.toArray k c (by rw[aB];omega) (by omega)) ⟨e,g,?_⟩
 refine⟨.non,_,I.lset (its':=its++a) f e (by simp) (r.append m) ?_,rfl,q⟩;rw[ax];omega
def b1A:V->List V->Hp->VK->Prop:=λx vs H Q=>∃l xs i k y,x=.ref l/\vs=[.int i]/\H l=some (.lst xs) /\ -(2 ^ 63)<=i/\i<2 ^ 63/\seqIndex? i xs.length=some k/\xs[k]?=some y/\Q y (upd H l (.lst (xs.eraseIdx k)))
theorem b2o:MtM X "list.pop" b1A:=by
 intro pins s σ H x vs v o Q I m j h;obtain⟨l,xs,i,k,y,rfl,rfl,b,h1,h2,c,f,q⟩:=h;cases m;obtain⟨u,rfl,g⟩:=j.one;obtain⟨t,rfl⟩:=g;obtain⟨z,its,n,r,d,e⟩:=I.lstM b;obtain⟨w,hw,a⟩:=r.get f;refine dn F.slot_list_pop ⟨_,e,rfl⟩ F.entry_list_pop (F.args_list_pop_2 _ _)
  (MeetsSeq.list_pop_at l its.toArray n i t k w (fitsIndex_both h1 h2) (by rw[aB,<-d];exact c) (by rw[<-av];exact hw) (by rw[aB];omega)) ⟨e,?_⟩
 refine⟨y,_,I.lset (its':=its.eraseIdx k) b e ?_ (r.eraseIdx k) ?_,a,q⟩
 .show its.toArray.eraseIdxIfInBounds k=(its.eraseIdx k).toArray;rw[List.eraseIdxIfInBounds_toArray]
 .have:=a3L xs k;omega
def b8m:R2:=λx y H Q=>∃l k xs,x=.ref l/\y=.int k/\H l=some (.lst xs) /\ -(2 ^ 63)<=k/\k<2 ^ 63/\xs.length*k.toNat<=sizeLine /\
 ∀p,H p=none->Q (.ref p) (upd H p (.lst (List.replicate k.toNat xs).flatten))
theorem a4K{α:Type}(xs:List α)(k:Nat):(List.replicate k xs).flatten.length=k*xs.length:=by
 induction k with
 |zero=>simp
 |succ k a=>rw[bH,cP,ax,a,Nat.succ_mul,Nat.add_comm]
theorem b6T:OpR X (binaryOp .Mult) b8m:=by
 intro pins s σ H x y v u Q I B C h;obtain⟨l,k,xs,rfl,rfl,w,h1,h2,o,q⟩:=h;cases B;obtain⟨t,rfl⟩:=C;obtain⟨z,its,n,r,A,e⟩:=I.lstM w;have f:its.toArray.size*k.toNat<=sizeLine:=by rw[aB,<-A];exact o
 have c:¬its.toArray.size*k.toNat > (2 ^ 63-1) / 8:=by
  have:(sizeLine:Nat)<=(2 ^ 63-1) / 8:=by decide
  omega
 have d:¬(!Builtin.List.listFitsIndex k)=true:=by
  rw[fitsIndex_both h1 h2];exact aS
 have b:¬Builtin.List.listTooLong (its.toArray.size*k.toNat)=true:=by
  rw[a5T f];exact aS
 have g:List.foldl (λi j=>i++j) #[] (List.replicate (if its.toArray.isEmpty=true then 0 else k.toNat) its.toArray)=(List.replicate k.toNat its).flatten.toArray:=by
  have p:∀m:Nat,List.foldl (λi j=>i++j) #[] (List.replicate m its.toArray)=(List.replicate m its).flatten.toArray:=λm=>by
   have:=a3R its m [];rw[cM]at this;exact this
  rw[p];cases its with
  |nil=>simp
  |cons a r'=>rw[aq (by simp)]
 refine fm (T:="list") (U:="int") (by decide) ⟨_,e,rfl⟩ (λs'=>fJ s' k t) noFill_list_mul F.fills_int_mul eC repeat_list F.slot_int_index.lookup
  (dn eC (fJ s k t) F.entry_int_rmul (F.args_int_rmul_2 _ _) (int___rmul___int_list k t l its.toArray n)
   ⟨e,rfl,⟨_,e,rfl⟩,dn F.slot_list_mul ⟨_,e,rfl⟩ F.entry_list_mul (F.args_list_mul_2 _ _) (AutoListH.list___mul___list_int_3 l its.toArray n k t d c b) ⟨e,?_⟩⟩)
 rw[g];exact⟨.ref _,_,I.lnew (t':=s.toks) (r.rep k.toNat) (by rw[a4K,fA];exact o),rfl,q _ I.fresh⟩
end
section
variable {prog:Program}{w:World}{A:Around}{E:Value->Shared->Prop}{s:Shared}
end
section
variable {X:Cx}
end
end L2
namespace Att
open PySem PySem.W PySem.Calls PyProof.Rows
theorem a1J{P:Params}{h:Heap}:∀(ns:List Int) (vs:List Value),WellAll P h vs (ns.map WData.int)->IntsAre vs ns:=by
 intro ns;induction ns with
 |nil =>
  intro vs w;rw[fz]at w;cases w;exact .nil
 |cons n ns c =>
  intro vs w;rw[aP]at w;cases w with
  |cons a b =>
   cases a;exact .cons _ _ (c _ b)
theorem a9p{l:OpenLaw}{n:Nat}(m:l.most=some n){P:Params}{h:Heap}{args:List WData}{vals:List Value}
  (b:l.row.toRowW.claim.pre args=true) (i:WellAll P h vals args) :
  ∃a vs ns,vals=[Value.ref a]/\args=[WData.list (ns.map WData.int)]/\h.get? a=some {cls:=.type "list",data:=.seq vs.toArray}/\IntsAre vs ns/\ns.length<=n:=by
 have hsh:WShape.hasAll [] args [.list .int]=true:=(pre_splitW b).1;have j:l.pre.holds [] {args:=args}=true:=(pre_splitW b).2;obtain⟨d,r,rfl,h1,h2⟩:=hasAllW_cons hsh;obtain rfl:=hasAllW_nil h2;obtain⟨xs,rfl,k⟩:=hasW_list h1;obtain⟨ns,rfl⟩:=items_int k;have e:ns.length<=n:=by
  unfold OpenLaw.pre at j;have f:(WTm.not (.lt (.lit (.int (n:Int))) (.len (.arg 0)))).holds [] {args:=[.list (ns.map .int)]}=true:=by
   have f:=(holds_andW j).1;rw[m]at f;exact f
  have g:=condW_of f (w_not (w_lt w_lit (w_len_list (w_arg rfl))));rw[aj]at g;refine Nat.le_of_not_lt λq=>?_;have p:(n:Int)<((ns.length:Nat):Int):=by omega
  first
   |(rw[bh p]at g;exact absurd g (by decide))
   |(simp at g;omega)
 cases i with
 |cons w1 w2 =>
  cases w2;cases w1 with
  |list o c=>exact⟨_,_,ns,rfl,rfl,o,a1J ns _ c,e⟩
theorem a9z(l:OpenLaw)(args:List WData):l.row.toRowW.claim.post args (.bool true) args=true :=
 postW_of (r:=l.row.toRowW) (X:=(true==true))
  (show WShape.has [] (.bool true) .bool=true by first|rfl|decide|simp[WShape.has,WShape.arms,WShape.armsAll])
  (show(WTm.eq .res (.lit (.bool true))).value [] {args:=args,res:=some (.bool true),after:=args}=some (.bool (true==true))from w_eq_bool (w_res rfl) w_lit) rfl
theorem attach_call{l:OpenLaw}{n:Nat}{q:Program}{b:List Str}{XP:(Str->Option Value)->Heap->Prop}{u:World->Heap->Prop}{d:DefRec}
  (H:l.most=some n) (m:d.params.defaults=[])
  (call:∀(w:World) (s₀ s₁:Shared) (mg t:Str->Option Value) (g:Addr) (o:Obj) (pm cd c:Value) (a:Addr) (vs:List Value) (ns:List Int),
   Ground q b [] XP w s₀ mg t s₁.heap->u w s₁.heap ->
   s₁.heap.get? g=some o->o.data=.func (docDef d.name d.params d.body d.scope pm cd c)->s₁.heap.CodeRec cd d.name->mg d.name=some (.ref g) ->
   s₁.heap.get? a=some {cls:=.type "list",data:=.seq vs.toArray}->IntsAre vs ns->ns.length<=n->s₁.gens=#[] ->
   codeAny (model l.prog w) callerA (.call (.ref g) ⟨[.ref a],[]⟩) (λr s'=>r=.ok (.ret (.bool true))/\OldK s₁.heap s'.heap/\s'.os=s₁.os/\AllBare s'.gens) s₁) :
  WalkO q b XP u l.row.toRowW d [] (λf vs=>PySem.call f vs):=by
 intro w s₀ s₁ mg t G Y g o pm cd c A kV I hd k x p D v z L j y K s E;obtain rfl:A=.none:=Dflts.none x m;obtain rfl:kV=.none:=Dflts.noKw x;obtain⟨a,vs,ns,rfl,rfl,i,e,h⟩:=a9p H j s;refine enter_call (dF (call w s₀ s₁ mg t g o pm cd c a vs ns G Y I (fd_plain hd) k p i e h D) λr s' J=>?_);obtain⟨rfl,h2,B,C⟩:=J;exact⟨.inl ⟨.bool true,.bool true,[],rfl,λ_=>rfl,.bool true,a9z l _,λ_=>⟨List.Pairwise.nil,λ_ F=>(nomatch F)⟩⟩,h2,B,C⟩
section
variable {prog:Program}{w:World}{A:Around}{E:Value->Shared->Prop}{s:Shared}{K:Frag}
end
end Att
namespace L2
open PySem PySem.Spec PyProof.Rows
theorem a3z:∀{vs:List Value}{ns:List Int},IntsAre vs ns->Vals (ns.map V.int) vs
 |_,_,.nil=>.nil
 |_,_,.cons n t h=>.cons ⟨t,rfl⟩ (a3z h)
def b7S(H:Hp):Prop:=∀b,H b=none∨∃o xs,H b=some (.frz o (.lst xs))
theorem b2t{P:Program}{w:World}{K:PySem.W.Frag}{mg O:Str->Option Value}{CX:CXT}{k:Nat}{I a:Addr}{fd:FuncData}{x:Str}{sp:Sp}{s₁:Shared}{vs:List Value}{ns:List Int}
  (R:K.In s₁.heap) (y:s₁.heap.Ns mainGlobals mg) (f:s₁.heap.Ns builtinsNs O) (L:∀x:Str,x≠"__name__"->O x=bootBuiltins x) (t:s₁.heap.NoLimit) (hg:s₁.gens=#[])
  (E:s₁.heap.get? a=some {cls:=.type "list",data:=.seq vs.toArray}) (hi:IntsAre vs ns) (W:ns.length<=sizeLine) (hr:Room k callerA)
  (F:∀base:Heap,K.In base->base.Ns mainGlobals mg->FnOk P w K mg base CX k I fd [x] sp) (j:∀(s:Shared) (u:Value),BindsTo s fd ⟨[u],[]⟩ [(x,u)])
  (N:∀H:Hp,b7S H->SqL K H a (ns.map V.int)->sp [.ref a] H (λv _=>v=.bl true) λ_ _ _=>False)
  (J:∀H e s',CX [] H s₁ (λ_ _ _=>False) e s'->False) :
  codeAny (model P w) callerA (.call (.ref I) ⟨[.ref a],[]⟩) (λr s'=>r=.ok (.ret (.bool true))/\OldK s₁.heap s'.heap/\s'.os=s₁.os/\AllBare s'.gens) s₁:=by
 have X:=a3z hi;have C:=hi.length;have i:∀H:Hp,b7S H->SqL K H a (ns.map V.int)->HOk P w H s₁.heap->(∀b,H b≠none->b=a)->(H a≠none->K.lookup a=none) ->
   codeAny (model P w) callerA (.call (.ref I) ⟨[.ref a],[]⟩) (λr s'=>r=.ok (.ret (.bool true))/\OldK s₁.heap s'.heap/\s'.os=s₁.os/\AllBare s'.gens) s₁:=by
  intro H U hS A T hK;have c:∀{b:Addr}{o:Obj},s₁.heap.get? b=some o->H b=none->(a4T s₁.heap H).get? b=some o:=λe n=>b2W e n;have Q:∀{b:Addr}{o:Obj}{es:Array DictEntry}{ep:Nat},s₁.heap.get? b=some o->o.data=.dict es ep->H b=none:=λ{b o es ep} e d=>by
   cases q:H b with
   |none=>rfl
   |some u =>
    have G:b=a:=T b (by rw[q];simp);subst G;rw[E]at e;cases e;have Y:Data.seq vs.toArray _=Data.dict es ep:=d;cases Y
  have g:∀{b:Addr}{m:Str->Option Value},s₁.heap.Ns b m->(a4T s₁.heap H).Ns b m:=λ{b m} ⟨o,es,ep,e,d,r⟩=>⟨o,es,ep,c e (Q e d),d,r⟩;have p:K.In (a4T s₁.heap H):=λb o e=>c (R b o e) (by
   cases q:H b with
   |none=>rfl
   |some u =>
    have G:b=a:=T b (by rw[q];simp);subst G;rw[hK (by rw[q];simp)]at e;cases e)
  have hM:Mod K mg (a4T s₁.heap H):=⟨p,g y,⟨O,g f,L⟩,let ⟨mc,h1,h2⟩:=t;⟨mc,g h1,h2⟩⟩;have Z:Env0 P w K mg (a4T s₁.heap H) callerA [] s₁ H:=⟨rfl,hM,λb o e=>b4M e,Nat.le_of_eq (b0b _ _),trivial,λb f=>absurd (show b∈([]:List Addr)from f) (by simp),A,.of_eq hg⟩;refine dF ((F _ p (g y)).run callerA [] s₁ H ⟨[.ref a],[]⟩ [.ref a] [.ref a] _ _ hr Z (j s₁ (.ref a)) (.cons rfl .nil) (N H U hS)) λr s' h=>?_;cases r with
  |error e=>exact(J H e s' h).elim
  |ok fl =>
   cases fl with
   |next=>exact False.elim h
   |brk=>exact False.elim h
   |cont=>exact False.elim h
   |ret u =>
    obtain⟨v,H',os,l,un,B,r',q⟩:=h;have q':v=.bl true:=q;subst q';obtain rfl:u=Value.bool true:=r';refine⟨rfl,OldK.of_keep λb o e=>?_,os,l⟩;cases q:H b with
    |none=>exact un.keep b o e q (by intro z;exact absurd (show b∈([]:List Addr)from z) (by simp)) (by simp)
    |some u =>
     rcases U b with z|⟨ob,xs,z⟩
     .rw[q]at z;cases z
     .have z2:=un.frzs b ob _ z;obtain⟨S,_⟩:=A b _ z;obtain⟨e2,_⟩:=B b _ z2;rw[e]at S;cases S;exact e2
 cases M:K.lookup a with
 |some o =>
  have e:=R a o M;rw[E]at e;cases e;refine i (λ_=>none) (λ_=>.inl rfl) (.inr ⟨_,vs.toArray,_,M,rfl,rfl,rfl,by rw[aB,C];exact W,by simpa using X⟩) (λb u z=>by have D:(none:Option HO)=some u:=z;cases D) (λb z=>absurd rfl z) λz=>absurd rfl z
 |none =>
  refine i (λb=>if b=a then some (.frz {cls:=.type "list",data:=.seq vs.toArray} (.lst (ns.map V.int)))else none) (λb=>?_) (.inl (.inr ⟨{cls:=.type "list",data:=.seq vs.toArray},az rfl⟩)) (λb u z=>?_) (λb z=>?_) λ_=>M
  .by_cases f:b=a
   .exact .inr ⟨_,_,az f⟩
   .exact .inl (aq f)
  .by_cases f:b=a
   .have D:=(az f).symm.trans z;cases D;subst f;exact⟨E,by rw[aj];exact W,vs,_,X,E⟩
   .have D:=(aq f).symm.trans z;cases D
  .by_cases f:b=a
   .exact f
   .exact absurd (aq f) z
theorem walk_of{l:PySem.W.OpenLaw}{n k:Nat}{q:Program}{g:List Str}{XP:(Str->Option Value)->Heap->Prop}{A:World->Heap->Prop}{d:DefRec}{K:Params->PySem.W.Frag}{CX:World->CXT}{sp:World->Sp}{x:Str}
  (N:l.most=some n) (t:n<=sizeLine) (p:d.params.defaults=[]) (O:Room k callerA)
  (I:∀(w:World) (h:Heap),A w h->(K w.params).In h)
  (F:∀(w:World) (mg:Str->Option Value) (j:Addr) (h:Heap),(K w.params).In h->h.Ns mainGlobals mg->mg d.name=some (.ref j) ->
   ∃fd:FuncData,(∀(s:Shared) (u:Value),BindsTo s fd ⟨[u],[]⟩ [(x,u)]) /\
    ∀base:Heap,(K w.params).In base->base.Ns mainGlobals mg->FnOk l.prog w (K w.params) mg base (CX w) k j fd [x] (sp w))
  (y:∀(w:World) (H:Hp) (a:Addr) (ns:List Int),ns.length<=n->b7S H->SqL (K w.params) H a (ns.map V.int)->sp w [.ref a] H (λv _=>v=.bl true) λ_ _ _=>False)
  (m:∀(w:World) (H:Hp) (s:Shared) (e:Value) (s':Shared),CX w [] H s (λ_ _ _=>False) e s'->False) :
  PySem.W.WalkO q g XP A l.row.toRowW d [] (λf vs=>PySem.call f vs):=by
 refine Att.attach_call N p λw s₀ s₁ mg Q j o pm cd B a vs ns G Y P hd L r i c b M=>?_;have z:=I w _ Y;obtain⟨fd,J,C⟩:=F w mg j _ z G.T.g r;exact b2t z G.T.g G.T.b G.T.builtins G.T.nolimit M i c (bf b t) O C J (λH D E=>y w H a ns b D E) λH e s'=>m w H s₁ e s'
end L2
namespace L2
open PySem PySem.Spec PyProof.Rows
noncomputable def U4(s:Stmt)(j:Nat):Stmt:=match s with
 |.ClassDef _ _ _ body _ _ _ _ _ _ _=>body.getD j (.Pass ⟨0,0,0,0⟩)
 |_=>.Pass ⟨0,0,0,0⟩
noncomputable def R1(s:Stmt):Arguments:=match s with
 |.FunctionDef _ a _ _ _ _ _ _ _ _=>a
 |_=>{posonlyargs:=[],args:=[],vararg:=none,kwonlyargs:=[],kw_defaults:=[],kwarg:=none,defaults:=[]}
noncomputable def F0(s:Stmt):List Stmt:=match s with
 |.FunctionDef _ _ b _ _ _ _ _ _ _=>b
 |_=>[]
noncomputable def A4(s:Stmt):Scope:=match s with
 |.FunctionDef _ _ _ _ _ _ sc _ _ _=>sc
 |_=>{kind:=.function,names:=[],isGenerator:=false,isCoroutine:=false}
abbrev CX0:CXT:=λ_ _ _ _ _ _=>False
abbrev E0:XK:=λ_ _ _=>False
theorem a8s{X:Cx}:X5 CX0 X E0:=λ_ _ _ _ _ _ _ h=>h.elim
structure Fun(K:PySem.W.Frag)(x qual:Str)(st:Stmt)(f:Addr)(fd:FuncData):Prop where
 ex:∃(oc:Value) (od:Option Addr) (kV doc pm:Value) (an:Option Addr) (cdv ct:Value) (osl:Array (Option Value)),
  fd=PySem.W.fnOf x qual (R1 st) (F0 st) (A4 st) .none kV doc pm an cdv ct/\K.lookup f=some ⟨oc,od,.func fd,osl⟩/\PySem.W.codeIn K cdv qual=true
 kp:PySem.W.keepIn K (.ref f)=true
section
variable {P:Program}{w:World}{K:PySem.W.Frag}{mg:Str->Option Value}{base:Heap}
theorem Fun.ok{x qual:Str}{st:Stmt}{f:Addr}{fd:FuncData}{N ps:List Str}{k:Nat}{sp:Sp}(F:Fun K x qual st f fd)(S:FnScope N ps (A4 st))(e:∀vs H Q E,sp vs H Q E->vs.length=ps.length)
  (b:∀(a:Value) (A:Around) (outer:List Env) (s:Shared) (H:Hp) (vs:List V) (Q:VK) (E:XK),Room k (A.deeper (envOfC qual (A4 st) s.heap.objs.size f a))->sp vs H Q E ->
   ∃t,PSs (L6 CX0 P w K mg base N qual (A4 st) f a A outer s H E).nox (F0 st) t/\t {nx:=λ_ H'=>Q .non H',rt:=Q} (start N vs) H):FnOk P w K mg base CX0 (k+1) f fd ps sp:=by
 obtain⟨oc,od,kV,g,pm,an,a,ct,l,rfl,j,c⟩:=F.ex;refine b5V j c S e λA outer s H vs Q E i d=>?_;obtain⟨t,h,q⟩:=b a A outer s H vs Q E i d;exact⟨t,h.nox,q⟩
theorem Fun.binds{x qual:Str}{st:Stmt}{f:Addr}{fd:FuncData}{ps:List Str}(F:Fun K x qual st f fd)
  (h:∀(kV b pm:Value) (an:Option Addr) (a ct:Value) (us:List Value),us.length=ps.length->bindArgs (PySem.W.fnOf x qual (R1 st) (F0 st) (A4 st) .none kV b pm an a ct) ⟨us,[]⟩=pure (ps.zip us)):Binds K fd ps []:=by
 obtain⟨oc,od,kV,b,pm,an,a,ct,d,rfl,e,c⟩:=F.ex;exact .all (h kV b pm an a ct)
theorem a3a{x qual:Str}{st:Stmt}{f:Addr}{oc:Value}{od an:Option Addr}{d:Array (Option Value)}{kV b pm a ct:Value}(l:K.lookup f=some ⟨oc,od,.func (PySem.W.fnOf x qual (R1 st) (F0 st) (A4 st) .none kV b pm an a ct),d⟩)
  (c:PySem.W.codeIn K a qual=true) (k:PySem.W.keepIn K (.ref f)=true):Fun K x qual st f (PySem.W.fnOf x qual (R1 st) (F0 st) (A4 st) .none kV b pm an a ct):=⟨⟨oc,od,kV,b,pm,an,a,ct,d,rfl,l,c⟩,k⟩
end
section
variable {X:Cx}
end
theorem L5{A B:Prop}(h:B):if false=true then A else B:=by
 rw[aq aS];exact h
theorem W4{A B:Prop}(h:A):if true=true then A else B:=by
 rw[az rfl];exact h
theorem a4Q{c A B:Prop}[Decidable c](h1:c->A)(h2:¬c->B):if c then A else B:=by
 by_cases h:c
 .rw[az h];exact h1 h
 .rw[aq h];exact h2 h
def Same(H H':Hp):Prop:=∀b o,H b=some o->H' b=some o
theorem Same.refl(H:Hp):Same H H:=λ_ _ h=>h
theorem Same.trans{H H1 H2:Hp}(a:Same H H1)(b:Same H1 H2):Same H H2:=λc o h=>b c o (a c o h)
theorem Same.free{H H':Hp}(e:Same H H'){l:Addr}(h:H' l=Option.none):H l=Option.none:=by
 cases q:H l with
 |none=>rfl
 |some o =>
  rw[e l o q]at h;cases h
theorem Same.seq{K:PySem.W.Frag}{H H':Hp}{a:Addr}{xs:List V}(e:Same H H')(h:SqL K H a xs):SqL K H' a xs:=by
 rcases h with(h|⟨o,h⟩)|h
 .exact .inl (.inl (e _ _ h))
 .exact .inl (.inr ⟨o,e _ _ h⟩)
 .exact .inr h
noncomputable def J8(env:Env)(cs:List (Str×Addr))(x:Str×NameKind):List (Str×Addr) :=
 if x.2==.free then(match env.cells.lookup x.1 with|some a=>(x.1,a)::cs|none=>cs)else cs
noncomputable def a1M(scope:Scope)(env:Env):List (Str×Addr):=scope.names.foldl (J8 env) []
theorem a3j{env:Env}(f:Str×NameKind->List (Str×Addr)->Sem (ForInStep (List (Str×Addr))))
  (c:∀n k r,f (n,k) r=if (k==NameKind.free)=true then(do let a <-cellOf env n;pure (ForInStep.yield ((n,a)::r)))else pure (ForInStep.yield r)) :
  ∀(names:List (Str×NameKind)) (cs:List (Str×Addr)),(∀x∈names,x.2=.free->∃a,env.cells.lookup x.1=some a)->forIn names cs f=pure (names.foldl (J8 env) cs)
 |[],cs,_=>rfl
 |(n,k)::r,cs,h=>by
  rw[gd,dm,c];have g:=λy j=>h y (ar _ j);by_cases e:k=.free
  .subst e;obtain⟨a,d⟩:=h (n,NameKind.free) au rfl;have i:cellOf env n=pure a:=by unfold cellOf;rw[d]
   have b:J8 env cs (n,NameKind.free)=(n,a)::cs:=by unfold J8;rw[d];rfl
   rw[b,<-a3j f c r _ g,i];rfl
  .have hb:(k==NameKind.free)=false:=by simpa using e
   have b:J8 env cs (n,k)=cs:=by unfold J8;rw[hb];rfl
   rw[b,<-a3j f c r _ g,hb];rfl
theorem b3j{scope:Scope}{env:Env}(h:∀x∈scope.names,x.2=.free->∃a,env.cells.lookup x.1=some a):closureFor scope env=pure (a1M scope env):=by
 simp only[closureFor];rw[a3j (env:=env) _ (λn k r=>by cases b:k==NameKind.free<;>simp[b]) scope.names [] h];rfl
theorem a3Y{env:Env}{x:Str}{c:Addr}:∀(names:List (Str×NameKind)) (cs:List (Str×Addr)),(names.foldl (J8 env) cs).lookup x=some c->env.cells.lookup x=some c∨cs.lookup x=some c
 |[],cs,h=>.inr h
 |y::r,cs,h=>by
  rw[dm]at h;rcases a3Y r _ h with z|z
  .exact .inl z
  .unfold J8 at z;split at z
   .split at z
    .rename_i a ha;rw[cg]at z;cases b:x==y.1 with
     |true =>
      rw[b]at z;rw[bg.mp b];exact .inl (ha.trans z)
     |false =>
      rw[b]at z;exact .inr z
    .exact .inr z
   .exact .inr z
theorem Z3{scope:Scope}{env:Env}{x:Str}{c:Addr}(h:(a1M scope env).lookup x=some c):env.cells.lookup x=some c :=
 (a3Y scope.names [] h).elim id λz=>by cases z
theorem a0k{env:Env}{x:Str}{a:Addr}(d:env.cells.lookup x=some a):∀(names:List (Str×NameKind)) (cs:List (Str×Addr)),((x,NameKind.free)∈names∨cs.lookup x=some a)->(∀c,cs.lookup x=some c->c=a)->(names.foldl (J8 env) cs).lookup x=some a
 |[],cs,h,_=>h.elim (λz=>by cases z) id
 |y::r,cs,h,i=>by
  rw[dm];by_cases b:y.2=.free/\y.1=x
  .have e2:J8 env cs y=(x,a)::cs:=by unfold J8;rw[b.2,d,b.1];rfl
   rw[e2];have f:((x,a)::cs).lookup x=some a:=by rw[cg];simp
   exact a0k d r _ (.inr f) λc z=>by rw[f]at z;exact(bG z).symm
  .have same:(J8 env cs y).lookup x=cs.lookup x:=by
    unfold J8;split
    .rename_i hk;split
     .have hne:(x==y.1)=false:=by
       cases g:x==y.1 with
       |false=>rfl
       |true=>exact absurd ⟨by simpa using hk,(bg.mp g).symm⟩ b
      rw[cg,hne]
     .rfl
    .rfl
   refine a0k d r _ ?_ (by rw[same];exact i);rw[same];rcases h with z|z
   .rcases aE.mp z with e|z
    .exact absurd ⟨by rw[<-e],by rw[<-e]⟩ b
    .exact .inl z
   .exact .inr z
theorem a6w{scope:Scope}{env:Env}{x:Str}{a:Addr}(b:env.cells.lookup x=some a)(d:(x,NameKind.free)∈scope.names):(a1M scope env).lookup x=some a :=
 a0k b _ _ (.inl d) λc z=>by cases z
theorem S3{x:Str}{c:Addr}:∀(names:List (Str×NameKind)) (n:Nat) (acc:List (Str×Addr)),(cellsFrom n names acc).lookup x=some c->(n<=c/\(x,NameKind.cell)∈names)∨acc.lookup x=some c
 |[],_,_,h=>.inr h
 |(y,k)::r,n,acc,h=>by
  unfold cellsFrom at h;split at h
  .rename_i hk;have b:k=.cell:=by simpa using hk
   rcases S3 r _ _ h with⟨e,d⟩|z
   .exact .inl ⟨by omega,ar _ d⟩
   .rw[cg]at z;cases a:x==y with
    |true =>
     rw[a]at z;cases z;exact .inl ⟨ao _,by rw[b,bg.mp a];exact au⟩
    |false =>
     rw[a]at z;exact .inr z
  .rcases S3 r _ _ h with⟨e,d⟩|z
   .exact .inl ⟨e,ar _ d⟩
   .exact .inr z
theorem a7s:∀(names:List (Str×NameKind)) (n:Nat) (acc:List (Str×Addr)),(∀x c,acc.lookup x=some c->c<n)->(∀x y c,acc.lookup x=some c->acc.lookup y=some c->x=y) ->
  ∀x y c,(cellsFrom n names acc).lookup x=some c->(cellsFrom n names acc).lookup y=some c->x=y
 |[],_,_,_,h2=>h2
 |(z,k)::r,n,acc,h1,h2=>by
  unfold cellsFrom;split
  .have lk:∀x c,List.lookup x ((z,n)::acc)=some c->(x=z/\c=n)∨acc.lookup x=some c:=λx c e=>by
    rw[cg]at e;cases a:x==z with
    |true=>rw[a]at e;cases e;exact .inl ⟨bg.mp a,rfl⟩
    |false=>rw[a]at e;exact .inr e
   refine a7s r (n+1) _ (λx c e=>?_) λx y c e b=>?_
   .rcases lk x c e with⟨_,q⟩|q
    .rw[q];exact bQ _
    .exact bX (h1 x c q)
   .rcases lk x c e with⟨q1,q2⟩|q<;>rcases lk y c b with⟨p1,p2⟩|p
    .rw[q1,p1]
    .exact absurd (h1 y c p) (by rw[q2];exact cj _)
    .exact absurd (h1 x c q) (by rw[p2];exact cj _)
    .exact h2 x y c q p
  .exact a7s r n acc h1 h2
theorem a4Z{x:Str}:∀(names:List (Str×NameKind)) (n:Nat) (acc:List (Str×Addr)),((x,NameKind.cell)∈names∨∃c,acc.lookup x=some c)->∃c,(cellsFrom n names acc).lookup x=some c
 |[],_,_,h=>h.elim (λz=>by cases z) id
 |(y,k)::r,n,acc,h=>by
  unfold cellsFrom;split
  .rename_i hk;refine a4Z r _ _ ?_;by_cases a:x=y
   .exact .inr ⟨n,by rw[cg,a];simp⟩
   .have hb:(x==y)=false:=cZ.mpr a;rcases h with z|⟨c,z⟩
    .rcases aE.mp z with e|z
     .exact absurd (Prod.mk.inj e).1 a
     .exact .inl z
    .exact .inr ⟨c,by rw[cg,hb];exact z⟩
  .rename_i hk;refine a4Z r _ _ ?_;rcases h with z|z
   .rcases aE.mp z with e|z
    .exact absurd (by rw[<-(Prod.mk.inj e).2];rfl) hk
    .exact .inl z
   .exact .inr z
theorem a4G{x:Str}{c:Addr}:∀(names:List (Str×NameKind)) (h:Heap) (acc:List (Str×Addr)),(∀x c,acc.lookup x=some c->∃v,h.IsCell c v)->(cellsFrom h.objs.size names acc).lookup x=some c->∃v,(pushCells h names).IsCell c v
 |[],h,acc,d,e=>d x c e
 |(y,k)::r,h,acc,d,e=>by
  unfold cellsFrom at e;unfold pushCells;split at e
  .rename_i hk;rw[az hk];rw[show h.objs.size+1=(h.push {cls:=.type "cell",data:=.cell none}).objs.size from(bu ..).symm]at e;refine a4G r _ _ (λg c' a=>?_) e;rw[cg]at a;cases f:g==y with
   |true=>rw[f]at a;cases a;exact⟨_,_,aD _ rfl,rfl⟩
   |false =>
    rw[f]at a;obtain⟨v,z⟩:=d g c' a;exact⟨v,z.keeps λb o q=>ag _ q⟩
  .rename_i hk;rw[aq hk];exact a4G r _ _ d e
section
variable {M:Model}{A:Around}{E:Value->Shared->Prop}{s:Shared}
theorem a6B{scope:Scope}{b:Addr}{a:List (Str×Addr)}{qual:Str}{outer:Env}{Q:Env->Shared->Prop}
  (f:Q (newEnv scope s.heap.objs.size b (cellsFrom (s.heap.objs.size+1) scope.names a) qual none .none (some outer) builtinsNs) {s with heap:=pushCells (s.heap.push {cls:=.type "dict",data:=.dict #[]}) scope.names}) :
  wpAny M A (newFunctionEnv scope b a [] qual none .none (some outer)) Q E s:=by
 simp only[newFunctionEnv,Option.isSome_some,ei];refine aa (wpAny_alloc ?_);refine aa (wpAny_layCells _ (λname c d=>by cases e:c==NameKind.cell<;>simp[e]) _ _ _ _ ?_);rw[show({s with heap:=s.heap.push {cls:=.type "dict",data:=.dict #[]}}:Shared).heap.objs.size=s.heap.objs.size+1 from bu ..];exact aa (ae (ae f))
end
section
variable {prog:Program}{w:World}{A:Around}{s:Shared}
abbrev NoX:Value->Shared->Prop:=λ_ _=>False
theorem toE{α:Type}{M:Model}{A:Around}{t:Sem α}{Q b:α->Shared->Prop}{E:Value->Shared->Prop}{s:Shared}(h:wpAny M A t Q NoX s)(c:∀a s,Q a s->b a s):wpAny M A t b E s :=
 dE h c λ_ _ z=>z.elim
theorem a4Y{d a b:Expr}{e:List Expr}{scope:Scope}{pos:Pos}{it acc:Value}{env:Env}{R:Result->Shared->Prop}(I:Nat->Shared->Prop)
  (turn:∀n s,I n s->wpAny (model prog w) A (pyNext it) (λr s₁=>match r with
   |none=>R (.ok .next) s₁
   |some v=>wpAny (model prog w) A (letOwnedTupleGo a it v) (λ_ s₂=>wpAny (model prog w) A (assign a env v) (λ_ s₃ =>
     wpAny (model prog w) A (forIn e true λc r=>if r=true then do let ok <-isTrue c env (eval c env);pure (ForInStep.yield ok)else pure (ForInStep.yield r)) (λok s₄ =>
      if ok=true then wpAny (model prog w) A (eval d env) (λx s₅=>wpAny (model prog w) A (call (.builtin "list.append") [acc,x]) (λ_ s₆=>∃m,m<n/\I m s₆) NoX s₅) NoX s₄
      else ∃m,m<n/\I m s₄) NoX s₃) NoX s₂) NoX s₁) NoX s)
  (n:Nat) (h:I n s):codeAny (model prog w) A (.compLoop (.ListComp d [⟨a,b,e,0⟩] scope pos) 0 it acc env) R s:=by
 refine codeAny_loop rfl I (λn s f=>?_) n h;show wpAny _ A ((compTurn (.ListComp d [⟨a,b,e,0⟩] scope pos) 0 it acc env).onRaise (λx=>do noteFrame x env;theTreesLotGoes x)) _ _ s;refine wpAny_noted ?_;rw[compTurn_list];refine aa (wpAny_standAt (aa (toE (turn n s f) λr s₁ h₁=>?_)));cases r with
 |none=>exact ae h₁
 |some v =>
  refine aa (toE h₁ λ_ s₂ h₂=>aa (toE h₂ λ_ s₃ h₃=>aa (toE h₃ λok s₄ h₄=>?_)));cases ok with
  |false=>exact ae ⟨rfl,h₄⟩
  |true=>exact aa (aa (toE h₄ λx s₅ h₅=>aa (toE h₅ λ_ s₆ h₆=>ae (ae ⟨rfl,h₆⟩))))
end
noncomputable def Cx.blk(X:Cx)(N:List Str)(scope:Scope)(cells:List (Str×Addr))(C:Addr)(s:Shared)(H:Hp)(ex:List Addr):Cx :=
 {X with N:=N,s₀:=s,H₀:=H,env:=compEnvC scope cells C X.env,outer:=X.stack,stack:=X.stack,ex:=ex,fn:=λx=>scope.names.any λy=>y.1==x && y.2==.cell,pn:=[],xe:=NoX}
noncomputable def B5(src:List (Option Nat))(σ:St):St:=src.map λo=>o.bind λj=>(σ[j]?).join
noncomputable def C0(sc out:Scope):Bool:=sc.names.all λx=>x.2 != .free || (out.names.lookup x.1==some .cell || out.names.lookup x.1==some .free)
noncomputable def M7:List Str->List (Option Nat)->List Str->Scope->Bool
 |[],[],_,_=>true
 |x::N,o::src,M,sc=>(match o with|none=>true|some j=>M[j]? == some x && sc.names.lookup x==some .free) && M7 N src M sc
 |_,_,_,_=>false
noncomputable def a4y(sc:Scope):Bool:=sc.kind==.function && sc.names.all λx=>sc.names.lookup x.1==some x.2
theorem a3Z:∀{N:List Str}{src:List (Option Nat)}{M:List Str}{a:Scope},M7 N src M a=true->src.length=N.length
 |[],[],_,_,_=>rfl
 |_::N,_::src,M,a,h=>by
  unfold M7 at h;rw[aV]at h;rw[aN,aN,a3Z h.2]
 |[],_::_,_,_,h=>by simp[M7]at h
 |_::_,[],_,_,h=>by simp[M7]at h
theorem a4a:∀{N:List Str}{src:List (Option Nat)}{M:List Str}{a:Scope}{i:Nat}{x:Str}{j:Nat},M7 N src M a=true->N[i]?=some x->src[i]?=some (some j)->M[j]?=some x/\a.names.lookup x=some .free
 |[],[],_,_,_,_,_,_,h,_=>by simp at h
 |y::N,o::src,M,a,0,x,j,h,h1,h2=>by
  unfold M7 at h;rw[aV]at h;simp at h1 h2;subst h1 h2;have q:=h.1;rw[aV]at q;exact⟨bg.mp q.1,bg.mp q.2⟩
 |y::N,o::src,M,a,i+1,x,j,h,h1,h2=>by
  unfold M7 at h;rw[aV]at h;exact a4a h.2 (by simpa using h1) (by simpa using h2)
 |[],_::_,_,_,_,_,_,h,_,_=>by simp[M7]at h
 |_::_,[],_,_,_,_,_,h,_,_=>by simp[M7]at h
theorem b0z{src:List (Option Nat)}{σ:St}{i:Nat}{v:V}(h:(B5 src σ)[i]?=some (some v)):∃j,src[i]?=some (some j)/\σ[j]?=some (some v):=by
 unfold B5 at h;rw[aQ]at h;cases e:src[i]? with
 |none=>rw[e]at h;cases h
 |some o =>
  rw[e]at h;cases o with
  |none=>cases h
  |some j =>
   refine⟨j,rfl,?_⟩;have h':(σ[j]?).join=some v:=bG h;cases q:σ[j]? with
   |none=>rw[q]at h';cases h'
   |some z=>rw[q]at h';rw[show z=some v from h']
theorem W0{env:Env}:∀{names:List (Str×NameKind)}{x:Str}{k:NameKind},
  (names.map λ(n,k)=>if (k==NameKind.free && env.scope.kind==.function && env.kindOf n==some .cell)then(n,NameKind.cell)else(n,k)).lookup x=some k ->
  ∃b,names.lookup x=some b/\(k=b∨(b=.free/\k=.cell))
 |[],_,_,h=>by cases h
 |(n,k0)::r,x,k,h=>by
  rw[aP,cg]at h;rw[cg];dsimp only at h;split at h
  .rename_i h0;have a:x==n:=by
    split at h0<;>exact h0
   rw[a];refine⟨k0,rfl,?_⟩;split at h
   .rename_i hc;cases h;simp only[aV]at hc;exact .inr ⟨by simpa using hc.1.1,rfl⟩
   .cases h;exact .inl rfl
  .rename_i h0;have a:(x==n)=false:=by
    split at h0<;>exact h0
   rw[a];exact W0 h
theorem K9{env:Env}:∀{names:List (Str×NameKind)}{x:Str}{c:NameKind},names.lookup x=some c ->
  ∃k,(names.map λ(n,k)=>if (k==NameKind.free && env.scope.kind==.function && env.kindOf n==some .cell)then(n,NameKind.cell)else(n,k)).lookup x=some k/\(k=c∨(c=.free/\k=.cell))
 |[],_,_,h=>by cases h
 |(n,k0)::r,x,c,h=>by
  rw[cg]at h;rw[aP];by_cases b:(k0==NameKind.free && env.scope.kind==.function && env.kindOf n==some .cell)=true
  .simp only[b,ei];rw[cg];cases a:x==n with
   |true =>
    rw[a]at h;cases h;simp only[aV]at b;exact⟨_,rfl,.inr ⟨by simpa using b.1.1,rfl⟩⟩
   |false=>rw[a]at h;exact K9 h
  .simp only[aq b];rw[cg];cases a:x==n with
   |true=>rw[a]at h;cases h;exact⟨_,rfl,.inl rfl⟩
   |false=>rw[a]at h;exact K9 h
def PIf(X:Cx)(ifs:List Expr)(t:TT):Prop :=
 ∀(pins:List (Addr×Obj)) (s:Shared) (σ:St) (H:Hp) (Q:Bool->Hp->Prop),Inv X pins σ H s->t σ H Q ->
  wpAny (model X.prog X.w) X.A (forIn ifs true λc r=>if r=true then do let ok <-isTrue c X.env (eval c X.env);pure (ForInStep.yield ok)else pure (ForInStep.yield r)) (TP X pins σ Q) X.xe s
def P7:TT:=λ_ H Q=>Q true H
theorem b4m{X:Cx}:PIf X [] P7:=λpins s σ H Q I h=>wpAny_tests_nil ⟨H,I,h⟩
theorem b4l{X:Cx}{c:Expr}{t:TT}(h:PT X c t):PIf X [c] t:=λpins s σ H Q I q=>wpAny_tests_one (h pins s σ H Q I q)
def Sub(σ σ':St):Prop:=σ.length=σ'.length/\∀(i:Nat) (v:V),σ[i]?=some (some v)->σ'[i]?=some (some v)
def J5(src:List (Option Nat))(g:TG)(tt:TT)(te:TE)(σ:St)(Q:VK)(J:It)(H1:Hp):Prop :=
 ∃W:Nat->Nat->List V->Hp->Prop,(∃m,W 0 m [] H1)/\∀i m ys H,W i m ys H ->
  (J.stop i H/\ys.length<=sizeLine/\∀p,H p=none->Q (.ref p) (upd H p (.lst ys))) ∨
  (J.go i H/\ys.length<sizeLine/\∃N:List V->Hp->Prop,(∀zs H',N zs H'->∃m',m'<m/\W (i+1) m' zs H')/\∀x H',J.yld i H x H'->g x (B5 src σ) H' λσ2 H2=>Sub (B5 src σ) σ2/\tt σ2 H2 λb H3 =>
   if b=true then te σ2 H3 λv H4=>N (ys++[v]) H4 else N ys H3)
def a5w(src:List (Option Nat))(wi:TI)(g:TG)(tt:TT)(te:TE):TE:=λσ H Q=>wi σ H (J5 src g tt te σ Q)
section
variable {X:Cx}{pins:List (Addr×Obj)}{σ:St}{H:Hp}{s:Shared}
theorem Inv.block{N:List Str}{src:List (Option Nat)}{scope:Scope}{fp:List Addr}(I:Inv X pins σ H s)(P:∀b∈fp,a1o X pins H b)(Y:∀b∈fp,∃o,s.heap.get? b=some o)
  (J:C0 scope X.env.scope=true) (D:M7 N src X.N scope=true) (C:a4y scope=true) {lo:Obj} :
  Inv (X.blk N scope (cellsFrom (s.heap.objs.size+2) scope.names (a1M scope X.env)) (s.heap.objs.size+1) s H fp) [] (B5 src σ) H
   {s with heap:=pushCells ((s.heap.push lo).push {cls:=.type "dict",data:=.dict #[]}) scope.names}:=by
 unfold a4y at C;rw[aV]at C;have E:scope.kind=.function:=by simpa using C.1
 have F:∀x∈scope.names,scope.names.lookup x.1=some x.2:=λx A=>by simpa using bN.mp C.2 x A
 have t:∀x∈scope.names,x.2=.free->X.env.kindOf x.1=some .cell∨X.env.kindOf x.1=some .free:=λx A f=>by
  have q:=bN.mp J x A;rw[f]at q;have U:(X.env.scope.names.lookup x.1==some .cell || X.env.scope.names.lookup x.1==some .free)=true:=by simpa using q
  rw[Bool.or_eq_true]at U;exact U.imp (λz=>bg.mp z) λz=>bg.mp z
 have keep:∀b o,s.heap.get? b=some o->(pushCells ((s.heap.push lo).push {cls:=.type "dict",data:=.dict #[]}) scope.names).get? b=some o:=λb o e =>
  gf _ _ _ _ (ag _ (ag _ e))
 have Q:∀x c,(a1M scope X.env).lookup x=some c->c<s.heap.objs.size:=λx c e=>by
  obtain⟨v,z⟩:=I.cell x c (Z3 e);exact z.lt
 have d:∀x c,(cellsFrom (s.heap.objs.size+2) scope.names (a1M scope X.env)).lookup x=some c->(s.heap.objs.size+2<=c/\(x,NameKind.cell)∈scope.names)∨X.env.cells.lookup x=some c:=λx c e =>
  (S3 _ _ _ e).imp id Z3
 have K:∀x k,(compEnvC scope (cellsFrom (s.heap.objs.size+2) scope.names (a1M scope X.env)) (s.heap.objs.size+1) X.env).kindOf x=some k->∃g,scope.names.lookup x=some g/\(k=g∨(g=.free/\k=.cell)):=λx k e =>
  W0 (env:=X.env) e
 have mem:∀{x k},scope.names.lookup x=some k->(x,k)∈scope.names:=λe=>mem_of_lookup e;refine⟨⟨I.ok.mod,?_,I.ok.glob,I.ok.blt,?_,?_,?_,?_,I.ok.hd,I.ok.frames,.inl rfl,?_,I.bs,bf I.ok.bsz I.sz,?_,?_,I.stack,I.stkFree⟩,rfl,I.bare,Un.kept keep,?_,?_,?_,?_,?_,I.hok.kept keep,?_⟩
 .exact E
 .exact dU _
 .-- inj
  refine a7s _ _ _ (λx c e=>?_) λx y c e R=>I.ok.inj x y c (Z3 e) (Z3 R);exact aM (Q x c e) (cu _ 2)
 .-- has
  intro x A;refine a4Z _ _ _ ?_;have f:∃g,scope.names.lookup x=some g/\(g=.cell∨g=.free):=by
   rcases A with A|A
   .obtain⟨g,e,z⟩:=K x _ A;exact⟨g,e,z.elim (λz=>.inl z.symm) λz=>.inr z.1⟩
   .obtain⟨g,e,z⟩:=K x _ A;exact⟨g,e,z.elim (λz=>.inr z.symm) λz=>by cases z.2⟩
  obtain⟨g,e,rfl|rfl⟩:=f
  .exact .inl (mem e)
  .obtain⟨a,ha⟩:=I.ok.has x (t _ (mem e) rfl);exact .inr ⟨a,a6w ha (mem e)⟩
 .-- cab
  intro x c A e;rcases d x c e with z|z
  .exact bf (cu _ 2) z.1
  .-- x is the block's own cell, so it is not in the closure's part
   exfalso;obtain⟨y,hy,G⟩:=cv.mp A;rw[aV]at G;have S:y.1=x:=bg.mp G.1;have T:y.2=.cell:=by simpa using G.2
   have l1:scope.names.lookup x=some .cell:=by rw[<-S,<-T];exact F y hy
   rcases S3 _ _ _ e with q|q
   .obtain⟨v,z'⟩:=I.cell x c z;exact absurd (aM z'.lt (bf (cu _ 2) q.1)) (cj _)
   .-- the closure holds free names alone
    have fr:∀(names:List (Str×NameKind)) (L:List (Str×Addr)),(names.foldl (J8 X.env) L).lookup x=some c->(x,NameKind.free)∈names∨L.lookup x=some c:=by
     intro names;induction names with
     |nil=>intro L h;exact .inr h
     |cons n r ih =>
      intro L h;rw[dm]at h;rcases ih _ h with w|w
      .exact .inl (ar _ w)
      .unfold J8 at w;split at w
       .rename_i f;split at w
        .rw[cg]at w;cases B:x==n.1 with
         |true =>
          have:n=(x,NameKind.free):=Prod.ext (bg.mp B).symm (by simpa using f);exact .inl (by rw[this];exact au)
         |false=>rw[B]at w;exact .inr w
        .exact .inr w
       .exact .inr w
    rcases fr _ _ q with w|w
    .have:=F _ w;rw[l1]at this;cases this
    .cases w
 .-- exf
  intro b B;obtain⟨o,e⟩:=Y b B;have lt:=aI e;refine⟨aR (bX lt),λx c O=>?_⟩;rcases d x c O with z|z
  .exact di (aM lt (bf (cu _ 2) z.1))
  .exact(P b B).2.2.2.2.1 x c z
 .-- noex
  intro b o e B;rcases(P b B).2.2.2.1 with z|z
  .exact I.ok.noex b o e z
  .exact absurd (aM (aI (I.ok.bs b o e).1) z) (cj _)
 .-- exfs
  intro b B z;rcases aE.mp (I.stkSub b z)with q|q
  .exact(P b B).2.1 q
  .exact(P b B).2.2.1 q
 .-- loc
  refine⟨λ_=>none,?_,λi x v S T e3=>?_⟩
  .have:=(Heap.Ns.new (s.heap.push lo) (.type "dict")).keeps (gf scope.names _);rw[bu]at this;exact this
  .obtain⟨j,e4,e5⟩:=b0z T;obtain⟨V,M⟩:=a4a D S e4;obtain⟨m,_,W⟩:=I.loc;have f:=t _ (mem M) rfl;have Z:Vis X.env.scope x:=.inr (f.imp id id);obtain⟨u,r,l⟩:=W j x v V e5 Z;refine⟨u,r,.inr ⟨?_,?_⟩⟩
   .obtain⟨k,q,z⟩:=K9 (env:=X.env) M;rcases z with z|z
    .exact .inr (by rw[<-z];exact q)
    .exact .inl (by rw[<-z.2];exact q)
   .rcases l with l|⟨_,c,O,z⟩
    .exfalso;rcases f with f|f<;>rw[l.1]at f<;>cases f
    .refine⟨c,?_,z.keeps keep⟩;have own:¬(x,NameKind.cell)∈scope.names:=λw=>by
      have:=F _ w;rw[M]at this;cases this
     obtain⟨c',q⟩:=a4Z (x:=x) scope.names (s.heap.objs.size+2) (a1M scope X.env) (.inr ⟨c,a6w O (mem M)⟩);rcases d x c' q with w|w
     .exact absurd w.2 own
     .rw[O]at w;cases w;exact q
 .-- cell
  intro x c e;have R:(cellsFrom ((s.heap.push lo).push {cls:=.type "dict",data:=.dict #[]}).objs.size scope.names (a1M scope X.env)).lookup x=some c:=by
   rw[bu,bu];exact e
  refine a4G _ _ _ (λx' c' q=>?_) R;obtain⟨v,z⟩:=I.cell x' c' (Z3 q);exact⟨v,z.keeps λb o q=>ag _ (ag _ q)⟩
 .exact I.hok.fresh (dU _)
 .intro x c e;rcases d x c e with z|z
  .exact I.hok.fresh (bf (cu _ 2) z.1)
  .exact I.freeC x c z
 .intro p hp;cases hp
 .show(B5 src σ).length=N.length;unfold B5;rw[aj];exact a3Z D
theorem Inv.unblock{N:List Str}{scope:Scope}{d:List (Str×Addr)}{C acc:Addr}{fp:List Addr}{pins':List (Addr×Obj)}{σ':St}{H':Hp}{s':Shared}{h':Heap}{ys:List V}{us:List Value}{n:Nat}
  (I:Inv X pins σ H s) (y:∀b∈fp,a1o X pins H b) (x:s.heap.objs.size<=C) (v:s.heap.objs.size<=acc) (m:acc≠C) (J:Inv (X.blk N scope d C s H fp) pins' σ' H' s')
  (w:H' acc=none) (A:s'.heap.get? acc=some {cls:=.type "list",data:=.seq us.toArray n}) (B:Vals ys us) (D:ys.length<=sizeLine) (l:Heap.SameBut C s'.heap h') :
  Inv X pins σ (upd H' acc (.lst ys)) {s' with heap:=h'}:=by
 have base:Un (frs X.stack) fp H H' s.heap s'.heap:=J.base;have kp:∀b o,b≠C->s'.heap.get? b=some o->h'.get? b=some o:=λb o q e=>l.extBut b o q e;have a:∀b o,s.heap.get? b=some o->b≠C/\b≠acc:=λb o e=>by
  have:=aI e;exact⟨aR (aM this x),aR (aM this v)⟩
 have g:H' C=none:=J.free;have h:H acc=none:=I.hok.fresh v;have j:HOk X.prog X.w H' s'.heap:=J.hok;have p:HOk X.prog X.w (upd H' acc (.lst ys)) h':=by
  intro b o e;by_cases i:b=acc
  .subst i;rw[A1]at e;cases e;exact⟨D,us,n,B,kp _ _ m A⟩
  .rw[A5 i]at e;refine(j b o e).stay (λc u k q=>kp c u ?_ q) (λc q=>?_) λc xs q=>?_
   .rintro rfl;rcases k with rfl|k
    .rw[g]at e;cases e
    .rw[g]at k;cases k
   .rw[A5 (by rintro rfl;rw[w]at q;cases q)];exact q
   .rw[A5 (by rintro rfl;rw[w]at q;cases q)];exact q
 have f:∀b u,H b=some u->b≠acc:=λb u e=>by rintro rfl;rw[h]at e;cases e
 refine I.call' (s':={s' with heap:=h'}) (ch:=fp) (J.os) ⟨λb o e q r t=>?_,λb o e q r t=>?_,λb o e q t=>?_,λb o e t=>?_,λb xs e=>?_,λb o u e=>?_,λb ps e=>?_⟩ p J.bare λb l=>?_
 .exact kp b o (a b o e).1 (base.keep b o e q r t)
 .obtain⟨sl,z⟩:=base.slot b o e q r t;exact⟨sl,kp b _ (a b o e).1 z⟩
 .rw[A5 (a b o e).2];exact base.free b o e q t
 .obtain⟨o',z⟩:=base.there b o e t;exact⟨o',kp b _ (a b o e).1 z⟩
 .rw[A5 (f b _ e)];exact base.tups b xs e
 .rw[A5 (f b _ e)];exact base.frzs b o u e
 .rw[A5 (f b _ e)];exact base.tbls b ps e
 .obtain⟨_,h1,_,h3,h4,h5⟩:=y b l;exact⟨h3,h1,h4,h5⟩
set_option maxHeartbeats 4000000 in
theorem a3X{tg t E:Expr}{K:List Expr}{scope:Scope}{pos:Pos}{N:List Str}{src:List (Option Nat)}{wi:TI}{g:TG}{tt:TT}{te:TE}{Q:VK}{RR:Value->Addr->Result->Shared->Prop}(hc:X.calm=true)(hi:PI X tg t wi)
  (b8:C0 scope X.env.scope=true) (b7:M7 N src X.N scope=true) (d4:a4y scope=true)
  (hg:∀a C s H ex,PG (X.blk N scope a C s H ex) tg g) (ht:∀a C s H ex,PIf (X.blk N scope a C s H ex) K tt) (he:∀a C s H ex,PE (X.blk N scope a C s H ex) E te)
  (I:Inv X pins σ H s) (h:a5w src wi g tt te σ H Q)
  (b9:∀(s2 s4:Shared) (H2 H4:Hp) (fp:List Addr) (a:List (Str×Addr)) (pl:List (Addr×Obj)) (σ4:St) (ys:List V) (us:List Value) (k:Nat),Inv X pins σ H2 s2->(∀b∈fp,a1o X pins H2 b) ->
   Inv (X.blk N scope a (s2.heap.objs.size+1) s2 H2 fp) pl σ4 H4 s4->H4 s2.heap.objs.size=none->s4.heap.get? s2.heap.objs.size=some {cls:=.type "list",data:=.seq us.toArray k}->Vals ys us->ys.length<=sizeLine ->
   Q (.ref s2.heap.objs.size) (upd H4 s2.heap.objs.size (.lst ys))->RR (.ref s2.heap.objs.size) (s2.heap.objs.size+1) (.ok .next) s4) :
  wpAny (model X.prog X.w) X.A (eval t X.env) (λx s₁=>wpAny (model X.prog X.w) X.A (pyIter x) (λit s₂=>wpAny (model X.prog X.w) X.A (newList []) (λacc s₃ =>
   wpAny (model X.prog X.w) X.A (newFunctionEnv scope X.env.globals (a1M scope X.env) [] X.env.qual none .none (some X.env)) (λP s₄ =>
    codeAny (model X.prog X.w) X.A (.compStart (.ListComp E [⟨tg,t,K,0⟩] scope pos) 0 it acc {P with scope:=relabel scope X.env}) (RR acc P.locals) s₄) X.xe s₃) X.xe s₂) X.xe s₁) X.xe s:=by
 refine thn (hi pins s σ H _ I h) λv s1 h1=>thn h1 λd6 s2 h2=>?_;obtain⟨it,fp,tn,J,H2,e,Z,T,c4,f2,W,⟨m0,w0⟩,turn⟩:=h2;subst e;have c0:∀b∈fp,∃o,s2.heap.get? b=some o:=λb l=>(T.obj _ _ c4 b l).imp λ_ q=>q.1;refine bt (a6B ?_);have hB:=Z.block (lo:={cls:=.type "list",dict:=none,data:=.seq ([]:List Value).toArray}) f2 c0 b8 b7 d4;rw[show({s2 with heap:=s2.heap.push {cls:=.type "list",dict:=none,data:=.seq ([]:List Value).toArray}}:Shared).heap.objs.size=s2.heap.objs.size+1 from bu ..];generalize G:cellsFrom (s2.heap.objs.size+1+1) scope.names (a1M scope X.env)=a at hB⊢;generalize B:pushCells ((s2.heap.push {cls:=.type "list",dict:=none,data:=.seq ([]:List Value).toArray}).push {cls:=.type "dict",data:=.dict #[]}) scope.names=h4 at hB⊢;have a6:∀b o,s2.heap.get? b=some o->h4.get? b=some o:=λb o q=>by
  rw[<-B];exact gf _ _ _ _ (ag _ (ag _ q))
 have b0:h4.get? s2.heap.objs.size=some {cls:=.type "list",data:=.seq ([]:List Value).toArray 0}:=by
  rw[<-B];exact gf _ _ _ _ (ag _ (aD _ rfl))
 have c5:tn 0 h4:=T.keep _ _ _ c4 λb _ o q=>a6 b o q;generalize f:X.blk N scope a (s2.heap.objs.size+1) s2 H2 fp=j at hB;have eA:j.A=X.A:=by rw[<-f];rfl
 have eP:j.prog=X.prog:=by rw[<-f];rfl
 have ew:j.w=X.w:=by rw[<-f];rfl
 have eK:j.K=X.K:=by rw[<-f];rfl
 have ec:j.calm=true:=by rw[<-f];exact hc
 have ee:j.env=compEnvC scope a (s2.heap.objs.size+1) X.env:=by rw[<-f];rfl
 have ex:j.ex=fp:=by rw[<-f];rfl
 have b6:j.pn=[]:=by rw[<-f];rfl
 have c9:j.s₀=s2:=by rw[<-f];rfl
 have a4:j.xe=NoX:=by rw[<-f];rfl
 have eL:j.env.locals=s2.heap.objs.size+1:=by rw[ee];rfl
 have c8:j.fs=frs X.stack:=by rw[<-f];rfl
 have c3:=hB.ok;have cne:∀x c,j.env.cells.lookup x=some c->c≠s2.heap.objs.size:=λx c q=>by
  rw[ee]at q;have q':a.lookup x=some c:=q;rw[<-G]at q';rcases S3 _ _ _ q' with z|z
  .exact di (aM (bQ _) (bf (dU _) z.1))
  .obtain⟨v,z'⟩:=Z.cell x c (Z3 z);exact aR z'.lt
 have R:∀b∈fp,b≠s2.heap.objs.size:=λb l=>by
  obtain⟨o,q⟩:=c0 b l;exact aR (aI q)
 have A:s2.heap.objs.size∉j.fs:=by
  rw[c8];intro z;rcases aE.mp (Z.stkSub _ z)with q|q
  .exact absurd Z.lt (by rw[<-q];exact cj _)
  .exact Z.nofs (ao _) q
 have w:∀{H':Hp}{pl:List (Addr×Obj)},(∀b∈fp,H' b=none)->(∀p∈pl,p.1=s2.heap.objs.size)->∀b∈fp,a1o j pl H' b:=λ{H' pl} hn D b l=>by
  obtain⟨x1,x2⟩:=c3.exf b (by rw[ex];exact l);refine⟨hn b l,x1,c3.exfs b (by rw[ex];exact l),.inl (by rw[ex];exact l),x2,λp c1=>?_⟩;rw[b6,cM]at c1;rw[D p c1];exact(R b l).symm
 have c2:∀s5:Shared,s5={s2 with heap:=h4}->codeAny (model X.prog X.w) X.A (.compLoop (.ListComp E [⟨tg,t,K,0⟩] scope pos) 0 (.ref it) (.ref s2.heap.objs.size) j.env)
   (RR (.ref s2.heap.objs.size) (s2.heap.objs.size+1)) s5:=by
  rintro s5 rfl;refine a4Y (λn s'=>∃i H' ys us k,Inv j [] (B5 src σ) H' s'/\tn i s'.heap/\(∀b∈fp,H' b=none)/\H' s2.heap.objs.size=none /\
   s'.heap.get? s2.heap.objs.size=some {cls:=.type "list",data:=.seq (us:List Value).toArray k}/\Vals ys us/\W i n ys H') ?_ m0
   ⟨0,H2,[],[],0,hB,c5,λb l=>(f2 b l).1,Z.hok.fresh (ao _),b0,.nil,w0⟩
  rintro n s3 ⟨i,U,ys,us,k,I3,a7,a5,L,a9,r3,w3⟩;rcases turn i n ys U w3 with⟨S,hz,qn⟩|⟨go,hz,Nn,hN,step⟩
  .have d:=T.done j eP ew eK ec i [] s3 (B5 src σ) U NoX I3 (w a5 (λ_ z=>by cases z)) a7 S;rw[eA]at d;have a0:Inv j [(s2.heap.objs.size,{cls:=.type "list",data:=.seq us.toArray k})] (B5 src σ) U s3:=I3.pins_of λp D=>by
    rw[aA.mp D];exact⟨a9,L,by rw[eL];exact aR (bQ _),A,λv z=>by cases z⟩
   have d:=T.done j eP ew eK ec i _ s3 (B5 src σ) U NoX a0 (w a5 (λp z=>by rw[aA.mp z])) a7 S;rw[eA]at d;refine thn d λr s4 ⟨hr,I4⟩=>?_;subst hr;have c7:=(I4.pin (s2.heap.objs.size,{cls:=.type "list",data:=.seq us.toArray k}) (aZ _ au)).1;rw[<-f]at I4;exact b9 s2 s4 H2 U fp a _ _ ys us k Z f2 I4 L c7 r3 hz (qn _ L)
  .have a0:Inv j [(s2.heap.objs.size,{cls:=.type "list",data:=.seq us.toArray k})] (B5 src σ) U s3:=I3.pins_of λp D=>by
    rw[aA.mp D];exact⟨a9,L,by rw[eL];exact aR (bQ _),A,λv z=>by cases z⟩
   have d:=T.item j eP ew eK ec i _ s3 (B5 src σ) U NoX a0 (w a5 (λp z=>by rw[aA.mp z])) a7 go;rw[eA]at d;refine thn d λr s4 ⟨u,hr,d1⟩=>?_;subst hr;refine thn d1 λ_ s5 ⟨x,H5,I5,r5,y5,a8,d0⟩=>?_;have c6:=I5.pinned (w d0 (λp z=>by rw[aA.mp z])) (T.obj _ _ a8);have d3:PG j tg g:=by rw[<-f];exact hg _ _ _ _ _
   have d5:PIf j K tt:=by rw[<-f];exact ht _ _ _ _ _
   have d2:PE j E te:=by rw[<-f];exact he _ _ _ _ _
   have a1:=d3 _ s5 _ H5 x u _ c6 r5 (step x H5 y5);rw[eP,ew,eA,a4]at a1;refine thn a1 λ_ s6 ⟨σ6,H6,I6,sb,q6⟩=>?_;have a2:=d5 _ s6 σ6 H6 _ I6 q6;rw[eP,ew,eA,a4]at a2;refine thn a2 λok s7 ⟨H7,I7,q7⟩=>?_;have O:∀{Y:Hp}{M:Shared}{pl:List (Addr×Obj)},Inv j ([(s2.heap.objs.size,{cls:=.type "list",data:=.seq us.toArray k})]++a2x fp s5.heap) σ6 Y M ->
     Inv j [] (B5 src σ) Y M/\tn (i+1) M.heap/\(∀b∈fp,Y b=none)/\Y s2.heap.objs.size=none/\M.heap.get? s2.heap.objs.size=some {cls:=.type "list",data:=.seq us.toArray k}:=λ{Y M pl} I8=>by
    have p0:=I8.pin (s2.heap.objs.size,{cls:=.type "list",data:=.seq us.toArray k}) (aZ _ (ba _ au));refine⟨(I8.pins_of (pins':=[]) λp D=>by cases D).weak sb.1 sb.2,T.keep _ _ _ a8 λb l o e=>(I8.pin (b,o) (aZ _ (aZ _ (T0 l e)))).1,λb l=>?_,p0.2.1,p0.1⟩;obtain⟨o,e,_⟩:=T.obj _ _ a8 b l;exact(I8.pin (b,o) (aZ _ (aZ _ (T0 l e)))).2.1
   cases ok with
   |false =>
    obtain⟨m',hm,w7⟩:=hN _ _ q7;obtain⟨b1,b2,b3,b4,b5⟩:=O (pl:=[]) I7;exact⟨m',hm,i+1,H7,ys,us,k,b1,b2,b3,b4,b5,r3,w7⟩
   |true =>
    have a3:=d2 _ s7 σ6 H7 _ I7 q7;rw[eP,ew,eA,a4]at a3;refine thn a3 λy M ⟨vy,Y,I8,ry,n8⟩=>?_;obtain⟨m',hm,w8⟩:=hN _ _ n8;obtain⟨b1,b2,b3,b4,b5⟩:=O (pl:=[]) I8;refine dn F.slot_list_append ⟨_,b5,rfl⟩ F.entry_list_append (F.args_list_append_2 _ _) (PySem.list_append s2.heap.objs.size us.toArray k y (by rw[aB,<-r3.length];omega)) ⟨b5,?_⟩;have q:=PySem.IsL.update b5 (λxs=>xs.push y);rw[show us.toArray.push y=(us++[y]).toArray by simp]at q;have nb:∀b o,b≠s2.heap.objs.size->M.heap.get? b=some o->(M.heap.update s2.heap.objs.size (Obj.mapSeq λxs=>xs.push y)).get? b=some o:=λb o l e =>
     (cO M.heap _ (dJ l)).trans e
    refine⟨m',hm,i+1,Y,ys++[vy],us++[y],_,?_,?_,b3,b4,q,r3.append (.cons ry .nil),w8⟩
    .exact b1.turned nb b4 (by rw[eL];exact aR (bQ _)) (.inr (by rw[c9];exact ao _)) cne λp D=>by rw[b6]at D;cases D
    .exact T.keep _ _ _ b2 λb l o e=>nb b o (R b l) e
 have m:=c2 _ rfl;rw[ee]at m;exact codeAny_compStart_list m (T.self _ 0 _ _ _ c5 m)
theorem a3H{scope:Scope}(a:a4y scope=true):scope.kind=.function/\∀x∈scope.names,scope.names.lookup x.1=some x.2:=by
 unfold a4y at a;rw[aV]at a;exact⟨by simpa using a.1,λx b=>by simpa using bN.mp a.2 x b⟩
theorem Inv.clos{scope:Scope}(I:Inv X pins σ H s)(a:C0 scope X.env.scope=true):closureFor scope X.env=pure (a1M scope X.env):=b3j λx d c=>by
 have q:=bN.mp a x d;rw[c]at q;have b:(X.env.scope.names.lookup x.1==some .cell || X.env.scope.names.lookup x.1==some .free)=true:=by simpa using q
 rw[Bool.or_eq_true]at b;exact I.ok.has x.1 (b.imp (λz=>bg.mp z) λz=>bg.mp z)
theorem b4w{tg b e:Expr}{j:List Expr}{scope:Scope}{pos:Pos}{N:List Str}{src:List (Option Nat)}{u:TI}{g:TG}{t:TT}{te:TE}(y:X.calm=true)(hi:PI X tg b u)
  (c:C0 scope X.env.scope=true) (f:M7 N src X.N scope=true) (i:a4y scope=true)
  (A:∀a C s H ex,PG (X.blk N scope a C s H ex) tg g) (D:∀a C s H ex,PIf (X.blk N scope a C s H ex) j t) (z:∀a C s H ex,PE (X.blk N scope a C s H ex) e te)
  (hs:∀x,foldedSetIterable b X.env x=pure x:=by intro _;rfl):PE X (.ListComp e [⟨tg,b,j,0⟩] scope pos) (a5w src u g t te):=by
 intro pins s σ H Q I h;obtain⟨d,n⟩:=a3H i;rw[eval_ListComp];refine wpAny_comprehension_free (use:=none) rfl hs (I.clos c) d (λx E B=>by rw[<-B];exact n x E) (a3X (RR:=compPost (model X.prog X.w) X.A X.xe none (EP X pins σ Q)) y hi c f i A D z I h ?_);intro s2 L H2 J fp a K σ4 ys M k v f2 r p l G F q;obtain⟨m,o,_⟩:=r.loc;exact⟨m,o,λh' w=>⟨.ref s2.heap.objs.size,_,Inv.unblock v f2 (dU _) (ao _) (aR (bQ _)) r p l G F w,rfl,q⟩⟩
theorem b4g{i:Nat}{y:Str}{u r:Pos}{tg f j:Expr}{l:List Expr}{scope:Scope}{pos:Pos}{N:List Str}{src:List (Option Nat)}{wi:TI}{g:TG}{tt:TT}{te:TE}
  (hN:X.N.Nodup) (hy:X.N[i]?=some y) (Y:Loc X.env.scope y)
  (hc:X.calm=true) (hi:PI X tg f wi) (n:C0 scope X.env.scope=true) (B:M7 N src X.N scope=true) (F:a4y scope=true)
  (hg:∀d C s H ex,PG (X.blk N scope d C s H ex) tg g) (ht:∀d C s H ex,PIf (X.blk N scope d C s H ex) l tt) (S:∀d C s H ex,PE (X.blk N scope d C s H ex) j te)
  (W:swapsWith (.ListComp j [⟨tg,f,l,0⟩] scope pos) (some (.Name y u)) r.line X.env=pure true:=by rfl) (hs:∀x,foldedSetIterable f X.env x=pure x:=by intro _;rfl)
  (hf:X.fn y=true∨X.env.scope.names.lookup y=some .local:=by first|exact .inl rfl|exact .inr rfl|assumption) :
  PS X (.Assign [.Name y u] (.ListComp j [⟨tg,f,l,0⟩] scope pos) r) (a9k (a5w src wi g tt te) (A9 i)):=by
 intro pins s σ H D I h;obtain⟨t,T⟩:=a3H F;rw[exec_Assign_Name_used _ _ _ _ W];refine aa (wpAny_standAt (aa ?_));show wpAny _ X.A (do let _ <-comprehension (.ListComp j [⟨tg,f,l,0⟩] scope pos) scope X.env _ (newList []) false (eval f X.env) (some (assign (.Name y u) X.env))) _ _ s;refine aa (dE (wpAny_comprehension_free (use:=some (assign (.Name y u) X.env)) (Q:=λ_ s'=>SP X pins D .next s') rfl hs (I.clos n) t (λx Y hk=>by rw[<-hk];exact T x Y)
  (a3X (RR:=compPost (model X.prog X.w) X.A X.xe (some (assign (.Name y u) X.env)) (λ_ s'=>SP X pins D .next s')) hc hi n B F hg ht S I h ?_)) (λ_ s' hq=>ae (ae hq)) λ_ _ e=>e)
 intro s2 s4 H2 H4 fp d pl σ4 ys us k w f2 L Z M r4 hz q;obtain⟨m,V,_⟩:=L.loc;have E:s4.heap.Ns (s2.heap.objs.size+1) m:=V;have O:H4 (s2.heap.objs.size+1)=none:=L.free;have J:=Inv.unblock w f2 (dU _) (ao _) (aR (bQ _)) L Z M r4 hz (Heap.SameBut.refl _ _);have K:s2.heap.objs.size+1≠X.env.locals:=di (bX w.lt);have G:∀x c,X.env.cells.lookup x=some c->c≠s2.heap.objs.size+1:=λx c e=>by
  obtain⟨v,z⟩:=w.cell x c e;exact aR (bX z.lt)
 show wpAny _ X.A (assign (.Name y u) X.env (.ref s2.heap.objs.size)) _ _ s4;refine wpAny_assign_Name (a3C (v:=.ref s2.heap.objs.size) J hN hy Y rfl (λs' I' hb=>?_) hf);obtain⟨a,sb,P⟩:=hb;have A:s2.heap.objs.size+1≠a:=by
  rcases P with rfl|P
  .exact K
  .exact(G _ _ P).symm
 refine⟨m,E.sameBut sb A,λh' R=>⟨_,_,I'.turned (t':=s'.toks) (it:=s2.heap.objs.size+1) (λb o U e=>R.extBut b o U e) ?_ K (.inr (bf w.sz (dU _))) G λp hp=>?_,q⟩⟩
 .rw[A5 (di (bQ _))];exact O
 .exact aR (bX (aI (w.pin p hp).1))
end
def SqAt(k:Bool)(h:Heap)(l:Addr)(xs:Array Value):Prop:=match k with|true=>h.IsTuple l xs|false=>h.IsList l xs
def ItAt(k:Bool)(h:Heap)(i l:Addr)(n:Nat):Prop:=match k with|true=>h.IsTupleIter i l n|false=>h.IsListIter i l n
noncomputable def b7s:Bool->String|true => "tuple_iterator" | false => "list_iterator"
noncomputable def a1B(k:Bool)(l:Addr):Obj:={cls:=.type (b7s k),data:=.fields #[.ref l,.int 0 0]}
theorem ItAt.extBut{k:Bool}{h h':Heap}{i l b:Addr}{n:Nat}(x:ItAt k h i l n)(hs:Heap.ExtBut b h h')(a:i≠b):ItAt k h' i l n:=by
 cases k
 .exact Heap.IsListIter.extBut x hs a
 .exact Heap.IsTupleIter.extBut x hs a
theorem ItAt.at{k:Bool}{h h':Heap}{i l:Addr}{n:Nat}(x:ItAt k h i l n)(e:∀o,h.get? i=some o->h'.get? i=some o):ItAt k h' i l n:=by
 cases k
 .exact Heap.IsListIter.at x e
 .exact Heap.IsTupleIter.at x e
theorem ItAt.get{k:Bool}{h:Heap}{i l:Addr}{n:Nat}(x:ItAt k h i l n):∃o,h.get? i=some o/\o.data=.fields #[.ref l,.int n 0]:=by
 cases k<;>obtain⟨o,e,c,d⟩:=x<;>exact⟨o,e,d⟩
theorem SqAt.extBut{k:Bool}{h h':Heap}{l b:Addr}{xs:Array Value}(x:SqAt k h l xs)(hs:Heap.ExtBut b h h')(a:l≠b):SqAt k h' l xs:=by
 cases k
 .exact Heap.IsList.extBut x hs a
 .exact Heap.IsTuple.extBut x hs a
theorem SqAt.at{k:Bool}{h h':Heap}{l:Addr}{xs:Array Value}(x:SqAt k h l xs)(e:∀o,h.get? l=some o->h'.get? l=some o):SqAt k h' l xs:=by
 cases k<;>obtain⟨o,q,r⟩:=x<;>exact⟨o,e o q,r⟩
theorem SqAt.get{k:Bool}{h:Heap}{l:Addr}{xs:Array Value}(x:SqAt k h l xs):∃o,h.get? l=some o:=by
 cases k<;>obtain⟨o,q,r⟩:=x<;>exact⟨o,q⟩
section
variable {prog:Program}{w:World}{A:Around}{E:Value->Shared->Prop}{s:Shared}
theorem a1I{it t:Addr}{i:Nat}{items:Array Value}{x:Value}{Q:Value->Shared->Prop}(a:s.heap.IsTupleIter it t i)(g:s.heap.IsTuple t items)(h:items[i]?=some x)
  (e:∀h',h'.IsTupleIter it t (i+1)->Heap.SameBut it s.heap h'->Q x {s with heap:=h'}):wpAny (model prog w) A (Builtin.SmallTypes.nextOf (.ref it)) Q E s:=by
 obtain⟨o,b,f,hd⟩:=id a;obtain⟨k,d,_,j,c⟩:=g;unfold Builtin.SmallTypes.nextOf;refine aa (bJ (name:=Str.ofString "__next__") a.typeIs dQ
  (bM dQ a.typeIs F.entry_tuple_iterator_next ?_ (F.args_tuple_iterator_next_1 _)))
 show wpAny _ _ (field (.ref it) 0>>=_) _ _ s;refine aa (cy b hd (x:=.ref t) rfl ?_);show wpAny _ _ (if (Value.ref t==Value.none)=true then _ else _) _ _ s;rw[aq (show ¬((Value.ref t==Value.none)=true)from aS)];show wpAny _ _ (field (.ref it) 1>>=_) _ _ s;refine aa (cy b hd (x:=.int i 0) rfl ?_);show wpAny _ _ (seqItems? (.ref t)>>=_) _ _ s;refine aa (cE d c ?_);simp only[bb,h];refine aa (dW b hd (by simp) (ae ⟨x,rfl,ae (e _ ?_ (cb ..))⟩));exact⟨_,cp _ b (eT (cR hd _)),(fP ..).trans f,by
  rw[cR hd];simp[rawInt]⟩
theorem a2E{it t:Addr}{i:Nat}{items:Array Value}{Q:Value->Shared->Prop}(g:A.handled=none)(b:s.heap.IsTupleIter it t i)(j:s.heap.IsTuple t items)(k:items[i]?=none)
  (h:∀h' e,Heap.ExtBut it s.heap h'->(∃o,h'.get? e=some o/\o.cls=.type "StopIteration")->E (.ref e) {s with heap:=h'}) :
  wpAny (model prog w) A (Builtin.SmallTypes.nextOf (.ref it)) Q E s:=by
 obtain⟨o,d,l,hd⟩:=id b;obtain⟨p,f,_,n,c⟩:=j;unfold Builtin.SmallTypes.nextOf;refine aa (bJ (name:=Str.ofString "__next__") b.typeIs dQ
  (bM dQ b.typeIs F.entry_tuple_iterator_next ?_ (F.args_tuple_iterator_next_1 _)))
 show wpAny _ _ (field (.ref it) 0>>=_) _ _ s;refine aa (cy d hd (x:=.ref t) rfl ?_);show wpAny _ _ (if (Value.ref t==Value.none)=true then _ else _) _ _ s;rw[aq (show ¬((Value.ref t==Value.none)=true)from aS)];show wpAny _ _ (field (.ref it) 1>>=_) _ _ s;refine aa (cy d hd (x:=.int i 0) rfl ?_);show wpAny _ _ (seqItems? (.ref t)>>=_) _ _ s;refine aa (cE f c ?_);simp only[bb,k];refine aa (fK (aa (dW d hd (by simp) ?_)));show wpAny _ _ (newExc (.type "StopIteration") []>>=_) _ _ _;refine aa ?_;simp only[newExc,newTuple];refine aa (bt ?_ (by size_fits));refine aa (m:=firstArgMember _ _) (wpAny_of_eq (a:=Value.none) (by first|rfl | (simp only[firstArgMember];rfl)) ?_);refine bt ?_ (by size_fits);simp only[raiseNew];refine aa (wpAny_handled ?_)
 first|rw[show A.in1.handled=none from g]|rw[g]
 refine aa (ae (wpAny_throw ?_));exact h _ _ (((cb ..).extBut.push _).push _) ⟨_,aD _ rfl,rfl⟩
theorem a2n{k:Bool}{it l:Addr}{i:Nat}{items:Array Value}{x:Value}{Q:Value->Shared->Prop}(a:ItAt k s.heap it l i)(c:SqAt k s.heap l items)(d:items[i]?=some x)
  (b:∀h',ItAt k h' it l (i+1)->Heap.SameBut it s.heap h'->Q x {s with heap:=h'}):wpAny (model prog w) A (Builtin.SmallTypes.nextOf (.ref it)) Q E s:=by
 cases k
 .exact wpAny_nextOf_list_item a c d b
 .exact a1I a c d b
theorem a7U{k:Bool}{it l:Addr}{i:Nat}{items:Array Value}{Q:Value->Shared->Prop}(c:A.handled=none)(a:ItAt k s.heap it l i)(d:SqAt k s.heap l items)(f:items[i]?=none)
  (b:∀h' e,Heap.ExtBut it s.heap h'->(∃o,h'.get? e=some o/\o.cls=.type "StopIteration")->E (.ref e) {s with heap:=h'}) :
  wpAny (model prog w) A (Builtin.SmallTypes.nextOf (.ref it)) Q E s:=by
 cases k
 .exact wpAny_nextOf_list_end c a d f b
 .exact a2E c a d f b
theorem R8{k:Bool}{l:Addr}{items:Array Value}{Q:Value->Shared->Prop}(b:SqAt k s.heap l items)(a:Q (.ref s.heap.objs.size) {s with heap:=s.heap.push (a1B k l)}):wpAny (model prog w) A (pyIter (.ref l)) Q E s:=by
 cases k
 .exact wpAny_pyIter_list b a
 .exact fu b a
end
section
variable {prog:Program}{w:World}{A:Around}{E:Value->Shared->Prop}{s:Shared}{k1 k2:Bool}
theorem b0D{z TI TO f g k l:Addr}{n p:Nat}{xs ys:Array Value}{x y a b:Value}{Q:Value->Shared->Prop}(D:ZipApart z TI TO f g k l)
  (hz:IsZip s.heap z TI TO .none) (u:IsPair s.heap TI (.ref f) (.ref g)) (B:IsPair s.heap TO a b)
  (h1:ItAt k1 s.heap f k n) (h2:ItAt k2 s.heap g l p) (C:SqAt k1 s.heap k xs) (F:SqAt k2 s.heap l ys) (H:xs[n]?=some x) (I:ys[p]?=some y)
  (G:∀h',IsZip h' z TI TO (rawInt s.heap.objs.size)->IsPair h' TO x y->ItAt k1 h' f k (n+1)->ItAt k2 h' g l (p+1)->IsPair h' s.heap.objs.size x y->h'.objs.size=s.heap.objs.size+1 ->
   (∀c o,c≠z->c≠TO->c≠f->c≠g->s.heap.get? c=some o->h'.get? c=some o)->Q (.ref s.heap.objs.size) {s with heap:=h'}) :
  wpAny (model prog w) A (Builtin.«zip.__next__» ⟨[.ref z],[]⟩) (λfin s'=>∃v,fin=.done (.ret v)/\Q v s') E s:=by
 show wpAny _ _ (field (.ref z) 2>>=_) _ _ _;refine aa (cy hz rfl (x:=.bool false) rfl ?_);show wpAny _ _ (field (.ref z) 3>>=_) _ _ _;refine aa (cy hz rfl (x:=.ref TI) rfl ?_);refine aa (cE u rfl ?_);show wpAny _ _ (Builtin.SmallTypes.ownedTupleIsFree (.ref z)>>=_) _ _ _;refine aa ?_;unfold Builtin.SmallTypes.ownedTupleIsFree;refine aa (cy hz rfl (x:=.none) rfl (ae ?_));simp only[ei];refine aa (fK ?_);refine aa (cy hz rfl (x:=.ref TO) rfl ?_);refine aa (dG hz (by simp) λh₁ hz₁ hs₁=>?_);replace hz₁:IsZip h₁ z TI TO .ellipsis:=hz₁;refine aa ?_;simp only[List.zipIdx_cons,List.zipIdx_nil,gd,List.forIn_nil];refine aa (aa (wpAny_onRaise ?_));show wpAny _ _ (Builtin.SmallTypes.nextOf (.ref f)>>=_) _ _ _;refine aa (a2n (h1.extBut hs₁.extBut D.i1z) (C.extBut hs₁.extBut D.l1z) H λh₂ h1₂ hs₂=>ae ?_);have hTO₂:IsPair h₂ TO a b:=hs₂.extBut _ _ D.TOi1 (hs₁.extBut _ _ D.TOz B);refine aa (cE hTO₂ rfl ?_);refine aa (gg hTO₂ λh₃ hTO₃ hs₃=>?_);replace hTO₃:IsPair h₃ TO x b:=hTO₃;refine aa (eG (ae ?_));refine aa (aa (wpAny_onRaise ?_));show wpAny _ _ (Builtin.SmallTypes.nextOf (.ref g)>>=_) _ _ _;refine aa (a2n (((h2.extBut hs₁.extBut D.i2z).extBut hs₂.extBut D.i12.symm).extBut hs₃.extBut D.TOi2.symm)
  (((F.extBut hs₁.extBut D.l2z).extBut hs₂.extBut D.l2i1).extBut hs₃.extBut D.l2TO) I λh₄ h2₄ hs₄=>ae ?_)
 have hTO₄:IsPair h₄ TO x b:=hs₄.extBut _ _ D.TOi2 hTO₃;refine aa (cE hTO₄ rfl ?_);refine aa (gg hTO₄ λh₅ hTO₅ hs₅=>?_);replace hTO₅:IsPair h₅ TO x y:=hTO₅;refine aa (eG (ae (ae ?_)));refine aa (cE hTO₅ rfl ?_);refine aa (wpAny_newTuple ?_);have i:h₅.objs.size=s.heap.objs.size:=by rw[hs₅.1,hs₄.1,hs₃.1,hs₂.1,hs₁.1]
 have hz₅:IsZip h₅ z TI TO .ellipsis:=hs₅.extBut _ _ D.TOz.symm (hs₄.extBut _ _ D.i2z.symm (hs₃.extBut _ _ D.TOz.symm (hs₂.extBut _ _ D.i1z.symm hz₁)));have hk₅:∀c o,c≠z->c≠TO->c≠f->c≠g->s.heap.get? c=some o->h₅.get? c=some o:=λc o h m r t e =>
  hs₅.extBut _ _ m (hs₄.extBut _ _ t (hs₃.extBut _ _ m (hs₂.extBut _ _ r (hs₁.extBut _ _ h e))))
 have h1₅:ItAt k1 h₅ f k (n+1):=((h1₂.extBut hs₃.extBut D.TOi1.symm).extBut hs₄.extBut D.i12).extBut hs₅.extBut D.TOi1.symm;have h2₅:ItAt k2 h₅ g l (p+1):=h2₄.extBut hs₅.extBut D.TOi2.symm;have d:z<h₅.objs.size:=aI hz₅;show wpAny _ _ (Builtin.SmallTypes.ownedTupleHandOut (.ref z) (.ref h₅.objs.size)>>=_) _ _ _;refine aa ?_;unfold Builtin.SmallTypes.ownedTupleHandOut;have hz₆:IsZip (h₅.push {cls:=.type "tuple",data:=.seq #[x,y]}) z TI TO .ellipsis:=ag _ hz₅;refine aa (dG hz₆ (by simp) λh₇ hz₇ hs₇=>?_);replace hz₇:IsZip h₇ z TI TO (rawInt h₅.objs.size):=hz₇;refine dG hz₇ (by simp) λh₈ hz₈ hs₈=>?_;replace hz₈:IsZip h₈ z TI TO (rawInt h₅.objs.size):=hz₈;have q:∀c o,c≠z->h₅.get? c=some o->h₈.get? c=some o:=λc o h e=>hs₈.extBut _ _ h (hs₇.extBut _ _ h (ag _ e));have hT₈:IsPair h₈ h₅.objs.size x y:=hs₈.extBut _ _ (di d) (hs₇.extBut _ _ (di d) (aD _ rfl));have j:h₈.objs.size=h₅.objs.size+1:=by rw[hs₈.1,hs₇.1,bu]
 rw[i]at hz₈ hT₈ j;refine ae ⟨_,rfl,?_⟩;show Q (.ref h₅.objs.size) _;rw[i];exact G h₈ hz₈ (q _ _ D.TOz hTO₅) (h1₅.at λo e=>q _ o D.i1z e) (h2₅.at λo e=>q _ o D.i2z e) hT₈ j λc o h m r t e=>q c o h (hk₅ c o h m r t e)
theorem b3B{z TI TO l m v y:Addr}{B C:Nat}{xs ys:Array Value}{a b:Value}{Q:Fin->Shared->Prop}(H:A.handled=none)(D:ZipApart z TI TO l m v y)
  (hz:IsZip s.heap z TI TO .none) (p:IsPair s.heap TI (.ref l) (.ref m)) (q:IsPair s.heap TO a b)
  (h1:ItAt k1 s.heap l v B) (h2:ItAt k2 s.heap m y C) (k:SqAt k1 s.heap v xs) (t:SqAt k2 s.heap y ys) (j:xs[B]?=none∨ys[C]?=none)
  (G:∀h' e,(∀c o,c≠z->c≠TO->c≠l->c≠m->s.heap.get? c=some o->h'.get? c=some o)->(∃o,h'.get? e=some o/\o.cls=.type "StopIteration")->E (.ref e) {s with heap:=h'}) :
  wpAny (model prog w) A (Builtin.«zip.__next__» ⟨[.ref z],[]⟩) Q E s:=by
 show wpAny _ _ (field (.ref z) 2>>=_) _ _ _;refine aa (cy hz rfl (x:=.bool false) rfl ?_);show wpAny _ _ (field (.ref z) 3>>=_) _ _ _;refine aa (cy hz rfl (x:=.ref TI) rfl ?_);refine aa (cE p rfl ?_);show wpAny _ _ (Builtin.SmallTypes.ownedTupleIsFree (.ref z)>>=_) _ _ _;refine aa ?_;unfold Builtin.SmallTypes.ownedTupleIsFree;refine aa (cy hz rfl (x:=.none) rfl (ae ?_));simp only[ei];refine aa (fK ?_);refine aa (cy hz rfl (x:=.ref TO) rfl ?_);refine aa (dG hz (by simp) λh₁ hz₁ hs₁=>?_);replace hz₁:IsZip h₁ z TI TO .ellipsis:=hz₁;refine aa ?_;simp only[List.zipIdx_cons,List.zipIdx_nil,gd,List.forIn_nil];refine aa (aa (wpAny_onRaise ?_));show wpAny _ _ (Builtin.SmallTypes.nextOf (.ref l)>>=_) _ _ _;cases u:xs[B]? with
 |none =>
  refine aa (a7U H (h1.extBut hs₁.extBut D.i1z) (k.extBut hs₁.extBut D.l1z) u λh₂ e hs₂ r=>?_);obtain⟨F,d,f⟩:=r;have hz₂:IsZip h₂ z TI TO .ellipsis:=hs₂ _ _ D.i1z.symm hz₁;have g:e≠z:=λx=>by subst x;rw[hz₂]at d;cases d;simp at f
  refine dG hz₂ (by simp) λh₃ _ hs₃=>G h₃ e (λc o i _ n _ x=>hs₃.extBut _ _ i (hs₂ _ _ n (hs₁.extBut _ _ i x))) ⟨F,hs₃.extBut _ _ g d,f⟩
 |some x =>
  have K:ys[C]?=none:=by rcases j with h|h;rw[u]at h;cases h;exact h
  refine aa (a2n (h1.extBut hs₁.extBut D.i1z) (k.extBut hs₁.extBut D.l1z) u λh₂ h1₂ hs₂=>ae ?_);have hTO₂:IsPair h₂ TO a b:=hs₂.extBut _ _ D.TOi1 (hs₁.extBut _ _ D.TOz q);refine aa (cE hTO₂ rfl ?_);refine aa (gg hTO₂ λh₃ hTO₃ hs₃=>?_);refine aa (eG (ae ?_));refine aa (aa (wpAny_onRaise ?_));show wpAny _ _ (Builtin.SmallTypes.nextOf (.ref m)>>=_) _ _ _;refine aa (a7U H (((h2.extBut hs₁.extBut D.i2z).extBut hs₂.extBut D.i12.symm).extBut hs₃.extBut D.TOi2.symm)
   (((t.extBut hs₁.extBut D.l2z).extBut hs₂.extBut D.l2i1).extBut hs₃.extBut D.l2TO) K λh₄ e hs₄ r=>?_)
  obtain⟨F,d,f⟩:=r;have hz₄:IsZip h₄ z TI TO .ellipsis:=hs₄ _ _ D.i2z.symm (hs₃.extBut _ _ D.TOz.symm (hs₂.extBut _ _ D.i1z.symm hz₁));have g:e≠z:=λx=>by subst x;rw[hz₄]at d;cases d;simp at f
  refine dG hz₄ (by simp) λh₅ _ hs₅=>G h₅ e (λc o i I n J x=>hs₅.extBut _ _ i (hs₄ _ _ J (hs₃.extBut _ _ I (hs₂.extBut _ _ n (hs₁.extBut _ _ i x))))) ⟨F,hs₅.extBut _ _ g d,f⟩
noncomputable abbrev zH1(k1:Bool)(h:Heap)(l1:Addr):Heap:=h.push (a1B k1 l1)
noncomputable abbrev zH2(k1 k2:Bool)(h:Heap)(l1 l2:Addr):Heap:=(zH1 k1 h l1).push (a1B k2 l2)
noncomputable abbrev zH3(k1 k2:Bool)(h:Heap)(l1 l2:Addr):Heap:=(zH2 k1 k2 h l1 l2).push {cls:=.type "tuple",data:=.seq #[.ref h.objs.size,.ref (zH1 k1 h l1).objs.size]}
noncomputable abbrev zH4(k1 k2:Bool)(h:Heap)(l1 l2:Addr):Heap:=(zH3 k1 k2 h l1 l2).push {cls:=.type "tuple",data:=.seq #[.none,.none]}
noncomputable abbrev zH5(k1 k2:Bool)(h:Heap)(l1 l2:Addr):Heap:=(zH4 k1 k2 h l1 l2).push {cls:=.type "zip",data:=.fields #[.none,.bool false,.bool false,.ref (zH2 k1 k2 h l1 l2).objs.size,.ref (zH3 k1 k2 h l1 l2).objs.size]}
theorem b3z(a b:Addr)(xs ys:Array Value) :
  Meets (Builtin.«zip.__new__» ⟨[.type "zip",.ref a,.ref b],[]⟩) (λ_ R s=>SqAt k1 s.heap a xs/\SqAt k2 s.heap b ys /\
   R (.ok (.ret (.ref (zH4 k1 k2 s.heap a b).objs.size))) {s with heap:=zH5 k1 k2 s.heap a b}) :=
 .of_wp λprog w A R s h=>by
  obtain⟨k,g,d,tk,os⟩:=s;obtain⟨i,j,h⟩:=h;have l:=sub_zip;have c:SqAt k1 (Shared.heap ⟨k,g,d,tk,os⟩) a xs:=i;have f:SqAt k2 (Shared.heap ⟨k.push (a1B k1 a),g,d,tk,os⟩) b ys:=j.at λo e=>ag _ e
  wp_walk using R8 c,R8 f
  exact⟨_,rfl,h⟩
theorem b0E{a b:Addr}{xs ys:Array Value}{Q:Value->Shared->Prop}(e:SqAt k1 s.heap a xs)(f:SqAt k2 s.heap b ys)
  (h:∀h',IsZip h' (s.heap.objs.size+4) (s.heap.objs.size+2) (s.heap.objs.size+3) .none->IsPair h' (s.heap.objs.size+2) (.ref s.heap.objs.size) (.ref (s.heap.objs.size+1)) ->
   IsPair h' (s.heap.objs.size+3) .none .none->ItAt k1 h' s.heap.objs.size a 0->ItAt k2 h' (s.heap.objs.size+1) b 0->h'.objs.size=s.heap.objs.size+5 ->
   (∀c o,s.heap.get? c=some o->h'.get? c=some o)->Q (.ref (s.heap.objs.size+4)) {s with heap:=h'}) :
  wpAny (model prog w) A (call (.type "zip") [.ref a,.ref b]) Q E s:=by
 refine callType_new F.called_zip (by decide) (F.typeCall_zip_2 _ _) (F.newCall_zip_2 _ _) (λg=>F.args_object_init_3 g _ _) F.entry_zip_new
  (b3z (k1:=k1) (k2:=k2) a b xs ys) ⟨e,f,?_⟩
 have i:(zH1 k1 s.heap a).objs.size=s.heap.objs.size+1:=bu ..;have j:(zH2 k1 k2 s.heap a b).objs.size=s.heap.objs.size+2:=by rw[bu,i]
 have k:(zH3 k1 k2 s.heap a b).objs.size=s.heap.objs.size+3:=by rw[bu,j]
 have l:(zH4 k1 k2 s.heap a b).objs.size=s.heap.objs.size+4:=by rw[bu,k]
 have r:(zH5 k1 k2 s.heap a b).objs.size=s.heap.objs.size+5:=by rw[bu,l]
 have d:(zH5 k1 k2 s.heap a b).get? (zH4 k1 k2 s.heap a b).objs.size=some _:=aD _ rfl;have p:(zH5 k1 k2 s.heap a b).get? (zH3 k1 k2 s.heap a b).objs.size=some _:=ag _ (aD _ rfl);have n:(zH5 k1 k2 s.heap a b).get? (zH2 k1 k2 s.heap a b).objs.size=some _:=ag _ (ag _ (aD _ rfl));have m:(zH5 k1 k2 s.heap a b).get? (zH1 k1 s.heap a).objs.size=some (a1B k2 b):=ag _ (ag _ (ag _ (aD _ rfl)));have q:(zH5 k1 k2 s.heap a b).get? s.heap.objs.size=some (a1B k1 a):=ag _ (ag _ (ag _ (ag _ (aD _ rfl))));show _/\_;rw[j,k,l]at d;rw[i,j]at n;rw[k]at p;rw[i]at m;rw[l];refine⟨⟨_,d,rfl⟩,h _ d n p ?_ ?_ r λc o x =>
  ag _ (ag _ (ag _ (ag _ (ag _ x))))⟩
 .cases k1<;>exact⟨_,q,rfl,rfl⟩
 .cases k2<;>exact⟨_,m,rfl,rfl⟩
end
def SqK(k:Bool)(K:PySem.W.Frag)(H:Hp)(a:Addr)(xs:List V):Prop:=match k with|true=>SqT K H a xs|false=>SqL K H a xs
theorem Inv.sqk{X:Cx}{pins:List (Addr×Obj)}{σ:St}{H:Hp}{s:Shared}{k:Bool}{a:Addr}{xs:List V}(I:Inv X pins σ H s)(h:SqK k X.K H a xs):∃its:List Value,Vals xs its/\SqAt k s.heap a its.toArray/\xs.length<=sizeLine:=by
 cases k
 .obtain⟨its,r,p,z⟩:=I.list h;exact⟨its,r,p.isList,z⟩
 .obtain⟨its,r,p,z⟩:=I.tuple h;exact⟨its,r,p,z⟩
theorem Inv.sqk_inj{X:Cx}{pins:List (Addr×Obj)}{σ:St}{H:Hp}{s:Shared}{k:Bool}{a:Addr}{xs ys:List V}(I:Inv X pins σ H s)(h:SqK k X.K H a xs)(h':SqK k X.K H a ys):xs=ys:=by
 cases k
 .exact I.list_inj h h'
 .exact I.tuple_inj h h'
noncomputable def Itz(K:PySem.W.Frag)(k1 k2:Bool)(a b:Addr):It :=
 ⟨λi H=>∃xs ys x y,SqK k1 K H a xs/\SqK k2 K H b ys/\xs[i]?=some x/\ys[i]?=some y,
  λi H v H'=>∃p x y,v=.ref p/\H p=none/\H'=upd H p (.tup [x,y])/\(∀xs,SqK k1 K H a xs->xs[i]?=some x)/\∀ys,SqK k2 K H b ys->ys[i]?=some y,
  λi H=>∃xs ys,SqK k1 K H a xs/\SqK k2 K H b ys/\(xs.length<=i∨ys.length<=i)⟩
structure ZTurn(k1 k2:Bool)(z TI TO i1 i2 a b:Addr)(i:Nat)(f0:Value)(h:Heap):Prop where
 zz:IsZip h z TI TO f0
 ti:IsPair h TI (.ref i1) (.ref i2)
 to:∃u v,IsPair h TO u v
 t1:ItAt k1 h i1 a i
 t2:ItAt k2 h i2 b i
structure ZNe(z TI TO i1 i2:Addr):Prop where
 TIz:TI≠z
 TOz:TO≠z
 i1z:i1≠z
 i2z:i2≠z
 TITO:TI≠TO
 TIi1:TI≠i1
 TIi2:TI≠i2
 TOi1:TO≠i1
 TOi2:TO≠i2
 i12:i1≠i2
section
variable {X:Cx}{pins:List (Addr×Obj)}{σ:St}{H:Hp}{s:Shared}
theorem Inv.turnedT{h':Heap}{ch:List Addr}{p:Addr}{o:HO}(I:Inv X pins σ H s)(h:∀b∈ch,a1o X pins H b)(hp:s.heap.objs.size=p)(k:∀b o,b∉ch->s.heap.get? b=some o->h'.get? b=some o)
  (new:ObjOk X.prog X.w (upd H p o) h' p o):Inv X pins σ (upd H p o) {s with heap:=h'}:=by
 have l:H p=none:=I.hok.fresh (Nat.le_of_eq hp);have f:∀b u,H b=some u->b∉ch:=λb u e z=>by rw[(h b z).1]at e;cases e
 have a:∀b u,H b=some u->b≠p:=λb u e z=>by rw[z,l]at e;cases e
 have i:∀b u,s.heap.get? b=some u->b≠p:=λb u e=>by
  rw[<-hp];exact aR (aI e)
 refine I.step (g':=s.gens) (d':=s.drawn) (t':=s.toks) (ch:=ch) (λb g=>?_) (λb o _ _ d e _=>k b o d e) (λb o _ _ d e _=>⟨o.slots,k b o d e⟩) (λb u _ e n=>by rw[A5 (i b u e)];exact n)
  (λb o d e=>⟨o,k b o d e⟩) (λb xs e=>by rw[A5 (a b _ e)];exact e) (λb u v e=>by rw[A5 (a b _ e)];exact e) (λb ps e=>⟨#[],by rw[A5 (a b _ e),e];simp⟩) (λm j=>?_) (λb u e=>?_) I.bare
 .obtain⟨_,h1,_,h3,h4,h5⟩:=h b g;exact⟨h3,h1,h4,h5⟩
 .obtain⟨o,es,ep,ho,r⟩:=j;exact⟨o,es,ep,k _ o (λz=>(h _ z).2.1 rfl) ho,r⟩
 .by_cases g:b=p
  .subst g;rw[A1]at e;cases e;exact new
  .rw[A5 g]at e;refine(I.hok b u e).stay (λc v d q=>k c v ?_ q) (λc q=>by rw[A5 (a c _ q)];exact q) λc xs q=>by rw[A5 (a c _ q)];exact q
   rcases d with z|z
   .rw[z];exact f b u e
   .exact f c _ z
theorem Inv.turnedL{h':Heap}{ch:List Addr}(I:Inv X pins σ H s)(f:∀b∈ch,a1o X pins H b)(k:∀b o,b∉ch->s.heap.get? b=some o->h'.get? b=some o):Inv X pins σ H {s with heap:=h'}:=by
 have d:∀b u,H b=some u->b∉ch:=λb u e z=>by rw[(f b z).1]at e;cases e
 refine I.step (g':=s.gens) (d':=s.drawn) (t':=s.toks) (ch:=ch) (λb g=>?_) (λb o _ _ a e _=>k b o a e) (λb o _ _ a e _=>⟨o.slots,k b o a e⟩) (λb u _ e n=>n)
  (λb o a e=>⟨o,k b o a e⟩) (λb xs e=>e) (λb u v e=>e) (λb ps e=>⟨#[],by rw[e];simp⟩) (λm h=>?_) (λb u e=>?_) I.bare
 .obtain⟨_,h1,_,h3,h4,h5⟩:=f b g;exact⟨h3,h1,h4,h5⟩
 .obtain⟨o,es,ep,ho,r⟩:=h;exact⟨o,es,ep,k _ o (λz=>(f _ z).2.1 rfl) ho,r⟩
 .refine(I.hok b u e).stay (λc v a q=>k c v ?_ q) (λc q=>q) λc xs q=>q;rcases a with z|z
  .rw[z];exact d b u e
  .exact d c _ z
theorem Inv.apart{k:Bool}{a:Addr}{xs:List V}{b:Addr}{o:Obj}(I:Inv X pins σ H s)(hs:SqK k X.K H a xs)(h:a1o X pins H b):a≠b:=by
 rintro rfl;have c:∀{u:HO},Rd H a u->False:=λr=>by
  rcases r with r|⟨o,r⟩<;>rw[h.1]at r<;>cases r
 have d:∀{f:Obj},X.K.lookup a=some f->False:=λe=>by
  have g:=I.mod.kin a _ e;rcases h.2.2.2.1 with z|z
  .exact I.ok.noex _ _ g z
  .exact absurd (aM (aI (I.ok.bs _ _ g).1) z) (cj _)
 cases k
 .rcases hs with r|⟨f,_,_,e,_⟩
  .exact c r
  .exact d e
 .rcases hs with r|⟨f,_,_,e,_⟩
  .exact c r
  .exact d e
end
theorem b0K{P:Program}{w:World}{K:PySem.W.Frag}{es:List Expr}{kt:Nat}{tp:Pos}{k1 k2:Bool}{a b z TI TO j l:Addr}(D:ZNe z TI TO j l) :
  Turn P w K (.Tuple es kt tp) (Itz K k1 k2 a b) [z,TI,TO,j,l] z (λi h=>ZTurn k1 k2 z TI TO j l a b i .none h) where
 mem:=by simp
 obj:=λi h st c f=>by
  simp only[aE,bz,cN]at f;rcases f with rfl|rfl|rfl|rfl|rfl
  .exact⟨_,st.zz,λv z=>by cases z⟩
  .exact⟨_,st.ti,λv z=>by cases z⟩
  .obtain⟨u,v,q⟩:=st.to;exact⟨_,q,λv z=>by cases z⟩
  .obtain⟨o,e,d⟩:=st.t1.get;exact⟨o,e,λv z=>by rw[d]at z;cases z⟩
  .obtain⟨o,e,d⟩:=st.t2.get;exact⟨o,e,λv z=>by rw[d]at z;cases z⟩
 keep:=λi h h' st k=>⟨k z (by simp) _ st.zz,k TI (by simp) _ st.ti,let ⟨u,v,q⟩:=st.to;⟨u,v,k TO (by simp) _ q⟩,st.t1.at λo e=>k j (by simp) o e,st.t2.at λo e=>k l (by simp) o e⟩
 item:=by
  intro X N hw M f i pins s σ H E I t st O;subst N hw M;obtain⟨xs,ys,x,y,n,p,hx,hy⟩:=O;obtain⟨us,Y,V,zu⟩:=I.sqk n;obtain⟨ws,C,W,zw⟩:=I.sqk p;obtain⟨u,hu,Z⟩:=Y.get hx;obtain⟨v,hv,a0⟩:=C.get hy;have g:∀c∈[z,TI,TO,j,l],a≠c/\b≠c:=λc f=>⟨I.apart (o:=default) n (t c f),I.apart (o:=default) p (t c f)⟩;have L:ZipApart z TI TO j l a b:=⟨D.TIz,D.TOz,D.i1z,D.i2z,D.TITO,D.TIi1,D.TIi2,D.TOi1,D.TOi2,D.i12,(g z (by simp)).1,(g TO (by simp)).1,(g j (by simp)).1,(g l (by simp)).1,(g z (by simp)).2,(g TO (by simp)).2,(g j (by simp)).2,(g l (by simp)).2⟩;obtain⟨ua,ub,r⟩:=st.to;have G:s.TypeIs (.ref z) "zip":=⟨_,st.zz,rfl⟩;unfold pyNext;refine aa (ek (bJ (name:=Str.ofString "__next__") G gh
   (bM gh G F.entry_zip_next
    (b0D L st.zz st.ti r st.t1 st.t2 V W (x:=u) (y:=v) (by simpa using hu) (by simpa using hv) λh' a1 a2 a3 a4 a5 a6 a7=>ae ?_) (F.args_zip_next_1 _))))
  refine⟨_,rfl,?_⟩;refine wpAny_letOwnedTupleGo_zip (s:={s with heap:=h'}) a1 λh2 S m=>?_;have ne:∀c∈[z,TI,TO,j,l],c≠s.heap.objs.size:=λc f e=>by
   have:∃o,s.heap.get? c=some o:=by
    simp only[aE,bz,cN]at f;rcases f with rfl|rfl|rfl|rfl|rfl
    .exact⟨_,st.zz⟩
    .exact⟨_,st.ti⟩
    .exact⟨_,r⟩
    .obtain⟨o,e,d⟩:=st.t1.get;exact⟨o,e⟩
    .obtain⟨o,e,d⟩:=st.t2.get;exact⟨o,e⟩
   obtain⟨o,q⟩:=this;exact absurd (aI q) (by rw[e];exact cj _)
  have B:H s.heap.objs.size=none:=I.hok.fresh (ao _);have U:IsPair h2 s.heap.objs.size u v:=m.extBut _ _ (ne z (by simp)).symm a5;have kk:∀c o,c∉[z,TI,TO,j,l]->s.heap.get? c=some o->h2.get? c=some o:=λc o f e=>by
   simp only[aE,bz,cN,not_or]at f;exact m.extBut _ _ f.1 (a7 c o f.1 f.2.2.1 f.2.2.2.1 f.2.2.2.2 e)
  have I2:Inv X pins σ (upd H s.heap.objs.size (.tup [x,y])) {s with heap:=h2} :=
   I.turnedT (ch:=[z,TI,TO,j,l]) t rfl kk ⟨by show 2<=sizeLine;decide,[u,v],.cons Z (.cons a0 .nil),⟨_,U,rfl,0,rfl⟩⟩
  refine⟨.ref s.heap.objs.size,_,I2,rfl,⟨_,x,y,rfl,B,rfl,λzs R=>?_,λzs R=>?_⟩,⟨S,m.extBut _ _ D.TIz (a7 _ _ D.TIz D.TITO D.TIi1 D.TIi2 st.ti),⟨u,v,m.extBut _ _ D.TOz a2⟩,a3.extBut m.extBut D.i1z,a4.extBut m.extBut D.i2z⟩,λc f=>?_⟩
  .rw[I.sqk_inj R n];exact hx
  .rw[I.sqk_inj R p];exact hy
  .rw[A5 (ne c f)];exact(t c f).1
 done:=by
  intro X N hw M f i pins s σ H E I t st O;subst N hw M;obtain⟨xs,ys,n,p,J⟩:=O;obtain⟨us,Y,V,zu⟩:=I.sqk n;obtain⟨ws,C,W,zw⟩:=I.sqk p;have l1:=Y.length;have l2:=C.length;have g:∀c∈[z,TI,TO,j,l],a≠c/\b≠c:=λc f=>⟨I.apart (o:=default) n (t c f),I.apart (o:=default) p (t c f)⟩;have L:ZipApart z TI TO j l a b:=⟨D.TIz,D.TOz,D.i1z,D.i2z,D.TITO,D.TIi1,D.TIi2,D.TOi1,D.TOi2,D.i12,(g z (by simp)).1,(g TO (by simp)).1,(g j (by simp)).1,(g l (by simp)).1,(g z (by simp)).2,(g TO (by simp)).2,(g j (by simp)).2,(g l (by simp)).2⟩;obtain⟨ua,ub,r⟩:=st.to;have G:s.TypeIs (.ref z) "zip":=⟨_,st.zz,rfl⟩;unfold pyNext;refine aa (ek (bJ (name:=Str.ofString "__next__") G gh
   (bM gh G F.entry_zip_next (b3B (I.ok.hd f) L st.zz st.ti r st.t1 st.t2 V W ?_ λh' e hk he=>?_) (F.args_zip_next_1 _))))
  .rcases J with q|q
   .exact .inl (by simp;omega)
   .exact .inr (by simp;omega)
  .obtain⟨o,ho,f⟩:=he;refine aa (fX (T:="StopIteration") (b:=true) ⟨o,ho,f⟩ isSubtype_stop ?_);refine ae ⟨rfl,I.turnedL (ch:=[z,TI,TO,j,l]) t λc o f e=>?_⟩;simp only[aE,bz,cN,not_or]at f;exact hk c o f.1 f.2.2.1 f.2.2.2.1 f.2.2.2.2 e
 self:=λA i s Q E st h=>wpAny_pyIter_zip st.zz h
theorem nne{a b:Nat}(h:a≠b):@Ne Addr a b:=h
theorem zne(n:Nat):ZNe (n+4) (n+2) (n+3) n (n+1) :=
 ⟨nne (by omega),nne (by omega),nne (by omega),nne (by omega),nne (by omega),nne (by omega),nne (by omega),nne (by omega),nne (by omega),nne (by omega)⟩
def b7v(K:PySem.W.Frag)(ta:TA):TI:=λσ H R=>ta σ H λvs H1=>∃k1 k2 a b,vs=[.ref a,.ref b]/\(∃xs,SqK k1 K H1 a xs)/\(∃ys,SqK k2 K H1 b ys)/\R (Itz K k1 k2 a b) H1
section
variable {X:Cx}
theorem b6z{es:List Expr}{u:Nat}{A:Pos}{a b:Expr}{ta:TA}{p pos:Pos}(m:Gl X "zip")(n:X.mg "zip"=none)(l:PA X [a,b] ta)(i:bootBuiltins "zip"=some (.type "zip"))
  (hs:starEach [a,b] X.env=[(false,eval a X.env),(false,eval b X.env)]:=by rfl) (g:starEach [b] X.env=[(false,eval b X.env)]:=by rfl) :
  PI X (.Tuple es u A) (.Call (.Name "zip" p) [a,b] [] pos) (b7v X.K ta):=by
 intro pins s σ H R I h;refine Call_ (a2N I m n i (eY (thn (l pos pins s σ H _ I h) λB s1 ⟨vs,H1,d,y,x⟩=>?_) (by rw[hs,g]) (by rw[g];rfl)));obtain⟨k1,k2,J,K,e,⟨xs,o⟩,⟨ys,t⟩,q⟩:=x;subst e;cases y with
 |cons r rr =>
  cases rr with
  |cons r' rr =>
   cases rr;cases r;cases r';obtain⟨B,L,v,O⟩:=d.sqk o;obtain⟨M,z,w,P⟩:=d.sqk t;refine b0E v w λh' k C D E F N G=>?_;refine wpAny_pyIter_zip (s:={s1 with heap:=h'}) k ?_;refine⟨s1.heap.objs.size+4,[s1.heap.objs.size+4,s1.heap.objs.size+2,s1.heap.objs.size+3,s1.heap.objs.size,s1.heap.objs.size+1],_,_,H1,rfl,d.kept (t':=s1.toks) G,b0K (zne _),
    ⟨k,C,⟨_,_,D⟩,E,F⟩,λc j=>?_,q⟩
   have f:s1.heap.objs.size<=c:=by
    simp only[aE,bz,cN]at j;rcases j with rfl|rfl|rfl|rfl|rfl
    .exact cu _ _
    .exact cu _ _
    .exact cu _ _
    .exact ao _
    .exact cu _ _
   exact d.fpOk f (d.hok.fresh f)
end
theorem a0o{prog:Program}{w:World}{A:Around}{k:Bool}{I l:Addr}{items:Array Value}(b:A.handled=none)(a:l≠I) :
  Walks prog w A I [I,l] [I] items.size (λi v=>items[i]?=some v) (λi h=>ItAt k h I l i/\SqAt k h l items):=by
 cases k
 .exact Walks.list b I l a items
 .exact Walks.tuple b I l a items
noncomputable def trV:V->Bool
 |.bl b=>b
 |.int i=>i != 0
 |.non=>false
 |_=>true
noncomputable def a8M:V->Bool
 |.bl _=>true
 |.int _=>true
 |.non=>true
 |_=>false
theorem a1r{prog:Program}{w:World}{A:Around}{E:Value->Shared->Prop}{s:Shared}{x:V}{v:Value}{Q:Bool->Shared->Prop}(r:RelV x v)(f:a8M x=true)(h:Q (trV x) s):wpAny (model prog w) A (truthy v) Q E s:=by
 cases x with
 |non=>cases r;exact truthy_none h
 |bl b=>cases r;exact cW h
 |int i=>obtain⟨t,rfl⟩:=r;exact PySem.P.truthy_int h
 |_=>cases f
theorem a3J{α:Type}(xs:List α)(p:α->Bool)(d:α):(List.range xs.length).all (λi=>p (xs.getD i d))=xs.all p:=by
 rw[cY,bN,bN];constructor
 .intro h x hx;obtain⟨i,hi,rfl⟩:=bC.mp hx;have:=h i (aW.mpr hi);simpa[ak,hi]using this
 .intro h i hi;have a:=aW.mp hi;simpa[ak,a]using h xs[i] (cz a)
theorem a9v{α:Type}(xs:List α)(p:α->Bool)(d:α):(List.range xs.length).any (λi=>p (xs.getD i d))=xs.any p:=by
 have:=a3J xs (λx=>!p x) d;rw[<-List.not_any_eq_all_not,<-List.not_any_eq_all_not]at this;simpa using this
theorem a8n(xs:List Int):∀n,n<=xs.length->preSum (λi=>xs.getD i 0) n=(xs.take n).sum
 |0,_=>by simp[preSum]
 |n+1,h=>by
  have this:xs[n]?=some xs[n]:=ai (by omega);have e:xs.take (n+1)=xs.take n++[xs[n]]:=by rw[bj,this];rfl
  rw[preSum,a8n xs n (by omega),e,List.sum_append];simp[ak,this]
section
variable {X:Cx}
abbrev RL:=List V->Hp->VK->Prop
def b6q(K:PySem.W.Frag):RL:=λxs H Q=>∃(k:Bool) (p:Addr) (ys:List V),xs=[.ref p]/\SqK k K H p ys/\ys.all a8M=true/\Q (.bl (ys.all trV)) H
def b6p(K:PySem.W.Frag):RL:=λxs H Q=>∃(k:Bool) (p:Addr) (ys:List V),xs=[.ref p]/\SqK k K H p ys/\ys.all a8M=true/\Q (.bl (ys.any trV)) H
def b6j(K:PySem.W.Frag):RL:=λxs H Q=>∃(k:Bool) (p:Addr) (ns:List Int),xs=[.ref p]/\SqK k K H p (ns.map V.int)/\Q (.int ns.sum) H
theorem a4R{k:Bool}{l:Addr}{items:Array Value}{s:Shared}(h:SqAt k s.heap l items):ItAt k (s.heap.push (a1B k l)) s.heap.objs.size l 0/\SqAt k (s.heap.push (a1B k l)) l items:=by
 refine⟨?_,h.at λo e=>ag _ e⟩;cases k<;>exact⟨_,aD _ rfl,rfl,rfl⟩
theorem a0C{k:Bool}{l:Addr}{items:Array Value}{s:Shared}(h:SqAt k s.heap l items):l≠s.heap.objs.size:=by
 obtain⟨o,e⟩:=h.get;exact aR (aI e)
theorem a0D{s:Shared}{h':Heap}{c:Obj}(a:∀b o,b∉[s.heap.objs.size]->(s.heap.push c).get? b=some o->h'.get? b=some o):∀b o,s.heap.get? b=some o->h'.get? b=some o:=λb o e =>
 a b o (λz=>by have:=aI e;rw[aA.mp z]at this;exact cj _ this) (ag _ e)
theorem b3o(m:X.calm=true):E2 X (.builtin "all") (b6q X.K):=by
 intro pins s σ H xs y Q I w h;obtain⟨k,p,ys,rfl,hs,n,q⟩:=h;obtain⟨u,rfl,t⟩:=w.one;cases t;obtain⟨its,c,d,x⟩:=I.sqk hs;have o:X.A.in1.handled=none:=I.ok.hd m;refine call_all_walk (R8 d ?_);refine⟨s.heap.objs.size,_,_,_,_,_,λi=>trV (ys.getD i .non),rfl,a0o (k:=k) (l:=p) (items:=its.toArray) o (a0C d),a4R d,?_,λh' tk r=>?_⟩
 .intro i v s' Q' E' hv hq;have b:its[i]?=some v:=by simpa using hv
  obtain⟨hi,_⟩:=aH.mp b;have a:i<ys.length:=by rw[c.length];exact hi
  have g:ys[i]?=some ys[i]:=ai a;obtain⟨z,f,j⟩:=c.get g;rw[b]at f;cases f;refine a1r j (bN.mp n _ (cz a)) ?_;simpa[ak,g]using hq
 .have e:(List.range its.toArray.size).all (λi=>trV (ys.getD i .non))=ys.all trV:=by
   rw[aB,<-c.length];exact a3J ys trV .non
  rw[e];exact⟨.bl _,H,I.kept (a0D r),rfl,q⟩
theorem b3n(m:X.calm=true):E2 X (.builtin "any") (b6p X.K):=by
 intro pins s σ H xs y Q I w h;obtain⟨k,p,ys,rfl,hs,n,q⟩:=h;obtain⟨u,rfl,t⟩:=w.one;cases t;obtain⟨its,c,d,x⟩:=I.sqk hs;have o:X.A.in1.handled=none:=I.ok.hd m;refine call_any_walk (R8 d ?_);refine⟨s.heap.objs.size,_,_,_,_,_,λi=>trV (ys.getD i .non),rfl,a0o (k:=k) (l:=p) (items:=its.toArray) o (a0C d),a4R d,?_,λh' tk r=>?_⟩
 .intro i v s' Q' E' hv hq;have b:its[i]?=some v:=by simpa using hv
  obtain⟨hi,_⟩:=aH.mp b;have a:i<ys.length:=by rw[c.length];exact hi
  have g:ys[i]?=some ys[i]:=ai a;obtain⟨z,f,j⟩:=c.get g;rw[b]at f;cases f;refine a1r j (bN.mp n _ (cz a)) ?_;simpa[ak,g]using hq
 .have e:(List.range its.toArray.size).any (λi=>trV (ys.getD i .non))=ys.any trV:=by
   rw[aB,<-c.length];exact a9v ys trV .non
  rw[e];exact⟨.bl _,H,I.kept (a0D r),rfl,q⟩
theorem b3l(w:X.calm=true):E2 X (.builtin "sum") (b6j X.K):=by
 intro pins s σ H xs D Q I B h;obtain⟨k,p,a,rfl,hs,q⟩:=h;obtain⟨u,rfl,A⟩:=B.one;cases A;obtain⟨its,n,d,C⟩:=I.sqk hs;have m:=n.length;rw[aj]at m;have x:X.A.in1.handled=none:=I.ok.hd w;refine call_sum_walkG (R8 d ?_);refine⟨s.heap.objs.size,_,_,_,_,_,λi=>a.getD i 0,rfl,a0o (k:=k) (l:=p) (items:=its.toArray) x (a0C d),a4R d,λb j=>?_,?_,λh' tk t' y=>?_⟩
 .rw[bu];obtain⟨o,e⟩:=d.get;have f:=aI e;simp only[aE,bz,cN]at j;rcases j with rfl|rfl
  .exact bQ _
  .exact bX f
 .intro i v hv;have c:its[i]?=some v:=by simpa using hv
  obtain⟨hi,_⟩:=aH.mp c;have z:(a.map V.int)[i]?=some (.int a[i]):=by rw[aQ,ai (by omega)];rfl
  obtain⟨E,g,t,r⟩:=n.get z;rw[c]at g;cases g;exact⟨t,by rw[r];show _=Value.int (a.getD i 0) t;rw[ak,ai (by omega)];rfl⟩
 .have e:preSum (λi=>a.getD i 0) its.toArray.size=a.sum:=by
   rw[aB,<-m,a8n a _ (ao _),bq]
  rw[e];exact⟨.int a.sum,H,I.kept (a0D y),⟨t',rfl⟩,q⟩
def b6n(K:PySem.W.Frag):RL:=λxs H Q=>∃x n t b,xs=[x,.ty n]/\TyOf K H x t/\PySem.W.kitOne K t (.type n)=some b/\Q (.bl b) H
theorem b3m:E2 X (.builtin "isinstance") (b6n X.K):=by
 intro pins s σ H xs f Q I d h;obtain⟨x,n,t,b,rfl,ty,e,q⟩:=h;obtain⟨u,v,rfl,c,a⟩:=d.two;cases a;exact a9Y I c ty e λtk=>⟨.bl b,H,I.tok tk,rfl,q⟩
end
theorem b3s:bootBuiltins "len"=some (.builtin "len"):=boot_len
theorem b7F:bootBuiltins "zip"=some (.type "zip"):=by kernel_rfl
theorem b7L:bootBuiltins "all"=some (.builtin "all"):=by kernel_rfl
theorem b7K:bootBuiltins "any"=some (.builtin "any"):=by kernel_rfl
theorem b7G:bootBuiltins "sum"=some (.builtin "sum"):=by kernel_rfl
theorem b7I:bootBuiltins "min"=some (.builtin "min"):=by kernel_rfl
theorem b7J:bootBuiltins "max"=some (.builtin "max"):=by kernel_rfl
theorem b7M:bootBuiltins "abs"=some (.builtin "abs"):=by kernel_rfl
theorem a3w:bootBuiltins "isinstance"=some (.builtin "isinstance"):=by kernel_rfl
theorem a1m:bootBuiltins "sorted"=some (.builtin "sorted"):=by kernel_rfl
theorem a0P:bootBuiltins "tuple"=some (.type "tuple"):=by kernel_rfl
theorem b5m:bootBuiltins "list"=some (.type "list"):=by kernel_rfl
theorem b3t:bootBuiltins "int"=some (.type "int"):=by kernel_rfl
theorem b5n:bootBuiltins "bool"=some (.type "bool"):=by kernel_rfl
theorem b7H:bootBuiltins "set"=some (.type "set"):=by kernel_rfl
theorem a2e{src:List (Option Nat)}{g:TG}{f:TT}{te:TE}{σ:St}{Q:VK}{J:It}{H1:Hp}(n:Nat)(a:Nat->List V->Hp->Prop)(h0:a 0 [] H1)
  (hs:∀i ys H,i<n->a i ys H->J.go i H/\ys.length<sizeLine/\∀x H',J.yld i H x H'->g x (B5 src σ) H' λσ2 H2=>Sub (B5 src σ) σ2/\f σ2 H2 λb d=>if b=true then te σ2 d λv h=>a (i+1) (ys++[v]) h else a (i+1) ys d)
  (hd:∀ys H,a n ys H->J.stop n H/\ys.length<=sizeLine/\∀p,H p=none->Q (.ref p) (upd H p (.lst ys))):J5 src g f te σ Q J H1:=by
 refine⟨λi m ys H=>m=n-i/\i<=n/\a i ys H,⟨n,by omega,bp _,h0⟩,?_⟩;rintro i m ys H ⟨rfl,hi,p⟩;by_cases c:i<n
 .obtain⟨q1,q2,q3⟩:=hs i ys H c p;exact .inr ⟨q1,q2,a (i+1),λzs H' j=>⟨n-(i+1),by omega,rfl,c,j⟩,q3⟩
 .have e:i=n:=by omega
  subst e;exact .inl (hd ys H p)
theorem a7r{src:List (Option Nat)}{g:TG}{f:TT}{te:TE}{σ:St}{Q:VK}{lo:Int}{n:Nat}{H1:Hp}(j:n<=sizeLine)(a:Nat->List V->Hp->Prop)(h0:a 0 [] H1)
  (d:∀i ys H,a i ys H->ys.length<=i)
  (hs:∀i ys H,i<n->a i ys H->g (.int (lo+i)) (B5 src σ) H λσ2 H2=>Sub (B5 src σ) σ2/\f σ2 H2 λb c=>if b=true then te σ2 c λv h=>a (i+1) (ys++[v]) h else a (i+1) ys c)
  (hd:∀ys H,a n ys H->∀p,H p=none->Q (.ref p) (upd H p (.lst ys))):J5 src g f te σ Q (Itr lo n) H1 :=
 a2e n a h0 (λi ys H hi p=>⟨hi,by have:=d i ys H p;omega,λx H' y=>by obtain⟨e,y⟩:=y;subst e y;exact hs i ys _ hi p⟩)
  λys H p=>⟨ao _,bf (d n ys H p) j,hd ys H p⟩
theorem L7{K:PySem.W.Frag}{src:List (Option Nat)}{g:TG}{j:TT}{te:TE}{σ:St}{Q:VK}{a:Addr}{xs:List V}{H1:Hp}(m:xs.length<=sizeLine)(c:Nat->List V->Hp->Prop)(h0:c 0 [] H1)
  (h:∀i ys H,i<=xs.length->c i ys H->SqL K H a xs/\ys.length<=i)
  (hs:∀i x ys H,xs[i]?=some x->c i ys H->g x (B5 src σ) H λσ2 H2=>Sub (B5 src σ) σ2/\j σ2 H2 λb f=>if b=true then te σ2 f λv k=>c (i+1) (ys++[v]) k else c (i+1) ys f)
  (hd:∀ys H,c xs.length ys H->∀p,H p=none->Q (.ref p) (upd H p (.lst ys))):J5 src g j te σ Q (Itl K a) H1 :=
 a2e xs.length c h0 (λi ys H hi p=>by
   obtain⟨d,l⟩:=h i ys H (cQ hi) p;refine⟨⟨xs,xs[i],d,ai hi⟩,by omega,λx H' y=>?_⟩;obtain⟨e,y⟩:=y;subst e;exact hs i x ys _ (y xs d) p)
  λys H p=>by
   obtain⟨d,l⟩:=h _ ys H (ao _) p;exact⟨⟨xs,d,ao _⟩,by omega,hd ys H p⟩
theorem X1{K:PySem.W.Frag}{src:List (Option Nat)}{g:TG}{j:TT}{te:TE}{σ:St}{Q:VK}{a:Addr}{xs:List V}{H1:Hp}(m:xs.length<=sizeLine)(c:Nat->List V->Hp->Prop)(h0:c 0 [] H1)
  (h:∀i ys H,i<=xs.length->c i ys H->SqT K H a xs/\ys.length<=i)
  (hs:∀i x ys H,xs[i]?=some x->c i ys H->g x (B5 src σ) H λσ2 H2=>Sub (B5 src σ) σ2/\j σ2 H2 λb f=>if b=true then te σ2 f λv k=>c (i+1) (ys++[v]) k else c (i+1) ys f)
  (hd:∀ys H,c xs.length ys H->∀p,H p=none->Q (.ref p) (upd H p (.lst ys))):J5 src g j te σ Q (Itt K a) H1 :=
 a2e xs.length c h0 (λi ys H hi p=>by
   obtain⟨d,l⟩:=h i ys H (cQ hi) p;refine⟨⟨xs,xs[i],d,ai hi⟩,by omega,λx H' y=>?_⟩;obtain⟨e,y⟩:=y;subst e;exact hs i x ys _ (y xs d) p)
  λys H p=>by
   obtain⟨d,l⟩:=h _ ys H (ao _) p;exact⟨⟨xs,d,ao _⟩,by omega,hd ys H p⟩
theorem X0{K:PySem.W.Frag}{src:List (Option Nat)}{g:TG}{m:TT}{te:TE}{σ:St}{Q:VK}{k1 k2:Bool}{a b:Addr}{xs zs:List V}{H1:Hp}(B:xs.length<=sizeLine)(c:Nat->List V->Hp->Prop)(h0:c 0 [] H1)
  (l:∀i ys H,i<=xs.length->i<=zs.length->c i ys H->SqK k1 K H a xs/\SqK k2 K H b zs/\ys.length<=i)
  (hs:∀i x z ys H p,xs[i]?=some x->zs[i]?=some z->c i ys H->H p=none->g (.ref p) (B5 src σ) (upd H p (.tup [x,z])) λσ2 H2=>Sub (B5 src σ) σ2/\m σ2 H2 λb k=>if b=true then te σ2 k λv n=>c (i+1) (ys++[v]) n else c (i+1) ys k)
  (hd:∀ys H,c (min xs.length zs.length) ys H->∀p,H p=none->Q (.ref p) (upd H p (.lst ys))):J5 src g m te σ Q (Itz K k1 k2 a b) H1 :=
 a2e (min xs.length zs.length) c h0 (λi ys H hi p=>by
   have h:i<xs.length:=by omega
   have j:i<zs.length:=by omega
   obtain⟨d,f,s⟩:=l i ys H (by omega) (by omega) p;refine⟨⟨xs,zs,xs[i],zs[i],d,f,ai h,ai j⟩,by omega,λx H' y=>?_⟩;obtain⟨r,t,A,e,o,q,u,w⟩:=y;subst e q;exact hs i t A ys _ r (u xs d) (w zs f) p o)
  λys H p=>by
   obtain⟨d,f,s⟩:=l _ ys H (by omega) (by omega) p;exact⟨⟨xs,zs,d,f,by omega⟩,by omega,hd ys H p⟩
theorem b5e{K:PySem.W.Frag}{k1 k2:Bool}{a b:Addr}{xs zs:List V}{g:TG}{tb:TS}{D:Ends}{σ:St}{H:Hp}(c:Nat->St->Hp->Prop)(h0:c 0 σ H)
  (o:∀i σ H,i<=xs.length->i<=zs.length->c i σ H->SqK k1 K H a xs/\SqK k2 K H b zs)
  (hs:∀i x z σ H p,xs[i]?=some x->zs[i]?=some z->c i σ H->H p=none->g (.ref p) σ (upd H p (.tup [x,z])) λσ2 H2=>tb {D with nx:=c (i+1),ct:=c (i+1),bk:=D.nx} σ2 H2) (hd:∀σ H,c (min xs.length zs.length) σ H->D.nx σ H) :
  ∃W:Nat->Nat->St->Hp->Prop,(∃m,W 0 m σ H)/\∀i m σ H,W i m σ H ->
   ((Itz K k1 k2 a b).stop i H/\D.nx σ H)∨((Itz K k1 k2 a b).go i H/\∃N:St->Hp->Prop,(∀σ' H',N σ' H'->∃k,k<m/\W (i+1) k σ' H')/\∀x H',(Itz K k1 k2 a b).yld i H x H'->g x σ H' λσ2 H2=>tb {D with nx:=N,ct:=N,bk:=D.nx} σ2 H2):=by
 refine⟨λi m σ H=>m=min xs.length zs.length-i/\i<=min xs.length zs.length/\c i σ H,⟨_,rfl,bp _,h0⟩,?_⟩;rintro i m σ H ⟨rfl,hi,p⟩;obtain⟨h,j⟩:=o i σ H (by omega) (by omega) p;by_cases f:i<min xs.length zs.length
 .have hi1:i<xs.length:=by omega
  have d:i<zs.length:=by omega
  refine .inr ⟨⟨xs,zs,xs[i],zs[i],h,j,ai hi1,ai d⟩,c (i+1),λσ' H' q=>⟨_,by omega,rfl,f,q⟩,λx H' y=>?_⟩;obtain⟨r,s,v,e,l,n,t,u⟩:=y;subst e n;exact hs i s v σ _ r (t xs h) (u zs j) p l
 .have e:i=min xs.length zs.length:=by omega
  subst e;exact .inl ⟨⟨xs,zs,h,j,by omega⟩,hd σ H p⟩
structure Ok(P:Program)(w:World)(K:PySem.W.Frag)(mg:Str->Option Value)(base:Heap)(x:Str)(k:Nat)(ps:List Str)(sp:Sp):Prop where
 ex:∃f fd,mg x=some (.ref f)/\PySem.W.keepIn K (.ref f)=true/\Binds K fd ps []/\FnOk P w K mg base CX0 k f fd ps sp
structure FunAt(K:PySem.W.Frag)(mg:Str->Option Value)(x:Str)(st:Stmt)(ps:List Str):Prop where
 ex:∃f fd,mg x=some (.ref f)/\Fun K x x st f fd/\Binds K fd ps []
section
variable {P:Program}{w:World}{K:PySem.W.Frag}{mg:Str->Option Value}{base:Heap}
theorem Ok.imp{x:Str}{k:Nat}{ps:List Str}{sp sp':Sp}(O:Ok P w K mg base x k ps sp)(h:∀vs H Q E,sp' vs H Q E->sp vs H Q E):Ok P w K mg base x k ps sp':=by
 obtain⟨f,fd,h1,h2,a,b⟩:=O.ex;exact⟨f,fd,h1,h2,a,b.imp h⟩
theorem FunAt.ok{x:Str}{st:Stmt}{N ps:List Str}{k:Nat}{sp:Sp}(F:FunAt K mg x st ps)(S:FnScope N ps (A4 st))(c:∀vs H Q E,sp vs H Q E->vs.length=ps.length)
  (b:∀(a:Value) (f:Addr) (A:Around) (outer:List Env) (s:Shared) (H:Hp) (vs:List V) (Q:VK) (E:XK),Room k (A.deeper (envOfC x (A4 st) s.heap.objs.size f a))->sp vs H Q E ->
   ∃t,PSs (L6 CX0 P w K mg base N x (A4 st) f a A outer s H E).nox (F0 st) t/\t {nx:=λ_ H'=>Q .non H',rt:=Q} (start N vs) H):Ok P w K mg base x (k+1) ps sp:=by
 obtain⟨f,fd,h1,h2,d⟩:=F.ex;exact⟨f,fd,h1,h2.kp,d,h2.ok S c λa=>b a f⟩
end
section
variable {X:Cx}{k:Nat}{ps:List Str}{sp:Sp}{x:Str}{p pos:Pos}{e:Expr}{es:List Expr}{t:TA}
theorem b1U(O:Ok X.prog X.w X.K X.mg X.base x k ps sp)(j:Room k X.A)(i:Gl X x)(g:PA X (e::es) t)(a:(x==("__debug__" : Str))=false:=by decide)
  (h:starEach (e::es) X.env=(false,eval e X.env)::starEach es X.env:=by rfl) (b:(backTo pos (starEach es X.env)).any (·.1)=false:=by rfl):PE X (.Call (.Name x p) (e::es) [] pos) (a7R sp [] E0 t):=by
 obtain⟨f,fd,h1,h2,c,d⟩:=O.ex;exact a8r d j i h1 h2 c .nil a8s g a h b
end
inductive EqV(K:PySem.W.Frag)(H:Hp):Nat->V->V->Bool->Prop
 |flat {n:Nat}{x y:V}(fx:a6l x=true) (fy:a6l y=true):EqV K H n x y (eqV x y)
 |tup {n:Nat}{a b:Addr}{xs ys:List V}(e:Nat->Bool) (ha:SqT K H a xs) (hb:SqT K H b ys) (he:∀j x y,xs[j]?=some x->ys[j]?=some y->EqV K H n x y (e j)) :
   EqV K H (n+1) (.ref a) (.ref b) ((List.range (min xs.length ys.length)).all e && xs.length==ys.length)
 |lst {n:Nat}{a b:Addr}{xs ys:List V}(e:Nat->Bool) (ha:SqL K H a xs) (hb:SqL K H b ys) (he:∀j x y,xs[j]?=some x->ys[j]?=some y->EqV K H n x y (e j)) :
   EqV K H (n+1) (.ref a) (.ref b) ((List.range (min xs.length ys.length)).all e && xs.length==ys.length)
theorem b3d:∀{x:V},a6l x=true->eqV x x=true
 |.non,_=>rfl
 |.bl b,_=>fb b
 |.int i,_=>fb i
 |.str y,_=>fb y
 |.byt _,h=>by cases h
 |.flt _,h=>by cases h
 |.ref _,h=>by cases h
 |.ty _,h=>by cases h
section
variable {X:Cx}{pins:List (Addr×Obj)}{σ:St}{H:Hp}{s:Shared}
theorem EqV.same{n:Nat}{x y:V}{b:Bool}(I:Inv X pins σ H s)(h:EqV X.K H n x y b):x=y->b=true:=by
 induction h with
 |flat fx fy=>rintro rfl;exact b3d fx
 |tup e c d g f =>
  intro z;cases z;have q:=I.tuple_inj c d;subst q;simp only[Nat.min_self,aV,fb,and_true,bN,aW];intro j a;exact f j _ _ (ai a) (ai a) rfl
 |lst e c d g f =>
  intro z;cases z;have q:=I.list_inj c d;subst q;simp only[Nat.min_self,aV,fb,and_true,bN,aW];intro j a;exact f j _ _ (ai a) (ai a) rfl
theorem E5{xs:List V}{us:List Value}{j:Nat}{u:Value}(r:Vals xs us)(h:us[j]?=some u):∃x,xs[j]?=some x/\RelV x u:=by
 obtain⟨c,_⟩:=aH.mp h;have a:j<xs.length:=by rw[r.length];exact c
 have b:xs[j]?=some xs[j]:=ai a;obtain⟨d,e,q⟩:=r.get b;rw[h]at e;cases e;exact⟨_,b,q⟩
theorem EqV.at{n:Nat}{x y:V}{b:Bool}(I:Inv X pins σ H s)(h:EqV X.K H n x y b):∀{A:Around}{u v:Value},A.units+n<cLine->RelV x u->RelV y v->SeqAt.EqAt A s u v b:=by
 induction h with
 |flat fx fy=>intro A u v _ l m;exact b7z l m fx fy
 |@tup n a b xs ys e g i q r =>
  intro A u v B l m;cases l;cases m;by_cases c:a=b
  .have:=(EqV.tup e g i q).same I (by rw[c]);rw[this,c];exact SeqAt.EqAt.same _
  .obtain⟨us,r1,p1,_⟩:=I.tuple g;obtain⟨d,k,p2,_⟩:=I.tuple i;rw[r1.length,k.length];refine SeqAt.EqAt.of_refs c ?_;have:=SeqAt.RcAt.tuples (A:=A) (s:=s) (e:=e) (show s.heap.IsTuple a us.toArray from p1) (show s.heap.IsTuple b d.toArray from p2) (by omega) (λj h1 h2=>?_)
   .simpa using this
   .have h1':us[j]?=some us.toArray[j]:=by simp at h1⊢
    have f:d[j]?=some d.toArray[j]:=by simp at h2⊢
    obtain⟨x,ex,t⟩:=E5 r1 h1';obtain⟨y,p,w⟩:=E5 k f;exact r j x y ex p (by show A.units+1+n<cLine;omega) t w
 |@lst n a b xs ys e g i q r =>
  intro A u v B l m;cases l;cases m;by_cases c:a=b
  .have:=(EqV.lst e g i q).same I (by rw[c]);rw[this,c];exact SeqAt.EqAt.same _
  .obtain⟨us,r1,p1,_⟩:=I.list g;obtain⟨d,k,p2,_⟩:=I.list i;rw[r1.length,k.length];refine SeqAt.EqAt.of_refs c ?_;by_cases o:us.length=d.length
   .have:=SeqAt.RcAt.lists (A:=A) (s:=s) (e:=e) p1.isList p2.isList (by simpa using o) (by omega) (λj h1 h2=>?_)
    .simpa[o]using this
    .have h1':us[j]?=some us.toArray[j]:=by simp at h1⊢
     have f:d[j]?=some d.toArray[j]:=by simp at h2⊢
     obtain⟨x,ex,t⟩:=E5 r1 h1';obtain⟨y,p,w⟩:=E5 k f;exact r j x y ex p (by show A.units+1+n<cLine;omega) t w
   .have:=SeqAt.RcAt.lists_lengths (A:=A) (s:=s) p1.isList p2.isList (by simpa using o) (by omega);have z:(us.length==d.length)=false:=by simpa using o
    rw[z,fH];exact this
end
def a9w(K:PySem.W.Frag)(neg:Bool):R2:=λx y H Q=>∃n b,n<=50/\EqV K H n x y b/\(∃a c,x=.ref a/\y=.ref c)/\Q (.bl (if neg then !b else b)) H
section
variable {X:Cx}
theorem b8U(C:X.A.units+60<cLine):OpR X (compareOp .Eq) (a9w X.K false):=by
 intro pins s σ H x y v u Q I m o h;obtain⟨n,b,B,i,⟨a,c,rfl,rfl⟩,q⟩:=h;cases m;cases o;show wpAny _ _ (richCompare .Eq (.ref a) (.ref c)) _ _ s;have key:SeqAt.RcAt X.A s (.ref a) (.ref c) b:=by
  cases i with
  |flat fx fy=>cases fx
  |@tup n _ _ xs ys e t w i =>
   obtain⟨d,k,p1,_⟩:=I.tuple t;obtain⟨f,l,p2,_⟩:=I.tuple w;rw[k.length,l.length];have:=SeqAt.RcAt.tuples (A:=X.A) (s:=s) (e:=e) (show s.heap.IsTuple a d.toArray from p1) (show s.heap.IsTuple c f.toArray from p2) (by omega) (λj h1 h2=>?_)
   .simpa using this
   .have h1':d[j]?=some d.toArray[j]:=by simp at h1⊢
    have g:f[j]?=some f.toArray[j]:=by simp at h2⊢
    obtain⟨x,ex,m⟩:=E5 k h1';obtain⟨y,r,o⟩:=E5 l g;exact(i j x y ex r).at I (by show X.A.units+1+n<cLine;omega) m o
  |@lst n _ _ xs ys e t w i =>
   obtain⟨d,k,p1,_⟩:=I.list t;obtain⟨f,l,p2,_⟩:=I.list w;rw[k.length,l.length];by_cases p:d.length=f.length
   .have:=SeqAt.RcAt.lists (A:=X.A) (s:=s) (e:=e) p1.isList p2.isList (by simpa using p) (by omega) (λj h1 h2=>?_)
    .simpa[p]using this
    .have h1':d[j]?=some d.toArray[j]:=by simp at h1⊢
     have g:f[j]?=some f.toArray[j]:=by simp at h2⊢
     obtain⟨x,ex,m⟩:=E5 k h1';obtain⟨y,r,o⟩:=E5 l g;exact(i j x y ex r).at I (by show X.A.units+1+n<cLine;omega) m o
   .have:=SeqAt.RcAt.lists_lengths (A:=X.A) (s:=s) p1.isList p2.isList (by simpa using p) (by omega);have z:(d.length==f.length)=false:=by simpa using p
    rw[z,fH];exact this
 exact key _ _ _ _ ⟨.bl _,H,I,rfl,q⟩
theorem b6W(C:X.A.units+60<cLine):OpR X (compareOp .NotEq) (a9w X.K true):=by
 intro pins s σ H x y v u Q I m o h;obtain⟨n,b,B,i,⟨a,c,rfl,rfl⟩,q⟩:=h;cases m;cases o;show wpAny _ _ (richCompare .NotEq (.ref a) (.ref c)) _ _ s;have key:SeqAt.RcNeAt X.A s (.ref a) (.ref c) (!b):=by
  cases i with
  |flat fx fy=>cases fx
  |@tup n _ _ xs ys e t w i =>
   obtain⟨d,k,p1,_⟩:=I.tuple t;obtain⟨f,l,p2,_⟩:=I.tuple w;rw[k.length,l.length];have:=SeqAt.RcNeAt.tuples (A:=X.A) (s:=s) (e:=e) (show s.heap.IsTuple a d.toArray from p1) (show s.heap.IsTuple c f.toArray from p2) (by omega) (λj h1 h2=>?_)
   .simpa using this
   .have h1':d[j]?=some d.toArray[j]:=by simp at h1⊢
    have g:f[j]?=some f.toArray[j]:=by simp at h2⊢
    obtain⟨x,ex,m⟩:=E5 k h1';obtain⟨y,r,o⟩:=E5 l g;exact(i j x y ex r).at I (by show X.A.units+1+n<cLine;omega) m o
  |@lst n _ _ xs ys e t w i =>
   obtain⟨d,k,p1,_⟩:=I.list t;obtain⟨f,l,p2,_⟩:=I.list w;rw[k.length,l.length];by_cases p:d.length=f.length
   .have:=SeqAt.RcNeAt.lists (A:=X.A) (s:=s) (e:=e) p1.isList p2.isList (by simpa using p) (by omega) (λj h1 h2=>?_)
    .simpa[p]using this
    .have h1':d[j]?=some d.toArray[j]:=by simp at h1⊢
     have g:f[j]?=some f.toArray[j]:=by simp at h2⊢
     obtain⟨x,ex,m⟩:=E5 k h1';obtain⟨y,r,o⟩:=E5 l g;exact(i j x y ex r).at I (by show X.A.units+1+n<cLine;omega) m o
   .have:=SeqAt.RcNeAt.lists_lengths (A:=X.A) (s:=s) p1.isList p2.isList (by simpa using p) (by omega);have z:(d.length==f.length)=false:=by simpa using p
    rw[z,fH];exact this
 exact key _ _ _ _ ⟨.bl _,H,I,rfl,q⟩
theorem b5q{ns ms:List Int}:((List.range (min ns.length ms.length)).all (λj=>decide (ns.getD j 0=ms.getD j 0)) && ns.length==ms.length)=decide (ns=ms):=by
 rw[cY];simp only[aV,bN,aW,bY,bg];constructor
 .rintro⟨h1,h2⟩;refine fc h2 λi a b=>?_;have:=h1 i (by omega);simpa[ak,a,b]using this
 .rintro rfl;exact⟨λ_ _=>rfl,rfl⟩
theorem b2T{ns:List Int}{j:Nat}{x:V}(h:(ns.map V.int)[j]?=some x):x=.int (ns.getD j 0)/\j<ns.length:=by
 rw[aQ]at h;cases e:ns[j]? with
 |none=>rw[e]at h;cases h
 |some z =>
  rw[e]at h;obtain⟨a,_⟩:=aH.mp e;exact⟨by rw[ak,e];exact(bG h).symm,a⟩
theorem EqV.ints{K:PySem.W.Frag}{H:Hp}{k:Bool}{a b:Addr}{ns ms:List Int}(c:SqK k K H a (ns.map V.int))(d:SqK k K H b (ms.map V.int)):EqV K H 1 (.ref a) (.ref b) (decide (ns=ms)):=by
 have step:∀j x y,(ns.map V.int)[j]?=some x->(ms.map V.int)[j]?=some y->EqV K H 0 x y (decide (ns.getD j 0=ms.getD j 0)):=λj x y e f=>by
  obtain⟨rfl,_⟩:=b2T e;obtain⟨rfl,_⟩:=b2T f;have:=EqV.flat (K:=K) (H:=H) (n:=0) (x:=.int (ns.getD j 0)) (y:=.int (ms.getD j 0)) rfl rfl;rw[show eqV (.int (ns.getD j 0)) (.int (ms.getD j 0))=decide (ns.getD j 0=ms.getD j 0)from rfl]at this;exact this
 rw[<-b5q];cases k
 .have:=EqV.lst (λj=>decide (ns.getD j 0=ms.getD j 0)) c d step;simpa using this
 .have:=EqV.tup (λj=>decide (ns.getD j 0=ms.getD j 0)) c d step;simpa using this
def a4F:R2:=λx y H Q=>∃a b xs ys,x=.ref a/\y=.ref b/\H a=some (.tup xs)/\H b=some (.tup ys)/\xs.length+ys.length<=sizeLine/\∀p H',Same H H'->H' p=some (.tup (xs++ys))->Q (.ref p) H'
theorem b1W:OpR X (binaryOp .Add) a4F:=by
 intro pins s σ H x y v u Q I B C h;obtain⟨a,b,xs,ys,rfl,rfl,k,l,E,q⟩:=h;by_cases z:xs=[]
 .subst z;cases B;cases C;obtain⟨its,G,p1,_⟩:=I.tuple (.inl (.inl k));obtain⟨A,J,p2,_⟩:=I.tuple (.inl (.inl l));cases G;obtain⟨⟨cls,dd,data,sl⟩,w,t,n,hd⟩:=id p1;obtain⟨⟨r,j,i,m⟩,g,d,F,f⟩:=id p2;simp only at t hd d f;subst t hd d f;exact concat_meets ⟨_,w,rfl⟩ ⟨_,g,rfl⟩ noFill_tuple_add seq_tuple_add PySem.F.slot_tuple_add PySem.F.entry_tuple_add (PySem.F.args_tuple_add_2 _ _)
   (tuple_addW0 a b _ _ n F dd j sl m (by simp)) ⟨w,g,⟨.ref b,H,I,rfl,q b H (Same.refl H) l⟩⟩
 .refine b4C pins s σ H _ _ v u Q I B C ⟨a,b,xs,ys,rfl,rfl,.inl (.inl k),.inl (.inl l),z,E,λe=>?_,λ_ p D=>?_⟩
  .subst e;exact q a H (Same.refl H) (by rw[dj];exact k)
  .exact q p _ (λc o e=>by rw[A5 (A6 e D)];exact e) A1
end
open PySem.AutoSeq1 (wpAny_loadPart')
theorem S1:fillsNumberSlot (.type "tuple") "mul"=pure false :=
 PySem.fillsNumberSlot_seq (id:="tuple.__mul__") (r:=some (.builtin "tuple.__rmul__")) fe.lookup (by decide +kernel) F.slot_tuple_rmul.lookup (by decide +kernel)
theorem a0z:seqRepeat? (.type "tuple")=pure (some (.builtin "tuple.__mul__")):=by
 unfold seqRepeat?;rw[PySem.seqSlot_of (T:="tuple") (name:="__mul__") (id:="tuple.__mul__") fe.lookup (by decide +kernel),PySem.seqSlot_of (T:="tuple") (name:="__rmul__") (id:="tuple.__rmul__") F.slot_tuple_rmul.lookup (by decide +kernel)];rfl
theorem a2v(a:Int)(t:Tok)(l:Addr)(items:Array Value)(n:Nat)(dd:Option Addr)(sl:Array (Option Value)) :
  Meets (Builtin.«int.__rmul__» ⟨[.int a t,.ref l],[]⟩) (λ_ R s=>s.heap.get? l=some {cls:=.type "tuple",dict:=dd,data:=.seq items n,slots:=sl}/\R (.ok (.ret Value.notImplemented)) s) :=
 .of_wp λprog w A R s h=>by obtain⟨c,g,d,tk,os⟩:=s;obtain⟨b,h⟩:=h;wp_walk;exact⟨_,rfl,h⟩
theorem a6K(l:Addr)(items:Array Value)(n:Nat)(dd:Option Addr)(sl:Array (Option Value))(u:Tok) :
  Meets (Builtin.«tuple.__mul__» ⟨[.ref l,.int 1 u],[]⟩) (λ_ R s=>s.heap.get? l=some {cls:=.type "tuple",dict:=dd,data:=.seq items n,slots:=sl}/\R (.ok (.ret (.ref l))) s) :=
 .of_wp λprog w A R s h=>by
  obtain⟨b,g,d,tk,os⟩:=s;obtain⟨a,h⟩:=h;have f1:=AutoSeq1.idx_int
  wp_walk using wpAny_loadPart' a
  exact⟨_,rfl,h⟩
theorem a6J(l:Addr)(items:Array Value)(n:Nat)(dd:Option Addr)(sl:Array (Option Value))(x:Int)(u:Tok)(e:items.isEmpty=false)(h1:1<x)(h2:¬(decide (x < -(2 ^ 63)) || decide (x ≥ 2 ^ 63))=true)
  (j:¬((items.size:Int)*x > (2 ^ 63-1) / 8)) (k:¬Builtin.Tuple.tupleTooMany ((items.size:Int)*x)=true) (hsz:(List.foldl (λb c=>b++c) #[] (List.replicate x.toNat items)).size<=sizeLine) :
  Meets (Builtin.«tuple.__mul__» ⟨[.ref l,.int x u],[]⟩) (λ_ R s=>s.heap.get? l=some {cls:=.type "tuple",dict:=dd,data:=.seq items n,slots:=sl} /\
   R (.ok (.ret (.ref s.heap.objs.size))) {s with heap:=s.heap.push {cls:=.type "tuple",data:=.seq (List.foldl (λb c=>b++c) #[] (List.replicate x.toNat items))}}) :=
 .of_wp λprog w A R s h=>by
  obtain⟨p,g,d,tk,os⟩:=s;obtain⟨a,h⟩:=h;have f1:=AutoSeq1.idx_int;have f:(x==1)=false:=by simp;omega
  have i:decide (x<=0)=false:=by simp;omega
  have m:¬((items.isEmpty || x==1)=true):=by rw[e,f];decide
  have o:¬((decide (x<=0) || items.isEmpty)=true):=by rw[e,i];decide
  wp_walk using wpAny_loadPart' a
  rw[aq h2]
  wp_walk using wpAny_loadPart' a
  rw[aq j]
  wp_walk using wpAny_loadPart' a
  first
   |exact⟨_,rfl,h⟩
   |(rw[aq k];wp_walk using wpAny_loadPart' a;exact⟨_,rfl,h⟩)
theorem a3b{α:Type}(its:List α):∀(k:Nat) (acc:List α),List.foldl (λa b=>a++b) acc.toArray (List.replicate k its.toArray)=(acc++(List.replicate k its).flatten).toArray
 |0,acc=>by simp
 |k+1,acc=>by
  have e:acc.toArray++its.toArray=(acc++its).toArray:=by simp
  rw[bH,dm,e,a3b its k,bH,cP,aG]
section
variable {X:Cx}
def b5H:R2:=λx y H Q=>∃a xs n,x=.ref a/\y=.int n/\H a=some (.tup xs)/\xs≠[]/\1<=n/\(xs.length:Int)*n<=(sizeLine:Int)/\∀p H',Same H H'->H' p=some (.tup (List.replicate n.toNat xs).flatten)->Q (.ref p) H'
theorem a8t:OpR X (binaryOp .Mult) b5H:=by
 intro pins s σ H x y v u Q I J K h;obtain⟨a,xs,n,rfl,rfl,l,i,M,N,q⟩:=h;cases J;obtain⟨t,rfl⟩:=K;obtain⟨its,r,p1,G⟩:=I.tuple (.inl (.inl l));obtain⟨⟨cls,dd,data,sl⟩,g,w,m,hd⟩:=id p1;simp only at w hd;subst w hd;have d:=r.length;have f:0<its.length:=by rw[<-d];exact List.length_pos_iff.mpr i
 refine fm (T:="tuple") (U:="int") (by decide) ⟨_,g,rfl⟩ (λs'=>fJ s' n t) S1 F.fills_int_mul eC a0z F.slot_int_index.lookup
  (dn eC (fJ s n t) F.entry_int_rmul (F.args_int_rmul_2 _ _) (a2v n t a its.toArray m dd sl) ⟨g,rfl,⟨_,g,rfl⟩,?_⟩)
 by_cases h1:n=1
 .subst h1;refine dn fe ⟨_,g,rfl⟩ F.entry_tuple_mul (F.args_tuple_mul_2 _ _) (a6K a its.toArray m dd sl t) ⟨g,.ref a,H,I,rfl,q a H (Same.refl H) ?_⟩;rw[l];simp
 .have e0:=a3b its n.toNat [];rw[cM]at e0;have C:((List.replicate n.toNat its).flatten).length=n.toNat*its.length:=a4K its n.toNat;have p:n.toNat*its.length<=sizeLine:=by
   have L:((n.toNat*its.length:Nat):Int)=(xs.length:Int)*n:=by
    rw[d];push_cast;rw[Int.toNat_of_nonneg (by omega),Int.mul_comm]
   omega
  have hs:sizeLine=16777216:=a_;have E:(its.toArray.size:Int)*n<=16777216:=by rw[aB,<-d];omega
  have D:n<=(its.toArray.size:Int)*n:=by
   have A:(1:Int)<=(its.toArray.size:Int):=by rw[aB];omega
   have:=bU A (show(0:Int)<=n by omega);omega
  refine dn fe ⟨_,g,rfl⟩ F.entry_tuple_mul (F.args_tuple_mul_2 _ _) (a6J a its.toArray m dd sl n t (by simp;intro z;rw[z]at f;exact cj _ f) (by omega) ?_ ?_ ?_ ?_) ⟨g,?_⟩
  .simp only[Bool.or_eq_true,bY,not_or];omega
  .omega
  .simp only[Builtin.Tuple.tupleTooMany,bY];omega
  .have e0':List.foldl (λj k=>j++k) #[] (List.replicate n.toNat its.toArray)=(List.replicate n.toNat its).flatten.toArray:=e0;rw[e0',aB,C];exact p
  .have e0':List.foldl (λj k=>j++k) #[] (List.replicate n.toNat its.toArray)=(List.replicate n.toNat its).flatten.toArray:=e0;rw[e0'];have B:H s.heap.objs.size=none:=I.hok.fresh (ao _);refine⟨.ref s.heap.objs.size,_,I.laid (t':=s.toks) (o:=.tup (List.replicate n.toNat xs).flatten) (λb O q=>ag _ q) (ao _) ?_,rfl,q _ _ (λc o e=>by rw[A5 (A6 e B)];exact e) A1⟩;exact⟨by rw[a4K,d];exact p,_,r.rep n.toNat,IsTp.new _ _⟩
end
end L2
namespace L2
open PySem PySem.Spec PyProof.Rows
section
variable {X:Cx}{pos:Pos}
theorem b4r(K:PySem.W.Frag){es:List Expr}{k:Nat}{t:TGs}{n:Nat}(c:X.calm=true)(h:PGs X es t)(b:X.K=K:=by rfl)
  (d:(assignEach es X.env).length=n:=by rfl) (a:(assignEach es X.env).findIdx? (·.1)=none:=by rfl):PG X (.Tuple es k pos) (a7o K n t):=by
 subst b;exact b6B c h d a
theorem b1O(K:PySem.W.Frag){tg l:Expr}{tl:TE}(b:PE X l tl)(a:X.K=K:=by rfl):PI X tg l (b2U K tl):=by subst a;exact b4p b
theorem b4o(K:PySem.W.Frag){tg l:Expr}{tl:TE}(b:PE X l tl)(a:X.K=K:=by rfl):PI X tg l (b7w K tl):=by subst a;exact b6A b
theorem b4n(K:PySem.W.Frag){es:List Expr}{h:Nat}{i:Pos}{a b:Expr}{ta:TA}{p pos:Pos}(f:Gl X "zip")(g:X.mg "zip"=none)(e:PA X [a,b] ta)(d:X.K=K:=by rfl)
  (hs:starEach [a,b] X.env=[(false,eval a X.env),(false,eval b X.env)]:=by rfl) (c:starEach [b] X.env=[(false,eval b X.env)]:=by rfl) :
  PI X (.Tuple es h i) (.Call (.Name "zip" p) [a,b] [] pos) (b7v K ta):=by subst d;exact b6z f g e b7F hs c
def b8a(K:PySem.W.Frag)(ta:TE):TT:=λσ H Q=>ta σ H λx H'=>∃k,b7Q K x H' k/\Q k H'
theorem a9y(K:PySem.W.Frag){a:Expr}{ta:TE}(d:PE X a ta)(e:∀b,isTrue a X.env b=(do let v <-b;standAt a.pos;holding [v] (truthy v)))(c:X.K=K:=by rfl):PT X a (b8a K ta):=by
 subst c;exact b1D d e
theorem b2P(K:PySem.W.Frag)(a:X.K=K:=by rfl):IxR X (b4d K):=by subst a;exact b4Z
theorem b4Y(K:PySem.W.Frag)(a:X.K=K:=by rfl):IxR X (b6m K):=by subst a;exact b7r
theorem b1c(K:PySem.W.Frag)(a:X.K=K:=by rfl):SlR X (b6l K):=by subst a;exact b3O
theorem b3N(K:PySem.W.Frag)(a:X.K=K:=by rfl):SlR X (b1z K):=by subst a;exact b1b
theorem b6V(K:PySem.W.Frag)(b:X.A.units+60<cLine)(a:X.K=K:=by rfl):OpR X (compareOp .NotEq) (a9w K true):=by subst a;exact b6W b
theorem b0x(K:PySem.W.Frag)(b:X.calm=true)(a:X.K=K:=by rfl):E2 X (.builtin "all") (b6q K):=by subst a;exact b3o b
theorem b0w(K:PySem.W.Frag)(b:X.calm=true)(a:X.K=K:=by rfl):E2 X (.builtin "any") (b6p K):=by subst a;exact b3n b
theorem b0o(K:PySem.W.Frag)(b:X.calm=true)(a:X.K=K:=by rfl):E2 X (.builtin "sum") (b6j K):=by subst a;exact b3l b
theorem b0t(K:PySem.W.Frag)(a:X.K=K:=by rfl):E2 X (.builtin "isinstance") (b6n K):=by subst a;exact b3m
def b8n(K:PySem.W.Frag):RL:=λxs H Q=>∃p ys,xs=[.ref p]/\(SqL K H p ys∨SqT K H p ys)/\Q (.int ys.length) H
def b5K(K:PySem.W.Frag):RL:=λxs H Q=>∃p ys,xs=[.ref p]/\(SqL K H p ys∨SqT K H p ys)/\∀l,H l=none->Q (.ref l) (upd H l (.lst ys))
def b1w(K:PySem.W.Frag):RL:=λxs H Q=>∃p ys,xs=[.ref p]/\((SqL K H p ys/\∀l,H l=none->Q (.ref l) (upd H l (.tup ys)))∨(SqT K H p ys/\Q (.ref p) H))
theorem b0s(K:PySem.W.Frag)(a:X.K=K:=by rfl):E2 X (.builtin "len") (b8n K):=by subst a;exact a5b
theorem a7y(K:PySem.W.Frag)(a:X.K=K:=by rfl):E2 X (.type "list") (b5K K):=by subst a;exact a5a
theorem a6y(K:PySem.W.Frag)(a:X.K=K:=by rfl):E2 X (.type "tuple") (b1w K):=by subst a;exact a3u
def b9i:RL:=λxs H Q=>∃i j,xs=[.int i,.int j]/\Q (.int (if j<i then j else i)) H
def b9j:RL:=λxs H Q=>∃i j,xs=[.int i,.int j]/\Q (.int (if j > i then j else i)) H
def b8o:RL:=λxs H Q=>(∃i,xs=[.int i]/\Q (.int i) H)∨∃k,xs=[.bl k]/\Q (.int (if k then 1 else 0)) H
theorem b0u:E2 X (.type "int") b8o:=b0v
variable {o e:Expr}{es:List Expr}{to:TE}{t:TA}{name:Str}{apos cpos:Pos}{T id:String}{r:V->List V->Hp->VK->Prop}
theorem a7b(K:PySem.W.Frag)(l:PlainAttrs T)(f:Slot T name id)(g:typeOf (.builtin id)=pure (.type "method_descriptor"))(j:MtR X id r)(k:PE X o to)(i:PA X (e::es) t)(h:X.K=K:=by rfl)
  (b:attributeBase o name X.env (eval o X.env)=eval o X.env:=by rfl)
  (d:((backTo cpos (starEach (e::es) X.env)).all (λx=>!x.1) && (backToKw cpos (keywordEach [] X.env)).all (λx=>x.1.isSome)
   && decide ((e::es).length+([]:List Keyword).length+(if ([]:List Keyword).isEmpty then 0 else 1)<30))=true:=by rfl)
  (c:(apos.endLine==cpos.line)=true:=by rfl) (hs:starEach (e::es) X.env=(false,eval e X.env)::starEach es X.env:=by rfl) (a:(backTo cpos (starEach es X.env)).any (·.1)=false:=by rfl) :
  PE X (.Call (.Attribute o name apos) (e::es) [] cpos) (tBM K T r to t):=by subst h;exact b8v l f g j k i b d c hs a
end
def IT(H:Hp)(v:V)(ns:List Int):Prop:=∃a,v=.ref a/\H a=some (.tup (ns.map V.int))
theorem IT.same{H H':Hp}{v:V}{ns:List Int}(h:IT H v ns)(s:Same H H')   : IT H' v ns:=let ⟨a,e,q⟩:=h;⟨a,e,s a _ q⟩
theorem Same.upd{H H':Hp}{p:Addr}{o:HO}(s:Same H H')(hp:H' p=none):Same H (upd H' p o):=λb u e=>by
 rw[A5 (A6 (s b u e) hp)];exact s b u e
theorem C8{H:Hp}{p b:Addr}{o u:HO}(a:H b=some u)(hp:H p=none):upd H p o b=some u:=by rw[A5 (A6 a hp)];exact a
def Off(l:List Addr)(H H':Hp):Prop:=∀b o,b∉l->H b=some o->H' b=some o
theorem Off.refl(l:List Addr)(H:Hp):Off l H H:=λ_ _ _ e=>e
theorem Off.trans{l:List Addr}{H H1 H2:Hp}(a:Off l H H1)(b:Off l H1 H2):Off l H H2:=λc o d e=>b c o d (a c o d e)
theorem Same.off{l:List Addr}{H H':Hp}(s:Same H H'):Off l H H':=λb o _ e=>s b o e
theorem Off.upd{l:List Addr}{H H':Hp}{p:Addr}{o:HO}(s:Off l H H')(hp:H' p=none):Off l H (upd H' p o):=λb u a e=>by
 rw[A5 (A6 (s b u a e) hp)];exact s b u a e
theorem Off.set{l:List Addr}{H H':Hp}{p:Addr}{o:HO}(s:Off l H H')(hp:p∈l):Off l H (L2.upd H' p o):=λb u a e=>by
 rw[A5 (by rintro rfl;exact a hp)];exact s b u a e
theorem J6(ns:List Int):(ns.map V.int).length=ns.length:=aj _
theorem M3{ns:List Int}{i:Nat}{x:V}(h:(ns.map V.int)[i]?=some x):∃z,ns[i]?=some z/\x=.int z:=by
 rw[aQ]at h;cases e:ns[i]? with
 |none=>rw[e]at h;cases h
 |some z=>rw[e]at h;exact⟨z,rfl,(bG h).symm⟩
theorem M8{α β γ:Type}(f:α->β->γ){xs:List α}{ys:List β}{i:Nat}{x:α}{y:β}(a:xs[i]?=some x)(b:ys[i]?=some y):(List.zipWith f xs ys).take (i+1)=(List.zipWith f xs ys).take i++[f x y]:=by
 have:(List.zipWith f xs ys)[i]?=some (f x y):=by rw[List.getElem?_zipWith,a,b]
 rw[bj,this];rfl
theorem a5h{K:PySem.W.Frag}{src:List (Option Nat)}{σ caps:St}{Q:VK}{k1 k2:Bool}{a b:Addr}{xs ys:List Int}{H:Hp}{te:TE}(f:Int->Int->V)(t:SqK k1 K H a (xs.map V.int))(u:SqK k2 K H b (ys.map V.int))(w:xs.length<=1000)
  (c:∀H',Same H H'->SqK k1 K H' a (xs.map V.int)/\SqK k2 K H' b (ys.map V.int))
  (g:B5 src σ=none::none::caps) (l:∀x y H1 o,Same H H1->o (f x y) H1->te (some (.int x)::some (.int y)::caps) H1 o)
  (hd:∀H1 p,Same H H1->H1 p=none->Q (.ref p) (upd H1 p (.lst (List.zipWith f xs ys)))) :
  J5 src (a7o K 2 (a0c (A9 0) (a0c (A9 1) b0d))) P7 te σ Q (Itz K k1 k2 a b) H:=by
 have A:(1000:Nat)<=sizeLine:=by rw[a_];decide
 refine X0 (xs:=xs.map V.int) (zs:=ys.map V.int) (by rw[J6];omega) (λi zs H'=>Same H H'/\zs=(List.zipWith f xs ys).take i) ⟨Same.refl H,by simp⟩ (λi zs H' _ _ h=>⟨(c H' h.1).1,(c H' h.1).2,by rw[h.2];exact bP _ _⟩) ?_ ?_
 .rintro i x z zs H' p hx hy ⟨s,rfl⟩ hp;obtain⟨k,m,q⟩:=M3 hx;obtain⟨d,n,r⟩:=M3 hy;subst q r;clear hx hy;have s':Same H (upd H' p (.tup [.int k,.int d])):=s.upd hp;refine⟨p,[.int k,.int d],rfl,SqT.of A1,rfl,.int k,[.int d],rfl,.int d,[],rfl,rfl,?_⟩;rw[g];show Sub _ (some (.int k)::some (.int d)::caps)/\_;refine⟨⟨rfl,λj v e=>?_⟩,?_⟩
  .match j,e with
   |0,e=>cases e
   |1,e=>cases e
   |j+2,e=>exact e
  .exact l k d _ _ s' ⟨s',(M8 f m n).symm⟩
 .rintro zs H' ⟨s,rfl⟩ p hp;have e:(List.zipWith f xs ys).take (min (xs.map V.int).length (ys.map V.int).length)=List.zipWith f xs ys:=by
   rw[J6,J6,ck];rw[d_];exact ao _
  rw[e];exact hd H' p s hp
theorem Sub.one{caps:St}{v:V}:Sub (none::caps) (some v::caps):=⟨rfl,λj u e=>by
 match j,e with
 |0,e=>cases e
 |j+1,e=>exact e⟩
theorem a0A{src:List (Option Nat)}{σ caps:St}{Q:VK}{n:Nat}{H:Hp}{e:TT}{te:TE}(h:n<=1000)(c:B5 src σ=none::caps)(a:Nat->List V->Hp->Prop)(h0:a 0 [] H)(g:∀i ys H,a i ys H->ys.length<=i)
  (hs:∀i ys H,i<n->a i ys H->e (some (.int i)::caps) H λb d=>if b=true then te (some (.int i)::caps) d λv f=>a (i+1) (ys++[v]) f else a (i+1) ys d)
  (hd:∀ys H,a n ys H->∀p,H p=none->Q (.ref p) (upd H p (.lst ys))):J5 src (A9 0) e te σ Q (Itr 0 n) H:=by
 have j:(1000:Nat)<=sizeLine:=by rw[a_];decide
 refine a7r (by omega) a h0 g (λi ys H hi p=>?_) hd;show Sub _ ((B5 src σ).set 0 (some (.int (0+(i:Int)))))/\_;rw[c,Int.zero_add];exact⟨Sub.one,hs i ys H hi p⟩
theorem a0r{K:PySem.W.Frag}{src:List (Option Nat)}{σ caps:St}{Q:VK}{a:Addr}{xs:List Int}{H:Hp}{te:TE}(f:Int->V)(j:xs.length<=1000)(b:∀H',Same H H'->SqT K H' a (xs.map V.int))(c:B5 src σ=none::caps)
  (e:∀x H1 g,x∈xs->Same H H1->g (f x) H1->te (some (.int x)::caps) H1 g) (hd:∀H1 p,Same H H1->H1 p=none->Q (.ref p) (upd H1 p (.lst (xs.map f)))):J5 src (A9 0) P7 te σ Q (Itt K a) H:=by
 have k:(1000:Nat)<=sizeLine:=by rw[a_];decide
 refine X1 (xs:=xs.map V.int) (by rw[J6];omega) (λi ys H'=>Same H H'/\ys=(xs.take i).map f) ⟨Same.refl H,by simp⟩ (λi ys H' _ h=>⟨b H' h.1,by rw[h.2,aj];exact bP _ _⟩) ?_ ?_
 .rintro i x ys H' hx ⟨s,rfl⟩;obtain⟨z,d,rfl⟩:=M3 hx;show Sub _ ((B5 src σ).set 0 (some (.int z)))/\_;rw[c];refine⟨Sub.one,e z H' _ (aF d) s ⟨s,?_⟩⟩;rw[bj,d];simp
 .rintro ys H' ⟨s,rfl⟩ p hp;rw[J6,bq];exact hd H' p s hp
theorem a3K{K:PySem.W.Frag}{src:List (Option Nat)}{σ caps:St}{Q:VK}{a:Addr}{xs:List Int}{H:Hp}{te:TE}(f:Int->V)(j:xs.length<=1000)(b:∀H',Same H H'->SqL K H' a (xs.map V.int))(c:B5 src σ=none::caps)
  (e:∀x H1 g,x∈xs->Same H H1->g (f x) H1->te (some (.int x)::caps) H1 g) (hd:∀H1 p,Same H H1->H1 p=none->Q (.ref p) (upd H1 p (.lst (xs.map f)))):J5 src (A9 0) P7 te σ Q (Itl K a) H:=by
 have k:(1000:Nat)<=sizeLine:=by rw[a_];decide
 refine L7 (xs:=xs.map V.int) (by rw[J6];omega) (λi ys H'=>Same H H'/\ys=(xs.take i).map f) ⟨Same.refl H,by simp⟩ (λi ys H' _ h=>⟨b H' h.1,by rw[h.2,aj];exact bP _ _⟩) ?_ ?_
 .rintro i x ys H' hx ⟨s,rfl⟩;obtain⟨z,d,rfl⟩:=M3 hx;show Sub _ ((B5 src σ).set 0 (some (.int z)))/\_;rw[c];refine⟨Sub.one,e z H' _ (aF d) s ⟨s,?_⟩⟩;rw[bj,d];simp
 .rintro ys H' ⟨s,rfl⟩ p hp;rw[J6,bq];exact hd H' p s hp
theorem O2{src:List (Option Nat)}{σ caps:St}{Q:VK}{n:Nat}{H:Hp}{te:TE}(f:Nat->V)(c:n<=1000)(a:B5 src σ=none::caps)(b:∀(i:Nat) H1 Q1,i<n->Same H H1->Q1 (f i) H1->te (some (.int i)::caps) H1 Q1)
  (hd:∀H1 p,Same H H1->H1 p=none->Q (.ref p) (upd H1 p (.lst ((List.range n).map f)))):J5 src (A9 0) P7 te σ Q (Itr 0 n) H:=by
 refine a0A c a (λi ys H'=>Same H H'/\ys=(List.range i).map f) ⟨Same.refl H,rfl⟩ (λi ys H' h=>by rw[h.2];simp) ?_ ?_
 .rintro i ys H' hi ⟨s,rfl⟩;refine b i H' _ hi s ⟨s,?_⟩;rw[List.range_succ,bV];rfl
 .rintro ys H' ⟨s,rfl⟩ p hp;exact hd H' p s hp
theorem Room.u60{k:Nat}{A:Around}(r:Room k A):A.units+60<cLine:=by have:=r.un;omega
theorem a1P{t u:TS}{D:Ends}{σ:St}{H:Hp}(a:St->Hp->Prop)(fin:∀σ H,a σ H->u D σ H)(h:(∀σ H,a σ H->u D σ H)->t {D with nx:=u D} σ H):b6e t u D σ H:=h fin
theorem b7Y{K:PySem.W.Frag}{a:Bool}{te:TE}{σ:St}{H:Hp}{Q:VK}{b:Addr}{cs:List Int}(c:∀d:VK,d (.ref b) H->te σ H d)(f:H b=some (.lst (cs.map V.int)))
  (q:∀p,H p=none->Q (.bl (if a then !decide (cs=[])else decide (cs=[]))) (upd H p (.lst []))):tOp (a9w K a) te (b3G a0T) σ H Q :=
 c _ ⟨bp _,λp e=>⟨1,_,by decide,EqV.ints (k:=false) (ms:=[]) (SqL.of (C8 f e)) (SqL.of A1),⟨_,_,rfl,rfl⟩,q p e⟩⟩
theorem b7Z{K:PySem.W.Frag}{a:Bool}{te:TE}{σ:St}{H:Hp}{Q:Bool->Hp->Prop}{b:Addr}{cs:List Int}(c:∀d:VK,d (.ref b) H->te σ H d)(e:H b=some (.lst (cs.map V.int)))
  (q:∀p,H p=none->Q (if a then !decide (cs=[])else decide (cs=[])) (upd H p (.lst []))):V4 (tOp (a9w K a) te (b3G a0T)) σ H Q :=
 b7Y c e λp f=>⟨_,rfl,q p f⟩
theorem ixL{K:PySem.W.Frag}{ta tb:TE}{σ:St}{H:Hp}{Q:VK}{p:Addr}{xs:List V}{i:Int}{v:V}(b:∀a:VK,a (.ref p) H->ta σ H a)(c:∀a:VK,a (.int i) H->tb σ H a)(hp:H p=some (.lst xs))(e:atI xs i=some v)(q:Q v H):tOp (b4d K) ta tb σ H Q :=
 b _ (c _ ⟨p,xs,i,v,rfl,rfl,SqL.of hp,e,q⟩)
theorem b7C(xs:List Int)(k:Nat)(a:k<=xs.length):P5 (xs.map V.int) none (some (k:Int))=(xs.take k).map V.int:=by
 unfold P5;rw[HT.sIx_none,HT.sIx_nat,aj,dO a,df,Nat.sub_zero,List.map_take]
theorem b7D(xs:List Int)(k:Nat)(a:k<=xs.length):P5 (xs.map V.int) (some (k:Int)) none=(xs.drop k).map V.int:=by
 unfold P5;rw[HT.sIx_none,HT.sIx_nat,aj,dO a,ck (by simp),List.map_drop]
theorem a9o(xs:List Int)(k:Nat)(z:Int)(a:k<xs.length):xs.take k++[z]++xs.drop (k+1)=xs.set k z:=by
 rw[List.set_eq_take_append_cons_drop,az a,aG];rfl
theorem b6r{K:PySem.W.Frag}{σ:St}{H:Hp}{Q:VK}{i j:Nat}{tx:TE}{a:Addr}{xs:List Int}{k:Nat}{z:Int}(hi:σ[i]?=some (some (.ref a)))(l:σ[j]?=some (some (.int k)))(h:H a=some (.tup (xs.map V.int)))(s:k<xs.length)(B:xs.length<=1000)
  (e:∀H' (N:VK),Same H H'->N (.int z) H'->tx σ H' N) (q:∀v H',Same H H'->IT H' v (xs.set k z)->Q v H') :
  tOp a4F (tOp a4F (tSl (b1z K) (Z4 i) a0s (a7P (Z4 j))) (b6d (a5v tx a0T))) (tSl (b1z K) (Z4 i) (a7P (tOp (rI0 λi j=>.int (i+j)) (Z4 j) (tC (.int 1)))) a0s) σ H Q:=by
 have C:(3000:Nat)<=sizeLine:=by rw[a_];decide
 refine⟨_,hi,_,l,k,rfl,a,_,rfl,SqT.of h,?_,λp t=>?_⟩
 .rw[HT.sIx_none,HT.sIx_nat,aj];omega
 .rw[b7C xs k (by omega)];have s1:Same H (upd H p (.tup ((xs.take k).map V.int))):=(Same.refl H).upd t;have f:upd H p (.tup ((xs.take k).map V.int)) p=some (.tup ((xs.take k).map V.int)):=A1;generalize upd H p (.tup ((xs.take k).map V.int))=H1 at s1 f;refine e H1 _ s1 ⟨by show 1<=sizeLine;omega,λp2 c=>?_⟩;have s2:Same H1 (upd H1 p2 (.tup [.int z])):=(Same.refl H1).upd c;have g:upd H1 p2 (.tup [.int z]) p2=some (.tup [.int z]):=A1;generalize upd H1 p2 (.tup [.int z])=H2 at s2 g;refine⟨p,p2,_,_,rfl,rfl,s2 _ _ f,g,?_,λu b x o=>?_⟩
  .rw[aj,a'];show min k xs.length+1<=_;omega
  .have s13:Same H b:=(s1.trans s2).trans x;refine⟨_,hi,_,l,_,_,rfl,rfl,_,rfl,a,_,rfl,SqT.of (s13 _ _ h),?_,λm d=>?_⟩
   .rw[show((k:Int)+1)=((k+1:Nat):Int) by push_cast;rfl,HT.sIx_nat,aj];omega
   .rw[show((k:Int)+1)=((k+1:Nat):Int) by push_cast;rfl,b7D xs (k+1) (by omega)];have n:Same b (upd b m (.tup ((xs.drop (k+1)).map V.int))):=(Same.refl b).upd d;refine⟨u,m,_,_,rfl,rfl,n _ _ o,A1,?_,λw A y r=>?_⟩
    .rw[ax,aj,a',aj,cq];show min k xs.length+1+_<=_;omega
    .refine q _ _ ((s13.trans n).trans y) ⟨w,rfl,?_⟩;rw[r,<-a9o xs k z s];simp
theorem var{i:Nat}{σ:St}{H:Hp}{v:V}(e:σ[i]?=some (some v)):∀Q:VK,Q v H->Z4 i σ H Q:=λQ q=>⟨v,e,q⟩
theorem con{v:V}{σ:St}{H:Hp}:∀Q:VK,Q v H->tC v σ H Q:=λQ q=>q
structure JE(X:Cx)(e:Expr)(t:TE):Prop where
 h:PE X e t
structure JT(X:Cx)(e:Expr)(t:TT):Prop where
 h:PT X e t
structure JW(X:Cx)(e:Expr)(t:TT):Prop where
 h:PW X e t
structure JA(X:Cx)(es:List Expr)(t:TA):Prop where
 h:PA X es t
structure JS(X:Cx)(st:Stmt)(t:TS):Prop where
 h:PS X st t
structure JB(X:Cx)(st:List Stmt)(t:TS):Prop where
 h:PSs X st t
structure JG(X:Cx)(tg:Expr)(t:TG):Prop where
 h:PG X tg t
structure JGs(X:Cx)(ts:List Expr)(t:TGs):Prop where
 h:PGs X ts t
structure JI(X:Cx)(tg iter:Expr)(t:TI):Prop where
 h:PI X tg iter t
structure JF(X:Cx)(ifs:List Expr)(t:TT):Prop where
 h:PIf X ifs t
structure JO(X:Cx)(e:Option Expr)(t:TO):Prop where
 h:PO X e t
section
variable {X:Cx}{a b c e o:Expr}{es rest:List Expr}{ta tb tc te to:TE}{tA tB:TT}{t:TA}{pos p apos cpos p2:Pos}
theorem jv(i:Nat){x:Str}(b:X.N[i]?=some x:=by rfl)(c:Vis X.env.scope x:=by first|exact Or.inl rfl|exact Or.inr (Or.inl rfl)|exact Or.inr (Or.inr rfl))(hd:(x==("__debug__" : Str))=false:=by decide)
  (a:(x==("__classdict__" : Str))=false:=by decide):JE X (.Name x pos) (Z4 i):=⟨b6D b c hd a⟩
theorem A2{i j}:JE X (.Constant (.int i) j pos) (tC (.int i)):=⟨b6K⟩
theorem a0G{i j}:JE X (.Constant (.bool i) j pos) (tC (.bl i)):=⟨b8w⟩
theorem a8D{j}:JE X (.Constant .none j pos) (tC .non):=⟨b6I⟩
theorem b8H{x j}:JE X (.Constant (.str x) j pos) (tC (.str x)):=⟨b6F⟩
theorem a4P{x:Str}{v:V}{u:Value}(a:Gl X x)(b:X.mg x=none)(d:bootBuiltins x=some u)(r:RelV v u)(c:x≠"__name__":=by decide)(hd:(x==("__debug__" : Str))=false:=by decide):JE X (.Name x pos) (tC v):=⟨b4x a b d r c hd⟩
theorem L3(c:JE X a ta)(d:JE X b tb):JE X (.BinOp a .Add b pos) (tOp (rI0 λi j=>.int (i+j)) ta tb):=⟨V8 b6Z c.h d.h⟩
theorem a1z(c:JE X a ta)(d:JE X b tb):JE X (.BinOp a .Sub b pos) (tOp (rI0 λi j=>.int (i-j)) ta tb):=⟨V8 b6S c.h d.h⟩
theorem Q9(c:JE X a ta)(d:JE X b tb):JE X (.BinOp a .Mult b pos) (tOp (rI CMul λi j=>.int (i*j)) ta tb):=⟨V8 b6X c.h d.h⟩
theorem a1A(c:JE X a ta)(d:JE X b tb):JE X (.BinOp a .Mod b pos) (tOp (rI (λ_ j=>0<j) λi j=>.int (i % j)) ta tb):=⟨V8 b6Y c.h d.h⟩
theorem b2M(c:JE X a ta)(d:JE X b tb):JE X (.BinOp a .FloorDiv b pos) (tOp (rI b8R λi j=>.int (i / j)) ta tb):=⟨V8 b4B c.h d.h⟩
theorem a2T(c:JE X a ta)(d:JE X b tb):JE X (.BinOp a .Pow b pos) (tOp (rI b8Q λi j=>.int (i ^ j.toNat)) ta tb):=⟨V8 b6U c.h d.h⟩
theorem Y8(c:JE X a ta)(d:JE X b tb):JE X (.BinOp a .Add b pos) (tOp (a4F) ta tb):=⟨V8 b1W c.h d.h⟩
theorem b7n(c:JE X a ta)(d:JE X b tb):JE X (.BinOp a .Mult b pos) (tOp (b5H) ta tb):=⟨V8 a8t c.h d.h⟩
theorem b8J(c:JE X a ta)(d:JE X b tb):JE X (.BinOp a .Mult b pos) (tOp (b8m) ta tb):=⟨V8 b6T c.h d.h⟩
theorem b2L(b:JE X a ta):JE X (.UnaryOp .USub a pos) (tUn (rU λi=>.int (-i)) ta):=⟨b8t b5Z b.h⟩
theorem b8K(b:JE X a ta):JE X (.UnaryOp .Not a pos) (b5u ta):=⟨b6H b.h⟩
theorem b2K{op}(h:JE X a ta):JE X (.BoolOp op [a] pos) ta:=⟨b6G h.h⟩
theorem b2N(c:JE X a ta)(d:JE X (.BoolOp .And (b::rest) pos) tb):JE X (.BoolOp .And (a::b::rest) pos) (b5z ta tb):=⟨b6O c.h d.h⟩
theorem b9a(c:JE X a ta)(d:JE X (.BoolOp .Or (b::rest) pos) tb):JE X (.BoolOp .Or (a::b::rest) pos) (b8c ta tb):=⟨b8u c.h d.h⟩
theorem b8L(f:JT X c tA)(d:JE X a ta)(e:JE X b tb):JE X (.IfExp c a b pos) (tIf tA ta tb):=⟨b1R f.h d.h e.h⟩
theorem a1y(c:JE X a ta)(d:JE X b tb):JE X (.Compare a [.Eq] [b] pos) (tOp (rEq) ta tb):=⟨a1X b5Q c.h d.h (M5 _)⟩
theorem a8z(c:JE X a ta)(d:JE X b tb):JT X (.Compare a [.Eq] [b] pos) (V4 (tOp (rEq) ta tb)):=⟨N4 b5Q c.h d.h (M5 _)⟩
theorem b8F(c:JE X a ta)(d:JE X b tb):JT X (.Compare a [.NotEq] [b] pos) (V4 (tOp (rNe) ta tb)):=⟨N4 b8y c.h d.h (M5 _)⟩
theorem b8E(c:JE X a ta)(d:JE X b tb):JE X (.Compare a [.Lt] [b] pos) (tOp (rI0 λi j=>.bl (decide (i<j))) ta tb):=⟨a1X b5P c.h d.h (M5 _)⟩
theorem b2y(c:JE X a ta)(d:JE X b tb):JT X (.Compare a [.Lt] [b] pos) (V4 (tOp (rI0 λi j=>.bl (decide (i<j))) ta tb)):=⟨N4 b5P c.h d.h (M5 _)⟩
theorem b2x(c:JE X a ta)(d:JE X b tb):JE X (.Compare a [.LtE] [b] pos) (tOp (rI0 λi j=>.bl (decide (i<=j))) ta tb):=⟨a1X b8z c.h d.h (M5 _)⟩
theorem b2z(c:JE X a ta)(d:JE X b tb):JT X (.Compare a [.Gt] [b] pos) (V4 (tOp (rI0 λi j=>.bl (decide (j<i))) ta tb)):=⟨N4 b8A c.h d.h (M5 _)⟩
theorem b8G(c:JE X a ta)(d:JE X b tb):JT X (.Compare a [.GtE] [b] pos) (V4 (tOp (rI0 λi j=>.bl (decide (j<=i))) ta tb)):=⟨N4 b8B c.h d.h (M5 _)⟩
theorem b7k(K:PySem.W.Frag)(f:X.A.units+60<cLine)(d:JE X a ta)(e:JE X b tb)(c:X.K=K:=by rfl):JT X (.Compare a [.NotEq] [b] pos) (V4 (tOp (a9w K true) ta tb)):=⟨N4 (b6V K f c) d.h e.h (M5 _)⟩
theorem b7j(c:JE X a ta)(d:JE X b tb):JE X (.Compare a [.Is] [b] pos) (tOp (λx y H Q=>y=.non/\Q (.bl (decide (x=.non))) H) ta tb):=⟨a1X b1X c.h d.h (M5 _)⟩
theorem b7l(c:JE X a ta)(d:JE X b tb):JT X (.Compare a [.Is] [b] pos) (V4 (tOp (λx y H Q=>y=.non/\Q (.bl (decide (x=.non))) H) ta tb)):=⟨N4 b1X c.h d.h (M5 _)⟩
theorem b4Q(c:JE X a ta)(d:JE X b tb):JT X (.Compare a [.IsNot] [b] pos) (V4 (tOp (λx y H Q=>y=.non/\Q (.bl (!decide (x=.non))) H) ta tb)):=⟨N4 b4A c.h d.h (M5 _)⟩
theorem a7k(h:JW X e tA):JT X e tA:=⟨h.h.pt⟩
theorem a2a(b:JT X a tA):JW X (.BoolOp .And [a] pos) tA:=⟨pw_and1 b.h⟩
theorem a7j(b:JT X a tA):JW X (.BoolOp .Or [a] pos) tA:=⟨pw_or1 b.h⟩
theorem a4M(c:JT X a tA)(d:JW X (.BoolOp .And (b::rest) pos) tB):JW X (.BoolOp .And (a::b::rest) pos) (b8j tA tB):=⟨pw_and c.h d.h⟩
theorem b2w(c:JT X a tA)(d:JW X (.BoolOp .Or (b::rest) pos) tB):JW X (.BoolOp .Or (a::b::rest) pos) (tOr tA tB):=⟨pw_or c.h d.h⟩
theorem O5(b:JT X a tA):JT X (.UnaryOp .Not a pos) (b8d tA):=⟨b6s b.h⟩
theorem I0(K:PySem.W.Frag)(d:JE X a ta)(e:∀b,isTrue a X.env b=(do let v <-b;standAt a.pos;holding [v] (truthy v)):=by intro _;rfl)(c:X.K=K:=by rfl):JT X a (b8a K ta):=⟨a9y K d.h e c⟩
theorem jaN:JA X [] a0T:=⟨b6Q⟩
theorem jaC(a:JE X e te)(b:JA X es t)(hs:starEach (e::es) X.env=(false,eval e X.env)::starEach es X.env:=by rfl):JA X (e::es) (a5v te t):=⟨b4y a.h b.h hs⟩
theorem C4{x1}(h:JA X es t):JE X (.Tuple es x1 pos) (b6d t):=⟨b6E h.h⟩
theorem I9(h:JA X es t):JE X (.List es pos) (b3G t):=⟨b6J h.h⟩
theorem E8(K:PySem.W.Frag)(d:JE X a ta)(e:JE X b tb)(hs:a5e b:=by intro _ _;rfl)(c:X.K=K:=by rfl):JE X (.Subscript a b pos) (tOp (b4d K) ta tb):=⟨b5O (b2P K c) d.h e.h hs⟩
theorem S2(K:PySem.W.Frag)(d:JE X a ta)(e:JE X b tb)(hs:a5e b:=by intro _ _;rfl)(c:X.K=K:=by rfl):JE X (.Subscript a b pos) (tOp (b6m K) ta tb):=⟨b5O (b4Y K c) d.h e.h hs⟩
theorem a0F:JO X none a0s:=⟨b4k⟩
theorem a0E(h:JE X e te):JO X (some e) (a7P te):=⟨b4j h.h⟩
theorem b5S(K:PySem.W.Frag){lo hi:Option Expr}{tl th:TO}(b:JE X e te)(c:JO X lo tl)(d:JO X hi th)(a:X.K=K:=by rfl):JE X (.Subscript e (.Slice lo hi none p2) pos) (tSl (b6l K) te tl th):=⟨a2y (b1c K a) b.h c.h d.h⟩
theorem b5R(K:PySem.W.Frag){lo hi:Option Expr}{tl th:TO}(b:JE X e te)(c:JO X lo tl)(d:JO X hi th)(a:X.K=K:=by rfl):JE X (.Subscript e (.Slice lo hi none p2) pos) (tSl (b1z K) te tl th):=⟨a2y (b3N K a) b.h c.h d.h⟩
theorem B1{k:Nat}{ps:List Str}{sp:Sp}{x:Str}(O:Ok X.prog X.w X.K X.mg X.base x k ps sp)(g:Room k X.A)(f:Gl X x)(c:JA X (e::es) t)(a:(x==("__debug__" : Str))=false:=by decide)
  (d:starEach (e::es) X.env=(false,eval e X.env)::starEach es X.env:=by rfl) (b:(backTo pos (starEach es X.env)).any (·.1)=false:=by rfl):JE X (.Call (.Name x p) (e::es) [] pos) (a7R sp [] E0 t):=⟨b1U O g f c.h a d b⟩
theorem O6(K:PySem.W.Frag)(f:Gl X "len")(g:X.mg "len"=none)(c:JA X (e::es) t)(b:X.K=K:=by rfl)(d:starEach (e::es) X.env=(false,eval e X.env)::starEach es X.env:=by rfl)(a:(backTo pos (starEach es X.env)).any (·.1)=false:=by rfl):JE X (.Call (.Name "len" p) (e::es) [] pos) (tCB (b8n K) t):=⟨E7 (b0s K b) f g b3s c.h (by decide) (by decide) d a⟩
theorem b2E(K:PySem.W.Frag)(g:Gl X "sum")(h:X.mg "sum"=none)(c:JA X (e::es) t)(d:X.calm=true:=by rfl)(b:X.K=K:=by rfl)(f:starEach (e::es) X.env=(false,eval e X.env)::starEach es X.env:=by rfl)(a:(backTo pos (starEach es X.env)).any (·.1)=false:=by rfl):JE X (.Call (.Name "sum" p) (e::es) [] pos) (tCB (b6j K) t):=⟨E7 (b0o K d b) g h b7G c.h (by decide) (by decide) f a⟩
theorem a2S(K:PySem.W.Frag)(g:Gl X "all")(h:X.mg "all"=none)(c:JA X (e::es) t)(d:X.calm=true:=by rfl)(b:X.K=K:=by rfl)(f:starEach (e::es) X.env=(false,eval e X.env)::starEach es X.env:=by rfl)(a:(backTo pos (starEach es X.env)).any (·.1)=false:=by rfl):JE X (.Call (.Name "all" p) (e::es) [] pos) (tCB (b6q K) t):=⟨E7 (b0x K d b) g h b7L c.h (by decide) (by decide) f a⟩
theorem b7m(K:PySem.W.Frag)(g:Gl X "any")(h:X.mg "any"=none)(c:JA X (e::es) t)(d:X.calm=true:=by rfl)(b:X.K=K:=by rfl)(f:starEach (e::es) X.env=(false,eval e X.env)::starEach es X.env:=by rfl)(a:(backTo pos (starEach es X.env)).any (·.1)=false:=by rfl):JE X (.Call (.Name "any" p) (e::es) [] pos) (tCB (b6p K) t):=⟨E7 (b0w K d b) g h b7K c.h (by decide) (by decide) f a⟩
theorem M1(K:PySem.W.Frag)(f:Gl X "isinstance")(g:X.mg "isinstance"=none)(c:JA X (e::es) t)(b:X.K=K:=by rfl)(d:starEach (e::es) X.env=(false,eval e X.env)::starEach es X.env:=by rfl)(a:(backTo pos (starEach es X.env)).any (·.1)=false:=by rfl):JE X (.Call (.Name "isinstance" p) (e::es) [] pos) (tCB (b6n K) t):=⟨E7 (b0t K b) f g a3w c.h (by decide) (by decide) d a⟩
theorem B4(K:PySem.W.Frag)(f:Gl X "tuple")(g:X.mg "tuple"=none)(c:JA X (e::es) t)(b:X.K=K:=by rfl)(d:starEach (e::es) X.env=(false,eval e X.env)::starEach es X.env:=by rfl)(a:(backTo pos (starEach es X.env)).any (·.1)=false:=by rfl):JE X (.Call (.Name "tuple" p) (e::es) [] pos) (tCB (b1w K) t):=⟨S0 (a6y K b) f g a0P c.h (by decide) (by decide) d a⟩
theorem a8C(K:PySem.W.Frag)(f:Gl X "list")(g:X.mg "list"=none)(c:JA X (e::es) t)(b:X.K=K:=by rfl)(d:starEach (e::es) X.env=(false,eval e X.env)::starEach es X.env:=by rfl)(a:(backTo pos (starEach es X.env)).any (·.1)=false:=by rfl):JE X (.Call (.Name "list" p) (e::es) [] pos) (tCB (b5K K) t):=⟨S0 (a7y K b) f g b5m c.h (by decide) (by decide) d a⟩
theorem a1g(d:Gl X "int")(f:X.mg "int"=none)(b:JA X (e::es) t)(c:starEach (e::es) X.env=(false,eval e X.env)::starEach es X.env:=by rfl)(a:(backTo pos (starEach es X.env)).any (·.1)=false:=by rfl):JE X (.Call (.Name "int" p) (e::es) [] pos) (tCB (b8o) t):=⟨S0 b0u d f b3t b.h (by decide) (by decide) c a⟩
theorem a1f(K:PySem.W.Frag)(h:JE X o to)(g:JA X (e::es) t)(f:X.K=K:=by rfl)(b:attributeBase o "append" X.env (eval o X.env)=eval o X.env:=by rfl)
  (d:((backTo cpos (starEach (e::es) X.env)).all (λx=>!x.1) && (backToKw cpos (keywordEach [] X.env)).all (λx=>x.1.isSome) && decide ((e::es).length+([]:List Keyword).length+(if ([]:List Keyword).isEmpty then 0 else 1)<30))=true:=by rfl)
  (c:(apos.endLine==cpos.line)=true:=by rfl) (hs:starEach (e::es) X.env=(false,eval e X.env)::starEach es X.env:=by rfl) (a:(backTo cpos (starEach es X.env)).any (·.1)=false:=by rfl) :
  JE X (.Call (.Attribute o "append" apos) (e::es) [] cpos) (tBM K "list" a8m to t):=⟨a7b K PySem.F.plainAttrs_list PySem.F.slot_list_append PySem.F.type_list_append a9N h.h g.h f b d c hs a⟩
theorem b2D(K:PySem.W.Frag)(h:JE X o to)(g:JA X (e::es) t)(f:X.K=K:=by rfl)(b:attributeBase o "pop" X.env (eval o X.env)=eval o X.env:=by rfl)
  (d:((backTo cpos (starEach (e::es) X.env)).all (λx=>!x.1) && (backToKw cpos (keywordEach [] X.env)).all (λx=>x.1.isSome) && decide ((e::es).length+([]:List Keyword).length+(if ([]:List Keyword).isEmpty then 0 else 1)<30))=true:=by rfl)
  (c:(apos.endLine==cpos.line)=true:=by rfl) (hs:starEach (e::es) X.env=(false,eval e X.env)::starEach es X.env:=by rfl) (a:(backTo cpos (starEach es X.env)).any (·.1)=false:=by rfl) :
  JE X (.Call (.Attribute o "pop" apos) (e::es) [] cpos) (tBM K "list" b1A to t):=⟨a7b K PySem.F.plainAttrs_list PySem.F.slot_list_pop PySem.F.type_list_pop b2o h.h g.h f b d c hs a⟩
theorem a3N(K:PySem.W.Frag)(h:JE X o to)(g:JA X (e::es) t)(f:X.K=K:=by rfl)(b:attributeBase o "extend" X.env (eval o X.env)=eval o X.env:=by rfl)
  (d:((backTo cpos (starEach (e::es) X.env)).all (λx=>!x.1) && (backToKw cpos (keywordEach [] X.env)).all (λx=>x.1.isSome) && decide ((e::es).length+([]:List Keyword).length+(if ([]:List Keyword).isEmpty then 0 else 1)<30))=true:=by rfl)
  (c:(apos.endLine==cpos.line)=true:=by rfl) (hs:starEach (e::es) X.env=(false,eval e X.env)::starEach es X.env:=by rfl) (a:(backTo cpos (starEach es X.env)).any (·.1)=false:=by rfl) :
  JE X (.Call (.Attribute o "extend" apos) (e::es) [] cpos) (tBM K "list" a8l to t):=⟨a7b K PySem.F.plainAttrs_list PySem.F.slot_list_extend PySem.F.type_list_extend a9M h.h g.h f b d c hs a⟩
theorem A7{i:Nat}{x:Str}(a:X.N.Nodup)(hi:X.N[i]?=some x)(c:Loc X.env.scope x)(b:X.fn x=true∨X.env.scope.names.lookup x=some .local:=by first|exact .inl rfl|exact .inr rfl|assumption):JG X (.Name x pos) (A9 i):=⟨b4s a hi c b⟩
theorem N7:JGs X [] b0d:=⟨b4q⟩
theorem C1{g:TG}{u:TGs}(h1:JG X e g)(h2:JGs X es u)(hs:(assignEach (e::es) X.env).map (·.2)=assign e X.env::(assignEach es X.env).map (·.2):=by rfl):JGs X (e::es) (a0c g u):=⟨b1P h1.h h2.h hs⟩
theorem U3(K:PySem.W.Frag)(n:Nat){k:Nat}{u:TGs}(h:JGs X es u)(c:X.calm=true:=by rfl)(b:X.K=K:=by rfl)(d:(assignEach es X.env).length=n:=by rfl)(a:(assignEach es X.env).findIdx? (·.1)=none:=by rfl):JG X (.Tuple es k pos) (a7o K n u):=⟨b4r K c h.h b d a⟩
theorem a2P{i:Expr}{a:TE}(c:JE X o to)(hi:JE X i a)
  (b:∀v,assign (.Subscript o i pos) X.env v=(do
   let ov <-holding [v] (eval o X.env)
   let iv <-holding [v,ov] (eval i X.env)
   standAt pos
   holding [v,ov,iv] (setItem ov iv v)
   release [v,ov,iv] []):=by intro _;rfl):JG X (.Subscript o i pos) (b8M to a b5G):=⟨b6C c.h hi.h b1f b⟩
theorem D6(K:PySem.W.Frag){tg l:Expr}{tl:TE}(b:JE X l tl)(a:X.K=K:=by rfl):JI X tg l (b2U K tl):=⟨b1O K b.h a⟩
theorem L1(K:PySem.W.Frag){tg l:Expr}{tl:TE}(b:JE X l tl)(a:X.K=K:=by rfl):JI X tg l (b7w K tl):=⟨b4o K b.h a⟩
theorem a0i(K:PySem.W.Frag){h:Nat}{i:Pos}(f:Gl X "zip")(g:X.mg "zip"=none)(e:JA X [a,b] t)(d:X.K=K:=by rfl)(hs:starEach [a,b] X.env=[(false,eval a X.env),(false,eval b X.env)]:=by rfl)(c:starEach [b] X.env=[(false,eval b X.env)]:=by rfl) :
  JI X (.Tuple es h i) (.Call (.Name "zip" p) [a,b] [] pos) (b7v K t):=⟨b4n K f g e.h d hs c⟩
theorem E1{tg:Expr}(c:Gl X "range")(d:X.mg "range"=none)(b:JA X [a] t)(hs:starEach [a] X.env=[(false,eval a X.env)]:=by rfl):JI X tg (.Call (.Name "range" p) [a] [] pos) (b5T t):=⟨a9B c d b.h hs⟩
theorem C2:JF X [] P7:=⟨b4m⟩
theorem a2Q(h:JT X c tA):JF X [c] tA:=⟨b4l h.h⟩
theorem B7{tg b c:Expr}{f:List Expr}{scope:Scope}{N:List Str}{src:List (Option Nat)}{j:TI}{g:TG}{i:TT}(hi:JI X tg b j)(e:C0 scope X.env.scope=true)(d:M7 N src X.N scope=true)(h:a4y scope=true)
  (m:∀a C s H ex,JG (X.blk N scope a C s H ex) tg g) (n:∀a C s H ex,JF (X.blk N scope a C s H ex) f i) (l:∀a C s H ex,JE (X.blk N scope a C s H ex) c te)
  (k:X.calm=true:=by rfl) (hs:∀x,foldedSetIterable b X.env x=pure x:=by intro _;rfl):JE X (.ListComp c [⟨tg,b,f,0⟩] scope pos) (a5w src j g i te) :=
 ⟨b4w k hi.h e d h (λ_ _ _ _ _=>(m _ _ _ _ _).h) (λ_ _ _ _ _=>(n _ _ _ _ _).h) (λ_ _ _ _ _=>(l _ _ _ _ _).h) hs⟩
variable {st:Stmt}{sts:List Stmt}{u v:TS}
theorem E4:JB X [] b5v:=⟨b4f⟩
theorem A3(h1:JS X st u)(h2:JB X sts v):JB X (st::sts) (b6e u v):=⟨b1E h1.h h2.h⟩
theorem A8(h1:JS X st u):JB X [st] u:=⟨b4e h1.h⟩
theorem b2C:JS X (.Break pos) b0V:=⟨b1H⟩
theorem B2(a:JE X e te):JS X (.Return (some e) pos) (b6f te):=⟨b6v a.h⟩
theorem U0(a:JE X e te)(hs:swapsWith e none pos.line X.env=pure false:=by rfl):JS X (.Expr e pos) (b5x te):=⟨b4h a.h hs⟩
theorem K1{A B:List Stmt}(d:JT X c tA)(a:JB X A u)(b:JB X B v):JS X (.If c A B pos) (b8e tA u v):=⟨b8r d.h a.h b.h⟩
theorem b2A{B:List Stmt}(b:JT X c tA)(a:JB X B v)(hp:PassesOwn (model X.prog X.w) X.A X.env X.xe:=by exact PassesOwn.never):JS X (.While c B [] pos) (b0R tA v):=⟨b1F hp b.h a.h⟩
theorem L0{tg a:Expr}{B:List Stmt}{b:TI}{g:TG}(hi:JI X tg a b)(e:JG X tg g)(c:JB X B v)(hp:PassesOwn (model X.prog X.w) X.A X.env X.xe:=by exact PassesOwn.never)(d:X.calm=true:=by rfl)
  (hs:∀x,foldedSetIterable a X.env x=pure x:=by intro _;rfl):JS X (.For tg a B [] pos) (b8f b g v):=⟨b6w hp d hi.h e.h c.h hs⟩
theorem B3{i:Nat}{x:Str}{pos':Pos}(a:X.N.Nodup)(hi:X.N[i]?=some x)(d:Loc X.env.scope x)(b:JE X e te)(hs:swapsWith e (some (.Name x pos')) pos.line X.env=pure false:=by rfl)
  (c:X.fn x=true∨X.env.scope.names.lookup x=some .local:=by first|exact .inl rfl|exact .inr rfl|assumption):JS X (.Assign [.Name x pos'] e pos) (a9k te (A9 i)):=⟨b6u a hi d b.h hs c⟩
theorem a8A{i:Nat}{y:Str}{m c:Pos}{tg b d:Expr}{e:List Expr}{scope:Scope}{N:List Str}{src:List (Option Nat)}{o:TI}{g:TG}{n:TT}
  (p:X.N.Nodup) (w:X.N[i]?=some y) (v:Loc X.env.scope y) (hi:JI X tg b o) (h:C0 scope X.env.scope=true) (f:M7 N src X.N scope=true) (k:a4y scope=true)
  (t:∀a C s H ex,JG (X.blk N scope a C s H ex) tg g) (u:∀a C s H ex,JF (X.blk N scope a C s H ex) e n) (j:∀a C s H ex,JE (X.blk N scope a C s H ex) d te)
  (q:X.calm=true:=by rfl) (l:swapsWith (.ListComp d [⟨tg,b,e,0⟩] scope pos) (some (.Name y m)) c.line X.env=pure true:=by rfl) (hs:∀x,foldedSetIterable b X.env x=pure x:=by intro _;rfl)
  (r:X.fn y=true∨X.env.scope.names.lookup y=some .local:=by first|exact .inl rfl|exact .inr rfl|assumption) :
  JS X (.Assign [.Name y m] (.ListComp d [⟨tg,b,e,0⟩] scope pos) c) (a9k (a5w src o g n te) (A9 i)) :=
 ⟨b4g p w v q hi.h h f k (λ_ _ _ _ _=>(t _ _ _ _ _).h) (λ_ _ _ _ _=>(u _ _ _ _ _).h) (λ_ _ _ _ _=>(j _ _ _ _ _).h) l hs r⟩
theorem a1e{tg:Expr}{g:TG}(a:JE X e te)(b:JG X tg g)(hs:swapsWithSole [tg] e pos.line X.env=pure false:=by rfl)(hw:swappedStores [tg] e X.env=pure none:=by rfl)
  (h1:(assignEach [tg] X.env).map (·.2)=[assign tg X.env]:=by rfl):JS X (.Assign [tg] e pos) (a9k te g):=⟨b6y a.h b.h hs hw h1⟩
end
section
variable {P:Program}{w:World}{K:PySem.W.Frag}{mg:Str->Option Value}{base:Heap}
theorem FunAt.okJ{x:Str}{st:Stmt}{N ps:List Str}{k:Nat}{sp:Sp}(F:FunAt K mg x st ps)(S:FnScope N ps (A4 st))(c:∀vs H Q E,sp vs H Q E->vs.length=ps.length)
  (b:∀(a:Value) (f:Addr) (A:Around) (outer:List Env) (s:Shared) (H:Hp) (vs:List V) (Q:VK) (E:XK),Room k (A.deeper (envOfC x (A4 st) s.heap.objs.size f a))->sp vs H Q E ->
   ∃t,JB (L6 CX0 P w K mg base N x (A4 st) f a A outer s H E).nox (F0 st) t/\t {nx:=λ_ H'=>Q .non H',rt:=Q} (start N vs) H):Ok P w K mg base x (k+1) ps sp :=
 F.ok S c λa f A outer s H vs Q E e h=>let ⟨t,d,r⟩:=b a f A outer s H vs Q E e h;⟨t,d.h,r⟩
theorem Fun.okJ{x qual:Str}{st:Stmt}{f:Addr}{fd:FuncData}{N ps:List Str}{k:Nat}{sp:Sp}(F:Fun K x qual st f fd)(S:FnScope N ps (A4 st))(c:∀vs H Q E,sp vs H Q E->vs.length=ps.length)
  (b:∀(a:Value) (A:Around) (outer:List Env) (s:Shared) (H:Hp) (vs:List V) (Q:VK) (E:XK),Room k (A.deeper (envOfC qual (A4 st) s.heap.objs.size f a))->sp vs H Q E ->
   ∃t,JB (L6 CX0 P w K mg base N qual (A4 st) f a A outer s H E).nox (F0 st) t/\t {nx:=λ_ H'=>Q .non H',rt:=Q} (start N vs) H):FnOk P w K mg base CX0 (k+1) f fd ps sp :=
 F.ok S c λa A outer s H vs Q E e h=>let ⟨t,d,r⟩:=b a A outer s H vs Q E e h;⟨t,d.h,r⟩
end
def a8a(K:PySem.W.Frag):Sp:=λvs H Q _=>∃(a:Addr) (ns:List Int),vs=[.ref a]/\SqL K H a (ns.map V.int)/\ns.length<=63/\∀H',Q (.bl true) H'
theorem law_walk{l:PySem.W.OpenLaw}{q:Program}{b:List Str}{XP:(Str->Option Value)->Heap->Prop}{e:World->Heap->Prop}{d:DefRec}{K:Params->PySem.W.Frag}(k:Nat)(o:l.most=some 63)(c:d.params.defaults=[])(p:Room k callerA)
  (j:∀(w:World) (h:Heap),e w h->(K w.params).In h)
  (F:∀(w:World) (mg:Str->Option Value) (g:Addr) (h:Heap),(K w.params).In h->h.Ns mainGlobals mg->mg d.name=some (.ref g) ->
   ∃fd:FuncData,(∀(s:Shared) (u:Value),BindsTo s fd ⟨[u],[]⟩ [("_law_script",u)])/\∀base:Heap,(K w.params).In base->base.Ns mainGlobals mg->FnOk l.prog w (K w.params) mg base CX0 k g fd ["_law_script"] (a8a (K w.params))) :
  PySem.W.WalkO q b XP e l.row.toRowW d [] (λf vs=>PySem.call f vs) :=
 L2.walk_of (n:=63) (k:=k) (x:="_law_script") (CX:=λ_=>CX0) (sp:=λw=>a8a (K w.params)) o (by decide) c p j F (λ_ _ a r m _ i=>⟨a,r,rfl,i,m,λ_=>rfl⟩) λ_ _ _ _ _ z=>z
def Its(H:Hp)(vs:List V)(rss:LLI):Prop:=vs.length=rss.length/\∀(i:Nat) (v:V),vs[i]?=some v->∃r,rss[i]?=some r/\IT H v r
theorem Its.same{H H':Hp}{vs:List V}{rss:LLI}(h:Its H vs rss)(s:Same H H'):Its H' vs rss:=⟨h.1,λi v e=>let ⟨r,e1,e2⟩:=h.2 i v e;⟨r,e1,e2.same s⟩⟩
theorem Its.nil{H:Hp}:Its H [] []:=⟨rfl,λi v e=>by simp at e⟩
theorem Its.snoc{H:Hp}{vs:List V}{rss:LLI}{v:V}{r:List Int}(h:Its H vs rss)(d:IT H v r):Its H (vs++[v]) (rss++[r]):=by
 refine⟨by simp[h.1],λi u e=>?_⟩;by_cases hi:i<vs.length
 .rw[br hi]at e;obtain⟨q,b,c⟩:=h.2 i u e;exact⟨q,by rw[br (by rw[<-h.1];exact hi)];exact b,c⟩
 .rw[aX (by omega)]at e;have a:i-vs.length=0:=by
   have:=(aH.mp e).1;simp at this;omega
  rw[a]at e;simp at e;subst e;refine⟨r,?_,d⟩;rw[aX (by rw[<-h.1];omega),<-h.1,a];rfl
theorem Its.mem{H:Hp}{vs:List V}{rss:LLI}{v:V}{i:Nat}(h:Its H vs rss)(e:vs[i]?=some v):∃r,r∈rss/\rss[i]?=some r/\IT H v r :=
 let ⟨r,e1,e2⟩:=h.2 i v e
 ⟨r,aF e1,e1,e2⟩
theorem a9d{K:PySem.W.Frag}{src:List (Option Nat)}{σ caps:St}{Q:VK}{k1 k2:Bool}{a b:Addr}{xs ys:List Int}{H:Hp}{te:TE}(f:Int->Int->V)(t:xs.length<=1000)
  (c:∀H',Same H H'->SqK k1 K H' a (xs.map V.int)/\SqK k2 K H' b (ys.map V.int))
  (g:B5 src σ=none::none::caps) (n:∀x y H1 o,x∈xs->y∈ys->Same H H1->o (f x y) H1->te (some (.int x)::some (.int y)::caps) H1 o)
  (hd:∀H1 p,Same H H1->H1 p=none->Q (.ref p) (upd H1 p (.lst (List.zipWith f xs ys)))) :
  J5 src (a7o K 2 (a0c (A9 0) (a0c (A9 1) b0d))) P7 te σ Q (Itz K k1 k2 a b) H:=by
 have u:(1000:Nat)<=sizeLine:=by rw[a_];decide
 refine X0 (xs:=xs.map V.int) (zs:=ys.map V.int) (by rw[J6];omega) (λi zs H'=>Same H H'/\zs=(List.zipWith f xs ys).take i) ⟨Same.refl H,by simp⟩ (λi zs H' _ _ h=>⟨(c H' h.1).1,(c H' h.1).2,by rw[h.2];exact bP _ _⟩) ?_ ?_
 .rintro i x z zs H' p hx hy ⟨s,rfl⟩ hp;obtain⟨m,k,q⟩:=M3 hx;obtain⟨d,l,r⟩:=M3 hy;subst q r;clear hx hy;have s':Same H (upd H' p (.tup [.int m,.int d])):=s.upd hp;refine⟨p,[.int m,.int d],rfl,SqT.of A1,rfl,.int m,[.int d],rfl,.int d,[],rfl,rfl,?_⟩;rw[g];show Sub _ (some (.int m)::some (.int d)::caps)/\_;refine⟨⟨rfl,λj v e=>?_⟩,?_⟩
  .match j,e with
   |0,e=>cases e
   |1,e=>cases e
   |j+2,e=>exact e
  .exact n m d _ _ (aF k) (aF l) s' ⟨s',(M8 f k l).symm⟩
 .rintro zs H' ⟨s,rfl⟩ p hp;have e:(List.zipWith f xs ys).take (min (xs.map V.int).length (ys.map V.int).length)=List.zipWith f xs ys:=by
   rw[J6,J6,ck];rw[d_];exact ao _
  rw[e];exact hd H' p s hp
theorem a7O{K:PySem.W.Frag}{src:List (Option Nat)}{σ caps:St}{Q:VK}{a:Addr}{vs:List V}{rss:LLI}{H:Hp}{te:TE}(f:List Int->V)(m:vs.length<=1000)(b:∀H',Same H H'->SqT K H' a vs)(k:Its H vs rss)(c:B5 src σ=none::caps)
  (g:∀v r H1 j,r∈rss->IT H1 v r->Same H H1->(∀H2,Same H1 H2->j (f r) H2)->te (some v::caps) H1 j) (hd:∀H1 p,Same H H1->H1 p=none->Q (.ref p) (upd H1 p (.lst (rss.map f)))):J5 src (A9 0) P7 te σ Q (Itt K a) H:=by
 have n:(1000:Nat)<=sizeLine:=by rw[a_];decide
 refine X1 (xs:=vs) (by omega) (λi ys H'=>Same H H'/\ys=(rss.take i).map f) ⟨Same.refl H,by simp⟩ (λi ys H' _ h=>⟨b H' h.1,by rw[h.2,aj];exact bP _ _⟩) ?_ ?_
 .rintro i x ys H' hx ⟨s,rfl⟩;obtain⟨r,l,d,e⟩:=k.mem hx;show Sub _ ((B5 src σ).set 0 (some x))/\_;rw[c];refine⟨Sub.one,g x r H' _ l (e.same s) s λH2 s2=>⟨s.trans s2,?_⟩⟩;rw[bj,d];simp
 .rintro ys H' ⟨s,rfl⟩ p hp;rw[k.1,bq];exact hd H' p s hp
theorem b0C{K:PySem.W.Frag}{src:List (Option Nat)}{σ caps:St}{Q:VK}{k1 k2:Bool}{a b:Addr}{xs:List Int}{us:List V}{rss:LLI}{H:Hp}{te:TE}(f:Int->List Int->V)(w:xs.length<=1000)
  (c:∀H',Same H H'->SqK k1 K H' a (xs.map V.int)/\SqK k2 K H' b us) (q:Its H us rss)
  (d:B5 src σ=none::none::caps) (n:∀x v r H1 o,x∈xs->r∈rss->IT H1 v r->Same H H1->o (f x r) H1->te (some (.int x)::some v::caps) H1 o)
  (hd:∀H1 p,Same H H1->H1 p=none->Q (.ref p) (upd H1 p (.lst (List.zipWith f xs rss)))) :
  J5 src (a7o K 2 (a0c (A9 0) (a0c (A9 1) b0d))) P7 te σ Q (Itz K k1 k2 a b) H:=by
 have y:(1000:Nat)<=sizeLine:=by rw[a_];decide
 refine X0 (xs:=xs.map V.int) (zs:=us) (by rw[J6];omega) (λi zs H'=>Same H H'/\zs=(List.zipWith f xs rss).take i) ⟨Same.refl H,by simp⟩ (λi zs H' _ _ h=>⟨(c H' h.1).1,(c H' h.1).2,by rw[h.2];exact bP _ _⟩) ?_ ?_
 .rintro i x z zs H' p hx hy ⟨s,rfl⟩ hp;obtain⟨k,g,t⟩:=M3 hx;subst t;obtain⟨r,u,l,m⟩:=q.mem hy;have s':Same H (upd H' p (.tup [.int k,z])):=s.upd hp;refine⟨p,[.int k,z],rfl,SqT.of A1,rfl,.int k,[z],rfl,z,[],rfl,rfl,?_⟩;rw[d];show Sub _ (some (.int k)::some z::caps)/\_;refine⟨⟨rfl,λj v e=>?_⟩,?_⟩
  .match j,e with
   |0,e=>cases e
   |1,e=>cases e
   |j+2,e=>exact e
  .exact n k z r _ _ (aF g) u (m.same s') s' ⟨s',(M8 f g l).symm⟩
 .rintro zs H' ⟨s,rfl⟩ p hp;have e:(List.zipWith f xs rss).take (min (xs.map V.int).length us.length)=List.zipWith f xs rss:=by
   rw[J6,q.1,ck];rw[d_];exact ao _
  rw[e];exact hd H' p s hp
theorem a6V{src:List (Option Nat)}{σ caps:St}{Q:VK}{n:Nat}{H:Hp}{d:TT}(t:Nat->Bool)(f:n<=1000)(a:B5 src σ=none::caps)(b:∀(i:Nat) H1 (c:Bool->Hp->Prop),i<n->Same H H1->(∀H2,Same H1 H2->c (t i) H2)->d (some (.int i)::caps) H1 c)
  (hd:∀H1 p,Same H H1->H1 p=none->Q (.ref p) (upd H1 p (.lst ((((List.range n).filter t).map λ(i:Nat)=>(i:Int)).map V.int)))):J5 src (A9 0) d (Z4 0) σ Q (Itr 0 n) H:=by
 refine a0A f a (λi ys H'=>Same H H'/\ys=(((List.range i).filter t).map λ(i:Nat)=>(i:Int)).map V.int) ⟨Same.refl H,rfl⟩ (λi ys H' h=>by rw[h.2,aj,aj];exact bf (bK _ _) (by simp)) ?_ ?_
 .rintro i ys H' hi ⟨s,rfl⟩;refine b i H' _ hi s λH2 s2=>?_;rw[List.range_succ,List.filter_append];cases e:t i with
  |true=>exact⟨_,rfl,s.trans s2,by simp[e]⟩
  |false=>exact⟨s.trans s2,by simp[e]⟩
 .rintro ys H' ⟨s,rfl⟩ p hp;exact hd H' p s hp
end L2
namespace L2
open PySem PySem.Spec PyProof.Rows PySem.W
theorem ObjOk.there{P:Program}{w:World}{H:Hp}{h:Heap}{a:Addr}{o:HO}(x:ObjOk P w H h a o):∃u,h.get? a=some u:=by
 induction o with
 |lst xs=>obtain⟨_,_,_,_,e⟩:=x;exact⟨_,e⟩
 |tup xs=>obtain⟨_,_,_,b,e,_⟩:=x;exact⟨_,e⟩
 |dK kvs=>obtain⟨_,_,_,_,o,_,_,e,_⟩:=x;exact⟨_,e⟩
 |dT kvs=>obtain⟨_,_,_,_,o,_,_,e,_⟩:=x;exact⟨_,e⟩
 |set S n=>obtain⟨o,_,_,_,e,_⟩:=x;exact⟨_,e⟩
 |ins C dx fs=>obtain⟨_,_,_,e,_⟩:=x;exact⟨_,e⟩
 |own y=>obtain⟨_,e⟩:=x;exact⟨_,e⟩
 |xd fs=>obtain⟨_,⟨_,_,_,e,_⟩,_⟩:=x;exact⟨_,e⟩
 |rng lo hi=>obtain⟨_,_,_,e⟩:=x;exact⟨_,e⟩
 |frz b u c=>obtain⟨e,_⟩:=x;exact⟨_,e⟩
 |tbl ps=>exact⟨_,x⟩
 |met f y=>exact⟨_,x⟩
 |ext φ=>exact x.2.1
def Cov(l:List Env)(H:Hp)(h0 h B:Heap):Prop:=∀b o,h.get? b=some o->b∉frs l->(H b≠none∨∃o',h0.get? b=some o')->B.get? b=some o
theorem a3c{P:Program}{w:World}{l:List Env}{H H':Hp}{h0 h1 h2 B base:Heap}(f:Un (frs l) [] H H' h0 h1)(j:HOk P w H' h1)(d:Cov l H' h0 h1 B)(st:B.StaysIn h2)(s:h1.UpToSlots h2)(p:h1.FunFrames base l)(t:∀b∈frs l,H' b=none) :
  Un (frs l) [] H H' h0 h2/\HOk P w H' h2/\Cov l H' h0 h2 B:=by
 have y:∀b,H' b≠none->b∉frs l:=λb n c=>n (t b c);refine⟨⟨?_,?_,f.free,?_,f.tups,f.frzs,f.tbls⟩,?_,?_⟩
 .intro b o e n c hx;exact st b o (d b o (f.keep b o e n c hx) c (.inr ⟨o,e⟩))
 .intro b o e n c hx;obtain⟨sl,q⟩:=f.slot b o e n c hx;obtain⟨_,v,i,nf⟩:=p.mem c;rw[q]at i;cases i;obtain⟨k,h⟩:=s b _ q nf;exact⟨k,h⟩
 .intro b o e hx;obtain⟨g,q⟩:=f.there b o e hx;by_cases c:b∈frs l
  .obtain⟨_,v,i,nf⟩:=p.mem c;rw[q]at i;cases i;obtain⟨k,h⟩:=s b _ q nf;exact⟨_,h⟩
  .exact⟨g,st b g (d b g q c (.inr ⟨o,e⟩))⟩
 .intro a o e;refine(j a o e).stay (λb u c q=>?_) (λ_ q=>q) λ_ _ q=>q;have m:H' b≠none:=by
   rcases c with rfl|c
   .rw[e];intro z;cases z
   .rw[c];intro z;cases z
  exact st b u (d b u q (y b m) (.inl m))
 .intro b o e c ho;have ex:∃g,h1.get? b=some g:=by
   rcases ho with m|⟨o',q⟩
   .cases eq:H' b with
    |none=>exact absurd eq m
    |some u=>exact(j b u eq).there
   .exact f.there b o' q (by simp)
  obtain⟨g,x⟩:=ex;have h:=d b g x c ho;have r:=st b g h;rw[e]at r;cases r;exact h
def CXE(P:Program)(w:World):CXT:=λouter H s E e s' =>
 ∃(p C:Addr) (H':Hp) (B:Heap) (a0:Value),e=.ref p/\s'.os=s.os/\AllBare s'.gens/\Un (frs outer) [] H H' s.heap s'.heap/\HOk P w H' s'.heap /\
  H' p=none/\Heap.FlyingW B outer p (.ref C) a0 s'.heap/\Cov outer H' s.heap s'.heap B/\E (.ref C) none H'
def b0S(C:Addr)(E:XK)(t:TA):TS:=λ_ σ H=>t σ H λvs H1=>vs.length<=sizeLine/\E (.ref C) none H1
theorem b1G{P:Program}{w:World}{K:PySem.W.Frag}{mg:Str->Option Value}{base:Heap}{N:List Str}{qual:Str}{scope:Scope}{f:Addr}{cd:Value}{A:Around}{outer:List Env}{a:Shared}{i:Hp}{E:XK}
  {x:Str}{C:Addr}{bmB F:List Value}{B Y newId V g U:String}{e:Expr}{es:List Expr}{t:TA}{np cpos pos:Pos}
  (O:OwnCls x C bmB newId mg base) (Fn:ExcBaseFacts Y newId U F) (J:bmB.contains (.type Y)=true) (Z:ExcBaseFacts B V g bmB)
  (hg:Gl (L6 (CXE P w) P w K mg base N qual scope f cd A outer a i E) x)
  (ha:PA (L6 (CXE P w) P w K mg base N qual scope f cd A outer a i E) (e::es) t) (hd:(x==("__debug__" : Str))=false:=by decide)
  (y:starEach (e::es) (envOfC qual scope a.heap.objs.size f cd)=(false,eval e (envOfC qual scope a.heap.objs.size f cd))::starEach es (envOfC qual scope a.heap.objs.size f cd):=by rfl)
  (S:(backTo cpos (starEach es (envOfC qual scope a.heap.objs.size f cd))).any (·.1)=false:=by rfl) :
  PS (L6 (CXE P w) P w K mg base N qual scope f cd A outer a i E) (.Raise (some (.Call (.Name x np) (e::es) [] cpos)) none pos) (b0S C E t):=by
 intro pins s σ H D I h;obtain⟨tl,NC,nm,q,bs,m,sn,sub,ab,col,dd,k0,k1,k2,k3,k5,mN,hC,hN,R,T⟩:=O.obj;refine wpAny_Raise_call_subU (C:=C) (nm:=nm) (q:=q) (N:=NC) (bs:=bs) (bm:=tl) (hdct:=m) (sn:=sn) (sub:=sub) (ab:=ab) (col:=col) (dd:=dd) (k0:=k0) (k1:=k1) (k2:=k2) (k3:=k3) (k5:=k5)
  Fn J Z (mN:=mN) (T.hasType Z.hasBase) (I.ok.hd rfl) (by show(backTo cpos (starEach (e::es) (envOfC qual scope a.heap.objs.size f cd))).any _=false;rw[y];show(false || (backTo cpos (starEach es (envOfC qual scope a.heap.objs.size f cd))).any (·.1))=false;rw[S];rfl) R (a4L I hg O.bound ⟨rfl,?_⟩ hd)
 have k:=ha cpos pins s σ H _ I h;have L:starEach (e::es) (L6 (CXE P w) P w K mg base N qual scope f cd A outer a i E).env=_:=y;rw[L]at k⊢;refine e_ (dE k (λus s2 ⟨vs,H1,c,r,hl,q⟩=>⟨rfl,by rw[<-r.length];exact hl,c.bk _ _ hC,hN.keeps c.bk,T.keeps c.bk,λh' p Q=>?_⟩) λ_ _ z=>z);have M:∀env∈(envOfC qual scope a.heap.objs.size f cd::outer),∀b,env.frame=some b->b∈frs (envOfC qual scope a.heap.objs.size f cd::outer):=λenv y b d=>cn.mpr ⟨env,y,d⟩;refine wpAny_leaves_madeW (base:=hideAll s2.heap (frs (envOfC qual scope a.heap.objs.size f cd::outer))) (h:=s2.heap) c.ok.frames rfl (λb o q=>of_hideAll _ q) (funFrames_hide c.stack M) Q λh2 t x1 x2 x3 x4=>?_;have v:∀b∈frs outer,b∈frs (envOfC qual scope a.heap.objs.size f cd::outer):=λb d=>by
  obtain⟨env,h1,h2⟩:=cn.mp d;exact cn.mpr ⟨env,ar _ h1,h2⟩
 have n:∀b,b∉frs outer->b≠a.heap.objs.size->b∉frs (envOfC qual scope a.heap.objs.size f cd::outer):=λb h1 h2 h3=>by
  obtain⟨env,X,q2⟩:=cn.mp h3;rcases aE.mp X with rfl|X
  .exact h2 (bG q2).symm
  .exact h1 (cn.mpr ⟨env,X,q2⟩)
 have G:Cov outer H1 a.heap s2.heap (hideAll s2.heap (frs (envOfC qual scope a.heap.objs.size f cd::outer))):=λb o eb nb d=>by
  refine hideAll_get _ eb (n b nb λz=>?_);subst z;rcases d with d|⟨o',d⟩
  .exact d c.free
  .exact absurd (aI d) (cj _)
 have hp:H1 p=none:=by
  cases eq:H1 p with
  |none=>rfl
  |some u =>
   obtain⟨o,eo⟩:=(c.hok p u eq).there;rw[Q.new]at eo;cases eo
 obtain⟨U2,W,j⟩:=a3c (P:=P) (w:=w) (l:=outer) (H:=i) (H':=H1) (h0:=a.heap) (h1:=s2.heap) (h2:=h2) c.base c.hok G x1.1 ((Heap.UpToSlots.of_keeps Q.keeps).trans x4) c.funs λb d=>c.stkFree b (v b d);exact⟨p,C,H1,_,.ref t,rfl,c.os,c.bare,U2,W,hp,x1,j,q⟩
def XP(X:Cx)(pins:List (Addr×Obj))(R:St->Addr->Hp->Prop)(e:Value)(s':Shared):Prop :=
 ∃(σ1:St) (H1:Hp) (s1:Shared) (p C:Addr) (H':Hp) (B:Heap) (a0:Value),e=.ref p/\Inv X pins σ1 H1 s1/\s'.os=s1.os/\AllBare s'.gens/\Un (frs X.stack) [] H1 H' s1.heap s'.heap/\HOk X.prog X.w H' s'.heap /\
  H' p=none/\Heap.FlyingW B X.stack p (.ref C) a0 s'.heap/\Cov X.stack H' s1.heap s'.heap B/\R σ1 C H'
structure OkE(P:Program)(w:World)(K:PySem.W.Frag)(mg:Str->Option Value)(base:Heap)(x:Str)(k:Nat)(ps:List Str)(sp:Sp):Prop where
 ex:∃f fd,mg x=some (.ref f)/\PySem.W.keepIn K (.ref f)=true/\Binds K fd ps []/\FnOk P w K mg base (CXE P w) k f fd ps sp
theorem FunAt.okE{P:Program}{w:World}{K:PySem.W.Frag}{mg:Str->Option Value}{base:Heap}{x:Str}{st:Stmt}{N ps:List Str}{k:Nat}{sp:Sp}(F:FunAt K mg x st ps)(S:FnScope N ps (A4 st))(e:∀vs H Q E,sp vs H Q E->vs.length=ps.length)
  (b:∀(a:Value) (f:Addr) (A:Around) (outer:List Env) (s:Shared) (H:Hp) (vs:List V) (Q:VK) (E:XK),Room k (A.deeper (envOfC x (A4 st) s.heap.objs.size f a))->sp vs H Q E ->
   ∃t,JB (L6 (CXE P w) P w K mg base N x (A4 st) f a A outer s H E) (F0 st) t/\t {nx:=λ_ H'=>Q .non H',rt:=Q} (start N vs) H):OkE P w K mg base x (k+1) ps sp:=by
 obtain⟨f,fd,h1,h2,i⟩:=F.ex;refine⟨f,fd,h1,h2.kp,i,?_⟩;obtain⟨oc,od,kV,g,pm,an,a,ct,m,rfl,l,c⟩:=h2.ex;refine b5V l c S e λA outer s H vs Q E j d=>?_;obtain⟨t,h,q⟩:=b a f A outer s H vs Q E j d;exact⟨t,h.h,q⟩
section
variable {M:Model}{A:Around}{E:Value->Shared->Prop}
end
section
variable {X:Cx}{pins:List (Addr×Obj)}{σ:St}{H1 H':Hp}{s1 s':Shared}{p C:Addr}{B:Heap}{a0:Value}{h2:Heap}
theorem Inv.land(a:Inv X pins σ H1 s1)(e:s'.os=s1.os)(k:AllBare s'.gens)(g:Un (frs X.stack) [] H1 H' s1.heap s'.heap)(d:HOk X.prog X.w H' s'.heap)(i:s'.heap.FunFrames B X.stack)(c:Cov X.stack H' s1.heap s'.heap B)(st:B.StaysIn h2)(m:s'.heap.UpToSlots h2) :
  Inv X pins σ H' {s' with heap:=h2}:=by
 have j:∀b∈frs X.stack,H' b=none:=λb h=>by
  obtain⟨_,o,l,_⟩:=a.stack.mem h;exact g.free b o l (a.stkFree b h) (by simp)
 obtain⟨U2,f,_⟩:=a3c g d c st m i j;exact a.call' (ch:=[]) e U2 f k (λb z=>absurd z (by simp))
end
section
variable {X:Cx}{pins:List (Addr×Obj)}{σ:St}{H:Hp}{s:Shared}
end
section
variable {X:Cx}{k:Nat}{ps:List Str}{sp:Sp}{x y:Str}{p pos cpos pos':Pos}{e:Expr}{es:List Expr}{t:TA}{i:Nat}
end
theorem b2B{P:Program}{w:World}{K:PySem.W.Frag}{mg:Str->Option Value}{base:Heap}{N:List Str}{qual:Str}{scope:Scope}{f:Addr}{cd:Value}{A:Around}{outer:List Env}{b:Shared}{c:Hp}{E:XK}
  {x:Str}{C:Addr}{bmB d:List Value}{B k newId j a i:String}{e:Expr}{es:List Expr}{t:TA}{np cpos pos:Pos}
  (O:OwnCls x C bmB newId mg base) (m:ExcBaseFacts k newId i d) (g:bmB.contains (.type k)=true) (l:ExcBaseFacts B j a bmB)
  (p:Gl (L6 (CXE P w) P w K mg base N qual scope f cd A outer b c E) x)
  (n:JA (L6 (CXE P w) P w K mg base N qual scope f cd A outer b c E) (e::es) t) (hd:(x==("__debug__" : Str))=false:=by decide)
  (o:starEach (e::es) (envOfC qual scope b.heap.objs.size f cd)=(false,eval e (envOfC qual scope b.heap.objs.size f cd))::starEach es (envOfC qual scope b.heap.objs.size f cd):=by rfl)
  (h:(backTo cpos (starEach es (envOfC qual scope b.heap.objs.size f cd))).any (·.1)=false:=by rfl) :
  JS (L6 (CXE P w) P w K mg base N qual scope f cd A outer b c E) (.Raise (some (.Call (.Name x np) (e::es) [] cpos)) none pos) (b0S C E t):=⟨b1G O m g l p n.h hd o h⟩
end L2
namespace L2
open PySem PySem.Spec PyProof.Rows PySem.W Builtin Builtin.ObjectAttr Builtin.Getset_descriptor
section
variable {K:PySem.W.Frag}{prog:Program}{w:World}{A:Around}{E:Value->Shared->Prop}{h:Heap}{g:Array GenState}{d:Drawn}{t:Nat}{os:OsState}{a:Addr}{o:Obj}
 {nm q:Str}{C N:Addr}{bs bm:List Value}{hdct:Bool}{sn:List Str}{sub:List Value}{ab:Bool}{col:Option Bool}{dd:Option Addr}{k0 k1 k2 k3 k5:Option Value}{newId:String}
end
section
variable {X:Cx}{es:List Expr}{e:Expr}{t:TA}{pos p:Pos}
end
end L2
namespace L2
open PySem PySem.Spec PyProof.Rows
theorem a2Y{α:Type}{ca:α->V}{xs:List α}{i:Nat}{x:V}(h:(xs.map ca)[i]?=some x):∃z,xs[i]?=some z/\x=ca z:=by
 rw[aQ]at h;cases e:xs[i]? with
 |none=>rw[e]at h;cases h
 |some z=>rw[e]at h;exact⟨z,rfl,(bG h).symm⟩
theorem b3A{α β:Type}{K:PySem.W.Frag}{src:List (Option Nat)}{σ caps:St}{Q:VK}{k1 k2:Bool}{a b:Addr}(ca:α->V)(d:β->V){xs:List α}{ys:List β}{H:Hp}{te:TE}(f:α->β->V)(u:xs.length<=1000)
  (c:∀H',Same H H'->SqK k1 K H' a (xs.map ca)/\SqK k2 K H' b (ys.map d))
  (k:B5 src σ=none::none::caps) (o:∀x y H1 q,x∈xs->y∈ys->Same H H1->(∀H2,Same H1 H2->q (f x y) H2)->te (some (ca x)::some (d y)::caps) H1 q)
  (hd:∀H1 p,Same H H1->H1 p=none->Q (.ref p) (upd H1 p (.lst (List.zipWith f xs ys)))) :
  J5 src (a7o K 2 (a0c (A9 0) (a0c (A9 1) b0d))) P7 te σ Q (Itz K k1 k2 a b) H:=by
 have w:(1000:Nat)<=sizeLine:=by rw[a_];decide
 refine X0 (xs:=xs.map ca) (zs:=ys.map d) (by rw[aj];omega) (λi zs H'=>Same H H'/\zs=(List.zipWith f xs ys).take i) ⟨Same.refl H,by simp⟩ (λi zs H' _ _ h=>⟨(c H' h.1).1,(c H' h.1).2,by rw[h.2];exact bP _ _⟩) ?_ ?_
 .rintro i x z zs H' p hx hy ⟨s,rfl⟩ hp;obtain⟨n,l,r⟩:=a2Y hx;obtain⟨g,m,t⟩:=a2Y hy;subst r t;clear hx hy;have s':Same H (upd H' p (.tup [ca n,d g])):=s.upd hp;refine⟨p,[ca n,d g],rfl,SqT.of A1,rfl,ca n,[d g],rfl,d g,[],rfl,rfl,?_⟩;rw[k];show Sub _ (some (ca n)::some (d g)::caps)/\_;refine⟨⟨rfl,λj v e=>?_⟩,?_⟩
  .match j,e with
   |0,e=>cases e
   |1,e=>cases e
   |j+2,e=>exact e
  .exact o n g _ _ (aF l) (aF m) s' λH2 s2=>⟨s'.trans s2,(M8 f l m).symm⟩
 .rintro zs H' ⟨s,rfl⟩ p hp;have e:(List.zipWith f xs ys).take (min (xs.map ca).length (ys.map d).length)=List.zipWith f xs ys:=by
   rw[aj,aj,ck];rw[d_];exact ao _
  rw[e];exact hd H' p s hp
theorem a9i{α:Type}{K:PySem.W.Frag}{src:List (Option Nat)}{σ caps:St}{Q:VK}{a:Addr}(ca:α->V){xs:List α}{H:Hp}{j:TT}(t:α->Bool)(k:xs.length<=1000)(b:∀H',Same H H'->SqT K H' a (xs.map ca))(c:B5 src σ=none::caps)
  (f:∀x H1 (g:Bool->Hp->Prop),x∈xs->Same H H1->(∀H2,Same H1 H2->g (t x) H2)->j (some (ca x)::caps) H1 g) (hd:∀H1 p,Same H H1->H1 p=none->Q (.ref p) (upd H1 p (.lst ((xs.filter t).map ca)))):J5 src (A9 0) j (Z4 0) σ Q (Itt K a) H:=by
 have l:(1000:Nat)<=sizeLine:=by rw[a_];decide
 refine X1 (xs:=xs.map ca) (by rw[aj];omega) (λi ys H'=>Same H H'/\ys=((xs.take i).filter t).map ca) ⟨Same.refl H,by simp⟩ (λi ys H' _ h=>⟨b H' h.1,by rw[h.2,aj];exact bf (bK _ _) (bP _ _)⟩) ?_ ?_
 .rintro i x ys H' hx ⟨s,rfl⟩;obtain⟨z,d,rfl⟩:=a2Y hx;show Sub _ ((B5 src σ).set 0 (some (ca z)))/\_;rw[c];refine⟨Sub.one,f z H' _ (aF d) s λH2 s2=>?_⟩;rw[bj,d];cases e:t z with
  |true=>exact⟨_,rfl,s.trans s2,by simp[e]⟩
  |false=>exact⟨s.trans s2,by simp[e]⟩
 .rintro ys H' ⟨s,rfl⟩ p hp;rw[aj,bq];exact hd H' p s hp
theorem b8x{P:Program}{w:World}{K:PySem.W.Frag}{mg:Str->Option Value}{base:Heap}{N:List Str}{qual:Str}{scope:Scope}{f:Addr}{cd:Value}{A:Around}{outer:List Env}{d:Shared}{v:Hp}{E:XK} :
  X5 (CXE P w) (L6 (CXE P w) P w K mg base N qual scope f cd A outer d v E) E:=by
 intro pins σ H1 s1 e s' I h;obtain⟨p,C,H',B,a0,rfl,s,x,J,n,L,c,i,q⟩:=h;have g:=I.land s x J n c.2.2.1 i c.1 (λb o e _=>⟨o.slots,e⟩);refine wpAny_leaves_onW (base:=B) I.ok.frames rfl c λh' D M=>?_;have r:∀b∈frs outer,b∈frs (envOfC qual scope d.heap.objs.size f cd::outer):=λb a=>by
  obtain⟨env,h1,h2⟩:=cn.mp a;exact cn.mpr ⟨env,ar _ h1,h2⟩
 have m:∀b,b∉frs outer->b≠d.heap.objs.size->b∉frs (envOfC qual scope d.heap.objs.size f cd::outer):=λb h1 h2 G=>by
  obtain⟨env,u,y⟩:=cn.mp G;rcases aE.mp u with rfl|u
  .exact h2 (bG y).symm
  .exact h1 (cn.mpr ⟨env,u,y⟩)
 have j:Cov outer H' d.heap s'.heap B:=λb o F nb a=>by
  refine i b o F (m b nb λz=>?_) ?_
  .subst z;rcases a with a|⟨o',a⟩
   .exact a g.free
   .exact absurd (aI a) (cj _)
  .rcases a with a|⟨o',a⟩
   .exact .inl a
   .exact .inr (I.base.there b o' a (λz=>nomatch z))
 obtain⟨U2,t,k⟩:=a3c (P:=P) (w:=w) (l:=outer) (H:=v) (H':=H') (h0:=d.heap) (h1:=s'.heap) (h2:=h') g.base n j D.1 M g.funs λb a=>g.stkFree b (r b a);exact⟨p,C,H',B,a0,rfl,g.os,x,U2,t,L,D,k,q⟩
theorem b4X{P:Program}{w:World}{K:PySem.W.Frag}{mg:Str->Option Value}{base:Heap}{N:List Str}{qual:Str}{scope:Scope}{f:Addr}{cd:Value}{A:Around}{outer:List Env}{b:Shared}{a:Hp}{E:XK}
  {k:Nat}{ps:List Str}{sp:Sp}{x:Str}{e:Expr}{es:List Expr}{t:TA}{p pos:Pos}(O:OkE P w K mg base x k ps sp) (m:Room k (L6 (CXE P w) P w K mg base N qual scope f cd A outer b a E).A) (l:Gl (L6 (CXE P w) P w K mg base N qual scope f cd A outer b a E) x)
  (i:JA (L6 (CXE P w) P w K mg base N qual scope f cd A outer b a E) (e::es) t) (c:(x==("__debug__" : Str))=false:=by decide)
  (j:starEach (e::es) (L6 (CXE P w) P w K mg base N qual scope f cd A outer b a E).env=(false,eval e (L6 (CXE P w) P w K mg base N qual scope f cd A outer b a E).env)::starEach es (L6 (CXE P w) P w K mg base N qual scope f cd A outer b a E).env:=by rfl)
  (d:(backTo pos (starEach es (L6 (CXE P w) P w K mg base N qual scope f cd A outer b a E).env)).any (·.1)=false:=by rfl) :
  JE (L6 (CXE P w) P w K mg base N qual scope f cd A outer b a E) (.Call (.Name x p) (e::es) [] pos) (a7R sp [] E t):=by
 obtain⟨n,fd,h1,h2,g,h⟩:=O.ex;exact⟨a8r h m l h1 h2 g .nil b8x i.h c j d⟩
theorem Its.put{H:Hp}{vs:List V}{rss:LLI}{c:Addr}{xs:List V}{o:HO}(h:Its H vs rss)(b:H c=some (.lst xs)):Its (upd H c o) vs rss:=⟨h.1,λi v e=>let ⟨r,e1,a,e2,q⟩:=h.2 i v e;⟨r,e1,a,e2,by rw[A5 (K0 q b (by intro z;cases z))];exact q⟩⟩
open _root_.HT
section
variable {prog:Program}{w:World}{A:Around}{E:Value->Shared->Prop}{s:Shared}
theorem a7B(n:Nat):Builtin.Slice.sliceAdjust none none (-1) (n:Int)=((n:Int)-1,-1):=by
 unfold Builtin.Slice.sliceAdjust;have h1:((-1:Int)<0):=by omega
 simp only[h1,ei]
theorem a6Z(n:Nat):Builtin.Slice.slicePlaces ((n:Int)-1) (-1) (-1)=n:=by
 unfold Builtin.Slice.slicePlaces;have h1:¬((-1:Int) > 0):=by omega
 simp only[h1,fW,Int.neg_neg,Int.ediv_one];split<;>omega
theorem a0U{sl:Addr}{t:Tok}{n:Nat}{Q:Int×Int×Nat->Shared->Prop}(hs:s.heap.IsSliceOf sl .none .none (.int (-1) t))
  (h:Q ((n:Int)-1,-1,n) s):wpAny (model prog w) A (Builtin.Slice.sliceApplied (.ref sl) (pure (n:Int))) Q E s:=by
 obtain⟨os,b,c,a⟩:=id hs;unfold Builtin.Slice.sliceApplied Builtin.Slice.sliceFields;refine aa (aa (cy b a (x:=.none) rfl (aa (cy b a (x:=.none) rfl (aa (cy b a (x:=.int (-1) t) rfl (ae ?_)))))));refine aa (slicePart_int ?_);show wpAny _ _ (if ((-1:Int)==0)=true then _ else _) _ _ s;rw[aq (by decide)];refine aa (slicePart_none (aa (slicePart_none (aa (ae ?_)))));show wpAny _ _ (match Builtin.Slice.sliceAdjust none none (-1) (n:Int)with | (lo,hi)=>pure (lo,(-1:Int),Builtin.Slice.slicePlaces lo hi (-1))) _ _ s;rw[a7B n];show wpAny _ _ (pure ((n:Int)-1,(-1:Int),Builtin.Slice.slicePlaces ((n:Int)-1) (-1) (-1))) _ _ s;rw[a6Z];exact ae h
theorem a6k{α β:Type}{f g:α->Option β}:∀(l:List α),(∀m∈l,f m=g m)->l.filterMap f=l.filterMap g
 |[],_=>rfl
 |a::l,h=>by
  rw[dZ,dZ,h a (au ..),a6k l λm b=>h m (ar _ b)]
theorem b1M(xs:Array Value):((List.range xs.size).filterMap λ(m:Nat)=>xs[(((xs.size:Int)-1)+(m:Int)*(-1)).toNat]?).toArray=xs.toList.reverse.toArray:=by
 congr 1;have e:∀m∈List.range xs.size,xs[(((xs.size:Int)-1)+(m:Int)*(-1)).toNat]?=some (xs.toList.reverse.getD m .none):=λm c=>by
  have a:m<xs.size:=aW.mp c;have b:(((xs.size:Int)-1)+(m:Int)*(-1)).toNat=xs.size-1-m:=by omega
  rw[b,ak,List.getElem?_reverse (by simpa using a),ay,av,bD (by omega)];rfl
 rw[a6k _ e];rw[show(List.range xs.size).filterMap (λm=>some (xs.toList.reverse.getD m .none))=(List.range xs.size).map (λm=>xs.toList.reverse.getD m .none)from congrFun (List.filterMap_eq_map (f:=λm=>xs.toList.reverse.getD m .none)) _];refine fc (by simp) λi h1 h2=>?_;simp only[List.getElem_map,List.getElem_range];rw[ak,ai h2];rfl
theorem a0J{t sl:Addr}{items:Array Value}{tk:Tok}{Q:Value->Shared->Prop}(b:IsTup s.heap t items)(hs:s.heap.IsSliceOf sl .none .none (.int (-1) tk))
  (h:Q (.ref s.heap.objs.size) {s with heap:=s.heap.push {cls:=.type "tuple",data:=.seq items.toList.reverse.toArray}})
  (g:items.size<=sizeLine):wpAny (model prog w) A (getItem (.ref t) (.ref sl)) Q E s:=by
 have a:sizeOk (.seq items.toList.reverse.toArray):=by
  show items.toList.reverse.toArray.size<=sizeLine;rw[aB,List.length_reverse,ay];exact g
 obtain⟨os,f,d,i⟩:=id hs;have c:s.TypeIs (.ref sl) "slice":=⟨os,f,d⟩;unfold getItem
 try with_reducible refine b_ ?_
 first|refine aa (ae ?_)|skip
 refine aa (wpAny_sequenceKey b.typeIs (by decide) ?_);refine aa (bJ (name:=Str.ofString "__getitem__") b.typeIs bI
  (bM bI b.typeIs entry_tuple_getitem ?_ (args_tuple_getitem _ _)))
 show wpAny _ _ (Builtin.Tuple.tupleItemsOf (.ref t)>>=_) _ _ s;refine aa (tupleItemsOf_ b ?_);refine aa (eS c ?_);rw[az (by decide)];refine aa (a0U hs ?_);have e:¬((((items.size:Int)-1)==0 && (-1:Int)==1 && items.size==items.size)=true):=by
  intro q;rw[aV,aV]at q;exact absurd q.1.2 (by decide)
 show wpAny _ _ (if ((((items.size:Int)-1)==0 && (-1:Int)==1 && items.size==items.size))=true then _ else _) _ _ s;rw[aq e,b1M]
 first
  |exact aa (m:=Builtin.Tuple.tupleExact _) (bt (ae ⟨_,rfl,ae h⟩) a)
  |exact aa (m:=Builtin.Tuple.tupleExact _) (bt (aa (ae (ae ⟨_,rfl,ae h⟩))) a)
  |exact aa (aa (m:=Builtin.Tuple.tupleExact _) (bt (ae (ae ⟨_,rfl,ae h⟩)) a))
  |exact aa (aa (m:=Builtin.Tuple.tupleExact _) (bt (ae ⟨_,rfl,ae h⟩) a))
theorem Z6{t sl:Addr}{items:Array Value}{e f:Value}{lo hi:Option Int}{Q:Value->Shared->Prop}(a:IsTup s.heap t items)(hs:s.heap.IsSliceOf sl e f .none)(pl:IsPart e lo)(i:IsPart f hi)
  (hw:sIx items.size 0 lo=0/\sIx items.size items.size hi=items.size) (h:Q (.ref t) s):wpAny (model prog w) A (getItem (.ref t) (.ref sl)) Q E s:=by
 obtain⟨os,d,c,g⟩:=id hs;have b:s.TypeIs (.ref sl) "slice":=⟨os,d,c⟩;unfold getItem
 try with_reducible refine b_ ?_
 first|refine aa (ae ?_)|skip
 refine aa (wpAny_sequenceKey a.typeIs (by decide) ?_);refine aa (bJ (name:=Str.ofString "__getitem__") a.typeIs bI
  (bM bI a.typeIs entry_tuple_getitem ?_ (args_tuple_getitem _ _)))
 show wpAny _ _ (Builtin.Tuple.tupleItemsOf (.ref t)>>=_) _ _ s;refine aa (tupleItemsOf_ a ?_);refine aa (eS b ?_);rw[az (by decide)];refine aa (R9 hs pl i ?_);rw[hw.1,hw.2];show wpAny _ _ (if ((((0:Nat):Int)==0 && (1:Int)==1 && (items.size-0)==items.size))=true then _ else _) _ _ s;rw[az (by simp)];refine aa (aa (eS a.typeIs (ae ?_)));rw[az (by decide)];exact aa (fK (ae ⟨_,rfl,ae h⟩))
end
section
variable {X:Cx}{e:Expr}{te:TE}{lo hi:Option Expr}{tl th:TO}{pos p2:Pos}
def b6k(K:PySem.W.Frag):V->Option Int->Option Int->Hp->VK->Prop:=λx lo hi H Q=>∃a xs,x=.ref a/\SqT K H a xs /\
 ((HT.sIx xs.length 0 lo=0/\HT.sIx xs.length xs.length hi=xs.length)->Q (.ref a) H)/\(¬(HT.sIx xs.length 0 lo=0/\HT.sIx xs.length xs.length hi=xs.length)->∀p,H p=none->Q (.ref p) (upd H p (.tup (P5 xs lo hi))))
theorem b3M(K:PySem.W.Frag)(i:X.K=K):SlR X (b6k K):=by
 subst i;intro pins s σ H x v l m lo hi sl Q I g hs e f h;obtain⟨a,xs,rfl,d,j,k⟩:=h;by_cases hw:HT.sIx xs.length 0 lo=0/\HT.sIx xs.length xs.length hi=xs.length
 .cases g;obtain⟨its,r,c,n⟩:=I.tuple d;have b:its.toArray.size=xs.length:=by rw[aB];exact r.length.symm
  refine⟨"tuple",_,bI.lookup,c.typeIs,?_⟩;exact Z6 c hs e f (by rw[b];exact hw) ⟨.ref a,H,I,rfl,j hw⟩
 .exact b1b pins s σ H (.ref a) v l m lo hi sl Q I g hs e f ⟨a,xs,rfl,d,hw,k hw⟩
theorem b8I(K:PySem.W.Frag)(b:JE X e te)(c:JO X lo tl)(d:JO X hi th)(a:X.K=K:=by rfl):JE X (.Subscript e (.Slice lo hi none p2) pos) (tSl (b6k K) te tl th):=⟨a2y (b3M K a) b.h c.h d.h⟩
def b8b(K:PySem.W.Frag)(te ts:TE):TE:=λσ H Q=>te σ H λx H1=>ts σ H1 λy H2=>y=.int (-1)/\∃a xs,x=.ref a/\SqT K H2 a xs/\∀p,H2 p=none->Q (.ref p) (upd H2 p (.tup xs.reverse))
theorem b2J(K:PySem.W.Frag){st:Expr}{j:TE}(p:JE X e te)(hs:JE X st j)(n:X.K=K:=by rfl):JE X (.Subscript e (.Slice none none (some st) p2) pos) (b8b K te j):=by
 subst n;refine⟨λpins s σ H Q I h=>?_⟩;refine Subscript_ (thn (p.h pins s σ H _ I h) λv s1 ⟨x,H1,l,B,z⟩=>?_);refine wpAny_Slice ?_;rw[evalPart_none];refine ae ?_;refine ae ?_;rw[evalPart_some];refine thn (hs.h pins s1 σ H1 _ l z) λu c ⟨y,k,m,C,A⟩=>?_;obtain⟨rfl,a,xs,rfl,t,q⟩:=A;obtain⟨tk,rfl⟩:=C;cases B;have f:Inv X pins σ k {c with heap:=c.heap.push {cls:=.type "slice",data:=.fields #[.none,.none,.int (-1) tk]}}:=m.kept (t':=c.toks) λb w q=>ag _ q;obtain⟨its,r,g,i⟩:=f.tuple t;have d:its.toArray.size=xs.length:=by rw[aB];exact r.length.symm
 show wpAny (model X.prog X.w) X.A (subscriptTail e (.Slice none none (some st) p2) (.ref a) (.ref c.heap.objs.size)) (EP X pins σ Q) X.xe {c with heap:=c.heap.push {cls:=.type "slice",data:=.fields #[.none,.none,.int (-1) tk]}};refine tail_any (ops:=[.ref a,.ref c.heap.objs.size]) g.typeIs bI.lookup ?_ (by with_unfolding_all rfl);refine a0J g (Heap.IsSliceOf.new ..) ?_ (by rw[d];exact i);refine⟨.ref _,_,f.laid (t':=c.toks) (o:=.tup xs.reverse) (λb w q=>ag _ q) (ao _) ?_,rfl,q _ (f.hok.fresh (ao _))⟩;exact⟨by rw[List.length_reverse];exact i,_,r.reverse,IsTp.new _ _⟩
theorem a6L(l:Addr)(items:Array Value)(n:Nat)(dd:Option Addr)(sl:Array (Option Value))(u:Tok)(a:items.isEmpty=false) :
  Meets (Builtin.«tuple.__mul__» ⟨[.ref l,.int 0 u],[]⟩) (λ_ R s=>s.heap.get? l=some {cls:=.type "tuple",dict:=dd,data:=.seq items n,slots:=sl}/\R (.ok (.ret (.ref s.heap.objs.size))) {s with heap:=s.heap.push {cls:=.type "tuple",data:=.seq #[]}}) :=
 .of_wp λprog w A R s h=>by
  obtain⟨e,g,d,tk,os⟩:=s;obtain⟨b,h⟩:=h;have f1:=AutoSeq1.idx_int;have c:¬((items.isEmpty || (0:Int)==1)=true):=by rw[a];decide
  wp_walk using PySem.AutoSeq1.wpAny_loadPart' b
  exact⟨_,rfl,h⟩
def b5I:R2:=λx y H Q=>∃a xs n,x=.ref a/\y=.int n/\H a=some (.tup xs)/\xs≠[]/\0<=n/\(xs.length:Int)*n<=(sizeLine:Int)/\∀p H',Same H H'->H' p=some (.tup (List.replicate n.toNat xs).flatten)->Q (.ref p) H'
theorem b4z:OpR X (binaryOp .Mult) b5I:=by
 intro pins s σ H x y v u Q I l p h;obtain⟨a,xs,n,rfl,rfl,j,g,D,B,q⟩:=h;by_cases w:n=0
 .subst w;cases l;obtain⟨t,rfl⟩:=p;obtain⟨its,r,p1,C⟩:=I.tuple (.inl (.inl j));obtain⟨⟨cls,dd,data,sl⟩,i,k,m,hd⟩:=id p1;simp only at k hd;subst k hd;have f:=r.length;have d:0<its.length:=by rw[<-f];exact List.length_pos_iff.mpr g
  refine fm (T:="tuple") (U:="int") (by decide) ⟨_,i,rfl⟩ (λs'=>fJ s' 0 t) S1 F.fills_int_mul eC a0z F.slot_int_index.lookup
   (dn eC (fJ s 0 t) F.entry_int_rmul (F.args_int_rmul_2 _ _) (a2v 0 t a its.toArray m dd sl) ⟨i,rfl,⟨_,i,rfl⟩,?_⟩)
  refine dn fe ⟨_,i,rfl⟩ F.entry_tuple_mul (F.args_tuple_mul_2 _ _) (a6L a its.toArray m dd sl t (by simp;intro z;rw[z]at d;exact cj _ d)) ⟨i,?_⟩;have A:H s.heap.objs.size=none:=I.hok.fresh (ao _);refine⟨.ref s.heap.objs.size,_,I.laid (t':=s.toks) (o:=.tup []) (λb E q=>ag _ q) (ao _) ?_,rfl,q _ _ (λc o e=>by rw[A5 (A6 e A)];exact e) A1⟩;exact⟨bp _,[],.nil,IsTp.new _ _⟩
 .exact a8t pins s σ H (.ref a) (.int n) v u Q I l p ⟨a,xs,n,rfl,rfl,j,g,by omega,B,q⟩
theorem a4N{a b:Expr}{ta tb:TE}(c:JE X a ta)(d:JE X b tb):JE X (.BinOp a .Mult b pos) (tOp b5I ta tb):=⟨V8 b4z c.h d.h⟩
def b6o(K:PySem.W.Frag)(neg:Bool):R2:=λx y H Q=>∃(a p:Addr) (ns:List Int) (k:Bool) (vs:List V) (rss:LLI),x=.ref a/\H a=some (.tup (ns.map V.int))/\y=.ref p/\SqK k K H p vs/\Its H vs rss/\Q (.bl (if neg then !decide (ns∈rss)else decide (ns∈rss))) H
noncomputable def eqI(H:Hp)(ns:List Int):Value->Bool
 |.ref b=>match H b with|some (.tup xs)=>decide (xs=ns.map V.int)|_=>false
 |_=>false
theorem a6d{a b:List Int}:a.map V.int=b.map V.int↔a=b:=by
 constructor
 .intro h;induction a generalizing b with
  |nil=>cases b with
   |nil=>rfl
   |cons _ _=>cases h
  |cons x a c=>cases b with
   |nil=>cases h
   |cons y b =>
    rw[aP,aP]at h;injection h with h1 h2
    injection h1 with h1
    rw[h1,c h2]
 .rintro rfl;rfl
theorem a4V{H:Hp}{ns q:List Int}{b:Addr}(a:H b=some (.tup (q.map V.int))):eqI H ns (.ref b)=decide (q=ns):=by
 show(match H b with|some (.tup xs)=>decide (xs=ns.map V.int)|_=>false)=_;rw[a];exact decide_eq_decide.mpr a6d
theorem a2f{H:Hp}{ns:List Int}{vs:List V}{rss:LLI}{us:List Value}(h:Its H vs rss)(r:Vals vs us):us.any (eqI H ns)=decide (ns∈rss):=by
 rw[cY,cv,bY];constructor
 .rintro⟨u,hu,e⟩;obtain⟨i,hi,rfl⟩:=bC.mp hu;have k:=r.length;obtain⟨y,c⟩:∃y,vs[i]?=some y:=⟨vs[i],ai (by omega)⟩;obtain⟨q,eq,b,rfl,g⟩:=h.2 i y c;obtain⟨j,d,f⟩:=r.get c;rw[ai hi]at d;cases d;have a:us[i]=.ref b:=f;rw[a]at e;rw[a4V g]at e;have:=bO e;subst this;exact aF eq
 .intro hm;obtain⟨i,hi,rfl⟩:=bC.mp hm;obtain⟨y,c⟩:∃y,vs[i]?=some y:=⟨vs[i]'(by rw[h.1];exact hi),ai (by rw[h.1];exact hi)⟩;obtain⟨q,eq,b,rfl,g⟩:=h.2 i y c;rw[ai hi]at eq;cases eq;obtain⟨j,d,f⟩:=r.get c;have a:j=.ref b:=f;subst a;refine⟨_,aF d,?_⟩;rw[a4V g];exact bh rfl
theorem a1Z{A:Around}{H:Hp}{s:Shared}{pins:List (Addr×Obj)}{σ:St}{a:Addr}{ns:List Int}{vs:List V}{rss:LLI}{us:List Value}(m:A.units+1<cLine)(I:Inv X pins σ H s)(l:H a=some (.tup (ns.map V.int)))(h:Its H vs rss)(r:Vals vs us):∀u∈us,SeqAt.EqAt A s u (.ref a) (eqI H ns u):=by
 intro u d;obtain⟨i,hi,rfl⟩:=bC.mp d;have n:=r.length;obtain⟨y,g⟩:∃y,vs[i]?=some y:=⟨vs[i],ai (by omega)⟩;obtain⟨q,eq,b,rfl,f⟩:=h.2 i y g;obtain⟨o,e,j⟩:=r.get g;rw[ai hi]at e;cases e;have c:us[i]=.ref b:=j;rw[c];rw[a4V f];exact(EqV.ints (K:=X.K) (k:=true) (SqT.of f) (SqT.of l)).at I m rfl rfl
theorem b8T(K:PySem.W.Frag)(j:X.A.units+60<cLine)(f:X.K=K:=by rfl):OpR X (compareOp .In) (b6o K false):=by
 subst f;intro pins s σ H x y v u Q I g i h;obtain⟨a,p,b,k,vs,rss,rfl,d,rfl,e,c,q⟩:=h;cases g;cases i;cases k
 .obtain⟨its,r,pl,hz⟩:=I.list e;refine SeqAt.in_listAt (eqI H b) pl.isList (λw hw=>a1Z (by have:X.A.in1.units=X.A.units+1:=rfl;omega) I d c r w (by simpa using hw)) ⟨.bl _,H,I,rfl,?_⟩;rw[show its.toArray.any (eqI H b)=its.any (eqI H b) by simp,a2f c r];exact q
 .obtain⟨its,r,pl,hz⟩:=I.tuple e;refine SeqAt.in_tupleAt (eqI H b) pl (λw hw=>a1Z (by have:X.A.in1.units=X.A.units+1:=rfl;omega) I d c r w (by simpa using hw)) ⟨.bl _,H,I,rfl,?_⟩;rw[show its.toArray.any (eqI H b)=its.any (eqI H b) by simp,a2f c r];exact q
theorem a9D(K:PySem.W.Frag)(j:X.A.units+60<cLine)(f:X.K=K:=by rfl):OpR X (compareOp .NotIn) (b6o K true):=by
 subst f;intro pins s σ H x y v u Q I g i h;obtain⟨a,p,b,k,vs,rss,rfl,d,rfl,e,c,q⟩:=h;cases g;cases i;cases k
 .obtain⟨its,r,pl,hz⟩:=I.list e;refine SeqAt.notIn_listAt (eqI H b) pl.isList (λw hw=>a1Z (by have:X.A.in1.units=X.A.units+1:=rfl;omega) I d c r w (by simpa using hw)) ⟨.bl _,H,I,rfl,?_⟩;rw[show its.toArray.any (eqI H b)=its.any (eqI H b) by simp,a2f c r];exact q
 .obtain⟨its,r,pl,hz⟩:=I.tuple e;refine SeqAt.notIn_tupleAt (eqI H b) pl (λw hw=>a1Z (by have:X.A.in1.units=X.A.units+1:=rfl;omega) I d c r w (by simpa using hw)) ⟨.bl _,H,I,rfl,?_⟩;rw[show its.toArray.any (eqI H b)=its.any (eqI H b) by simp,a2f c r];exact q
theorem a9U(K:PySem.W.Frag){a b:Expr}{ta tb:TE}(g:X.A.units+60<cLine)(d:JE X a ta)(e:JE X b tb)(f:behindInMarks .NotIn b=false)(c:X.K=K:=by rfl):JT X (.Compare a [.NotIn] [b] pos) (V4 (tOp (b6o K true) ta tb)):=⟨N4 (a9D K g c) d.h e.h f⟩
end
end L2
namespace L2
open PySem PySem.Spec PyProof.Rows
section
variable {X:Cx}
end
section
variable {X:Cx}
def b8q:RL:=λxs H Q=>∃i:Int,xs=[.int i]/\Q (.int (if i<0 then -i else i)) H
theorem b0y:E2 X (.builtin "abs") b8q:=by
 intro pins s σ H xs c Q I b h;obtain⟨i,rfl,q⟩:=h;obtain⟨u,rfl,a⟩:=b.one;obtain⟨t,rfl⟩:=a;exact call_abs_int λu tk=>⟨.int _,H,I.tok tk,⟨u,rfl⟩,q⟩
theorem b2I{e:Expr}{es:List Expr}{t:TA}{p pos:Pos}(d:Gl X "abs")(f:X.mg "abs"=none)(b:JA X (e::es) t)(c:starEach (e::es) X.env=(false,eval e X.env)::starEach es X.env:=by rfl)(a:(backTo pos (starEach es X.env)).any (·.1)=false:=by rfl):JE X (.Call (.Name "abs" p) (e::es) [] pos) (tCB b8q t):=⟨E7 b0y d f b7M b.h (by decide) (by decide) c a⟩
def b5J(K:PySem.W.Frag):RL:=λxs H Q=>∃(k:Bool) (p:Addr) (ns:List Int),xs=[.ref p]/\SqK k K H p (ns.map V.int)/\0<ns.length/\∀M,M∈ns->(∀a∈ns,a<=M)->Q (.int M) H
theorem b0q(K:PySem.W.Frag)(D:X.calm=true)(B:X.K=K:=by rfl):E2 X (.builtin "max") (b5J K):=by
 subst B;intro pins s σ H xs R Q I M h;obtain⟨k,p,c,rfl,hs,O,q⟩:=h;obtain⟨u,rfl,L⟩:=M.one;cases L;obtain⟨its,y,m,P⟩:=I.sqk hs;have x:=y.length;rw[aj]at x;have E:X.A.in1.handled=none:=I.ok.hd D;have d:∀i v,its.toArray[i]?=some v->∃t,v=Value.int (c.getD i 0) t:=λi v r=>by
  have g:its[i]?=some v:=by simpa using r
  obtain⟨hi,_⟩:=aH.mp g;have J:(c.map V.int)[i]?=some (.int c[i]):=by rw[aQ,ai (by omega)];rfl
  obtain⟨S,w,t,A⟩:=y.get J;rw[g]at w;cases w;exact⟨t,by rw[A,ak,ai (by omega)];rfl⟩
 refine call_max_walk (R8 m ?_);refine⟨s.heap.objs.size,_,_,_,_,_,_,rfl,a0o (k:=k) (l:=p) (items:=its.toArray) E (a0C m),a4R m,λb f=>?_,?_,CmpOf.ints_gt (λi=>c.getD i 0) d,λv h' tk r F=>?_⟩
 .rw[bu];obtain⟨o,e⟩:=m.get;have n:=aI e;simp only[aE,bz,cN]at f;rcases f with rfl|rfl
  .exact bQ _
  .exact bX n
 .rw[aB];omega
 .obtain⟨t,rfl⟩:=d _ _ r;obtain⟨N,z⟩:=argBest_gt (λi=>c.getD i 0) (its.toArray.size-1);have G:its.toArray.size=c.length:=by rw[aB];exact x.symm
  have f:argBest (λi j=>decide (c.getD i 0 > c.getD j 0)) (its.toArray.size-1)<c.length:=by omega
  refine⟨.int _,H,I.kept (t':=tk) (a0D F),⟨t,rfl⟩,q _ ?_ λa C=>?_⟩
  .rw[ak,ai f];exact cz f
  .obtain⟨i,hi,rfl⟩:=bC.mp C;have:=z i (by omega);have e:c.getD i 0=c[i]:=by rw[ak,ai hi];rfl
   rw[<-e];exact this
theorem b4T(K:PySem.W.Frag){e:Expr}{t:TA}{p pos:Pos}(g:Gl X "max")(h:X.mg "max"=none)(c:JA X [e] t)(d:X.calm=true:=by rfl)(b:X.K=K:=by rfl)(f:starEach [e] X.env=(false,eval e X.env)::starEach [] X.env:=by rfl)(a:(backTo pos (starEach [] X.env)).any (·.1)=false:=by rfl):JE X (.Call (.Name "max" p) [e] [] pos) (tCB (b5J K) t):=⟨E7 (b0q K d b) g h b7J c.h (by decide) (by decide) f a⟩
end
section
variable {prog:Program}{w:World}{A:Around}{E:Value->Shared->Prop}{s:Shared}{k:Bool}
end
section
variable {X:Cx}
end
section
variable {M:Model}{A:Around}{E:Value->Shared->Prop}
end
section
variable {X:Cx}{k:Nat}{ps:List Str}{sp:Sp}{x:Str}{p pos cpos:Pos}{e:Expr}{es:List Expr}{t:TA}
end
section
variable (P:Program) (w:World)
end
section
variable {P:Program}{w:World}{H H':Hp}{h h':Heap}{a:Addr}{o:HO}
end
section
variable {P:Program}{w:World}{H:Hp}{h h':Heap}{x e:Addr}{o':HO}
end
section
variable {fs fs' ex ex':List Addr}{H H1 H2:Hp}{h h1 h2 h':Heap}{a x e:Addr}{o:HO}
end
section
variable {X:Cx}{pins:List (Addr×Obj)}{σ:List (Option V)}{H H':Hp}{s:Shared}{h':Heap}
end
section
variable {X:Cx}
variable {a b:Expr}{ta tb:TE}{pos:Pos}
variable {tA tB':TT}{rest:List Expr}
end
section
variable {X:Cx}{pins:List (Addr×Obj)}{σ:St}{H:Hp}{s:Shared}{a:Addr}{xs ys:List V}
end
section
variable {X:Cx}{pins:List (Addr×Obj)}{σ:St}{H:Hp}{s:Shared}{E:Value->Shared->Prop}
end
section
variable {X:Cx}{st:Stmt}{rest:List Stmt}{t u:TS}{e:Expr}{te:TE}{pos:Pos}
end
section
variable {X:Cx}{pos:Pos}
end
section
variable {X:Cx}{tg:Expr}
end
section
variable {X:Cx}{a b c:Expr}{ta tb tc:TE}{pos:Pos}
end
section
variable {prog:Program}{w:World}{A:Around}{E:Value->Shared->Prop}{s:Shared}{K:PySem.W.Frag}{x dx C f:Addr}{mA:Str->Option Value}{name:Str}{v:Value}
end
section
variable {P:Program}{w:World}{H H':Hp}{h h':Heap}{a C dx:Addr}{fs fs':List (Str×V)}
end
section
variable {X:Cx}{pins:List (Addr×Obj)}{σ:St}{H:Hp}{s:Shared}{a C dx:Addr}{fs:List (Str×V)}{f:Str}{v:V}{A:Around}{E:Value->Shared->Prop}
end
section
variable {X:Cx}{o e value:Expr}{f:Str}{pos pos' tpos:Pos}{ta tv:TE}
end
section
variable {X:Cx}{pins:List (Addr×Obj)}{σ:St}{H:Hp}{s:Shared}{A:Around}{E:Value->Shared->Prop}{Q:Value->Shared->Prop}{c:Value}{b:Bool}
end
section
variable {X:Cx}{e:Expr}{es:List Expr}{te:TE}{t:TA}{pos:Pos}
end
section
variable {X:Cx}{pins:List (Addr×Obj)}{σ:St}{H:Hp}{s s':Shared}
end
section
variable {X:Cx}{CX:CXT}{k:Nat}{f C:Addr}{fd:FuncData}{ps:List Str}{sp:Sp}{dvs:List V}{ds:List Value}{E:XK}{x m:Str}{p pos apos:Pos}{e o:Expr}{es:List Expr}{ta:TE}{t:TA}
end
section
variable {X:Cx}{CX:CXT}{k:Nat}{f C:Addr}{fd:FuncData}{ps ks:List Str}{sp:Sp}{E:XK}{x m:Str}{p pos apos kpos:Pos}{e o:Expr}{es:List Expr}{kws:List Keyword}{te ta:TE}{t tk:TA}{nm:Option Str}
variable {g:List Value->List Value->List Value}{gV:List V->List V->List V}
end
section
variable {X:Cx}{x:Str}{p pos:Pos}{e:Expr}{es:List Expr}{t:TA}{id T:String}{r:List V->Hp->VK->Prop}
end
section
variable {κ:Type} [DecidableEq κ]
noncomputable def J1(kvs:List (κ×V))(k:κ):Option V:=(kvs.find? λkv=>decide (kv.1=k)).map (·.2)
noncomputable def V3(kvs:List (κ×V))(k:κ)(v:V):List (κ×V) :=
 if (kvs.any λkv=>decide (kv.1=k))=true then kvs.map (λkv=>if kv.1=k then(kv.1,v)else kv)else kvs++[(k,v)]
theorem G8{p:κ×V}{r:List (κ×V)}{k:κ}(e:p.1=k):J1 (p::r) k=some p.2:=by simp[J1,eD,e]
theorem G9{p:κ×V}{r:List (κ×V)}{k:κ}(e:¬p.1=k):J1 (p::r) k=J1 r k:=by simp[J1,eD,e]
theorem O1(k:κ):∀kvs:List (κ×V),(kvs.any λa=>decide (a.1=k))=(J1 kvs k).isSome
 |[]=>rfl
 |p::r=>by
  rw[List.any_cons];by_cases e:p.1=k
  .simp only[G8 e,bh e,Bool.true_or,Option.isSome_some]
  .rw[G9 e,bT e,Bool.false_or];exact O1 k r
theorem a5p(k j:κ)(y:V):∀kvs:List (κ×V),J1 (kvs.map λa=>if a.1=k then(a.1,y)else a) j=(J1 kvs j).map λx=>if j=k then y else x
 |[]=>rfl
 |p::r=>by
  have b:=a5p k j y r;rw[aP];by_cases h:p.1=k
  .rw[az h];by_cases e:p.1=j
   .rw[G8 (p:=(p.1,y)) e,G8 e,fo,az (e.symm.trans h)]
   .rw[G9 (p:=(p.1,y)) e,G9 e,b]
  .rw[aq h];by_cases e:p.1=j
   .rw[G8 (p:=p) e,G8 e,fo,aq (λz=>h (e.trans z))]
   .rw[G9 (p:=p) e,G9 e,b]
theorem a3B(k j:κ)(y:V):∀kvs:List (κ×V),J1 kvs k=none->J1 (kvs++[(k,y)]) j=if j=k then some y else J1 kvs j
 |[],_=>by
  by_cases e:k=j
  .rw[az e.symm];exact G8 (p:=(k,y)) e
  .rw[aq (λz=>e z.symm)];exact G9 (p:=(k,y)) e
 |p::r,a=>by
  rw[ff];have b:¬p.1=k:=λz=>by rw[G8 z]at a;cases a
  rw[G9 b]at a;have c:=a3B k j y r a;by_cases e:p.1=j
  .rw[G8 e,G8 e,aq (λz=>b (e.trans z))]
  .rw[G9 e,G9 e,c]
theorem b0I(kvs:List (κ×V))(k j:κ)(y:V):J1 (V3 kvs k y) j=if j=k then some y else J1 kvs j:=by
 unfold V3;by_cases a:(kvs.any λb=>decide (b.1=k))=true
 .rw[az a,a5p];rw[O1]at a;by_cases e:j=k
  .obtain⟨x,hx⟩:=Option.isSome_iff_exists.mp a;rw[az e,e,hx,fo,az rfl]
  .rw[aq e];cases J1 kvs j with
   |none=>rfl
   |some x=>rw[fo,aq e]
 .rw[aq a];refine a3B k j y kvs ?_;rw[O1]at a;cases q:J1 kvs k with
  |none=>rfl
  |some x=>rw[q]at a;exact(a rfl).elim
theorem W1(kvs:List (κ×V))(k:κ)(v:V):(V3 kvs k v).length<=kvs.length+1:=by
 unfold V3;split
 .rw[aj];omega
 .rw[ax,aN,gc];omega
theorem a5N{kvs:List (κ×V)}{k:κ}(v:V)(h:J1 kvs k=none):V3 kvs k v=kvs++[(k,v)]:=by
 unfold V3;rw[O1,h];exact aq (by decide)
theorem RelO.isSome_eq{o:Option V}{u:Option Value}(r:RelO o u):o.isSome=u.isSome:=by
 cases o with
 |none=>cases u with
  |none=>rfl
  |some _=>exact(show False from r).elim
 |some _=>cases u with
  |none=>exact(show False from r).elim
  |some _=>rfl
theorem KV.val{kvs:List (κ×V)}{vs:List (κ×Value)}(r:KV kvs vs)(k:κ):RelO (J1 kvs k) (valueAt vs k):=by
 unfold KV at r;induction r with
 |nil=>exact True.intro
 |@cons p q ps qs h t a =>
  obtain⟨h1,h2⟩:=h;by_cases e:p.1=k
  .have e':q.1=k:=h1.symm.trans e;have b:valueAt (q::qs) k=some q.2:=by simp[valueAt,eD,e']
   rw[G8 e,b];exact h2
  .have e':¬q.1=k:=λz=>e (h1.trans z);have b:valueAt (q::qs) k=valueAt qs k:=by simp[valueAt,eD,e']
   rw[G9 e,b];exact a
theorem KV.any{kvs:List (κ×V)}{vs:List (κ×Value)}(r:KV kvs vs)(k:κ):(kvs.any λa=>decide (a.1=k))=vs.any λa=>decide (a.1=k):=by
 unfold KV at r;induction r with
 |nil=>rfl
 |cons h t b=>rw[List.any_cons,List.any_cons,b,h.1]
theorem KV.repl{kvs:List (κ×V)}{vs:List (κ×Value)}(r:KV kvs vs)(k:κ){y:V}{u:Value}(c:RelV y u) :
  KV (kvs.map λa=>if a.1=k then(a.1,y)else a) (vs.map λa=>if a.1=k then(a.1,u)else a):=by
 unfold KV at r⊢;induction r with
 |nil=>exact .nil
 |@cons p q ps qs h t b =>
  rw[aP,aP];refine .cons ?_ b;obtain⟨h1,h2⟩:=h;by_cases e:p.1=k
  .rw[az e,az (h1.symm.trans e)];exact⟨h1,c⟩
  .rw[aq e,aq (λz=>e (h1.trans z))];exact⟨h1,h2⟩
theorem KV.put{kvs:List (κ×V)}{vs:List (κ×Value)}(r:KV kvs vs)(k:κ){y:V}{u:Value}(a:RelV y u):KV (V3 kvs k y) (stored vs k u):=by
 unfold V3 stored;rw[r.any k];by_cases e:(vs.any λb=>decide (b.1=k))=true
 .rw[az e,az e];exact r.repl k a
 .rw[aq e,aq e];exact Paired.snoc r ⟨rfl,a⟩
theorem KV.length{kvs:List (κ×V)}{vs:List (κ×Value)}(r:KV kvs vs):kvs.length=vs.length:=Paired.length r
end
theorem a6j{P:Program}{w:World}{k:Key}{u:Value}(r:RelV (kV k) u):(E3 P w).is k u=true:=by
 cases k with
 |inl i=>obtain⟨t,e⟩:=(show ∃t,u=Value.int i t from r);subst e;exact a5Z P w i t
 |inr x=>obtain⟨t,e⟩:=(show ∃t,u=Value.str x t from r);subst e;exact a5Y P w x t
theorem a3O{P:Program}{w:World}:∀{ks:List Key}{us:List Value},Vals (ks.map kV) us->ItemsAre (E3 P w) ks us
 |[],_,r=>by rw[fz]at r;cases r;exact .nil
 |k::ks,_,r=>by
  rw[aP]at r;cases r with
  |cons h t=>exact .cons (a6j h) (a3O t)
abbrev KT(H:Hp):List (List Key×V)->List (List Key×Addr×Value)->Prop:=Paired λp q=>p.1=q.1/\H q.2.1=some (.tup (p.1.map kV))/\RelV p.2 q.2.2
theorem KT.val{H:Hp}{kvs:List (List Key×V)}{xs:List (List Key×Addr×Value)}(r:KT H kvs xs)(k:List Key):RelO (J1 kvs k) ((atKey xs k).map (·.2)):=by
 induction r with
 |nil=>exact True.intro
 |@cons p q ps qs h t a =>
  obtain⟨h1,_,h2⟩:=h;by_cases e:p.1=k
  .have e':q.1=k:=h1.symm.trans e;have b:atKey (q::qs) k=some q.2:=by simp[atKey,eD,e']
   rw[G8 e,b];exact h2
  .have e':¬q.1=k:=λz=>e (h1.trans z);have b:atKey (q::qs) k=atKey qs k:=by simp[atKey,eD,e']
   rw[G9 e,b];exact a
theorem KT.repl{H:Hp}{kvs:List (List Key×V)}{xs:List (List Key×Addr×Value)}(r:KT H kvs xs)(k:List Key){y:V}{u:Value}(d:RelV y u) :
  KT H (kvs.map λa=>if a.1=k then(a.1,y)else a) (xs.map (putAt k u)):=by
 induction r with
 |nil=>exact .nil
 |@cons p q ps qs h t c =>
  rw[aP,aP];refine .cons ?_ c;obtain⟨h1,h2,b⟩:=h;unfold putAt;by_cases e:p.1=k
  .rw[az e,az (h1.symm.trans e)];exact⟨h1,h2,d⟩
  .rw[aq e,aq (λz=>e (h1.trans z))];exact⟨h1,h2,b⟩
theorem KT.put{H:Hp}{kvs:List (List Key×V)}{xs:List (List Key×Addr×Value)}(r:KT H kvs xs)(k:List Key){b:Addr}{y:V}{u:Value}(c:H b=some (.tup (k.map kV)))(a:RelV y u) :
  KT H (V3 kvs k y) (storedH xs k b u):=by
 have e:(kvs.any λd=>decide (d.1=k))=(atKey xs k).isSome:=by
  rw[O1,(r.val k).isSome_eq,Option.isSome_map]
 unfold V3 storedH;rw[e];by_cases q:(atKey xs k).isSome=true
 .rw[az q,az q];exact r.repl k a
 .rw[aq q,aq q];exact Paired.snoc r ⟨rfl,c,a⟩
theorem KT.keeps{H H':Hp}{kvs:List (List Key×V)}{xs:List (List Key×Addr×Value)}(r:KT H kvs xs)(a:∀b ys,H b=some (.tup ys)->H' b=some (.tup ys)):KT H' kvs xs :=
 Paired.mapP r λ_ _ z=>⟨z.1,a _ _ z.2.1,z.2.2⟩
section
variable {P:Program}{w:World}{H:Hp}{h:Heap}{a:Addr}
theorem b5E{u:HO}(ok:HOk P w H h)(e:Rd H a u):ObjOk P w H h a u:=e.ok ok
theorem a3W{kvs:List (Key×V)}(ok:HOk P w H h)(e:Rd H a (.dK kvs)):kvs.length<=sizeLine/\(a==sysModules)=false/\∃vs,KV kvs vs/\h.DictOf (E3 P w) a vs :=
 show ObjOk P w H h a (.dK kvs)from b5E ok e
theorem b8N{kvs:List (Key×V)}(ok:HOk P w H h)(e:H a=some (.dK kvs)):kvs.length<=sizeLine/\(a==sysModules)=false/\∃vs,KV kvs vs/\h.DictOf (E3 P w) a vs:=a3W ok (.inl e)
theorem a1d{ks:List Key}(ok:HOk P w H h)(e:H a=some (.tup (ks.map kV))):(tupleKind (E3 P w)).is h ks a:=by
 obtain⟨_,its,r,o,h1,h2,n,b⟩:=(show ObjOk P w H h a (.tup (ks.map kV))from ok a _ e);exact⟨o,its.toArray,n,h1,aL Prod.fst h2,b,by simpa using a3O r⟩
theorem a3T{kvs:List (List Key×V)}(ok:HOk P w H h)(e:Rd H a (.dT kvs)):kvs.length<=sizeLine/\(a==sysModules)=false /\
  ∃xs,KT H kvs xs/\h.DictOfH (tupleKind (E3 P w)) a xs:=by
 obtain⟨z,y,xs,r,o,es,ep,h1,h2,d,f,g⟩:=(show ObjOk P w H h a (.dT kvs)from b5E ok e);refine⟨z,y,xs,r,o,es,ep,h1,h2,d,f,λx b=>?_,g⟩;have all:∀{l:List (List Key×V)}{m:List (List Key×Addr×Value)},KT H l m->∀x∈m,(tupleKind (E3 P w)).is h x.1 x.2.1:=by
  intro l m q;induction q with
  |nil=>intro x b;exact nomatch b
  |@cons p q ps qs c t i =>
   intro x b;rcases aE.mp b with e|b
   .subst e;exact a1d ok (by rw[<-c.1];exact c.2.1)
   .exact i x b
 exact all r x b
theorem b5W{kvs:List (List Key×V)}(ok:HOk P w H h)(e:H a=some (.dT kvs)):kvs.length<=sizeLine/\(a==sysModules)=false /\
  ∃xs,KT H kvs xs/\h.DictOfH (tupleKind (E3 P w)) a xs:=a3T ok (.inl e)
end
def DGet(H:Hp)(a:Addr)(y:V)(r:Option V):Prop :=
 (∃kvs k,Rd H a (.dK kvs)/\y=kV k/\r=J1 kvs k)∨∃kvs k b,Rd H a (.dT kvs)/\y=.ref b/\H b=some (.tup (k.map kV))/\r=J1 kvs k
def DPut(H:Hp)(a:Addr)(y v:V)(H':Hp):Prop :=
 (∃kvs k,H a=some (.dK kvs)/\y=kV k/\kvs.length<sizeLine/\H'=upd H a (.dK (V3 kvs k v))) ∨
 ∃kvs k b,H a=some (.dT kvs)/\y=.ref b/\H b=some (.tup (k.map kV))/\kvs.length<sizeLine/\H'=upd H a (.dT (V3 kvs k v))
theorem DGet.t{H:Hp}{a b:Addr}{kvs:List (List Key×V)}{k:List Key}(e:H a=some (.dT kvs))(c:H b=some (.tup (k.map kV))):DGet H a (.ref b) (J1 kvs k):=.inr ⟨kvs,k,b,.inl e,rfl,c,rfl⟩
theorem DPut.t{H:Hp}{a b:Addr}{kvs:List (List Key×V)}{k:List Key}{v:V}(e:H a=some (.dT kvs))(c:H b=some (.tup (k.map kV)))(d:kvs.length<sizeLine) :
  DPut H a (.ref b) v (upd H a (.dT (V3 kvs k v))):=.inr ⟨kvs,k,b,e,rfl,c,d,rfl⟩
section
variable {X:Cx}{pins:List (Addr×Obj)}{σ:St}{H:Hp}{s:Shared}{a:Addr}{y v:V}{u r:Value}{o:Option V}{A:Around}{E:Value->Shared->Prop}
theorem Inv.big(I:Inv X pins σ H s):sysModules<s.heap.objs.size:=by
 have h:mainGlobals<s.heap.objs.size:=(I.mod.glob.keeps I.bk).lt;exact gi (by decide) h
theorem b0k{Q:Value->Shared->Prop}(r:A.units+1<cLine)(I:Inv X pins σ H s)(g:DGet H a y (some v))(m:RelV y u)(h:∀f s',Inv X pins σ H s'->RelV v f->Q f s') :
  wpAny (model X.prog X.w) A (getItem (.ref a) u) Q E s:=by
 rcases g with⟨kvs,k,e,i,l⟩|⟨kvs,k,b,e,i,n,l⟩
 .subst i;obtain⟨z,hd,vs,c,dd⟩:=a3W I.hok e;obtain⟨f,hw,d⟩:=RelO.some_of (v:=v) (o:=valueAt vs k) (by rw[l];exact c.val k);exact wpAny_getItem_of (a6j m) dd.mapOf hw (h f _ (I.tok _) d)
 .subst i;cases(show u=Value.ref b from m);obtain⟨z,hd,xs,c,dd⟩:=a3T I.hok e;obtain⟨f,hw,d⟩:=RelO.some_of (v:=v) (o:=(atKey xs k).map (·.2)) (by rw[l];exact c.val k);obtain⟨p,q,j⟩:=eH.mp hw;refine wpAny_getItem_heap (eE r) (a1d I.hok n) dd q ?_;rw[j];exact h f _ (I.tok _) d
theorem b9c{Q:Value->Shared->Prop}(j:A.units+1<cLine)(I:Inv X pins σ H s)(g:DGet H a y o)(f:RelV y u)(h:∀s',Inv X pins σ H s'->Q (.bool o.isSome) s') :
  wpAny (model X.prog X.w) A (compareOp .In u (.ref a)) Q E s:=by
 rcases g with⟨kvs,k,e,d,l⟩|⟨kvs,k,b,e,d,i,l⟩
 .subst d;obtain⟨z,hd,vs,c,dd⟩:=a3W I.hok e;refine wpAny_in_of (a6j f) hd dd.mapOf ?_;rw[<-(c.val k).isSome_eq,<-l];exact h _ (I.tok _)
 .subst d;cases(show u=Value.ref b from f);obtain⟨z,hd,xs,c,dd⟩:=a3T I.hok e;refine wpAny_in_heap (eE j) (a1d I.hok i) hd dd ?_;have q:=(c.val k).isSome_eq;rw[Option.isSome_map]at q;rw[<-q,<-l];exact h _ (I.tok _)
theorem b5h{Q:Value->Shared->Prop}(j:A.units+1<cLine)(I:Inv X pins σ H s)(g:DGet H a y o)(f:RelV y u)(h:∀s',Inv X pins σ H s'->Q (.bool (!o.isSome)) s') :
  wpAny (model X.prog X.w) A (compareOp .NotIn u (.ref a)) Q E s:=by
 rcases g with⟨kvs,k,e,d,l⟩|⟨kvs,k,b,e,d,i,l⟩
 .subst d;obtain⟨z,hd,vs,c,dd⟩:=a3W I.hok e;refine wpAny_notIn_of (a6j f) hd dd.mapOf ?_;rw[<-(c.val k).isSome_eq,<-l];exact h _ (I.tok _)
 .subst d;cases(show u=Value.ref b from f);obtain⟨z,hd,xs,c,dd⟩:=a3T I.hok e;refine wpAny_notIn_heap (eE j) (a1d I.hok i) hd dd ?_;have q:=(c.val k).isSome_eq;rw[Option.isSome_map]at q;rw[<-q,<-l];exact h _ (I.tok _)
theorem a4W{h':Heap}{t':Nat}{c:HO}(I:Inv X pins σ H s)(g:Mut (H a))(hs:Heap.SameBut a s.heap h')(f:∃q,h'.get? a=some q)(new:ObjOk X.prog X.w (upd H a c) h' a c) :
  Inv X pins σ (upd H a c) {s with heap:=h',toks:=t'} :=
 I.write (x:=a) (e:=a) g (.inl rfl) (λb q d z=>(hs.2 b d).trans z) f new
theorem b7A{P:Program}{w:World}{H':Hp}{h':Heap}{kvs:List (Key×V)}{vs:List (Key×Value)}(z:kvs.length<=sizeLine)(hd:(a==sysModules)=false)(b:KV kvs vs)(dd:h'.DictOf (E3 P w) a vs) :
  ObjOk P w H' h' a (.dK kvs):=⟨z,hd,vs,b,dd⟩
theorem b0j{H':Hp}{Q:Unit->Shared->Prop}(G:A.units+1<cLine)(I:Inv X pins σ H s)(g:DPut H a y v H')(x:RelV y u)(w:RelV v r)(h:∀s',Inv X pins σ H' s'->Q () s') :
  wpAny (model X.prog X.w) A (setItem (.ref a) u r) Q E s:=by
 rcases g with⟨kvs,k,e,m,l,j⟩|⟨kvs,k,b,e,m,p,l,j⟩
 .subst m j;obtain⟨z,hd,vs,d,dd⟩:=b8N I.hok e;have o:vs.length<=sizeLine:=by rw[<-d.length];exact z
  have n:(V3 kvs k v).length<=sizeLine:=by have:=W1 kvs k v;omega
  refine wpAny_setItem_pairs (hsz:=o) (a6j x) dd λh' f hs=>h _ ?_;have F:∃q,h'.get? a=some q:=let ⟨q,_,_,i,_⟩:=f;⟨q,i⟩
  exact a4W I (by rw[e];exact True.intro) hs F (b7A n hd (d.put k w) f)
 .subst m j;cases(show u=Value.ref b from x);obtain⟨z,hd,xs,d,dd⟩:=b5W I.hok e;have o:xs.length<=sizeLine:=by rw[<-Paired.length d];exact z
  have n:(V3 kvs k v).length<=sizeLine:=by have:=W1 kvs k v;omega
  refine wpAny_setItem_heap (hsz:=o) (eE G) (a1d I.hok p) dd λh' f hs=>h _ ?_;obtain⟨q,es,ep,i,h2,B,C,_,D⟩:=f;refine a4W I (by rw[e];exact True.intro) hs ⟨q,i⟩ ⟨n,hd,_,(d.put k p w).keeps λc ys t=>?_,q,es,ep,i,h2,B,C,D⟩;rw[A5 (K0 t e (λz=>nomatch z))];exact t
end
section
variable {X:Cx}{pins:List (Addr×Obj)}{σ:St}{H:Hp}{s:Shared}{a:Addr}{kvs:List (Key×V)}{k:Key}{u:Value}{A:Around}{E:Value->Shared->Prop}
end
def b7T(i:Expr):Prop:=∀ov iv,subscripted i false ov iv=operate [ov,iv] (getItem ov iv)
theorem b3J{prog:Program}{w:World}{A:Around}{E:Value->Shared->Prop}{s:Shared}{env:Env}{value a:Expr}{pos:Pos}{T id:String}{Q:Value->Shared->Prop}
  (c:typeLookup (.type T) "__getitem__"=pure (some (.builtin id))) (hs:b7T a)
  (h:wpAny (model prog w) A (eval value env) (λo s₁=>wpAny (model prog w) A (eval a env) (λi s₂=>s₂.TypeIs o T/\wpAny (model prog w) A (getItem o i) Q E s₂) E s₁) E s) :
  wpAny (model prog w) A (eval (.Subscript value a pos) env) Q E s:=by
 refine Subscript_ (dE h (λo s₁ h₁=>dE h₁ (λi s₂ h₂=>?_) λ_ _ x=>x) λ_ _ x=>x);obtain⟨b,h₂⟩:=h₂;unfold subscriptTail;refine aa ?_;rw[getitemInPython_of_ne b.not_modules];refine aa (wpAny_specialOf b c ?_);have fin:wpAny (model prog w) A (subscripted a false o i) (λr s₃=>wpAny (model prog w) A (letTemporaryGo value o r>>=λ_=>pure r) Q E s₃) E s₂:=by
  rw[hs o i];exact wpAny_operating (dE h₂ (λr s₃ h₃=>aa (wpAny_letTemporaryGo (ae h₃))) λ_ _ x=>x)
 first
  |exact ae (aa fin)
  |exact aa (ae (aa fin))
  |exact aa fin
theorem a6v{X:Cx}{pins:List (Addr×Obj)}{σ:St}{H:Hp}{s:Shared}{a:Addr}{y:V}{o:Option V}(I:Inv X pins σ H s)(g:DGet H a y o):s.TypeIs (.ref a) "dict":=by
 rcases g with⟨kvs,k,e,_,_⟩|⟨kvs,k,b,e,_,_,_⟩
 .obtain⟨_,_,vs,_,dd⟩:=a3W I.hok e;exact dd.typeIs
 .obtain⟨_,_,xs,_,dd⟩:=a3T I.hok e;exact dd.typeIs
def b5y(td ty:TE):TE:=λσ H Q=>td σ H λx H1=>ty σ H1 λy H2=>∃a v,x=.ref a/\DGet H2 a y (some v)/\Q v H2
def b8h(ty td:TE):TE:=λσ H Q=>ty σ H λy H1=>td σ H1 λx H2=>∃a o,x=.ref a/\DGet H2 a y o/\Q (.bl o.isSome) H2
def a7Q(ty td:TE):TE:=λσ H Q=>ty σ H λy H1=>td σ H1 λx H2=>∃a o,x=.ref a/\DGet H2 a y o/\Q (.bl (!o.isSome)) H2
def b5D(td ty tv:TE):TS:=λD σ H=>tv σ H λv H1=>td σ H1 λx H2=>ty σ H2 λy H3=>∃a H4,x=.ref a/\DPut H3 a y v H4/\D.nx σ H4
section
variable {X:Cx}{o i e value:Expr}{pos pos' tpos:Pos}{td ty tv:TE}
theorem b4v(j:X.A.units+1<cLine)(f:PE X o td)(hi:PE X i ty)(hs:b7T i):PE X (.Subscript o i pos) (b5y td ty):=by
 intro pins s σ H Q I h;refine b3J PySem.F.slot_dict_getitem.lookup hs (thn (f pins s σ H _ I h) λu s1 ⟨x,H1,d,m,k⟩=>thn (hi pins s1 σ H1 _ d k) λp s2 ⟨y,H2,c,n,a,v,ex,g,l⟩=>?_);subst ex;obtain rfl:u=Value.ref a:=m;exact⟨a6v c g,b0k j c g n λr q e b=>⟨v,H2,e,b,l⟩⟩
theorem b6P(f:X.A.units+1<cLine)(hi:PE X i ty)(e:PE X o td):PC X .In i o (b8h ty td):=by
 intro pins s σ H Q I h;refine thn (hi pins s σ H _ I h) λp s1 ⟨y,H1,b,n,k⟩=>thn (e pins s1 σ H1 _ b k) λu s2 ⟨x,H2,c,m,a,j,ex,g,l⟩=>?_;subst ex;obtain rfl:u=Value.ref a:=m;exact b9c f c g n λq d=>⟨.bl j.isSome,H2,d,rfl,l⟩
theorem a9C(f:X.A.units+1<cLine)(hi:PE X i ty)(e:PE X o td):PC X .NotIn i o (a7Q ty td):=by
 intro pins s σ H Q I h;refine thn (hi pins s σ H _ I h) λp s1 ⟨y,H1,b,n,k⟩=>thn (e pins s1 σ H1 _ b k) λu s2 ⟨x,H2,c,m,a,j,ex,g,l⟩=>?_;subst ex;obtain rfl:u=Value.ref a:=m;exact b5h f c g n λq d=>⟨.bl (!j.isSome),H2,d,rfl,l⟩
theorem b4i(k:X.A.units+1<cLine)(j:PE X o td)(hi:PE X i ty)(l:PE X value tv)(hs:swapsWith value (some (.Subscript o i pos')) pos.line X.env=pure false) :
  PS X (.Assign [.Subscript o i pos'] value pos) (b5D td ty tv):=by
 intro pins s σ H D I h;refine wpAny_Assign_Subscript (thn (l pins s σ H _ I h) λr s1 ⟨v,H1,c,q,m⟩=>thn (j pins s1 σ H1 _ c m) λu s2 ⟨x,H2,d,t,n⟩=>thn (hi pins s2 σ H2 _ d n) λA B ⟨y,z,e,w,a,b,ex,g,p⟩=>?_) hs;subst ex;obtain rfl:u=Value.ref a:=t;exact b0j k e g w q λC f=>⟨σ,b,f,p⟩
end
theorem b3f{P:Program}{w:World}{H:Hp}(h:Heap)(a:sysModules<h.objs.size):ObjOk P w H (h.push {cls:=.type "dict",data:=.dict #[]}) h.objs.size (.dT []) :=
 ⟨bp _,cZ.mpr (dJ (aR a)),[],.nil,_,#[],0,aD _ rfl,⟨rfl,rfl,rfl⟩,rfl,rfl,eV⟩
def b0U:TE:=λ_ H Q=>∀p,H p=none->Q (.ref p) (upd H p (.dT []))
section
variable {X:Cx}{pos:Pos}
theorem b1T:PE X (.Dict [] [] pos) b0U:=λpins s σ H Q I h =>
 wpAny_Dict_empty ⟨.ref s.heap.objs.size,_,I.laid (a:=s.heap.objs.size) (o:=.dT []) (t':=s.toks) (λ_ _ q=>ag _ q) (ao _) (b3f s.heap I.big),rfl,h _ (I.hok.fresh (ao _))⟩
end
structure M2(X:Cx)(o:Expr)(m:Str)(apos:Pos)(e f:Expr)(cpos:Pos):Prop where
 base:attributeBase o m X.env (eval o X.env)=eval o X.env
 few:((backTo cpos (starEach [e,f] X.env)).all (λx=>!x.1) && (backToKw cpos (keywordEach [] X.env)).all (λx=>x.1.isSome)
  && decide (([e,f]:List Expr).length+([]:List Keyword).length+(if ([]:List Keyword).isEmpty then 0 else 1)<30))=true
 line:(apos.endLine==cpos.line)=true
 trees:backTo cpos (starEach [e,f] X.env)=[(false,eval e X.env),(false,eval f X.env)]
def IsD(H:Hp)(a:Addr):Prop:=(∃kvs,Rd H a (.dK kvs))∨∃kvs,Rd H a (.dT kvs)
theorem b7t{X:Cx}{pins:List (Addr×Obj)}{σ:St}{H:Hp}{s:Shared}{a:Addr}(I:Inv X pins σ H s)(d:IsD H a) :
  s.TypeIs (.ref a) "dict"/\(∀b,Value.ref a=.ref b->∃c,s.heap.get? b=some c/\c.dict=none)/\(a==sysModules)=false:=by
 rcases d with⟨kvs,e⟩|⟨kvs,e⟩
 .obtain⟨_,hd,vs,_,dd⟩:=a3W I.hok e;refine⟨dd.typeIs,λb q=>?_,hd⟩;cases q;obtain⟨c,_,_,h1,h2,_⟩:=dd;exact⟨c,h1,h2.2.1⟩
 .obtain⟨_,hd,xs,_,dd⟩:=a3T I.hok e;refine⟨dd.typeIs,λb q=>?_,hd⟩;cases q;obtain⟨c,_,_,h1,h2,_⟩:=dd;exact⟨c,h1,h2.2.1⟩
section
variable {X:Cx}{pins:List (Addr×Obj)}{σ:St}{H:Hp}{s:Shared}{a:Addr}{y d:V}{u r:Value}{o:Option V}{A:Around}{E:Value->Shared->Prop}
end
section
variable {X:Cx}{o e f:Expr}{apos cpos:Pos}{td ty tx:TE}
end
section
variable {X:Cx}{pins:List (Addr×Obj)}{σ:St}{H:Hp}{s:Shared}{a:Addr}{kvs:List (Key×V)}{A:Around}{E:Value->Shared->Prop}
end
section
variable {X:Cx}{pins:List (Addr×Obj)}{σ:St}{H:Hp}{s:Shared}{a:Addr}{y:V}{u:Value}{A:Around}{E:Value->Shared->Prop}
end
end L2
namespace Att
open PySem PySem.W PySem.Calls PyProof.Rows
section
variable {prog:Program}{w:World}{A:Around}{E:Value->Shared->Prop}{s:Shared}{K:Frag}
end
end Att
namespace L2
open PySem PySem.Spec PyProof.Rows
end L2
namespace L2
open PySem PySem.Spec PyProof.Rows
section
variable {P:Program}{w:World}{K:PySem.W.Frag}{mg:Str->Option Value}{base:Heap}
end
section
variable {X:Cx}
end
section
variable {κ:Type} [DecidableEq κ]
theorem a5o{kvs:List (κ×V)}{k:κ}(h:J1 kvs k=none):¬k∈kvs.map (·.1):=by
 intro m;obtain⟨p,a,e⟩:=aT.mp m;have q:(kvs.any λb=>decide (b.1=k))=true:=cv.mpr ⟨p,a,bh e⟩;rw[O1,h]at q;exact absurd q (by simp)
theorem a7N{kvs:List (κ×V)}{k:κ}{v:V}(h:J1 kvs k=some v):k∈kvs.map (·.1):=by
 have q:(kvs.any λb=>decide (b.1=k))=true:=by
  rw[O1,h]
  all_goals rfl
 obtain⟨p,a,e⟩:=cv.mp q;exact aT.mpr ⟨p,a,bO e⟩
theorem a1Y:∀{l:List κ}{k:κ},l.Nodup->¬k∈l->(l++[k]).Nodup
 |[],k,_,_=>by simp
 |a::r,k,h,b=>by
  obtain⟨h1,h2⟩:=cL.mp h;show(a::(r++[k])).Nodup;refine cL.mpr ⟨λm=>?_,a1Y h2 λm=>b (aE.mpr (Or.inr m))⟩;rcases aO.mp m with q|q
  .exact h1 q
  .exact b (aE.mpr (Or.inl (aA.mp q).symm))
end
end L2
namespace L2
open PySem PySem.Spec PyProof.Rows PySem.W
section
variable {O:KeyOrd}{key:Nat->O.α}{N:Nat}{p:Array Nat}
noncomputable def kk(key:Nat->O.α)(p:Array Nat)(i:Nat):O.α:=key (p[i]?.getD 0)
end
theorem T3:∀a:List Int,HT.lexLt a a=false
 |[]=>rfl
 |x::xs=>by rw[HT.lexLt_cons,az rfl];exact T3 xs
theorem a0Y:∀a b c:List Int,HT.lexLt a b=true->HT.lexLt b c=true->HT.lexLt a c=true
 |[],[],_,h,_=>by cases h
 |_::_,[],_,h,_=>by cases h
 |_,_::_,[],_,h=>by cases h
 |[],_::_,_::_,_,_=>rfl
 |x::xs,y::ys,z::zs,h1,h2=>by
  rw[HT.lexLt_cons]at h1 h2⊢;by_cases e:x=y
  .rw[az e]at h1;by_cases d:y=z
   .rw[az d]at h2;rw[az (e.trans d)];exact a0Y xs ys zs h1 h2
   .rw[aq d]at h2;rw[aq (by rw[e];exact d),e];exact h2
  .rw[aq e]at h1;have h1:=bO h1;by_cases d:y=z
   .rw[aq (by rw[<-d];exact e),<-d];exact bh h1
   .rw[aq d]at h2;have h2:=bO h2;rw[aq (by omega)];exact bh (by omega)
theorem N9:∀a b:List Int,HT.lexLt a b=false->HT.lexLt b a=false->a=b
 |[],[],_,_=>rfl
 |[],_::_,h,_=>by cases h
 |_::_,[],_,h=>by cases h
 |x::xs,y::ys,h1,h2=>by
  rw[HT.lexLt_cons]at h1 h2;by_cases e:x=y
  .subst e;rw[az rfl]at h1 h2;rw[N9 xs ys h1 h2]
  .rw[aq e]at h1;rw[aq (dJ e)]at h2;have h1:=of_decide_eq_false h1;have h2:=of_decide_eq_false h2;omega
theorem b4N(a b c:List Int)(h:HT.lexLt a c=true):HT.lexLt a b=true∨HT.lexLt b c=true:=by
 cases h1:HT.lexLt a b with
 |true=>exact .inl rfl
 |false =>
  refine .inr ?_;cases h2:HT.lexLt b a with
  |true=>exact a0Y b a c h2 h
  |false=>rw[<-N9 a b h1 h2];exact h
noncomputable def OL:KeyOrd:=⟨List Int,HT.lexLt,T3,a0Y,b4N,N9⟩
def J4(tss:LLI):Prop:=tss.Pairwise λa b=>HT.lexLt b a=false
section
variable {prog:Program}{w:World}{A:Around}{E:Value->Shared->Prop}{s:Shared}
noncomputable def b4O(fin:Bool):List Int->List Int->Bool
 |[],_=>fin
 |_::_,[]=>fin
 |x::xs,y::ys=>if x=y then b4O fin xs ys else decide (x<y)
theorem a6e:∀(xs ys:List Int),b4O (decide (xs.length<ys.length)) xs ys=HT.lexLt xs ys
 |[],[]=>rfl
 |[],y::ys=>by
  show decide (0<ys.length+1)=true;exact bh (by omega)
 |x::xs,[]=>by
  show decide (xs.length+1<0)=false;exact bT (by omega)
 |x::xs,y::ys=>by
  rw[HT.lexLt_cons];show(if x=y then _ else _)=_;split
  .rw[<-a6e xs ys];congr 1;simp only[aN];exact decide_eq_decide.mpr (by omega)
  .rfl
theorem a9E{c:Bool}{a b:Int}{t u:Tok}{Q:Bool->Shared->Prop}(h:Q (decide (a<b)) s):wpAny (model prog w) A (oneLt' c (.int a t) (.int b u)) Q E s:=by
 cases c with
 |true=>exact oneLt_int h
 |false=>exact kat_one _ _ (lt_int h)
theorem a1x{b fin:Bool}{Q:Bool->Shared->Prop}:∀{vs a:List Value}{ns ms:List Int}(i:Nat),IntsAre vs ns->IntsAre a ms->Q (b4O fin ns ms) s->KatLex prog w A b fin Q (vs.zip a) i s
 |_,_,_,_,i,.nil,_,h=>h
 |_,_,_,_,i,.cons _ _ _,.nil,h=>h
 |_,_,_,_,i,.cons x t c,.cons y u d,h=>by
  rw[List.zip_cons_cons];refine kat_cons (wpAny_eqBool_int ?_);have h:Q (if x=y then b4O fin _ _ else decide (x<y)) s:=h;by_cases e:x=y
  .rw[az e]at h;rw[show(x==y)=true from bg.mpr e];exact kat_yes (a1x (i+1) c d h)
  .rw[aq e]at h;rw[show(x==y)=false from cZ.mpr e];exact kat_no (a9E h)
def TupsAre(h:Heap)(vs:List Value)(rss:LLI):Prop:=vs.length=rss.length/\∀(i:Nat) (v:Value),vs[i]?=some v->∃(r:List Int) (b:Addr) (its:Array Value),rss[i]?=some r/\v=Value.ref b/\IsTup h b its/\IntsAre its.toList r
theorem TupsAre.keeps{h h':Heap}{vs:List Value}{rss:LLI}(t:TupsAre h vs rss)(k:∀b its,IsTup h b its->IsTup h' b its):TupsAre h' vs rss :=
 ⟨t.1,λi v e=>let ⟨r,b,its,e1,e2,e3,e4⟩:=t.2 i v e;⟨r,b,its,e1,e2,k _ _ e3,e4⟩⟩
theorem a5s{h:Heap}:∀{vs:List Value}{rss:LLI},TupsAre h vs rss->(∀r∈rss,0<r.length)->∃fs,KatTups h vs fs/\fs.length=vs.length/\∀f∈fs,∃n t,f=Value.int n t
 |[],_,_,_=>⟨[],trivial,rfl,λ_ z=>nomatch z⟩
 |v::vs,[],T,_=>by cases T.1
 |v::vs,r::rss,T,hw=>by
  obtain⟨fs,h1,h2,p⟩:=a5s (vs:=vs) (rss:=rss) ⟨by have:=T.1;simpa using this,λi u e=>T.2 (i+1) u e⟩ λr c=>hw r (ar _ c);obtain⟨y,b,its,j,k,⟨o,q,s,n,w⟩,d⟩:=T.2 0 v rfl;cases j;have c:=hw r au;obtain⟨x,t,g,m⟩:∃x t g,its.toList=Value.int x t::g:=by
   generalize its.toList=l at d;cases d with
   |nil=>simp at c
   |cons x t h=>exact⟨x,t,_,rfl⟩
  refine⟨.int x t::fs,⟨⟨b,o,its,n,k,q,s,w,?_⟩,h1⟩,by simp[h2],λf a=>?_⟩
  .rw[<-av,m];rfl
  .rcases aE.mp a with rfl|a
   .exact⟨x,t,rfl⟩
   .exact p f a
theorem a9h{vs:List Value}{rss:LLI}{Q:SortKind->Shared->Prop}(T:TupsAre s.heap vs rss)(hw:∀r∈rss,0<r.length)(a:0<vs.length)(h:Q (tuples' true) s):wpAny (model prog w) A (keyKind' vs.toArray) Q E s:=by
 obtain⟨fs,h1,h2,b⟩:=a5s T hw;refine kat_kind (T:=.type "int") h1 (by omega) (λv a=>?_) rfl ?_
 .obtain⟨n,t,rfl⟩:=b v a;exact .now
 .rw[show(Value.type "int" != Value.type "tuple")=true from rfl];exact h
end
section
variable {prog:Program}{w:World}{A:Around}{E:Value->Shared->Prop}{s:Shared}
theorem U9{h:Heap}{a:Addr}{vs:List Value}{out:Array Value}:∀b o,b≠a->h.get? b=some o->(sortedHeap h a vs out).get? b=some o:=λb o c e=>by
 unfold sortedHeap;rw[Heap.get?_update_ne _ _ _ _ c];exact ag _ (ag _ (by rw[Heap.get?_update_ne _ _ _ _ c];exact e))
theorem Z9{h:Heap}{a:Addr}{vs:List Value}{out:Array Value}{n:Nat}(f:h.get? a=some (seqObj "list" vs.toArray n)):∃c,(sortedHeap h a vs out).get? a=some (seqObj "list" out c):=by
 unfold sortedHeap;have g:a<h.objs.size:=aI f;obtain⟨b,d⟩:∃b,(h.update a (Obj.mapSeq λ_=>#[])).get? a=some (seqObj "list" #[] b):=⟨_,get?_update_seq f (λ_=>#[])⟩;have e:(((h.update a (Obj.mapSeq λ_=>#[])).push (seqObj "tuple" vs.toArray 0)).push (seqObj "list" #[] 0)).get? a=some (seqObj "list" #[] b):=ag _ (ag _ d);exact⟨_,get?_update_seq e (λ_=>out)⟩
end
section
variable {X:Cx}
theorem a2U{pins:List (Addr×Obj)}{σ:St}{H:Hp}{s:Shared}(I:Inv X pins σ H s){ys:List V}{rss:LLI}{us:List Value}(h:Its H ys rss)(r:Vals ys us):TupsAre s.heap us rss:=by
 refine⟨by rw[<-r.length];exact h.1,λi v e=>?_⟩;have hi:i<ys.length:=by rw[r.length];exact(aH.mp e).1
 obtain⟨u,b,c⟩:=r.get (ai hi);rw[e]at b;cases b;obtain⟨row,d,a,f,g⟩:=h.2 i _ (ai hi);rw[f]at c;cases c;obtain⟨its,j,k,_⟩:=I.tuple (SqT.of (K:=X.K) g);exact⟨row,a,its.toArray,d,rfl,k,by simpa using a0j j⟩
end
noncomputable def R0:Bool->Keyed->Array Keyed->Nat->Nat->Nat->StateT SortSt Sem (Option Nat):=sortPriv% PySem.Builtin.gallop
noncomputable def R5(left:Bool)(key:Keyed)(arr:Array Keyed)(base:Nat)(i:Nat):StateT SortSt Sem (Option Bool):=do
 let x <-elem' arr (base+i)
 if left then lt' x key else return (<-lt' key x).map (!·)
noncomputable def b5l(left:Bool)(key:Keyed)(arr:Array Keyed)(base n lo₀ hi₀:Nat):StateT SortSt Sem (Option Nat):=do
 let mut lo:=lo₀
 let mut hi:=hi₀
 for _ in [0:n] do
  if lo ≥ hi then break
  let m:=lo+(hi-lo) / 2
  let some more <-R5 left key arr base m|return none
  if more then lo:=m+1 else hi:=m
 return some hi
theorem a7n(left:Bool)(key:Keyed)(arr:Array Keyed)(base n a:Nat):R0 left key arr base n a=(R5 left key arr base a>>=λr=>match r with
 |some right=>(if right=true then
   (forIn [:n] ((none,0,1):Option (Option Nat)×Nat×Nat) (λ_ c=>if c.2.2 ≥ n-a then pure (.done (none,c.2.1,c.2.2))else R5 left key arr base (a+c.2.2)>>=λr=>match r with
     |some more=>(if (!more)=true then pure (.done (none,c.2.1,c.2.2))else pure (.yield (none,c.2.2,2*c.2.2+1)))
     |_=>pure (.done (some none,c.2.1,c.2.2)))>>=λc=>match c.1 with
    |some r=>pure r
    |none=>b5l left key arr base n (a+c.2.1+1) (a+min c.2.2 (n-a)))
  else
   (forIn [:n] ((none,0,1):Option (Option Nat)×Nat×Nat) (λ_ c=>if c.2.2 ≥ a+1 then pure (.done (none,c.2.1,c.2.2))else R5 left key arr base (a-c.2.2)>>=λr=>match r with
     |some found=>(if found=true then pure (.done (none,c.2.1,c.2.2))else pure (.yield (none,c.2.2,2*c.2.2+1)))
     |_=>pure (.done (some none,c.2.1,c.2.2)))>>=λc=>match c.1 with
    |some r=>pure r
    |none=>b5l left key arr base n (a+1-min c.2.2 (a+1)) (a-c.2.1)))
 |_=>pure none):=by
 show(_>>=_)=(_>>=_);refine aL _ (funext λr=>?_);cases r with
 |none=>rfl
 |some right =>
  dsimp only;refine dV rfl (λ_=>?_) (λ_=>?_)
  .refine congr (aL _ (aL _ (funext λ_=>funext λc=>?_))) (funext λc=>?_)
   .rfl
   .rcases c with⟨_|q,c⟩<;>rfl
  .refine congr (aL _ (aL _ (funext λ_=>funext λc=>?_))) (funext λc=>?_)
   .rfl
   .rcases c with⟨_|q,c⟩<;>rfl
section
variable {prog:Program}{w:World}{A:Around}{E:Value->Shared->Prop}{s:Shared}
def Cmp(prog:Program)(w:World)(A:Around)(s:Shared)(κ:SortKind)(D:Keyed->Prop)(lt:Keyed->Keyed->Bool):Prop :=
 ∀x y (C:Bool->Shared->Prop),D x->D y->C (lt x y) s->wpAny (model prog w) A (keyLt' κ x.1 y.1) C (λ_ _=>False) s
variable {κ:SortKind}{D:Keyed->Prop}{lt:Keyed->Keyed->Bool}
theorem a0m{st:SortSt}{x y:Keyed}{Q:Option Bool->SortSt->Prop}(d:Cmp prog w A s κ D lt)(e:kindOf st=κ)(f:D x)(g:D y)(h:Q (some (lt x y)) st):wpS (model prog w) A E s (lt' x y) Q st:=by
 rw[lt'_eq];refine aC (fL ?_);rw[e];refine aC (wpS_lift (ek (dE (d x y (λb s'=>s'=s/\b=lt x y) f g ⟨rfl,rfl⟩) (λb s' ⟨a,c⟩=>?_) λ_ _ z=>z.elim)));rw[a,c];exact⟨rfl,aJ h⟩
noncomputable def b3x(lt:Keyed->Keyed->Bool)(left:Bool)(key x:Keyed):Bool:=if left then lt x key else !(lt key x)
theorem a6D{st:SortSt}{left:Bool}{key x:Keyed}{arr:Array Keyed}{base i:Nat}{Q:Option Bool->SortSt->Prop}(b:Cmp prog w A s κ D lt)(c:kindOf st=κ)(a:D key)(d:D x)(e:arr[base+i]?=some x)(h:Q (some (b3x lt left key x)) st) :
  wpS (model prog w) A E s (R5 left key arr base i) Q st:=by
 unfold R5;rw[elem'_eq,e];refine aC (aJ ?_);unfold b3x at h;cases left with
 |true=>exact a0m b c d a h
 |false=>exact aC (a0m b c a d (aJ h))
theorem a7L{st:SortSt}{left:Bool}{key:Keyed}{arr:Array Keyed}{base n lo hi:Nat}{Q:Option Nat->SortSt->Prop}(a:Nat->Bool)
  (m:∀i,i<n->∀{R:Option Bool->SortSt->Prop},R (some (a i)) st->wpS (model prog w) A E s (R5 left key arr base i) R st) (mono:∀i j,i<=j->j<n->a j=true->a i=true) (o:∀i j,i<=j->j<n->a i=false->a j=false)
  (h1:lo<=hi) (h2:hi<=n) (u:∀i,i<lo->a i=true) (v:∀i,hi<=i->i<n->a i=false)
  (h:∀k,k<=n->(∀i,i<k->a i=true)->(∀i,k<=i->i<n->a i=false)->Q (some k) st):wpS (model prog w) A E s (b5l left key arr base n lo hi) Q st:=by
 unfold b5l;dsimp only;refine aC (cJ (cA (I:=λx c st'=>st'=st/\∃l r,c=(none,l,r)/\l<=r/\r<=n/\r-l<=n-x/\(∀i,i<l->a i=true)/\(∀i,r<=i->i<n->a i=false))
  (Q:=λc st'=>st'=st/\∃l,c=(none,l,l)/\l<=n/\(∀i,i<l->a i=true)/\(∀i,l<=i->i<n->a i=false)) ?step ?fin ⟨rfl,lo,hi,rfl,h1,h2,by omega,u,v⟩) ?post)
 case fin =>
  rintro c st' ⟨rfl,l,r,rfl,a1,b,t,d,f⟩;have e:l=r:=by omega
  subst e;exact⟨rfl,l,rfl,b,d,f⟩
 case step =>
  rintro x c st' _ y ⟨rfl,l,r,rfl,a1,b,t,d,f⟩;dsimp only;by_cases g:l ≥ r
  .rw[az g];have e:l=r:=by omega
   subst e;exact aJ ⟨rfl,l,rfl,b,d,f⟩
  .rw[aq g];have q:l+(r-l) / 2<n:=by omega
   refine aC (m _ q ?_);dsimp only;cases p:a (l+(r-l) / 2)with
   |true =>
    rw[az rfl];exact aJ ⟨rfl,_,r,rfl,by omega,b,by omega,λi hi=>mono i _ (by omega) q p,f⟩
   |false =>
    rw[aq (by simp)];exact aJ ⟨rfl,l,_,rfl,by omega,by omega,by omega,d,λi h1 h2=>o _ i h1 h2 p⟩
 case post =>
  rintro c st' ⟨rfl,l,rfl,b,d,f⟩;exact aJ (h l b d f)
theorem L4{st:SortSt}{left:Bool}{key:Keyed}{arr:Array Keyed}{base n a:Nat}{Q:Option Nat->SortSt->Prop}(F:Cmp prog w A s κ D lt)(J:kindOf st=κ)(u:D key)(b:Nat->Bool)
  (r:∀i,i<n->∃x,arr[base+i]?=some x/\D x/\b3x lt left key x=b i) (mono:∀i j,i<=j->j<n->b j=true->b i=true) (G:a<n)
  (h:∀k,k<=n->(∀i,i<k->b i=true)->(∀i,k<=i->i<n->b i=false)->Q (some k) st):wpS (model prog w) A E s (R0 left key arr base n a) Q st:=by
 have m:∀i,i<n->∀{R:Option Bool->SortSt->Prop},R (some (b i)) st->wpS (model prog w) A E s (R5 left key arr base i) R st:=λi hi R hR=>by
  obtain⟨x,B,y,C⟩:=r i hi;exact a6D F J u y B (by rw[C];exact hR)
 have q:∀i j,i<=j->j<n->b i=false->b j=false:=λi j z H e=>by
  cases y:b j with
  |false=>rfl
  |true=>rw[mono i j z H y]at e;cases e
 rw[a7n];refine aC (m a G ?_);dsimp only;cases t:b a with
 |true =>
  rw[az rfl];refine aC (cJ (cA (I:=λx c st'=>st'=st/\∃l o,c=(none,l,o)/\l<o/\x+1<=o/\a+l<n/\b (a+l)=true)
   (Q:=λc st'=>st'=st/\∃l o,c=(none,l,o)/\l<o/\a+l<n/\b (a+l)=true/\(o ≥ n-a∨b (a+o)=false)) ?step ?fin ⟨rfl,0,1,rfl,by omega,by omega,by omega,t⟩) ?post)
  case fin =>
   rintro c st' ⟨rfl,l,o,rfl,a1,v,g,f⟩;exact⟨rfl,l,o,rfl,a1,g,f,.inl (by omega)⟩
  case step =>
   rintro x c st' _ K ⟨rfl,l,o,rfl,a1,v,g,f⟩;dsimp only;by_cases d:o ≥ n-a
   .rw[az d];exact aJ ⟨rfl,l,o,rfl,a1,g,f,.inl d⟩
   .rw[aq d];refine aC (m _ (by omega) ?_);dsimp only;cases r:b (a+o)with
    |true =>
     rw[aq (by simp)];exact aJ ⟨rfl,o,2*o+1,rfl,by omega,by omega,by omega,r⟩
    |false =>
     rw[az (by rfl)];exact aJ ⟨rfl,l,o,rfl,a1,g,f,.inr r⟩
  case post =>
   rintro c st' ⟨rfl,l,o,rfl,a1,g,f,p⟩;dsimp only;refine a7L (lo:=a+l+1) (hi:=a+min o (n-a)) b m mono q (by omega) (by omega) (λi hi=>mono i (a+l) (by omega) g f) (λi h1 h2=>?_) h;rcases p with p|p
   .omega
   .exact q (a+o) i (by omega) h2 p
 |false =>
  rw[aq (by simp)];refine aC (cJ (cA (I:=λx c st'=>st'=st/\∃l o,c=(none,l,o)/\l<o/\x+1<=o/\l<=a/\b (a-l)=false)
   (Q:=λc st'=>st'=st/\∃l o,c=(none,l,o)/\l<o/\l<=a/\b (a-l)=false/\(o ≥ a+1∨b (a-o)=true)) ?step ?fin ⟨rfl,0,1,rfl,by omega,by omega,by omega,t⟩) ?post)
  case fin =>
   rintro c st' ⟨rfl,l,o,rfl,a1,v,g,f⟩;exact⟨rfl,l,o,rfl,a1,g,f,.inl (by omega)⟩
  case step =>
   rintro x c st' _ K ⟨rfl,l,o,rfl,a1,v,g,f⟩;dsimp only;by_cases d:o ≥ a+1
   .rw[az d];exact aJ ⟨rfl,l,o,rfl,a1,g,f,.inl d⟩
   .rw[aq d];refine aC (m _ (by omega) ?_);dsimp only;cases r:b (a-o)with
    |true =>
     rw[az rfl];exact aJ ⟨rfl,l,o,rfl,a1,g,f,.inr r⟩
    |false =>
     rw[aq (by simp)];exact aJ ⟨rfl,o,2*o+1,rfl,by omega,by omega,by omega,r⟩
  case post =>
   rintro c st' ⟨rfl,l,o,rfl,a1,g,f,p⟩;dsimp only;refine a7L (lo:=a+1-min o (a+1)) (hi:=a-l) b m mono q (by omega) (by omega) (λi hi=>?_) (λi h1 h2=>q (a-l) i h1 h2 f) h;rcases p with p|p
   .omega
   .exact mono i (a-o) (by omega) (by omega) p
end
section
variable {O:KeyOrd}{kf:Keyed->O.α}{la lb o:List Keyed}{ia ib:Nat}
def leK(kf:Keyed->O.α)(x y:Keyed):Prop:=O.kle (kf x) (kf y)
noncomputable def ltK(kf:Keyed->O.α)(x y:Keyed):Bool:=O.blt (kf x) (kf y)
structure MS(kf:Keyed->O.α)(la lb o:List Keyed)(ia ib:Nat):Prop where
 perm:o.Perm (la.take ia++lb.take ib)
 sorted:o.Pairwise (leK kf)
 ra:∀x∈o,∀y∈la.drop ia,leK kf x y
 rb:∀x∈o,∀y∈lb.drop ib,leK kf x y
theorem Y9{α:Type}{l:List α}{i:Nat}{x:α}(h:l[i]?=some x):l.drop i=x::l.drop (i+1):=by
 obtain⟨hi,e⟩:=aH.mp h;rw[cH hi,e]
theorem V5{l:List Keyed}{i:Nat}{x:Keyed}(hs:l.Pairwise (leK kf))(h:l[i]?=some x):∀y∈l.drop (i+1),leK kf x y:=by
 have:=hs.drop (i:=i);rw[Y9 h]at this;exact(dg.mp this).1
theorem S5{α:Type}{l:List α}{i:Nat}{x:α}(h:l[i]?=some x):l.take (i+1)=l.take i++[x]:=by
 rw[bj,h];rfl
theorem MS.stepA{x:Keyed}(h:MS kf la lb o ia ib)(hs:la.Pairwise (leK kf))(e:la[ia]?=some x)(c:∀y∈lb.drop ib,leK kf x y):MS kf la lb (o++[x]) (ia+1) ib:=by
 have d:x∈la.drop ia:=by rw[Y9 e];exact au
 refine⟨?_,?_,λz b y a=>?_,λz b y a=>?_⟩
 .rw[S5 e];have:=h.perm.append_right [x];refine this.trans ?_;rw[aG,aG];exact cB _ cK
 .rw[bE];exact⟨h.sorted,fN _ _,λz b y a=>by rw[aA.mp a];exact h.ra z b x d⟩
 .have hy':y∈la.drop ia:=by rw[Y9 e];exact ar _ a
  rcases aO.mp b with q|q
  .exact h.ra z q y hy'
  .rw[aA.mp q];exact V5 hs e y a
 .rcases aO.mp b with q|q
  .exact h.rb z q y a
  .rw[aA.mp q];exact c y a
theorem MS.swap(h:MS kf la lb o ia ib):MS kf lb la o ib ia:=⟨h.perm.trans cK,h.sorted,h.rb,h.ra⟩
theorem MS.stepB{x:Keyed}(h:MS kf la lb o ia ib)(hs:lb.Pairwise (leK kf))(e:lb[ib]?=some x)(a:∀y∈la.drop ia,leK kf x y):MS kf la lb (o++[x]) ia (ib+1) :=
 (h.swap.stepA hs e a).swap
theorem MS.bulkA(hs:la.Pairwise (leK kf)):∀(k:Nat) {o:List Keyed}{ia:Nat},MS kf la lb o ia ib->ia+k<=la.length->(∀i x,i<k->la[ia+i]?=some x->∀y∈lb.drop ib,leK kf x y)->MS kf la lb (o++(la.drop ia).take k) (ia+k) ib
 |0,o,ia,h,_,_=>by rw[List.take_zero,dj];exact h
 |k+1,o,ia,h,c,b=>by
  obtain⟨x,a⟩:∃x,la[ia]?=some x:=⟨_,ai (by omega)⟩;have h1:=h.stepA hs a (b 0 x (by omega) a);have h2:=MS.bulkA hs k h1 (by omega) λi y hi e=>b (i+1) y (by omega) (by rw[<-e];congr 1;omega);rw[Y9 a,List.take_succ_cons];rw[aG]at h2;rw[show ia+(k+1)=ia+1+k by omega];exact h2
theorem MS.bulkB(hs:lb.Pairwise (leK kf)){k:Nat}(h:MS kf la lb o ia ib)(b:ib+k<=lb.length)(a:∀i x,i<k->lb[ib+i]?=some x->∀y∈la.drop ia,leK kf x y):MS kf la lb (o++(lb.drop ib).take k) ia (ib+k) :=
 (MS.bulkA hs k h.swap b a).swap
def a1n(kf:Keyed->O.α)(la lb o:List Keyed):Prop:=o.Perm (la++lb)/\o.Pairwise (leK kf)
theorem MS.done(h:MS kf la lb o ia ib)(hs:la.Pairwise (leK kf))(b:ib=lb.length):a1n kf la lb (o++la.drop ia++lb.drop ib):=by
 subst b;rw[fY,dj];have a:=h.perm;rw[bq]at a;refine⟨?_,?_⟩
 .refine(a.append_right _).trans ?_;rw[aG];refine(cB _ cK).trans ?_;rw[<-aG,bw]
 .rw[bE];exact⟨h.sorted,hs.drop,h.ra⟩
theorem MS.lastA(h:MS kf la lb o ia ib)(a:la.Pairwise (leK kf))(hs:lb.Pairwise (leK kf))(c:∀y∈lb.drop ib,∀x∈la.drop ia,leK kf y x):a1n kf la lb (o++lb.drop ib++la.drop ia):=by
 refine⟨?_,?_⟩
 .have hp:=(h.perm.append_right (lb.drop ib)).append_right (la.drop ia);refine hp.trans ?_;rw[aG (la.take ia),bw,aG];refine(cB _ cK).trans ?_;rw[<-aG,bw]
 .rw[bE];refine⟨?_,a.drop,λx d y b=>?_⟩
  .rw[bE];exact⟨h.sorted,hs.drop,h.rb⟩
  .rcases aO.mp d with q|q
   .exact h.ra x q y b
   .exact c x q y b
end
noncomputable def a2G:Array Keyed->Array Keyed->StateT SortSt Sem (Array Keyed):=sortPriv% PySem.Builtin.mergeLo
noncomputable def X8(g:Nat):StateT SortSt Sem Unit:=modify λs=>SortSt.mk' (kindOf s) (arrOf s) (pendingOf s) g (failedOf s)
noncomputable def O9(a b out:Array Keyed)(ia ib:Nat):Array Keyed:=out++a.extract ia a.size++b.extract ib b.size
noncomputable def a0h(a b out:Array Keyed)(ia ib:Nat):Array Keyed:=out++b.extract ib b.size++a.extract ia a.size
abbrev T1:Type:=Option (Array Keyed)×Array Keyed×Nat×Nat×Nat×Nat
abbrev T2:Type:=Option (Array Keyed)×Array Keyed×Nat×Nat×Nat×Nat×Nat
noncomputable def loD(a b out:Array Keyed)(ia ib mg k k1:Nat):StateT SortSt Sem (ForInStep T2) :=
 elem' a ia>>=λx =>
 if (ia+1+1==a.size)=true then pure (.done (some (a0h a b (out.push x) (ia+1) ib),out.push x,ia+1,ib,mg,k,k1))
 else if (decide (k<7) && decide (k1<7))=true then pure (.done (none,out.push x,ia+1,ib,mg,k,k1))
 else pure (.yield (none,out.push x,ia+1,ib,mg,k,k1))
noncomputable def loC(a b out:Array Keyed)(ia ib mg k bc:Nat):StateT SortSt Sem (ForInStep T2) :=
 elem' b ib>>=λy =>
 if (ib+1==b.size)=true then pure (.done (some (O9 a b (out.push y) ia (ib+1)),out.push y,ia,ib+1,mg,k,bc))
 else elem' a ia>>=λx=>R0 true x b (ib+1) (b.size-(ib+1)) 0>>=λr =>
  match r with
  |some k1=>(if k1 > 0 then
    (if (ib+1+k1==b.size)=true then pure (.done (some (O9 a b (out.push y++b.extract (ib+1) (ib+1+k1)) ia (ib+1+k1)),out.push y++b.extract (ib+1) (ib+1+k1),ia,ib+1+k1,mg,k,k1))
    else loD a b (out.push y++b.extract (ib+1) (ib+1+k1)) ia (ib+1+k1) mg k k1)
   else loD a b (out.push y) ia (ib+1) mg k k1)
  |_=>pure (.done (some (O9 a b (out.push y) ia (ib+1)),out.push y,ia,ib+1,mg,k,bc))
noncomputable def loB(a b out:Array Keyed)(ia ib mg ac bc:Nat):StateT SortSt Sem (ForInStep T2) :=
 X8 mg>>=λ_=>elem' b ib>>=λy=>R0 false y a ia (a.size-ia) 0>>=λr =>
 match r with
 |some k=>(if k > 0 then
   (if (ia+k+1==a.size)=true then pure (.done (some (a0h a b (out++a.extract ia (ia+k)) (ia+k) ib),out++a.extract ia (ia+k),ia+k,ib,mg,k,bc))
   else if (ia+k==a.size)=true then pure (.done (some (O9 a b (out++a.extract ia (ia+k)) (ia+k) ib),out++a.extract ia (ia+k),ia+k,ib,mg,k,bc))
   else loC a b (out++a.extract ia (ia+k)) (ia+k) ib mg k bc)
  else loC a b out ia ib mg k bc)
 |_=>pure (.done (some (O9 a b out ia ib),out,ia,ib,mg,ac,bc))
noncomputable def loA(a b out:Array Keyed)(ia ib ac bc mg:Nat):StateT SortSt Sem (ForInStep T1) :=
 elem' b ib>>=λy=>elem' a ia>>=λx=>lt' y x>>=λr =>
 match r with
 |some bWins=>(if bWins=true then elem' b ib>>=λy =>
   (if (ib+1==b.size)=true then pure (.done (some (O9 a b (out.push y) ia (ib+1)),out.push y,ia,ib+1,0,bc+1))
   else if bc+1 ≥ mg then pure (.done (none,out.push y,ia,ib+1,0,bc+1))
   else pure (.yield (none,out.push y,ia,ib+1,0,bc+1)))
  else elem' a ia>>=λx =>
   (if (ia+1+1==a.size)=true then pure (.done (some (a0h a b (out.push x) (ia+1) ib),out.push x,ia+1,ib,ac+1,0))
   else if ac+1 ≥ mg then pure (.done (none,out.push x,ia+1,ib,ac+1,0))
   else pure (.yield (none,out.push x,ia+1,ib,ac+1,0))))
 |_=>pure (.done (some (O9 a b out ia ib),out,ia,ib,ac,bc))
theorem a6a(a b:Array Keyed):a2G a b=(do
 rule "list.sort.merge-lo"
 let y <-elem' b 0
 if (1==b.size)=true then pure (O9 a b #[y] 0 1)
 else if (0+1==a.size)=true then pure (a0h a b #[y] 0 1)
 else do
  let g <-get
  let r <-forIn [:a.size+b.size] ((none,#[y],0,1,gallopOf g):Option (Array Keyed)×Array Keyed×Nat×Nat×Nat) λ_ c=>do
   let r <-forIn [:a.size+b.size] ((none,c.2.1,c.2.2.1,c.2.2.2.1,0,0):T1) λ_ d=>loA a b d.2.1 d.2.2.1 d.2.2.2.1 d.2.2.2.2.1 d.2.2.2.2.2 c.2.2.2.2
   match r.1 with
   |some q=>pure (ForInStep.done (some q,r.2.1,r.2.2.1,r.2.2.2.1,c.2.2.2.2))
   |none=>do
    rule "list.sort.gallop"
    let t <-forIn [:a.size+b.size] ((none,r.2.1,r.2.2.1,r.2.2.2.1,c.2.2.2.2+1,r.2.2.2.2.1,r.2.2.2.2.2):T2) λ_ d =>
     if d.2.2.2.2.1 > 1 then loB a b d.2.1 d.2.2.1 d.2.2.2.1 (d.2.2.2.2.1-1) d.2.2.2.2.2.1 d.2.2.2.2.2.2 else loB a b d.2.1 d.2.2.1 d.2.2.2.1 d.2.2.2.2.1 d.2.2.2.2.2.1 d.2.2.2.2.2.2
    match t.1 with
    |some q=>pure (ForInStep.done (some q,t.2.1,t.2.2.1,t.2.2.2.1,t.2.2.2.2.1))
    |none=>do
     X8 (t.2.2.2.2.1+1)
     pure (ForInStep.yield (none,t.2.1,t.2.2.1,t.2.2.2.1,t.2.2.2.2.1+1))
  match r.1 with
  |some q=>pure q
  |none=>unsupported "internal:list.sort.merge-bound"):=by
 show(_>>=_)=(_>>=_);refine aL _ (funext λ_=>?_);dsimp only;refine aL _ (funext λy=>?_);refine dV rfl (λ_=>rfl) (λ_=>dV rfl (λ_=>rfl) λ_=>?_);refine aL _ (funext λg=>?_);refine congr (aL _ (aL _ (funext λ_=>funext λc=>?_))) (funext λr=>?_)
 .refine congr (aL _ (aL _ (funext λ_=>funext λd=>?_))) (funext λr=>?_)
  .rfl
  .rcases r with⟨_|q,r⟩
   .dsimp only;refine aL _ (funext λ_=>?_);refine congr (aL _ (aL _ (funext λ_=>funext λd=>?_))) (funext λr=>?_)
    .rfl
    .rcases r with⟨_|q,r⟩<;>rfl
   .rfl
 .rcases r with⟨_|q,r⟩
  .dsimp only
  .rfl
theorem a2c{α:Type}(a:Array α)(i:Nat):(a.extract i a.size).toList=a.toList.drop i:=by
 rw[fg];simp[List.extract_eq_drop_take'];rw[<-ay,bq]
theorem a3f{α:Type}(a:Array α)(i k:Nat):(a.extract i (i+k)).toList=(a.toList.drop i).take k:=by
 rw[fg];simp[List.extract_eq_drop_take]
theorem a6t(a b out:Array Keyed)(ia ib:Nat):(O9 a b out ia ib).toList=out.toList++a.toList.drop ia++b.toList.drop ib:=by
 unfold O9;rw[cc,cc,a2c,a2c]
theorem a6i(a b out:Array Keyed)(ia ib:Nat):(a0h a b out ia ib).toList=out.toList++b.toList.drop ib++a.toList.drop ia:=by
 unfold a0h;rw[cc,cc,a2c,a2c]
section
variable {prog:Program}{w:World}{A:Around}{E:Value->Shared->Prop}{s:Shared}{κ:SortKind}{D:Keyed->Prop}{O:KeyOrd}{kf:Keyed->O.α}{a b out:Array Keyed}{ia ib:Nat}{st:SortSt}
def Good(st st':SortSt):Prop:=kindOf st'=kindOf st/\arrOf st'=arrOf st/\pendingOf st'=pendingOf st/\failedOf st'=failedOf st
structure Two(D:Keyed->Prop)(kf:Keyed->O.α)(a b:Array Keyed):Prop where
 da:∀(i:Nat) x,a[i]?=some x->D x
 db:∀(i:Nat) x,b[i]?=some x->D x
 sa:a.toList.Pairwise (leK kf)
 sb:b.toList.Pairwise (leK kf)
 last:∀y∈b.toList,∀x,a[a.size-1]?=some x->ltK kf y x=true
theorem U5{l:List Keyed}{i:Nat}{x z:Keyed}(hs:l.Pairwise (leK kf))(e:l[i]?=some x)(h:leK kf z x):∀y∈l.drop i,leK kf z y:=λy a=>by
 rw[Y9 e]at a;rcases aE.mp a with rfl|a
 .exact h
 .exact bW h (V5 hs e y a)
def MI(kf:Keyed->O.α)(a b out:Array Keyed)(ia ib:Nat):Prop:=MS kf a.toList b.toList out.toList ia ib/\ia+1<a.size/\ib<b.size
def D5(kf:Keyed->O.α)(a b r:Array Keyed):Prop:=a1n kf a.toList b.toList r.toList
theorem Y7(T:Two D kf a b)(h:MS kf a.toList b.toList out.toList ia ib)(hi:ia+1=a.size):D5 kf a b (a0h a b out ia ib):=by
 unfold D5;rw[a6i];refine h.lastA T.sa T.sb λy e x d=>?_;have c:ia<a.toList.length:=by rw[ay];omega
 rw[cH c,cG (by rw[ay];omega),aA]at d;refine bZ (T.last y (dq e) x ?_);rw[d,show a.size-1=ia by omega,<-av,ai c]
theorem Z1(T:Two D kf a b)(h:MS kf a.toList b.toList out.toList ia ib)(hi:ib=b.size):D5 kf a b (O9 a b out ia ib):=by
 unfold D5;rw[a6t];exact h.done T.sa (by rw[ay];exact hi)
theorem B6{arr:Array Keyed}{i:Nat}(hi:i<arr.size){Q:Keyed->SortSt->Prop}(h:∀x,arr[i]?=some x->arr.toList[i]?=some x->Q x st):wpS (model prog w) A E s (elem' arr i) Q st:=by
 rw[elem'_eq];have e:arr[i]?=some arr[i]:=getElem?_pos arr i hi;rw[e];exact aJ (h _ e (by rw[av];exact e))
def P2(kf:Keyed->O.α)(st:SortSt)(a b:Array Keyed)(c0:Nat)(c:T2)(st':SortSt):Prop:=Good st st'/\((∃r,c.1=some r/\D5 kf a b r)∨(c.1=none/\MI kf a b c.2.1 c.2.2.1 c.2.2.2.1/\c0<=c.2.2.1+c.2.2.2.1))
def Y2(kf:Keyed->O.α)(st:SortSt)(a b:Array Keyed)(c0:Nat)(c:T2)(st':SortSt):Prop:=Good st st'/\c.1=none/\MI kf a b c.2.1 c.2.2.1 c.2.2.2.1/\c0<=c.2.2.1+c.2.2.2.1
def R2'(kf:Keyed->O.α)(st:SortSt)(a b:Array Keyed)(c0:Nat)(r:ForInStep T2)(st':SortSt):Prop:=match r with | .done c'=>P2 kf st a b c0 c' st' | .yield c'=>Y2 kf st a b c0 c' st'
variable {c0 mg k k1 bc ac:Nat}{st':SortSt}
theorem a7E(T:Two D kf a b)(g:Good st st')(h:MI kf a b out ia ib)(j:∀x,a.toList[ia]?=some x->∀y∈b.toList.drop ib,leK kf x y)(i:c0<=ia+ib):wpS (model prog w) A E s (loD a b out ia ib mg k k1) (R2' kf st a b c0) st':=by
 unfold loD;refine aC (B6 (by have:=h.2.1;omega) λx l d=>?_);have c:=h.1.stepA T.sa d (j x d);rw[<-cX]at c;split
 .rename_i e;exact aJ ⟨g,.inl ⟨_,rfl,Y7 T c (eq_of_beq e)⟩⟩
 .rename_i e;have e:¬ia+1+1=a.size:=λz=>e (bg.mpr z);have f:MI kf a b (out.push x) (ia+1) ib:=⟨c,by have:=h.2.1;omega,h.2.2⟩;split
  .exact aJ ⟨g,.inr ⟨rfl,f,by show c0<=ia+1+ib;omega⟩⟩
  .exact aJ ⟨g,rfl,f,by show c0<=ia+1+ib;omega⟩
theorem gdK(a:Array Keyed){i:Nat}(hi:i<a.size):a[i]?=some (a.getD i (Value.none,Value.none)):=by
 rw[bR,getElem?_pos a i hi];rfl
theorem Y5{l:List Keyed}(hs:l.Pairwise (leK kf)){i j:Nat}{x y:Keyed}(b:i<=j)(ex:l[i]?=some x)(a:l[j]?=some y):leK kf x y:=by
 by_cases e:i=j
 .subst e;rw[ex]at a;cases a;exact cF _
 .refine V5 hs ex y ?_;have:(l.drop (i+1))[j-(i+1)]?=some y:=by rw[fB,<-a];congr 1;omega
  exact aF this
theorem a7F(T:Two D kf a b)(p:Cmp prog w A s κ D (ltK kf))(G:kindOf st=κ)(g:Good st st')(h:MI kf a b out ia ib)(H:∀y,b.toList[ib]?=some y->∀x∈a.toList.drop ia,leK kf y x)(C:c0<=ia+ib):wpS (model prog w) A E s (loC a b out ia ib mg k bc) (R2' kf st a b c0) st':=by
 unfold loC;obtain⟨r,f,q⟩:=h;refine aC (B6 q λy u l=>?_);have n:=r.stepB T.sb l (H y l);rw[<-cX]at n;split
 .rename_i e;exact aJ ⟨g,.inl ⟨_,rfl,Z1 T n (eq_of_beq e)⟩⟩
 .rename_i e;have e:¬ib+1=b.size:=λz=>e (bg.mpr z);refine aC (B6 (by omega) λx f1 f2=>?_);refine aC (L4 p (g.1.trans G) (T.da _ _ f1) (λi=>ltK kf (b.getD (ib+1+i) (Value.none,Value.none)) x) (λi hi=>⟨_,gdK b (by omega),T.db _ _ (gdK b (by omega)),rfl⟩) (λi j F K B=>?_) (by omega) λk1 L I J=>?_)
  .refine fC (Y5 T.sb (i:=ib+1+i) (j:=ib+1+j) (by omega) ?_ ?_) B
   .rw[av];exact gdK b (by omega)
   .rw[av];exact gdK b (by omega)
  .dsimp only;have d:∀(c:Nat),c=ib+1+k1->c<b.size->∀t,a.toList[ia]?=some t->∀y∈b.toList.drop c,leK kf t y:=λc u l t ex'=>by
    rw[f2]at ex';cases ex';have o:b.toList[c]?=some (b.getD c (Value.none,Value.none)):=by rw[av];exact gdK b l
    refine U5 T.sb o ?_;have:=J k1 (ao _) (by omega);rw[<-u]at this;exact this
   split
   .have hbk:=MS.bulkB T.sb (k:=k1) n (by rw[ay];omega) λi z hi v=>by
     refine U5 T.sa f2 ?_;have:=I i hi;rw[av,gdK b (by omega)]at v;cases v;exact bZ this
    rw[<-a3f,<-cc]at hbk;split
    .rename_i m;exact aJ ⟨g,.inl ⟨_,rfl,Z1 T hbk (eq_of_beq m)⟩⟩
    .rename_i m;have m:¬ib+1+k1=b.size:=λz=>m (bg.mpr z);exact a7E T g ⟨hbk,f,by omega⟩ (d _ rfl (by omega)) (by omega)
   .exact a7E T g ⟨n,f,by omega⟩ (d _ (by omega) (by omega)) (by omega)
theorem S4{Q:Unit->SortSt->Prop}(h:∀a,Good st' a->Q () a):wpS (model prog w) A E s (X8 mg) Q st':=by
 unfold X8;exact wpS_modify (h _ ⟨rfl,rfl,rfl,rfl⟩)
theorem Good.trans{st st' a:SortSt}(h:Good st st')(h2:Good st' a):Good st a:=⟨h2.1.trans h.1,h2.2.1.trans h.2.1,h2.2.2.1.trans h.2.2.1,h2.2.2.2.trans h.2.2.2⟩
theorem a7G(T:Two D kf a b)(f:Cmp prog w A s κ D (ltK kf))(u:kindOf st=κ)(g:Good st st')(h:MI kf a b out ia ib)(r:c0<=ia+ib):wpS (model prog w) A E s (loB a b out ia ib mg ac bc) (R2' kf st a b c0) st':=by
 unfold loB;obtain⟨n,t,l⟩:=h;refine aC (S4 λO J=>?_);have g:=g.trans J;refine aC (B6 l λy I p=>?_);refine aC (L4 f (g.1.trans u) (T.db _ _ I) (λi=>!(ltK kf y (a.getD (ia+i) (Value.none,Value.none)))) (λi hi=>⟨_,gdK a (by omega),T.da _ _ (gdK a (by omega)),rfl⟩) (λi j L P G=>?_) (by omega) λk Q H N=>?_)
 .have hle:leK kf (a.getD (ia+j) (Value.none,Value.none)) y:=by
   unfold leK KeyOrd.kle;unfold ltK at G;simpa using G
  have:=bW (Y5 T.sa (i:=ia+i) (j:=ia+j) (by omega) (by rw[av];exact gdK a (by omega)) (by rw[av];exact gdK a (by omega))) hle;unfold KeyOrd.kle at this;unfold ltK;rw[this];rfl
 .dsimp only;have m:ltK kf y (a.getD (a.size-1) (Value.none,Value.none))=true:=T.last y (aF p) _ (gdK a (by omega));have M:ia+k<a.size:=by
   refine Nat.lt_of_not_le λK=>?_;have:=H (a.size-1-ia) (by omega);rw[show ia+(a.size-1-ia)=a.size-1 by omega,m]at this;cases this
  have c:∀d,d=ia+k->∀v,b.toList[ib]?=some v->∀x∈a.toList.drop d,leK kf v x:=λd e v C=>by
   rw[p]at C;cases C;have q:a.toList[d]?=some (a.getD d (Value.none,Value.none)):=by rw[av];exact gdK a (by omega)
   refine U5 T.sa q ?_;have:=N k (ao _) (by omega);rw[<-e]at this;refine bZ ?_;unfold KeyOrd.klt;unfold ltK at this;simpa using this
  split
  .have hbk:=MS.bulkA T.sa k n (by rw[ay];omega) λi z hi F=>by
    refine U5 T.sb p ?_;have:=H i hi;rw[av,gdK a (by omega)]at F;cases F;unfold leK KeyOrd.kle;unfold ltK at this;simpa using this
   rw[<-a3f,<-cc]at hbk;split
   .rename_i o;exact aJ ⟨g,.inl ⟨_,rfl,Y7 T hbk (eq_of_beq o)⟩⟩
   .rename_i o;have o:¬ia+k+1=a.size:=λz=>o (bg.mpr z);split
    .rename_i B;have B:=eq_of_beq B;omega
    .exact a7F T f u g ⟨hbk,by omega,l⟩ (c _ rfl) (by omega)
  .exact a7F T f u g ⟨n,t,l⟩ (c _ (by omega)) r
def P1(kf:Keyed->O.α)(st:SortSt)(a b:Array Keyed)(c0:Nat)(c:T1)(st':SortSt):Prop:=Good st st'/\((∃r,c.1=some r/\D5 kf a b r)∨(c.1=none/\MI kf a b c.2.1 c.2.2.1 c.2.2.2.1/\c0<=c.2.2.1+c.2.2.2.1))
def Y1(kf:Keyed->O.α)(st:SortSt)(a b:Array Keyed)(c0:Nat)(c:T1)(st':SortSt):Prop:=Good st st'/\c.1=none/\MI kf a b c.2.1 c.2.2.1 c.2.2.2.1/\c0<=c.2.2.1+c.2.2.2.1
def R1'(kf:Keyed->O.α)(st:SortSt)(a b:Array Keyed)(c0:Nat)(r:ForInStep T1)(st':SortSt):Prop:=match r with | .done c'=>P1 kf st a b c0 c' st' | .yield c'=>Y1 kf st a b c0 c' st'
theorem b3D(T:Two D kf a b)(m:Cmp prog w A s κ D (ltK kf))(r:kindOf st=κ)(g:Good st st')(h:MI kf a b out ia ib)(q:c0<=ia+ib):wpS (model prog w) A E s (loA a b out ia ib ac bc mg) (R1' kf st a b (c0+1)) st':=by
 unfold loA;obtain⟨i,n,d⟩:=h;refine aC (B6 d λy p l=>?_);refine aC (B6 (by omega) λx f1 f2=>?_);refine aC (a0m m (g.1.trans r) (T.db _ _ p) (T.da _ _ f1) ?_);dsimp only;cases o:ltK kf y x with
 |true =>
  rw[az rfl];refine aC (B6 d λu k c=>?_);rw[l]at c;cases c;have f:=i.stepB T.sb l (U5 T.sa f2 (bZ o));rw[<-cX]at f;split
  .rename_i e;exact aJ ⟨g,.inl ⟨_,rfl,Z1 T f (eq_of_beq e)⟩⟩
  .rename_i e;have e:¬ib+1=b.size:=λz=>e (bg.mpr z);have j:MI kf a b (out.push y) ia (ib+1):=⟨f,n,by omega⟩;split
   .exact aJ ⟨g,.inr ⟨rfl,j,by show c0+1<=ia+(ib+1);omega⟩⟩
   .exact aJ ⟨g,rfl,j,by show c0+1<=ia+(ib+1);omega⟩
 |false =>
  rw[aq (by simp)];refine aC (B6 (by omega) λt k c=>?_);rw[f2]at c;cases c;have f:=i.stepA T.sa f2 (U5 T.sb l o);rw[<-cX]at f;split
  .rename_i e;exact aJ ⟨g,.inl ⟨_,rfl,Y7 T f (eq_of_beq e)⟩⟩
  .rename_i e;have e:¬ia+1+1=a.size:=λz=>e (bg.mpr z);have j:MI kf a b (out.push x) (ia+1) ib:=⟨f,by omega,d⟩;split
   .exact aJ ⟨g,.inr ⟨rfl,j,by show c0+1<=ia+1+ib;omega⟩⟩
   .exact aJ ⟨g,rfl,j,by show c0+1<=ia+1+ib;omega⟩
theorem R6{n:String}{Q:Unit->SortSt->Prop}(h:Q () st):wpS (model prog w) A E s (liftM (rule n):StateT SortSt Sem Unit) Q st:=wpS_lift (fK ⟨rfl,h⟩)
theorem a5j(T:Two D kf a b)(k:Cmp prog w A s κ D (ltK kf))(t:kindOf st=κ)(O:0<a.size)(F:0<b.size)(h0:∀y,b.toList[0]?=some y->∀x∈a.toList,leK kf y x){Q:Array Keyed->SortSt->Prop}
  (q:∀r st',D5 kf a b r->Good st st'->Q r st'):wpS (model prog w) A E s (a2G a b) Q st:=by
 rw[a6a];refine aC (R6 ?_);refine aC (B6 F λy f j=>?_);have l:MS kf a.toList b.toList (#[y]:Array Keyed).toList 0 1:=by
  have z:MS kf a.toList b.toList [] 0 0:=⟨.nil,.nil,(λ_ h=>nomatch h),λ_ h=>nomatch h⟩;exact z.stepB T.sb j (λx u=>h0 y j x u)
 have o:Good st st:=⟨rfl,rfl,rfl,rfl⟩;split
 .rename_i e;exact aJ (q _ _ (Z1 T l (eq_of_beq e)) o)
 .rename_i e;have e:¬1=b.size:=λz=>e (bg.mpr z);split
  .rename_i n;exact aJ (q _ _ (Y7 T l (eq_of_beq n)) o)
  .rename_i n;have n:¬0+1=a.size:=λz=>n (bg.mpr z);refine aC (fL ?_);refine aC (cJ (cA (I:=λx c st'=>Good st st'/\c.1=none/\MI kf a b c.2.1 c.2.2.1 c.2.2.2.1/\x+1<=c.2.2.1+c.2.2.2.1)
    (Q:=λc st'=>Good st st'/\∃r,c.1=some r/\D5 kf a b r) ?step ?fin ⟨o,rfl,⟨l,by show 0+1<a.size;omega,by show 1<b.size;omega⟩,ao _⟩) ?post)
   case post =>
    rintro c st' ⟨g,r,f,j⟩;obtain⟨L,M⟩:=c;dsimp only at f;subst f;exact aJ (q _ _ j g)
   case fin =>
    rintro c st' ⟨g,f,⟨_,h1,h2⟩,N⟩;exfalso;omega
   case step =>
    rintro x c J _ u ⟨g,f,p,G⟩;refine aC (cJ (cA (I:=λz d st'=>Y1 kf st a b (x+1+min z 1) d st') (Q:=λd st'=>P1 kf st a b (x+2) d st') ?s1 ?f1 ⟨g,rfl,p,by show x+1+min 0 1<=c.2.2.1+c.2.2.2.1;omega⟩) ?p1)
    case f1 =>
     rintro d st' ⟨g,f,h1,h2⟩;exact⟨g,.inr ⟨f,h1,by omega⟩⟩
    case s1 =>
     rintro z d st' _ H ⟨g,f,h1,h2⟩;refine cJ (b3D T k t g h1 (c0:=x+1) (by omega)) λr m i=>?_;cases r with
     |done c'=>exact i
     | «yield» c'=>exact⟨i.1,i.2.1,i.2.2.1,by have:=i.2.2.2;omega⟩
    case p1 =>
     rintro d st' ⟨g,hd⟩;obtain⟨v,B⟩:=d;rcases hd with⟨r,f,j⟩|⟨f,h1,h2⟩
     .dsimp only at f;subst f;exact aJ ⟨g,r,rfl,j⟩
     .dsimp only at f;subst f;refine aC (R6 ?_);refine aC (cJ (cA (I:=λz d st'=>Y2 kf st a b (x+2) d st') (Q:=λd st'=>P2 kf st a b (x+2) d st') ?s2 ?f2 ⟨g,rfl,h1,h2⟩) ?p2)
      case f2 =>
       rintro d st' ⟨g,f,h1,h2⟩;exact⟨g,.inr ⟨f,h1,h2⟩⟩
      case s2 =>
       rintro z d st' _ H ⟨g,f,h1,h2⟩;split
       .refine cJ (a7G T k t g h1 h2) λr m i=>?_;cases r<;>exact i
       .refine cJ (a7G T k t g h1 h2) λr m i=>?_;cases r<;>exact i
      case p2 =>
       rintro d st' ⟨g,hd⟩;obtain⟨v,B⟩:=d;rcases hd with⟨r,f,j⟩|⟨f,h1,h2⟩
       .dsimp only at f;subst f;exact aJ ⟨g,r,rfl,j⟩
       .dsimp only at f;subst f;refine aC (S4 λK C=>?_);exact aJ ⟨g.trans C,rfl,h1,h2⟩
end
section
variable {O:KeyOrd}{kf:Keyed->O.α}{la lb o:List Keyed}{na nb:Nat}
structure MH(kf:Keyed->O.α)(la lb o:List Keyed)(na nb:Nat):Prop where
 perm:o.Perm (la.drop na++lb.drop nb)
 sorted:o.Pairwise (leK kf)
 ra:∀x∈la.take na,∀y∈o,leK kf x y
 rb:∀x∈lb.take nb,∀y∈o,leK kf x y
theorem a1t{l:List Keyed}{i:Nat}{x:Keyed}(hs:l.Pairwise (leK kf))(h:l[i]?=some x):∀y∈l.take i,leK kf y x:=λy a=>by
 have:=hs.take (i:=i+1);rw[S5 h,bE]at this;exact this.2.2 y a x (aA.mpr rfl)
theorem MH.stepA{x:Keyed}(h:MH kf la lb o (na+1) nb)(hs:la.Pairwise (leK kf))(e:la[na]?=some x)(c:∀y∈lb.take nb,leK kf y x):MH kf la lb (x::o) na nb:=by
 have d:x∈la.take (na+1):=by rw[S5 e];exact aZ _ (aA.mpr rfl)
 refine⟨?_,?_,λz b y a=>?_,λz b y a=>?_⟩
 .rw[Y9 e,ff];exact h.perm.cons x
 .rw[dg];exact⟨λy a=>h.ra x d y a,h.sorted⟩
 .rcases aE.mp a with rfl|a
  .exact a1t hs e z b
  .exact h.ra z (by rw[S5 e];exact ba _ b) y a
 .rcases aE.mp a with rfl|a
  .exact c z b
  .exact h.rb z b y a
theorem MH.swap(h:MH kf la lb o na nb):MH kf lb la o nb na:=⟨h.perm.trans cK,h.sorted,h.rb,h.ra⟩
theorem MH.stepB{x:Keyed}(h:MH kf la lb o na (nb+1))(hs:lb.Pairwise (leK kf))(e:lb[nb]?=some x)(a:∀y∈la.take na,leK kf y x):MH kf la lb (x::o) na nb:=(h.swap.stepA hs e a).swap
theorem MH.bulkA(hs:la.Pairwise (leK kf)){a:Nat}:∀(k:Nat) {o:List Keyed},MH kf la lb o (a+k) nb->a+k<=la.length->(∀i x,a<=i->i<a+k->la[i]?=some x->∀y∈lb.take nb,leK kf y x)->MH kf la lb ((la.take (a+k)).drop a++o) a nb
 |0,o,h,d,_=>by
  rw[Nat.add_zero,cG (by rw[a'];omega),cM];exact h
 |k+1,o,h,d,c=>by
  obtain⟨x,b⟩:∃x,la[a+k]?=some x:=⟨_,ai (by omega)⟩;have h1:=MH.stepA (na:=a+k) h hs b (c _ x (by omega) (by omega) b);have h2:=MH.bulkA hs k h1 (by omega) λi y h1 h2 e=>c i y h1 (by omega) e;rw[show a+(k+1)=a+k+1 by omega,S5 b,dy (by rw[a'];omega),aG];exact h2
theorem MH.bulkB(hs:lb.Pairwise (leK kf)){a k:Nat}(h:MH kf la lb o na (a+k))(c:a+k<=lb.length)(b:∀i x,a<=i->i<a+k->lb[i]?=some x->∀y∈la.take na,leK kf y x):MH kf la lb ((lb.take (a+k)).drop a++o) na a :=
 (MH.bulkA hs k h.swap c b).swap
theorem MH.done(h:MH kf la lb o 0 nb)(hs:lb.Pairwise (leK kf)):a1n kf la lb (la.take 0++lb.take nb++o):=by
 rw[List.take_zero,cM];have a:=h.perm;rw[df]at a;refine⟨?_,?_⟩
 .refine(cB _ a).trans ?_;rw[<-aG];refine(List.Perm.append_right _ cK).trans ?_;rw[aG,bw]
 .rw[bE];exact⟨hs.take,h.sorted,h.rb⟩
theorem MH.firstB(h:MH kf la lb o na nb)(a:la.Pairwise (leK kf))(hs:lb.Pairwise (leK kf))(c:∀y∈lb.take nb,∀x∈la.take na,leK kf y x):a1n kf la lb (lb.take nb++la.take na++o):=by
 refine⟨?_,?_⟩
 .refine(cB _ h.perm).trans ?_;rw[aG,<-aG (la.take na),bw];refine cK.trans ?_;rw[aG];refine cB _ (cK.trans ?_);rw[bw]
 .rw[bE];refine⟨?_,h.sorted,λx d y b=>?_⟩
  .rw[bE];exact⟨hs.take,a.take,c⟩
  .rcases aO.mp d with q|q
   .exact h.rb x q y b
   .exact h.ra x q y b
end
noncomputable def a2H:Array Keyed->Array Keyed->StateT SortSt Sem (Array Keyed):=sortPriv% PySem.Builtin.mergeHi
noncomputable def P0(a b out:Array Keyed)(na nb:Nat):Array Keyed:=a.extract 0 na++b.extract 0 nb++out.reverse
noncomputable def U7(a b out:Array Keyed)(na nb:Nat):Array Keyed:=b.extract 0 nb++a.extract 0 na++out.reverse
abbrev U1:Type:=Option (Array Keyed)×Nat×Nat×Array Keyed×Nat×Nat
abbrev U2:Type:=Option (Array Keyed)×Nat×Nat×Array Keyed×Nat×Nat×Nat
noncomputable def hiD(a b:Array Keyed)(na nb:Nat)(out:Array Keyed)(mg k k1:Nat):StateT SortSt Sem (ForInStep U2) :=
 elem' a (na-1)>>=λx =>
 if (na-1==0)=true then pure (.done (some (P0 a b (out.push x) (na-1) nb),na-1,nb,out.push x,mg,k,k1))
 else if (decide (k<7) && decide (k1<7))=true then pure (.done (none,na-1,nb,out.push x,mg,k,k1))
 else pure (.yield (none,na-1,nb,out.push x,mg,k,k1))
noncomputable def hiC(a b:Array Keyed)(na nb:Nat)(out:Array Keyed)(mg k bc:Nat):StateT SortSt Sem (ForInStep U2) :=
 elem' b (nb-1)>>=λy =>
 if (nb-1==1)=true then pure (.done (some (U7 a b (out.push y) na (nb-1)),na,nb-1,out.push y,mg,k,bc))
 else elem' a (na-1)>>=λx=>R0 true x b 0 (nb-1) (nb-1-1)>>=λr =>
  match r with
  |some at_=>(if nb-1-at_ > 0 then
    (if (at_==1)=true then pure (.done (some (U7 a b (out.push y++(b.extract at_ (nb-1)).reverse) na at_),na,at_,out.push y++(b.extract at_ (nb-1)).reverse,mg,k,nb-1-at_))
    else if (at_==0)=true then pure (.done (some (P0 a b (out.push y++(b.extract at_ (nb-1)).reverse) na at_),na,at_,out.push y++(b.extract at_ (nb-1)).reverse,mg,k,nb-1-at_))
    else hiD a b na at_ (out.push y++(b.extract at_ (nb-1)).reverse) mg k (nb-1-at_))
   else hiD a b na (nb-1) (out.push y) mg k (nb-1-at_))
  |_=>pure (.done (some (P0 a b (out.push y) na (nb-1)),na,nb-1,out.push y,mg,k,bc))
noncomputable def hiB(a b:Array Keyed)(na nb:Nat)(out:Array Keyed)(mg ac bc:Nat):StateT SortSt Sem (ForInStep U2) :=
 X8 mg>>=λ_=>elem' b (nb-1)>>=λy=>R0 false y a 0 na (na-1)>>=λr =>
 match r with
 |some at_=>(if na-at_ > 0 then
   (if (at_==0)=true then pure (.done (some (P0 a b (out++(a.extract at_ na).reverse) at_ nb),at_,nb,out++(a.extract at_ na).reverse,mg,na-at_,bc))
   else hiC a b at_ nb (out++(a.extract at_ na).reverse) mg (na-at_) bc)
  else hiC a b na nb out mg (na-at_) bc)
 |_=>pure (.done (some (P0 a b out na nb),na,nb,out,mg,ac,bc))
noncomputable def hiA(a b:Array Keyed)(na nb:Nat)(out:Array Keyed)(ac bc mg:Nat):StateT SortSt Sem (ForInStep U1) :=
 elem' b (nb-1)>>=λy=>elem' a (na-1)>>=λx=>lt' y x>>=λr =>
 match r with
 |some aWins=>(if aWins=true then elem' a (na-1)>>=λx =>
   (if (na-1==0)=true then pure (.done (some (P0 a b (out.push x) (na-1) nb),na-1,nb,out.push x,ac+1,0))
   else if ac+1 ≥ mg then pure (.done (none,na-1,nb,out.push x,ac+1,0))
   else pure (.yield (none,na-1,nb,out.push x,ac+1,0)))
  else elem' b (nb-1)>>=λy =>
   (if (nb-1==1)=true then pure (.done (some (U7 a b (out.push y) na (nb-1)),na,nb-1,out.push y,0,bc+1))
   else if bc+1 ≥ mg then pure (.done (none,na,nb-1,out.push y,0,bc+1))
   else pure (.yield (none,na,nb-1,out.push y,0,bc+1))))
 |_=>pure (.done (some (P0 a b out na nb),na,nb,out,ac,bc))
theorem a6b(a b:Array Keyed):a2H a b=(do
 rule "list.sort.merge-hi"
 let y <-elem' a (a.size-1)
 if (a.size-1==0)=true then pure (P0 a b #[y] (a.size-1) b.size)
 else if (b.size==1)=true then pure (U7 a b #[y] (a.size-1) b.size)
 else do
  let g <-get
  let r <-forIn [:a.size+b.size] ((none,a.size-1,b.size,#[y],gallopOf g):Option (Array Keyed)×Nat×Nat×Array Keyed×Nat) λ_ c=>do
   let r <-forIn [:a.size+b.size] ((none,c.2.1,c.2.2.1,c.2.2.2.1,0,0):U1) λ_ d=>hiA a b d.2.1 d.2.2.1 d.2.2.2.1 d.2.2.2.2.1 d.2.2.2.2.2 c.2.2.2.2
   match r.1 with
   |some q=>pure (ForInStep.done (some q,r.2.1,r.2.2.1,r.2.2.2.1,c.2.2.2.2))
   |none=>do
    rule "list.sort.gallop"
    let t <-forIn [:a.size+b.size] ((none,r.2.1,r.2.2.1,r.2.2.2.1,c.2.2.2.2+1,r.2.2.2.2.1,r.2.2.2.2.2):U2) λ_ d =>
     if d.2.2.2.2.1 > 1 then hiB a b d.2.1 d.2.2.1 d.2.2.2.1 (d.2.2.2.2.1-1) d.2.2.2.2.2.1 d.2.2.2.2.2.2 else hiB a b d.2.1 d.2.2.1 d.2.2.2.1 d.2.2.2.2.1 d.2.2.2.2.2.1 d.2.2.2.2.2.2
    match t.1 with
    |some q=>pure (ForInStep.done (some q,t.2.1,t.2.2.1,t.2.2.2.1,t.2.2.2.2.1))
    |none=>do
     X8 (t.2.2.2.2.1+1)
     pure (ForInStep.yield (none,t.2.1,t.2.2.1,t.2.2.2.1,t.2.2.2.2.1+1))
  match r.1 with
  |some q=>pure q
  |none=>unsupported "internal:list.sort.merge-bound"):=by
 show(_>>=_)=(_>>=_);refine aL _ (funext λ_=>?_);dsimp only;refine aL _ (funext λy=>?_);refine dV rfl (λ_=>rfl) (λ_=>dV rfl (λ_=>rfl) λ_=>?_);refine aL _ (funext λg=>?_);refine congr (aL _ (aL _ (funext λ_=>funext λc=>?_))) (funext λr=>?_)
 .refine congr (aL _ (aL _ (funext λ_=>funext λd=>?_))) (funext λr=>?_)
  .rfl
  .rcases r with⟨_|q,r⟩
   .dsimp only;refine aL _ (funext λ_=>?_);refine congr (aL _ (aL _ (funext λ_=>funext λd=>?_))) (funext λr=>?_)
    .rfl
    .rcases r with⟨_|q,r⟩<;>rfl
   .rfl
 .rcases r with⟨_|q,r⟩
  .dsimp only
  .rfl
theorem a1k{α:Type}(a:Array α)(i n:Nat):(a.extract i n).toList=(a.toList.take n).drop i:=by
 rw[fg];simp[List.extract_eq_drop_take']
theorem a6u(a b out:Array Keyed)(na nb:Nat):(P0 a b out na nb).toList=a.toList.take na++b.toList.take nb++out.toList.reverse:=by
 unfold P0;rw[cc,cc,a1k,a1k,gj,df,df]
theorem a4U(a b out:Array Keyed)(na nb:Nat):(U7 a b out na nb).toList=b.toList.take nb++a.toList.take na++out.toList.reverse:=by
 unfold U7;rw[cc,cc,a1k,a1k,gj,df,df]
theorem a0B(out:Array Keyed)(x:Keyed):(out.push x).toList.reverse=x::out.toList.reverse:=by
 rw[cX,List.reverse_append];rfl
theorem a9b(out a:Array Keyed)(i n:Nat):(out++(a.extract i n).reverse).toList.reverse=(a.toList.take n).drop i++out.toList.reverse:=by
 rw[cc,List.reverse_append,gj,List.reverse_reverse,a1k]
section
variable {prog:Program}{w:World}{A:Around}{E:Value->Shared->Prop}{s:Shared}{κ:SortKind}{D:Keyed->Prop}{O:KeyOrd}{kf:Keyed->O.α}{a b out:Array Keyed}{na nb:Nat}{st:SortSt}
def a4h(kf:Keyed->O.α)(a b:Array Keyed):Prop:=∀y,b.toList[0]?=some y->∀x∈a.toList,ltK kf y x=true
theorem T8{l:List Keyed}{i:Nat}{x z:Keyed}(hs:l.Pairwise (leK kf))(e:l[i]?=some x)(h:leK kf x z):∀y∈l.take (i+1),leK kf y z:=λy a=>by
 rw[S5 e]at a;rcases aO.mp a with a|a
 .exact bW (a1t hs e y a) h
 .rw[aA.mp a];exact h
def MJ(kf:Keyed->O.α)(a b out:Array Keyed)(na nb:Nat):Prop:=MH kf a.toList b.toList out.toList.reverse na nb/\1<=na/\2<=nb/\na<=a.size/\nb<=b.size
theorem Z2(T:Two D kf a b)(h:MH kf a.toList b.toList out.toList.reverse na nb)(hi:na=0):D5 kf a b (P0 a b out na nb):=by
 subst hi;unfold D5;rw[a6u];exact h.done T.sb
theorem U6(T:Two D kf a b)(F:a4h kf a b)(h:MH kf a.toList b.toList out.toList.reverse na nb)(hi:nb=1)(d:0<b.size):D5 kf a b (U7 a b out na nb):=by
 subst hi;unfold D5;rw[a4U];refine h.firstB T.sa T.sb λy c x f=>?_;have e:b.toList[0]?=some (b.getD 0 (Value.none,Value.none)):=by rw[av];exact gdK b d
 rw[S5 e,List.take_zero,cM,aA]at c;rw[c];exact bZ (F _ e x (cm f))
def P4(kf:Keyed->O.α)(st:SortSt)(a b:Array Keyed)(c0:Nat)(c:U2)(st':SortSt):Prop:=Good st st'/\((∃r,c.1=some r/\D5 kf a b r)∨(c.1=none/\MJ kf a b c.2.2.2.1 c.2.1 c.2.2.1/\c.2.1+c.2.2.1+c0<=a.size+b.size))
def Y4(kf:Keyed->O.α)(st:SortSt)(a b:Array Keyed)(c0:Nat)(c:U2)(st':SortSt):Prop:=Good st st'/\c.1=none/\MJ kf a b c.2.2.2.1 c.2.1 c.2.2.1/\c.2.1+c.2.2.1+c0<=a.size+b.size
def R4(kf:Keyed->O.α)(st:SortSt)(a b:Array Keyed)(c0:Nat)(r:ForInStep U2)(st':SortSt):Prop:=match r with | .done c'=>P4 kf st a b c0 c' st' | .yield c'=>Y4 kf st a b c0 c' st'
variable {c0 mg k k1 bc ac:Nat}{st':SortSt}
theorem a7H(T:Two D kf a b)(g:Good st st')(h:MJ kf a b out na nb)(j:∀x,a.toList[na-1]?=some x->∀y∈b.toList.take nb,leK kf y x)(o:na+nb+c0<=a.size+b.size):wpS (model prog w) A E s (hiD a b na nb out mg k k1) (R4 kf st a b c0) st':=by
 unfold hiD;obtain⟨f,h1,h2,p,m⟩:=h;refine aC (B6 (by omega) λx l c=>?_);obtain⟨n,rfl⟩:∃n,na=n+1:=⟨na-1,by omega⟩;rw[fD]at l c j⊢;have d:=f.stepA T.sa c (j x c);rw[<-a0B]at d;split
 .rename_i e;exact aJ ⟨g,.inl ⟨_,rfl,Z2 T d (eq_of_beq e)⟩⟩
 .rename_i e;have e:¬n=0:=λz=>e (bg.mpr z);have i:MJ kf a b (out.push x) n nb:=⟨d,by omega,h2,by omega,m⟩;split
  .exact aJ ⟨g,.inr ⟨rfl,i,by show n+nb+c0<=_;omega⟩⟩
  .exact aJ ⟨g,rfl,i,by show n+nb+c0<=_;omega⟩
theorem a7I(T:Two D kf a b)(F:a4h kf a b)(u:Cmp prog w A s κ D (ltK kf))(R:kindOf st=κ)(g:Good st st')(h:MJ kf a b out na nb)(J:∀y,b.toList[nb-1]?=some y->∀x∈a.toList.take na,leK kf x y)(P:na+nb+c0<=a.size+b.size):wpS (model prog w) A E s (hiC a b na nb out mg k bc) (R4 kf st a b c0) st':=by
 unfold hiC;obtain⟨C,h1,h2,I,X⟩:=h;refine aC (B6 (by omega) λy L r=>?_);obtain⟨m,rfl⟩:∃m,nb=m+1:=⟨nb-1,by omega⟩;rw[fD]at L r J⊢;have p:=C.stepB T.sb r (J y r);rw[<-a0B]at p;split
 .rename_i e;exact aJ ⟨g,.inl ⟨_,rfl,U6 T F p (eq_of_beq e) (by omega)⟩⟩
 .rename_i e;have e:¬m=1:=λz=>e (bg.mpr z);refine aC (B6 (by omega) λx f1 f2=>?_);refine aC (L4 u (g.1.trans R) (T.da _ _ f1) (λi=>ltK kf (b.getD (0+i) (Value.none,Value.none)) x) (λi hi=>⟨_,gdK b (by omega),T.db _ _ (gdK b (by omega)),rfl⟩) (λi j Q v O=>?_) (by omega) λc Z V K=>?_)
  .refine fC (Y5 T.sb (i:=0+i) (j:=0+j) (by omega) ?_ ?_) O
   .rw[av];exact gdK b (by omega)
   .rw[av];exact gdK b (by omega)
  .dsimp only;have N:1<=c:=by
    refine Nat.pos_of_ne_zero λz=>?_;have:=K 0 (by omega) (by omega);have M:=F (b.getD 0 (Value.none,Value.none)) (by rw[av];exact gdK b (by omega)) x (aF f2);rw[dH]at this;rw[M]at this;cases this
   have d:∀o,a.toList[na-1]?=some o->∀f,f=c->∀y∈b.toList.take f,leK kf y o:=λo ex' f W=>by
    rw[f2]at ex';cases ex';obtain⟨n,S⟩:∃n,f=n+1:=⟨f-1,by omega⟩;rw[S];have t:b.toList[n]?=some (b.getD n (Value.none,Value.none)):=by rw[av];exact gdK b (by omega)
    refine T8 T.sb t (bZ ?_);have:=V n (by omega);rw[dH]at this;exact this
   split
   .obtain⟨j,v⟩:∃j,m=c+j:=⟨m-c,by omega⟩;have l:MH kf a.toList b.toList ((b.toList.take (c+j)).drop c++(out.push y).toList.reverse) na c:=by
     rw[v]at p;refine MH.bulkB T.sb p (by rw[ay];omega) λi z U Y H=>?_;have:=K i U (by omega);rw[dH]at this;rw[av,gdK b (by omega)]at H;cases H;have B:leK kf x (b.getD i (Value.none,Value.none)):=this;have:=T8 T.sa f2 B;rwa[show na-1+1=na by omega]at this
    rw[<-v,<-a9b]at l;split
    .rename_i q;exact aJ ⟨g,.inl ⟨_,rfl,U6 T F l (eq_of_beq q) (by omega)⟩⟩
    .rename_i q;have q:¬c=1:=λz=>q (bg.mpr z);split
     .rename_i G;have G:=eq_of_beq G;omega
     .exact a7H T g ⟨l,h1,by omega,I,by omega⟩ (λo ex'=>d o ex' _ rfl) (by omega)
   .exact a7H T g ⟨p,h1,by omega,I,by omega⟩ (λo ex'=>d o ex' _ (by omega)) (by omega)
theorem a7J(T:Two D kf a b)(F:a4h kf a b)(l:Cmp prog w A s κ D (ltK kf))(t:kindOf st=κ)(g:Good st st')(h:MJ kf a b out na nb)(q:na+nb+c0<=a.size+b.size):wpS (model prog w) A E s (hiB a b na nb out mg ac bc) (R4 kf st a b c0) st':=by
 unfold hiB;obtain⟨m,h1,h2,L,H⟩:=h;refine aC (S4 λS K=>?_);have g:=g.trans K;refine aC (B6 (by omega) λy J B=>?_);refine aC (L4 l (g.1.trans t) (T.db _ _ J) (λi=>!(ltK kf y (a.getD (0+i) (Value.none,Value.none)))) (λi hi=>⟨_,gdK a (by omega),T.da _ _ (gdK a (by omega)),rfl⟩) (λi j M r I=>?_) (by omega) λc V Q R=>?_)
 .have hle:leK kf (a.getD (0+j) (Value.none,Value.none)) y:=by
   unfold leK KeyOrd.kle;unfold ltK at I;simpa using I
  have:=bW (Y5 T.sa (i:=0+i) (j:=0+j) (by omega) (by rw[av];exact gdK a (by omega)) (by rw[av];exact gdK a (by omega))) hle;unfold KeyOrd.kle at this;unfold ltK;rw[this];rfl
 .dsimp only;have f:∀d,d=c->∀v,b.toList[nb-1]?=some v->∀x∈a.toList.take d,leK kf x v:=λd e v C=>by
   rw[B]at C;cases C;subst e;by_cases N:d=0
   .rw[N,List.take_zero];exact λ_ z=>nomatch z
   obtain⟨n,rfl⟩:∃n,d=n+1:=⟨d-1,by omega⟩;have p:a.toList[n]?=some (a.getD n (Value.none,Value.none)):=by rw[av];exact gdK a (by omega)
   refine T8 T.sa p ?_;have:=Q n (by omega);rw[dH]at this;unfold leK KeyOrd.kle;unfold ltK at this;simpa using this
  split
  .obtain⟨j,r⟩:∃j,na=c+j:=⟨na-c,by omega⟩;have k:MH kf a.toList b.toList ((a.toList.take (c+j)).drop c++out.toList.reverse) c nb:=by
    rw[r]at m;refine MH.bulkA T.sa j m (by rw[ay];omega) λi z P U G=>?_;have:=R i P (by omega);rw[dH]at this;rw[av,gdK a (by omega)]at G;cases G;have u:O.klt (kf y) (kf (a.getD i (Value.none,Value.none))):=by
     unfold KeyOrd.klt;unfold ltK at this;simpa using this
    have:=T8 T.sb B (bZ u);rwa[show nb-1+1=nb by omega]at this
   rw[<-r,<-a9b]at k;split
   .rename_i o;exact aJ ⟨g,.inl ⟨_,rfl,Z2 T k (eq_of_beq o)⟩⟩
   .rename_i o;have o:¬c=0:=λz=>o (bg.mpr z);exact a7I T F l t g ⟨k,by omega,h2,by omega,H⟩ (f _ rfl) (by omega)
  .exact a7I T F l t g ⟨m,h1,h2,L,H⟩ (f _ (by omega)) q
def P3(kf:Keyed->O.α)(st:SortSt)(a b:Array Keyed)(c0:Nat)(c:U1)(st':SortSt):Prop:=Good st st'/\((∃r,c.1=some r/\D5 kf a b r)∨(c.1=none/\MJ kf a b c.2.2.2.1 c.2.1 c.2.2.1/\c.2.1+c.2.2.1+c0<=a.size+b.size))
def Y3(kf:Keyed->O.α)(st:SortSt)(a b:Array Keyed)(c0:Nat)(c:U1)(st':SortSt):Prop:=Good st st'/\c.1=none/\MJ kf a b c.2.2.2.1 c.2.1 c.2.2.1/\c.2.1+c.2.2.1+c0<=a.size+b.size
def R3(kf:Keyed->O.α)(st:SortSt)(a b:Array Keyed)(c0:Nat)(r:ForInStep U1)(st':SortSt):Prop:=match r with | .done c'=>P3 kf st a b c0 c' st' | .yield c'=>Y3 kf st a b c0 c' st'
theorem b3E(T:Two D kf a b)(F:a4h kf a b)(l:Cmp prog w A s κ D (ltK kf))(u:kindOf st=κ)(g:Good st st')(h:MJ kf a b out na nb)(t:na+nb+c0<=a.size+b.size):wpS (model prog w) A E s (hiA a b na nb out ac bc mg) (R3 kf st a b (c0+1)) st':=by
 unfold hiA;obtain⟨f,h1,h2,q,r⟩:=h;refine aC (B6 (by omega) λy o j=>?_);refine aC (B6 (by omega) λx f1 f2=>?_);refine aC (a0m l (g.1.trans u) (T.db _ _ o) (T.da _ _ f1) ?_);dsimp only;obtain⟨n,rfl⟩:∃n,na=n+1:=⟨na-1,by omega⟩;obtain⟨m,rfl⟩:∃m,nb=m+1:=⟨nb-1,by omega⟩;rw[fD]at o j f1 f2⊢;rw[fD];cases p:ltK kf y x with
 |true =>
  rw[az rfl];refine aC (B6 (by omega) λv k c=>?_);rw[f2]at c;cases c;have d:=f.stepA T.sa f2 (T8 T.sb j (bZ p));rw[<-a0B]at d;split
  .rename_i e;exact aJ ⟨g,.inl ⟨_,rfl,Z2 T d (eq_of_beq e)⟩⟩
  .rename_i e;have e:¬n=0:=λz=>e (bg.mpr z);have i:MJ kf a b (out.push x) n (m+1):=⟨d,by omega,h2,by omega,r⟩;split
   .exact aJ ⟨g,.inr ⟨rfl,i,by show n+(m+1)+(c0+1)<=_;omega⟩⟩
   .exact aJ ⟨g,rfl,i,by show n+(m+1)+(c0+1)<=_;omega⟩
 |false =>
  rw[aq (by simp)];refine aC (B6 (by omega) λB k c=>?_);rw[j]at c;cases c;have d:=f.stepB T.sb j (T8 T.sa f2 p);rw[<-a0B]at d;split
  .rename_i e;exact aJ ⟨g,.inl ⟨_,rfl,U6 T F d (eq_of_beq e) (by omega)⟩⟩
  .rename_i e;have e:¬m=1:=λz=>e (bg.mpr z);have i:MJ kf a b (out.push y) (n+1) m:=⟨d,h1,by omega,q,by omega⟩;split
   .exact aJ ⟨g,.inr ⟨rfl,i,by show n+1+m+(c0+1)<=_;omega⟩⟩
   .exact aJ ⟨g,rfl,i,by show n+1+m+(c0+1)<=_;omega⟩
theorem a5k(T:Two D kf a b)(F:a4h kf a b)(k:Cmp prog w A s κ D (ltK kf))(t:kindOf st=κ)(P:0<a.size)(G:0<b.size){Q:Array Keyed->SortSt->Prop}
  (q:∀r st',D5 kf a b r->Good st st'->Q r st'):wpS (model prog w) A E s (a2H a b) Q st:=by
 rw[a6b];refine aC (R6 ?_);refine aC (B6 (by omega) λy f j=>?_);have l:MH kf a.toList b.toList (#[y]:Array Keyed).toList.reverse (a.size-1) b.size:=by
  have z:MH kf a.toList b.toList [] (a.size-1+1) b.size:=by
   refine⟨?_,.nil,(λ_ _ _ h=>nomatch h),λ_ _ _ h=>nomatch h⟩;rw[cG (by rw[ay];omega),cG (by rw[ay];omega)];exact .nil
  exact z.stepA T.sa j (λx u=>bZ (T.last x (cm u) y f))
 have o:Good st st:=⟨rfl,rfl,rfl,rfl⟩;split
 .rename_i e;exact aJ (q _ _ (Z2 T l (eq_of_beq e)) o)
 .rename_i e;have e:¬a.size-1=0:=λz=>e (bg.mpr z);split
  .rename_i n;exact aJ (q _ _ (U6 T F l (eq_of_beq n) G) o)
  .rename_i n;have n:¬b.size=1:=λz=>n (bg.mpr z);refine aC (fL ?_);refine aC (cJ (cA (I:=λx c st'=>Good st st'/\c.1=none/\MJ kf a b c.2.2.2.1 c.2.1 c.2.2.1/\c.2.1+c.2.2.1+(x+1)<=a.size+b.size)
    (Q:=λc st'=>Good st st'/\∃r,c.1=some r/\D5 kf a b r) ?step ?fin ⟨o,rfl,⟨l,by show 1<=a.size-1;omega,by show 2<=b.size;omega,by show a.size-1<=a.size;omega,ao _⟩,by show a.size-1+b.size+(0+1)<=_;omega⟩) ?post)
   case post =>
    rintro c st' ⟨g,r,f,j⟩;obtain⟨M,N⟩:=c;dsimp only at f;subst f;exact aJ (q _ _ j g)
   case fin =>
    rintro c st' ⟨g,f,⟨_,h1,h2,_⟩,O⟩;exfalso;omega
   case step =>
    rintro x c K _ u ⟨g,f,p,H⟩;refine aC (cJ (cA (I:=λz d st'=>Y3 kf st a b (x+1+min z 1) d st') (Q:=λd st'=>P3 kf st a b (x+2) d st') ?s1 ?f1 ⟨g,rfl,p,by show c.2.1+c.2.2.1+(x+1+min 0 1)<=_;omega⟩) ?p1)
    case f1 =>
     rintro d st' ⟨g,f,h1,h2⟩;exact⟨g,.inr ⟨f,h1,by omega⟩⟩
    case s1 =>
     rintro z d st' _ J ⟨g,f,h1,h2⟩;refine cJ (b3E T F k t g h1 (c0:=x+1) (by omega)) λr m i=>?_;cases r with
     |done c'=>exact i
     | «yield» c'=>exact⟨i.1,i.2.1,i.2.2.1,by have:=i.2.2.2;omega⟩
    case p1 =>
     rintro d st' ⟨g,hd⟩;obtain⟨v,B⟩:=d;rcases hd with⟨r,f,j⟩|⟨f,h1,h2⟩
     .dsimp only at f;subst f;exact aJ ⟨g,r,rfl,j⟩
     .dsimp only at f;subst f;refine aC (R6 ?_);refine aC (cJ (cA (I:=λz d st'=>Y4 kf st a b (x+2) d st') (Q:=λd st'=>P4 kf st a b (x+2) d st') ?s2 ?f2 ⟨g,rfl,h1,h2⟩) ?p2)
      case f2 =>
       rintro d st' ⟨g,f,h1,h2⟩;exact⟨g,.inr ⟨f,h1,h2⟩⟩
      case s2 =>
       rintro z d st' _ J ⟨g,f,h1,h2⟩;split
       .refine cJ (a7J T F k t g h1 h2) λr m i=>?_;cases r<;>exact i
       .refine cJ (a7J T F k t g h1 h2) λr m i=>?_;cases r<;>exact i
      case p2 =>
       rintro d st' ⟨g,hd⟩;obtain⟨v,B⟩:=d;rcases hd with⟨r,f,j⟩|⟨f,h1,h2⟩
       .dsimp only at f;subst f;exact aJ ⟨g,r,rfl,j⟩
       .dsimp only at f;subst f;refine aC (S4 λL C=>?_);exact aJ ⟨g.trans C,rfl,h1,h2⟩
end
noncomputable def a6R(arr merged:Array Keyed)(sa:Nat):Array Keyed:=merged.toList.zipIdx.foldl (λa (p,j)=>a.setIfInBounds (sa+j) p) arr
noncomputable def mgC(sa:Nat)(merged:Array Keyed):StateT SortSt Sem Bool :=
 (modify λs=>SortSt.mk' (kindOf s) (a6R (arrOf s) merged sa) (pendingOf s) (gallopOf s) (failedOf s))>>=λ_=>get>>=λs=>pure (failedOf s).isNone
noncomputable def mgB(s:SortSt)(sa na sb nb:Nat):StateT SortSt Sem Bool :=
 elem' (arrOf s) (sa+na-1)>>=λx=>R0 true x (arrOf s) sb nb (nb-1)>>=λr=>match r with
 |some n=>(if (n==0)=true then pure true
  else if na<=n then a2G ((arrOf s).extract sa sb) ((arrOf s).extract sb (sb+n))>>=mgC sa
  else a2H ((arrOf s).extract sa sb) ((arrOf s).extract sb (sb+n))>>=mgC sa)
 |_=>pure false
noncomputable def mgA(s:SortSt)(sa na sb nb:Nat):StateT SortSt Sem Bool :=
 elem' (arrOf s) sb>>=λy=>R0 false y (arrOf s) sa na 0>>=λr=>match r with
 |some k=>(if (na-k==0)=true then pure true else mgB s (sa+k) (na-k) sb nb)
 |_=>pure false
theorem a6c(i:Nat):mergeAt' i=(get>>=λs=>match ((pendingOf s)[i]?,(pendingOf s)[i+1]?)with
 |(some (sa,na,pw),some (sb,nb,_))=>set (SortSt.mk' (kindOf s) (arrOf s) (((pendingOf s).setIfInBounds i (sa,na+nb,pw)).eraseIdxIfInBounds (i+1)) (gallopOf s) (failedOf s))>>=λ_=>mgA s sa na sb nb
 |_=>liftM (unsupported "internal:list.sort.pending" : Sem Bool)):=by
 show(_>>=_)=(_>>=_);refine aL _ (funext λs=>?_);dsimp only;rcases(pendingOf s)[i]? with _|⟨sa,na,pw⟩
 .rfl
 rcases(pendingOf s)[i+1]? with _|⟨sb,nb,pw2⟩
 .rfl
 dsimp only;refine aL _ (funext λ_=>?_);unfold mgA;refine aL _ (funext λy=>?_);refine aL _ (funext λr=>?_);rcases r with _|k
 .rfl
 dsimp only;refine dV rfl (λ_=>rfl) λ_=>?_;unfold mgB;refine aL _ (funext λx=>?_);refine aL _ (funext λr=>?_);rcases r with _|n
 .rfl
 rfl
theorem a3Q:∀(l:List Keyed) (arr:Array Keyed) (b j:Nat),b+j+l.length<=arr.size ->
  ((l.zipIdx j).foldl (λa (p:Keyed×Nat)=>a.setIfInBounds (b+p.2) p.1) arr).toList=arr.toList.take (b+j)++l++arr.toList.drop (b+j+l.length)
 |[],arr,b,j,h=>by simp
 |x::l,arr,b,j,h=>by
  rw[aN]at h;rw[List.zipIdx_cons,dm,a3Q l _ b (j+1) (by rw[fE];omega)];rw[Array.toList_setIfInBounds];have c:b+j<arr.toList.length:=by rw[ay];omega
  rw[aN,show b+(j+1)=b+j+1 by omega];rw[List.take_set,List.drop_set_of_lt (by omega)];rw[List.take_succ_eq_append_getElem c,List.set_append_right _ _ (by rw[a'];omega)];rw[a',show b+j-min (b+j) arr.toList.length=0 by omega];simp[aG];congr 1;omega
theorem a5I(arr a:Array Keyed)(b:Nat)(h:b+a.size<=arr.size):(a6R arr a b).toList=arr.toList.take b++a.toList++arr.toList.drop (b+a.size):=by
 have:=a3Q a.toList arr b 0 (by rw[ay];omega);rw[Nat.add_zero,ay]at this;exact this
theorem b3C{M:Model}{A:Around}{E:Value->Shared->Prop}{s:Shared}{σ:Type}{st a:σ}{Q:PUnit->σ->Prop}(h:Q ⟨⟩ a):wpS M A E s (set a:StateT σ Sem PUnit) Q st:=by
 unfold wpS;rw[StateT.run_set];exact ae ⟨rfl,h⟩
section
variable {prog:Program}{w:World}{A:Around}{E:Value->Shared->Prop}{s:Shared}{κ:SortKind}{D:Keyed->Prop}{O:KeyOrd}{kf:Keyed->O.α}{st:SortSt}
structure Runs2(kf:Keyed->O.α)(D:Keyed->Prop)(arr:Array Keyed)(P LA LB R:List Keyed):Prop where
 eq:arr.toList=P++LA++LB++R
 d:∀x∈arr.toList,D x
 sa:LA.Pairwise (leK kf)
 sb:LB.Pairwise (leK kf)
 na:0<LA.length
 nb:0<LB.length
variable {arr:Array Keyed}{P LA LB R:List Keyed}
theorem Runs2.atA(h:Runs2 kf D arr P LA LB R){i:Nat}(hi:i<LA.length):arr[P.length+i]?=LA[i]?:=by
 rw[<-av,h.eq,aG,aG,aX (by omega),br (by omega)];congr 1;omega
theorem Runs2.atB(h:Runs2 kf D arr P LA LB R){i:Nat}(hi:i<LB.length):arr[P.length+LA.length+i]?=LB[i]?:=by
 rw[<-av,h.eq,aG,aX (by rw[ax];omega),br (by rw[ax];omega)];congr 1;rw[ax];omega
theorem Runs2.dA(h:Runs2 kf D arr P LA LB R):∀x∈LA,D x:=λx a=>h.d x (by rw[h.eq];simp[a])
theorem Runs2.dB(h:Runs2 kf D arr P LA LB R):∀x∈LB,D x:=λx a=>h.d x (by rw[h.eq];simp[a])
theorem Runs2.size(h:Runs2 kf D arr P LA LB R):arr.size=P.length+LA.length+LB.length+R.length:=by
 rw[<-ay,h.eq];simp[el]
theorem Runs2.extA(h:Runs2 kf D arr P LA LB R)(k:Nat):(arr.extract (P.length+k) (P.length+LA.length)).toList=LA.drop k:=by
 rw[a1k,h.eq,aG (P++LA),eJ (by simp)];rw[ck (by simp),List.drop_append,cG (by omega),cM];congr 1;omega
theorem Runs2.extB(h:Runs2 kf D arr P LA LB R){k:Nat}(a:k<=LB.length):(arr.extract (P.length+LA.length) (P.length+LA.length+k)).toList=LB.take k:=by
 rw[a3f,h.eq,aG,dy (by simp),cG (by simp),cM,eJ a]
theorem a5l{i pw a9:Nat}{Q:Bool->SortSt->Prop}(G:Cmp prog w A s κ D (ltK kf))(hk:kindOf st=κ)(h:Runs2 kf D (arrOf st) P LA LB R)(hp:(pendingOf st)[i]?=some (P.length,LA.length,pw))(a7:(pendingOf st)[i+1]?=some (P.length+LA.length,LB.length,a9))(hf:failedOf st=none)
  (q:∀(st':SortSt) (M:List Keyed),kindOf st'=κ->failedOf st'=none->pendingOf st'=((pendingOf st).setIfInBounds i (P.length,LA.length+LB.length,pw)).eraseIdxIfInBounds (i+1)->a1n kf LA LB M->(arrOf st').toList=P++M++R->Q true st'):wpS (model prog w) A E s (mergeAt' i) Q st:=by
 rw[a6c];refine aC (fL ?_);rw[hp,a7];dsimp only;refine aC (b3C ?_);unfold mgA;have m:=heq_of_eq h.size;have a0:=h.na;have S:=h.nb;generalize f:SortSt.mk' (kindOf st) (arrOf st) (((pendingOf st).setIfInBounds i (P.length,LA.length+LB.length,pw)).eraseIdxIfInBounds (i+1)) (gallopOf st) (failedOf st)=d;have k2:kindOf d=κ:=by rw[<-f];exact hk
 have a2:arrOf d=arrOf st:=by rw[<-f]
 have p2:pendingOf d=((pendingOf st).setIfInBounds i (P.length,LA.length+LB.length,pw)).eraseIdxIfInBounds (i+1):=by rw[<-f]
 have f2:failedOf d=none:=by rw[<-f];exact hf
 have B:LA++LB=LA++LB->(∀x∈LA,∀y∈LB,leK kf x y)->Q true d:=λ_ a6=>by
  refine q d (LA++LB) k2 f2 p2 ⟨.refl _,bE.mpr ⟨h.sa,h.sb,a6⟩⟩ ?_;rw[a2,h.eq];simp[aG]
 refine aC (B6 (by have:=cS m;omega) λy e1 _=>?_);have ey:LB[0]?=some y:=by rw[<-h.atB S];exact e1
 have a3:∀z∈LB,leK kf y z:=U5 h.sb ey (cF _);have W:∀i,i<LA.length->(arrOf st)[P.length+i]?=some (LA.getD i (Value.none,Value.none))/\LA[i]?=some (LA.getD i (Value.none,Value.none)):=λi hi=>by
  have:LA[i]?=some (LA.getD i (Value.none,Value.none)):=by rw[ak,ai hi];rfl
  exact⟨by rw[h.atA hi];exact this,this⟩
 have X:∀i,i<LB.length->(arrOf st)[P.length+LA.length+i]?=some (LB.getD i (Value.none,Value.none))/\LB[i]?=some (LB.getD i (Value.none,Value.none)):=λi hi=>by
  have:LB[i]?=some (LB.getD i (Value.none,Value.none)):=by rw[ak,ai hi];rfl
  exact⟨by rw[h.atB hi];exact this,this⟩
 have t:∀{u v:Keyed},(!(ltK kf u v))=true->leK kf v u:=λ{u v} z=>by
  unfold leK KeyOrd.kle;unfold ltK at z;simpa using z
 refine aC (L4 G k2 (h.dB _ (aF ey)) (λi=>!(ltK kf y (LA.getD i (Value.none,Value.none)))) (λi hi=>⟨_,(W i hi).1,h.dA _ (aF (W i hi).2),rfl⟩) (λi j N c hb=>?_) a0 λk q1 q2 q3=>?_)
 .have:=bW (Y5 h.sa N (W i (by omega)).2 (W j c).2) (t hb);unfold KeyOrd.kle at this;unfold ltK;rw[this];rfl
 .dsimp only;have Z:∀x∈LA.take k,leK kf x y:=λx hx=>by
   obtain⟨j,c,e⟩:=bC.mp hx;rw[a']at c;have o:=aM c (Nat.min_le_right _ _);have:=t (q2 j (aM c (Nat.min_le_left _ _)));have a:=(W j o).2;rw[fQ]at e;rw[ai o,e]at a;injection a with a
   rw[a];exact this
  split
  .rename_i e;have e:=eq_of_beq e;refine aJ (B rfl λx hx z l=>bW (Z x ?_) (a3 z l));rw[ck (by omega)];exact hx
  .rename_i e;replace e:k<LA.length:=Nat.lt_of_sub_ne_zero λz=>e (bg.mpr z);clear q1;have a4:∀x∈LA.drop k,ltK kf y x=true:=λx hx=>by
    obtain⟨j,c,e⟩:=bC.mp hx;rw[cq]at c;rw[fR]at e;clear m S;have O:k+j<LA.length:=by omega
    have:=q3 (k+j) (cu _ _) O;have a:=(W (k+j) O).2;rw[ai O,e]at a;injection a with a
    rw[a];simpa using this
   unfold mgB;refine aC (B6 (by have:=cS m;omega) λx f1 _=>?_);rw[show P.length+k+(LA.length-k)-1=P.length+(LA.length-1) by omega]at f1;have ex:LA[LA.length-1]?=some x:=by rw[<-h.atA (by omega)];exact f1
   have V:∀z∈LA,leK kf z x:=λz l=>by
    have:=T8 h.sa ex (cF _) z;rw[show LA.length-1+1=LA.length by omega,bq]at this;exact this l
   refine aC (L4 G k2 (h.dA _ (aF ex)) (λi=>ltK kf (LB.getD i (Value.none,Value.none)) x) (λi hi=>⟨_,(X i hi).1,h.dB _ (aF (X i hi).2),rfl⟩) (λi j N c hb=>?_) (by omega) λn r1 r2 r3=>?_)
   .exact fC (Y5 h.sb N (X i (by omega)).2 (X j c).2) hb
   .dsimp only;have L:∀z∈LB.drop n,leK kf x z:=λz l=>by
     obtain⟨j,c,e⟩:=bC.mp l;rw[cq]at c;rw[fR]at e;have U:n+j<LB.length:=by clear m a0 S;omega
     have:=r3 (n+j) (cu _ _) U;have a:=(X (n+j) U).2;rw[ai U,e]at a;injection a with a
     rw[a];exact this
    have a5:∀z∈LB.take n,ltK kf z x=true:=λz l=>by
     obtain⟨j,c,e⟩:=bC.mp l;rw[a']at c;rw[fQ]at e;have o:=aM c (Nat.min_le_right _ _);have:=r2 j (aM c (Nat.min_le_left _ _));have a:=(X j o).2;rw[ai o,e]at a;injection a with a
     rw[a];exact this
    split
    .rename_i e;have e:=eq_of_beq e;refine aJ (B rfl λu p z l=>bW (V u p) (L z ?_));rw[e,df];exact l
    .rename_i Y;replace Y:0<n:=Nat.pos_of_ne_zero λz=>Y (bg.mpr z);have J:=h.extA k;have K:=h.extB r1;generalize b1:(arrOf st).extract (P.length+k) (P.length+LA.length)=Xa at J;generalize b2:(arrOf st).extract (P.length+LA.length) (P.length+LA.length+n)=Ya at K;have sX:=heq_of_eq (show Xa.size=LA.length-k by rw[<-ay,J,cq]);have sY:=heq_of_eq (show Ya.size=n by rw[<-ay,K,a',dO r1]);have T:Two D kf Xa Ya:=by
      refine⟨λi z C=>?_,λi z C=>?_,by rw[J];exact h.sa.drop,by rw[K];exact h.sb.take,λz l u eu=>?_⟩
      .refine h.dA z (dq (i:=k) ?_);rw[<-J];rw[<-av]at C;exact aF C
      .refine h.dB z (cm (i:=n) ?_);rw[<-K];rw[<-av]at C;exact aF C
      .rw[K]at l;rw[<-av,J,fB,cS sX,show k+(LA.length-k-1)=LA.length-1 by omega,ex]at eu;cases eu;exact a5 z l
     have F:a4h kf Xa Ya:=λz C u p=>by
      rw[K,dk Y,ey]at C;cases C;rw[J]at p;exact a4 u p
     have fin:∀(r:Array Keyed) (b:SortSt),D5 kf Xa Ya r->Good d b->wpS (model prog w) A E s (mgC (P.length+k) r) Q b:=λr b hr g=>by
      unfold mgC;obtain⟨H,a8⟩:=hr;rw[J,K]at H;have a1:=heq_of_eq (show r.size=LA.length-k+n by
       have:=H.length_eq;rw[ax,cq,a',ay,dO r1]at this;exact this)
      refine aC (wpS_modify (aC (fL (aJ ?_))));show Q (failedOf b).isNone _;rw[g.2.2.2,f2];have I:∀z∈r.toList,z∈LA.drop k∨z∈LB.take n:=λz l=>aO.mp (H.mem_iff.mp l);refine q _ (LA.take k++r.toList++LB.drop n) (g.1.trans k2) rfl (g.2.2.1.trans p2) ⟨?_,?_⟩ ?_
      .refine((cB _ H).append_right _).trans ?_;rw[<-aG (LA.take k),bw,aG,bw]
      .have sAk:∀u∈LA.take k,∀v∈LA.drop k,leK kf u v:=by
        have:=h.sa;rw[<-bw k LA,bE]at this;exact this.2.2
       have b0:∀u∈LB.take n,∀v∈LB.drop n,leK kf u v:=by
        have:=h.sb;rw[<-bw n LB,bE]at this;exact this.2.2
       rw[bE,bE];refine⟨⟨h.sa.take,a8,λu p v hv=>?_⟩,h.sb.drop,λu p v hv=>?_⟩
       .rcases I v hv with z|z
        .exact sAk u p v z
        .exact bW (Z u p) (a3 v (cm z))
       .rcases aO.mp p with z|z
        .exact bW (V u (cm z)) (L v hv)
        .rcases I u z with z|z
         .exact bW (V u (dq z)) (L v hv)
         .exact b0 u z v hv
      .show(a6R (arrOf b) r (P.length+k)).toList=_;rw[g.2.1,a2,a5I _ _ _ (by rw[cS a1,cS m];clear m;omega),h.eq,cS a1];have e1:(P++LA++LB++R).take (P.length+k)=P++LA.take k:=by
        rw[aG,aG,List.take_append,ck (by omega),show P.length+k-P.length=k by omega,eJ (by omega)]
       have a:(P++LA++LB++R).drop (P.length+k+(LA.length-k+n))=LB.drop n++R:=by
        rw[aG (P++LA),List.drop_append,cG (by rw[ax];omega),cM,ax,show P.length+k+(LA.length-k+n)-(P.length+LA.length)=n by omega,dy r1]
       rw[e1,a];simp[aG]
     split
     .exact aC (a5j T G k2 (by rw[cS sX];omega) (by rw[cS sY];exact Y) (λz C u p=>bZ (F z C u p)) λr b hr g=>fin r b hr g)
     .exact aC (a5k T F G k2 (by rw[cS sX];omega) (by rw[cS sY];exact Y) λr b hr g=>fin r b hr g)
end
section
variable {prog:Program}{w:World}{A:Around}{E:Value->Shared->Prop}{s:Shared}{κ:SortKind}{D:Keyed->Prop}{O:KeyOrd}{kf:Keyed->O.α}{st:SortSt}
noncomputable def kx(kf:Keyed->O.α)(arr:Array Keyed)(i:Nat):O.α:=kf (arr.getD i (Value.none,Value.none))
def SoO(kf:Keyed->O.α)(arr:Array Keyed)(lo m:Nat):Prop:=∀i j,i<=j->j<m->O.kle (kx kf arr (lo+i)) (kx kf arr (lo+j))
def NiO(kf:Keyed->O.α)(arr:Array Keyed)(lo m:Nat):Prop:=∀i j,i<=j->j<m->O.kle (kx kf arr (lo+j)) (kx kf arr (lo+i))
def Kept(lo:Nat)(st st':SortSt):Prop:=kindOf st'=kindOf st/\pendingOf st'=pendingOf st/\failedOf st'=failedOf st/\(arrOf st').Perm (arrOf st)/\∀i,i<lo->(arrOf st')[i]?=(arrOf st)[i]?
theorem Kept.refl{lo:Nat}:Kept lo st st:=⟨rfl,rfl,rfl,.refl _,λ_ _=>rfl⟩
theorem Kept.trans{lo:Nat}{st' a:SortSt}(h:Kept lo st st')(h2:Kept lo st' a):Kept lo st a:=⟨h2.1.trans h.1,h2.2.1.trans h.2.1,h2.2.2.1.trans h.2.2.1,h2.2.2.2.1.trans h.2.2.2.1,λi hi=>(h2.2.2.2.2 i hi).trans (h.2.2.2.2 i hi)⟩
def AllD(D:Keyed->Prop)(arr:Array Keyed):Prop:=∀x∈arr.toList,D x
theorem AllD.perm{a b:Array Keyed}(h:AllD D a)(p:b.Perm a):AllD D b:=λx c=>h x ((dR.mp p).mem_iff.mp c)
theorem W2{a b:Array Keyed}{i j:Nat}(h:a[i]?=b[j]?):kx kf a i=kx kf b j:=by
 unfold kx;rw[bR,bR,h]
theorem R7{i j:Nat}{Q:Option Bool->SortSt->Prop}(a:Cmp prog w A s κ D (ltK kf))(f:kindOf st=κ)(d:AllD D (arrOf st))(hi:i<(arrOf st).size)(e:j<(arrOf st).size)(h:Q (some (O.blt (kx kf (arrOf st) i) (kx kf (arrOf st) j))) st):wpS (model prog w) A E s (ltAt' i j) Q st:=by
 rw[ltAt'_eq];refine aC (fL ?_);refine aC (B6 hi λx b f1=>aC (B6 e λy c f2=>?_));rw[gdK _ hi]at b;rw[gdK _ e]at c;cases b;cases c;exact a0m a f (d _ (aF f1)) (d _ (aF f2)) h
theorem b0F{src a:Nat}{Q:Unit->SortSt->Prop}(h:Q () (setArr st (bubble (arrOf st) src (src-a)))):wpS (model prog w) A E s (moveDown' src a) Q st:=by
 rw[moveDown'_eq];exact wpS_modify h
theorem a1b{arr:Array Keyed}{src a:Nat}(hs:src<arr.size)(hd:a<=src)(i:Nat):kx kf (bubble arr src (src-a)) i=if i=a then kx kf arr src else if a<i/\i<=src then kx kf arr (i-1)else kx kf arr i:=by
 have e:=getElem?_bubble hs (src-a) (by omega) i;rw[show src-(src-a)=a by omega]at e;split
 .rename_i c;rw[az c]at e;exact W2 e
 .rename_i c;rw[aq c]at e;split
  .rename_i c2;rw[az c2]at e;exact W2 e
  .rename_i c2;rw[aq c2]at e;exact W2 e
theorem a2w{l j k:Nat}(h:l<j)(h2:j<=k):j-1<k:=by omega
section
variable {arr:Array Keyed}{lo k l i:Nat}(hs:lo+k<arr.size) (hd:l<=k)
include hs hd
theorem b3q(h:i<l):kx kf (bubble arr (lo+k) (lo+k-(lo+l))) (lo+i)=kx kf arr (lo+i):=by
 rw[a1b hs (by omega),aq (by omega),aq (by omega)]
theorem a7z:kx kf (bubble arr (lo+k) (lo+k-(lo+l))) (lo+l)=kx kf arr (lo+k):=by
 rw[a1b hs (by omega),az rfl]
theorem a5c(h:l<i)(h2:i<=k):kx kf (bubble arr (lo+k) (lo+k-(lo+l))) (lo+i)=kx kf arr (lo+(i-1)):=by
 rw[a1b hs (by omega),aq (by omega),az (by omega),Nat.add_sub_assoc (by omega)]
end
theorem b0G{lo n ok:Nat}{Q:Bool->SortSt->Prop}(C:Cmp prog w A s κ D (ltK kf))(L:kindOf st=κ)(J:AllD D (arrOf st))(N:lo+n<=(arrOf st).size)(H:ok<=n)(hs:SoO kf (arrOf st) lo ok)
  (h:∀st',Kept lo st st'->SoO kf (arrOf st') lo n->Q true st'):wpS (model prog w) A E s (binarySort' lo n ok) Q st:=by
 rw[binarySort'_eq];refine aC (cJ (cA (I:=λk c st'=>c=(none,())/\Kept lo st st'/\SoO kf (arrOf st') lo (min k n))
  (Q:=λc st'=>c=(none,())/\Kept lo st st'/\SoO kf (arrOf st') lo n) ?step ?fin ?init) ?post)
 case post =>
  rintro c st' ⟨rfl,f,e⟩;exact aJ (h st' f e)
 case init =>
  refine⟨rfl,Kept.refl,λi j g q=>?_⟩;by_cases h1:ok=0
  .have:i=j:=by omega
   subst this;exact cF _
  .exact hs i j g (by omega)
 case fin =>
  rintro c st' ⟨K,f,e⟩;refine⟨K,f,?_⟩;rwa[show min (max (max ok 1) n) n=n by omega]at e
 case step =>
  rintro k c st' B F ⟨rfl,f,e⟩;rw[show min k n=k by omega]at e;have t:lo+k<(arrOf st').size:=by have:=f.2.2.2.1.size_eq;omega
  have z:=J.perm f.2.2.2.1;have u:min (k+1) n=k+1:=by omega
  clear N H B F;refine aC (cJ (cA (I:=λx c a=>a=st'/\∃l r,c=(none,l,r)/\l<=r/\r<=k/\r-l<=k-x /\
    (∀i,i<l->O.kle (kx kf (arrOf st') (lo+i)) (kx kf (arrOf st') (lo+k)))/\(∀i,r<=i->i<k->O.kle (kx kf (arrOf st') (lo+k)) (kx kf (arrOf st') (lo+i))))
   (Q:=λc a=>a=st'/\∃l r,c=(none,l,r)/\l<=k /\
    (∀i,i<l->O.kle (kx kf (arrOf st') (lo+i)) (kx kf (arrOf st') (lo+k)))/\(∀i,l<=i->i<k->O.kle (kx kf (arrOf st') (lo+k)) (kx kf (arrOf st') (lo+i)))) ?istep ?ifin ?iinit) ?ipost)
  case iinit=>exact⟨rfl,0,k,rfl,by omega,by omega,by omega,λi hi=>by omega,λi h1 h2=>by omega⟩
  case ifin =>
   rintro c a ⟨rfl,l,r,rfl,G,v,M,o,m⟩;have:l=r:=by omega
   subst this;exact⟨rfl,l,l,rfl,v,o,m⟩
  case istep =>
   rintro x c a _ P ⟨rfl,l,r,rfl,G,v,M,o,m⟩;dsimp only;by_cases y:l ≥ r
   .rw[az y];have:l=r:=by omega
    subst this;exact aJ ⟨rfl,l,l,rfl,v,o,m⟩
   .rw[aq y];refine aC (R7 C (f.1.trans L) z (by omega) (by omega) ?_);dsimp only;cases p:O.blt (kx kf (arrOf a) (lo+k)) (kx kf (arrOf a) (lo+(l+r) / 2))with
    |true =>
     rw[az rfl];refine aJ ⟨rfl,l,(l+r) / 2,rfl,by omega,by omega,by omega,o,λi h1 h2=>?_⟩;exact bW (bZ p) (e _ _ h1 h2)
    |false =>
     rw[aq (by simp)];refine aJ ⟨rfl,(l+r) / 2+1,r,rfl,by omega,by omega,by omega,λi h1=>?_,m⟩;exact bW (e i ((l+r) / 2) (by omega) (by omega)) p
  case ipost =>
   rintro c a ⟨rfl,l,r,rfl,b,o,m⟩;refine aC (b0F (aJ ⟨rfl,f.trans ⟨rfl,rfl,rfl,bubble_perm _ _ _,λi hi=>?_⟩,?_⟩))
   .show(bubble (arrOf a) (lo+k) (lo+k-(lo+l)))[i]?=_;rw[getElem?_bubble t _ (by omega),aq (by omega),aq (by omega)]
   rw[u];clear u;intro i j g q;replace q:j<=k:=eN q;show O.kle (kx kf (bubble (arrOf a) (lo+k) (lo+k-(lo+l))) (lo+i)) (kx kf (bubble (arrOf a) (lo+k) (lo+k-(lo+l))) (lo+j));rcases dv i l with c|rfl|c
   .rw[b3q t b c];rcases dv j l with d|rfl|d
    .rw[b3q t b d];exact e i j g (aM d b)
    .rw[a7z t b];exact o i c
    .rw[a5c t b d q];exact e i (j-1) (Nat.le_sub_one_of_lt (gi c d)) (a2w d q)
   .rw[a7z t b];rcases Nat.lt_or_eq_of_le g with d|rfl
    .rw[a5c t b d q];exact m (j-1) (Nat.le_sub_one_of_lt d) (a2w d q)
    .rw[a7z t b];exact cF _
   .have d:=aM c g;rw[a5c t b c (bf g q),a5c t b d q];exact e (i-1) (j-1) (Nat.sub_le_sub_right g 1) (a2w d q)
end
noncomputable def b3v(lo a nrem:Nat):StateT SortSt Sem AscSt:=forIn [a:nrem] ((none,a):AscSt) λ_ c=>ltAt' (lo+c.2) (lo+c.2-1)>>=λr=>match r with
 |some sm=>(if sm=true then pure (.done (none,c.2))else pure (.yield (none,c.2+1)))
 |_=>pure (.done (some none,c.2))
noncomputable def a0e(lo n nrem:Nat):StateT SortSt Sem (Option Nat):=reverseSlice' lo (lo+n)>>=λ_=>b3v lo n nrem>>=λc=>match c.1 with
 |some r=>pure r
 |none=>pure (some c.2)
noncomputable def a8S(lo n nrem:Nat):StateT SortSt Sem DescSt:=forIn [n:nrem] ((none,n,0):DescSt) λ_ c=>ltAt' (lo+c.2.1) (lo+c.2.1-1)>>=λr=>match r with
 |some sm=>(if sm=true then(if c.2.2 > 0 then reverseSlice' (lo+c.2.1-(c.2.2+1)) (lo+c.2.1)>>=λ_=>pure (.yield (none,c.2.1+1,0))else pure (.yield (none,c.2.1+1,0)))
  else ltAt' (lo+c.2.1-1) (lo+c.2.1)>>=λr=>match r with
   |some lg=>(if lg=true then pure (.done (none,c.2.1,c.2.2))else pure (.yield (none,c.2.1+1,c.2.2+1)))
   |_=>pure (.done (some none,c.2.1,c.2.2)))
 |_=>pure (.done (some none,c.2.1,c.2.2))
noncomputable def dpO(lo n nrem:Nat):StateT SortSt Sem (Option Nat):=liftM (rule "list.sort.descending-run")>>=λ_=>a8S lo (n+1) nrem>>=λc=>match c.1 with
 |some r=>pure r
 |none=>(if c.2.2 > 0 then reverseSlice' (lo+c.2.1-(c.2.2+1)) (lo+c.2.1)>>=λ_=>a0e lo c.2.1 nrem else a0e lo c.2.1 nrem)
theorem b0l(lo a:Nat):countRun' lo a=(b3v lo 1 a>>=λc=>match c.1 with
 |some r=>pure r
 |none=>(if (c.2==a)=true then pure (some c.2)else if c.2 > 1 then ltAt' lo (lo+c.2-1)>>=λr=>match r with
   |some rose=>(if rose=true then pure (some c.2)else reverseSlice' lo (lo+c.2)>>=λ_=>dpO lo c.2 a)
   |_=>pure none
  else dpO lo c.2 a)):=by
 have e:∀(n:Nat),(reverseSlice' lo (lo+n)>>=λ_=>b3v lo n a>>=λc=>match c.1 with|some r=>pure r|none=>pure (some c.2))=a0e lo n a:=λn=>rfl;rw[countRun'_eq];dsimp only;refine congr (aL _ ?_) (funext λc=>?_)
 .rfl
 rcases c with⟨_|q,n⟩
 .dsimp only;have d:∀n:Nat,(liftM (rule "list.sort.descending-run")>>=λ_=>a8S lo (n+1) a>>=λc=>match c.1 with
    |some r=>pure r
    |none=>(if c.2.2 > 0 then reverseSlice' (lo+c.2.1-(c.2.2+1)) (lo+c.2.1)>>=λ_=>a0e lo c.2.1 a else a0e lo c.2.1 a))=dpO lo n a:=λn=>rfl
  have b:∀{β:Type}{m:StateT SortSt Sem β}{f g:β->StateT SortSt Sem (Option Nat)},(∀c,f c=g c)->(m>>=f)=(m>>=g):=λh=>aL _ (funext h);refine dV rfl (λ_=>rfl) λ_=>dV rfl (λ_=>?_) λ_=>?_
  .refine b λr=>?_;rcases r with _|r
   .rfl
   .dsimp only;refine dV rfl (λ_=>rfl) λ_=>?_;refine b λ_=>?_;rw[<-d];refine b λ_=>?_;refine congr (aL _ ?_) (funext λc=>?_)
    .rfl
    .rcases c with⟨_|q,n,z⟩
     .dsimp only;refine dV rfl (λ_=>?_) λ_=>?_
      .refine b λ_=>?_;refine b λ_=>?_;refine congr (aL _ ?_) (funext λc=>?_)
       .rfl
       .rcases c with⟨_|q,n⟩<;>rfl
      .refine b λ_=>?_;refine congr (aL _ ?_) (funext λc=>?_)
       .rfl
       .rcases c with⟨_|q,n⟩<;>rfl
     .rfl
  .rw[<-d];refine b λ_=>?_;refine congr (aL _ ?_) (funext λc=>?_)
   .rfl
   .rcases c with⟨_|q,n,z⟩
    .dsimp only;refine dV rfl (λ_=>?_) λ_=>?_
     .refine b λ_=>?_;refine b λ_=>?_;refine congr (aL _ ?_) (funext λc=>?_)
      .rfl
      .rcases c with⟨_|q,n⟩<;>rfl
     .refine b λ_=>?_;refine congr (aL _ ?_) (funext λc=>?_)
      .rfl
      .rcases c with⟨_|q,n⟩<;>rfl
    .rfl
 .rfl
section
variable {prog:Program}{w:World}{A:Around}{E:Value->Shared->Prop}{s:Shared}{κ:SortKind}{D:Keyed->Prop}{O:KeyOrd}{kf:Keyed->O.α}{st:SortSt}
theorem a1a{arr:Array Keyed}{i j:Nat}(a:j<=arr.size)(k:Nat):kx kf (mirror arr i j ((j-i) / 2)) k=if i<=k/\k<j then kx kf arr (i+j-1-k)else kx kf arr k:=by
 have e:=getElem?_mirror_all (i:=i) a k;split
 .rename_i c;rw[az c]at e;exact W2 e
 .rename_i c;rw[aq c]at e;exact W2 e
theorem N6{arr:Array Keyed}{i j:Nat}(b:j<=arr.size)(a:∀k,i<=k->k<j->kx kf arr k=kx kf arr (j-1))(k:Nat):kx kf (mirror arr i j ((j-i) / 2)) k=kx kf arr k:=by
 rw[a1a b];split
 .rw[a _ (by omega) (by omega),a k (by omega) (by omega)]
 .rfl
theorem Kept.rev{lo i j:Nat}(hi:lo<=i)(a:j<=(arrOf st).size):Kept lo st (setArr st (mirror (arrOf st) i j ((j-i) / 2))):=⟨rfl,rfl,rfl,mirror_perm _ _ _ _,λk b=>by
 show(mirror (arrOf st) i j ((j-i) / 2))[k]?=_;rw[getElem?_mirror_all a,aq (by omega)]⟩
theorem a5n{lo a b:Nat}{Q:AscSt->SortSt->Prop}(k:Cmp prog w A s κ D (ltK kf))(u:kindOf st=κ)(t:AllD D (arrOf st))(r:lo+b<=(arrOf st).size)(q:1<=a)(f:a<=b)(hs:SoO kf (arrOf st) lo a)
  (h:∀n,a<=n->n<=b->SoO kf (arrOf st) lo n->(n=b∨O.klt (kx kf (arrOf st) (lo+n)) (kx kf (arrOf st) (lo+(n-1))))->Q (none,n) st):wpS (model prog w) A E s (b3v lo a b) Q st:=by
 unfold b3v;refine cA (I:=λx c st'=>st'=st/\c=(none,x)/\SoO kf (arrOf st) lo x) ?step ?fin ⟨rfl,rfl,hs⟩
 case fin =>
  rintro c st' ⟨rfl,rfl,d⟩;rw[Nat.max_eq_right f]at d⊢;exact h b f (ao _) d (.inl rfl)
 case step =>
  rintro x c st' g p ⟨rfl,rfl,d⟩;dsimp only;replace q:1<=x:=bf q g;rw[show lo+x-1=lo+(x-1) by clear r f g p;omega];refine aC (R7 k u t (by omega) (by omega) ?_);clear r f;dsimp only;cases e:O.blt (kx kf (arrOf st') (lo+x)) (kx kf (arrOf st') (lo+(x-1)))with
  |true =>
   rw[az rfl];exact aJ (h x g (by omega) d (.inr e))
  |false =>
   rw[aq (by simp)];refine aJ ⟨rfl,rfl,λi j m v=>?_⟩;by_cases o:j<x
   .exact d i j m o
   .have hj':j=x:=by omega
    subst hj';by_cases l:i=j
    .subst l;exact cF _
    .exact bW (d i (j-1) (by omega) (by omega)) e
theorem a2h{lo n a:Nat}{Q:Option Nat->SortSt->Prop}(d:Cmp prog w A s κ D (ltK kf))(l:kindOf st=κ)(g:AllD D (arrOf st))(f:lo+a<=(arrOf st).size)(h1:1<=n)(b:n<=a)(hs:NiO kf (arrOf st) lo n)
  (h:∀m st',Kept lo st st'->1<=m->m<=a->SoO kf (arrOf st') lo m->Q (some m) st'):wpS (model prog w) A E s (a0e lo n a) Q st:=by
 unfold a0e;refine aC (wpS_reverse ?_);have c:Kept lo st (setArr st (mirror (arrOf st) lo (lo+n) ((lo+n-lo) / 2))):=Kept.rev (ao _) (by omega);refine aC (a5n d (c.1.trans l) (g.perm c.2.2.2.1) (by rw[c.2.2.2.1.size_eq];exact f) h1 b (λi j k q=>?_) λm r o p _=>aJ (h m _ c (by omega) o p));show O.kle (kx kf (mirror (arrOf st) lo (lo+n) ((lo+n-lo) / 2)) (lo+i)) (kx kf (mirror (arrOf st) lo (lo+n) ((lo+n-lo) / 2)) (lo+j));have e:lo+n<=(arrOf st).size:=by omega
 rw[a1a e,a1a e];clear f h1 b e;rw[az (by omega),az (by omega),show lo+(lo+n)-1-(lo+i)=lo+(n-1-i) by omega,show lo+(lo+n)-1-(lo+j)=lo+(n-1-j) by omega];exact hs _ _ (by omega) (by omega)
theorem a9e{lo n d:Nat}{Q:DescSt->SortSt->Prop}(H:Cmp prog w A s κ D (ltK kf))(J:kindOf st=κ)(M:AllD D (arrOf st))(L:lo+d<=(arrOf st).size)(h1:1<=n)(u:n<=d)(hs:NiO kf (arrOf st) lo n)
  (h:∀m a st',Kept lo st st'->n<=m->m<=d->NiO kf (arrOf st') lo m->a+1<=m->(∀i,lo+m-(a+1)<=i->i<lo+m->kx kf (arrOf st') i=kx kf (arrOf st') (lo+m-1))->Q (none,m,a) st'):wpS (model prog w) A E s (a8S lo n d) Q st:=by
 unfold a8S;refine cA (I:=λx c st'=>∃a,c=(none,x,a)/\Kept lo st st'/\NiO kf (arrOf st') lo x/\a+1<=x /\
   (∀i,lo+x-(a+1)<=i->i<lo+x->kx kf (arrOf st') i=kx kf (arrOf st') (lo+x-1))) ?step ?fin ⟨0,rfl,Kept.refl,hs,by omega,λi h1 h2=>by congr 1;omega⟩
 case fin =>
  rintro c st' ⟨a,rfl,b,g,F,y⟩;rw[Nat.max_eq_right u]at g F y⊢;exact h d a st' b u (ao _) g F y
 case step =>
  rintro x c st' o e ⟨a,rfl,b,g,F,y⟩;dsimp only;have t:lo+x<(arrOf st').size:=by rw[b.2.2.2.1.size_eq];exact aM (Nat.add_lt_add_left e lo) L
  have G:=M.perm b.2.2.2.1;replace e:x<=d:=cQ e;have ex:HEq (lo+x-1) (lo+(x-1)):=heq_of_eq (by clear L h1 u o e t;omega);have l:lo+x-1<(arrOf st').size:=fF (Nat.sub_le _ _) t;clear L h1 u;refine aC (R7 H (b.1.trans J) G t l ?_);dsimp only;rw[cS ex]at y l⊢;cases q:O.blt (kx kf (arrOf st') (lo+x)) (kx kf (arrOf st') (lo+(x-1)))with
  |true =>
   rw[az rfl];have r:∀xs:Array Keyed,(∀k,kx kf xs k=kx kf (arrOf st') k)->NiO kf xs lo (x+1):=by
    intro xs J i j B N;rw[J,J];by_cases C:j<x
    .exact g i j B C
    .have hj':j=x:=by omega
     subst hj';by_cases z:i=j
     .subst z;exact cF _
     .exact bW (bZ q) (g i (j-1) (by omega) (by omega))
   by_cases f:a > 0
   .rw[az f];refine aC (wpS_reverse (aJ ⟨0,rfl,b.trans (Kept.rev (by clear t l ex o e f;omega) (cQ t)),r _ (N6 (cQ t) (λk P R=>by rw[cS ex];exact y k P R)),eW _,λi h1 h2=>by clear t l ex o e f F;congr 1;omega⟩))
   .rw[aq f];exact aJ ⟨0,rfl,b,r _ (λ_=>rfl),eW _,λi h1 h2=>by clear t l ex o e f F;congr 1;omega⟩
  |false =>
   rw[aq (by simp)];refine aC (R7 H (b.1.trans J) G l t ?_);dsimp only;clear t l;cases p:O.blt (kx kf (arrOf st') (lo+(x-1))) (kx kf (arrOf st') (lo+x))with
   |true =>
    rw[az rfl];exact aJ (h x a st' b o e g F (by rw[cS ex];exact y))
   |false =>
    rw[aq (by simp)];have v:kx kf (arrOf st') (lo+x)=kx kf (arrOf st') (lo+(x-1)):=KeyOrd.kle_antisymm p q;clear o e;refine aJ ⟨a+1,rfl,b,λi j B N=>?_,by omega,λi h1 h2=>?_⟩
    .by_cases C:j<x
     .exact g i j B C
     .have hj':j=x:=by omega
      subst hj';by_cases z:i=j
      .subst z;exact cF _
      .rw[v];exact g i (j-1) (by omega) (by omega)
    .rw[show lo+(x+1)-1=lo+x by omega];by_cases K:i=lo+x
     .subst K;rfl
     .rw[v];exact y i (by omega) (by omega)
theorem a7K{lo n a:Nat}{Q:Option Nat->SortSt->Prop}(e:Cmp prog w A s κ D (ltK kf))(t:kindOf st=κ)(y:AllD D (arrOf st))(q:lo+a<=(arrOf st).size)(u:n+1<=a)(hs:NiO kf (arrOf st) lo (n+1))
  (h:∀m st',Kept lo st st'->1<=m->m<=a->SoO kf (arrOf st') lo m->Q (some m) st'):wpS (model prog w) A E s (dpO lo n a) Q st:=by
 unfold dpO;refine aC (R6 ?_);refine aC (a9e e t y q (by omega) u hs λm k st' b C f p F z=>?_);dsimp only;have v:=heq_of_eq (b.2.2.2.1.size_eq:(arrOf st').size=(arrOf st).size);have g:lo+m<=(arrOf st').size:=by rw[cS v];exact bf (Nat.add_le_add_left f lo) q
 have o:=y.perm b.2.2.2.1;by_cases d:k > 0
 .rw[az d];have c:Kept lo st' (setArr st' (mirror (arrOf st') (lo+m-(k+1)) (lo+m) ((lo+m-(lo+m-(k+1))) / 2))):=Kept.rev (by omega) g;refine aC (wpS_reverse (a2h e (c.1.trans (b.1.trans t)) (o.perm c.2.2.2.1) (by rw[c.2.2.2.1.size_eq,cS v];exact q) (by omega) f (λi j r B=>?_) λx l k2=>h x l (b.trans (c.trans k2))));show O.kle (kx kf (mirror (arrOf st') _ _ _) _) (kx kf (mirror (arrOf st') _ _ _) _);rw[N6 g z,N6 g z];exact p i j r B
 .rw[aq d];exact a2h e (b.1.trans t) o (by rw[cS v];exact q) (by omega) f p λx l k2=>h x l (b.trans k2)
theorem a6C{lo b:Nat}{Q:Option Nat->SortSt->Prop}(f:Cmp prog w A s κ D (ltK kf))(v:kindOf st=κ)(F:AllD D (arrOf st))(q:lo+b<=(arrOf st).size)(h1:1<=b)
  (h:∀m st',Kept lo st st'->1<=m->m<=b->SoO kf (arrOf st') lo m->Q (some m) st'):wpS (model prog w) A E s (countRun' lo b) Q st:=by
 rw[b0l];refine aC (a5n f v F q (ao 1) h1 (λi j x J=>by have:i=j:=(by omega);subst this;exact cF _) λn g c l C=>?_);dsimp only;by_cases a:n=b
 .rw[az (by simpa using a)];exact aJ (h n st Kept.refl g c l)
 .rw[aq (by simpa using a)];have y:O.klt (kx kf (arrOf st) (lo+n)) (kx kf (arrOf st) (lo+(n-1))):=C.resolve_left a;replace a:n+1<=b:=by omega
  clear C c h1;replace c:=Nat.le_of_succ_le a;have u:lo+n<(arrOf st).size:=aM (Nat.add_lt_add_left a lo) q;by_cases o:n > 1
  .rw[az o];refine aC (R7 f v F (by omega) (by omega) ?_);dsimp only;have ex:lo+n-1=lo+(n-1):=by clear q a c u;omega
   rw[ex];cases t:O.blt (kx kf (arrOf st) lo) (kx kf (arrOf st) (lo+(n-1)))with
   |true =>
    rw[az rfl];exact aJ (h n st Kept.refl g c l)
   |false =>
    rw[aq (by simp)];have r:=q;clear q;have d:∀k,k<n->kx kf (arrOf st) (lo+k)=kx kf (arrOf st) (lo+(n-1)):=by
     intro k v;clear u a c ex;have a1:=l 0 k (bp _) v;have K:=l k (n-1) (by omega) (by omega);exact KeyOrd.kle_antisymm K (bW t a1)
    have z:∀k,kx kf (mirror (arrOf st) lo (lo+n) ((lo+n-lo) / 2)) k=kx kf (arrOf st) k:=N6 (cQ u) λk M N=>by
     rw[ex];clear u a c ex r;have:=d (k-lo) (by omega);rwa[show lo+(k-lo)=k by omega]at this
    have e:Kept lo st (setArr st (mirror (arrOf st) lo (lo+n) ((lo+n-lo) / 2))):=Kept.rev (ao _) (cQ u);refine aC (wpS_reverse (a7K f (e.1.trans v) (F.perm e.2.2.2.1) (by rw[e.2.2.2.1.size_eq];exact r) a (λi j x J=>?_) λL I k2=>h L I (e.trans k2)));show O.kle (kx kf (mirror (arrOf st) _ _ _) _) (kx kf (mirror (arrOf st) _ _ _) _);rw[z,z];clear u a c ex r g;by_cases H:j<n
    .rw[d i (by omega),d j H];exact cF _
    .have hj':j=n:=by omega
     subst hj';by_cases p:i=j
     .subst p;exact cF _
     .rw[d i (by omega)];exact bZ y
  .rw[aq o];have B:n=1:=by omega
   subst B;refine a7K f v F q a (λi j x J=>?_) h;clear u a c q g o;by_cases p:i=j
   .subst p;exact cF _
   .have hi0:i=0:=by omega
    have G:j=1:=by omega
    subst hi0;subst G;exact bZ y
end
noncomputable def a1H:Nat->List (List Keyed)->List (Nat×Nat)
 |_,[]=>[]
 |o,r::rs=>(o,r.length)::a1H (o+r.length) rs
theorem Q7:∀(o:Nat) (X Y:List (List Keyed)),a1H o (X++Y)=a1H o X++a1H (o+X.flatten.length) Y
 |o,[],Y=>by simp[a1H]
 |o,r::X,Y=>by
  simp only[ff,a1H,Q7 (o+r.length) X Y,cP,ax,el]
theorem a2A:∀(o:Nat) (X:List (List Keyed)),(a1H o X).length=X.length
 |_,[]=>rfl
 |o,r::X=>by simp only[a1H,aN,a2A (o+r.length) X]
noncomputable abbrev ent(e:Nat×Nat×Nat):Nat×Nat:=(e.1,e.2.1)
section
variable {prog:Program}{w:World}{A:Around}{E:Value->Shared->Prop}{s:Shared}{κ:SortKind}{D:Keyed->Prop}{O:KeyOrd}{kf:Keyed->O.α}{st:SortSt}{a0:Array Keyed}
structure RI(kf:Keyed->O.α)(κ:SortKind)(a0:Array Keyed)(st:SortSt)(runs:List (List Keyed))(rest:List Keyed):Prop where
 kind:kindOf st=κ
 failed:failedOf st=none
 perm:(arrOf st).Perm a0
 eq:(arrOf st).toList=runs.flatten++rest
 sorted:∀r∈runs,r.Pairwise (leK kf)
 ne:∀r∈runs,0<r.length
 pend:(pendingOf st).toList.map ent=a1H 0 runs
theorem RI.size{runs:List (List Keyed)}{rest:List Keyed}(h:RI kf κ a0 st runs rest):(pendingOf st).size=runs.length:=by
 rw[<-ay,<-aj (f:=ent),h.pend,a2A]
theorem a1q{X Y:List (List Keyed)}{ra b rest:List Keyed}{Q:Bool->SortSt->Prop}(j:Cmp prog w A s κ D (ltK kf))(I:AllD D a0)(h:RI kf κ a0 st (X++ra::b::Y) rest)
  (q:∀(st':SortSt) (M:List Keyed),RI kf κ a0 st' (X++M::Y) rest->M.length=ra.length+b.length->Q true st'):wpS (model prog w) A E s (mergeAt' X.length) Q st:=by
 have p:=h.pend;rw[Q7,a1H,a1H]at p;obtain⟨c,R,i,n,v⟩:=List.map_eq_append_iff.mp p;obtain⟨x,S,B,e,C⟩:=List.map_eq_cons_iff.mp v;obtain⟨y,K,F,g,o⟩:=List.map_eq_cons_iff.mp C;subst B F;obtain⟨L,N,u⟩:=x;obtain⟨O,P,m⟩:=y;rw[dH]at e g o;have e:(L,N)=(X.flatten.length,ra.length):=e;have g:(O,P)=(X.flatten.length+ra.length,b.length):=g;cases e;cases g;have J:c.length=X.length:=by rw[<-aj (f:=ent),n,a2A]
 have G:(pendingOf st)[X.length]?=some (X.flatten.length,ra.length,u):=by
  rw[<-av,i,aX (by omega),show X.length-c.length=0 by omega];rfl
 have H:(pendingOf st)[X.length+1]?=some (X.flatten.length+ra.length,b.length,m):=by
  rw[<-av,i,aX (by omega),show X.length+1-c.length=1 by omega];rfl
 have a:Runs2 kf D (arrOf st) X.flatten ra b (Y.flatten++rest):=by
  refine⟨?_,λz t=>(I.perm h.perm) z t,h.sorted _ (by simp),h.sorted _ (by simp),h.ne _ (by simp),h.ne _ (by simp)⟩;rw[h.eq];simp[aG]
 refine a5l j h.kind a G H h.failed λst' M k1 k2 k3 l k5=>?_;have d:M.length=ra.length+b.length:=by rw[l.1.length_eq,ax]
 refine q st' M ⟨k1,k2,?_,?_,λr k=>?_,λr k=>?_,?_⟩ d
 .refine dR.mpr ?_;refine List.Perm.trans ?_ (dR.mp h.perm);rw[k5,a.eq];refine List.Perm.append_right _ ?_;rw[aG X.flatten];exact cB _ l.1
 .rw[k5];simp[aG]
 .rcases aO.mp k with z|z
  .exact h.sorted r (ba _ z)
  .rcases aE.mp z with rfl|z
   .exact l.2
   .exact h.sorted r (aZ _ (ar _ (ar _ z)))
 .rcases aO.mp k with z|z
  .exact h.ne r (ba _ z)
  .rcases aE.mp z with rfl|z
   .have:=h.ne ra (by simp);omega
   .exact h.ne r (aZ _ (ar _ (ar _ z)))
 .rw[k3,Array.eraseIdxIfInBounds];have t:(pendingOf st).size=X.length+(Y.length+2):=by rw[h.size];simp
  rw[dif_pos (by rw[fE];omega),Array.toList_eraseIdx,Array.toList_setIfInBounds,i];rw[List.set_append_right _ _ (by omega),show X.length-c.length=0 by omega,List.set_cons_zero];rw[List.eraseIdx_append_of_length_le (by omega),show X.length+1-c.length=1 by omega];show(c++(X.flatten.length,ra.length+b.length,u)::K).map ent=_;rw[bV,aP,n,o,Q7,a1H,dH,d];show _++(X.flatten.length,ra.length+b.length)::_=_;rw[el]
end
noncomputable def a1V(lo n:Nat):StateT SortSt Sem (ForInStep (Option Unit×Nat)) :=
 (modify λs=>setPending s ((pendingOf s).push (lo,n,0)))>>=λ_=>pure (.yield (none,lo+n))
noncomputable def W3(sz pw:Nat):StateT SortSt Sem (Option Unit×Unit) :=
 forIn [:sz] ((none,()):Option Unit×Unit) λ_ _=>get>>=λg=>match (if (pendingOf g).size > 1 then(pendingOf g)[(pendingOf g).size-2]? else none)with
  |some (_,_,older)=>(if older<=pw then pure (.done (none,()))else mergeAt' ((pendingOf g).size-2)>>=λb=>if (!b)=true then pure (.done (some (),()))else pure (.yield (none,())))
  |_=>pure (.done (none,()))
noncomputable def a0l(sz lo n:Nat):StateT SortSt Sem (ForInStep (Option Unit×Nat)):=get>>=λg=>match (pendingOf g).back? with
 |some (s1,n1,_)=>W3 sz (power' sz (2*s1+n1) (2*s1+n1+n1+n) sz)>>=λc=>match c.1 with
  |some r=>pure (.done (some r,lo))
  |none=>(modify λs=>setPending s ((pendingOf s).modify ((pendingOf s).size-1) λx=>(x.1,x.2.1,power' sz (2*s1+n1) (2*s1+n1+n1+n) sz)))>>=λ_=>a1V lo n
 |_=>a1V lo n
noncomputable def a8B(sz:Nat):StateT SortSt Sem (Option Unit×Unit) :=
 forIn [:sz] ((none,()):Option Unit×Unit) λ_ _=>get>>=λg=>if (pendingOf g).size<=1 then pure (.done (none,()))
  else mergeAt' (if Option.any (λx=>decide (x<(pendingOf g)[(pendingOf g).size-2+1]?.elim 0 λx=>x.2.1)) (if (pendingOf g).size-2 > 0 then Option.map (λx=>x.2.1) (pendingOf g)[(pendingOf g).size-2-1]? else none)=true then(pendingOf g).size-2-1 else(pendingOf g).size-2)>>=λb=>if (!b)=true then pure (.done (some (),()))else pure (.yield (none,()))
section
variable {prog:Program}{w:World}{A:Around}{E:Value->Shared->Prop}{s:Shared}{κ:SortKind}{D:Keyed->Prop}{O:KeyOrd}{kf:Keyed->O.α}{st:SortSt}{a0:Array Keyed}{runs:List (List Keyed)}{rest:List Keyed}
theorem two_last{α:Type}{l:List α}(h:2<=l.length):∃X a b,l=X++[a,b]/\X.length=l.length-2:=by
 refine⟨l.take (l.length-2),l[l.length-2],l[l.length-1],?_,by rw[a'];omega⟩;have c:l.drop (l.length-2)=[l[l.length-2],l[l.length-1]]:=by
  rw[cH (by omega),cH (by omega),cG (by omega)];congr 2;congr 1;omega
 rw[<-c,bw]
theorem a4j{sz j:Nat}{Q:Option Unit×Unit->SortSt->Prop}(g:Cmp prog w A s κ D (ltK kf))(i:AllD D a0)(h:RI kf κ a0 st runs rest)
  (q:∀st' a,RI kf κ a0 st' a rest->a.flatten.length=runs.flatten.length->a.length<=runs.length->Q (none,()) st'):wpS (model prog w) A E s (W3 sz j) Q st:=by
 unfold W3;refine cA (I:=λ_ c st'=>c=(none,())/\∃a,RI kf κ a0 st' a rest/\a.flatten.length=runs.flatten.length/\a.length<=runs.length) ?step (λc st' ⟨e,d,h1,h2,b⟩=>by rw[e];exact q st' d h1 h2 b) ⟨rfl,runs,h,rfl,ao _⟩;rintro x c st' _ _ ⟨rfl,d,h1,h2,b⟩;refine aC (fL ?_);split
 .rename_i older heq;split
  .exact aJ (q st' d h1 h2 b)
  .have hz:(pendingOf st').size > 1:=by
    refine Nat.lt_of_not_le λz=>?_;rw[aq (by omega)]at heq;cases heq
   have hs:=h1.size;obtain⟨X,ra,n,f,m⟩:=two_last (l:=d) (by omega);rw[f]at h1;rw[show(pendingOf st').size-2=X.length by omega];refine aC (a1q g i h1 λk M k1 k2=>?_);rw[aq (by simp)];refine aJ ⟨rfl,_,k1,?_,?_⟩
   .rw[<-h2,f];simp[k2]
   .rw[f]at b;simp at b⊢;omega
 .exact aJ (q st' d h1 h2 b)
theorem a1p{lo n:Nat}{Q:ForInStep (Option Unit×Nat)->SortSt->Prop}{r:List Keyed}(h:RI kf κ a0 st runs (r++rest))(e:r.Pairwise (leK kf))(d:0<n)(c:r.length=n)(a:lo=runs.flatten.length)
  (q:∀st',RI kf κ a0 st' (runs++[r]) rest->Q (.yield (none,lo+n)) st'):wpS (model prog w) A E s (a1V lo n) Q st:=by
 unfold a1V;refine aC (wpS_modify (aJ (q _ ⟨h.kind,h.failed,h.perm,?_,λz b=>?_,λz b=>?_,?_⟩)))
 .show(arrOf st).toList=_;rw[h.eq];simp
 .rcases aO.mp b with y|y
  .exact h.sorted z y
  .rw[aA.mp y];exact e
 .rcases aO.mp b with y|y
  .exact h.ne z y
  .rw[aA.mp y,c];exact d
 .show((pendingOf st).push (lo,n,0)).toList.map ent=_;rw[cX,bV,h.pend,Q7,dH,a,<-c];rfl
theorem map_modify{p:Array (Nat×Nat×Nat)}{i a:Nat}:(p.modify i λx=>(x.1,x.2.1,a)).toList.map ent=p.toList.map ent:=by
 rw[Array.toList_modify];refine eO λj=>?_;rw[aQ,aQ,List.getElem?_modify];cases p.toList[j]? with
 |none=>rfl
 |some x =>
  by_cases e:i=j
  .simp[e]
  .simp[e]
theorem a6E{sz lo n:Nat}{Q:ForInStep (Option Unit×Nat)->SortSt->Prop}{r:List Keyed}(e:Cmp prog w A s κ D (ltK kf))(j:AllD D a0)(h:RI kf κ a0 st runs (r++rest))(i:r.Pairwise (leK kf))(g:0<n)(d:r.length=n)(b:lo=runs.flatten.length)
  (q:∀st' a,RI kf κ a0 st' a rest->a.flatten.length=lo+n->a.length<=runs.length+1->Q (.yield (none,lo+n)) st'):wpS (model prog w) A E s (a0l sz lo n) Q st:=by
 unfold a0l;refine aC (fL ?_);split
 .refine aC (a4j e j h λst' a k1 k2 k3=>?_);dsimp only;refine aC (wpS_modify ?_);refine a1p (runs:=a) (rest:=rest) ⟨k1.kind,k1.failed,k1.perm,k1.eq,k1.sorted,k1.ne,map_modify.trans k1.pend⟩ i g d (by rw[k2];exact b) λc f=>q c _ f ?_ ?_
  .simp[k2,d,b]
  .simp;omega
 .refine a1p h i g d b λc f=>q c _ f ?_ ?_
  .simp[d,b]
  .simp
end
section
variable {prog:Program}{w:World}{A:Around}{E:Value->Shared->Prop}{s:Shared}{κ:SortKind}{D:Keyed->Prop}{O:KeyOrd}{kf:Keyed->O.α}{st:SortSt}{a0:Array Keyed}{runs:List (List Keyed)}{rest:List Keyed}
theorem b3u{α:Type}{l:List α}{i:Nat}(h:i+1<l.length):∃X a b Y,l=X++a::b::Y/\X.length=i:=by
 refine⟨l.take i,l[i],l[i+1],l.drop (i+1+1),?_,by rw[a'];omega⟩;rw[<-cH (by omega),<-cH (by omega),bw]
theorem a5m{sz:Nat}{Q:Option Unit×Unit->SortSt->Prop}(j:Cmp prog w A s κ D (ltK kf))(n:AllD D a0)(h:RI kf κ a0 st runs rest)(t:runs.length<=sz)
  (q:∀st' a,RI kf κ a0 st' a rest->a.length<=1->Q (none,()) st'):wpS (model prog w) A E s (a8B sz) Q st:=by
 unfold a8B;refine cA (I:=λx c st'=>c=(none,())/\∃a,RI kf κ a0 st' a rest/\a.length+x<=sz+1) ?step (λc st' ⟨e,g,h1,h2⟩=>by rw[e];exact q st' g h1 (by omega)) ⟨rfl,runs,h,by omega⟩;rintro x c st' _ _ ⟨rfl,g,h1,h2⟩;refine aC (fL ?_);have hs:=h1.size;split
 .exact aJ (q st' g h1 (by omega))
 .rename_i hz;have m:∀i,i+1<g.length->wpS (model prog w) A E s ((mergeAt' i>>=λb=>if (!b)=true then pure (ForInStep.done (some (),()))else pure (ForInStep.yield (none,()))):StateT SortSt Sem (ForInStep (Option Unit×Unit))) (λr d=>match r with|ForInStep.done c'=>Q c' d|ForInStep.yield c'=>c'=(none,())/\∃a,RI kf κ a0 d a rest/\a.length+(x+1)<=sz+1) st':=λi hi=>by
   obtain⟨X,ra,u,Y,k,l⟩:=b3u hi;rw[k]at h1 h2;rw[<-l];refine aC (a1q j n h1 λp M k1 k2=>?_);rw[aq (by simp)];refine aJ ⟨rfl,_,k1,?_⟩;simp at h2⊢;omega
  refine cJ (m _ ?_) (λr d o=>by cases r<;>exact o);by_cases f:(pendingOf st').size-2 > 0
  .rw[az f];split<;>omega
  .rw[aq f,aq (by simp)];omega
theorem RI.kept{st':SortSt}(h:RI kf κ a0 st runs rest)(k:Kept runs.flatten.length st st'):RI kf κ a0 st' runs ((arrOf st').toList.drop runs.flatten.length):=by
 refine⟨k.1.trans h.kind,k.2.2.1.trans h.failed,k.2.2.2.1.trans h.perm,?_,h.sorted,h.ne,by rw[k.2.1];exact h.pend⟩;have e:(arrOf st').toList.take runs.flatten.length=runs.flatten:=by
  have a:(arrOf st).toList.take runs.flatten.length=runs.flatten:=by rw[h.eq,List.take_left'];rfl
  rw[<-a];refine eO λi=>?_;rw[a'];by_cases hi:i<runs.flatten.length
  .have hle:runs.flatten.length<=(arrOf st).toList.length:=by rw[h.eq,ax];omega
   rw[dk (by omega),dk hi,av,av];exact k.2.2.2.2 i hi
  .rw[bL (by rw[a'];omega),bL (by rw[a'];omega)]
 rw[<-bw runs.flatten.length (arrOf st').toList,e];congr 1;rw[dy (ao _),fY,cM]
theorem b3K{arr:Array Keyed}{lo n:Nat}(h:SoO kf arr lo n)(c:lo+n<=arr.size):((arr.toList.drop lo).take n).Pairwise (leK kf):=by
 rw[fq];intro i j hi b a;rw[a',cq,ay]at hi b;have q:=h i j (cQ a) (by omega);unfold leK;have g:∀k,k<n->kx kf arr (lo+k)=kf (arr[lo+k]?.getD (Value.none,Value.none)):=λk _=>by unfold kx;rw[bR]
 rw[g i (by omega),g j (by omega),getElem?_pos arr _ (by omega),getElem?_pos arr _ (by omega)]at q;simp only[fQ,fR,Array.getElem_toList];exact q
theorem a2t:∀{runs:List (List Keyed)},(∀r∈runs,0<r.length)->runs.length<=runs.flatten.length
 |[],_=>ao _
 |r::runs,h=>by
  have:=a2t (runs:=runs) λz a=>h z (ar _ a);have:=h r au;simp only[aN,cP,ax];omega
theorem a3y{α:Type}{m m':StateT SortSt Sem α}{Q:α->SortSt->Prop}(e:m=m')(h:wpS (model prog w) A E s m' Q st):wpS (model prog w) A E s m Q st:=by rw[e];exact h
theorem a5i{Q:Unit->SortSt->Prop}(f:Cmp prog w A s κ D (ltK kf))(P:kindOf st=κ)(y:AllD D (arrOf st))(hp:pendingOf st=#[])(O:failedOf st=none)
  (q:∀st':SortSt,(arrOf st').Perm (arrOf st)->failedOf st'=none->(arrOf st').toList.Pairwise (leK kf)->Q () st'):wpS (model prog w) A E s sortRuns' Q st:=by
 rw[sortRuns'_eq];refine aC (fL ?_);dsimp only;generalize F:(arrOf st).size=sz;have N:RI kf κ (arrOf st) st [] (arrOf st).toList:=⟨P,O,.refl _,rfl,(λ_ z=>nomatch z),(λ_ z=>nomatch z),by rw[hp];rfl⟩;have J:∀{st':SortSt}{runs:List (List Keyed)}{rest:List Keyed},RI kf κ (arrOf st) st' runs rest->(arrOf st').size=sz:=λh=>by rw[h.perm.size_eq];exact F
 have L:∀{st':SortSt}{runs:List (List Keyed)}{rest:List Keyed},RI kf κ (arrOf st) st' runs rest->runs.flatten.length+rest.length=sz:=λh=>by
  have:=aL List.length h.eq;rw[ay,J h,ax]at this;omega
 refine aC (cJ (cA (I:=λx c st'=>c.1=none/\∃runs rest,RI kf κ (arrOf st) st' runs rest/\c.2=runs.flatten.length/\x<=c.2)
  (Q:=λc st'=>c.1=none/\∃runs,RI kf κ (arrOf st) st' runs []/\runs.length<=sz) ?step ?fin ⟨rfl,[],_,N,rfl,ao _⟩) ?post)
 case fin =>
  rintro c st' ⟨k,runs,rest,h1,h2,K⟩;have:=L h1;have l:rest=[]:=dz (by omega);subst l;exact⟨k,runs,h1,by have:=a2t h1.ne;omega⟩
 case step =>
  rintro x c st' _ X ⟨k,runs,rest,h1,h2,K⟩;obtain⟨M,lo⟩:=c;dsimp only at k h2 K⊢;subst k;have R:=L h1;have H:=J h1;by_cases t:lo ≥ sz
  .rw[az t];have l:rest=[]:=dz (by omega);subst l;exact aJ ⟨rfl,runs,h1,by have:=a2t h1.ne;omega⟩
  .rw[aq t];have p:=y.perm h1.perm;have add:∀(n:Nat) (d:SortSt),Kept lo st' d->0<n->lo+n<=sz->SoO kf (arrOf d) lo n->wpS (model prog w) A E s (a0l sz lo n) (λr e=>match r with|ForInStep.done c'=>c'.1=none/\∃runs,RI kf κ (arrOf st) e runs []/\runs.length<=sz|ForInStep.yield c'=>c'.1=none/\∃runs rest,RI kf κ (arrOf st) e runs rest/\c'.2=runs.flatten.length/\x+1<=c'.2) d:=λn d j C U i=>by
    rw[h2]at j;have hR:=h1.kept j;rw[<-h2]at hR;have G:=J hR;rw[<-bw n ((arrOf d).toList.drop lo)]at hR;refine a6E f y hR (b3K i (by omega)) C (by rw[a',cq,ay];omega) h2 λv W k1 k2 k3=>⟨rfl,W,_,k1,k2.symm,by show x+1<=lo+n;omega⟩
   refine aC (a6C f h1.kind p (by omega) (by omega) λm d j S T i=>?_);dsimp only;split
   .refine aC (R6 ?_);have G:(arrOf d).size=sz:=by rw[j.2.2.2.1.size_eq];exact H
    refine aC (b0G f (j.1.trans h1.kind) (p.perm j.2.2.2.1) (by omega) (by omega) i λv B u=>?_);rw[aq (by simp)];refine a3y (m':=a0l sz lo (min (sz-lo) (minRun' sz sz 0))) (by
     unfold a0l;refine aL _ (funext λg=>?_);rcases(pendingOf g).back? with _|⟨s1,n1,z⟩
     .rfl
     .dsimp only;refine congr (aL _ ?_) (funext λc=>?_)
      .unfold W3;refine aL _ (funext λ_=>funext λ_=>aL _ (funext λg=>?_));generalize (if (pendingOf g).size > 1 then(pendingOf g)[(pendingOf g).size-2]? else none)=o;rcases o with _|⟨a,b,o⟩<;>rfl
      .rcases c with⟨_|q,c⟩<;>rfl) (cJ (add _ v (j.trans B) (by omega) (by omega) u) λr e l=>by cases r<;>exact l)
   .refine a3y (m':=a0l sz lo m) (by
     unfold a0l;refine aL _ (funext λg=>?_);rcases(pendingOf g).back? with _|⟨s1,n1,z⟩
     .rfl
     .dsimp only;refine congr (aL _ ?_) (funext λc=>?_)
      .unfold W3;refine aL _ (funext λ_=>funext λ_=>aL _ (funext λg=>?_));generalize (if (pendingOf g).size > 1 then(pendingOf g)[(pendingOf g).size-2]? else none)=o;rcases o with _|⟨a,b,o⟩<;>rfl
      .rcases c with⟨_|q,c⟩<;>rfl) (cJ (add _ d j (by omega) (by omega) i) λr e l=>by cases r<;>exact l)
 case post =>
  rintro c st' ⟨k,runs,h1,h2⟩;obtain⟨M,lo⟩:=c;dsimp only at k;subst k;dsimp only;refine aC (a5m (sz:=sz) f y h1 h2 λd V k1 k2=>?_);dsimp only;refine aJ (q d k1.perm k1.failed ?_);rw[k1.eq,dj]
  match V,k2,k1.sorted with
  |[],_,_=>exact .nil
  |[r],_,hs=>simpa using hs r (by simp)
  |_::_::_,k2,_=>simp at k2
end
noncomputable def J3(h:Heap)(v:Value):List Int:=match v with
 |.ref b=>match h.get? b with
  |some o=>match o.data with
   |.seq xs _=>xs.toList.map numOf
   |_=>[]
  |none=>[]
 |_=>[]
theorem D8{h:Heap}{b:Addr}{its:Array Value}{r:List Int}(t:IsTup h b its)(i:IntsAre its.toList r):J3 h (.ref b)=r:=by
 obtain⟨o,h1,h2,n,a⟩:=t;unfold J3;simp only[h1,a];exact i.nums
theorem N5{α β:Type}{f:α->β}{os i:List β}(h:os.Perm i):∀{T:List α},i=T.map f->∃c:List α,c.Perm T/\c.map f=os:=by
 induction h with
 |nil=>intro T e;cases T with|nil=>exact⟨[],.nil,rfl⟩|cons _ _=>cases e
 |cons x _ m =>
  intro T e;cases T with
  |nil=>cases e
  |cons t T =>
   injection e with e1 e2
   obtain⟨c,h1,h2⟩:=m e2;exact⟨t::c,h1.cons t,by rw[aP,h2,e1]⟩
 |swap x y l =>
  intro T e
  match T,e with
  |a::b::T,e =>
   injection e with e1 e2
   injection e2 with e2 e3
   exact⟨b::a::T,.swap a b T,by rw[aP,aP,e1,e2,e3]⟩
 |trans _ _ d g =>
  intro T e;obtain⟨c,h1,h2⟩:=g e;obtain⟨T2,j,k⟩:=d h2.symm;exact⟨T2,j.trans h1,k⟩
section
variable {prog:Program}{w:World}{A:Around}{E:Value->Shared->Prop}{s:Shared}
noncomputable def kfH(h:Heap):Keyed->OL.α:=λx=>(J3 h x.1:List Int)
def DH(h:Heap)(x:Keyed):Prop:=∃b its r,x.1=Value.ref b/\IsTup h b its/\IntsAre its.toList r
theorem b9d:Cmp prog w A s (tuples' true) (DH s.heap) (ltK (kfH s.heap)):=by
 rintro⟨x,B⟩ ⟨y,D⟩ C ⟨b,its,r,h,j,d⟩ ⟨b',a,u,i,k,e⟩ c;dsimp only at h i;subst h i;have c:C (HT.lexLt (J3 s.heap (.ref b)) (J3 s.heap (.ref b'))) s:=c;rw[D8 j d,D8 k e]at c;obtain⟨o,p,z,n,t⟩:=j;obtain⟨o',f,q,v,g⟩:=k;refine kat_lt p t f g (a1x 0 d e ?_);have l:its.size=r.length:=by rw[<-ay];exact d.length
 have m:a.size=u.length:=by rw[<-ay];exact e.length
 rw[l,m,a6e];exact c
theorem a0b{a:Addr}{vs:List Value}{rss:LLI}{n:Nat}{P:Fin->Shared->Prop}(m:s.heap.get? a=some (seqObj "list" vs.toArray n))(T:TupsAre s.heap vs rss)(hw:∀r∈rss,0<r.length)(hz:vs.length<=sizeLine)
  (h:∀os:List Value,os.Perm vs->os.Pairwise (λx y=>HT.lexLt (J3 s.heap y) (J3 s.heap x)=false)->P (.done (.ret .none)) {s with heap:=sortedHeap s.heap a vs os.toArray}) :
  wpAny (model prog w) A (Builtin.«list.sort» ⟨[.ref a],[]⟩) P E s:=by
 rw[list_sort_plain];have O:a<s.heap.objs.size:=aI m;refine aa (listItems_at m rfl ?_);refine aa (listUpdate_at m rfl ?_ (by rw[aB];omega) (bp _));obtain⟨H,p⟩:∃H,(s.heap.update a (Obj.mapSeq λ_=>#[])).get? a=some (seqObj "list" #[] H):=⟨_,get?_update_seq m (λ_=>#[])⟩;refine aa (seqEpoch_at p rfl ?_);refine aa (wpAny_newTuple ?_ (by show vs.length<=_;omega));refine aa (wpAny_newList ?_ (bp _));refine b_ ?_;have d:(((s.heap.update a (Obj.mapSeq λ_=>#[])).push (seqObj "tuple" vs.toArray 0)).push (seqObj "list" #[] 0)).get? a=some (seqObj "list" #[] H):=by
  rw[Heap.get?_push_ne _ _ _ (by rw[size_push',Heap.size_update];exact aR (bX O)),Heap.get?_push_ne _ _ _ (by rw[Heap.size_update];exact aR O)];exact p
 have g:∀b its,IsTup s.heap b its->IsTup (((s.heap.update a (Obj.mapSeq λ_=>#[])).push (seqObj "tuple" vs.toArray 0)).push (seqObj "list" #[] 0)) b its:=λb its ⟨o,B,l,N⟩=>by
  have U:b≠a:=λz=>by
   rw[z,m]at B;cases B;have l:Value.type "list"=Value.type "tuple":=l;injection l with l
   exact absurd l (by decide)
  refine⟨o,?_,l,N⟩;exact ag _ (ag _ (by rw[Heap.get?_update_ne _ _ _ _ U];exact B))
 have G:=T.keeps g;show wpAny (model prog w) A _ P E {s with heap:=((s.heap.update a (Obj.mapSeq λ_=>#[])).push (seqObj "tuple" vs.toArray 0)).push (seqObj "list" #[] 0)};have c:∀v∈vs,J3 (((s.heap.update a (Obj.mapSeq λ_=>#[])).push (seqObj "tuple" vs.toArray 0)).push (seqObj "list" #[] 0)) v=J3 s.heap v:=λv X=>by
  obtain⟨i,hi⟩:=cC.mp X;obtain⟨r,b,its,_,I,C,F⟩:=T.2 i v hi;rw[I,D8 C F,D8 (g b its C) F]
 generalize K:((s.heap.update a (Obj.mapSeq λ_=>#[])).push (seqObj "tuple" vs.toArray 0)).push (seqObj "list" #[] 0)=k at d G c;dsimp only;have fin:∀os:List Value,os.Perm vs->os.Pairwise (λx y=>HT.lexLt (J3 s.heap y) (J3 s.heap x)=false)->P (.done (.ret .none)) {s with heap:=k.update a (Obj.mapSeq λ_=>os.toArray)}:=λos h1 h2=>by
  have:=h os h1 h2;unfold sortedHeap at this;rw[K]at this;exact this
 by_cases h2:vs.toArray.size<2
 .have h2':vs.length<2:=by simpa using h2
  rw[az h2,az h2];refine aa (ae ?_);rw[StateT.run_pure];refine aa (ae ?_);dsimp only;refine aa (seqEpoch_at d rfl ?_);refine aa (listUpdate_at d rfl ?_ (bp _) (by rw[Array.size_map];show(pairsOf vs).size<=_;rw[pairsOf_size];omega));simp only[bne_self_eq_false,fG,fW];have e:((vs.toArray.zip vs.toArray).map (·.2))=vs.toArray:=by
   apply Array.toList_inj.mp;simp[List.map_snd_zip]
  show wpAny _ _ _ _ _ {s with heap:=k.update a (Obj.mapSeq λ_=>(vs.toArray.zip vs.toArray).map (·.2))};rw[e];refine ae (fin vs (.refl _) ?_);rw[fq];intro i j hi Z V;omega
 .have h2':2<=vs.length:=by
   have:¬vs.length<2:=by simpa using h2
   omega
  rw[aq h2,aq h2];refine aa (a9h G hw (by omega) ?_);have J:AllD (DH k) (vs.toArray.zip vs.toArray):=λx u=>by
   have L:x∈vs.zip vs:=by simpa using u
   obtain⟨_,W⟩:=mem_zip_self L;obtain⟨i,hi⟩:=cC.mp W;obtain⟨r,b,its,_,I,C,F⟩:=G.2 i _ hi;exact⟨b,its,r,I,C,F⟩
  refine aa (dE (a5i (s:={s with heap:=k}) (st:=SortSt.mk' (tuples' true) (vs.toArray.zip vs.toArray) #[] 7 none) (kf:=kfH k) (D:=DH k) (b9d (s:={s with heap:=k})) rfl J rfl rfl
   (Q:=λ_ st'=>(arrOf st').Perm (vs.toArray.zip vs.toArray)/\failedOf st'=none/\(arrOf st').toList.Pairwise (leK (kfH k))) λst' B l N=>⟨B,l,N⟩) ?_ λ_ _ e=>e)
  rintro⟨⟨⟩,st'⟩ s' ⟨rfl,S,R,hs⟩;dsimp only at S R hs⊢;have t:(arrOf st').toList.Perm (vs.zip vs):=by
   have:=dR.mp S;simpa using this
  have q:((arrOf st').toList.map (·.2)).Perm vs:=by
   have:=t.map Prod.snd;rwa[List.map_snd_zip (ao _)]at this
  have f:∀x∈(arrOf st').toList,x.1=x.2/\x.1∈vs:=λx u=>mem_zip_self (t.mem_iff.mp u);have e:(arrOf st').map (·.2)=((arrOf st').toList.map (·.2)).toArray:=by
   apply Array.toList_inj.mp;simp
  refine aa (seqEpoch_at d rfl ?_);rw[e];refine aa (listUpdate_at d rfl ?_ (bp _) (by rw[aB,q.length_eq];omega));rw[R];simp only[bne_self_eq_false,fG,fW];refine ae (fin _ q ?_);rw[cw];refine hs.imp_of_mem λ{x y} u Y M=>?_;have h1:=f x u;have h2:=f y Y;rw[<-h1.1,<-h2.1,<-c _ h1.2,<-c _ h2.2];exact M
theorem a1N{x:Value}{vs:List Value}{rss:LLI}{Q:Value->Shared->Prop}(g:∀(q:Around) (t:Value->Shared->Prop) (l:List Value->Shared->Prop),(∀h1:Heap,(∀b o,s.heap.get? b=some o->h1.get? b=some o)->l vs {s with heap:=h1})->wpAny (model prog w) q (collect x) l t s)
  (T:TupsAre s.heap vs rss) (hw:∀r∈rss,0<r.length) (F:vs.length<=sizeLine)
  (h:∀(h1 h':Heap) (os:List Value) (c:Nat),(∀b o,s.heap.get? b=some o->h1.get? b=some o)->(∀b o,h1.get? b=some o->h'.get? b=some o)->h'.get? h1.objs.size=some (seqObj "list" os.toArray c)->os.Perm vs->os.Pairwise (λx y=>HT.lexLt (J3 s.heap y) (J3 s.heap x)=false)->Q (.ref h1.objs.size) {s with heap:=h'}) :
  wpAny (model prog w) A (call (.builtin "sorted") [x]) Q E s:=by
 refine ft kind_sorted plain_sorted entry_sorted (args_sorted1 _) ?_;unfold Builtin.«sorted»;refine aa (m:=checkCount "sorted" 1 1 _) (ae ?_);refine aa (g _ _ _ λh1 k1=>?_);refine aa (wpAny_newList ?_ (by omega));have f:(h1.push (seqObj "list" vs.toArray 0)).get? h1.objs.size=some (seqObj "list" vs.toArray 0):=aD _ rfl;have a:∀b its,IsTup s.heap b its->IsTup (h1.push (seqObj "list" vs.toArray 0)) b its:=λb its ⟨o,G,H⟩=>⟨o,ag _ (k1 _ _ G),H⟩;have T2:=T.keeps a;have d:∀v∈vs,J3 (h1.push (seqObj "list" vs.toArray 0)) v=J3 s.heap v:=λv B=>by
  obtain⟨i,hi⟩:=cC.mp B;obtain⟨r,b,its,_,u,n,p⟩:=T.2 i v hi;rw[u,D8 n p,D8 (a b its n) p]
 show wpAny _ _ _ _ _ {s with heap:=h1.push (seqObj "list" vs.toArray 0)};refine aa (b_ (bM slot_list_sort ⟨_,f,rfl⟩ entry_list_sort (a0b (s:={s with heap:=h1.push (seqObj "list" vs.toArray 0)}) f T2 hw F λos j hs=>⟨_,rfl,?_⟩) (args_list_sort _)));obtain⟨c,z⟩:=Z9 (out:=os.toArray) f;refine ae ⟨_,rfl,h h1 _ os c k1 (λb o e=>?_) z j (hs.imp_of_mem λ{x y} C D k=>?_)⟩
 .exact U9 b o (aR (aI e)) (ag _ e)
 .rw[<-d _ (j.mem_iff.mp C),<-d _ (j.mem_iff.mp D)];exact k
end
def b1y(K:PySem.W.Frag):RL:=λxs H Q=>∃(p:Addr) (ys:List V) (rss:LLI),xs=[.ref p]/\(SqL K H p ys∨SqT K H p ys)/\Its H ys rss/\(∀r∈rss,0<r.length) /\
 ∀l zs tss,H l=none->Its H zs tss->tss.Perm rss->J4 tss->zs.Perm ys->Q (.ref l) (upd H l (.lst zs))
theorem X6:∀{ys:List V}{us:List Value}{rss:LLI},Vals ys us->ys.length=rss.length->∃T:List (Value×V×List Int),T.map (·.1)=us/\T.map (·.2.1)=ys/\T.map (·.2.2)=rss/\∀(i:Nat) t,T[i]?=some t->RelV t.2.1 t.1/\ys[i]?=some t.2.1/\rss[i]?=some t.2.2
 |[],us,rss,r,e=>by
  cases r;cases rss with
  |nil=>exact⟨[],rfl,rfl,rfl,λi t h=>by simp at h⟩
  |cons _ _=>cases e
 |y::ys,us,rss,r,e=>by
  cases r with
  |cons h hs =>
   cases rss with
   |nil=>cases e
   |cons r rss =>
    obtain⟨T,b,c,d,f⟩:=X6 hs (by simpa using e);refine⟨(_,y,r)::T,by rw[aP,b],by rw[aP,c],by rw[aP,d],λi t a=>?_⟩;cases i with
    |zero=>cases a;exact⟨h,rfl,rfl⟩
    |succ i=>exact f i t a
theorem P6:∀{T:List (Value×V×List Int)},(∀t∈T,RelV t.2.1 t.1)->Vals (T.map (·.2.1)) (T.map (·.1))
 |[],_=>.nil
 |t::T,h=>.cons (h t au) (P6 λu a=>h u (ar _ a))
section
variable {X:Cx}
theorem a7v(K:PySem.W.Frag)(hK:X.K=K:=by rfl):E2 X (.builtin "sorted") (b1y K):=by
 subst hK;intro pins s σ H xs us Q I rv h;obtain⟨p,ys,rss,rfl,r,G,hw,q⟩:=h;obtain⟨u,rfl,ru⟩:=rv.one;cases ru;obtain⟨its,O,z,l⟩:∃its:List Value,Vals ys its/\ys.length<=sizeLine/\∀(D:Around) (E:Value->Shared->Prop) (B:List Value->Shared->Prop),(∀h1:Heap,(∀b o,s.heap.get? b=some o->h1.get? b=some o)->B its {s with heap:=h1})->wpAny (model X.prog X.w) D (collect (.ref p)) B E s:=by
  rcases r with r|r
  .obtain⟨its,g,pl,z⟩:=I.list r;obtain⟨o,L,J,n,hd⟩:=pl.isList;have m:=g.length;exact⟨its,g,z,λD E B k=>wpAny_collect_seq p (.inl rfl) L J hd (λh' N=>k h' N) (by simp only[aB];omega)⟩
  .obtain⟨its,g,pl,z⟩:=I.tuple r;obtain⟨o,L,J,n,hd⟩:=pl;have m:=g.length;exact⟨its,g,z,λD E B k=>wpAny_collect_seq p (.inr rfl) L J hd (λh' N=>k h' N) (by simp only[aB];omega)⟩
 have hl:=O.length;have TT:=a2U I G O;obtain⟨T,W,t2,t3,t4⟩:=X6 O G.1;refine a1N l TT hw (by omega) λh1 h' os c k1 k2 e hp hs=>?_;obtain⟨d,p1,p2⟩:=N5 (f:=λt:Value×V×List Int=>t.1) hp W.symm;have P:=I.kept (t':=s.toks) k1;have C:∀t∈d,RelV t.2.1 t.1/\IT H t.2.1 t.2.2/\J3 s.heap t.1=t.2.2:=λt M=>by
  obtain⟨i,hi⟩:=cC.mp (p1.mem_iff.mp M);obtain⟨r1,r2,U⟩:=t4 i t hi;obtain⟨row,S,q2⟩:=G.2 i _ r2;rw[U]at S;cases S;have Z:its[i]?=some t.1:=by rw[<-W,aQ,hi];rfl
  obtain⟨g,b,R,f1,f2,f3,f4⟩:=TT.2 i _ Z;rw[U]at f1;cases f1;exact⟨r1,q2,by rw[f2];exact D8 f3 f4⟩
 have A:(d.map (·.2.1)).Perm ys:=by rw[<-t2];exact p1.map _
 have hv:Vals (d.map (·.2.1)) os:=by rw[<-p2];exact P6 λt M=>(C t M).1
 have Y:=P.laid (h':=h') (a:=h1.objs.size) (o:=.lst (d.map (·.2.1))) (t':=s.toks) k2 (ao _) ⟨by rw[A.length_eq];exact z,os,c,hv,e⟩;refine⟨.ref h1.objs.size,_,Y,rfl,q _ _ (d.map (·.2.2)) (P.hok.fresh (ao _)) ⟨by rw[aj,aj],λi v j=>?_⟩ (by rw[<-t3];exact p1.map _) ?_ A⟩
 .rw[aQ]at j⊢;cases F:d[i]? with
  |none=>rw[F]at j;cases j
  |some t =>
   rw[F]at j;cases j;exact⟨t.2.2,rfl,(C t (aF F)).2.1⟩
 .unfold J4;rw[cw];rw[<-p2,cw]at hs;refine hs.imp_of_mem λ{x y} hx hy w=>?_;rw[(C x hx).2.2,(C y hy).2.2]at w;exact w
theorem a2R(K:PySem.W.Frag){e:Expr}{t:TA}{p pos:Pos}(f:Gl X "sorted")(g:X.mg "sorted"=none)(c:JA X [e] t)(b:X.K=K:=by rfl)(d:starEach [e] X.env=(false,eval e X.env)::starEach [] X.env:=by rfl)(a:(backTo pos (starEach [] X.env)).any (·.1)=false:=by rfl):JE X (.Call (.Name "sorted" p) [e] [] pos) (tCB (b1y K) t):=⟨E7 (a7v K b) f g a1m c.h (by decide) (by decide) d a⟩
end
def DRaw(h:Heap)(d:Addr)(es:Array DictEntry)(ep:Nat):Prop:=∃ob:Obj,h.get? d=some ob/\ob.ExactDict/\ob.data=.dict es ep
theorem DRaw.typ{s:Shared}{d:Addr}{es:Array DictEntry}{ep:Nat}(x:DRaw s.heap d es ep):s.TypeIs (.ref d) "dict":=by
 obtain⟨c,a,b,_⟩:=x;exact⟨c,a,b.1⟩
theorem DRaw.lt{h:Heap}{d:Addr}{es:Array DictEntry}{ep:Nat}(x:DRaw h d es ep):d<h.objs.size:=by
 obtain⟨b,a,_⟩:=x;exact aI a
theorem DRaw.to{h h':Heap}{d:Addr}{es:Array DictEntry}{ep:Nat}(x:DRaw h d es ep)(k:∀a,h.get? d=some a->h'.get? d=some a):DRaw h' d es ep:=by
 obtain⟨a,b,q⟩:=x;exact⟨a,k _ b,q⟩
section
variable {prog:Program}{w:World}{A:Around}{E:Value->Shared->Prop}{s:Shared}{it d:Addr}{i ep:Nat}{es:Array DictEntry}
theorem b1s{Q:Value->Shared->Prop}(hs:(d==sysModules)=false)(D:DRaw s.heap d es ep)
  (q:Q (.ref s.heap.objs.size) {s with heap:=s.heap.push {cls:=.type "dict_keyiterator",data:=.fields #[.ref d,.int 0 0,.int es.size 0,.int ep 0]}}):wpAny (model prog w) A (pyIter (.ref d)) Q E s:=by
 have ty:=D.typ;obtain⟨c,a,_,b⟩:=D;refine wpAny_pyIter_slot ty PySem.F.slot_dict_iter (bM PySem.F.slot_dict_iter ty PySem.F.entry_dict_iter ?body (PySem.F.args_dict_iter_1 _))
 case body =>
  unfold Builtin.«dict.__iter__» Builtin.Dict.dictSlotNone;refine aa (aa (wpAny_notOrdered_dict ty (ae ?_)));show wpAny _ _ (Builtin.Dict.showsAll d>>=λ_=>_) _ _ _;unfold Builtin.Dict.showsAll;rw[aq (λz=>by rw[hs]at z;cases z)];refine aa (ae (aa (eQ a b (aa (wpAny_dictEpoch a b ?_)))));refine aa (bt (ae ⟨_,rfl,"dict_keyiterator",_,⟨_,aD _ rfl,rfl⟩,PySem.F.slot_dict_keyiterator_next.lookup,?_⟩));exact q
theorem b1t{Q:Option Value->Shared->Prop}(I:s.heap.IsKeyIter it d i es.size ep)(D:DRaw s.heap d es ep)(hi:i<es.size)
  (q:∀h',h'.IsKeyIter it d (i+1) es.size ep->Heap.SameBut it s.heap h'->Q (some es[i].key) {s with heap:=h'}):wpAny (model prog w) A (pyNext (.ref it)) Q E s:=by
 obtain⟨h,f1,f2,a⟩:=id I;obtain⟨od,e,g,f⟩:=D;unfold pyNext;refine aa (ek (bJ (name:=Str.ofString "__next__") I.typeIs PySem.F.slot_dict_keyiterator_next (bM PySem.F.slot_dict_keyiterator_next I.typeIs PySem.F.entry_dict_keyiterator_next ?body (PySem.F.args_dict_keyiterator_next_1 _))))
 case body =>
  refine aa (ae (aa (aa ?_)))
  first|refine aa (dC I.typeIs (ae ?_))|refine aa (dY I.typeIs (ae ?_))
  refine aa (wpAny_fieldsOf f1 a ?_);rw[show Builtin.Dict_items.ownsTuple "dict_keyiterator"=false by decide,aq aS];show wpAny _ _ (if (Value.ref d==Value.none)=true then _ else _) _ _ _;have b:¬((Value.ref d==Value.none)=true):=aS;rw[aq b];refine aa (ae (aa (eQ e f ?_)));rw[aq (by simp)];refine aa (ae (aa (wpAny_dictEpoch e f ?_)));rw[aq (by simp)];refine ae ?_;dsimp only;rw[show(if (i:Int)<0 then(none:Option DictEntry)else es[(i:Int).toNat]?)=some es[i] by rw[aq (by omega),bb,bD hi]];dsimp only;refine aa ?_
  first|refine aa (dC I.typeIs (ae ?_))|refine aa (dY I.typeIs (ae ?_))
  refine aa (wpAny_isOneOf_keyiter I.typeIs ?_);show wpAny _ _ (setField (.ref it) 1 (rawInt ((i:Int)+1))>>=λ_=>_) _ _ _;have c:(s.heap.update it (Obj.mapFields λz=>z.setIfInBounds 1 (rawInt ((i:Int)+1)))).IsKeyIter it d (i+1) es.size ep :=
   ⟨_,cp _ f1 (eT (cR a _)),(fP ..).trans f2,by rw[cR a];simp[rawInt]⟩
  refine aa (dW f1 a (by simp) (aa (b_ ?_)));refine aa (wpAny_isOneOf_keyiter (s:={s with heap:=s.heap.update it (Obj.mapFields λz=>z.setIfInBounds 1 (rawInt ((i:Int)+1)))}) c.typeIs ?_);exact ae (ae ⟨_,rfl,ae (q _ c (cb ..))⟩)
theorem b4c{Q:Option Value->Shared->Prop}(h:A.handled=none)(I:s.heap.IsKeyIter it d i es.size ep)(D:DRaw s.heap d es ep)(hi:es.size<=i)
  (q:∀h',Heap.ExtBut it s.heap h'->Q none {s with heap:=h'}):wpAny (model prog w) A (pyNext (.ref it)) Q E s:=by
 obtain⟨k,f1,f2,g⟩:=id I;obtain⟨od,e,j,f⟩:=D;unfold pyNext;refine aa (ek (bJ (name:=Str.ofString "__next__") I.typeIs PySem.F.slot_dict_keyiterator_next (bM PySem.F.slot_dict_keyiterator_next I.typeIs PySem.F.entry_dict_keyiterator_next ?body (PySem.F.args_dict_keyiterator_next_1 _))))
 case body =>
  refine aa (ae (aa (aa ?_)))
  first|refine aa (dC I.typeIs (ae ?_))|refine aa (dY I.typeIs (ae ?_))
  refine aa (wpAny_fieldsOf f1 g ?_);rw[show Builtin.Dict_items.ownsTuple "dict_keyiterator"=false by decide,aq aS];show wpAny _ _ (if (Value.ref d==Value.none)=true then _ else _) _ _ _;have c:¬((Value.ref d==Value.none)=true):=aS;rw[aq c];refine aa (ae (aa (eQ e f ?_)));rw[aq (by simp)];refine aa (ae (aa (wpAny_dictEpoch e f ?_)));rw[aq (by simp)];refine ae ?_;dsimp only;rw[show(if (i:Int)<0 then(none:Option DictEntry)else es[(i:Int).toNat]?)=none by rw[aq (by omega),bb,c_ hi]];dsimp only;refine aa ?_
  first|refine aa (dC I.typeIs (ae ?_))|refine aa (dY I.typeIs (ae ?_))
  show wpAny _ _ (setField (.ref it) 0 .none>>=λ_=>_) _ _ _;refine aa (dW f1 g (by simp) ?_);show wpAny _ _ (newExc (.type "StopIteration") []>>=λ_=>_) _ _ _;refine aa ?_;simp only[newExc,newTuple];refine aa (bt ?_ (by size_fits));refine aa (m:=firstArgMember _ _) (wpAny_of_eq (a:=Value.none) (by first|rfl | (simp only[firstArgMember];rfl)) ?_);refine bt ?_ (by size_fits);simp only[raiseNew];refine aa (wpAny_handled ?_);rw[show A.in1.handled=none from h];refine aa (ae (wpAny_throw ?_));refine aa (fX (T:="StopIteration") (b:=true) ⟨_,aD _ rfl,rfl⟩ isSubtype_stop ?_);exact ae (q _ (((cb ..).extBut.push _).push _))
theorem a9u(m:A.handled=none)(J d:Addr)(f:d≠J)(es:Array DictEntry)(ep:Nat) :
  Walks prog w A J [J,d] [J] es.size (λi v=>∃e,es[i]?=some e/\v=e.key) (λi h=>h.IsKeyIter J d i es.size ep/\DRaw h d es ep) where
 sub:=λb c=>by rw[aA.mp c];exact au
 frame:=λi h h' st g=>⟨st.1.at λo e=>g J au o e,st.2.to λo e=>g d (ar _ au) o e⟩
 item:=λi s Q E hi st a=>b1t st.1 st.2 hi λh' k j=>a _ h' s.toks ⟨es[i],by simp[hi],rfl⟩ ⟨k,st.2.to λo e=>j.extBut d o f e⟩ λb o c e=>j.extBut b o (λz=>c (by rw[z];exact au)) e
 done:=λs Q E st a=>b4c m st.1 st.2 (ao _) λh' l=>a h' s.toks λb o c e=>l b o (λz=>c (by rw[z];exact au)) e
 self:=λ_ _ _ _ st a=>wpAny_pyIter_keyiter st.1 a
theorem a8j(hs:(d==sysModules)=false)(es:Array DictEntry)(ep:Nat):KdlSrc prog w "dict" d d es.size (λi v=>∃e,es[i]?=some e/\v=e.key) (λh=>DRaw h d es ep) where
 type:=λ_ D=>D.typ
 there:=λ_ D=>⟨D.lt,D.lt⟩
 keep:=λ_ _ D b=>D.to λo e=>b d (.inl rfl) o e
 notList:=by decide
 notTuple:=by decide
 hint:=λ_ _ _ _ D q=>kdl_hint_dict D.typ q
 iter:=λ_ _ a D=>⟨_,_,λ_ _ q=>b1s hs D q,a9u a _ d (aR D.lt) es ep,⟨⟨_,aD _ rfl,rfl,rfl⟩,D.to λo e=>ag _ e⟩⟩
end
section
variable {prog:Program}{w:World}{A:Around}{E:Value->Shared->Prop}{s:Shared}
theorem V1{x:Value}{vs:List Value}{rss:LLI}{Q:Value->Shared->Prop}(g:∀(q:Value->Shared->Prop) (l:List Value->Shared->Prop),(∀(h1:Heap) (tk:Nat),(∀b o,s.heap.get? b=some o->h1.get? b=some o)->l vs {s with heap:=h1,toks:=tk})->wpAny (model prog w) A.in1 (collect x) l q s)
  (T:TupsAre s.heap vs rss) (hw:∀r∈rss,0<r.length) (D:vs.length<=sizeLine)
  (h:∀(h1 h':Heap) (os:List Value) (c tk:Nat),(∀b o,s.heap.get? b=some o->h1.get? b=some o)->(∀b o,h1.get? b=some o->h'.get? b=some o)->h'.get? h1.objs.size=some (seqObj "list" os.toArray c)->os.Perm vs->os.Pairwise (λx y=>HT.lexLt (J3 s.heap y) (J3 s.heap x)=false)->Q (.ref h1.objs.size) {s with heap:=h',toks:=tk}) :
  wpAny (model prog w) A (call (.builtin "sorted") [x]) Q E s:=by
 refine ft kind_sorted plain_sorted entry_sorted (args_sorted1 _) ?_;unfold Builtin.«sorted»;refine aa (m:=checkCount "sorted" 1 1 _) (ae ?_);refine aa (g _ _ λh1 tk k1=>?_);refine aa (wpAny_newList ?_ (by omega));have f:(h1.push (seqObj "list" vs.toArray 0)).get? h1.objs.size=some (seqObj "list" vs.toArray 0):=aD _ rfl;have a:∀b its,IsTup s.heap b its->IsTup (h1.push (seqObj "list" vs.toArray 0)) b its:=λb its ⟨o,F,G⟩=>⟨o,ag _ (k1 _ _ F),G⟩;have T2:=T.keeps a;have d:∀v∈vs,J3 (h1.push (seqObj "list" vs.toArray 0)) v=J3 s.heap v:=λv z=>by
  obtain⟨i,hi⟩:=cC.mp z;obtain⟨r,b,its,_,t,n,p⟩:=T.2 i v hi;rw[t,D8 n p,D8 (a b its n) p]
 show wpAny _ _ _ _ _ {s with heap:=h1.push (seqObj "list" vs.toArray 0),toks:=tk};refine aa (b_ (bM slot_list_sort ⟨_,f,rfl⟩ entry_list_sort (a0b (s:={s with heap:=h1.push (seqObj "list" vs.toArray 0),toks:=tk}) f T2 hw D λos j hs=>⟨_,rfl,?_⟩) (args_list_sort _)));obtain⟨c,u⟩:=Z9 (out:=os.toArray) f;refine ae ⟨_,rfl,h h1 _ os c tk k1 (λb o e=>?_) u j (hs.imp_of_mem λ{x y} B C k=>?_)⟩
 .exact U9 b o (aR (aI e)) (ag _ e)
 .rw[<-d _ (j.mem_iff.mp B),<-d _ (j.mem_iff.mp C)];exact k
end
noncomputable def IK(rss:LLI):List (List Key):=rss.map λr=>r.map Sum.inl
def a6W:RL:=λxs H Q=>∃(d:Addr) (kvs:List (List Key×V)) (rss:LLI),xs=[.ref d]/\H d=some (.dT kvs)/\kvs.map (·.1)=IK rss/\(∀r∈rss,0<r.length) /\
 ∀l zs tss,H l=none->Its H zs tss->tss.Perm rss->J4 tss->Q (.ref l) (upd H l (.lst zs))
theorem a8x{H:Hp}:∀{kvs:List (List Key×V)}{xs:List (List Key×Addr×Value)}{rss:LLI},KT H kvs xs->kvs.map (·.1)=IK rss->Its H (xs.map λx=>V.ref x.2.1) rss/\xs.length=rss.length:=by
 intro kvs xs rss r e;induction r generalizing rss with
 |nil =>
  cases rss with
  |nil=>exact⟨⟨rfl,λi v z=>by simp at z⟩,rfl⟩
  |cons _ _=>cases e
 |@cons p q ps qs h _ d =>
  cases rss with
  |nil=>cases e
  |cons r rss =>
   injection e with a e2
   obtain⟨h1,h2⟩:=d e2;refine⟨⟨by rw[aj,aN,aN,h2],λi v c=>?_⟩,by rw[aN,aN,h2]⟩;cases i with
   |zero =>
    cases c;refine⟨r,rfl,q.2.1,rfl,?_⟩;have b:=h.2.1;have a:p.1=r.map Sum.inl:=a;rw[a,cx]at b;exact b
   |succ i=>exact h1.2 i v c
theorem X7{α:Type}(f:α->Addr):∀xs:List α,Vals (xs.map λx=>V.ref (f x)) (xs.map λx=>Value.ref (f x))
 |[]=>.nil
 |x::xs=>.cons rfl (X7 f xs)
section
variable {X:Cx}
theorem a7u(hc:X.calm=true):E2 X (.builtin "sorted") a6W:=by
 intro pins s σ H xs us Q I rv h;obtain⟨d,kvs,rss,rfl,hd,hk,hw,q⟩:=h;obtain⟨u,rfl,ru⟩:=rv.one;cases ru;obtain⟨hz,z,j,U,ob,es,ep,e1,n,e3,N,O⟩:=I.hok _ _ hd;obtain⟨E,R⟩:=a8x U hk;have a0:kvs.length=j.length:=Paired.length U;have r:es.size=j.length:=by rw[<-ay,N,aj]
 have D:DRaw s.heap d es ep:=⟨ob,e1,n,e3⟩;have K:Vals (j.map λx=>V.ref x.2.1) (j.map λx=>Value.ref x.2.1):=X7 (λx:List Key×Addr×Value=>x.2.1) j;have w:∀(L:Value->Shared->Prop) (C:List Value->Shared->Prop),(∀(h1:Heap) (tk:Nat),(∀b o,s.heap.get? b=some o->h1.get? b=some o)->C (j.map λx=>Value.ref x.2.1) {s with heap:=h1,toks:=tk})->wpAny (model X.prog X.w) X.A.in1 (collect (.ref d)) C L s:=λL C k=>by
  refine kdu_collect (a8j z es ep) (show X.A.in1.handled=none from I.ok.hd hc) D (by omega) λh' tk acc kp l=>?_;have:acc.toList=j.map λx=>Value.ref x.2.1:=by
   refine eO λi=>?_;rw[av,aQ];by_cases hi:i<j.length
   .have hia:i<acc.size:=by rw[l.1,r];exact hi
    obtain⟨e,he,G⟩:=l.2 i acc[i] (by simp[hia]);have g:es.toList[i]?=some e:=by rw[av];exact he
    rw[N,aQ,ai hi]at g;injection g with g
    rw[bD hia,ai hi,G,<-g];rfl
   .rw[c_ (by rw[l.1,r];omega),bL (by omega)];rfl
  rw[this];exact k h' tk kp
 have hl:=K.length;have TT:=a2U I E K;obtain⟨T,Z,t2,t3,t4⟩:=X6 K E.1;refine V1 w TT hw (by rw[aj];omega) λh1 h' os c tk k1 k2 e hp hs=>?_;obtain⟨m,p1,p2⟩:=N5 (f:=λt:Value×V×List Int=>t.1) hp Z.symm;have M:=I.kept (t':=tk) k1;have B:∀t∈m,RelV t.2.1 t.1/\IT H t.2.1 t.2.2/\J3 s.heap t.1=t.2.2:=λt F=>by
  obtain⟨i,hi⟩:=cC.mp (p1.mem_iff.mp F);obtain⟨r1,r2,Y⟩:=t4 i t hi;obtain⟨row,W,q2⟩:=E.2 i _ r2;rw[Y]at W;cases W;have O:(j.map λx=>Value.ref x.2.1)[i]?=some t.1:=by rw[<-Z,aQ,hi];rfl
  obtain⟨r',b,S,f1,f2,f3,f4⟩:=TT.2 i _ O;rw[Y]at f1;cases f1;exact⟨r1,q2,by rw[f2];exact D8 f3 f4⟩
 have J:(m.map (·.2.1)).length<=sizeLine:=by
  have P:=(p1.map (λt:Value×V×List Int=>t.2.1)).length_eq;rw[t2]at P;simp only[aj]at P⊢;omega
 have G:Vals (m.map (·.2.1)) os:=by rw[<-p2];exact P6 λt F=>(B t F).1
 have I2:=M.laid (h':=h') (a:=h1.objs.size) (o:=.lst (m.map (·.2.1))) (t':=tk) k2 (ao _) ⟨J,os,c,G,e⟩;refine⟨.ref h1.objs.size,_,I2,rfl,q _ _ (m.map (·.2.2)) (M.hok.fresh (ao _)) ⟨by rw[aj,aj],λi v p=>?_⟩ (by rw[<-t3];exact p1.map _) ?_⟩
 .rw[aQ]at p⊢;cases n:m[i]? with
  |none=>rw[n]at p;cases p
  |some t =>
   rw[n]at p;cases p;exact⟨t.2.2,rfl,(B t (aF n)).2.1⟩
 .unfold J4;rw[cw];rw[<-p2,cw]at hs;refine hs.imp_of_mem λ{x y} hx hy A=>?_;rw[(B x hx).2.2,(B y hy).2.2]at A;exact A
end
end L2
namespace L2
open PySem PySem.Spec PyProof.Rows
def b5X(i j:Int):Prop:=0<j/\j<2 ^ 64
variable {X:Cx}
theorem b1Y:OpR X (binaryOp .FloorDiv) (rI b5X λi j=>.int (i / j)):=opI λi j _ _ _ _ _ a q=>by
 have h1:(0:Int)<j:=a.1;have h2:j<2 ^ 64:=a.2;refine floordiv_int (by omega) (by rw[Int.fdiv_eq_ediv_of_nonneg i (by omega)];exact q) (.inl (PyProof.noPylong_of_log2 ?_));have:j.natAbs.log2<64:=(Nat.log2_lt (by omega)).mpr (by omega);omega
theorem b4V{a b:Expr}{ta tb:TE}{pos:Pos}(c:JE X a ta)(d:JE X b tb):JE X (.BinOp a .FloorDiv b pos) (tOp (rI b5X λi j=>.int (i / j)) ta tb):=⟨V8 b1Y c.h d.h⟩
end L2
namespace L2
open PySem PySem.Spec PyProof.Rows PySem.W
section
variable {prog:Program}{w:World}{A:Around}{E:Value->Shared->Prop}{s:Shared}{d:Addr}{ep:Nat}{es:Array DictEntry}
theorem b4b{Q:Value->Shared->Prop}(hs:(d==sysModules)=false)(D:DRaw s.heap d es ep)(hz:(es.size:Int)<2 ^ 63)
  (q:Q (.int es.size (s.toks+1)) {s with toks:=s.toks+1+1}):wpAny (model prog w) A (call (.builtin "len") [.ref d]) Q E s:=by
 refine ft kind_len plain_len entry_len (args_len1 _) ?_;have ty:=D.typ;obtain⟨c,a,_,b⟩:=D;unfold Builtin.«len»;refine aa (m:=oneArg "len" _) (ae ?_);refine aa (m:=callSpecial? (.ref d) (Str.ofString "__len__")) (bJ (name:=Str.ofString "__len__") ty PySem.F.slot_dict_len (bM PySem.F.slot_dict_len ty PySem.F.entry_dict_len ?body (PySem.F.args_dict_len_1 _)))
 case body =>
  show wpAny _ _ (dictSize d>>=λn=>_) _ _ _;unfold dictSize;refine aa (aa (eQ a b (ae ?_)));show wpAny _ _ (Builtin.Dict.pendingCount d>>=λn=>_) _ _ _;refine aa (wpAny_pendingCount_other hs (wpAny_ret_mkInt ?_));show wpAny _ _ _ _ _ {s with toks:=s.toks+1};rw[show((es.size:Nat):Int)+((0:Nat):Int)=(es.size:Int) by simp];refine aa (b_ (ae (aa (eG ?_))));show wpAny _ _ (if ((es.size:Nat):Int)<0 then _ else _) _ _ _;rw[aq (by omega)];show wpAny _ _ (if ((es.size:Nat):Int) ≥ 2 ^ 63 then _ else _) _ _ _;rw[aq (by omega)];exact aa (wpAny_mkInt (ae ⟨_,rfl,q⟩))
end
def b5L:RL:=λxs H Q=>∃(a:Addr) (kvs:List (List Key×V)),xs=[V.ref a]/\H a=some (.dT kvs)/\Q (.int kvs.length) H
section
variable {X:Cx}
theorem b0r:E2 X (.builtin "len") b5L:=by
 intro pins s σ H xs v Q I r h;obtain⟨a,kvs,rfl,l,q⟩:=h;obtain⟨u,rfl,p⟩:=r.one;cases p;obtain⟨m,b,f,n,o,es,ep,g,i,j,k,t⟩:=I.hok _ _ l;have d:kvs.length=f.length:=Paired.length n;have c:es.size=f.length:=by rw[<-ay,k,aj]
 have e:=m;rw[a_]at e;refine b4b b ⟨o,g,i,j⟩ (by omega) ?_;rw[c,<-d];exact⟨.int kvs.length,H,I.tok _,⟨_,rfl⟩,q⟩
variable {a b c e o i value:Expr}{es rest:List Expr}{ta tb tc te to td ty tv:TE}{t:TA}{pos p apos cpos p2 pos' tpos:Pos}
theorem b4U(d:Gl X "len")(f:X.mg "len"=none)(b:JA X [e] t)(c:starEach [e] X.env=(false,eval e X.env)::starEach [] X.env:=by rfl)(a:(backTo pos (starEach [] X.env)).any (·.1)=false:=by rfl):JE X (.Call (.Name "len" p) [e] [] pos) (tCB b5L t):=⟨E7 b0r d f b3s b.h (by decide) (by decide) c a⟩
theorem b2G(f:Gl X "sorted")(g:X.mg "sorted"=none)(b:JA X [e] t)(c:X.calm=true:=by rfl)(d:starEach [e] X.env=(false,eval e X.env)::starEach [] X.env:=by rfl)(a:(backTo pos (starEach [] X.env)).any (·.1)=false:=by rfl):JE X (.Call (.Name "sorted" p) [e] [] pos) (tCB a6W t):=⟨E7 (a7u c) f g a1m b.h (by decide) (by decide) d a⟩
theorem a8E:JE X (.Dict [] [] pos) b0U:=⟨b1T⟩
theorem b8Z(c:X.A.units+60<cLine)(hi:JE X i ty)(b:JE X o td)(a:behindInMarks .In o=false):JE X (.Compare i [.In] [o] pos) (b8h ty td):=⟨b6M (b6P (by omega) hi.h b.h) a⟩
theorem a9V(c:X.A.units+60<cLine)(hi:JE X i ty)(b:JE X o td)(a:behindInMarks .NotIn o=false):JT X (.Compare i [.NotIn] [o] pos) (tB (a7Q ty td)):=⟨b6t (a9C (by omega) hi.h b.h) a⟩
theorem b4R(c:X.A.units+60<cLine)(a:JE X o td)(hi:JE X i ty)(b:JE X value tv)(hs:swapsWith value (some (.Subscript o i pos')) pos.line X.env=pure false:=by rfl):JS X (.Assign [.Subscript o i pos'] value pos) (b5D td ty tv):=⟨b4i (by omega) a.h hi.h b.h hs⟩
theorem M6(K:PySem.W.Frag){f:Str}(c:JE X e ta)(a:X.K=K:=by rfl)(b:attributeBase e f X.env (eval e X.env)=eval e X.env:=by rfl):JE X (.Attribute e f pos) (b8g K ta f):=by
 subst a;exact⟨b6L c.h b⟩
theorem T9(K:PySem.W.Frag){f:Str}(b:JE X o ta)(c:JE X value tv)(a:X.K=K:=by rfl)(hs:swapsWith value (some (.Attribute o f pos')) pos.line X.env=pure false:=by rfl):JS X (.Assign [.Attribute o f pos'] value pos) (b8l K ta tv f):=by
 subst a;exact⟨b6x b.h c.h hs⟩
end
structure MethOk(P:Program)(w:World)(K:PySem.W.Frag)(mg:Str->Option Value)(base:Heap)(C:Addr)(m:Str)(k:Nat)(ps:List Str)(sp:Sp):Prop where
 ex:∃f fd,Meth K C m f/\Binds K fd ps []/\FnOk P w K mg base CX0 k f fd ps sp
structure MethAt(K:PySem.W.Frag)(C:Addr)(m qual:Str)(st:Stmt)(ps:List Str):Prop where
 ex:∃f fd,Meth K C m f/\Fun K m qual st f fd/\Binds K fd ps []
structure MakeOk(P:Program)(w:World)(K:PySem.W.Frag)(mg:Str->Option Value)(base:Heap)(x:Str)(C:Addr)(k:Nat)(ps:List Str)(sp:Sp):Prop where
 ex:∃f fd,mg x=some (.ref C)/\Mk K C f/\Binds K fd ps []/\FnOk P w K mg base CX0 k f fd ps sp
section
variable {P:Program}{w:World}{K:PySem.W.Frag}{mg:Str->Option Value}{base:Heap}{C:Addr}{m qual:Str}{st:Stmt}{N ps:List Str}{k:Nat}{sp:Sp}
theorem MethAt.fnJ(F:MethAt K C m qual st ps)(S:FnScope N ps (A4 st))(c:∀vs H Q E,sp vs H Q E->vs.length=ps.length)
  (b:∀(a:Value) (f:Addr) (A:Around) (outer:List Env) (s:Shared) (H:Hp) (vs:List V) (Q:VK) (E:XK),Room k (A.deeper (envOfC qual (A4 st) s.heap.objs.size f a))->sp vs H Q E ->
   ∃t,JB (L6 CX0 P w K mg base N qual (A4 st) f a A outer s H E).nox (F0 st) t/\t {nx:=λ_ H'=>Q .non H',rt:=Q} (start N vs) H):MethOk P w K mg base C m (k+1) ps sp:=by
 obtain⟨f,fd,h1,h2,d⟩:=F.ex;exact⟨f,fd,h1,d,h2.okJ S c λa=>b a f⟩
theorem MethOk.make{x:Str}(O:MethOk P w K mg base C "__init__" k ps sp)(d:mg x=some (.ref C))(c:PySem.W.makesIn K C=true)(b:PySem.W.keepIn K (.ref C)=true):MakeOk P w K mg base x C k ps sp:=by
 obtain⟨f,fd,h1,h2,a⟩:=O.ex;exact⟨f,fd,d,⟨c,h1.at_,h1.fn,b⟩,h2,a⟩
end
section
variable {X:Cx}{C:Addr}{m x:Str}{k:Nat}{ps:List Str}{sp:Sp}{o e:Expr}{es:List Expr}{ta:TE}{t:TA}{pos apos p:Pos}
theorem b7o{pl:Sem Bool}(O:MethOk X.prog X.w X.K X.mg X.base C m k ps sp)(c:Cls X.K C)(j:Room k X.A)(i:JE X o ta)(h:JA X (e::es) t)
  (b:starEach (e::es) X.env=(false,eval e X.env)::starEach es X.env:=by rfl) (a:(backTo pos (starEach es X.env)).any (·.1)=false:=by rfl)
  (l:eval (.Call (.Attribute o m apos) (e::es) [] pos) X.env=(eval o X.env>>=λd=>standAt apos.atName>>=λ_=>holding [d] (getMethod d m pl)>>=λp=>match p with | (f,first)=>callWith pos f first (backTo pos (starEach (e::es) X.env)) (backToKw pos (keywordEach [] X.env))):=by rfl) :
  JE X (.Call (.Attribute o m apos) (e::es) [] pos) (a1s C m sp [] E0 ta t):=by
 obtain⟨f,fd,h1,h2,g⟩:=O.ex;exact⟨b4t (pl:=pl) i.h c h1 g j h2 .nil a8s h.h b a l⟩
theorem a4O{pl:Sem Bool}(O:MethOk X.prog X.w X.K X.mg X.base C m k ps sp)(c:Cls X.K C)(e:Room k X.A)(d:JE X o ta)
  (g:eval (.Call (.Attribute o m apos) [] [] pos) X.env=(eval o X.env>>=λa=>standAt apos.atName>>=λ_=>holding [a] (getMethod a m pl)>>=λp=>match p with | (f,first)=>callWith pos f first (backTo pos (starEach [] X.env)) (backToKw pos (keywordEach [] X.env))):=by rfl) :
  JE X (.Call (.Attribute o m apos) [] [] pos) (a1s C m sp [] E0 ta a0T):=by
 obtain⟨f,fd,h1,h2,b⟩:=O.ex;exact⟨b1Q (pl:=pl) d.h c h1 b e h2 .nil a8s g⟩
theorem b7p(O:MakeOk X.prog X.w X.K X.mg X.base x C k ps sp)(j:Room (k+1) X.A)(i:Gl X x)(g:JA X (e::es) t)(a:(x==("__debug__" : Str))=false:=by decide)
  (h:starEach (e::es) X.env=(false,eval e X.env)::starEach es X.env:=by rfl) (b:(backTo pos (starEach es X.env)).any (·.1)=false:=by rfl) :
  JE X (.Call (.Name x p) (e::es) [] pos) (b5w C sp [] E0 t):=by
 obtain⟨f,fd,c,h1,h2,d⟩:=O.ex;exact⟨b4u h1 d j i c h2 .nil a8s g.h a h b⟩
end
end L2
namespace L2
open PySem PySem.Spec PyProof.Rows
theorem a2J{K:PySem.W.Frag}{src:List (Option Nat)}{σ caps:St}{Q:VK}{a:Addr}{vs:List V}{rss:LLI}{H:Hp}{l:TT}(t:List Int->Bool)(o:vs.length<=sizeLine)(b:∀H',Same H H'->SqL K H' a vs)(k:Its H vs rss)(d:B5 src σ=none::caps)
  (g:∀v r H1 j,r∈rss->IT H1 v r->Same H H1->(∀H2,Same H1 H2->j (t r) H2)->l (some v::caps) H1 j) (hd:∀H1 p m,Same H H1->H1 p=none->Its H1 m (rss.filter t)->Q (.ref p) (upd H1 p (.lst m))):J5 src (A9 0) l (Z4 0) σ Q (Itl K a) H:=by
 refine L7 (xs:=vs) (by omega) (λi ys H'=>Same H H'/\Its H' ys ((rss.take i).filter t)) ⟨Same.refl H,by simpa using Its.nil⟩ (λi ys H' _ h=>⟨b H' h.1,by rw[h.2.1];exact bf (bK _ _) (bP _ _)⟩) ?_ ?_
 .rintro i x ys H' hx ⟨s,hy⟩;obtain⟨r,n,f,c⟩:=k.mem hx;show Sub _ ((B5 src σ).set 0 (some x))/\_;rw[d];refine⟨Sub.one,g x r H' _ n (c.same s) s λH2 s2=>?_⟩;rw[bj,f];cases e:t r with
  |true=>exact⟨_,rfl,s.trans s2,by simpa[e]using(hy.same s2).snoc ((c.same s).same s2)⟩
  |false=>exact⟨s.trans s2,by simpa[e]using hy.same s2⟩
 .rintro ys H' ⟨s,hy⟩ p hp;rw[k.1,bq]at hy;exact hd H' p ys s hp hy
def Prs(H:Hp)(ps:List V)(f:Nat->List Int)(js:List Nat):Prop:=ps.length=js.length/\∀(i:Nat) (q:V),ps[i]?=some q->∃(j:Nat) (b:Addr) (v:V),js[i]?=some j/\q=.ref b/\H b=some (.tup [.int j,v])/\IT H v (f j)
theorem Prs.same{H H':Hp}{ps:List V}{f:Nat->List Int}{a:List Nat}(h:Prs H ps f a)(s:Same H H'):Prs H' ps f a :=
 ⟨h.1,λi q e=>let ⟨j,b,v,e1,e2,e3,e4⟩:=h.2 i q e;⟨j,b,v,e1,e2,s _ _ e3,e4.same s⟩⟩
theorem Prs.nil{H:Hp}{f:Nat->List Int}:Prs H [] f []:=⟨rfl,λi q e=>by simp at e⟩
theorem Prs.snoc{H:Hp}{ps:List V}{f:Nat->List Int}{c:List Nat}{j:Nat}{b:Addr}{v:V}(h:Prs H ps f c)(k:H b=some (.tup [.int j,v]))(l:IT H v (f j)):Prs H (ps++[.ref b]) f (c++[j]):=by
 refine⟨by rw[ax,ax,h.1];rfl,λi q e=>?_⟩;rcases Nat.lt_or_ge i ps.length with hi|hi
 .rw[br hi]at e;obtain⟨m,b',n,d,g⟩:=h.2 i q e;exact⟨m,b',n,by rw[br (by rw[<-h.1];exact hi)];exact d,g⟩
 .rw[aX hi]at e;have a:i-ps.length=0:=by
   rcases Nat.eq_zero_or_pos (i-ps.length)with z|z
   .exact z
   .rw[bL (by simp;omega)]at e;cases e
  rw[a]at e;cases e;exact⟨j,b,v,by rw[aX (by rw[<-h.1];exact hi),<-h.1,a];rfl,rfl,k,l⟩
section
variable {X:Cx}{k:Nat}{ps:List Str}{sp:Sp}{x y:Str}{p pos cpos pos' ip sp':Pos}{e:Expr}{es:List Expr}{t:TA}{i:Nat}{z:Int}{jj:Nat}
end
end L2
namespace L2
open PySem PySem.Spec PyProof.Rows PySem.W
section
variable {X:Cx}{tg:Expr}
end
section
variable {X:Cx}
end
section
variable {X:Cx}{o e:Expr}{es:List Expr}{to:TE}{t:TA}{apos cpos:Pos}
end
theorem a9R{K:PySem.W.Frag}{src:List (Option Nat)}{σ caps:St}{Q:VK}{a:Addr}{vs:List V}{rss:LLI}{H:Hp}{te:TE}(f:List Int->V)(m:vs.length<=sizeLine)(b:∀H',Same H H'->SqL K H' a vs)(k:Its H vs rss)(c:B5 src σ=none::caps)
  (g:∀v r H1 j,r∈rss->IT H1 v r->Same H H1->(∀H2,Same H1 H2->j (f r) H2)->te (some v::caps) H1 j) (hd:∀H1 p,Same H H1->H1 p=none->Q (.ref p) (upd H1 p (.lst (rss.map f)))):J5 src (A9 0) P7 te σ Q (Itl K a) H:=by
 refine L7 (xs:=vs) (by omega) (λi ys H'=>Same H H'/\ys=(rss.take i).map f) ⟨Same.refl H,by simp⟩ (λi ys H' _ h=>⟨b H' h.1,by rw[h.2,aj];exact bP _ _⟩) ?_ ?_
 .rintro i x ys H' hx ⟨s,rfl⟩;obtain⟨r,l,d,e⟩:=k.mem hx;show Sub _ ((B5 src σ).set 0 (some x))/\_;rw[c];refine⟨Sub.one,g x r H' _ l (e.same s) s λH2 s2=>⟨s.trans s2,?_⟩⟩;rw[bj,d];simp
 .rintro ys H' ⟨s,rfl⟩ p hp;rw[k.1,bq];exact hd H' p s hp
section
variable {X:Cx}{k:Nat}{ps:List Str}{sp:Sp}{x:Str}{p pos cpos:Pos}{e:Expr}{es:List Expr}{t:TA}
end
end L2
namespace L2
open PySem PySem.Spec PyProof.Rows
section
variable {prog:Program}{w:World}{A:Around}{E:Value->Shared->Prop}{s:Shared}
end
section
variable {X:Cx}{pos:Pos}
end
section
variable {X:Cx}{es:List Expr}{pos:Pos}
end
end L2
namespace L2
open PySem PySem.Spec PyProof.Rows PySem.W
section
variable {X:Cx}
end
section
variable {X:Cx}{e:Expr}{es:List Expr}{t:TA}{p pos:Pos}
end
section
variable {X:Cx}{k v:Expr}{tk tv:TE}{pos:Pos}
end
end L2
section
open PySem PyProof.Rows
end
namespace L2
open PySem PySem.Spec PyProof.Rows
section
variable {X:Cx}
variable {o e:Expr}{es:List Expr}{to:TE}{t:TA}{pos apos cpos:Pos}
end
end L2
namespace L2
theorem b8X{α:Type}{us:List α}(h:us.length=0):us=[]:=List.length_eq_zero_iff.mp h
theorem a0Z{α:Type}{us:List α}(h:us.length=1):∃a,us=[a]:=by
 cases us with
 |nil=>cases h
 |cons a us=>exact⟨a,by rw[b8X (us:=us) (gk h)]⟩
theorem T4{α:Type}{us:List α}(h:us.length=2):∃a b,us=[a,b]:=by
 cases us with
 |nil=>cases h
 |cons a us=>obtain⟨b,e⟩:=a0Z (us:=us) (gk h);exact⟨a,b,by rw[e]⟩
theorem a6f{α:Type}{us:List α}(h:us.length=3):∃a b c,us=[a,b,c]:=by
 cases us with
 |nil=>cases h
 |cons a us=>obtain⟨b,c,e⟩:=T4 (us:=us) (gk h);exact⟨a,b,c,by rw[e]⟩
theorem b8W{α:Type}{us:List α}(h:us.length=4):∃a b c d,us=[a,b,c,d]:=by
 cases us with
 |nil=>cases h
 |cons a us=>obtain⟨b,c,d,e⟩:=a6f (us:=us) (gk h);exact⟨a,b,c,d,by rw[e]⟩
theorem b8V{α:Type}{us:List α}(h:us.length=5):∃a b c d e,us=[a,b,c,d,e]:=by
 cases us with
 |nil=>cases h
 |cons a us=>obtain⟨b,c,d,e,q⟩:=b8W (us:=us) (gk h);exact⟨a,b,c,d,e,by rw[q]⟩
section
open PySem PySem.Spec PyProof.Rows PySem.W
abbrev FnL(K:PySem.W.Frag)(f:Addr)(nm qn:Str)(st:Stmt)(oc:Value)(od:Option Addr)(sl:Array (Option Value))(kV dc pm:Value)(an:Option Addr)(cd ct:Value):Prop:=K.lookup f=some ⟨oc,od,.func (PySem.W.fnOf nm qn (R1 st) (F0 st) (A4 st) .none kV dc pm an cd ct),sl⟩
variable {K:PySem.W.Frag}{h:Heap}{mg:Str->Option Value}{x qn:Str}{st:Stmt}{f:Addr}{od an:Option Addr}{sl:Array (Option Value)}{oc kV dc pm cd ct:Value}{C:Addr}{m:Str}
theorem C6(X:K.In h)(G:h.Ns mainGlobals mg)(a:nsIn K mainGlobals x=some (some (.ref f)))(l:FnL K f x x st oc od sl kV dc pm an cd ct)(c:codeIn K cd x=true)(k:keepIn K (.ref f)=true){ps:List Str}
  (e:∀(kV d pm:Value) (an:Option Addr) (b ct:Value) (us:List Value),us.length=ps.length->bindArgs (fnOf x x (R1 st) (F0 st) (A4 st) .none kV d pm an b ct) ⟨us,[]⟩=pure (ps.zip us)):FunAt K mg x st ps:=⟨f,_,mg_of X G a,a3a (st:=st) l c k,(a3a (st:=st) l c k).binds e⟩
theorem a2I(a:findIn K (.ref C) m=some (some (.ref f)))(i:isFn K (.ref f)=true)(l:FnL K f m qn st oc od sl kV dc pm an cd ct)(c:codeIn K cd qn=true)(k:keepIn K (.ref f)=true){ps:List Str}
  (e:∀(kV d pm:Value) (an:Option Addr) (b ct:Value) (us:List Value),us.length=ps.length->bindArgs (fnOf m qn (R1 st) (F0 st) (A4 st) .none kV d pm an b ct) ⟨us,[]⟩=pure (ps.zip us)):MethAt K C m qn st ps:=⟨f,_,⟨a,i,k⟩,a3a (st:=st) l c k,(a3a (st:=st) l c k).binds e⟩
end
section
open PySem PySem.Spec PyProof.Rows PySem.W
variable {K:PySem.W.Frag}{h:Heap}{mg:Str->Option Value}{x nm qn:Str}{C N:Addr}{bs bm sub bmB above:List Value}{hd ab:Bool}{sn:List Str}{col:Option Bool}{dd:Option Addr}{k0 k1 k2 k3 k5:Option Value}{newId:String}
theorem b6R(X:K.In h)(b:mg x=some (.ref C))(c:K.lookup C=some (excClassObj nm qn C N bs bm hd sn sub ab col dd k0 k1 k2 k3 k5 newId))(tx:tailIn K bmB bm=true)(ok:nsOkIn K N=true)(a:nsIn K N "__init__"=some none):OwnCls x C bmB newId mg h :=
 ⟨b,bm,N,nm,qn,bs,hd,sn,sub,ab,col,dd,k0,k1,k2,k3,k5,_,X _ _ c,.of_isNs (isNs_of_in X ok),nsMap_none_of_in X ok a,tail_of_in X tx⟩
end
inductive Ex1{α0:Type}(p:α0->Prop):Prop
 |mk (a0:α0) (h:p a0):Ex1 p
inductive Ex2{α0 α1:Type}(p:α0->α1->Prop):Prop
 |mk (a0:α0) (a1:α1) (h:p a0 a1):Ex2 p
inductive Ex3{α0 α1 α2:Type}(p:α0->α1->α2->Prop):Prop
 |mk (a0:α0) (a1:α1) (a2:α2) (h:p a0 a1 a2):Ex3 p
inductive Ex4{α0 α1 α2 α3:Type}(p:α0->α1->α2->α3->Prop):Prop
 |mk (a0:α0) (a1:α1) (a2:α2) (a3:α3) (h:p a0 a1 a2 a3):Ex4 p
inductive Ex5{α0 α1 α2 α3 α4:Type}(p:α0->α1->α2->α3->α4->Prop):Prop
 |mk (a0:α0) (a1:α1) (a2:α2) (a3:α3) (a4:α4) (h:p a0 a1 a2 a3 a4):Ex5 p
inductive An2(a0 a1:Prop):Prop
 |mk (h0:a0) (h1:a1):An2 a0 a1
inductive An3(a0 a1 a2:Prop):Prop
 |mk (h0:a0) (h1:a1) (h2:a2):An3 a0 a1 a2
inductive An4(a0 a1 a2 a3:Prop):Prop
 |mk (h0:a0) (h1:a1) (h2:a2) (h3:a3):An4 a0 a1 a2 a3
inductive An5(a0 a1 a2 a3 a4:Prop):Prop
 |mk (h0:a0) (h1:a1) (h2:a2) (h3:a3) (h4:a4):An5 a0 a1 a2 a3 a4
inductive An8(a0 a1 a2 a3 a4 a5 a6 a7:Prop):Prop
 |mk (h0:a0) (h1:a1) (h2:a2) (h3:a3) (h4:a4) (h5:a5) (h6:a6) (h7:a7):An8 a0 a1 a2 a3 a4 a5 a6 a7
inductive An9(a0 a1 a2 a3 a4 a5 a6 a7 a8:Prop):Prop
 |mk (h0:a0) (h1:a1) (h2:a2) (h3:a3) (h4:a4) (h5:a5) (h6:a6) (h7:a7) (h8:a8):An9 a0 a1 a2 a3 a4 a5 a6 a7 a8
inductive An10(a0 a1 a2 a3 a4 a5 a6 a7 a8 a9:Prop):Prop
 |mk (h0:a0) (h1:a1) (h2:a2) (h3:a3) (h4:a4) (h5:a5) (h6:a6) (h7:a7) (h8:a8) (h9:a9):An10 a0 a1 a2 a3 a4 a5 a6 a7 a8 a9
end L2
namespace L2
namespace Tab
open PySem
def gI:Nat->Nat->Nat
 |0,x=>x
 |n+1,x=>5*gI n x+1
def gS:Nat->Nat
 |0=>0
 |n+1=>5*gS n+1
theorem b5U:∀n x,gI n x=5 ^ n*x+gS n
 |0,x=>by simp[gI,gS]
 |n+1,x=>by
  rw[gI,b5U n x,gS,dr,Nat.mul_add,<-Nat.mul_assoc,fA 5 (5 ^ n)];omega
theorem a8K:∀n,4*gS n+1=5 ^ n
 |0=>rfl
 |n+1=>by
  have:=a8K n;rw[gS,dr];omega
theorem a3d:∀k,∃u,5 ^ (2 ^ k)=1+2 ^ (k+2)*(2*u+1)
 |0=>⟨0,rfl⟩
 |k+1=>by
  obtain⟨u,h⟩:=a3d k;refine⟨u+2 ^ k*(2*u+1)*(2*u+1),?_⟩;rw[dr 2 k,Nat.pow_mul,h,Nat.pow_two];have a:2 ^ (k+1+2)=8*2 ^ k:=by rw[Nat.pow_add,dr];omega
  have c:2 ^ (k+2)=4*2 ^ k:=by rw[Nat.pow_add,fA]
  rw[a,c];generalize 2 ^ k=b
  grind
theorem b7x(k:Nat):∃u,gS (2 ^ k)=2 ^ k*(2*u+1):=by
 obtain⟨u,h⟩:=a3d k;refine⟨u,?_⟩;have:=a8K (2 ^ k);have a:2 ^ (k+2)=4*2 ^ k:=by rw[Nat.pow_add,fA]
 rw[h,a,Nat.mul_assoc]at this;omega
theorem b5d(k y:Nat):gI (2 ^ k) y % 2 ^ (k+1)=(y+2 ^ k) % 2 ^ (k+1):=by
 obtain⟨u,h⟩:=a3d k;obtain⟨v,h2⟩:=b7x k;rw[b5U,h,h2];have e:(1+2 ^ (k+2)*(2*u+1))*y+2 ^ k*(2*v+1)=(y+2 ^ k)+2 ^ (k+1)*(2*(2*u+1)*y+v):=by
  have a:2 ^ (k+1)=2*2 ^ k:=by rw[dr];omega
  have c:2 ^ (k+2)=4*2 ^ k:=by rw[Nat.pow_add,fA]
  rw[a,c];generalize 2 ^ k=b
  grind
 rw[e,Nat.add_mul_mod_self_left]
def fI(M:Nat):Nat->Nat->Nat
 |0,x=>x
 |n+1,x=>(fI M n x*5+1) % M
theorem b3c(M:Nat)(x:Nat)(a:x<M):∀n,fI M n x=gI n x % M
 |0=>(cT a).symm
 |n+1=>by
  rw[fI,b3c M x a n,gI,fA,Nat.add_mod,Nat.mul_mod,Nat.mod_mod,<-Nat.mul_mod,<-Nat.add_mod]
theorem b3a(m:Nat):∀n x,gI (n+m) x=gI n (gI m x)
 |0,x=>by rw[dH];rfl
 |n+1,x=>by rw[Nat.add_right_comm,gI,b3a m n x,gI]
theorem b2Z:∀(k x s:Nat),∃n,n<2 ^ k/\gI n x % 2 ^ k=s % 2 ^ k
 |0,x,s=>⟨0,by decide,by rw[Nat.pow_zero,Nat.mod_one,Nat.mod_one]⟩
 |k+1,x,s=>by
  obtain⟨n,l,h⟩:=b2Z k x s;have f:2 ^ (k+1)=2*2 ^ k:=by rw[dr];omega
  have m:0<2 ^ k:=Nat.pow_pos (by decide);by_cases a:gI n x % 2 ^ (k+1)=s % 2 ^ (k+1)
  .exact⟨n,by omega,a⟩
  .refine⟨2 ^ k+n,by omega,?_⟩;rw[b3a,b5d];generalize gI n x=y at *;rw[f]at a⊢;generalize 2 ^ k=M at *;have a1:=Nat.mod_add_div y (2*M);have g:=Nat.mod_add_div s (2*M);have i:=fM y (show 0<2*M by omega);have j:=fM s (show 0<2*M by omega);have b:y % M=y % (2*M) % M:=(Nat.mod_mul_left_mod y 2 M).symm;have c:s % M=s % (2*M) % M:=(Nat.mod_mul_left_mod s 2 M).symm;rw[Nat.add_mod,cT (show M<2*M by omega)];generalize y % (2*M)=p at *;generalize s % (2*M)=q at *;rw[b,c]at h;have d:p % M=if p<M then p else p-M:=by
    split
    .exact cT (by assumption)
    .rw[Nat.mod_eq_sub_mod (by omega)];exact cT (by omega)
   have e:q % M=if q<M then q else q-M:=by
    split
    .exact cT (by assumption)
    .rw[Nat.mod_eq_sub_mod (by omega)];exact cT (by omega)
   rw[d,e]at h;split at h<;>split at h
   .omega
   .rw[cT (by omega)];omega
   .rw[show p+M=p-M+2*M by omega,Nat.add_mod_right,cT (by omega)];omega
   .omega
abbrev Pr:=SetTable.Probe
noncomputable def adv(mask:Nat)(p:Pr):Pr :=
 if p.more > 0 then {p with j:=p.j+1,more:=p.more-1} else
 {p with j:=(SetTable.leap mask p.i p.perturb).1,more:=SetTable.runEnd mask (SetTable.leap mask p.i p.perturb).1-(SetTable.leap mask p.i p.perturb).1,i:=(SetTable.leap mask p.i p.perturb).1,perturb:=(SetTable.leap mask p.i p.perturb).2}
theorem b7N(t:SetTable)(p:Pr):t.advance p=adv t.mask p:=rfl
noncomputable def C3(mask:Nat)(p:Pr):Nat->Pr
 |0=>p
 |n+1=>adv mask (C3 mask p n)
theorem K2(mask:Nat)(p:Pr):∀n,C3 mask p (n+1)=C3 mask (adv mask p) n
 |0=>rfl
 |n+1=>by rw[C3,K2 mask p n];rfl
theorem a0n(mask:Nat)(p:Pr)(m:Nat):∀n,C3 mask p (m+n)=C3 mask (C3 mask p m) n
 |0=>rfl
 |n+1=>by rw[<-el,C3,a0n mask p m n];rfl
theorem a0R(mask:Nat)(p:Pr):∀n,(C3 mask p n).dummy=p.dummy
 |0=>rfl
 |n+1=>by
  rw[C3,<-a0R mask p n];unfold adv;split<;>rfl
noncomputable def a0V(mask i pt:Nat):Pr:={j:=i,more:=SetTable.runEnd mask i-i,i,perturb:=pt,dummy:=none}
noncomputable def st0(mask:Nat)(h:Int):Pr:=a0V mask (SetTable.bits h % (mask+1)) (SetTable.bits h)
theorem a1h(mask i pt:Nat):∀c,c<=SetTable.runEnd mask i-i->C3 mask (a0V mask i pt) c={j:=i+c,more:=SetTable.runEnd mask i-i-c,i,perturb:=pt,dummy:=none}
 |0,_=>rfl
 |c+1,h=>by
  rw[C3,a1h mask i pt c (by omega)];unfold adv;rw[az (show SetTable.runEnd mask i-i-c > 0 by omega)];simp only[SetTable.Probe.mk.injEq,and_true];omega
theorem b3X(mask i:Nat):SetTable.runEnd mask i-i<=9:=by
 unfold SetTable.runEnd;split<;>omega
theorem a5W(mask i pt:Nat):C3 mask (a0V mask i pt) (SetTable.runEnd mask i-i+1)=a0V mask (SetTable.leap mask i pt).1 (SetTable.leap mask i pt).2:=by
 rw[C3,a1h mask i pt _ (ao _)];unfold adv;rw[aq (by show ¬SetTable.runEnd mask i-i-(SetTable.runEnd mask i-i) > 0;omega)];rfl
def N3(mask:Nat)(i pt:Nat):Nat->Nat×Nat
 |0=>(i,pt)
 |k+1=>SetTable.leap mask (N3 mask i pt k).1 (N3 mask i pt k).2
theorem b1m(mask i pt:Nat):∀k,∃n,n<=10*k/\C3 mask (a0V mask i pt) n=a0V mask (N3 mask i pt k).1 (N3 mask i pt k).2
 |0=>⟨0,ao _,rfl⟩
 |k+1=>by
  obtain⟨n,h1,h2⟩:=b1m mask i pt k;have:=b3X mask (N3 mask i pt k).1;refine⟨n+(SetTable.runEnd mask (N3 mask i pt k).1-(N3 mask i pt k).1+1),by omega,?_⟩;rw[a0n,h2,a5W];rfl
theorem b1k(mask i pt:Nat):∀k,(N3 mask i pt k).2=pt / 32 ^ k
 |0=>by simp[N3]
 |k+1=>by
  rw[N3,dr,<-Nat.div_div_eq_div_mul,<-b1k mask i pt k];rfl
theorem a2u(mask i pt a:Nat):∀b,N3 mask i pt (a+b)=N3 mask (N3 mask i pt a).1 (N3 mask i pt a).2 b
 |0=>rfl
 |b+1=>by rw[<-el,N3,a2u mask i pt a b];rfl
theorem a5J(mask i:Nat):∀k,N3 mask i 0 k=(fI (mask+1) k i,0)
 |0=>rfl
 |k+1=>by
  rw[N3,a5J mask i k];show((fI (mask+1) k i*5+1+0 / 32) % (mask+1),0 / 32)=_;rw[Nat.zero_div,Nat.add_zero];rfl
theorem b5k(h:Int):SetTable.bits h<2 ^ 64:=by
 unfold SetTable.bits;have h1:=dP h (show(2:Int) ^ 64≠0 by decide);have h2:=dh h (show(0:Int)<2 ^ 64 by decide);omega
theorem b3Y(mask i pt:Nat)(hi:i<=mask):∀k,(N3 mask i pt k).1<=mask
 |0=>hi
 |k+1=>by
  rw[N3];exact eN (fM _ (eW _))
theorem a5K{mask k:Nat}(c:mask+1=2 ^ k)(h:Int)(s:Nat)(hs:s<=mask):∃r,r<mask+14/\(N3 mask (SetTable.bits h % (mask+1)) (SetTable.bits h) r).1=s:=by
 have b:=b5k h;have hi:=b3Y mask (SetTable.bits h % (mask+1)) (SetTable.bits h) (eN (fM _ (eW _))) 13;have a:=b1k mask (SetTable.bits h % (mask+1)) (SetTable.bits h) 13;rw[Nat.div_eq_of_lt (aM b (by decide))]at a;obtain⟨n,d,e⟩:=b2Z k (N3 mask (SetTable.bits h % (mask+1)) (SetTable.bits h) 13).1 s;refine⟨13+n,by omega,?_⟩;rw[<-c]at e;rw[a2u,a,a5J];show fI _ _ _=s;rw[b3c _ _ (by omega),e];exact cT (by omega)
noncomputable def pos(mask:Nat)(h:Int)(n:Nat):Nat:=(C3 mask (st0 mask h) n).j
theorem b1I{mask k:Nat}(b:mask+1=2 ^ k)(h:Int)(s:Nat)(hs:s<=mask):∃n,n<10*SetTable.turns mask/\pos mask h n=s:=by
 obtain⟨r,d,e⟩:=a5K b h s hs;obtain⟨n,c,a⟩:=b1m mask (SetTable.bits h % (mask+1)) (SetTable.bits h) r;refine⟨n,by unfold SetTable.turns;omega,?_⟩;unfold pos st0;rw[a,<-e];rfl
theorem a3l(xs:Array Nat)(j:Nat)(k:∀a b:Nat,a<b->b<xs.size->xs.getD a 0<xs.getD b 0):∀(fuel lo hi:Nat),hi-lo<=fuel->lo<=hi->hi<=xs.size->(∀i,i<lo->xs.getD i 0<j)->(∀i,hi<=i->i<xs.size->j<=xs.getD i 0) ->
  SetTable.below.go xs j fuel lo hi<=xs.size/\(∀i,i<SetTable.below.go xs j fuel lo hi->xs.getD i 0<j)/\∀i,SetTable.below.go xs j fuel lo hi<=i->i<xs.size->j<=xs.getD i 0
 |0,lo,hi,h1,h2,c,d,f=>by
  have:hi=lo:=by omega
  subst this;exact⟨c,d,f⟩
 |fuel+1,lo,hi,h1,h2,c,d,f=>by
  unfold SetTable.below.go;by_cases h:lo<hi
  .rw[az h];have n:(lo+hi) / 2<hi/\lo<=(lo+hi) / 2:=by omega
   have m:xs.getD ((lo+hi) / 2) j=xs.getD ((lo+hi) / 2) 0:=by
    have:(lo+hi) / 2<xs.size:=by omega
    simp[Array.getD,this]
   dsimp only;rw[m];by_cases g:xs.getD ((lo+hi) / 2) 0<j
   .rw[az g];refine a3l xs j k fuel _ _ (by omega) (by omega) c (λi l=>?_) f;by_cases e:i=(lo+hi) / 2
    .rw[e];exact g
    .exact gi (k i _ (by omega) (by omega)) g
   .rw[aq g];refine a3l xs j k fuel _ _ (by omega) (by omega) (by omega) d (λi l hs=>?_);by_cases e:i=(lo+hi) / 2
    .rw[e];omega
    .have:=k ((lo+hi) / 2) i (by omega) hs;omega
  .rw[aq h];have:hi=lo:=by omega
   subst this;exact⟨c,d,f⟩
def Ris(xs:Array Nat):Prop:=∀a b:Nat,a<b->b<xs.size->xs.getD a 0<xs.getD b 0
theorem J9{xs:Array Nat}(a:Ris xs)(j:Nat):SetTable.below xs j<=xs.size/\(∀i,i<SetTable.below xs j->xs.getD i 0<j)/\∀i,SetTable.below xs j<=i->i<xs.size->j<=xs.getD i 0 :=
 a3l xs j a xs.size 0 xs.size (by omega) (by omega) (ao _) (λi h=>absurd h (by omega)) (λi h1 h2=>absurd h2 (by omega))
theorem a0I{xs:Array Nat}{i:Nat}(h:i<xs.size):xs[i]?=some (xs.getD i 0):=by simp[Array.getD,h]
theorem a0O{xs:Array Nat}(a:Ris xs){i j:Nat}(h:xs[i]?=some j):SetTable.below xs j=i:=by
 obtain⟨d,b,c⟩:=J9 a j;have hi:i<xs.size:=(de.mp h).1;have e:xs.getD i 0=j:=by have:=a0I hi;rw[h]at this;injection this with this;exact this.symm
 rcases dv (SetTable.below xs j) i with z|z|z
 .have h1:=c _ (ao _) (by omega);have h2:=a _ _ z hi;omega
 .exact z
 .have:=b i z;omega
theorem a1l{xs:Array Nat}(a:Ris xs)(j:Nat):xs[SetTable.below xs j]?=some j↔j∈xs:=by
 constructor
 .intro h;exact Array.mem_of_getElem? h
 .intro h;obtain⟨i,hi⟩:=Array.mem_iff_getElem?.mp h;rw[a0O a hi];exact hi
theorem a8g{t:SetTable}(a:Ris t.place)(hd:t.dummies=#[])(j:Nat):t.slot j=if j∈t.place then .live (SetTable.below t.place j)else .empty:=by
 unfold SetTable.slot;dsimp only;by_cases h:j∈t.place
 .rw[az h,az];rw[(a1l a j).mpr h];simp
 .rw[aq h,aq,hd]
  .rw[aq];unfold SetTable.has;simp
  .intro z;exact h ((a1l a j).mp (by simpa using z))
theorem a5P{t:SetTable}(i:Ris t.place)(hd:t.dummies=#[])(a:Nat->Int)(h:Int):∀(fuel:Nat) (p:Pr),p.dummy=none->(∃n,n<fuel/\(C3 t.mask p n).j∉t.place) ->
  (∃n,(C3 t.mask p n).j∉t.place/\(∀m,m<n->(C3 t.mask p m).j∈t.place/\a (SetTable.below t.place (C3 t.mask p m).j)≠h)/\SetTable.probe.go t a h fuel p=some (.empty (C3 t.mask p n).j none)) ∨
  ∃n,(C3 t.mask p n).j∈t.place/\a (SetTable.below t.place (C3 t.mask p n).j)=h/\(∀m,m<n->(C3 t.mask p m).j∈t.place/\a (SetTable.below t.place (C3 t.mask p m).j)≠h)/\SetTable.probe.go t a h fuel p=some (.candidate (C3 t.mask p n).j (SetTable.below t.place (C3 t.mask p n).j) (C3 t.mask p (n+1)))
 |0,p,_,⟨n,g,_⟩=>absurd g (by omega)
 |fuel+1,p,c,⟨n,g,f⟩=>by
  unfold SetTable.probe.go;rw[a8g i hd];by_cases b:p.j∈t.place
  .rw[az b];dsimp only;by_cases d:a (SetTable.below t.place p.j)=h
   .right;refine⟨0,b,d,λm e=>absurd e (by omega),?_⟩;rw[az (by simpa using d)];rfl
   .have hn0:n≠0:=λz=>f (by rw[z];exact b);obtain⟨n,rfl⟩:∃k,n=k+1:=⟨n-1,by omega⟩;rw[K2]at f;rw[aq (by simpa using d),b7N];have first:∀N,(∀m,m<N->(C3 t.mask (adv t.mask p) m).j∈t.place/\a (SetTable.below t.place (C3 t.mask (adv t.mask p) m).j)≠h)->∀m,m<N+1->(C3 t.mask p m).j∈t.place/\a (SetTable.below t.place (C3 t.mask p m).j)≠h:=λN j m e=>by
     cases m with
     |zero=>exact⟨b,d⟩
     |succ m=>rw[K2];exact j m (by omega)
    rcases a5P i hd a h fuel (adv t.mask p) (by rw[<-c];exact a0R t.mask p 1) ⟨n,by omega,f⟩with⟨N,h1,h2,h3⟩|⟨N,h1,h2,h3,h4⟩
    .left;exact⟨N+1,by rw[K2];exact h1,first N h2,by rw[K2];exact h3⟩
    .right;exact⟨N+1,by rw[K2];exact h1,by rw[K2];exact h2,first N h3,by rw[K2,K2];exact h4⟩
  .rw[aq b];left;refine⟨0,b,λm e=>absurd e (by omega),?_⟩;show some (SetTable.Met.empty p.j p.dummy)=_;rw[c];rfl
theorem W5{α:Type}(xs:Array α)(p:Nat)(x:α)(hp:p<=xs.size):(SetTable.insertAt xs p x).toList=xs.toList.take p++x::xs.toList.drop p:=by
 unfold SetTable.insertAt;simp only[cc,cX,fg,List.extract_eq_take_drop,df,Nat.sub_zero,aG,List.singleton_append];rw[ck (l:=List.drop p xs.toList) (by simp)]
theorem ris_list{xs:Array Nat}:Ris xs↔xs.toList.Pairwise (· < ·):=by
 rw[fq];unfold Ris;constructor
 .intro h i j hi hj hij;have:=h i j hij (by simpa using hj);simpa[Array.getD,show i<xs.size by simpa using hi,show j<xs.size by simpa using hj]using this
 .intro h a b hab hb;have:=h a b (by simp;omega) (by simpa using hb) hab;simpa[Array.getD,show a<xs.size by omega,hb]using this
theorem a3P{xs:Array Nat}{i:Nat}(h:i<xs.toList.length):xs.getD i 0=xs.toList[i]:=by
 have h':i<xs.size:=by simpa using h
 simp[Array.getD,h']
theorem b3F{xs:Array Nat}(b:Ris xs){j x:Nat}(h:x∈xs.toList.take (SetTable.below xs j)):x<j:=by
 obtain⟨c,a,d⟩:=J9 b j;obtain⟨i,hi,rfl⟩:=bC.mp h;rw[a']at hi;rw[fQ,<-a3P];exact a i (by omega)
theorem a8O{xs:Array Nat}(d:Ris xs){j x:Nat}(c:j∉xs)(h:x∈xs.toList.drop (SetTable.below xs j)):j<x:=by
 obtain⟨e,f,b⟩:=J9 d j;have a:x∈xs:=by simpa using dq h
 obtain⟨i,hi,rfl⟩:=bC.mp h;rw[cq]at hi;rw[fR,<-a3P]at a⊢;have:=b (SetTable.below xs j+i) (by omega) (by simp at hi;omega);rcases Nat.lt_or_eq_of_le this with z|z
 .exact z
 .exact absurd (z ▸ a) c
theorem b3Z{xs:Array Nat}(a:Ris xs){j:Nat}(c:j∉xs):Ris (SetTable.insertAt xs (SetTable.below xs j) j):=by
 rw[ris_list,W5 _ _ _ (J9 a j).1];have d:=ris_list.mp a;rw[bE,dg];refine⟨d.take,⟨λy b=>a8O a c b,d.drop⟩,λx e y b=>?_⟩;have h1:=b3F a e;rcases aE.mp b with z|z
 .rw[z];exact h1
 .exact gi h1 (a8O a c z)
theorem a4J{xs:Array Nat}{p j x:Nat}(hp:p<=xs.size):x∈SetTable.insertAt xs p j↔x=j∨x∈xs:=by
 rw[<-eZ,W5 _ _ _ hp,aO,aE,<-eZ];constructor
 .rintro(h|h|h)
  .exact .inr (cm h)
  .exact .inl h
  .exact .inr (dq h)
 .rintro(h|h)
  .exact .inr (.inl h)
  .rw[<-bw p xs.toList]at h;rcases aO.mp h with z|z
   .exact .inl z
   .exact .inr (.inr z)
theorem nodup_le{α:Type}[DecidableEq α]:∀(a b:List α),a.Nodup->(∀x∈a,x∈b)->a.length<=b.length
 |[],b,_,_=>bp _
 |x::a,b,e,h=>by
  obtain⟨h1,h2⟩:=cL.mp e;have c:=h x au;have:=nodup_le a (b.erase x) h2 λy d=>(List.mem_erase_of_ne (λz:y=x=>h1 (z ▸ d))).mpr (h y (ar _ d));rw[List.length_erase_of_mem c]at this;have:=List.length_pos_of_mem c;rw[aN];omega
structure TabOk{α:Type}(t:SetTable)(es:Array (Int×α)):Prop where
 size:t.place.size=es.size
 dum:t.dummies=#[]
 ris:Ris t.place
 le:∀j∈t.place,j<=t.mask
 pow:∃k,3<=k/\t.mask+1=2 ^ k
 room:es.size<=t.mask
 reach:∀(i j:Nat) (e:Int×α),t.place[i]?=some j->es[i]?=some e->∃n,pos t.mask e.1 n=j/\∀m,m<n->pos t.mask e.1 m∈t.place
theorem TabOk.free{α:Type}{t:SetTable}{es:Array (Int×α)}(h:TabOk t es)(x:Int):∃n,n<10*SetTable.turns t.mask/\pos t.mask x n∉t.place:=by
 obtain⟨k,_,e⟩:=h.pow;have:∃s,s<=t.mask/\s∉t.place:=by
  refine cf λd=>?_;have a:∀s,s<t.mask+1->s∈t.place.toList:=λs hs=>by
   refine cf λz=>d ⟨s,by omega,λq=>z (by simpa using q)⟩
  have:=nodup_le (List.range (t.mask+1)) t.place.toList fZ λs hs=>a s (aW.mp hs);rw[dw,ay,h.size]at this;have:=h.room;omega
 obtain⟨s,hs,f⟩:=this;obtain⟨n,b,c⟩:=b1I e x s hs;exact⟨n,b,by rw[c];exact f⟩
theorem TabOk.first{α:Type}{t:SetTable}{es:Array (Int×α)}(h:TabOk t es)(x:Int):∃N,N<10*SetTable.turns t.mask/\pos t.mask x N∉t.place/\∀m,m<N->pos t.mask x m∈t.place:=by
 obtain⟨n,d,c⟩:=h.free x;induction n using Nat.strongRecOn with
 |ind n e =>
  by_cases b:∃m,m<n/\pos t.mask x m∉t.place
  .obtain⟨m,a,hm2⟩:=b;exact e m a (by omega) hm2
  .exact⟨n,d,c,λm a=>cf λz=>b ⟨m,a,z⟩⟩
theorem a8J{α:Type}{xs:Array α}{p:Nat}{x:α}(hp:p<=xs.size)(i:Nat):(SetTable.insertAt xs p x)[i]?=if i<p then xs[i]? else if i=p then some x else xs[i-1]?:=by
 rw[<-av,W5 _ _ _ hp];by_cases h1:i<p
 .rw[az h1,br (by rw[a',ay];omega),dk h1,av]
 .rw[aq h1,aX (by rw[a',ay];omega),a',ay,dO hp];by_cases h2:i=p
  .rw[az h2,h2,Nat.sub_self];rfl
  .rw[aq h2];obtain⟨c,a⟩:∃c,i-p=c+1:=⟨i-p-1,by omega⟩;rw[a,List.getElem?_cons_succ,fB,av];congr 1;omega
theorem TabOk.add{α:Type}{t:SetTable}{es:Array (Int×α)}(h:TabOk t es){x:Int}{v:α}{N:Nat}(h1:pos t.mask x N∉t.place)(h2:∀m,m<N->pos t.mask x m∈t.place)(o:pos t.mask x N<=t.mask)(d:es.size<t.mask) :
  TabOk (t.put (pos t.mask x N)).1 (SetTable.insertAt es (t.put (pos t.mask x N)).2 (x,v)):=by
 have g:=(J9 h.ris (pos t.mask x N)).1;have hd:(t.put (pos t.mask x N)).1.dummies=#[]:=by
  show(if SetTable.has t.dummies (pos t.mask x N)=true then _ else t.dummies)=#[];rw[h.dum,aq];unfold SetTable.has;simp
 have c:SetTable.below t.place (pos t.mask x N)<=es.size:=by rw[<-h.size];exact g
 have f:∀{β:Type}(xs:Array β) (p:Nat) (y:β),p<=xs.size->(SetTable.insertAt xs p y).size=xs.size+1:=λxs p y w=>by
  rw[<-ay,W5 _ _ _ w,ax,aN,a',cq,ay];omega
 refine⟨?_,hd,b3Z h.ris h1,λj u=>?_,h.pow,?_,λi j e b a=>?_⟩
 .show(SetTable.insertAt t.place (SetTable.below t.place (pos t.mask x N)) _).size=(SetTable.insertAt es (SetTable.below t.place (pos t.mask x N)) _).size;rw[f _ _ _ g,f _ _ _ c,h.size]
 .rcases(a4J g).mp u with z|z
  .rw[z];exact o
  .exact h.le j z
 .show(SetTable.insertAt es (SetTable.below t.place (pos t.mask x N)) _).size<=t.mask;rw[f _ _ _ c];exact d
 .change (SetTable.insertAt t.place (SetTable.below t.place (pos t.mask x N)) (pos t.mask x N))[i]?=some j at b;change (SetTable.insertAt es (SetTable.below t.place (pos t.mask x N)) (x,v))[i]?=some e at a;rw[a8J g]at b;rw[a8J c]at a;show ∃n,pos t.mask e.1 n=j/\∀m,m<n->pos t.mask e.1 m∈SetTable.insertAt t.place (SetTable.below t.place (pos t.mask x N)) (pos t.mask x N);have k:∀l,t.place[l]?=some j->es[l]?=some e->∃n,pos t.mask e.1 n=j/\∀m,m<n->pos t.mask e.1 m∈SetTable.insertAt t.place (SetTable.below t.place (pos t.mask x N)) (pos t.mask x N):=λl C D=>by
   obtain⟨n,A,B⟩:=h.reach l j e C D;exact⟨n,A,λm q=>(a4J g).mpr (.inr (B m q))⟩
  by_cases r:i<SetTable.below t.place (pos t.mask x N)
  .rw[az r]at b a;exact k i b a
  .rw[aq r]at b a;by_cases s:i=SetTable.below t.place (pos t.mask x N)
   .rw[az s]at b a;cases b;cases a;exact⟨N,rfl,λm q=>(a4J g).mpr (.inr (h2 m q))⟩
   .rw[aq s]at b a;exact k _ b a
theorem a3I{mask i:Nat}(hi:i<=mask):SetTable.runEnd mask i<=mask:=by
 unfold SetTable.runEnd;split<;>omega
theorem b0H(mask:Nat)(p:Pr)(h:p.j+p.more<=mask):∀n,(C3 mask p n).j+(C3 mask p n).more<=mask
 |0=>h
 |n+1=>by
  have b:=b0H mask p h n;rw[C3];unfold adv;split
  .dsimp only;omega
  .dsimp only;have h1:(SetTable.leap mask (C3 mask p n).i (C3 mask p n).perturb).1<=mask:=eN (fM _ (eW _));have h2:=a3I h1;have a:(SetTable.leap mask (C3 mask p n).i (C3 mask p n).perturb).1<=SetTable.runEnd mask (SetTable.leap mask (C3 mask p n).i (C3 mask p n).perturb).1:=by
    unfold SetTable.runEnd;split<;>omega
   omega
theorem a0X(mask:Nat)(h:Int)(n:Nat):pos mask h n<=mask:=by
 have h1:SetTable.bits h % (mask+1)<=mask:=eN (fM _ (eW _));have h2:=a3I h1;have a:SetTable.bits h % (mask+1)<=SetTable.runEnd mask (SetTable.bits h % (mask+1)):=by
  unfold SetTable.runEnd;split<;>omega
 have:=b0H mask (st0 mask h) (by show SetTable.bits h % (mask+1)+(SetTable.runEnd mask (SetTable.bits h % (mask+1))-SetTable.bits h % (mask+1))<=mask;omega) n;unfold pos;omega
noncomputable def fr(owner:Array (Option Nat))(j:Nat):Bool:=(owner.getD j (some 0)).isNone
theorem a8L(mask:Nat)(owner:Array (Option Nat)):∀(fuel i pt:Nat),(∃r,r<fuel/\fr owner (N3 mask i pt r).1=true) ->
  ∃n,fr owner (C3 mask (a0V mask i pt) n).j=true/\(∀m,m<n->fr owner (C3 mask (a0V mask i pt) m).j=false)/\SetTable.layClean.free mask owner fuel i pt=some (C3 mask (a0V mask i pt) n).j
 |0,_,_,⟨r,h,_⟩=>absurd h (by omega)
 |fuel+1,i,pt,⟨r,h,b⟩=>by
  unfold SetTable.layClean.free;have q:i<=SetTable.runEnd mask i:=by
   unfold SetTable.runEnd;split<;>omega
  cases e:(List.range (SetTable.runEnd mask i+1-i)).find? (λk=>(owner.getD (i+k) (some 0)).isNone)with
  |some k =>
   dsimp only;rw[List.find?_range_eq_some]at e;obtain⟨j,l,o⟩:=e;have s:=aW.mp l;refine⟨k,?_,λm d=>?_,?_⟩
   .rw[a1h mask i pt k (by omega)];exact j
   .rw[a1h mask i pt m (by omega)];have:=o m d;simpa[fr]using this
   .rw[a1h mask i pt k (by omega)]
  |none =>
   dsimp only;rw[List.find?_range_eq_none]at e;have a:∀m,m<SetTable.runEnd mask i-i+1->fr owner (C3 mask (a0V mask i pt) m).j=false:=λm d=>by
    rw[a1h mask i pt m (by omega)];have:=e m (by omega);simpa[fr]using this
   cases r with
   |zero =>
    have:=a 0 (by omega);rw[show(C3 mask (a0V mask i pt) 0).j=(N3 mask i pt 0).1 from rfl,b]at this;cases this
   |succ r =>
    have c:fr owner (N3 mask (SetTable.leap mask i pt).1 (SetTable.leap mask i pt).2 r).1=true:=by
     rw[Nat.add_comm,a2u]at b;exact b
    obtain⟨n,h1,h2,p⟩:=a8L mask owner fuel (SetTable.leap mask i pt).1 (SetTable.leap mask i pt).2 ⟨r,by omega,c⟩;have key:∀m,C3 mask (a0V mask i pt) (SetTable.runEnd mask i-i+1+m)=C3 mask (a0V mask (SetTable.leap mask i pt).1 (SetTable.leap mask i pt).2) m:=λm=>by
     rw[a0n,a5W]
    refine⟨SetTable.runEnd mask i-i+1+n,by rw[key];exact h1,λm d=>?_,by rw[key];exact p⟩;by_cases f:m<SetTable.runEnd mask i-i+1
    .exact a m f
    .obtain⟨g,rfl⟩:∃g,m=SetTable.runEnd mask i-i+1+g:=⟨m-(SetTable.runEnd mask i-i+1),by omega⟩;rw[key];exact h2 g (by omega)
structure Lay(mask:Nat)(owner:Array (Option Nat))(hs:List Int):Prop where
 size:owner.size=mask+1
 val:∀j q:Nat,owner[j]?=some (some q)->∃h,hs[q]?=some h/\∃n,pos mask h n=j/\∀m,m<n->fr owner (pos mask h m)=false
 ex:∀q,q<hs.length->∃j:Nat,owner[j]?=some (some q)
 uniq:∀j j' q:Nat,owner[j]?=some (some q)->owner[j']?=some (some q)->j=j'
theorem W6{owner:Array (Option Nat)}{mask j:Nat}(hs:owner.size=mask+1)(a:j<=mask):fr owner j=false↔∃q,owner[j]?=some (some q):=by
 have h:j<owner.size:=by omega
 unfold fr;rw[bD h,show owner.getD j (some 0)=owner[j] by simp[Array.getD,h]];cases owner[j]with
 |none=>simp
 |some q=>simp
theorem Lay.start(mask:Nat):Lay mask (Array.replicate (mask+1) none) []:=by
 refine⟨by simp,λj q h=>?_,λq h=>absurd h (by simp),λj a q h=>?_⟩<;>
 .rw[Array.getElem?_replicate]at h;split at h
  .cases h
  .cases h
theorem Lay.free{mask k:Nat}(z:mask+1=2 ^ k){owner:Array (Option Nat)}{hs:List Int}(L:Lay mask owner hs)(A:hs.length<=mask)(h:Int):∃n,fr owner (pos mask h n)=true/\(∀m,m<n->fr owner (pos mask h m)=false)/\SetTable.layClean.free mask owner (SetTable.turns mask) (SetTable.bits h % (mask+1)) (SetTable.bits h)=some (pos mask h n):=by
 have:∃s,s<=mask/\fr owner s=true:=by
  refine cf λl=>?_;have c:∀s:Nat,s<=mask->∃q,owner[s]?=some (some q):=λs hs=>by
   rw[<-W6 L.size hs];cases e:fr owner s with
   |false=>rfl
   |true=>exact absurd ⟨s,hs,e⟩ l
  have:=nodup_le ((List.range (mask+1)).map λj=>(owner.getD j none).getD 0) (List.range hs.length) ?_ ?_
  .rw[aj,dw,dw]at this;omega
  .rw[fi,cw];refine(fi.mp fZ).imp_of_mem λ{a b} v w i e=>i ?_;obtain⟨q,d⟩:=c a (by have:=aW.mp v;omega);obtain⟨t,f⟩:=c b (by have:=aW.mp w;omega);have g:owner.getD a none=some q:=by rw[bR,d];rfl
   have u:owner.getD b none=some t:=by rw[bR,f];rfl
   rw[g,u]at e;change q=t at e;exact L.uniq a b q d (e ▸ f)
  .intro x hx;obtain⟨j,y,rfl⟩:=aT.mp hx;obtain⟨q,d⟩:=c j (by have:=aW.mp y;omega);obtain⟨h',h1,_⟩:=L.val j q d;have g:owner.getD j none=some q:=by rw[bR,d];rfl
   rw[g];exact aW.mpr (aH.mp h1).1
 obtain⟨s,o,p⟩:=this;obtain⟨r,B,e⟩:=a5K z h s o;exact a8L mask owner _ _ _ ⟨r,by unfold SetTable.turns;omega,by rw[e];exact p⟩
theorem Lay.put{mask:Nat}{owner:Array (Option Nat)}{hs:List Int}(L:Lay mask owner hs){h:Int}{n:Nat}(h1:fr owner (pos mask h n)=true)(h2:∀m,m<n->fr owner (pos mask h m)=false):Lay mask (owner.setIfInBounds (pos mask h n) (some hs.length)) (hs++[h]):=by
 have p:pos mask h n<owner.size:=by have:=a0X mask h n;rw[L.size];omega
 have i:∀q,owner[pos mask h n]?≠some (some q):=λq z=>by
  have:=(W6 L.size (a0X mask h n)).mpr ⟨q,z⟩;rw[h1]at this;cases this
 have get:∀j:Nat,(owner.setIfInBounds (pos mask h n) (some hs.length))[j]?=if j=pos mask h n then some (some hs.length)else owner[j]?:=λj=>by
  rw[Array.getElem?_setIfInBounds];by_cases e:pos mask h n=j
  .rw[az e,az e.symm,az p]
  .rw[aq e,aq λz=>e z.symm]
 have d:(owner.setIfInBounds (pos mask h n) (some hs.length)).size=mask+1:=by rw[fE,L.size]
 have keep:∀j,j<=mask->fr owner j=false->fr (owner.setIfInBounds (pos mask h n) (some hs.length)) j=false:=λj b e=>by
  rw[W6 d b,get];split
  .exact⟨_,rfl⟩
  .exact(W6 L.size b).mp e
 refine⟨d,λj q e=>?_,λq r=>?_,λj k q e a=>?_⟩
 .rw[get]at e;by_cases c:j=pos mask h n
  .rw[az c]at e;cases e;exact⟨h,by rw[aX (ao _),Nat.sub_self];rfl,n,c.symm,λm g=>keep _ (a0X mask h m) (h2 m g)⟩
  .rw[aq c]at e;obtain⟨h',f,s,l,o⟩:=L.val j q e;exact⟨h',by rw[br (aH.mp f).1];exact f,s,l,λm g=>keep _ (a0X mask h' m) (o m g)⟩
 .by_cases c:q=hs.length
  .exact⟨pos mask h n,by rw[get,az rfl,c]⟩
  .rw[ax,f']at r;obtain⟨j,b⟩:=L.ex q (by omega);refine⟨j,?_⟩;rw[get,aq]
   .exact b
   .intro z;exact i q (z ▸ b)
 .rw[get]at e a;have lt:∀j:Nat,owner[j]?=some (some q)->q<hs.length:=λj z=>by
   obtain⟨_,f,_⟩:=L.val j q z;exact(aH.mp f).1
  by_cases c:j=pos mask h n
  .by_cases c':k=pos mask h n
   .rw[c,c']
   .rw[az c]at e;rw[aq c']at a;cases e;exact absurd (lt _ a) (by omega)
  .by_cases c':k=pos mask h n
   .rw[aq c]at e;rw[az c']at a;cases a;exact absurd (lt _ e) (by omega)
   .rw[aq c]at e;rw[aq c']at a;exact L.uniq j k q e a
theorem a6g{mask k:Nat}(d:mask+1=2 ^ k):∀(rest done:List Int) (owner:Array (Option Nat)),Lay mask owner done->done.length+rest.length<=mask ->
  ∃a,rest.foldl (λacc h=>do
   let (owner,k) <-acc
   let j <-SetTable.layClean.free mask owner (SetTable.turns mask) (SetTable.bits h % (mask+1)) (SetTable.bits h)
   pure (owner.setIfInBounds j (some k),k+1)) (some (owner,done.length))=some (a,(done++rest).length)/\Lay mask a (done++rest)
 |[],done,owner,L,_=>⟨owner,by simp,by simpa using L⟩
 |h::rest,done,owner,L,f=>by
  rw[aN]at f;obtain⟨n,h1,h2,e⟩:=L.free d (by omega) h;obtain⟨a,b,c⟩:=a6g d rest (done++[h]) _ (L.put h1 h2) (by rw[ax,f'];omega);refine⟨a,?_,by rw[aG]at c;exact c⟩;rw[dm];rw[aG]at b;refine Eq.trans (aL (λz=>List.foldl _ z rest) ?_) b;show(Option.bind (SetTable.layClean.free mask owner (SetTable.turns mask) (SetTable.bits h % (mask+1)) (SetTable.bits h)) λj=>some (owner.setIfInBounds j (some done.length),done.length+1))=_;rw[e,ax];rfl
theorem a6h{mask k:Nat}(d:mask+1=2 ^ k)(a:Array Int)(e:a.size<=mask):∃owner,SetTable.layClean mask a=some owner/\Lay mask owner a.toList:=by
 obtain⟨owner,b,c⟩:=a6g d a.toList [] _ (Lay.start mask) (by simpa using e);refine⟨owner,?_,c⟩;unfold SetTable.layClean;rw[<-Array.foldl_toList];exact aL (Option.map (·.1)) b
theorem a7p{α β:Type}(f:α->Option β):∀l:List α,(∀x∈l,(f x).isSome=true)->(l.filterMap f).map some=l.map f
 |[],_=>rfl
 |x::l,h=>by
  have c:=a7p f l λy b=>h y (ar _ b);have a:=h x au;cases e:f x with
  |none=>rw[e]at a;cases a
  |some y=>rw[List.filterMap_cons_some e,aP,aP,c,e]
theorem b1v{α:Type}(es:Array α):(List.range es.size).filterMap (es[·]?)=es.toList:=by
 have h1:((List.range es.size).filterMap (es[·]?)).map some=(List.range es.size).map (es[·]?):=a7p _ _ λq a=>by
  have:=aW.mp a;simp[this]
 have h2:es.toList.map some=(List.range es.size).map (es[·]?):=by
  refine fc (by simp) λi h1 h2=>?_;simp at h1;simp[h1]
 exact(List.map_inj_right (λ_ _ h=>bG h)).mp (h1.trans h2.symm)
def D9(mask:Nat)(owner:Array (Option Nat)):List (Nat×Nat):=(List.range (mask+1)).filterMap λj=>(owner.getD j none).map (j,·)
theorem O4{mask:Nat}{owner:Array (Option Nat)}(hs:owner.size=mask+1)(j q:Nat):(j,q)∈D9 mask owner↔owner[j]?=some (some q):=by
 unfold D9;rw[cn];constructor
 .rintro⟨j',a,e⟩;have a:=aW.mp a;rw[eH]at e;obtain⟨f,b,c⟩:=e;cases c;rw[bR,bD (by omega)]at b;rw[bD (by omega)];exact aL some b
 .intro e;have d:j<owner.size:=(de.mp e).1;exact⟨j,aW.mpr (by omega),by rw[bR,e];rfl⟩
theorem b2r(mask:Nat)(owner:Array (Option Nat)):(D9 mask owner).Pairwise λa b=>a.1<b.1:=by
 unfold D9;refine List.Pairwise.filterMap _ (λa b c p d q e=>?_) List.pairwise_lt_range;rw[eH]at d e;obtain⟨_,_,rfl⟩:=d;obtain⟨_,_,rfl⟩:=e;exact c
theorem b4P{α:Type}{mask k:Nat}(F:mask+1=2 ^ k)(J:3<=k)(es:Array (Int×α))(G:es.size<=mask)(finger moves:Nat)(led plain:Bool) :
  ∃t' d,SetTable.laid mask finger moves led plain (es.map (·.1))=some (t',d)/\t'.mask=mask/\t'.led=led/\t'.plain=plain/\TabOk t' (d.filterMap (es[·]?))/\(d.filterMap (es[·]?)).toList.Perm es.toList:=by
 obtain⟨c,e,L⟩:=a6h F (es.map (·.1)) (by simpa using G);refine⟨{mask,place:=((D9 mask c).map (·.1)).toArray,dummies:=#[],finger,led,moves,plain},((D9 mask c).map (·.2)).toArray,?_,rfl,rfl,rfl,?_⟩
 .unfold SetTable.laid;rw[e];rfl
 have B:∀p∈D9 mask c,p.2<es.size:=λp o=>by
  obtain⟨h,h1,_⟩:=L.val p.1 p.2 ((O4 L.size p.1 p.2).mp o);have:=(aH.mp h1).1;simpa using this
 have w:=b2r mask c;have nd:((D9 mask c).map (·.2)).Nodup:=by
  rw[fi,cw];refine w.imp_of_mem λ{a b} K N M z=>?_;have h1:=(O4 L.size a.1 a.2).mp K;have h2:=(O4 L.size b.1 b.2).mp N;rw[z]at h1;have:=L.uniq _ _ _ h1 h2;omega
 have g:∀q,q∈(D9 mask c).map (·.2)↔q∈List.range es.size:=λq=>by
  rw[aW];constructor
  .intro u;obtain⟨p,o,rfl⟩:=aT.mp u;exact B p o
  .intro u;obtain⟨j,s⟩:=L.ex q (by simpa using u);exact aT.mpr ⟨(j,q),(O4 L.size j q).mpr s,rfl⟩
 have perm:((D9 mask c).map (·.2)).Perm (List.range es.size):=(List.perm_ext_iff_of_nodup nd fZ).mpr g;have r:∀l:List Nat,(l.toArray.filterMap (es[·]?)).toList=l.filterMap (es[·]?):=λl=>by simp
 have f:(((D9 mask c).map (·.2)).filterMap (es[·]?)).map some=((D9 mask c).map (·.2)).map (es[·]?):=a7p _ _ λq u=>by
  have:=aW.mp ((g q).mp u);simp[this]
 have v:(((D9 mask c).map (·.2)).toArray.filterMap (es[·]?)).size=(D9 mask c).length:=by
  have:=aL List.length f;rw[aj,aj,aj]at this;rw[<-ay,r];exact this
 have t:(D9 mask c).length=es.size:=by
  have:=perm.length_eq;rw[aj,dw]at this;exact this
 refine⟨⟨?_,rfl,?_,λj s=>?_,⟨k,J,F⟩,by rw[v,t];exact G,λi j A x E=>?_⟩,?_⟩
 .rw[v];simp
 .rw[ris_list];show((D9 mask c).map (·.1)).Pairwise (· < ·);rw[cw];exact w
 .have s:j∈(D9 mask c).map (·.1):=by simpa using s
  obtain⟨p,o,rfl⟩:=aT.mp s;have:=(de.mp ((O4 L.size p.1 p.2).mp o)).1;rw[L.size]at this;show p.1<=mask;omega
 .have x:((D9 mask c).map (·.1))[i]?=some j:=by simpa using x
  rw[<-av,r]at E;rw[aQ,eH]at x;obtain⟨p,o,rfl⟩:=x;have h1:=aL (λl=>l[i]?) f;simp only[aQ,E,o,fo]at h1;injection h1 with h1
  have C:=(O4 L.size p.1 p.2).mp (aF o);obtain⟨h,y,n,H,I⟩:=L.val p.1 p.2 C;have O:h=A.1:=by
   rw[av,Array.getElem?_map,<-h1]at y;injection y with y
   exact y.symm
  rw[O]at H I;refine⟨n,H,λm P=>?_⟩;obtain⟨Q,D⟩:=(W6 L.size (a0X mask _ m)).mp (I m P);have:pos mask A.1 m∈(D9 mask c).map (·.1):=aT.mpr ⟨_,(O4 L.size _ Q).mpr D,rfl⟩;show pos mask A.1 m∈((D9 mask c).map (·.1)).toArray;simpa using this
 .rw[r];refine(perm.filterMap _).trans (List.Perm.of_eq ?_);exact b1v es
theorem a8h(n:Nat):∀(fuel a:Nat),3<=a->n<2 ^ (a+fuel)->∃b,3<=b/\SetTable.sizeAbove.go n fuel (2 ^ a)=2 ^ b/\n<2 ^ b/\(b=a∨2 ^ b<=2*n)
 |0,a,c,h=>⟨a,c,rfl,h,.inl rfl⟩
 |fuel+1,a,c,h=>by
  unfold SetTable.sizeAbove.go;by_cases d:2 ^ a<=n
  .rw[az d,<-dr];obtain⟨b,e,f,g,i⟩:=a8h n fuel (a+1) (by omega) (by rw[el,Nat.add_comm 1];exact h);refine⟨b,e,f,g,.inr ?_⟩;rcases i with z|z
   .rw[z,dr];omega
   .exact z
  .rw[aq d];exact⟨a,c,rfl,by omega,.inl rfl⟩
theorem a0u(n:Nat)(h:n<2 ^ 60):∃b,3<=b/\SetTable.sizeAbove n=2 ^ b/\n<2 ^ b/\(b=3∨2 ^ b<=2*n) :=
 a8h n 64 3 (ao _) (aM h (by decide))
theorem a9t{α:Type}(t:SetTable)(es:Array (Int×α))(a:Nat)(hw:a<2 ^ 60)(m:es.size<a) :
  ∃t' c,t.relaid (es.map (·.1)) a=some (t',c)/\a<=t'.mask/\t'.mask<=2*a+7/\t'.led=t.led/\t'.plain=t.plain/\TabOk t' (c.filterMap (es[·]?))/\(c.filterMap (es[·]?)).toList.Perm es.toList:=by
 obtain⟨b,d,e,l,f⟩:=a0u a hw;have n:0<2 ^ b:=Nat.pow_pos (by decide);unfold SetTable.relaid;rw[e];obtain⟨t',c,h1,h2,g,h,i,j⟩:=b4P (mask:=2 ^ b-1) (k:=b) (by omega) d es (by omega) t.finger (t.movedTo (2 ^ b-1)) t.led t.plain;refine⟨t',c,h1,by rw[h2];omega,?_,g,h,i,j⟩;rw[h2];rcases f with z|z
 .rw[z];omega
 .omega
end Tab
end L2
namespace L2
namespace Tab
open PySem
section
variable {prog:Program}{w:World}{A:Around}{E:Value->Shared->Prop}{s:Shared}
abbrev TK(prog:Program)(w:World)(h:Heap)(r:List Int)(a:Addr):Prop:=IsTupleKey (intKind prog w) h r a
theorem TK.keep{h h':Heap}{r:List Int}{a:Addr}(x:TK prog w h r a)(k:∀b o,h.get? b=some o->h'.get? b=some o):TK prog w h' r a:=by
 obtain⟨o,its,n,h1,h2⟩:=x;exact⟨o,its,n,k _ _ h1,h2⟩
theorem items_int{r:List Int}{vs:List Value}(h:ItemsAre (intKind prog w) r vs):∀v∈vs,∃i t,v=.int i t:=by
 induction h with
 |nil=>intro v b;cases b
 |@cons k v ks vs h1 _ c =>
  intro u a;rcases aE.mp a with e|a
  .obtain⟨t,ht⟩:=Value.isInt_shape h1;exact⟨k,t,e.trans ht⟩
  .exact c u a
theorem a5V{r:List Int}{a:Addr}{Q:Bool->Shared->Prop}(e:TK prog w s.heap r a)(h:Q false s):wpAny (model prog w) A (ofAClassStatement 8 (.ref a)) Q E s:=by
 have f:=e.typeIs;obtain⟨o,d,n,g,_,hd,hi⟩:=e;have c:=items_int hi;unfold ofAClassStatement;refine aa (eS f ?_);dsimp only;rw[az (by decide)];refine aa (ae ?_);rw[aq (by decide)];refine aa (cE g hd ?_);dsimp only;refine aa ?_;rw[<-Array.forIn_toList];refine fV _ (λrest b s'=>s'=s/\b.1=none/\∀v∈rest,∃i t,v=Value.int i t) _ ?_ ?_ _ _ ⟨rfl,rfl,c⟩
 .rintro x rest b s' ⟨rfl,hb,hr⟩;obtain⟨i,t,rfl⟩:=hr x au;refine aa (m:=ofAClassStatement 7 (.int i t)) (ae ?_);rw[aq (by decide)];exact ae ⟨rfl,rfl,λv j=>hr v (ar _ j)⟩
 .rintro b s' ⟨rfl,hb,_⟩;rw[hb];exact ae h
theorem b3p{r:List Int}{a:Addr}{Q:Bool->Shared->Prop}(e:TK prog w s.heap r a)(h:Q true s):wpAny (model prog w) A (hashByValue 8 (.ref a)) Q E s:=by
 have f:=e.typeIs;obtain⟨o,c,n,g,_,hd,hi⟩:=e;have d:=items_int hi;unfold hashByValue;refine aa (wpAny_specialOf f F.slot_tuple_hash.lookup ?_);dsimp only;refine aa (cE g hd ?_);refine aa ?_;show wpAny _ _ (forIn c _ _) _ _ _;rw[<-Array.forIn_toList];refine fV _ (λrest b s'=>s'=s/\b.1=none/\∀v∈rest,∃i t,v=Value.int i t) _ ?_ ?_ _ _ ⟨rfl,rfl,d⟩
 .rintro x rest b s' ⟨rfl,hb,hr⟩;obtain⟨i,t,rfl⟩:=hr x au;refine aa (m:=hashByValue 7 (.int i t)) (ae ?_);rw[aq (by decide)];exact ae ⟨rfl,rfl,λv j=>hr v (ar _ j)⟩
 .rintro b s' ⟨rfl,hb,_⟩;rw[hb];exact ae h
theorem b2l{r:List Int}{b:Addr}{l:List Value}{Q:Bool->Shared->Prop}(f:TK prog w s.heap r b)(g:∀y∈l,∃a b',y=.ref b'/\TK prog w s.heap a b')(h:Q false s):wpAny (model prog w) A (searchCouldBeSeen (.ref b) l) Q E s:=by
 unfold searchCouldBeSeen;refine aa ?_;refine fV _ (λrest c s'=>s'=s/\c.1=none/\∀y∈rest,∃a b',y=.ref b'/\TK prog w s.heap a b') _ ?_ ?_ _ _ ⟨rfl,rfl,g⟩
 .rintro x rest c s' ⟨rfl,hc,hr⟩;obtain⟨a,b',rfl,d⟩:=hr x au;have e:∀y∈rest,∃a b',y=.ref b'/\TK prog w s'.heap a b':=λv i=>hr v (ar _ i);dsimp only;split
  .exact ae ⟨rfl,rfl,e⟩
  .refine aa ((tupleKind (intKind prog w)).quiet f ?_);rw[aq (by decide)];refine aa ((tupleKind (intKind prog w)).quiet d ?_);rw[aq (by decide)];refine aa (a5V f ?_);rw[aq (by decide)];refine aa (a5V d ?_);rw[aq (by decide)];exact ae ⟨rfl,rfl,e⟩
 .rintro c s' ⟨rfl,hc,_⟩;dsimp only;rw[hc];exact ae h
noncomputable def hsh(prog:Program)(w:World)(r:List Int):Int:=tupleKeyHash (intKind prog w) r
noncomputable def ent(prog:Program)(w:World)(x:List Int×Addr):Int×Value:=(hsh prog w x.1,Value.ref x.2)
theorem J7{α:Type}{t:SetTable}{es:Array (Int×α)}(ok:TabOk t es):t.fits es.size=true:=by
 unfold SetTable.fits SetTable.fill;have:=ok.room;simp[ok.size,ok.dum,this]
theorem b7c{α:Type}{t:SetTable}{es:Array (Int×α)}(ok:TabOk t es):t.gaveWay=false:=by
 obtain⟨k,b,a⟩:=ok.pow;obtain⟨c,rfl⟩:∃c,k=c+1:=⟨k-1,by omega⟩;rw[dr]at a;unfold SetTable.gaveWay;have:t.mask % 2=1:=by omega
 rw[this];rfl
theorem b2s{c:Bool}{m:Sem Bool}{X Y:Sem SetFound}{Q:SetFound->Shared->Prop}(b:∀a:Bool->Shared->Prop,a false s->wpAny (model prog w) A m a E s)(h:wpAny (model prog w) A Y Q E s):wpAny (model prog w) A (if c=true then m>>=λz=>if z=true then X else Y else Y) Q E s:=by
 split
 .refine aa (b _ ?_);rw[aq (by decide)];exact h
 .exact h
theorem a3G{a b:Addr}{r:List Int}{o:Obj}{es:Array (Int×Value)}{ep:Nat}{t:SetTable}{xs:List (List Int×Addr)}{Q:SetFound->Shared->Prop}(S:s.heap.get? a=some o)(hd:o.data=.set es ep t)(ok:TabOk t es)
  (F:∀e∈es.toList,∃x∈xs,e=ent prog w x) (M:∀x∈xs,ent prog w x∈es.toList) (g:∀x∈xs,TK prog w s.heap x.1 x.2) (R:TK prog w s.heap r b) (X:A.units<cLine) {N:Nat}(hN:N<10*SetTable.turns t.mask) (j:pos t.mask (hsh prog w r) N∉t.place) (q:∀m,m<N->pos t.mask (hsh prog w r) m∈t.place)
  (J:r∈xs.map (·.1)->Q (.there none) s) (B:r∉xs.map (·.1)->Q (.free (pos t.mask (hsh prog w r) N) false) s) :
  ∀(fuel d:Nat) (st:Option SetTable.Probe),N-d<fuel->d<=N->st.getD (t.probeStart (hsh prog w r))=C3 t.mask (st0 t.mask (hsh prog w r)) d->(∀m,m<d->∀(i:Nat) (x:List Int×Addr),x∈xs->t.place[i]?=some (pos t.mask (hsh prog w r) m)->es[i]?=some (ent prog w x)->x.1≠r) ->
   wpAny (model prog w) A (setSearchFrom a (.ref b) (hsh prog w r) true fuel st) Q E s
 |0,d,st,h,_,_,_=>absurd h (by omega)
 |fuel+1,d,st,hf,a2,U,L=>by
  unfold setSearchFrom;refine aa (cD S hd (J7 ok) ?_);dsimp only;rw[b7c ok,aq (by decide),U];have f:∀m,(C3 t.mask (C3 t.mask (st0 t.mask (hsh prog w r)) d) m).j=pos t.mask (hsh prog w r) (d+m):=λm=>by rw[<-a0n];rfl
  have W:∀(i:Nat) (e:Int×Value),es[i]?=some e->(es[i]?.map (·.1)).getD 0=e.1:=λi e z=>by rw[z];rfl
  have O:∀n,d+n<N↔pos t.mask (hsh prog w r) (d+n)∈t.place/\∀m,m<n->pos t.mask (hsh prog w r) (d+m)∈t.place:=λn=>by
   constructor
   .intro h;exact⟨q _ h,λm K=>q _ (by omega)⟩
   .rintro⟨h1,h2⟩;rcases dv (d+n) N with z|z|z
    .exact z
    .rw[z]at h1;exact absurd h1 j
    .have:=h2 (N-d) (by omega);rw[show d+(N-d)=N by omega]at this;exact absurd this j
  rcases a5P ok.ris ok.dum (λi=>(es[i]?.map (·.1)).getD 0) (hsh prog w r) (10*SetTable.turns t.mask) (C3 t.mask (st0 t.mask (hsh prog w r)) d) (by rw[a0R];rfl) ⟨N-d,by omega,by rw[f,show d+(N-d)=N by omega];exact j⟩with⟨n,h1,h2,h3⟩|⟨n,h1,h2,h3,h4⟩
  .have h3:t.probe (λi=>(es[i]?.map (·.1)).getD 0) (hsh prog w r) (C3 t.mask (st0 t.mask (hsh prog w r)) d)=_:=h3;erw [h3];dsimp only;rw[f]at h1⊢;have e:d+n=N:=by
    rcases dv (d+n) N with z|z|z
    .exact absurd (q _ z) h1
    .exact z
    .have:=(h2 (N-d) (by omega)).1;rw[f,show d+(N-d)=N by omega]at this;exact absurd this j
   rw[e];refine ae (B λK=>?_);obtain⟨x,H,rfl⟩:=aT.mp K;obtain⟨i,hi⟩:=cC.mp (M x H);rw[av]at hi;have u:i<t.place.size:=by rw[ok.size];exact(de.mp hi).1
   obtain⟨p,Y,Z⟩:=ok.reach i _ _ (a0I u) hi;change pos t.mask (hsh prog w x.1) p=_ at Y;change ∀m,m<p->pos t.mask (hsh prog w x.1) m∈t.place at Z;have k:t.place[i]?=some (pos t.mask (hsh prog w x.1) p):=by rw[Y];exact a0I u
   have a1:p<N:=by
    rcases dv p N with z|z|z
    .exact z
    .rw[z]at k;exact absurd (Array.mem_of_getElem? k) j
    .exact absurd (Z N z) j
   by_cases c:p<d
   .exact L p c i x H k hi rfl
   .have C:=(h2 (p-d) (by omega)).2;rw[f,show d+(p-d)=p by omega,a0O ok.ris k,W i _ hi]at C;exact C rfl
  .have h4:t.probe (λi=>(es[i]?.map (·.1)).getD 0) (hsh prog w r) (C3 t.mask (st0 t.mask (hsh prog w r)) d)=_:=h4;erw [h4];dsimp only;rw[f]at h1 h2⊢;have a0:d+n<N:=(O n).mpr ⟨h1,λm K=>by have:=(h3 m K).1;rw[f]at this;exact this⟩;have k:=(a1l ok.ris _).mpr h1;generalize I:SetTable.below t.place (pos t.mask (hsh prog w r) (d+n))=ib at h2 k⊢;have u:ib<es.size:=by rw[<-ok.size];exact(de.mp k).1
   obtain⟨x,H,ex⟩:=F es[ib] (by simp);have D:es[ib]?=some (ent prog w x):=by rw[bD u,ex]
   rw[D];dsimp only;refine b2s (λQ' hq=>b2l R (λy hy=>?_) hq) ?_
   .obtain⟨e,P,rfl⟩:=aT.mp hy;have P:e∈es:=by
     have:=eZ.mp P;exact(Array.mem_filter.mp this).1
    obtain⟨G,v,ex'⟩:=F e (by simpa using P);exact⟨G.1,G.2,by rw[ex'];rfl,g G v⟩
   refine aa (b_ ((tupleKind (intKind prog w)).eqBool X (g x H) R ?_));refine aa (cD S hd (J7 ok) ?_);dsimp only;by_cases l:x.1=r
   .rw[az (by rw[bh l];rfl)];exact ae (J (aT.mpr ⟨x,H,l⟩))
   .rw[aq (by rw[bT l];decide)];have sm:t.sameMemory t.moves t.mask=some true:=by unfold SetTable.sameMemory;simp
    rw[sm];dsimp only;rw[az rfl,a8g ok.ris ok.dum,az h1];dsimp only;rw[I,D];dsimp only;refine aa (wpAny_isSame_ref_self ?_);rw[az rfl];refine aa (ae ?_);dsimp only;rw[aq (by rw[bT l];decide)];refine a3G S hd ok F M g R X hN j q J B fuel (d+n+1) _ (by omega) (by omega) (by rw[<-a0n];rfl) λm K i G v T hi=>?_;by_cases c:m<d
    .exact L m c i G v T hi
    .by_cases c2:m=d+n
     .subst c2;have:ib=i:=by rw[<-I];exact a0O ok.ris T
      subst this;rw[D]at hi;injection hi with hi
      have C:x.2=G.2:=by
       have:=aL Prod.snd hi;injection this
      intro z;have V:=g x H;rw[C]at V;exact l ((V.inj (g G v)).trans z)
     .have C:=(h3 (m-d) (by omega)).2;rw[f,show d+(m-d)=m by omega,a0O ok.ris T,W i _ hi]at C;intro z;exact C (by rw[<-z];rfl)
def X4(prog:Program)(w:World)(ld:Bool)(h:Heap)(a:Addr)(xs:List (List Int×Addr)):Prop :=
 ∃o es ep t,h.get? a=some o/\o.ExactSet/\o.data=.set es ep t/\es.toList.Perm (xs.map (ent prog w))/\TabOk t es/\t.plain=true/\es.size*5<t.mask*3/\t.mask<=8*xs.length+7/\t.led=ld
theorem b7P{ld:Bool}{a b:Addr}{r:List Int}{xs:List (List Int×Addr)}{Q:Bool->Shared->Prop}(hS:X4 prog w ld s.heap a xs)(L:∀x∈xs,TK prog w s.heap x.1 x.2)(hk:TK prog w s.heap r b)(hu:A.units<cLine)(hl:xs.length<1000)
  (h:∀h' H c,Heap.SameBut a s.heap h'->X4 prog w ld h' a H->((r∈xs.map (·.1)/\H=xs)∨(r∉xs.map (·.1)/\H=(r,b)::xs))->Q c {s with heap:=h',toks:=s.toks+(r.length+1)}):wpAny (model prog w) A (setAdd a (.ref b)) Q E s:=by
 obtain⟨o,es,ep,t,I,C,hd,q,ok,F,a1,a0,P⟩:=hS;have a2:es.size=xs.length:=by rw[<-ay,q.length_eq,aj]
 unfold setAdd;refine b_ (aa (wpAny_pyHash_tuple hu hk ?_));unfold setAddHashed;refine b_ ?_;unfold setAddHashedIn;refine aa (cD (s:={s with toks:=s.toks+(r.length+1)}) I hd (J7 ok) ?_);dsimp only;rw[show byScan (.ref b) es=false from rfl,aq (by decide)];unfold setSearch;obtain⟨N,hN,J,K⟩:=ok.first (hsh prog w r);have a6:N<100000:=by unfold SetTable.turns at hN;omega
 refine aa (a3G (s:={s with toks:=s.toks+(r.length+1)}) (xs:=xs) I hd ok (λe he=>?_) (λx hx=>q.mem_iff.mpr (aT.mpr ⟨x,hx,rfl⟩)) L hk hu hN J K (λZ=>?_) (λB=>?_) 100000 0 none (by omega) (bp _) rfl (λm hm=>absurd hm (by omega)))
 .obtain⟨x,hx,rfl⟩:=aT.mp (q.mem_iff.mp he);exact⟨x,hx,rfl⟩
 .refine ae ?_;exact h s.heap xs false (Heap.SameBut.refl a s.heap) ⟨o,es,ep,t,I,C,hd,q,ok,F,a1,a0,P⟩ (.inl ⟨Z,rfl⟩)
 .dsimp only;refine aa (cD (s:={s with toks:=s.toks+(r.length+1)}) I hd (J7 ok) ?_);dsimp only;rw[az (show(t.put (pos t.mask (hsh prog w r) N)).1.plain=true from F)];refine aa (b3p (s:={s with toks:=s.toks+(r.length+1)}) hk ?_);simp only[↓reduceIte,Bool.not_false,Bool.true_and];have k:=ok.add (v:=Value.ref b) J K (a0X _ _ _) (by omega);have R:(t.put (pos t.mask (hsh prog w r) N)).1.mask=t.mask:=rfl;have p:(t.put (pos t.mask (hsh prog w r) N)).1.plain=true:=F;have n:(t.put (pos t.mask (hsh prog w r) N)).1.led=ld:=P;have W:(t.put (pos t.mask (hsh prog w r) N)).2<=es.size:=by
   have:=(J9 ok.ris (pos t.mask (hsh prog w r) N)).1;rw[ok.size]at this;exact this
  have O:=W5 es (t.put (pos t.mask (hsh prog w r) N)).2 (hsh prog w r,Value.ref b) W;change wpAny _ _ (storeSet a (SetTable.insertAt es (t.put (pos t.mask (hsh prog w r) N)).2 (hsh prog w r,Value.ref b)) _>>=_) _ _ _;generalize (t.put (pos t.mask (hsh prog w r) N)).1=l at k R p n⊢;generalize SetTable.insertAt es (t.put (pos t.mask (hsh prog w r) N)).2 (hsh prog w r,Value.ref b)=d at k O⊢;have u:d.toList.Perm (((r,b)::xs).map (ent prog w)):=by
   rw[O];refine List.perm_middle.trans ?_;rw[bw,aP];exact List.Perm.cons _ q
  have S:d.size=xs.length+1:=by rw[<-ay,u.length_eq,aj,aN]
  have T:d.size<=sizeLine:=by rw[a_];omega
  refine aa (wpAny_storeSet_of (s:={s with toks:=s.toks+(r.length+1)}) I hd ?_ T);have y:(s.heap.update a (Obj.putSet d l)).get? a=some {o with data:=.set d (ep+1) l}:=by
   have:=cp (Obj.putSet d l) I (by rw[putSet_of d l hd];rfl);rw[putSet_of d l hd]at this;exact this
  have V:=cb s.heap a (Obj.putSet d l);have M:l.fill=d.size:=by unfold SetTable.fill;rw[k.size,k.dum];rfl
  by_cases f:l.tooFull=true
  .rw[az f];unfold SetTable.tooFull at f;rw[M,bY]at f;refine aa ?_;unfold setRelay;refine aa (cD (s:={s with heap:=s.heap.update a (Obj.putSet d l),toks:=s.toks+(r.length+1)}) y rfl (J7 k) ?_);dsimp only;have Y:SetTable.grown (es.size+1)=4*(xs.length+1):=by
    unfold SetTable.grown;rw[aq (by omega),a2];omega
   rw[Y];obtain⟨sb,a5,a3,a8,a4⟩:=a0u (4*(xs.length+1)) (by omega);have a7:SetTable.sizeAbove (4*(xs.length+1))<=16000:=by
    rw[a3];rcases a4 with z|z
    .rw[z];decide
    .omega
   rw[aq (by rw[a_];omega)];obtain⟨G,g,r1,r2,r3,r4,r5,U,D⟩:=a9t l d (4*(xs.length+1)) (by omega) (by omega);rw[r1];have i:(g.filterMap (d[·]?)).size=d.size:=by rw[<-ay,D.length_eq,ay]
   refine aa ?_;show wpAny _ _ (if ((g.filterMap (d[·]?)).size != d.size)=true then _ else pure (g.filterMap (d[·]?),G)) _ _ _;rw[aq (by rw[i];simp)];refine ae ?_;dsimp only;generalize g.filterMap (d[·]?)=j at U D i⊢;refine wpAny_storeSet_of (s:={s with heap:=s.heap.update a (Obj.putSet d l),toks:=s.toks+(r.length+1)}) y rfl ?_ (by rw[i];exact T);have X:((s.heap.update a (Obj.putSet d l)).update a (Obj.putSet j G)).get? a=some {o with data:=.set j (ep+1+1) G}:=by
    have:=cp (Obj.putSet j G) y (by rw[putSet_of j G rfl];rfl);rw[putSet_of j G rfl]at this;exact this
   refine ae (h _ ((r,b)::xs) true (V.trans (cb _ a _)) ⟨_,j,_,G,X,C,rfl,D.trans u,U,by rw[r5];exact p,?_,?_,by rw[r4];exact n⟩ (.inr ⟨B,rfl⟩))
   .rw[i,S];omega
   .rw[aN];omega
  .rw[aq f];unfold SetTable.tooFull at f;rw[M,bY]at f;refine ae (h _ ((r,b)::xs) true V ⟨_,d,_,l,y,C,rfl,u,k,p,by omega,?_,n⟩ (.inr ⟨B,rfl⟩));rw[aN,R];omega
end
end Tab
end L2
namespace L2
namespace Tab
open PySem
structure Came(rows:Nat->List Int×Addr)(i:Nat)(xs:List (List Int×Addr)):Prop where
 len:xs.length<=i
 nd:(xs.map (·.1)).Nodup
 from_:∀x∈xs,∃j,j<i/\x=rows j
 all:∀j,j<i->(rows j).1∈xs.map (·.1)
section
variable {prog:Program}{w:World}{A:Around}{R:Result->Shared->Prop}{I:Addr}{fp wr:List Addr}{G:Array GenState->Array GenState->Prop}{n:Nat}{P:Nat->Value->Prop}{St:Nat->Shared->Prop}
theorem a5x(W:WalksS prog w A.in1 I fp wr G n P St)(S:Addr)(C:S∉fp){ld:Bool}{h0:Heap}(K:∀b o,h0.get? b=some o->b∉wr/\b≠S)(a:Nat->List Int×Addr)
  (J:∀i v,i<n->P i v->v=.ref (a i).2) (hrow:∀i,i<n->TK prog w h0 (a i).1 (a i).2) (hn:n<=1000) (hu:A.units+10<cLine) :
  ∀(k i:Nat) (s:Shared) (xs:List (List Int×Addr)),n-i=k->i<=n->St i s->(∀b o,h0.get? b=some o->s.heap.get? b=some o)->X4 prog w ld s.heap S xs->Came a i xs ->
   (∀s' f,Moved (S::wr) G s s'->X4 prog w ld s'.heap S f->Came a n f->R (.ok (.ret .none)) s') ->
   codeAny (model prog w) A (.builtin "set.update.loop" ⟨[.ref S,.ref I],[]⟩) R s:=by
 have D:S∉wr:=λh=>C (W.sub _ h);have l:∀b∈wr,b∈S::wr:=λb E=>ar _ E;intro k;induction k with
 |zero =>
  intro i s xs hk hi q u Q d hR;have V:i=n:=by omega
  subst V;refine dt PyProof.Rows.F.entry_set_update_loop ?_;rw[du dI _];show wpAny _ A.in1 (pyNext (.ref I)>>=_) _ _ s;refine aa (W.done s _ _ q λs' r=>?_);show wpAny _ A.in1 (ret Value.none) _ _ s';refine ae (hR s' xs (r.mono l) ?_ d);obtain⟨o,es,ep,t,X,rest⟩:=Q;exact⟨o,es,ep,t,r.heap S _ D X,rest⟩
 |succ k ih =>
  intro i s xs hk hi q u Q d hR;have g:i<n:=by omega
  refine dt PyProof.Rows.F.entry_set_update_loop ?_;rw[du dI _];show wpAny _ A.in1 (pyNext (.ref I)>>=_) _ _ s;refine aa (W.item i s _ _ g q λv s' hP H r=>?_);obtain rfl:=J i v g hP;have T:X4 prog w ld s'.heap S xs:=by
   obtain⟨o,es,ep,tb,X,rest⟩:=Q;exact⟨o,es,ep,tb,r.heap S _ D X,rest⟩
  have m:∀b o,h0.get? b=some o->s'.heap.get? b=some o:=λb o e=>r.heap b o (K b o e).1 (u b o e);show wpAny _ A.in1 (holding [Value.ref (a i).2] (setAdd S (.ref (a i).2))>>=_) _ _ s';refine aa (b_ (b7P T (λx L=>?_) ((hrow i g).keep m) (show A.units+1<cLine by omega) (by have:=d.len;omega) λh' f c p U Y=>?_))
  .obtain⟨j,N,rfl⟩:=d.from_ x L;exact(hrow j (by omega)).keep m
  have O:Came a (i+1) f:=by
   rcases Y with⟨h1,rfl⟩|⟨h1,rfl⟩
   .refine⟨by have:=d.len;omega,d.nd,λx L=>?_,λj N=>?_⟩
    .obtain⟨j,N,e⟩:=d.from_ x L;exact⟨j,by omega,e⟩
    .by_cases c:j=i
     .rw[c];exact h1
     .exact d.all j (by omega)
   .refine⟨by have:=d.len;rw[aN];omega,by rw[aP,cL];exact⟨h1,d.nd⟩,λx L=>?_,λj N=>?_⟩
    .rcases aE.mp L with z|z
     .exact⟨i,by omega,z⟩
     .obtain⟨j,N,e⟩:=d.from_ x z;exact⟨j,by omega,e⟩
    .rw[aP];by_cases c:j=i
     .rw[c];exact au
     .exact ar _ (d.all j (by omega))
  refine ae ⟨fj dI _,ih (i+1) _ f (by omega) g (W.frame _ s' _ _ H (cu _ _) λb E o e=>?_) (λb o e=>?_) U O λZ M F B y=>?_⟩
  .rw[p.2 b (λh:b=S=>C (by rw[<-h];exact E))];exact e
  .show h'.get? b=some o;rw[p.2 b (K b o e).2];exact m b o e
  .refine hR Z M (Moved.trans W.gtrans ((r.mono l).then_heap (cu _ _) λb o E e=>?_) F) B y;rw[p.2 b (λh:b=S=>E (by rw[h];exact au))];exact e
end
section
variable {prog:Program}{w:World}{A:Around}{E:Value->Shared->Prop}{s:Shared}
theorem a0d(a:Value){Q₁:Value->Shared->Prop}
  (h:Q₁ (.ref s.heap.objs.size) {s with heap:=s.heap.push {cls:=.type "set",dict:=none,data:=.set #[] 0 (.fresh 0 0 (!w.params.followText "set-order"))}}) :
  codeAny (model prog w) A (.call (.builtin "set.__new__") ⟨[.type "set",a],[]⟩) (wants Q₁ E) s:=by
 refine codeAny_of_tree ?_;show wpAny _ A.in1 (do checkBuiltinCall "set.__new__" ⟨[.type "set",a],[]⟩;again (.builtin "set.__new__" ⟨[.type "set",a],[]⟩)) _ _ s;refine aa (wpAny_of_eq (PySem.F.newCall_set_1 a) (ae ⟨fj PySem.F.plain_set_new _,dt PySem.F.entry_set_new ?_⟩));rw[du PySem.F.plain_set_new _];unfold Builtin.«set.__new__» Builtin.Frozenset.newClass;have b:=sub_set_self;obtain⟨c,g,d,tk,os⟩:=s;dsimp only
 wp_walk
 refine fh (ae ?_);dsimp only;simp only[newObj];refine aa (wpAny_alloc (ae ?_));exact ae h
theorem a3F{c:Bool}{h:Heap}{a:Addr}(e:h.get? a=some {cls:=.type "set",dict:=none,data:=.set #[] 0 (.fresh 0 0 c)}):X4 prog w c h a [] :=
 ⟨_,#[],0,_,e,⟨rfl,rfl,rfl⟩,rfl,List.Perm.nil,⟨rfl,rfl,λa b h1 h2=>absurd h2 (by simp[SetTable.fresh]),λj d=>by simp[SetTable.fresh]at d,⟨3,ao _,rfl⟩,bp _,λi j e h1 h2=>by simp at h2⟩,rfl,by show 0*5<7*3;decide,by show 7<=8*0+7;decide,rfl⟩
theorem a4n:isSubtype (.type "list") (.type "set")=pure false:=by rw[dX];kernel_rfl
theorem a0f:isSubtype (.type "list") (.type "frozenset")=pure false:=by rw[dX];kernel_rfl
theorem a3v{l:Addr}{items:Array Value}{d:Nat->List Int×Addr}{Q:Value->Shared->Prop}
  (hh:A.handled=none) (hl:s.heap.IsList l items) (y:∀i v,i<items.size->items[i]?=some v->v=.ref (d i).2) (hrow:∀i,i<items.size->TK prog w s.heap (d i).1 (d i).2) (hn:items.size<=1000) (hu:A.units+20<cLine)
  (h:∀(h':Heap) (tk:Nat) (xs:List (List Int×Addr)),X4 prog w (!w.params.followText "set-order") h' s.heap.objs.size xs->Came d items.size xs ->
   (∀b o,b<s.heap.objs.size->s.heap.get? b=some o->h'.get? b=some o)->Q (.ref s.heap.objs.size) {s with heap:=h',toks:=tk}) :
  wpAny (model prog w) A (call (.type "set") [.ref l]) Q E s:=by
 obtain⟨c,tl,T⟩:=PySem.F.called_set.mro;have J:=PySem.F.called_set.made;have W:=PySem.F.called_set.sub;refine wpAny_call (codeAny_of_tree ?_);show wpAny _ _ (callAny (.type "set") _) _ _ _;refine ae ⟨Code.quiet_builtin _ (by decide +kernel),dt PySem.F.entry_type_call ?_⟩;rw[Around.under_plain (weight_type_call_type "set" [.ref l] []) rfl];have h1:=PySem.F.called_set.notType;have h2:=PySem.F.called_set.canCreate;have a1:=PySem.F.typeCall_set_1 (.ref l)
 repeat (any_goals (first|assumption|wp_step))
 refine dF (a0d (.ref l) (E:=E) (Q₁:=λz s₁=>z=.ref s.heap.objs.size/\s₁={s with heap:=s.heap.push {cls:=.type "set",dict:=none,data:=.set #[] 0 (.fresh 0 0 (!w.params.followText "set-order"))}}) ⟨rfl,rfl⟩) λr s₁ K=>?_;cases r with
 |error e=>exact K
 |ok fl =>
  cases fl with
  |ret z =>
   obtain⟨rfl,rfl⟩:=K;generalize a2:(!w.params.followText "set-order")=a at h;have P:(s.heap.push {cls:=.type "set",dict:=none,data:=.set #[] 0 (.fresh 0 0 a)}).get? s.heap.objs.size=some {cls:=.type "set",dict:=none,data:=.set #[] 0 (.fresh 0 0 a)}:=aD _ rfl;have hT:Shared.TypeIs {s with heap:=s.heap.push {cls:=.type "set",dict:=none,data:=.set #[] 0 (.fresh 0 0 a)}} (.ref s.heap.objs.size) "set":=⟨_,P,rfl⟩;have a3:=PySem.F.called_set.init.lookup;have a0:=PySem.F.called_set.init.bind (.ref s.heap.objs.size)
   repeat (any_goals (first|assumption|wp_step))
   refine dF (codeAny_call_builtin (R:=wants (λr s₂=>r=.none/\∃h' tk xs,s₂={s with heap:=h',toks:=tk}/\X4 prog w a h' s.heap.objs.size xs/\Came d items.size xs /\
     (∀b o,b<s.heap.objs.size->s.heap.get? b=some o->h'.get? b=some o)) E) PySem.F.called_set.init.plain PySem.F.entry_set_init (check_set_init_1 hT ?_)) λr₂ s₂ hr₂=>?_
   .obtain⟨ol,hol,hcl,nl,hdl⟩:=hl;obtain⟨X,m,L,f⟩:=ol;simp only at hcl hdl;subst hcl;subst hdl;have u:(s.heap.push {cls:=.type "set",dict:=none,data:=.set #[] 0 (.fresh 0 0 a)}).get? l=some {cls:=.type "list",dict:=m,data:=.seq items nl,slots:=f}:=ag _ hol;have V:=a4n;have U:=a0f;have a4:(Value.type "list"==Value.type "dict")=false:=by decide
    have p:(s.heap.push {cls:=.type "set",dict:=none,data:=.set #[] 0 (.fresh 0 0 a)}).IsList l items:=⟨_,u,rfl,nl,rfl⟩;unfold Builtin.«set.__init__» noKeywords Builtin.Frozenset.updateFrom;generalize C:pyIter=PI
    wp_walk
    subst C;refine wpAny_pyIter_list p ?_;refine aa (wpAny_runValue ?_);have q:l<s.heap.objs.size:=aI hol;have H:A.in1.in1.in1.handled=none:=by simp[hh]
    have t:l≠(s.heap.push {cls:=.type "set",dict:=none,data:=.set #[] 0 (.fresh 0 0 a)}).objs.size:=by
     rw[bu];exact aR (bX q)
    have D:s.heap.objs.size∉[(s.heap.push {cls:=.type "set",dict:=none,data:=.set #[] 0 (.fresh 0 0 a)}).objs.size,l]:=by
     rw[bu];simp only[aE,aA,bz,cN,not_or];exact⟨aR (bQ _),di q⟩
    have n:((s.heap.push {cls:=.type "set",dict:=none,data:=.set #[] 0 (.fresh 0 0 a)}).push {cls:=.type "list_iterator",data:=.fields #[.ref l,.int 0 0]}).get? s.heap.objs.size
       = some {cls:=.type "set",dict:=none,data:=.set #[] 0 (.fresh 0 0 a)}:=ag _ P
    refine a5x (ld:=a) (h0:=s.heap) ((Walks.list H _ l t items).toS) s.heap.objs.size D (λb o e=>?_) d y hrow hn (show A.units+2+10<cLine by omega) (items.size-0) 0 _ [] (by omega) (bp _)
     ⟨⟨_,aD _ rfl,rfl,rfl⟩,(p.push _)⟩ (λb o e=>ag _ (ag _ e)) (a3F n) ⟨ao _,eV,(λx hx=>nomatch hx),λj hj=>absurd hj (Nat.not_lt_zero j)⟩ ?hR
    .have:=aI e;rw[bu];simp only[aE,bz,cN];exact⟨aR (bX this),aR this⟩
    case hR =>
     intro s' O B k g;obtain⟨h',g',Y,N,M⟩:=s';have eg:g'=s.gens:=B.gens;have Z:Y=s.drawn:=B.drawn;have eo:M=s.os:=B.os;subst eg;subst Z;subst eo;show wpAny _ _ _ _ _ _;refine ae ?_;show wpAny _ _ (ret Value.none) _ _ _;refine ae ⟨rfl,h',N,O,rfl,k,g,λb o S e=>?_⟩;have F:b≠s.heap.objs.size:=aR S;have G:b≠(s.heap.push {cls:=.type "set",dict:=none,data:=.set #[] 0 (.fresh 0 0 a)}).objs.size:=by
      rw[bu];exact aR (bX S)
     exact B.heap b o (by simp only[aE,aA,bz,cN,not_or];exact⟨F,G⟩) (ag _ (ag _ e))
   .cases r₂ with
    |error e=>exact hr₂
    |ok fl₂ =>
     cases fl₂ with
     |ret r =>
      obtain⟨rfl,h',tk,xs,rfl,k,g,I⟩:=hr₂
      repeat (any_goals (first|assumption|wp_step))
      exact h _ _ _ k g I
     |_=>exact hr₂.elim
  |_=>exact K.elim
theorem a3o:isSubtype (.type "tuple") (.type "set")=pure false:=by rw[dX];kernel_rfl
theorem Z5:isSubtype (.type "tuple") (.type "frozenset")=pure false:=by rw[dX];kernel_rfl
theorem a3k{l:Addr}{items:Array Value}{d:Nat->List Int×Addr}{Q:Value->Shared->Prop}
  (hh:A.handled=none) (hl:s.heap.IsTuple l items) (y:∀i v,i<items.size->items[i]?=some v->v=.ref (d i).2) (hrow:∀i,i<items.size->TK prog w s.heap (d i).1 (d i).2) (hn:items.size<=1000) (hu:A.units+20<cLine)
  (h:∀(h':Heap) (tk:Nat) (xs:List (List Int×Addr)),X4 prog w (!w.params.followText "set-order") h' s.heap.objs.size xs->Came d items.size xs ->
   (∀b o,b<s.heap.objs.size->s.heap.get? b=some o->h'.get? b=some o)->Q (.ref s.heap.objs.size) {s with heap:=h',toks:=tk}) :
  wpAny (model prog w) A (call (.type "set") [.ref l]) Q E s:=by
 obtain⟨c,tl,T⟩:=PySem.F.called_set.mro;have J:=PySem.F.called_set.made;have W:=PySem.F.called_set.sub;refine wpAny_call (codeAny_of_tree ?_);show wpAny _ _ (callAny (.type "set") _) _ _ _;refine ae ⟨Code.quiet_builtin _ (by decide +kernel),dt PySem.F.entry_type_call ?_⟩;rw[Around.under_plain (weight_type_call_type "set" [.ref l] []) rfl];have h1:=PySem.F.called_set.notType;have h2:=PySem.F.called_set.canCreate;have a1:=PySem.F.typeCall_set_1 (.ref l)
 repeat (any_goals (first|assumption|wp_step))
 refine dF (a0d (.ref l) (E:=E) (Q₁:=λz s₁=>z=.ref s.heap.objs.size/\s₁={s with heap:=s.heap.push {cls:=.type "set",dict:=none,data:=.set #[] 0 (.fresh 0 0 (!w.params.followText "set-order"))}}) ⟨rfl,rfl⟩) λr s₁ K=>?_;cases r with
 |error e=>exact K
 |ok fl =>
  cases fl with
  |ret z =>
   obtain⟨rfl,rfl⟩:=K;generalize a2:(!w.params.followText "set-order")=a at h;have P:(s.heap.push {cls:=.type "set",dict:=none,data:=.set #[] 0 (.fresh 0 0 a)}).get? s.heap.objs.size=some {cls:=.type "set",dict:=none,data:=.set #[] 0 (.fresh 0 0 a)}:=aD _ rfl;have hT:Shared.TypeIs {s with heap:=s.heap.push {cls:=.type "set",dict:=none,data:=.set #[] 0 (.fresh 0 0 a)}} (.ref s.heap.objs.size) "set":=⟨_,P,rfl⟩;have a3:=PySem.F.called_set.init.lookup;have a0:=PySem.F.called_set.init.bind (.ref s.heap.objs.size)
   repeat (any_goals (first|assumption|wp_step))
   refine dF (codeAny_call_builtin (R:=wants (λr s₂=>r=.none/\∃h' tk xs,s₂={s with heap:=h',toks:=tk}/\X4 prog w a h' s.heap.objs.size xs/\Came d items.size xs /\
     (∀b o,b<s.heap.objs.size->s.heap.get? b=some o->h'.get? b=some o)) E) PySem.F.called_set.init.plain PySem.F.entry_set_init (check_set_init_1 hT ?_)) λr₂ s₂ hr₂=>?_
   .obtain⟨ol,hol,hcl,nl,hdl⟩:=hl;obtain⟨X,m,L,f⟩:=ol;simp only at hcl hdl;subst hcl;subst hdl;have u:(s.heap.push {cls:=.type "set",dict:=none,data:=.set #[] 0 (.fresh 0 0 a)}).get? l=some {cls:=.type "tuple",dict:=m,data:=.seq items nl,slots:=f}:=ag _ hol;have V:=a3o;have U:=Z5;have a4:(Value.type "tuple"==Value.type "dict")=false:=by decide
    have p:(s.heap.push {cls:=.type "set",dict:=none,data:=.set #[] 0 (.fresh 0 0 a)}).IsTuple l items:=⟨_,u,rfl,nl,rfl⟩;unfold Builtin.«set.__init__» noKeywords Builtin.Frozenset.updateFrom;generalize C:pyIter=PI
    wp_walk
    subst C;refine fu p ?_;refine aa (wpAny_runValue ?_);have q:l<s.heap.objs.size:=aI hol;have H:A.in1.in1.in1.handled=none:=by simp[hh]
    have t:l≠(s.heap.push {cls:=.type "set",dict:=none,data:=.set #[] 0 (.fresh 0 0 a)}).objs.size:=by
     rw[bu];exact aR (bX q)
    have D:s.heap.objs.size∉[(s.heap.push {cls:=.type "set",dict:=none,data:=.set #[] 0 (.fresh 0 0 a)}).objs.size,l]:=by
     rw[bu];simp only[aE,aA,bz,cN,not_or];exact⟨aR (bQ _),di q⟩
    have n:((s.heap.push {cls:=.type "set",dict:=none,data:=.set #[] 0 (.fresh 0 0 a)}).push {cls:=.type "tuple_iterator",data:=.fields #[.ref l,.int 0 0]}).get? s.heap.objs.size
       = some {cls:=.type "set",dict:=none,data:=.set #[] 0 (.fresh 0 0 a)}:=ag _ P
    refine a5x (ld:=a) (h0:=s.heap) ((Walks.tuple H _ l t items).toS) s.heap.objs.size D (λb o e=>?_) d y hrow hn (show A.units+2+10<cLine by omega) (items.size-0) 0 _ [] (by omega) (bp _)
     ⟨⟨_,aD _ rfl,rfl,rfl⟩,(p.push _)⟩ (λb o e=>ag _ (ag _ e)) (a3F n) ⟨ao _,eV,(λx hx=>nomatch hx),λj hj=>absurd hj (Nat.not_lt_zero j)⟩ ?hR
    .have:=aI e;rw[bu];simp only[aE,bz,cN];exact⟨aR (bX this),aR this⟩
    case hR =>
     intro s' O B k g;obtain⟨h',g',Y,N,M⟩:=s';have eg:g'=s.gens:=B.gens;have Z:Y=s.drawn:=B.drawn;have eo:M=s.os:=B.os;subst eg;subst Z;subst eo;show wpAny _ _ _ _ _ _;refine ae ?_;show wpAny _ _ (ret Value.none) _ _ _;refine ae ⟨rfl,h',N,O,rfl,k,g,λb o S e=>?_⟩;have F:b≠s.heap.objs.size:=aR S;have G:b≠(s.heap.push {cls:=.type "set",dict:=none,data:=.set #[] 0 (.fresh 0 0 a)}).objs.size:=by
      rw[bu];exact aR (bX S)
     exact B.heap b o (by simp only[aE,aA,bz,cN,not_or];exact⟨F,G⟩) (ag _ (ag _ e))
   .cases r₂ with
    |error e=>exact hr₂
    |ok fl₂ =>
     cases fl₂ with
     |ret r =>
      obtain⟨rfl,h',tk,xs,rfl,k,g,I⟩:=hr₂
      repeat (any_goals (first|assumption|wp_step))
      exact h _ _ _ k g I
     |_=>exact hr₂.elim
  |_=>exact K.elim
end
end Tab
end L2
namespace L2
namespace Tab
open PySem PySem.W
theorem a3g{α:Type}:∀(l:List α) (i:Nat) (h:i<l.length),([l[i]]++l.eraseIdx i).Perm l
 |x::l,0,_=>by simp
 |x::l,i+1,h=>by
  have a:=a3g l i (by simpa using h);simp only[List.getElem_cons_succ,List.eraseIdx_cons_succ,List.singleton_append];exact(List.Perm.swap x (l[i]'(by simpa using h)) _).trans (List.Perm.cons x a)
theorem a8q{α:Type}(next:Nat->Nat):∀(fuel k:Nat) (left:List α) (out:Array α),left.length=fuel->(pickOrder.go next fuel k left out).toList.Perm (out.toList++left)
 |0,k,left,out,h=>by
  rw[List.length_eq_zero_iff.mp h,dj];exact List.Perm.refl _
 |fuel+1,k,left,out,h=>by
  unfold pickOrder.go;have hi:next k % left.length<left.length:=fM _ (by omega)
  rw[ai hi];dsimp only;refine(a8q next fuel (k+1) _ _ (by rw[List.length_eraseIdx_of_lt hi];omega)).trans ?_;rw[cX,aG];exact cB _ (a3g left _ hi)
theorem a9A{α:Type}(next:Nat->Nat)(xs:Array α):(pickOrder next xs).toList.Perm xs.toList:=by
 have:=a8q next xs.size 0 xs.toList #[] (by simp)
 rw[show(#[]:Array α).toList=[] from rfl,cM]at this;exact this
theorem slot_seti_next:Slot "set_iterator" "__next__" "set_iterator.__next__" :=
 .of (owner:="set_iterator") (n:="__next__") (by rw[typeLookup_type,builtinLookup_eq_fast];kernel_rfl) (by decide +kernel) (by decide +kernel) (by decide +kernel)
  (by first|exact .inl (by decide +kernel)|exact .inr (by decide +kernel)) (by rw[dX];kernel_rfl)
theorem V0:entryFor table "set_iterator.__next__"=some Builtin.«set_iterator.__next__»:=entryFor_of_tree (by kernel_rfl)
theorem X2(a:Value):argsOk "set_iterator.__next__" ⟨[a],[]⟩:=by
 unfold argsOk;kernel_rfl
theorem V6:Slot "set_iterator" "__iter__" "set_iterator.__iter__" :=
 .of (owner:="set_iterator") (n:="__iter__") (by rw[typeLookup_type,builtinLookup_eq_fast];kernel_rfl) (by decide +kernel) (by decide +kernel) (by decide +kernel)
  (by first|exact .inl (by decide +kernel)|exact .inr (by decide +kernel)) (by rw[dX];kernel_rfl)
theorem a3h:entryFor table "set.__iter__"=some Builtin.«frozenset.__iter__» :=
 entryFor_alias (id':="frozenset.__iter__") (by kernel_rfl) rfl (by decide +kernel) (by kernel_rfl)
structure SRaw(h:Heap)(a:Addr)(es:Array (Int×Value))(ep:Nat)(t:SetTable):Prop where
 ex:∃o,h.get? a=some o/\o.ExactSet/\o.data=.set es ep t
 ok:TabOk t es
 plain:t.plain=true
section
variable {prog:Program}{w:World}{A:Around}{E:Value->Shared->Prop}{s:Shared}{a it:Addr}{es:Array (Int×Value)}{ep i:Nat}{t:SetTable}
theorem SRaw.typ(x:SRaw s.heap a es ep t):s.TypeIs (.ref a) "set":=let ⟨o,h1,h2,_⟩:=x.ex;⟨o,h1,h2.1⟩
theorem b2V{Q:Bool->Shared->Prop}(e:s.TypeIs (.ref a) "set")(h:Q false s):wpAny (model prog w) A (Builtin.List.listLengthHint (.ref a)) Q E s:=by
 unfold Builtin.List.listLengthHint;refine aa (wpAny_specialOf e PySem.F.slot_set_len.lookup ?_);generalize d:("set.__len__" : String)=f
 wp_delta
 rw[show splitId f=some ("set","__len__")from by subst d;decide +kernel];subst d;refine aa (fX (T:="set") (b:=true) e (by rw[dX];kernel_rfl) ?_);refine wpAny_ite_split (λc=>absurd c (by decide)) (λ_=>?_);refine wpAny_ite_split (λ_=>?_) (λc=>absurd (by decide +kernel) c);refine aa (eS e ?_);exact ae h
def V9(w:World)(a:Addr)(ep:Nat)(es:Array (Int×Value)):Array (Int×Value):=if w.params.followText "set-order"=true then pickOrder (w.params.setOrder a ep) es else es
theorem ord_perm:(V9 w a ep es).toList.Perm es.toList:=by
 unfold V9;split
 .exact a9A _ _
 .exact List.Perm.refl _
def a1E(w:World)(t:SetTable):Nat->Nat
 |0=>0
 |i+1=>if w.params.followText "set-order"=true then 0 else t.place.getD i 0+1
def SetIt(w:World)(h:Heap)(it a:Addr)(i n ep:Nat)(t:SetTable):Prop:=∃o,h.get? it=some o/\o.cls=.type "set_iterator"/\o.data=.fields #[rawInt (a1E w t i),rawInt i,.ref a,rawInt n,rawInt ep]
theorem b1g{Q:Value->Shared->Prop}(D:SRaw s.heap a es ep t)
  (q:Q (.ref s.heap.objs.size) {s with heap:=s.heap.push {cls:=.type "set_iterator",data:=.fields #[rawInt 0,rawInt 0,.ref a,rawInt es.size,rawInt ep]}}):wpAny (model prog w) A (pyIter (.ref a)) Q E s:=by
 have ty:=D.typ;obtain⟨o,b,_,c⟩:=D.ex;refine wpAny_pyIter_slot ty PySem.F.slot_set_iter (bM PySem.F.slot_set_iter ty a3h ?body (PySem.F.args_set_iter_1 _))
 case body =>
  unfold Builtin.«frozenset.__iter__» Builtin.Frozenset.slot0;refine aa (aa (ae (ae ?_)));unfold Builtin.Frozenset.sizeOf setEntries;refine aa (aa (aa (cD b c (J7 D.ok) (ae (ae ?_)))));unfold setDrawn setsByText;refine aa (aa (cD b c (J7 D.ok) ?_));dsimp only;refine aa (aa (fh (ae (ae ?_))));dsimp only;rw[aq (λz=>by
   have d:=(aV _ _ ▸ z).2;change (!t.plain && decide (es.size > 1))=true at d;rw[D.plain]at d;cases d)]
  refine aa (ae ?_);refine aa (wpAny_setEpoch_of b c (J7 D.ok) ?_);refine aa (bt (ae ⟨_,rfl,"set_iterator",_,⟨_,aD _ rfl,rfl⟩,slot_seti_next.lookup,?_⟩));exact q
theorem SetIt.typ{it a:Addr}{i n ep:Nat}{t:SetTable}(x:SetIt w s.heap it a i n ep t):s.TypeIs (.ref it) "set_iterator":=let ⟨o,h1,h2,_⟩:=x;⟨o,h1,h2⟩
theorem b1d(D:SRaw s.heap a es ep t)(e:w.params.followText "set-order"=false){i:Nat}(hi:i<=es.size):SetTable.below t.place (a1E w t i)=i:=by
 obtain⟨d,b,c⟩:=J9 D.ok.ris (a1E w t i);have f:=D.ok.size;cases i with
 |zero =>
  rcases Nat.eq_zero_or_pos (SetTable.below t.place (a1E w t 0))with z|z
  .exact z
  .have:=b 0 z;exact absurd this (Nat.not_lt_zero _)
 |succ i =>
  have hs:a1E w t (i+1)=t.place.getD i 0+1:=by
   show(if w.params.followText "set-order"=true then 0 else t.place.getD i 0+1)=_;rw[e,aq (by decide)]
  rw[hs]at d b c⊢;rcases dv (SetTable.below t.place (t.place.getD i 0+1)) (i+1)with z|z|z
  .have:=c i (by omega) (by omega);omega
  .exact z
  .have h1:=b (i+1) z;have h2:=D.ok.ris i (i+1) (by omega) (by omega);omega
theorem a5H(D:SRaw s.heap a es ep t)(d:t.led=!w.params.followText "set-order"){i:Nat}{Q:Option (Value×Nat)->Shared->Prop}(hi:i<=es.size)
  (h:Q ((V9 w a ep es)[i]?.map λe=>(e.2,a1E w t (i+1))) s):wpAny (model prog w) A (setNext a (a1E w t i) i ep) Q E s:=by
 obtain⟨o,f,_,g⟩:=D.ex;unfold setNext setsByText;refine aa (cD f g (J7 D.ok) ?_);dsimp only;refine aa (aa (fh (ae ?_)));dsimp only;by_cases b:w.params.followText "set-order"=true
 .rw[az (show(model prog w).w.params.followText "set-order"=true from b),aq (by simp)];unfold setWalk setsByText;refine aa (aa (cD f g (J7 D.ok) ?_));dsimp only;refine aa (aa (fh (ae ?_)));rw[az (show(model prog w).w.params.followText "set-order"=true from b)];refine aa (fh (ae (ae ?_)));have k:∀j,a1E w t j=0:=λj=>by
   cases j with
   |zero=>rfl
   |succ j=>show(if w.params.followText "set-order"=true then 0 else _)=0;rw[az b]
  rw[k]at h⊢;unfold V9 at h;rw[az b]at h;exact h
 .have hf':w.params.followText "set-order"=false:=by simpa using b
  rw[aq (show ¬(model prog w).w.params.followText "set-order"=true from b)];rw[aq (λz=>by
   change (!t.plain && decide (es.size > 1))=true at z;rw[D.plain]at z;cases z)]
  refine aa ?_;show wpAny _ _ (if (!t.led && !es.isEmpty)=true then _ else pure ()) _ _ _;rw[aq (by rw[d,hf'];simp)];refine ae (ae ?_);rw[b1d D hf' hi];unfold V9 at h;rw[aq b]at h;by_cases c:i<es.size
  .have hp:=a0I (xs:=t.place) (i:=i) (by rw[D.ok.size];exact c);rw[hp];have hs:a1E w t (i+1)=t.place.getD i 0+1:=by
    show(if w.params.followText "set-order"=true then 0 else t.place.getD i 0+1)=_;rw[hf',aq (by decide)]
   rw[hs]at h;rw[bD c]at h⊢;exact h
  .rw[c_ (by omega)]at h⊢;exact h
theorem a9m{it:Addr}{i:Nat}{Q:Option Value->Shared->Prop}(I:SetIt w s.heap it a i es.size ep t)(D:SRaw s.heap a es ep t)(d:t.led=!w.params.followText "set-order")(hi:i<es.size){v:Int×Value}(h:(V9 w a ep es)[i]?=some v)
  (q:∀h',SetIt w h' it a (i+1) es.size ep t->Heap.SameBut it s.heap h'->Q (some v.2) {s with heap:=h'}):wpAny (model prog w) A (pyNext (.ref it)) Q E s:=by
 obtain⟨j,f1,f2,b⟩:=id I;obtain⟨od,f,k,g⟩:=D.ex;unfold pyNext;refine aa (ek (bJ (name:=Str.ofString "__next__") I.typ slot_seti_next (bM slot_seti_next I.typ V0 ?body (X2 _))))
 case body =>
  unfold Builtin.«set_iterator.__next__»;refine aa (ae (aa (wpAny_fieldsOf f1 b ?_)));dsimp only[rawInt];unfold setEntries;refine aa (aa (cD f g (J7 D.ok) (ae ?_)));rw[aq (by simp)];simp only[bb];refine aa (a5H D d (cQ hi) ?_);rw[h];dsimp only[Option.map];have e:(s.heap.update it (Obj.mapFields λz=>z.setIfInBounds 0 (.int (a1E w t (i+1)) 0))).get? it=some (Obj.mapFields (λz=>z.setIfInBounds 0 (.int (a1E w t (i+1)) 0)) j):=cp _ f1 (eT (cR b _));have c:=cR b (λz=>z.setIfInBounds 0 (.int (a1E w t (i+1)) 0));refine aa (dW f1 b (by simp) ?_);refine aa (dW (s:={s with heap:=_}) e c (by simp) ?_);refine ae ⟨_,rfl,ae (q _ ⟨_,cp _ e (eT (cR c _)),?_,?_⟩ ((cb ..).trans (cb ..)))⟩
  .rw[fP,fP];exact f2
  .rw[cR c];simp[rawInt]
theorem b1e{it:Addr}{Q:Option Value->Shared->Prop}(g:A.handled=none)(I:SetIt w s.heap it a es.size es.size ep t)(D:SRaw s.heap a es ep t)(c:t.led=!w.params.followText "set-order")
  (q:∀h',Heap.ExtBut it s.heap h'->Q none {s with heap:=h'}):wpAny (model prog w) A (pyNext (.ref it)) Q E s:=by
 obtain⟨j,f1,f2,d⟩:=id I;obtain⟨od,e,i,f⟩:=D.ex;unfold pyNext;refine aa (ek (bJ (name:=Str.ofString "__next__") I.typ slot_seti_next (bM slot_seti_next I.typ V0 ?body (X2 _))))
 case body =>
  unfold Builtin.«set_iterator.__next__»;refine aa (ae (aa (wpAny_fieldsOf f1 d ?_)));dsimp only[rawInt];unfold setEntries;refine aa (aa (cD e f (J7 D.ok) (ae ?_)));rw[aq (by simp)];simp only[bb];refine aa (a5H D c (ao _) ?_);have h:(V9 w a ep es).size=es.size:=by rw[<-ay,ord_perm.length_eq,ay]
  rw[c_ (by omega)];dsimp only[Option.map];refine aa (dW f1 d (by simp) ?_);show wpAny _ _ (newExc (.type "StopIteration") []>>=λ_=>_) _ _ _;refine aa ?_;simp only[newExc,newTuple];refine aa (bt ?_ (by size_fits));refine aa (m:=firstArgMember _ _) (wpAny_of_eq (a:=Value.none) (by first|rfl | (simp only[firstArgMember];rfl)) ?_);refine bt ?_ (by size_fits);simp only[raiseNew];refine aa (wpAny_handled ?_);rw[show A.in1.handled=none from g];refine aa (ae (wpAny_throw ?_));refine aa (fX (T:="StopIteration") (b:=true) ⟨_,aD _ rfl,rfl⟩ isSubtype_stop ?_);exact ae (q _ (((cb ..).extBut.push _).push _))
theorem SetIt.at{h h':Heap}{it a:Addr}{i n ep:Nat}{t:SetTable}(x:SetIt w h it a i n ep t)(k:∀o,h.get? it=some o->h'.get? it=some o):SetIt w h' it a i n ep t:=let ⟨o,h1,h2⟩:=x;⟨o,k o h1,h2⟩
theorem SRaw.to{h h':Heap}(x:SRaw h a es ep t)(k:∀o,h.get? a=some o->h'.get? a=some o):SRaw h' a es ep t:=⟨let ⟨o,h1,h2⟩:=x.ex;⟨o,k o h1,h2⟩,x.ok,x.plain⟩
theorem a1L:entryFor table "set_iterator.__iter__"=some Builtin.«dict_keyiterator.__iter__» :=
 entryFor_alias (id':="dict_keyiterator.__iter__") (by kernel_rfl) rfl (by decide +kernel) (by kernel_rfl)
theorem a3m(a:Value):argsOk "set_iterator.__iter__" ⟨[a],[]⟩:=by
 unfold argsOk;kernel_rfl
theorem a9l{it:Addr}{i n:Nat}{Q:Value->Shared->Prop}(I:SetIt w s.heap it a i n ep t)(h:Q (.ref it) s):wpAny (model prog w) A (pyIter (.ref it)) Q E s:=by
 refine wpAny_pyIter_slot I.typ V6 (bM V6 I.typ a1L ?_ (a3m _));show wpAny _ _ (ret (.ref it)) _ _ s;exact ae ⟨_,rfl,"set_iterator",_,I.typ,slot_seti_next.lookup,h⟩
theorem b1V:(V9 w a ep es).size=es.size:=by rw[<-ay,ord_perm.length_eq,ay]
theorem a9n(p:A.handled=none)(J:Addr)(j:a≠J)(g:t.led=!w.params.followText "set-order") :
  Walks prog w A J [J,a] [J] es.size (λi v=>∃e,(V9 w a ep es)[i]?=some e/\v=e.2) (λi h=>SetIt w h J a i es.size ep t/\SRaw h a es ep t) where
 sub:=λb d=>by rw[aA.mp d];exact au
 frame:=λi h h' st k=>⟨st.1.at λo e=>k J au o e,st.2.to λo e=>k a (ar _ au) o e⟩
 item:=λi s Q E hi st c=>by
  have f:i<(V9 w a ep es).size:=by rw[b1V];exact hi
  exact a9m st.1 st.2 g hi (bD f) λh' m l=>c _ h' s.toks ⟨_,bD f,rfl⟩ ⟨m,st.2.to λo e=>l.extBut a o j e⟩ λb o d e=>l.extBut b o (λz=>d (by rw[z];exact au)) e
 done:=λs Q E st c=>b1e p st.1 st.2 g λh' n=>c h' s.toks λb o d e=>n b o (λz=>d (by rw[z];exact au)) e
 self:=λ_ _ _ _ st c=>a9l st.1 c
theorem SRaw.lt{h:Heap}(x:SRaw h a es ep t):a<h.objs.size:=let ⟨_,h1,_⟩:=x.ex;aI h1
theorem b3Q(b:t.led=!w.params.followText "set-order"):KdlSrc prog w "set" a a es.size (λi v=>∃e,(V9 w a ep es)[i]?=some e/\v=e.2) (λh=>SRaw h a es ep t) where
 type:=λ_ D=>D.typ
 there:=λ_ D=>⟨D.lt,D.lt⟩
 keep:=λ_ _ D d=>D.to λo e=>d a (.inl rfl) o e
 notList:=by decide
 notTuple:=by decide
 hint:=λ_ _ _ _ D q=>b2V D.typ q
 iter:=λ_ _ c D=>⟨_,_,λ_ _ q=>b1g D q,a9n c _ (aR D.lt) b,⟨⟨_,aD _ rfl,rfl,rfl⟩,D.to λo e=>ag _ e⟩⟩
end
end Tab
end L2
namespace L2
open PySem PySem.Spec PyProof.Rows PySem.W Tab
def a4u(P:Program)(w:World)(a:Addr)(xs:List (List Int×Addr)):HO:=.ext λh=>∃es ep t,SRaw h a es ep t/\es.toList.Perm (xs.map (Tab.ent P w))/\t.led=!w.params.followText "set-order"
theorem b5t{P:Program}{w:World}{H:Hp}{h:Heap}(ok:HOk P w H h){r:List Int}{b:Addr}(x:IT H (.ref b) r):TK P w h r b:=by
 obtain⟨a,e,q⟩:=x;cases e;obtain⟨_,its,c,o,h1,h2,n,d⟩:=(show ObjOk P w H h b (.tup (r.map V.int))from ok b _ q);refine⟨o,its.toArray,n,h1,aL Prod.fst h2,d,?_⟩;have:∀{r:List Int}{its:List Value},Vals (r.map V.int) its->ItemsAre (intKind P w) r its:=by
  intro r;induction r with
  |nil=>intro its c;cases c;exact .nil
  |cons x r f =>
   intro its c;cases c with
   |cons h t =>
    obtain⟨tk,rfl⟩:=h;exact .cons (intKind_is _ _ _ _) (f t)
 simpa using this c
def b5F(K:PySem.W.Frag)(P:Program)(w:World):RL:=λys H Q=>∃(k:Bool) (p:Addr) (vs:List V) (rss:LLI),ys=[.ref p]/\SqK k K H p vs/\Its H vs rss/\vs.length<=1000 /\
 ∀a xs,H a=none->(xs.map (·.1)).Nodup->(∀r,r∈xs.map (·.1)↔r∈rss)->(∀x∈xs,IT H (.ref x.2) x.1)->Q (.ref a) (upd H a (a4u P w a xs))
def b1x(P:Program)(w:World):RL:=λys H Q=>∃(a:Addr) (xs:List (List Int×Addr)),ys=[.ref a]/\H a=some (a4u P w a xs)/\(∀x∈xs,IT H (.ref x.2) x.1)/\(∀x∈xs,0<x.1.length)/\xs.length<=1000 /\
 ∀l zs tss,H l=none->Its H zs tss->tss.Perm (xs.map (·.1))->J4 tss->Q (.ref l) (upd H l (.lst zs))
section
variable {X:Cx}
theorem b0p(K:PySem.W.Frag)(P:Program)(w:World)(hu:X.A.units+60<cLine)(hc:X.calm=true)(hK:X.K=K:=by rfl)(hP:X.prog=P:=by rfl)(hw:X.w=w:=by rfl):E2 X (.type "set") (b5F K P w):=by
 subst hK hP hw;intro pins s σ H ys us Q I rv h;obtain⟨k,p,vs,rss,rfl,R,N,hn,q⟩:=h;obtain⟨u,rfl,D⟩:=rv.one;cases D;have O:X.A.handled=none:=I.ok.hd hc;have step:∀(its:List Value),Vals vs its->∀(h':Heap) (tk:Nat) (xs:List (List Int×Addr)) (c:Nat->List Int×Addr),(∀i,i<its.toArray.size->rss[i]?=some (c i).1/\IT H (.ref (c i).2) (c i).1) ->
   X4 X.prog X.w (!X.w.params.followText "set-order") h' s.heap.objs.size xs->Came c its.toArray.size xs->(∀b o,b<s.heap.objs.size->s.heap.get? b=some o->h'.get? b=some o)->EP X pins σ Q (.ref s.heap.objs.size) {s with heap:=h',toks:=tk}:=by
  intro its r h' tk xs c d n l A;obtain⟨o,es,ep,t,M,S,T,U,V,W,e7,e8,Y⟩:=n;have B:its.toArray.size=rss.length:=by rw[<-N.1,r.length];simp
  have F:H s.heap.objs.size=none:=I.hok.fresh (ao _);have E:∀x∈xs,IT H (.ref x.2) x.1:=λx J=>by
   obtain⟨j,m,rfl⟩:=l.from_ x J;exact(d j m).2
  refine⟨.ref s.heap.objs.size,_,I.laid (h':=h') (a:=s.heap.objs.size) (o:=a4u X.prog X.w s.heap.objs.size xs) (t':=tk) (λb o e=>A b o (aI e) e) (ao _) ⟨⟨es,ep,t,⟨⟨o,M,S,T⟩,V,W⟩,U,Y⟩,⟨o,M⟩,λh1 h2 ⟨es,ep,t,q1,q2⟩ kk=>⟨es,ep,t,q1.to kk,q2⟩⟩,rfl,q _ xs F l.nd (λr=>?_) E⟩;constructor
  .intro hr;obtain⟨x,J,rfl⟩:=aT.mp hr;obtain⟨j,m,rfl⟩:=l.from_ x J;exact aF (d j m).1
  .intro hr;obtain⟨j,m⟩:=cC.mp hr;have y:j<its.toArray.size:=by rw[B];exact(aH.mp m).1
   have h1:=(d j y).1;rw[m]at h1;injection h1 with h1
   rw[h1];exact l.all j y
 have f:∀(its:List Value),Vals vs its->∃c:Nat->List Int×Addr,(∀i v,i<its.toArray.size->its.toArray[i]?=some v->v=.ref (c i).2)/\∀i,i<its.toArray.size->rss[i]?=some (c i).1/\IT H (.ref (c i).2) (c i).1:=by
  intro its r;have g:∀i,∃x:List Int×Addr,i<its.toArray.size->(∀v,its.toArray[i]?=some v->v=.ref x.2)/\rss[i]?=some x.1/\IT H (.ref x.2) x.1:=λi=>by
   by_cases hi:i<its.toArray.size
   .have hi':i<vs.length:=by rw[r.length];simpa using hi
    obtain⟨u,eu,D⟩:=r.get (ai hi');obtain⟨row,er,b,Z,hb⟩:=N.2 i _ (ai hi');rw[Z]at D;cases D;refine⟨(row,b),λ_=>⟨λv G=>?_,er,b,rfl,hb⟩⟩;have:its[i]?=some v:=by simpa using G
    rw[eu]at this;injection this with this
    exact this.symm
   .exact⟨([],0),λz=>absurd z hi⟩
  exact⟨λi=>Classical.choose (g i),λi v hi G=>(Classical.choose_spec (g i) hi).1 v G,λi hi=>(Classical.choose_spec (g i) hi).2⟩
 cases k
 .obtain⟨its,r,pl,hz⟩:=I.list R;obtain⟨c,L,C⟩:=f its r;exact a3v O pl.isList L (λi hi=>b5t I.hok (C i hi).2) (by have:=r.length;simp;omega) (by omega) λh' tk xs n l A=>step its r h' tk xs c C n l A
 .obtain⟨its,r,pl,hz⟩:=I.tuple R;obtain⟨c,L,C⟩:=f its r;exact a3k O pl L (λi hi=>b5t I.hok (C i hi).2) (by have:=r.length;simp;omega) (by omega) λh' tk xs n l A=>step its r h' tk xs c C n l A
theorem a7t(P:Program)(w:World)(hc:X.calm=true)(hP:X.prog=P:=by rfl)(hw:X.w=w:=by rfl):E2 X (.builtin "sorted") (b1x P w):=by
 subst hP hw;intro pins s σ H ys us Q I rv h;obtain⟨a,xs,rfl,ha,L,R,hn,q⟩:=h;obtain⟨u,rfl,ru⟩:=rv.one;cases ru;obtain⟨⟨es,ep,t,D,z,M⟩,_⟩:=(show ObjOk X.prog X.w H s.heap a (a4u X.prog X.w a xs)from I.hok _ _ ha);obtain⟨d,G,te⟩:=N5 (f:=Tab.ent X.prog X.w) ((ord_perm (w:=X.w) (a:=a) (ep:=ep)).trans z) rfl;have A:∀x∈d,x∈xs:=λx B=>G.mem_iff.mp B;have g:es.size=d.length:=by rw[<-ay,z.length_eq,aj,G.length_eq]
 have K:Its H (d.map λx=>V.ref x.2) (d.map (·.1)):=⟨by rw[aj,aj],λi v e=>by
  rw[aQ]at e⊢;cases j:d[i]? with
  |none=>rw[j]at e;cases e
  |some x =>
   rw[j]at e;cases e;exact⟨x.1,rfl,L x (A x (aF j))⟩⟩
 have U:Vals (d.map λx=>V.ref x.2) (d.map λx=>Value.ref x.2):=X7 (λx:List Int×Addr=>x.2) d;have hz:(1000:Nat)<=sizeLine:=by rw[a_];decide
 have a1:d.length<=1000:=by rw[G.length_eq];exact hn
 have p:∀(W:Value->Shared->Prop) (J:List Value->Shared->Prop),(∀(h1:Heap) (tk:Nat),(∀b o,s.heap.get? b=some o->h1.get? b=some o)->J (d.map λx=>Value.ref x.2) {s with heap:=h1,toks:=tk})->wpAny (model X.prog X.w) X.A.in1 (collect (.ref a)) J W s:=λW J k=>by
  refine kdu_collect (b3Q M) (show X.A.in1.handled=none from I.ok.hd hc) D (by omega) λh' tk acc kp l=>?_;have:acc.toList=d.map λx=>Value.ref x.2:=by
   refine eO λi=>?_;rw[av,aQ];by_cases hi:i<d.length
   .have hia:i<acc.size:=by rw[l.1,g];exact hi
    obtain⟨e,F,O⟩:=l.2 i acc[i] (by simp[hia]);rw[<-av,<-te,aQ,ai hi]at F;injection F with F
    rw[bD hia,ai hi,O,<-F];rfl
   .rw[c_ (by rw[l.1,g];omega),bL (by omega)];rfl
  rw[this];exact k h' tk kp
 have hl:=U.length;have TT:=a2U I K U;obtain⟨T,t1,t2,t3,t4⟩:=X6 U K.1;refine V1 p TT (λr hr=>by obtain⟨x,B,rfl⟩:=aT.mp hr;exact R x (A x B)) (by rw[aj];omega) λh1 h' os c tk k1 k2 e hp hs=>?_;obtain⟨m,p1,p2⟩:=N5 (f:=λt:Value×V×List Int=>t.1) hp t1.symm;have Y:=I.kept (t':=tk) k1;have E:∀t∈m,RelV t.2.1 t.1/\IT H t.2.1 t.2.2/\J3 s.heap t.1=t.2.2:=λt N=>by
  obtain⟨i,hi⟩:=cC.mp (p1.mem_iff.mp N);obtain⟨r1,r2,r3⟩:=t4 i t hi;obtain⟨row,q1,q2⟩:=K.2 i _ r2;rw[r3]at q1;cases q1;have e5:(d.map λx=>Value.ref x.2)[i]?=some t.1:=by rw[<-t1,aQ,hi];rfl
  obtain⟨r',b,a0,f1,f2,f3,f4⟩:=TT.2 i _ e5;rw[r3]at f1;cases f1;exact⟨r1,q2,by rw[f2];exact D8 f3 f4⟩
 have S:(m.map (·.2.1)).length<=sizeLine:=by
  have Z:=(p1.map (λt:Value×V×List Int=>t.2.1)).length_eq;rw[t2]at Z;simp only[aj]at Z⊢;omega
 have O:Vals (m.map (·.2.1)) os:=by rw[<-p2];exact P6 λt N=>(E t N).1
 have I2:=Y.laid (h':=h') (a:=h1.objs.size) (o:=.lst (m.map (·.2.1))) (t':=tk) k2 (ao _) ⟨S,os,c,O,e⟩;refine⟨.ref h1.objs.size,_,I2,rfl,q _ _ (m.map (·.2.2)) (Y.hok.fresh (ao _)) ⟨by rw[aj,aj],λi v n=>?_⟩ (by have:=p1.map (λt:Value×V×List Int=>t.2.2);rw[t3]at this;exact this.trans (G.map _)) ?_⟩
 .rw[aQ]at n⊢;cases j:m[i]? with
  |none=>rw[j]at n;cases n
  |some t =>
   rw[j]at n;cases n;exact⟨t.2.2,rfl,(E t (aF j)).2.1⟩
 .unfold J4;rw[cw];rw[<-p2,cw]at hs;refine hs.imp_of_mem λ{x y} B hy C=>?_;rw[(E x B).2.2,(E y hy).2.2]at C;exact C
variable {e:Expr}{es:List Expr}{t:TA}{p pos:Pos}
theorem b4S(K:PySem.W.Frag)(P:Program)(w:World)(j:X.A.units+60<cLine)(h:Gl X "set")(i:X.mg "set"=none)(d:JA X (e::es) t)(f:X.calm=true:=by rfl)(b:X.K=K:=by rfl)(c:X.prog=P:=by rfl)(hw:X.w=w:=by rfl)(g:starEach (e::es) X.env=(false,eval e X.env)::starEach es X.env:=by rfl)(a:(backTo pos (starEach es X.env)).any (·.1)=false:=by rfl):JE X (.Call (.Name "set" p) (e::es) [] pos) (tCB (b5F K P w) t):=⟨S0 (b0p K P w j f b c hw) h i b7H d.h (by decide) (by decide) g a⟩
theorem b2F(P:Program)(w:World)(g:Gl X "sorted")(h:X.mg "sorted"=none)(c:JA X (e::es) t)(d:X.calm=true:=by rfl)(b:X.prog=P:=by rfl)(hw:X.w=w:=by rfl)(f:starEach (e::es) X.env=(false,eval e X.env)::starEach es X.env:=by rfl)(a:(backTo pos (starEach es X.env)).any (·.1)=false:=by rfl):JE X (.Call (.Name "sorted" p) (e::es) [] pos) (tCB (b1x P w) t):=⟨E7 (a7t P w d b hw) g h a1m c.h (by decide) (by decide) f a⟩
end
end L2
namespace L2
open PySem PySem.Spec PyProof.Rows
section
variable {prog:Program}{w:World}{A:Around}{E:Value->Shared->Prop}{s:Shared}
end
section
variable {X:Cx}
variable {e:Expr}{es:List Expr}{t:TA}{p pos:Pos}
end
section
variable {X:Cx}
variable {e:Expr}{es:List Expr}{t:TA}{p pos:Pos}
end
end L2
namespace L2
open PySem PySem.Spec PyProof.Rows PySem.W
section
variable {prog:Program}{w:World}{κ:Type} [DecidableEq κ] {knd:HeapKind prog w κ}{A:Around}{E:Value->Shared->Prop}{s:Shared}
theorem b3S{d a:Addr}{xs:List (κ×Addr×Value)}{k:κ}{v:Value}{Q:Value->Shared->Prop}(t:knd.room A)(c:knd.is s.heap k a)(z:s.heap.DictOfH knd d xs)(hz:xs.length<=sizeLine)
  (h1:∀p,atKey xs k=some p->Q p.2 {s with toks:=s.toks+knd.draws k})
  (h2:atKey xs k=none->∀h',h'.DictOfH knd d (storedH xs k a v)->Heap.SameBut d s.heap h'->Q v {s with heap:=h',toks:=s.toks+knd.draws k}):wpAny (model prog w) A (dictSetDefault d (.ref a) v) Q E s:=by
 obtain⟨o,es,ep,f,u,hd,i,g,l⟩:=z;unfold dictSetDefault
 try with_reducible refine b_ ?_
 refine aa (knd.pyHash t c ?_);refine aa (wpAny_dictFind_heap (s:={s with toks:=s.toks+knd.draws k}) t c f hd i g l (λh=>?_) λj p r=>?_)
 .have hnot:k∉xs.map (·.1):=not_mem_keys_of_get h;have b:=atKey_none_of_get h;refine aa (fK (aa (wpAny_updateDictKeys (hz:=by have e:=size_of_entries i;omega) (s:={s with toks:=s.toks+knd.draws k}) f hd (ae (h2 b _ ⟨_,_,ep+1,cp _ f (Obj.isFreed_of_dict (Obj.data_mapDictKeys hd _)),u.mapDictKeys _,Obj.data_mapDictKeys hd _,?e,?k,?n⟩ (cb ..))))))
  case e =>
   rw[storedH_new b];simp[i,entryOfKey]
  case k =>
   rw[storedH_new b];intro x m;rcases aO.mp m with q|q
   .exact knd.keeps (g x q) f hd (cb ..)
   .rw[aA.mp q];exact knd.keeps c f hd (cb ..)
  case n =>
   rw[storedH_new b,bV,fS];refine⟨l,by simp,λx m y B e=>hnot ?_⟩;have:y=k:=by simpa using B
   rw[<-this,<-e];exact m
 .refine aa (eQ (s:={s with toks:=s.toks+knd.draws k}) f hd ?_);rw[entry_at i j,r];exact aa (fK (ae (h1 p (atKey_of_get l r))))
end
section
variable {prog:Program}{w:World}{κ:Type} [DecidableEq κ] (knd:HeapKind prog w κ)
theorem b1h(d a:Addr)(hd:(d==sysModules)=false)(b:Value) :
  MeetsIn prog w (Builtin.«dict.setdefault» ⟨[.ref d,.ref a,b],[]⟩) (λA R s=>knd.room A.in1/\∃k xs,knd.is s.heap k a/\s.heap.DictOfH knd d xs/\xs.length<=sizeLine /\
   (∀p,atKey xs k=some p->R (.ok (.ret p.2)) {s with toks:=s.toks+knd.draws k}) /\
   (atKey xs k=none->∀h',h'.DictOfH knd d (storedH xs k a b)->Heap.SameBut d s.heap h'->R (.ok (.ret b)) {s with heap:=h',toks:=s.toks+knd.draws k})) :=
 .of_wp λA R s ⟨j,k,xs,c,g,l,h1,h2⟩=>by
  unfold Builtin.«dict.setdefault» Builtin.Dict.keyAndDefault;refine aa (aa (wpAny_notOrdered_dict g.typeIs ?_));show wpAny _ _ (pure (d,Value.ref a,some b)) _ _ s;refine ae ?_;change wpAny _ _ (if (d==sysModules)=true then _ else(dictSetDefault d (.ref a) b>>=_)) _ _ s;rw[aq (by rw[hd];decide)];exact aa (b3S j c g l (λp i=>ae ⟨p.2,rfl,h1 p i⟩) λh h' e f=>ae ⟨b,rfl,h2 h h' e f⟩)
end
section
variable {X:Cx}{pins:List (Addr×Obj)}{σ:St}{H:Hp}{s:Shared}{a b:Addr}{z:V}{r:Value}{kvs:List (List Key×V)}{k:List Key}{A:Around}{E:Value->Shared->Prop}
theorem RelO.sdv{o:Option V}{p:Addr×Value}(h:RelO o (Option.map (·.2) (some p))):∃v,o=some v/\RelV v p.2:=by
 cases o with
 |none=>exact h.elim
 |some v=>exact⟨v,rfl,h⟩
theorem b7B{Q:Value->Shared->Prop}(F:A.units+1<cLine)(I:Inv X pins σ H s)(e:H a=some (.dT kvs))(m:H b=some (.tup (k.map kV)))(K:kvs.length<sizeLine)(J:RelV z r)
  (h1:∀v t s',J1 kvs k=some v->Inv X pins σ H s'->RelV v t->Q t s') (h2:∀s',J1 kvs k=none->Inv X pins σ (upd H a (.dT (V3 kvs k z))) s'->Q r s') :
  wpAny (model X.prog X.w) A (call (.builtin "dict.setdefault") [.ref a,.ref b,r]) Q E s:=by
 obtain⟨G,hd,xs,f,dd⟩:=b5W I.hok e;have l:xs.length<=sizeLine:=by rw[<-Paired.length f];exact G
 have g:=f.val k;have j:(V3 kvs k z).length<=sizeLine:=by have:=W1 kvs k z;omega
 refine call_meetsIn PySem.F.slot_dict_setdefault dd.typeIs PySem.F.entry_dict_setdefault (PySem.F.args_dict_setdefault_3 _ _ _) (b1h (tupleKind (E3 X.prog X.w)) a b hd r) ⟨eE F,k,xs,a1d I.hok m,dd,l,λp D=>?_,λC h' h hs=>?_⟩
 .rw[D]at g;obtain⟨v,i,u⟩:=RelO.sdv g;exact h1 v _ _ i (I.tok _) u
 .rw[C]at g;have d:J1 kvs k=none:=by
   cases i:J1 kvs k with
   |none=>rfl
   |some v=>rw[i]at g;exact g.elim
  refine h2 _ d ?_;obtain⟨q,es,ep,o,w,x,y,_,B⟩:=h;refine a4W I (by rw[e];exact True.intro) hs ⟨q,o⟩ ⟨j,hd,_,(f.put k m J).keeps λc ys n=>?_,q,es,ep,o,w,x,y,B⟩;rw[A5 (K0 n e (λz=>nomatch z))];exact n
end
def b0T(td ty tx:TE):TE:=λσ H Q=>td σ H λx H1=>∃a,x=.ref a/\IsD H1 a/\ty σ H1 λy H2=>tx σ H2 λz H3=>∃kvs k b,H3 a=some (.dT kvs)/\y=.ref b/\H3 b=some (.tup (k.map kV))/\kvs.length<sizeLine /\
 (∀v,J1 kvs k=some v->Q v H3)/\(J1 kvs k=none->Q z (upd H3 a (.dT (V3 kvs k z))))
section
variable {X:Cx}{o e f:Expr}{apos cpos:Pos}{td ty tx:TE}
theorem b1S(G:X.A.units+1<cLine)(F:PE X o td)(D:PE X e ty)(E:PE X f tx)(m:M2 X o "setdefault" apos e f cpos):PE X (.Call (.Attribute o "setdefault" apos) [e,f] [] cpos) (b0T td ty tx):=by
 intro pins s σ H Q I h;refine wpAny_Call_method m.base m.few m.line PySem.F.plainAttrs_dict PySem.F.slot_dict_setdefault PySem.F.type_dict_setdefault (thn (F pins s σ H _ I h) λu s1 ⟨x,H1,j,M,a,ex,d,K⟩=>?_);subst ex;obtain rfl:u=Value.ref a:=M;obtain⟨P,R,_⟩:=b7t j d;refine⟨P,R,?_⟩;rw[m.trees];refine fT rfl (e_ (Calls.spliced_cons (thn (D pins s1 σ H1 _ j K) λJ s2 ⟨y,H2,p,N,L⟩ =>
  Calls.spliced_cons (thn (E pins s2 σ H2 _ p L) λS T ⟨z,n,q,l,kvs,k,b,r,t,w,A,B,C⟩=>Calls.spliced_nil ?_))))
 subst t;obtain rfl:J=Value.ref b:=N;exact b7B G q r w A l (λv U O g c i=>⟨_,n,c,i,B v g⟩) λO g c=>⟨_,_,c,l,C g⟩
theorem b4W(d:X.A.units+60<cLine)(c:JE X o td)(a:JE X e ty)(b:JE X f tx)(m:M2 X o "setdefault" apos e f cpos:=by exact⟨rfl,rfl,rfl,rfl⟩):JE X (.Call (.Attribute o "setdefault" apos) [e,f] [] cpos) (b0T td ty tx):=⟨b1S (by omega) c.h a.h b.h m⟩
end
theorem b0Q{prog:Program}{w:World}{d:Addr}(hs:(d==sysModules)=false)(es:Array DictEntry)(ep:Nat)(c:Obj)(n:c.ExactDict)(hd:c.data=.dict es ep) :
  MeetsIn prog w (Builtin.«tuple.__new__» ⟨[.type "tuple",.ref d],[]⟩) (λA R s=>A.handled=none/\s.heap.get? d=some c/\es.size<=sizeLine /\
   ∀(h':Heap) (tk:Nat) (acc:Array Value),(∀b o,s.heap.get? b=some o->h'.get? b=some o)->ItemsOf (λi v=>∃e,es[i]?=some e/\v=e.key) acc es.size->R (.ok (.ret (.ref h'.objs.size))) {s with heap:=h'.push {cls:=.type "tuple",data:=.seq acc},toks:=tk}) :=
 .of_wp λA R s h=>by
  obtain⟨l,g,dd,tk,os⟩:=s;obtain⟨r,j,p,h⟩:=h;have m:=sub_tuple_self;have f:=init_tuple_lookup;have u:=madeHere_tuple;have q:Shared.TypeIs ⟨l,g,dd,tk,os⟩ (.ref d) "dict":=⟨c,j,n.1⟩;have D:DRaw l d es ep:=⟨c,j,n,hd⟩
  wp_walk using wpAny_loadPart' j,eS q,kdu_collect (a8j hs es ep) (show A.in1.handled=none from r) D p
  intro h' k acc t a;show wpAny _ _ (Builtin.Tuple.tupleExact acc.toList.toArray>>=λv=>ret v) _ _ _;unfold Builtin.Tuple.tupleExact;have e:acc.toList.toArray=acc:=by simp
  rw[e];refine aa (bt ?_ (by show acc.size<=sizeLine;rw[a.1];exact p));exact ae ⟨_,rfl,h h' k acc t a⟩
def a8k:RL:=λxs H Q=>∃(d:Addr) (kvs:List (List Key×V)) (rss:LLI),xs=[.ref d]/\H d=some (.dT kvs)/\kvs.map (·.1)=IK rss/\∀l zs,H l=none->Its H zs rss->Q (.ref l) (upd H l (.tup zs))
section
variable {X:Cx}
theorem a6z(B:X.calm=true):E2 X (.type "tuple") a8k:=by
 intro pins s σ H xs N Q I K h;obtain⟨d,kvs,rss,rfl,hd,D,q⟩:=h;obtain⟨u,rfl,J⟩:=K.one;cases J;obtain⟨M,k,c,r,G,es,ep,v,w,y,n,L⟩:=(show ObjOk X.prog X.w H s.heap d (.dT kvs)from I.hok _ _ hd);obtain⟨A,p⟩:=a8x r D;have E:kvs.length=c.length:=Paired.length r;have j:es.size=c.length:=by rw[<-ay,n,aj]
 refine callType_newIn PySem.F.called_tuple (by decide) (PySem.F.typeCall_tuple_1 _) (PySem.F.newCall_tuple_1 _) (λl=>PySem.F.args_object_init_2 l _) PySem.F.entry_tuple_new (b0Q k es ep G w y) ⟨show X.A.in1.handled=none from I.ok.hd B,v,by omega,λh' tk acc kp f=>?_⟩;have z:acc.toList=c.map λx=>Value.ref x.2.1:=by
  refine eO λi=>?_;rw[av,aQ];by_cases hi:i<c.length
  .have hia:i<acc.size:=by rw[f.1,j];exact hi
   obtain⟨e,C,F⟩:=f.2 i acc[i] (by simp[hia]);have a:es.toList[i]?=some e:=by rw[av];exact C
   rw[n,aQ,ai hi]at a;injection a with a
   rw[bD hia,ai hi,F,<-a];rfl
  .rw[c_ (by rw[f.1,j];omega),bL (by omega)];rfl
 have g:acc=(c.map λx=>Value.ref x.2.1).toArray:=by rw[<-z,Array.toArray_toList]
 have m:Inv X pins σ H {s with heap:=h',toks:=tk}:=I.kept (t':=tk) kp;have t:Inv X pins σ (upd H h'.objs.size (.tup (c.map λx=>V.ref x.2.1))) {s with heap:=h'.push {cls:=.type "tuple",data:=.seq acc},toks:=tk}:=by
  rw[g];exact m.laid (t':=tk) (λb o e=>ag _ e) (ao _) (show ObjOk X.prog X.w _ _ _ (.tup (c.map λx=>V.ref x.2.1))from⟨by rw[aj];omega,_,X7 (λx:List Key×Addr×Value=>x.2.1) c,IsTp.new _ _⟩)
 exact⟨⟨_,aD _ rfl,rfl⟩,.ref h'.objs.size,_,t,rfl,q _ _ (m.hok.fresh (ao _)) A⟩
variable {e:Expr}{es:List Expr}{t:TA}{p pos:Pos}
theorem a9X(f:Gl X "tuple")(g:X.mg "tuple"=none)(b:JA X (e::es) t)(c:X.calm=true:=by rfl)(d:starEach (e::es) X.env=(false,eval e X.env)::starEach es X.env:=by rfl)(a:(backTo pos (starEach es X.env)).any (·.1)=false:=by rfl):JE X (.Call (.Name "tuple" p) (e::es) [] pos) (tCB a8k t):=⟨S0 (a6z c) f g a0P b.h (by decide) (by decide) d a⟩
end
end L2
namespace L2
open PySem PySem.Spec PyProof.Rows
section
variable {X:Cx}{a b:Expr}{ta tb:TE}{pos:Pos}
end
theorem b0L{K:PySem.W.Frag}{src:List (Option Nat)}{σ caps:St}{Q:VK}{a:Addr}{vs:List V}{rss:LLI}{H:Hp}{te:TE}(f:List Int->List Int)(o:vs.length<=sizeLine)(b:∀H',Same H H'->SqT K H' a vs)(k:Its H vs rss)(c:B5 src σ=none::caps)
  (g:∀v r H1 (j:VK),r∈rss->IT H1 v r->Same H H1->(∀u H2,Same H1 H2->IT H2 u (f r)->j u H2)->te (some v::caps) H1 j) (hd:∀H1 p l,Same H H1->H1 p=none->Its H1 l (rss.map f)->Q (.ref p) (upd H1 p (.lst l))):J5 src (A9 0) P7 te σ Q (Itt K a) H:=by
 refine X1 (xs:=vs) (by omega) (λi ys H'=>Same H H'/\Its H' ys ((rss.take i).map f)) ⟨Same.refl H,by simpa using Its.nil⟩ (λi ys H' _ h=>⟨b H' h.1,by rw[h.2.1,aj];exact bP _ _⟩) ?_ ?_
 .rintro i x ys H' hx ⟨s,hy⟩;obtain⟨r,m,d,e⟩:=k.mem hx;show Sub _ ((B5 src σ).set 0 (some x))/\_;rw[c];refine⟨Sub.one,g x r H' _ m (e.same s) s λu H2 s2 n=>?_⟩;rw[bj,d,bV];exact⟨s.trans s2,(hy.same s2).snoc n⟩
 .rintro ys H' ⟨s,hy⟩ p hp;rw[k.1,bq]at hy;exact hd H' p ys s hp hy
theorem Its.drop{H:Hp}{vs:List V}{rss:LLI}(h:Its H vs rss)(n:Nat):Its H (vs.drop n) (rss.drop n):=by
 refine⟨by rw[cq,cq,h.1],λi v e=>?_⟩;rw[fB]at e⊢;exact h.2 _ v e
theorem Its.app{H:Hp}{vs b:List V}{rss a:LLI}(h:Its H vs rss)(g:Its H b a):Its H (vs++b) (rss++a):=by
 refine⟨by rw[ax,ax,h.1,g.1],λi v e=>?_⟩;rcases Nat.lt_or_ge i vs.length with hi|hi
 .rw[br hi]at e;rw[br (by rw[<-h.1];exact hi)];exact h.2 i v e
 .rw[aX hi]at e;rw[aX (by rw[<-h.1];exact hi),<-h.1];exact g.2 _ v e
theorem Its.one{H:Hp}{v:V}{r:List Int}(h:IT H v r):Its H [v] [r]:=Its.nil.snoc h
theorem b8O{xs:List V}{n:Nat}(h:n<=xs.length):P5 xs none (some (n:Int))=xs.take n:=by
 unfold P5;rw[HT.sIx_none,HT.sIx_nat,dO h,df,Nat.sub_zero]
structure Srt(rss srt:LLI):Prop where
 ri:J4 srt
 nd:srt.Nodup
 mem:∀r,r∈srt↔r∈rss
end L2
namespace L2
open PySem PySem.Spec PyProof.Rows PySem.Builtin PySem.Builtin.Str PySem.StrLaws
section
variable {X:Cx}
end
section
variable {X:Cx}
end
end L2
namespace L2
open PySem PySem.Spec PyProof.Rows PySem.NumText
section
variable {X:Cx}{e:Expr}{t:TA}{p pos:Pos}
end
section
variable {X:Cx}{o e:Expr}{es:List Expr}{to:TE}{t:TA}{apos cpos:Pos}
end
end L2
namespace L2
open PySem PySem.Spec PyProof.Rows
section
variable {X:Cx}{tg:Expr}
end
section
variable {prog:Program}{w:World}{A:Around}{E:Value->Shared->Prop}{s:Shared}
end
section
variable {M:Model}{A:Around}{E:Value->Shared->Prop}{s:Shared}{env:Env}
end
section
variable {X:Cx}
end
section
variable {X:Cx}{a b c e o i:Expr}{ta tb tc td ty te tv:TE}{t:TA}{p pos:Pos}
theorem b7q(b:X.A.units+60<cLine)(a:JE X o td)(hi:JE X i ty)(hs:b7T i:=by intro _ _;rfl):JE X (.Subscript o i pos) (b5y td ty):=⟨b4v (by omega) a.h hi.h hs⟩
end
section
variable {X:Cx}{pos:Pos}{k v:Expr}{ks:List (Option Expr)}{vs:List Expr}{tk tv:TE}{trs:List (TE×TE)}
end
section
open PySem.SeqAt
open PySem.AutoSeq1 (wpAny_loadPart')
open PySem.MeetsSeq PySem.MeetsSeq2 PySem.MeetsSeq3
end
section
variable {X:Cx}{pins:List (Addr×Obj)}{σ:St}{H:Hp}{s:Shared}
end
section
variable {prog:Program}{w:World}{A:Around}{I l S:Addr}{vs:List Value}{kw:List (Str×Value)}{R:Result->Shared->Prop}{h₀:Heap}{s:Shared}
def M4(h h':Heap):Prop:=∀b o,h.get? b=some o->h'.get? b=some o
end
section
variable {prog:Program}{w:World}{A:Around}{E:Value->Shared->Prop}{s:Shared}
end
section
variable {X:Cx}{e:Expr}{t:TA}{p pos kp np:Pos}{nk:Nat}
end
section
variable {X:Cx}{e:Expr}{te:TE}{pos p2:Pos}
end
section
variable {prog:Program}{w:World}{A:Around}{I l S:Addr}{vs:List Value}{kw:List (Str×Value)}{R:Result->Shared->Prop}{h₀:Heap}{s:Shared}
end
section
variable {prog:Program}{w:World}{A:Around}{E:Value->Shared->Prop}{s:Shared}
end
section
variable {X:Cx}{e:Expr}{t:TA}{p pos kp np:Pos}{nk:Nat}{d:Int}
end
open PySem.AutoSeq1 (wpAny_loadPart')
section
variable {prog:Program}{w:World}{A:Around}{E:Value->Shared->Prop}{s:Shared}
end
section
variable {X:Cx}{e:Expr}{es:List Expr}{t:TA}{p pos:Pos}
end
end L2
namespace L2
open PySem PySem.Spec PyProof.Rows
def b2R(items:Array Value)(x:Value)(i:Nat)(_:Option Fin×Unit):Sem (ForInStep (Option Fin×Unit)) :=
 match items[i]? with
 |some y=>do
  let b <-eqBool y x
  if b=true then do
    let r <-retInt (i:Int)
    pure (ForInStep.done (some r,()))
   else pure (ForInStep.yield (none,()))
 |x=>pure (ForInStep.yield (none,()))
theorem a8F{prog:Program}{w:World}{B:Around}{E:Value->Shared->Prop}{s:Shared}{items:Array Value}{x:Value}{f:Nat->Bool}{k:Nat}{Q:(Option Fin×Unit)->Shared->Prop}(n:k<items.size)(a:f k=true)(i:∀j,j<k->f j=false)(c:∀j y,items[j]?=some y->SeqAt.EqAt B s y x (f j))
  (q:Q (some (Fin.done (.ret (.int k s.toks))),()) {s with toks:=s.toks+1}):∀m j,j+m=items.size->j<=k->wpAny (model prog w) B (forIn (List.range' j m) ((none:Option Fin),()) (b2R items x)) Q E s
 |0,j,h,l=>by omega
 |m+1,j,h,l=>by
  rw[List.range'_succ,gd];have b:j<items.size:=by omega
  have hi:items[j]?=some items[j]:=by simp[b]
  refine aa ?_;unfold b2R;rw[hi];refine aa (c j _ hi prog w _ _ ?_);by_cases e:j=k
  .subst e;rw[a];obtain⟨o,g,d,tk,os⟩:=s
   wp_walk
   exact q
  .rw[i j (by omega)];refine ae ?_;exact a8F n a i c q m (j+1) (by omega) (by omega)
theorem b2O(l:Addr)(items:Array Value)(n:Nat)(dd:Option Addr)(sl:Array (Option Value))(x:Value)(f:Nat->Bool)(k:Nat)(i:k<items.size)(a:f k=true)(c:∀j,j<k->f j=false) :
  Meets (Builtin.«tuple.index» ⟨[.ref l,x],[]⟩)
   (λA R s=>s.heap.get? l=some {cls:=.type "tuple",dict:=dd,data:=.seq items n,slots:=sl}/\(∀j y,items[j]?=some y->SeqAt.EqAt A.in1 s y x (f j))/\R (.ok (.ret (.int k s.toks))) {s with toks:=s.toks+1}):=by
 intro prog w A R s h;obtain⟨o,g,d,tk,os⟩:=s;obtain⟨m,b,h⟩:=h;unfold Builtin.«tuple.index»;simp only[Std.Legacy.Range.forIn_eq_forIn_range',Std.Legacy.Range.size]
 wp_walk using PySem.AutoSeq1.wpAny_loadPart' m
 have e:(min items.size items.size-0+1-1) / 1=items.size:=by simp
 rw[e];refine a8F i a c b ?_ items.size 0 (by omega) (bp _);exact ae h
def a6X(K:PySem.W.Frag):V->List V->Hp->VK->Prop:=λx vs H Q=>∃(a:Addr) (xs:List V) (y:V) (n:Nat) (f:Nat->Bool) (k:Nat),x=.ref a/\vs=[y]/\H a=some (.tup xs)/\n<=8/\(∀j z,xs[j]?=some z->EqV K H n z y (f j))/\k<xs.length/\f k=true/\(∀j,j<k->f j=false)/\Q (.int k) H
section
variable {X:Cx}
theorem b2p(J:X.A.units+60<cLine):MtM X "tuple.index" (a6X X.K):=by
 intro pins s σ H x vs v K Q I E D h;obtain⟨a,xs,y,n,f,k,rfl,rfl,p,G,w,B,e,A,q⟩:=h;cases E;obtain⟨u,rfl,C⟩:=a3A D;obtain⟨z,its,r,o,l,t,m,hd⟩:=(show ObjOk X.prog X.w H s.heap a (.tup xs)from I.hok a _ p);obtain⟨cls,dd,data,sl⟩:=o;have d:cls=.type "tuple":=aL Prod.fst t;simp only at hd;subst d hd;have b:=r.length;refine dn PySem.F.slot_tuple_index ⟨_,l,rfl⟩ PySem.F.entry_tuple_index (PySem.F.args_tuple_index_2 _ _) (b2O a its.toArray m dd sl u f k (by rw[aB,<-b];exact B) e A) ⟨l,λj F c=>?_,.int k,H,I.tok _,⟨_,rfl⟩,q⟩;have c:its[j]?=some F:=by simpa using c
 have i:j<xs.length:=by rw[b];exact(aH.mp c).1
 obtain⟨L,hw,g⟩:=r.get (ai i);rw[c]at hw;cases hw;exact EqV.at I (w j _ (ai i)) (by show X.A.units+1+n<cLine;omega) g C
def b8i(r:V->List V->Hp->VK->Prop)(to:TE)(t:TA):TE:=λσ H Q=>to σ H λx H1=>(∃a xs,x=.ref a/\H1 a=some (.tup xs))/\t σ H1 λvs H2=>r x vs H2 Q
variable {o e:Expr}{es:List Expr}{to:TE}{t:TA}{name:Str}{apos cpos pos:Pos}{id:String}{r:V->List V->Hp->VK->Prop}
theorem b6N(j:Slot "tuple" name id)(l:typeOf (.builtin id)=pure (.type "method_descriptor"))(B:MtM X id r)(C:PE X o to)(A:PA X (e::es) t)
  (d:attributeBase o name X.env (eval o X.env)=eval o X.env:=by rfl)
  (g:((backTo cpos (starEach (e::es) X.env)).all (λx=>!x.1) && (backToKw cpos (keywordEach [] X.env)).all (λx=>x.1.isSome)
   && decide ((e::es).length+([]:List Keyword).length+(if ([]:List Keyword).isEmpty then 0 else 1)<30))=true:=by rfl)
  (f:(apos.endLine==cpos.line)=true:=by rfl) (hs:starEach (e::es) X.env=(false,eval e X.env)::starEach es X.env:=by rfl) (c:(backTo cpos (starEach es X.env)).any (·.1)=false:=by rfl) :
  PE X (.Call (.Attribute o name apos) (e::es) [] cpos) (b8i r to t):=by
 intro pins s σ H Q I h;refine wpAny_Call_method_late d g f rfl (thn (C pins s σ H _ I h) λv s1 ⟨x,H1,n,G,⟨a,xs,D,k⟩,E⟩=>?_);subst D;cases G;obtain⟨z,its,rr,u,i,q,m,hd⟩:=(show ObjOk X.prog X.w H1 s1.heap a (.tup xs)from n.hok a _ k);refine⟨"tuple",id,PySem.F.plainAttrs_tuple,j,l,⟨u,i,aL Prod.fst q⟩,(λb y=>by cases y;exact⟨u,i,aL Prod.snd q⟩),?_⟩;have p:=A cpos pins s1 σ H1 _ n E;rw[hs]at p⊢;refine fT (by show(false || (backTo cpos (starEach es X.env)).any (·.1))=false;rw[c]<;>rfl) (e_ ?_);exact thn p λK s2 ⟨vs,H2,w,J,F⟩=>B pins s2 σ H2 (.ref a) vs (.ref a) K Q w rfl J F
theorem a9W(K:PySem.W.Frag)(i:X.A.units+60<cLine)(h:JE X o to)(g:JA X (e::es) t)(f:X.K=K:=by rfl)(b:attributeBase o "index" X.env (eval o X.env)=eval o X.env:=by rfl)
  (d:((backTo cpos (starEach (e::es) X.env)).all (λx=>!x.1) && (backToKw cpos (keywordEach [] X.env)).all (λx=>x.1.isSome) && decide ((e::es).length+([]:List Keyword).length+(if ([]:List Keyword).isEmpty then 0 else 1)<30))=true:=by rfl)
  (c:(apos.endLine==cpos.line)=true:=by rfl) (hs:starEach (e::es) X.env=(false,eval e X.env)::starEach es X.env:=by rfl) (a:(backTo cpos (starEach es X.env)).any (·.1)=false:=by rfl) :
  JE X (.Call (.Attribute o "index" apos) (e::es) [] cpos) (b8i (a6X K) to t):=by
 subst f;exact⟨b6N PySem.F.slot_tuple_index PySem.F.type_tuple_index (b2p i) h.h g.h b d c hs a⟩
end
end L2
namespace K34
open PySem PySem.Spec PyProof.Rows L2
noncomputable def top(i:Nat):Stmt:=PySem.Challenge.pw_leastlays_k34_narrowed_by_all_or_none.main.body.getD i (.Pass ⟨0,0,0,0⟩)
noncomputable abbrev a4C:Stmt:=top 1
noncomputable abbrev a0v:Stmt:=top 2
noncomputable abbrev X9:Stmt:=top 7
noncomputable abbrev a4A:Stmt:=top 8
noncomputable abbrev P9:Stmt:=top 9
noncomputable abbrev Y0:Stmt:=top 10
noncomputable abbrev a1T:Stmt:=top 11
noncomputable abbrev a1U:Stmt:=top 13
noncomputable abbrev a4B:Stmt:=top 14
noncomputable abbrev a1Q:Stmt:=top 15
noncomputable abbrev a0x:Stmt:=top 16
noncomputable abbrev a4z:Stmt:=top 17
noncomputable abbrev S8:Stmt:=top 18
noncomputable abbrev Q0:Stmt:=top 19
noncomputable abbrev L9:Stmt:=top 21
noncomputable abbrev a0w:Stmt:=top 22
noncomputable abbrev a1R:Stmt:=top 23
noncomputable abbrev P8:Stmt:=top 25
noncomputable abbrev M9:Stmt:=top 26
noncomputable abbrev a1S:Stmt:=top 28
noncomputable abbrev S6:Stmt:=top 30
noncomputable abbrev S7:Stmt:=top 32
noncomputable abbrev S9:Stmt:=top 34
noncomputable abbrev Q5:Stmt:=top 35
noncomputable abbrev K4:Stmt:=top 36
noncomputable abbrev N2:Stmt:=top 37
noncomputable abbrev N1:Stmt:=top 38
noncomputable abbrev Q6:Stmt:=top 39
noncomputable abbrev Q3:Stmt:=top 40
noncomputable abbrev K5:Stmt:=top 41
noncomputable abbrev N0:Stmt:=top 42
noncomputable abbrev a2s:Stmt:=top 43
noncomputable abbrev E9:Stmt:=U4 (top 27) 0
noncomputable abbrev a0a:Stmt:=U4 (top 27) 1
noncomputable abbrev C9:Stmt:=U4 (top 27) 2
noncomputable abbrev V7:Stmt:=U4 (top 27) 3
noncomputable abbrev M0:Stmt:=U4 (top 27) 4
noncomputable abbrev K6:Stmt:=U4 (top 27) 5
noncomputable abbrev K7:Stmt:=U4 (top 27) 6
structure Tx(mg:Str->Option Value):Prop where
 b_ValueError:mg "ValueError"=none
 b_abs:mg "abs"=none
 b_all:mg "all"=none
 b_any:mg "any"=none
 b_bool:mg "bool"=none
 b_int:mg "int"=none
 b_isinstance:mg "isinstance"=none
 b_len:mg "len"=none
 b_list:mg "list"=none
 b_max:mg "max"=none
 b_min:mg "min"=none
 b_range:mg "range"=none
 b_set:mg "set"=none
 b_sorted:mg "sorted"=none
 b_sum:mg "sum"=none
 b_tuple:mg "tuple"=none
 b_zip:mg "zip"=none
structure PotAt(H:Hp)(a b:Addr)(n:Nat):Prop where
 ne:a≠b
 ex:∃(cs:List Int) (t k:Int),H a=some (.lst [.ref b,.int t])/\H b=some (.lst (cs.map V.int))/\cs.length<=63/\(∀c∈cs,0<=c)/\0<=t/\t<2 ^ 61/\0<=k/\k<=n
theorem PotAt.same{H H':Hp}{a b:Addr}{n:Nat}(h:PotAt H a b n)(s:Same H H'):PotAt H' a b n:=by
 obtain⟨ne,c,t,k,h1,h2,d⟩:=h;exact⟨ne,c,t,k,s _ _ h1,s _ _ h2,d⟩
theorem PotAt.mono{H:Hp}{a b:Addr}{n m:Nat}(h:PotAt H a b n)(l:n<=m):PotAt H a b m:=by
 obtain⟨ne,c,t,k,h1,h2,d,e,f,g,i,j⟩:=h;exact⟨ne,c,t,k,h1,h2,d,e,f,g,i,by omega⟩
theorem a8W{ns:List Int}{hi:Option Int}{i:Nat}{x:V}(h:(P5 (ns.map V.int) none hi)[i]?=some x):∃z,x=V.int z:=by
 unfold P5 at h;have b:=aF h;have a:=dq (cm b);obtain⟨z,_,e⟩:=aT.mp a;exact⟨z,e.symm⟩
theorem b5i{ns:List Int}{hi:Option Int}:(P5 (ns.map V.int) none hi).length<=ns.length:=by
 have:=W9 (ns.map V.int) none hi;rwa[aj]at this
section
variable {P:Program}{w:World}{K:PySem.W.Frag}{mg:Str->Option Value}{base:Heap}
inductive IspPot(K:PySem.W.Frag)(vs:List V)(H:Hp)(Q:VK)(E:XK):Prop
 |mk (a:Addr) (ns:List Int) (_:vs=[.ref a]) (_:SqL K H a (ns.map V.int)) (_:ns.length<=63) (_:∀p b H',H p=none->H b=none->PotAt H' p b 0->Same H H'->Q (.ref p) H'):IspPot K vs H Q E
def b5C(K:PySem.W.Frag):Sp:=λvs H Q E=>IspPot K vs H Q E
theorem sc__law_pot:FnScope ["_law_script","_law_seed","_law_cell"] ["_law_script"] (A4 S9):=⟨rfl,rfl,rfl,by decide +kernel,rfl,by decide +kernel,by decide +kernel⟩
theorem b7a(F:FunAt K mg "_law_pot" S9 ["_law_script"])(T:Tx mg):Ok P w K mg base "_law_pot" 1 ["_law_script"] (b5C K):=by
 refine F.okJ sc__law_pot (λvs H Q E h=>?_) (λy f A m s H vs Q E G h=>?_)
 .obtain⟨a,ns,rfl,_⟩:=h;rfl
 .obtain⟨a,ns,rfl,hS,hl,k⟩:=h;refine⟨_,(A3 (B3 (i:=1) sc__law_pot.nd rfl (Or.inl rfl) A2)
 (A3 (L0 (D6 K (b5S K (jv 0) a0F (a0E A2))) (A7 (i:=2) sc__law_pot.nd rfl (Or.inl rfl))
 (A8 (B3 (i:=1) sc__law_pot.nd rfl (Or.inl rfl) (a1A (L3 (L3 (Q9 (jv 1) A2) (a1A (jv 2) (a2T A2 A2))) A2) A2))))
 (A8 (B2 (I9 (jaC (B7 (N:=["_law_cell"]) (src:=[none]) (D6 K (b5S K (jv 0) a0F (a0E A2))) (by show C0 _ _=true;rfl) (by rfl) (by rfl)
 (λ_ _ _ _ _=>(A7 (i:=0) (show(["_law_cell"]:List Str).Nodup by decide +kernel) rfl (Or.inl rfl))) (λ_ _ _ _ _=>(a2Q (b8G (b2I rfl T.b_abs (jaC (jv 0) jaN)) (a2T A2 A2)))) (λ_ _ _ _ _=>(b2I rfl T.b_abs (jaC (jv 0) jaN)))) (jaC (jv 1) jaN))))))),?_⟩
  refine⟨_,rfl,63,rfl,a,_,rfl,hS,λp C=>?_⟩;refine⟨p,rfl,⟨_,SqL.of A1⟩,?_⟩;refine O7 (K:=K) (a:=p) (xs:=P5 (ns.map V.int) none (some 63)) (λi σ H2=>Ex2 λ(t:Int) (v:Option V)=>An4 (σ=[some (.ref a),some (.int t),v]) (0<=t) (t<2 ^ 61) (H2=upd H p (.lst (P5 (ns.map V.int) none (some 63)))))
   ⟨29,none,rfl,by decide,by decide,rfl⟩ (λi σ H2 _ ⟨_,_,_,_,_,e⟩=>by rw[e];exact SqL.of A1) ?_ ?_
  .rintro i x σ H2 hx ⟨t,v,rfl,h0,h1,rfl⟩;obtain⟨z,rfl⟩:=a8W hx;dsimp only[A9];refine⟨_,rfl,_,_,rfl,rfl,.inl ⟨by omega,by omega⟩,_,rfl,_,_,rfl,rfl,⟨by decide,by decide,by decide⟩,_,_,rfl,rfl,(show(0:Int)<10 ^ Int.toNat 30 by decide),_,_,rfl,rfl,_,_,rfl,rfl,_,_,rfl,rfl,(show(0:Int)<2305843009213693951 by decide),?_⟩;refine⟨_,_,rfl,dP _ (by decide),?_,rfl⟩;have:=dh (t*6364136223846793005+z % 10 ^ Int.toNat 30+1442695040888963407) (show(0:Int)<2305843009213693951 by decide);omega
  .rintro σ H2 ⟨t,v,rfl,h0,h1,rfl⟩;have n:Same H (upd H p (.lst (P5 (ns.map V.int) none (some 63)))):=(Same.refl H).upd C;generalize upd H p (.lst (P5 (ns.map V.int) none (some 63)))=H1 at n;refine⟨_,rfl,63,rfl,a,_,rfl,n.seq hS,λp2 l=>?_⟩;have s2:Same H (upd H1 p2 (.lst (P5 (ns.map V.int) none (some 63)))):=n.upd l;refine⟨p2,rfl,⟨_,SqL.of A1⟩,?_⟩;have r:(1000:Nat)<=sizeLine:=by rw[a_];decide
   have hcl:=b5i (ns:=ns) (hi:=some 63);refine L7 (K:=K) (a:=p2) (xs:=P5 (ns.map V.int) none (some 63)) (by omega) (λi ys g=>g=upd H1 p2 (.lst (P5 (ns.map V.int) none (some 63)))/\ys.length<=i/\∃b:List Int,ys=b.map V.int/\∀c∈b,0<=c)
    ⟨rfl,ao _,[],rfl,λ_ h=>nomatch h⟩ (λi ys g _ ⟨e,B,_⟩=>⟨by rw[e];exact SqL.of A1,B⟩) ?_ ?_
   .rintro i x ys g hx ⟨rfl,hy,b,rfl,hc⟩;obtain⟨z,rfl⟩:=a8W hx;refine⟨Sub.one,?_⟩;refine⟨_,rfl,z,rfl,_,_,rfl,rfl,⟨by decide,by decide,by decide⟩,_,_,rfl,rfl,_,rfl,a4Q (λr=>?_) (λr=>?_)⟩
    .refine⟨_,rfl,z,rfl,rfl,by rw[ax];simpa using hy,b++[if z<0 then -z else z],by simp,λc j=>?_⟩;rcases aO.mp j with q|q
     .exact hc c q
     .rw[aA.mp q];split<;>omega
    .exact⟨rfl,by omega,b,rfl,hc⟩
   .rintro ys g ⟨rfl,hy,b,rfl,hc⟩ p3 hp3;refine⟨_,rfl,by show 2<=sizeLine;omega,λD d=>?_⟩;have u:=s2.upd (o:=.lst (b.map V.int)) hp3;refine k D p3 _ (u.free d) (s2.free hp3) ⟨?_,b,t,0,A1,?_,?_,hc,h0,h1,by decide,by decide⟩ (u.upd d)
    .exact(A6 (o:=.lst (b.map V.int)) A1 d).symm
    .exact C8 A1 d
    .rw[aj]at hy;omega
theorem at0{x y:V}:atI [x,y] 0=some x:=rfl
theorem at1{x y:V}:atI [x,y] 1=some y:=rfl
theorem atc{x:V}{xs:List V}:atI (x::xs) 0=some x:=a5d (j:=0) rfl
theorem b9b{x:Int}{xs:List Int}:ixN ((x::xs).map V.int).length 0=some 0:=by
 rw[aj,aN];unfold ixN;rw[az (by decide),az (by omega)];rfl
inductive IspTake(vs:List V)(H:Hp)(Q:VK)(E:XK):Prop
 |mk (a b:Addr) (n:Nat) (m:Int) (_:vs=[.ref a,.int m]) (_:PotAt H a b n) (_:n<2 ^ 60) (_:0<m) (_:m<2 ^ 60) (_:∀r H',0<=r->r<m->PotAt H' a b (n+1)->Off [a,b] H H'->Q (.int r) H'):IspTake  vs H Q E
def a4o:Sp:=λvs H Q E=>IspTake  vs H Q E
theorem sc__law_take:FnScope ["_law_pot_here","_law_many","_law_number","_law_mixed"] ["_law_pot_here","_law_many"] (A4 Q5):=⟨rfl,rfl,rfl,by decide +kernel,rfl,by decide +kernel,by decide +kernel⟩
theorem b4H(F:FunAt K mg "_law_take" Q5 ["_law_pot_here","_law_many"])(T:Tx mg):Ok P w K mg base "_law_take" 1 ["_law_pot_here","_law_many"] a4o:=by
 refine F.okJ sc__law_take (λvs H Q E h=>?_) (λL f A J s H vs Q E N h=>?_)
 .obtain⟨a,b,n,m,rfl,_⟩:=h;rfl
 .obtain⟨a,b,n,m,rfl,⟨ne,cs,t,k,ha,hb,hlen,hpos,ht0,ht1,hk0,hk1⟩,hn,hm0,hm1,kk⟩:=h;have O:=N.u60;refine⟨_,(A3 (K1 (b7k K O (E8 K (jv 0) A2) (I9 jaN))
 (A3 (B3 (i:=2) sc__law_take.nd rfl (Or.inl rfl) (E8 K (E8 K (jv 0) A2) A2))
 (A3 (a1e (b4V (jv 2) (jv 1)) (a2P (E8 K (jv 0) A2) A2))
 (A3 (K1 (a8z (E8 K (E8 K (jv 0) A2) A2) A2)
 (A8 (U0 (b2D K (E8 K (jv 0) A2) (jaC A2 jaN))))
 E4)
 (A8 (B2 (a1A (jv 2) (jv 1)))))))
 E4)
 (A3 (a1e (a1A (L3 (Q9 (E8 K (jv 0) A2) A2) A2) A2) (a2P (jv 0) A2))
 (A3 (B3 (i:=3) sc__law_take.nd rfl (Or.inl rfl) (a1A (Q9 (L3 (a1A (E8 K (jv 0) A2) A2) A2) (L3 (b2M (E8 K (jv 0) A2) A2) A2)) A2))
 (A8 (B2 (a1A (b2M (jv 3) A2) (jv 1))))))),?_⟩
  refine b7Z (b:=b) (cs:=cs) (λS q=>ixL (var rfl) con ha at0 q) hb λp D=>?_;have j:=C8 (o:=.lst []) ha D;have r:=C8 (o:=.lst []) hb D;have l:Off [a,b] H (upd H p (.lst [])):=(Off.refl _ _).upd D;generalize upd H p (.lst [])=H1 at j r l;cases cs with
  |nil =>
   refine L5 ?_;refine⟨_,rfl,a,_,1,_,rfl,rfl,SqL.of j,at1,_,_,rfl,rfl,.inl ⟨by omega,by omega⟩,_,_,rfl,rfl,_,_,rfl,rfl,(show(0:Int)<2305843009213693951 by decide),?_⟩;dsimp only;generalize v:(t*3935559000370003845+2691343689449507681) % 2305843009213693951=x;have I:0<=x:=by rw[<-v];exact dP _ (by decide)
   have R:x<2305843009213693951:=by rw[<-v];exact dh _ (by decide)
   refine⟨_,rfl,a,_,1,1,rfl,rfl,j,rfl,?_⟩;have y:PotAt (upd H1 a (.lst [.ref b,.int x])) a b (n+1):=⟨ne,[],x,0,A1,by rw[A5 ne.symm];exact r,by decide,(λ_ z=>nomatch z),I,by omega,by decide,by omega⟩;have g:Off [a,b] H (upd H1 a (.lst [.ref b,.int x])):=l.set (by simp);have d:upd H1 a (.lst [.ref b,.int x]) a=some (.lst [.ref b,.int x]):=A1;dsimp only[List.set_cons_succ,List.set_cons_zero];generalize upd H1 a (.lst [.ref b,.int x])=H2 at y g d⊢;have U:0<=x % 1000000007:=dP _ (by decide);have W:x % 1000000007<1000000007:=dh _ (by decide);refine⟨_,rfl,a,_,1,_,rfl,rfl,SqL.of d,at1,_,_,rfl,rfl,(show(0:Int)<1000000007 by decide),_,_,rfl,rfl,_,rfl,a,_,1,_,rfl,rfl,SqL.of d,at1,_,_,rfl,rfl,⟨by decide,by decide⟩,_,_,rfl,rfl,_,_,rfl,rfl,.inl ⟨by omega,by omega⟩,_,_,rfl,rfl,(show(0:Int)<2305843009213693921 by decide),?_⟩;dsimp only[A9];refine⟨_,rfl,_,_,rfl,rfl,⟨by decide,by decide⟩,_,rfl,_,_,rfl,rfl,hm0,?_⟩;exact kk _ _ (dP _ (by omega)) (dh _ hm0) y g
  |cons c cs =>
   refine W4 ?_;have C:0<=c:=hpos c au;have M:cs.length+1<=63:=hlen;refine⟨_,rfl,a,_,0,_,rfl,rfl,SqL.of j,at0,b,_,0,_,rfl,rfl,SqL.of r,atc,?_⟩;dsimp only[A9];refine⟨_,rfl,_,rfl,_,_,rfl,rfl,⟨hm0,by omega⟩,?_⟩;refine⟨_,rfl,a,_,0,_,rfl,rfl,SqL.of j,at0,b,_,0,0,rfl,rfl,r,b9b,?_⟩;have G:0<=c / m:=Int.ediv_nonneg C (by omega);dsimp only;generalize B:upd H1 b _=H2;have u:H2 b=some (.lst ((c / m::cs).map V.int)):=by rw[<-B];exact A1
   have d:H2 a=some (.lst [.ref b,.int t]):=by rw[<-B,A5 ne];exact j
   have g:Off [a,b] H H2:=by rw[<-B];exact l.set (by simp)
   refine a1P (λσ H'=>Ex1 λo=>An3 (σ=[some (.ref a),some (.int m),some (.int c),o]) (PotAt H' a b (n+1)) (Off [a,b] H H')) ?fin λfin=>?_
   case fin =>
    rintro σ H' ⟨o,rfl,y,off⟩;refine⟨_,rfl,_,rfl,_,_,rfl,rfl,hm0,?_⟩;exact kk _ _ (dP _ (by omega)) (dh _ hm0) y off
   refine⟨_,rfl,a,_,0,_,rfl,rfl,SqL.of d,at0,b,_,0,_,rfl,rfl,SqL.of u,atc,rfl,_,rfl,a4Q (λe=>?_) (λe=>?_)⟩
   .refine⟨_,rfl,a,_,0,_,rfl,rfl,SqL.of d,at0,.inl ⟨rfl,_,SqL.of u⟩,b,_,0,0,_,rfl,rfl,u,by decide,by decide,seqIndex_of (by decide) (by simp),rfl,?_⟩;exact fin _ _ ⟨none,rfl,⟨ne,cs,t,0,by rw[A5 ne];exact d,A1,by omega,λx v=>hpos x (ar _ v),ht0,ht1,by decide,by omega⟩,g.set (by simp)⟩
   .refine fin _ _ ⟨none,rfl,⟨ne,c / m::cs,t,0,d,u,hlen,λx v=>?_,ht0,ht1,by decide,by omega⟩,g⟩;rcases aE.mp v with rfl|v
    .exact G
    .exact hpos x (ar _ v)
end
theorem U8{ns:List Int}{k:Nat}(h:k<ns.length):atI (ns.map V.int) (k:Int)=some (.int (ns.getD k 0)):=by
 refine a5d ?_;rw[aQ,ai h];simp[ak,h]
theorem b5M{H:Hp}{a b:Addr}{n:Nat}(h:PotAt H a b n){c:Addr}{xs:List V}(d:H c=some (.tup xs)):c∉[a,b]:=by
 obtain⟨_,e,t,k,h1,h2,_⟩:=h;simp only[aE,bz,cN,not_or];exact⟨K0 d h1 (by intro z;cases z),K0 d h2 (by intro z;cases z)⟩
theorem IT.off{H H':Hp}{v:V}{ns:List Int}{a b:Addr}{n:Nat}(h:IT H v ns)(d:PotAt H a b n)(o:Off [a,b] H H'):IT H' v ns:=by
 obtain⟨c,e,q⟩:=h;exact⟨c,e,o c _ (b5M d q) q⟩
theorem sqt{K:PySem.W.Frag}{H:Hp}{a:Addr}{xs:List V}(h:H a=some (.tup xs)):SqK true K H a xs:=SqT.of h
noncomputable def Bel(xs ys:List Int):Bool:=(List.zipWith (λa b=>decide (a<=b)) xs ys).all id
theorem b7V(xs ys:List Int):(List.zipWith (λa b=>V.bl (decide (a<=b))) xs ys).all trV=Bel xs ys:=by
 unfold Bel;induction xs generalizing ys with
 |nil=>rfl
 |cons x xs c =>
  cases ys with
  |nil=>rfl
  |cons y ys=>simp only[aY,cU,c ys];rfl
theorem a4i{γ:Type}(f:Int->Int->Int)(g:Int->γ):∀xs ys:List Int,List.zipWith (λa b=>g (f a b)) xs ys=(List.zipWith f xs ys).map g
 |[],_=>rfl
 |_::_,[]=>rfl
 |x::xs,y::ys=>by rw[aY,aY,aP,a4i f g xs ys]
section
variable {P:Program}{w:World}{K:PySem.W.Frag}{mg:Str->Option Value}{base:Heap}
end
theorem W7(n:Nat):(List.replicate n [V.int 0]).flatten=(List.replicate n (0:Int)).map V.int:=by
 induction n with
 |zero=>rfl
 |succ n a=>rw[bH,cP,a,bH];rfl
noncomputable def dot(xs ys:List Int):Int:=(List.zipWith (λa b=>a*b) xs ys).sum
noncomputable def Ans(rss:LLI)(ys:List Int):Bool:=rss.all λr=>decide (dot r ys=0)
def Sm(ys:List Int):Prop:=∀z∈ys,-2 ^ 64<z/\z<2 ^ 64
section
variable {P:Program}{w:World}{K:PySem.W.Frag}{mg:Str->Option Value}{base:Heap}
inductive IspRowSum(vs:List V)(H:Hp)(Q:VK)(E:XK):Prop
 |mk (x:_) (y:_) (xs:_) (ys:_) (_:vs=[x,y]) (_:IT H x xs) (_:IT H y ys) (_:xs.length<=1000) (_:Sm ys) (_:∀H',Same H H'->Q (.int (dot xs ys)) H'):IspRowSum  vs H Q E
def a2o:Sp:=λvs H Q E=>IspRowSum  vs H Q E
theorem a6S:FnScope ["row","one"] ["row","one"] (A4 X9):=⟨rfl,rfl,rfl,by decide +kernel,rfl,by decide +kernel,by decide +kernel⟩
theorem a7d(F:FunAt K mg "row_sum" X9 ["row","one"])(T:Tx mg):Ok P w K mg base "row_sum" 1 ["row","one"] a2o:=by
 refine F.okJ a6S (λvs H Q E h=>?_) (λd f A c s H vs Q E l h=>?_)
 .obtain⟨x,y,xs,ys,rfl,_⟩:=h;rfl
 .obtain⟨_,_,xs,ys,rfl,⟨a,rfl,ha⟩,⟨b,rfl,hb⟩,hl,hs,k⟩:=h;refine⟨_,(A8 (B2 (b2E K rfl T.b_sum (jaC (B7 (N:=["a","b"]) (src:=[none,none]) (a0i K rfl T.b_zip (jaC (jv 0) (jaC (jv 1) jaN))) (by show C0 _ _=true;rfl) (by rfl) (by rfl)
 (λ_ _ _ _ _=>(U3 K 2 (C1 (A7 (i:=0) (show(["a","b"]:List Str).Nodup by decide +kernel) rfl (Or.inl rfl)) (C1 (A7 (i:=1) (show(["a","b"]:List Str).Nodup by decide +kernel) rfl (Or.inl rfl)) N7)))) (λ_ _ _ _ _=>C2) (λ_ _ _ _ _=>(Q9 (jv 0) (jv 1)))) jaN)))),?_⟩
  refine⟨_,rfl,_,rfl,true,true,a,b,rfl,⟨_,SqT.of ha⟩,⟨_,SqT.of hb⟩,?_⟩;refine a9d (caps:=[]) (λx y=>V.int (x*y)) hl (λH' s=>⟨sqt (s _ _ ha),sqt (s _ _ hb)⟩) rfl (λx y H1 j _ g _ q=>⟨_,rfl,_,rfl,_,_,rfl,rfl,.inr (hs y g),q⟩) λH1 p s e=>?_;rw[a4i (λx y=>x*y) V.int];exact⟨false,p,_,rfl,SqL.of A1,k _ (s.upd e)⟩
inductive IspSums(vs:List V)(H:Hp)(Q:VK)(E:XK):Prop
 |mk (a:Addr) (y:V) (us:List V) (rss:LLI) (ys:List Int) (_:vs=[.ref a,y]) (_:H a=some (.tup us)) (_:Its H us rss) (_:IT H y ys) (_:us.length<=1000) (_:(∀r∈rss,r.length<=1000)) (_:Sm ys) (_:∀v H',Same H H'->IT H' v (rss.map λr=>dot r ys)->Q v H'):IspSums  vs H Q E
def a6N:Sp:=λvs H Q E=>IspSums  vs H Q E
theorem b3U:FnScope ["rows","one"] ["rows","one"] (A4 a4A):=⟨rfl,rfl,rfl,by decide +kernel,rfl,by decide +kernel,by decide +kernel⟩
theorem b4I(F:FunAt K mg "sums" a4A ["rows","one"])(T:Tx mg)(b:Ok P w K mg base "row_sum" 1 ["row","one"] a2o):Ok P w K mg base "sums" 2 ["rows","one"] a6N:=by
 refine F.okJ b3U (λvs H Q E h=>?_) (λg f A e s H vs Q E d h=>?_)
 .obtain⟨a,y,us,rss,ys,rfl,_⟩:=h;rfl
 .obtain⟨a,y,us,rss,ys,rfl,ha,hI,hy,c,hl2,hs,k⟩:=h;refine⟨_,(A8 (B2 (B4 K rfl T.b_tuple (jaC (B7 (N:=["row","one"]) (src:=[none,some 1]) (L1 K (jv 0)) (by show C0 _ _=true;rfl) (by rfl) (by rfl)
 (λ_ _ _ _ _=>(A7 (i:=0) (show(["row","one"]:List Str).Nodup by decide +kernel) rfl (Or.inl rfl))) (λ_ _ _ _ _=>C2) (λ_ _ _ _ _=>(B1 b (d.mono (by omega)) rfl (jaC (jv 0) (jaC (jv 1) jaN))))) jaN)))),?_⟩
  refine⟨_,rfl,a,rfl,⟨_,SqT.of ha⟩,?_⟩;refine a7O (caps:=[some y]) (λr=>V.int (dot r ys)) c (λH' s=>SqT.of (s _ _ ha)) hI rfl (λv r H1 n d m s1 q=>⟨_,rfl,_,rfl,v,y,r,ys,rfl,m,hy.same s1,hl2 r d,hs,q⟩) λH1 p s j=>?_;rw[show(rss.map λr=>V.int (dot r ys))=(rss.map λr=>dot r ys).map V.int by rw[cx];rfl];refine⟨p,_,rfl,.inl ⟨SqL.of A1,λl c=>?_⟩⟩;exact k _ _ ((s.upd j).upd c) ⟨l,rfl,A1⟩
inductive IspIsAns(vs:List V)(H:Hp)(Q:VK)(E:XK):Prop
 |mk (a:Addr) (y:V) (us:List V) (rss:LLI) (ys:List Int) (_:vs=[.ref a,y]) (_:H a=some (.tup us)) (_:Its H us rss) (_:IT H y ys) (_:us.length<=1000) (_:(∀r∈rss,r.length<=1000)) (_:Sm ys) (_:∀H',Same H H'->Q (.bl (Ans rss ys)) H'):IspIsAns  vs H Q E
def a8c:Sp:=λvs H Q E=>IspIsAns  vs H Q E
theorem a4v:FnScope ["rows","one"] ["rows","one"] (A4 P9):=⟨rfl,rfl,rfl,by decide +kernel,rfl,by decide +kernel,by decide +kernel⟩
theorem a4I(F:FunAt K mg "is_answer" P9 ["rows","one"])(T:Tx mg)(b:Ok P w K mg base "sums" 2 ["rows","one"] a6N):Ok P w K mg base "is_answer" 3 ["rows","one"] a8c:=by
 refine F.okJ a4v (λvs H Q E h=>?_) (λj f A d s H vs Q E m h=>?_)
 .obtain⟨a,y,us,rss,ys,rfl,_⟩:=h;rfl
 .obtain⟨a,y,us,rss,ys,rfl,ha,hI,hy,hl,hl2,hs,k⟩:=h;refine⟨_,(A8 (B2 (a2S K rfl T.b_all (jaC (B7 (N:=["total"]) (src:=[none]) (L1 K (B1 b (m.mono (by omega)) rfl (jaC (jv 0) (jaC (jv 1) jaN)))) (by show C0 _ _=true;rfl) (by rfl) (by rfl)
 (λ_ _ _ _ _=>(A7 (i:=0) (show(["total"]:List Str).Nodup by decide +kernel) rfl (Or.inl rfl))) (λ_ _ _ _ _=>C2) (λ_ _ _ _ _=>(a1y (jv 0) A2))) jaN)))),?_⟩
  refine⟨_,rfl,_,rfl,a,y,us,rss,ys,rfl,ha,hI,hy,hl,hl2,hs,λv H1 s1 c=>?_⟩;obtain⟨q,rfl,g⟩:=c;refine⟨q,rfl,⟨_,SqT.of g⟩,?_⟩;refine a0r (caps:=[]) (λx=>V.bl (decide (V.int x=V.int 0))) (by rw[aj,<-hI.1];exact hl) (λH' s=>SqT.of (s _ _ g)) rfl (λx H2 n _ _ q=>⟨_,rfl,rfl,q⟩) λH2 p s2 l=>?_;refine⟨false,p,_,rfl,SqL.of A1,?_,?_⟩
  .rw[bN];intro v c;obtain⟨x,_,rfl⟩:=aT.mp c;rfl
  .have e:((rss.map λr=>dot r ys).map λx=>V.bl (decide (V.int x=V.int 0))).all trV=Ans rss ys:=by
    rw[List.all_map,List.all_map];unfold Ans;congr 1;funext r;show decide (V.int (dot r ys)=V.int 0)=decide (dot r ys=0);simp
   rw[e];exact k _ (s1.trans (s2.upd l))
end
theorem a5g{α β γ:Type}(f:α->β->Int)(g:Int->γ):∀(xs:List α) (ys:List β),List.zipWith (λa b=>g (f a b)) xs ys=(List.zipWith f xs ys).map g
 |[],_=>rfl
 |_::_,[]=>rfl
 |x::xs,y::ys=>by rw[aY,aY,aP,a5g f g xs ys]
noncomputable def O3(rss:LLI)(ts:List Int)(j:Nat):Int:=(List.zipWith (λt r=>t*r.getD j 0) ts rss).sum
noncomputable def Z7(rss:LLI)(ys:List Int)(j:Nat):Int:=O3 rss (rss.map λr=>dot r ys) j
def Rs(n:Nat)(rss:LLI):Prop:=∀r∈rss,r.length=n/\Sm r
theorem Sm.at{r:List Int}(h:Sm r){j:Nat}(a:j<r.length) : -2 ^ 64<r.getD j 0/\r.getD j 0<2 ^ 64:=by
 refine h _ ?_;rw[ak,ai a];exact cz _
section
variable {P:Program}{w:World}{K:PySem.W.Frag}{mg:Str->Option Value}{base:Heap}
inductive IspPullOf(vs:List V)(H:Hp)(Q:VK)(E:XK):Prop
 |mk (a:Addr) (y:V) (us:List V) (rss:LLI) (ts:List Int) (j n:Nat) (_:vs=[.ref a,y,.int j]) (_:H a=some (.tup us)) (_:Its H us rss) (_:IT H y ts) (_:ts.length<=1000) (_:j<n) (_:n<=1000) (_:Rs n rss) (_:∀H',Same H H'->Q (.int (O3 rss ts j)) H'):IspPullOf  vs H Q E
def a5B:Sp:=λvs H Q E=>IspPullOf  vs H Q E
theorem a6T:FnScope ["rows","totals","j"] ["rows","totals","j"] (A4 Y0):=⟨rfl,rfl,rfl,by decide +kernel,rfl,by decide +kernel,by decide +kernel⟩
theorem a7e(F:FunAt K mg "pull_of" Y0 ["rows","totals","j"])(T:Tx mg):Ok P w K mg base "pull_of" 1 ["rows","totals","j"] a5B:=by
 refine F.okJ a6T (λvs H Q E h=>?_) (λe f A c s H vs Q E d h=>?_)
 .obtain⟨a,y,us,rss,ts,j,n,rfl,_⟩:=h;rfl
 .obtain⟨a,_,us,rss,ts,j,n,rfl,ha,hI,⟨b,rfl,hb⟩,hl,hj,hn,hR,k⟩:=h;refine⟨_,(A8 (B2 (b2E K rfl T.b_sum (jaC (B7 (N:=["total","row","j"]) (src:=[none,none,some 2]) (a0i K rfl T.b_zip (jaC (jv 1) (jaC (jv 0) jaN))) (by show C0 _ _=true;rfl) (by rfl) (by rfl)
 (λ_ _ _ _ _=>(U3 K 2 (C1 (A7 (i:=0) (show(["total","row","j"]:List Str).Nodup by decide +kernel) rfl (Or.inl rfl)) (C1 (A7 (i:=1) (show(["total","row","j"]:List Str).Nodup by decide +kernel) rfl (Or.inl rfl)) N7)))) (λ_ _ _ _ _=>C2) (λ_ _ _ _ _=>(Q9 (jv 0) (S2 K (jv 1) (jv 2))))) jaN)))),?_⟩
  refine⟨_,rfl,_,rfl,true,true,b,a,rfl,⟨_,SqT.of hb⟩,⟨_,SqT.of ha⟩,?_⟩;refine b0C (caps:=[some (.int j)]) (λt r=>V.int (t*r.getD j 0)) hl (λH' s=>⟨sqt (s _ _ hb),sqt (s _ _ ha)⟩) hI rfl (λx v r H1 o _ d m _ q=>?_) λH1 p s l=>?_
  .obtain⟨va,rfl,hva⟩:=m;obtain⟨u,g⟩:=hR r d;exact⟨_,rfl,_,rfl,_,rfl,va,_,_,_,rfl,rfl,SqT.of hva,U8 (by omega),_,_,rfl,rfl,.inr (g.at (by omega)),q⟩
  .rw[a5g (λt r=>t*List.getD r j 0) V.int];exact⟨false,p,_,rfl,SqL.of A1,k _ (s.upd l)⟩
inductive IspFalls(vs:List V)(H:Hp)(Q:VK)(E:XK):Prop
 |mk (a:Addr) (y:V) (us:List V) (rss:LLI) (ys:List Int) (_:vs=[.ref a,y]) (_:H a=some (.tup us)) (_:Its H us rss) (_:IT H y ys) (_:us.length<=1000) (_:ys.length<=1000) (_:Rs ys.length rss) (_:Sm ys) (_:∀v H',Same H H'->IT H' v (((List.range ys.length).filter λj=>decide (Z7 rss ys j<0)).map λ(i:Nat)=>(i:Int))->Q v H'):IspFalls  vs H Q E
def a8e:Sp:=λvs H Q E=>IspFalls  vs H Q E
theorem sc_falls:FnScope ["rows","one","totals"] ["rows","one"] (A4 a1T):=⟨rfl,rfl,rfl,by decide +kernel,rfl,by decide +kernel,by decide +kernel⟩
theorem b2h(F:FunAt K mg "falls" a1T ["rows","one"])(T:Tx mg)(b:Ok P w K mg base "pull_of" 1 ["rows","totals","j"] a5B)(c:Ok P w K mg base "sums" 2 ["rows","one"] a6N):Ok P w K mg base "falls" 3 ["rows","one"] a8e:=by
 refine F.okJ sc_falls (λvs H Q E h=>?_) (λn f A m s H vs Q E e h=>?_)
 .obtain⟨a,y,us,rss,ts,rfl,_⟩:=h;rfl
 .obtain⟨a,y,us,rss,ys,rfl,ha,hI,hy,d,hn,hR,hs,k⟩:=h;refine⟨_,(A3 (B3 (i:=2) sc_falls.nd rfl (Or.inr rfl) (B1 c (e.mono (by omega)) rfl (jaC (jv 0) (jaC (jv 1) jaN))))
 (A8 (B2 (B4 K rfl T.b_tuple (jaC (B7 (N:=["j","rows","totals"]) (src:=[none,some 0,some 2]) (E1 rfl T.b_range (jaC (O6 K rfl T.b_len (jaC (jv 1) jaN)) jaN)) (by show C0 _ _=true;rfl) (by rfl) (by rfl)
 (λ_ _ _ _ _=>(A7 (i:=0) (show(["j","rows","totals"]:List Str).Nodup by decide +kernel) rfl (Or.inl rfl))) (λ_ _ _ _ _=>(a2Q (b2y (B1 b (e.mono (by omega)) rfl (jaC (jv 1) (jaC (jv 2) (jaC (jv 0) jaN)))) A2))) (λ_ _ _ _ _=>(jv 0))) jaN))))),?_⟩
  refine⟨_,rfl,_,rfl,a,y,us,rss,ys,rfl,ha,hI,hy,d,λr e=>by rw[(hR r e).1];exact hn,hs,λv H1 s1 t=>?_⟩;dsimp only[A9];obtain⟨x,rfl,g⟩:=hy.same s1;refine⟨_,rfl,x,_,rfl,.inr (SqT.of g),_,rfl,by omega,by rw[aj];omega,?_⟩;rw[bb,aj];refine a6V (caps:=[some (.ref a),some v]) (λj=>decide (Z7 rss ys j<0)) hn rfl (λi H2 B hi s2 q=>?_) λH2 p s2 o=>?_
  .refine⟨_,rfl,_,rfl,_,rfl,a,v,us,rss,_,i,ys.length,rfl,(s1.trans s2) _ _ ha,hI.same (s1.trans s2),t.same s2,by rw[aj,<-hI.1];exact d,hi,hn,hR,λz u=>?_⟩;exact⟨_,_,rfl,rfl,_,rfl,q _ u⟩
  .refine⟨p,_,rfl,.inl ⟨SqL.of A1,λl d=>?_⟩⟩;exact k _ _ (s1.trans ((s2.upd o).upd d)) ⟨l,rfl,A1⟩
end
theorem B9(x y:Int)(xs ys:List Int):dot (x::xs) (y::ys)=x*y+dot xs ys:=by unfold dot;rw[aY,bF]
theorem a6r(ys:List Int):dot [] ys=0:=rfl
theorem a6q(xs:List Int):dot xs []=0:=by cases xs<;>rfl
theorem a6o:∀(xs:List Int) (n:Nat),dot xs (List.replicate n 0)=0
 |[],_=>rfl
 |_::_,0=>rfl
 |x::xs,n+1=>by rw[bH,B9,a6o xs n];omega
theorem a8P:∀(xs ys:List Int) (k:Nat),k<xs.length->xs.length=ys.length->dot xs (ys.set k (ys.getD k 0+1))=dot xs ys+xs.getD k 0
 |[],_,k,h,_=>by simp at h
 |a::xs,[],k,_,h=>by simp at h
 |a::xs,b::ys,0,_,_=>by
  rw[List.set_cons_zero,B9,B9,List.getD_cons_zero,List.getD_cons_zero,fU];omega
 |a::xs,b::ys,k+1,h,h2=>by
  rw[List.set_cons_succ,B9,B9,List.getD_cons_succ,List.getD_cons_succ,a8P xs ys k (by simpa using h) (by simpa using h2)];omega
theorem a3V:∀(xs ys:List Int),xs.length=ys.length->dot xs ys=((List.range ys.length).map λj=>xs.getD j 0*ys.getD j 0).sum
 |[],[],_=>rfl
 |x::xs,y::ys,h=>by
  rw[B9,a3V xs ys (by simpa using h),aN,List.range_succ_eq_map,aP,bF,cx];rfl
theorem a7T(l:List Nat)(f g:Nat->Int):(l.map λj=>f j+g j).sum=(l.map f).sum+(l.map g).sum:=by
 induction l with
 |nil=>rfl
 |cons x l a=>simp only[aP,bF,a];omega
theorem a4m(l:List Nat)(c:Int)(f:Nat->Int):(l.map λj=>c*f j).sum=c*(l.map f).sum:=by
 induction l with
 |nil=>simp
 |cons x l a=>simp only[aP,bF,a,fU]
noncomputable def bump(now:List Int)(j:Nat):List Int:=now.set j (now.getD j 0+1)
noncomputable def Pl(rss:LLI)(now xs:List Int):List Nat:=(List.range xs.length).filter λj=>decide (now.getD j 0<xs.getD j 0) && (Ans rss now || decide (Z7 rss now j<0))
def Under(now xs:List Int):Prop:=now.length=xs.length/\∀j,j<xs.length->now.getD j 0<=xs.getD j 0
theorem J0(a:List Int)(j:Nat):(bump a j).length=a.length:=dN
theorem b1J{rss:LLI}{a xs:List Int}{j:Nat}(h:j∈Pl rss a xs):j<xs.length/\a.getD j 0<xs.getD j 0:=by
 unfold Pl at h;rw[aU,aW,aV,bY]at h;exact⟨h.1,h.2.1⟩
theorem a0N(a:List Int)(j k:Nat)(b:j<a.length):(bump a j).getD k 0=if k=j then a.getD j 0+1 else a.getD k 0:=by
 unfold bump;rw[ak,List.getElem?_set];by_cases e:j=k
 .subst e;rw[az rfl,az b,az rfl];rfl
 .rw[aq e,aq (dJ e),ak]
theorem Under.bump{rss:LLI}{a xs:List Int}{j:Nat}(h:Under a xs)(b:j∈Pl rss a xs):Under (bump a j) xs:=by
 obtain⟨h1,h2⟩:=b1J b;refine⟨by rw[J0];exact h.1,λk c=>?_⟩;rw[a0N _ _ _ (by rw[h.1];exact h1)];by_cases e:k=j
 .rw[az e,e];omega
 .rw[aq e];exact h.2 k c
theorem a7S:∀(xs:List Int) (k:Nat) (z:Int),k<xs.length->(xs.set k z).sum=xs.sum-xs.getD k 0+z
 |[],_,_,h=>by simp at h
 |x::xs,0,z,_=>by rw[List.set_cons_zero,bF,bF,List.getD_cons_zero];omega
 |x::xs,k+1,z,h=>by rw[List.set_cons_succ,bF,bF,List.getD_cons_succ,a7S xs k z (by simpa using h)];omega
theorem a6A(a:List Int)(j:Nat)(h:j<a.length):(bump a j).sum=a.sum+1:=by
 unfold bump;rw[a7S _ _ _ h];omega
theorem Under.tail{x y:Int}{xs ys:List Int}(h:Under (x::xs) (y::ys)):x<=y/\Under xs ys :=
 ⟨by simpa using h.2 0 (by simp),by simpa using h.1,λj a=>by simpa using h.2 (j+1) (by simpa using a)⟩
theorem Under.sum:∀{xs ys:List Int},Under xs ys->xs.sum<=ys.sum/\(xs≠ys->xs.sum<ys.sum)
 |[],[],_=>⟨fk _,λh=>absurd rfl h⟩
 |[],_::_,h=>by have:=h.1;simp at this
 |_::_,[],h=>by have:=h.1;simp at this
 |x::xs,y::ys,h=>by
  obtain⟨h1,h2⟩:=h.tail;obtain⟨b,a⟩:=Under.sum h2;rw[bF,bF];refine⟨by omega,λne=>?_⟩;by_cases e:xs=ys
  .subst e;have:x≠y:=λq=>ne (by rw[q]);omega
  .have:=a e;omega
theorem Under.ne:∀{xs ys:List Int},Under xs ys->xs≠ys->∃j,j<ys.length/\xs.getD j 0<ys.getD j 0
 |[],[],_,h=>absurd rfl h
 |[],_::_,h,_=>by have:=h.1;simp at this
 |_::_,[],h,_=>by have:=h.1;simp at this
 |x::xs,y::ys,h,ne=>by
  obtain⟨h1,h2⟩:=h.tail;by_cases e:xs=ys
  .subst e;have:x≠y:=λq=>ne (by rw[q]);exact⟨0,by simp,by simp;omega⟩
  .obtain⟨j,q1,q2⟩:=Under.ne h2 e;exact⟨j+1,by simpa using q1,by simpa using q2⟩
theorem b0W(l:List Int)(h:∀x∈l,0<=x):0<=l.sum:=by
 induction l with
 |nil=>exact fk _
 |cons x l b =>
  rw[bF];have:=h x (au ..);have:=b λy a=>h y (ar _ a);omega
theorem b3I(l:List Int)(h:∀x∈l,0<=x)(y:Int)(b:y∈l)(hp:0<y):0<l.sum:=by
 induction l with
 |nil=>cases b
 |cons x l c =>
  rw[bF];have e:=h x (au ..);have d:=b0W l λz a=>h z (ar _ a);rcases aE.mp b with q|q
  .omega
  .have:=c (λz a=>h z (ar _ a)) q;omega
theorem a1u(t:Int):0<=t*t:=by
 rcases Int.le_total 0 t with h|h
 .exact eX h h
 .have:=eX (a := -t) (b := -t) (by omega) (by omega);rwa[Int.neg_mul_neg]at this
theorem a2k(ys:List Int):∀(rss:LLI) (a:List Int),(∀r∈rss,r.length=ys.length)->a.length=rss.length ->
  ((List.range ys.length).map λj=>O3 rss a j*ys.getD j 0).sum=(List.zipWith (λt r=>t*dot r ys) a rss).sum
 |[],[],_,_=>by
  have e:((List.range ys.length).map λj=>O3 [] [] j*ys.getD j 0)=(List.range ys.length).map λj=>0*ys.getD j 0:=rfl;rw[e,a4m,gm];rfl
 |[],_::_,_,h=>by simp at h
 |_::_,[],_,h=>by simp at h
 |r::rss,t::a,h,b=>by
  have d:=a2k ys rss a (λq c=>h q (ar _ c)) (by simpa using b);rw[aY,bF,<-d];have e:(λj=>O3 (r::rss) (t::a) j*ys.getD j 0)=λj=>t*(r.getD j 0*ys.getD j 0)+O3 rss a j*ys.getD j 0:=by
   funext j;unfold O3;rw[aY,bF,Int.add_mul,Int.mul_assoc]
  rw[e,a7T,a4m,<-a3V r ys (h r (au ..))]
theorem a7V:∀(rss:LLI) (a xs:List Int),Ans rss xs=true->(List.zipWith (λt r=>t*dot r xs) (rss.map λr=>dot r a) rss).sum=0
 |[],_,_,_=>rfl
 |r::rss,a,xs,h=>by
  unfold Ans at h;rw[cU,aV,bY]at h;rw[aP,aY,bF,h.1,a7V rss a xs h.2];omega
theorem b6g(rss:LLI)(a:List Int)(h:Ans rss a=false):0<(List.zipWith (λt r=>t*dot r a) (rss.map λr=>dot r a) rss).sum:=by
 have e:List.zipWith (λt r=>t*dot r a) (rss.map λr=>dot r a) rss=rss.map λr=>dot r a*dot r a:=by
  clear h;induction rss with
  |nil=>rfl
  |cons r rss f=>rw[aP,aY,aP,f]
 rw[e];have:∃r∈rss,dot r a≠0:=by
  refine cf λq=>?_;have:Ans rss a=true:=by
   unfold Ans;rw[bN];intro r c;rw[bY];exact cf λz=>q ⟨r,c,z⟩
  rw[this]at h;cases h
 obtain⟨r,c,b⟩:=this;refine b3I _ (λx d=>?_) (dot r a*dot r a) (aT.mpr ⟨r,c,rfl⟩) ?_
 .obtain⟨q,_,rfl⟩:=aT.mp d;exact a1u _
 .have h1:=a1u (dot r a);have h2:dot r a*dot r a≠0:=λz=>by
   rcases Int.mul_eq_zero.mp z with q|q<;>exact b q
  omega
theorem b8s(rss:LLI)(a xs:List Int)(hR:∀r∈rss,r.length=xs.length)(c:Under a xs)(h:a≠xs)(m:Ans rss xs=true):Pl rss a xs≠[]:=by
 intro b;unfold Pl at b;rw[List.filter_eq_nil_iff]at b;cases d:Ans rss a with
 |true =>
  obtain⟨j,h1,h2⟩:=c.ne h;refine b j (aW.mpr h1) ?_;rw[d,aV,bY];exact⟨h2,rfl⟩
 |false =>
  have p1:=a2k a rss (rss.map λr=>dot r a) (λr o=>by rw[hR r o,c.1]) (by simp);have p2:=a2k xs rss (rss.map λr=>dot r a) hR (by simp);have w:=b6g rss a d;have u:=a7V rss a xs m;rw[c.1]at p1;have v:((List.range xs.length).map λj=>O3 rss (rss.map λr=>dot r a) j*a.getD j 0+(-1)*(O3 rss (rss.map λr=>dot r a) j*xs.getD j 0)).sum<=0:=by
   have hs:∀(l:List Int),(∀x∈l,x<=0)->l.sum<=0:=λl k=>by
    induction l with
    |nil=>exact fk _
    |cons x l t =>
     rw[bF];have:=k x (au ..);have:=t λy s=>k y (ar _ s);omega
   refine hs _ λx p=>?_;obtain⟨j,i,rfl⟩:=aT.mp p;have f:=aW.mp i;have n:=c.2 j f;have e:O3 rss (rss.map λr=>dot r a) j*a.getD j 0+(-1)*(O3 rss (rss.map λr=>dot r a) j*xs.getD j 0) = -(O3 rss (rss.map λr=>dot r a) j*(xs.getD j 0-a.getD j 0)):=by
    rw[Int.mul_sub];omega
   rw[e];by_cases g:a.getD j 0<xs.getD j 0
   .have hp:0<=O3 rss (rss.map λr=>dot r a) j:=by
     have q:=b j i;rw[d]at q;have A:¬Z7 rss a j<0:=λz=>q (by simp only[Bool.false_or,aV,bY];exact⟨g,z⟩);show 0<=Z7 rss a j;omega
    have:=eX hp (show 0<=xs.getD j 0-a.getD j 0 by omega);omega
   .have:xs.getD j 0-a.getD j 0=0:=by omega
    rw[this,Int.mul_zero];exact fk _
  rw[a7T,a4m,p1,p2,u]at v;omega
section
variable {P:Program}{w:World}{K:PySem.W.Frag}{mg:Str->Option Value}{base:Heap}
inductive IspBelow(vs:List V)(H:Hp)(Q:VK)(E:XK):Prop
 |mk (x:_) (y:_) (xs:_) (ys:_) (_:vs=[x,y]) (_:IT H x xs) (_:IT H y ys) (_:xs.length<=1000) (_:∀H',Same H H'->Q (.bl (Bel xs ys)) H'):IspBelow  vs H Q E
def a4s:Sp:=λvs H Q E=>IspBelow  vs H Q E
theorem b1j:FnScope ["one","other"] ["one","other"] (A4 a1U):=⟨rfl,rfl,rfl,by decide +kernel,rfl,by decide +kernel,by decide +kernel⟩
theorem b2j(F:FunAt K mg "below" a1U ["one","other"])(T:Tx mg):Ok P w K mg base "below" 1 ["one","other"] a4s:=by
 refine F.okJ b1j (λvs H Q E h=>?_) (λd f A c s H vs Q E l h=>?_)
 .obtain⟨x,y,xs,ys,rfl,_⟩:=h;rfl
 .obtain⟨_,_,xs,ys,rfl,⟨a,rfl,ha⟩,⟨b,rfl,hb⟩,hl,k⟩:=h;refine⟨_,(A8 (B2 (a2S K rfl T.b_all (jaC (B7 (N:=["a","b"]) (src:=[none,none]) (a0i K rfl T.b_zip (jaC (jv 0) (jaC (jv 1) jaN))) (by show C0 _ _=true;rfl) (by rfl) (by rfl)
 (λ_ _ _ _ _=>(U3 K 2 (C1 (A7 (i:=0) (show(["a","b"]:List Str).Nodup by decide +kernel) rfl (Or.inl rfl)) (C1 (A7 (i:=1) (show(["a","b"]:List Str).Nodup by decide +kernel) rfl (Or.inl rfl)) N7)))) (λ_ _ _ _ _=>C2) (λ_ _ _ _ _=>(b2x (jv 0) (jv 1)))) jaN)))),?_⟩
  refine⟨_,rfl,_,rfl,true,true,a,b,rfl,⟨_,SqT.of ha⟩,⟨_,SqT.of hb⟩,?_⟩;refine a5h (caps:=[]) (λx y=>V.bl (decide (x<=y))) (sqt ha) (sqt hb) hl (λH' s=>⟨sqt (s _ _ ha),sqt (s _ _ hb)⟩) rfl (λx y H1 j _ q=>⟨_,rfl,_,rfl,_,_,rfl,rfl,q⟩) λH1 p s e=>?_;refine⟨false,p,_,rfl,SqL.of A1,?_,?_⟩
  .rw[bN];intro v g;obtain⟨i,hi,rfl⟩:=bC.mp g;rw[List.getElem_zipWith];rfl
  .rw[b7V];exact k _ (s.upd e)
inductive IspUnit(vs:List V)(H:Hp)(Q:VK)(E:XK):Prop
 |mk (wd:Int) (n j:Nat) (_:vs=[.int wd,.int j]) (_:wd=n) (_:n<=1000) (_:j<n) (_:∀v H',Same H H'->IT H' v ((List.range n).map λi=>if i=j then 1 else 0)->Q v H'):IspUnit  vs H Q E
def b0X:Sp:=λvs H Q E=>IspUnit  vs H Q E
theorem b3T:FnScope ["width","j"] ["width","j"] (A4 a4z):=⟨rfl,rfl,rfl,by decide +kernel,rfl,by decide +kernel,by decide +kernel⟩
theorem b4F(F:FunAt K mg "unit" a4z ["width","j"])(T:Tx mg):Ok P w K mg base "unit" 1 ["width","j"] b0X:=by
 refine F.okJ b3T (λvs H Q E h=>?_) (λc f A b s H vs Q E o h=>?_)
 .obtain⟨_,n,j,rfl,_⟩:=h;rfl
 .obtain⟨_,n,j,rfl,rfl,hn,hj,k⟩:=h;refine⟨_,(A8 (B2 (B4 K rfl T.b_tuple (jaC (B7 (N:=["k","j"]) (src:=[none,some 1]) (E1 rfl T.b_range (jaC (jv 0) jaN)) (by show C0 _ _=true;rfl) (by rfl) (by rfl)
 (λ_ _ _ _ _=>(A7 (i:=0) (show(["k","j"]:List Str).Nodup by decide +kernel) rfl (Or.inl rfl))) (λ_ _ _ _ _=>C2) (λ_ _ _ _ _=>(b8L (a8z (jv 0) (jv 1)) A2 A2))) jaN)))),?_⟩
  refine⟨_,rfl,n,rfl,by omega,by omega,?_⟩;rw[bb];refine O2 (caps:=[some (.int j)]) (λi=>V.int (if i=j then 1 else 0)) hn rfl (λi H1 m hi _ q=>?_) λH1 p s g=>?_
  .refine⟨_,rfl,_,rfl,rfl,_,rfl,a4Q (λe=>?_) (λe=>?_)⟩
   .have e1:(i:Int)=(j:Int):=by simpa using e
    have a:i=j:=by omega
    rw[az a]at q;exact q
   .have e1:¬(i:Int)=(j:Int):=by simpa using e
    have a:i≠j:=by omega
    rw[aq a]at q;exact q
  .rw[show((List.range n).map λi=>V.int (if i=j then 1 else 0))=((List.range n).map λi=>if i=j then(1:Int)else 0).map V.int by rw[cx];rfl];refine⟨p,_,rfl,.inl ⟨SqL.of A1,λl d=>?_⟩⟩;exact k _ _ ((s.upd g).upd d) ⟨l,rfl,A1⟩
noncomputable def cV:Option Int->V
 |none=>.non
 |some c=>.int c
noncomputable def b0n(c:Option Int)(x:Int):Bool:=match c with|none=>true|some c=>decide (x<=c)
noncomputable def Wi(cs:List (Option Int))(xs:List Int):Bool:=(List.zipWith b0n cs xs).all id
theorem b7W(cs:List (Option Int))(xs:List Int):(List.zipWith (λc x=>V.bl (b0n c x)) cs xs).all trV=Wi cs xs:=by
 unfold Wi;induction cs generalizing xs with
 |nil=>rfl
 |cons c cs a =>
  cases xs with
  |nil=>rfl
  |cons x xs=>rw[aY,aY,cU,cU,a];rfl
inductive IspWithin(vs:List V)(H:Hp)(Q:VK)(E:XK):Prop
 |mk (a b:Addr) (cs:List (Option Int)) (xs:List Int) (_:vs=[.ref a,.ref b]) (_:H a=some (.tup (cs.map cV))) (_:H b=some (.tup (xs.map V.int))) (_:cs.length<=1000) (_:∀H',Same H H'->Q (.bl (Wi cs xs)) H'):IspWithin  vs H Q E
def a5z:Sp:=λvs H Q E=>IspWithin  vs H Q E
theorem a9q:FnScope ["caps","one"] ["caps","one"] (A4 a0v):=⟨rfl,rfl,rfl,by decide +kernel,rfl,by decide +kernel,by decide +kernel⟩
theorem a9F(F:FunAt K mg "within" a0v ["caps","one"])(T:Tx mg):Ok P w K mg base "within" 1 ["caps","one"] a5z:=by
 refine F.okJ a9q (λvs H Q E h=>?_) (λe f A d s H vs Q E m h=>?_)
 .obtain⟨a,b,cs,xs,rfl,_⟩:=h;rfl
 .obtain⟨a,b,cs,xs,rfl,ha,hb,hl,k⟩:=h;refine⟨_,(A8 (B2 (a2S K rfl T.b_all (jaC (B7 (N:=["cap","number"]) (src:=[none,none]) (a0i K rfl T.b_zip (jaC (jv 0) (jaC (jv 1) jaN))) (by show C0 _ _=true;rfl) (by rfl) (by rfl)
 (λ_ _ _ _ _=>(U3 K 2 (C1 (A7 (i:=0) (show(["cap","number"]:List Str).Nodup by decide +kernel) rfl (Or.inl rfl)) (C1 (A7 (i:=1) (show(["cap","number"]:List Str).Nodup by decide +kernel) rfl (Or.inl rfl)) N7)))) (λ_ _ _ _ _=>C2) (λ_ _ _ _ _=>(b9a (b7j (jv 0) a8D) (b2K (b2x (jv 1) (jv 0)))))) jaN)))),?_⟩
  refine⟨_,rfl,_,rfl,true,true,a,b,rfl,⟨_,SqT.of ha⟩,⟨_,SqT.of hb⟩,?_⟩;refine b3A (caps:=[]) cV V.int (λc x=>V.bl (b0n c x)) hl (λH' s=>⟨sqt (s _ _ ha),sqt (s _ _ hb)⟩) rfl (λc x H1 l _ _ _ q=>?_) λH1 p s g=>?_
  .cases c with
   |none=>exact⟨_,rfl,rfl,true,rfl,W4 (q _ (Same.refl _))⟩
   |some c=>exact⟨_,rfl,rfl,false,rfl,L5 ⟨_,rfl,_,rfl,_,_,rfl,rfl,q _ (Same.refl _)⟩⟩
  refine⟨false,p,_,rfl,SqL.of A1,?_,?_⟩
  .rw[bN];intro v j;obtain⟨i,hi,rfl⟩:=bC.mp j;rw[List.getElem_zipWith];rfl
  .rw[b7W];exact k _ (s.upd g)
end
noncomputable def C5(n j:Nat):List Int:=(List.range n).map λi=>if i=j then(1:Int)else 0
noncomputable def L8(cs:List (Option Int)):LLI:=((List.range cs.length).map (C5 cs.length)).filter λu=>Wi cs u
noncomputable def a8Y(c:Option Int)(x:Int):Bool:=match c with|none=>true|some c=>decide (x<c)
noncomputable def StP(rss:LLI)(cs:List (Option Int))(ys:List Int):List Nat:=((List.range ys.length).filter λj=>decide (Z7 rss ys j<0)).filter λj=>a8Y (cs.getD j none) (ys.getD j 0)
section
variable {P:Program}{w:World}{K:PySem.W.Frag}{mg:Str->Option Value}{base:Heap}
inductive IspFirst(vs:List V)(H:Hp)(Q:VK)(E:XK):Prop
 |mk (a:Addr) (cs:List (Option Int)) (_:vs=[.ref a]) (_:H a=some (.tup (cs.map cV))) (_:0<=cs.length) (_:cs.length<=100) (_:∀p zs tss H',Same H H'->H' p=some (.tup zs)->Its H' zs tss->tss.Perm (L8 cs)->J4 tss->Q (.ref p) H'):IspFirst  vs H Q E
def a8d:Sp:=λvs H Q E=>IspFirst  vs H Q E
theorem sc_first_steps:FnScope ["caps","units"] ["caps"] (A4 L9):=⟨rfl,rfl,rfl,by decide +kernel,rfl,by decide +kernel,by decide +kernel⟩
theorem a2z(F:FunAt K mg "first_steps" L9 ["caps"])(T:Tx mg)(c:Ok P w K mg base "unit" 1 ["width","j"] b0X)(b:Ok P w K mg base "within" 1 ["caps","one"] a5z):Ok P w K mg base "first_steps" 2 ["caps"] a8d:=by
 refine F.okJ sc_first_steps (λvs H Q E h=>?_) (λS f A L s H vs Q E n h=>?_)
 .obtain⟨a,cs,rfl,_⟩:=h;rfl
 .obtain⟨a,cs,rfl,ha,h1,h2,k⟩:=h;have X:(3000:Nat)<=sizeLine:=by rw[a_];decide
  refine⟨_,(A3 (a8A (i:=1) sc_first_steps.nd rfl (Or.inl rfl) (N:=["j","caps"]) (src:=[none,some 0]) (E1 rfl T.b_range (jaC (O6 K rfl T.b_len (jaC (jv 0) jaN)) jaN)) (by show C0 _ _=true;rfl) (by rfl) (by rfl)
 (λ_ _ _ _ _=>(A7 (i:=0) (show(["j","caps"]:List Str).Nodup by decide +kernel) rfl (Or.inl rfl))) (λ_ _ _ _ _=>C2) (λ_ _ _ _ _=>(B1 c (n.mono (by omega)) rfl (jaC (O6 K rfl T.b_len (jaC (jv 1) jaN)) (jaC (jv 0) jaN)))))
 (A8 (B2 (B4 K rfl T.b_tuple (jaC (a2R K rfl T.b_sorted (jaC (B7 (N:=["one","caps"]) (src:=[none,some 0]) (D6 K (jv 1)) (by show C0 _ _=true;rfl) (by rfl) (by rfl)
 (λ_ _ _ _ _=>(A7 (i:=0) (show(["one","caps"]:List Str).Nodup by decide +kernel) rfl (Or.inl rfl))) (λ_ _ _ _ _=>(a2Q (I0 K (B1 b (n.mono (by omega)) rfl (jaC (jv 1) (jaC (jv 0) jaN)))))) (λ_ _ _ _ _=>(jv 0))) jaN)) jaN))))),?_⟩
  refine⟨_,rfl,a,_,rfl,.inr (SqT.of ha),_,rfl,by rw[aj];omega,by rw[aj];omega,?_⟩;rw[bb,aj];refine a0A (caps:=[some (.ref a)]) (by omega) rfl (λi ys H'=>Same H H'/\Its H' ys ((List.range i).map (C5 cs.length))) ⟨Same.refl H,.nil⟩ (λi ys H' h=>by rw[h.2.1];simp) ?_ ?_
  .rintro i ys H' hi ⟨s',hI⟩;refine⟨_,rfl,a,_,rfl,.inr (SqT.of (s' _ _ ha)),_,rfl,_,cs.length,i,rfl,by rw[aj],by omega,hi,λv H2 s2 J=>⟨s'.trans s2,?_⟩⟩;rw[List.range_succ,bV];exact(hI.same s2).snoc J
  .rintro ys H' ⟨s',hI⟩ p hp;dsimp only[A9];have s1:=s'.upd (o:=.lst ys) hp;have e:=hI.same ((Same.refl H').upd (o:=.lst ys) hp);have y:upd H' p (.lst ys) p=some (.lst ys):=A1;generalize upd H' p (.lst ys)=H1 at s1 e y;refine⟨_,rfl,p,rfl,⟨_,SqL.of y⟩,?_⟩;have U:ys.length=cs.length:=by rw[hI.1];simp
   refine a2J (caps:=[some (.ref a)]) (λu=>Wi cs u) (by omega) (λH2 s2=>SqL.of (s2 _ _ y)) e rfl (λv r H2 W n J s2 q=>?_) λH2 p2 d s2 m z=>?_
   .obtain⟨va,rfl,hva⟩:=J;exact⟨_,rfl,_,rfl,a,va,cs,r,rfl,(s1.trans s2) _ _ ha,hva,by omega,λt x=>⟨Wi cs r,rfl,q t x⟩⟩
   have x:=(s1.trans s2).upd (o:=.lst d) m;have g:=z.same ((Same.refl H2).upd (o:=.lst d) m);have M:upd H2 p2 (.lst d) p2=some (.lst d):=A1;generalize upd H2 p2 (.lst d)=t at x g M;refine⟨p2,d,_,rfl,.inl (SqL.of M),g,λr n=>?_,λl zs tss C B G I _=>?_⟩
   .obtain⟨j,hj,rfl⟩:=aT.mp (aU.mp n).1;have:=aW.mp hj;simp[C5];omega
   refine⟨l,_,rfl,.inl ⟨SqL.of A1,λV D=>?_⟩⟩;have O:=(Same.refl t).upd (o:=.lst zs) C;have R:=(Same.refl (upd t l (.lst zs))).upd (o:=.tup zs) D;exact k V zs tss _ ((x.trans O).trans R) A1 ((B.same O).same R) G I
inductive IspRaised(vs:List V)(H:Hp)(Q:VK)(E:XK):Prop
 |mk (y:V) (ys:List Int) (j:Nat) (_:vs=[y,.int j]) (_:IT H y ys) (_:j<ys.length) (_:ys.length<=1000) (_:∀v H',Same H H'->IT H' v (bump ys j)->Q v H'):IspRaised  vs H Q E
def a5A:Sp:=λvs H Q E=>IspRaised  vs H Q E
theorem a9r:FnScope ["one","j"] ["one","j"] (A4 a0w):=⟨rfl,rfl,rfl,by decide +kernel,rfl,by decide +kernel,by decide +kernel⟩
theorem a9G(F:FunAt K mg "raised" a0w ["one","j"]):Ok P w K mg base "raised" 1 ["one","j"] a5A:=by
 refine F.okJ a9r (λvs H Q E h=>?_) (λc f A b s H vs Q E d h=>?_)
 .obtain⟨y,ys,j,rfl,_⟩:=h;rfl
 .obtain⟨_,ys,j,rfl,⟨a,rfl,ha⟩,hj,hl,k⟩:=h;refine⟨_,(A8 (B2 (Y8 (Y8 (b5R K (jv 0) a0F (a0E (jv 1))) (C4 (jaC (L3 (S2 K (jv 0) (jv 1)) A2) jaN))) (b5R K (jv 0) (a0E (L3 (jv 1) A2)) a0F)))),?_⟩;exact b6r (i:=0) (j:=1) (a:=a) (xs:=ys) (k:=j) (z:=ys.getD j 0+1) rfl rfl ha hj hl (λH' N s' q=>⟨_,rfl,_,rfl,a,_,_,_,rfl,rfl,SqT.of (s' _ _ ha),U8 hj,_,_,rfl,rfl,q⟩) k
inductive IspSteps(vs:List V)(H:Hp)(Q:VK)(E:XK):Prop
 |mk (a c:Addr) (y:V) (us:List V) (rss:LLI) (cs:List (Option Int)) (ys:List Int) (_:vs=[.ref a,.ref c,y]) (_:H a=some (.tup us)) (_:Its H us rss) (_:H c=some (.tup (cs.map cV))) (_:IT H y ys) (_:us.length<=1000) (_:ys.length<=100) (_:cs.length=ys.length) (_:Rs ys.length rss) (_:Sm ys) (_:∀p ps H',Same H H'->H' p=some (.lst ps)->Prs H' ps (bump ys) (StP rss cs ys)->Q (.ref p) H'):IspSteps  vs H Q E
def a7Y:Sp:=λvs H Q E=>IspSteps  vs H Q E
theorem b3k{cs:List (Option Int)}{j:Nat}(h:j<cs.length):atI (cs.map cV) (j:Int)=some (cV (cs.getD j none)):=by
 refine a5d ?_;rw[aQ,ai h];simp[ak,h]
theorem sc_steps:FnScope ["rows","caps","one","places"] ["rows","caps","one"] (A4 a1R):=⟨rfl,rfl,rfl,by decide +kernel,rfl,by decide +kernel,by decide +kernel⟩
theorem b2c(F:FunAt K mg "steps" a1R ["rows","caps","one"])(T:Tx mg)(d:Ok P w K mg base "falls" 3 ["rows","one"] a8e)(b:Ok P w K mg base "raised" 1 ["one","j"] a5A):Ok P w K mg base "steps" 4 ["rows","caps","one"] a7Y:=by
 refine F.okJ sc_steps (λvs H Q E h=>?_) (λR f A G s H vs Q E L h=>?_)
 .obtain⟨a,c,y,us,rss,cs,ys,rfl,_⟩:=h;rfl
 .obtain⟨a,c,_,us,rss,cs,ys,rfl,ha,hI,hc,⟨y,rfl,hy⟩,hl,hn,hcl,hR,hs,k⟩:=h;have Y:(3000:Nat)<=sizeLine:=by rw[a_];decide
  refine⟨_,(A3 (a8A (i:=3) sc_steps.nd rfl (Or.inl rfl) (N:=["j","caps","one"]) (src:=[none,some 1,some 2]) (L1 K (B1 d (L.mono (by omega)) rfl (jaC (jv 0) (jaC (jv 2) jaN)))) (by show C0 _ _=true;rfl) (by rfl) (by rfl)
 (λ_ _ _ _ _=>(A7 (i:=0) (show(["j","caps","one"]:List Str).Nodup by decide +kernel) rfl (Or.inl rfl))) (λ_ _ _ _ _=>(a2Q (a7k (b2w (b7l (S2 K (jv 1) (jv 0)) a8D) (a7j (b2y (S2 K (jv 2) (jv 0)) (S2 K (jv 1) (jv 0)))))))) (λ_ _ _ _ _=>(jv 0)))
 (A8 (B2 (B7 (N:=["j","one"]) (src:=[none,some 2]) (D6 K (jv 3)) (by show C0 _ _=true;rfl) (by rfl) (by rfl)
 (λ_ _ _ _ _=>(A7 (i:=0) (show(["j","one"]:List Str).Nodup by decide +kernel) rfl (Or.inl rfl))) (λ_ _ _ _ _=>C2) (λ_ _ _ _ _=>(C4 (jaC (jv 0) (jaC (B1 b (L.mono (by omega)) rfl (jaC (jv 1) (jaC (jv 0) jaN))) jaN)))))))),?_⟩
  refine⟨_,rfl,_,rfl,a,_,us,rss,ys,rfl,ha,hI,⟨y,rfl,hy⟩,hl,by omega,hR,hs,λv H1 s1 D=>?_⟩;obtain⟨W,rfl,l⟩:=D;refine⟨W,rfl,⟨_,SqT.of l⟩,?_⟩;rw[cx]at l;have n:∀j∈(List.range ys.length).filter (λj=>decide (Z7 rss ys j<0)),j<ys.length:=λj g=>aW.mp (aU.mp g).1;have t:((List.range ys.length).filter (λj=>decide (Z7 rss ys j<0))).length<=ys.length:=bf (bK _ _) (by simp);refine a9i (caps:=[some (.ref c),some (.ref y)]) (λ(j:Nat)=>V.int j) (λj=>a8Y (cs.getD j none) (ys.getD j 0)) (by omega) (λH' s=>SqT.of (s _ _ l)) rfl (λj H2 X g s2 q=>?_) λH2 p2 s2 u=>?_
  .have hj':=n j g;refine⟨_,rfl,_,rfl,c,_,_,_,rfl,rfl,SqT.of ((s1.trans s2) _ _ hc),b3k (by omega),rfl,_,rfl,?_⟩;cases e:cs.getD j none with
   |none =>
    rw[e]at q;exact W4 (q _ (Same.refl _))
   |some z =>
    rw[e]at q;refine L5 ⟨_,rfl,_,rfl,y,_,_,_,rfl,rfl,SqT.of ((s1.trans s2) _ _ hy),U8 hj',_,rfl,_,rfl,c,_,_,_,rfl,rfl,SqT.of ((s1.trans s2) _ _ hc),b3k (by omega),?_⟩;rw[e];exact⟨_,_,rfl,rfl,_,rfl,q _ (Same.refl _)⟩
  have I:=(s1.trans s2).upd (o:=.lst ((StP rss cs ys).map λ(j:Nat)=>V.int j)) u;have r:upd H2 p2 (.lst ((StP rss cs ys).map λ(j:Nat)=>V.int j)) p2=some (.lst ((StP rss cs ys).map λ(j:Nat)=>V.int j)):=A1;have C:∀j∈StP rss cs ys,j<ys.length:=λj g=>n j (aU.mp g).1;have U:(StP rss cs ys).length<=ys.length:=bf (bK _ _) t;have S:((List.range ys.length).filter λj=>decide (Z7 rss ys j<0)).filter (λj=>a8Y (cs.getD j none) (ys.getD j 0))=StP rss cs ys:=rfl;rw[S];dsimp only[A9];generalize upd H2 p2 (.lst ((StP rss cs ys).map λ(j:Nat)=>V.int j))=J at I r;refine⟨_,rfl,p2,rfl,⟨_,SqL.of r⟩,?_⟩;refine L7 (xs:=(StP rss cs ys).map λ(j:Nat)=>V.int j) (by rw[aj];omega) (λi qs H'=>Same J H'/\Prs H' qs (bump ys) ((StP rss cs ys).take i)) ⟨Same.refl J,Prs.nil⟩ (λi qs H' _ h=>⟨SqL.of (h.1 _ _ r),by rw[h.2.1];exact bP _ _⟩) ?_ ?_
  .rintro i x qs H' hx ⟨s',hP⟩;rw[aQ]at hx;cases p:(StP rss cs ys)[i]? with
   |none=>rw[p]at hx;cases hx
   |some j =>
    rw[p]at hx;cases hx;have g:=C j (aF p);refine⟨Sub.one,_,rfl,_,rfl,_,rfl,_,ys,j,rfl,⟨y,rfl,(I.trans s') _ _ hy⟩,g,by omega,λv O M D=>?_⟩;refine⟨by show 2<=sizeLine;omega,λZ B=>?_⟩;have m:=(Same.refl O).upd (o:=.tup [.int j,v]) B;refine⟨(s'.trans M).trans m,?_⟩;rw[bj,p];exact((hP.same M).same m).snoc A1 (D.same m)
  .rintro qs H' ⟨s',hP⟩ p4 hp4;rw[aj,bq]at hP;have m:=(Same.refl H').upd (o:=.lst qs) hp4;exact k p4 qs _ ((I.trans s').trans m) A1 (hP.same m)
noncomputable def Bar(fss:LLI)(ys:List Int)(j:Nat):Bool:=fss.any λf=>decide (f.getD j 0=ys.getD j 0) && Bel f ys
inductive IspBarred(vs:List V)(H:Hp)(Q:VK)(E:XK):Prop
 |mk (l:Addr) (y:V) (fs:List V) (fss:LLI) (ys:List Int) (j:Nat) (_:vs=[.ref l,y,.int j]) (_:H l=some (.lst fs)) (_:Its H fs fss) (_:IT H y ys) (_:j<ys.length) (_:ys.length<=1000) (_:(∀f∈fss,f.length=ys.length)) (_:∀H',Same H H'->Q (.bl (Bar fss ys j)) H'):IspBarred  vs H Q E
def a5E:Sp:=λvs H Q E=>IspBarred  vs H Q E
theorem sc_is_barred:FnScope ["found","one","j","answer"] ["found","one","j"] (A4 P8):=⟨rfl,rfl,rfl,by decide +kernel,rfl,by decide +kernel,by decide +kernel⟩
theorem a4H(F:FunAt K mg "is_barred" P8 ["found","one","j"])(T:Tx mg)(b:Ok P w K mg base "below" 1 ["one","other"] a4s):Ok P w K mg base "is_barred" 2 ["found","one","j"] a5E:=by
 refine F.okJ sc_is_barred (λvs H Q E h=>?_) (λv f A q s H vs Q E m h=>?_)
 .obtain⟨l,y,fs,fss,ys,j,rfl,_⟩:=h;rfl
 .obtain⟨l,_,fs,fss,ys,j,rfl,hl,hI,⟨y,rfl,hy⟩,hj,hn,hL,k⟩:=h;refine⟨_,(A3 (L0 (D6 K (jv 0)) (A7 (i:=3) sc_is_barred.nd rfl (Or.inl rfl))
 (A8 (K1 (a7k (a4M (a8z (S2 K (jv 3) (jv 2)) (S2 K (jv 1) (jv 2))) (a2a (I0 K (B1 b (m.mono (by omega)) rfl (jaC (jv 3) (jaC (jv 1) jaN)))))))
 (A8 (B2 a0G))
 E4)))
 (A8 (B2 a0G))),?_⟩
  refine⟨_,rfl,l,rfl,⟨_,SqL.of hl⟩,?_⟩;refine O7 (K:=K) (a:=l) (xs:=fs) (λi σ H'=>Ex1 λo=>An3 (σ=[some (.ref l),some (.ref y),some (.int j),o]) (Same H H') (Bar (fss.take i) ys j=false)) ⟨none,rfl,Same.refl H,rfl⟩ (λi σ H' _ ⟨_,_,s',_⟩=>SqL.of (s' _ _ hl)) ?_ ?_
  .rintro i x σ H' hx ⟨o,rfl,s',hB⟩;obtain⟨r,m,n,p⟩:=hI.mem hx;obtain⟨u,rfl,g⟩:=p.same s';have B:=hL r m;have d:Bar (fss.take (i+1)) ys j=(decide (r.getD j 0=ys.getD j 0) && Bel r ys):=by
    unfold Bar at hB⊢;rw[bj,n,List.any_append,hB];simp
   have c:(decide (r.getD j 0=ys.getD j 0) && Bel r ys)=true->Bar fss ys j=true:=λe=>by
    unfold Bar;rw[cv];exact⟨r,m,e⟩
   dsimp only[A9];refine⟨_,rfl,_,rfl,u,_,_,_,rfl,rfl,SqT.of g,U8 (by omega),_,rfl,_,rfl,y,_,_,_,rfl,rfl,SqT.of (s' _ _ hy),U8 hj,rfl,_,rfl,?_⟩;have z:decide (V.int (r.getD j 0)=V.int (ys.getD j 0))=decide (r.getD j 0=ys.getD j 0):=by simp
   rw[z];cases e:decide (r.getD j 0=ys.getD j 0)with
   |false =>
    rw[e]at d;refine L5 (L5 ?_);exact⟨_,rfl,s',d⟩
   |true =>
    rw[e]at d c;refine W4 ⟨_,rfl,_,rfl,_,_,r,ys,rfl,⟨u,rfl,g⟩,⟨y,rfl,s' _ _ hy⟩,by omega,λH2 s2=>⟨_,rfl,?_⟩⟩;cases t:Bel r ys with
    |false =>
     rw[t]at d;exact L5 ⟨_,rfl,s'.trans s2,d⟩
    |true =>
     rw[t]at c;refine W4 ?_;have:=k H2 (s'.trans s2);rw[c rfl]at this;exact this
  .rintro σ H' ⟨o,rfl,s',hB⟩;rw[hI.1,bq]at hB;have:=k H' s';rw[hB]at this;exact this
end
def Z8(rss:LLI)(cs:List (Option Int))(F:LLI)(u v:List Int):Prop:=∃j,j∈StP rss cs u/\v=bump u j/\Bar F v j=false
theorem a4S{a b:List Int}(h:a.map (Sum.inl:Int->Key)=b.map Sum.inl):a=b:=by
 induction a generalizing b with
 |nil=>cases b with|nil=>rfl|cons _ _=>cases h
 |cons x a c =>
  cases b with
  |nil=>cases h
  |cons y b =>
   injection h with h1 h2
   injection h1 with h1
   rw[h1,c h2]
theorem a2O{kvs:List (List Key×V)}{a:LLI}{r:List Int}(e:kvs.map (·.1)=IK a):J1 kvs (r.map Sum.inl)=none↔r∉a:=by
 constructor
 .intro h hm;refine a5o h ?_;rw[e];exact aT.mpr ⟨r,hm,rfl⟩
 .intro h;cases d:J1 kvs (r.map Sum.inl)with
  |none=>rfl
  |some v =>
   have:=a7N d;rw[e]at this;obtain⟨q,c,b⟩:=aT.mp this;exact absurd (a4S b ▸ c) h
theorem b2v{kvs:List (List Key×V)}{a:LLI}{r:List Int}(e:kvs.map (·.1)=IK a):(J1 kvs (r.map Sum.inl)).isSome=decide (r∈a):=by
 by_cases h:r∈a
 .rw[bh h];cases b:J1 kvs (r.map Sum.inl)with
  |none=>exact absurd h ((a2O e).mp b)
  |some v=>rfl
 .rw[bT h,(a2O e).mpr h];rfl
theorem b2u(r:List Int):(r.map (Sum.inl:Int->Key)).map kV=r.map V.int:=by rw[cx];rfl
theorem b5b{H H':Hp}{vs:List V}{rss:LLI}{d:Addr}{kvs:List (List Key×V)}(h:Its H vs rss)(hd:H d=some (.dT kvs))(o:Off [d] H H'):Its H' vs rss :=
 ⟨h.1,λi v e=>let ⟨r,e1,a,e2,q⟩:=h.2 i v e;⟨r,e1,a,e2,o _ _ (by simpa using K0 q hd (by intro z;cases z)) q⟩⟩
theorem a2r{H H1 H2:Hp}{a:Addr}(s:Same H H1)(c:H a=none)(o:Off [a] H1 H2):Same H H2:=λb u e=>o b u (by simpa using A6 e c) (s b u e)
structure NxPre(H:Hp)(a c f l:Addr)(us:List V)(rss:LLI)(cs:List (Option Int))(fs:List V)(F:LLI)(ls:List V)(L:LLI):Prop where
 ha:H a=some (.tup us)
 hI:Its H us rss
 hc:H c=some (.tup (cs.map cV))
 hf:H f=some (.lst fs)
 hF:Its H fs F
 hl:H l=some (.lst ls)
 hL:Its H ls L
 us1:us.length<=1000
 n1:0<=cs.length
 n2:cs.length<=100
 hR:Rs cs.length rss
 fw:∀v∈F,v.length=cs.length
 lw:∀v∈L,v.length=cs.length/\Sm v
 big:L.length*cs.length+100<=100000
section
variable {P:Program}{w:World}{K:PySem.W.Frag}{mg:Str->Option Value}{base:Heap}
inductive IspNext(vs:List V)(H:Hp)(Q:VK)(E:XK):Prop
 |mk (a c f l:Addr) (r:V) (us:List V) (rss:LLI) (cs:List (Option Int)) (fs:List V) (F:LLI) (ls:List V) (L:LLI) (_:vs=[.ref a,.ref c,.ref f,.ref l,r]) (_:NxPre H a c f l us rss cs fs F ls L) (_:(r=.non∨∃m:Int,r=.int m/\0<=m)) (_:∀p zs tss H',Same H H'->H p=none->H' p=some (.lst zs)->Its H' zs tss->J4 tss->tss.Nodup->(∀v∈tss,∃u∈L,Z8 rss cs F u v)->((∀u∈L,∀v,Z8 rss cs F u v->v∈tss)∨∃m:Int,r=.int m/\m<tss.length)->tss.length<=L.length*cs.length->(∀m:Int,r=.int m->(tss.length:Int)<=m+cs.length)->Q (.ref p) H'):IspNext  vs H Q E
def b0Y:Sp:=λvs H Q E=>IspNext  vs H Q E
theorem sc_next_level:FnScope ["rows","caps","found","level","room","met","one","j","more"] ["rows","caps","found","level","room"] (A4 M9):=⟨rfl,rfl,rfl,by decide +kernel,rfl,by decide +kernel,by decide +kernel⟩
theorem a3r(F':FunAt K mg "next_level" M9 ["rows","caps","found","level","room"])(T:Tx mg)(I:Ok P w K mg base "steps" 4 ["rows","caps","one"] a7Y)(n:Ok P w K mg base "is_barred" 2 ["found","one","j"] a5E):Ok P w K mg base "next_level" 5 ["rows","caps","found","level","room"] b0Y:=by
 refine F'.okJ sc_next_level (λvs H Q E h=>?_) (λc6 f A c3 s H vs Q E hr h=>?_)
 .obtain⟨a,c,f,l,r,us,rss,cs,fs,F,ls,L,rfl,_⟩:=h;rfl
 .obtain⟨a,c,f,l,r,us,rss,cs,fs,F,ls,L,rfl,N,hroom,k⟩:=h;have R:=hr.u60;have hz:(100000:Nat)<=sizeLine:=by rw[a_];decide
  have hbig:=N.big;refine⟨_,(A3 (B3 (i:=5) sc_next_level.nd rfl (Or.inl rfl) a8E)
 (A3 (L0 (D6 K (jv 3)) (A7 (i:=6) sc_next_level.nd rfl (Or.inl rfl))
 (A3 (L0 (D6 K (B1 I (hr.mono (by omega)) rfl (jaC (jv 0) (jaC (jv 1) (jaC (jv 6) jaN))))) (U3 K 2 (C1 (A7 (i:=7) sc_next_level.nd rfl (Or.inl rfl)) (C1 (A7 (i:=8) sc_next_level.nd rfl (Or.inl rfl)) N7)))
 (A8 (K1 (a7k (a4M (a9V R (jv 8) (jv 5) (by with_unfolding_all rfl)) (a2a (O5 (I0 K (B1 n (hr.mono (by omega)) rfl (jaC (jv 2) (jaC (jv 8) (jaC (jv 7) jaN)))))))))
 (A8 (b4R R (jv 5) (jv 8) a0G))
 E4)))
 (A8 (K1 (a7k (a4M (b4Q (jv 4) a8D) (a2a (b2z (b4U rfl T.b_len (jaC (jv 5) jaN)) (jv 4)))))
 (A8 b2C)
 E4))))
 (A8 (B2 (b2G rfl T.b_sorted (jaC (jv 5) jaN)))))),?_⟩
  intro d hd;dsimp only[A9];have s0:=(Same.refl H).upd (o:=.dT []) hd;have e0:upd H d (.dT []) d=some (.dT []):=A1;generalize upd H d (.dT [])=H0 at s0 e0;have fin:∀(kvs:List (List Key×V)) (g:LLI) (σ:L2.St) (H':Hp),σ[5]?=some (some (.ref d))->Same H H'->H' d=some (.dT kvs)->kvs.map (·.1)=IK g->g.Nodup->(∀v∈g,∃u∈L,Z8 rss cs F u v)->((∀u∈L,∀v,Z8 rss cs F u v->v∈g)∨∃m:Int,r=.int m/\m<g.length)->g.length<=L.length*cs.length->(∀m:Int,r=.int m->(g.length:Int)<=m+cs.length) ->
    b6f (tCB a6W (a5v (Z4 5) a0T)) {nx:=λx H'=>Q V.non H',rt:=Q} σ H':=by
   intro kvs g σ H' hσ s' M y D h1 h2 S J;refine⟨_,hσ,d,kvs,g,rfl,M,y,λv t=>?_,λp zs tss hp hI G c0=>?_⟩
   .obtain⟨u,R,j,hj,rfl,_⟩:=h1 v t;rw[J0];have:=aW.mp (aU.mp (aU.mp hj).1).1;omega
   refine k p zs tss _ (s'.upd hp) (s'.free hp) A1 (hI.same ((Same.refl H').upd hp)) c0 (G.symm.nodup D) (λv t=>h1 v (G.mem_iff.mp t)) ?_ (by rw[G.length_eq];exact S) λm e=>by rw[G.length_eq];exact J m e
   rcases h2 with h2|⟨m,e,h2⟩
   .exact .inl λu R v t=>G.mem_iff.mpr (h2 u R v t)
   .exact .inr ⟨m,e,by rw[G.length_eq];exact h2⟩
  refine⟨_,rfl,l,rfl,⟨_,SqL.of (s0 _ _ N.hl)⟩,?_⟩;refine O7 (K:=K) (a:=l) (xs:=ls) (λi σ H'=>Ex5 λo6 W X kvs g=>An9 (σ=[some (.ref a),some (.ref c),some (.ref f),some (.ref l),some r,some (.ref d),o6,W,X]) (Same H H') (H' d=some (.dT kvs)) (kvs.map (·.1)=IK g) (g.Nodup) ((∀v∈g,∃u∈L,Z8 rss cs F u v)) ((∀u∈L.take i,∀v,Z8 rss cs F u v->v∈g)) (g.length<=i*cs.length) (∀m:Int,r=.int m->(g.length:Int)<=m))
   ⟨none,none,none,[],[],rfl,s0,e0,rfl,eV,(λ_ z=>nomatch z),(λ_ z=>by simp at z),by simp,λm e=>?_⟩ (λi σ H' _ h=>by obtain⟨_,_,_,_,_,_,s',_⟩:=h;exact SqL.of (s' _ _ N.hl)) ?_ ?_
  .rcases hroom with e'|⟨m',e',hm'⟩
   .rw[e']at e;cases e
   .rw[e']at e;cases e;simpa using hm'
  .rintro i x σ H' hx ⟨o6,W,X,kvs,g,rfl,s',M,y,D,h1,h2,S,J⟩;obtain⟨ys,b0,b1,c2⟩:=N.hL.mem hx;obtain⟨yw,c4⟩:=N.lw ys b0;have b7:i<L.length:=(aH.mp b1).1;have c9:(i+1)*cs.length<=L.length*cs.length:=Nat.mul_le_mul_right _ b7;have c5:(i+1)*cs.length=i*cs.length+cs.length:=by rw[Nat.add_mul,Nat.one_mul]
   dsimp only[A9];have b3:Rs ys.length rss:=by rw[yw];exact N.hR
   refine⟨_,rfl,_,rfl,_,rfl,a,c,x,us,rss,cs,ys,rfl,s' _ _ N.ha,N.hI.same s',s' _ _ N.hc,c2.same s',N.us1,by rw[yw];exact N.n2,yw.symm,b3,c4,λp1 ps H1 s1 a0 Z=>?_⟩;have C:=s1 _ _ M;have a1:=s'.trans s1;refine⟨p1,rfl,⟨_,SqL.of a0⟩,?_⟩;have c1:∀j∈StP rss cs ys,j<ys.length:=λj hj=>aW.mp (aU.mp (aU.mp hj).1).1;have d2:(StP rss cs ys).length<=cs.length:=by rw[<-yw];exact bf (bK _ _) (bf (bK _ _) (by simp))
   have b5:d≠p1:=K0 C a0 (by intro z;cases z);refine O7 (K:=K) (a:=p1) (xs:=ps) (λU σ H2=>Ex4 λW X kvs g=>An10 (σ=[some (.ref a),some (.ref c),some (.ref f),some (.ref l),some r,some (.ref d),some x,W,X]) (Off [d] H1 H2) (H2 d=some (.dT kvs)) (kvs.map (·.1)=IK g) (g.Nodup) ((∀v∈g,∃u∈L,Z8 rss cs F u v)) ((∀u∈L.take i,∀v,Z8 rss cs F u v->v∈g)) ((∀j∈(StP rss cs ys).take U,Bar F (bump ys j) j=false->bump ys j∈g)) (g.length<=i*cs.length+U) (∀m:Int,r=.int m->(g.length:Int)<=m+U))
    ⟨W,X,kvs,g,rfl,Off.refl _ _,C,y,D,h1,h2,(λ_ z=>by simp at z),S,λm e=>by have:=J m e;omega⟩ (λU σ H2 _ h=>by obtain⟨_,_,_,_,_,o2,_⟩:=h;exact SqL.of (o2 _ _ (by simpa using b5.symm) a0)) ?_ ?_
   .rintro U q σ H2 hq ⟨W,X,kvs,g,rfl,off2,hd2,y,D,h1,h2,h5,S,J⟩;obtain⟨j,b,v,ej,rfl,hb,t⟩:=Z.2 U q hq;obtain⟨va,rfl,a9⟩:=t;have a7:=aF ej;have hj:=c1 j a7;have b4:=off2 _ _ (by simpa using K0 hb C (by intro z;cases z)) hb;have O:=off2 _ _ (by simpa using K0 a9 C (by intro z;cases z)) a9;have a5:=a1 _ _ N.hf;have b6:=off2 _ _ (by simpa using K0 a5 C (by intro z;cases z)) a5;have b2:=b5b (N.hF.same a1) C off2;have c8:U<(StP rss cs ys).length:=(aH.mp ej).1;have b9:kvs.length=g.length:=by
     have:=aL List.length y;simpa[IK]using this
    have Y:∀B:LLI,(∀v∈g,v∈B)->(Bar F (bump ys j) j=false->bump ys j∈B)->∀j'∈(StP rss cs ys).take (U+1),Bar F (bump ys j') j'=false->bump ys j'∈B:=λB a8 b8 j' a6 a3=>by
     rw[bj,ej]at a6;rcases aO.mp a6 with z|z
     .exact a8 _ (h5 j' z a3)
     .have:j'=j:=by simpa using z
      subst this;exact b8 a3
    refine⟨b,[.int j,.ref va],rfl,SqT.of b4,rfl,.int j,[.ref va],rfl,.ref va,[],rfl,rfl,?_⟩;refine⟨_,rfl,_,rfl,d,_,rfl,DGet.t hd2 (by rw[b2u];exact O),_,rfl,?_⟩;rw[b2v y];by_cases hm:bump ys j∈g
    .rw[bh hm];refine L5 (L5 ?_);exact⟨_,_,kvs,g,rfl,off2,hd2,y,D,h1,h2,Y g (λ_ z=>z) (λ_=>hm),by omega,λm e=>by have:=J m e;omega⟩
    .rw[bT hm];refine W4 ⟨_,rfl,_,rfl,_,rfl,f,.ref va,fs,F,bump ys j,j,rfl,b6,b2,⟨va,rfl,O⟩,by rw[J0];exact hj,by rw[J0,yw];have:=N.n2;omega,λv t=>by rw[J0,yw];exact N.fw v t,λH3 s3=>⟨_,rfl,?_⟩⟩;have a4:=s3 _ _ hd2;cases e:Bar F (bump ys j) j with
     |true =>
      refine L5 ?_;exact⟨_,_,kvs,g,rfl,off2.trans s3.off,a4,y,D,h1,h2,Y g (λ_ z=>z) (λz=>by rw[e]at z;cases z),by omega,λm e=>by have:=J m e;omega⟩
     |false =>
      refine W4 ?_;refine⟨_,rfl,_,rfl,d,_,rfl,DPut.t a4 (by rw[b2u];exact s3 _ _ O) (by omega),?_⟩;rw[a5N _ ((a2O y).mpr hm)];refine⟨_,_,_,g++[bump ys j],rfl,(off2.trans s3.off).set (by simp),A1,by rw[bV,y];simp[IK],a1Y D hm,λv t=>?_,λu R v t=>ba _ (h2 u R v t),Y _ (λv t=>ba _ t) (λ_=>by simp),by rw[ax];simp;omega,λm e=>by have:=J m e;rw[ax];simp;omega⟩;rcases aO.mp t with z|z
      .exact h1 v z
      .rw[aA.mp z];exact⟨ys,b0,j,a7,rfl,e⟩
   .rintro σ H2 ⟨W,X,kvs,g,rfl,off2,hd2,y,D,h1,h2,h5,S,J⟩;rw[Z.1,bq]at h5;have b9:kvs.length=g.length:=by
     have:=aL List.length y;simpa[IK]using this
    have d1:=Z.1;have s2:Same H H2:=a2r a1 hd off2;have a2:∀u∈L.take (i+1),∀v,Z8 rss cs F u v->v∈g:=λu R v t=>by
     rw[bj,b1]at R;rcases aO.mp R with z|z
     .exact h2 u z v t
     .have:u=ys:=by simpa using z
      subst this;obtain⟨j,hj,rfl,hb⟩:=t;exact h5 j hj hb
    rcases hroom with rfl|⟨m,rfl,d0⟩
    .refine⟨_,rfl,rfl,_,rfl,L5 (L5 ?_)⟩;exact⟨_,_,_,kvs,g,rfl,s2,hd2,y,D,h1,a2,by omega,λm e=>by cases e⟩
    .refine⟨_,rfl,rfl,_,rfl,W4 ?_⟩;refine⟨_,rfl,d,kvs,rfl,hd2,_,rfl,_,_,rfl,rfl,_,rfl,a4Q (λe=>?_) (λe=>?_)⟩
     .have e':m<(kvs.length:Int):=bO e;have c7:=J m rfl;exact fin kvs g _ H2 rfl s2 hd2 y D h1 (.inr ⟨m,rfl,by omega⟩) (by omega) λm' e2=>by cases e2;omega
     .have e':¬m<(kvs.length:Int):=λz=>e (bh z);exact⟨_,_,_,kvs,g,rfl,s2,hd2,y,D,h1,a2,by omega,λm' e2=>by cases e2;omega⟩
  .rintro σ H' ⟨o6,W,X,kvs,g,rfl,s',M,y,D,h1,h2,S,J⟩;rw[N.hL.1,bq]at h2;exact fin kvs g _ H' rfl s' M y D h1 (.inl h2) (by rw[N.hL.1]at S;exact S) λm e=>by have:=J m e;omega
end
noncomputable def ffl(ra ca:Addr)(b:Bool)(ah af aw:Addr):List (Str×V):=[("rows",.ref ra),("caps",.ref ca),("begun",.bl b),("here",.ref ah),("found",.ref af),("walked",.ref aw)]
section
variable (ra ca ah ah' af aw:Addr) (b b':Bool)
theorem a6m:(ffl ra ca b ah af aw).lookup ("rows" : Str)=some (.ref ra):=by with_unfolding_all rfl
theorem a6n:(ffl ra ca b ah af aw).lookup ("caps" : Str)=some (.ref ca):=by with_unfolding_all rfl
theorem a3S:(ffl ra ca b ah af aw).lookup ("begun" : Str)=some (.bl b):=by with_unfolding_all rfl
theorem W8:(ffl ra ca b ah af aw).lookup ("here" : Str)=some (.ref ah):=by with_unfolding_all rfl
theorem a1j:(ffl ra ca b ah af aw).lookup ("found" : Str)=some (.ref af):=by with_unfolding_all rfl
theorem a3e:(ffl ra ca b ah af aw).lookup ("walked" : Str)=some (.ref aw):=by with_unfolding_all rfl
theorem a5M:K8 "here" (.ref ah') (ffl ra ca b ah af aw)=ffl ra ca b ah' af aw:=by with_unfolding_all rfl
theorem a9x:K8 "begun" (.bl b') (ffl ra ca b ah af aw)=ffl ra ca b' ah af aw:=by with_unfolding_all rfl
theorem a5L:K8 "walked" (.ref aw) (K8 "found" (.ref af) (K8 "here" (.ref ah) (K8 "begun" (.bl b) (K8 "caps" (.ref ca) (K8 "rows" (.ref ra) [])))))=ffl ra ca b ah af aw:=by with_unfolding_all rfl
theorem b3b:(ffl ra ca b ah af aw).lookup ("told" : Str)=none:=by with_unfolding_all rfl
theorem b0h:(ffl ra ca b ah af aw).lookup ("paper" : Str)=none:=by with_unfolding_all rfl
theorem b0i:(ffl ra ca b ah af aw).lookup ("ended" : Str)=none:=by with_unfolding_all rfl
theorem a1K:(ffl ra ca b ah af aw).lookup ("step_within" : Str)=none:=by with_unfolding_all rfl
end
structure FiTx(K:PySem.W.Frag)(C:Addr):Prop where
 cl:Cls K C
 n1:NoAttr K C "rows"
 n2:NoAttr K C "caps"
 n3:NoAttr K C "begun"
 n4:NoAttr K C "here"
 n5:NoAttr K C "found"
 n6:NoAttr K C "walked"
structure FAt(C:Addr)(H:Hp)(p ra ca af aw:Addr)(b:Bool)(L F W:LLI):Prop where
 ob:∃dx ah hs,H p=some (.ins C dx (ffl ra ca b ah af aw))/\H ah=some (.lst hs)/\Its H hs L/\ah≠af/\ah≠aw
 hf:∃fs,H af=some (.lst fs)/\Its H fs F
 hw:∃ws,H aw=some (.lst ws)/\Its H ws W
 ne:af≠aw
theorem FAt.same{C:Addr}{H H':Hp}{p ra ca af aw:Addr}{b:Bool}{L F W:LLI}(h:FAt C H p ra ca af aw b L F W)(s:Same H H'):FAt C H' p ra ca af aw b L F W:=by
 obtain⟨⟨dx,ah,hs,h1,h2,a,c,d⟩,⟨fs,f1,f2⟩,⟨g,e,f⟩,ne⟩:=h;exact⟨⟨dx,ah,hs,s _ _ h1,s _ _ h2,a.same s,c,d⟩,⟨fs,s _ _ f1,f2.same s⟩,⟨g,s _ _ e,f.same s⟩,ne⟩
structure SyAt(H:Hp)(a c:Addr)(rss:LLI)(cs:List (Option Int)):Prop where
 ex:∃us,H a=some (.tup us)/\Its H us rss/\us.length<=1000
 hc:H c=some (.tup (cs.map cV))
 n1:0<=cs.length
 n2:cs.length<=100
 hR:Rs cs.length rss
theorem SyAt.same{H H':Hp}{a c:Addr}{rss:LLI}{cs:List (Option Int)}(h:SyAt H a c rss cs)(s:Same H H'):SyAt H' a c rss cs:=by
 obtain⟨⟨g,h1,h2,b⟩,d,e,f,hR⟩:=h;exact⟨⟨g,s _ _ h1,h2.same s,b⟩,s _ _ d,e,f,hR⟩
structure StR(rss:LLI)(cs:List (Option Int))(b:Bool)(L F:LLI)(r:V)(L':LLI):Prop where
 ri:J4 L'
 nd:L'.Nodup
 fst:b=false->∀v,v∈L'↔v∈L8 cs
 snd:b=true->∀v∈L',∃u∈L,Z8 rss cs F u v
 all:b=true->(∀u∈L,∀v,Z8 rss cs F u v->v∈L')∨∃m:Int,r=.int m/\m<L'.length
 len:L'.length<=cs.length+L.length*cs.length
 few:∀m:Int,r=.int m->(L'.length:Int)<=m+cs.length
theorem N8(n j i:Nat)(hi:i<n):(C5 n j).getD i 0=if i=j then 1 else 0:=by
 unfold C5;simp[ak,hi]
theorem D7(n j:Nat):(C5 n j).length=n:=by simp[C5]
theorem b0g(cs:List (Option Int)):(L8 cs).Nodup:=by
 unfold L8;refine List.Nodup.sublist (List.filter_sublist) ?_;unfold List.Nodup;rw[cw];refine(fZ (n:=cs.length)).imp_of_mem λ{i j} hi b a e=>?_;have h1:(C5 cs.length i).getD i 0=(C5 cs.length j).getD i 0:=aL (λl:List Int=>l.getD i 0) e;rw[N8 _ _ _ (aW.mp hi),N8 _ _ _ (aW.mp hi),az rfl,aq a]at h1;omega
theorem lp{f:Str}{v:V}{fs:List (Str×V)}{k:Nat}(h:fs.length<=k):(K8 f v fs).length<=k+1:=by
 refine bf ?_ (Nat.succ_le_succ h);clear h;induction fs with
 |nil=>exact ao _
 |cons p r a =>
  obtain⟨g,x⟩:=p;show(if g=f then(g,v)::r else(g,x)::K8 f v r).length<=_;split
  .simp
  .simpa using a
section
variable {P:Program}{w:World}{K:PySem.W.Frag}{mg:Str->Option Value}{base:Heap}{C:Addr}
inductive IspFInit(C:Addr)(vs:List V)(H:Hp)(Q:VK)(E:XK):Prop
 |mk (p dx ra ca:Addr) (_:vs=[.ref p,.ref ra,.ref ca]) (_:H p=some (.ins C dx [])) (_:∀(af aw:Addr) (H':Hp),H af=none->H aw=none->FAt C H' p ra ca af aw false [] [] []->(∃dx ah,H' p=some (.ins C dx (ffl ra ca false ah af aw))/\H ah=none)->(∀b o,H b=some o->b≠p->H' b=some o)->Q .non H'):IspFInit C vs H Q E
def a8f(C:Addr):Sp:=λvs H Q E=>IspFInit C vs H Q E
theorem a0g:FnScope ["self","rows","caps"] ["self","rows","caps"] (A4 E9):=⟨rfl,rfl,rfl,by decide +kernel,rfl,by decide +kernel,by decide +kernel⟩
theorem b2g(J:MethAt K C "__init__" "Finder.__init__" E9 ["self","rows","caps"])(U:FiTx K C):MethOk P w K mg base C "__init__" 1 ["self","rows","caps"] (a8f C):=by
 refine J.fnJ a0g (λvs H Q E h=>?_) (λL f A G s H vs Q E M h=>?_)
 .obtain⟨p,dx,ra,ca,rfl,_⟩:=h;rfl
 .obtain⟨p,dx,ra,ca,rfl,hp,k⟩:=h;refine⟨_,(A3 (T9 K (jv 0) (jv 1))
 (A3 (T9 K (jv 0) (jv 2))
 (A3 (T9 K (jv 0) a0G)
 (A3 (T9 K (jv 0) (I9 jaN))
 (A3 (T9 K (jv 0) (I9 jaN))
 (A8 (T9 K (jv 0) (I9 jaN)))))))),?_⟩
  have t:([]:List (Str×V)).length<=0:=ao _;refine⟨_,rfl,_,rfl,p,C,dx,_,rfl,hp,U.cl,U.n1,fF t (by decide),?_⟩;refine⟨_,rfl,_,rfl,p,C,dx,_,rfl,A1,U.cl,U.n2,fF (lp t) (by decide),?_⟩;rw[a4l];refine⟨_,rfl,p,C,dx,_,rfl,A1,U.cl,U.n3,fF (lp (lp t)) (by decide),?_⟩;rw[a4l];generalize F:K8 "begun" (V.bl false) (K8 "caps" (.ref ca) (K8 "rows" (.ref ra) []))=r;have I:r.length<=3:=by rw[<-F];exact lp (lp (lp t))
  have k1:∀b o,H b=some o->b≠p->upd H p (.ins C dx r) b=some o:=λb o e c=>by rw[A5 c];exact e
  have D:upd H p (.ins C dx r) p=some (.ins C dx r):=A1;have u:∀b,upd H p (.ins C dx r) b=none->H b=none:=λb e=>by
   by_cases c:b=p
   .subst c;rw[A1]at e;cases e
   .rwa[A5 c]at e
  generalize upd H p (.ins C dx r)=H1 at k1 D u;refine⟨bp _,λah n=>?_⟩;have x:p≠ah:=A6 D n;refine⟨_,rfl,p,C,dx,_,rfl,by rw[A5 x];exact D,U.cl,U.n4,by omega,?_⟩;refine⟨bp _,λaf m=>?_⟩;have y:p≠af:=λz=>by subst z;rw[A1]at m;cases m
  have g:upd H1 ah (.lst []) af=none:=by rwa[A5 y.symm]at m
  have j:ah≠af:=A6 (o:=.lst []) A1 g;have d:H1 af=none:=by rwa[A5 j.symm]at g
  refine⟨_,rfl,p,C,dx,_,rfl,by rw[A5 y];exact A1,U.cl,U.n5,by have:=lp (f:="here") (v:=.ref ah) I;omega,?_⟩;refine⟨bp _,λaw q=>?_⟩;have B:p≠aw:=λz=>by subst z;rw[A1]at q;cases q
  have a:=q;rw[A5 B.symm]at a;have i:af≠aw:=A6 (o:=.lst []) A1 a;rw[A5 i.symm,A5 B.symm]at a;have l:ah≠aw:=A6 (o:=.lst []) A1 a;rw[A5 l.symm]at a;refine⟨_,rfl,p,C,dx,_,rfl,by rw[A5 B];exact A1,U.cl,U.n6,by have:=lp (f:="found") (v:=.ref af) (lp (f:="here") (v:=.ref ah) I);omega,?_⟩;refine k af aw _ (u _ d) (u _ a) ⟨⟨dx,ah,[],?_,?_,.nil,j,l⟩,⟨[],?_,.nil⟩,⟨[],?_,.nil⟩,i⟩ ⟨dx,ah,by rw[A1,<-F,<-a5L],u _ n⟩ λb o e c=>?_
  .rw[A1,<-F,<-a5L]
  .rw[A5 x.symm,A5 l,A5 x.symm,A5 j,A5 x.symm,A1]
  .rw[A5 y.symm,A5 i,A5 y.symm,A1]
  .rw[A5 B.symm,A1]
  .have e2:=k1 b o e c;rw[A5 c,A5 (A6 e2 a),A5 c,A5 (A6 e2 d),A5 c,A5 (A6 e2 n)];exact e2
theorem a8I{H:Hp}:∀{vs c:List V}{rss tss:LLI},Its H vs rss->Its H c tss->Its H (vs++c) (rss++tss):=by
 intro vs c rss tss h g;refine⟨by rw[ax,ax,h.1,g.1],λi v e=>?_⟩;rcases Nat.lt_or_ge i vs.length with hi|hi
 .rw[br hi]at e;obtain⟨r,a,b⟩:=h.2 i v e;exact⟨r,by rw[br (by rw[<-h.1];exact hi)];exact a,b⟩
 .rw[aX hi]at e;obtain⟨r,a,b⟩:=g.2 _ v e;exact⟨r,by rw[aX (by rw[<-h.1];exact hi),<-h.1];exact a,b⟩
theorem a0H{H:Hp}{vs:List V}{rss:LLI}{c:Addr}{o o':HO}(h:Its H vs rss)(b:H c=some o)(d:∀xs,HO.tup xs≠o):Its (upd H c o') vs rss :=
 ⟨h.1,λi v e=>let ⟨r,e1,a,e2,q⟩:=h.2 i v e;⟨r,e1,a,e2,by rw[A5 (K0 q b (d _))];exact q⟩⟩
theorem a2V{H H':Hp}{vs:List V}{rss:LLI}{c:Addr}{o:HO}(h:Its H vs rss)(b:H c=some o)(d:∀xs,HO.tup xs≠o)(off:Off [c] H H'):Its H' vs rss :=
 ⟨h.1,λi v e=>let ⟨r,e1,a,e2,q⟩:=h.2 i v e;⟨r,e1,a,e2,off _ _ (by simpa using K0 q b (d _)) q⟩⟩
theorem b3H{H H':Hp}{a c:Addr}{rss:LLI}{cs:List (Option Int)}{b:Addr}{o:HO}(h:SyAt H a c rss cs)(d:H b=some o)(e:∀xs,HO.tup xs≠o)(off:Off [b] H H'):SyAt H' a c rss cs:=by
 obtain⟨⟨k,h1,h2,g⟩,f,i,j,hR⟩:=h;exact⟨⟨k,off _ _ (by simpa using K0 h1 d (e _)) h1,a2V h2 d e off,g⟩,off _ _ (by simpa using K0 f d (e _)) f,i,j,hR⟩
theorem b3L{u:List Int}{B:Int}{j:Nat}(h:∀x∈u,0<=x/\x<=B)(b:B<=2 ^ 60):∀x∈bump u j,0<=x/\x<=2 ^ 60+1:=by
 intro x a;unfold bump at a;rcases dS a with z|z
 .have:=h x z;omega
 .by_cases hj:j<u.length
  .have:=h _ (cz (h:=hj));rw[ak,ai hj]at z;simp at z;omega
  .rw[ak,bL (by omega)]at z;simp at z;omega
inductive IspStepW(C:Addr)(vs:List V)(H:Hp)(Q:VK)(E:XK):Prop
 |mk (p ra ca af aw:Addr) (b:Bool) (L F W rss:LLI) (cs:List (Option Int)) (r:V) (B:Int) (_:vs=[.ref p,r]) (_:FAt C H p ra ca af aw b L F W) (_:SyAt H ra ca rss cs) (_:(r=.non∨∃m:Int,r=.int m/\0<=m)) (_:(∀v∈L,v.length=cs.length/\∀x∈v,0<=x/\x<=B)) (_:B<=2 ^ 60) (_:(∀v∈F,v.length=cs.length)) (_:L.length*cs.length+100<=100000) (_:F.length<=100000) (_:W.length<=100000) (_:∀L' H',StR rss cs b L F r L'->FAt C H' p ra ca af aw true L' (F++L'.filter λv=>Ans rss v) (W++L')->(∃dx ah,H' p=some (.ins C dx (ffl ra ca true ah af aw))/\H ah=none)->Off [p,af,aw] H H'->Q (.int L'.length) H'):IspStepW C vs H Q E
def a4p(C:Addr):Sp:=λvs H Q E=>IspStepW C vs H Q E
theorem b1o{σ:L2.St}{i j:Nat}{C p ra ca af aw:Addr}{b:Bool}{L F W rss:LLI}{cs:List (Option Int)}{r:V}{B:Int}{H:Hp}{Q:VK}(hi:σ[i]?=some (some (.ref p)))(l:σ[j]?=some (some r))(D:FAt C H p ra ca af aw b L F W)(Y:SyAt H ra ca rss cs)(h1:r=.non∨∃m:Int,r=.int m/\0<=m)(h2:∀v∈L,v.length=cs.length/\∀x∈v,0<=x/\x<=B)(d:B<=2 ^ 60)(e:∀v∈F,v.length=cs.length)(f:L.length*cs.length+100<=100000)(g:F.length<=100000)(h:W.length<=100000)
  (k:∀a H',StR rss cs b L F r a->FAt C H' p ra ca af aw true a (F++a.filter λv=>Ans rss v) (W++a)->(∃dx ah,H' p=some (.ins C dx (ffl ra ca true ah af aw))/\H ah=none)->Off [p,af,aw] H H'->Q (.int a.length) H'):a1s C "step_within" (a4p C) [] E0 (Z4 i) (a5v (Z4 j) a0T) σ H Q:=by
 obtain⟨⟨dx,ah,hs,c,_⟩,_,_,_⟩:=id D;exact⟨_,hi,p,dx,_,rfl,c,a1K _ _ _ _ _ _,_,l,p,ra,ca,af,aw,b,L,F,W,rss,cs,r,B,rfl,D,Y,h1,h2,d,e,f,g,h,k⟩
theorem V2:FnScope ["self","room"] ["self","room"] (A4 C9):=⟨rfl,rfl,rfl,by decide +kernel,rfl,by decide +kernel,by decide +kernel⟩
theorem b2b(FM:MethAt K C "step_within" "Finder.step_within" C9 ["self","room"])(U:FiTx K C)(T:Tx mg)(d:Ok P w K mg base "next_level" 5 ["rows","caps","found","level","room"] b0Y)(a:Ok P w K mg base "first_steps" 2 ["caps"] a8d)(n:Ok P w K mg base "is_answer" 3 ["rows","one"] a8c) :
  MethOk P w K mg base C "step_within" 6 ["self","room"] (a4p C):=by
 refine FM.fnJ V2 (λvs H Q E h=>?_) (λc8 f A c4 s H vs Q E hr h=>?_)
 .obtain⟨p,ra,ca,af,aw,b,L,F,W,rss,cs,r,B,rfl,_⟩:=h;rfl
 .obtain⟨p,ra,ca,af,aw,b,L,F,W,rss,cs,r,B,rfl,D,Y,hroom,hL,hB,hF,hbig,hF1,hW1,k⟩:=h;have hz:(300000:Nat)<=sizeLine:=by rw[a_];decide
  obtain⟨⟨dx,ah,hs,h1,h2,h3,h4,h5⟩,⟨fs,f1,f2⟩,⟨ws,w1,w2⟩,ne⟩:=id D;have b4:p≠af:=K0 h1 f1 (by intro z;cases z);have b5:p≠aw:=K0 h1 w1 (by intro z;cases z);refine⟨_,(A3 (K1 (I0 K (M6 K (jv 0)))
 (A8 (T9 K (jv 0) (B1 d (hr.mono (by omega)) rfl (jaC (M6 K (jv 0)) (jaC (M6 K (jv 0)) (jaC (M6 K (jv 0)) (jaC (M6 K (jv 0)) (jaC (jv 1) jaN))))))))
 (A3 (T9 K (jv 0) (a8C K rfl T.b_list (jaC (B1 a (hr.mono (by omega)) rfl (jaC (M6 K (jv 0)) jaN)) jaN)))
 (A8 (T9 K (jv 0) a0G))))
 (A3 (U0 (a3N K (M6 K (jv 0)) (jaC (B7 (N:=["one","self"]) (src:=[none,some 0]) (D6 K (M6 K (jv 0))) (by show C0 _ _=true;rfl) (by rfl) (by rfl)
 (λ_ _ _ _ _=>(A7 (i:=0) (show(["one","self"]:List Str).Nodup by decide +kernel) rfl (Or.inl rfl))) (λ_ _ _ _ _=>(a2Q (I0 K (B1 n (hr.mono (by omega)) rfl (jaC (M6 K (jv 1)) (jaC (jv 0) jaN)))))) (λ_ _ _ _ _=>(jv 0))) jaN)))
 (A3 (U0 (a3N K (M6 K (jv 0)) (jaC (M6 K (jv 0)) jaN)))
 (A8 (B2 (O6 K rfl T.b_len (jaC (M6 K (jv 0)) jaN))))))),?_⟩
  refine a1P (λσ H'=>σ=[some (.ref p),some r]/\∃ah' c S,H' p=some (.ins C dx (ffl ra ca true ah' af aw))/\H' ah'=some (.lst c)/\Its H' c S/\H ah'=none/\StR rss cs b L F r S/\Off [p] H H'/\∀v∈S,v.length=cs.length/\Sm v) ?fin λfin=>?_
  case fin =>
   rintro σ H1 ⟨rfl,ah',c,S,p1,a1,i1,a0,R,g,b9⟩;have c1:=Y.n2;have b2:S.length<=100000:=by have:=R.len;omega
   have a7:=g _ _ (by simpa using b4.symm) f1;have c6:=g _ _ (by simpa using b5.symm) w1;have b7:=a2V f2 h1 (λ_ z=>by cases z) g;have c7:=a2V w2 h1 (λ_ z=>by cases z) g;have Y1:=b3H Y h1 (λ_ z=>by cases z) g;have a8:ah'≠af:=(A6 f1 a0).symm;have b0:ah'≠aw:=(A6 w1 a0).symm;have c9:p≠ah':=A6 h1 a0;refine⟨_,rfl,p,C,dx,_,_,rfl,p1,U.cl,U.n5,a1j _ _ _ _ _ _,.inl ⟨rfl,_,SqL.of a7⟩,?_⟩;refine⟨_,rfl,p,C,dx,_,_,rfl,p1,U.cl,U.n4,W8 _ _ _ _ _ _,ah',rfl,⟨_,SqL.of a1⟩,?_⟩;refine a2J (caps:=[some (.ref p)]) (λv=>Ans rss v) (by rw[i1.1];omega) (λH2 s2=>SqL.of (s2 _ _ a1)) i1 rfl (λv r' H2 Q2 c3 Z s2 q=>?_) λH2 p2 zs s2 b3 M=>?_
   .obtain⟨⟨us,u1,u2,u3⟩,_,_,_,hR⟩:=Y1.same s2;refine⟨_,rfl,p,C,dx,_,_,rfl,s2 _ _ p1,U.cl,U.n1,a6m _ _ _ _ _ _,_,rfl,ra,v,us,rss,r',rfl,u1,u2,Z,u3,λr hr=>by rw[(hR r hr).1];omega,(b9 r' c3).2,λJ t=>⟨_,rfl,q J t⟩⟩
   have c0:(S.filter λv=>Ans rss v).length<=S.length:=bK _ _;have t:=s2.upd (o:=.lst zs) b3;have c5:=(Same.refl H2).upd (o:=.lst zs) b3;have e3:upd H2 p2 (.lst zs) p2=some (.lst zs):=A1;have y:=M.same c5;generalize upd H2 p2 (.lst zs)=J at t e3 y;have f3:=t _ _ a7;refine⟨af,p2,fs,zs,rfl,rfl,f3,e3,by rw[f2.1,M.1];omega,?_⟩;have p4:upd J af (.lst (fs++zs)) p=some (.ins C dx (ffl ra ca true ah' af aw)):=by rw[A5 b4];exact t _ _ p1
   have w4:upd J af (.lst (fs++zs)) aw=some (.lst ws):=by rw[A5 ne.symm];exact t _ _ c6
   have a4:upd J af (.lst (fs++zs)) ah'=some (.lst c):=by rw[A5 a8];exact t _ _ a1
   refine⟨_,rfl,p,C,dx,_,_,rfl,p4,U.cl,U.n6,a3e _ _ _ _ _ _,.inl ⟨rfl,_,SqL.of w4⟩,?_⟩;refine⟨_,rfl,p,C,dx,_,_,rfl,p4,U.cl,U.n4,W8 _ _ _ _ _ _,aw,ah',ws,c,rfl,rfl,w4,a4,by rw[w2.1,i1.1];omega,?_⟩;have p5:upd (upd J af (.lst (fs++zs))) aw (.lst (ws++c)) p=some (.ins C dx (ffl ra ca true ah' af aw)):=by rw[A5 b5];exact p4
   have a5:upd (upd J af (.lst (fs++zs))) aw (.lst (ws++c)) ah'=some (.lst c):=by rw[A5 b0];exact a4
   refine⟨_,rfl,p,C,dx,_,_,rfl,p5,U.cl,U.n4,W8 _ _ _ _ _ _,ah',_,rfl,.inl (SqL.of a5),?_⟩;rw[i1.1];have I:∀{vs:List V}{rss:LLI},Its J vs rss->Its (upd (upd J af (.lst (fs++zs))) aw (.lst (ws++c))) vs rss:=λh=>a0H (a0H h f3 (λ_ z=>by cases z)) w4 (λ_ z=>by cases z);refine k S _ R ⟨⟨dx,ah',c,p5,a5,I (i1.same t),a8,b0⟩,⟨fs++zs,by rw[A5 ne];exact A1,I (a8I (b7.same t) y)⟩,⟨ws++c,A1,I (a8I (c7.same t) (i1.same t))⟩,ne⟩ ⟨dx,ah',p5,a0⟩ λb o hb e=>?_;have a2:b≠p/\b≠af/\b≠aw:=by simpa using hb
   rw[A5 a2.2.2,A5 a2.2.1];exact t _ _ (g _ _ (by simpa using a2.1) e)
  refine⟨_,rfl,p,C,dx,_,_,rfl,h1,U.cl,U.n3,a3S _ _ _ _ _ _,b,rfl,?_⟩;obtain⟨us,u1,u2,u3⟩:=Y.ex;have c1:=Y.n2;cases b with
  |true =>
   refine W4 ?_;refine⟨_,rfl,p,C,dx,_,_,rfl,h1,U.cl,U.n1,a6m _ _ _ _ _ _,_,rfl,p,C,dx,_,_,rfl,h1,U.cl,U.n2,a6n _ _ _ _ _ _,_,rfl,p,C,dx,_,_,rfl,h1,U.cl,U.n5,a1j _ _ _ _ _ _,_,rfl,p,C,dx,_,_,rfl,h1,U.cl,U.n4,W8 _ _ _ _ _ _,_,rfl,?_⟩;refine⟨ra,ca,af,ah,r,us,rss,cs,fs,F,hs,L,rfl,⟨u1,u2,Y.hc,f1,f2,h2,h3,u3,Y.n1,Y.n2,Y.hR,hF,λv Z=>⟨(hL v Z).1,λx hx=>by have:=(hL v Z).2 x hx;omega⟩,hbig⟩,hroom,λp9 zs tss H9 s9 G h9 b8 a6 c2 X a9 b2 b1=>?_⟩;have b6:=s9 _ _ h1;have a3:p≠p9:=A6 h1 G;refine⟨_,rfl,p,C,dx,_,rfl,b6,U.cl,U.n4,by show 6<1000;decide,?_⟩;rw[a5M];refine fin _ _ ⟨rfl,p9,zs,tss,A1,by rw[A5 a3.symm];exact h9,a0H b8 b6 (λ_ z=>by cases z),G,⟨a6,c2,(λz=>by cases z),λ_=>X,λ_=>a9,by omega,b1⟩,s9.off.set (by simp),λv Z=>?_⟩;obtain⟨u,hu,j,_,rfl,_⟩:=X v Z;have:=b3L (j:=j) (hL u hu).2 hB;exact⟨by rw[J0];exact(hL u hu).1,λx hx=>by have:=this x hx;omega⟩
  |false =>
   refine L5 ?_;refine⟨_,rfl,p,C,dx,_,_,rfl,h1,U.cl,U.n2,a6n _ _ _ _ _ _,ca,cs,rfl,Y.hc,Y.n1,Y.n2,λq zs tss H2 s2 hq M O a6=>?_⟩;refine⟨q,zs,rfl,.inr (SqT.of hq),λl hl=>?_⟩;have p3:=C8 (o:=.lst zs) (s2 _ _ h1) hl;have t:=s2.upd (o:=.lst zs) hl;have y:=M.same ((Same.refl H2).upd (o:=.lst zs) hl);have e3:upd H2 l (.lst zs) l=some (.lst zs):=A1;have G:=s2.free hl;generalize upd H2 l (.lst zs)=J at p3 t y e3;refine⟨_,rfl,p,C,dx,_,rfl,p3,U.cl,U.n4,by show 6<1000;decide,?_⟩;rw[a5M];refine⟨_,rfl,p,C,dx,_,rfl,A1,U.cl,U.n3,by show 6<1000;decide,?_⟩;rw[a4l,a9x];have a3:p≠l:=A6 h1 G;have c0:(L8 cs).length<=cs.length:=bf (bK _ _) (by simp);have d0:=O.length_eq;refine fin _ _ ⟨rfl,l,zs,tss,A1,by rw[A5 a3.symm];exact e3,a0H y p3 (λ_ z=>by cases z),G,⟨a6,O.symm.nodup (b0g cs),λ_ v=>O.mem_iff,(λz=>by cases z),(λz=>by cases z),by omega,λm e=>?_⟩,t.off.set (by simp),λv Z=>?_⟩
   .rcases hroom with z|⟨m',z,hm'⟩
    .rw[z]at e;cases e
    .rw[z]at e;cases e;omega
   .obtain⟨j,_,rfl⟩:=aT.mp (aU.mp (O.mem_iff.mp Z)).1;refine⟨D7 _ _,λx hx=>?_⟩;unfold C5 at hx;obtain⟨i,_,rfl⟩:=aT.mp hx;split<;>omega
inductive IspEnded(C:Addr)(vs:List V)(H:Hp)(Q:VK)(E:XK):Prop
 |mk (p ra ca af aw:Addr) (b:Bool) (L F W:LLI) (_:vs=[.ref p]) (_:FAt C H p ra ca af aw b L F W) (_:Q (.bl (b && decide (L=[]))) H):IspEnded C vs H Q E
def a4r(C:Addr):Sp:=λvs H Q E=>IspEnded C vs H Q E
theorem b1q{σ:L2.St}{i:Nat}{C p ra ca af aw:Addr}{b:Bool}{L F W:LLI}{H:Hp}{Q:VK}(hi:σ[i]?=some (some (.ref p)))(D:FAt C H p ra ca af aw b L F W)(k:Q (.bl (b && decide (L=[]))) H):a1s C "ended" (a4r C) [] E0 (Z4 i) a0T σ H Q:=by
 obtain⟨⟨dx,ah,hs,a,_⟩,_,_,_⟩:=id D;exact⟨_,hi,p,dx,_,rfl,a,b0i _ _ _ _ _ _,p,ra,ca,af,aw,b,L,F,W,rfl,D,k⟩
theorem a1G:FnScope ["self"] ["self"] (A4 K7):=⟨rfl,rfl,rfl,by decide +kernel,rfl,by decide +kernel,by decide +kernel⟩
theorem b2i(c:MethAt K C "ended" "Finder.ended" K7 ["self"])(U:FiTx K C)(T:Tx mg):MethOk P w K mg base C "ended" 1 ["self"] (a4r C):=by
 refine c.fnJ a1G (λvs H Q E h=>?_) (λd f A a s H vs Q E l h=>?_)
 .obtain⟨p,ra,ca,af,aw,b,L,F,W,rfl,_⟩:=h;rfl
 .obtain⟨p,ra,ca,af,aw,b,L,F,W,rfl,D,k⟩:=h;obtain⟨⟨dx,ah,hs,h1,h2,g,i,j⟩,⟨fs,f1,f2⟩,⟨o,m,n⟩,ne⟩:=id D;refine⟨_,(A8 (B2 (b2N (M6 K (jv 0)) (b2K (a1y (O6 K rfl T.b_len (jaC (M6 K (jv 0)) jaN)) A2))))),?_⟩;refine⟨_,rfl,p,C,dx,_,_,rfl,h1,U.cl,U.n3,a3S _ _ _ _ _ _,?_⟩;refine⟨b,rfl,?_⟩;cases b with
  |false=>exact L5 k
  |true =>
   refine W4 ⟨_,rfl,p,C,dx,_,_,rfl,h1,U.cl,U.n4,W8 _ _ _ _ _ _,ah,_,rfl,.inl (SqL.of h2),rfl,?_⟩;have e:decide (V.int (hs.length:Int)=V.int 0)=decide (L=[]):=by
    rw[g.1];cases L with
    |nil=>simp
    |cons x L=>simp;omega
   rw[e];exact k
inductive IspTold(C:Addr)(vs:List V)(H:Hp)(Q:VK)(E:XK):Prop
 |mk (p ra ca af aw:Addr) (b:Bool) (L F W:LLI) (_:vs=[.ref p]) (_:FAt C H p ra ca af aw b L F W) (_:(∀v∈F,0<v.length)) (_:∀q zs tss H',Same H H'->H' q=some (.tup zs)->Its H' zs tss->tss.Perm F->J4 tss->Q (.ref q) H'):IspTold C vs H Q E
def a6M(C:Addr):Sp:=λvs H Q E=>IspTold C vs H Q E
theorem b4a{σ:L2.St}{i:Nat}{C p ra ca af aw:Addr}{b:Bool}{L F W:LLI}{H:Hp}{Q:VK}(hi:σ[i]?=some (some (.ref p)))(D:FAt C H p ra ca af aw b L F W)(h:∀v∈F,0<v.length)(k:∀q zs tss H',Same H H'->H' q=some (.tup zs)->Its H' zs tss->tss.Perm F->J4 tss->Q (.ref q) H'):a1s C "told" (a6M C) [] E0 (Z4 i) a0T σ H Q:=by
 obtain⟨⟨dx,ah,hs,a,_⟩,_,_,_⟩:=id D;exact⟨_,hi,p,dx,_,rfl,a,b3b _ _ _ _ _ _,p,ra,ca,af,aw,b,L,F,W,rfl,D,h,k⟩
theorem a2q:FnScope ["self"] ["self"] (A4 M0):=⟨rfl,rfl,rfl,by decide +kernel,rfl,by decide +kernel,by decide +kernel⟩
theorem b4G(e:MethAt K C "told" "Finder.told" M0 ["self"])(U:FiTx K C)(T:Tx mg):MethOk P w K mg base C "told" 1 ["self"] (a6M C):=by
 refine e.fnJ a2q (λvs H Q E h=>?_) (λg f A d s H vs Q E u h=>?_)
 .obtain⟨p,ra,ca,af,aw,b,L,F,W,rfl,_⟩:=h;rfl
 .obtain⟨p,ra,ca,af,aw,b,L,F,W,rfl,D,hF,k⟩:=h;obtain⟨⟨dx,ah,hs,h1,h2,n,r,t⟩,⟨fs,f1,f2⟩,⟨y,v,x⟩,ne⟩:=id D;refine⟨_,(A8 (B2 (B4 K rfl T.b_tuple (jaC (a2R K rfl T.b_sorted (jaC (M6 K (jv 0)) jaN)) jaN)))),?_⟩;refine⟨_,rfl,p,C,dx,_,_,rfl,h1,U.cl,U.n5,a1j _ _ _ _ _ _,af,fs,F,rfl,.inl (SqL.of f1),f2,hF,λl zs tss j i a c _=>?_⟩;refine⟨l,_,rfl,.inl ⟨SqL.of A1,λq m=>?_⟩⟩;have s2:=((Same.refl H).upd (o:=.lst zs) j).upd (o:=.tup zs) m;exact k q zs tss _ s2 A1 (i.same s2) a c
inductive IspPaper(C:Addr)(vs:List V)(H:Hp)(Q:VK)(E:XK):Prop
 |mk (p ra ca af aw:Addr) (b:Bool) (L F W:LLI) (_:vs=[.ref p]) (_:FAt C H p ra ca af aw b L F W) (_:∀q zs H',Same H H'->H' q=some (.tup zs)->Its H' zs W->Q (.ref q) H'):IspPaper C vs H Q E
def a4q(C:Addr):Sp:=λvs H Q E=>IspPaper C vs H Q E
theorem b1p{σ:L2.St}{i:Nat}{C p ra ca af aw:Addr}{b:Bool}{L F W:LLI}{H:Hp}{Q:VK}(hi:σ[i]?=some (some (.ref p)))(D:FAt C H p ra ca af aw b L F W)(k:∀q zs H',Same H H'->H' q=some (.tup zs)->Its H' zs W->Q (.ref q) H'):a1s C "paper" (a4q C) [] E0 (Z4 i) a0T σ H Q:=by
 obtain⟨⟨dx,ah,hs,a,_⟩,_,_,_⟩:=id D;exact⟨_,hi,p,dx,_,rfl,a,b0h _ _ _ _ _ _,p,ra,ca,af,aw,b,L,F,W,rfl,D,k⟩
theorem a1F:FnScope ["self"] ["self"] (A4 K6):=⟨rfl,rfl,rfl,by decide +kernel,rfl,by decide +kernel,by decide +kernel⟩
theorem b2d(d:MethAt K C "paper" "Finder.paper" K6 ["self"])(U:FiTx K C)(T:Tx mg):MethOk P w K mg base C "paper" 1 ["self"] (a4q C):=by
 refine d.fnJ a1F (λvs H Q E h=>?_) (λe f A a s H vs Q E r h=>?_)
 .obtain⟨p,ra,ca,af,aw,b,L,F,W,rfl,_⟩:=h;rfl
 .obtain⟨p,ra,ca,af,aw,b,L,F,W,rfl,D,k⟩:=h;obtain⟨⟨dx,ah,hs,h1,h2,l,m,n⟩,⟨fs,f1,f2⟩,⟨c,i,j⟩,ne⟩:=id D;refine⟨_,(A8 (B2 (B4 K rfl T.b_tuple (jaC (M6 K (jv 0)) jaN)))),?_⟩;refine⟨_,rfl,p,C,dx,_,_,rfl,h1,U.cl,U.n6,a3e _ _ _ _ _ _,aw,_,rfl,.inl ⟨SqL.of i,λq g=>?_⟩⟩;have s2:=(Same.refl H).upd (o:=.tup c) g;exact k q c _ s2 A1 (j.same s2)
end
inductive Wk(rss:LLI)(cs:List (Option Int)):LLI->LLI->LLI->Nat->Prop
 |one {L:LLI}(ri:J4 L) (nd:L.Nodup) (h:∀v,v∈L↔v∈L8 cs):Wk rss cs (L.filter λv=>Ans rss v) L L 1
 |more {F W L L':LLI}{k:Nat}(h:Wk rss cs F W L k) (ne:L≠[]) (ri:J4 L') (nd:L'.Nodup) (hm:∀v,v∈L'↔∃u∈L,Z8 rss cs F u v):Wk rss cs (F++L'.filter λv=>Ans rss v) (W++L') L' (k+1)
def b3y(rss:LLI)(cs:List (Option Int))(most:Int):Prop:=∃F W L k,Wk rss cs F W L k/\(most<W.length∨(L≠[]/\∃L':LLI,L'.Nodup/\(∀v∈L',∃u∈L,Z8 rss cs F u v)/\most<W.length+L'.length))
theorem b2m{v:List Int}(h:∀x∈v,0<=x):∀x∈v,x<=v.sum:=by
 induction v with
 |nil=>intro x a;cases a
 |cons y v c =>
  intro x a;have h1:=h y au;have h2:=b0W v λz b=>h z (ar _ b);rw[bF];rcases aE.mp a with rfl|a
  .omega
  .have:=c (λz b=>h z (ar _ b)) x a;omega
theorem b5j{u:List Int}{j:Nat}(h:∀x∈u,0<=x):∀x∈bump u j,0<=x:=by
 intro x a;unfold bump at a;rcases dS a with z|z
 .exact h x z
 .by_cases hj:j<u.length
  .have:=h _ (cz (h:=hj));rw[ak,ai hj]at z;simp at z;omega
  .rw[ak,bL (by omega)]at z;simp at z;omega
theorem a5q(n j:Nat):∀x∈C5 n j,0<=x:=by
 intro x a;unfold C5 at a;obtain⟨i,_,rfl⟩:=aT.mp a;split<;>omega
theorem a2j(n j:Nat)(c:j<n):C5 n j=bump (List.replicate n 0) j:=by
 refine fc (by rw[D7,J0,aK]) λi h1 h2=>?_;rw[D7]at h1;have a:=N8 n j i h1;have b:=a0N (List.replicate n 0) j i (by simpa using c);rw[ak,ai (by rw[D7];exact h1)]at a;rw[ak,ai h2]at b;simp only[Option.getD_some]at a b;rw[a,b];simp only[ak,dD,c,h1,ei];by_cases e:i=j<;>simp[e]
theorem b1n(n:Nat):(List.replicate n (0:Int)).sum=0:=by
 induction n with
 |zero=>rfl
 |succ n a=>rw[bH,bF,a];rfl
theorem a0S(n j:Nat)(a:j<n):(C5 n j).sum=1:=by
 rw[a2j n j a,a6A _ _ (by simpa using a),b1n];rfl
theorem a2m{rss:LLI}{cs:List (Option Int)}{u:List Int}{j:Nat}(h:j∈StP rss cs u):j<u.length/\Z7 rss u j<0/\a8Y (cs.getD j none) (u.getD j 0)=true:=by
 unfold StP at h;rw[aU,aU,aW,bY]at h;exact⟨h.1.1,h.1.2,h.2⟩
structure LvF(n k:Nat)(v:List Int):Prop where
 len:v.length=n
 nn:∀x∈v,0<=x
 sum:v.sum=k
theorem a1i{cs:List (Option Int)}{v:List Int}(h:v∈L8 cs):LvF cs.length 1 v:=by
 obtain⟨j,a,rfl⟩:=aT.mp (aU.mp h).1;exact⟨D7 _ _,a5q _ _,a0S _ _ (aW.mp a)⟩
theorem b2k{rss:LLI}{cs:List (Option Int)}{F:LLI}{u v:List Int}{n k:Nat}(a:LvF n k u)(h:Z8 rss cs F u v):LvF n (k+1) v:=by
 obtain⟨j,b,rfl,_⟩:=h;have:=(a2m b).1;exact⟨by rw[J0];exact a.len,b5j a.nn,by rw[a6A _ _ this,a.sum];omega⟩
theorem Wk.lv{rss:LLI}{cs:List (Option Int)}{F W L:LLI}{k:Nat}(h:Wk rss cs F W L k):(∀v∈L,LvF cs.length k v)/\(∀v∈W,∃i,1<=i/\i<=k/\LvF cs.length i v)/\(∀v∈F,v∈W/\Ans rss v=true)/\F.length<=W.length/\L.length<=W.length/\1<=k/\k<=W.length+1/\(L≠[]->k<=W.length):=by
 induction h with
 |@one L ri nd h =>
  refine⟨λv a=>a1i ((h v).mp a),λv a=>⟨1,by omega,by omega,a1i ((h v).mp a)⟩,λv a=>aU.mp a,bK _ _,ao _,by omega,by omega,λne=>?_⟩;cases L with
  |nil=>exact absurd rfl ne
  |cons x L=>simp
 |@more F W L L' k h ne ri nd e n =>
  obtain⟨j,l,d,o,p,q,r,m⟩:=n;have b:∀v∈L',LvF cs.length (k+1) v:=λv a=>by
   obtain⟨u,f,g⟩:=(e v).mp a;exact b2k (j u f) g
  have:=bK (λv=>Ans rss v) L';have s:=m ne;refine⟨b,λv a=>?_,λv a=>?_,by rw[ax,ax];omega,by rw[ax];omega,by omega,by rw[ax];omega,λc=>?_⟩
  .rcases aO.mp a with z|z
   .obtain⟨i,q1,q2,q3⟩:=l v z;exact⟨i,q1,by omega,q3⟩
   .exact⟨k+1,by omega,by omega,b v z⟩
  .rcases aO.mp a with z|z
   .exact⟨ba _ (d v z).1,(d v z).2⟩
   .exact⟨aZ _ (aU.mp z).1,(aU.mp z).2⟩
  .rw[ax];have:0<L'.length:=List.length_pos_iff.mpr c;omega
section
variable {P:Program}{w:World}{K:PySem.W.Frag}{mg:Str->Option Value}{base:Heap}{C:Addr}
inductive IspLeast(D:Addr)(vs:List V)(H:Hp)(Q:VK)(E:XK):Prop
 |mk (ra ca:Addr) (rss:LLI) (cs:List (Option Int)) (most:Nat) (mi:Int) (_:vs=[.ref ra,.ref ca,.int mi]) (_:mi=most) (_:SyAt H ra ca rss cs) (_:(most+1)*(cs.length+1)+200<=100000) (_:(∀q t pp zs tss ws F W k H',Same H H'->H' q=some (.tup [.ref t,.ref pp])->H' t=some (.tup zs)->Its H' zs tss->tss.Perm F->J4 tss->H' pp=some (.tup ws)->Its H' ws W->Wk rss cs F W [] k->W.length<=most->Q (.ref q) H')) (_:(∀H',Same H H'->b3y rss cs most->E (.ref D) none H')):IspLeast D vs H Q E
def a7Z(D:Addr):Sp:=λvs H Q E=>IspLeast D vs H Q E
theorem sc_least:FnScope ["rows","caps","most","finder","room"] ["rows","caps","most"] (A4 a1S):=⟨rfl,rfl,rfl,by decide +kernel,rfl,by decide +kernel,by decide +kernel⟩
theorem b2f{r:Addr}(X:FunAt K mg "least" a1S ["rows","caps","most"])(T:Tx mg)(U:FiTx K C)(a:Cls K C)(I:MakeOk P w K mg base "Finder" C 1 ["self","rows","caps"] (a8f C))(g:MethOk P w K mg base C "step_within" 6 ["self","room"] (a4p C))(n:MethOk P w K mg base C "ended" 1 ["self"] (a4r C))(t:MethOk P w K mg base C "told" 1 ["self"] (a6M C))(p:MethOk P w K mg base C "paper" 1 ["self"] (a4q C))
  (D:OwnCls "TooMany" r [.type "ValueError",.type "Exception",.type "BaseException",.type "object"] "ValueError.__new__" mg base):OkE P w K mg base "least" 7 ["rows","caps","most"] (a7Z r):=by
 refine X.okE sc_least (λvs H Q E h=>?_) (λc0 f A b8 s H vs Q E hr h=>?_)
 .obtain⟨ra,ca,rss,cs,most,mi,rfl,_⟩:=h;rfl
 .obtain⟨ra,ca,rss,cs,most,_,rfl,rfl,Y,hbig,kq,ke⟩:=h;refine⟨_,(A3 (B3 (i:=3) sc_least.nd rfl (Or.inl rfl) (b7p I (hr.mono (by omega)) rfl (jaC (jv 0) (jaC (jv 1) jaN))))
 (A3 (B3 (i:=4) sc_least.nd rfl (Or.inl rfl) (jv 2))
 (A3 (b2A (O5 (I0 K (a4O n a (hr.mono (by omega)) (jv 3))))
 (A3 (B3 (i:=4) sc_least.nd rfl (Or.inl rfl) (a1z (jv 4) (b7o g a (hr.mono (by omega)) (jv 3) (jaC (jv 4) jaN))))
 (A8 (K1 (b2y (jv 4) A2)
 (A8 (b2B D PySem.F.excBase_ValueError rfl PySem.F.excBase_ValueError rfl (jaC b8H jaN)))
 E4))) (hp:=PassesOwn.leaving))
 (A8 (B2 (C4 (jaC (a4O t a (hr.mono (by omega)) (jv 3)) (jaC (a4O p a (hr.mono (by omega)) (jv 3)) jaN)))))))),?_⟩
  refine⟨_,rfl,_,rfl,λx dx hx b0 N=>?_⟩;have b7:upd H dx (.own x) x=none:=by rw[A5 N.symm];exact hx
  have s0:Same H (upd (upd H dx (.own x)) x (.ins C dx [])):=((Same.refl H).upd b0).upd b7;refine⟨x,dx,ra,ca,rfl,A1,λaf aw H1 a8 a9 D1 _ kp=>⟨rfl,?_⟩⟩;have a0:H af=none:=s0.free a8;have a1:H aw=none:=s0.free a9;have s1:Same H H1:=λb o e=>kp b o (s0 b o e) (A6 e hx);dsimp only[A9];refine⟨_,rfl,?_⟩;dsimp only[A9];have hz:(300000:Nat)<=sizeLine:=by rw[a_];decide
  refine a1P (λσ H'=>σ=[some (.ref ra),some (.ref ca),some (.int most),some (.ref x),σ.getD 4 none]/\Same H H'/\∃F W k,FAt C H' x ra ca af aw true [] F W/\Wk rss cs F W [] k/\W.length<=most) ?fin λfin=>?_
  case fin =>
   rintro σ H2 ⟨hσ,s2,F,W,k,O,J,S⟩;obtain⟨⟨a4,ah,hs,h1,h2,h3,h4,h5⟩,_,_,_⟩:=id O;have a2:=J.lv;rw[hσ];refine b4a rfl O (λv M=>?_) λq1 zs tss H3 s3 b4 a5 b3 b6=>?_
   .obtain⟨i,i1,_,lv⟩:=a2.2.1 v (a2.2.2.1 v M).1;cases v with
    |nil=>have:=lv.sum;simp at this;omega
    |cons _ _=>simp
   have D3:=O.same s3;obtain⟨⟨c1,b9,c8,g1,_⟩,_,_,_⟩:=id D3;refine b1p rfl D3 λq2 ws H4 s4 b5 a6=>?_;refine⟨by show 2<=sizeLine;omega,λq hq=>?_⟩;have s5:=(Same.refl H4).upd (o:=.tup [.ref q1,.ref q2]) hq;exact kq q q1 q2 zs tss ws F W k _ (((s2.trans s3).trans s4).trans s5) A1 (s5 _ _ (s4 _ _ b4)) ((a5.same s4).same s5) b3 b6 (s5 _ _ b5) (a6.same s5) J S
  refine⟨λm σ H'=>∃(b:Bool) (L F W:LLI) (d:Int),σ=[some (.ref ra),some (.ref ca),some (.int most),some (.ref x),some (.int d)]/\Same H H'/\FAt C H' x ra ca af aw b L F W/\0<=d/\m=d.toNat+(if b=true/\L=[] then 0 else 1)/\((b=false/\L=[]/\F=[]/\W=[]/\d=most)∨(b=true/\∃k,Wk rss cs F W L k/\d=most-W.length)),
   ⟨_,false,[],[],[],_,rfl,s1,D1,by omega,rfl,.inl ⟨rfl,rfl,rfl,rfl,rfl⟩⟩,?_⟩
  rintro m σ H2 ⟨b,L,F,W,d,rfl,s2,O,r0,rfl,V⟩;obtain⟨⟨a4,ah,hs,h1,h2,h3,h4,h5⟩,_,_,_⟩:=id O;refine b1q rfl O ⟨_,rfl,?_⟩;have c5:most+1<=(most+1)*(cs.length+1):=Nat.le_mul_of_pos_right _ (eW _);have c6:(most+1)*(cs.length+1)=(most+1)*cs.length+(most+1):=by rw[Nat.mul_add,Nat.mul_one]
  by_cases he:b=true/\L=[]
  .obtain⟨rfl,rfl⟩:=he;refine L5 ?_;rcases V with⟨z,_⟩|⟨_,k,J,j⟩
   .cases z
   .exact fin _ _ ⟨rfl,s2,F,W,k,O,J,by omega⟩
  .have hb:(b && decide (L=[]))=false:=by
    cases b with
    |false=>rfl
    |true =>
     have:L≠[]:=λz=>he ⟨rfl,z⟩;simpa using this
   rw[hb,aq he];refine W4 ⟨λσ' H'=>∃(G X Z:LLI) (k:Nat) (l:Int),σ'=[some (.ref ra),some (.ref ca),some (.int most),some (.ref x),some (.int l)]/\Same H H'/\FAt C H' x ra ca af aw true G X Z/\0<=l/\Wk rss cs X Z G k/\l=most-Z.length/\l.toNat+(if G=[] then 0 else 1)<d.toNat+1,λσ' H' ⟨G,X,Z,k,l,e1,e2,e3,e4,e5,e6,e7⟩=>⟨_,e7,true,G,X,Z,l,e1,e2,e3,e4,by simp,.inr ⟨rfl,k,e5,e6⟩⟩,?_⟩;obtain⟨B,hB,hL,hF,c4,a7,c2⟩:∃B:Int,B<=2 ^ 60/\(∀v∈L,v.length=cs.length/\∀y∈v,0<=y/\y<=B)/\(∀v∈F,v.length=cs.length)/\W.length<=most/\L.length<=most/\F.length<=most:=by
    rcases V with⟨rfl,rfl,rfl,rfl,_⟩|⟨rfl,k,J,j⟩
    .exact⟨0,by omega,(λ_ z=>nomatch z),(λ_ z=>nomatch z),by simp,by simp,by simp⟩
    .obtain⟨i1,i2,i3,i4,i5,i6,i7,i8⟩:=J.lv;refine⟨k,by omega,λv M=>⟨(i1 v M).len,λy hy=>⟨(i1 v M).nn y hy,?_⟩⟩,λv M=>?_,by omega,by omega,by omega⟩
     .have:=b2m (i1 v M).nn y hy;rw[(i1 v M).sum]at this;exact this
     .obtain⟨i,_,_,lv⟩:=i2 v (i3 v M).1;exact lv.len
   have c3:L.length*cs.length<=most*cs.length:=Nat.mul_le_mul_right _ a7;have c7:(most+1)*cs.length=most*cs.length+cs.length:=by rw[Nat.add_mul,Nat.one_mul]
   refine⟨_,rfl,b1o rfl rfl O (Y.same s2) (.inr ⟨d,rfl,r0⟩) hL hB hF (by omega) (by omega) (by omega) λG H3 R D3 _ a3=>?_⟩;refine⟨_,_,rfl,rfl,?_⟩;dsimp only[A9];have s3:Same H H3:=λc o e=>a3 c o (by simpa using⟨A6 e hx,A6 e a0,A6 e a1⟩) (s2 c o e);have key:(∃k,Wk rss cs (F++G.filter λv=>Ans rss v) (W++G) G k/\d=most-W.length)∨(d<G.length/\b3y rss cs most):=by
    rcases V with⟨rfl,rfl,rfl,rfl,j⟩|⟨rfl,k,J,j⟩
    .exact .inl ⟨1,by simpa using Wk.one R.ri R.nd (R.fst rfl),by simpa using j⟩
    .have N:L≠[]:=λz=>he ⟨rfl,z⟩;rcases R.all rfl with ha|⟨m',e',b2⟩
     .exact .inl ⟨k+1,.more J N R.ri R.nd λv=>⟨R.snd rfl v,λ⟨u,hu,M⟩=>ha u hu v M⟩,j⟩
     .cases e';exact .inr ⟨b2,F,W,L,k,J,.inr ⟨N,G,R.nd,R.snd rfl,by omega⟩⟩
   refine⟨_,rfl,_,_,rfl,rfl,_,rfl,a4Q (λe=>?_) (λe=>?_)⟩
   .have e':d-(G.length:Int)<0:=bO e;refine⟨by rw[a_];decide,ke _ s3 ?_⟩;rcases key with⟨k,J,j⟩|⟨_,ho⟩
    .exact⟨_,_,_,k,J,.inl (by rw[ax];omega)⟩
    .exact ho
   .have e':¬d-(G.length:Int)<0:=λz=>e (bh z);rcases key with⟨k,J,j⟩|⟨b1,_⟩
    .refine⟨G,_,_,k,_,rfl,s3,D3,by omega,J,by rw[ax];omega,?_⟩;cases G with
     |nil=>simp
     |cons y G=>simp only[aN]at e'⊢;rw[aq (by simp)];omega
    .exact absurd b1 (by omega)
end
structure Answer(rss:LLI)(n:Nat)(v:List Int):Prop where
 len:v.length=n
 nn:∀x∈v,0<=x
 ans:Ans rss v=true
 pos:0<v.sum
structure Least(rss:LLI)(cs:List (Option Int))(v:List Int):Prop where
 an:Answer rss cs.length v
 wi:Wi cs v=true
 min:∀u,Answer rss cs.length u->Under u v->u=v
theorem Under.refl(v:List Int):Under v v:=⟨rfl,λ_ _=>fk _⟩
theorem Under.trans{a b c:List Int}(h:Under a b)(g:Under b c):Under a c :=
 ⟨h.1.trans g.1,λj d=>Int.le_trans (h.2 j (by rw[g.1];exact d)) (g.2 j d)⟩
theorem Under.eq{a b:List Int}(h:Under a b)(hs:b.sum<=a.sum):a=b:=by
 refine cf λne=>?_;have:=h.sum.2 ne;omega
theorem a2i{cs:List (Option Int)}{v:List Int}(h:v.length=cs.length):Wi cs v=true↔∀j,j<cs.length->b0n (cs.getD j none) (v.getD j 0)=true:=by
 unfold Wi;induction cs generalizing v with
 |nil=>simp
 |cons c cs b =>
  cases v with
  |nil=>cases h
  |cons x v =>
   rw[aY,cU,aV,b (by simpa using h)];constructor
   .rintro⟨h1,h2⟩ j a;cases j with
    |zero=>exact h1
    |succ j=>exact h2 j (by simpa using a)
   .intro h1;exact⟨h1 0 (by simp),λj a=>h1 (j+1) (by simpa using a)⟩
theorem b0m{c:Option Int}{x y:Int}(h:b0n c y=true)(a:x<=y):b0n c x=true:=by
 cases c with
 |none=>rfl
 |some c =>
  have:y<=c:=bO h;exact bh (by omega)
theorem a4k{cs:List (Option Int)}{u v:List Int}(a:v.length=cs.length)(h:Wi cs v=true)(c:Under u v):Wi cs u=true:=by
 rw[a2i a]at h;rw[a2i (by rw[c.1];exact a)];intro j b;exact b0m (h j b) (c.2 j (by rw[a];exact b))
theorem b3w{rss:LLI}{v:List Int}(h:Ans rss v=true)(j:Nat):Z7 rss v j=0:=by
 unfold Z7 O3;unfold Ans at h;induction rss with
 |nil=>rfl
 |cons r rss a =>
  rw[cU,aV,bY]at h;rw[aP,aY,bF,a h.2,h.1];omega
theorem O0{f v:List Int}(a:f.length=v.length):Bel f v=true↔Under f v:=by
 constructor
 .intro h;refine⟨a,?_⟩;unfold Bel at h;induction f generalizing v with
  |nil =>
   intro j b;rw[<-a]at b;simp at b
  |cons x f c =>
   cases v with
   |nil=>cases a
   |cons y v =>
    rw[aY,cU,aV]at h;intro j b;cases j with
    |zero=>exact bO h.1
    |succ j=>exact c (by simpa using a) h.2 j (by simpa using b)
 .intro h;unfold Bel;induction f generalizing v with
  |nil=>rfl
  |cons x f c =>
   cases v with
   |nil=>cases a
   |cons y v =>
    obtain⟨h1,h2⟩:=h.tail;rw[aY,cU,c (by simpa using a) h2,Bool.and_true];exact bh h1
theorem a0L{rss:LLI}{cs:List (Option Int)}:∀(m:Nat) {u:List Int},u.sum<=m->Answer rss cs.length u->Wi cs u=true->∃a,Least rss cs a/\Under a u
 |0,u,e,h,_=>absurd h.pos (by omega)
 |m+1,u,e,h,hw=>by
  by_cases c:∃t,Answer rss cs.length t/\Under t u/\t≠u
  .obtain⟨t,h1,h2,h3⟩:=c;have:=h2.sum.2 h3;obtain⟨a,d,b⟩:=a0L m (u:=t) (by omega) h1 (a4k h.len hw h2);exact⟨a,d,b.trans h2⟩
  .exact⟨u,⟨h,hw,λt f b=>cf λne=>c ⟨t,f,b,ne⟩⟩,Under.refl u⟩
theorem a6Y:∀{v:List Int},(∀x∈v,0<=x)->0<v.sum->∃j,j<v.length/\1<=v.getD j 0
 |[],_,h=>by simp at h
 |x::v,a,h=>by
  by_cases b:1<=x
  .exact⟨0,by simp,by simpa using b⟩
  .have h0:=a x au;rw[bF]at h;obtain⟨j,h1,h2⟩:=a6Y (v:=v) (λy c=>a y (ar _ c)) (by omega);exact⟨j+1,by simpa using h1,by simpa using h2⟩
theorem b8D{v:List Int}(h:∀x∈v,0<=x)(j:Nat):0<=v.getD j 0:=by
 rw[ak];cases e:v[j]? with
 |none=>simp
 |some x=>simpa using h x (aF e)
structure WkOk(rss:LLI)(cs:List (Option Int))(F L:LLI)(k:Nat):Prop where
 wi:∀v∈L,Wi cs v=true
 bar:∀v∈L,∀f∈F,Under f v->f=v
 snd:∀f∈F,Least rss cs f
 all:∀a,Least rss cs a->a.sum<=k->a∈F
 up:∀a,Least rss cs a->k<=a.sum->∃v∈L,Under v a
theorem Wk.ok{rss:LLI}{cs:List (Option Int)}{F W L:LLI}{k:Nat}(hR:∀r∈rss,r.length=cs.length)(h:Wk rss cs F W L k):WkOk rss cs F L k:=by
 induction h with
 |@one L ri nd h =>
  have l:∀v∈L,LvF cs.length 1 v:=λv g=>a1i ((h v).mp g);have o:∀v∈L,Wi cs v=true:=λv g=>(aU.mp ((h v).mp g)).2;have s:∀a,Least rss cs a->((1:Nat):Int)<=a.sum->∃v∈L,Under v a:=λa b _=>by
   obtain⟨j,h1,h2⟩:=a6Y b.an.nn b.an.pos;rw[b.an.len]at h1;have d:Under (C5 cs.length j) a:=⟨by rw[D7,b.an.len],λi hi=>by
    rw[b.an.len]at hi;rw[N8 _ _ _ hi];by_cases e:i=j
    .rw[az e,e];exact h2
    .rw[aq e];exact b8D b.an.nn i⟩
   exact⟨_,(h _).mpr (aU.mpr ⟨aT.mpr ⟨j,aW.mpr h1,rfl⟩,a4k b.an.len b.wi d⟩),d⟩
  refine⟨o,λv g f m d=>?_,λf m=>?_,λa b hs=>?_,s⟩
  .have h1:=(l v g).sum;have h2:=(l f (aU.mp m).1).sum;exact d.eq (by omega)
  .obtain⟨hf1,n⟩:=aU.mp m;have lv:=l f hf1;refine⟨⟨lv.len,lv.nn,n,by rw[lv.sum];decide⟩,o f hf1,λu p d=>d.eq ?_⟩;have:=p.pos;rw[lv.sum];omega
  .obtain⟨v,g,d⟩:=s a b (by have:=b.an.pos;omega);have h1:=(l v g).sum;have:v=a:=d.eq (by omega);subst this;exact aU.mpr ⟨g,b.an.ans⟩
 |@more F W L L' k h ne ri nd K C =>
  obtain⟨M,Z,T,i4,i5,i6,i7,i8⟩:=h.lv;have l:∀v∈L',LvF cs.length (k+1) v:=λv g=>by
   obtain⟨u,p,Y⟩:=(K v).mp g;exact b2k (M u p) Y
  have y:∀f∈F,f.length=cs.length/\f.sum<=k:=λf m=>by
   obtain⟨i,q1,q2,lv⟩:=Z f (T f m).1;exact⟨lv.len,by rw[lv.sum];omega⟩
  have s:∀a,Least rss cs a->((k+1:Nat):Int)<=a.sum->∃v∈L',Under v a:=λa b hs=>by
   obtain⟨v,g,d⟩:=C.up a b (by omega);have lv:=M v g;have I:v≠a:=λz=>by rw[<-z,lv.sum]at hs;omega
   have Q:Ans rss v=false:=by
    cases e:Ans rss v with
    |false=>rfl
    |true=>exact absurd (b.min v ⟨lv.len,lv.nn,e,by rw[lv.sum];omega⟩ d) I
   have V:=b8s rss v a (λr X=>by rw[hR r X,b.an.len]) d I b.an.ans;obtain⟨j,t⟩:=List.exists_mem_of_ne_nil _ V;have H:=b1J t;have O:Z7 rss v j<0:=by
    unfold Pl at t;rw[aU,Q,Bool.false_or,aV]at t;exact bO t.2.2
   have D:Under (bump v j) a:=d.bump t;have hw:=(a2i b.an.len).mp b.wi j (by rw[<-b.an.len];exact H.1);refine⟨bump v j,(K _).mpr ⟨v,g,j,?_,rfl,?_⟩,D⟩
   .unfold StP;rw[aU,aU,aW,bY];refine⟨⟨by rw[d.1];exact H.1,O⟩,?_⟩;cases e:cs.getD j none with
    |none=>rfl
    |some c =>
     rw[e]at hw;have:a.getD j 0<=c:=bO hw;exact bh (by omega)
   .cases e:Bar F (bump v j) j with
    |false=>rfl
    |true =>
     unfold Bar at e;obtain⟨f,m,n⟩:=cv.mp e;rw[aV]at n;have A:=(y f m).1;have B:Under f a:=((O0 (by rw[A,J0,lv.len])).mp n.2).trans D;have:=b.min f (C.snd f m).an B;have h2:=(y f m).2;rw[this]at h2;omega
  have o:∀v∈L',Wi cs v=true:=λv g=>by
   obtain⟨u,p,j,t,rfl,_⟩:=(K v).mp g;have w:=(M u p).len;have q:=a2m t;have hw:=C.wi u p;rw[a2i w]at hw;rw[a2i (by rw[J0];exact w)];intro i hi;rw[a0N _ _ _ q.1];by_cases e:i=j
   .rw[az e,e];have J:=q.2.2;cases U:cs.getD j none with
    |none=>rfl
    |some c =>
     rw[U]at J;have:u.getD j 0<c:=bO J;exact bh (by omega)
   .rw[aq e];exact hw i hi
  have x:∀v∈L',∀f∈F++L'.filter (λv=>Ans rss v),Under f v->f=v:=λv g f m d=>by
   rcases aO.mp m with z|z
   .obtain⟨u,p,j,t,rfl,hb⟩:=(K v).mp g;have w:=(M u p).len;have q:=a2m t;have A:=(y f z).1;exfalso;by_cases e:f.getD j 0=(bump u j).getD j 0
    .have:Bar F (bump u j) j=true:=by
      unfold Bar;exact cv.mpr ⟨f,z,by rw[aV];exact⟨bh e,(O0 d.1).mpr d⟩⟩
     rw[this]at hb;cases hb
    .have B:Under f u:=⟨by rw[A,w],λi hi=>by
      have h1:=d.2 i (by rw[J0];exact hi);rw[a0N _ _ _ q.1]at h1;by_cases S:i=j
      .subst S;rw[a0N _ _ _ q.1,az rfl]at e;rw[az rfl]at h1;omega
      .rw[aq S]at h1;exact h1⟩
     have h2:=C.bar u p f z B;have J:=b3w (T f z).2 j;rw[h2]at J;omega
   .have h1:=(l v g).sum;have h2:=(l f (aU.mp z).1).sum;exact d.eq (by omega)
  have E:∀a,Least rss cs a->a.sum<=((k+1:Nat):Int)->a∈F++L'.filter (λv=>Ans rss v):=λa b hs=>by
   by_cases h1:a.sum<=(k:Int)
   .exact ba _ (C.all a b h1)
   .obtain⟨v,g,d⟩:=s a b (by omega);have h2:=(l v g).sum;have:v=a:=d.eq (by omega);subst this;exact aZ _ (aU.mpr ⟨g,b.an.ans⟩)
  refine⟨o,x,λf m=>?_,E,s⟩;rcases aO.mp m with z|z
  .exact C.snd f z
  .obtain⟨hf1,n⟩:=aU.mp z;have lv:=l f hf1;refine⟨⟨lv.len,lv.nn,n,by rw[lv.sum];omega⟩,o f hf1,λu p d=>?_⟩;refine cf λR=>?_;have P:=d.sum.2 R;rw[lv.sum]at P;obtain⟨a,b,G⟩:=a0L (rss:=rss) (cs:=cs) u.sum.toNat (by have:=p.pos;omega) p (a4k lv.len (o f hf1) d);have hs:=G.sum.1;have N:=C.all a b (by omega);have:=x f hf1 a (ba _ N) (G.trans d);rw[this,lv.sum]at hs;omega
theorem Wk.least{rss:LLI}{cs:List (Option Int)}{F W:LLI}{k:Nat}(hR:∀r∈rss,r.length=cs.length)(h:Wk rss cs F W [] k)(v:List Int):v∈F↔Least rss cs v:=by
 have o:=h.ok hR;refine⟨o.snd v,λa=>?_⟩;by_cases hs:v.sum<=(k:Int)
 .exact o.all v a hs
 .obtain⟨u,hu,_⟩:=o.up v a (by omega);cases hu
theorem Wk.nd{rss:LLI}{cs:List (Option Int)}{F W L:LLI}{k:Nat}(h:Wk rss cs F W L k):W.Nodup/\F.Nodup:=by
 induction h with
 |@one L ri nd h=>exact⟨nd,nd.sublist List.filter_sublist⟩
 |@more F W L L' k h ne ri nd f d =>
  obtain⟨l,m,n,o,p,q,r,s⟩:=h.lv;have a:∀v∈W,∀u∈L',v≠u:=λv c u b e=>by
   obtain⟨i,w,x,lv⟩:=m v c;obtain⟨t,g,j⟩:=(f u).mp b;have:=(b2k (l t g) j).sum;rw[<-e,lv.sum]at this;omega
  refine⟨fS.mpr ⟨d.1,nd,a⟩,fS.mpr ⟨d.2,nd.sublist List.filter_sublist,λv c u b=>a v (n v c).1 u (aU.mp b).1⟩⟩
theorem a0y:∀{a b:LLI},J4 a->J4 b->a.Nodup->b.Nodup->(∀v,v∈a↔v∈b)->a=b
 |[],[],_,_,_,_,_=>rfl
 |[],y::b,_,_,_,_,h=>by have:=(h y).mpr au;cases this
 |x::a,[],_,_,_,_,h=>by have:=(h x).mp au;cases this
 |x::a,y::b,ra,rb,na,nb,h=>by
  obtain⟨j,k⟩:=dg.mp ra;obtain⟨g,i⟩:=dg.mp rb;obtain⟨d,f⟩:=cL.mp na;obtain⟨m1,c⟩:=cL.mp nb;have e:x=y:=by
   refine N9 x y ?_ ?_
   .rcases aE.mp ((h x).mp au)with z|z
    .rw[z];exact T3 y
    .exact g x z
   .rcases aE.mp ((h y).mpr au)with z|z
    .rw[z];exact T3 x
    .exact j y z
  subst e;rw[a0y k i f c λv=>?_];constructor
  .intro hv;rcases aE.mp ((h v).mp (ar _ hv))with z|z
   .exact absurd (z ▸ hv) d
   .exact z
  .intro hv;rcases aE.mp ((h v).mpr (ar _ hv))with z|z
   .exact absurd (z ▸ hv) m1
   .exact z
theorem D0{H:Hp}{a b:Addr}{n:Nat}(h:PotAt H a b n){c:Addr}(d:H c=none):c∉[a,b]:=by
 obtain⟨_,e,t,k,h1,h2,_⟩:=h;simp only[aE,bz,cN,not_or];exact⟨(A6 h1 d).symm,(A6 h2 d).symm⟩
theorem a1W{H:Hp}{a b:Addr}{n:Nat}(h:PotAt H a b n){c:Addr}{o:HO}(d:c∉[a,b]):PotAt (upd H c o) a b n:=by
 simp only[aE,bz,cN,not_or]at d;obtain⟨ne,e,t,j,f,g,i⟩:=h;exact⟨ne,e,t,j,by rw[A5 (dJ d.1)];exact f,by rw[A5 (dJ d.2)];exact g,i⟩
section
variable {P:Program}{w:World}{K:PySem.W.Frag}{mg:Str->Option Value}{base:Heap}
theorem two_at(x y:Int)(c:Bool):∃m:Int,atI [V.int x,.int y] (if c=true then 1 else 0)=some (.int m)/\(m=x∨m=y):=by
 cases c
 .exact⟨x,rfl,.inl rfl⟩
 .exact⟨y,rfl,.inr rfl⟩
theorem two_at'(x y r:Int)(h0:0<=r)(h1:r<2):∃m:Int,atI [V.int x,.int y] r=some (.int m)/\(m=x∨m=y):=by
 have:r=0∨r=1:=by omega
 rcases this with rfl|rfl
 .exact⟨x,rfl,.inl rfl⟩
 .exact⟨y,rfl,.inr rfl⟩
theorem b2Q{n k:Nat}(h:k<n):ixN n (k:Int)=some k:=by
 unfold ixN;rw[az (by omega),az (by omega)];rfl
theorem a0W{src:List (Option Nat)}{σ caps:L2.St}{Q:VK}{n f c:Nat}{H:Hp}{a b:Addr}{te:TE}(R:Int->Prop)(s:n<=1000)(k:B5 src σ=none::caps)(o:PotAt H a b f)
  (m:∀(i:Nat) (H':Hp) (N:VK),i<n->PotAt H' a b (f+c*i)->(∀r d,R r->PotAt d a b (f+c*i+c)->Off [a,b] H' d->N (.int r) d)->te (some (.int i)::caps) H' N)
  (hd:∀H' p (xs:List Int),xs.length=n->(∀x∈xs,R x)->PotAt H' a b (f+c*n)->Off [a,b] H H'->H' p=none->Q (.ref p) (upd H' p (.lst (xs.map V.int)))):J5 src (A9 0) P7 te σ Q (Itr 0 n) H:=by
 refine a0A s k (λi ys H'=>Ex1 λ(xs:List Int)=>An5 (ys=xs.map V.int) (xs.length=i) ((∀x∈xs,R x)) (PotAt H' a b (f+c*i)) (Off [a,b] H H')) ⟨[],rfl,rfl,(λ_ z=>nomatch z),o,Off.refl _ _⟩ (λi ys H' h=>by obtain⟨xs,e,g,_⟩:=h;rw[e,aj,g];exact ao _) ?_ ?_
 .rintro i ys H' hi ⟨xs,rfl,g,hR,hP',off⟩;refine m i H' _ hi hP' λr d t j l=>⟨xs++[r],by simp,by simp[g],λx u=>?_,?_,off.trans l⟩
  .rcases aO.mp u with q|q
   .exact hR x q
   .rw[aA.mp q];exact t
  .have:f+c*(i+1)=f+c*i+c:=by rw[Nat.mul_add,Nat.mul_one,el]
   rw[this];exact j
 .rintro ys H' ⟨xs,rfl,g,hR,hP',off⟩ p hp;exact hd H' p xs g hR hP' off hp
theorem a2C{l:List Addr}{H H':Hp}{p:Addr}{o:HO}(s:Off l H H')(hp:H p=none):Off l H (upd H' p o):=λb u a e=>by
 rw[A5 (A6 e hp)];exact s b u a e
theorem a2B{H H':Hp}{a b:Addr}{n:Nat}{p:Addr}(o:Off [a,b] H H')(c:PotAt H' a b n)(hp:H' p=none):H p=none:=by
 rcases e:H p with _|u
 .rfl
 .have:=o _ _ (D0 c hp) e;rw[hp]at this;cases this
theorem b5a{H H':Hp}{vs:List V}{rss:LLI}{a b:Addr}{n:Nat}(h:Its H vs rss)(c:PotAt H a b n)(o:Off [a,b] H H'):Its H' vs rss:=⟨h.1,λi v e=>let ⟨r,e1,e2⟩:=h.2 i v e;⟨r,e1,IT.off e2 c o⟩⟩
end
def SD(H:Hp):Nat->V->V->Prop
 |0,_,_=>False
 |n+1,x,y=>(∃i,x=.int i/\y=.int i)∨∃a b xs ys,x=.ref a/\y=.ref b/\H a=some (.tup xs)/\H b=some (.tup ys)/\xs.length=ys.length/\xs.length<=1000/\∀(i:Nat) x' y',xs[i]?=some x'->ys[i]?=some y'->SD H n x' y'
theorem SD.same{H H':Hp}(s:Same H H'):∀{n:Nat}{x y:V},SD H n x y->SD H' n x y
 |0,_,_,h=>h
 |n+1,x,y,h=>by
  rcases h with h|⟨a,b,xs,ys,h1,h2,d,f,g,j,k⟩
  .exact .inl h
  .exact .inr ⟨a,b,xs,ys,h1,h2,s _ _ d,s _ _ f,g,j,λi l m e c=>SD.same s (k i l m e c)⟩
theorem SD.ints{H:Hp}{x y:V}{ns:List Int}(h:IT H x ns)(j:IT H y ns)(g:ns.length<=1000):SD H 2 x y:=by
 obtain⟨a,rfl,d⟩:=h;obtain⟨b,rfl,f⟩:=j;refine .inr ⟨a,b,_,_,rfl,rfl,d,f,rfl,by rw[aj];exact g,λi k l e c=>?_⟩;rw[e]at c;cases c;obtain⟨z,_,rfl⟩:=M3 e;exact .inl ⟨z,rfl,rfl⟩
section
variable {P:Program}{w:World}{K:PySem.W.Frag}{mg:Str->Option Value}{base:Heap}
inductive IspSame(n:Nat)(vs:List V)(H:Hp)(Q:VK)(E:XK):Prop
 |mk (x:_) (y:_) (_:vs=[x,y]) (_:SD H n x y) (_:∀H',Same H H'->Q (.bl true) H'):IspSame n vs H Q E
def a6O(n:Nat):Sp:=λvs H Q E=>IspSame n vs H Q E
theorem b4E{x:Str}{st:Stmt}{ps:List Str}{k:Nat}(F:FunAt K mg x st ps):Ok P w K mg base x k ps (λ_ _ _ _=>False):=by
 obtain⟨f,fd,h1,h2,a⟩:=F.ex;exact⟨f,fd,h1,h2.kp,a,⟨λ_ _ _ _ z=>z.elim,λ_ _ _ _ _ _ _ _ _ _ _ _ _ z=>z.elim⟩⟩
theorem a4x:FnScope ["_law_found","_law_due"] ["_law_found","_law_due"] (A4 Q6):=⟨rfl,rfl,rfl,by decide +kernel,rfl,by decide +kernel,by decide +kernel⟩
theorem a8u(F:FunAt K mg "_law_same" Q6 ["_law_found","_law_due"])(T:Tx mg):∀n:Nat,Ok P w K mg base "_law_same" (n+1) ["_law_found","_law_due"] (a6O n)
 |0=>(b4E F).imp λvs H Q E ⟨_,_,_,z,_⟩=>z
 |n+1=>by
  have c:=a8u F T n;refine F.okJ a4x (λvs H Q E h=>?_) (λm f A k s H vs Q E q h=>?_)
  .obtain⟨x,y,rfl,_⟩:=h;rfl
  .obtain⟨x,y,rfl,hS,kk⟩:=h;refine⟨_,(A3 (K1 (I0 K (M1 K rfl T.b_isinstance (jaC (jv 1) (jaC (a4P (v:=.ty "tuple") rfl T.b_tuple a0P rfl) jaN))))
 (A3 (K1 (a7k (b2w (O5 (I0 K (M1 K rfl T.b_isinstance (jaC (jv 0) (jaC (a4P (v:=.ty "tuple") rfl T.b_tuple a0P rfl) jaN))))) (a7j (b8F (O6 K rfl T.b_len (jaC (jv 0) jaN)) (O6 K rfl T.b_len (jaC (jv 1) jaN))))))
 (A8 (B2 a0G))
 E4)
 (A8 (B2 (a2S K rfl T.b_all (jaC (B7 (N:=["_law_one","_law_other"]) (src:=[none,none]) (a0i K rfl T.b_zip (jaC (jv 0) (jaC (jv 1) jaN))) (by show C0 _ _=true;rfl) (by rfl) (by rfl)
 (λ_ _ _ _ _=>(U3 K 2 (C1 (A7 (i:=0) (show(["_law_one","_law_other"]:List Str).Nodup by decide +kernel) rfl (Or.inl rfl)) (C1 (A7 (i:=1) (show(["_law_one","_law_other"]:List Str).Nodup by decide +kernel) rfl (Or.inl rfl)) N7)))) (λ_ _ _ _ _=>C2) (λ_ _ _ _ _=>(B1 c (q.mono (by omega)) rfl (jaC (jv 0) (jaC (jv 1) jaN))))) jaN)))))
 E4)
 (A8 (B2 (b2N (M1 K rfl T.b_isinstance (jaC (jv 0) (jaC (a4P (v:=.ty "int") rfl T.b_int b3t rfl) jaN))) (b2N (b8K (M1 K rfl T.b_isinstance (jaC (jv 0) (jaC (a4P (v:=.ty "bool") rfl T.b_bool b5n rfl) jaN)))) (b2K (a1y (jv 0) (jv 1)))))))),?_⟩
   rcases hS with⟨i,rfl,rfl⟩|⟨a,b,xs,ys,rfl,rfl,d,g,o,l,hi⟩
   .refine⟨_,rfl,_,_,_,false,rfl,.int i,rfl,_,rfl,L5 ?_⟩;refine⟨_,rfl,_,_,_,true,rfl,.int i,rfl,_,rfl,W4 ?_⟩;refine⟨_,rfl,_,_,_,false,rfl,.int i,rfl,_,rfl,_,rfl,W4 ?_⟩;refine⟨_,rfl,_,rfl,rfl,?_⟩;rw[show decide (V.int i=V.int i)=true from bh rfl];exact kk H (Same.refl H)
   .refine⟨_,rfl,_,_,_,true,rfl,.tup g,rfl,_,rfl,W4 ?_⟩;refine⟨_,rfl,_,_,_,true,rfl,.tup d,rfl,_,rfl,L5 ?_⟩;refine⟨_,rfl,_,_,rfl,.inr (SqT.of d),_,rfl,_,_,rfl,.inr (SqT.of g),rfl,_,rfl,?_⟩;rw[show decide (V.int (xs.length:Int)=V.int (ys.length:Int))=true from bh (by rw[o])];refine L5 ?_;refine⟨_,rfl,_,rfl,true,true,a,b,rfl,⟨_,SqT.of d⟩,⟨_,SqT.of g⟩,?_⟩;have u:(1000:Nat)<=sizeLine:=by rw[a_];decide
    refine X0 (K:=K) (k1:=true) (k2:=true) (a:=a) (b:=b) (xs:=xs) (zs:=ys) (by omega) (λi zs H'=>Same H H'/\zs=List.replicate i (.bl true)) ⟨Same.refl H,rfl⟩
     (λi zs H' _ _ h=>⟨SqT.of (h.1 _ _ d),SqT.of (h.1 _ _ g),by rw[h.2,aK];exact ao _⟩) ?_ ?_
    .rintro i x z zs H' p hx hy ⟨s',rfl⟩ hp;have s2:Same H (upd H' p (.tup [x,z])):=s'.upd hp;refine⟨p,[x,z],rfl,SqT.of A1,rfl,x,[z],rfl,z,[],rfl,rfl,⟨rfl,λj v e=>?_⟩,?_⟩
     .match j,e with
      |0,e=>cases e
      |1,e=>cases e
     .refine⟨_,rfl,_,rfl,x,z,rfl,(hi i x z hx hy).same s2,λt r=>⟨s2.trans r,?_⟩⟩;rw[List.replicate_succ']
    .rintro zs H' ⟨s',rfl⟩ p hp;refine⟨false,p,_,rfl,SqL.of A1,?_,?_⟩
     .simp[a8M]
     .rw[show(List.replicate (min xs.length ys.length) (V.bl true)).all trV=true by simp[trV]];exact kk _ (s'.upd hp)
theorem b0f(n:Nat)(v:V):(List.replicate n [v]).flatten=List.replicate n v:=by
 induction n with
 |zero=>rfl
 |succ n a=>rw[bH,cP,a,bH];rfl
inductive IspFree(vs:List V)(H:Hp)(Q:VK)(E:XK):Prop
 |mk (n:Int) (_:vs=[.int n]) (_:0<=n) (_:n<=1000) (_:∀p H',Same H H'->H' p=some (.tup ((List.replicate n.toNat (none:Option Int)).map cV))->Q (.ref p) H'):IspFree  vs H Q E
def b0Z:Sp:=λvs H Q E=>IspFree  vs H Q E
theorem b3W:FnScope ["width"] ["width"] (A4 a4C):=⟨rfl,rfl,rfl,by decide +kernel,rfl,by decide +kernel,by decide +kernel⟩
theorem b4K(F:FunAt K mg "free" a4C ["width"]):Ok P w K mg base "free" 1 ["width"] b0Z:=by
 refine F.okJ b3W (λvs H Q E h=>?_) (λb f A a s H vs Q E d h=>?_)
 .obtain⟨n,rfl,_⟩:=h;rfl
 .obtain⟨n,rfl,h1,h2,k⟩:=h;refine⟨_,(A8 (B2 (a4N (C4 (jaC a8D jaN)) (jv 0)))),?_⟩;have g:(1000:Nat)<=sizeLine:=by rw[a_];decide
  refine⟨by show 1<=sizeLine;omega,λp c=>⟨_,rfl,p,[.non],n,rfl,rfl,A1,by simp,h1,?_,λq H' s e=>?_⟩⟩
  .show(1:Int)*n<=_;omega
  .rw[b0f]at e;exact k _ _ (((Same.refl H).upd c).trans s) (by rw[e,List.map_replicate];rfl)
end
noncomputable def Lst(rss:LLI)(v:List Int):Bool:=!(rss.any λu=>!decide (u=v) && Bel u v)
structure Srt(rss srt:LLI):Prop where
 ri:J4 srt
 nd:srt.Nodup
 mem:∀r,r∈srt↔r∈rss
theorem Y6{rss a:LLI}(h:∀r,r∈rss↔r∈a)(v:List Int):Lst rss v=Lst a v:=by
 unfold Lst;congr 1;rw[cY,cv,cv];exact⟨λ⟨u,b,e⟩=>⟨u,(h u).mp b,e⟩,λ⟨u,b,e⟩=>⟨u,(h u).mpr b,e⟩⟩
theorem a8Z:∀{u v:List Int},u.length=v.length->Bel u v=true->u≠v->HT.lexLt v u=false
 |[],[],_,_,ne=>absurd rfl ne
 |[],_::_,h,_,_=>by cases h
 |_::_,[],h,_,_=>by cases h
 |x::u,y::v,h,a,ne=>by
  unfold Bel at a;rw[aY,cU,aV]at a;have h1:x<=y:=bO a.1;by_cases e:x=y
  .subst e;have c:=a8Z (u:=u) (v:=v) (by simpa using h) a.2 λz=>ne (by rw[z]);simp[HT.lexLt,c]
  .have:¬y<x:=by omega
   have b:¬y=x:=λz=>e z.symm;simp[HT.lexLt,this,b]
theorem a4E{α:Type}{m:List α->Prop}(l:List α)(nil:m [])(snoc:∀(l:List α) (v:α),m l->m (l++[v])):m l:=by
 have:∀r:List α,m r.reverse:=λr=>by
  induction r with
  |nil=>exact nil
  |cons x r a=>rw[eM];exact snoc _ x a
 have:=this l.reverse;rwa[List.reverse_reverse]at this
noncomputable def LO(l:LLI):LLI:=l.foldl (λacc v=>if acc.any (λu=>Bel u v)then acc else acc++[v]) []
theorem a0Q(l:LLI)(v:List Int):LO (l++[v])=if (LO l).any (λu=>Bel u v)then LO l else LO l++[v]:=by
 unfold LO;rw[List.foldl_append];rfl
theorem b3r(v:List Int):Bel v v=true:=(O0 rfl).mpr (Under.refl v)
theorem b0A{a b c:List Int}(h1:a.length=b.length)(h2:b.length=c.length)(d:Bel a b=true)(e:Bel b c=true):Bel a c=true :=
 (O0 (h1.trans h2)).mpr (((O0 h1).mp d).trans ((O0 h2).mp e))
theorem a5f{n:Nat}:∀(l:LLI),(∀r∈l,r.length=n)->(∀x∈LO l,x∈l)/\∀u∈l,∃x∈LO l,Bel x u=true:=by
 intro l;induction l using a4E with
 |nil=>intro _;exact⟨λ_ z=>z,λ_ z=>nomatch z⟩
 |snoc l v h =>
  intro f;obtain⟨c,d⟩:=h λr g=>f r (ba _ g);rw[a0Q];cases e:(LO l).any (λu=>Bel u v)with
  |true =>
   rw[az rfl];refine⟨λx b=>ba _ (c x b),λu a=>?_⟩;rcases aO.mp a with z|z
   .exact d u z
   .rw[aA.mp z];exact cv.mp e
  |false =>
   rw[aq (by decide)];refine⟨λx b=>?_,λu a=>?_⟩
   .rcases aO.mp b with z|z
    .exact ba _ (c x z)
    .exact aZ _ z
   .rcases aO.mp a with z|z
    .obtain⟨x,h1,h2⟩:=d u z;exact⟨x,ba _ h1,h2⟩
    .rw[aA.mp z];exact⟨v,aZ _ au,b3r v⟩
theorem a4g{n:Nat}(a:LLI)(f:∀r∈a,r.length=n)(m:J4 a)(nd:a.Nodup):∀(l rest:LLI),a=l++rest->LO l=l.filter (λv=>Lst a v):=by
 intro l;induction l using a4E with
 |nil=>intro _ _;rfl
 |snoc l v t =>
  intro rest e;have c:a=l++(v::rest):=by rw[e,aG];rfl
  have k:v∈a:=by rw[c];simp
  have b:∀r∈l,r.length=n:=λr o=>f r (by rw[c];exact ba _ o);obtain⟨i,s⟩:=a5f l b;rw[a0Q,List.filter_append,<-t _ c];have key:(LO l).any (λu=>Bel u v)=!Lst a v:=by
   rw[cY];unfold Lst;rw[Bool.not_not,cv,cv];constructor
   .rintro⟨u,hu,hb⟩;refine⟨u,by rw[c];exact ba _ (i u hu),?_⟩;have g:u≠v:=λz=>by
     rw[c]at nd;exact(fS.mp nd).2.2 u (i u hu) v au z
    rw[hb,bT g];rfl
   .rintro⟨u,hu,hb⟩;rw[aV,Bool.not_eq_true',decide_eq_false_iff_not]at hb;have d:u∈l:=by
     rw[c]at hu;rcases aO.mp hu with z|z
     .exact z
     .rcases aE.mp z with q|q
      .exact absurd q hb.1
      .exfalso;have h:HT.lexLt u v=false:=by
        rw[c]at m;have:=(bE.mp m).2.1;exact(dg.mp this).1 u q
       have h2:=a8Z (by rw[f u (by rw[c];exact aZ _ z),f v k]) hb.2 hb.1;exact hb.1 (N9 u v h h2)
    obtain⟨x,h1,h2⟩:=s u d;exact⟨x,h1,b0A (by rw[b x (i x h1),b u d]) (by rw[b u d,f v k]) h2 hb.2⟩
  rw[key];cases j:Lst a v with
  |true=>rw[aq (by decide),fO (p:=λv=>Lst a v) j];rfl
  |false=>rw[az (by decide),List.filter_cons_of_neg (p:=λv=>Lst a v) (by rw[j];decide)];simp
section
variable {P:Program}{w:World}{K:PySem.W.Frag}{mg:Str->Option Value}{base:Heap}
inductive IspAboveL(vs:List V)(H:Hp)(Q:VK)(E:XK):Prop
 |mk (l:Addr) (y:V) (fs:List V) (fss:LLI) (ys:List Int) (_:vs=[.ref l,y]) (_:H l=some (.lst fs)) (_:Its H fs fss) (_:IT H y ys) (_:(∀f∈fss,f.length<=1000)) (_:∀H',Same H H'->Q (.bl (fss.any λf=>Bel f ys)) H'):IspAboveL  vs H Q E
def a5G:Sp:=λvs H Q E=>IspAboveL  vs H Q E
theorem sc_above_any:FnScope ["some","one","other"] ["some","one"] (A4 Q0):=⟨rfl,rfl,rfl,by decide +kernel,rfl,by decide +kernel,by decide +kernel⟩
theorem a3s(F:FunAt K mg "above_any" Q0 ["some","one"])(T:Tx mg)(b:Ok P w K mg base "below" 1 ["one","other"] a4s):Ok P w K mg base "above_any" 2 ["some","one"] a5G:=by
 refine F.okJ sc_above_any (λvs H Q E h=>?_) (λn f A j s H vs Q E c h=>?_)
 .obtain⟨l,y,fs,fss,ys,rfl,_⟩:=h;rfl
 .obtain⟨l,y,fs,fss,ys,rfl,hl,hI,hy,hL,k⟩:=h;refine⟨_,(A3 (L0 (D6 K (jv 0)) (A7 (i:=2) sc_above_any.nd rfl (Or.inl rfl))
 (A8 (K1 (I0 K (B1 b (c.mono (by omega)) rfl (jaC (jv 2) (jaC (jv 1) jaN))))
 (A8 (B2 a0G))
 E4)))
 (A8 (B2 a0G))),?_⟩
  refine⟨_,rfl,l,rfl,⟨_,SqL.of hl⟩,?_⟩;refine O7 (K:=K) (a:=l) (xs:=fs) (λi σ H'=>Ex1 λo=>An3 (σ=[some (.ref l),some y,o]) (Same H H') (((fss.take i).any λf=>Bel f ys)=false)) ⟨none,rfl,Same.refl H,rfl⟩ (λi σ H' _ h=>by obtain⟨_,_,s',_⟩:=h;exact SqL.of (s' _ _ hl)) ?_ ?_
  .rintro i x σ H' hx ⟨o,rfl,s',hB⟩;obtain⟨r,c,d,g⟩:=hI.mem hx;have m:((fss.take (i+1)).any λf=>Bel f ys)=Bel r ys:=by
    rw[bj,d,List.any_append,hB];simp
   dsimp only[A9];refine⟨_,rfl,_,rfl,x,y,r,ys,rfl,g.same s',hy.same s',hL r c,λH2 s2=>⟨_,rfl,?_⟩⟩;cases e:Bel r ys with
   |false =>
    rw[e]at m;exact L5 ⟨_,rfl,s'.trans s2,m⟩
   |true =>
    refine W4 ?_;have:=k H2 (s'.trans s2);rw[show(fss.any λf=>Bel f ys)=true from cv.mpr ⟨r,c,e⟩]at this;exact this
  .rintro σ H' ⟨o,rfl,s',hB⟩;rw[hI.1,bq]at hB;have:=k H' s';rw[hB]at this;exact this
inductive IspLeastOf(vs:List V)(H:Hp)(Q:VK)(E:XK):Prop
 |mk (p:Addr) (us:List V) (rss:LLI) (n:Nat) (_:vs=[.ref p]) (_:H p=some (.tup us)) (_:Its H us rss) (_:us.length<=1000) (_:1<=n) (_:n<=1000) (_:(∀r∈rss,r.length=n)) (_:∀q zs srt H',Same H H'->Srt rss srt->H' q=some (.tup zs)->Its H' zs (srt.filter λv=>Lst rss v)->Q (.ref q) H'):IspLeastOf  vs H Q E
def a3E:Sp:=λvs H Q E=>IspLeastOf  vs H Q E
theorem sc_least_of:FnScope ["some","found","one"] ["some"] (A4 S8):=⟨rfl,rfl,rfl,by decide +kernel,rfl,by decide +kernel,by decide +kernel⟩
theorem a5S(F:FunAt K mg "least_of" S8 ["some"])(T:Tx mg)(c:Ok P w K mg base "above_any" 2 ["some","one"] a5G):Ok P w K mg base "least_of" 3 ["some"] a3E:=by
 refine F.okJ sc_least_of (λvs H Q E h=>?_) (λa6 f A a5 s H vs Q E m h=>?_)
 .obtain⟨p,us,rss,n,rfl,_⟩:=h;rfl
 .obtain⟨p,us,rss,n,rfl,hp,hI,hl,hn1,hn2,hR,k⟩:=h;have hu:=m.u60;have hz:(3000:Nat)<=sizeLine:=by rw[a_];decide
  refine⟨_,(A3 (B3 (i:=1) sc_least_of.nd rfl (Or.inl rfl) (I9 jaN))
 (A3 (L0 (D6 K (b2F P w rfl T.b_sorted (jaC (b4S K P w hu rfl T.b_set (jaC (jv 0) jaN)) jaN))) (A7 (i:=2) sc_least_of.nd rfl (Or.inl rfl))
 (A8 (K1 (O5 (I0 K (B1 c (m.mono (by omega)) rfl (jaC (jv 1) (jaC (jv 2) jaN)))))
 (A8 (U0 (a1f K (jv 1) (jaC (jv 2) jaN))))
 E4)))
 (A8 (B2 (B4 K rfl T.b_tuple (jaC (jv 1) jaN)))))),?_⟩
  refine⟨bp _,λg M=>?_⟩;have s1:=(Same.refl H).upd (o:=.lst []) M;have V:upd H g (.lst []) g=some (.lst []):=A1;generalize upd H g (.lst [])=H1 at s1 V;dsimp only[A9];refine⟨_,rfl,true,p,us,rss,rfl,SqT.of (s1 _ _ hp),hI.same s1,hl,λa xs ha L j X=>?_⟩;have s2:=s1.upd (o:=a4u P w a xs) ha;have B:=(Same.refl H1).upd (o:=a4u P w a xs) ha;have U:upd H1 a (a4u P w a xs) a=some (a4u P w a xs):=A1;generalize upd H1 a (a4u P w a xs)=H2 at s2 B U;have a3:xs.length<=1000:=by
   have:=Tab.nodup_le (xs.map (·.1)) rss L λr m=>(j r).mp m;rw[aj,<-hI.1]at this;omega
  refine⟨a,xs,rfl,U,λx J=>(X x J).same B,λx J=>by rw[hR x.1 ((j x.1).mp (aT.mpr ⟨x,J,rfl⟩))];exact hn1,a3,λl zs b y d N a2=>?_⟩;have S:Srt rss b:=⟨a2,N.symm.nodup L,λr=>(N.mem_iff).trans (j r)⟩;have s3:=s2.upd (o:=.lst zs) y;have W:upd H2 l (.lst zs) l=some (.lst zs):=A1;have C:upd H2 l (.lst zs) g=some (.lst []):=C8 (B _ _ V) y;have d:=d.same ((Same.refl H2).upd (o:=.lst zs) y);have a4:l≠g:=(A6 (B _ _ V) y).symm;generalize upd H2 l (.lst zs)=H3 at s3 W C d;have I:∀r∈b,r.length=n:=λr m=>hR r ((S.mem r).mp m);have a8:zs.length<=1000:=by
   have:=Tab.nodup_le b rss S.nd λr m=>(S.mem r).mp m;rw[d.1];rw[<-hI.1]at this;omega
  have Z:H g=none:=M;refine⟨l,rfl,⟨_,SqL.of W⟩,?_⟩;refine O7 (K:=K) (a:=l) (xs:=zs) (λi σ H'=>Ex2 λo2 fs=>An5 (σ=[some (.ref p),some (.ref g),o2]) (Off [g] H3 H') (H' g=some (.lst fs)) (Its H' fs (LO (b.take i))) (fs.length<=i)) ⟨none,[],rfl,Off.refl _ _,C,.nil,ao _⟩ (λi σ H' _ h=>by obtain⟨_,_,_,o',_⟩:=h;exact SqL.of (o' _ _ (by simpa using a4) W)) ?_ ?_
  .rintro i x σ H' J ⟨o2,fs,rfl,off,D,hIf,hfl⟩;obtain⟨r,m,a0,a1⟩:=d.mem J;have a7:i<zs.length:=(aH.mp J).1;have O:IT H' x r:=by
    obtain⟨xa,rfl,R⟩:=a1;exact⟨xa,rfl,off _ _ (by simpa using K0 R C (by intro z;cases z)) R⟩
   have Y:∀f∈LO (b.take i),f.length<=1000:=λf D=>by
    have:=(a5f (n:=n) (b.take i) λr m=>I r (cm m)).1 f D;rw[I f (cm this)];exact hn2
   have t:LO (b.take (i+1))=if (LO (b.take i)).any (λu=>Bel u r)then LO (b.take i)else LO (b.take i)++[r]:=by
    rw[bj,a0];exact a0Q _ _
   dsimp only[A9];refine⟨_,rfl,_,rfl,g,x,fs,_,r,rfl,D,hIf,O,Y,λH2 s2=>⟨_,rfl,?_⟩⟩;cases e:(LO (b.take i)).any (λu=>Bel u r)with
   |true =>
    rw[e,az rfl]at t;refine L5 ⟨_,fs,rfl,off.trans s2.off,s2 _ _ D,?_,by omega⟩;rw[t];exact hIf.same s2
   |false =>
    rw[e,aq (by decide)]at t;have G:=s2 _ _ D;refine W4 ⟨_,rfl,.inl ⟨rfl,_,SqL.of G⟩,_,rfl,g,_,_,rfl,rfl,G,by omega,?_⟩;refine⟨_,fs++[x],rfl,(off.trans s2.off).set (by simp),A1,?_,by simp;omega⟩;rw[t];exact Its.put ((hIf.same s2).snoc (O.same s2)) G
  .rintro σ H' ⟨o2,fs,rfl,off,D,hIf,_⟩;rw[d.1,bq]at hIf;refine⟨_,rfl,g,fs,rfl,.inl ⟨SqL.of D,λq hq=>?_⟩⟩;have s4:=(Same.refl H').upd (o:=.tup fs) hq;refine k q fs b _ ((a2r s3 Z off).trans s4) S A1 ?_;have e:=a4g (n:=n) b I S.ri S.nd b [] (by simp);rw[e]at hIf;have U:(b.filter λv=>Lst b v)=b.filter λv=>Lst rss v:=by
    congr 1;funext v;exact Y6 S.mem v
   rw[U]at hIf;exact hIf.same s4
end
theorem b1C(rss:LLI)(v:List Int)(j:Nat):Z7 rss v j=(rss.map λr=>dot r v*r.getD j 0).sum:=by
 unfold Z7 O3;induction rss with
 |nil=>rfl
 |cons r rss a=>rw[aP,aY,bF,aP,bF,a]
theorem a8v{α:Type}[DecidableEq α]:∀(a b:List α),a.Nodup->(∀x∈a,x∈b)->a.length<=b.length
 |[],b,_,_=>bp _
 |x::a,b,e,h=>by
  obtain⟨h1,h2⟩:=cL.mp e;have c:=h x au;have:=a8v a (b.erase x) h2 λy d=>(List.mem_erase_of_ne (λz:y=x=>h1 (z ▸ d))).mpr (h y (ar _ d));rw[List.length_erase_of_mem c]at this;have:=List.length_pos_of_mem c;rw[aN];omega
end K34
namespace K34
open PySem PySem.Spec PyProof.Rows L2
def b7O(u t:List Int):List Int:=List.zipWith (λa b=>a+b) u t
theorem a6s:∀{r u t:List Int},u.length=t.length->dot r (b7O u t)=dot r u+dot r t
 |[],_,_,_=>by simp[dot]
 |_::_,[],[],_=>by simp[dot,b7O]
 |a::r,x::u,y::t,h=>by
  have b:=a6s (r:=r) (u:=u) (t:=t) (by simpa using h);unfold b7O at b⊢;rw[aY,B9,B9,B9,b,fU];omega
theorem gdx{a b:List Int}(h:a.length=b.length)(e:∀j,j<b.length->a.getD j 0=b.getD j 0):a=b:=by
 refine fc h λi h1 h2=>?_;have:=e i h2;rw[ak,ak,ai h1,ai h2]at this;exact this
theorem a2Z{xs:List Int}{j:Nat}(h:j<xs.length):xs.getD j 0∈xs:=by
 rw[ak,ai h];exact cz h
theorem a6Q(xs:List Int)(k:Nat)(z:Int)(j:Nat)(a:k<xs.length):(xs.set k z).getD j 0=if j=k then z else xs.getD j 0:=by
 rw[ak,List.getElem?_set];by_cases e:j=k
 .subst e;rw[az rfl,az a,az rfl];rfl
 .rw[aq (dJ e),aq e,ak]
def G7(a b:List Int):List Int:=List.zipWith (λa b=>a+b) a b
def a0p(c:Int)(r:List Int):List Int:=r.map λz=>c*z
def TgA:List Int->LLI->List Int->List Int
 |acc,r::rss,c::cs=>TgA (G7 acc (a0p c r)) rss cs
 |acc,_,_=>acc
theorem K3(a b:List Int)(h:a.length=b.length):(G7 a b).length=b.length:=by unfold G7;rw[d_];omega
theorem C7(c:Int)(r:List Int):(a0p c r).length=r.length:=aj ..
theorem a0q(a b:List Int)(h:a.length=b.length)(j:Nat):(G7 a b).getD j 0=a.getD j 0+b.getD j 0:=by
 unfold G7;rw[ak,ak,ak,List.getElem?_zipWith];by_cases c:j<a.length
 .rw[ai c,ai (by omega)];rfl
 .rw[bL (by omega),bL (by omega)];rfl
theorem a7M(c:Int)(r:List Int)(j:Nat):(a0p c r).getD j 0=c*r.getD j 0:=by
 unfold a0p;rw[ak,aQ,ak];cases r[j]? with
 |none=>show(0:Int)=c*0;omega
 |some z=>rfl
theorem a9f(a r:List Int)(h:a.length=r.length):G7 a (a0p 0 r)=a:=by
 refine gdx (by rw[K3 _ _ (by rw[C7];exact h),C7];exact h.symm) λj _=>?_;rw[a0q _ _ (by rw[C7];exact h),a7M];omega
theorem a9c{n:Nat}:∀(rss:LLI) (cs acc:List Int),(∀r∈rss,r.length=n)->acc.length=n->(TgA acc rss cs).length=n
 |[],cs,acc,_,h=>by cases cs<;>exact h
 |r::rss,[],acc,_,h=>h
 |r::rss,c::cs,acc,a,h=>by
  have h1:=a r (au ..);exact a9c rss cs _ (λq b=>a q (ar _ b)) (by rw[K3 _ _ (by rw[C7];omega),C7,h1])
theorem a3U{α:Type}{xs:List α}{i:Nat}{x:α}(h:xs[i]?=some x):xs.drop i=x::xs.drop (i+1):=by
 obtain⟨h1,h2⟩:=aH.mp h;rw[cH h1,h2]
theorem a6p:∀(r u t:List Int),u.length=t.length->dot r (G7 u t)=dot r u+dot r t:=λr u t h=>a6s (r:=r) (u:=u) (t:=t) h
theorem a3i:∀(r t:List Int) (c:Int),dot r (a0p c t)=c*dot r t
 |[],_,c=>by simp[dot]
 |_::_,[],c=>by simp[dot,a0p]
 |a::r,y::t,c=>by
  show dot (a::r) ((c*y)::a0p c t)=_;rw[B9,B9,a3i r t c,fU,Int.mul_left_comm]
theorem b5g{n:Nat}(r:List Int):∀(tss:LLI) (cs acc:List Int),acc.length=n->(∀t∈tss,t.length=n)->dot r (TgA acc tss cs)=dot r acc+dot (tss.map (dot r)) cs
 |[],cs,acc,_,_=>by cases cs<;>simp[TgA,dot]
 |t::tss,[],acc,_,_=>by simp[TgA,dot]
 |t::tss,c::cs,acc,a,b=>by
  have h1:=b t au;show dot r (TgA (G7 acc (a0p c t)) tss cs)=_;rw[b5g r tss cs _ (by rw[K3 _ _ (by rw[C7,a,h1]),C7,h1]) (λq d=>b q (ar _ d)),a6p _ _ _ (by rw[C7,a,h1]),a3i,aP,B9,Int.mul_comm c];omega
theorem a7A{n:Nat}(j:Nat):∀(tss:LLI) (cs acc:List Int),acc.length=n->(∀t∈tss,t.length=n)->(TgA acc tss cs).getD j 0=acc.getD j 0+dot (tss.map λt=>t.getD j 0) cs
 |[],cs,acc,_,_=>by cases cs<;>simp[TgA,dot]
 |t::tss,[],acc,_,_=>by simp[TgA,dot]
 |t::tss,c::cs,acc,a,b=>by
  have h1:=b t au;show(TgA (G7 acc (a0p c t)) tss cs).getD j 0=_;rw[a7A j tss cs _ (by rw[K3 _ _ (by rw[C7,a,h1]),C7,h1]) (λq d=>b q (ar _ d)),a0q _ _ (by rw[C7,a,h1]),a7M,aP,B9,Int.mul_comm c];omega
theorem a0M:∀(a c:List Int),a.length=c.length->(∀x∈a,1<=x)->(∀x∈c,0<=x)->c.sum<=dot a c
 |[],[],_,_,_=>by simp[dot]
 |x::a,y::c,h,d,e=>by
  rw[B9,bF];have h1:=a0M a c (by simpa using h) (λz b=>d z (ar _ b)) (λz b=>e z (ar _ b));have h2:=bU (d x au) (e y au);omega
theorem a3x:∀(n:Nat) (ys:List Int),dot (List.replicate n 0) ys=0
 |0,_=>by simp[dot]
 |n+1,[]=>by simp[dot]
 |n+1,y::ys=>by rw[bH,B9,a3x n ys];omega
theorem b5s(n:Nat)(xs:List Int):Wi (List.replicate n none) xs=true:=by
 unfold Wi;induction n generalizing xs with
 |zero=>rfl
 |succ n a =>
  cases xs with
  |nil=>rfl
  |cons x xs=>rw[bH,aY,cU,a];rfl
abbrev tgl(n:Nat)(tss:LLI)(c:List Int):List Int:=TgA (List.replicate n 0) tss c
abbrev fre(m:Nat):List (Option Int):=List.replicate m none
theorem J2(m:Nat):(fre m).length=m:=aK
theorem a7D(n j:Nat):(List.replicate n (0:Int)).getD j 0=0:=by
 rw[ak,dD];split<;>rfl
abbrev Cnt(tss:LLI)(row c:List Int):Prop:=Least [tss.map (dot row)] (fre tss.length) c
section
variable {rss tss:LLI}{row:List Int}{n:Nat}
theorem a1O(h:∀t∈tss,t.length=n)(c:List Int):(tgl n tss c).length=n:=a9c tss c _ h aK
variable (hR:∀r∈rss,r.length=n) (hrow:row.length=n) (hL:∀v,v∈tss↔Least rss (fre n) v)
include hL in
include hL hrow in
include hR hrow hL in
include hR hrow hL in
end
section
variable {P:Program}{w:World}{K:PySem.W.Frag}{mg:Str->Option Value}{base:Heap}
inductive IspNought(vs:List V)(H:Hp)(Q:VK)(E:XK):Prop
 |mk (n:Int) (_:vs=[.int n]) (_:1<=n) (_:n<=1000) (_:∀v H',Same H H'->IT H' v (List.replicate n.toNat 0)->Q v H'):IspNought  vs H Q E
def a5C:Sp:=λvs H Q E=>IspNought  vs H Q E
theorem a9s:FnScope ["width"] ["width"] (A4 a0x):=⟨rfl,rfl,rfl,by decide +kernel,rfl,by decide +kernel,by decide +kernel⟩
theorem a9H(F:FunAt K mg "nought" a0x ["width"]):Ok P w K mg base "nought" 1 ["width"] a5C:=by
 refine F.okJ a9s (λvs H Q E h=>?_) (λb f A a s H vs Q E d h=>?_)
 .obtain⟨n,rfl,_⟩:=h;rfl
 .obtain⟨n,rfl,h1,h2,k⟩:=h;refine⟨_,(A8 (B2 (b7n (C4 (jaC A2 jaN)) (jv 0)))),?_⟩;have g:(1000:Nat)<=sizeLine:=by rw[a_];decide
  refine⟨by show 1<=sizeLine;omega,λp c=>⟨_,rfl,p,[.int 0],n,rfl,rfl,A1,by simp,h1,?_,λq H' s e=>?_⟩⟩
  .show(1:Int)*n<=_;omega
  .rw[W7]at e;exact k _ _ (((Same.refl H).upd c).trans s) ⟨q,rfl,e⟩
inductive IspZip(g:Int->Int->Int)(vs:List V)(H:Hp)(Q:VK)(E:XK):Prop
 |mk (x:_) (y:_) (xs:_) (ys:_) (_:vs=[x,y]) (_:IT H x xs) (_:IT H y ys) (_:xs.length<=1000) (_:∀v H',Same H H'->IT H' v (List.zipWith g xs ys)->Q v H'):IspZip g vs H Q E
def b5A(g:Int->Int->Int):Sp:=λvs H Q E=>IspZip g vs H Q E
theorem b3V:FnScope ["one","other"] ["one","other"] (A4 a4B):=⟨rfl,rfl,rfl,by decide +kernel,rfl,by decide +kernel,by decide +kernel⟩
theorem b4J(F:FunAt K mg "plus" a4B ["one","other"])(T:Tx mg):Ok P w K mg base "plus" 1 ["one","other"] (b5A λa b=>a+b):=by
 refine F.okJ b3V (λvs H Q E h=>?_) (λe f A d s H vs Q E m h=>?_)
 .obtain⟨x,y,xs,ys,rfl,_⟩:=h;rfl
 .obtain⟨_,_,xs,ys,rfl,⟨a,rfl,ha⟩,⟨b,rfl,hb⟩,c,k⟩:=h;refine⟨_,(A8 (B2 (B4 K rfl T.b_tuple (jaC (B7 (N:=["a","b"]) (src:=[none,none]) (a0i K rfl T.b_zip (jaC (jv 0) (jaC (jv 1) jaN))) (by show C0 _ _=true;rfl) (by rfl) (by rfl)
 (λ_ _ _ _ _=>(U3 K 2 (C1 (A7 (i:=0) (show(["a","b"]:List Str).Nodup by decide +kernel) rfl (Or.inl rfl)) (C1 (A7 (i:=1) (show(["a","b"]:List Str).Nodup by decide +kernel) rfl (Or.inl rfl)) N7)))) (λ_ _ _ _ _=>C2) (λ_ _ _ _ _=>(L3 (jv 0) (jv 1)))) jaN)))),?_⟩
  refine⟨_,rfl,_,rfl,true,true,a,b,rfl,⟨_,SqT.of ha⟩,⟨_,SqT.of hb⟩,?_⟩;refine a5h (caps:=[]) (λx y=>V.int (x+y)) (sqt ha) (sqt hb) c (λH' s=>⟨sqt (s _ _ ha),sqt (s _ _ hb)⟩) rfl (λx y H1 j _ q=>⟨_,rfl,_,rfl,_,_,rfl,rfl,q⟩) λH1 p s g=>?_;rw[a4i (λx y=>x+y) V.int];refine⟨p,_,rfl,.inl ⟨SqL.of A1,λl c=>?_⟩⟩;exact k _ _ ((s.upd g).upd c) ⟨l,rfl,A1⟩
inductive IspTimes(vs:List V)(H:Hp)(Q:VK)(E:XK):Prop
 |mk (m:Int) (x:V) (xs:List Int) (_:vs=[.int m,x]) (_:IT H x xs) (_:xs.length<=1000) (_:0<=m) (_:m<2 ^ 63) (_:∀v H',Same H H'->IT H' v (xs.map λz=>m*z)->Q v H'):IspTimes  vs H Q E
def a7W:Sp:=λvs H Q E=>IspTimes  vs H Q E
theorem b1i:FnScope ["many","one"] ["many","one"] (A4 a1Q):=⟨rfl,rfl,rfl,by decide +kernel,rfl,by decide +kernel,by decide +kernel⟩
theorem b1Z(F:FunAt K mg "times" a1Q ["many","one"])(T:Tx mg):Ok P w K mg base "times" 1 ["many","one"] a7W:=by
 refine F.okJ b1i (λvs H Q E h=>?_) (λd f A c s H vs Q E j h=>?_)
 .obtain⟨m,x,xs,rfl,_⟩:=h;rfl
 .obtain⟨m,_,xs,rfl,⟨a,rfl,ha⟩,b,m0,m1,k⟩:=h;refine⟨_,(A8 (B2 (B4 K rfl T.b_tuple (jaC (B7 (N:=["a","many"]) (src:=[none,some 0]) (L1 K (jv 1)) (by show C0 _ _=true;rfl) (by rfl) (by rfl)
 (λ_ _ _ _ _=>(A7 (i:=0) (show(["a","many"]:List Str).Nodup by decide +kernel) rfl (Or.inl rfl))) (λ_ _ _ _ _=>C2) (λ_ _ _ _ _=>(Q9 (jv 1) (jv 0)))) jaN)))),?_⟩
  refine⟨_,rfl,a,rfl,⟨_,SqT.of ha⟩,?_⟩;refine a0r (caps:=[some (.int m)]) (λz=>V.int (m*z)) b (λH' s=>SqT.of (s _ _ ha)) rfl (λx H1 g _ _ q=>⟨_,rfl,_,rfl,_,_,rfl,rfl,.inl ⟨by omega,by omega⟩,q⟩) λH1 p s e=>?_;rw[show(xs.map λx=>V.int (m*x))=(xs.map λx=>m*x).map V.int by rw[cx];rfl];refine⟨p,_,rfl,.inl ⟨SqL.of A1,λl b=>?_⟩⟩;exact k _ _ ((s.upd e).upd b) ⟨l,rfl,A1⟩
inductive IspTog(vs:List V)(H:Hp)(Q:VK)(E:XK):Prop
 |mk (t c:Addr) (us:List V) (rss:LLI) (cs:List Int) (n:Nat) (_:vs=[.ref t,.ref c,.int n]) (_:H t=some (.tup us)) (_:Its H us rss) (_:H c=some (.tup (cs.map V.int))) (_:1<=n) (_:n<=1000) (_:(∀r∈rss,r.length=n)) (_:(∀c∈cs,0<=c/\c<2 ^ 63)) (_:∀v H',Same H H'->IT H' v (TgA (List.replicate n 0) rss cs)->Q v H'):IspTog  vs H Q E
def b5B:Sp:=λvs H Q E=>IspTog  vs H Q E
theorem sc_together:FnScope ["told","counts","width","whole","one","many"] ["told","counts","width"] (A4 S6):=⟨rfl,rfl,rfl,by decide +kernel,rfl,by decide +kernel,by decide +kernel⟩
theorem a5Q(F:FunAt K mg "together" S6 ["told","counts","width"])(T:Tx mg)(d:Ok P w K mg base "nought" 1 ["width"] a5C)(g:Ok P w K mg base "times" 1 ["many","one"] a7W)(k:Ok P w K mg base "plus" 1 ["one","other"] (b5A λa b=>a+b)):Ok P w K mg base "together" 2 ["told","counts","width"] b5B:=by
 refine F.okJ sc_together (λvs H Q E h=>?_) (λR f A N s H vs Q E u h=>?_)
 .obtain⟨t,c,us,rss,cs,n,rfl,_⟩:=h;rfl
 .obtain⟨t,c,us,rss,cs,n,rfl,ht,hI,hc,hn1,hn,hR,hC,kk⟩:=h;refine⟨_,(A3 (B3 (i:=3) sc_together.nd rfl (Or.inl rfl) (B1 d (u.mono (by omega)) rfl (jaC (jv 2) jaN)))
 (A3 (L0 (a0i K rfl T.b_zip (jaC (jv 0) (jaC (jv 1) jaN))) (U3 K 2 (C1 (A7 (i:=4) sc_together.nd rfl (Or.inl rfl)) (C1 (A7 (i:=5) sc_together.nd rfl (Or.inl rfl)) N7)))
 (A8 (K1 (b2z (jv 5) A2)
 (A8 (B3 (i:=3) sc_together.nd rfl (Or.inl rfl) (B1 k (u.mono (by omega)) rfl (jaC (jv 3) (jaC (B1 g (u.mono (by omega)) rfl (jaC (jv 5) (jaC (jv 4) jaN))) jaN)))))
 E4)))
 (A8 (B2 (jv 3))))),?_⟩
  refine⟨_,rfl,_,rfl,by omega,by omega,λU H1 s1 y=>?_⟩;rw[bb]at y;dsimp only[A9];refine⟨_,rfl,_,rfl,true,true,t,c,rfl,⟨_,SqT.of (s1 _ _ ht)⟩,⟨_,SqT.of (s1 _ _ hc)⟩,?_⟩;refine b5e (k1:=true) (k2:=true) (xs:=us) (zs:=cs.map V.int) (λi σ H'=>Ex4 λv L M acc=>An5 (σ=[some (.ref t),some (.ref c),some (.int n),some v,L,M]) (Same H H') (IT H' v acc) (acc.length=n) (TgA acc (rss.drop i) (cs.drop i)=TgA (List.replicate n 0) rss cs))
   ⟨U,none,none,_,rfl,s1,y,aK,rfl⟩ (λi σ H' _ _ h=>by obtain⟨_,_,_,_,_,s',_⟩:=h;exact⟨SqT.of (s' _ _ ht),SqT.of (s' _ _ hc)⟩) ?_ ?_
  .rintro i x z σ H' q hx hz' ⟨v,L,M,acc,rfl,s',hv',hal,hT⟩ hq;obtain⟨j,p,rfl⟩:=M3 hz';obtain⟨r,u,D,ra,rfl,C⟩:=hI.mem hx;have G:=hR r u;have m:=hC j (aF p);rw[a3U D,a3U p]at hT;refine⟨q,[.ref ra,.int j],rfl,SqT.of A1,rfl,.ref ra,[.int j],rfl,.int j,[],rfl,rfl,?_⟩;have B:=s'.upd (o:=.tup [.ref ra,.int j]) hq;have l:=hv'.same ((Same.refl H').upd (o:=.tup [.ref ra,.int j]) hq);generalize upd H' q (.tup [.ref ra,.int j])=Y at B l;dsimp only[A9];refine⟨_,rfl,_,_,rfl,rfl,_,rfl,a4Q (λe=>?_) (λe=>?_)⟩
   .refine⟨_,rfl,_,rfl,_,rfl,j,.ref ra,r,rfl,⟨ra,rfl,B _ _ C⟩,by omega,m.1,m.2,λW Z O I=>?_⟩;refine⟨v,W,acc,_,rfl,l.same O,I,by omega,λX H5 S J=>?_⟩;exact⟨X,_,_,G7 acc (a0p j r),rfl,(B.trans O).trans S,J,by rw[K3 _ _ (by rw[C7];omega),C7];exact G,hT⟩
   .have e0:j=0:=by
     have:¬0<j:=λz=>e (bh z);omega
    subst e0;change TgA (G7 acc (a0p 0 r)) _ _=_ at hT;rw[a9f acc r (by omega)]at hT;exact⟨v,_,_,acc,rfl,B,l,hal,hT⟩
  .rintro σ H' ⟨v,L,M,acc,rfl,s',hv',hal,hT⟩;have e:acc=TgA (List.replicate n 0) rss cs:=by
    rw[<-hT,aj,hI.1];by_cases h:rss.length<=cs.length
    .rw[dO h,fY];cases cs.drop rss.length<;>rfl
    .rw[Nat.min_eq_right (by omega),fY];cases rss.drop cs.length<;>rfl
   subst e;exact⟨_,rfl,kk _ _ s' hv'⟩
end
def Tk(H H':Hp):Prop:=∀c xs,H c=some (HO.tup xs)->H' c=some (.tup xs)
theorem Tk.trans{H H' a:Hp}(h:Tk H H')(g:Tk H' a):Tk H a:=λc xs e=>g c xs (h c xs e)
theorem Tk.same{H H':Hp}(s:Same H H'):Tk H H':=λc xs e=>s c _ e
theorem Tk.pot{H H':Hp}{a b:Addr}{n:Nat}(d:PotAt H a b n)(o:Off [a,b] H H'):Tk H H':=λc xs e=>o c _ (b5M d e) e
theorem Tk.put{H:Hp}{c:Addr}{xs:List V}{o:HO}(e:H c=some (.lst xs)):Tk H (upd H c o):=λd ys q=>by rw[A5 (K0 q e (by intro z;cases z))];exact q
theorem Tk.it{H H':Hp}(h:Tk H H'){v:V}{r:List Int}(g:IT H v r):IT H' v r:=let ⟨a,e,q⟩:=g;⟨a,e,h _ _ q⟩
theorem Tk.its{H H':Hp}(h:Tk H H'){vs:List V}{rss:LLI}(g:Its H vs rss):Its H' vs rss:=⟨g.1,λi v e=>let ⟨r,e1,e2⟩:=g.2 i v e;⟨r,e1,h.it e2⟩⟩
theorem a8H{H:Hp}:∀{vs:List V}{rss:LLI},Its H vs rss->Its H vs.reverse rss.reverse
 |[],[],_=>.nil
 |[],_::_,h=>by cases h.1
 |_::_,[],h=>by cases h.1
 |v::vs,r::rss,h=>by
  obtain⟨c,a,b⟩:=h.2 0 v rfl;have a:r=c:=by injection a
  rw[eM,eM];exact(a8H (vs:=vs) (rss:=rss) (h.drop 1)).app (Its.one (by rw[a];exact b))
section
variable {P:Program}{w:World}{K:PySem.W.Frag}{mg:Str->Option Value}{base:Heap}
theorem b7u(a:LLI):(IK a).length=a.length:=aj ..
theorem a8y(v:List Int):(v.map (Sum.inl:Int->Key)).map kV=v.map V.int:=by rw[cx];rfl
theorem mem_IK{a:LLI}{v:List Int}:v.map (Sum.inl:Int->Key)∈IK a↔v∈a:=by
 unfold IK;rw[aT];constructor
 .rintro⟨u,hu,e⟩;rw[<-a4S e];exact hu
 .intro h;exact⟨v,h,rfl⟩
def fir(n:Nat)(tss cts:LLI)(v:List Int):List Int:=(cts.find? λc=>decide (tgl n tss c=v)).getD []
theorem a8N{n:Nat}{tss a:LLI}{v:List Int}(d:List Int)(h:∃c∈a,tgl n tss c=v):fir n tss (a++[d]) v=fir n tss a v:=by
 obtain⟨c,b,e⟩:=h;unfold fir;rw[List.find?_append];cases q:a.find? λc=>decide (tgl n tss c=v)with
 |some x=>rfl
 |none=>exact absurd (bh e) (List.find?_eq_none.mp q c b)
theorem b5f{n:Nat}{tss a:LLI}{v d:List Int}(h:¬∃c∈a,tgl n tss c=v)(e:tgl n tss d=v):fir n tss (a++[d]) v=d:=by
 unfold fir;rw[List.find?_append,List.find?_eq_none.mpr λc b z=>h ⟨c,b,bO z⟩];simp[e]
structure NarC(tss:LLI)(row:List Int)(most:Nat)(cts fss:LLI):Prop where
 ri:J4 cts
 wk:∃F W k,cts.Perm F/\Wk [tss.map (dot row)] (fre tss.length) F W [] k/\W.length<=most
 ex:∃mss srt,mss.Nodup/\(∀v,v∈mss↔∃c∈cts,tgl row.length tss c=v)/\Srt mss srt/\fss=srt.filter λv=>Lst mss v
inductive IspNarrow(D:Addr)(vs:List V)(H:Hp)(Q:VK)(E:XK):Prop
 |mk (t r:Addr) (zs:List V) (tss:LLI) (row:List Int) (most:Nat) (mi:Int) (_:vs=[.ref t,.ref r,.int mi]) (_:mi=most) (_:H t=some (.tup zs)) (_:Its H zs tss) (_:H r=some (.tup (row.map V.int))) (_:1<=row.length) (_:row.length<=100) (_:zs.length<=100) (_:most<=900) (_:(∀v∈tss,v.length=row.length/\Sm v)) (_:Sm (tss.map (dot row))) (_:(∀q f g fs fss gs cts H',Same H H'->H' q=some (.tup [.ref f,.ref g])->H' f=some (.tup fs)->Its H' fs fss->H' g=some (.tup gs)->Its H' gs (fss.map (fir row.length tss cts))->NarC tss row most cts fss->Q (.ref q) H')) (_:∀H',Same H H'->b3y [tss.map (dot row)] (fre tss.length) most->E (.ref D) none H'):IspNarrow D vs H Q E
def a0t(D:Addr):Sp:=λvs H Q E=>IspNarrow D vs H Q E
theorem sc_narrowed:FnScope ["told","row","most","totals","first","counts","found"] ["told","row","most"] (A4 S7):=⟨rfl,rfl,rfl,by decide +kernel,rfl,by decide +kernel,by decide +kernel⟩
theorem a5R{j:Addr}(F':FunAt K mg "narrowed" S7 ["told","row","most"])(T:Tx mg)(p:Ok P w K mg base "row_sum" 1 ["row","one"] a2o)(O:Ok P w K mg base "free" 1 ["width"] b0Z)(n:Ok P w K mg base "together" 2 ["told","counts","width"] b5B)(m:Ok P w K mg base "least_of" 3 ["some"] a3E)(B:OkE P w K mg base "least" 7 ["rows","caps","most"] (a7Z j)):OkE P w K mg base "narrowed" 8 ["told","row","most"] (a0t j):=by
 refine F'.okE sc_narrowed (λvs H Q E h=>?_) (λf4 f A e7 s H vs Q E hr h=>?_)
 .obtain⟨t,r,zs,tss,row,most,mi,rfl,_⟩:=h;rfl
 .obtain⟨t,r,zs,tss,row,most,_,rfl,rfl,ht,hI,hrw,r1,r2,hzl,hmo,hT,hS,kq,ke⟩:=h;have hu:=hr.u60;have hz:(30000:Nat)<=sizeLine:=by rw[a_];decide
  refine⟨_,(A3 (B3 (i:=3) sc_narrowed.nd rfl (Or.inl rfl) (B4 K rfl T.b_tuple (jaC (B7 (N:=["one","row"]) (src:=[none,some 1]) (L1 K (jv 0)) (by show C0 _ _=true;rfl) (by rfl) (by rfl)
 (λ_ _ _ _ _=>(A7 (i:=0) (show(["one","row"]:List Str).Nodup by decide +kernel) rfl (Or.inl rfl))) (λ_ _ _ _ _=>C2) (λ_ _ _ _ _=>(B1 p (hr.mono (by omega)) rfl (jaC (jv 1) (jaC (jv 0) jaN))))) jaN)))
 (A3 (B3 (i:=4) sc_narrowed.nd rfl (Or.inr rfl) a8E)
 (A3 (L0 (L1 K (S2 K (b4X B (hr.mono (by omega)) rfl (jaC (C4 (jaC (jv 3) jaN)) (jaC (B1 O (hr.mono (by omega)) rfl (jaC (O6 K rfl T.b_len (jaC (jv 0) jaN)) jaN)) (jaC (jv 2) jaN)))) A2)) (A7 (i:=5) sc_narrowed.nd rfl (Or.inl rfl))
 (A8 (U0 (b4W hu (jv 4) (B1 n (hr.mono (by omega)) rfl (jaC (jv 0) (jaC (jv 5) (jaC (O6 K rfl T.b_len (jaC (jv 1) jaN)) jaN)))) (jv 5)))) (hp:=PassesOwn.leaving))
 (A3 (B3 (i:=6) sc_narrowed.nd rfl (Or.inl rfl) (B1 m (hr.mono (by omega)) rfl (jaC (a9X rfl T.b_tuple (jaC (jv 4) jaN)) jaN)))
 (A8 (B2 (C4 (jaC (jv 6) (jaC (B4 K rfl T.b_tuple (jaC (B7 (N:=["one","first"]) (src:=[none,some 4]) (L1 K (jv 6)) (by show C0 _ _=true;rfl) (by rfl) (by rfl)
 (λ_ _ _ _ _=>(A7 (i:=0) (show(["one","first"]:List Str).Nodup by decide +kernel) rfl (Or.inl rfl))) (λ_ _ _ _ _=>C2) (λ_ _ _ _ _=>(b7q hu (jv 1) (jv 0)))) jaN)) jaN))))))))),?_⟩
  refine⟨_,rfl,t,rfl,⟨_,SqT.of ht⟩,?_⟩;refine a7O (caps:=[some (.ref r)]) (λv=>V.int (dot row v)) (by omega) (λH' s=>SqT.of (s _ _ ht)) hI rfl (λv u H1 Q1 d5 D s1 q=>?_) λH1 p1 s1 d1=>?_
  .exact⟨_,rfl,_,rfl,.ref r,v,row,u,rfl,⟨r,rfl,s1 _ _ hrw⟩,D,by omega,(hT u d5).2,λH2 s2=>q H2 s2⟩
  rw[show(tss.map λv=>V.int (dot row v))=(tss.map (dot row)).map V.int by rw[cx];rfl];refine⟨p1,_,rfl,.inl ⟨SqL.of A1,λpt d4=>?_⟩⟩;have s2:=(s1.upd (o:=.lst ((tss.map (dot row)).map V.int)) d1).upd (o:=.tup ((tss.map (dot row)).map V.int)) d4;have e2:upd (upd H1 p1 (.lst ((tss.map (dot row)).map V.int))) pt (.tup ((tss.map (dot row)).map V.int)) pt=some (.tup ((tss.map (dot row)).map V.int)):=A1;generalize upd (upd H1 p1 (.lst ((tss.map (dot row)).map V.int))) pt (.tup ((tss.map (dot row)).map V.int))=H2 at s2 e2
  try dsimp only[A9,List.set]
  intro d hd
  try dsimp only[A9,List.set]
  have c8:H d=none:=s2.free hd;have a4:=(Same.refl H2).upd (o:=.dT []) hd;have s3:=s2.trans a4;have e3:upd H2 d (.dT []) d=some (.dT []):=A1;have e2:=a4 _ _ e2;generalize upd H2 d (.dT [])=H3 at s3 a4 e3 e2;refine⟨_,rfl,by show 1<=sizeLine;omega,λp4 d2=>?_⟩;have a0:=(Same.refl H3).upd (o:=.tup [.ref pt]) d2;have s4:=s3.trans a0;have e4:upd H3 p4 (.tup [.ref pt]) p4=some (.tup [.ref pt]):=A1;have e2:=a0 _ _ e2;have a8:=a0 _ _ e3;generalize upd H3 p4 (.tup [.ref pt])=H4 at s4 a0 e4 e2 a8;refine⟨_,rfl,t,_,rfl,.inr (SqT.of (s4 _ _ ht)),_,rfl,by omega,by omega,λca H5 s5 b3=>?_⟩;rw[bb,hI.1]at b3;have c9:tss.length<=100:=by rw[<-hI.1];exact hzl
  have Y:SyAt H5 p4 ca [tss.map (dot row)] (fre tss.length):=⟨⟨[.ref pt],s5 _ _ e4,Its.nil.snoc ⟨pt,rfl,s5 _ _ e2⟩,by simp⟩,b3,bp _,by rw[J2];exact c9,λr' a1=>by
   rw[aA.mp a1,J2,aj];exact⟨rfl,hS⟩⟩
  have f3:(most+1)*(tss.length+1)<=901*101:=Nat.mul_le_mul (by omega) (by omega);refine⟨_,rfl,p4,ca,_,fre tss.length,most,_,rfl,rfl,Y,by rw[J2];omega,λq t0 pp ys l ws Fl W k H6 s6 hq b9 R X d6 f9 f5 hW b6=>?_,λH6 s6 ho=>ke H6 ((s4.trans s5).trans s6) ho⟩;have c1:=s5.trans s6;have f1:=s4.trans c1;have c4:=c1 _ _ a8;have c6:∀c,c∈l↔Cnt tss row c:=λc=>X.mem_iff.trans (hW.least (λr' a1=>(Y.hR r' a1).1) c);have f2:l.length<=most:=by rw[X.length_eq];have:=hW.lv;omega
  have b5:∀c∈l,c.sum<=(most:Int)+1:=λc hc=>by
   obtain⟨i1,i2,i3,i4,i5,i6,i7,i8⟩:=hW.lv;obtain⟨i,q1,q2,lv⟩:=i2 c (i3 c (X.mem_iff.mp hc)).1;rw[lv.sum];omega
  have b0:∀v∈tss,v.length=row.length:=λv D=>(hT v D).1;refine⟨q,_,0,_,rfl,rfl,SqT.of hq,rfl,t0,rfl,⟨_,SqT.of b9⟩,?_⟩;refine a0K (K:=K) (a:=t0) (xs:=ys) (λi σ H'=>Ex3 λ(o5:Option V) (kvs:List (List Key×V)) (g:LLI)=>An9 (σ=[some (.ref t),some (.ref r),some (.int most),some (.ref pt),some (.ref d),o5,none]) (Same H H') (Tk H6 H') (H' d=some (.dT kvs)) (kvs.map (·.1)=IK g) (g.Nodup) (g.length<=i) ((∀v,v∈g↔∃c∈l.take i,tgl row.length tss c=v)) (∀v∈g,∃y,J1 kvs (v.map Sum.inl)=some y/\IT H6 y (fir row.length tss (l.take i) v)))
   ⟨none,[],[],rfl,f1,λ_ _ e=>e,c4,rfl,eV,ao _,by simp,(λ_ z=>nomatch z)⟩ (λi σ H' _ h=>by obtain⟨_,_,_,_,_,tk,_⟩:=h;exact SqT.of (tk _ _ b9)) ?_ ?_
  .rintro i x σ H7 hx ⟨o5,kvs,g,rfl,s7,tk7,ed7,hk,hnd,hml7,hmem,hfir⟩;obtain⟨c,b1,c7,b2⟩:=R.mem hx;obtain⟨xa,rfl,a2⟩:=id b2;have f7:i<ys.length:=(aH.mp hx).1;have g0:=R.1;have b4:=((c6 c).mp b1).an;have Z:l.take (i+1)=l.take i++[c]:=by rw[bj,c7];rfl
   have f8:kvs.length=g.length:=by rw[<-b7u g,<-hk,aj]
   try dsimp only[A9,List.set]
   refine⟨_,rfl,d,rfl,.inr ⟨kvs,.inl ed7⟩,_,rfl,_,rfl,_,rfl,r,_,rfl,.inr (SqT.of (s7 _ _ hrw)),t,xa,zs,tss,c,row.length,by rw[aj];rfl,s7 _ _ ht,hI.same s7,tk7 _ _ a2,r1,by omega,b0,λy hy=>?_,λv8 H8 s8 e0=>?_⟩
   .have h1:=b4.nn y hy;have h2:=b2m b4.nn y hy;have:=b5 c b1;omega
   obtain⟨va,rfl,e1⟩:=e0;have C:=s8 _ _ ed7;have c2:=s7.trans s8;have a6:=tk7.trans (Tk.same s8);refine⟨_,rfl,kvs,(tgl row.length tss c).map Sum.inl,va,C,rfl,by rw[a8y];exact e1,by omega,λv' d7=>?_,λhn=>?_⟩
   .have hin:tgl row.length tss c∈g:=mem_IK.mp (by rw[<-hk];exact a7N d7);refine⟨_,kvs,g,rfl,c2,a6,C,hk,hnd,by omega,λv=>?_,λv D=>by rw[Z,a8N c ((hmem v).mp D)];exact hfir v D⟩;rw[hmem v,Z];constructor
    .rintro⟨c',h1,h2⟩;exact⟨c',ba _ h1,h2⟩
    .rintro⟨c',h1,rfl⟩;rcases aO.mp h1 with z|z
     .exact⟨c',z,rfl⟩
     .rw[aA.mp z];exact(hmem _).mp hin
   .have hni:tgl row.length tss c∉g:=λz=>a5o hn (by rw[hk];exact mem_IK.mpr z);refine⟨_,_,g++[tgl row.length tss c],rfl,λb o e=>by rw[A5 (A6 e c8)];exact c2 b o e,λb xs e=>by rw[A5 (K0 (a6 _ _ e) C (λz=>nomatch z))];exact a6 _ _ e,A1,by rw[a5N _ hn,bV,hk];unfold IK;rw[bV];rfl,a1Y hnd hni,by rw[ax];show _+1<=_;omega,λv=>?_,λv D=>?_⟩
    rotate_left
    .rw[Z,b0I];by_cases ev:v=tgl row.length tss c
     .rw[az (by rw[ev]),b5f (λz=>hni (by rw[<-ev];exact(hmem v).mpr z)) ev.symm];exact⟨_,rfl,b2⟩
     .have D:v∈g:=by
       rcases aO.mp D with z|z
       .exact z
       .exact absurd (aA.mp z) ev
      rw[aq (λz=>ev (a4S z)),a8N c ((hmem v).mp D)];exact hfir v D
    rw[aO,hmem v,Z,aA];constructor
    .rintro(⟨c',h1,h2⟩|rfl)
     .exact⟨c',ba _ h1,h2⟩
     .exact⟨c,by simp,rfl⟩
    .rintro⟨c',h1,rfl⟩;rcases aO.mp h1 with z|z
     .exact .inl ⟨c',z,rfl⟩
     .rw[aA.mp z];exact .inr rfl
  .rintro σ H7 ⟨o5,kvs,g,rfl,s7,tk7,ed7,hk,hnd,hml7,hmem,hfir⟩;rw[R.1,bq]at hmem hfir;rw[R.1]at hml7;have d0:∀v∈g,v.length=row.length:=λv D=>by
    obtain⟨c,_,rfl⟩:=(hmem v).mp D;exact a1O b0 c
   refine⟨_,rfl,d,kvs,g,rfl,ed7,hk,λp8 ms d3 F=>?_⟩;have L:=(Same.refl H7).upd (o:=.tup ms) d3;have e8:upd H7 p8 (.tup ms) p8=some (.tup ms):=A1;have s8:=s7.trans L;have F:=F.same L;have C:=L _ _ ed7;generalize upd H7 p8 (.tup ms)=H8 at s8 L e8 F C;refine⟨p8,ms,g,row.length,rfl,e8,F,by rw[F.1];omega,r1,by omega,d0,λp9 fs M H9 a5 S e9 U=>?_⟩;have s9:=s8.trans a5;have c5:=a5 _ _ C
   try dsimp only[A9,List.set]
   have a9:NarC tss row most l (M.filter λv=>Lst g v):=⟨d6,⟨Fl,W,k,X,hW,b6⟩,g,M,hnd,hmem,S,rfl⟩;have f6:fs.length<=most:=by
    rw[U.1];have:=Tab.nodup_le M g S.nd λr hr=>(S.mem r).mp hr;have:=bK (λv=>Lst g v) M;omega
   refine⟨_,rfl,_,rfl,p9,rfl,⟨_,SqT.of e9⟩,?_⟩;refine X1 (K:=K) (a:=p9) (xs:=fs) (by omega) (λi zs H'=>Same H9 H'/\zs.length<=i/\Its H' zs (((M.filter λv=>Lst g v).take i).map (fir row.length tss l))) ⟨Same.refl _,ao _,.nil⟩ (λi zs H' _ h=>⟨SqT.of (h.1 _ _ e9),h.2.1⟩) ?_ ?_
   .rintro i x zs' H10 hx ⟨s10,hzl',hIz⟩;obtain⟨v,d8,d9,xa,rfl,a2⟩:=U.mem hx;have e5:v∈g:=(S.mem v).mp (aU.mp d8).1;obtain⟨y,hy,e6⟩:=hfir v e5;refine⟨Sub.one,?_⟩;refine⟨_,rfl,_,rfl,d,y,rfl,?_,s10,by simp;omega,?_⟩
    .have:=DGet.t (k:=v.map Sum.inl) (s10 _ _ c5) (b:=xa) (by rw[a8y];exact s10 _ _ a2);rw[hy]at this;exact this
    .rw[bj,d9,bV];exact hIz.snoc ((((tk7.trans (Tk.same L)).trans (Tk.same a5)).trans (Tk.same s10)).it e6)
   .rintro zs' H10 ⟨s10,hzl',hIz⟩ p10 hp10;rw[U.1,bq]at hIz;refine⟨p10,_,rfl,.inl ⟨SqL.of A1,λG b7=>?_⟩⟩;have I:=((Same.refl H10).upd (o:=.lst zs') hp10).upd (o:=.tup zs') b7;have c0:=s10.trans I;have a7:upd (upd H10 p10 (.lst zs')) G (.tup zs') G=some (.tup zs'):=A1;generalize upd (upd H10 p10 (.lst zs')) G (.tup zs')=c3 at c0 I a7;refine⟨by show 2<=sizeLine;omega,λf0 b8=>?_⟩;have J:=(Same.refl c3).upd (o:=.tup [.ref p9,.ref G]) b8;have a3:=c0.trans J;exact kq f0 p9 G fs _ _ _ _ (s9.trans a3) A1 (a3 _ _ e9) (U.same a3) (J _ _ a7) ((hIz.same I).same J) a9
end
end K34
namespace L2
open PySem PySem.Spec PyProof.Rows
section
variable {prog:Program}{w:World}{A:Around}{I l S:Addr}{vs:List Value}{kw:List (Str×Value)}{R:Result->Shared->Prop}{h₀:Heap}{s:Shared}
theorem a9O(y:Nat->Nat->Bool)(Z:A.handled=none)(L:l≠I)(r:S≠I)(H:h₀.get? I=none)(J:h₀.get? S=none)(hl:h₀.IsTuple l vs.toArray)
  (C:∀(h:Heap) (tk:Nat) (i j:Nat) (V X:Value) (Q E:Value->Shared->Prop),M4 h₀ h->vs[i]?=some V->vs[j]?=some X->Q (.bool (y i j)) {s with heap:=h,toks:=tk}->wpAny (model prog w) A.in1 (richCompare .Lt V X) Q E {s with heap:=h,toks:=tk})
  (hR:∀v h' tk,vs[argBest y (vs.length-1)]?=some v->M4 h₀ h'->R (.ok (.ret v)) {s with heap:=h',toks:=tk}) :
  ∀(k j:Nat) (h:Heap) (t:Nat) (p:Value) (c:Nat),vs.length-(j+1)=k->j+1<=vs.length->h.IsTupleIter I l (j+1)->M4 h₀ h->vs[argBest y j]?=some p->h.get? S=some {cls:=.type "list",dict:=none,data:=.seq #[p,p] c,slots:=#[]} ->
   codeAny (model prog w) A (.builtin "min.loop" ⟨[.ref I,.none,.ref S],kw⟩) R {s with heap:=h,toks:=t}:=by
 have m:(toString "min" ++ toString ".loop" : String)="min.loop":=by decide
 have W:=Walks.tuple (prog:=prog) (w:=w) (A:=A.in1) Z I l L vs.toArray;have F:vs.toArray.size=vs.length:=aB ..;have gI:∀{h h':Heap},M4 h₀ h->(∀b o,b∉[I]->h.get? b=some o->h'.get? b=some o)->M4 h₀ h':=λg K b o e=>K b o (λz=>by rw[aA.mp z,H]at e;cases e) (g b o e);have gS:∀{h:Heap}{f:Obj->Obj},M4 h₀ h->M4 h₀ (h.update S f):=λg b o e=>(cO _ _ (λz=>by rw[<-z,J]at e;cases e)).trans (g b o e);have lst:∀{h:Heap},M4 h₀ h->h.IsTuple l vs.toArray:=λg=>by
  obtain⟨o,h1,h2⟩:=id hl;exact⟨o,g _ _ h1,h2⟩
 intro k;induction k with
 |zero =>
  intro j h t p c K hj x g n B;have D:j+1=vs.length:=by omega
  refine dt PySem.F.entry_min_loop ?_;rw[du PySem.F.plain_min_loop _];show wpAny _ A.in1 (seqItems? (.ref S)>>=_) _ _ _;refine aa (cE B rfl ?_);show wpAny _ A.in1 (tryCatch (pyNext (.ref I)) _>>=_) _ _ _;refine aa (wpAny_tryCatch (W.done _ _ _ ⟨by rw[F,<-D];exact x,lst g⟩ λh' tk d=>?_));have a:=d S _ (by simpa using r) B;show wpAny _ A.in1 (updateSeq S (λ_=>#[])>>=_) _ _ _;refine aa ?_;refine wpAny_updateSeq a rfl (aa (eG (ae ?_)));exact hR p _ tk (by rw[<-D];exact n) (gS (gI g d))
 |succ k U =>
  intro j h t p c K hj x g n B;have u:j+1<vs.length:=by omega
  refine dt PySem.F.entry_min_loop ?_;rw[du PySem.F.plain_min_loop _];show wpAny _ A.in1 (seqItems? (.ref S)>>=_) _ _ _;refine aa (cE B rfl ?_);show wpAny _ A.in1 (tryCatch (pyNext (.ref I)) _>>=_) _ _ _;refine aa (wpAny_tryCatch (W.item (j+1) _ _ _ (by rw[F];exact u) ⟨x,lst g⟩ λv h' tk Y q d=>?_));have T:vs[j+1]?=some v:=by simpa using Y
  have a:=d S _ (by simpa using r) B;have G:=gI g d;show wpAny _ A.in1 (tryCatch (holding [v,v] (richCompare .Lt v p>>=_)) _>>=_) _ _ _;refine aa (wpAny_tryCatch (b_ (aa (C _ _ (j+1) (argBest y j) v p _ _ G T n ?_))));refine aa (b_ (cW ?_));refine aa (eG (ae ?_));cases P:y (j+1) (argBest y j)with
  |true =>
   simp only[ei];refine aa ?_;refine wpAny_updateSeq a rfl (aa (eG ?_));rw[m];obtain⟨oI,M,N,O⟩:=id q.1;refine ae ⟨fj PySem.F.plain_min_loop _,U (j+1) _ _ v _ (by omega) u ⟨oI,(cO _ _ r).trans M,N,O⟩ (gS G) (by simp only[argBest,P,ei];exact T) (cp _ a rfl)⟩
  |false =>
   simp only[fG,fW];refine aa (eG ?_);rw[m];refine ae ⟨fj PySem.F.plain_min_loop _,U (j+1) _ _ p c (by omega) u q.1 G (by simp only[argBest,P,fG,fW];exact n) a⟩
end
section
variable {prog:Program}{w:World}{A:Around}{E:Value->Shared->Prop}{s:Shared}
theorem a7w{a b:Value}{Q:Value->Shared->Prop}(q:Nat->Nat->Bool)(O:A.handled=none)
  (f:∀(h:Heap) (tk:Nat) (i j:Nat) (n p:Value) (Q E:Value->Shared->Prop),M4 s.heap h->[a,b][i]?=some n->[a,b][j]?=some p->Q (.bool (q i j)) {s with heap:=h,toks:=tk}->wpAny (model prog w) A.in1 (richCompare .Lt n p) Q E {s with heap:=h,toks:=tk})
  (h1:∀v h' tk,[a,b][argBest q 1]?=some v->M4 s.heap h'->Q v {s with heap:=h',toks:=tk}) :
  wpAny (model prog w) A (call (.builtin "min") [a,b]) Q E s:=by
 have c:(toString "min" ++ toString ".loop" : String)="min.loop":=by decide
 have t:(s.heap.push {cls:=.type "tuple",data:=.seq #[a,b]}).IsTuple s.heap.objs.size #[a,b]:=⟨_,aD _ rfl,rfl,0,rfl⟩;have D:M4 s.heap (s.heap.push {cls:=.type "tuple",data:=.seq #[a,b]}):=λb x e=>ag _ e;refine call_function_tree PySem.F.kind_min PySem.F.plain_min PySem.F.entry_min (PySem.F.args_min2 _ _) ?_;show wpAny _ A.in1 (Builtin.Builtins.bindParams "min" ["key","default"] 0 ⟨[],[]⟩>>=_) _ _ s;refine aa (wpAny_of_eq (show Builtin.Builtins.bindParams "min" ["key","default"] 0 ⟨[],[]⟩=pure [none,none] from rfl) ?_);show wpAny _ A.in1 (newTuple [a,b]>>=_) _ _ s;refine aa (bt ?_);have m:s.heap.objs.size<(s.heap.push {cls:=.type "tuple",data:=.seq #[a,b]}).objs.size:=by rw[size_push'];exact bQ _
 generalize s.heap.objs.size=l at t m;generalize s.heap.push {cls:=.type "tuple",data:=.seq #[a,b]}=h₀ at t D m;refine aa (fu t ?_);refine aa (bt ?_);rw[c];have k:∀(h:Heap) (tk:Nat) (i j:Nat) (n p:Value) (Q E:Value->Shared->Prop),M4 h₀ h->[a,b][i]?=some n->[a,b][j]?=some p->Q (.bool (q i j)) {s with heap:=h,toks:=tk}->wpAny (model prog w) A.in1 (richCompare .Lt n p) Q E {s with heap:=h,toks:=tk}:=λh tk i j n p Q E g=>f h tk i j n p Q E λb o e=>g b o (D b o e);have h1':∀v h' tk,[a,b][argBest q ([a,b].length-1)]?=some v->M4 h₀ h'->Q v {s with heap:=h',toks:=tk}:=λv h' tk e g=>h1 v h' tk e λb o e=>g b o (D b o e);clear f h1 D;have N:(h₀.push {cls:=.type "tuple_iterator",data:=.fields #[.ref l,.int 0 0]}).objs.size=h₀.objs.size+1:=size_push' ..;have y:l≠h₀.objs.size:=aR m;have d:(h₀.push {cls:=.type "tuple_iterator",data:=.fields #[.ref l,.int 0 0]}).objs.size≠h₀.objs.size:=by rw[N];exact di (bQ _)
 refine ae ⟨fj PySem.F.plain_min_loop _,?_⟩;have M:M4 h₀ ((h₀.push {cls:=.type "tuple_iterator",data:=.fields #[.ref l,.int 0 0]}).push {cls:=.type "list",data:=.seq #[]}):=λb x e=>ag _ (ag _ e);have gI:((h₀.push {cls:=.type "tuple_iterator",data:=.fields #[.ref l,.int 0 0]}).push {cls:=.type "list",data:=.seq #[]}).get? h₀.objs.size=some {cls:=.type "tuple_iterator",data:=.fields #[.ref l,.int 0 0]} :=
  ag _ (aD _ rfl)
 have gS:((h₀.push {cls:=.type "tuple_iterator",data:=.fields #[.ref l,.int 0 0]}).push {cls:=.type "list",data:=.seq #[]}).get? (h₀.push {cls:=.type "tuple_iterator",data:=.fields #[.ref l,.int 0 0]}).objs.size=some {cls:=.type "list",data:=.seq #[]}:=aD _ rfl;have P:h₀.get? h₀.objs.size=none:=f_ (ao _);have L:h₀.get? (h₀.push {cls:=.type "tuple_iterator",data:=.fields #[.ref l,.int 0 0]}).objs.size=none:=f_ (by rw[N];exact dU _);generalize (h₀.push {cls:=.type "tuple_iterator",data:=.fields #[.ref l,.int 0 0]}).objs.size=S at d gS L;have W:=Walks.tuple (prog:=prog) (w:=w) (A:=A.in1) O h₀.objs.size l y #[a,b];have lst:∀{h:Heap},M4 h₀ h->h.IsTuple l #[a,b]:=λg=>by
  obtain⟨o,h1,h2⟩:=id t;exact⟨o,g _ _ h1,h2⟩
 refine dt PySem.F.entry_min_loop ?_;rw[du PySem.F.plain_min_loop _];show wpAny _ A.in1 (seqItems? (.ref _)>>=_) _ _ _;refine aa (cE gS rfl ?_);show wpAny _ A.in1 (tryCatch (pyNext (.ref h₀.objs.size)) _>>=_) _ _ _;have T:∀{h h':Heap},M4 h₀ h->(∀b o,b∉[h₀.objs.size]->h.get? b=some o->h'.get? b=some o)->M4 h₀ h':=λg V b o e=>V b o (λz=>by rw[aA.mp z,P]at e;cases e) (g b o e);refine aa (wpAny_tryCatch (W.item 0 _ _ _ (by show 0<2;decide) ⟨⟨_,gI,rfl,rfl⟩,lst M⟩ λv h' Z U B u=>?_));have X:[a,b][0]?=some v:=by simpa using U
 have r:=u S _ (by simpa using d) gS;have R:=T M u;show wpAny _ A.in1 (updateSeq S (λ_=>#[v,v])>>=_) _ _ _;refine aa ?_;refine wpAny_updateSeq r rfl ?_;rw[c];obtain⟨Y,I,J,K⟩:=id B.1;exact ae ⟨fj PySem.F.plain_min_loop _,a9O (h₀:=h₀) (s:=s) (vs:=[a,b]) q O y d P L t k (λv' G C H F=>h1' v' G C H F) _ 0 _ _ v _ rfl (by show 1<=2;decide) ⟨Y,(cO _ _ d).trans I,J,K⟩ (λb o e=>(cO _ _ (λz=>by rw[<-z,L]at e;cases e)).trans (R b o e)) X (cp _ r rfl)⟩
end
def b1B(K:PySem.W.Frag):RL:=λxs H Q=>∃(a b:Addr) (ns ms:List Int),xs=[.ref a,.ref b]/\SqT K H a (ns.map V.int)/\SqT K H b (ms.map V.int)/\Q (.ref (if HT.lexLt ms ns then b else a)) H
section
variable {X:Cx}{e:Expr}{es:List Expr}{t:TA}{p pos:Pos}
theorem a7x(K:PySem.W.Frag)(S:X.A.units+60<cLine)(D:X.calm=true)(C:X.K=K:=by rfl):E2 X (.builtin "min") (b1B K):=by
 subst C;intro pins s σ H xs us Q I r h;obtain⟨a,b,l,k,rfl,t,w,q⟩:=h;obtain⟨u,w',rfl,O,P⟩:=b7X r;cases O;cases P;obtain⟨y,Z,W,_⟩:=I.tuple t;obtain⟨z,r4,Y,_⟩:=I.tuple w;refine a7w (λi j=>HT.lexLt (if i=0 then l else k) (if j=0 then l else k)) (I.ok.hd D) (λh tk i j n R B A g hi E F=>?_) (λv h' tk f g=>?_)
 .have J:=I.kept (t':=tk) g;have m:∀(i:Nat) (n:Value),[Value.ref a,Value.ref b][i]?=some n->∃c,n=.ref c/\SqT X.K H c ((if i=0 then l else k).map V.int):=λi n e=>by
   match i,e with
   |0,e=>cases e;exact⟨a,rfl,t⟩
   |1,e=>cases e;exact⟨b,rfl,w⟩
  obtain⟨c,rfl,o⟩:=m i n hi;obtain⟨d,rfl,p⟩:=m j R E;obtain⟨T,G,L,_⟩:=J.tuple o;obtain⟨U,M,N,_⟩:=J.tuple p;exact(HT.lt_tupInts L N (a0j G) (a0j M) (by simp only[Around.in1_units];omega) F:wpAny (model X.prog X.w) X.A.in1 (compareOp .Lt (.ref c) (.ref d)) B A _)
 .refine⟨_,H,I.kept (t':=tk) g,?_,q⟩;have e:argBest (λi j=>HT.lexLt (if i=0 then l else k) (if j=0 then l else k)) 1=if HT.lexLt k l then 1 else 0:=by
   simp[argBest]
  rw[e]at f;cases x:HT.lexLt k l with
  |true=>rw[x]at f;simp at f;subst f;rfl
  |false=>rw[x]at f;simp at f;subst f;rfl
theorem b2H(K:PySem.W.Frag)(i:X.A.units+60<cLine)(g:Gl X "min")(h:X.mg "min"=none)(c:JA X (e::es) t)(d:X.calm=true:=by rfl)(b:X.K=K:=by rfl)(f:starEach (e::es) X.env=(false,eval e X.env)::starEach es X.env:=by rfl)(a:(backTo pos (starEach es X.env)).any (·.1)=false:=by rfl):JE X (.Call (.Name "min" p) (e::es) [] pos) (tCB (b1B K) t):=⟨E7 (a7x K i d b) g h b7I c.h (by decide) (by decide) f a⟩
end
end L2
namespace K34
open PySem PySem.Spec PyProof.Rows L2
section
variable {P:Program}{w:World}{K:PySem.W.Frag}{mg:Str->Option Value}{base:Heap}
def VB(wd:Nat)(r:List Int):Prop:=r.length=wd/\∀x∈r,0<=x/\x<=100000
inductive IspVectors(vs:List V)(H:Hp)(Q:VK)(E:XK):Prop
 |mk (a b:Addr) (n m:Nat) (mi:Int) (_:vs=[.ref a,.int mi]) (_:mi=m) (_:1<=m) (_:m<=8) (_:PotAt H a b n) (_:n+10000<2 ^ 60) (_:∀q us rss H',H' q=some (.tup us)->Its H' us rss->us.length<=30->rss.Nodup->(∀r∈rss,VB m r/\0<r.sum)->PotAt H' a b (n+1000)->Off [a,b] H H'->Q (.ref q) H'):IspVectors  vs H Q E
def a3D:Sp:=λvs H Q E=>IspVectors  vs H Q E
theorem b8S(l:List Int)(h:∀x∈l,0<=x)(y:Int)(a:y∈l)(hp:0<y):0<l.sum:=by
 have:=b2m h y a;omega
theorem sc__law_vectors:FnScope ["_law_pot_here","_law_width","_law_many","_law_far","_law_some","_law_k","_law_one"] ["_law_pot_here","_law_width"] (A4 K4):=⟨rfl,rfl,rfl,by decide +kernel,rfl,by decide +kernel,by decide +kernel⟩
theorem a7c(F:FunAt K mg "_law_vectors" K4 ["_law_pot_here","_law_width"])(T:Tx mg)(d:Ok P w K mg base "_law_take" 1 ["_law_pot_here","_law_many"] a4o):Ok P w K mg base "_law_vectors" 2 ["_law_pot_here","_law_width"] a3D:=by
 refine F.okJ sc__law_vectors (λvs H Q E h=>?_) (λc4 f A c3 s H vs Q E R h=>?_)
 .obtain⟨a,b,n,m,mi,rfl,_⟩:=h;rfl
 .obtain⟨a,b,n,wd,_,rfl,rfl,hw1,hw8,hP,hn,kk⟩:=h;have hz:(3000:Nat)<=sizeLine:=by rw[a_];decide
  have hu:=R.u60;refine⟨_,(A3 (B3 (i:=2) sc__law_vectors.nd rfl (Or.inl rfl) (B1 d (R.mono (by omega)) rfl (jaC (jv 0) (jaC A2 jaN))))
 (A3 (K1 (a8z (B1 d (R.mono (by omega)) rfl (jaC (jv 0) (jaC A2 jaN))) A2)
 (A8 (B3 (i:=2) sc__law_vectors.nd rfl (Or.inl rfl) (B1 d (R.mono (by omega)) rfl (jaC (jv 0) (jaC A2 jaN)))))
 E4)
 (A3 (B3 (i:=3) sc__law_vectors.nd rfl (Or.inr rfl) (E8 K (I9 (jaC A2 (jaC (a2T A2 A2) jaN))) (a1g rfl T.b_int (jaC (a1y (B1 d (R.mono (by omega)) rfl (jaC (jv 0) (jaC A2 jaN))) A2) jaN))))
 (A3 (B3 (i:=4) sc__law_vectors.nd rfl (Or.inl rfl) (I9 jaN))
 (A3 (L0 (E1 rfl T.b_range (jaC (jv 2) jaN)) (A7 (i:=5) sc__law_vectors.nd rfl (Or.inl rfl))
 (A3 (B3 (i:=6) sc__law_vectors.nd rfl (Or.inl rfl) (B4 K rfl T.b_tuple (jaC (B7 (N:=["_law_j","_law_pot_here","_law_far"]) (src:=[none,some 0,some 3]) (E1 rfl T.b_range (jaC (jv 1) jaN)) (by show C0 _ _=true;rfl) (by rfl) (by rfl)
 (λ_ _ _ _ _=>(A7 (i:=0) (show(["_law_j","_law_pot_here","_law_far"]:List Str).Nodup by decide +kernel) rfl (Or.inl rfl))) (λ_ _ _ _ _=>C2) (λ_ _ _ _ _=>(B1 d (R.mono (by omega)) rfl (jaC (jv 1) (jaC (E8 K (I9 (jaC A2 (jaC (L3 (jv 2) A2) jaN))) (a1g rfl T.b_int (jaC (a1y (B1 d (R.mono (by omega)) rfl (jaC (jv 1) (jaC A2 jaN))) A2) jaN))) jaN))))) jaN)))
 (A8 (K1 (a7k (a4M (b2z (b4T K rfl T.b_max (jaC (jv 6) jaN)) A2) (a2a (a9U K hu (jv 6) (jv 4) (by with_unfolding_all rfl)))))
 (A8 (U0 (a1f K (jv 4) (jaC (jv 6) jaN))))
 E4))))
 (A8 (B2 (B4 K rfl T.b_tuple (jaC (jv 4) jaN))))))))),?_⟩
  refine⟨_,rfl,a,b,_,_,rfl,hP,by omega,by decide,by decide,λr1 H1 c5 c6 b6 W=>?_⟩;dsimp only[A9];refine a1P (λσ H'=>Ex1 λ(m:Nat)=>An4 (σ=[some (.ref a),some (.int wd),some (.int m),none,none,none,none]) (m<=30) (PotAt H' a b (n+3)) (Off [a,b] H H')) ?fin λfin=>?_
  case fin =>
   rintro σ H2 ⟨m,rfl,hm,D,v⟩;refine⟨_,_,rfl,rfl,⟨by decide,by decide,by decide⟩,by show 2<=sizeLine;omega,λp3 a7=>?_⟩;have a8:=D0 D a7;have s3:=(Same.refl H2).upd (o:=.lst [V.int 3,.int (10 ^ Int.toNat 5)]) a7;have e3:upd H2 p3 (.lst [V.int 3,.int (10 ^ Int.toNat 5)]) p3=some (.lst [V.int 3,.int (10 ^ Int.toNat 5)]):=A1;have g:=v.trans s3.off;have k:=D.same s3;generalize upd H2 p3 (.lst [V.int 3,.int (10 ^ Int.toNat 5)])=H3 at s3 e3 g k;refine⟨_,rfl,a,b,_,8,rfl,k,by omega,by decide,by decide,λr4 H4 _ _ G j=>?_⟩;refine⟨rfl,.inr ⟨_,rfl,?_⟩⟩;obtain⟨C,a4,a5⟩:=two_at 3 (10 ^ Int.toNat 5) (decide (V.int r4=V.int 0));have c9:3<=C/\C<=100000:=by
    have:(10:Int) ^ Int.toNat 5=100000:=by decide
    rw[this]at a5;omega
   refine⟨p3,_,_,_,rfl,rfl,SqL.of (j _ _ a8 e3),a4,?_⟩;have u:=g.trans j;clear a4 a5 e3 k g s3 D;dsimp only[A9];refine⟨bp _,λS a0=>?_⟩;have U:=D0 G a0;have b7:=a2B u G a0;have s5:=(Same.refl H4).upd (o:=.lst []) a0;have e5:upd H4 S (.lst []) S=some (.lst []):=A1;have Z:PotAt (upd H4 S (.lst [])) a b (n+4):=(G.same s5).mono (by omega);have X:=u.trans (s5.off (l:=[a,b]));generalize upd H4 S (.lst [])=H5 at e5 Z X;clear s5 G u j;dsimp only[A9];refine⟨_,rfl,_,rfl,by omega,by omega,?_⟩;rw[bb];refine b0e (lo:=0) (n:=m) (λi σ H'=>Ex4 λ(o5 o6:Option V) (L:List V) (rss:LLI)=>An8 (σ=[some (.ref a),some (.int wd),some (.int m),some (.int C),some (.ref S),o5,o6]) (PotAt H' a b (n+4+20*i)) (Off [a,b] H H') (H' S=some (.lst L)) (Its H' L rss) (L.length<=i) (rss.Nodup) (∀r∈rss,VB wd r/\0<r.sum)) ⟨none,none,[],[],rfl,Z,X,e5,.nil,ao _,eV,λ_ z=>nomatch z⟩ ?_ ?_
   .rintro i σ H6 hi ⟨o5,o6,L,rss,rfl,hP6,off6,e6,hI6,hul,hnd,hR⟩;obtain⟨nn,a6⟩:∃nn,nn=n+4+20*i:=⟨_,rfl⟩;rw[<-a6]at hP6;have hb:nn+100<2 ^ 60:=by omega
    have en:nn+20=n+4+20*(i+1):=by omega
    clear a6 Z;dsimp only[A9];refine⟨_,rfl,_,rfl,by omega,by omega,?_⟩;rw[bb];refine a0W (caps:=[some (.ref a),some (.int C)]) (c:=2) (λz=>0<=z/\z<=100000) (by omega) rfl hP6 (λi' H' N d0 a2 q=>?_) ?_
    .refine⟨_,rfl,_,rfl,_,_,rfl,rfl,by show 2<=sizeLine;omega,λp hp=>?_⟩;have c0:=D0 a2 hp;have s2:=(Same.refl H').upd (o:=.lst [V.int 4,.int (C+1)]) hp;refine⟨_,rfl,a,b,_,4,rfl,a2.same s2,by omega,by decide,by decide,λr3 H3 b1 b2 k g=>?_⟩;refine⟨rfl,.inr ⟨_,rfl,?_⟩⟩;obtain⟨m,b8,d1⟩:=two_at 4 (C+1) (decide (V.int r3=V.int 0));refine⟨p,_,_,_,rfl,rfl,SqL.of (g _ _ c0 A1),b8,?_⟩;refine⟨a,b,_,m,rfl,k,by omega,by omega,by omega,λr4 H4 b3 c7 G j=>?_⟩;exact q r4 H4 ⟨b3,by omega⟩ (G.mono (by omega)) ((s2.off.trans g).trans j)
    intro H7 pw xs a9 b0 a3 y c1;have e7:=y _ _ U e6;have a1:=b5a hI6 hP6 y;have J:=off6.trans y;refine⟨pw,_,rfl,.inl ⟨SqL.of A1,λq8 c2=>?_⟩⟩;have s8:=((Same.refl H7).upd (o:=.lst (xs.map V.int)) c1).upd (o:=.tup (xs.map V.int)) c2;have v8:upd (upd H7 pw (.lst (xs.map V.int))) q8 (.tup (xs.map V.int)) q8=some (.tup (xs.map V.int)):=A1;have Y:=s8 _ _ e7;have I:=a1.same s8;have O:=a3.same s8;have B:=J.trans (s8.off (l:=[a,b]));generalize upd (upd H7 pw (.lst (xs.map V.int))) q8 (.tup (xs.map V.int))=H8 at v8 Y I O B;clear s8 a3 y J e7 a1 hI6 off6 hP6 e6;dsimp only[A9];refine⟨_,rfl,true,q8,xs,rfl,SqT.of v8,by rw[a9];omega,λM b5 c8=>?_⟩;refine⟨_,_,rfl,rfl,_,rfl,a4Q (λe=>?_) (λe=>L5 ⟨_,_,L,rss,rfl,en ▸ O.mono (by omega),B,Y,I,by omega,hnd,hR⟩)⟩;have b4:0<M:=bO e;refine⟨_,rfl,_,rfl,q8,S,xs,false,L,rss,rfl,v8,rfl,SqL.of Y,I,_,rfl,a4Q (λe=>?_) (λe=>⟨_,_,L,rss,rfl,en ▸ O.mono (by omega),B,Y,I,by omega,hnd,hR⟩)⟩;have b9:xs∉rss:=by simpa using e
    refine⟨_,rfl,.inl ⟨rfl,_,SqL.of Y⟩,_,rfl,S,_,_,rfl,rfl,Y,by omega,?_⟩;refine⟨_,_,L++[.ref q8],rss++[xs],rfl,en ▸ a1W (O.mono (by omega)) U,a2C B b7,A1,a0H (I.snoc ⟨q8,rfl,v8⟩) Y (λ_ z=>by cases z),by rw[ax];simp;omega,a1Y hnd b9,λr R=>?_⟩;rcases aO.mp R with z|z
    .exact hR r z
    .rw[aA.mp z];exact⟨⟨a9,b0⟩,b8S xs (λx hx=>(b0 x hx).1) M b5 b4⟩
   .rintro σ H6 ⟨o5,o6,L,rss,rfl,hP6,off6,e6,hI6,hul,hnd,hR⟩;refine⟨_,rfl,S,_,rfl,.inl ⟨SqL.of e6,λq hq=>?_⟩⟩;have s7:=(Same.refl H6).upd (o:=.tup L) hq;exact kk q L rss _ A1 (hI6.same s7) (by omega) hnd hR ((hP6.same s7).mono (by omega)) (off6.trans s7.off)
  obtain⟨t1,rfl⟩:∃t:Nat,r1=t:=⟨r1.toNat,by omega⟩;refine⟨_,rfl,a,b,_,8,rfl,b6,by omega,by decide,by decide,λr2 H2 _ _ D v=>?_⟩;refine⟨rfl,_,rfl,a4Q (λe=>?_) (λe=>fin _ _ ⟨t1,rfl,by omega,D.mono (by omega),W.trans v⟩)⟩;refine⟨_,rfl,a,b,_,_,rfl,D,by omega,by decide,by decide,λr3 H3 b1 b2 k g=>?_⟩;obtain⟨t3,rfl⟩:∃t:Nat,r3=t:=⟨r3.toNat,by omega⟩;exact fin _ _ ⟨t3,rfl,by omega,k.mono (by omega),(W.trans v).trans g⟩
end
theorem a4f:∀(xs ys:List Int),xs.length=ys.length->((List.range xs.length).map λj=>V.bl (decide (xs.getD j 0<=ys.getD j 0))).all trV=Bel xs ys
 |[],[],_=>rfl
 |x::xs,y::ys,h=>by
  have a:=a4f xs ys (by simpa using h);rw[aN,List.range_succ_eq_map,aP,cU,cx];have e:((λj=>V.bl (decide ((x::xs).getD j 0<=(y::ys).getD j 0))) ∘ Nat.succ)=λj=>V.bl (decide (xs.getD j 0<=ys.getD j 0)):=rfl;rw[e,a];rfl
section
variable {P:Program}{w:World}{K:PySem.W.Frag}{mg:Str->Option Value}{base:Heap}
inductive IspBelL(vs:List V)(H:Hp)(Q:VK)(E:XK):Prop
 |mk (x:_) (y:_) (xs:_) (ys:_) (_:vs=[x,y]) (_:IT H x xs) (_:IT H y ys) (_:xs.length=ys.length) (_:xs.length<=1000) (_:∀H',Same H H'->Q (.bl (Bel xs ys)) H'):IspBelL  vs H Q E
def b1a:Sp:=λvs H Q E=>IspBelL  vs H Q E
theorem a3q:FnScope ["_law_one","_law_other"] ["_law_one","_law_other"] (A4 N2):=⟨rfl,rfl,rfl,by decide +kernel,rfl,by decide +kernel,by decide +kernel⟩
theorem b4L(F:FunAt K mg "_law_below" N2 ["_law_one","_law_other"])(T:Tx mg):Ok P w K mg base "_law_below" 1 ["_law_one","_law_other"] b1a:=by
 refine F.okJ a3q (λvs H Q E h=>?_) (λd f A c s H vs Q E n h=>?_)
 .obtain⟨x,y,xs,ys,rfl,_⟩:=h;rfl
 .obtain⟨_,_,xs,ys,rfl,⟨a,rfl,ha⟩,⟨b,rfl,hb⟩,hl,hl2,k⟩:=h;refine⟨_,(A8 (B2 (a2S K rfl T.b_all (jaC (B7 (N:=["_law_j","_law_one","_law_other"]) (src:=[none,some 0,some 1]) (E1 rfl T.b_range (jaC (O6 K rfl T.b_len (jaC (jv 0) jaN)) jaN)) (by show C0 _ _=true;rfl) (by rfl) (by rfl)
 (λ_ _ _ _ _=>(A7 (i:=0) (show(["_law_j","_law_one","_law_other"]:List Str).Nodup by decide +kernel) rfl (Or.inl rfl))) (λ_ _ _ _ _=>C2) (λ_ _ _ _ _=>(b2x (S2 K (jv 1) (jv 0)) (S2 K (jv 2) (jv 0))))) jaN)))),?_⟩
  refine⟨_,rfl,a,_,rfl,.inr (SqT.of ha),_,rfl,by omega,by rw[aj];omega,?_⟩;rw[bb,aj];refine O2 (caps:=[some (.ref a),some (.ref b)]) (λj=>V.bl (decide (xs.getD j 0<=ys.getD j 0))) hl2 rfl (λj H1 m e s1 q=>?_) λH1 p s1 g=>?_
  .exact⟨_,rfl,_,rfl,a,_,_,_,rfl,rfl,SqT.of (s1 _ _ ha),U8 e,_,rfl,_,rfl,b,_,_,_,rfl,rfl,SqT.of (s1 _ _ hb),U8 (by omega),_,_,rfl,rfl,q⟩
  refine⟨false,p,_,rfl,SqL.of A1,?_,?_⟩
  .rw[bN];intro v l;obtain⟨_,_,rfl⟩:=aT.mp l;rfl
  .rw[a4f xs ys hl];exact k _ (s1.upd g)
inductive IspLLeast(vs:List V)(H:Hp)(Q:VK)(E:XK):Prop
 |mk (p:Addr) (us:List V) (rss:LLI) (n:Nat) (_:vs=[.ref p]) (_:H p=some (.lst us)) (_:Its H us rss) (_:us.length<=1000) (_:1<=n) (_:n<=1000) (_:(∀r∈rss,r.length=n)) (_:∀l fs srt H',Same H H'->H l=none->srt.Perm rss->J4 srt->H' l=some (.lst fs)->Its H' fs (LO srt)->Q (.ref l) H'):IspLLeast  vs H Q E
def a5D:Sp:=λvs H Q E=>IspLLeast  vs H Q E
theorem b7U(l:LLI):(LO l).length<=l.length:=by
 induction l using a4E with
 |nil=>exact ao _
 |snoc l v a =>
  rw[a0Q,ax];split
  .omega
  .rw[ax];simpa using a
theorem b5p(a:LLI)(r:List Int):((a.map λf=>V.bl (Bel f r)).any trV)=a.any λf=>Bel f r:=by
 rw[List.any_map];rfl
theorem sc__law_least:FnScope ["_law_some","_law_found","_law_one"] ["_law_some"] (A4 N1):=⟨rfl,rfl,rfl,by decide +kernel,rfl,by decide +kernel,by decide +kernel⟩
theorem a9I(F:FunAt K mg "_law_least" N1 ["_law_some"])(T:Tx mg)(c:Ok P w K mg base "_law_below" 1 ["_law_one","_law_other"] b1a):Ok P w K mg base "_law_least" 2 ["_law_some"] a5D:=by
 refine F.okJ sc__law_least (λvs H Q E h=>?_) (λa7 f A a5 s H vs Q E g h=>?_)
 .obtain⟨p,us,rss,n,rfl,_⟩:=h;rfl
 .obtain⟨p,us,rss,n,rfl,hp,hI,hl,hn1,hn2,hR,k⟩:=h;have hu:=g.u60;have hz:(3000:Nat)<=sizeLine:=by rw[a_];decide
  refine⟨_,(A3 (B3 (i:=1) sc__law_least.nd rfl (Or.inl rfl) (I9 jaN))
 (A3 (L0 (D6 K (a2R K rfl T.b_sorted (jaC (jv 0) jaN))) (A7 (i:=2) sc__law_least.nd rfl (Or.inr rfl))
 (A8 (K1 (O5 (I0 K (b7m K rfl T.b_any (jaC (B7 (N:=["_law_other","_law_one"]) (src:=[none,some 2]) (D6 K (jv 1)) (by show C0 _ _=true;rfl) (by rfl) (by rfl)
 (λ_ _ _ _ _=>(A7 (i:=0) (show(["_law_other","_law_one"]:List Str).Nodup by decide +kernel) rfl (Or.inl rfl))) (λ_ _ _ _ _=>C2) (λ_ _ _ _ _=>(B1 c (g.mono (by omega)) rfl (jaC (jv 0) (jaC (jv 1) jaN))))) jaN))))
 (A8 (U0 (a1f K (jv 1) (jaC (jv 2) jaN))))
 E4)))
 (A8 (B2 (jv 1))))),?_⟩
  refine⟨bp _,λj G=>?_⟩;have s1:=(Same.refl H).upd (o:=.lst []) G;have X:upd H j (.lst []) j=some (.lst []):=A1;generalize upd H j (.lst [])=H1 at s1 X;dsimp only[A9];refine⟨_,rfl,p,us,rss,rfl,.inl (SqL.of (s1 _ _ hp)),hI.same s1,λr g=>by rw[hR r g];exact hn1,λl zs b D d I a2 _=>?_⟩;have s3:=s1.upd (o:=.lst zs) D;have S:=(Same.refl H1).upd (o:=.lst zs) D;have Y:upd H1 l (.lst zs) l=some (.lst zs):=A1;have B:=S _ _ X;have d:=d.same S;have a4:l≠j:=(A6 X D).symm;generalize upd H1 l (.lst zs)=H3 at s3 Y B d;have J:∀r∈b,r.length=n:=λr g=>hR r (I.mem_iff.mp g);have a9:zs.length<=1000:=by rw[d.1,I.length_eq,<-hI.1];exact hl
  refine⟨l,rfl,⟨_,SqL.of Y⟩,?_⟩;refine O7 (K:=K) (a:=l) (xs:=zs) (λi σ H'=>Ex2 λo2 fs=>An5 (σ=[some (.ref p),some (.ref j),o2]) (Off [j] H3 H') (H' j=some (.lst fs)) (Its H' fs (LO (b.take i))) (fs.length<=i)) ⟨none,[],rfl,Off.refl _ _,B,.nil,ao _⟩ (λi σ H' _ h=>by obtain⟨_,_,_,o',_⟩:=h;exact SqL.of (o' _ _ (by simpa using a4) Y)) ?_ ?_
  .rintro i x σ H' hx ⟨o2,fs,rfl,off,C,hIf,hfl⟩;obtain⟨r,g,a0,a1⟩:=d.mem hx;have a8:i<zs.length:=(aH.mp hx).1;have O:IT H' x r:=by
    obtain⟨xa,rfl,R⟩:=a1;exact⟨xa,rfl,off _ _ (by simpa using K0 R B (by intro z;cases z)) R⟩
   have L:∀f∈LO (b.take i),f.length=n:=λf C=>by
    have:=(a5f (n:=n) (b.take i) λr g=>J r (cm g)).1 f C;exact J f (cm this)
   have m:LO (b.take (i+1))=if (LO (b.take i)).any (λu=>Bel u r)then LO (b.take i)else LO (b.take i)++[r]:=by
    rw[bj,a0];exact a0Q _ _
   dsimp only[A9];refine⟨_,rfl,j,rfl,⟨_,SqL.of C⟩,?_⟩;refine a9R (caps:=[some x]) (λf=>V.bl (Bel f r)) (by omega) (λa6 s=>SqL.of (s _ _ C)) hIf rfl (λv f W Q4 M a3 s4 q4=>?_) λW U s4 Z=>?_
   .exact⟨_,rfl,_,rfl,v,x,f,r,rfl,a3,O.same s4,by rw[L f M,J r g],by rw[L f M];omega,λH5 y=>q4 H5 y⟩
   have y:=s4.upd (o:=.lst ((LO (b.take i)).map λf=>V.bl (Bel f r))) Z;have e5:upd W U (.lst ((LO (b.take i)).map λf=>V.bl (Bel f r))) U=some (.lst ((LO (b.take i)).map λf=>V.bl (Bel f r))):=A1;generalize upd W U (.lst ((LO (b.take i)).map λf=>V.bl (Bel f r)))=H5 at y e5;refine⟨false,U,_,rfl,SqL.of e5,?_,_,rfl,?_⟩
   .rw[bN];intro v hv;obtain⟨_,_,rfl⟩:=aT.mp hv;rfl
   rw[b5p];have q:=y _ _ C;have t:=off.trans y.off;cases e:(LO (b.take i)).any (λu=>Bel u r)with
   |true =>
    rw[e,az rfl]at m;refine L5 ⟨_,fs,rfl,t,q,?_,by omega⟩;rw[m];exact hIf.same y
   |false =>
    rw[e,aq (by decide)]at m;refine W4 ⟨_,rfl,.inl ⟨rfl,_,SqL.of q⟩,_,rfl,j,_,_,rfl,rfl,q,by omega,?_⟩;refine⟨_,fs++[x],rfl,t.set (by simp),A1,?_,by simp;omega⟩;rw[m];exact Its.put ((hIf.same y).snoc (O.same y)) q
  .rintro σ H' ⟨o2,fs,rfl,off,C,hIf,_⟩;rw[d.1,bq]at hIf;exact⟨_,rfl,k j fs b H' (a2r s3 G off) G I a2 C hIf⟩
end
theorem Z0{vals:List Int}{m i:Nat}(a:vals.length=m)(hi:i<m):dot vals (C5 m i)=vals.getD i 0:=by
 rw[a2j m i hi];show dot vals ((List.replicate m 0).set i _)=_;rw[a8P vals (List.replicate m 0) i (by omega) (by rw[aK,a]),a6o];omega
theorem a5O(vals u:List Int)(j:Nat):Z7 [vals] u j=dot vals u*vals.getD j 0:=by
 rw[b1C];show(dot vals u*vals.getD j 0)+0=_;omega
theorem a1C{m:Nat}{u:List Int}(h:u∈L8 (fre m)):∃i,i<m/\u=C5 m i:=by
 obtain⟨i,hi,rfl⟩:=aT.mp (aU.mp h).1;rw[J2]at hi⊢;exact⟨i,aW.mp hi,rfl⟩
theorem a7q(m:Nat):(L8 (fre m)).length<=m:=by
 unfold L8;refine bf (bK _ _) ?_;rw[aj,dw,J2];exact ao _
theorem a2D{vals:List Int}{m most:Nat}(s:vals.length=m)(h:∀i j,0<=vals.getD i 0*vals.getD j 0)(o:m<=most):¬b3y [vals] (fre m) most:=by
 have n:∀F u v,u∈L8 (fre m)->¬Z8 [vals] (fre m) F u v:=by
  rintro F u v a ⟨j,r,_⟩;obtain⟨i,hi,rfl⟩:=a1C a;have h2:=(a2m r).2.1;rw[a5O,Z0 s hi]at h2;have:=h i j;omega
 have l:∀{F W L:LLI}{k:Nat},Wk [vals] (fre m) F W L k->W.length<=m/\∀u∈L,u∈L8 (fre m):=by
  intro F W L k g;induction g with
  |@one L ri nd h=>exact⟨bf (a8v L _ nd λv b=>(h v).mp b) (a7q m),λu a=>(h u).mp a⟩
  |@more F W L c k g ne ri nd o p =>
   have e:c=[]:=eF.mpr λv b=>by
    obtain⟨u,a,f⟩:=(o v).mp b;exact n _ u v (p.2 u a) f
   subst e;exact⟨by rw[dj];exact p.1,λ_ z=>nomatch z⟩
 rintro⟨F,W,L,k,g,t⟩;obtain⟨x,w⟩:=l g;rcases t with q|⟨ne,c,nd,d,q⟩
 .omega
 .have e:c=[]:=eF.mpr λv b=>by
   obtain⟨u,a,f⟩:=d v b;exact n _ u v (w u a) f
  rw[e]at q;simp at q;omega
theorem a2g(vals v:List Int):Ans [vals] v=true↔dot vals v=0:=by
 unfold Ans;simp
theorem a5r{vals:List Int}{m i:Nat}(a:vals.length=m)(hi:i<m)(h0:vals.getD i 0=0):Answer [vals] m (C5 m i):=⟨D7 _ _,a5q _ _,(a2g _ _).mpr (by rw[Z0 a hi,h0]),by rw[a0S m i hi];decide⟩
theorem a6G{vals:List Int}{m i:Nat}(b:vals.length=m)(hi:i<m)(h0:vals.getD i 0=0):Least [vals] (fre m) (C5 m i):=by
 refine⟨by rw[J2];exact a5r b hi h0,b5s m _,λu c a=>a.eq ?_⟩;have:=c.pos;rw[a0S m i hi];omega
theorem a6F{m i:Nat}{c:List Int}(a:c.length=m)(d:∀x∈c,0<=x)(h1:1<=c.getD i 0):Under (C5 m i) c:=by
 refine⟨by rw[D7,a],λj b=>?_⟩;rw[N8 m i j (by omega)];split
 .rename_i e;rw[e];exact h1
 .exact d _ (a2Z b)
theorem b0B{vals:List Int}{m:Nat}(d:vals.length=m)(h0:∀i,i<m->vals.getD i 0=0)(c:List Int):Least [vals] (fre m) c↔∃i,i<m/\c=C5 m i:=by
 constructor
 .intro g;have a:=g.an;have b:=g.min;rw[J2]at a b;obtain⟨i,hi,h1⟩:=a6Y a.nn a.pos;have hi:i<m:=by rw[<-a.len];exact hi
  exact⟨i,hi,(b _ (a5r d hi (h0 i hi)) (a6F a.len a.nn h1)).symm⟩
 .rintro⟨i,hi,rfl⟩;exact a6G d hi (h0 i hi)
theorem a2d:∀(a c:List Int),dot (a.map λx => -x) c = -dot a c
 |[],c=>by rw[fz,a6r];rfl
 |_::_,[]=>by rw[a6q,a6q];rfl
 |x::a,y::c=>by
  rw[aP,B9,B9,a2d a c,eI];omega
def OneWay(vals:List Int):Prop:=(∀x∈vals,1<=x)∨∀x∈vals,x <= -1
theorem a7f{vals:List Int}{m:Nat}(b:vals.length=m)(h:OneWay vals)(c:List Int):¬Least [vals] (fre m) c:=by
 intro g;have a:=g.an;rw[J2]at a;have e:=(a2g _ _).mp a.ans;have i:=a.pos;rcases h with h|h
 .have:=a0M vals c (by rw[b,a.len]) h a.nn;omega
 .have:=a0M (vals.map λx => -x) c (by rw[aj,b,a.len]) (λx d=>by obtain⟨y,f,rfl⟩:=aT.mp d;have:=h y f;omega) a.nn;rw[a2d]at this;omega
theorem OneWay.pull{vals:List Int}(h:OneWay vals)(i j:Nat):0<=vals.getD i 0*vals.getD j 0:=by
 by_cases hi:i<vals.length
 .by_cases hj:j<vals.length
  .have m1:=a2Z hi;have a:=a2Z hj;rcases h with h|h
   .exact eX (by have:=h _ m1;omega) (by have:=h _ a;omega)
   .exact Int.mul_nonneg_of_nonpos_of_nonpos (by have:=h _ m1;omega) (by have:=h _ a;omega)
  .rw[ak (i:=j),bL (by omega)];show 0<=_*(0:Int);rw[Int.mul_zero];exact fk _
 .rw[ak (i:=i),bL (by omega)];show 0<=(0:Int)*_;rw[gm];exact fk _
theorem a4X{tss:LLI}{row:List Int}{most:Nat}{a b:LLI}(h:NarC tss row most a b)(c:List Int):c∈a↔Cnt tss row c:=by
 obtain⟨F,W,k,d,e,_⟩:=h.wk;refine d.mem_iff.trans (e.least (λr f=>?_) c);rw[aA.mp f,aj,J2]
theorem a2l{tss:LLI}{n i:Nat}(a:∀t∈tss,t.length=n)(hi:i<tss.length):tgl n tss (C5 tss.length i)=tss[i]:=by
 have b:=a _ (cz hi);refine gdx (by rw[a1O a,b]) λj c=>?_;rw[a7A j tss _ _ aK a,a7D,Z0 (aj _) hi,ak (l:=tss.map _),aQ,ai hi];show 0+(tss[i]).getD j 0=_;omega
theorem b7y{n:Nat}{tss a:LLI}{v:List Int}(h:∃c∈a,tgl n tss c=v):fir n tss a v∈a/\tgl n tss (fir n tss a v)=v:=by
 obtain⟨c,b,e⟩:=h;unfold fir;cases q:a.find? λc=>decide (tgl n tss c=v)with
 |some x=>exact⟨List.mem_of_find?_eq_some q,bO (List.find?_some (p:=λc=>decide (tgl n tss c=v)) q)⟩
 |none=>exact absurd (bh e) (List.find?_eq_none.mp q c b)
theorem b2n{tss:LLI}{row:List Int}{most:Nat}{b a:LLI}(h:NarC tss row most b a)(hw:OneWay (tss.map (dot row))):a=[]:=by
 obtain⟨g,i,_,e,S,rfl⟩:=h.ex;refine eF.mpr λv f=>?_;obtain⟨c,d,_⟩:=(e v).mp ((S.mem v).mp (aU.mp f).1);exact a7f (aj _) hw c ((a4X h c).mp d)
theorem a8w{tss:LLI}{row:List Int}{most:Nat}{b d:LLI}(h:NarC tss row most b d)(k:∀t∈tss,t.length=row.length)(h0:∀t∈tss,dot row t=0)(m:tss.Nodup):(∃a,Srt tss a/\d=a.filter λv=>Lst tss v)/\∀v∈d,v∈tss/\fir row.length tss b v=C5 tss.length (tss.idxOf v):=by
 have p:∀i,i<tss.length->(tss.map (dot row)).getD i 0=0:=λi hi=>by
  rw[ak,aQ,ai hi];exact h0 _ (cz hi)
 have l:∀c,c∈b↔∃i,i<tss.length/\c=C5 tss.length i:=λc=>(a4X h c).trans (b0B (aj _) p c);obtain⟨j,a,_,o,S,rfl⟩:=h.ex;have f:∀v,v∈j↔v∈tss:=λv=>by
  rw[o v];constructor
  .rintro⟨c,h1,rfl⟩;obtain⟨i,hi,rfl⟩:=(l c).mp h1;rw[a2l k hi];exact cz hi
  .intro n;obtain⟨i,hi,rfl⟩:=bC.mp n;exact⟨_,(l _).mpr ⟨i,hi,rfl⟩,a2l k hi⟩
 refine⟨⟨a,⟨S.ri,S.nd,λr=>(S.mem r).trans (f r)⟩,List.filter_congr λv _=>Y6 f v⟩,λv n=>?_⟩;have g:v∈j:=(S.mem v).mp (aU.mp n).1;obtain⟨f1,f2⟩:=b7y ((o v).mp g);obtain⟨i,hi,e⟩:=(l _).mp f1;rw[e,a2l k hi]at f2;refine⟨(f v).mp g,?_⟩;rw[e,<-f2,List.Nodup.idxOf_getElem m i hi]
end K34
namespace K34
open PySem PySem.Spec PyProof.Rows L2
section
variable {P:Program}{w:World}{K:PySem.W.Frag}{mg:Str->Option Value}{base:Heap}
theorem b0J{m i:Nat}(hi:i<m):C5 m i=List.replicate i 0++[1]++List.replicate (m-1-i) 0:=by
 refine gdx (by rw[D7,ax,ax,aK,aK];show m=i+1+_;omega) λj a=>?_;rw[ax,ax,aK,aK]at a;have a:j<i+1+(m-1-i):=a;rw[N8 m i j (by omega),ak];by_cases h1:j<i
 .rw[aq (by omega),aG,br (by rw[aK];exact h1),dD,az h1];rfl
 by_cases h2:j=i
 .subst h2;rw[az rfl,aG,aX (by rw[aK];exact ao _),aK,Nat.sub_self];rfl
 .rw[aq h2,aX (by rw[ax,aK];show i+1<=j;omega),dD,az (by rw[ax,aK];show j-(i+1)<_;omega)];rfl
inductive IspLUnit(vs:List V)(H:Hp)(Q:VK)(E:XK):Prop
 |mk (m i:Nat) (mi ii:Int) (_:vs=[.int mi,.int ii]) (_:mi=m) (_:ii=i) (_:i<m) (_:m<=100) (_:∀v H',Same H H'->IT H' v (C5 m i)->Q v H'):IspLUnit  vs H Q E
def a8b:Sp:=λvs H Q E=>IspLUnit  vs H Q E
theorem a4w:FnScope ["_law_many","_law_at"] ["_law_many","_law_at"] (A4 Q3):=⟨rfl,rfl,rfl,by decide +kernel,rfl,by decide +kernel,by decide +kernel⟩
theorem b2e(F:FunAt K mg "_law_unit" Q3 ["_law_many","_law_at"])(T:Tx mg):Ok P w K mg base "_law_unit" 1 ["_law_many","_law_at"] a8b:=by
 refine F.okJ a4w (λvs H Q E h=>?_) (λn f A e s H vs Q E D h=>?_)
 .obtain⟨m,i,mi,ii,rfl,_⟩:=h;rfl
 .obtain⟨m,i,_,_,rfl,rfl,rfl,hi,hm,kk⟩:=h;have G:(3000:Nat)<=sizeLine:=by rw[a_];decide
  refine⟨_,(A8 (B2 (Y8 (Y8 (a4N (C4 (jaC A2 jaN)) (jv 1)) (C4 (jaC A2 jaN))) (a4N (C4 (jaC A2 jaN)) (a1z (a1z (jv 0) A2) (jv 1)))))),?_⟩;refine⟨by show 1<=sizeLine;omega,λp1 b=>⟨_,rfl,p1,[.int 0],(i:Int),rfl,rfl,A1,by simp,by omega,?_,λt H1 s1 j=>?_⟩⟩
  .show(1:Int)*_<=_;omega
  have s1:=((Same.refl H).upd (o:=.tup [.int 0]) b).trans s1;rw[bb,W7]at j;refine⟨by show 1<=sizeLine;omega,λp2 c=>?_⟩;have s2:=(Same.refl H1).upd (o:=.tup [.int 1]) c;refine⟨t,p2,_,_,rfl,rfl,s2 _ _ j,A1,by rw[aj,aK];show i+1<=_;omega,λu l y p=>?_⟩;have g:=s1.trans (s2.trans y);refine⟨by show 1<=sizeLine;omega,λr d=>⟨_,rfl,_,_,rfl,rfl,_,rfl,_,_,rfl,rfl,r,[.int 0],(m:Int)-1-i,rfl,rfl,A1,by simp,by omega,?_,λv B a k=>?_⟩⟩
  .show(1:Int)*_<=_;omega
  have a:=((Same.refl l).upd (o:=.tup [.int 0]) d).trans a;rw[show((m:Int)-1-i).toNat=m-1-i by omega,W7]at k;refine⟨u,v,_,_,rfl,rfl,a _ _ p,k,by rw[ax,aj,aj,aK,aK];show i+1+_<=_;omega,λx C z q=>?_⟩;refine kk _ _ (g.trans (a.trans z)) ⟨x,rfl,?_⟩;rw[q,b0J hi,bV,bV];rfl
theorem a9Q{K:PySem.W.Frag}{src:List (Option Nat)}{σ caps:L2.St}{Q:VK}{a:Addr}{vs:List V}{rss:LLI}{H:Hp}{te:TE}(f:List Int->List Int)(o:vs.length<=sizeLine)(b:∀H',Same H H'->SqL K H' a vs)(k:Its H vs rss)(c:B5 src σ=none::caps)
  (g:∀v r H1 (j:VK),r∈rss->IT H1 v r->Same H H1->(∀u H2,Same H1 H2->IT H2 u (f r)->j u H2)->te (some v::caps) H1 j) (hd:∀H1 p l,Same H H1->H1 p=none->Its H1 l (rss.map f)->Q (.ref p) (upd H1 p (.lst l))):J5 src (A9 0) P7 te σ Q (Itl K a) H:=by
 refine L7 (xs:=vs) (by omega) (λi ys H'=>Same H H'/\Its H' ys ((rss.take i).map f)) ⟨Same.refl H,by simpa using Its.nil⟩ (λi ys H' _ h=>⟨b H' h.1,by rw[h.2.1,aj];exact bP _ _⟩) ?_ ?_
 .rintro i x ys H' hx ⟨s,hy⟩;obtain⟨r,m,d,e⟩:=k.mem hx;show Sub _ ((B5 src σ).set 0 (some x))/\_;rw[c];refine⟨Sub.one,g x r H' _ m (e.same s) s λu H2 s2 n=>?_⟩;rw[bj,d,bV];exact⟨s.trans s2,(hy.same s2).snoc n⟩
 .rintro ys H' ⟨s,hy⟩ p hp;rw[k.1,bq]at hy;exact hd H' p ys s hp hy
theorem b2S{H:Hp}{a b:Addr}{us vs:List V}{rss:LLI}(j:H a=some (.tup us))(k:H b=some (.tup vs))(d:Its H us rss)(e:Its H vs rss)(l:us.length<=1000)(m:∀r∈rss,r.length<=1000):SD H 3 (.ref a) (.ref b) :=
 .inr ⟨a,b,us,vs,rfl,rfl,j,k,by rw[d.1,e.1],l,λi x y ex f=>by
  obtain⟨r,h1,h2,h⟩:=d.mem ex;obtain⟨o,n,c,g⟩:=e.mem f;rw[h2]at c;cases c;exact SD.ints h g (m r h1)⟩
theorem two_sd{H:Hp}{q p a b c d:Addr}{h bs cs ds:List V}{e f:LLI}(t:H q=some (.tup [.ref a,.ref b]))(hp:H p=some (.tup [.ref c,.ref d]))(n:H a=some (.tup h))(o:H b=some (.tup bs))(s:H c=some (.tup cs))(hd:H d=some (.tup ds))
  (j:Its H h e) (k:Its H bs f) (l:Its H cs e) (m:Its H ds f) (u:h.length<=1000) (v:bs.length<=1000) (w:∀r∈e,r.length<=1000) (z:∀r∈f,r.length<=1000):SD H 4 (.ref q) (.ref p) :=
 .inr ⟨q,p,_,_,rfl,rfl,t,hp,rfl,by simp,λi x y ex g=>by
  match i,ex,g with
  |0,ex,g=>cases ex;cases g;exact b2S n s j l u w
  |1,ex,g=>cases ex;cases g;exact b2S o hd k m v z⟩
theorem b0a{H:Hp}{a:Addr}{us:List V}{tss:LLI}{c:Addr}{v:List Int}(l:H a=some (.tup us))(g:Its H us tss)(f:H c=some (.tup (v.map V.int)))(m:v∈tss){Q:VK}(q:Q (.int (tss.idxOf v:Nat)) H):a6X K (.ref a) [.ref c] H Q:=by
 have b:=List.idxOf_lt_length_of_mem m;refine⟨a,us,.ref c,1,λj=>decide (tss.getD j []=v),tss.idxOf v,rfl,rfl,l,by decide,λj z i=>?_,by rw[g.1];exact b,?_,λj h=>?_,q⟩
 .obtain⟨r,er,ra,rfl,hra⟩:=g.2 j z i;show EqV K H 1 (.ref ra) (.ref c) (decide (tss.getD j []=v));rw[ak,er];exact EqV.ints (k:=true) (SqT.of hra) (SqT.of f)
 .refine bh ?_;rw[ak,ai b];exact List.getElem_idxOf b
 .refine bT λe=>?_;have d:j<tss.length:=gi h b;rw[ak,ai d]at e;have h1:=List.not_of_lt_findIdx h;have e:tss[j]=v:=e;rw[e]at h1;simp at h1
inductive IspAllMet(vs:List V)(H:Hp)(Q:VK)(E:XK):Prop
 |mk (t r:Addr) (zs:List V) (tss:LLI) (row:List Int) (_:vs=[.ref t,.ref r]) (_:H t=some (.tup zs)) (_:Its H zs tss) (_:H r=some (.tup (row.map V.int))) (_:1<=row.length) (_:row.length<=100) (_:zs.length<=60) (_:(∀v∈tss,v.length=row.length/\Sm v)) (_:tss.Nodup) (_:(∀v∈tss,dot row v=0)) (_:∀H',Same H H'->Q (.bl true) H'):IspAllMet  vs H Q E
def a5F:Sp:=λvs H Q E=>IspAllMet  vs H Q E
theorem sc__law_all_met:FnScope ["_law_told","_law_row","_law_found","_law_due"] ["_law_told","_law_row"] (A4 K5):=⟨rfl,rfl,rfl,by decide +kernel,rfl,by decide +kernel,by decide +kernel⟩
theorem a9J{k:Addr}(F:FunAt K mg "_law_all_met" K5 ["_law_told","_law_row"])(T:Tx mg)(b:Ok P w K mg base "_law_least" 2 ["_law_some"] a5D)(d:Ok P w K mg base "_law_unit" 1 ["_law_many","_law_at"] a8b)(e:Ok P w K mg base "narrowed" 8 ["told","row","most"] (λvs H Q _=>a0t k vs H Q λ_ _ _=>False))(c:Ok P w K mg base "_law_same" 5 ["_law_found","_law_due"] (a6O 4)):Ok P w K mg base "_law_all_met" 9 ["_law_told","_law_row"] a5F:=by
 refine F.okJ sc__law_all_met (λvs H Q E h=>?_) (λc1 f A c0 s H vs Q E S h=>?_)
 .obtain⟨t,r,zs,tss,row,rfl,_⟩:=h;rfl
 .obtain⟨t,r,zs,tss,row,rfl,ht,hI,hrw,r1,r2,hzl,hT,hnd,h0,kk⟩:=h;have hz:(3000:Nat)<=sizeLine:=by rw[a_];decide
  have hu:=S.u60;refine⟨_,(A3 (B3 (i:=2) sc__law_all_met.nd rfl (Or.inl rfl) (B1 b (S.mono (by omega)) rfl (jaC (a8C K rfl T.b_list (jaC (jv 0) jaN)) jaN)))
 (A3 (B3 (i:=3) sc__law_all_met.nd rfl (Or.inl rfl) (C4 (jaC (B4 K rfl T.b_tuple (jaC (jv 2) jaN)) (jaC (B4 K rfl T.b_tuple (jaC (B7 (N:=["_law_one","_law_told"]) (src:=[none,some 0]) (D6 K (jv 2)) (by show C0 _ _=true;rfl) (by rfl) (by rfl)
 (λ_ _ _ _ _=>(A7 (i:=0) (show(["_law_one","_law_told"]:List Str).Nodup by decide +kernel) rfl (Or.inl rfl))) (λ_ _ _ _ _=>C2) (λ_ _ _ _ _=>(B1 d (S.mono (by omega)) rfl (jaC (O6 K rfl T.b_len (jaC (jv 1) jaN)) (jaC (a9W K hu (jv 1) (jaC (jv 0) jaN)) jaN))))) jaN)) jaN))))
 (A8 (B2 (B1 c (S.mono (by omega)) rfl (jaC (B1 e (S.mono (by omega)) rfl (jaC (jv 0) (jaC (jv 1) (jaC A2 jaN)))) (jaC (jv 3) jaN))))))),?_⟩
  have z:∀v∈tss,v.length=row.length:=λv m=>(hT v m).1;refine⟨_,rfl,t,zs,rfl,.inr (SqT.of ht),λl hl=>?_⟩;have s1:=(Same.refl H).upd (o:=.lst zs) hl;refine⟨l,zs,tss,row.length,rfl,A1,hI.same s1,by omega,r1,by omega,z,λl2 fs a H2 s2 c4 R a4 e2 y=>?_⟩;have s2:=s1.trans s2;dsimp only[A9];refine⟨_,rfl,l2,fs,rfl,.inl ⟨SqL.of e2,λU b2=>?_⟩⟩;have D:=(Same.refl H2).upd (o:=.tup fs) b2;have e3:upd H2 U (.tup fs) U=some (.tup fs):=A1;have J:=D _ _ e2;have L:=y.same D;have s3:=s2.trans D;generalize upd H2 U (.tup fs)=H3 at s3 D e3 J L;have a5:a.Nodup:=R.symm.nodup hnd;have B:∀r,r∈a↔r∈tss:=λr=>R.mem_iff;have a1:LO a=a.filter λv=>Lst tss v:=(a4g (n:=row.length) a (λr S=>z r ((B r).mp S)) a4 a5 a [] (by rw[dj])).trans (List.filter_congr λv _=>Y6 B v);have O:∀v∈LO a,v∈tss:=λv m=>by rw[a1]at m;exact(B v).mp (aU.mp m).1
  have c3:fs.length<=60:=by
   have h1:=b7U a;rw[y.1];rw[R.length_eq,<-hI.1]at h1;omega
  refine⟨_,rfl,l2,rfl,⟨_,SqL.of J⟩,?_⟩;refine a9Q (caps:=[some (.ref t)]) (λv=>C5 tss.length (tss.idxOf v)) (by omega) (λH' s=>SqL.of (s _ _ J)) L rfl (λv u H4 Q4 hu m s4 q=>?_) λH4 p4 Y s4 b3 b0=>?_
  .obtain⟨va,rfl,hva⟩:=m;have C:=s3.trans s4;refine⟨_,rfl,t,zs,rfl,.inr (SqT.of (C _ _ ht)),?_⟩;refine⟨_,rfl,⟨t,zs,rfl,C _ _ ht⟩,_,rfl,?_⟩;dsimp only[a0T];refine b0a (C _ _ ht) (hI.same C) hva (O u hu) ?_;refine⟨tss.length,tss.idxOf u,_,_,rfl,by rw[hI.1],rfl,List.idxOf_lt_length_of_mem (O u hu),by rw[<-hI.1];omega,λv' H5 s5 b7=>q v' H5 s5 b7⟩
  refine⟨p4,_,rfl,.inl ⟨SqL.of A1,λV b4=>?_⟩⟩;have X:=((Same.refl H4).upd (o:=.lst Y) b3).upd (o:=.tup Y) b4;have e5:upd (upd H4 p4 (.lst Y)) V (.tup Y) V=some (.tup Y):=A1;have a0:=b0.same X;have a6:=s4.trans X;generalize upd (upd H4 p4 (.lst Y)) V (.tup Y)=H5 at a6 X e5 a0;refine⟨by show 2<=sizeLine;omega,λp6 b5=>?_⟩;have G:=(Same.refl H5).upd (o:=.tup [.ref U,.ref V]) b5;have e6:upd H5 p6 (.tup [.ref U,.ref V]) p6=some (.tup [.ref U,.ref V]):=A1;have W:=a6.trans G;have p:=s3.trans W;generalize upd H5 p6 (.tup [.ref U,.ref V])=H6 at G e6 W p;dsimp only[A9,List.set];have b8:(tss.map (dot row)).length=tss.length:=aj _;have b6:tss.length<=60:=by rw[<-hI.1];exact hzl
  have b9:∀i,(tss.map (dot row)).getD i 0=0:=λi=>by
   rw[ak,aQ];by_cases hi:i<tss.length
   .rw[ai hi];exact h0 _ (cz hi)
   .rw[bL (by omega)];rfl
  refine⟨_,rfl,_,rfl,t,r,zs,tss,row,60,_,rfl,rfl,p _ _ ht,hI.same p,p _ _ hrw,r1,r2,by omega,by decide,hT,λx hx=>?_,λq f g fs' c2 gs a9 H7 Z hq hf I hg M hN=>?_,λH7 Z ho=>a2D b8 (λi j=>by rw[b9];omega) b6 ho⟩
  .obtain⟨v,m,rfl⟩:=aT.mp hx;rw[h0 v m];decide
  obtain⟨⟨a8,S',e'⟩,a2⟩:=a8w hN z h0 hnd;have es:a8=a:=a0y S'.ri a4 S'.nd a5 λv=>(S'.mem v).trans (B v).symm;rw[es,<-a1]at e';subst e';have em:(LO a).map (fir row.length tss a9)=(LO a).map λv=>C5 tss.length (tss.idxOf v):=eh λv m=>(a2 v m).2;rw[em]at M;have a7:=W.trans Z;have a3:fs'.length<=1000:=by rw[I.1,<-y.1];omega
  have b1:gs.length<=1000:=by rw[M.1,aj,<-y.1];omega
  refine⟨_,rfl,_,_,rfl,two_sd hq (Z _ _ e6) hf hg (a7 _ _ e3) (Z _ _ (G _ _ e5)) I M (L.same a7) (a0.same (G.trans Z)) a3 b1 (λv m=>by rw[z v (O v m)];omega) (λv m=>?_),λH8 s8=>kk _ ((p.trans Z).trans s8)⟩;obtain⟨u,_,rfl⟩:=aT.mp m;rw[D7];omega
end
end K34
namespace K34
open PySem PySem.Spec PyProof.Rows L2
def Tri(vals U R:List Int):Prop:=∃g:Int,g≠0/\((vals=[g,-g,0]/\U=[0,0,1]/\R=[1,1,0])∨(vals=[g,0,-g]/\U=[0,1,0]/\R=[1,0,1])∨(vals=[0,g,-g]/\U=[1,0,0]/\R=[0,1,1]))
theorem O8(a b d x y z:Int):dot [a,b,d] [x,y,z]=a*x+b*y+d*z:=by
 show a*x+(b*y+(d*z+0))=_;omega
theorem a5t{c:List Int}(h:c.length=3):∃x y z,c=[x,y,z]:=by
 match c,h with
 |[x,y,z],_=>exact⟨x,y,z,rfl⟩
theorem a2F{g x y:Int}(a:g≠0)(h:g*x + -g*y=0):x=y:=by
 have e:g*(x-y)=0:=by rw[Int.mul_sub];rw[eI]at h;omega
 rcases Int.mul_eq_zero.mp e with z|z
 .exact absurd z a
 .omega
theorem und3{a b d x y z:Int}:Under [a,b,d] [x,y,z]↔a<=x/\b<=y/\d<=z:=by
 constructor
 .rintro⟨_,h⟩;exact⟨h 0 (by show 0<3;decide),h 1 (by show 1<3;decide),h 2 (by show 2<3;decide)⟩
 .rintro⟨h1,h2,h3⟩;refine⟨rfl,λj c=>?_⟩;have c:j<3:=c
  match j,c with
  |0,_=>exact h1
  |1,_=>exact h2
  |2,_=>exact h3
theorem ans3{vals:List Int}{x y z:Int}:Answer [vals] 3 [x,y,z]↔0<=x/\0<=y/\0<=z/\dot vals [x,y,z]=0/\0<x+y+z:=by
 constructor
 .intro h;have a:=h.pos;have e:[x,y,z].sum=x+y+z:=by show x+(y+(z+0))=_;omega
  rw[e]at a;exact⟨h.nn x (by simp),h.nn y (by simp),h.nn z (by simp),(a2g _ _).mp h.ans,a⟩
 .rintro⟨h1,h2,h3,h4,h5⟩;refine⟨rfl,λw hw=>?_,(a2g _ _).mpr h4,by show 0<x+(y+(z+0));omega⟩;simp at hw;rcases hw with rfl|rfl|rfl<;>assumption
theorem a9j{vals U R:List Int}(h:Tri vals U R)(c:List Int):Least [vals] (fre 3) c↔c=U∨c=R:=by
 obtain⟨g,i,h⟩:=h;have key:∀c,Least [vals] (fre 3) c↔Answer [vals] 3 c/\∀u,Answer [vals] 3 u->Under u c->u=c:=λc=>⟨λk=>⟨by have:=k.an;rwa[J2]at this,by have:=k.min;rwa[J2]at this⟩,λk=>⟨by rw[J2];exact k.1,b5s 3 _,by rw[J2];exact k.2⟩⟩;have d:∀x y z:Int,(g*x + -g*y+0*z=0↔x=y):=λx y z=>by
  rw[gm,Int.add_zero];refine⟨a2F i,λe=>?_⟩;rw[e,eI];omega
 have a:∀x y z:Int,(g*x+0*y + -g*z=0↔x=z):=λx y z=>by
  rw[gm,Int.add_zero];refine⟨a2F i,λe=>?_⟩;rw[e,eI];omega
 have b:∀x y z:Int,(0*x+g*y + -g*z=0↔y=z):=λx y z=>by
  rw[gm,Int.zero_add];refine⟨a2F i,λe=>?_⟩;rw[e,eI];omega
 rw[key];constructor
 .rintro⟨h1,h2⟩;obtain⟨x,y,z,rfl⟩:=a5t h1.len;rw[ans3]at h1;obtain⟨a1,j,l,f,m⟩:=h1;rcases h with⟨rfl,rfl,rfl⟩|⟨rfl,rfl,rfl⟩|⟨rfl,rfl,rfl⟩
  .rw[O8,d]at f;by_cases o:1<=z
   .exact .inl (h2 [0,0,1] (ans3.mpr ⟨by omega,by omega,by omega,by rw[O8,d],by omega⟩) (und3.mpr ⟨by omega,by omega,by omega⟩)).symm
   .exact .inr (h2 [1,1,0] (ans3.mpr ⟨by omega,by omega,by omega,by rw[O8,d],by omega⟩) (und3.mpr ⟨by omega,by omega,by omega⟩)).symm
  .rw[O8,a]at f;by_cases o:1<=y
   .exact .inl (h2 [0,1,0] (ans3.mpr ⟨by omega,by omega,by omega,by rw[O8,a],by omega⟩) (und3.mpr ⟨by omega,by omega,by omega⟩)).symm
   .exact .inr (h2 [1,0,1] (ans3.mpr ⟨by omega,by omega,by omega,by rw[O8,a],by omega⟩) (und3.mpr ⟨by omega,by omega,by omega⟩)).symm
  .rw[O8,b]at f;by_cases o:1<=x
   .exact .inl (h2 [1,0,0] (ans3.mpr ⟨by omega,by omega,by omega,by rw[O8,b],by omega⟩) (und3.mpr ⟨by omega,by omega,by omega⟩)).symm
   .exact .inr (h2 [0,1,1] (ans3.mpr ⟨by omega,by omega,by omega,by rw[O8,b],by omega⟩) (und3.mpr ⟨by omega,by omega,by omega⟩)).symm
 .have fin:∀(p q r:Int),(∀x y z:Int,0<=x->0<=y->0<=z->0<x+y+z->dot vals [x,y,z]=0->x<=p->y<=q->z<=r->x=p/\y=q/\z=r)->∀u,Answer [vals] 3 u->Under u [p,q,r]->u=[p,q,r]:=λp q r A u n w=>by
   obtain⟨x,y,z,rfl⟩:=a5t n.len;obtain⟨a1,j,l,f,m⟩:=ans3.mp n;obtain⟨s,t,v⟩:=und3.mp w;obtain⟨rfl,rfl,rfl⟩:=A x y z a1 j l m f s t v;rfl
  rintro(rfl|rfl)<;>rcases h with⟨rfl,rfl,rfl⟩|⟨rfl,rfl,rfl⟩|⟨rfl,rfl,rfl⟩
  .exact⟨ans3.mpr ⟨by omega,by omega,by omega,by rw[O8,d],by omega⟩,fin _ _ _ λx y z _ _ _ _ e _ _ _=>by rw[O8,d]at e;omega⟩
  .exact⟨ans3.mpr ⟨by omega,by omega,by omega,by rw[O8,a],by omega⟩,fin _ _ _ λx y z _ _ _ _ e _ _ _=>by rw[O8,a]at e;omega⟩
  .exact⟨ans3.mpr ⟨by omega,by omega,by omega,by rw[O8,b],by omega⟩,fin _ _ _ λx y z _ _ _ _ e _ _ _=>by rw[O8,b]at e;omega⟩
  .exact⟨ans3.mpr ⟨by omega,by omega,by omega,by rw[O8,d],by omega⟩,fin _ _ _ λx y z _ _ _ _ e _ _ _=>by rw[O8,d]at e;omega⟩
  .exact⟨ans3.mpr ⟨by omega,by omega,by omega,by rw[O8,a],by omega⟩,fin _ _ _ λx y z _ _ _ _ e _ _ _=>by rw[O8,a]at e;omega⟩
  .exact⟨ans3.mpr ⟨by omega,by omega,by omega,by rw[O8,b],by omega⟩,fin _ _ _ λx y z _ _ _ _ e _ _ _=>by rw[O8,b]at e;omega⟩
theorem b7d{g:Int}(a:g≠0):0<g*g:=by
 rcases Int.lt_or_gt_of_ne a with h|h
 .exact Int.mul_pos_of_neg_of_neg h h
 .exact Int.mul_pos h h
theorem b0N{vals U R:List Int}(h:Tri vals U R){F:LLI}{u v:List Int}(f:u∈[[1,0,0],[0,1,0],[0,0,1],R])(l:Z8 [vals] (fre 3) F u v):v∈[[1,0,0],[0,1,0],[0,0,1],R]:=by
 obtain⟨g,i,h⟩:=h;have n:=b7d i;obtain⟨j,k,rfl,_⟩:=l;obtain⟨m,a,_⟩:=a2m k;rw[a5O]at a;have b : -g*g = -(g*g):=eI g g;have c:g * -g = -(g*g):=Int.mul_neg g g;have d : -g * -g=g*g:=Int.neg_mul_neg g g;rcases h with⟨rfl,rfl,rfl⟩|⟨rfl,rfl,rfl⟩|⟨rfl,rfl,rfl⟩<;>
  simp only[aE,bz,cN]at f<;>rcases f with rfl|rfl|rfl|rfl<;>rw[O8]at a<;>
  (have e:j<3:=m
   match j,e with
   |0,_=>first | (exfalso;simp[b,c,d]at a;done) | (exfalso;simp[b,c,d]at a;omega) | (simp[bump])
   |1,_=>first | (exfalso;simp[b,c,d]at a;done) | (exfalso;simp[b,c,d]at a;omega) | (simp[bump])
   |2,_=>first | (exfalso;simp[b,c,d]at a;done) | (exfalso;simp[b,c,d]at a;omega) | (simp[bump]))
theorem b0M{vals U R:List Int}(h:Tri vals U R){most:Nat}(n:8<=most):¬b3y [vals] (fre 3) most:=by
 have m:∀u∈L8 (fre 3),u∈[[1,0,0],[0,1,0],[0,0,1],R]:=λu a=>by
  obtain⟨i,hi,rfl⟩:=a1C a
  match i,hi with
  |0,_=>exact au
  |1,_=>exact ar _ au
  |2,_=>exact ar _ (ar _ au)
 have f:∀{F W L:LLI}{k:Nat},Wk [vals] (fre 3) F W L k->(∀u∈W,u∈[[1,0,0],[0,1,0],[0,0,1],R])/\∀u∈L,u∈[[1,0,0],[0,1,0],[0,0,1],R]:=by
  intro F W L k g;induction g with
  |@one L ri nd h1=>exact⟨λu a=>m u ((h1 u).mp a),λu a=>m u ((h1 u).mp a)⟩
  |@more F W L b k g ne ri nd n o =>
   have hL:∀v∈b,v∈[[1,0,0],[0,1,0],[0,0,1],R]:=λv d=>by
    obtain⟨u,a,e⟩:=(n v).mp d;exact b0N h (o.2 u a) e
   exact⟨λu a=>(aO.mp a).elim (o.1 u) (hL u),hL⟩
 rintro⟨F,W,L,k,g,p⟩;obtain⟨r,s⟩:=f g;have l:=a8v W _ g.nd.1 r;have l:W.length<=4:=l;rcases p with q|⟨ne,b,nd,c,q⟩
 .omega
 .have j:=a8v b _ nd λv d=>(by obtain⟨u,a,e⟩:=c v d;exact b0N h (s u a) e:v∈[[1,0,0],[0,1,0],[0,0,1],R]);have j:b.length<=4:=j;omega
theorem a4D{U R:List Int}{a:LLI}(f:J4 a)(d:∀c,c∈a↔c=U∨c=R)(b:U≠R):∃rest,a=(if HT.lexLt U R then U else R)::rest:=by
 cases a with
 |nil=>exact absurd ((d U).mpr (.inl rfl)) (by simp)
 |cons x rest =>
  have g:=(dg.mp f).1;refine⟨rest,?_⟩;congr 1;rcases(d x).mp au with rfl|rfl
  .cases e:HT.lexLt x R with
   |true=>rfl
   |false =>
    exfalso;have hR:R∈rest:=by
     rcases aE.mp ((d R).mpr (.inr rfl))with z|z
     .exact absurd z.symm b
     .exact z
    exact b (N9 _ _ e (g R hR))
  .cases e:HT.lexLt U x with
   |false=>rfl
   |true =>
    exfalso;have h:U∈rest:=by
     rcases aE.mp ((d U).mpr (.inl rfl))with z|z
     .exact absurd z b
     .exact z
    rw[g U h]at e;cases e
theorem a9L{tss:LLI}{row s U R:List Int}{most:Nat}{a b:LLI}(h:NarC tss row most a b)(j:tss.length=3)(k:Tri (tss.map (dot row)) U R)(g:U≠R)(l:tgl row.length tss U=s)(hR:tgl row.length tss R=s):b=[s]/\fir row.length tss a s=if HT.lexLt U R then U else R:=by
 have f:∀c,c∈a↔c=U∨c=R:=λc=>(a4X h c).trans (by show Least _ (fre tss.length) c↔_;rw[j];exact a9j k c);obtain⟨rest,e⟩:=a4D h.ri f g;have i:∀c∈a,tgl row.length tss c=s:=λc q=>by rcases(f c).mp q with rfl|rfl<;>assumption
 constructor
 .obtain⟨mss,srt,_,hm,S,rfl⟩:=h.ex;have d:∀v,v∈mss↔v∈[s]:=λv=>by
   rw[hm v,aA];exact⟨λ⟨c,q,z⟩=>z.symm.trans (i c q),λz=>⟨U,(f U).mpr (.inl rfl),l.trans z.symm⟩⟩
  have es:srt=[s]:=a0y S.ri (fN _ _) S.nd (by simp) λv=>(S.mem v).trans (d v);rw[es,fO]
  .rfl
  .rw[Y6 d s];unfold Lst;simp
 .unfold fir;rw[e,List.find?_cons_of_pos]
  .rfl
  .exact bh (i _ (by rw[e];exact au))
theorem a1D{n:Nat}{a b d:List Int}(e:a.length=n)(f:b.length=n)(hd:d.length=n)(x y z:Int)(j:Nat):(tgl n [a,b,d] [x,y,z]).getD j 0=a.getD j 0*x+b.getD j 0*y+d.getD j 0*z:=by
 rw[a7A j _ _ _ aK (λt c=>by simp at c;rcases c with rfl|rfl|rfl<;>assumption),a7D];show 0+dot [a.getD j 0,b.getD j 0,d.getD j 0] [x,y,z]=_;rw[O8];omega
theorem E6{n:Nat}{a b d:List Int}(f:a.length=n)(g:b.length=n)(hd:d.length=n)(c:List Int):(tgl n [a,b,d] c).length=n:=a1O (λt e=>by simp at e;rcases e with rfl|rfl|rfl<;>assumption) c
structure ThreeOk(tss:LLI)(row s cs:List Int):Prop where
 l:tss.length=3
 ex:∃U R,Tri (tss.map (dot row)) U R/\U≠R/\tgl row.length tss U=s/\tgl row.length tss R=s/\cs=if HT.lexLt U R then U else R
def thr(x y:List Int)(k:Int):List Int:=if k=0 then x else if k=1 then y else G7 x y
theorem b0O{x y row:List Int}{g:Int}{os:List Int}(c:x.length=row.length)(b:y.length=row.length)(d:dot row x=g)(e:dot row y = -g)(i:g≠0)(l:os∈[[0,1,2],[0,2,1],[1,0,2],[1,2,0],[2,0,1],[2,1,0]]):ThreeOk (os.map (thr x y)) row (G7 x y) (if HT.lexLt (os.map λk=>if k=2 then 1 else 0) (os.map λk=>if k<2 then 1 else 0)then os.map (λk=>if k=2 then 1 else 0)else os.map λk=>if k<2 then 1 else 0):=by
 have hs:(G7 x y).length=row.length:=by rw[K3 _ _ (by omega),b]
 have h:dot row (G7 x y)=0:=by rw[a6p _ _ _ (by omega),d,e];omega
 have a:∀j,(G7 x y).getD j 0=x.getD j 0+y.getD j 0:=a0q x y (by omega);have m:thr x y 0=x:=rfl;have n:thr x y 1=y:=rfl;have o:thr x y 2=G7 x y:=rfl;have f : -g≠0:=by omega
 simp only[aE,bz,cN]at l;rcases l with rfl|rfl|rfl|rfl|rfl|rfl
 .refine⟨rfl,[0,0,1],[1,1,0],⟨g,i,.inl ⟨by show[dot row x,dot row y,dot row (G7 x y)]=_;rw[d,e,h],rfl,rfl⟩⟩,by decide,?_,?_,rfl⟩
  .exact gdx (by rw[hs];exact E6 c b hs _) λj _=>(a1D c b hs _ _ _ j).trans (by rw[a];omega)
  .exact gdx (by rw[hs];exact E6 c b hs _) λj _=>(a1D c b hs _ _ _ j).trans (by rw[a];omega)
 .refine⟨rfl,[0,1,0],[1,0,1],⟨g,i,.inr (.inl ⟨by show[dot row x,dot row (G7 x y),dot row y]=_;rw[d,e,h],rfl,rfl⟩)⟩,by decide,?_,?_,rfl⟩
  .exact gdx (by rw[hs];exact E6 c hs b _) λj _=>(a1D c hs b _ _ _ j).trans (by rw[a];omega)
  .exact gdx (by rw[hs];exact E6 c hs b _) λj _=>(a1D c hs b _ _ _ j).trans (by rw[a];omega)
 .refine⟨rfl,[0,0,1],[1,1,0],⟨-g,f,.inl ⟨by show[dot row y,dot row x,dot row (G7 x y)]=_;rw[d,e,h,Int.neg_neg],rfl,rfl⟩⟩,by decide,?_,?_,rfl⟩
  .exact gdx (by rw[hs];exact E6 b c hs _) λj _=>(a1D b c hs _ _ _ j).trans (by rw[a];omega)
  .exact gdx (by rw[hs];exact E6 b c hs _) λj _=>(a1D b c hs _ _ _ j).trans (by rw[a];omega)
 .refine⟨rfl,[0,1,0],[1,0,1],⟨-g,f,.inr (.inl ⟨by show[dot row y,dot row (G7 x y),dot row x]=_;rw[d,e,h,Int.neg_neg],rfl,rfl⟩)⟩,by decide,?_,?_,rfl⟩
  .exact gdx (by rw[hs];exact E6 b hs c _) λj _=>(a1D b hs c _ _ _ j).trans (by rw[a];omega)
  .exact gdx (by rw[hs];exact E6 b hs c _) λj _=>(a1D b hs c _ _ _ j).trans (by rw[a];omega)
 .refine⟨rfl,[1,0,0],[0,1,1],⟨g,i,.inr (.inr ⟨by show[dot row (G7 x y),dot row x,dot row y]=_;rw[d,e,h],rfl,rfl⟩)⟩,by decide,?_,?_,rfl⟩
  .exact gdx (by rw[hs];exact E6 hs c b _) λj _=>(a1D hs c b _ _ _ j).trans (by rw[a];omega)
  .exact gdx (by rw[hs];exact E6 hs c b _) λj _=>(a1D hs c b _ _ _ j).trans (by rw[a];omega)
 .refine⟨rfl,[1,0,0],[0,1,1],⟨-g,f,.inr (.inr ⟨by show[dot row (G7 x y),dot row y,dot row x]=_;rw[d,e,h,Int.neg_neg],rfl,rfl⟩)⟩,by decide,?_,?_,rfl⟩
  .exact gdx (by rw[hs];exact E6 hs b c _) λj _=>(a1D hs b c _ _ _ j).trans (by rw[a];omega)
  .exact gdx (by rw[hs];exact E6 hs b c _) λj _=>(a1D hs b c _ _ _ j).trans (by rw[a];omega)
end K34
namespace K34
open PySem PySem.Spec PyProof.Rows L2
theorem b7e{p r n:Int}(a:0<=p)(pn:p<n)(b:0<=r)(c:r<n-1):0<=(p+1+r) % n/\(p+1+r) % n<n/\(p+1+r) % n≠p:=by
 refine⟨dP _ (by omega),dh _ (by omega),?_⟩;by_cases h:p+1+r<n
 .rw[Int.emod_eq_of_lt (by omega) h];omega
 .have e:p+1+r=(p+1+r-n)+n*1:=by omega
  rw[e,Int.add_mul_emod_self_left,Int.emod_eq_of_lt (by omega) (by omega)];omega
theorem a8i{os:List Int}{z:Int}(h:os∈[[0,1,2],[0,2,1],[1,0,2],[1,2,0],[2,0,1],[2,1,0]])(hz:z∈os):z=0∨z=1∨z=2:=by
 simp only[aE,bz,cN]at h;rcases h with rfl|rfl|rfl|rfl|rfl|rfl<;>simp at hz<;>omega
theorem b3P{os:List Int}(h:os∈[[0,1,2],[0,2,1],[1,0,2],[1,2,0],[2,0,1],[2,1,0]]):os.length=3:=by
 simp only[aE,bz,cN]at h;rcases h with rfl|rfl|rfl|rfl|rfl|rfl<;>rfl
def pil(n:Nat)(x:Int)(p:Nat):List Int:=(List.range n).map λj=>x*if j=p then 1 else 0
theorem b1K(n:Nat)(x:Int)(p:Nat):pil n x p=a0p x (C5 n p):=by
 unfold pil a0p C5;rw[cx];rfl
theorem a8o(n:Nat)(x:Int)(p:Nat):(pil n x p).length=n:=by rw[b1K,C7,D7]
theorem b5N(n:Nat)(x:Int)(p:Nat):((List.range n).map λj=>V.int (x*if j=p then 1 else 0))=(pil n x p).map V.int:=by
 unfold pil;rw[cx];rfl
theorem a8p{n:Nat}{row:List Int}{x:Int}{p:Nat}(a:row.length=n)(hp:p<n):dot row (pil n x p)=x*row.getD p 0:=by rw[b1K,a3i,Z0 a hp]
theorem b1L{n:Nat}{x:Int}{p:Nat}(h:1<=x/\x<=100000):∀z∈pil n x p,0<=z/\z<=100000:=λz a=>by
 obtain⟨j,_,rfl⟩:=aT.mp a;split<;>omega
theorem b5Y{n:Nat}{A B:List Int}(c:A.length=n)(b:B.length=n):((List.range n).map λj=>V.int (A.getD j 0+B.getD j 0))=(G7 A B).map V.int:=by
 rw[show G7 A B=(List.range n).map λj=>A.getD j 0+B.getD j 0 from gdx (by rw[K3 _ _ (by omega),aj,dw,b]) λj a=>by
  rw[aj,dw]at a;rw[a0q _ _ (by omega),ak (l:=List.map _ _),aQ,List.getElem?_range a];rfl,cx]
 rfl
theorem b3h(j p:Nat):(if decide (V.int j=V.int p)=true then(1:Int)else 0)=if j=p then 1 else 0:=by
 by_cases e:j=p
 .subst e;rw[az (bh rfl),az rfl]
 .rw[aq (λz=>e (by have:=V.int.inj (bO z);omega)),aq e]
section
variable {P:Program}{w:World}{K:PySem.W.Frag}{mg:Str->Option Value}{base:Heap}
inductive IspThree(vs:List V)(H:Hp)(Q:VK)(E:XK):Prop
 |mk (a b:Addr) (m:Nat) (_:vs=[.ref a]) (_:PotAt H a b m) (_:m+500<2 ^ 60) (_:∀q t r d e1 e2 bo c zs tss row s cs H',H' q=some (.tup [.ref t,.ref r,.ref d])->H' t=some (.tup zs)->Its H' zs tss->H' r=some (.tup (row.map V.int))->H' d=some (.tup [.ref e1,.ref e2])->H' e1=some (.tup [.ref bo])->H' bo=some (.tup (s.map V.int))->H' e2=some (.tup [.ref c])->H' c=some (.tup (cs.map V.int))->2<=row.length->row.length<=8->(∀v∈tss,v.length=row.length/\∀x∈v,0<=x/\x<=200000)->(∀x∈row,-10000000<=x/\x<=10000000)->ThreeOk tss row s cs->PotAt H' a b (m+50)->Off [a,b] H H'->Q (.ref q) H'):IspThree  vs H Q E
def a7X:Sp:=λvs H Q E=>IspThree  vs H Q E
theorem sc__law_three:FnScope ["_law_pot_here","_law_width","_law_some","_law_far","_law_sizes","_law_one","_law_other","_law_both","_law_by","_law_row","_law_order","_law_told","_law_counts"] ["_law_pot_here"] (A4 N0):=⟨rfl,rfl,rfl,by decide +kernel,rfl,by decide +kernel,by decide +kernel⟩
theorem b2a(F:FunAt K mg "_law_three" N0 ["_law_pot_here"])(T:Tx mg)(d:Ok P w K mg base "_law_take" 1 ["_law_pot_here","_law_many"] a4o):Ok P w K mg base "_law_three" 2 ["_law_pot_here"] a7X:=by
 refine F.okJ sc__law_three (λvs H Q E h=>?_) (λD3 f A y7 s H vs Q E hr h=>?_)
 .obtain⟨a,b,m,rfl,_⟩:=h;rfl
 .obtain⟨a,b,m,rfl,hP,hm,kk⟩:=h;have hz:(3000:Nat)<=sizeLine:=by rw[a_];decide
  have hu:=hr.u60;refine⟨_,(A3 (B3 (i:=1) sc__law_three.nd rfl (Or.inl rfl) (L3 A2 (B1 d (hr.mono (by omega)) rfl (jaC (jv 0) (jaC A2 jaN)))))
 (A3 (B3 (i:=2) sc__law_three.nd rfl (Or.inr rfl) (I9 (jaC (B1 d (hr.mono (by omega)) rfl (jaC (jv 0) (jaC (jv 1) jaN))) (jaC A2 jaN))))
 (A3 (a1e (a1A (L3 (L3 (E8 K (jv 2) A2) A2) (B1 d (hr.mono (by omega)) rfl (jaC (jv 0) (jaC (a1z (jv 1) A2) jaN)))) (jv 1)) (a2P (jv 2) A2))
 (A3 (B3 (i:=3) sc__law_three.nd rfl (Or.inl rfl) (E8 K (I9 (jaC A2 (jaC (a2T A2 A2) jaN))) (B1 d (hr.mono (by omega)) rfl (jaC (jv 0) (jaC A2 jaN)))))
 (A3 (B3 (i:=4) sc__law_three.nd rfl (Or.inr rfl) (I9 (jaC (L3 A2 (B1 d (hr.mono (by omega)) rfl (jaC (jv 0) (jaC (jv 3) jaN)))) (jaC (L3 A2 (B1 d (hr.mono (by omega)) rfl (jaC (jv 0) (jaC (jv 3) jaN)))) jaN))))
 (A3 (B3 (i:=5) sc__law_three.nd rfl (Or.inr rfl) (B4 K rfl T.b_tuple (jaC (B7 (N:=["_law_j","_law_sizes","_law_some"]) (src:=[none,some 4,some 2]) (E1 rfl T.b_range (jaC (jv 1) jaN)) (by show C0 _ _=true;rfl) (by rfl) (by rfl)
 (λ_ _ _ _ _=>(A7 (i:=0) (show(["_law_j","_law_sizes","_law_some"]:List Str).Nodup by decide +kernel) rfl (Or.inl rfl))) (λ_ _ _ _ _=>C2) (λ_ _ _ _ _=>(Q9 (E8 K (jv 1) A2) (a1g rfl T.b_int (jaC (a1y (jv 0) (E8 K (jv 2) A2)) jaN))))) jaN)))
 (A3 (B3 (i:=6) sc__law_three.nd rfl (Or.inr rfl) (B4 K rfl T.b_tuple (jaC (B7 (N:=["_law_j","_law_sizes","_law_some"]) (src:=[none,some 4,some 2]) (E1 rfl T.b_range (jaC (jv 1) jaN)) (by show C0 _ _=true;rfl) (by rfl) (by rfl)
 (λ_ _ _ _ _=>(A7 (i:=0) (show(["_law_j","_law_sizes","_law_some"]:List Str).Nodup by decide +kernel) rfl (Or.inl rfl))) (λ_ _ _ _ _=>C2) (λ_ _ _ _ _=>(Q9 (E8 K (jv 1) A2) (a1g rfl T.b_int (jaC (a1y (jv 0) (E8 K (jv 2) A2)) jaN))))) jaN)))
 (A3 (B3 (i:=7) sc__law_three.nd rfl (Or.inr rfl) (B4 K rfl T.b_tuple (jaC (B7 (N:=["_law_j","_law_one","_law_other"]) (src:=[none,some 5,some 6]) (E1 rfl T.b_range (jaC (jv 1) jaN)) (by show C0 _ _=true;rfl) (by rfl) (by rfl)
 (λ_ _ _ _ _=>(A7 (i:=0) (show(["_law_j","_law_one","_law_other"]:List Str).Nodup by decide +kernel) rfl (Or.inl rfl))) (λ_ _ _ _ _=>C2) (λ_ _ _ _ _=>(L3 (S2 K (jv 1) (jv 0)) (S2 K (jv 2) (jv 0))))) jaN)))
 (A3 (B3 (i:=8) sc__law_three.nd rfl (Or.inl rfl) (Q9 (L3 A2 (B1 d (hr.mono (by omega)) rfl (jaC (jv 0) (jaC A2 jaN)))) (E8 K (I9 (jaC A2 (jaC (b2L A2) jaN))) (B1 d (hr.mono (by omega)) rfl (jaC (jv 0) (jaC A2 jaN))))))
 (A3 (B3 (i:=9) sc__law_three.nd rfl (Or.inl rfl) (b8J (I9 (jaC A2 jaN)) (jv 1)))
 (A3 (a1e (Q9 (jv 8) (E8 K (jv 4) A2)) (a2P (jv 9) (E8 K (jv 2) A2)))
 (A3 (a1e (a1z A2 (Q9 (jv 8) (E8 K (jv 4) A2))) (a2P (jv 9) (E8 K (jv 2) A2)))
 (A3 (B3 (i:=10) sc__law_three.nd rfl (Or.inl rfl) (E8 K (I9 (jaC (I9 (jaC A2 (jaC A2 (jaC A2 jaN)))) (jaC (I9 (jaC A2 (jaC A2 (jaC A2 jaN)))) (jaC (I9 (jaC A2 (jaC A2 (jaC A2 jaN)))) (jaC (I9 (jaC A2 (jaC A2 (jaC A2 jaN)))) (jaC (I9 (jaC A2 (jaC A2 (jaC A2 jaN)))) (jaC (I9 (jaC A2 (jaC A2 (jaC A2 jaN)))) jaN))))))) (B1 d (hr.mono (by omega)) rfl (jaC (jv 0) (jaC A2 jaN)))))
 (A3 (B3 (i:=11) sc__law_three.nd rfl (Or.inl rfl) (B4 K rfl T.b_tuple (jaC (B7 (N:=["_law_k","_law_one","_law_other","_law_both"]) (src:=[none,some 5,some 6,some 7]) (D6 K (jv 10)) (by show C0 _ _=true;rfl) (by rfl) (by rfl)
 (λ_ _ _ _ _=>(A7 (i:=0) (show(["_law_k","_law_one","_law_other","_law_both"]:List Str).Nodup by decide +kernel) rfl (Or.inl rfl))) (λ_ _ _ _ _=>C2) (λ_ _ _ _ _=>(S2 K (C4 (jaC (jv 1) (jaC (jv 2) (jaC (jv 3) jaN)))) (jv 0)))) jaN)))
 (A3 (B3 (i:=12) sc__law_three.nd rfl (Or.inl rfl) (b2H K hu rfl T.b_min (jaC (B4 K rfl T.b_tuple (jaC (B7 (N:=["_law_k"]) (src:=[none]) (D6 K (jv 10)) (by show C0 _ _=true;rfl) (by rfl) (by rfl)
 (λ_ _ _ _ _=>(A7 (i:=0) (show(["_law_k"]:List Str).Nodup by decide +kernel) rfl (Or.inl rfl))) (λ_ _ _ _ _=>C2) (λ_ _ _ _ _=>(a1g rfl T.b_int (jaC (b8E (jv 0) A2) jaN)))) jaN)) (jaC (B4 K rfl T.b_tuple (jaC (B7 (N:=["_law_k"]) (src:=[none]) (D6 K (jv 10)) (by show C0 _ _=true;rfl) (by rfl) (by rfl)
 (λ_ _ _ _ _=>(A7 (i:=0) (show(["_law_k"]:List Str).Nodup by decide +kernel) rfl (Or.inl rfl))) (λ_ _ _ _ _=>C2) (λ_ _ _ _ _=>(a1g rfl T.b_int (jaC (a1y (jv 0) A2) jaN)))) jaN)) jaN))))
 (A8 (B2 (C4 (jaC (jv 11) (jaC (B4 K rfl T.b_tuple (jaC (jv 9) jaN)) (jaC (C4 (jaC (C4 (jaC (jv 7) jaN)) (jaC (C4 (jaC (jv 12) jaN)) jaN))) jaN))))))))))))))))))))),?_⟩
  refine⟨_,rfl,a,b,_,7,rfl,hP,by omega,by decide,by decide,λr1 H1 w0 w1 r0 k6=>⟨_,_,rfl,rfl,?_⟩⟩;obtain⟨k,rfl⟩:∃t:Nat,r1=t:=⟨r1.toNat,by omega⟩;dsimp only[A9,List.set];rw[show(2+(k:Int))=((k+2:Nat):Int) by omega];have x4:2<=k+2:=by omega
  have x5:k+2<=8:=by omega
  generalize k+2=n at x4 x5⊢;clear w0 w1;refine⟨_,rfl,_,rfl,a,b,_,n,rfl,r0,by omega,by omega,by omega,λr2 H2 w2 w3 i4 k7=>⟨by show 2<=sizeLine;omega,λps i8=>?_⟩⟩;obtain⟨B,rfl⟩:∃t:Nat,r2=t:=⟨r2.toNat,by omega⟩;have b8:=k6.trans k7;have M:=D0 i4 i8;have g7:=a2B b8 i4 i8;have s3:=(Same.refl H2).upd (o:=.lst [.int B,.int 0]) i8;have e3:upd H2 ps (.lst [.int B,.int 0]) ps=some (.lst [.int B,.int 0]):=A1;have m5:=i4.same s3;have b9:=a2C (o:=.lst [.int B,.int 0]) b8 g7;generalize upd H2 ps (.lst [.int B,.int 0])=H3 at s3 e3 m5 b9;clear s3 b8 k6 k7 r0 i4;dsimp only[A9,List.set];refine⟨_,rfl,ps,_,0,_,rfl,rfl,SqL.of e3,rfl,_,_,rfl,rfl,_,rfl,_,rfl,_,_,rfl,rfl,a,b,_,(n:Int)-1,rfl,m5,by omega,by omega,by omega,λr4 H4 q6 q7 r5 h5=>⟨_,_,rfl,rfl,_,rfl,_,_,rfl,rfl,by omega,?_⟩⟩;have g9:=b9.trans h5;have e4:=h5 _ _ M e3;obtain⟨q0,qn,v1⟩:=b7e (p:=B) (r:=r4) (n:=n) (by omega) (by omega) q6 q7;dsimp only[A9,List.set];refine⟨_,rfl,ps,_,1,1,rfl,rfl,e4,b2Q (show 1<2 by decide),?_⟩;obtain⟨p1,m4⟩:∃t:Nat,((B:Int)+1+r4) % n=t:=⟨(((B:Int)+1+r4) % n).toNat,by omega⟩;rw[m4]at q0 qn v1;have n4:B<n:=by omega
  have i7:p1<n:=by omega
  have t7:p1≠B:=by omega
  dsimp only[List.set];rw[m4];have i5:=a1W (o:=.lst [.int B,.int p1]) r5 M;have e5:upd H4 ps (.lst [.int B,.int p1]) ps=some (.lst [.int B,.int p1]):=A1;have c0:=a2C (o:=.lst [.int B,.int p1]) g9 g7;generalize upd H4 ps (.lst [.int B,.int p1])=H5 at i5 e5 c0;clear m4 q0 qn v1 q6 q7 e4 g9 h5 r5 b9 m5 e3 w2 w3 i8;refine⟨_,_,rfl,rfl,⟨by decide,by decide,by decide⟩,by show 2<=sizeLine;omega,λpf n5=>?_⟩;have k4:=D0 i5 n5;have s6:=(Same.refl H5).upd (o:=.lst [.int 4,.int ((10:Int) ^ Int.toNat 5)]) n5;have e6:upd H5 pf (.lst [.int 4,.int ((10:Int) ^ Int.toNat 5)]) pf=some (.lst [.int 4,.int ((10:Int) ^ Int.toNat 5)]):=A1;generalize upd H5 pf (.lst [.int 4,.int ((10:Int) ^ Int.toNat 5)])=H6 at s6 e6;refine⟨_,rfl,a,b,_,2,rfl,i5.same s6,by omega,by decide,by decide,λr7 H7 q8 q9 r6 d4=>?_⟩;obtain⟨f7,j6,g4⟩:=two_at' 4 ((10:Int) ^ Int.toNat 5) r7 q8 q9;have j2:(10:Int) ^ Int.toNat 5=100000:=by decide
  rw[j2]at g4;refine⟨pf,_,_,.int f7,rfl,rfl,SqL.of (d4 _ _ k4 e6),j6,?_⟩;have e7:=d4 _ _ M (s6 _ _ e5);have h0:=(c0.trans (s6.off (l:=[a,b]))).trans d4;have F3:4<=f7/\f7<=100000:=by omega
  clear j6 g4 j2 e6 s6 k4 n5 q8 q9 d4 i5 e5 c0;dsimp only[A9,List.set];refine⟨_,rfl,_,rfl,a,b,_,f7,rfl,r6,by omega,by omega,by omega,λz0 H8 w4 w5 r8 h6=>⟨_,_,rfl,rfl,?_⟩⟩;refine⟨_,rfl,_,rfl,a,b,_,f7,rfl,r8,by omega,by omega,by omega,λz1 H9 w6 w7 m6 h7=>⟨_,_,rfl,rfl,?_⟩⟩;have e9:=h7 _ _ M (h6 _ _ M e7);have h3:=(h0.trans h6).trans h7;refine⟨by show 2<=sizeLine;omega,λpz n7=>?_⟩;obtain⟨G,u8⟩:∃t,t=1+z0:=⟨_,rfl⟩;obtain⟨C,u9⟩:∃t,t=1+z1:=⟨_,rfl⟩;dsimp only[A9,List.set];rw[<-u8,<-u9];have b0:1<=G/\G<=100000:=by omega
  have b1:1<=C/\C<=100000:=by omega
  have g8:=D0 m6 n7;have a9:=(Same.refl H9).upd (o:=.lst [.int G,.int C]) n7;have ez:upd H9 pz (.lst [.int G,.int C]) pz=some (.lst [.int G,.int C]):=A1;have es:=a9 _ _ e9;have f8:=m6.same a9;have c1:=h3.trans (a9.off (l:=[a,b]));generalize upd H9 pz (.lst [.int G,.int C])=z2 at a9 ez es f8 c1;clear u8 u9 w4 w5 w6 w7 h6 h7 r6 r8 m6 e7 h0 e9 h3 a9 n7;refine⟨_,rfl,_,rfl,by omega,by omega,?_⟩;rw[bb];refine O2 (caps:=[some (.ref pz),some (.ref ps)]) (λj=>V.int (G*if j=B then 1 else 0)) (by omega) rfl (λj k8 z7 hj h8 q=>?_) λk8 n8 h8 j8=>?_
  .refine⟨_,rfl,pz,_,0,_,rfl,rfl,SqL.of (h8 _ _ ez),rfl,_,rfl,_,rfl,ps,_,0,_,rfl,rfl,SqL.of (h8 _ _ es),rfl,rfl,.inr ⟨_,rfl,_,_,rfl,rfl,?_,?_⟩⟩
   .exact .inl ⟨by omega,by omega⟩
   .rw[b3h];exact q
  rw[b5N];refine⟨n8,_,rfl,.inl ⟨SqL.of A1,λpo t8=>?_⟩⟩;have j0:=(h8.upd (o:=.lst ((pil n G B).map V.int)) j8).upd (o:=.tup ((pil n G B).map V.int)) t8;have X:upd (upd k8 n8 (.lst ((pil n G B).map V.int))) po (.tup ((pil n G B).map V.int)) po=some (.tup ((pil n G B).map V.int)):=A1;generalize upd (upd k8 n8 (.lst ((pil n G B).map V.int))) po (.tup ((pil n G B).map V.int))=z3 at j0 X;clear h8 j8 t8;dsimp only[A9,List.set];refine⟨_,rfl,_,rfl,by omega,by omega,?_⟩;rw[bb];refine O2 (caps:=[some (.ref pz),some (.ref ps)]) (λj=>V.int (C*if j=p1 then 1 else 0)) (by omega) rfl (λj k9 z8 hj j1 q=>?_) λk9 n9 j1 j9=>?_
  .have a9:=j0.trans j1;refine⟨_,rfl,pz,_,1,_,rfl,rfl,SqL.of (a9 _ _ ez),rfl,_,rfl,_,rfl,ps,_,1,_,rfl,rfl,SqL.of (a9 _ _ es),rfl,rfl,.inr ⟨_,rfl,_,_,rfl,rfl,.inl ⟨by omega,by omega⟩,?_⟩⟩;rw[b3h];exact q
  rw[b5N];refine⟨n9,_,rfl,.inl ⟨SqL.of A1,λpt t9=>?_⟩⟩;have e8:=(j1.upd (o:=.lst ((pil n C p1).map V.int)) j9).upd (o:=.tup ((pil n C p1).map V.int)) t9;have et:upd (upd k9 n9 (.lst ((pil n C p1).map V.int))) pt (.tup ((pil n C p1).map V.int)) pt=some (.tup ((pil n C p1).map V.int)):=A1;generalize upd (upd k9 n9 (.lst ((pil n C p1).map V.int))) pt (.tup ((pil n C p1).map V.int))=z4 at e8 et;have X:=e8 _ _ X;have e8:=j0.trans e8;clear j1 j9 t9 j0;have lA:=a8o n G B;have lB:=a8o n C p1;have bA:=b1L (n:=n) (p:=B) b0;have bB:=b1L (n:=n) (p:=p1) b1;have dA:∀row:List Int,row.length=n->dot row (pil n G B)=G*row.getD B 0:=λrow hr=>a8p hr n4;have dB:∀row:List Int,row.length=n->dot row (pil n C p1)=C*row.getD p1 0:=λrow hr=>a8p hr i7;generalize pil n G B=A0 at X lA bA dA;generalize pil n C p1=B0 at et lB bB dB;dsimp only[A9,List.set];refine⟨_,rfl,_,rfl,by omega,by omega,?_⟩;rw[bb];refine O2 (caps:=[some (.ref po),some (.ref pt)]) (λj=>V.int (A0.getD j 0+B0.getD j 0)) (by omega) rfl (λj l6 z9 hj h9 q=>?_) λl6 o0 h9 k0=>?_
  .exact⟨_,rfl,_,rfl,po,_,_,_,rfl,rfl,SqT.of (h9 _ _ X),U8 (by omega),_,rfl,_,rfl,pt,_,_,_,rfl,rfl,SqT.of (h9 _ _ et),U8 (by omega),_,_,rfl,rfl,q⟩
  rw[b5Y lA lB];refine⟨o0,_,rfl,.inl ⟨SqL.of A1,λpb s9=>?_⟩⟩;have Y:=(h9.upd (o:=.lst ((G7 A0 B0).map V.int)) k0).upd (o:=.tup ((G7 A0 B0).map V.int)) s9;have eb:upd (upd l6 o0 (.lst ((G7 A0 B0).map V.int))) pb (.tup ((G7 A0 B0).map V.int)) pb=some (.tup ((G7 A0 B0).map V.int)):=A1;generalize upd (upd l6 o0 (.lst ((G7 A0 B0).map V.int))) pb (.tup ((G7 A0 B0).map V.int))=v7 at Y eb;have X:=Y _ _ X;have et:=Y _ _ et;have Y:=e8.trans Y;have es:=Y _ _ es;have ez:=Y _ _ ez;have f9:=f8.same Y;have h4:=c1.trans (Y.off (l:=[a,b]));clear h9 k0 s9 e8 Y f8 c1;dsimp only[A9,List.set];refine⟨_,rfl,a,b,_,9,rfl,f9,by omega,by decide,by decide,λy8 i0 p9 q3 g0 S=>⟨_,_,rfl,rfl,?_⟩⟩;refine⟨_,rfl,by show 2<=sizeLine;omega,λpg n6=>?_⟩;have t5:=D0 g0 n6;have c7:=(Same.refl i0).upd (o:=.lst [.int 1,.int (-1)]) n6;have eg:upd i0 pg (.lst [.int 1,.int (-1)]) pg=some (.lst [.int 1,.int (-1)]):=A1;have d2:=g0.same c7;have W:Tk v7 i0:=Tk.pot f9 S;have W:=W.trans (Tk.same c7);have X:=W _ _ X;have et:=W _ _ et;have eb:=W _ _ eb;have es:=c7 _ _ (S _ _ M es);have ez:=c7 _ _ (S _ _ g8 ez);have c2:=(h4.trans S).trans (c7.off (l:=[a,b]));generalize upd i0 pg (.lst [.int 1,.int (-1)])=v8 at c7 eg d2 W X et eb es ez c2;clear W c7 f9 g0 h4 S n6;refine⟨_,rfl,a,b,_,2,rfl,d2,by omega,by decide,by decide,λy9 f0 j3 j4 j5 J=>?_⟩;obtain⟨sg,u7,k5⟩:=two_at' 1 (-1) y9 j3 j4;refine⟨pg,_,_,.int sg,rfl,rfl,SqL.of (J _ _ t5 eg),u7,_,_,rfl,rfl,.inl ⟨by omega,by omega⟩,?_⟩;obtain⟨u,s0⟩:∃t,t=(1+y8)*sg:=⟨_,rfl⟩;have w8:u≠0 /\ -9<=u/\u<=9:=by
   rcases k5 with rfl|rfl<;>omega
  dsimp only[A9,List.set];rw[<-s0];have d8:Tk v8 f0:=Tk.pot d2 J;have X:=d8 _ _ X;have et:=d8 _ _ et;have eb:=d8 _ _ eb;have es:=J _ _ M es;have ez:=J _ _ g8 ez;have d3:=c2.trans J;clear d8 u7 k5 s0 j3 j4 p9 q3 eg c2 J d2;refine⟨by show 1<=sizeLine;omega,λpl t6=>⟨_,rfl,pl,_,_,rfl,rfl,A1,by omega,by omega,by rw[bb];show 1*n<=sizeLine;omega,λpr e2=>?_⟩⟩;rw[bb,W7]at *;have Z:=(Same.refl f0).upd (o:=.lst [.int 0]) t6;have a1:=j5.same Z;have g6:=D0 a1 e2;have a2:=d3.trans (Z.off (l:=[a,b]));have g5:=a2B a2 a1 e2;have b2:=(Same.refl (upd f0 pl (.lst [.int 0]))).upd (o:=.lst ((List.replicate n (0:Int)).map V.int)) e2;have er:upd (upd f0 pl (.lst [.int 0])) pr (.lst ((List.replicate n (0:Int)).map V.int)) pr=some (.lst ((List.replicate n (0:Int)).map V.int)):=A1;have c8:=Z.trans b2;have g1:=a1.same b2;have c3:=a2.trans (b2.off (l:=[a,b]));generalize upd (upd f0 pl (.lst [.int 0])) pr (.lst ((List.replicate n (0:Int)).map V.int))=e0 at b2 er c8 g1 c3;have p3:=es;have p8:=ez;have X:=c8 _ _ X;have et:=c8 _ _ et;have eb:=c8 _ _ eb;have es:=c8 _ _ es;have ez:=c8 _ _ ez;have y5:=A6 (Z _ _ p3) e2;have y6:=A6 (Z _ _ p8) e2;clear c8 Z b2 a1 a2 e2 t6 d3 j5 p3 p8;dsimp only[A9,List.set];have bx:∀x:Int,1<=x/\x<=100000 -> -900000<=u*x/\u*x<=900000:=λx hx=>by
   have h1:u*x<=9*x:=bU (by omega) (by omega);have h2 : -9*x<=u*x:=bU (by omega) (by omega);omega
  refine⟨_,rfl,_,rfl,pz,_,1,_,rfl,rfl,SqL.of ez,rfl,_,_,rfl,rfl,.inl ⟨by omega,by omega⟩,_,rfl,_,rfl,ps,_,0,_,rfl,rfl,SqL.of es,rfl,pr,_,_,B,rfl,rfl,er,b2Q (by rw[aj,aK];exact n4),?_⟩;rw[<-List.map_set];have g2:=a1W (o:=.lst (((List.replicate n (0:Int)).set B (u*C)).map V.int)) g1 g6;have c4:=a2C (o:=.lst (((List.replicate n (0:Int)).set B (u*C)).map V.int)) c3 g5;have d1:upd e0 pr (.lst (((List.replicate n (0:Int)).set B (u*C)).map V.int)) pr=some (.lst (((List.replicate n (0:Int)).set B (u*C)).map V.int)):=A1;have b4:Tk e0 (upd e0 pr (.lst (((List.replicate n (0:Int)).set B (u*C)).map V.int))):=Tk.put er;have f5:upd e0 pr (.lst (((List.replicate n (0:Int)).set B (u*C)).map V.int)) ps=some (.lst [.int B,.int p1]):=by rw[A5 y5];exact es
  have f6:upd e0 pr (.lst (((List.replicate n (0:Int)).set B (u*C)).map V.int)) pz=some (.lst [.int G,.int C]):=by rw[A5 y6];exact ez
  generalize upd e0 pr (.lst (((List.replicate n (0:Int)).set B (u*C)).map V.int))=i1 at g2 c4 d1 b4 f5 f6;have X:=b4 _ _ X;have et:=b4 _ _ et;have eb:=b4 _ _ eb;clear es ez er g1 c3 b4;refine⟨_,rfl,_,rfl,pz,_,0,_,rfl,rfl,SqL.of f6,rfl,_,_,rfl,rfl,.inl ⟨by omega,by omega⟩,_,_,rfl,rfl,_,rfl,_,rfl,ps,_,1,_,rfl,rfl,SqL.of f5,rfl,pr,_,_,p1,rfl,rfl,d1,b2Q (by rw[aj,dN,aK];exact i7),?_⟩;dsimp only[A9,List.set];rw[<-List.map_set];obtain⟨row,hrow⟩:∃row,row=((List.replicate n (0:Int)).set B (u*C)).set p1 (0-u*G):=⟨_,rfl⟩;have u6:row.length=n:=by rw[hrow,dN,dN,aK]
  have u0:row.getD B 0=u*C:=by rw[hrow,a6Q _ _ _ _ (by rw[dN,aK];exact i7),aq (dJ t7),a6Q _ _ _ _ (by rw[aK];exact n4),az rfl]
  have u5:row.getD p1 0=0-u*G:=by rw[hrow,a6Q _ _ _ _ (by rw[dN,aK];exact i7),az rfl]
  have x9:∀x∈row,-10000000<=x/\x<=10000000:=λx hx=>by
   have q0:=bx G b0;have q1:=bx C b1;rw[hrow]at hx;rcases dS hx with hx|rfl
   .rcases dS hx with hx|rfl
    .rw[(List.mem_replicate.mp hx).2];omega
    .omega
   .omega
  rw[<-hrow];have D:=a1W (o:=.lst (row.map V.int)) g2 g6;have c5:=a2C (o:=.lst (row.map V.int)) c4 g5;have f4:upd i1 pr (.lst (row.map V.int)) pr=some (.lst (row.map V.int)):=A1;have b5:Tk i1 (upd i1 pr (.lst (row.map V.int))):=Tk.put d1;generalize upd i1 pr (.lst (row.map V.int))=i2 at D c5 f4 b5;have X:=b5 _ _ X;have et:=b5 _ _ et;have eb:=b5 _ _ eb;clear f5 f6 d1 g2 c4 b5 hrow M g8 g5 g7;have s2:dot row A0=G*(u*C):=by rw[dA row u6,u0]
  have s4:dot row B0 = -(G*(u*C)):=by
   rw[dB row u6,u5,Int.mul_sub,Int.mul_zero,Int.zero_sub,Int.mul_left_comm C u G,Int.mul_left_comm G u C,Int.mul_comm C G]
  have s1:G*(u*C)≠0:=Int.mul_ne_zero (by omega) (Int.mul_ne_zero w8.1 (by omega));generalize G*(u*C)=g at s2 s4 s1;clear dA dB u0 u5 bx;refine⟨by show 3<=sizeLine;omega,λl0 m7=>?_⟩;have a3:=(Same.refl i2).upd (o:=.lst [.int 0,.int 1,.int 2]) m7;have I:upd i2 l0 (.lst [.int 0,.int 1,.int 2]) l0=some (.lst [.int 0,.int 1,.int 2]):=A1;generalize upd i2 l0 (.lst [.int 0,.int 1,.int 2])=G0 at a3 I;refine⟨by show 3<=sizeLine;omega,λl1 m8=>?_⟩;have a4:=(Same.refl G0).upd (o:=.lst [.int 0,.int 2,.int 1]) m8;have O:upd G0 l1 (.lst [.int 0,.int 2,.int 1]) l1=some (.lst [.int 0,.int 2,.int 1]):=A1;generalize upd G0 l1 (.lst [.int 0,.int 2,.int 1])=G1 at a4 O;have I:=a4 _ _ I;refine⟨by show 3<=sizeLine;omega,λl2 m9=>?_⟩;have a5:=(Same.refl G1).upd (o:=.lst [.int 1,.int 0,.int 2]) m9;have a0:upd G1 l2 (.lst [.int 1,.int 0,.int 2]) l2=some (.lst [.int 1,.int 0,.int 2]):=A1;generalize upd G1 l2 (.lst [.int 1,.int 0,.int 2])=G2 at a5 a0;have I:=a5 _ _ I;have O:=a5 _ _ O;refine⟨by show 3<=sizeLine;omega,λl3 n0=>?_⟩;have a6:=(Same.refl G2).upd (o:=.lst [.int 1,.int 2,.int 0]) n0;have b6:upd G2 l3 (.lst [.int 1,.int 2,.int 0]) l3=some (.lst [.int 1,.int 2,.int 0]):=A1;generalize upd G2 l3 (.lst [.int 1,.int 2,.int 0])=G3 at a6 b6;have I:=a6 _ _ I;have O:=a6 _ _ O;have a0:=a6 _ _ a0;refine⟨by show 3<=sizeLine;omega,λl4 n1=>?_⟩;have a7:=(Same.refl G3).upd (o:=.lst [.int 2,.int 0,.int 1]) n1;have f1:upd G3 l4 (.lst [.int 2,.int 0,.int 1]) l4=some (.lst [.int 2,.int 0,.int 1]):=A1;generalize upd G3 l4 (.lst [.int 2,.int 0,.int 1])=G4 at a7 f1;have I:=a7 _ _ I;have O:=a7 _ _ O;have a0:=a7 _ _ a0;have b6:=a7 _ _ b6;refine⟨by show 3<=sizeLine;omega,λl5 n2=>?_⟩;have a8:=(Same.refl G4).upd (o:=.lst [.int 2,.int 1,.int 0]) n2;have m3:upd G4 l5 (.lst [.int 2,.int 1,.int 0]) l5=some (.lst [.int 2,.int 1,.int 0]):=A1;generalize upd G4 l5 (.lst [.int 2,.int 1,.int 0])=G5 at a8 m3;have I:=a8 _ _ I;have O:=a8 _ _ O;have a0:=a8 _ _ a0;have b6:=a8 _ _ b6;have f1:=a8 _ _ f1;refine⟨by show 6<=sizeLine;omega,λlo n3=>?_⟩;have sL:=(Same.refl G5).upd (o:=.lst [.ref l0,.ref l1,.ref l2,.ref l3,.ref l4,.ref l5]) n3;have eL:upd G5 lo (.lst [.ref l0,.ref l1,.ref l2,.ref l3,.ref l4,.ref l5]) lo=some (.lst [.ref l0,.ref l1,.ref l2,.ref l3,.ref l4,.ref l5]):=A1;generalize upd G5 lo (.lst [.ref l0,.ref l1,.ref l2,.ref l3,.ref l4,.ref l5])=G6 at sL eL;have b3:=((((((a3.trans a4).trans a5).trans a6).trans a7).trans a8).trans sL);have g3:=D.same b3;refine⟨_,rfl,a,b,_,6,rfl,g3,by omega,by decide,by decide,λc6 p2 q4 q5 r3 L=>?_⟩;obtain⟨oa,os,i6,r9,f2,s5⟩:∃(oa:Addr) (os:List Int),os∈[[0,1,2],[0,2,1],[1,0,2],[1,2,0],[2,0,1],[2,1,0]]/\atI [V.ref l0,.ref l1,.ref l2,.ref l3,.ref l4,.ref l5] c6=some (.ref oa)/\G6 oa=some (.lst (os.map V.int))/\oa∉[a,b]:=by
   have hc:c6=0∨c6=1∨c6=2∨c6=3∨c6=4∨c6=5:=by omega
   rcases hc with rfl|rfl|rfl|rfl|rfl|rfl
   .exact⟨l0,[0,1,2],by simp,rfl,sL _ _ I,D0 D m7⟩
   .exact⟨l1,[0,2,1],by simp,rfl,sL _ _ O,D0 (D.same a3) m8⟩
   .exact⟨l2,[1,0,2],by simp,rfl,sL _ _ a0,D0 (D.same (a3.trans a4)) m9⟩
   .exact⟨l3,[1,2,0],by simp,rfl,sL _ _ b6,D0 (D.same ((a3.trans a4).trans a5)) n0⟩
   .exact⟨l4,[2,0,1],by simp,rfl,sL _ _ f1,D0 (D.same (((a3.trans a4).trans a5).trans a6)) n1⟩
   .exact⟨l5,[2,1,0],by simp,rfl,sL _ _ m3,D0 (D.same ((((a3.trans a4).trans a5).trans a6).trans a7)) n2⟩
  have j7:lo∉[a,b]:=D0 (D.same (((((a3.trans a4).trans a5).trans a6).trans a7).trans a8)) n3;refine⟨lo,_,_,_,rfl,rfl,SqL.of (L _ _ j7 eL),r9,?_⟩;have d9:Tk i2 p2:=(Tk.same b3).trans (Tk.pot g3 L);have X:=d9 _ _ X;have et:=d9 _ _ et;have eb:=d9 _ _ eb;have er:=L _ _ g6 (b3 _ _ f4);have f2:=L _ _ s5 f2;have i9:=(c5.trans (b3.off (l:=[a,b]))).trans L;have F5:=b3P i6;clear d9 b3 a3 a4 a5 a6 a7 a8 sL m7 m8 m9 n0 n1 n2 n3 I O a0 b6 f1 m3 eL r9 q4 q5 L g3 D c5 f4 j7;dsimp only[A9,List.set];refine⟨_,rfl,oa,rfl,⟨_,SqL.of f2⟩,?_⟩;refine L7 (K:=K) (a:=oa) (xs:=os.map V.int) (by rw[aj];omega) (λi ys H'=>Same p2 H'/\Its H' ys ((os.take i).map (thr A0 B0))) ⟨Same.refl _,by simpa using Its.nil⟩ (λi ys H' _ h=>⟨SqL.of (h.1 _ _ f2),by rw[h.2.1,aj];exact bP _ _⟩) ?_ ?_
  .rintro i x ys e1 hx ⟨c9,hy⟩;obtain⟨z,v0,rfl⟩:=M3 hx;have y4:=a8i i6 (aF v0);refine⟨Sub.one,?_⟩;refine⟨_,rfl,_,rfl,_,rfl,by show 3<=sizeLine;omega,λpq x7=>?_⟩;have d0:=(Same.refl e1).upd (o:=.tup [.ref po,.ref pt,.ref pb]) x7;obtain⟨c,w9,x2⟩:∃c,atI [V.ref po,.ref pt,.ref pb] z=some (.ref c)/\e1 c=some (.tup ((thr A0 B0 z).map V.int)):=by
    rcases y4 with rfl|rfl|rfl
    .exact⟨po,rfl,c9 _ _ X⟩
    .exact⟨pt,rfl,c9 _ _ et⟩
    .exact⟨pb,rfl,c9 _ _ eb⟩
   refine⟨_,rfl,pq,_,_,_,rfl,rfl,SqT.of A1,w9,?_⟩;rw[bj,v0,bV];exact⟨c9.trans d0,(hy.same d0).snoc ⟨c,rfl,d0 _ _ x2⟩⟩
  rintro zs e1 ⟨c9,hy⟩ o1 k1;rw[aj,bq]at hy;refine⟨o1,_,rfl,.inl ⟨SqL.of A1,λpd t4=>?_⟩⟩;have d7:=((Same.refl e1).upd (o:=.lst zs) k1).upd (o:=.tup zs) t4;have ed:upd (upd e1 o1 (.lst zs)) pd (.tup zs) pd=some (.tup zs):=A1;have hy:=hy.same d7;have d0:=c9.trans d7;generalize upd (upd e1 o1 (.lst zs)) pd (.tup zs)=z5 at d7 ed hy d0;clear c9 k1 t4 d7;dsimp only[A9,List.set];have b7:=d0 _ _ f2;refine⟨_,rfl,oa,rfl,⟨_,SqL.of b7⟩,?_⟩;refine a3K (caps:=[]) (λz=>V.int (if decide (z<2)=true then 1 else 0)) (by omega) (λH' s=>SqL.of (s _ _ b7)) rfl (λz l7 D1 hz o4 q=>⟨_,rfl,_,_,rfl,rfl,.inr ⟨_,rfl,q⟩⟩) λl7 o2 o4 k2=>?_;have eR:(os.map λz=>V.int (if decide (z<2)=true then 1 else 0))=(os.map λk:Int=>if k<2 then(1:Int)else 0).map V.int:=by
   rw[cx];exact eh λz _=>by simp
  rw[eR];refine⟨o2,_,rfl,.inl ⟨SqL.of A1,λpA s7=>?_⟩⟩;have o5:=(o4.upd (o:=.lst ((os.map λk:Int=>if k<2 then(1:Int)else 0).map V.int)) k2).upd (o:=.tup ((os.map λk:Int=>if k<2 then(1:Int)else 0).map V.int)) s7;have eA:upd (upd l7 o2 (.lst ((os.map λk:Int=>if k<2 then(1:Int)else 0).map V.int))) pA (.tup ((os.map λk:Int=>if k<2 then(1:Int)else 0).map V.int)) pA=some (.tup ((os.map λk:Int=>if k<2 then(1:Int)else 0).map V.int)):=A1;generalize upd (upd l7 o2 (.lst ((os.map λk:Int=>if k<2 then(1:Int)else 0).map V.int))) pA (.tup ((os.map λk:Int=>if k<2 then(1:Int)else 0).map V.int))=z6 at o5 eA;clear o4 k2 s7 eR;have f3:=o5 _ _ b7;refine⟨_,rfl,oa,rfl,⟨_,SqL.of f3⟩,?_⟩;refine a3K (caps:=[]) (λz=>V.int (if decide (V.int z=V.int 2)=true then 1 else 0)) (by omega) (λH' s=>SqL.of (s _ _ f3)) rfl (λz l8 D2 hz o6 q=>⟨_,rfl,rfl,.inr ⟨_,rfl,q⟩⟩) λl8 o3 o6 k3=>?_;have eU:(os.map λz=>V.int (if decide (V.int z=V.int 2)=true then 1 else 0))=(os.map λk:Int=>if k=2 then(1:Int)else 0).map V.int:=by
   rw[cx];exact eh λz _=>by simp
  rw[eU];refine⟨o3,_,rfl,.inl ⟨SqL.of A1,λpB s8=>?_⟩⟩;have o7:=(o6.upd (o:=.lst ((os.map λk:Int=>if k=2 then(1:Int)else 0).map V.int)) k3).upd (o:=.tup ((os.map λk:Int=>if k=2 then(1:Int)else 0).map V.int)) s8;have eB:upd (upd l8 o3 (.lst ((os.map λk:Int=>if k=2 then(1:Int)else 0).map V.int))) pB (.tup ((os.map λk:Int=>if k=2 then(1:Int)else 0).map V.int)) pB=some (.tup ((os.map λk:Int=>if k=2 then(1:Int)else 0).map V.int)):=A1;generalize upd (upd l8 o3 (.lst ((os.map λk:Int=>if k=2 then(1:Int)else 0).map V.int))) pB (.tup ((os.map λk:Int=>if k=2 then(1:Int)else 0).map V.int))=i3 at o7 eB;clear o6 k3 s8 eU;have eA:=o7 _ _ eA;have d6:=o5.trans o7;have d5:=d0.trans d6;have TO:=b0O (x:=A0) (y:=B0) (row:=row) (by omega) (by omega) s2 s4 s1 i6;refine⟨pA,pB,_,_,rfl,SqT.of eA,SqT.of eB,?_⟩;generalize F2:(os.map λk:Int=>if k=2 then(1:Int)else 0)=U at eB TO⊢;generalize F1:(os.map λk:Int=>if k<2 then(1:Int)else 0)=R at eA TO⊢;obtain⟨pc,cs,x6,x3,ec⟩:∃(pc:Addr) (cs:List Int),(if HT.lexLt U R=true then pB else pA)=pc/\(if HT.lexLt U R=true then U else R)=cs/\i3 pc=some (.tup (cs.map V.int)):=by
   cases HT.lexLt U R with
   |true=>exact⟨pB,U,rfl,rfl,eB⟩
   |false=>exact⟨pA,R,rfl,rfl,eA⟩
  rw[x6];rw[x3]at TO;dsimp only[A9,List.set];refine⟨_,rfl,_,rfl,pr,_,rfl,.inl ⟨SqL.of (d5 _ _ er),λpw x8=>?_⟩⟩;have v2:=(Same.refl i3).upd (o:=.tup (row.map V.int)) x8;have ew:upd i3 pw (.tup (row.map V.int)) pw=some (.tup (row.map V.int)):=A1;generalize upd i3 pw (.tup (row.map V.int))=l9 at v2 ew;refine⟨_,rfl,by show 1<=sizeLine;omega,λu1 y0=>?_⟩;have v3:=(Same.refl l9).upd (o:=.tup [.ref pb]) y0;have p4:upd l9 u1 (.tup [.ref pb]) u1=some (.tup [.ref pb]):=A1;generalize upd l9 u1 (.tup [.ref pb])=m0 at v3 p4;refine⟨_,rfl,by show 1<=sizeLine;omega,λu2 y1=>?_⟩;have v4:=(Same.refl m0).upd (o:=.tup [.ref pc]) y1;have p5:upd m0 u2 (.tup [.ref pc]) u2=some (.tup [.ref pc]):=A1;generalize upd m0 u2 (.tup [.ref pc])=m1 at v4 p5;refine⟨by show 2<=sizeLine;omega,λu3 y2=>?_⟩;have v5:=(Same.refl m1).upd (o:=.tup [.ref u1,.ref u2]) y2;have p6:upd m1 u3 (.tup [.ref u1,.ref u2]) u3=some (.tup [.ref u1,.ref u2]):=A1;generalize upd m1 u3 (.tup [.ref u1,.ref u2])=m2 at v5 p6;refine⟨by show 3<=sizeLine;omega,λu4 y3=>?_⟩;have o8:=(Same.refl m2).upd (o:=.tup [.ref pd,.ref pw,.ref u3]) y3;have p7:upd m2 u4 (.tup [.ref pd,.ref pw,.ref u3]) u4=some (.tup [.ref pd,.ref pw,.ref u3]):=A1;generalize upd m2 u4 (.tup [.ref pd,.ref pw,.ref u3])=v9 at o8 p7;have t3:=v5.trans o8;have t2:=v4.trans t3;have t1:=v3.trans t2;have t0:=v2.trans t1;have v6:=d6.trans t0;have o9:=d5.trans t0;have bS:∀z∈G7 A0 B0,0<=z/\z<=200000:=λz hz=>by
   obtain⟨j,hj,rfl⟩:=bC.mp hz;have e:=a0q A0 B0 (by omega) j;rw[ak,ai hj]at e;have e:(G7 A0 B0)[j]=A0.getD j 0+B0.getD j 0:=e;have F4:j<n:=by rw[K3 _ _ (by omega)]at hj;omega
   have q1:=bA _ (a2Z (j:=j) (by omega));have q2:=bB _ (a2Z (j:=j) (by omega));omega
  refine kk u4 pd pw u3 u1 u2 pb pc zs _ row (G7 A0 B0) cs v9 p7 (v6 _ _ ed) (hy.same v6) (t1 _ _ ew) (o8 _ _ p6) (t2 _ _ p4) (o9 _ _ eb) (t3 _ _ p5) (t0 _ _ ec) (by omega) (by omega) (λv hv=>?_) x9 TO ((r3.same o9).mono (by omega)) (i9.trans o9.off);obtain⟨z,hz,rfl⟩:=aT.mp hv;rcases a8i i6 hz with rfl|rfl|rfl
  .exact⟨by show A0.length=_;omega,λx hx=>by have:=bA x hx;omega⟩
  .exact⟨by show B0.length=_;omega,λx hx=>by have:=bB x hx;omega⟩
  .exact⟨by show(G7 A0 B0).length=_;rw[K3 _ _ (by omega)];omega,bS⟩
end
end K34
namespace K34
open PySem PySem.Spec PyProof.Rows L2
theorem b3g{B:Int}:∀(a c:List Int),(∀x∈a,-B<=x/\x<=B)->(∀x∈c,0<=x/\x<=100000)->0<=B -> -(B*100000*a.length)<=dot a c/\dot a c<=B*100000*a.length
 |[],_,_,_,h=>by simp[dot]
 |_::a,[],_,_,h=>by
  have:0<=B*100000*((a.length+1:Nat):Int):=eX (by omega) (by omega);simp only[dot,List.zipWith_nil_right,List.sum_nil,aN];omega
 |x::a,y::c,d,e,h=>by
  have i:=b3g a c (λz b=>d z (ar _ b)) (λz b=>e z (ar _ b)) h;have h1:=d x au;have h2:=e y au;have u:x*y<=B*100000:=Int.le_trans (bU h1.2 h2.1) (cI h2.2 h);have l : -(B*100000)<=x*y:=by
   have f : -B*y<=x*y:=bU h1.1 h2.1;have g:B*y<=B*100000:=cI h2.2 h;rw[eI]at f;omega
  rw[B9,aN,show((a.length+1:Nat):Int)=(a.length:Int)+1 by omega,fU,Int.mul_one];omega
theorem a8Q{B:Int}:∀(a c:List Int),(∀x∈a,-B<=x/\x<=B)->(∀x∈c,0<=x/\x<=200000)->0<=B -> -(B*200000*a.length)<=dot a c/\dot a c<=B*200000*a.length
 |[],_,_,_,h=>by simp[dot]
 |_::a,[],_,_,h=>by
  have:0<=B*200000*((a.length+1:Nat):Int):=eX (by omega) (by omega);simp only[dot,List.zipWith_nil_right,List.sum_nil,aN];omega
 |x::a,y::c,d,e,h=>by
  have i:=a8Q a c (λz b=>d z (ar _ b)) (λz b=>e z (ar _ b)) h;have h1:=d x au;have h2:=e y au;have u:x*y<=B*200000:=Int.le_trans (bU h1.2 h2.1) (cI h2.2 h);have l : -(B*200000)<=x*y:=by
   have f : -B*y<=x*y:=bU h1.1 h2.1;have g:B*y<=B*200000:=cI h2.2 h;rw[eI]at f;omega
  rw[B9,aN,show((a.length+1:Nat):Int)=(a.length:Int)+1 by omega,fU,Int.mul_one];omega
theorem a8R:∀(a b c d:List Int),a.length=c.length->dot (a++b) (c++d)=dot a c+dot b d
 |[],b,[],d,_=>by rw[a6r];simp
 |x::a,b,y::c,d,h=>by
  rw[ff,ff,B9,B9,a8R a b c d (by simpa using h)];omega
structure Td(H:Hp)(t:Addr)(zs:List V)(tss:LLI)(wd:Nat):Prop where
 e:H t=some (.tup zs)
 I:Its H zs tss
 l:zs.length<=30
 nd:tss.Nodup
 W:∀v∈tss,∃u,v=u++u/\VB wd u/\0<u.sum
theorem Td.tk{H H':Hp}{t:Addr}{zs:List V}{tss:LLI}{a:Nat}(h:Td H t zs tss a)(s:Tk H H'):Td H' t zs tss a:=⟨s _ _ h.e,s.its h.I,h.l,h.nd,h.W⟩
theorem Td.tl{H:Hp}{t:Addr}{zs:List V}{tss:LLI}{a:Nat}(h:Td H t zs tss a):tss.length<=30:=by rw[<-h.I.1];exact h.l
theorem Td.bd{H:Hp}{t:Addr}{zs:List V}{tss:LLI}{b:Nat}(h:Td H t zs tss b){v:List Int}(c:v∈tss):v.length=2*b/\(∀x∈v,0<=x/\x<=100000)/\0<v.sum:=by
 obtain⟨u,rfl,a,hs⟩:=h.W v c;refine⟨by rw[ax,a.1];omega,λx d=>a.2 x ((aO.mp d).elim id id),by rw[List.sum_append];omega⟩
def RwB(wd:Nat)(row:List Int):Prop:=row.length=2*wd/\∀x∈row,-1000000<=x/\x<=1000000
theorem a5u{H:Hp}{t:Addr}{zs:List V}{tss:LLI}{d:Nat}{row:List Int}(h:Td H t zs tss d)(b:RwB d row)(hw:d<=4):(∀v∈tss,v.length=row.length/\Sm v)/\Sm (tss.map (dot row)):=by
 refine⟨λv a=>⟨by rw[(h.bd a).1,b.1],λx c=>by have:=(h.bd a).2.1 x c;omega⟩,λx c=>?_⟩;obtain⟨v,a,rfl⟩:=aT.mp c;have h1:=b3g (B:=1000000) row v b.2 (h.bd a).2.1 (by decide);have h2:(1000000:Int)*100000*row.length<=1000000*100000*8:=cI (by rw[b.1];omega) (by decide);omega
theorem Td.one{H:Hp}{t p:Addr}{zs:List V}{tss:LLI}{a:Nat}(h:Td H t zs tss a){x:V}{v:List Int}(c:v∈tss)(d:IT H x v)(hp:H p=some (.tup [x])):Td H p [x] [v] a:=⟨hp,Its.one d,by simp,by simp,λu b=>h.W u (by rw[aA.mp b];exact c)⟩
theorem b0P{H:Hp}{t:Addr}{zs:List V}{tss:LLI}{c:Nat}{row:List Int}(h:Td H t zs tss c)(d:row.length=2*c)(hp:∀x∈row,1<=x):OneWay (tss.map (dot row)):=.inl λx b=>by
 obtain⟨v,a,rfl⟩:=aT.mp b;have:=a0M row v (by rw[d,(h.bd a).1]) hp λx b=>((h.bd a).2.1 x b).1;have:=(h.bd a).2.2;omega
theorem b6c{H:Hp}{t:Addr}{zs:List V}{tss:LLI}{c:Nat}{row:List Int}(h:Td H t zs tss c)(d:row.length=2*c)(hp:∀x∈row,1<=x):OneWay (tss.map (dot (row.map λx => -x))):=.inr λx b=>by
 obtain⟨v,a,rfl⟩:=aT.mp b;have:=a0M row v (by rw[d,(h.bd a).1]) hp λx b=>((h.bd a).2.1 x b).1;have:=(h.bd a).2.2;rw[a2d];omega
section
variable {P:Program}{w:World}{K:PySem.W.Frag}{mg:Str->Option Value}{base:Heap}
theorem b6h{H:Hp}{Q:VK}{t:Addr}{zs:List V}{k:Nat}(a:H t=some (.tup zs))(q:∀p H',Same H H'->H' p=some (.tup (zs.take k))->Q (.ref p) H'):b6k K (.ref t) none (some (k:Int)) H Q:=by
 refine⟨t,zs,rfl,SqT.of a,λh=>?_,λh p b=>?_⟩
 .have h1:=h.2;rw[HT.sIx_nat]at h1;exact q t H (Same.refl _) (by rw[ck (by omega)];exact a)
 .rw[HT.sIx_none,HT.sIx_nat]at h;refine q p _ ((Same.refl H).upd b) ?_;rw[A1,b8O (by omega)]
theorem a5X{D t r:Addr}{H:Hp}{Q:VK}{zs:List V}{tss:LLI}{row:List Int}{most:Nat}(J:H t=some (.tup zs))(w:Its H zs tss)(I:H r=some (.tup (row.map V.int)))(L:1<=row.length)(M:row.length<=100)(K:zs.length<=60)(A:∀v∈tss,v.length=row.length/\Sm v)(y:Sm (tss.map (dot row)))(hw:OneWay (tss.map (dot row)))(E:tss.length<=most)(m:most<=900)(k:∀q H',Same H H'->(∀b c d a,Same H' a->a b=some (.tup [])->a c=some (.tup [])->a d=some (.tup [.ref b,.ref c])->SD a 4 (.ref q) (.ref d))->Q (.ref q) H'):a0t D [.ref t,.ref r,.int most] H Q λ_ _ _=>False:=by
 refine⟨t,r,zs,tss,row,most,_,rfl,rfl,J,w,I,L,M,by omega,m,A,y,λq f g fs p s o H' s' G B h C i x=>?_,λH' s' F=>a2D (aj _) hw.pull E F⟩;refine k q H' s' λb c d a n h1 h2 u=>?_;have e:=b2n x hw;subst e;have j:fs=[]:=dz h.1;have l:s=[]:=dz i.1;subst j l;exact two_sd (n _ _ G) u (n _ _ B) (n _ _ C) h1 h2 .nil .nil .nil .nil (by simp) (by simp) (λ_ z=>nomatch z) (λ_ z=>nomatch z)
end
end K34
namespace K34
open PySem PySem.Spec PyProof.Rows L2
section
variable {P:Program}{w:World}{K:PySem.W.Frag}{mg:Str->Option Value}{base:Heap}
theorem sc_law:FnScope ["_law_script","_law_pot_here","_law_width","_law_some","_law_told","_law_numbers","_law_meets","_law_vectors_here","_law_above","_law_row","_law_three_here","_law_due","_law_one"] ["_law_script"] (A4 a2s):=⟨rfl,rfl,rfl,by decide +kernel,rfl,by decide +kernel,by decide +kernel⟩
theorem b7b{b6:Addr}{f:Addr}{fd:FuncData}(F':Fun K "law" "law" a2s f fd)(T:Tx mg)(a9:Ok P w K mg base "_law_pot" 1 ["_law_script"] (b5C K))(n:Ok P w K mg base "_law_take" 1 ["_law_pot_here","_law_many"] a4o)(S:Ok P w K mg base "_law_vectors" 2 ["_law_pot_here","_law_width"] a3D)(D:Ok P w K mg base "_law_all_met" 9 ["_law_told","_law_row"] a5F)(p:Ok P w K mg base "narrowed" 8 ["told","row","most"] (λvs H Q _=>a0t b6 vs H Q λ_ _ _=>False))(l:Ok P w K mg base "_law_same" 5 ["_law_found","_law_due"] (a6O 4))(a0:Ok P w K mg base "_law_three" 2 ["_law_pot_here"] a7X) :
  FnOk P w K mg base CX0 10 f fd ["_law_script"] (a8a K):=by
 refine F'.okJ sc_law (λvs H Q E h=>?_) (λD2 A y9 s H vs Q E O h=>?_)
 .obtain⟨a,ns,rfl,_⟩:=h;rfl
 .obtain⟨c,ns,rfl,hS,hl,kk⟩:=h;have hu:=O.u60;have hz:(3000:Nat)<=sizeLine:=by rw[a_];decide
  refine⟨_,(A3 (B3 (i:=1) sc_law.nd rfl (Or.inr rfl) (B1 a9 (O.mono (by omega)) rfl (jaC (jv 0) jaN)))
 (A3 (B3 (i:=2) sc_law.nd rfl (Or.inl rfl) (L3 A2 (B1 n (O.mono (by omega)) rfl (jaC (jv 1) (jaC A2 jaN)))))
 (A3 (B3 (i:=3) sc_law.nd rfl (Or.inl rfl) (B1 S (O.mono (by omega)) rfl (jaC (jv 1) (jaC (jv 2) jaN))))
 (A3 (B3 (i:=4) sc_law.nd rfl (Or.inl rfl) (B4 K rfl T.b_tuple (jaC (B7 (N:=["_law_one"]) (src:=[none]) (L1 K (jv 3)) (by show C0 _ _=true;rfl) (by rfl) (by rfl)
 (λ_ _ _ _ _=>(A7 (i:=0) (show(["_law_one"]:List Str).Nodup by decide +kernel) rfl (Or.inl rfl))) (λ_ _ _ _ _=>C2) (λ_ _ _ _ _=>(Y8 (jv 0) (jv 0)))) jaN)))
 (A3 (B3 (i:=5) sc_law.nd rfl (Or.inl rfl) (B4 K rfl T.b_tuple (jaC (B7 (N:=["_law_j","_law_pot_here"]) (src:=[none,some 1]) (E1 rfl T.b_range (jaC (jv 2) jaN)) (by show C0 _ _=true;rfl) (by rfl) (by rfl)
 (λ_ _ _ _ _=>(A7 (i:=0) (show(["_law_j","_law_pot_here"]:List Str).Nodup by decide +kernel) rfl (Or.inl rfl))) (λ_ _ _ _ _=>C2) (λ_ _ _ _ _=>(a1z (B1 n (O.mono (by omega)) rfl (jaC (jv 1) (jaC (L3 (Q9 A2 (a2T A2 A2)) A2) jaN))) (a2T A2 A2)))) jaN)))
 (A3 (B3 (i:=6) sc_law.nd rfl (Or.inl rfl) (Y8 (jv 5) (B4 K rfl T.b_tuple (jaC (B7 (N:=["_law_number"]) (src:=[none]) (L1 K (jv 5)) (by show C0 _ _=true;rfl) (by rfl) (by rfl)
 (λ_ _ _ _ _=>(A7 (i:=0) (show(["_law_number"]:List Str).Nodup by decide +kernel) rfl (Or.inl rfl))) (λ_ _ _ _ _=>C2) (λ_ _ _ _ _=>(a1z A2 (jv 0)))) jaN))))
 (A3 (L0 (L1 K (C4 (jaC (jv 4) (jaC (b2J K (jv 4) (b2L A2)) jaN)))) (A7 (i:=7) sc_law.nd rfl (Or.inl rfl))
 (A8 (K1 (a7k (b2w (O5 (I0 K (B1 D (O.mono (by omega)) rfl (jaC (jv 7) (jaC (jv 6) jaN))))) (a7j (O5 (I0 K (B1 D (O.mono (by omega)) rfl (jaC (jv 7) (jaC (a4N (C4 (jaC A2 jaN)) (Q9 A2 (jv 2))) jaN))))))))
 (A8 (B2 a0G))
 E4)))
 (A3 (B3 (i:=8) sc_law.nd rfl (Or.inl rfl) (B4 K rfl T.b_tuple (jaC (B7 (N:=["_law_j","_law_pot_here"]) (src:=[none,some 1]) (E1 rfl T.b_range (jaC (Q9 A2 (jv 2)) jaN)) (by show C0 _ _=true;rfl) (by rfl) (by rfl)
 (λ_ _ _ _ _=>(A7 (i:=0) (show(["_law_j","_law_pot_here"]:List Str).Nodup by decide +kernel) rfl (Or.inl rfl))) (λ_ _ _ _ _=>C2) (λ_ _ _ _ _=>(L3 A2 (B1 n (O.mono (by omega)) rfl (jaC (jv 1) (jaC (E8 K (I9 (jaC A2 (jaC (a2T A2 A2) jaN))) (B1 n (O.mono (by omega)) rfl (jaC (jv 1) (jaC A2 jaN)))) jaN)))))) jaN)))
 (A3 (L0 (L1 K (C4 (jaC (jv 4) (jaC (b2J K (jv 4) (b2L A2)) jaN)))) (A7 (i:=7) sc_law.nd rfl (Or.inl rfl))
 (A8 (L0 (L1 K (C4 (jaC (jv 8) (jaC (B4 K rfl T.b_tuple (jaC (B7 (N:=["_law_number"]) (src:=[none]) (L1 K (jv 8)) (by show C0 _ _=true;rfl) (by rfl) (by rfl)
 (λ_ _ _ _ _=>(A7 (i:=0) (show(["_law_number"]:List Str).Nodup by decide +kernel) rfl (Or.inl rfl))) (λ_ _ _ _ _=>C2) (λ_ _ _ _ _=>(a1z A2 (jv 0)))) jaN)) jaN)))) (A7 (i:=9) sc_law.nd rfl (Or.inl rfl))
 (A8 (K1 (O5 (I0 K (B1 l (O.mono (by omega)) rfl (jaC (B1 p (O.mono (by omega)) rfl (jaC (jv 7) (jaC (jv 9) (jaC A2 jaN)))) (jaC (C4 (jaC (C4 jaN) (jaC (C4 jaN) jaN))) jaN)))))
 (A8 (B2 a0G))
 E4)))))
 (A3 (a1e (B1 a0 (O.mono (by omega)) rfl (jaC (jv 1) jaN)) (U3 K 3 (C1 (A7 (i:=10) sc_law.nd rfl (Or.inl rfl)) (C1 (A7 (i:=9) sc_law.nd rfl (Or.inl rfl)) (C1 (A7 (i:=11) sc_law.nd rfl (Or.inl rfl)) N7)))))
 (A3 (K1 (O5 (I0 K (B1 l (O.mono (by omega)) rfl (jaC (B1 p (O.mono (by omega)) rfl (jaC (jv 10) (jaC (jv 9) (jaC A2 jaN)))) (jaC (jv 11) jaN)))))
 (A8 (B2 a0G))
 E4)
 (A3 (L0 (L1 K (b8I K (jv 4) a0F (a0E A2))) (A7 (i:=12) sc_law.nd rfl (Or.inl rfl))
 (A3 (K1 (O5 (I0 K (B1 l (O.mono (by omega)) rfl (jaC (B1 p (O.mono (by omega)) rfl (jaC (C4 (jaC (jv 12) jaN)) (jaC (jv 6) (jaC A2 jaN)))) (jaC (C4 (jaC (C4 (jaC (jv 12) jaN)) (jaC (C4 (jaC (C4 (jaC A2 jaN)) jaN)) jaN))) jaN)))))
 (A8 (B2 a0G))
 E4)
 (A8 (K1 (O5 (I0 K (B1 l (O.mono (by omega)) rfl (jaC (B1 p (O.mono (by omega)) rfl (jaC (C4 (jaC (jv 12) jaN)) (jaC (jv 8) (jaC A2 jaN)))) (jaC (C4 (jaC (C4 jaN) (jaC (C4 jaN) jaN))) jaN)))))
 (A8 (B2 a0G))
 E4))))
 (A8 (B2 a0G)))))))))))))),?_⟩
  refine⟨_,rfl,c,ns,rfl,hS,hl,λa b H1 _ _ r4 _=>?_⟩;dsimp only[A9,List.set];refine⟨_,rfl,a,b,_,4,rfl,r4,by omega,by decide,by decide,λr2 H2 x2 x3 r7 v8=>⟨_,_,rfl,rfl,?_⟩⟩;obtain⟨k,rfl⟩:∃t:Nat,r2=t:=⟨r2.toNat,by omega⟩;dsimp only[A9,List.set];rw[show(1+(k:Int))=((k+1:Nat):Int) by omega];have v6:1<=k+1:=by omega
  have d5:k+1<=4:=by omega
  generalize k+1=Y at v6 d5⊢;clear x2 x3 v8 r4;refine⟨_,rfl,_,rfl,a,b,_,Y,_,rfl,rfl,v6,by omega,r7,by omega,λv0 us rss H3 d4 b9 v5 t0 hV r8 _=>?_⟩;dsimp only[A9,List.set];refine⟨_,rfl,v0,rfl,⟨_,SqT.of d4⟩,?_⟩;refine b0L (caps:=[]) (λu=>u++u) (by omega) (λH' s=>SqT.of (s _ _ d4)) b9 rfl (λv u H4 Q4 hu W s4 q=>?_) λH4 p4 zs s4 t5 m0=>?_
  .obtain⟨va,rfl,hva⟩:=W;have A0:=(hV u hu).1.1;exact⟨_,rfl,_,rfl,va,va,_,_,rfl,rfl,hva,hva,by rw[aj];omega,λp5 H5 s5 e5=>q _ H5 s5 ⟨p5,rfl,by rw[e5,bV]⟩⟩
  refine⟨p4,_,rfl,.inl ⟨SqL.of A1,λt ht=>?_⟩⟩;have s5:=((Same.refl H4).upd (o:=.lst zs) t5).upd (o:=.tup zs) ht;have et:upd (upd H4 p4 (.lst zs)) t (.tup zs) t=some (.tup zs):=A1;have m1:=m0.same s5;have i8:=r8.same (s4.trans s5);generalize upd (upd H4 p4 (.lst zs)) t (.tup zs)=H5 at s5 et m1 i8;have y8:zs.length<=30:=by rw[m0.1,aj,<-b9.1];exact v5
  have T5:Td H5 t zs (rss.map λu=>u++u) Y:=⟨et,m1,y8,cw.mpr (t0.imp_of_mem λ{x y} F hy ne e=>ne (List.append_inj e (by rw[(hV x F).1.1,(hV y hy).1.1])).1),λv W=>by
   obtain⟨u,hu,rfl⟩:=aT.mp W;exact⟨u,rfl,hV u hu⟩⟩
  generalize (rss.map λu=>u++u)=tss at T5;clear m1 et m0 d4 b9 v5 t0 hV r8 r7 s5 s4 t5 ht;dsimp only[A9,List.set];refine⟨_,rfl,_,rfl,by omega,by omega,?_⟩;rw[bb];refine a0W (caps:=[some (.ref a)]) (c:=1) (λz => -1000000<=z/\z<=1000000) (by omega) rfl i8 (λi' H' N' x7 i7 q=>?_) ?_
  .refine⟨_,rfl,_,_,rfl,rfl,⟨by decide,by decide,by decide⟩,_,_,rfl,rfl,.inl ⟨by decide,by decide⟩,_,_,rfl,rfl,a,b,_,_,rfl,i7,by omega,by decide,by decide,λr6 H6 F2 x4 i9 c9=>⟨_,_,rfl,rfl,⟨by decide,by decide,by decide⟩,_,_,rfl,rfl,q _ H6 ?_ i9 c9⟩⟩;have e6:(10:Int) ^ Int.toNat 6=1000000:=by decide
   rw[e6]at x4⊢;omega
  intro H6 pw d t1 n1 i9 c9 f9;have T6:=T5.tk (Tk.pot i8 c9);refine⟨pw,_,rfl,.inl ⟨SqL.of A1,λpn t8=>?_⟩⟩;have s7:=((Same.refl H6).upd (o:=.lst (d.map V.int)) f9).upd (o:=.tup (d.map V.int)) t8;have en:upd (upd H6 pw (.lst (d.map V.int))) pn (.tup (d.map V.int)) pn=some (.tup (d.map V.int)):=A1;have m4:=i9.same s7;generalize upd (upd H6 pw (.lst (d.map V.int))) pn (.tup (d.map V.int))=H7 at s7 en m4;have T7:=T6.tk (Tk.same s7);clear T6 T5 i9 c9 f9 t8 s7 i8;dsimp only[A9,List.set];refine⟨_,rfl,_,rfl,pn,rfl,⟨_,SqT.of en⟩,?_⟩;refine a0r (caps:=[]) (λz=>V.int (0-z)) (by omega) (λH' s=>SqT.of (s _ _ en)) rfl (λz H8 Q8 y7 s8 q=>⟨_,rfl,_,_,rfl,rfl,q⟩) λH8 p8 s8 f8=>?_;have e8:(d.map λz=>V.int (0-z))=(d.map λx => -x).map V.int:=by
   rw[cx];exact eh λz _=>by rw[Int.zero_sub];rfl
  rw[e8];refine⟨p8,_,rfl,.inl ⟨SqL.of A1,λp9 b0=>?_⟩⟩;have s9:=(s8.upd (o:=.lst ((d.map λx => -x).map V.int)) f8).upd (o:=.tup ((d.map λx => -x).map V.int)) b0;have e9:upd (upd H8 p8 (.lst ((d.map λx => -x).map V.int))) p9 (.tup ((d.map λx => -x).map V.int)) p9=some (.tup ((d.map λx => -x).map V.int)):=A1;generalize upd (upd H8 p8 (.lst ((d.map λx => -x).map V.int))) p9 (.tup ((d.map λx => -x).map V.int))=H9 at s9 e9;refine⟨pn,p9,_,_,rfl,rfl,s9 _ _ en,e9,by rw[aj,aj,aj];omega,λpm i0 v9 em=>?_⟩;rw[<-bV]at em;have h8:=s9.trans v9;have i5:=T7.tk (Tk.same h8);have f1:=m4.same h8;have c2:RwB Y (d++d.map λx => -x):=⟨by rw[ax,aj];omega,λx F=>by
   rcases aO.mp F with z|z
   .exact n1 x z
   .obtain⟨y,hy,rfl⟩:=aT.mp z;have:=n1 y hy;omega⟩
  have n0:∀v∈tss,dot (d++d.map λx => -x) v=0:=λv W=>by
   obtain⟨u,rfl,hu,_⟩:=i5.W v W;rw[a8R _ _ _ _ (by rw[t1,hu.1]),a2d];omega
  generalize (d++d.map λx => -x)=met at em c2 n0;clear s9 s8 f8 b0 e8 e9 T7 m4 en h8 v9 t1 n1;obtain⟨nn,t2⟩:∃nn,nn=0+1+1000+1*Y:=⟨_,rfl⟩;dsimp only[A9,List.set];rw[<-t2]at f1;have F3:nn<=1010:=by omega
  clear t2;refine⟨_,rfl,_,rfl,_,rfl,rfl,t,zs,rfl,SqT.of i5.e,λX g5=>⟨by show 2<=sizeLine;omega,λpp c4=>⟨pp,rfl,⟨_,SqT.of A1⟩,?_⟩⟩⟩;have h0:=((Same.refl i0).upd (o:=.tup zs.reverse) g5).upd (o:=.tup [.ref t,.ref X]) c4;have b7:upd (upd i0 X (.tup zs.reverse)) pp (.tup [.ref t,.ref X]) pp=some (.tup [.ref t,.ref X]):=A1;have b8:upd (upd i0 X (.tup zs.reverse)) pp (.tup [.ref t,.ref X]) X=some (.tup zs.reverse):=C8 A1 c4;generalize upd (upd i0 X (.tup zs.reverse)) pp (.tup [.ref t,.ref X])=w3 at h0 b7 b8;have k9:=i5.tk (Tk.same h0);have em:=h0 _ _ em;have j4:=f1.same h0;have two:∀(t':Addr) (H:Hp),Td H t zs tss Y->H t'=some (.tup zs.reverse)->Td H t' zs.reverse tss.reverse Y:=λt' H h e=>⟨e,a8H h.I,by rw[List.length_reverse];exact h.l,(List.reverse_perm tss).symm.nodup h.nd,λv W=>h.W v (List.mem_reverse.mp W)⟩;clear h0 i5 f1 g5 c4;refine a0K (K:=K) (a:=pp) (xs:=[.ref t,.ref X]) (λi σ H'=>Ex1 λo7=>An2 (σ=[some (.ref c),some (.ref a),some (.int Y),some (.ref v0),some (.ref t),some (.ref pn),some (.ref pm),o7,none,none,none,none,none]) (Same w3 H')) ⟨none,rfl,Same.refl _⟩ (λi σ H' _ h=>by obtain⟨_,_,s'⟩:=h;exact SqT.of (s' _ _ b7)) ?_ ?_
  .rintro i x σ i1 F ⟨o7,rfl,a6⟩;obtain⟨t',c6,J,rfl,T',u7⟩:∃t' c6 J,x=.ref t'/\Td i1 t' c6 J Y/\∀v∈J,v∈tss:=by
    have d9:=k9.tk (Tk.same a6)
    match i,F with
    |0,F=>cases F;exact⟨t,zs,tss,rfl,d9,λv W=>W⟩
    |1,F=>cases F;exact⟨X,zs.reverse,tss.reverse,rfl,two X i1 d9 (a6 _ _ b8),λv W=>List.mem_reverse.mp W⟩
   dsimp only[A9,List.set];refine⟨_,rfl,_,rfl,t',pm,c6,J,met,rfl,T'.e,T'.I,a6 _ _ em,by rw[c2.1];omega,by rw[c2.1];omega,by have:=T'.l;omega,(a5u T' c2 d5).1,T'.nd,λv W=>n0 v (u7 v W),λd2 w0=>⟨_,rfl,L5 ?_⟩⟩;refine⟨_,rfl,by show 1<=sizeLine;omega,λz0 t4=>⟨_,rfl,_,_,rfl,rfl,.inl ⟨by decide,by decide⟩,z0,[.int 0],2*(Y:Int),rfl,rfl,A1,by simp,by omega,by show(1:Int)*_<=_;omega,λz1 p6 b3 q4=>?_⟩⟩;rw[show(2*(Y:Int)).toNat=2*Y by omega,W7]at q4;have h3:=((Same.refl d2).upd (o:=.tup [.int 0]) t4).trans b3;have a4:=(T'.tk (Tk.same w0)).tk (Tk.same h3);have n6:RwB Y (List.replicate (2*Y) 0):=⟨aK,λx F=>by rw[(List.mem_replicate.mp F).2];decide⟩;refine⟨t',z1,c6,J,_,rfl,a4.e,a4.I,q4,by rw[n6.1];omega,by rw[n6.1];omega,by have:=a4.l;omega,(a5u a4 n6 d5).1,a4.nd,λv W=>a3x _ _,λd6 M=>⟨_,rfl,L5 ?_⟩⟩;exact⟨_,rfl,(a6.trans w0).trans (h3.trans M)⟩
  rintro σ i1 ⟨o7,rfl,a6⟩;have d9:=k9.tk (Tk.same a6);have em:=a6 _ _ em;have f2:=j4.same a6;clear k9 j4 a6 b7 b8;refine⟨_,rfl,_,_,rfl,rfl,.inl ⟨by decide,by decide⟩,_,rfl,by omega,by omega,?_⟩;rw[show(2*(Y:Int)).toNat=2*Y by omega];refine a0W (caps:=[some (.ref a)]) (c:=2) (λz=>1<=z/\z<=1000000) (by omega) rfl f2 (λi' H' N' x7 i7 q=>?_) ?_
  .refine⟨_,rfl,_,_,rfl,rfl,⟨by decide,by decide,by decide⟩,by show 2<=sizeLine;omega,λp9 b0=>?_⟩;have r9:=D0 i7 b0;have s9:=(Same.refl H').upd (o:=.lst [.int 4,.int ((10:Int) ^ Int.toNat 6)]) b0;have e9:upd H' p9 (.lst [.int 4,.int ((10:Int) ^ Int.toNat 6)]) p9=some (.lst [.int 4,.int ((10:Int) ^ Int.toNat 6)]):=A1;refine⟨_,rfl,a,b,_,2,rfl,i7.same s9,by omega,by decide,by decide,λz2 z5 q9 r0 m2 g7=>?_⟩;obtain⟨md,x8,s6⟩:=two_at' 4 ((10:Int) ^ Int.toNat 6) z2 q9 r0;have e6:(10:Int) ^ Int.toNat 6=1000000:=by decide
   rw[e6]at s6;refine⟨p9,_,_,.int md,rfl,rfl,SqL.of (g7 _ _ r9 e9),x8,a,b,_,md,rfl,m2,by omega,by omega,by omega,λF7 p3 z6 z7 m3 n8=>⟨_,_,rfl,rfl,q _ p3 ⟨by omega,by omega⟩ m3 ((s9.off.trans g7).trans n8)⟩⟩
  intro d2 pw C f5 m6 j5 g8 f9;have k2:Tk i1 d2:=Tk.pot f2 g8;refine⟨pw,_,rfl,.inl ⟨SqL.of A1,λpa t6=>?_⟩⟩;have j2:=((Same.refl d2).upd (o:=.lst (C.map V.int)) f9).upd (o:=.tup (C.map V.int)) t6;have ea:upd (upd d2 pw (.lst (C.map V.int))) pa (.tup (C.map V.int)) pa=some (.tup (C.map V.int)):=A1;have f3:=j5.same j2;generalize upd (upd d2 pw (.lst (C.map V.int))) pa (.tup (C.map V.int))=i2 at j2 ea f3;have h9:=k2.trans (Tk.same j2);have l0:=d9.tk h9;have em:=h9 _ _ em;clear h9 k2 j2 t6 f9 j5 g8 d9 f2;have l9:∀x∈C,1<=x:=λx F=>(m6 x F).1;have j0:RwB Y C:=⟨f5,λx F=>by have:=m6 x F;omega⟩;have x6:RwB Y (C.map λx => -x):=⟨by rw[aj];exact f5,λx F=>by obtain⟨y,hy,rfl⟩:=aT.mp F;have:=m6 y hy;omega⟩;dsimp only[A9,List.set];refine⟨_,rfl,_,rfl,_,rfl,rfl,t,zs,rfl,SqT.of l0.e,λX g5=>⟨by show 2<=sizeLine;omega,λpp c4=>⟨pp,rfl,⟨_,SqT.of A1⟩,?_⟩⟩⟩;have b3:=((Same.refl i2).upd (o:=.tup zs.reverse) g5).upd (o:=.tup [.ref t,.ref X]) c4;have b7:upd (upd i2 X (.tup zs.reverse)) pp (.tup [.ref t,.ref X]) pp=some (.tup [.ref t,.ref X]):=A1;have b8:upd (upd i2 X (.tup zs.reverse)) pp (.tup [.ref t,.ref X]) X=some (.tup zs.reverse):=C8 A1 c4;generalize upd (upd i2 X (.tup zs.reverse)) pp (.tup [.ref t,.ref X])=p6 at b3 b7 b8;have a4:=l0.tk (Tk.same b3);have em:=b3 _ _ em;have ea:=b3 _ _ ea;have j6:=f3.same b3;clear b3 l0 f3 g5 c4;refine a0K (K:=K) (a:=pp) (xs:=[.ref t,.ref X]) (λi σ H'=>Ex2 λo7 o9=>An2 (σ=[some (.ref c),some (.ref a),some (.int Y),some (.ref v0),some (.ref t),some (.ref pn),some (.ref pm),o7,some (.ref pa),o9,none,none,none]) (Same p6 H')) ⟨_,none,rfl,Same.refl _⟩ (λi σ H' _ h=>by obtain⟨_,_,_,s'⟩:=h;exact SqT.of (s' _ _ b7)) ?_ ?_
  .rintro i x σ d6 F ⟨o7,o9,rfl,M⟩;obtain⟨t',c6,J,rfl,T'⟩:∃t' c6 J,x=.ref t'/\Td d6 t' c6 J Y:=by
    have e7:=a4.tk (Tk.same M)
    match i,F with
    |0,F=>cases F;exact⟨t,zs,tss,rfl,e7⟩
    |1,F=>cases F;exact⟨X,zs.reverse,tss.reverse,rfl,two X d6 e7 (M _ _ b8)⟩
   have c7:=M _ _ ea;dsimp only[A9,List.set];refine⟨_,rfl,_,rfl,pa,rfl,⟨_,SqT.of c7⟩,?_⟩;refine a0r (caps:=[]) (λz=>V.int (0-z)) (by omega) (λH' s=>SqT.of (s _ _ c7)) rfl (λz H8 Q8 y7 s8 q=>⟨_,rfl,_,_,rfl,rfl,q⟩) λH8 p8 s8 f8=>?_;have e8:(C.map λz=>V.int (0-z))=(C.map λx => -x).map V.int:=by
    rw[cx];exact eh λz _=>by rw[Int.zero_sub];rfl
   rw[e8];refine⟨p8,_,rfl,.inl ⟨SqL.of A1,λp9 b0=>?_⟩⟩;have o0:=(s8.upd (o:=.lst ((C.map λx => -x).map V.int)) f8).upd (o:=.tup ((C.map λx => -x).map V.int)) b0;have f0:upd (upd H8 p8 (.lst ((C.map λx => -x).map V.int))) p9 (.tup ((C.map λx => -x).map V.int)) p9=some (.tup ((C.map λx => -x).map V.int)):=A1;generalize upd (upd H8 p8 (.lst ((C.map λx => -x).map V.int))) p9 (.tup ((C.map λx => -x).map V.int))=d7 at o0 f0;refine⟨by show 2<=sizeLine;omega,λpr n2=>⟨pr,rfl,⟨_,SqT.of A1⟩,?_⟩⟩;have I:=o0.upd (o:=.tup [.ref pa,.ref p9]) n2;have q7:upd d7 pr (.tup [.ref pa,.ref p9]) pr=some (.tup [.ref pa,.ref p9]):=A1;have f0:=((Same.refl d7).upd (o:=.tup [.ref pa,.ref p9]) n2) _ _ f0;generalize upd d7 pr (.tup [.ref pa,.ref p9])=k4 at I q7 f0;have w7:=T'.tk (Tk.same I);have q5:=I _ _ c7;have n9:=M.trans I;clear o0 s8 f8 b0 n2 e8 T' c7 I M;refine a0K (K:=K) (a:=pr) (xs:=[.ref pa,.ref p9]) (λi σ H'=>Ex1 λo9=>An2 (σ=[some (.ref c),some (.ref a),some (.int Y),some (.ref v0),some (.ref t),some (.ref pn),some (.ref pm),some (.ref t'),some (.ref pa),o9,none,none,none]) (Same k4 H')) ⟨_,rfl,Same.refl _⟩ (λi σ H' _ h=>by obtain⟨_,_,s'⟩:=h;exact SqT.of (s' _ _ q7)) ?_ ?_
   .rintro i x σ k5 F ⟨o9,rfl,a8⟩;have Z:=w7.tk (Tk.same a8);obtain⟨r',j1,rfl,x1,m5,x5⟩:∃r' j1,x=.ref r'/\k5 r'=some (.tup (j1.map V.int))/\RwB Y j1/\OneWay (J.map (dot j1)):=by
     match i,F with
     |0,F=>cases F;exact⟨pa,C,rfl,a8 _ _ q5,j0,b0P Z f5 l9⟩
     |1,F=>cases F;exact⟨p9,_,rfl,a8 _ _ f0,x6,b6c Z f5 l9⟩
    dsimp only[A9,List.set];obtain⟨h1,h2⟩:=a5u Z m5 d5;refine⟨_,rfl,_,rfl,a5X (most:=60) Z.e Z.I x1 (by rw[m5.1];omega) (by rw[m5.1];omega) (by have:=Z.l;omega) h1 h2 x5 (by have:=Z.tl;omega) (by decide) λq Hq sq g4=>?_⟩;refine⟨bp _,λG f7=>⟨bp _,λL c1=>⟨by show 2<=sizeLine;omega,λe3 a5=>?_⟩⟩⟩;have b4:=(((Same.refl Hq).upd (o:=.tup []) f7).upd (o:=.tup []) c1).upd (o:=.tup [.ref G,.ref L]) a5;have g1:upd (upd (upd Hq G (.tup [])) L (.tup [])) e3 (.tup [.ref G,.ref L]) G=some (.tup []):=C8 (C8 A1 c1) a5;have g2:upd (upd (upd Hq G (.tup [])) L (.tup [])) e3 (.tup [.ref G,.ref L]) L=some (.tup []):=C8 A1 a5;have g3:upd (upd (upd Hq G (.tup [])) L (.tup [])) e3 (.tup [.ref G,.ref L]) e3=some (.tup [.ref G,.ref L]):=A1;have q1:=g4 G L e3 _ b4 g1 g2 g3;generalize upd (upd (upd Hq G (.tup [])) L (.tup [])) e3 (.tup [.ref G,.ref L])=p7 at b4 q1;clear g1 g2 g3 f7 c1 a5 g4;exact⟨_,_,rfl,q1,λd8 h6=>⟨_,rfl,L5 ⟨_,rfl,a8.trans (sq.trans (b4.trans h6))⟩⟩⟩
   .rintro σ k5 ⟨o9,rfl,a8⟩;exact⟨_,_,rfl,n9.trans a8⟩
  rintro σ d6 ⟨o7,o9,rfl,M⟩;have e7:=a4.tk (Tk.same M);have em:=M _ _ em;have ea:=M _ _ ea;have f4:=j6.same M;clear M a4 j6 b7 b8;refine⟨_,rfl,a,b,_,rfl,f4,by omega,λq3 t3 r3 d3 D3 F1 w8 c3 z4 k3 d0 s3 w9 d7 t9 u8 b9 u0 s1 j9 j8 k0 s0 z8 z9 f6 k1 TO r5 g9=>?_⟩;refine⟨q3,_,rfl,SqT.of t9,rfl,.ref t3,[.ref r3,.ref d3],rfl,.ref r3,[.ref d3],rfl,.ref d3,[],rfl,rfl,?_⟩;have d1:Tk d6 d7:=Tk.pot f4 g9;have q0:=e7.tk d1;have em:=d1 _ _ em;have ea:=d1 _ _ ea;clear e7 f4 g9 d1 t9 r5;dsimp only[A9,List.set];obtain⟨U,R,c8,x9,hU,hR,m7⟩:=TO.ex;have r1:=TO.l;have j7:Sm (k3.map (dot d0)):=λx F=>by
   obtain⟨v,W,rfl⟩:=aT.mp F;have h1:=a8Q (B:=10000000) d0 v k1 (f6 v W).2 (by decide);have h2:(10000000:Int)*200000*d0.length<=10000000*200000*8:=cI (by omega) (by decide);omega
  refine⟨_,rfl,_,rfl,t3,r3,z4,k3,d0,60,_,rfl,rfl,u8,b9,u0,by omega,by omega,by rw[b9.1];omega,by decide,λv W=>⟨(f6 v W).1,λx F=>by have:=(f6 v W).2 x F;omega⟩,j7,λq f g fs q8 gs x0 k4 I hq hf c0 hg a3 hN=>?_,λk4 I ho=>by rw[r1]at ho;exact b0M c8 (by decide) ho⟩;obtain⟨G,L⟩:=a9L hN r1 c8 x9 hU hR;subst G;rw[aP,fz,L,<-m7]at a3;have y2:s3.length<=1000:=by rw[<-hU,a1O (λv W=>(f6 v W).1)];omega
  have hcl:w9.length<=1000:=by
   rw[m7];obtain⟨g0,_,h⟩:=c8;rcases h with⟨_,rfl,rfl⟩|⟨_,rfl,rfl⟩|⟨_,rfl,rfl⟩<;>decide
  have m9:gs.length<=1000:=by rw[a3.1];show 1<=1000;decide
  have m8:fs.length<=1000:=by rw[c0.1];show 1<=1000;decide
  refine⟨_,rfl,_,_,rfl,two_sd hq (I _ _ s1) hf hg (I _ _ j9) (I _ _ k0) c0 a3 (Its.one ⟨w8,rfl,I _ _ j8⟩) (Its.one ⟨c3,rfl,I _ _ s0⟩) m8 m9 (λr O=>by rw[aA.mp O];exact y2) (λr O=>by rw[aA.mp O];exact hcl),λk5 a8=>⟨_,rfl,L5 ?_⟩⟩;have a7:=I.trans a8;have Z:=q0.tk (Tk.same a7);have em:=a7 _ _ em;have ea:=a7 _ _ ea;clear q0 a7 I a8 j7 c8 hU hR m7 L c0 a3 hN hq hf hg u8 b9 u0 s1 j9 k0 j8 s0 f6 k1 TO;refine⟨_,rfl,?_⟩
  delta a0s
  refine⟨((3:Nat):Int),rfl,b6h Z.e λpk p7 b4 t7=>⟨pk,rfl,⟨_,SqT.of t7⟩,?_⟩⟩;have l1:=Z.tk (Tk.same b4);have em:=b4 _ _ em;have ea:=b4 _ _ ea;clear Z b4;refine a0K (K:=K) (a:=pk) (xs:=zs.take 3) (λi σ H'=>Ex1 λn7=>An2 (σ=[some (.ref c),some (.ref a),some (.int Y),some (.ref v0),some (.ref t),some (.ref pn),some (.ref pm),o7,some (.ref pa),some (.ref r3),some (.ref t3),some (.ref d3),n7]) (Same p7 H')) ⟨none,rfl,Same.refl _⟩ (λi σ H' _ h=>by obtain⟨_,_,s'⟩:=h;exact SqT.of (s' _ _ t7)) ?_ ?_
  .rintro i x σ d8 F ⟨n7,rfl,h6⟩;have l2:=l1.tk (Tk.same h6);have n3:zs[i]?=some x:=by
    rw[List.getElem?_take]at F;split at F
    .exact F
    .cases F
   obtain⟨v,W,_,n4⟩:=l2.I.mem n3;dsimp only[A9,List.set];refine⟨_,rfl,by show 1<=sizeLine;omega,λp1 y0=>?_⟩;have h7:=(Same.refl d8).upd (o:=.tup [x]) y0;have l4:upd d8 p1 (.tup [x]) p1=some (.tup [x]):=A1;generalize upd d8 p1 (.tup [x])=w4 at h7 l4;have l3:Td w4 p1 [x] [v] Y:=(l2.tk (Tk.same h7)).one W (n4.same h7) l4;obtain⟨a1,a2⟩:=a5u l3 c2 d5;have h4:=h6.trans h7;have d4:dot met v=0:=n0 v W;refine⟨_,rfl,p1,pm,[x],[v],met,1,_,rfl,rfl,l4,l3.I,h4 _ _ em,by rw[c2.1];omega,by rw[c2.1];omega,by simp,by decide,a1,a2,λq f g fs q8 gs x0 i3 o1 hq hf c0 hg a3 hN=>?_,λi3 o1 ho=>a2D (vals:=[v].map (dot met)) (m:=1) rfl (λi j=>?_) (ao _) ho⟩
   rotate_left
   .have e0:∀i,([v].map (dot met)).getD i 0=0:=λi=>by
     match i with
     |0=>exact d4
     |i+1=>rfl
    rw[e0,e0];decide
   obtain⟨⟨w2,S',e'⟩,s2⟩:=a8w hN (λu hu=>(a1 u hu).1) (λu hu=>by rw[aA.mp hu];exact d4) (by simp);have es:w2=[v]:=a0y S'.ri (fN _ _) S'.nd (by simp) S'.mem;have ef:q8=[v]:=by
    rw[e',es,fO]
    .rfl
    .unfold Lst;simp
   subst ef;have G:=(s2 v (by simp)).2;rw[aP,fz,G]at a3;have G:C5 [v].length ([v].idxOf v)=[1]:=by
    rw[show[v].idxOf v=0 by simp];rfl
   rw[G]at a3;have F6:=(l3.bd (v:=v) (by simp)).1;refine⟨_,rfl,by show 1<=sizeLine;omega,λu1 u9=>?_⟩;have o2:=(Same.refl i3).upd (o:=.tup [x]) u9;have l5:upd i3 u1 (.tup [x]) u1=some (.tup [x]):=A1;generalize upd i3 u1 (.tup [x])=k6 at o2 l5;refine⟨by show 1<=sizeLine;omega,λu2 v1=>?_⟩;have o3:=(Same.refl k6).upd (o:=.tup [.int 1]) v1;have l6:upd k6 u2 (.tup [.int 1]) u2=some (.tup [.int 1]):=A1;generalize upd k6 u2 (.tup [.int 1])=k7 at o3 l6;refine⟨by show 1<=sizeLine;omega,λu3 v3=>?_⟩;have o4:=(Same.refl k7).upd (o:=.tup [.ref u2]) v3;have l7:upd k7 u3 (.tup [.ref u2]) u3=some (.tup [.ref u2]):=A1;generalize upd k7 u3 (.tup [.ref u2])=k8 at o4 l7;refine⟨by show 2<=sizeLine;omega,λu4 v4=>?_⟩;have j3:=(Same.refl k8).upd (o:=.tup [.ref u1,.ref u3]) v4;have l8:upd k8 u4 (.tup [.ref u1,.ref u3]) u4=some (.tup [.ref u1,.ref u3]):=A1;generalize upd k8 u4 (.tup [.ref u1,.ref u3])=w5 at j3 l8;have p0:=o4.trans j3;have o8:=o3.trans p0;have b5:=o2.trans o8;have m9:gs.length<=1000:=by rw[a3.1];show 1<=1000;decide
   have m8:fs.length<=1000:=by rw[c0.1];show 1<=1000;decide
   have g6:IT w5 x v:=((n4.same h7).same o1).same b5;refine⟨_,_,rfl,two_sd (b5 _ _ hq) l8 (b5 _ _ hf) (b5 _ _ hg) (o8 _ _ l5) (j3 _ _ l7) (c0.same b5) (a3.same b5) (Its.one g6) (Its.one ⟨u2,rfl,p0 _ _ l6⟩) m8 m9 (λr O=>by rw[aA.mp O];omega) (λr O=>by rw[aA.mp O];show 1<=1000;decide),λi4 w1=>⟨_,rfl,L5 ?_⟩⟩;have h5:=(h4.trans o1).trans (b5.trans w1);clear b5 o8 p0 o2 o3 o4 j3 w1 l5 l6 l7 l8 u9 v1 v3 v4 c0 a3 hN hq hf hg g6;have n5:IT i4 x v:=by
    obtain⟨v',F4,u5,y3⟩:=(l1.tk (Tk.same h5)).I.mem n3;obtain⟨v2,F5,u6,y4⟩:=l2.I.mem n3;obtain⟨xa,rfl,y5⟩:=n4;obtain⟨xb,e3,v7⟩:=y4;cases e3;rw[u6]at u5;cases u5;rw[y5]at v7;obtain⟨xc,e4,y6⟩:=y3;cases e4;refine⟨_,rfl,?_⟩;rw[y6,<-HO.tup.inj (bG v7)]
   refine⟨_,rfl,by show 1<=sizeLine;omega,λp2 y1=>?_⟩;have o5:=(Same.refl i4).upd (o:=.tup [x]) y1;have q6:upd i4 p2 (.tup [x]) p2=some (.tup [x]):=A1;generalize upd i4 p2 (.tup [x])=w6 at o5 q6;have c5:=h5.trans o5;have i6:Td w6 p2 [x] [v] Y:=(l1.tk (Tk.same c5)).one W (n5.same o5) q6;obtain⟨b1,b2⟩:=a5u i6 j0 d5;refine⟨_,rfl,a5X (most:=1) i6.e i6.I (c5 _ _ ea) (by rw[j0.1];omega) (by rw[j0.1];omega) (by simp) b1 b2 (b0P i6 f5 l9) (ao _) (by decide) λq Hq sq g4=>?_⟩;refine⟨bp _,λG f7=>⟨bp _,λL c1=>⟨by show 2<=sizeLine;omega,λe3 a5=>?_⟩⟩⟩;have o6:=(((Same.refl Hq).upd (o:=.tup []) f7).upd (o:=.tup []) c1).upd (o:=.tup [.ref G,.ref L]) a5;have g1:upd (upd (upd Hq G (.tup [])) L (.tup [])) e3 (.tup [.ref G,.ref L]) G=some (.tup []):=C8 (C8 A1 c1) a5;have g2:upd (upd (upd Hq G (.tup [])) L (.tup [])) e3 (.tup [.ref G,.ref L]) L=some (.tup []):=C8 A1 a5;have g3:upd (upd (upd Hq G (.tup [])) L (.tup [])) e3 (.tup [.ref G,.ref L]) e3=some (.tup [.ref G,.ref L]):=A1;have q2:=g4 G L e3 _ o6 g1 g2 g3;generalize upd (upd (upd Hq G (.tup [])) L (.tup [])) e3 (.tup [.ref G,.ref L])=B0 at o6 q2;clear g1 g2 g3 f7 c1 a5 g4;exact⟨_,_,rfl,q2,λD1 z3=>⟨_,rfl,L5 ⟨_,rfl,c5.trans (sq.trans (o6.trans z3))⟩⟩⟩
  rintro σ d8 ⟨n7,rfl,h6⟩;exact kk _
end
theorem OkE.no{P:Program}{w:World}{K:PySem.W.Frag}{mg:Str->Option Value}{base:Heap}{x:Str}{k:Nat}{ps:List Str}{sp:Sp}(O:OkE P w K mg base x k ps sp):Ok P w K mg base x k ps (λvs H Q _=>sp vs H Q λ_ _ _=>False):=by
 obtain⟨f,fd,h1,h2,d,c⟩:=O.ex;refine⟨f,fd,h1,h2,d,⟨λvs H Q E h=>c.len _ _ _ _ h,λA a s H b m vs Q E j i g l hs=>dF (c.run A a s H b m vs Q (λ_ _ _=>False) j i g l hs) λr s' h=>?_⟩⟩;cases r with
 |error e =>
  obtain⟨_,_,_,_,_,_,_,_,_,_,_,_,_,z⟩:=h;exact z.elim
 |ok fl=>cases fl<;>exact h
open PySem.W
theorem all_mk{l:PySem.W.OpenLaw}{w:World}{K:PySem.W.Frag}{h:Heap}{mg:Str->Option Value}{fa:Addr}(X:K.In h)(G:h.Ns mainGlobals mg)(w6:mg "law"=some (.ref fa))
 (a1:nsIn K mainGlobals "free"=some (some (.ref f1))) (l1:FnL K f1 "free" "free" a4C o1 d1 s1 v1 x1 p1 n1 c1 t1) (u8:codeIn K c1 "free"=true) (k1:keepIn K (.ref f1)=true)
 (a2:nsIn K mainGlobals "within"=some (some (.ref f2))) (l2:FnL K f2 "within" "within" a0v o2 d2 s2 v2 x2 p2 n2 c2 t2) (u9:codeIn K c2 "within"=true) (k2:keepIn K (.ref f2)=true)
 (a3:nsIn K mainGlobals "row_sum"=some (some (.ref f3))) (l3:FnL K f3 "row_sum" "row_sum" X9 o3 d3 s3 v3 x3 p3 n3 c3 t3) (v0:codeIn K c3 "row_sum"=true) (k3:keepIn K (.ref f3)=true)
 (a4:nsIn K mainGlobals "sums"=some (some (.ref f4))) (l4:FnL K f4 "sums" "sums" a4A o4 d4 s4 v4 x4 p4 n4 c4 t4) (w0:codeIn K c4 "sums"=true) (k4:keepIn K (.ref f4)=true)
 (a5:nsIn K mainGlobals "is_answer"=some (some (.ref f5))) (l5:FnL K f5 "is_answer" "is_answer" P9 o5 d5 s5 v5 x5 p5 n5 c5 t5) (w1:codeIn K c5 "is_answer"=true) (k5:keepIn K (.ref f5)=true)
 (a6:nsIn K mainGlobals "pull_of"=some (some (.ref f6))) (l6:FnL K f6 "pull_of" "pull_of" Y0 o6 d6 s6 v6 x6 p6 n6 c6 t6) (w2:codeIn K c6 "pull_of"=true) (k6:keepIn K (.ref f6)=true)
 (a7:nsIn K mainGlobals "falls"=some (some (.ref f7))) (l7:FnL K f7 "falls" "falls" a1T o7 d7 s7 v7 x7 p7 n7 c7 t7) (w3:codeIn K c7 "falls"=true) (k7:keepIn K (.ref f7)=true)
 (a8:nsIn K mainGlobals "below"=some (some (.ref f8))) (l8:FnL K f8 "below" "below" a1U o8 d8 s8 v8 x8 p8 n8 c8 t8) (w4:codeIn K c8 "below"=true) (k8:keepIn K (.ref f8)=true)
 (a9:nsIn K mainGlobals "plus"=some (some (.ref f9))) (l9:FnL K f9 "plus" "plus" a4B o9 d9 s9 v9 x9 p9 n9 c9 t9) (w5:codeIn K c9 "plus"=true) (k9:keepIn K (.ref f9)=true)
 (q7:nsIn K mainGlobals "times"=some (some (.ref f10))) (G3:FnL K f10 "times" "times" a1Q o10 d10 s10 v10 x10 p10 n10 c10 t10) (h7:codeIn K c10 "times"=true) (w7:keepIn K (.ref f10)=true)
 (q8:nsIn K mainGlobals "nought"=some (some (.ref f11))) (G4:FnL K f11 "nought" "nought" a0x o11 d11 s11 v11 x11 p11 n11 c11 t11) (h8:codeIn K c11 "nought"=true) (w8:keepIn K (.ref f11)=true)
 (q9:nsIn K mainGlobals "unit"=some (some (.ref f12))) (G5:FnL K f12 "unit" "unit" a4z o12 d12 s12 v12 x12 p12 n12 c12 t12) (h9:codeIn K c12 "unit"=true) (w9:keepIn K (.ref f12)=true)
 (r0:nsIn K mainGlobals "least_of"=some (some (.ref f13))) (G6:FnL K f13 "least_of" "least_of" S8 o13 d13 s13 v13 x13 p13 n13 c13 t13) (i0:codeIn K c13 "least_of"=true) (x0:keepIn K (.ref f13)=true)
 (r1:nsIn K mainGlobals "above_any"=some (some (.ref f14))) (H0:FnL K f14 "above_any" "above_any" Q0 o14 d14 s14 v14 x14 p14 n14 c14 t14) (i1:codeIn K c14 "above_any"=true) (y0:keepIn K (.ref f14)=true)
 (r2:nsIn K mainGlobals "first_steps"=some (some (.ref f15))) (H1:FnL K f15 "first_steps" "first_steps" L9 o15 d15 s15 v15 x15 p15 n15 c15 t15) (i2:codeIn K c15 "first_steps"=true) (y1:keepIn K (.ref f15)=true)
 (r3:nsIn K mainGlobals "raised"=some (some (.ref f16))) (H2:FnL K f16 "raised" "raised" a0w o16 d16 s16 v16 x16 p16 n16 c16 t16) (i3:codeIn K c16 "raised"=true) (y2:keepIn K (.ref f16)=true)
 (r4:nsIn K mainGlobals "steps"=some (some (.ref f17))) (H3:FnL K f17 "steps" "steps" a1R o17 d17 s17 v17 x17 p17 n17 c17 t17) (i4:codeIn K c17 "steps"=true) (y3:keepIn K (.ref f17)=true)
 (r5:nsIn K mainGlobals "is_barred"=some (some (.ref f18))) (H4:FnL K f18 "is_barred" "is_barred" P8 o18 d18 s18 v18 x18 p18 n18 c18 t18) (i5:codeIn K c18 "is_barred"=true) (y4:keepIn K (.ref f18)=true)
 (r6:nsIn K mainGlobals "next_level"=some (some (.ref f19))) (H5:FnL K f19 "next_level" "next_level" M9 o19 d19 s19 v19 x19 p19 n19 c19 t19) (i6:codeIn K c19 "next_level"=true) (y5:keepIn K (.ref f19)=true)
 (r7:nsIn K mainGlobals "least"=some (some (.ref f20))) (H6:FnL K f20 "least" "least" a1S o20 d20 s20 v20 x20 p20 n20 c20 t20) (i7:codeIn K c20 "least"=true) (y6:keepIn K (.ref f20)=true)
 (r8:nsIn K mainGlobals "together"=some (some (.ref f21))) (H7:FnL K f21 "together" "together" S6 o21 d21 s21 v21 x21 p21 n21 c21 t21) (i8:codeIn K c21 "together"=true) (y7:keepIn K (.ref f21)=true)
 (r9:nsIn K mainGlobals "narrowed"=some (some (.ref f22))) (H8:FnL K f22 "narrowed" "narrowed" S7 o22 d22 s22 v22 x22 p22 n22 c22 t22) (i9:codeIn K c22 "narrowed"=true) (y8:keepIn K (.ref f22)=true)
 (s0:nsIn K mainGlobals "_law_pot"=some (some (.ref f23))) (H9:FnL K f23 "_law_pot" "_law_pot" S9 o23 d23 s23 v23 x23 p23 n23 c23 t23) (j0:codeIn K c23 "_law_pot"=true) (y9:keepIn K (.ref f23)=true)
 (t0:nsIn K mainGlobals "_law_take"=some (some (.ref f24))) (I1:FnL K f24 "_law_take" "_law_take" Q5 o24 d24 s24 v24 x24 p24 n24 c24 t24) (j1:codeIn K c24 "_law_take"=true) (z0:keepIn K (.ref f24)=true)
 (u0:nsIn K mainGlobals "_law_vectors"=some (some (.ref f25))) (I2:FnL K f25 "_law_vectors" "_law_vectors" K4 o25 d25 s25 v25 x25 p25 n25 c25 t25) (j2:codeIn K c25 "_law_vectors"=true) (A0:keepIn K (.ref f25)=true)
 (u1:nsIn K mainGlobals "_law_below"=some (some (.ref f26))) (I3:FnL K f26 "_law_below" "_law_below" N2 o26 d26 s26 v26 x26 p26 n26 c26 t26) (j3:codeIn K c26 "_law_below"=true) (B0:keepIn K (.ref f26)=true)
 (u2:nsIn K mainGlobals "_law_least"=some (some (.ref f27))) (I4:FnL K f27 "_law_least" "_law_least" N1 o27 d27 s27 v27 x27 p27 n27 c27 t27) (j4:codeIn K c27 "_law_least"=true) (D1:keepIn K (.ref f27)=true)
 (u3:nsIn K mainGlobals "_law_same"=some (some (.ref f28))) (I5:FnL K f28 "_law_same" "_law_same" Q6 o28 d28 s28 v28 x28 p28 n28 c28 t28) (j5:codeIn K c28 "_law_same"=true) (D2:keepIn K (.ref f28)=true)
 (u4:nsIn K mainGlobals "_law_unit"=some (some (.ref f29))) (I6:FnL K f29 "_law_unit" "_law_unit" Q3 o29 d29 s29 v29 x29 p29 n29 c29 t29) (j6:codeIn K c29 "_law_unit"=true) (D3:keepIn K (.ref f29)=true)
 (u5:nsIn K mainGlobals "_law_all_met"=some (some (.ref f30))) (I7:FnL K f30 "_law_all_met" "_law_all_met" K5 o30 d30 s30 v30 x30 p30 n30 c30 t30) (j7:codeIn K c30 "_law_all_met"=true) (G0:keepIn K (.ref f30)=true)
 (u6:nsIn K mainGlobals "_law_three"=some (some (.ref f31))) (I8:FnL K f31 "_law_three" "_law_three" N0 o31 d31 s31 v31 x31 p31 n31 c31 t31) (j8:codeIn K c31 "_law_three"=true) (G1:keepIn K (.ref f31)=true)
 (u7:nsIn K mainGlobals "law"=some (some (.ref f32))) (L2:FnL K f32 "law" "law" a2s o32 d32 s32 v32 x32 p32 n32 c32 t32) (j9:codeIn K c32 "law"=true) (G2:keepIn K (.ref f32)=true)
  (z1:PySem.W.nsIn K mainGlobals "ValueError"=some none) (z2:PySem.W.nsIn K mainGlobals "abs"=some none) (z3:PySem.W.nsIn K mainGlobals "all"=some none) (z4:PySem.W.nsIn K mainGlobals "any"=some none) (z5:PySem.W.nsIn K mainGlobals "bool"=some none) (z6:PySem.W.nsIn K mainGlobals "int"=some none) (z7:PySem.W.nsIn K mainGlobals "isinstance"=some none) (z8:PySem.W.nsIn K mainGlobals "len"=some none) (z9:PySem.W.nsIn K mainGlobals "list"=some none) (Q1:PySem.W.nsIn K mainGlobals "max"=some none) (Q2:PySem.W.nsIn K mainGlobals "min"=some none) (Q4:PySem.W.nsIn K mainGlobals "range"=some none) (Q8:PySem.W.nsIn K mainGlobals "set"=some none) (T5:PySem.W.nsIn K mainGlobals "sorted"=some none) (T6:PySem.W.nsIn K mainGlobals "sum"=some none) (T7:PySem.W.nsIn K mainGlobals "tuple"=some none) (X3:PySem.W.nsIn K mainGlobals "zip"=some none)
  {o:Addr}(e1:PySem.W.nsIn K mainGlobals "TooMany"=some (some (.ref o))) {a:Addr}(g7:PySem.W.nsIn K mainGlobals "Finder"=some (some (.ref a))) {g1 g3:Str}{p:Addr}{e3 m e0:List Value}{e5 e2:Bool}{g4:List Str}{d0:Option Bool}{e4:Option Addr}{e7 e8 e9 f0 g0:Option Value}(lx_TooMany:K.lookup o=some (excClassObj g1 g3 o p e3 m e5 g4 e0 e2 d0 e4 e7 e8 e9 f0 g0 "ValueError.__new__")) (g5:PySem.W.tailIn K [.type "ValueError",.type "Exception",.type "BaseException",.type "object"] m=true) (g2:PySem.W.nsOkIn K p=true) (e6:PySem.W.nsIn K p "__init__"=some none) (h6:m.contains (.type "BaseException")=true) (pg_Finder:PySem.W.plainGet K a Str.empty=true) (g8:PySem.W.hasDictIn K a=true) (h1:PySem.W.plainOver K a=true) (h2:PySem.W.findIn K (.ref a) "__setattr__"=some (some (.builtin "object.__setattr__"))) (h0:PySem.W.makesIn K a=true) (g9:PySem.W.keepIn K (.ref a)=true) (c0:PySem.W.findIn K (.ref a) "rows"=some none) (b8:PySem.W.findIn K (.ref a) "caps"=some none) (V:PySem.W.findIn K (.ref a) "begun"=some none) (b9:PySem.W.findIn K (.ref a) "here"=some none) (W:PySem.W.findIn K (.ref a) "found"=some none) (A:PySem.W.findIn K (.ref a) "walked"=some none) (q:findIn K (.ref a) "__init__"=some (some (.ref f_Finder___init__))) (t:isFn K (.ref f_Finder___init__)=true) (x:FnL K f_Finder___init__ "__init__" "Finder.__init__" E9 o_Finder___init__ d_Finder___init__ s0_Finder___init__ v_Finder___init__ x_Finder___init__ p_Finder___init__ n0_Finder___init__ c0_Finder___init__ t_Finder___init__) (r:codeIn K c0_Finder___init__ "Finder.__init__"=true) (u:keepIn K (.ref f_Finder___init__)=true) (Z:findIn K (.ref a) "step"=some (some (.ref f_Finder_step))) (b2:isFn K (.ref f_Finder_step)=true) (b6:FnL K f_Finder_step "step" "Finder.step" a0a o_Finder_step d_Finder_step s0_Finder_step v_Finder_step x_Finder_step p_Finder_step n0_Finder_step c0_Finder_step t_Finder_step) (b0:codeIn K c0_Finder_step "Finder.step"=true) (b4:keepIn K (.ref f_Finder_step)=true) (d:findIn K (.ref a) "step_within"=some (some (.ref f_Finder_step_within))) (g:isFn K (.ref f_Finder_step_within)=true) (j:FnL K f_Finder_step_within "step_within" "Finder.step_within" C9 o_Finder_step_within d_Finder_step_within s0_Finder_step_within v_Finder_step_within x_Finder_step_within p_Finder_step_within n0_Finder_step_within c0_Finder_step_within t_Finder_step_within) (f:codeIn K c0_Finder_step_within "Finder.step_within"=true) (i:keepIn K (.ref f_Finder_step_within)=true) (D:findIn K (.ref a) "level"=some (some (.ref f_Finder_level))) (L:isFn K (.ref f_Finder_level)=true) (S:FnL K f_Finder_level "level" "Finder.level" V7 o_Finder_level d_Finder_level s0_Finder_level v_Finder_level x_Finder_level p_Finder_level n0_Finder_level c0_Finder_level t_Finder_level) (H:codeIn K c0_Finder_level "Finder.level"=true) (O:keepIn K (.ref f_Finder_level)=true) (a0:findIn K (.ref a) "told"=some (some (.ref f_Finder_told))) (b3:isFn K (.ref f_Finder_told)=true) (b7:FnL K f_Finder_told "told" "Finder.told" M0 o_Finder_told d_Finder_told s0_Finder_told v_Finder_told x_Finder_told p_Finder_told n0_Finder_told c0_Finder_told t_Finder_told) (b1:codeIn K c0_Finder_told "Finder.told"=true) (b5:keepIn K (.ref f_Finder_told)=true) (E:findIn K (.ref a) "paper"=some (some (.ref f_Finder_paper))) (M:isFn K (.ref f_Finder_paper)=true) (U:FnL K f_Finder_paper "paper" "Finder.paper" K6 o_Finder_paper d_Finder_paper s0_Finder_paper v_Finder_paper x_Finder_paper p_Finder_paper n0_Finder_paper c0_Finder_paper t_Finder_paper) (I:codeIn K c0_Finder_paper "Finder.paper"=true) (Q:keepIn K (.ref f_Finder_paper)=true) (C:findIn K (.ref a) "ended"=some (some (.ref f_Finder_ended))) (J:isFn K (.ref f_Finder_ended)=true) (R:FnL K f_Finder_ended "ended" "Finder.ended" K7 o_Finder_ended d_Finder_ended s0_Finder_ended v_Finder_ended x_Finder_ended p_Finder_ended n0_Finder_ended c0_Finder_ended t_Finder_ended) (F:codeIn K c0_Finder_ended "Finder.ended"=true) (N:keepIn K (.ref f_Finder_ended)=true) :
  ∃fd:FuncData,(∀(s:Shared) (v:Value),BindsTo s fd ⟨[v],[]⟩ [("_law_script",v)])/\∀base:Heap,K.In base->base.Ns mainGlobals mg->FnOk l.prog w K mg base CX0 10 fa fd ["_law_script"] (a8a K):=by
 have e:=w6.symm.trans (PySem.W.mg_of X G u7);cases e;have T:Tx mg:=⟨PySem.W.mg_none_of X G z1,PySem.W.mg_none_of X G z2,PySem.W.mg_none_of X G z3,PySem.W.mg_none_of X G z4,PySem.W.mg_none_of X G z5,PySem.W.mg_none_of X G z6,PySem.W.mg_none_of X G z7,PySem.W.mg_none_of X G z8,PySem.W.mg_none_of X G z9,PySem.W.mg_none_of X G Q1,PySem.W.mg_none_of X G Q2,PySem.W.mg_none_of X G Q4,PySem.W.mg_none_of X G Q8,PySem.W.mg_none_of X G T5,PySem.W.mg_none_of X G T6,PySem.W.mg_none_of X G T7,PySem.W.mg_none_of X G X3⟩;have F1:FunAt K mg "free" a4C ["width"]:=C6 X G a1 l1 u8 k1 λ_ _ _ _ _ _ k b=>by obtain⟨_,rfl⟩:=a0Z b;rfl
 have F2:FunAt K mg "within" a0v ["caps","one"]:=C6 X G a2 l2 u9 k2 λ_ _ _ _ _ _ k b=>by obtain⟨_,_,rfl⟩:=T4 b;rfl
 have F3:FunAt K mg "row_sum" X9 ["row","one"]:=C6 X G a3 l3 v0 k3 λ_ _ _ _ _ _ k b=>by obtain⟨_,_,rfl⟩:=T4 b;rfl
 have F4:FunAt K mg "sums" a4A ["rows","one"]:=C6 X G a4 l4 w0 k4 λ_ _ _ _ _ _ k b=>by obtain⟨_,_,rfl⟩:=T4 b;rfl
 have F5:FunAt K mg "is_answer" P9 ["rows","one"]:=C6 X G a5 l5 w1 k5 λ_ _ _ _ _ _ k b=>by obtain⟨_,_,rfl⟩:=T4 b;rfl
 have F6:FunAt K mg "pull_of" Y0 ["rows","totals","j"]:=C6 X G a6 l6 w2 k6 λ_ _ _ _ _ _ k b=>by obtain⟨_,_,_,rfl⟩:=a6f b;rfl
 have F7:FunAt K mg "falls" a1T ["rows","one"]:=C6 X G a7 l7 w3 k7 λ_ _ _ _ _ _ k b=>by obtain⟨_,_,rfl⟩:=T4 b;rfl
 have F8:FunAt K mg "below" a1U ["one","other"]:=C6 X G a8 l8 w4 k8 λ_ _ _ _ _ _ k b=>by obtain⟨_,_,rfl⟩:=T4 b;rfl
 have F9:FunAt K mg "plus" a4B ["one","other"]:=C6 X G a9 l9 w5 k9 λ_ _ _ _ _ _ k b=>by obtain⟨_,_,rfl⟩:=T4 b;rfl
 have k0:FunAt K mg "times" a1Q ["many","one"]:=C6 X G q7 G3 h7 w7 λ_ _ _ _ _ _ k b=>by obtain⟨_,_,rfl⟩:=T4 b;rfl
 have l0:FunAt K mg "nought" a0x ["width"]:=C6 X G q8 G4 h8 w8 λ_ _ _ _ _ _ k b=>by obtain⟨_,rfl⟩:=a0Z b;rfl
 have m0:FunAt K mg "unit" a4z ["width","j"]:=C6 X G q9 G5 h9 w9 λ_ _ _ _ _ _ k b=>by obtain⟨_,_,rfl⟩:=T4 b;rfl
 have m1:FunAt K mg "least_of" S8 ["some"]:=C6 X G r0 G6 i0 x0 λ_ _ _ _ _ _ k b=>by obtain⟨_,rfl⟩:=a0Z b;rfl
 have m2:FunAt K mg "above_any" Q0 ["some","one"]:=C6 X G r1 H0 i1 y0 λ_ _ _ _ _ _ k b=>by obtain⟨_,_,rfl⟩:=T4 b;rfl
 have m3:FunAt K mg "first_steps" L9 ["caps"]:=C6 X G r2 H1 i2 y1 λ_ _ _ _ _ _ k b=>by obtain⟨_,rfl⟩:=a0Z b;rfl
 have m4:FunAt K mg "raised" a0w ["one","j"]:=C6 X G r3 H2 i3 y2 λ_ _ _ _ _ _ k b=>by obtain⟨_,_,rfl⟩:=T4 b;rfl
 have m5:FunAt K mg "steps" a1R ["rows","caps","one"]:=C6 X G r4 H3 i4 y3 λ_ _ _ _ _ _ k b=>by obtain⟨_,_,_,rfl⟩:=a6f b;rfl
 have m6:FunAt K mg "is_barred" P8 ["found","one","j"]:=C6 X G r5 H4 i5 y4 λ_ _ _ _ _ _ k b=>by obtain⟨_,_,_,rfl⟩:=a6f b;rfl
 have m7:FunAt K mg "next_level" M9 ["rows","caps","found","level","room"]:=C6 X G r6 H5 i6 y5 λ_ _ _ _ _ _ k b=>by obtain⟨_,_,_,_,_,rfl⟩:=b8V b;rfl
 have m8:FunAt K mg "least" a1S ["rows","caps","most"]:=C6 X G r7 H6 i7 y6 λ_ _ _ _ _ _ k b=>by obtain⟨_,_,_,rfl⟩:=a6f b;rfl
 have m9:FunAt K mg "together" S6 ["told","counts","width"]:=C6 X G r8 H7 i8 y7 λ_ _ _ _ _ _ k b=>by obtain⟨_,_,_,rfl⟩:=a6f b;rfl
 have n0:FunAt K mg "narrowed" S7 ["told","row","most"]:=C6 X G r9 H8 i9 y8 λ_ _ _ _ _ _ k b=>by obtain⟨_,_,_,rfl⟩:=a6f b;rfl
 have o0:FunAt K mg "_law_pot" S9 ["_law_script"]:=C6 X G s0 H9 j0 y9 λ_ _ _ _ _ _ k b=>by obtain⟨_,rfl⟩:=a0Z b;rfl
 have p0:FunAt K mg "_law_take" Q5 ["_law_pot_here","_law_many"]:=C6 X G t0 I1 j1 z0 λ_ _ _ _ _ _ k b=>by obtain⟨_,_,rfl⟩:=T4 b;rfl
 have q0:FunAt K mg "_law_vectors" K4 ["_law_pot_here","_law_width"]:=C6 X G u0 I2 j2 A0 λ_ _ _ _ _ _ k b=>by obtain⟨_,_,rfl⟩:=T4 b;rfl
 have q1:FunAt K mg "_law_below" N2 ["_law_one","_law_other"]:=C6 X G u1 I3 j3 B0 λ_ _ _ _ _ _ k b=>by obtain⟨_,_,rfl⟩:=T4 b;rfl
 have q2:FunAt K mg "_law_least" N1 ["_law_some"]:=C6 X G u2 I4 j4 D1 λ_ _ _ _ _ _ k b=>by obtain⟨_,rfl⟩:=a0Z b;rfl
 have q3:FunAt K mg "_law_same" Q6 ["_law_found","_law_due"]:=C6 X G u3 I5 j5 D2 λ_ _ _ _ _ _ k b=>by obtain⟨_,_,rfl⟩:=T4 b;rfl
 have q4:FunAt K mg "_law_unit" Q3 ["_law_many","_law_at"]:=C6 X G u4 I6 j6 D3 λ_ _ _ _ _ _ k b=>by obtain⟨_,_,rfl⟩:=T4 b;rfl
 have q5:FunAt K mg "_law_all_met" K5 ["_law_told","_law_row"]:=C6 X G u5 I7 j7 G0 λ_ _ _ _ _ _ k b=>by obtain⟨_,_,rfl⟩:=T4 b;rfl
 have q6:FunAt K mg "_law_three" N0 ["_law_pot_here"]:=C6 X G u6 I8 j8 G1 λ_ _ _ _ _ _ k b=>by obtain⟨_,rfl⟩:=a0Z b;rfl
 refine⟨fnOf "law" "law" (R1 a2s) (F0 a2s) (A4 a2s) .none v32 x32 p32 n32 c32 t32,λs v=>.of_eq rfl,λbase XB GB=>?_⟩;have g6:=PySem.W.mg_of X G e1;have h4:=PySem.W.mg_of X G g7;have Y:Cls K a:=⟨pg_Finder,g8,h1,h2⟩;have n:MethAt K a "__init__" "Finder.__init__" E9 ["self","rows","caps"]:=a2I q t x r u λ_ _ _ _ _ _ k b=>by obtain⟨_,_,_,rfl⟩:=a6f b;rfl
 have h5:MethAt K a "step" "Finder.step" a0a ["self"]:=a2I Z b2 b6 b0 b4 λ_ _ _ _ _ _ k b=>by obtain⟨_,rfl⟩:=a0Z b;rfl
 have c:MethAt K a "step_within" "Finder.step_within" C9 ["self","room"]:=a2I d g j f i λ_ _ _ _ _ _ k b=>by obtain⟨_,_,rfl⟩:=T4 b;rfl
 have h3:MethAt K a "level" "Finder.level" V7 ["self"]:=a2I D L S H O λ_ _ _ _ _ _ k b=>by obtain⟨_,rfl⟩:=a0Z b;rfl
 have B:MethAt K a "told" "Finder.told" M0 ["self"]:=a2I a0 b3 b7 b1 b5 λ_ _ _ _ _ _ k b=>by obtain⟨_,rfl⟩:=a0Z b;rfl
 have z:MethAt K a "paper" "Finder.paper" K6 ["self"]:=a2I E M U I Q λ_ _ _ _ _ _ k b=>by obtain⟨_,rfl⟩:=a0Z b;rfl
 have y:MethAt K a "ended" "Finder.ended" K7 ["self"]:=a2I C J R F N λ_ _ _ _ _ _ k b=>by obtain⟨_,rfl⟩:=a0Z b;rfl
 have FL:=a3a (st:=a2s) L2 j9 G2;have RS:=a7d (base:=base) (P:=l.prog) (w:=w) F3 T;have SU:=b4I F4 T RS;have IA:=a4I F5 T SU;have FA:=b2h F7 T (a7e F6 T) SU;have BE:=b2j (base:=base) (P:=l.prog) (w:=w) F8 T;have ST:=b2c m5 T FA (a9G m4);have NX:=a3r m7 T ST (a4H m6 T BE);have FS:=a2z (base:=base) (P:=l.prog) (w:=w) m3 T (b4F m0 T) (a9F F2 T);have UF:FiTx K a:=⟨Y,c0,b8,V,b9,W,A⟩;have MI:=(b2g (base:=base) (P:=l.prog) (w:=w) (mg:=mg) n UF).make h4 h0 g9;have MS:=b2b c UF T NX FS IA;have ME:=b2i (base:=base) (P:=l.prog) (w:=w) y UF T;have MT:=b4G (base:=base) (P:=l.prog) (w:=w) B UF T;have MP:=b2d (base:=base) (P:=l.prog) (w:=w) z UF T;have LE:=b2f m8 T UF Y MI MS ME MT MP (b6R XB g6 lx_TooMany g5 g2 e6);have TK:=b4H (base:=base) (P:=l.prog) (w:=w) p0 T;have FR:=b4K (base:=base) (P:=l.prog) (w:=w) F1;have TG:=a5Q m9 T (a9H l0) (b1Z (base:=base) (P:=l.prog) (w:=w) k0 T) (b4J F9 T);have LO:=a5S m1 T (a3s m2 T BE);have NR:=a5R n0 T RS FR TG LO LE;have SM:=a8u (base:=base) (P:=l.prog) (w:=w) q3 T 4;have BL:=b4L (base:=base) (P:=l.prog) (w:=w) q1 T;have LL:=a9I q2 T BL;have UN:=b2e (base:=base) (P:=l.prog) (w:=w) q4 T;have AM:=a9J q5 T LL UN (OkE.no NR) SM;exact b7b FL T (b7a o0 T) TK (a7c q0 T TK) AM (OkE.no NR) SM (b2a q6 T TK)
end K34
namespace PySem.W.Fast
theorem tw13042788793221191672:True:=⟨⟩
theorem tw18207769297923979235:True:=⟨⟩
theorem tw17693049641926531105:True:=⟨⟩
theorem tw14172934458030373341:True:=⟨⟩
theorem tw10148108164130319504:True:=⟨⟩
theorem tw18065630692608099229:True:=⟨⟩
theorem tw16146034623964907808:True:=⟨⟩
theorem tw13582610757134104419:True:=⟨⟩
theorem tw14825680370240561857:True:=⟨⟩
theorem tw1694835819690986186:True:=⟨⟩
theorem tw7465981569275241723:True:=⟨⟩
theorem tw10304517393591421143:True:=⟨⟩
theorem tw16487626740635163244:True:=⟨⟩
theorem tw18266862134798015286:True:=⟨⟩
theorem tw4181106450618495225:True:=⟨⟩
theorem tw8854173491279862950:True:=⟨⟩
theorem tw12979360588079366952:True:=⟨⟩
theorem tw772920678520532038:True:=⟨⟩
theorem tw8260731919927172279:True:=⟨⟩
theorem tw474318819413674541:True:=⟨⟩
theorem tw18003218564167115340:True:=⟨⟩
theorem tw15808085777849447428:True:=⟨⟩
theorem tw16913320092600487192:True:=⟨⟩
theorem tw16665748491276553315:True:=⟨⟩
theorem tw4705447652008317610:True:=⟨⟩
theorem tw1352181082108351718:True:=⟨⟩
theorem tw5351937911967041464:True:=⟨⟩
theorem tw16863516661742202145:True:=⟨⟩
theorem tw9728311905534546987:True:=⟨⟩
theorem tw15098727323370130921:True:=⟨⟩
theorem tw12603070876385415201:True:=⟨⟩
theorem tw14784331703218825958:True:=⟨⟩
theorem tw3285958296072222381:True:=⟨⟩
theorem tw4367959573350579601:True:=⟨⟩
theorem tw6146464948956594788:True:=⟨⟩
theorem tw1821327475853717448:True:=⟨⟩
theorem tw17248402038368676065:True:=⟨⟩
theorem tw8253959489693427483:True:=⟨⟩
theorem tw14422111984652754226:True:=⟨⟩
theorem tw15026736181992528346:True:=⟨⟩
theorem tw12437584031855165516:True:=⟨⟩
theorem tw13589194182535148114:True:=⟨⟩
theorem tw13188950505664946075:True:=⟨⟩
theorem tw14807161627945812243:True:=⟨⟩
theorem tw15147610788627661410:True:=⟨⟩
theorem tw252312523159202964:True:=⟨⟩
theorem tw14013793523048847118:True:=⟨⟩
theorem tw1319042412807938455:True:=⟨⟩
theorem tw2174554536358607927:True:=⟨⟩
theorem tw4389280625498340539:True:=⟨⟩
theorem tw8722810267232466522:True:=⟨⟩
theorem tw16340358022790608045:True:=⟨⟩
theorem tw13596546176043595229:True:=⟨⟩
theorem tw7917080210561095012:True:=⟨⟩
theorem tw15510784783137622255:True:=⟨⟩
theorem tw9998311960909679397:True:=⟨⟩
theorem tw2878905607745040827:True:=⟨⟩
theorem tw12698648333765786415:True:=⟨⟩
theorem tw13057376881445163940:True:=⟨⟩
theorem tw1768866991227674443:True:=⟨⟩
theorem tw202232955028510806:True:=⟨⟩
theorem tw8147058116526146719:True:=⟨⟩
theorem tw13467940399089346684:True:=⟨⟩
theorem tw8970209599762927498:True:=⟨⟩
theorem tw14893411615539693248:True:=⟨⟩
theorem tw585596081125018512:True:=⟨⟩
theorem tw18294134176030868512:True:=⟨⟩
theorem tw6415446359170466860:True:=⟨⟩
theorem tw13288864411051774779:True:=⟨⟩
theorem tw6473294866427795777:True:=⟨⟩
theorem tw14425156990350906474:True:=⟨⟩
theorem tw4707608084588543383:True:=⟨⟩
theorem tw17703900503982378392:True:=⟨⟩
theorem tw7603530003004536400:True:=⟨⟩
theorem tw6627776097000389395:True:=⟨⟩
theorem tw7977312413572501928:True:=⟨⟩
theorem tw1249134262859572524:True:=⟨⟩
theorem tw1248129300544682378:True:=⟨⟩
theorem tw15250489814338875373:True:=⟨⟩
theorem tw2716870371457101222:True:=⟨⟩
theorem tw10571954095421264020:True:=⟨⟩
theorem tw16713810897512898134:True:=⟨⟩
end PySem.W.Fast
open PySem PySem.W PyProof.Rows
set_option maxRecDepth 100000 in
set_option maxHeartbeats 0 in
theorem PySem.Challenge.cw_leastlays_k34_narrowed_by_all_or_none_holds : PySem.Challenge.rw_leastlays_k34_narrowed_by_all_or_none.Holds := by
 w_on;o_law;k_head;(case hw=>w_witness2)
 k_fill
 refine L2.law_walk (l:=PySem.Challenge.rw_leastlays_k34_narrowed_by_all_or_none) 10 rfl rfl ⟨rfl,by decide,by decide⟩ (λw h Y=>PySem.W.kIn_of Y) ?F
 case F =>
  intro w mg fa h KX G hmg
  refine' K34.all_mk KX G hmg ?a1 ?l1 ?c_1 ?k1 ?a2 ?l2 ?c_2 ?k2 ?a3 ?l3 ?c_3 ?k3 ?a4 ?l4 ?c_4 ?k4 ?a5 ?l5 ?c_5 ?k5 ?a6 ?l6 ?c_6 ?k6 ?a7 ?l7 ?c_7 ?k7 ?a8 ?l8 ?c_8 ?k8 ?a9 ?l9 ?c_9 ?k9 ?a10 ?l10 ?c_10 ?k10 ?a11 ?l11 ?c_11 ?k11 ?a12 ?l12 ?c_12 ?k12 ?a13 ?l13 ?c_13 ?k13 ?a14 ?l14 ?c_14 ?k14 ?a15 ?l15 ?c_15 ?k15 ?a16 ?l16 ?c_16 ?k16 ?a17 ?l17 ?c_17 ?k17 ?a18 ?l18 ?c_18 ?k18 ?a19 ?l19 ?c_19 ?k19 ?a20 ?l20 ?c_20 ?k20 ?a21 ?l21 ?c_21 ?k21 ?a22 ?l22 ?c_22 ?k22 ?a23 ?l23 ?c_23 ?k23 ?a24 ?l24 ?c_24 ?k24 ?a25 ?l25 ?c_25 ?k25 ?a26 ?l26 ?c_26 ?k26 ?a27 ?l27 ?c_27 ?k27 ?a28 ?l28 ?c_28 ?k28 ?a29 ?l29 ?c_29 ?k29 ?a30 ?l30 ?c_30 ?k30 ?a31 ?l31 ?c_31 ?k31 ?a32 ?l32 ?c_32 ?k32 ?z1 ?z2 ?z3 ?z4 ?z5 ?z6 ?z7 ?z8 ?z9 ?z10 ?z11 ?z12 ?z13 ?z14 ?z15 ?z16 ?z17 ?aD_TooMany ?aD_Finder ?lx_TooMany ?tx_TooMany ?ok_TooMany ?in_TooMany ?be_TooMany ?pg_Finder ?hd_Finder ?po_Finder ?sa_Finder ?mk_Finder ?kc_Finder ?n_Finder_rows ?n_Finder_caps ?n_Finder_begun ?n_Finder_here ?n_Finder_found ?n_Finder_walked ?a_Finder___init__ ?i_Finder___init__ ?l_Finder___init__ ?c_Finder___init__ ?k_Finder___init__ ?a_Finder_step ?i_Finder_step ?l_Finder_step ?c_Finder_step ?k_Finder_step ?a_Finder_step_within ?i_Finder_step_within ?l_Finder_step_within ?c_Finder_step_within ?k_Finder_step_within ?a_Finder_level ?i_Finder_level ?l_Finder_level ?c_Finder_level ?k_Finder_level ?a_Finder_told ?i_Finder_told ?l_Finder_told ?c_Finder_told ?k_Finder_told ?a_Finder_paper ?i_Finder_paper ?l_Finder_paper ?c_Finder_paper ?k_Finder_paper ?a_Finder_ended ?i_Finder_ended ?l_Finder_ended ?c_Finder_ended ?k_Finder_ended
  (case a1|l1|c_1|k1|a2|l2|c_2|k2|a3|l3|c_3|k3|a4|l4|c_4|k4|a5|l5|c_5|k5|a6|l6|c_6|k6|a7|l7|c_7|k7|a8|l8|c_8|k8|a9|l9|c_9|k9|a10|l10|c_10|k10|a11|l11|c_11|k11|a12|l12|c_12|k12|a13|l13|c_13|k13|a14|l14|c_14|k14|a15|l15|c_15|k15|a16|l16|c_16|k16|a17|l17|c_17|k17|a18|l18|c_18|k18|a19|l19|c_19|k19|a20|l20|c_20|k20|a21|l21|c_21|k21|a22|l22|c_22|k22|a23|l23|c_23|k23|a24|l24|c_24|k24|a25|l25|c_25|k25|a26|l26|c_26|k26|a27|l27|c_27|k27|a28|l28|c_28|k28|a29|l29|c_29|k29|a30|l30|c_30|k30|a31|l31|c_31|k31|a32|l32|c_32|k32|z1|z2|z3|z4|z5|z6|z7|z8|z9|z10|z11|z12|z13|z14|z15|z16|z17|aD_TooMany|aD_Finder=>(try unfold L2.FnL);k_is)
  (case lx_TooMany|tx_TooMany|ok_TooMany|in_TooMany|be_TooMany=>first|k_is|kernel_rfl|rfl)
  (case pg_Finder|hd_Finder|po_Finder|sa_Finder|mk_Finder|kc_Finder|n_Finder_rows|n_Finder_caps|n_Finder_begun|n_Finder_here|n_Finder_found|n_Finder_walked|a_Finder___init__|i_Finder___init__|l_Finder___init__|c_Finder___init__|k_Finder___init__|a_Finder_step|i_Finder_step|l_Finder_step|c_Finder_step|k_Finder_step|a_Finder_step_within|i_Finder_step_within|l_Finder_step_within|c_Finder_step_within|k_Finder_step_within|a_Finder_level|i_Finder_level|l_Finder_level|c_Finder_level|k_Finder_level|a_Finder_told|i_Finder_told|l_Finder_told|c_Finder_told|k_Finder_told|a_Finder_paper|i_Finder_paper|l_Finder_paper|c_Finder_paper|k_Finder_paper|a_Finder_ended|i_Finder_ended|l_Finder_ended|c_Finder_ended|k_Finder_ended=>(try unfold L2.FnL);k_is)
#print axioms PySem.Challenge.cw_leastlays_k34_narrowed_by_all_or_none_holds
